import PyProof.Rows.All
import Wide.All
import OpenK.AllK
import Wide.FinOn
import PyProof.EqAt
import PyProof.EqKinds
import PyProof.TupleCall
import Lean
import PySem.Challenge.RW_twinriddles_k32_lots_of_signs_and_clause
set_option Elab.async false
set_option linter.all false
set_option maxRecDepth 100000
set_option maxHeartbeats 8000000
set_option compiler.extract_closed false
set_option backward.eqns.nonrecursive false
noncomputable section
open List renaming length->TD
namespace RfL
theorem r{a:α}:a=a:=rfl
end RfL
open RfL renaming r->J,r->Tl
open Option renaming some->Y,some->SI,none->U,none->SS
open Bool renaming true->C,true->Td,false->I,false->Tk
open And renaming intro->dA
open Array renaming length_toList->lT,getElem?_toList->mD,getElem?_eq_getElem->pE,getElem?_eq_some_iff->Jn,getD_eq_getD_getElem?->vb,getElem?_setIfInBounds->Cq,forIn_toList->Cn,append_assoc->Gr,getElem?_eq_none->Fy,getElem?_replicate->Ld,mem_toList_iff->Vy,getElem?_eq_none_iff->Vx,toList_eq_nil_iff->Vw,toList_append->KQ,toList_push->fv,replicate->fQ,toList_map->lC,size_zip->n9,size_map->oC,toList->r0,ext->x9
open Bool renaming false_eq_true->lL,false_ne_true->lQ,and_eq_true->nN,not_true->sA,or_eq_true->vd,false_and->et,not_false->gc,and_assoc->gf,not_eq_true'->lm,eq_false_iff->lw,noConfusion->mm,and_false->pw,true_and->ro
open Classical renaming choose->fe,choose_spec->No,byContradiction->NE
open False renaming elim->aJ
open ForIn renaming forIn->fq
open ForInStep renaming yield->bj,done->M2
open Function renaming comp->bI,comp_def->c4
open Int renaming toNat_natCast->uQ,mul_one->Gk,emod_lt_of_pos->FD,emod_nonneg->FC,zero_add->wv,neg_neg->x6,le_refl->x8
open LawfulBEq renaming eq_of_beq->pG
open LawfulMonad renaming bind_assoc->rC,pure_bind->wr
open Lean renaming Syntax->b4,Name->fK,mkIdent->t6
open List renaming map_cons->kG,mem_cons_self->la,mem_cons_of_mem->kn,getElem?_eq_getElem->km,map_map->ky,length_map->kN,mem_cons->nQ,getElem?_map->lh,all_eq_true->mZ,size_toArray->lH,mem_append->qm,getElem?_eq_some_iff->uT,mem_of_getElem?->lX,nodup_nil->mS,mem_filter->yL,getElem?_set_ne->nD,mem_map->rZ,map_append->nM,length_append->ox,pairwise_append->sv,pairwise_cons->AQ,map_congr_left->ou,mem_range->sL,length_cons->oH,pairwise_map->pd,mem_append_right->oX,lookup_cons->oW,getElem?_append_right->pJ,getElem?_of_mem->pF,getElem?_append_left->qc,append_assoc->qb,mem_singleton->DR,map_nil->qx,not_mem_nil->qv,foldl_cons->rW,mem_map_of_mem->rT,length_set->sJ,getD_eq_getElem?_getD->sD,getElem?_set_self->uS,length_take->uR,nil_append->uK,map_id->uJ,filterMap_cons->wg,any_cons->rA,append_nil->sX,nodup_cons->zK,exists_cons_of_length_pos->sP,zip_cons_cons->sO,length_filter_le->sM,all_cons->vB,range'_succ->vp,take_append_drop->vo,nodup_append->xg,mem_flatMap->yM,take_sublist->xM,length_singleton->xK,getElem?_set->xG,getElem?_zip_eq_some->DT,zipIdx_cons->xE,pairwise_reverse->Gv,mem_of_mem_take->xD,getElem_mem->xo,length_eq_zero_iff->OW,isEmpty_nil->xm,find?_cons->xk,filter_cons_of_pos->xi,filter_cons_of_neg->xh,forIn_cons->zF,drop_eq_getElem_cons->zD,drop_eq_nil_of_le->zC,ext_getElem?->zA,eq_nil_of_length_eq_zero->zy,eq_nil_or_concat->zw,pairwise_iff_getElem->LA,getElem_of_mem->zv,take_succ->zu,length_pos_iff->RE,getElem?_cons_succ->zp,length_nil->zo,mem_append_left->CW,getElem?_replicate->CS,ext_getElem->CK,reverse_perm->Cw,concat_eq_append->Cv,mem_of_mem_drop->Cu,pairwise_lt_range->OP,length_eraseIdx->Cm,idxOf_lt_length_of_mem->Ci,getElem_inj->Gq,of_mem_zip->Gh,getElem?_take_of_lt->Gf,length_replicate->Ge,any_map->FX,getElem?_zipIdx->FW,perm_middle->OU,drop_sublist->FP,mem_erase_of_ne->FA,any_eq_true->OT,take_length->Fq,findIdx?_map->Fl,filter_append->Fj,filter_map->Fi,flatMap_cons->Fg,range_eq_range'->Lq,pairwise_singleton->Li,length_eq_one_iff->Vz,perm_append_comm->RC,filterMap_append->Lf,perm_append_singleton->Le,findIdx?_eq_some_iff_getElem->Vv,perm_cons_erase->KN,range'_eq_map_range->KJ,filter_eq_self->Vu,nodup_iff_pairwise_ne->RB,mergeSort_perm->KI,zipIdx_map_fst->KH,replicate->af,range->am,range'->bz,map->cc,length->cG,replicate_zero->cV,getElem?_drop->c7,getElem?_cons_zero->dg,take_of_length_le->dV,range_succ_eq_map->dW,replicate_succ->eG,mem_filterMap->fm,all_map->fB,getElem_map->fJ,take_take->f4,Nodup->f8,getElem?_eq_none->gY,zip_nil_right->iO,map_singleton->iR,map_inj_right->iT,getElem_range->i8,filterMap_map->i9,length_range->kw,getElem_take->kA,foldl_append->kS,filter_congr->lf,any_eq_false->li,mem_reverse->me,map_fst_zip->mi,length_drop->mj,forIn_nil->pp,map_take->rg,map_id'->tz,filter->v9,foldl->x5
open List.Pairwise renaming nil->b8,map->f5,sublist->wf,of_map->wh,imp_of_mem->wl,filter->wn
open List.Perm renaming refl->vf,of_eq->Fh,eq_of_pairwise->Lg,trans->hH,swap->ij,cons->ik,append_left->adw
open List.cons renaming inj->vn
open Nat renaming le_refl->kD,ne_of_lt->kU,le_trans->lY,zero_le->mw,lt_of_lt_of_le->oK,lt_irrefl->qf,ne_of_gt->qe,le_succ->uP,lt_succ_of_lt->uO,le_of_lt->wj,pow_succ->rm,mul_assoc->rk,not_lt->LB,mul_add->vc,add_assoc->xy,mul_comm->xv,mul_one->xu,mod_lt->xq,lt_succ_self->zB,zero_add->zt,pow_le_pow_right->zq,lt_of_le_of_lt->zm,lt_trans->CM,add_sub_cancel_left->Cy,mul_left_comm->Cr,lt_asymm->FY,add_mul->FH,one_mul->FG,two_pow_pos->FF,mul_zero->FE,min_eq_left->eh,sub_add_cancel->ka,lt_or_eq_of_le->kl,add_sub_cancel->kv,le_succ_of_le->l6,le_of_not_lt->n5,le_add_right->n7,mul_add_mod->o8,div_add_mod->pc,min_self->vw,lt_or_ge->v5,le_of_eq->v6,add_zero->v8,add_mod->x4
open Ne renaming symm->rY
open Option renaming bind_some->kQ,isSome_iff_exists->Kz,isSome_map->Fo,map_eq_some_iff->gD,isSome_some->hD,getD_none->iM,bind->rd,map->tv
open Option.some renaming inj->lI
open Or renaming inl->bf,inr->bp
open Prod.mk renaming inj->sH
open PyProof.Rows renaming SortSt->sy,listUpdate_at->vg,boot_range->xN,slot_tuple_getitem->AS,get?_update_seq->xw,callWith_type1->zI,seqEpoch_at->zr,assignInOrder_cons->Gm,listItems_at->FN,entry_tuple_getitem->Lx,subscriptTail_builtinR->Lw,envOfC->bi,seqObj->bo,AllBare->dR,IntsAre->ey,Keyed->eF,arrOf->fI,failedOf->f3,IsTup->gW,subscriptTail->ig,SortKind->n3,args_tuple_getitem->rc,assignInOrder_nil->tp,wpAny_notIn_heap->vu,lt_int->xc,le_int->xf,gt_int->xn,ge_int->xx,entry_list_sort->xz,callWith_type0->x0,callWith_builtin1->x1,slot_list_sort->A2,slicePart_none->BB,oneType'->B0,keyLt'->B1,tupleItemsOf_->FM,reverseSlice'->F0,tuples'->K2,plain_sorted->K3,entry_sorted->Ls,call_abs_int->LK,kind_sorted->Sr
open PyProof.Rows.F renaming plain_set_update_loop->Fs,entry_set_update_loop->K9
open PySem renaming Shared->jk,Program->jI,Around->jF,World->jG,SetTable->mK,Value->jr,Comprehension->pD,FuncData->nu,Heap->jH,Addr->jh,wpAny_bind->ji,wpAny_pure->ju,sizeLine_eq->kT,wpAny_holding->mE,wpAny_newObj_type->oy,wpAny_mono->oJ,wpAny_call_entry->oI,wpAny_field->pH,mem_of_lookup->qd,wpAny_rule->qy,codeAny_builtin->qw,codeAny_mono->rX,wpAny_setState_of->rV,wpAny_setField_rec->uM,wpAny_Call_Name_kw->we,wpAny_typeOf->rE,wpAny_of_eq->rB,plainId_quiet->rp,wpAny_seqItems->rn,wpAny_callSpecial?_slot->sV,wpAny_askSetting->sQ,wpAny_specialOf->sN,wpAny_truthy_bool->vF,wpAny_standAt->vE,wpAny_passesOwn->vD,codeAny_of_tree->vC,wpAny_setField->vz,wpAny_attempt->vq,wpAny_forIn_list->vh,intKind_is->va,wpAny_pyIter_list->xP,wpAny_alloc->xJ,wpAny_isInstance->xF,tupleKind_room_in1->xj,wpAny_call->zH,call_meets->zG,wpAny_load->CV,concat_meets->CQ,pushCells_keeps->CN,wpAny_newTuple->CF,wpAny_letGo->CD,isSubtype_stop->CB,wpAny_onRaise->Cz,wpAny_newList->Ct,wpAny_isSame_ref_self->Cp,wpAny_storeSet_of->Co,wpAny_pyHash_int->Gs,wpAny_execs_nil->Gp,wpAny_execs_cons->Gn,wpAny_pyIter_tuple->Gj,codeAny_call_function->Gd,codeAny_func->Gb,noFill_tuple_add->Ga,seq_tuple_add->F9,seqIndex_of->F5,seqIndex_neg->F4,wpAny_Call_method_late->F3,wpAny_runValue->FV,wpAny_handled->FU,wpAny_throw->FR,wpAny_collect_seq->FK,beq_builtin_none->Fx,typeLookup_type->Fw,builtinLookup_eq_fast->Fv,isSubtype_type->Fu,wpAny_pyIter_slot->Ft,wpAny_tryCatch->Fp,wpAny_typeNameOfWhole_keyiter->Fn,wpAny_storeName_cell->Lz,wpAny_comprehension_free->Lr,wpAny_updateSeq_pair->Lk,richCompare_meets_room->Lh,wpAny_setEntries_of->Lb,weight_type_call_type->K6,codeAny_call_builtin->K5,wpAny_callSpecialUnlessNone?_slot->KZ,wpAny_notOrdered_dict->KU,wpAny_isOneOf_keyiter->KS,wpAny->aa,starEach->ac,model->ae,mainGlobals->ag,Str->ap,bootBuiltins->av,foldedSetIterable->ax,cLine->aI,compareOp->aT,backTo->aV,Stmt->aW,eval->aY,Arguments->aZ,assignEach->ba,cellsFrom->bb,Builtin->bc,Pos->bt,binaryOp->bJ,codeAny->bQ,tupleKind->bR,clausesOf->bT,sysModules->bY,intKind->b5,holding->b6,rawInt->cf,IsPair->ci,swapsWithSole->cn,swappedStores->cq,pyNext->cu,assign->cy,swapsWith->cI,pyIter->cM,standAt->cW,behindInMarks->cX,sliceBounds->cY,CmpOp->cZ,Env->c9,newFunctionEnv->da,bindArgs->db,Sem->dc,ofAClassStatement->dF,getItem->dL,IsPart->ef,codeAmong->ei,GenState->ej,IsEnum->ew,letOwnedTupleGo->eA,IsZip->eE,Obj->eM,PassesOwn->fw,valueAt->fR,setAddHashed->fS,contains->fU,collect->fW,callerA->fX,atKey->fY,BindsTo->fZ,setAdd->gj,pickOrder->gk,checkBuiltinCall->gl,hashByValue->gu,Model->gy,Fin->gC,wpAny_loadPart'->gF,setsByText->gH,firstArgMember->gJ,builtinsNs->gL,assignInOrder->hZ,list_append->il,field->im,compStart->io,bindL->ip,bindC->iq,TriplesOk->ir,IsEnumOut->iF,DictEntry->iK,setItem->jc,relabel->jd,newExc->je,Result->j8,ItemsOf->j9,unsupported->mo,subscripted->ms,setField->mu,setContains->mA,entryFor->mL,compTurn->m4,bindName->m7,ZipApart->na,Moved->nb,wpAny_dictSet_heap->px,wpAny_Name->pC,typeLookup->p4,getattributeRaised->p5,entry_set_contains->p9,entryOfKey->qs,closureFor->q7,wpAny_sequenceKey->sa,wpAny_pyIter_enum->sm,wpAny_dictEntries->sn,wpAny_Return_some->ss,spliced->sx,slot_list_getitem->sB,searchCouldBeSeen->sK,newList->s8,atKey_none_of_get->te,wpAny_pyIter_zip->t8,seqIndex?->t9,noteFrame->ul,eqIsQuiet->ut,call->uu,wpAny_updateSeq->ww,wpAny_dictEpoch->wE,theWindowsPlace->wL,Tok->wP,wpAny_notIn_of->y3,wpAny_layCells->y4,wpAny_bindName->y6,wants->zn,typeOf->zx,table->z0,slotArgs->z7,setAddHashedIn->z8,raiseNew->z9,entryFor_alias->At,cellOf->AC,callType_codes->AT,argsOk->A1,wpAny_notedAt->B2,wpAny_in_heap->B4,setSearchFrom->Ch,rangeSize_one->Db,intBits_le_64->Do,evalPart_none->Ev,comprehension->EQ,call_list_seq->Fa,unaryOp->F2,sub_set_self->Gc,release->Go,name_of_addr->H8,leaving->Is,hashInt->Ix,dictSet->IN,cellsFrom_ok->IR,call_range_2->IX,call_range_1->I0,callType_new->I8,Keyword->J4,IsRange->KE,wpAny_in_of->NR,storedH_new->Op,interactive->OO,Walks->O0,Meets->R1,IsRangeIter->Sc
open PySem.Around renaming under_plainId->sG,frames_deeper->Gg,under_plain->hC
open PySem.Builtin.Dict renaming updateFrom->fF,showsAll->fN,selfAndRest->wT,pairItems->w4,dictSlotNone->w5,addKeywords->w6
open PySem.Builtin.Frozenset renaming addrOf->bw,oneOther->bM,withSetAsKey->dz,newClass->ek,updateFrom->nf,slot0->nt,sizeOf->nw
open PySem.Builtin.List renaming listExtendWith->eZ,listSameRef->fy,listLengthHint->wS
open PySem.Builtin.Range renaming rangeSize->fx,small->vr
open PySem.Builtin.Slice renaming slicePlaces->bV,sliceAdjust->cF,sliceApplied->eY,slicePartIndex->u8,sliceFields->vl
open PySem.Builtin.SmallTypes renaming nextOf->aP,ownedTupleHandOut->bq,ownedTupleIsFree->bu
open PySem.Builtin.Tuple renaming tupleHashOf->bh,tupleExact->bn,tupleItemsOf->cE,tupleIsExact->eP,tupleCompareSizes->u4
open PySem.Calls renaming spliced_cons->CU,spliced_nil->Gi,callWith_builtin->F1,evalArgs_plain->FZ,Name_function_global->Ly
open PySem.Data renaming cell->fG,fields->fL,seq->Fk
open PySem.F renaming called_set->DS,slot_set_contains->AR,slot_tuple_hash->HD,slot_enumerate_next->CC,plain_set_new->Cj,slot_tuple_add->F8,entry_tuple_add->F7,args_tuple_add_2->F6,called_tuple->OV,slot_dict_keyiterator_next->KA,slot_list_getattribute->OS,slot_set_add->Fm,entry_list_append->Lv,args_list_append_2->Lu,args_object_init_2->Lp,slot_tuple_iterator_next->Ln,entry_enumerate_next->Lm,args_enumerate_next_1->Ll,slot_set_iter->Lc,plain_list_iadd->La,entry_set_new->K8,entry_type_call->K7,entry_set_init->K0,args_set_contains_2->KY,slot_dict_iter->KW,plainAttrs_list->KR,entry_set_add->KP,args_set_add_2->KO
open PySem.Heap renaming get?_push_of_some->kB,lt_size->kX,get?_push_size->kW,size_push->oV,get?_update_self->sU,get?_update_other->CP,get?_update_ne->FL,SameBut->au,ExtBut->el
open PySem.Heap.SameBut renaming update->qa,refl->zE
open PySem.Moved renaming trans->Ck,refl->u3
open PySem.NameKind renaming cell->aE,free->aG
open PySem.Obj renaming data_mapFields->uN,isFreed_of_fields->CH,cls_mapFields->CG,mapSeq->aM,putSet->gr,mapFields->gG
open PySem.Paired renaming length->zJ
open PySem.SetTable renaming below->aj,insertAt->aq,runEnd->ay,bits->aK,turns->bX,sizeAbove->ca,grown->ce,leap->cz,Probe->cH,layClean->gV,relaid->ie,fresh->iu,slot->j0,laid->j1,fits->j2,fill->j3,put->lS,tooFull->O1,sameMemory->O2,orStandIn->O3,has->O6,gaveWay->Ps,freeSlot->PP,advance->RW
open PySem.SetTable.layClean renaming free->bG
open PySem.SetTable.probe renaming go->dQ
open PySem.Shared renaming TypeIs->c8
open PySem.Str renaming ofString->bv
open PySem.Value renaming none->ah,ref->bU,type->b3,bool->dh,builtin->eD,str->gw,notImplemented->gP,int->jp,isStrOf->o7,isInt->tf
open PySem.W renaming Frag->jJ,mg_none_of->oU,kia_one->rz,kia_tup->rq,cellsFrom_some->CT,nsIn->aQ,fnOf->bD,keepIn->cg,kitOne->cQ,codeIn->cS,kitAny->d9,methodObj->eI,kitx_tuple->gM,callWith_K->gO,kitx_none->g6,kitx_list->g7,kitx_dict->g8,kitx_bool->g9,kitx_str->h9,kitx_set->ia,kitx_int->ib
open PySem.Walks renaming list->CJ
open StateT renaming run_pure->FQ
open Std.Legacy.Range renaming forIn_eq_forIn_range'->Lj,size->o6
open Sum renaming inl->bN,inr->fD
open Sum.inl renaming inj->Gu
open True renaming intro->bg
open PySem PySem.Spec PyProof.Rows
section
abbrev jZ:=jr->jk->Prop
abbrev kf:=List<|jh×eM
abbrev jY:=List<|List Int
abbrev jn:=List Int
abbrev kF:=List jr
abbrev ml:=ap->Option jr
abbrev kz:=List Nat
abbrev rh:=Array<|Int×jr
abbrev nJ:=Array jr
abbrev jK:=List ap
abbrev lg:=List Expr
abbrev qu:=Bool->jk->Prop
abbrev Bn:=Option jr->jk->Prop
abbrev zk:=jr->jr->dc jr
abbrev wd:=Array<|Option Nat
abbrev wc:=Array<|Option jr
abbrev kL:=List<|ap×jh
abbrev pZ:=List pD
abbrev Bm:=Array eF
abbrev kE:=Nat->Prop
abbrev lG:=List jh
abbrev kb:=Scope
abbrev jv:=Expr
end
section
open PySem.SeqAt
theorem jz:type_of% @if_pos:=@if_pos
theorem jP:type_of% @if_neg:=@if_neg
theorem mT:type_of% @if_false:=@if_false
theorem nv:type_of% @if_true:=@if_true
def nC:=@congrArg
theorem nO:type_of% @decide_eq_false:=@decide_eq_false
theorem nW:type_of% @decide_eq_true:=@decide_eq_true
def uL:=@of_decide_eq_true
theorem vA:type_of% @decide_eq_true_eq:=@decide_eq_true_eq
theorem AU:type_of% @beq_eq_false_iff_ne:=@beq_eq_false_iff_ne
theorem xH:type_of% @bne_self_eq_false:=@bne_self_eq_false
end
namespace TT
noncomputable def Kk(mask:Nat)(p:cH):SetTable.Probe:=
 if p.more>0 then {p with j:=p.j+1,more:=p.more-1}else
 {p with j:=(cz mask p.i p.perturb).1,more:=ay mask (cz mask p.i p.perturb).1-(cz mask p.i p.perturb).1,i:=(cz mask p.i p.perturb).1,perturb:=(cz mask p.i p.perturb).2}
noncomputable def Z6(mask:Nat)(h:Int):SetTable.Probe:={j:=aK h%(mask+1),more:=ay mask (aK h%(mask+1))-aK h%(mask+1),i:=aK h%(mask+1),perturb:=aK h,dummy:=U}
def pr(mask:Nat)(h:Int):Nat->cH
 |0=>Z6 mask h
 |n+1=>Kk mask<|pr mask h n
structure V0(hs:jn)(t:mK):Prop where
 pow:∃k,3<=k/\k<=11/\t.mask+1=2^k
 dum:t.dummies= #[]
 len:t.place.size=TD hs
 room:5*(TD hs)<3*t.mask
 ris:t.place.toList.Pairwise (· < ·)
 bd:∀j∈t.place.toList,j<=t.mask
 road:∀(i:Nat)(h:Int)(j:Nat),hs[i]?=SI h->t.place[i]?=SI j->∃n,(pr t.mask h n).j=j/\∀m,m<n->(pr t.mask h m).j∈t.place.toList
end TT
namespace L2
abbrev Key:=Sum Int ap
noncomputable def Ak:Key->jr->Bool
 |.inl k,v=>tf k v
 |.inr x,v=>o7 x v
noncomputable def Zl(w:jG):Key->Int
 |.inl k=>Ix k
 |.inr x=>hashStr w x
def lR:∀{k:Key}{v:jr},Ak k v=C->(∃i t,k=bN i/\v=jp i t)\/(∃x t,k=fD x/\v=gw x t)
 |.inl i,v,h=>by obtain⟨t,e⟩:=Value.isInt_shape (k:=i) (v:=v) h;exact .inl ⟨i,t,rfl,e⟩
 |.inr x,v,h=>by obtain⟨t,e⟩:=Value.isStrOf_shape (x:=x) (v:=v) h;exact .inr ⟨x,t,rfl,e⟩
def abB(i:Int)(t:wP):Ak (.inl i) (.int i t)=C:=by simp[Ak,tf]
def ab6(x:ap)(t:wP):Ak (.inr x) (.str x t)=C:=by simp[Ak,o7]
def Ny(a b:Int):decide ((bN a:Key)=bN b)=(a==b):=by
 by_cases e:a=b
 .subst e;simp
 have h: ¬(bN a:Key)=bN b:=λq=>e<|Gu q;rw[nO h];exact(AU.mpr e).symm
def UI(a b:ap):decide ((fD a:Key)=fD b)=decide (a=b):=by
 by_cases e:a=b
 .subst e;simp
 have h: ¬(fD a:Key)=fD b:=λq=>e<|Sum.inr.inj q;rw[nO h,nO e]
def Nx(a:Int)(b:ap):decide ((bN a:Key)=fD b)=I:=nO (λq=>nomatch q)
def Nw(a:ap)(b:Int):decide ((fD a:Key)=bN b)=I:=nO (λq=>nomatch q)
def lA(d:jI)(w:jG):PySem.KeyKind d w Key where
 is:=Ak
 hash:=Zl w
 inj:=λv a b g f=>by
  rcases lR g with⟨i,t,rfl,rfl⟩|⟨x,t,rfl,rfl⟩
  .rcases lR f with⟨j,u,rfl,e⟩|⟨y,u,rfl,e⟩
   .injection e with c _;rw[c]
   exact nomatch e
  rcases lR f with⟨j,u,rfl,e⟩|⟨y,u,rfl,e⟩
  .exact nomatch e
  injection e with c _;rw[c]
 byValue:=λk v h=>by rcases lR h with⟨i,t,rfl,rfl⟩|⟨x,t,rfl,rfl⟩<;>rfl
 pyHash:=λhv h=>by
  rcases lR hv with⟨i,t,rfl,rfl⟩|⟨x,t,rfl,rfl⟩
  .exact Gs h
  exact wpAny_pyHash_str h
 eqBool:=λl hv h=>by
  rcases lR l with⟨i,t,rfl,rfl⟩|⟨x,t,rfl,rfl⟩
  .rcases lR hv with⟨j,u,rfl,rfl⟩|⟨y,u,rfl,rfl⟩
   .rw[Ny]at h;exact wpAny_eqBool_int h
   rw[Nx]at h;exact SeqAt.EqAt.int_str i t y u _ _ _ _ h
  rcases lR hv with⟨j,u,rfl,rfl⟩|⟨y,u,rfl,rfl⟩
  .rw[Nw]at h;exact SeqAt.EqAt.str_int x t j u _ _ _ _ h
  rw[UI]at h;exact wpAny_eqBool_str h
 «strs»:=λk x t v h=>by
  rcases lR h with⟨i,u,rfl,e⟩|⟨y,u,rfl,e⟩
  .exact nomatch e
  injection e with c _
  subst c;cases v<;>rfl
def aaU(a:jI)(w:jG)(i:Int)(t:wP):(lA a w).is (.inl i) (.int i t)=C:=abB i t
def aaT(a:jI)(w:jG)(x:ap)(t:wP):(lA a w).is (.inr x) (.str x t)=C:=ab6 x t
inductive V where
 |Z4|bl(b:Bool)|int(i:Int)|str(x:ap)|byt(b:Array UInt8)|flt(b:UInt64)|ref(a:jh)|ty(n:String)
 deriving DecidableEq
def RelV:V->jr->Prop
 |.Z4,u=>u=ah
 |.bl b,u=>u=dh b
 |.int i,u=>∃t,u=jp i t
 |.str x,u=>∃t,u=gw x t
 |.byt b,u=>∃t,u=Value.bytes b t
 |.flt b,u=>∃t,u=Value.float b t
 |.ref a,u=>u=bU a
 |.ty n,u=>u=b3 n
abbrev Vals:List V->List jr->Prop:=Paired RelV
def Vals.length{xs:List V}{a:kF}(r:Vals xs a):(TD xs)=(TD a):=zJ r
def Vals.get{xs:List V}{a:kF}{i:Nat}{x:V}(h:Vals xs a)(e:xs[i]?=Y x):∃u,a[i]?=Y u/\RelV x u:=by
 induction h generalizing i with
 |nil=>simp at e
 |cons r t b=>
  cases i with
  |zero=>simp at e;subst e;exact⟨_,rfl,r⟩
  |succ i=>simpa using b (by simpa using e)
theorem Vals.set{x:V}{u:jr}(r:RelV x u):∀{b:List V}{a:kF}(i:Nat),Vals b a->Vals (b.set i x) (a.set i u)
 |_,_,_,.nil=>.nil
 |_,_,0,.cons _ t=>.cons r t
 |_,_,i+1,.cons q t=>.cons q (Vals.set r i t)
def Vals.append{c d:List V}{a b:kF}(h:Vals c a)(s:Vals d b):Vals (c++d) (a++b):=by
 induction h with
 |nil=>exact s
 |cons r t e=>exact .cons r e
theorem Vals.take:∀{xs:List V}{a:kF}(n:Nat),Vals xs a->Vals (xs.take n) (a.take n)
 |_,_,0,_=>.nil
 |_,_,_+1,.nil=>.nil
 |_,_,n+1,.cons r t=>.cons r (Vals.take n t)
theorem Vals.drop:∀{b:List V}{a:kF}(n:Nat),Vals b a->Vals (b.drop n) (a.drop n)
 |_,_,0,r=>r
 |_,_,_+1,.nil=>.nil
 |_,_,n+1,.cons _ t=>Vals.drop n t
def Hs:Option V->Option jr->Prop
 |some v,Y u=>RelV v u
 |none,U=>True
 |_,_=>False
def KV{a:Type}:List (a×V)->List (a×jr)->Prop:=Paired λ(p:a×V) (q:a×jr)=>p.1=q.1/\RelV p.2 q.2
noncomputable def kV:Key->V
 |.inl i=>.int i
 |.inr x=>.str x
inductive HO where
 |lst(xs:List V)
 |tup(xs:List V)
 |dK(kvs:List (Key×V))|dT(kvs:List (List Key×V))
 |set (S:Int->Bool) (n:Nat)
 |Z6 (zs:List (Int×V))
 |ins (C dx:jh) (fs:List (ap×V))
 |own (x:jh)
 |xd (fs:List (ap×V))
 |met (f x:jh)
 |rng (lo hi:Int)
 |Bi (o:eM) (u:HO)
 |tbl (ps:nJ)
 |ext (φ:jH->Prop)
abbrev Hp:=jh->Option HO
noncomputable def upd(H:Hp)(a:jh)(o:HO):Hp:=λb=>if b=a then Y o else H b
def jL{H:Hp}{a:jh}{o:HO}:upd H a o a=Y o:=by unfold upd;rw[jz J]
def ke{H:Hp}{a b:jh}{o:HO}(h:b≠a):upd H a o b=H b:=by unfold upd;rw[jP h]
def HI{H:Hp}{a:jh}{o u:HO}:upd (upd H a o) a u=upd H a u:=by funext b;unfold upd;split<;>rfl
def R0{H:Hp}{a b:jh}{o u:HO}(h:H a=Y o)(c:H b=Y u)(d:o≠u):a≠b:=by intro e;subst e;rw[h]at c;exact d<|lI c
def md{H:Hp}{a b:jh}{o:HO}(h:H a=Y o)(c:H b=U):a≠b:=by intro e;subst e;rw[h]at c;cases c
section
variable(P:jI)(w:jG)
def Hq(h:jH)(a:jh)(items:nJ):Prop:= ∃o,h.get? a=Y o/\o.cls=.type "tuple"/\(∃n,o.data=.seq items n)/\o.dict=U
theorem Hq.tup{h:jH}{a:jh}{items:nJ}(x:Hq h a items):gW h a items:=let⟨o,e,c,d,_⟩:=x;⟨o,e,c,d⟩
theorem Hq.new(h:jH)(items:nJ):Hq (h.push {cls:=.type "tuple",data:=.seq items}) h.objs.size items:=⟨_,kW _ rfl,rfl,⟨_,rfl⟩,rfl⟩
def Z7(H:Hp)(h:jH)(a:jh):HO->Prop
 |.lst g=>TD g<=sizeLine/\∃(b:kF)(n:Nat),Vals g b/\h.get? a=Y {cls:=.type "list",data:=.seq b.toArray n}
 |.tup g=>TD g<=sizeLine/\∃b:List jr,Vals g b/\Hq h a b.toArray
 |.dK d=>TD d<=sizeLine/\(a==bY)=I/\∃k,KV d k/\h.DictOf (lA P w) a k
 |.dT d=>TD d<=sizeLine/\(a==bY)=I/\∃g:List (List Key×jh×jr),
   Paired (λ(p:List Key×V) (q:List Key×jh×jr)=>p.1=q.1/\H q.2.1=Y (.tup<|p.1.map kV)/\RelV p.2 q.2.2) d g/\
   ∃o j T,h.get? a=Y o/\o.ExactDict/\o.data=.dict j T/\j.toList=g.map (qs<|bR<|lA P w)/\(g.map (·.1)).Nodup
 |.set S n=>h.SetOf (b5 P w) a S n
 |.Z6 E=>∃(j:rh)(n:Nat)(t:mK),h.get? a=Y {cls:=.type "set",data:=.set j n t}/\Paired (λ(z:Int×V) (e:Int×jr)=>z.1=e.1/\RelV z.2 e.2) E j.toList/\
   TT.V0 (E.map (·.1)) t/\t.plain=C/\t.led=!w.params.followText "set-order"
 |.ins Q l fs=>H l=Y (.own a)/\(TD fs)<=1000/\l≠a/\h.get? a=Y (PySem.W.instObj Q l)/\
   ∃i,h.Ns1 l i/\(∀f,Hs (fs.lookup f)<|i f)/\PySem.Within i (fs.map (·.1))
 |.own _=>∃o,h.get? a=Y o
 |.xd fs=>∃i,h.Ns1 a i/\∀f,Hs (fs.lookup f)<|i f
 |.rng lo L=>∃t u v,h.get? a=Y {cls:=.type "range",data:=.fields #[.int lo t,.int L u,.int 1 v]}
 |.Bi o u=>h.get? a=Y o/\Z7 H h a u
 |.tbl O=>∃q t r,O[0]?=Y (.str q t)/\h.get? a=Y {cls:=.none,data:=.fields r}/\ir r.toList/\∀m y,ei m r.toList=Y y->∃c B u k t,y=.ref c/\H c=Y (.Bi B u)/\B.data=.fields k/\k[1]?=Y (.str q t)
 |.met f x=>h.get? a=Y (eI (.ref f)<|.ref x)
 |.ext s=>s h/\(∃o,h.get? a=Y o)/\∀h1 A:jH,s h1->(∀o,h1.get? a=Y o->A.get? a=Y o)->s A
def EE(H:Hp)(h:jH):Prop:= ∀a o,H a=Y o->Z7 P w H h a o
end
section
variable {P:jI}{w:jG}{H g:Hp}{h h':jH}{a:jh}{o:HO}
def Z7.lt(x:Z7 P w H h a o):a<h.objs.size:=by
 cases o with
 |lst c=>obtain⟨_,_,_,_,e⟩:=x;exact kX e
 |tup c=>obtain⟨_,_,_,p⟩:=x;exact p.tup.lt
 |dK b=>obtain⟨_,_,_,_,o,_,_,e,_⟩:=x;exact kX e
 |dT b=>obtain⟨_,_,_,_,o,_,_,e,_⟩:=x;exact kX e
 |set S n=>obtain⟨o,_,_,_,e,_⟩:=x;exact kX e
 |Z6 l=>obtain⟨_,_,_,e,_⟩:=x;exact kX e
 |ins T d fs=>obtain⟨_,_,_,e,_⟩:=x;exact kX e
 |own y=>obtain⟨_,e⟩:=x;exact kX e
 |xd fs=>obtain⟨_,⟨_,_,_,e,_⟩,_⟩:=x;exact kX e
 |rng lo i=>obtain⟨_,_,_,e⟩:=x;exact kX e
 |Bi j u=>obtain⟨e,_⟩:=x;exact kX e
 |tbl k=>obtain⟨_,_,_,_,e,_⟩:=x;exact kX e
 |met f y=>exact kX (show h.get? a=Y _ from x)
 |ext m=>obtain⟨_,⟨_,e⟩,_⟩:=x;exact kX e
def Paired.MS{e i:Type}{F G:e->i->Prop}{c:List e}{d:List i}(h:Paired F c d)(f:∀a b,F a b->G a b):Paired G c d:=by
 induction h with
 |nil=>exact .nil
 |cons r t j=>exact .cons (f _ _ r) j
def Z7.AV(x:Z7 P w H h a o)(k:∀b u,(b=a\/H b=SI (.own a))->h.get? b=SI u->h'.get? b=SI u)
  (N:∀b,H b=SI (.own a)->g b=SI (.own a))(U:∀b A,H b=SI (.tup A)->g b=SI (.tup A))(Y:∀b i u,H b=SI (.Bi i u)->g b=SI (.Bi i u):=by exact λ_ _ _ q=>q):Z7 P w g h' a o:=by
 induction o with
 |lst A=>obtain⟨z,s,n,r,e⟩:=x;exact⟨z,s,n,r,k _ _ (.inl J) e⟩
 |tup A=>obtain⟨z,s,r,i,e,c⟩:=x;exact⟨z,s,r,i,k _ _ (.inl J) e,c⟩
 |dK B=>obtain⟨z,y,O,r,i,j,l,e,c⟩:=x;exact⟨z,y,O,r,i,j,l,k _ _ (.inl J) e,c⟩
 |dT B=>obtain⟨z,y,A,r,i,j,l,e,c⟩:=x;exact⟨z,y,A,Paired.MS r λp q z=>⟨z.1,U _ _ z.2.1,z.2.2⟩,i,j,l,k _ _ (.inl J) e,c⟩
 |set S n=>obtain⟨i,j,l,t,e,c⟩:=x;exact⟨i,j,l,t,k _ _ (.inl J) e,c⟩
 |Z6 zs=>obtain⟨j,n,t,e,c⟩:=x;exact⟨j,n,t,k _ _ (.inl J) e,c⟩
 |ins C' dx fs=>obtain⟨d,z,ne,e,E,⟨I,j,l,G,c⟩,r⟩:=x;exact⟨N _ d,z,ne,k _ _ (.inl J) e,E,⟨I,j,l,k _ _ (.inr d) G,c⟩,r⟩
 |own y=>obtain⟨i,e⟩:=x;exact⟨i,k _ _ (.inl J) e⟩
 |xd fs=>obtain⟨E,⟨I,j,l,e,c⟩,r⟩:=x;exact⟨E,⟨I,j,l,k _ _ (.inl J) e,c⟩,r⟩
 |rng lo hi=>obtain⟨t,u,v,e⟩:=x;exact⟨t,u,v,k _ _ (.inl J) e⟩
 |Bi i u ih=>obtain⟨e,q⟩:=x;exact⟨k _ _ (.inl J) e,ih q⟩
 |tbl ps=>obtain⟨q,t,D,T,e,F,m⟩:=x;exact⟨q,t,D,T,k _ _ (.inl J) e,F,λL Q z=>let⟨c,i,u,O,t,h1,J',M⟩:=m L Q z;⟨c,i,u,O,t,h1,Y _ _ _ J',M⟩⟩
 |met f y=>have e:h.get? a=SI (eI (.ref f)<|.ref y):=x;show h'.get? a=SI (eI (.ref f)<|.ref y);exact k a _ (.inl J) e
 |ext φ=>obtain⟨p,⟨o,e⟩,st⟩:=x;exact⟨st _ _ p λo q=>k _ _ (.inl J) q,⟨o,k _ _ (.inl J) e⟩,st⟩
def EE.lt(x:EE P w H h)(e:H a=Y o):a<h.objs.size:=(x a o e).lt
def EE.fresh(x:EE P w H h)(e:h.objs.size<=a):H a=U:=by
 cases q:H a with
 |none=>rfl
 |some u=>exact absurd (oK (x.lt q) e)<|qf _
def EE.kept(x:EE P w H h)(k:∀b u,h.get? b=Y u->h'.get? b=Y u):EE P w H h':=λa o e=>(x a o e).AV (λb u _ q=>k b u q) (λ_ q=>q) λ_ _ q=>q
def EE.laid(x:EE P w H h)(k:∀b u,h.get? b=Y u->h'.get? b=Y u)(i:h.objs.size<=a)(new:Z7 P w (upd H a o) h' a o):EE P w (upd H a o) h':=λb u e=>by
 have d:=x.fresh i;by_cases f:b=a
 .subst f;rw[jL]at e;cases e;exact new
 rw[ke f]at e;exact(x b u e).AV (λc v _ q=>k c v q) (λc q=>by rw[ke<|md q d];exact q) (λc xs q=>by rw[ke<|md q d];exact q) λc _ _ q=>by rw[ke<|md q d];exact q
end
def Rd(H:Hp)(a:jh)(u:HO):Prop:=H a=Y u\/∃o,H a=Y (.Bi o u)
def Rd.ok{P:jI}{w:jG}{H:Hp}{h:jH}{a:jh}{u:HO}(r:Rd H a u)(x:EE P w H h):Z7 P w H h a u:=by
 rcases r with r|⟨o,r⟩
 .exact x a u r
 obtain⟨_,q⟩:=x a _ r;exact q
def Mp:Option HO->Prop
 |some (.lst _)=>True
 |some (.dK _)=>True
 |some (.dT _)=>True
 |some (.set _ _)=>True
 |some (.Z6 _)=>True
 |some (.ins _ _ _)=>True
 |some (.ext _)=>True
 |_=>False
section
variable {P:jI}{w:jG}{H:Hp}{h a:jH}{x e:jh}{d:HO}
def EE.write(ok:EE P w H h)(g:Mp (H x))(o:e=x\/H e=Y (.own x))(k:∀b u,b≠e->h.get? b=Y u->a.get? b=Y u)(s:∃u,a.get? e=Y u)
  (new:Z7 P w (upd H x d) a x d):EE P w (upd H x d) a:=λb u q=>by
 have f:∀c y,H c=Y (.own y)->c≠x:=λc y r z=>by subst z;rw[r]at g;exact g
 have i:∀c n,H c=Y (.tup n)->c≠x:=λc n r z=>by subst z;rw[r]at g;exact g
 by_cases l:b=x
 .subst l;rw[jL]at q;cases q;exact new
 rw[ke l]at q;by_cases j:b=e
 .have p:H b=Y (.own x):=by
   rcases o with z|z
   .exact absurd (j.trans z) l
   rw[j];exact z
  rw[q]at p;cases p;obtain⟨v,hv⟩:=s;exact⟨v,by rw[j];exact hv⟩
 refine(ok b u q).AV (λc v m r=>k c v ?_ r) (λc r=>by rw[ke<|f c b r];exact r) (λc n r=>by rw[ke<|i c n r];exact r) λc _ _ r=>by rw[ke λz=>by subst z;rw[r]at g;exact g];exact r
 rcases m with rfl|m
 .exact j
 rintro rfl;rcases o with z|z
 .exact f c b m z
 rw[m]at z;cases z;exact l J
end
structure Un(fs ex:lG)(H H':Hp)(h h':jH):Prop where
 keep:∀b o,h.get? b=SI o->H b=SS->b∉fs->b∉ex->h'.get? b=SI o
 slot:∀b o,h.get? b=SI o->H b=SS->b∈fs->b∉ex->∃sl,h'.get? b=SI {o with slots:=sl}
 free:∀b o,h.get? b=SI o->H b=SS->b∉ex->H' b=SS
 there:∀b o,h.get? b=SI o->b∉ex->∃o',h'.get? b=SI o'
 tups:∀b xs,H b=SI (.tup xs)->H' b=SI (.tup xs)
 frzs:∀b o u,H b=SI (.Bi o u)->H' b=SI (.Bi o u)
 tbls:∀b ps,H b=SI (.tbl ps)->∃more,H' b=SI (.tbl<|ps++more)
section
variable {fs f ex c:lG}{H d i:Hp}{h h1 g h':jH}{a x e:jh}{o:HO}
def Un.any(u:Un fs ex H d h h1){b:jh}{j:eM}(q:h.get? b=Y j)(n:H b=U)(l:b∉ex):∃m,h1.get? b=Y {j with slots:=m}:=by
 by_cases k:b∈fs
 .exact u.slot b j q n k l
 exact⟨j.slots,u.keep b j q n k l⟩
def Un.kept(k:∀b u,h.get? b=Y u->h'.get? b=Y u):Un fs ex H H h h':=
 ⟨λb j q _ _ _=>k b j q,λb j q _ _ _=>⟨j.slots,k b j q⟩,λ_ _ _ n _=>n,λb j q _=>⟨j,k b j q⟩,λ_ _ q=>q,λ_ _ _ q=>q,λ_ l q=>⟨#[],by rw[q];simp⟩⟩
def Un.refl:Un fs ex H H h h:=Un.kept λ_ _ q=>q
def Un.laid(k:∀b u,h.get? b=Y u->h'.get? b=Y u)(r:h.objs.size<=a)(j:H a=U):Un fs ex H (upd H a o) h h' where
 keep:=λb u q _ _ _=>k b u q
 slot:=λb u q _ _ _=>⟨u.slots,k b u q⟩
 free:=λb u q n _=>by rw[ke<|kU<|oK (kX q) r];exact n
 there:=λb u q _=>⟨u,k b u q⟩
 tups:=λb xs q=>by rw[ke<|md q j];exact q
 frzs:=λb u xs q=>by rw[ke<|md q j];exact q
 tbls:=λb s q=>⟨#[],by rw[ke<|md q j,q];simp⟩
def Un.write(j:Mp (H x))(v:e=x\/H e=Y (.own x))(k:∀b u,b≠e->h.get? b=Y u->h'.get? b=Y u)(t:∃u,h'.get? e=Y u):Un fs ex H (upd H x o) h h':=by
 have s:∀b,H b=U->b≠x:=λb n z=>by subst z;rw[n]at j;exact j
 have p:∀b,H b=U->b≠e:=λb n z=>by
  subst z;rcases v with r|r
  .exact s b n r
  rw[n]at r;cases r
 have l:∀b u,H b=Y u->¬Mp (Y u)->b≠x:=λb u q w z=>by subst z;rw[q]at j;exact w j
 refine⟨λb u q n _ _=>k b u (p b n) q,λb u q n _ _=>⟨u.slots,k b u (p b n) q⟩,λb u q n _=>by rw[ke<|s b n];exact n,λb u q _=>?_,
  λb y q=>by rw[ke<|l b _ q λz=>z];exact q,λb u y q=>by rw[ke<|l b _ q λz=>z];exact q,λb A q=>⟨#[],by rw[ke<|l b _ q λz=>z,q];simp⟩⟩
 by_cases m:b=e
 .subst m;exact t
 exact⟨u,k b u m q⟩
end
noncomputable def Mw(h:jH)(H:Hp):List Addr:=(am h.objs.size).filter λa=>(H a).isSome
def A8(h:jH)(H:Hp):Heap:=PySem.W.hideAll h<|Mw h H
def abJ(h:jH)(H:Hp):(A8 h H).objs.size=h.objs.size:=PySem.W.hideAll_size _ _
def adO{h:jH}{H:Hp}{b:jh}{o:eM}(e:h.get? b=Y o)(n:H b=U):(A8 h H).get? b=Y o:=
 PySem.W.hideAll_get _ e λa=>by have q:(H b).isSome=C:=(yL.mp a).2;rw[n]at q;simp at q
def Qy{h:jH}{H:Hp}{b:jh}{o:eM}(e:(A8 h H).get? b=Y o):h.get? b=Y o/\H b=U:=by
 have a:h.get? b=Y o:=PySem.W.of_hideAll (Mw h H) e;refine⟨a,?_⟩
 cases q:H b with
 |none=>rfl
 |some x=>have c:b∈Mw h H:=yL.mpr ⟨sL.mpr<|kX a,by simp[q]⟩;have z:(A8 h H).get? b=U:=PySem.W.hideAll_none (Mw h H) c;rw[z]at e;cases e
structure Mod(K:jJ)(mg:ml)(base:jH):Prop where
 kin:K.In base
 glob:base.Ns ag mg
 blt:∃mb,base.Ns gL mb/\∀x:ap,x≠"__name__"->mb x=av x
 nolimit:base.NoLimit
structure Cx where
 prog:jI
 w:jG
 K:jJ
 mg:ap->Option jr
 base:jH
 A:jF
 N:List ap
 s₀:jk
 H₀:Hp
 env:c9
 outer:List c9
 stack:List c9
 ex:List jh
 fn:ap->Bool
 calm:Bool
 pn:List (jh×eM)
 xe:jr->jk->Prop
noncomputable def J6(l:List c9):List Addr:=l.filterMap (·.frame)
abbrev Cx.fs(X:Cx):List Addr:=J6 X.outer
def JE(a:kb)(x:ap):Prop:=a.names.lookup x=Y .local\/a.names.lookup x=Y .cell\/a.names.lookup x=Y .free
def Loc(a:kb)(x:ap):Prop:=a.names.lookup x=Y .local\/a.names.lookup x=Y .cell
def ZG(a:c9)(h:jH)(m:ml)(x:ap)(u:jr):Prop:=
 (a.kindOf x=Y .local/\m x=Y u)\/((a.kindOf x=Y .cell\/a.kindOf x=Y .free)/\∃c,a.cells.lookup x=Y c/\h.IsCell c (Y u))
structure Cx.Ok(X:Cx):Prop where
 mod:Mod X.K X.mg X.base
 kind:X.env.scope.kind=.function
 glob:X.env.globals=ag
 blt:X.env.builtins=gL
 above:X.s₀.heap.objs.size<=X.env.locals
 inj:∀x y c,X.env.cells.lookup x=SI c->X.env.cells.lookup y=SI c->x=y
 has:∀x,(X.env.kindOf x=SI .cell\/X.env.kindOf x=SI .free)->∃c,X.env.cells.lookup x=SI c
 cab:∀x c,X.fn x=Td->X.env.cells.lookup x=SI c->X.s₀.heap.objs.size<=c
 hd:X.calm=Td->X.A.handled=SS
 frames:X.A.frames=SI X.stack
 stk:X.stack=X.outer\/(X.stack=X.env::X.outer/\X.env.frame=SI X.env.locals)
 exf:∀b∈X.ex,b≠X.env.locals/\∀x c,X.env.cells.lookup x=SI c->c≠b
 bs:∀b o,X.base.get? b=SI o->X.s₀.heap.get? b=SI o/\X.H₀ b=SS
 bsz:X.base.objs.size<=X.s₀.heap.objs.size
 noex:∀b o,X.base.get? b=SI o->b∉X.ex
 exfs:∀b∈X.ex,b∉X.fs
 Ef:X.s₀.heap.FunFrames X.base X.outer
 frf:∀b∈X.fs,X.H₀ b=SS
structure Inv(X:Cx)(pins:kf)(σ:List (Option V))(H:Hp)(s:jk):Prop where
 ok:X.Ok
 os:s.os=X.s₀.os
 bare:dR s.gens
 base:Un X.fs X.ex X.H₀ H X.s₀.heap s.heap
 loc:∃m,s.heap.Ns X.env.locals m/\∀(i:Nat)(x:ap)(v:V),X.N[i]?=SI x->σ[i]?=SI (SI v)->JE X.env.scope x->∃u,RelV v u/\ZG X.env s.heap m x u
 cell:∀x c,X.env.cells.lookup x=SI c->∃v,s.heap.IsCell c v
 free:H X.env.locals=SS
 freeC:∀x c,X.env.cells.lookup x=SI c->H c=SS
 pin:∀p∈X.pn++pins,s.heap.get? p.1=SI p.2/\H p.1=SS/\p.1≠X.env.locals/\p.1∉X.fs/\∀v,p.2.data≠ .cell v
 hok:EE X.prog X.w H s.heap
 len:(TD σ)=X.N.length
section
variable {X:Cx}{f:kf}{g:List (Option V)}{H H':Hp}{s:jk}{h':jH}
def Cx.Ok.nofr(ok:X.Ok){b:jh}{o:eM}(e:X.base.get? b=Y o):b∉X.fs:=λa=>by have:=(ok.Ef.mem a).1;rw[e]at this;cases this
def Inv.bs(T:Inv X f g H s):∀b o,X.base.get? b=Y o->s.heap.get? b=Y o/\H b=U:=λb o e=>⟨T.base.keep b o (T.ok.bs b o e).1 (T.ok.bs b o e).2 (T.ok.nofr e)<|T.ok.noex b o e,T.base.free b o (T.ok.bs b o e).1 (T.ok.bs b o e).2<|T.ok.noex b o e⟩
def Inv.bk(T:Inv X f g H s):∀b o,X.base.get? b=Y o->s.heap.get? b=Y o:=λb o e=>(T.bs b o e).1
def Inv.mod(T:Inv X f g H s):Mod X.K X.mg X.base:=T.ok.mod
def Inv.G8(T:Inv X f g H s):X.K.In s.heap:=T.ok.mod.kin.keeps T.bk
def Inv.lt(T:Inv X f g H s):X.env.locals<s.heap.objs.size:=let⟨_,a,_⟩:=T.loc;a.lt
def Inv.sz(T:Inv X f g H s):X.s₀.heap.objs.size<=s.heap.objs.size:=lY T.ok.above<|wj T.lt
def Inv.MP(T:Inv X f g H s){a:jh}(h:s.heap.objs.size<=a):a∉X.fs:=λb=>by obtain⟨_,o,c,_⟩:=T.ok.Ef.mem b;exact absurd (oK (kX c)<|lY T.sz h)<|qf _
def Inv.Ks(T:Inv X f g H s):∀x c,X.env.cells.lookup x=Y c->c≠X.env.locals:=λx c e z=>by obtain⟨v,o,a,hd⟩:=T.cell x c e;obtain⟨m,⟨j,i,h,b,d,_⟩,_⟩:=T.loc;rw[z,b]at a;cases a;rw[d]at hd;cases hd
def Inv.Ef(T:Inv X f g H s):s.heap.FunFrames X.base X.outer:=by
 have all:∀(l:List c9),(∀b∈J6 l,b∈X.fs)->X.s₀.heap.FunFrames X.base l->s.heap.FunFrames X.base l:=by
  intro l
  induction l with
  |nil=>intro _ _;trivial
  |cons i r p=>intro h j;obtain⟨hk,⟨L,o,d,k,m,hd⟩,n⟩:=j;have a:L∈X.fs:=h L (by unfold J6;rw[wg,d];exact la);obtain⟨q,e⟩:=T.base.slot L o m (T.ok.frf L a) a λz=>T.ok.exfs L z a;exact⟨hk,⟨L,_,d,k,e,hd⟩,p (λb c=>h b<|by unfold J6;rw[wg,d];exact kn _ c) n⟩
 exact all X.outer (λ_ c=>c) T.ok.Ef
def Inv.stack(T:Inv X f g H s):s.heap.FunFrames X.base X.stack:=by
 rcases T.ok.stk with e|⟨e,hf⟩
 .rw[e];exact T.Ef
 rw[e];obtain⟨m,a,_⟩:=T.loc;refine .cons (by rw[T.ok.kind];decide) hf a ?_ T.Ef;exact Heap.get?_none_of_le<|lY T.ok.bsz T.ok.above
def Inv.GR(T:Inv X f g H s):∀b∈J6 X.stack,b∈X.env.locals::X.fs:=λb a=>by
 rcases T.ok.stk with e|⟨e,hf⟩
 .rw[e]at a;exact kn _ a
 rw[e]at a;unfold J6 at a;rw[wg,hf]at a;exact a
def Inv.JQ(T:Inv X f g H s):∀b∈J6 X.stack,H b=U:=λb a=>by
 rcases nQ.mp (T.GR b a)with e|a
 .rw[e];exact T.free
 obtain⟨_,o,c,_⟩:=T.ok.Ef.mem a;exact T.base.free b o c (T.ok.frf b a) λz=>T.ok.exfs b z a
def Inv.step{g':Array ej}{t':Nat}{d':Drawn}{ch:lG}(I:Inv X f g H s)
  (C:∀b∈ch,(b∈X.ex\/X.s₀.heap.objs.size<=b)/\b≠X.env.locals/\(∀x c,X.env.cells.lookup x=SI c->c≠b)/\∀p∈X.pn++f,p.1≠b)
  (keep:∀b o,b≠X.env.locals->b∉X.fs->b∉ch->s.heap.get? b=SI o->H b=U->h'.get? b=SI o)
  (slot:∀b o,b≠X.env.locals->b∈X.fs->b∉ch->s.heap.get? b=SI o->H b=U->∃U',h'.get? b=SI {o with slots:=U'})(free:∀b o,b∉ch->s.heap.get? b=SI o->H b=U->H' b=U)
  (there:∀b o,b∉ch->s.heap.get? b=SI o->∃Q,h'.get? b=SI Q)
  (G:∀b t,H b=SI (.tup t)->H' b=SI (.tup t))(L:∀b o u,H b=SI (.Bi o u)->H' b=SI (.Bi o u))(T:∀b M,H b=SI (.tbl M)->∃more,H' b=SI (.tbl<|M++more))
  (ns:∀m,s.heap.Ns X.env.locals m->h'.Ns X.env.locals m)(N:EE X.prog X.w H' h')(hg:dR g'):
  Inv X f g H' {s with heap:=h',gens:=g',drawn:=d',toks:=t'}:=by
 have O:∀b o,X.s₀.heap.get? b=SI o->b≠X.env.locals:=λb o e=>kU<|oK (kX e) I.ok.above
 have J:∀b o,X.s₀.heap.get? b=SI o->b∉X.ex->b∉ch:=λb o e a y=>by
  rcases(C b y).1 with z|z
  .exact a z
  exact absurd (oK (kX e) z) (qf _)
 have h:∀x c,X.env.cells.lookup x=SI c->∀v,s.heap.IsCell c v->h'.IsCell c v:=λx c e v a'=>by
  obtain⟨o,A,hd⟩:=a'
  have B:c∉ch:=λz=>(C c z).2.2.1 x c e Tl;by_cases D:c∈X.fs
  .obtain⟨U',q⟩:=slot c o (I.Ks x c e) D B A<|I.freeC x c e;exact⟨_,q,hd⟩
  exact⟨o,keep c o (I.Ks x c e) D B A<|I.freeC x c e,hd⟩
 refine⟨I.ok,I.os,hg,⟨λb o e n y a=>?_,λb o e n y a=>?_,λb o e n a=>?_,λb o e a=>?_,λb t e=>G b t<|I.base.tups b t e,λb o t e=>L b o t<|I.base.frzs b o t e,λb M e=>?_⟩,?_,λx c e=>?_,?_,λx c e=>?_,λp F=>?_,N,I.len⟩
 .exact keep b o (O b o e) y (J b o e a) (I.base.keep b o e n y a) (I.base.free b o e n a)
 .obtain⟨U',j⟩:=I.base.slot b o e n y a;obtain⟨Y,E⟩:=slot b _ (O b o e) y (J b o e a) j (I.base.free b o e n a);exact⟨Y,E⟩
 .obtain⟨Q,j⟩:=I.base.there b o e a;exact free b Q (J b o e a) j<|I.base.free b o e n a
 .obtain⟨Q,j⟩:=I.base.there b o e a;exact there b Q (J b o e a) j
 .obtain⟨V,j⟩:=I.base.tbls b M e;obtain⟨W,E⟩:=T b _ j;exact⟨V++W,by rw[E,Gr]⟩
 .obtain⟨m,S,R⟩:=I.loc;refine⟨m,ns m S,λi x v j E P=>?_⟩;obtain⟨u,r,l⟩:=R i x v j E P;refine⟨u,r,?_⟩;rcases l with l|⟨k,c,e,z⟩
  .exact .inl l
  exact .inr ⟨k,c,e,h x c e _ z⟩
 .obtain⟨v,z⟩:=I.cell x c e;exact⟨v,h x c e v z⟩
 .obtain⟨m,⟨o,_,_,A,_⟩,_⟩:=I.loc;exact free _ o (λz=>(C _ z).2.1 Tl) A I.free
 .obtain⟨v,o,A,hd⟩:=I.cell x c e;exact free c o (λz=>(C c z).2.2.1 x c e Tl) A<|I.freeC x c e
 obtain⟨e,n,ne,K,d⟩:=I.pin p F;have B:p.1∉ch:=λz=>(C p.1 z).2.2.2 p F Tl;exact⟨keep p.1 p.2 ne K B e n,free p.1 p.2 B e n,ne,K,d⟩
def Inv.un{t':Nat}(T:Inv X f g H s)(u:Un X.fs [] H H' s.heap h')(d:EE X.prog X.w H' h'):Inv X f g H' {s with heap:=h',toks:=t'}:=by
 obtain⟨m,⟨o,t,q,i,r⟩,_⟩:=id T.loc;obtain⟨y,k⟩:=u.any i T.free (by simp)
 exact T.step (g':=s.gens) (d':=s.drawn) (ch:=[]) (λ_ z=>nomatch z) (λb o _ c _ e n=>u.keep b o e n c<|by simp) (λb o _ c _ e n=>u.slot b o e n c<|by simp) (λb o _ e n=>u.free b o e n<|by simp) (λb o _ e=>u.there b o e<|by simp) u.tups u.frzs u.tbls (λv l=>by obtain⟨x,a,j,h,p⟩:=l;rw[i]at h;cases h;exact⟨_,a,j,k,p⟩) d T.bare
def Inv.call{g':Array ej}{t':Nat}{d':Drawn}{ch:lG}(T:Inv X f g H s)(u:Un (J6 X.stack) ch H H' s.heap h')(i:EE X.prog X.w H' h')(v:dR g')
  (k:∀b∈ch,(b∈X.ex\/X.s₀.heap.objs.size<=b)/\b≠X.env.locals/\(∀x c,X.env.cells.lookup x=Y c->c≠b)/\∀p∈X.pn++f,p.1≠b):
  Inv X f g H' {s with heap:=h',gens:=g',drawn:=d',toks:=t'}:=by
 obtain⟨m,⟨o,Q,B,l,r⟩,_⟩:=id T.loc;obtain⟨O,h⟩:=u.any l T.free λz=>(k _ z).2.1 J
 exact T.step (ch:=ch) k (λb o h t a e n=>u.keep b o e n (λz=>(nQ.mp<|T.GR b z).elim h t) a) (λb o _ _ a e n=>u.any e n a) (λb o a e n=>u.free b o e n a) (λb o a e=>u.there b o e a) u.tups u.frzs u.tbls (λE y=>by obtain⟨L,d,q,j,A⟩:=y;rw[l]at j;cases j;exact⟨_,d,q,h,A⟩) i v
def Inv.turned{t':Nat}{it:jh}(T:Inv X f g H s)(k:∀b o,b≠it->s.heap.get? b=Y o->h'.get? b=Y o)(A:H it=U)(h:it≠X.env.locals)
  (h1:it∈X.ex\/X.s₀.heap.objs.size<=it)(l:∀x c,X.env.cells.lookup x=Y c->c≠it)(t:∀p∈X.pn++f,p.1≠it):Inv X f g H {s with heap:=h',toks:=t'}:=by
 have d:∀b u,H b=Y u->b≠it:=λb u e z=>by rw[z,A]at e;cases e
 refine T.step (g':=s.gens) (d':=s.drawn) (ch:=[it]) (λb w=>?_) (λb o _ _ a e _=>k b o (λz=>a<|by simp[z]) e) (λb o _ _ a e _=>⟨o.slots,k b o (λz=>a<|by simp[z]) e⟩) (λ_ _ _ _ n=>n)
  (λb o a e=>⟨o,k b o (λz=>a<|by simp[z]) e⟩) (λ_ _ e=>e) (λ_ _ _ e=>e) (λb Q e=>⟨#[],by rw[e];simp⟩) (λm y=>?_) (λb u e=>?_) T.bare
 .have e:b=it:=by simpa using w
  subst e;exact⟨h1,h,l,t⟩
 .obtain⟨o,j,i,B,r⟩:=y;exact⟨o,j,i,k _ o (rY h) B,r⟩
 refine(T.hok b u e).AV (λc v a q=>k c v ?_ q) (λ_ q=>q) λ_ _ q=>q;rcases a with z|z
 .rw[z];exact d b u e
 exact d c _ z
def Inv.tok(T:Inv X f g H s)(t:Nat):Inv X f g H {s with toks:=t}:=T.un (h':=s.heap) (t':=t) Un.refl T.hok
def Inv.kept{t':Nat}(T:Inv X f g H s)(k:∀b u,s.heap.get? b=Y u->h'.get? b=Y u):Inv X f g H {s with heap:=h',toks:=t'}:=T.un (Un.kept k)<|T.hok.kept k
def Inv.laid{a:jh}{o:HO}{t':Nat}(T:Inv X f g H s)(k:∀b u,s.heap.get? b=Y u->h'.get? b=Y u)(c:s.heap.objs.size<=a)(new:Z7 X.prog X.w (upd H a o) h' a o):
  Inv X f g (upd H a o) {s with heap:=h',toks:=t'}:=T.un (Un.laid k c<|T.hok.fresh c)<|T.hok.laid k c new
def Inv.write{x e:jh}{o:HO}{h:Nat}(T:Inv X f g H s)(d:Mp (H x))(c:e=x\/H e=Y (.own x))(k:∀b u,b≠e->s.heap.get? b=Y u->h'.get? b=Y u)(a:∃u,h'.get? e=Y u)
  (new:Z7 X.prog X.w (upd H x o) h' x o):Inv X f g (upd H x o) {s with heap:=h',toks:=h}:=T.un (Un.write d c k a)<|T.hok.write d c k a new
def Inv.GL{a:kf}(T:Inv X f g H s)(h:∀p∈a,s.heap.get? p.1=Y p.2/\H p.1=U/\p.1≠X.env.locals/\p.1∉X.fs/\∀v,p.2.data≠ .cell v):Inv X a g H s:=
 ⟨T.ok,T.os,T.bare,T.base,T.loc,T.cell,T.free,T.freeC,λp b=>(qm.mp b).elim (λz=>T.pin p<|CW _ z)<|h p,T.hok,T.len⟩
def Eo{N:jK}(e:N.Nodup){i j:Nat}{x:ap}(a:N[i]?=Y x)(b:N[j]?=Y x):i=j:=by obtain⟨h1,c⟩:=uT.mp a;obtain⟨h,d⟩:=uT.mp b;exact(Gq e).mp (c.trans d.symm)
def Br{M:gy}{A:jF}{E:jZ}{i:Nat}{x:ap}{v:V}{u:jr}{Q:Unit->jk->Prop}(I:Inv X f g H s)(hN:X.N.Nodup)(hi:X.N[i]?=SI x)(L:Loc X.env.scope x)(r:RelV v u)
  (h:∀s',Inv X f (g.set i<|SI v) H s'->(∃a,au a s.heap s'.heap/\(a=X.env.locals\/X.env.cells.lookup x=SI a))->Q () s')(hf:X.fn x=Td\/X.env.scope.names.lookup x=SI .local:=by first|exact .inl rfl|exact .inr rfl|assumption):aa M A (storeName X.env x u) Q E s:=by
 obtain⟨m,S,hl⟩:=id I.loc;have Y:(X.env.scope.kind== .class||(X.env.scope.kind== .module&&X.env.locals !=X.env.globals))=Tk:=by rw[I.ok.kind];rfl
 have T:i<(TD g):=by rw[I.len];exact(uT.mp hi).1
 have Ks:=I.Ks
 have B:∀{a:jh}{h':jH},(∃o,s.heap.get? a=SI o/\H a=SS)->au a s.heap h'->EE X.prog X.w H h':=λ{a h'} ha l b ob e=>by
  obtain⟨_,_,l3⟩:=ha;refine(I.hok b ob e).AV (λc K C q=>(l.2 c ?_).trans q) (λ_ q=>q) λ_ _ q=>q;rintro rfl;rcases C with rfl|C
  .rw[l3]at e;cases e
  rw[l3]at C;cases C
 rcases L with hk|hk
 .refine wpAny_storeName_local hk S (λh' eT l=>?_) Y;obtain⟨oL,_,_,fV,_⟩:=id S;refine h _ ⟨I.ok,I.os,I.bare,⟨λb o e n G L=>?_,λb o e n G L=>?_,I.base.free,λb o e L=>?_,I.base.tups,I.base.frzs,I.base.tbls⟩,⟨_,eT,λj y v' t O R=>?_⟩,λy c e=>?_,I.free,I.freeC,λp W=>?_,B ⟨oL,fV,I.free⟩ l,by simpa using I.len⟩ ⟨_,l,.inl Tl⟩
  .exact(l.2 b<|kU<|oK (kX e) I.ok.above).trans (I.base.keep b o e n G L)
  .obtain⟨sl,t⟩:=I.base.slot b o e n G L;exact⟨sl,(l.2 b<|kU<|oK (kX e) I.ok.above).trans t⟩
  .obtain⟨o',t⟩:=I.base.there b o e L;exact⟨o',(l.2 b<|kU<|oK (kX e) I.ok.above).trans t⟩
  .by_cases J:j=i
   .subst J;rw[hi]at t;cases t;rw[uS T]at O;cases O;exact⟨u,r,.inl ⟨hk,by simp⟩⟩
   rw[nD<|rY J]at O;obtain⟨u',r',q⟩:=hl j y v' t O R;refine⟨u',r',?_⟩;rcases q with⟨k,e⟩|⟨k,c,e,z⟩
   .refine .inl ⟨k,?_⟩;have:y≠x:=λe=>J<|Eo hN t<|e▸hi;simp[this,e]
   exact .inr ⟨k,c,e,z.sameBut l<|Ks y c e⟩
  .obtain⟨K,z⟩:=I.cell y c e;exact⟨K,z.sameBut l<|Ks y c e⟩
  obtain⟨e,n,ne,Z,d⟩:=I.pin p W;exact⟨(l.2 p.1 ne).trans e,n,ne,Z,d⟩
 have P:X.fn x=Td:=by
  rcases hf with z|z
  .exact z
  rw[z]at hk;cases hk
 obtain⟨c,C⟩:=I.ok.has x<|.inl hk;obtain⟨K,z⟩:=I.cell x c C;refine Lz I.ok.kind hk C z λh' aH l=>?_;obtain⟨oc,eQ,D⟩:=id z;refine h {s with heap:=h'} ⟨I.ok,I.os,I.bare,⟨λb o e n G L=>?_,λb o e n G L=>?_,I.base.free,λb o e L=>?_,I.base.tups,I.base.frzs,I.base.tbls⟩,⟨m,S.sameBut l<|rY<|Ks x c C,λj y v' t O R=>?_⟩,λy F e=>?_,I.free,I.freeC,λp W=>?_,B ⟨oc,eQ,I.freeC x c C⟩ l,by simpa using I.len⟩ ⟨c,l,.inr C⟩
 .exact(l.2 b<|kU<|oK (kX e)<|I.ok.cab x c P C).trans (I.base.keep b o e n G L)
 .obtain⟨sl,t⟩:=I.base.slot b o e n G L;exact⟨sl,(l.2 b<|kU<|oK (kX e)<|I.ok.cab x c P C).trans t⟩
 .obtain⟨o',t⟩:=I.base.there b o e L;exact⟨o',(l.2 b<|kU<|oK (kX e)<|I.ok.cab x c P C).trans t⟩
 .by_cases J:j=i
  .subst J;rw[hi]at t;cases t;rw[uS T]at O;cases O;exact⟨u,r,.inr ⟨.inl hk,c,C,aH⟩⟩
  rw[nD<|rY J]at O;obtain⟨u',r',q⟩:=hl j y v' t O R;refine⟨u',r',?_⟩;rcases q with q|⟨k,F,e,z'⟩
  .exact .inl q
  refine .inr ⟨k,F,e,z'.sameBut l ?_⟩;rintro rfl;exact J<|Eo hN t<|I.ok.inj _ _ _ e C▸hi
 .by_cases U:F=c
  .subst U;exact⟨_,aH⟩
  obtain⟨w2,z2⟩:=I.cell y F e;exact⟨w2,z2.sameBut l U⟩
 obtain⟨e,n,ne,Z,d⟩:=I.pin p W;refine⟨(l.2 p.1 ?_).trans e,n,ne,Z,d⟩;intro q;rw[q,eQ]at e;have q':oc=p.2:=lI e;exact d K (by rw[<-q'];exact D)
def wu{M:gy}{A:jF}{E:jZ}{i:Nat}{x:ap}{v:V}{u:jr}{Q:Unit->jk->Prop}(T:Inv X f g H s)(c:X.N.Nodup)(e:X.N[i]?=Y x)(j:Loc X.env.scope x)(r:RelV v u)
  (h:∀a,Inv X f (g.set i<|Y v) H a->Q () a)(d:X.fn x=C\/X.env.scope.names.lookup x=Y .local:=by first|exact .inl rfl|exact .inr rfl|assumption):aa M A (storeName X.env x u) Q E s:=
 Br T c e j r (λa b _=>h a b) d
def Inv.Mf{s':jk}{ch:lG}(T:Inv X f g H s)(i:s'.os=s.os)(u:Un (J6 X.stack) ch H H' s.heap s'.heap)(a:EE X.prog X.w H' s'.heap)(h:dR s'.gens)
  (d:∀b∈ch,(b∈X.ex\/X.s₀.heap.objs.size<=b)/\b≠X.env.locals/\(∀x c,X.env.cells.lookup x=Y c->c≠b)/\∀p∈X.pn++f,p.1≠b):Inv X f g H' s':=by
 obtain⟨h',g',d',t',j⟩:=s';have e:j=s.os:=i;subst e;exact T.call (g':=g') (t':=t') (d':=d') u a h d
end
abbrev XK:=jr->Option jh->Hp->Prop
abbrev St:=List<|Option V
abbrev VK:=V->Hp->Prop
abbrev TE:=St->Hp->VK->Prop
abbrev TT:=St->Hp->(Bool->Hp->Prop)->Prop
abbrev TA:=St->Hp->(List V->Hp->Prop)->Prop
structure Ends where
 nx:St->Hp->Prop
 rt:VK
 bk:St->Hp->Prop:=λ_ _=>False
 ct:St->Hp->Prop:=λ_ _=>False
abbrev TS:=Ends->St->Hp->Prop
inductive EP(X:Cx)(pins:kf)(σ:St)(Q:VK)(u:jr)(s':jk):Prop where
 |mk (v:V) (H':Hp) (_:Inv X pins σ H' s') (_:RelV v u) (_:Q v H')
inductive TP(X:Cx)(pins:kf)(σ:St)(Q:Bool->Hp->Prop)(b:Bool)(s':jk):Prop where
 |mk (H':Hp) (_:Inv X pins σ H' s') (_:Q b H')
inductive AP(X:Cx)(pins:kf)(σ:St)(Q:List V->Hp->Prop)(us:kF)(s':jk):Prop where
 |mk (vs:List V) (H':Hp) (_:Inv X pins σ H' s') (_:Vals vs us) (_:Q vs H')
def SP(X:Cx)(b:kf)(D:Ends)(f:Flow)(d:jk):Prop:=
 match f with
 |.next=>∃a c,Inv X b a c d/\D.nx a c
 |.brk=>∃a c,Inv X b a c d/\D.bk a c
 |.cont=>∃a c,Inv X b a c d/\D.ct a c
 |.ret u=>∃v a c,Inv X b a c d/\RelV v u/\D.rt v c
def PE(X:Cx)(e:jv)(t:TE):Prop:=
 ∀(a:kf)(s:jk)(b:St)(H:Hp)(Q:VK),Inv X a b H s->t b H Q->aa (ae X.prog X.w) X.A (aY e X.env) (EP X a b Q) X.xe s
def PT(X:Cx)(e:jv)(t:TT):Prop:=
 ∀(a:kf)(s:jk)(b:St)(H:Hp)(Q:Bool->Hp->Prop),Inv X a b H s->t b H Q->aa (ae X.prog X.w) X.A (isTrue e X.env<|aY e X.env) (TP X a b Q) X.xe s
def PW(X:Cx)(e:jv)(t:TT):Prop:=
 ∀(b:dc jr)(a:kf)(s:jk)(c:St)(H:Hp)(Q:Bool->Hp->Prop),Inv X a c H s->t c H Q->aa (ae X.prog X.w) X.A (isTrue e X.env b) (TP X a c Q) X.xe s
def PW.pt{X:Cx}{e:jv}{t:TT}(h:PW X e t):PT X e t:=h _
def PA(X:Cx)(d:lg)(t:TA):Prop:=
 ∀(b:bt)(a:kf)(s:jk)(c:St)(H:Hp)(Q:List V->Hp->Prop),Inv X a c H s->t c H Q->aa (ae X.prog X.w) X.A (sx<|aV b<|ac d X.env) (AP X a c Q) X.xe s
def PS(X:Cx)(st:aW)(t:TS):Prop:=
 ∀(a:kf)(s:jk)(b:St)(H:Hp)(D:Ends),Inv X a b H s->t D b H->aa (ae X.prog X.w) X.A (exec st X.env) (SP X a D) X.xe s
def GJ(X:Cx)(st:List aW)(t:TS):Prop:=
 ∀(a:kf)(s:jk)(b:St)(H:Hp)(D:Ends),Inv X a b H s->t D b H->aa (ae X.prog X.w) X.A (execs st X.env) (SP X a D) X.xe s
def T2{c:Type}{t:dc c}{Q b:c->jk->Prop}{M:gy}{A:jF}{E:jZ}{s:jk}(h:aa M A t Q E s)(d:∀a s,Q a s->b a s):aa M A t b E s:=oJ h d λ_ _ x=>x
section
variable {X:Cx}
def Yv(i:Nat):TE:=λa H Q=>∃v,a[i]?=Y (Y v)/\Q v H
noncomputable def tC(v:V):TE:=λ_ H Q=>Q v H
def yb{i:Nat}{x:ap}{f:bt}(g:X.N[i]?=Y x)(hv:JE X.env.scope x)(hd:(x==("__debug__":ap))=I:=by decide)(n:(x==("__classdict__":ap))=I:=by decide):PE X (.Name x f) (Yv i):=by
 intro a s o H Q T h;obtain⟨v,e,h⟩:=h;obtain⟨m,k,j⟩:=T.loc;obtain⟨u,r,l⟩:=j i x v g e hv;have fin:EP X a o Q u s:=⟨v,H,T,r,h⟩
 rcases l with⟨hk,hm⟩|⟨hk,c,b,d⟩
 .exact pC (wpAny_loadName_local T.ok.kind hk k hm fin) hd
 rcases hk with hk|hk
 .exact pC (wpAny_loadName_cell T.ok.kind hk b d fin) hd
 exact pC (wpAny_loadName_free T.ok.kind hk b d fin n) hd
def Ui{i j f}:PE X (.Constant (.int i) j f) (tC<|.int i):=λ_ _ _ H _ T h=>wpAny_Constant_int ⟨.int i,H,T.tok _,⟨_,rfl⟩,h⟩
def WY{b j f}:PE X (.Constant (.bool b) j f) (tC<|.bl b):=λ_ _ _ H _ T h=>Constant_bool ⟨.bl b,H,T,rfl,h⟩
def Gl(X:Cx)(x:ap):Prop:=X.env.kindOf x=Y .globalImplicit
def Dl{E:jZ}{a:kf}{s:jk}{d:St}{H:Hp}{x:ap}{u:jr}{f:bt}{Q:jZ}(T:Inv X a d H s)(b:Gl X x)(c:X.mg x=Y u)(h:Q u s)
  (hd:(x==("__debug__":ap))=I:=by decide):aa (ae X.prog X.w) X.A (aY (.Name x f) X.env) Q E s:=
 Ly T.ok.kind b (Calls.loadGlobal_global (by rw[T.ok.glob];exact T.mod.glob.keeps T.bk) c h) hd
def qo{E:jZ}{a:kf}{s:jk}{g:St}{H:Hp}{x:ap}{u:jr}{f:bt}{Q:jZ}(T:Inv X a g H s)(c:Gl X x)(d:X.mg x=U)(hv:av x=Y u)(h:Q u s)
  (e:x≠"__name__":=by decide)(hd:(x==("__debug__":ap))=I:=by decide):aa (ae X.prog X.w) X.A (aY (.Name x f) X.env) Q E s:=by
 obtain⟨i,h1,b⟩:=T.mod.blt;exact Ly T.ok.kind c (Calls.loadGlobal_builtin (by rw[T.ok.glob];exact T.mod.glob.keeps T.bk) d (by rw[T.ok.blt];exact h1.keeps T.bk) ((b x e).trans hv) h) hd
def C9{x:ap}{v:V}{u:jr}{f:bt}(a:Gl X x)(b:X.mg x=U)(hv:av x=Y u)(r:RelV v u)(c:x≠"__name__":=by decide)(hd:(x==("__debug__":ap))=I:=by decide):PE X (.Name x f) (tC v):=
 λ_ _ _ H _ T h=>qo T a b hv ⟨v,H,T,r,h⟩ c hd
variable {a b:jv}{n tb:TE}{f:bt}
def ac0(b:jv){c:cZ}(h:c≠ .In)(g:c≠ .NotIn):cX c b=I:=by
 have d:(c==cZ.In)=I:=by cases c<;>first|rfl|exact absurd J h
 have e:(c==CmpOp.NotIn)=I:=by cases c<;>first|rfl|exact absurd J g
 cases b with
 |Set _ k _=>show(k==0&&(c== .In||c== .NotIn)&&_)=I;rw[d,e];simp
 |_=>rfl
noncomputable def tB(t:TE):TT:=λe H Q=>t e H λx d=>∃c,x=.bl c/\Q c d
def T5{e:jv}{t:TE}(h:PE X e t)(j:∀c,isTrue e X.env c=(do let v <-c;cW e.pos;b6 [v] (truthy v)):=by intro _;rfl):PT X e (tB t):=by intro g s o H Q T k;refine isTrue_plain (T2 (h g s o H _ T k) ?_)<|j _;rintro v s1 ⟨x,H1,i,m,l⟩;obtain⟨d,rfl,q⟩:=l;cases m;exact vF ⟨H1,i,q⟩
variable {tA o:TT}{g:lg}
noncomputable def YG(t u:TT):TT:=λe H Q=>t e H λc d=>if c=C then u e d Q else Q I d
noncomputable def tOr(t u:TT):TT:=λe H Q=>t e H λc d=>if c=C then Q C d else u e d Q
noncomputable def L4(t:TT):TT:=λe H Q=>t e H λc d=>Q (!c) d
def PR(i:PT X a tA):PW X (.BoolOp .And [a] f) tA:=by
 intro k d s j H Q T h;refine isTrue_and<|T2 (i d s j H Q T h) λc s1 e=>?_
 cases c
 .exact e
 exact isTrue_and_nil e
def TY(i:PT X a tA):PW X (.BoolOp .Or [a] f) tA:=by
 intro k d s j H Q T h;refine isTrue_or<|T2 (i d s j H Q T h) λc s1 e=>?_
 cases c
 .exact isTrue_or_nil e
 exact e
def TZ(k:PT X a tA)(l:PW X (.BoolOp .And (b::g) f) o):PW X (.BoolOp .And (a::b::g) f) (YG tA o):=by
 intro m d s j H Q T h;refine isTrue_and<|T2 (k d s j H _ T h) ?_;rintro c s1 ⟨H1,e,i⟩
 cases c
 .exact⟨H1,e,i⟩
 exact l m d s1 j H1 Q e i
def WU(k:PT X a tA)(l:PW X (.BoolOp .Or (b::g) f) o):PW X (.BoolOp .Or (a::b::g) f) (tOr tA o):=by
 intro m d s j H Q T h;refine isTrue_or<|T2 (k d s j H _ T h) ?_;rintro c s1 ⟨H1,e,i⟩
 cases c
 .exact l m d s1 j H1 Q e i
 exact⟨H1,e,i⟩
def T6(j:PT X a tA):PT X (.UnaryOp .Not a f) (L4 tA):=by intro d s l H Q T h;exact isTrue_not (T2 (j d s l H (λc e=>Q (!c) e) T h) λc s1 O=>by obtain⟨e,i,k⟩:=O;exact ⟨e,i,k⟩)
def Wx(n tb:TE):TE:=λe H Q=>n e H λx d=>∃c,x=.bl c/\if c=C then tb e d Q else Q (.bl I) d
def Ug{op}{t:TE}(h:PE X a t):PE X (.BoolOp op [a] f) t:=λc s e H Q T d=>BoolOp_one<|h c s e H Q T d
def Uk(k:PE X a n)(l:PE X (.BoolOp .And (b::g) f) tb):PE X (.BoolOp .And (a::b::g) f) (Wx n tb):=by
 intro d s j H Q T h;refine BoolOp_and<|T2 (k d s j H _ T h) ?_;rintro v s1 ⟨x,H1,i,m,e⟩;obtain⟨c,rfl,e⟩:=e;cases m;refine vF ?_
 cases c
 .exact⟨.bl I,H1,i,rfl,e⟩
 exact l d s1 j H1 Q i e
noncomputable def tIf(t:TT)(n tb:TE):TE:=λd H Q=>t d H λc e=>if c=C then n d e Q else tb d e Q
def adh{c:jv}(p:PT X c tA)(l:PE X a n)(m:PE X b tb):PE X (.IfExp c a b f) (tIf tA n tb):=by
 intro e s i H Q T h;refine wpAny_IfExp<|T2 (p e s i H _ T h) ?_;rintro d s1 ⟨H1,j,k⟩
 cases d
 .exact m e s1 i H1 Q j k
 exact l e s1 i H1 Q j k
end
def G1(K:jJ)(H:Hp)(a:jh)(xs:List V):Prop:=
 Rd H a (.lst xs)\/
  ∃(o:eM)(b:nJ)(n:Nat),K.lookup a=Y o/\o.cls=.type "list"/\o.dict=U/\o.data=.seq b n/\b.size<=sizeLine/\Vals xs b.toList
def Hd(K:jJ)(H:Hp)(a:jh)(c:List V):Prop:=
 Rd H a (.tup c)\/
  ∃(o:eM)(b:nJ)(n:Nat),K.lookup a=Y o/\o.cls=.type "tuple"/\o.data=.seq b n/\b.size<=sizeLine/\Vals c b.toList
noncomputable def ZD:jr->Option V
 |.none=>Y .Z4
 |.bool b=>Y<|.bl b
 |.int i _=>Y<|.int i
 |.str x _=>Y<|.str x
 |.bytes b _=>Y<|.byt b
 |.float b _=>Y<|.flt b
 |.ref a=>Y<|.ref a
 |.type n=>Y<|.ty n
 |_=>U
def RelV.abs{x:V}{u:jr}(r:RelV x u):ZD u=Y x:=by
 cases x with
 |Z4=>cases r;rfl
 |bl _=>cases r;rfl
 |int _=>obtain⟨t,rfl⟩:=r;rfl
 |str _=>obtain⟨t,rfl⟩:=r;rfl
 |byt _=>obtain⟨t,rfl⟩:=r;rfl
 |flt _=>obtain⟨t,rfl⟩:=r;rfl
 |ref _=>cases r;rfl
 |ty _=>cases r;rfl
def RelV.inj{x y:V}{u:jr}(r:RelV x u)(q:RelV y u):x=y:=lI<|r.abs.symm.trans q.abs
def Vals.inj{c a:List V}{b:kF}(h:Vals c b)(q:Vals a b):c=a:=by
 induction h generalizing a with
 |nil=>cases q;rfl
 |cons r t d=>obtain _|⟨e,f⟩:=q;rw[r.inj e,d f]
section
variable {X:Cx}{pins:kf}{σ:St}{H:Hp}{s:jk}{a:jh}{xs ys:List V}
def G1.of{K:jJ}(h:H a=Y (.lst xs)):G1 K H a xs:=.inl (.inl h)
inductive SqI(P:Array jr->Prop)(xs:List V):Prop where
 |mk (its:kF) (_:Vals xs its) (_:P its.toArray) (_:(TD xs)<=sizeLine)
def Inv.list(T:Inv X pins σ H s)(h:G1 X.K H a xs):SqI (PlainL s.heap a) xs:=by
 rcases h with h|⟨o,b,n,hk,c,hd,d,f,r⟩
 .obtain⟨z,b,n,r,e⟩:=h.ok T.hok;exact⟨b,r,⟨_,n,e,rfl,rfl,rfl⟩,z⟩
 refine⟨b.toList,r,⟨o,n,T.G8 a o hk,c,hd,by simpa using d⟩,?_⟩;have e:=r.length;simp only[lT]at e
 lia
def Inv.tuple(T:Inv X pins σ H s)(h:Hd X.K H a xs):SqI (gW s.heap a) xs:=by
 rcases h with h|⟨o,b,n,hk,c,d,f,r⟩
 .obtain⟨z,b,r,p⟩:=h.ok T.hok;exact⟨b,r,p.tup,z⟩
 refine⟨b.toList,r,⟨o,T.G8 a o hk,c,n,by simpa using d⟩,?_⟩;have e:=r.length;simp only[lT]at e
 lia
def Inv.Er(T:Inv X pins σ H s)(h:G1 X.K H a xs)(j:G1 X.K H a ys):xs=ys:=by
 obtain⟨c,r,⟨o,n,e,_,_,d⟩,_⟩:=T.list h;obtain⟨b,k,⟨m,l,g,_,_,f⟩,_⟩:=T.list j;rw[e]at g;cases g;rw[d]at f;injection f with i _
 have:c=b:=by simpa using nC r0 i
 subst this;exact r.inj k
def Inv.E9(T:Inv X pins σ H s)(h:Hd X.K H a xs)(j:Hd X.K H a ys):xs=ys:=by
 obtain⟨c,r,⟨o,e,_,n,d⟩,_⟩:=T.tuple h;obtain⟨b,k,⟨m,g,_,l,f⟩,_⟩:=T.tuple j;rw[e]at g;cases g;rw[d]at f;injection f with i _
 have:c=b:=by simpa using nC r0 i
 subst this;exact r.inj k
end
noncomputable abbrev Cx.Hh(X:Cx)(E:jZ):Cx:={X with xe:=E}
noncomputable abbrev Cx.J2(X:Cx):Cx:=X.Hh λ_ _=>False
def Cx.Ok.Hh{X:Cx}(ok:X.Ok)(E:jZ):(X.Hh E).Ok:=
 ⟨ok.mod,ok.kind,ok.glob,ok.blt,ok.above,ok.inj,ok.has,ok.cab,ok.hd,ok.frames,ok.stk,ok.exf,ok.bs,ok.bsz,ok.noex,ok.exfs,ok.Ef,ok.frf⟩
def Cx.Ok.De{X:Cx}{E:jZ}(ok:(X.Hh E).Ok):X.Ok:=
 ⟨ok.mod,ok.kind,ok.glob,ok.blt,ok.above,ok.inj,ok.has,ok.cab,ok.hd,ok.frames,ok.stk,ok.exf,ok.bs,ok.bsz,ok.noex,ok.exfs,ok.Ef,ok.frf⟩
section
variable {X:Cx}{a:kf}{b:St}{H:Hp}{s:jk}{E:jZ}
def Inv.Hh(T:Inv X a b H s)(E:jZ):Inv (X.Hh E) a b H s:=⟨T.ok.Hh E,T.os,T.bare,T.base,T.loc,T.cell,T.free,T.freeC,T.pin,T.hok,T.len⟩
def Inv.De(T:Inv (X.Hh E) a b H s):Inv X a b H s:=⟨T.ok.De,T.os,T.bare,T.base,T.loc,T.cell,T.free,T.freeC,T.pin,T.hok,T.len⟩
def SP.De{D:Ends}{f:Flow}{e:jk}(h:SP (X.Hh E) a D f e):SP X a D f e:=by
 cases f with
 |next=>obtain⟨c,d,T,q⟩:=h;exact⟨c,d,T.De,q⟩
 |brk=>obtain⟨c,d,T,q⟩:=h;exact⟨c,d,T.De,q⟩
 |cont=>obtain⟨c,d,T,q⟩:=h;exact⟨c,d,T.De,q⟩
 |ret u=>obtain⟨v,c,d,T,r,q⟩:=h;exact⟨v,c,d,T.De,r,q⟩
def GJ.J2{st:List aW}{t:TS}(h:GJ X.J2 st t):GJ X st t:=λa s b H D T c=>oJ (h a s b H D (T.Hh _) c) (λ_ _ q=>q.De) λ_ _ z=>aJ z
end
section
variable {X:Cx}{st:aW}{j:List aW}{t u:TS}{e:jv}{i:TE}{g:bt}
noncomputable def Wt:TS:=λD a H=>D.nx a H
noncomputable def Yy(t u:TS):TS:=λD a H=>t {D with nx:=u D} a H
def P6:GJ X [] Wt:=λ_ _ a H _ T h=>Gp ⟨a,H,T,h⟩
def adA(h1:PS X st t)(k:GJ X j u):GJ X (st::j) (Yy t u):=by
 intro a s l H D T h;refine Gn<|T2 (h1 a s l H {D with nx:=u D} T h) λf s1 q=>?_
 cases f with
 |next=>obtain⟨b,c,d,q⟩:=q;exact k a s1 b c D d q
 |ret v=>exact q
 |brk=>exact q
 |cont=>exact q
def Inv.quiet{a:kf}{b:St}{H:Hp}{s:jk}(T:Inv X a b H s):OO X.env=I:=by simp[OO,T.ok.kind]
noncomputable def Wv(i:TE):TS:=λD a H=>i a H λ_ b=>D.nx a b
def P7(f:PE X e i)(k:cI e U g.line X.env=pure I:=by rfl):PS X (.Expr e g) (Wv i):=by intro a s b H D T h;exact wpAny_Expr_any (T2 (f a s b H _ T h) λv s1 Q=>by obtain⟨x,c,d,m,l⟩:=Q;exact ⟨b,c,d,l⟩) T.quiet k
noncomputable def Yz(i:TE):TS:=λD a H=>i a H D.rt
def Mz(f:PE X e i):PS X (.Return (Y e) g) (Yz i):=by intro a s b H D T h;exact ss (T2 (f a s b H _ T h) λv s1 Q=>by obtain⟨x,c,d,l,k⟩:=Q;exact ⟨x,b,c,d,l,k⟩)
noncomputable def YD(c:TT)(t u:TS):TS:=λD a H=>c a H λb d=>if b=C then t D a d else u D a d
def WV{c:jv}{a b:List aW}{n:TT}(q:PT X c n)(o:GJ X a t)(p:GJ X b u):PS X (.If c a b g) (YD n t u):=by
 intro f s k H D T h;refine wpAny_If<|T2 (q f s k H _ T h) ?_;rintro d s1 ⟨H1,l,m⟩
 cases d
 .exact p f s1 k H1 D l m
 exact o f s1 k H1 D l m
end
abbrev TG:=V->St->Hp->(St->Hp->Prop)->Prop
abbrev Ku:=List V->St->Hp->(St->Hp->Prop)->Prop
def PG(X:Cx)(a:jv)(t:TG):Prop:=
 ∀(b:kf)(s:jk)(e:St)(H:Hp)(v:V)(u:jr)(Q:St->Hp->Prop),Inv X b e H s->RelV v u->t v e H Q->
  aa (ae X.prog X.w) X.A (cy a X.env u) (λ_ f=>∃c d,Inv X b c d f/\Q c d) X.xe s
def Jt(X:Cx)(h:lg)(t:Ku):Prop:=
 ∀(a:kf)(s:jk)(f:St)(H:Hp)(e:List V)(d:kF)(Q:St->Hp->Prop),Inv X a f H s->Vals e d->t e f H Q->
  aa (ae X.prog X.w) X.A (hZ ((ba h X.env).map (·.2)) d) (λ_ g=>∃b c,Inv X a b c g/\Q b c) X.xe s
abbrev Rz:=V->V->V->Hp->(Hp->Prop)->Prop
def Vm(X:Cx)(t:Rz):Prop:=
 ∀(a:kf)(s:jk)(e:St)(H:Hp)(o i v:V)(d c u:jr)(Q:Hp->Prop),Inv X a e H s->RelV o d->RelV i c->RelV v u->t o i v H Q->
  aa (ae X.prog X.w) X.A (jc d c u) (λ_ f=>∃b,Inv X a e b f/\Q b) X.xe s
section
variable {X:Cx}{d:bt}
noncomputable def EL(i:Nat):TG:=λv a H Q=>Q (a.set i<|Y v) H
def Ia{i:Nat}{x:ap}(c:X.N.Nodup)(f:X.N[i]?=Y x)(g:Loc X.env.scope x)(e:X.fn x=C\/X.env.scope.names.lookup x=Y .local:=by first|exact .inl rfl|exact .inr rfl|assumption):PG X (.Name x d) (EL i):=by intro a s k H v u Q T r h;exact wpAny_assign_Name<|wu T c f g r (λj b=>⟨_,H,b,h⟩) e
noncomputable def Zt:Ku:=λa b H Q=>a=[]/\Q b H
def Xo(t:TG)(u:Ku):Ku:=λc e H Q=>∃v r,c=v::r/\t v e H λa b=>u r a b Q
def Qe:Jt X [] Zt:=by intro a s b H f c Q T r h;obtain⟨e,h⟩:=h;subst e;cases r;exact tp ⟨b,H,T,h⟩
def ade{e:jv}{b:lg}{t:TG}{u:Ku}(h1:PG X e t)(i:Jt X b u)
  (j:(ba (e::b) X.env).map (·.2)=cy e X.env::(ba b X.env).map (·.2):=by rfl):Jt X (e::b) (Xo t u):=by
 intro a s m H p n Q T r h;obtain⟨v,o,g,h⟩:=h;subst g
 cases r with
 |cons r l=>rw[j];refine Gm<|T2 (h1 a s m H _ _ _ T r h) ?_;rintro _ s1 ⟨c,H1,f,k⟩;exact i a s1 c H1 _ _ Q f l k
def Zs(K:jJ)(n:Nat)(t:Ku):TG:=λv c H Q=>∃a b,v=.ref a/\Hd K H a b/\(TD b)=n/\t b c H Q
def Ue{f:lg}{k:Nat}{t:Ku}{n:Nat}(q:X.calm=C)(h:Jt X f t)
  (x:(ba f X.env).length=n:=by rfl)(O:(ba f X.env).findIdx? (·.1)=U:=by rfl):PG X (.Tuple f k d) (Zs X.K n t):=by
 intro c s j H v u Q T r g;obtain⟨a,E,m,y,w,g⟩:=g;subst m;cases r;obtain⟨B,i,z,L⟩:=T.tuple y;refine assign_Tuple_tuple (T.ok.hd q) z (by simp[x,<-w,i.length]) O λp A=>?_;have l:Inv X c j H {s with heap:=p}:=T.kept (t':=s.toks) λb o e=>A b o (kU<|kX e) e;exact h c _ j H E _ Q l (by simpa using i) g
noncomputable def GS(to f:TE)(t:Rz):TG:=λv a H Q=>to a H λo b=>f a b λi c=>t o i v c λe=>Q a e
def MN{o i:jv}{to f:TE}{t:Rz}(q:PE X o to)(p:PE X i f)(w:Vm X t)
  (n:∀v,cy (.Subscript o i d) X.env v=(do
   let b <-b6 [v] (aY o X.env)
   let c <-b6 [v,b] (aY i X.env)
   cW d
   b6 [v,b,c] (jc b c v)
   Go [v,b,c] []):=by intro _;rfl):PG X (.Subscript o i d) (GS to f t):=by
 intro a s e H v u Q T r h;rw[n];refine ji<|mE<|T2 (q a s e H _ T h) ?_;rintro b s1 ⟨x,H1,k,O,z⟩;refine ji<|mE<|T2 (p a s1 e H1 _ k z) ?_;rintro c s2 ⟨y,g,l,E,A⟩;refine ji<|vE<|ji<|mE<|T2 (w a s2 e g x y v b c u _ l O E r A) ?_;rintro _ s3 ⟨j,m,B⟩;exact wpAny_release ⟨e,j,m,B⟩
noncomputable def Te(c:TE)(g:TG):TS:=λD a H=>c a H λx b=>g x a b D.nx
def GQ{b e:jv}{c:TE}{g:TG}(j:PE X e c)(k:PG X b g)(l:cn [b] e d.line X.env=pure I:=by rfl)(m:cq [b] e X.env=pure U:=by rfl)
  (h1:(ba [b] X.env).map (·.2)=[cy b X.env]:=by rfl):PS X (.Assign [b] e d) (Te c g):=by
 intro a s f H D T h;refine wpAny_Assign_stores (T2 (j a s f H _ T h) ?_) l m;rintro v s1 ⟨x,H1,i,o,n⟩;rw[h1];exact T2 (k a s1 f H1 x v _ i o n) λ_ p q=>q
def My{i:Nat}{x:ap}{e:jv}{c:TE}{a:bt}(j:X.N.Nodup)(m:X.N[i]?=Y x)(o:Loc X.env.scope x)(k:PE X e c)(n:cI e (Y<|.Name x a) d.line X.env=pure I:=by rfl)(l:X.fn x=C\/X.env.scope.names.lookup x=Y .local:=by first|exact .inl rfl|exact .inr rfl|assumption):
  PS X (.Assign [.Name x a] e d) (Te c<|EL i):=by
 intro b s r H D T h;refine wpAny_Assign_Name (T2 (k b s r H _ T h) ?_) n;rintro v s1 ⟨y,H1,f,q,p⟩;exact wu f j m o q (λt g=>⟨_,H1,g,p⟩) l
def YA(i j:Nat)(c:TA):TS:=λD a H=>c a H λe b=>∃v w,e=[v,w]/\D.nx ((a.set i<|Y v).set j<|Y w) b
def T8{i j:Nat}{x y:ap}{a b:jv}{C:TA}{m n pt:bt}{kt l k}(U:X.calm=Td)(u:X.N.Nodup)(Y:X.N[i]?=SI x)(hj:X.N[j]?=SI y)(l5:i≠j)
  (z:X.env.scope.names.lookup x=SI .local)(B:X.env.scope.names.lookup y=SI .local)(M:PA X [a,b] C)
  (hw:cq [.Tuple [.Name x m,.Name y n] kt pt] (.Tuple [a,b] l k) X.env=pure (SI [x,y]))
  (hs:cn [.Tuple [.Name x m,.Name y n] kt pt] (.Tuple [a,b] l k) d.line X.env=pure Tk:=by rfl):
  PS X (.Assign [.Tuple [.Name x m,.Name y n] kt pt] (.Tuple [a,b] l k) d) (YA i j C):=by
 intro c s E H D I h;rw[exec_Assign_arm];refine ji<|vE ?_;rw[hs];refine ji<|ju ?_;rw[jP<|by decide];refine ji<|Tuple_<|T2 (M _ c s E H _ I h) ?_;rintro us s1 ⟨vs,H1,L,r1,r⟩;obtain⟨v,w,J,r⟩:=r;subst J
 obtain⟨f,g,rfl,K,F⟩:∃f g,us=[f,g]/\RelV v f/\RelV w g:=by
  cases r1 with
  |cons p q=>
   cases q with
   |cons p' q'=>
    cases q';exact⟨_,_,rfl,p,p'⟩
 refine oy ?_ (by show 2<=sizeLine;decide);have O:Inv X c E H1 {s1 with heap:=s1.heap.push {cls:=.type "tuple",data:=.seq [f,g].toArray}}:=L.kept (t':=s1.toks) λb o e=>kB _ e;rw[hw];refine ji<|ju ?_;show aa (ae X.prog X.w) X.A (do rule "assign.swapped-stores";let items <-unpackItems (.ref s1.heap.objs.size) 2 SS;hZ [λv=>m7 X.env y v,λv=>m7 X.env x v] items.reverse;pure Flow.next) _ _ _
 refine ji<|qy<|ji<|unpackItems_tuple (items:= #[f,g]) (I.ok.hd U) (gW.new s1.heap _) λh' G=>?_;have Q:=O.kept (h':=h') (t':=s1.toks) λb o e=>G b o (kU<|kX e) e;show aa _ _ (hZ [λv=>m7 X.env y v,λv=>m7 X.env x v] [g,f]>>=λ_=>pure Flow.next) _ _ _;refine ji<|Gm<|y6<|wu Q u hj (.inl B) F (λP T=>?_)<|.inr B;refine Gm<|y6<|wu T u Y (.inl z) K (λR t=>tp<|ju ?_)<|.inr z;rw[List.set_comm _ _ (rY l5)]at t;exact⟨_,H1,t,r⟩
def S9(c:TT)(tb:TS):TS:=λD a H=>∃W:Nat->St->Hp->Prop,(∃m,W m a H)/\∀m a H,W m a H->
 c a H λb g=>if b=C then ∃N:St->Hp->Prop,(∀e f,N e f->∃h,h<m/\W h e f)/\tb {D with nx:=N,ct:=N,bk:=D.nx} a g else D.nx a g
def adB{c:jv}{i:List aW}{C:TT}{tb:TS}(B:fw (ae X.prog X.w) X.A X.env X.xe)(O:PT X c C)(L:GJ X i tb):PS X (.While c i [] d) (S9 C tb):=by
 intro a s M H D I h;obtain⟨W,⟨Q,G⟩,turn⟩:=h;refine wpAny_While<|codeAny_whileLoop (λn T=>∃k u,Inv X a k u T/\W n k u) ?_ Q ⟨M,H,I,G⟩;rintro n s1 ⟨g,H1,E,J'⟩;refine vD B<|T2 (O a s1 g H1 _ E (turn n g H1 J')) ?_;rintro b s2 ⟨x,y,l⟩
 cases b with
 |true=>
  obtain⟨N,z,l⟩:=l;rw[jz J];refine vD B<|T2 (L a s2 g x _ y l) λf U m=>?_
  cases f with
  |next=>obtain⟨e,j,o,r⟩:=m;obtain⟨q,p,t⟩:=z e j r;exact⟨q,p,e,j,o,t⟩
  |cont=>obtain⟨e,j,o,r⟩:=m;obtain⟨q,p,t⟩:=z e j r;exact⟨q,p,e,j,o,t⟩
  |brk=>exact m
  |ret v=>exact m
 |false=>rw[jP lQ];exact Gp ⟨g,x,y,l⟩
end
structure It where
 go:Nat->Hp->Prop
 yld:Nat->Hp->V->Hp->Prop
 stop:Nat->Hp->Prop
def ud(X:Cx)(a:kf)(H:Hp)(b:jh):Prop:=
 H b=U/\b≠X.env.locals/\b∉X.fs/\(b∈X.ex\/X.s₀.heap.objs.size<=b)/\(∀x c,X.env.cells.lookup x=Y c->c≠b)/\∀p∈X.pn++a,p.1≠b
def Inv.Jq{X:Cx}{a:kf}{i:St}{H f:Hp}{s:jk}{b:jh}(T:Inv X a i H s)(d:s.heap.objs.size<=b)(g:f b=U):ud X a f b:=by
 refine⟨g,qe<|oK T.lt d,T.MP d,.inr<|lY T.sz d,λx c e z=>?_,λp h z=>?_⟩
 .obtain⟨v,q⟩:=T.cell x c e;exact absurd (oK q.lt<|by rw[z];exact d)<|qf _
 exact absurd (oK (kX (T.pin p h).1)<|by rw[z];exact d) (qf _)
structure Turn(P:jI)(w:jG)(K:jJ)(tg:jv)(J:It)(fp:lG)(it:jh)(tn:Nat->jH->Prop):Prop where
 mem:it∈fp
 obj:∀i h,tn i h->∀b∈fp,∃o,h.get? b=SI o/\∀v,o.data≠ .cell v
 keep:∀i h h',tn i h->(∀b∈fp,∀o,h.get? b=SI o->h'.get? b=SI o)->tn i h'
 item:∀(X:Cx),X.prog=P->X.w=w->X.K=K->X.calm=Td->∀(i:Nat)(pins:kf)(s:jk)(σ:St)(H:Hp)(E:jZ),Inv X pins σ H s->(∀b∈fp,ud X pins H b)->tn i s.heap->J.go i H->
  aa (ae P w) X.A (cu<|.ref it) (λr s1=>∃u,r=SI u/\
   aa (ae P w) X.A (eA tg (.ref it) u) (λ_ s2=>∃x H',Inv X pins σ H' s2/\RelV x u/\J.yld i H x H'/\tn (i+1) s2.heap/\∀b∈fp,H' b=SS) E s1) E s
 done:∀(X:Cx),X.prog=P->X.w=w->X.K=K->X.calm=Td->∀(i:Nat)(pins:kf)(s:jk)(σ:St)(H:Hp)(E:jZ),Inv X pins σ H s->(∀b∈fp,ud X pins H b)->tn i s.heap->J.stop i H->
  aa (ae P w) X.A (cu<|.ref it) (λr s1=>r=SS/\Inv X pins σ H s1) E s
 self:∀(A:jF)(i:Nat)(s:jk)(Q:jZ)(E:jZ),tn i s.heap->Q (.ref it) s->aa (ae P w) A (cM<|.ref it) Q E s
abbrev TI:=St->Hp->(It->Hp->Prop)->Prop
inductive PIE(X:Cx)(pins:kf)(σ:St)(tg:jv)(R:It->Hp->Prop)(eJ:jr)(s2:jk):Prop where
 |mk (it:jh) (fp:lG) (tn:Nat->jH->Prop) (J:It) (H':Hp) (_:eJ=.ref it) (_:Inv X pins σ H' s2) (_:Turn X.prog X.w X.K tg J fp it tn) (_:tn 0 s2.heap) (_:∀b∈fp,ud X pins H' b) (_:R J H')
def PI(X:Cx)(tg iter:jv)(c:TI):Prop:=
 ∀(a:kf)(s:jk)(b:St)(H:Hp)(R:It->Hp->Prop),Inv X a b H s->c b H R->
  aa (ae X.prog X.w) X.A (aY iter X.env) (λv s1=>aa (ae X.prog X.w) X.A (cM v) (PIE X a b tg R) X.xe s1) X.xe s
def NP{M:gy}{A:jF}{E:jZ}{s:jk}{b:jv}{it:jh}{u:jr}{o:eM}{n:String}{c:nJ}{Q:Unit->jk->Prop}(f:s.heap.get? it=Y o)(d:o.cls=.type n)(hd:o.data=.fields c)
  (e:["enumerate","zip","dict_itemiterator","dict_reverseitemiterator","odict_iterator","itertools.zip_longest","itertools.pairwise"].contains n=I)(a:Q () s):aa M A (eA b (.ref it) u) Q E s:=by
 unfold eA
 cases b<;>first
  |exact ju a
  |(cases u<;>first
    |exact ju a
    |(
      refine ji<|CV f ?_;rw[d,hd];show aa M A (if(["enumerate","zip","dict_itemiterator","dict_reverseitemiterator","odict_iterator","itertools.zip_longest","itertools.pairwise"].contains n&&c[0]?==Y (cf _))=C then _ else _) Q E s;rw[jP (by intro h;rw[e,et]at h;cases h)];exact ju a))
noncomputable def Itl(K:jJ)(a:jh):It:=
 ⟨λi H=>∃b x,G1 K H a b/\b[i]?=Y x,λi H x c=>c=H/\∀b,G1 K H a b->b[i]?=Y x,λi H=>∃b,G1 K H a b/\(TD b)<=i⟩
noncomputable def Itt(K:jJ)(a:jh):It:=
 ⟨λi H=>∃b x,Hd K H a b/\b[i]?=Y x,λi H x c=>c=H/\∀b,Hd K H a b->b[i]?=Y x,λi H=>∃b,Hd K H a b/\(TD b)<=i⟩
noncomputable def Ms(lo:Int)(n:Nat):It:=⟨λi _=>i<n,λi H x a=>a=H/\x=.int (lo+i),λi _=>n<=i⟩
def aca{P:jI}{w:jG}{K:jJ}{tg:jv}(a it:jh):Turn P w K tg (Itl K a) [it] it (λi h=>h.IsListIter it a i) where
 mem:=by simp
 obj:=λi h st b g=>by
  have e:b=it:=by simpa using g
  subst e;obtain⟨o,e,c,d⟩:=st;exact⟨o,e,λv z=>by rw[d]at z;cases z⟩
 keep:=λi h j st k=>st.at λo e=>k it (by simp) o e
 item:=by intro X y B t T i f s G H E I l st A;subst y B t;obtain⟨S,x,m,C⟩:=A;obtain⟨L,O,p,D⟩:=I.list m;obtain⟨u,U,F⟩:=O.get C;obtain⟨f0,f1,N,n,q,r⟩:=l it (by simp);refine wpAny_pyNext_list_item st p.isList (x:=u) (by simpa using U) λj Q R=>?_;have J:Inv X f G H {s with heap:=j}:=I.turned (t':=s.toks) (λb o g e=>(R.2 b g).trans e) f0 f1 n q r;obtain⟨o,e,c,d⟩:=id Q;exact⟨u,rfl,NP (s:={s with heap:=j}) e c d (by decide) ⟨x,H,J,F,⟨rfl,λW Y=>by rw[I.Er Y m];exact C⟩,Q,λb g=>(l b g).1⟩⟩
 done:=by intro X y B t T i f s G H E I l st A;subst y B t;obtain⟨S,m,C⟩:=A;obtain⟨L,O,p,D⟩:=I.list m;obtain⟨f0,f1,N,n,q,r⟩:=l it (by simp);have V:=O.length;exact wpAny_pyNext_list_end (I.ok.hd T) st p.isList (by simp;lia) λj M=>⟨rfl,I.turned (t':=s.toks) (λb o g e=>M b o g e) f0 f1 n q r⟩
 self:=λ_ _ _ _ _ st h=>wpAny_pyIter_listiter st h
def abi{P:jI}{w:jG}{K:jJ}{tg:jv}(a it:jh):Turn P w K tg (Itt K a) [it] it (λi h=>h.IsTupleIter it a i) where
 mem:=by simp
 obj:=λi h st b g=>by
  have e:b=it:=by simpa using g
  subst e;obtain⟨o,e,c,d⟩:=st;exact⟨o,e,λv z=>by rw[d]at z;cases z⟩
 keep:=λi h l st k=>st.at λo e=>k it (by simp) o e
 item:=by intro X A C y T i f s G H E I m st B;subst A C y;obtain⟨S,x,n,L⟩:=B;obtain⟨j,O,p,D⟩:=I.tuple n;obtain⟨u,U,F⟩:=O.get L;obtain⟨f0,f1,N,q,r,t⟩:=m it (by simp);refine wpAny_pyNext_tuple_item st (show s.heap.IsTuple a j.toArray from p) (x:=u) (by simpa using U) λl Q R=>?_;have J:Inv X f G H {s with heap:=l}:=I.turned (t':=s.toks) (λb o g e=>(R.2 b g).trans e) f0 f1 q r t;obtain⟨o,e,c,d⟩:=id Q;exact⟨u,rfl,NP (s:={s with heap:=l}) e c d (by decide) ⟨x,H,J,F,⟨rfl,λW Y=>by rw[I.E9 Y n];exact L⟩,Q,λb g=>(m b g).1⟩⟩
 done:=by intro X A C y T i f s G H E I m st B;subst A C y;obtain⟨S,n,L⟩:=B;obtain⟨j,O,p,D⟩:=I.tuple n;obtain⟨f0,f1,N,q,r,t⟩:=m it (by simp);have V:=O.length;exact wpAny_pyNext_tuple_end (I.ok.hd T) st (show s.heap.IsTuple a j.toArray from p) (by simp;lia) λl M=>⟨rfl,I.turned (t':=s.toks) (λb o g e=>M b o g e) f0 f1 q r t⟩
 self:=λ_ _ _ _ _ st h=>wpAny_pyIter_tupleiter st h
def aa3{P:jI}{w:jG}{K:jJ}{Q:jv}(it:jh)(lo:Int)(n:Nat):Turn P w K Q (Ms lo n) [it] it (λi h=>Sc h it (lo+(i:Nat)*1) ((n:Int)-(i:Nat)) 1) where
 mem:=by simp
 obj:=λi h st b c=>by
  have e:b=it:=by simpa using c
  subst e
  exact⟨_,st,λv z=>by have T:fL _=fG v:=z;cases T⟩
 keep:=λi h d st k=>k it (by simp) _ st
 item:=by intro X p u m q i a s A H E N f st r;subst p u m;obtain⟨f0,f1,L,g,j,l⟩:=f it (by simp);have W:=Walks.range (prog:=X.prog) (w:=X.w) (N.ok.hd q) it lo 1 n;refine W.item i s _ _ r st λv d y hv x O=>?_;obtain⟨t,rfl⟩:=hv;have B:Inv X a A H {s with heap:=d,toks:=y}:=N.turned (λb o c e=>O b o (by simpa using c) e) f0 f1 g j l;refine⟨_,rfl,NP (s:={s with heap:=d,toks:=y}) (n:="range_iterator") x J J (by decide) ⟨.int<|lo+i,H,B,⟨t,?_⟩,⟨rfl,rfl⟩,x,λb c=>(f b c).1⟩⟩;rw[Gk]
 done:=by intro X p u m q i a s A H E N f st r;subst p u m;obtain⟨f0,f1,L,g,j,l⟩:=f it (by simp);exact wpAny_pyNext_range_end (N.ok.hd q) st (by have:n<=i:=r;lia) λd M=>⟨rfl,N.turned (t':=s.toks) (λb o c e=>M b o c e) f0 f1 g j l⟩
 self:=λ_ _ _ _ _ st h=>wpAny_pyIter_rangeiter st h
section
variable {X:Cx}{tg:jv}
def Xl(K:jJ)(c:TE):TI:=λe H R=>c e H λx b=>∃a,x=.ref a/\(∃d,G1 K b a d)/\R (Itl K a) b
def Zr(K:jJ)(c:TE):TI:=λe H R=>c e H λx b=>∃a,x=.ref a/\(∃d,Hd K b a d)/\R (Itt K a) b
def Qc{l:jv}{f:TE}(i:PE X l f):PI X tg l (Xl X.K f):=by
 intro c s r H R T h;refine T2 (i c s r H _ T h) ?_;rintro v s1 ⟨x,H1,d,n,m⟩;obtain⟨a,e,⟨w,j⟩,q⟩:=m;subst e;cases n;obtain⟨k,u,p,t⟩:=d.list j;refine xP p.isList ?_;refine⟨s1.heap.objs.size,[s1.heap.objs.size],_,_,H1,rfl,d.kept (t':=s1.toks) λb o e=>kB _ e,aca a _,⟨_,kW _ rfl,rfl,rfl⟩,λb g=>?_,q⟩;have e:b=s1.heap.objs.size:=by simpa using g
 subst e;exact d.Jq (kD _)<|d.hok.fresh<|kD _
def Ud{l:jv}{g:TE}(j:PE X l g):PI X tg l (Zr X.K g):=by
 intro c s r H R T h;refine T2 (j c s r H _ T h) ?_;rintro v s1 ⟨x,H1,d,n,m⟩;obtain⟨a,e,⟨w,k⟩,q⟩:=m;subst e;cases n;obtain⟨f,u,p,t⟩:=d.tuple k;refine Gj (show s1.heap.IsTuple a f.toArray from p) ?_;refine⟨s1.heap.objs.size,[s1.heap.objs.size],_,_,H1,rfl,d.kept (t':=s1.toks) λb o e=>kB _ e,abi a _,⟨_,kW _ rfl,rfl,rfl⟩,λb i=>?_,q⟩;have e:b=s1.heap.objs.size:=by simpa using i
 subst e;exact d.Jq (kD _)<|d.hok.fresh<|kD _
def Eh{c:kf}{g:St}{H:Hp}{s:jk}{R:It->Hp->Prop}{E:jZ}{lo a:Int}{t u v:wP}{f:Nat}(T:Inv X c g H s)(h1: -(2^62)<=lo)(j:lo<2^62)(k: -(2^62)<=a)(l:a<2^62)
  (q:R (Ms lo (a-lo).toNat) H):aa (ae X.prog X.w) X.A (cM<|.ref s.heap.objs.size) (PIE X c g tg R) E {s with heap:=s.heap.push {cls:=.type "range",data:=.fields #[.int lo t,.int a u,.int 1 v]},toks:=f}:=by
 refine wpAny_pyIter_range (IsRange.new ..) (small_one h1 j k l) ?_;have d:Inv X c g H {s with heap:=s.heap.push {cls:=.type "range",data:=.fields #[.int lo t,.int a u,.int 1 v]},toks:=f}:=T.kept λb o e=>kB _ e
 refine⟨(s.heap.push {cls:=.type "range",data:=.fields #[.int lo t,.int a u,.int 1 v]}).objs.size,[(s.heap.push {cls:=.type "range",data:=.fields #[.int lo t,.int a u,.int 1 v]}).objs.size],_,_,H,rfl,
  d.kept (t':=f) λb o e=>kB _ e,aa3 _ lo (a-lo).toNat,?_,λb m=>?_,q⟩
 .have h:lo+((0:Nat):Int)*1=lo:=by simp
  have i:(((a-lo).toNat:Nat):Int)-((0:Nat):Int)=fx lo a 1:=by rw[Db];split<;>lia
  show Sc _ _ (lo+((0:Nat):Int)*1) ((((a-lo).toNat:Nat):Int)-((0:Nat):Int)) 1;rw[h,i];exact kW _ rfl
 have e:b=(s.heap.push {cls:=.type "range",data:=.fields #[.int lo t,.int a u,.int 1 v]}).objs.size:=by simpa using m
 subst e;exact d.Jq (kD _)<|d.hok.fresh<|kD _
def Xk(b:TA):TI:=λd H R=>b d H λc a=>∃j:Int,c=[.int j]/\ -(2^62)<=j/\j<2^62/\R (Ms 0 j.toNat) a
def Xj(b:TA):TI:=λd H R=>b d H λc a=>∃i j:Int,c=[.int i,.int j]/\(-(2^62)<=i/\i<2^62/\ -(2^62)<=j/\j<2^62)/\R (Ms i (j-i).toNat) a
def abT{a:jv}{f:TA}{p c:bt}(k:Gl X "range")(l:X.mg "range"=U)(i:PA X [a] f)(m:ac [a] X.env=[(I,aY a X.env)]:=by rfl):PI X tg (.Call (.Name "range" p) [a] [] c) (Xk f):=by
 intro b s v H R T h;refine Call_<|qo T k l xN<|zI (T2 (i c b s v H _ T h) ?_) m J;rintro us s1 ⟨w,H1,g,o,d⟩;obtain⟨j,e,d,n,q⟩:=d;subst e
 cases o with
 |cons r u=>
  cases u;obtain⟨t,rfl⟩:=r;exact I0<|Eh g (by lia) (by lia) d n (by simpa using q)
def abS{a b:jv}{l:TA}{p d:bt}(o:Gl X "range")(u:X.mg "range"=U)(n:PA X [a,b] l)(v:ac [a,b] X.env=[(I,aY a X.env),(I,aY b X.env)]:=by rfl)(k:ac [b] X.env=[(I,aY b X.env)]:=by rfl):
  PI X tg (.Call (.Name "range" p) [a,b] [] d) (Xj l):=by
 intro c s B H R T h;refine Call_<|qo T o u xN<|zI (T2 (n d c s B H _ T h) λL s1 N=>?_) (by rw[v,k]) (by rw[k];rfl);obtain⟨O,Q,m,A,f⟩:=N;obtain⟨i,j,e,⟨f,w,x,y⟩,q⟩:=f;subst e
 cases A with
 |cons r g=>
  cases g with
  |cons z g=>
   cases g;obtain⟨t,rfl⟩:=r;obtain⟨E,rfl⟩:=z;exact IX<|Eh m f w x y q
def YE(j:TI)(g:TG)(tb:TS):TS:=λD a H=>j a H λT f=>∃W:Nat->Nat->St->Hp->Prop,(∃m,W 0 m a f)/\∀i m a H,W i m a H->
 (T.stop i H/\D.nx a H)\/(T.go i H/\∃N:St->Hp->Prop,(∀c b,N c b->∃e,e<m/\W (i+1) e c b)/\∀x b,T.yld i H x b->g x a b λd h=>tb {D with nx:=N,ct:=N,bk:=D.nx} d h)
noncomputable def zY(a:lG)(h:jH):List (jh×eM):=a.filterMap λb=>(h.get? b).map λo=>(b,o)
def rK{a:lG}{h:jH}{b:jh}{o:eM}(c:b∈a)(e:h.get? b=Y o):(b,o)∈zY a h:=fm.mpr ⟨b,c,by rw[e];rfl⟩
def abY{a:lG}{h:jH}{p:jh×eM}(f:p∈zY a h):p.1∈a/\h.get? p.1=Y p.2:=by
 obtain⟨b,d,e⟩:=fm.mp f
 cases q:h.get? b with
 |none=>rw[q]at e;cases e
 |some o=>rw[q]at e;have c:(b,o)=p:=lI e;subst c;exact⟨d,q⟩
def Inv.pinned{a:kf}{h:St}{H:Hp}{s:jk}{c:lG}(T:Inv X a h H s)(j:∀b∈c,ud X a H b)(k:∀b∈c,∃o,s.heap.get? b=Y o/\∀v,o.data≠ .cell v):Inv X (a++zY c s.heap) h H s:=
 T.GL λp l=>(qm.mp l).elim (λz=>T.pin p<|oX _ z) λz=>by obtain⟨g,e⟩:=abY z;obtain⟨f0,f1,i,_⟩:=j p.1 g;obtain⟨o,f,d⟩:=k p.1 g;rw[e]at f;cases f;exact⟨e,f0,f1,i,d⟩
def Inv.Bj{a d:kf}{b:St}{H:Hp}{s:jk}(T:Inv X (a++d) b H s):Inv X a b H s:=T.GL λp c=>T.pin p<|oX _ (CW _ c)
def T9{iter:jv}{y:List aW}{wi:TI}{g:TG}{tb:TS}{Q:bt}(C:fw (ae X.prog X.w) X.A X.env X.xe)(hc:X.calm=Td)(hi:PI X tg iter wi)(hg:PG X tg g)(l:GJ X y tb)
  (hs:∀x,ax iter X.env x=pure x:=by intro _;rfl):PS X (.For tg iter y [] Q) (YE wi g tb):=by
 intro a s Z H D I h;refine wpAny_For (T2 (hi a s Z H _ I h) λv s1 h1=>T2 h1 λeJ s2 h2=>?_) hs;obtain⟨it,B,V,J,H2,e,I2,T,aO,P,W,⟨m0,w0⟩,turn⟩:=h2;subst e;have M:∀{t:Hp},(∀b∈B,t b=U)->∀b∈B,ud X a t b:=λhn b l=>⟨hn b l,(P b l).2⟩
 refine codeAny_forLoop_any (λn R=>∃i p t,Inv X a p t R/\V i R.heap/\(∀b∈B,t b=U)/\W i n p t) ?_ m0 ⟨0,Z,H2,I2,aO,λb l=>(P b l).1,w0⟩;rintro n S ⟨i,q,L,Y,F,K,w3⟩;rcases turn i n q L w3 with⟨stop,qn⟩|⟨go,N,hN,step⟩
 .refine vD C (T2 (T.done X Tl Tl Tl hc i a S q L X.xe Y (M K) F stop) ?_);rintro r s4 ⟨O,I4⟩;subst O;exact Gp ⟨q,L,I4,qn⟩
 refine vD C (T2 (T.item X Tl Tl Tl hc i a S q L X.xe Y (M K) F go) ?_);rintro r s4 ⟨u,O,h4⟩;subst O;refine vD C<|T2 h4 ?_;rintro _ s5 ⟨x,U',I5,r5,y5,cJ,iU⟩;have jg:=I5.pinned (M iU)<|T.obj _ _ cJ;refine vD C<|T2 (hg _ s5 q U' x u _ jg r5 (step x U' y5)) ?_;rintro _ s6 ⟨σ6,H6,I6,q6⟩;refine vD C (T2 (l _ s6 σ6 H6 _ I6 q6) λf G z=>?_)
 have again:∀{c:St}{j:Hp},Inv X (a++zY B s5.heap) c j G->N c j->∃m,m<n/\∃i p t,Inv X a p t G/\V i G.heap/\(∀b∈B,t b=U)/\W i m p t:=λ{c j} k E=>by obtain⟨m',hm,w7⟩:=hN c j E;refine⟨m',hm,i+1,c,j,k.Bj,T.keep _ _ _ cJ λb l o e=>(k.pin (b,o)<|oX _ (oX _ (rK l e))).1,λb l=>?_,w7⟩;obtain⟨o,e,d⟩:=T.obj _ _ cJ b l;exact(k.pin (b,o)<|oX _ (oX _ (rK l e))).2.1
 cases f with
 |next=>obtain⟨c,j,k,E⟩:=z;exact again k E
 |cont=>obtain⟨c,j,k,E⟩:=z;exact again k E
 |brk=>obtain⟨c,j,k,z⟩:=z;exact⟨c,j,k.Bj,z⟩
 |ret v=>obtain⟨x7,c,j,k,r7,z⟩:=z;exact⟨x7,c,j,k.Bj,r7,z⟩
end
abbrev R2:=V->V->Hp->VK->Prop
def Dw(X:Cx)(f:zk)(r:R2):Prop:=
 ∀(a:kf)(s:jk)(b:St)(H:Hp)(x y:V)(v u:jr)(Q:VK),Inv X a b H s->RelV x v->RelV y u->r x y H Q->
  aa (ae X.prog X.w) X.A (f v u) (EP X a b Q) X.xe s
def NN(X:Cx)(f:jr->dc jr)(r:V->Hp->VK->Prop):Prop:=
 ∀(a:kf)(s:jk)(b:St)(H:Hp)(x:V)(v:jr)(Q:VK),Inv X a b H s->RelV x v->r x H Q->
  aa (ae X.prog X.w) X.A (f v) (EP X a b Q) X.xe s
def lr(X:Cx)(f:jr)(r:List V->Hp->VK->Prop):Prop:=
 ∀(a:kf)(s:jk)(c:St)(H:Hp)(xs:List V)(b:kF)(Q:VK),Inv X a c H s->Vals xs b->r xs H Q->
  aa (ae X.prog X.w) X.A (call f b) (EP X a c Q) X.xe s
noncomputable def L3(r:R2)(d tb:TE):TE:=λa H Q=>d a H λx b=>tb a b λy c=>r x y c Q
def tUn(r:V->Hp->VK->Prop)(b:TE):TE:=λc H Q=>b c H λx a=>r x a Q
def rI(T:Int->Int->Prop)(g:Int->Int->V):R2:=λx y H Q=>∃i j,x=.int i/\y=.int j/\T i j/\Q (g i j) H
def N0(g:Int->Int->V):R2:=λx y H Q=>∃i j,x=.int i/\y=.int j/\Q (g i j) H
def rU(g:Int->V):V->Hp->VK->Prop:=λx H Q=>∃i,x=.int i/\Q (g i) H
section
variable {X:Cx}{a b c:jv}{ta tb tc:TE}{pos:bt}
def Vg(o:PE X a ta)(p:PE X b tb){d:kf}{s:jk}{g:St}{H:Hp}{R:V->V->Hp->Prop}(T:Inv X d g H s)
  (h:ta g H λx l=>tb g l λy e=>R x y e){Q:jZ}{f:zk}
  (q:∀v u k x y e,Inv X d g e k->RelV x v->RelV y u->R x y e->aa (ae X.prog X.w) X.A (f v u) Q X.xe k):
  aa (ae X.prog X.w) X.A (aY a X.env) (λv i=>aa (ae X.prog X.w) X.A (aY b X.env) (λu j=>aa (ae X.prog X.w) X.A (f v u) Q X.xe j) X.xe i) X.xe s:=by
 refine T2 (o d s g H _ T h) ?_;rintro v s1 ⟨x,l,m,z,r⟩;refine T2 (p d s1 g l _ m r) ?_;rintro u k ⟨y,e,n,B,t⟩;exact q v u k x y e n z B t
def WX{e:Operator}{r:R2}(k:Dw X (bJ e) r)(i:PE X a ta)(j:PE X b tb):PE X (.BinOp a e b pos) (L3 r ta tb):=by intro d s o H Q T h;exact wpAny_BinOp<|Vg i j T h λv u n x y f g l m q=>k d n o f x y v u Q g l m q
def WW{e:UnaryOp}{r:V->Hp->VK->Prop}(k:NN X (F2 e) r)(j:PE X a ta):PE X (.UnaryOp e a pos) (tUn r ta):=by intro d s f H Q T h;exact UnaryOp_ (T2 (j d s f H _ T h) λv s1 O=>by obtain⟨x,g,i,m,l⟩:=O;exact k d s1 f g x v Q i m l)
def N5{f:zk}{O:Int->Int->Prop}{g:Int->Int->Int}
  (rule:∀(i j:Int)(t u:wP)(s:jk)(Q:jZ)(E:jZ),O i j->Q (.int (g i j) s.toks) {s with toks:=s.toks+1}->aa (ae X.prog X.w) X.A (f (.int i t)<|.int j u) Q E s):
  Dw X f (rI O λi j=>.int (g i j)):=by
 intro d s n H x y v u Q T k l h;obtain⟨i,j,rfl,rfl,e,q⟩:=h;obtain⟨t,rfl⟩:=k;obtain⟨m,rfl⟩:=l;exact rule i j t m s _ _ e ⟨.int<|g i j,H,T.tok _,⟨_,rfl⟩,q⟩
def W2{f:zk}{g:Int->Int->Int}
  (rule:∀(i j:Int)(t u:wP)(s:jk)(Q:jZ)(E:jZ),Q (.int (g i j) s.toks) {s with toks:=s.toks+1}->aa (ae X.prog X.w) X.A (f (.int i t)<|.int j u) Q E s):
  Dw X f (N0 λi j=>.int (g i j)):=by
 intro d s m H x y v u Q T e k h;obtain⟨i,j,rfl,rfl,q⟩:=h;obtain⟨t,rfl⟩:=e;obtain⟨l,rfl⟩:=k;exact rule i j t l s _ _ ⟨.int<|g i j,H,T.tok _,⟨_,rfl⟩,q⟩
def Ky(i j:Int):Prop:=0<j/\j<1073741824
def DQ(i j:Int):Prop:=0<=j/\j<=1000000/\i.natAbs<2^64
def DJ(i j:Int):Prop:=(-(2^64)<i/\i<2^64)\/(-(2^64)<j/\j<2^64)
def DJ.ok{i j:Int}(h:DJ i j):IntMulOk i j:=by
 rcases h with⟨h1,d⟩|⟨h1,d⟩
 .exact .of_left (Do h1 d)
 exact .of_right (Do h1 d)
def Ux:Dw X (bJ .Add) (N0 λi j=>.int (i+j)):=W2 λ_ _ _ _ _ _ _ q=>add_int q
def Ur:Dw X (bJ .Sub) (N0 λi j=>.int (i-j)):=W2 λ_ _ _ _ _ _ _ q=>sub_int q
def Uu:Dw X (bJ .Mult) (rI DJ λi j=>.int (i*j)):=N5 λ_ _ _ _ _ _ _ d q=>mul_int q d.ok
def Qu:Dw X (bJ .FloorDiv) (rI Ky λi j=>.int (i / j)):=N5 λi j _ _ _ _ _ d q=>by have h1:(0:Int)<j:=d.1;have e:j<1073741824:=d.2;exact floordiv_int (by lia) (by rw[Int.fdiv_eq_ediv_of_nonneg i<|by lia];exact q)<|.inl<|PyProof.noPylong_small (by lia)
def Uv:Dw X (bJ .Mod) (rI (λ_ j=>0<j) λi j=>.int (i%j)):=N5 λi j _ _ _ _ _ d q=>by have h1:(0:Int)<j:=d;exact mod_int' (by lia) (by rw[Int.fmod_eq_emod_of_nonneg i<|by lia];exact q)
def Us:Dw X (bJ .Pow) (rI DQ λi j=>.int (i^j.toNat)):=N5 λ_ _ _ _ _ _ _ d q=>pow_int_small d.1 d.2.1 d.2.2 q
def unI{f:jr->dc jr}{g:Int->Int}
  (rule:∀(i:Int)(t:wP)(s:jk)(Q:jZ)(E:jZ),Q (.int (g i) s.toks) {s with toks:=s.toks+1}->aa (ae X.prog X.w) X.A (f<|.int i t) Q E s):
  NN X f (rU λi=>.int (g i)):=by
 intro d s j H x v Q T e h;obtain⟨i,rfl,q⟩:=h;obtain⟨t,rfl⟩:=e;exact rule i t s _ _ ⟨.int<|g i,H,T.tok _,⟨_,rfl⟩,q⟩
def S6:NN X (F2 .USub) (rU λi=>.int (-i)):=unI λ_ _ _ _ _ q=>neg_int q
def M5(b:jv){d:cZ}(h:d≠ .In:=by decide)(e:d≠ .NotIn:=by decide):cX d b=I:=ac0 b h e
def Qg{e:cZ}{r:R2}(l:Dw X (aT e) r)(i:PE X a ta)(j:PE X b tb)(k:cX e b=I):PE X (.Compare a [e] [b] pos) (L3 r ta tb):=by intro d s p H Q T h;exact wpAny_Compare1 (Vg i j T h λv u o x y f g m n q=>l d o p f x y v u Q g m n q) k
def Wr(t:TE):TT:=λe H Q=>t e H λx d=>∃k,x=.bl k/\Q k d
def PZ{g:cZ}{r:R2}(A:Dw X (aT g) r)(q:PE X a ta)(t:PE X b tb)(w:cX g b=I):PT X (.Compare a [g] [b] pos) (Wr<|L3 r ta tb):=by intro d s i H Q N h;refine wpAny_isTrue_Compare1 (T2 (q d s i H _ N h) λv s1 f=>?_) w;obtain⟨x,j,n,L,B⟩:=f;refine T2 (t d s1 i j _ n B) λu G f=>?_;obtain⟨y,l,o,O,M⟩:=f;refine T2 (A d G i l x y v u _ o L O M) λc J f=>?_;obtain⟨z,m,p,T,k,e,E⟩:=f;subst e;cases T;exact vF ⟨m,p,E⟩
def Dj:(sizeLine:Nat)<2^63:=by rw[kT];decide
def abe:Dw X (bJ .Add) (λx y H Q=>∃i j,x=.str i/\y=.str j/\i.length+j.length<=sizeLine/\Q (.str<|i++j) H):=by intro d s l H x y v u Q T f g h;obtain⟨i,j,rfl,rfl,e,q⟩:=h;obtain⟨t,rfl⟩:=f;obtain⟨t',rfl⟩:=g;exact add_str (λt' k=>⟨.str<|i++j,H,T.tok _,⟨_,rfl⟩,q⟩) e
inductive Vl1(x:V)(us:kF):Prop where
 |mk (u:jr) (_:us=[u]) (_:RelV x u)
inductive Vl2(x y:V)(us:kF):Prop where
 |mk (u w:jr) (_:us=[u,w]) (_:RelV x u) (_:RelV y w)
def qC{x:V}{d:kF}(r:Vals [x] d):Vl1 x d:=by
 cases r with
 |cons e f=>cases f;exact⟨_,rfl,e⟩
def wm{x y:V}{d:kF}(r:Vals [x,y] d):Vl2 x y d:=by
 cases r with
 |cons e f=>
  cases f with
  |cons g h=>cases h;exact⟨_,_,rfl,e,g⟩
def Oo:lr X (.builtin "abs") (λe H Q=>∃i,e=[.int i]/\Q (.int (if i<0 then -i else i)) H):=by intro d s j H e g Q T r h;obtain⟨i,rfl,q⟩:=h;obtain⟨u,rfl,t,rfl⟩:=qC r;exact LK λu f=>⟨.int (if i<0 then -i else i),H,T.tok _,⟨_,rfl⟩,q⟩
def acB(g:X.calm=C):lr X (.builtin "max") (λf H Q=>∃i j,f=[.int i,.int j]/\Q (.int (if j>i then j else i)) H):=by
 intro e s v H f o Q T r h;obtain⟨i,j,rfl,q⟩:=h;obtain⟨u,p,rfl,⟨t,rfl⟩,⟨m,rfl⟩⟩:=wm r;refine max_two_ints (T.ok.hd g) λl n k=>⟨_,H,T.kept k,?_,q⟩
 by_cases d:j>i
 .rw[jz d,jz d];exact⟨_,rfl⟩
 rw[jP d,jP d];exact⟨_,rfl⟩
def acA(g:X.calm=C):lr X (.builtin "min") (λf H Q=>∃i j,f=[.int i,.int j]/\Q (.int (if j<i then j else i)) H):=by
 intro e s v H f o Q T r h;obtain⟨i,j,rfl,q⟩:=h;obtain⟨u,p,rfl,⟨t,rfl⟩,⟨m,rfl⟩⟩:=wm r;refine min_two_ints (T.ok.hd g) λl n k=>⟨_,H,T.kept k,?_,q⟩
 by_cases d:j<i
 .rw[jz d,jz d];exact⟨_,rfl⟩
 rw[jP d,jP d];exact⟨_,rfl⟩
def Cb:lr X (.type "int") (λd H Q=>(∃i,d=[.int i]/\Q (.int i) H)\/∃k,d=[.bl k]/\Q (.int (if k then 1 else 0)) H):=by
 intro e s j H d g Q T r h;rcases h with⟨i,rfl,q⟩|⟨k,rfl,q⟩
 .obtain⟨u,rfl,t,rfl⟩:=qC r;exact call_int_int ⟨.int i,H,T,⟨_,rfl⟩,q⟩
 obtain⟨u,rfl,f⟩:=qC r;cases f;exact call_int_bool ⟨.int (if k then 1 else 0),H,T.tok _,⟨_,rfl⟩,q⟩
end
section
variable {a:jI}{w:jG}{A:jF}{E:jZ}{s:jk}{K:jJ}{x d C f:jh}{c:ml}{b:ap}{v:jr}
end
def Hs.some_of{v:V}{o:Option jr}(r:Hs (Y v) o):∃u,o=Y u/\RelV v u:=by
 cases o with
 |none=>exact(show False from r).elim
 |some u=>exact⟨u,rfl,r⟩
section
variable {P:jI}{w:jG}{H e:Hp}{h c:jH}{a C d:jh}{fs b:List (ap×V)}
end
section
variable {X:Cx}{b:kf}{c:St}{H:Hp}{s:jk}{a C d:jh}{fs:List (ap×V)}{f:ap}{v:V}{A:jF}{E:jZ}
end
section
variable {X:Cx}{o e a:jv}{f:ap}{c b h:bt}{g d:TE}
end
section
variable {X:Cx}{a:kf}{d:St}{H:Hp}{s:jk}{A:jF}{E:jZ}{Q:jZ}{c:jr}{b:Bool}
end
structure YP(k:Nat)(A:jF):Prop where
 hd:A.handled=SS
 dp:A.depth+3*k+5<recursionLimit
 un:A.units+16*k+200<aI
 gd:A.guards=SI []:=by rfl
def YP.mono{j k:Nat}{A:jF}(r:YP k A)(h:j<=k):YP j A:=⟨r.hd,by have:=r.dp;lia,by have:=r.un;lia,r.gd⟩
def YP.deeper{k:Nat}{A:jF}(r:YP (k+1) A)(a:c9):YP k (A.deeper a):=
 ⟨r.hd,by have:=r.dp;show A.depth+1+3*k+5<_;lia,by have:=r.un;show A.units+3+16*k+200<_;lia,r.gd⟩
def YP.depth{k:Nat}{A:jF}(r:YP k A):A.depth<recursionLimit:=by have:=r.dp;lia
noncomputable def YB:TA:=λ_ H Q=>Q [] H
noncomputable def Ww(d:TE)(e:TA):TA:=λa H Q=>d a H λx b=>e a b λf c=>Q (x::f) c
section
variable {X:Cx}{e:jv}{c:lg}{d:TE}{t:TA}{a:bt}
def oB:PA X [] YB:=λ_ _ _ _ H Q T h=>Gi ⟨[],H,T,.nil,h⟩
def ma(k:PE X e d)(l:PA X c t)(m:ac (e::c) X.env=(I,aY e X.env)::ac c X.env:=by rfl):PA X (e::c) (Ww d t):=by intro a b s f H Q T h;rw[m];show aa _ _ (sx ((I,aY e X.env)::aV a (ac c X.env))) _ _ s;refine CU<|T2 (k b s f H _ T h) ?_;rintro u s1 ⟨x,H1,i,p,n⟩;exact T2 (l a b s1 f H1 _ i n) λw v ⟨r,g,j,q,o⟩=>⟨x::r,g,j,.cons p q,o⟩
def Yx(t:TA):TE:=λg H Q=>t g H λf b=>TD f<=sizeLine/\∀p,b p=U->Q (.ref p) (upd b p<|.tup f)
def YC(t:TA):TE:=λg H Q=>t g H λf b=>TD f<=sizeLine/\∀p,b p=U->Q (.ref p) (upd b p<|.lst f)
def MO{m}(h:PA X c t):PE X (.Tuple c m a) (Yx t):=by intro f s o H Q T k;refine wpAny_Tuple_spliced<|T2 (h a f s o H _ T k) λl s1 ⟨n,g,i,r,z,q⟩=>⟨by rw[<-r.length];exact z,?_⟩;have j:g s1.heap.objs.size=U:=i.hok.fresh<|kD _;refine⟨.ref s1.heap.objs.size,upd g s1.heap.objs.size<|.tup n,i.laid (t':=s1.toks) (λb u e=>kB _ e) (kD _) ?_,rfl,q _ j⟩;exact⟨z,l,r,Hq.new _ _⟩
def Uh(h:PA X c t):PE X (.List c a) (YC t):=by intro f s n H Q T k;refine wpAny_List_spliced<|T2 (h a f s n H _ T k) λl s1 ⟨m,g,i,r,z,q⟩=>⟨by rw[<-r.length];exact z,?_⟩;have j:g s1.heap.objs.size=U:=i.hok.fresh<|kD _;refine⟨.ref s1.heap.objs.size,upd g s1.heap.objs.size<|.lst m,i.laid (t':=s1.toks) (λb u e=>kB _ e) (kD _) ?_,rfl,q _ j⟩;exact⟨z,l,0,r,kW _ rfl⟩
end
abbrev Sp:=List V->Hp->VK->XK->Prop
abbrev JI:=List c9->Hp->jk->XK->jr->jk->Prop
structure Ht(P:jI)(w:jG)(K:jJ)(mg:ml)(base:jH)(A:jF)(outer:List c9)(s:jk)(H:Hp):Prop where
 frames:A.frames=SI outer
 mod:Mod K mg base
 bs:∀b o,base.get? b=SI o->s.heap.get? b=SI o/\H b=SS
 bsz:base.objs.size<=s.heap.objs.size
 Ef:s.heap.FunFrames base outer
 frf:∀b∈J6 outer,H b=SS
 hok:EE P w H s.heap
 bare:dR s.gens
inductive CE(outer:List c9)(P:jI)(w:jG)(H:Hp)(s:jk)(Q:VK)(u:jr)(s':jk):Prop where
 |mk (v:V) (H':Hp) (_:s'.os=s.os) (_:dR s'.gens) (_:Un (J6 outer) [] H H' s.heap s'.heap) (_:EE P w H' s'.heap) (_:RelV v u) (_:Q v H')
def CR(CX:JI)(a:List c9)(P:jI)(w:jG)(H:Hp)(s:jk)(Q:VK)(E:XK)(r:j8)(b:jk):Prop:=
 match r with
 |.ok (.ret u)=>CE a P w H s Q u b
 |.ok _=>False
 |.error e=>CX a H s E e b
structure DF(P:jI)(w:jG)(K:jJ)(mg:ml)(base:jH)(CX:JI)(k:Nat)(f:jh)(fd:nu)(ps:jK)(sp:Sp):Prop where
 len:∀vs H Q E,sp vs H Q E->TD vs=TD ps
 run:∀(A:jF)(outer:List c9)(s:jk)(H:Hp)(args:Args)(us:kF)(vs:List V)(Q:VK)(E:XK),YP k A->Ht P w K mg base A outer s H->fZ s fd args (ps.zip us)->Vals vs us->sp vs H Q E->
  bQ (ae P w) A (.call (.ref f) args) (CR CX outer P w H s Q E) s
def DF.mono{P:jI}{w:jG}{K:jJ}{e:ml}{base:jH}{c:JI}{j k:Nat}{f:jh}{d:nu}{g:jK}{i:Sp}(F:DF P w K e base c j f d g i)(h:j<=k):
  DF P w K e base c k f d g i:=⟨F.len,λA a s H b m n Q E l=>F.run A a s H b m n Q E<|l.mono h⟩
section
variable {X:Cx}{a:kf}{c:St}{H:Hp}{s e:jk}
def Inv.LM(T:Inv X a c H s):Ht X.prog X.w X.K X.mg X.base X.A X.stack s H:=
 ⟨T.ok.frames,T.ok.mod,T.bs,lY T.ok.bsz T.sz,T.stack,T.JQ,T.hok,T.bare⟩
def Inv.after{Q:VK}{u:jr}(T:Inv X a c H s)(h:CE X.stack X.prog X.w H s Q u e):EP X a c Q u e:=by obtain⟨v,j,os,f,un,i,r,q⟩:=h;obtain⟨l,g,d,t,k⟩:=e;obtain rfl:k=s.os:=os;exact⟨v,j,T.call (h':=l) (g':=g) (d':=d) (t':=t) (ch:=[]) un i f λb z=>absurd z<|by simp,r,q⟩
end
noncomputable def RM(c:Sp)(b:List V)(E:XK)(t:TA):TE:=λe H Q=>t e H λd a=>c (d++b) a Q E
def Binds(K:jJ)(d:nu)(c:jK)(b:kF):Prop:=
 ∀(s:jk)(a:kF),K.In s.heap->(a++b).length=TD c->fZ s d ⟨a,[]⟩ (c.zip<|a++b)
def Binds.all{K:jJ}{c:nu}{b:jK}(h:∀a:List jr,TD a=TD b->db c ⟨a,[]⟩=pure (b.zip a)):Binds K c b []:=λs a _ d=>by rw[sX]at d ⊢;exact .of_eq<|h a d
def HC(c:JI)(X:Cx)(E:XK):Prop:= ∀(a:kf)(d:St)(H:Hp)(s:jk)(e:jr)(b:jk),Inv X a d H s->c X.stack H s E e b->X.xe e b
section
variable {X:Cx}{l:JI}{k:Nat}{f C:jh}{j:nu}{d:jK}{i:Sp}{c:List V}{b:kF}{E:XK}{x m:ap}{p a n:bt}{e o:jv}{g:lg}{v:TE}{t:TA}
def Md{q:kf}{L:St}{H:Hp}{s:jk}{Q:VK}{y:kF}{B:List V}(F:DF X.prog X.w X.K X.mg X.base l k f j d i)(M:YP k X.A)(G:Binds X.K j d b)(hd:Vals c b)(N:HC l X E)
  (I:Inv X q L H s)(r:Vals B y)(h:i (B++c) H Q E):aa (ae X.prog X.w) X.A (call (.ref f) y) (EP X q L Q) X.xe s:=by
 have O:Vals (B++c) (y++b):=r.append hd;have J:(y++b).length=d.length:=by rw[<-O.length];exact F.len _ _ _ _ h
 refine zH<|rX (F.run X.A X.stack s H ⟨y,[]⟩ (y++b) (B++c) Q E M I.LM (G s y I.G8 J) O h) λr U z=>?_
 cases r with
 |error e=>exact N q L H s e U I z
 |ok T=>
  cases T with
  |ret u=>exact I.after z
  |next=>exact aJ z
  |brk=>exact aJ z
  |cont=>exact aJ z
def Qh(F:DF X.prog X.w X.K X.mg X.base l k f j d i)(J:YP k X.A)(T:Gl X x)(G:X.mg x=Y (.ref f))(hk:cg X.K (.ref f)=Td)(L:Binds X.K j d b)(hd:Vals c b)(M:HC l X E)
  (B:PA X (e::g) t)(N:(x==("__debug__":ap))=Tk:=by decide)(O:ac (e::g) X.env=(Tk,aY e X.env)::ac g X.env:=by rfl)(z:(aV a<|ac g X.env).any (·.1)=Tk:=by rfl):
  PE X (.Call (.Name x p) (e::g) [] a) (RM i c E t):=by
 intro u s U H Q I h;refine we<|Dl I T G ?_ N;refine gO (h₀:=X.base) I.ok.mod.kin hk (T2 (B a u s U H _ I h) λus s1 ⟨vs,Y',y,r,q⟩=>⟨y.G8,?_⟩) O z;exact Md F J L hd M y r q
end
section
variable {X:Cx}{w:JI}{k:Nat}{f C:jh}{u:nu}{n r:jK}{l:Sp}{E:XK}{x m:ap}{p c b a:bt}{e o:jv}{v:lg}{d:List J4}{i j:TE}{t h:TA}{q:Option ap}
variable {g:List jr->List jr->List jr}{s:List V->List V->List V}
end
structure Z2(N P:jK)(sc:kb):Prop where
 kind:sc.kind=.function
 co:sc.isCoroutine=Tk
 gen:sc.isGenerator=Tk
 nd:N.Nodup
 pre:N.take P.length=P
 par:∀x∈P,sc.names.lookup x=SI .local\/sc.names.lookup x=SI .cell
 nofree:∀y∈sc.names,y.2≠ .free
theorem Cc{kindOf:ap->Option NameKind}{x:ap}:∀{binds:List (ap×jr)}{m:ml},(∀v,(x,v)∉binds)->ip kindOf binds m x=m x
 |[],_,_=>rfl
 |(n,v)::r,m,h=>by
  unfold ip;rw[Cc λw a=>h w<|kn _ a];split
  .have:x≠n:=by rintro rfl;exact h v la
   simp[this]
  rfl
theorem Ce{kindOf:ap->Option NameKind}{x:ap}:∀{binds:List (ap×jr)}{m:ml},(∀v,(x,v)∉binds)->iq kindOf binds m x=m x
 |[],_,_=>rfl
 |(n,v)::r,m,h=>by
  unfold iq;rw[Ce λw a=>h w<|kn _ a];split
  .rfl
  have:x≠n:=by rintro rfl;exact h v la
  simp[this]
theorem Cd{kindOf:ap->Option NameKind}{x:ap}{v:jr}:∀{P:jK}{a:kF}{i:Nat}{m:ml},P.Nodup->P[i]?=Y x->a[i]?=Y v->kindOf x=Y .local->
  ip kindOf (P.zip a) m x=Y v
 |[],_,_,_,_,h,_,_=>by simp at h
 |_::_,[],_,_,_,_,h,_=>by simp at h
 |p::P,w::a,0,m,c,h1,b,hk=>by simp at h1 b;subst h1;subst b;show ip kindOf ((p,w)::P.zip a) m p=_;unfold ip;rw[Cc λv hv=>(zK.mp c).1 (Gh hv).1,jz hk];simp
 |p::P,w::a,i+1,m,c,h1,b,hk=>by show ip kindOf ((p,w)::P.zip a) m x=_;unfold ip;exact Cd (i:=i) (zK.mp c).2 (by simpa using h1) (by simpa using b) hk
theorem Cf{kindOf:ap->Option NameKind}{x:ap}{v:jr}:∀{P:jK}{a:kF}{i:Nat}{m:ml},P.Nodup->P[i]?=Y x->a[i]?=Y v->kindOf x≠Y .local->
  iq kindOf (P.zip a) m x=Y v
 |[],_,_,_,_,h,_,_=>by simp at h
 |_::_,[],_,_,_,_,h,_=>by simp at h
 |p::P,w::a,0,m,c,h1,b,hk=>by simp at h1 b;subst h1;subst b;show iq kindOf ((p,w)::P.zip a) m p=_;unfold iq;rw[Ce λv hv=>(zK.mp c).1 (Gh hv).1,jP hk];simp
 |p::P,w::a,i+1,m,c,h1,b,hk=>by show iq kindOf ((p,w)::P.zip a) m x=_;unfold iq;exact Cf (i:=i) (zK.mp c).2 (by simpa using h1) (by simpa using b) hk
noncomputable def oY(N:jK)(vs:List V):St:=vs.map Y++af (TD N-TD vs) U
noncomputable def qW(CX:JI)(P:jI)(w:jG)(K:jJ)(c:ml)(base:jH)(N:jK)(qual:ap)(scope:kb)(f:jh)(cd:jr)(A:jF)(a:List c9)(s:jk)(H:Hp)(E:XK):Cx where
 prog:=P
 w:=w
 K:=K
 mg:=c
 base:=base
 A:=A.deeper<|bi qual scope s.heap.objs.size f cd
 N:=N
 s₀:=s
 H₀:=H
 env:=bi qual scope s.heap.objs.size f cd
 outer:=a
 stack:=bi qual scope s.heap.objs.size f cd::a
 ex:=[]
 calm:=C
 fn:=λ_=>C
 pn:=[]
 xe:=λe h=>aa (ae P w) (A.deeper<|bi qual scope s.heap.objs.size f cd) (Is (bi qual scope s.heap.objs.size f cd) e) (λ_ b=>CX a H s E e b) (λg b=>CX a H s E g b) h
def E5{a:kb}{n:Nat}{x:ap}(h:a.names.lookup x=Y .cell):∃c,(bb n a.names []).lookup x=Y c:=by have q:=CT a.names n []<|.inl h;exact Kz.mp q
def abF{Q:JI}{P:jI}{w:jG}{K:jJ}{I:ml}{base:jH}{N m:jK}{qual:ap}{scope:kb}{f:jh}{cd:jr}{A:jF}{d:List c9}{s s1:jk}{H:Hp}{E:XK}{L:kF}{o:List V}
  (S:Z2 N m scope)(hd:A.handled=SS)(j:Ht P w K I base A d s H)(Y:(TD o)=TD m)(r:Vals o L)
  (x:InCallC s s.heap.objs.size (ip (bi qual scope s.heap.objs.size f cd).kindOf (m.zip L) λ_=>SS) (bb (s.heap.objs.size+1) scope.names []) (iq (bi qual scope s.heap.objs.size f cd).kindOf (m.zip L) λ_=>SS) s1):
  Inv (qW Q P w K I base N qual scope f cd A d s H E) [] (oY N o) H s1:=by
 have M:(TD m)<=(TD N):=by have:=nC cG S.pre;rw[uR]at this;lia
 obtain⟨h1,D,rfl,hk⟩:=x.done;have O:∀b:jh,b∉(qW Q P w K I base N qual scope f cd A d s H E).ex:=λb z=>absurd (show b∈([]:List jh)from z) (by simp)
 refine⟨⟨j.mod,S.kind,rfl,rfl,kD _,λy z c h1 g=>?_,λy l=>?_,λy c _ h=>?_,λ_=>hd,Gg j.frames,.inr ⟨rfl,rfl⟩,λb z=>absurd z<|O b,j.bs,j.bsz,λb _ _=>O b,λb z=>absurd z<|O b,j.Ef,j.frf⟩,
  rfl,j.bare,Un.kept hk,⟨_,x.toInCall.ns,λi y v h1 g U=>?_⟩,λy c h=>⟨_,x.cell y c h⟩,j.hok.fresh<|kD _,λy c h=>?_,λp t=>absurd (show p∈([]:List (jh×eM))from t)<|by simp,j.hok.kept hk,?_⟩
 .exact H8 x.apart (qd h1) (qd g)
 .have l:scope.names.lookup y=SI .cell\/scope.names.lookup y=SI .free:=l;rcases l with l|l
  .exact E5 l
  exact absurd Tl (S.nofree _ (qd l))
 .exact wj (x.above y c<|qd h)
 .have C:i<(TD o):=by
   unfold oY at g;by_cases C:i<TD o
   .exact C
   rw[pJ<|by simpa using C]at g;rw[CS]at g;split at g<;>cases g
  have G:o[i]?=SI v:=by
   unfold oY at g;rw[qc<|by simpa using C,lh]at g
   cases e:o[i]? with
   |none=>rw[e]at g;cases g
   |some a=>rw[e]at g;cases g;rfl
  obtain⟨u,T,J⟩:=r.get G
  have t:m[i]?=SI y:=by rw[<-S.pre,Gf<|by lia];exact h1
  have B:m.Nodup:=by rw[<-S.pre];exact S.nd.sublist<|xM _ _
  refine⟨u,J,?_⟩;rcases S.par y (lX t)with k|k
  .exact .inl ⟨k,Cd B t T k⟩
  obtain⟨c,e⟩:=E5 (n:=s.heap.objs.size+1) k;refine .inr ⟨.inl k,c,e,?_⟩;have q:=x.cell y c e;rw[Cf B t T (by show scope.names.lookup y≠_;rw[k];decide)]at q;exact q
 .exact j.hok.fresh (wj<|x.above y c<|qd h)
 unfold oY;show _=TD N;rw[ox,kN,Ge]
 lia
def Sg{CX:JI}{P:jI}{w:jG}{K:jJ}{B:ml}{base:jH}{k:Nat}{f:jh}{i qual:ap}{c:aZ}{d:List aW}{scope:kb}{Y kV p pm j ct oc:jr}{an od:Option jh}
  {u5:wc}{N C:jK}{A:jF}{a:List c9}{s:jk}{H:Hp}{args:Args}{M:kF}{vs:List V}{Q:VK}{E:XK}(lk:K.lookup f=SI ⟨oc,od,.func<|bD i qual c d scope Y kV p pm an j ct,u5⟩)(m5:cS K j qual=Td)(S:Z2 N C scope)
  (L:YP (k+1) A)(z:Ht P w K B base A a s H)(hb:fZ s (bD i qual c d scope Y kV p pm an j ct) args (C.zip M))(r:Vals vs M)(hl:(TD vs)=TD C)
  (m9:YP k (A.deeper<|bi qual scope s.heap.objs.size f j)->∃t,GJ (qW CX P w K B base N qual scope f j A a s H E) d t/\t {nx:=λ_ h=>Q .Z4 h,rt:=Q} (oY N vs) H):
  bQ (ae P w) A (.call (.ref f) args) (CR CX a P w H s Q E) s:=by
 have U:K.In s.heap:=z.mod.kin.keeps λb o e=>(z.bs b o e).1;have O:s.heap.NoLimit:=z.mod.nolimit.keeps λb o e=>(z.bs b o e).1
 have l:∀y∈C.zip M,scope.names.lookup y.1=SI .local\/(scope.names.lookup y.1=SI .cell/\((bb (s.heap.objs.size+1) scope.names []).lookup y.1).isSome=Td):=λ⟨n,v⟩ hy=>by
  rcases S.par n (Gh hy).1 with q|q
  .exact .inl q
  exact .inr ⟨q,CT _ _ _ (.inl q)⟩
 refine Gd L.depth (U _ _ lk) Tl S.co S.gen Tl (PySem.W.codeRec_of U m5)<|hb _ _ _ _ ?_;refine wpAny_newFunctionEnv_cells S.kind l λD F s1 x=>?_;subst F;refine⟨O.keeps x.toInCall.keep,Gb ?_⟩;obtain⟨t,X,R⟩:=m9<|L.deeper _;have I:Inv (qW CX P w K B base N qual scope f j A a s H E) [] (oY N vs) H s1:=abF S L.hd z hl r x;refine oJ (X [] s1 (oY N vs) H _ I R) (λfl G m=>?_) λe G m=>m
 have fin:∀{g:St}{h:Hp}{v:V}{u:jr},Inv (qW CX P w K B base N qual scope f j A a s H E) [] g h G->RelV v u->Q v h->CE a P w H s Q u G:=
  λ{g h v u} J T q=>⟨v,h,J.os,J.bare,J.base,J.hok,T,q⟩
 cases fl with
 |ret u=>obtain⟨v,g,h,J,T,q⟩:=m;exact fin J T q
 |next=>obtain⟨g,h,J,q⟩:=m;exact fin (v:=V.Z4) (u:=ah) J Tl q
 |brk=>obtain⟨_,_,_,q⟩:=m;exact aJ q
 |cont=>obtain⟨_,_,_,q⟩:=m;exact aJ q
def Sf{l:JI}{P:jI}{w:jG}{K:jJ}{o:ml}{base:jH}{k:Nat}{f:jh}{d qual:ap}{b:aZ}{c:List aW}{scope:kb}{n kV g p h ct O:jr}{an T:Option jh}
  {L:wc}{N i:jK}{j:Sp}(lk:K.lookup f=Y ⟨O,T,.func<|bD d qual b c scope n kV g p an h ct,L⟩)(z:cS K h qual=C)(S:Z2 N i scope)
  (len:∀e H Q E,j e H Q E->TD e=TD i)
  (B:∀(A:jF)(a:List c9)(s:jk)(H:Hp)(e:List V)(Q:VK)(E:XK),YP k (A.deeper<|bi qual scope s.heap.objs.size f h)->j e H Q E->
   ∃t,GJ (qW l P w K o base N qual scope f h A a s H E) c t/\t {nx:=λ_ u=>Q .Z4 u,rt:=Q} (oY N e) H):
  DF P w K o base l (k+1) f (bD d qual b c scope n kV g p an h ct) i j:=
 ⟨len,λA a s H _ _ e Q E y v x r m=>Sg lk z S y v x r (len _ _ _ _ m) λq=>B A a s H e Q E q m⟩
section
variable {X:Cx}{x:ap}{p a:bt}{e:jv}{b:lg}{t:TA}{id T:String}{r:List V->Hp->VK->Prop}
def MK(r:List V->Hp->VK->Prop)(t:TA):TE:=λf H Q=>t f H λd c=>r d c Q
def Aa(k:lr X (.builtin id) r)(m:Gl X x)(n:X.mg x=U)(hv:av x=Y (.builtin id))(j:PA X (e::b) t)(o:x≠"__name__":=by decide)(q:(x==("__debug__":ap))=I:=by decide)
  (l:ac (e::b) X.env=(I,aY e X.env)::ac b X.env:=by rfl)(i:(aV a<|ac b X.env).any (·.1)=I:=by rfl):PE X (.Call (.Name x p) (e::b) [] a) (MK r t):=by
 intro c s d H Q O h;refine we<|qo O m n hv ?_ o q;exact x1 (T2 (j a c s d H _ O h) λw s1 N=>by obtain⟨y,f,g,v,u⟩:=N;exact k c s1 d f y w Q g v u) l i
def nh(k:lr X (.type T) r)(m:Gl X x)(n:X.mg x=U)(hv:av x=Y (.type T))(j:PA X (e::b) t)(o:x≠"__name__":=by decide)(q:(x==("__debug__":ap))=I:=by decide)
  (l:ac (e::b) X.env=(I,aY e X.env)::ac b X.env:=by rfl)(i:(aV a<|ac b X.env).any (·.1)=I:=by rfl):PE X (.Call (.Name x p) (e::b) [] a) (MK r t):=by
 intro c s d H Q O h;refine we<|qo O m n hv ?_ o q;exact zI (T2 (j a c s d H _ O h) λw s1 N=>by obtain⟨y,f,g,v,u⟩:=N;exact k c s1 d f y w Q g v u) l i
end
end L2
namespace HT
section
open PySem.SeqAt
open PySem.AutoSeq1 (wpAny_loadPart')
open PySem.MeetsSeq PySem.MeetsSeq2 PySem.MeetsSeq3
end
section
variable {a:jI}{w:jG}{A:jF}{E:jZ}{s:jk}
def XH{t b:jh}{d c:kF}{Q:jZ}(y:gW s.heap t d.toArray)(x:gW s.heap b c.toArray)(hv:d≠[])
  (h1:c=[]->Q (.ref t) s)(v:c≠[]->Q (.ref s.heap.objs.size) {s with heap:=s.heap.push {cls:=.type "tuple",data:=.seq (d++c).toArray}})
  (l:(TD d)+TD c<=sizeLine):aa (ae a w) A (bJ .Add (.ref t)<|.ref b) Q E s:=by
 obtain⟨⟨k,dd,f,r⟩,h,p,n,hd⟩:=id y;obtain⟨⟨z,m,data2,o⟩,j,u,q,g⟩:=id x;simp only at p hd u g;subst p hd u g;have e:d.toArray++c.toArray=(d++c).toArray:=by simp
 by_cases i:c=[]
 .exact CQ ⟨_,h,rfl⟩ ⟨_,j,rfl⟩ Ga F9 F8 F7 (F6 _ _)
   (tuple_addW1 t b d.toArray c.toArray n q dd m r o (by simpa using hv)<|by simp[i]) ⟨h,j,h1 i⟩
 refine CQ ⟨_,h,rfl⟩ ⟨_,j,rfl⟩ Ga F9 F8 F7 (F6 _ _)
  (tuple_addW2 t b d.toArray c.toArray n q dd m r o (by simpa using hv) (by simpa using i)<|by rw[lH,lH];exact l) ⟨h,j,?_⟩
 rw[e];exact v i
noncomputable def AX(n d:Nat):Option Int->Nat
 |none=>d
 |some v=>if v<0 then(v+(n:Int)).toNat else min v.toNat n
theorem Vo(n d:Nat):AX n d U=d:=rfl
def WH(n d k:Nat):AX n d (Y (k:Int))=min k n:=by show(if(k:Int)<0 then((k:Int)+(n:Int)).toNat else min (k:Int).toNat n)=min k n;rw[jP<|by lia,uQ]
def Tq(n d:Nat)(hd:d<=n)(o:Option Int):AX n d o<=n:=by
 cases o with
 |none=>exact hd
 |some v=>
  show(if v<0 then(v+(n:Int)).toNat else min v.toNat n)<=n;by_cases hv:v<0
  .rw[jz hv];lia
  rw[jP hv];exact Nat.min_le_right _ _
def Jc(v:Int)(n d:Nat):(if v<0 then max (v+(n:Int)) 0 else min v (n:Int))=((AX n d (Y v):Nat):Int):=by
 show(if v<0 then max (v+(n:Int)) 0 else min v (n:Int))=(((if v<0 then(v+(n:Int)).toNat else min v.toNat n):Nat):Int)
 by_cases hv:v<0
 .simp only[jz hv];lia
 simp only[jP hv];lia
def abA(lo b:Option Int)(n:Nat):cF lo b 1 (n:Int)=(((AX n 0 lo:Nat):Int),((AX n n b:Nat):Int)):=by
 have h1: ¬((1:Int)<0):=by lia
 unfold cF;simp only[h1,mT];refine Prod.ext ?_ ?_
 .cases lo with
  |none=>rfl
  |some v=>exact Jc v n 0
 cases b with
 |none=>rfl
 |some v=>exact Jc v n n
def aba(i j:Nat):bV (i:Int) (j:Int) 1=j-i:=by
 unfold bV;have h1:(1:Int)>0:=by lia
 simp only[h1,nv,Int.ediv_one];split<;>lia
def zP{v:jr}{o:Option Int}{Q:Option Int->jk->Prop}(p:ef v o)(h:Q o s):aa (ae a w) A (u8 v) Q E s:=by
 cases p with
 |none=>exact BB h
 |int i t=>exact slicePart_int h
def qJ{g:jh}{e f:jr}{lo b:Option Int}{n:Nat}{Q:Int×Int×Nat->jk->Prop}(i:s.heap.IsSliceOf g e f .none)(j:ef e lo)(k:ef f b)
  (h:Q (((AX n 0 lo:Nat):Int),1,AX n n b-AX n 0 lo) s):aa (ae a w) A (eY (.ref g)<|pure (n:Int)) Q E s:=by
 obtain⟨os,c,l,d⟩:=id i;unfold eY vl;refine ji<|ji<|pH c d (x:=e) J<|ji<|pH c d (x:=f) J<|ji<|pH c d (x:=.none) J<|ju ?_;refine ji<|BB ?_;show aa _ _ (if((1:Int)==0)=C then _ else _) _ _ s;rw[jP<|by decide];refine ji<|zP j<|ji<|zP k<|ji<|ju ?_;show aa _ _ (match cF lo b 1 (n:Int)with|(lo,b)=>pure (lo,(1:Int),bV lo b 1)) _ _ s;rw[abA lo b n];show aa _ _ (pure (((AX n 0 lo:Nat):Int),(1:Int),bV ((AX n 0 lo:Nat):Int) ((AX n n b:Nat):Int) 1)) _ _ s;rw[aba];exact ju h
def ac9(b:nJ)(i k:Nat):((am k).filterMap λ(m:Nat)=>b[((i:Int)+(m:Int)*1).toNat]?).toArray=((b.toList.drop i).take k).toArray:=by
 have e:(λ(m:Nat)=>b[((i:Int)+(m:Int)*1).toNat]?)=λm=>b[i+m]?:=by
  funext m;have:((i:Int)+(m:Int)*1).toNat=i+m:=by lia
  rw[this]
 rw[e];have:=pick_run b i k;rw[i9]at this;have c:((λx=>b[x]?)∘λx=>i+x)=λm=>b[i+m]?:=rfl;rw[c]at this;rw[this]
def aa2{t e:jh}{items:nJ}{g i:jr}{lo b:Option Int}{Q:jZ}(d:gW s.heap t items)(f:s.heap.IsSliceOf e g i .none)(p:ef g lo)(r:ef i b)
  (n: ¬(AX items.size 0 lo=0/\AX items.size items.size b=items.size))
  (h:Q (.ref s.heap.objs.size) {s with heap:=s.heap.push {cls:=.type "tuple",data:=.seq ((items.toList.drop<|AX items.size 0 lo).take<|AX items.size items.size b-AX items.size 0 lo).toArray}})
  (l:items.size<=sizeLine):aa (ae a w) A (dL (.ref t)<|.ref e) Q E s:=by
 have c:sizeOk (.seq ((items.toList.drop<|AX items.size 0 lo).take<|AX items.size items.size b-AX items.size 0 lo).toArray):=by show((items.toList.drop<|AX items.size 0 lo).take<|AX items.size items.size b-AX items.size 0 lo).toArray.size<=sizeLine;rw[lH,uR,mj,lT];omega
 have x:AX items.size items.size b<=items.size:=Tq _ _ (kD _) b;obtain⟨os,k,j,v⟩:=id f;have o:s.TypeIs (.ref e) "slice":=⟨os,k,j⟩
 unfold dL
 try with_reducible refine mE ?_
 first|refine ji (ju ?_)|skip
 refine ji<|sa d.typeIs (by decide) ?_
 refine ji (sV (name:=bv "__getitem__") d.typeIs AS
  (oI AS d.typeIs Lx ?_<|rc _ _))
 show aa _ _ (cE (.ref t)>>=_) _ _ s;refine ji<|FM d ?_;refine ji<|rE o ?_;rw[jz<|by decide];refine ji<|qJ f p r ?_
 have u: ¬((((AX items.size 0 lo:Nat):Int)==0&&(1:Int)==1&&(AX items.size items.size b-AX items.size 0 lo)==items.size)=C):=by intro q;rw[nN,nN]at q;have y:((AX items.size 0 lo:Nat):Int)=0:=pG q.1.1;have z:AX items.size items.size b-AX items.size 0 lo=items.size:=pG q.2;exact n ⟨by omega,by omega⟩
 show aa _ _ (if(((AX items.size 0 lo:Nat):Int)==0&&(1:Int)==1&&(AX items.size items.size b-AX items.size 0 lo)==items.size)=C then _ else _) _ _ s;rw[jP u,ac9]
 first
  |exact ji (m:=bn _)<|oy (ju ⟨_,rfl,ju h⟩) c
  |exact ji (m:=bn _)<|oy (ji<|ju<|ju ⟨_,rfl,ju h⟩) c
  |exact ji<|ji (m:=bn _)<|oy (ju<|ju ⟨_,rfl,ju h⟩) c
  |exact ji<|ji (m:=bn _)<|oy (ju ⟨_,rfl,ju h⟩) c
end
end HT
namespace L2
abbrev TO:=St->Hp->(Option Int->Hp->Prop)->Prop
def PO(X:Cx)(e:Option Expr)(t:TO):Prop:=
 ∀(a:kf)(s:jk)(b:St)(H:Hp)(Q:Option Int->Hp->Prop),Inv X a b H s->t b H Q->
  aa (ae X.prog X.w) X.A (evalPart e X.env) (λu c=>∃o H',Inv X a b H' c/\ef u o/\Q o H') X.xe s
noncomputable def Pn:TO:=λ_ H Q=>Q U H
def Ws(t:TE):TO:=λb H Q=>t b H λx a=>∃i,x=.int i/\Q (Y i) a
section
variable {X:Cx}{e:jv}{d:TE}{lo c:Option Expr}{f g:TO}{k j:bt}
def P9:PO X U Pn:=by intro a s b H Q T h;rw[Ev];exact ju ⟨U,H,T,.none,h⟩
def P8(h:PE X e d):PO X (Y e) (Ws d):=by intro a s o H Q T l;rw[evalPart_some];refine T2 (h a s o H _ T l) ?_;rintro u s1 ⟨x,H1,b,n,m⟩;obtain⟨i,rfl,q⟩:=m;obtain⟨t,rfl⟩:=n;exact⟨Y i,H1,b,.int i t,q⟩
def NW(X:Cx)(r:V->Option Int->Option Int->Hp->VK->Prop):Prop:=
 ∀(a:kf)(s:jk)(l:St)(H:Hp)(x:V)(v h i:jr)(lo c:Option Int)(b:jh)(Q:VK),Inv X a l H s->RelV x v->s.heap.IsSliceOf b h i .none->ef h lo->ef i c->r x lo c H Q->
  ∃T id,p4 (.type T) "__getitem__"=pure (Y<|.builtin id)/\s.TypeIs v T/\aa (ae X.prog X.w) X.A (dL v<|.ref b) (EP X a l Q) X.xe s
def tSl(r:V->Option Int->Option Int->Hp->VK->Prop)(d:TE)(f g:TO):TE:=λa H Q=>d a H λx b=>f a b λl h=>g a h λu i=>r x l u i Q
def adg{r:V->Option Int->Option Int->Hp->VK->Prop}(G:NW X r)(E:PE X e d)(O:PO X lo f)(M:PO X c g):PE X (.Subscript e (.Slice lo c U j) k) (tSl r d f g):=by intro a s i H Q I h;refine Subscript_<|T2 (E a s i H _ I h) ?_;rintro v s1 ⟨x,H1,t,r1,U'⟩;refine wpAny_Slice<|T2 (O a s1 i H1 _ t U') λm s2 ⟨l,p,y,N,Y'⟩=>T2 (M a s2 i p _ y Y') ?_;rintro n s3 ⟨u,o,z,pu,q3⟩;rw[Ev];refine ju ?_;have B:Inv X a i o {s3 with heap:=s3.heap.push {cls:=.type "slice",data:=.fields #[m,n,.none]}}:=z.kept (t':=s3.toks) λb D q=>kB _ q;obtain⟨T,id,C,J,L⟩:=G a {s3 with heap:=s3.heap.push {cls:=.type "slice",data:=.fields #[m,n,.none]}} i o x v m n l u s3.heap.objs.size Q B r1 (Heap.IsSliceOf.new ..) N pu q3;show aa (ae X.prog X.w) X.A (ig e (.Slice lo c U j) v<|.ref s3.heap.objs.size) (EP X a i Q) X.xe {s3 with heap:=s3.heap.push {cls:=.type "slice",data:=.fields #[m,n,.none]}};exact tail_any (ops:=[.ref s3.heap.objs.size,v]) J C L (by with_unfolding_all rfl)
noncomputable def EX(a:List V)(lo c:Option Int):List V:=(a.drop<|HT.AX (TD a) 0 lo).take<|HT.AX (TD a) (TD a) c-HT.AX (TD a) 0 lo
def yH(a:List V)(lo c:Option Int):(EX a lo c).length<=(TD a):=by
 unfold EX;rw[uR,mj]
 lia
def Zf(K:jJ):V->Option Int->Option Int->Hp->VK->Prop:=λx lo c H Q=>∃a b,x=.ref a/\Hd K H a b/\
 ¬(HT.AX (TD b) 0 lo=0/\HT.AX (TD b) (TD b) c=TD b)/\∀p,H p=U->Q (.ref p) (upd H p<|.tup<|EX b lo c)
def Ti:NW X (Zf X.K):=by
 intro t s T H x v L O lo c E Q N B u z A h;obtain⟨a,l,rfl,y,w,q⟩:=h;cases B;obtain⟨m,r,n,p⟩:=N.tuple y;have i:m.toArray.size=(TD l):=by rw[lH];exact r.length.symm
 refine⟨"tuple",_,AS.lookup,n.typeIs,?_⟩;refine HT.aa2 n u z A (by rw[i];exact w) ?_ (by rw[i];exact p);rw[i];refine⟨.ref s.heap.objs.size,_,N.laid (t':=s.toks) (o:=.tup (EX l lo c)) (λb M q=>kB _ q) (kD _) ?_,rfl,q _ (N.hok.fresh<|kD _)⟩;exact⟨lY (yH l lo c) p,_,(r.drop<|HT.AX (TD l) 0 lo).take<|HT.AX (TD l) (TD l) c-HT.AX (TD l) 0 lo,Hq.new _ _⟩
def WR(K:jJ):R2:=λx y H Q=>∃a b i h,x=.ref a/\y=.ref b/\Hd K H a i/\Hd K H b h/\i≠[]/\(TD i)+TD h<=sizeLine/\
 (h=[]->Q (.ref a) H)/\(h≠[]->∀p,H p=U->Q (.ref p) (upd H p<|.tup<|i++h))
def Vals.Hz{b:List V}{a:kF}(r:Vals b a):a=[]↔b=[]:=by
 cases r with
 |nil=>simp
 |cons _ _=>simp
def Qv:Dw X (bJ .Add) (WR X.K):=by intro n s N H x y v u Q I L O h;obtain⟨a,b,T,G,rfl,rfl,p,r,t,m,C,E⟩:=h;cases L;cases O;obtain⟨A,l,B,_⟩:=I.tuple p;obtain⟨J,i,j,_⟩:=I.tuple r;refine HT.XH B j (λz=>t<|l.Hz.mp z) (λz=>⟨.ref a,H,I,rfl,C<|i.Hz.mp z⟩) (λz=>?_) (by rw[<-l.length,<-i.length];exact m);refine⟨.ref s.heap.objs.size,_,I.laid (t':=s.toks) (o:=.tup (T++G)) (λb M q=>kB _ q) (kD _) ?_,rfl,E (λw=>z<|i.Hz.mpr w) _ (I.hok.fresh<|kD _)⟩;exact⟨by rw[ox];exact m,_,l.append i,Hq.new _ _⟩
end
noncomputable def J3(n:Nat)(i:Int):Option Nat:=if 0<=i then(if i<n then Y i.toNat else U)else if -(n:Int)<=i then Y (i+n).toNat else U
def JD{b:Type}(a:List b)(i:Int):Option b:=(J3 (TD a) i).bind λj=>a[j]?
def Dq{n:Nat}{i:Int}{j:Nat}(h:J3 n i=Y j):t9 i n=Y j/\j<n/\ -(n:Int)<=i/\i<n:=by
 unfold J3 at h;by_cases a:0<=i
 .rw[jz a]at h;by_cases h1:i<n
  .rw[jz h1]at h;have e:i.toNat=j:=lI h;exact⟨by rw[F5 a h1,e],by lia,by lia,h1⟩
  rw[jP h1]at h;cases h
 rw[jP a]at h;by_cases h1: -(n:Int)<=i
 .rw[jz h1]at h;have e:(i+n).toNat=j:=lI h;exact⟨by rw[F4 (by lia) h1,e],by lia,h1,by lia⟩
 rw[jP h1]at h;cases h
def Jj{b:Type}{a:List b}{i:Int}{v:b}(h:JD a i=Y v):∃j,t9 i (TD a)=Y j/\a[j]?=Y v/\j<TD a/\ -((TD a):Int)<=i/\i<(TD a):=by
 unfold JD at h
 cases e:J3 (TD a) i with
 |none=>rw[e]at h;cases h
 |some j=>rw[e]at h;obtain⟨h1,c,d,f⟩:=Dq e;exact⟨j,h1,h,c,d,f⟩
def DO(b:jv):Prop:= ∀o i,ms b I o i=operate [o,i] (dL o i)
def Mq(X:Cx)(r:R2):Prop:=
 ∀(c a:jv)(b:kf)(s:jk)(d:St)(H:Hp)(x y:V)(v u:jr)(Q:VK),Inv X b d H s->RelV x v->RelV y u->r x y H Q->
  ms a I v u=operate [v,u] (dL v u)->aa (ae X.prog X.w) X.A (ig c a v u) (EP X b d Q) X.xe s
def MtR(X:Cx)(id:String)(r:V->List V->Hp->VK->Prop):Prop:=
 ∀(a:kf)(s:jk)(d:St)(H:Hp)(x:V)(c:List V)(v:jr)(b:kF)(Q:VK),Inv X a d H s->RelV x v->Vals c b->r x c H Q->
  aa (ae X.prog X.w) X.A (call (.builtin id) (v::b)) (EP X a d Q) X.xe s
section
variable {X:Cx}{a b:jv}{C tb:TE}{B:bt}
def RU{r:R2}(i:Mq X r)(f:PE X a C)(g:PE X b tb)(j:DO b):PE X (.Subscript a b B) (L3 r C tb):=by intro c s n H Q T h;exact Subscript_<|Vg f g T h λv u m x y d e k l q=>i a b c m n d x y v u Q e k l q<|j _ _
def Zi(K:jJ):R2:=λx y H Q=>∃p c i v,x=.ref p/\y=.int i/\G1 K H p c/\JD c i=Y v/\Q v H
def Zh(K:jJ):R2:=λx y H Q=>∃p c i v,x=.ref p/\y=.int i/\Hd K H p c/\JD c i=Y v/\Q v H
def QZ:Mq X (Zi X.K):=by
 intro k g c s o H x y v u Q I M N h n;obtain⟨p,P,i,z,rfl,rfl,G,O,q⟩:=h;cases M;obtain⟨t,rfl⟩:=N;obtain⟨e,r,f,F⟩:=I.list G;obtain⟨j,h1,A,Y,E,L⟩:=Jj O;obtain⟨w,l,J⟩:=r.get A;have T:=r.length;have D:=Dj;have fin:EP X c o Q w s:=⟨z,H,I,J,q⟩
 by_cases m:0<=i
 .have d:i.toNat=j:=by rw[F5 m L]at h1;exact lI h1
  exact item_listR f.isList m (by lia) (by rw[d];simpa using l) fin n
 have d:(i+(e.toArray.size:Int)).toNat=j:=by rw[F4 (by lia) E]at h1;rw[lH,<-T];exact lI h1
 exact Lw (x:=w) f.isList.typeIs sB.lookup
  (wpAny_getItem_list_neg (Q:=λr U=>r=w/\EP X c o Q r U) f.isList (by lia) (by rw[lH]<;>lia) (by lia) (by rw[d];simpa using l) ⟨rfl,fin⟩) n
def UJ:Mq X (Zh X.K):=by
 intro e d c s g H x y v u Q I O T h A;obtain⟨p,D,i,z,rfl,rfl,o,m,q⟩:=h;cases O;obtain⟨t,rfl⟩:=T;obtain⟨E,r,f,Y⟩:=I.tuple o;obtain⟨j,h1,l,J,M,N⟩:=Jj m;obtain⟨w,k,L⟩:=r.get l;have n:=r.length;have U:=Dj;have fin:EP X c g Q w s:=⟨z,H,I,L,q⟩
 exact Lw (x:=w) f.typeIs AS.lookup
  (getItem_tuple (j:=j) (Q:=λr G=>r=w/\EP X c g Q r G) f (by lia) (by lia) (by rw[lH,<-n];exact h1) (by simpa using k) ⟨rfl,fin⟩) A
def abg(c:kF)(n j:Nat)(u:jr):aM (·.setIfInBounds j u) {cls:=.type "list",data:=.seq c.toArray n}={cls:=.type "list",data:=.seq (c.set j u).toArray n}:=by simp[aM]
def Inv.lst{d:kf}{f:St}{H:Hp}{s:jk}{p:jh}{xs:List V}(T:Inv X d f H s)(h:H p=Y (.lst xs)):
  ∃(c:kF)(n:Nat),Vals xs c/\s.heap.get? p=Y {cls:=.type "list",data:=.seq c.toArray n}/\(TD xs)<=sizeLine:=by
 obtain⟨z,c,n,r,e⟩:=T.hok p _ h;exact⟨c,n,r,e,z⟩
def Inv.L7{d:kf}{l:St}{H:Hp}{s:jk}{p:jh}{w j:List V}{g c:kF}{n i:Nat}{f:eM->eM}(T:Inv X d l H s)(h:H p=Y (.lst w))
  (o:s.heap.get? p=Y {cls:=.type "list",data:=.seq g.toArray n})(k:f {cls:=.type "list",data:=.seq g.toArray n}={cls:=.type "list",data:=.seq c.toArray i})(r:Vals j c)(v:(TD j)<=sizeLine)(t:Nat):
  Inv X d l (upd H p<|.lst j) {s with heap:=s.heap.update p f,toks:=t}:=by
 have e:(s.heap.update p f).get? p=Y {cls:=.type "list",data:=.seq c.toArray i}:=by rw[sU f o<|by rw[k]<;>rfl,k]
 refine T.write (x:=p) (e:=p) (by rw[h];trivial) (.inl J) (λb u m q=>(CP _ _ (rY m)).trans q) ⟨_,e⟩ ?_;exact⟨v,c,i,r,e⟩
def WN:V->V->V->Hp->(Hp->Prop)->Prop:=λo i v H Q=>∃p c k j,o=.ref p/\i=.int k/\H p=Y (.lst c)/\J3 (TD c) k=Y j/\Q (upd H p<|.lst<|c.set j v)
def acR:Vm X WN:=by
 intro d s T H o i v N M u Q I E A L h;obtain⟨p,O,k,j,rfl,rfl,x,y,q⟩:=h;cases E;obtain⟨t,rfl⟩:=A;obtain⟨c,n,r,f,z⟩:=I.lst x;obtain⟨h1,G,m,w⟩:=Dq y;have e:=r.length;have J:=Dj
 have g:Inv X d T (upd H p<|.lst<|O.set j v) {s with heap:=s.heap.update p (aM (·.setIfInBounds j u))}:=
  I.L7 x f (abg c n j u) (r.set L j) (by rw[sJ];exact z) s.toks
 by_cases l:0<=k
 .have hk:k.toNat=j:=by rw[F5 l w]at h1;exact lI h1
  exact PySem.W.ki_setAt f l (by lia) (by rw[lH,<-e];exact w) (by rw[hk];exact⟨_,g,q⟩)
 have hk:(k+(c.toArray.size:Int)).toNat=j:=by rw[F4 (by lia) m]at h1;rw[lH,<-e];exact lI h1
 exact PySem.W.ki_setBack f (by lia) (by rw[lH,<-e];exact m) (by lia) (by rw[hk];exact⟨_,g,q⟩)
def aax(lo c:Option Int)(n:Nat):(cY lo c U n).1=((HT.AX n 0 lo:Nat):Int)/\(cY lo c U n).2.1=((HT.AX n n c:Nat):Int)/\(cY lo c U n).2.2=1:=by
 refine⟨?_,?_,rfl⟩
 .cases lo with
  |none=>simp[cY,HT.AX]
  |some i=>
   simp only[cY,HT.AX,iM,show(1:Int)>0 by decide,nv];by_cases h:i<0
   .simp only[h,nv]<;>lia
   simp only[h,mT]<;>lia
 cases c with
 |none=>simp[cY,HT.AX]
 |some i=>
  simp only[cY,HT.AX,iM,show(1:Int)>0 by decide,nv];by_cases h:i<0
  .simp only[h,nv]<;>lia
  simp only[h,mT]<;>lia
def aag(c:kF)(lo d:Option Int):slicePick c.toArray lo d U=((c.drop<|HT.AX (TD c) 0 lo).take<|HT.AX (TD c) (TD c) d-HT.AX (TD c) 0 lo).toArray:=by obtain⟨h1,e,f⟩:=aax lo d c.toArray.size;unfold slicePick;rw[h1,e,f];simp only[sliceRange_one,pick_run,lH]<;>rfl
def Zg(K:jJ):V->Option Int->Option Int->Hp->VK->Prop:=λx lo d H Q=>∃a c,x=.ref a/\G1 K H a c/\∀p,H p=U->Q (.ref p) (upd H p<|.lst<|EX c lo d)
def Po:NW X (Zg X.K):=by intro g s z H x v w y lo e u Q T p i m n h;obtain⟨a,c,rfl,j,q⟩:=h;cases p;obtain⟨l,r,f,k⟩:=T.list j;have d:=r.length;refine⟨"list",_,sB.lookup,f.isList.typeIs,?_⟩;refine wpAny_getItem_list_slice f.isList i m n .none (by simp) ?_ (by rw[lH]<;>lia);rw[aag,<-d];refine⟨.ref s.heap.objs.size,_,T.laid (t':=s.toks) (o:=.lst (EX c lo e)) (λb t q=>kB _ q) (kD _) ?_,rfl,q _ (T.hok.fresh<|kD _)⟩;exact⟨lY (yH c lo e) k,_,0,(r.drop<|HT.AX c.length 0 lo).take<|HT.AX c.length c.length e-HT.AX c.length 0 lo,kW _ rfl⟩
def wW:lr X (.builtin "len") (λk H Q=>∃p d,k=[.ref p]/\(G1 X.K H p d\/Hd X.K H p d)/\Q (.int d.length) H):=by
 intro j s t H k o Q T r h;obtain⟨p,d,rfl,e,q⟩:=h;obtain⟨u,rfl,m⟩:=qC r;cases m;have n:=Dj;rcases e with e|e
 .obtain⟨f,i,g,l⟩:=T.list e;have c:=i.length;exact Calls.call_len_list g.isList (by simp only[lH]<;>lia) ⟨.int d.length,H,T.tok _,⟨s.toks+1,by rw[lH,c]⟩,q⟩
 obtain⟨f,i,g,l⟩:=T.tuple e;have c:=i.length;exact len_tuple g (by simp only[lH]<;>lia) ⟨.int d.length,H,T.tok _,⟨s.toks+1,by rw[lH,c]⟩,q⟩
def wV:lr X (.type "list") (λE H Q=>∃p i,E=[.ref p]/\(G1 X.K H p i\/Hd X.K H p i)/\∀l,H l=U->Q (.ref l) (upd H l<|.lst i)):=by
 intro v s O H E T Q N r h;obtain⟨p,i,rfl,k,q⟩:=h;obtain⟨u,rfl,L⟩:=qC r;cases L
 have fin:∀(c:kF),Vals i c->i.length<=sizeLine->∀(d:jH)(f:Nat),(∀b A,s.heap.get? b=Y A->d.get? b=Y A)->
   d.get? s.heap.objs.size=Y {cls:=.type "list",dict:=U,data:=.seq c.toArray f,slots:= #[]}->EP X v O Q (.ref s.heap.objs.size) {s with heap:=d}:=λc g m d f t e=>
  ⟨.ref s.heap.objs.size,_,N.laid (t':=s.toks) t (kD _) (show Z7 X.prog X.w _ d _ (.lst i)from⟨m,c,f,g,e⟩),rfl,q _ (N.hok.fresh<|kD _)⟩
 rcases k with k|k
 .obtain⟨c,g,z,m⟩:=N.list k;have j:=g.length;obtain⟨o,y,x,n,hd⟩:=z.isList;exact Fa p (.inl J) y x hd (λd f t e=>fin c g m d f t e) (by simp only[lH]<;>omega)
 obtain⟨c,g,z,m⟩:=N.tuple k;have j:=g.length;obtain⟨o,y,x,n,hd⟩:=z;exact Fa p (.inr J) y x hd (λd f t e=>fin c g m d f t e) (by simp only[lH]<;>omega)
def uX:lr X (.type "tuple") (λv H Q=>∃p f,v=[.ref p]/\((G1 X.K H p f/\∀l,H l=U->Q (.ref l) (upd H l<|.tup f))\/(Hd X.K H p f/\Q (.ref p) H))):=by
 intro c s x H v E Q T r h;obtain⟨p,f,rfl,h⟩:=h;obtain⟨u,rfl,A⟩:=qC r;cases A;rcases h with⟨i,q⟩|⟨i,q⟩
 .obtain⟨d,k,j,t⟩:=T.list i;have n:=k.length;refine call_tuple_list j.isList (λg z=>?_) (by simp only[lH]<;>lia);have m:Inv X c x H {s with heap:=g}:=T.kept (t':=s.toks) z
  have y:Inv X c x (upd H g.objs.size<|.tup f) {s with heap:=g.push {cls:=.type "tuple",data:=.seq d.toArray}}:=
   m.laid (t':=s.toks) (λb o e=>kB _ e) (kD _) (show Z7 X.prog X.w _ _ _ (.tup f)from⟨t,d,k,Hq.new _ _⟩)
  exact⟨.ref g.objs.size,_,y,rfl,q _ (m.hok.fresh<|kD _)⟩
 obtain⟨d,k,j,t⟩:=T.tuple i;exact call_tuple_same j ⟨.ref p,H,T,rfl,q⟩
def tyV(K:jJ)(T:String)(x:V)(H:Hp):Prop:=match x with
 |.str _=>T="str"
 |.int _=>T="int"
 |.ref p=>(T="list"/\∃d,G1 K H p d)\/(T="tuple"/\∃o,K.lookup p=Y o/\o.cls=.type "tuple"/\o.dict=U)\/
   (T="dict"/\((∃c,H p=Y (.dK c))\/∃c,H p=Y (.dT c)))\/(T="set"/\∃S n,H p=Y (.set S n))
 |_=>False
def S7{d:kf}{q:St}{H:Hp}{s:jk}{T:String}{x:V}{v:jr}(Q:Inv X d q H s)(r:RelV x v)(ty:tyV X.K T x H):
  s.TypeIs v T/\∀a,v=.ref a->∃h,s.heap.get? a=Y h/\h.dict=U:=by
 cases x with
 |str z=>obtain⟨t,rfl⟩:=r;cases(show T="str" from ty);exact⟨typeIs_str s z t,λ_ e=>nomatch e⟩
 |int i=>obtain⟨t,rfl⟩:=r;cases(show T="int" from ty);exact⟨typeIs_int s i t,λ_ e=>nomatch e⟩
 |ref p=>
  cases r;rcases ty with⟨rfl,u,l⟩|⟨rfl,o,hk,k,hd⟩|⟨rfl,hk⟩|⟨rfl,S,n,hk⟩
  .obtain⟨m,_,j,_⟩:=Q.list l;refine⟨j.isList.typeIs,λa e=>?_⟩;cases e;obtain⟨o,n,e,c,hd,_⟩:=j;exact⟨o,e,hd⟩
  .refine⟨⟨o,Q.G8 p o hk,k⟩,λa e=>?_⟩;cases e;exact⟨o,Q.G8 _ o hk,hd⟩
  .have z:∃o,s.heap.get? p=Y o/\o.ExactDict:=by
    rcases hk with⟨g,hk⟩|⟨g,hk⟩
    .obtain⟨_,_,_,_,o,_,_,e,ex,_⟩:=Q.hok p _ hk;exact⟨o,e,ex⟩
    obtain⟨_,_,_,_,o,_,_,e,ex,_⟩:=Q.hok p _ hk;exact⟨o,e,ex⟩
   obtain⟨o,e,ex⟩:=z;refine⟨⟨o,e,ex.1⟩,λa f=>?_⟩;cases f;exact⟨o,e,ex.2.1⟩
  obtain⟨o,_,_,_,e,ex,_⟩:=Q.hok p _ hk;refine⟨⟨o,e,ex.1⟩,λa f=>?_⟩;cases f;exact⟨o,e,ex.2.1⟩
 |_=>exact aJ ty
def tBM(K:jJ)(T:String)(r:V->List V->Hp->VK->Prop)(to:TE)(t:TA):TE:=λd H Q=>to d H λx c=>tyV K T x c/\t d c λf e=>r x f e Q
variable {o e:jv}{g:lg}{to:TE}{t:TA}{d:ap}{m A:bt}{T id:String}{r:V->List V->Hp->VK->Prop}
abbrev M4(X:Cx)(p:bt)(g:lg):Prop:=((aV p<|ac g X.env).all (λx=>!x.1)&&(backToKw p<|keywordEach [] X.env).all (λx=>x.1.isSome)&&decide (TD g+([]:List J4).length+(if([]:List J4).isEmpty then 0 else 1)<30))=Td
abbrev M6(X:Cx)(o:jv)(d:ap):Prop:=attributeBase o d X.env (aY o X.env)=aY o X.env
def RX(J:PlainAttrs T)(slot:Slot T d id)(f:zx (.builtin id)=pure (.type "method_descriptor"))(y:MtR X id r)(z:PE X o to)(w:PA X (e::g) t)
  (O:M6 X o d:=by rfl)
  (G:M4 X A (e::g):=by rfl)
  (L:(m.endLine==A.line)=Td:=by rfl)(E:ac (e::g) X.env=(Tk,aY e X.env)::ac g X.env:=by rfl)(q:(aV A<|ac g X.env).any (·.1)=Tk:=by rfl):
  PE X (.Call (.Attribute o d m) (e::g) [] A) (tBM X.K T r to t):=by
 intro c s i H Q I h;refine F3 O G L Tl<|T2 (z c s i H _ I h) ?_;rintro v s1 ⟨x,H1,j,l,ty,M⟩;obtain⟨h1,u⟩:=S7 j l ty;refine⟨T,id,J,slot,f,h1,u,?_⟩;have k:=w A c s1 i H1 _ j M;rw[E]at k ⊢;refine F1 (by show(Tk||(aV A<|ac g X.env).any (·.1))=Tk;rw[q]<;>rfl)<|FZ ?_;exact T2 k λus Y' ⟨vs,n,p,U',N⟩=>y c Y' i n x vs v us Q p l U' N
end
def MtM(X:Cx)(id:String)(r:V->List V->Hp->VK->Prop):Prop:=
 ∀(a:kf)(s:jk)(d:St)(H:Hp)(x:V)(c:List V)(v:jr)(b:kF)(Q:VK),Inv X a d H s->RelV x v->Vals c b->r x c H Q->
  aa (ae X.prog X.w) X.A (call (.builtin id) (v::b)) (EP X a d Q) X.xe s
def Vals.one{x:V}{a:kF}:Vals [x] a->Vl1 x a:=qC
theorem Vals.eraseIdx:∀{b:List V}{a:kF}(i:Nat),Vals b a->Vals (b.eraseIdx i) (a.eraseIdx i)
 |_,_,_,.nil=>.nil
 |_,_,0,.cons _ t=>t
 |_,_,i+1,.cons r t=>.cons r (Vals.eraseIdx i t)
theorem BH{a:Type}:∀(l:List a)(i:Nat),(l.eraseIdx i).length<=TD l
 |[],_=>kD _
 |_::_,0=>uP _
 |_::r,i+1=>Nat.succ_le_succ<|BH r i
section
variable {X:Cx}{pins:kf}{σ:St}{H:Hp}{s:jk}{l b:jh}{xs ys zs:List V}
def Inv.L9{a its':kF}{n:Nat}{f:Array jr->Array jr}{j:Nat}(T:Inv X pins σ H s)(c:H l=Y (.lst xs))
  (e:s.heap.get? l=Y {cls:=.type "list",data:=.seq a.toArray n})(g:f a.toArray=its'.toArray)(hv:Vals ys its')(i:(TD ys)<=sizeLine):
  Inv X pins σ (upd H l<|.lst ys) {s with heap:=s.heap.update l<|aM f,toks:=j}:=by
 have q:=PySem.IsL.update e f;rw[g]at q;refine T.write (x:=l) (e:=l) (by rw[c];exact trivial) (.inl J) (λk u d h=>(CP s.heap (aM f)<|rY d).trans h) ⟨_,q⟩ ?_;exact⟨i,its',_,hv,q⟩
def Inv.MT{a:kF}{t':Nat}(T:Inv X pins σ H s)(hv:Vals ys a)(c:(TD ys)<=sizeLine):
  Inv X pins σ (upd H s.heap.objs.size<|.lst ys) {s with heap:=s.heap.push {cls:=.type "list",data:=.seq a.toArray},toks:=t'}:=
 T.laid (λ_ _ q=>kB _ q) (kD _) ⟨c,a,0,hv,kW _ rfl⟩
def Inv.fresh(T:Inv X pins σ H s):H s.heap.objs.size=U:=T.hok.fresh<|kD _
inductive LsM(h:jH)(l:jh)(xs:List V):Prop where
 |mk (_:(TD xs)<=sizeLine) (its:kF) (n:Nat) (_:Vals xs its) (_:(TD xs)=TD its) (_:h.get? l=SI {cls:=.type "list",data:=.seq its.toArray n})
def Inv.L8(T:Inv X pins σ H s)(c:H l=Y (.lst xs)):LsM s.heap l xs:=by obtain⟨z,a,n,r,e⟩:=T.hok l _ c;exact⟨z,a,n,r,r.length,e⟩
end
section
variable {X:Cx}
def PD:V->List V->Hp->VK->Prop:=λx b H Q=>∃l a y,x=.ref l/\b=[y]/\H l=Y (.lst a)/\(TD a)<sizeLine/\Q .Z4 (upd H l<|.lst<|a++[y])
def ab1:MtM X "list.append" PD:=by
 intro c s p H x m v k Q T g f h;obtain⟨l,o,y,rfl,rfl,b,j,q⟩:=h;cases g;obtain⟨u,rfl,d⟩:=f.one;obtain⟨z,a,n,r,i,e⟩:=T.L8 b;refine zG F.slot_list_append ⟨_,e,rfl⟩ Lv (Lu _ _) (il l a.toArray n u<|by rw[lH];lia) ⟨e,?_⟩;refine⟨.Z4,_,T.L9 (its':=a++[u]) b e (by simp) (r.append<|.cons d .nil) ?_,rfl,q⟩;rw[ox,xK]
 lia
def TK:V->List V->Hp->VK->Prop:=λx b H Q=>∃l a i k y,x=.ref l/\b=[.int i]/\H l=Y (.lst a)/\ -(2^63)<=i/\i<2^63/\t9 i (TD a)=Y k/\a[k]?=Y y/\Q y (upd H l<|.lst<|a.eraseIdx k)
def ac3:MtM X "list.pop" TK:=by
 intro c s L H x E v O Q T A p h;obtain⟨l,B,i,k,y,rfl,rfl,b,h1,d,hk,j,q⟩:=h;cases A;obtain⟨u,rfl,o⟩:=p.one;obtain⟨t,rfl⟩:=o;obtain⟨z,a,n,r,f,e⟩:=T.L8 b;obtain⟨w,g,m⟩:=r.get j
 refine zG F.slot_list_pop ⟨_,e,rfl⟩ F.entry_list_pop (F.args_list_pop_2 _ _)
  (MeetsSeq.list_pop_at l a.toArray n i t k w (fitsIndex_both h1 d) (by rw[lH,<-f];exact hk) (by rw[<-mD];exact g)<|by rw[lH];lia) ⟨e,?_⟩
 refine⟨y,_,T.L9 (its':=a.eraseIdx k) b e ?_ (r.eraseIdx k) ?_,m,q⟩
 .show a.toArray.eraseIdxIfInBounds k=(a.eraseIdx k).toArray;rw[List.eraseIdxIfInBounds_toArray]
 have:=BH B k
 lia
end
section
variable {a:jI}{w:jG}{A:jF}{E:jZ}{s:jk}
end
section
variable {X:Cx}
end
end L2
namespace Att
open PySem.W PySem.Calls
def yR{P:Params}{h:jH}:∀(c:jn)(d:kF),WellAll P h d (c.map WData.int)->ey d c:=by
 intro c
 induction c with
 |nil=>intro d w;rw[qx]at w;cases w;exact .nil
 |cons n c e=>
  intro d w;rw[kG]at w
  cases w with
  |cons a b=>
   cases a;exact .cons _ _ (e _ b)
def ach{l:OpenLaw}{n:Nat}(v:l.most=Y n){P:Params}{h:jH}{b:List WData}{e:kF}
  (m:l.row.toRowW.claim.pre b=C)(s:WellAll P h e b):
  ∃a o c,e=[bU a]/\b=[WData.list<|c.map WData.int]/\h.get? a=Y {cls:=.type "list",data:=.seq o.toArray}/\ey o c/\(TD c)<=n:=by
 have p:WShape.hasAll [] b [.list .int]=C:=(pre_splitW m).1;have k:l.pre.holds [] {args:=b}=C:=(pre_splitW m).2;obtain⟨d,r,rfl,h1,t⟩:=hasAllW_cons p;obtain rfl:=hasAllW_nil t;obtain⟨A,rfl,u⟩:=hasW_list h1;obtain⟨c,rfl⟩:=items_int u
 have g:(TD c)<=n:=by
  unfold OpenLaw.pre at k
  have i:(WTm.not<|.lt (.lit<|.int (n:Int))<|.len<|.arg 0).holds [] {args:=[.list<|c.map .int]}=C:=by have i:=(holds_andW k).1;rw[v]at i;exact i
  have j:=condW_of i<|w_not<|w_lt w_lit<|w_len_list<|w_arg J;rw[kN]at j;refine n5 λq=>?_;have x:(n:Int)<(((TD c):Nat):Int):=by omega
  first
   |(rw[nW x]at j;exact absurd j<|by decide)
   |(simp at j;omega)
 cases s with
 |cons y z=>
  cases z
  cases y with
  |list w f=>exact⟨_,_,c,rfl,rfl,w,yR c _ f,g⟩
def abR(l:OpenLaw)(a:List WData):l.row.toRowW.claim.post a (.bool C) a=C:=
 postW_of (r:=l.row.toRowW) (X:=C==C)
  (show WShape.has [] (.bool C) .bool=C by first|rfl|decide|simp[WShape.has,WShape.arms,WShape.armsAll])
  (show(WTm.eq .res<|.lit<|.bool C).value [] {args:=a,res:=Y<|.bool C,after:=a}=Y (.bool<|C==C)from w_eq_bool (w_res J) w_lit) rfl
def Rv{l:OpenLaw}{n:Nat}{q:jI}{c:jK}{x:(ap->Option jr)->jH->Prop}{y:jG->jH->Prop}{d:DefRec}
  (U:l.most=SI n)(E:d.params.defaults=[])
  (call:∀(w:jG)(e b:jk)(m u:ml)(j:jh)(o:eM)(v cd g:jr)(a:jh)(i:kF)(p:jn),
   Ground q c [] x w e m u b.heap->y w b.heap->
   b.heap.get? j=SI o->o.data=.func (docDef d.name d.params d.body d.scope v cd g)->b.heap.CodeRec cd d.name->m d.name=SI (.ref j)->
   b.heap.get? a=SI {cls:=.type "list",data:=.seq i.toArray}->ey i p->TD p<=n->b.gens= #[]->
   bQ (ae l.prog w) fX (.call (.ref j) ⟨[.ref a],[]⟩) (λr s=>r=.ok (.ret<|.bool Td)/\OldK b.heap s.heap/\s.os=b.os/\dR s.gens) b):
  WalkO q c x y l.row.toRowW d [] (λf i=>uu f i):=by
 intro w e b m u G Y j o v cd g H kV D hd P A t J z C as R B K L M;obtain rfl:H=.none:=Dflts.none A E;obtain rfl:kV=.none:=Dflts.noKw A;obtain⟨a,i,p,rfl,rfl,I,h,k⟩:=ach U R L;refine enter_call<|rX (call w e b m u j o v cd g a i p G Y D (fd_plain hd) P t I h k J) λr s F=>?_;obtain⟨rfl,O,Q,T⟩:=F;exact⟨.inl ⟨.bool Td,.bool Td,[],rfl,λ_=>rfl,.bool Td,abR l _,λ_=>⟨b8,λ_ N=>(nomatch N)⟩⟩,O,Q,T⟩
section
variable {a:jI}{w:jG}{A:jF}{E:jZ}{s:jk}{K:Frag}
end
end Att
namespace L2
def ab9{b:kF}{a:jn}(h:ey b a):Vals (a.map V.int) b:=by
 induction h with
 |nil=>exact .nil
 |cons n t h c=>exact .cons ⟨t,rfl⟩ c
noncomputable def qk(s:aW):Arguments:=match s with
 |.FunctionDef _ a _ _ _ _ _ _ _ _=>a
 |_=>{posonlyargs:=[],args:=[],vararg:=U,kwonlyargs:=[],kw_defaults:=[],kwarg:=U,defaults:=[]}
noncomputable def mJ(s:aW):List Stmt:=match s with
 |.FunctionDef _ _ b _ _ _ _ _ _ _=>b
 |_=>[]
noncomputable def jy(s:aW):Scope:=match s with
 |.FunctionDef _ _ _ _ _ _ a _ _ _=>a
 |_=>{kind:=.function,names:=[],isGenerator:=I,isCoroutine:=I}
abbrev El:JI:=λ_ _ _ _ _ _=>False
abbrev E0:XK:=λ_ _ _=>False
def RY{X:Cx}:HC El X E0:=λ_ _ _ _ _ _ _ h=>h.elim
structure JP(K:jJ)(x qual:ap)(st:aW)(f:jh)(fd:nu):Prop where
 ex:∃(oc:jr)(od:Option jh)(kV doc pm:jr)(an:Option jh)(e9 ct:jr)(u5:wc),
  fd=bD x qual (qk st) (mJ st) (jy st) .none kV doc pm an e9 ct/\K.lookup f=SI ⟨oc,od,.func fd,u5⟩/\cS K e9 qual=Td
 kp:cg K (.ref f)=Td
section
variable {P:jI}{w:jG}{K:jJ}{a:ml}{base:jH}
def JP.ok{x qual:ap}{st:aW}{f:jh}{g:nu}{N d:jK}{k:Nat}{e:Sp}(F:JP K x qual st f g)(S:Z2 N d (jy st))(len:∀vs H Q E,e vs H Q E->TD vs=TD d)
  (o:∀(c:jr)(A:jF)(b:List c9)(s:jk)(H:Hp)(vs:List V)(Q:VK)(E:XK),YP k (A.deeper<|bi qual (jy st) s.heap.objs.size f c)->e vs H Q E->
   ∃t,GJ (qW El P w K a base N qual (jy st) f c A b s H E).J2 (mJ st) t/\t {nx:=λ_ i=>Q .Z4 i,rt:=Q} (oY N vs) H):DF P w K a base El (k+1) f g d e:=by
 obtain⟨p,r,kV,l,u,an,c,ct,v,rfl,lk,n⟩:=F.ex;refine Sf lk n S len λA b s H vs Q E m j=>?_;obtain⟨t,h,q⟩:=o c A b s H vs Q E m j;exact⟨t,h.J2,q⟩
def JP.binds{x qual:ap}{st:aW}{f:jh}{i:nu}{e:jK}(F:JP K x qual st f i)
  (h:∀(kV b d:jr)(an:Option jh)(c ct:jr)(g:kF),TD g=TD e->db (bD x qual (qk st) (mJ st) (jy st) .none kV b d an c ct) ⟨g,[]⟩=pure (e.zip g)):Binds K i e []:=by
 obtain⟨k,l,kV,b,d,an,c,ct,m,rfl,lk,j⟩:=F.ex;exact .all<|h kV b d an c ct
def NY{x qual:ap}{st:aW}{f:jh}{g:jr}{h an:Option jh}{i:wc}{kV b e d ct:jr}(l:K.lookup f=Y ⟨g,h,.func<|bD x qual (qk st) (mJ st) (jy st) .none kV b e an d ct,i⟩)
  (c:cS K d qual=C)(k:cg K (.ref f)=C):JP K x qual st f (bD x qual (qk st) (mJ st) (jy st) .none kV b e an d ct):=⟨⟨g,h,kV,b,e,an,d,ct,i,rfl,l,c⟩,k⟩
end
section
variable {X:Cx}
end
def Xh{A B:Prop}(h:B):if I=C then A else B:=by rw[jP lQ];exact h
def Xg{A B:Prop}(h:A):if C=C then A else B:=by rw[jz J];exact h
theorem vY(b:c9):∀(l:List (ap×NameKind))(g:kL),(∀x∈l,x.2=.free->∃c,b.cells.lookup x.1=Y c)->(∀x c,g.lookup x=Y c->b.cells.lookup x=Y c)->
  ∃cl,(fq l g λx r=>if x.2==aG then do let a <-AC b x.1;pure (bj ((x.1,a)::r))else pure (bj r))=(pure cl:dc (List<|ap×jh))/\
   (∀x c,cl.lookup x=Y c->b.cells.lookup x=Y c)/\(∀x,(x,aG)∈l->∃c,cl.lookup x=Y c)/\∀x c,g.lookup x=Y c->∃c,cl.lookup x=Y c
 |[],g,_,m=>⟨g,rfl,m,λx h=>by simp at h,λx c h=>⟨c,h⟩⟩
 |(n,k)::l,g,h,m=>by
  by_cases hk:k=.free
  .subst hk;obtain⟨c,e⟩:=h (n,.free) la J;have q:b.cells.lookup n=Y c:=e
   obtain⟨cl,h1,o,p,j⟩:=vY b l ((n,c)::g) (λx f=>h x<|kn _ f) (λx d f=>by
    rw[oW]at f
    cases i:x==n with
    |true=>rw[i]at f;have:=pG i;subst this;cases f;exact q
    |false=>rw[i]at f;exact m x d f)
   refine⟨cl,?_,o,λx f=>?_,λx d f=>?_⟩
   .rw[zF];have:AC b n=pure c:=by unfold AC;rw[q]
    simp -iota only[this,wr,nv];exact h1
   .rcases nQ.mp f with z|z
    .cases z;exact j n c (by simp)
    exact p x z
   cases i:x==n
   .exact j x d (by rw[oW,i];exact f)
   have:=pG i;subst this;exact j x c (by simp)
  obtain⟨cl,h1,o,p,j⟩:=vY b l g (λx f=>h x<|kn _ f) m;have i:(k==aG)=I:=by simpa using hk
  refine⟨cl,?_,o,λx f=>?_,j⟩
  .rw[zF];simp -iota only[i,mT,wr];exact h1
  rcases nQ.mp f with z|z
  .cases z;exact absurd J hk
  exact p x z
def vX(b:c9)(scope:kb)(h:∀x∈scope.names,x.2=.free->∃c,b.cells.lookup x.1=Y c):
  ∃cl,q7 scope b=pure cl/\(∀x c,cl.lookup x=Y c->b.cells.lookup x=Y c)/\∀x,(x,aG)∈scope.names->∃c,cl.lookup x=Y c:=by
 obtain⟨cl,h1,d,e,_⟩:=vY b scope.names [] h (λx c f=>by simp at f);refine⟨cl,?_,d,e⟩;unfold q7;have:(fq scope.names ([]:List (ap×jh)) λx r=>if x.2==aG then do let a <-AC b x.1;pure (bj ((x.1,a)::r))else pure (bj r))=(pure cl:dc (List<|ap×jh)):=h1
 first
  |exact(nC (· >>=λr=>pure r) this).trans (wr _ _)
  |(simp -iota;exact this)
  |exact this
theorem nG:∀(b:List (ap×NameKind))(n:Nat)(a:kL),bb n b a=bb n b []++a
 |[],_,_=>rfl
 |(x,k)::r,n,a=>by
  unfold bb;split
  .rw[nG r (n+1) ((x,n)::a),nG r (n+1) [(x,n)],qb];rfl
  exact nG r n a
theorem qt{x:ap}{c:jh}:∀(a:List (ap×NameKind))(n:Nat),(x,c)∈bb n a []->(x,aE)∈a
 |[],_,h=>by simp[bb]at h
 |(y,k)::r,n,h=>by
  unfold bb at h;split at h
  .rename_i hk;rw[nG]at h;rcases qm.mp h with z|z
   .exact kn _ (qt r _ z)
   cases DR.mp z;rw[pG hk];exact la
  exact kn _ (qt r _ h)
structure Mu(cells:kL)(scope:kb)(C:jh)(h:jH)(cl:kL):Prop where
 one:∀x c,cl.lookup x=SI c->(cells.lookup x=SI c/\scope.names.lookup x≠SI .cell)\/(C<c/\scope.names.lookup x=SI .cell/\h.IsCell c SS)
 all:∀x,(x,aG)∈scope.names\/(x,aE)∈scope.names->∃c,cl.lookup x=SI c
 inj:∀x y c,C<c->cl.lookup x=SI c->cl.lookup y=SI c->(∀z d,cells.lookup z=SI d->d<C)->x=y
 ex:∀x c,cl.lookup x=SI c->cells.lookup x=SI c\/C<c
def QE{M:gy}{A:jF}{E:jZ}{s:jk}{scope:kb}{globals:jh}{a:c9}{cl:kL}{qual:ap}{Q:c9->jk->Prop}(u:∀y∈scope.names,y.2=.cell->scope.names.lookup y.1=Y .cell)
  (m:∀x c,cl.lookup x=Y c->a.cells.lookup x=Y c)(T:∀x,(x,aG)∈scope.names->∃c,cl.lookup x=Y c)
  (B:∀k r,k.Ns s.heap.objs.size (λ_=>U)->(∀b o,s.heap.get? b=Y o->k.get? b=Y o)->Mu a.cells scope s.heap.objs.size k r->
   Q {scope,locals:=s.heap.objs.size,globals,cells:=r,qual,func:=U,code:=a.code,frame:=a.frame,builtins:=a.builtins} {s with heap:=k}):
  aa M A (da scope globals cl [] qual U .none<|Y a) Q E s:=by
 simp -iota only[da,hD,nv];refine ji<|xJ ?_;refine ji<|y4 _ (λv j i=>by cases n:j==aE<;>simp[n]) _ _ _ _ ?_;have ok:=IR scope.names (s.heap.push {cls:=.type "dict",data:=.dict #[]}) (s.heap.objs.size+1) [] ⟨λ_ _ O=>(nomatch O),b8⟩ (by rw[oV];exact kD _);rw[oV]at ok;rw[show({s with heap:=s.heap.push {cls:=.type "dict",data:=.dict #[]}}:jk).heap.objs.size=s.heap.objs.size+1 from oV ..];simp -iota;have g:∀x,(bb (s.heap.objs.size+1) scope.names cl).lookup x=((bb (s.heap.objs.size+1) scope.names []).lookup x).or (cl.lookup x):=λx=>by rw[nG,List.lookup_append]
 have f:∀x c,(bb (s.heap.objs.size+1) scope.names cl).lookup x=Y c->(cl.lookup x=Y c/\(bb (s.heap.objs.size+1) scope.names []).lookup x=U)\/(x,c)∈bb (s.heap.objs.size+1) scope.names []:=λx c h=>by
  rw[g]at h
  cases p:(bb (s.heap.objs.size+1) scope.names []).lookup x with
  |none=>rw[p]at h;exact .inl ⟨h,rfl⟩
  |some d=>rw[p]at h;cases h;exact .inr<|qd p
 have lo:∀{x:ap}{c:jh},(x,c)∈bb (s.heap.objs.size+1) scope.names []->s.heap.objs.size<c:=λ{x c} h=>(ok.empty x c h).2;refine ji<|ju<|ju<|B _ _ ((Heap.Ns.new s.heap<|.type "dict").keeps<|CN _ _) (λb o e=>CN _ _ b o (kB _ e)) ⟨λx c h=>?_,λx h=>?_,λx y c l h1 w t=>?_,λx c h=>?_⟩
 .rcases f x c h with⟨z,H⟩|z
  .refine .inl ⟨m x c z,λe=>?_⟩;have:=CT scope.names (s.heap.objs.size+1) []<|.inl e;rw[H]at this;cases this
  exact .inr ⟨lo z,u _ (qt _ _ z) rfl,(ok.empty x c z).1⟩
 .rcases h with h|h
  .obtain⟨c,l⟩:=T x h;rw[g,l];cases(bb (s.heap.objs.size+1) scope.names []).lookup x<;>exact⟨_,rfl⟩
  have:=CT scope.names (s.heap.objs.size+1) cl<|.inl<|u _ h rfl;exact Kz.mp this
 .rcases f x c h1 with⟨z,_⟩|z
  .exact absurd (t x c<|m x c z) (FY l)
  rcases f y c w with⟨q,_⟩|q
  .exact absurd (t y c<|m y c q) (FY l)
  exact H8 ok.apart z q
 rcases f x c h with⟨z,_⟩|z
 .exact .inl (m x c z)
 exact .inr (lo z)
noncomputable def Cx.comp(X:Cx)(d:jK)(scope:kb)(cl:kL)(T:jh)(e:jk)(c:Hp)(fp:lG)(a:kf):Cx:=
 {X with N:=d,s₀:=e,H₀:=c,env:=compEnvC scope cl T X.env,outer:=X.stack,stack:=X.stack,ex:=fp,fn:=λx=>scope.names.lookup x==Y .cell,pn:=X.pn++a,xe:=λ_ _=>False}
abbrev TB:=St->Hp->(St->Hp->Prop)->Prop
def PB(X:Cx)(code:dc Unit)(t:TB):Prop:=
 ∀(a:kf)(s:jk)(c:St)(H:Hp)(N:St->Hp->Prop),Inv X a c H s->t c H N->
  aa (ae X.prog X.w) X.A code (λ_ d=>∃b H',Inv X a b H' d/\N b H') X.xe s
def Jy(X:Cx)(b:lg)(t:TT):Prop:=
 ∀(a:kf)(s:jk)(d:St)(H:Hp)(Q:Bool->Hp->Prop),Inv X a d H s->t d H Q->
  aa (ae X.prog X.w) X.A (fq b C λc r=>if r=C then do let ok <-isTrue c X.env (aY c X.env);pure (bj ok)else pure (bj r)) (TP X a d Q) X.xe s
noncomputable def Wq:TT:=λ_ H Q=>Q C H
section
variable {X:Cx}
def Qb:Jy X [] Wq:=λa s b H Q T h=>wpAny_tests_nil ⟨H,T,h⟩
def Qa{c:jv}{t:TT}(h:PT X c t):Jy X [c] t:=λa s d H Q T b=>wpAny_tests_one<|h a s d H Q T b
noncomputable def kK(e:jv)(depth:Nat)(acc:jr)(a:c9):dc Unit:=
 match(bT e)[depth+1]? with
 |some c=>do
  let x <-aY c.iter a
  cW c.iter.pos
  let x <-ax c.iter a x
  let _ <-runOwn (.compStart e (depth+1) (<-b6 [x] (cM x)) acc a) a
 |none=>match e with
  |.ListComp b _ _ _=>do let _ <-call (.builtin "list.append") [acc,<-aY b a]
  |.SetComp b _ _ _=>do let v <-aY b a;cW b.pos;let _ <-call (.builtin "set.add") [acc,v]
  |_=>mo "no"
def HL(T:It)(g:TG)(l:TT)(tb:TB):TB:=λd H N=>∃W:Nat->Nat->St->Hp->Prop,(∃m,W 0 m d H)/\∀i m d H,W i m d H->
 (T.stop i H/\N d H)\/(T.go i H/\∀x f,T.yld i H x f->g x d f λa j=>l a j λb h=>if b=C then tb a h λe k=>∃c,c<m/\W (i+1) c e k else ∃c,c<m/\W (i+1) c a h)
def aaA(e:jv)(depth:Nat)(it f:jr)(b:c9)(g:pD)(o:(∃d a i p,e=.ListComp d a i p)\/(∃d a i p,e=.SetComp d a i p))
  (j:(bT e)[depth]?=Y g)(n:g.is_async=0)(k:∀h,(bT e)[depth+1]?=Y h->h.is_async=0):
  m4 e depth it f b=(do
   cW g.iter.pos
   match <-cu it with
   |none=>pure<|.done .next
   |some v=>
    eA g.target it v
    cy g.target b v
    let ok <-fq g.ifs C λc r=>if r=C then do let ok <-isTrue c b (aY c b);pure (bj ok)else pure (bj r)
    if ok=C then kK e depth f b
    again (.compLoop e depth it f b)):=by
 rcases o with⟨d,a,i,p,rfl⟩|⟨d,a,i,p,rfl⟩
 .have l:a[depth]?=Y g:=j;unfold m4 kK;simp only[clausesOf.eq_def]at j k ⊢;rw[l];simp only[n]
  cases m:a[depth+1]? with
  |none=>rfl
  |some h=>
   have:=k h m;simp only[this,xH,lL,mT]
   congr 1;funext _;congr 1;funext r
   cases r with
   |none=>rfl
   |some v=>
    dsimp only
    congr 1;funext _;congr 1;funext _;congr 1;funext ok
    cases ok
    .rfl
    simp only[rC];rfl
 have l:a[depth]?=Y g:=j;unfold m4 kK;simp only[clausesOf.eq_def]at j k ⊢;rw[l];simp only[n]
 cases m:a[depth+1]? with
 |none=>rfl
 |some h=>
  have:=k h m;simp only[this,xH,lL,mT]
  congr 1;funext _;congr 1;funext r
  cases r with
  |none=>rfl
  |some v=>
   dsimp only
   congr 1;funext _;congr 1;funext _;congr 1;funext ok
   cases ok
   .rfl
   simp only[rC];rfl
def Ob
  (d:(∃b a c p,e=.ListComp b a c p)\/(∃b a c p,e=.SetComp b a c p))
  (h:aa (ae prog w) A ((m4 e depth it acc env).onRaise (λx=>do ul x env;theTreesLotGoes x)) Q E s):
  aa (ae prog w) (A.under<|.compLoop e depth it acc env) ((ae prog w).den<|.compLoop e depth it acc env) Q E s:=by
 rcases d with⟨b,a,c,p,rfl⟩|⟨b,a,c,p,rfl⟩
 .exact h
 exact h
def Il{e:jv}{depth:Nat}{acc:jr}{c:pD}{g:TG}{ti:TT}{tb:TB}{J:It}{y:lG}{it:jh}{tn:Nat->jH->Prop}(cU:X.xe=λ_ _=>False)(hc:X.calm=C)
  (hl:(∃B k sc p,e=.ListComp B k sc p)\/(∃B k sc p,e=.SetComp B k sc p))(hg:(bT e)[depth]?=Y c)(ha:c.is_async=0)(l4:∀g',(bT e)[depth+1]?=Y g'->g'.is_async=0)
  (T:Turn X.prog X.w X.K c.target J y it tn)(pg:PG X c.target g)(bO:Jy X c.ifs ti)(pb:PB X (kK e depth acc X.env) tb)
  {a:kf}{s:jk}{σ:St}{H:Hp}{N:St->Hp->Prop}(I:Inv X a σ H s)(f2:∀b∈y,ud X a H b)(st:tn 0 s.heap)(h:HL J g ti tb σ H N):
  bQ (ae X.prog X.w) X.A (.compLoop e depth (.ref it) acc X.env) (λr Y'=>r=.ok .next/\∃f j,Inv X a f j Y'/\(∀b∈y,j b=U)/\N f j) s:=by
 obtain⟨W,⟨m0,w0⟩,turn⟩:=h;have R:∀{j:Hp},(∀b∈y,j b=U)->∀b∈y,ud X a j b:=λhn b v=>⟨hn b v,(f2 b v).2⟩
 have D:∀{α:Type}{t:dc α}{Q:α->jk->Prop}{E:jZ}{s:jk},aa (ae X.prog X.w) X.A t Q X.xe s->aa (ae X.prog X.w) X.A t Q E s:=λh=>oJ h (λ_ _ x=>x) λ_ _ z=>by rw[cU]at z;exact z.elim
 refine codeAny_loop Tl (λn Y'=>∃i f j,Inv X a f j Y'/\tn i Y'.heap/\(∀b∈y,j b=U)/\W i n f j) (λn Z hI=>?_) m0 ⟨0,σ,H,I,st,λb v=>(f2 b v).1,w0⟩;refine Ob hl ?_;refine wpAny_noted ?_;rw[aaA e depth (.ref it) acc X.env c hl hg ha l4];obtain⟨i,l,G,S,V,F,w3⟩:=hI;refine ji<|vE ?_;rcases turn i n l G w3 with⟨stop,qn⟩|⟨go,step⟩
 .refine ji (T2 (T.done X Tl Tl Tl hc i a Z l G _ S (R F) V stop) ?_);rintro r s4 ⟨P,I4⟩;subst P;exact ju ⟨rfl,l,G,I4,F,qn⟩
 refine ji (T2 (T.item X Tl Tl Tl hc i a Z l G _ S (R F) V go) ?_);rintro r s4 ⟨u,P,h4⟩;subst P;refine ji<|T2 h4 ?_;rintro _ s5 ⟨x,H5,I5,r5,y5,cJ,iU⟩;have jg:=I5.pinned (R iU)<|T.obj _ _ cJ;refine ji<|T2 (D<|pg _ s5 l H5 x u _ jg r5 (step x H5 y5)) ?_;rintro _ s6 ⟨σ6,H6,I6,q6⟩;refine ji<|T2 (D<|bO _ s6 σ6 H6 _ I6 q6) ?_;rintro ok s7 ⟨H7,I7,U'⟩
 have again:∀{O:jk}{q:St}{C':Hp},Inv X (a++zY y s5.heap) q C' O->(∃M,M<n/\W (i+1) M q C')->∃m,m<n/\∃i f j,Inv X a f j O/\tn i O.heap/\(∀b∈y,j b=U)/\W i m f j:=λ{O q C'} L a'=>by
  obtain⟨M,hm,w8⟩:=a'
  refine⟨M,hm,i+1,q,C',L.Bj,T.keep _ _ _ cJ λb v o e=>(L.pin (b,o)<|oX _ (oX _ (rK v e))).1,λb v=>?_,w8⟩;obtain⟨o,e,d⟩:=T.obj _ _ cJ b v;exact(L.pin (b,o)<|oX _ (oX _ (rK v e))).2.1
 cases ok with
 |false=>rw[jP lQ]at U';exact ju ⟨rfl,again I7 U'⟩
 |true=>rw[jz Tl]at U';simp -iota;refine ji<|T2 (D<|pb _ s7 σ6 H7 _ I7 U') ?_;rintro _ O ⟨q,C',L,q8⟩;exact ju ⟨rfl,again L q8⟩
def Wu(d:jh)(e:TE):TB:=λc H N=>e c H λy b=>∃a,b d=Y (.lst a)/\(TD a)<sizeLine/\N c (upd b d<|.lst<|a++[y])
def Qj{b:jv}{a:pZ}{i:kb}{p:bt}{depth:Nat}{d:jh}{j:TE}(o:a[depth+1]?=U)(m:PE X b j):PB X (kK (.ListComp b a i p) depth (.ref d) X.env) (Wu d j):=by
 intro f s k H N T h
 have l:kK (.ListComp b a i p) depth (.ref d) X.env=(do let _ <-call (.builtin "list.append") [.ref d,<-aY b X.env]):=by unfold kK;simp -iota only[clausesOf.eq_def];rw[o]
 rw[l];refine ji<|T2 (m f s k H _ T h) ?_;rintro u s1 ⟨y,H1,g,t,x,hd,w,q⟩;obtain⟨z,c,n,r,v,e⟩:=g.L8 hd;refine ji<|zG F.slot_list_append ⟨_,e,rfl⟩ Lv (Lu _ _) (il d c.toArray n u<|by rw[lH];lia) ⟨e,?_⟩;refine ju ⟨k,_,g.L9 (its':=c++[u]) hd e (by simp) (r.append<|.cons t .nil) ?_,q⟩;rw[ox,xK]
 lia
def D7{b:jI}{w:jG}{A:jF}{e:jv}{depth:Nat}{it acc:jr}{d:c9}{R:j8->jk->Prop}{s:jk}{c:pD}
  (q:(∃g a i p,e=.ListComp g a i p)\/(∃g a i p,e=.SetComp g a i p))(o:(bT e)[depth]?=Y c)(n:c.is_async=0)
  (l:bQ (ae b w) A (.compLoop e depth it acc d) R s)
  (j:∀(Q:jZ)(E:jZ),Q it s->aa (ae b w) A (cM it) Q E s):
  bQ (ae b w) A (.compStart e depth it acc d) R s:=by
 have h:aa (ae b w) A (io e depth it acc d) (λfin k=>match fin with|.done f=>R (.ok f) k|.again m=>m.quiet=C/\bQ (ae b w) A m R k) (notedBy (ae b w) A d λx k=>R (.error x) k) s:=by
  unfold io;rw[o];simp only[Option.elim,n,lL,mT];refine ji<|sQ<|wpAny_ite ?_;split
  .first
    |exact ji<|ju<|ju<|dA J l
    |exact ju<|dA J l
  exact ji (qy<|ji<|vE<|ji<|j _ _ (ju<|dA J l))
 rcases q with⟨g,a,i,p,rfl⟩|⟨g,a,i,p,rfl⟩
 .refine vC ?_;show aa _ A ((io (.ListComp g a i p) depth it acc d).onRaise (λx=>do ul x d;cW wL)) _ _ s;exact B2 h
 refine vC ?_;show aa _ A ((io (.SetComp g a i p) depth it acc d).onRaise (λx=>do ul x d;cW wL)) _ _ s;exact B2 h
noncomputable def acM(d:TI)(g:TG)(c:TT)(tb:TB):TB:=λa H N=>d a H λT b=>HL T g c tb a b N
def Ul{e:jv}{depth:Nat}{b:jr}{c:pD}{u:TI}{g:TG}{t:TT}{tb:TB}(C:X.xe=λ_ _=>False)(M:X.calm=Td)
  (o:(∃d a j p,e=.ListComp d a j p)\/(∃d a j p,e=.SetComp d a j p))(i:(bT e)[depth+1]?=SI c)(n:c.is_async=0)(l4:∀m,(bT e)[depth+1+1]?=SI m->m.is_async=0)
  (hs:∀x,ax c.iter X.env x=pure x)(pi:PI X c.target c.iter u)(pg:PG X c.target g)(B:Jy X c.ifs t)(pb:PB X (kK e (depth+1) b X.env) tb):
  PB X (kK e depth b X.env) (acM u g t tb):=by
 intro f s K H N I h
 have L:kK e depth b X.env=(do
  let x <-aY c.iter X.env
  cW c.iter.pos
  let x <-ax c.iter X.env x
  let _ <-runOwn (.compStart e (depth+1) (<-b6 [x] (cM x)) b X.env) X.env):=by
  unfold kK;rw[i]
 rw[L];refine ji<|T2 (pi f s K H _ I h) λv s1 h1=>ji<|vE<|ji<|rB (hs v)<|ji<|mE<|T2 h1 λR F G=>?_;obtain⟨it,S,W,J,P,rfl,y,T,l,O,D⟩:=G;refine ji<|wpAny_runOwn ?_;refine D7 o i n ?_ λQ E U=>T.self X.A 0 F Q E l U;refine rX (Il C M o i n l4 T pg B pb y O l D) λr V Y=>?_;obtain⟨rfl,k,w,z,_,q⟩:=Y;exact ju ⟨k,w,z,q⟩
end
theorem oZ{a:c9}:∀{b:List (ap×NameKind)}{x:ap},b.lookup x=Y .free->
  (b.map λ(n,k)=>if(k==aG&&a.scope.kind== .function&&a.kindOf n==Y .cell)then(n,aE)else(n,k)).lookup x=Y .cell\/
  (b.map λ(n,k)=>if(k==aG&&a.scope.kind== .function&&a.kindOf n==Y .cell)then(n,aE)else(n,k)).lookup x=Y .free
 |[],_,h=>by simp at h
 |(n,k)::r,x,h=>by
  have e:= @oZ a r x;rw[kG]
  cases c:x==n with
  |true=>
   simp only[oW,c]at h;cases h;by_cases d:(aG==aG&&a.scope.kind== .function&&a.kindOf n==Y .cell)=C
   .left;simp only[d,nv,oW,c]
   right;simp only[d,mT,oW,c,lL]
  |false=>
   simp only[oW,c]at h;by_cases d:(k==aG&&a.scope.kind== .function&&a.kindOf n==Y .cell)=C
   .simp only[d,nv,oW,c];exact e h
   simp only[d,mT,oW,c,lL];exact e h
theorem mq{a:c9}:∀{b:List (ap×NameKind)}{x:ap}{g:NameKind},
  (b.map λ(n,k)=>if(k==aG&&a.scope.kind== .function&&a.kindOf n==Y .cell)then(n,aE)else(n,k)).lookup x=Y g->∃k,(x,k)∈b/\(k=g\/k=.free)
 |[],_,_,h=>by simp at h
 |(n,k)::r,x,g,h=>by
  rw[kG]at h
  cases f:x==n
  .by_cases c:(k==aG&&a.scope.kind== .function&&a.kindOf n==Y .cell)=C
   .simp only[c,nv,oW,f]at h;obtain⟨i,h1,d⟩:=mq h;exact⟨i,kn _ h1,d⟩
   simp only[c,mT,oW,f,lL]at h;obtain⟨i,h1,d⟩:=mq h;exact⟨i,kn _ h1,d⟩
  have e:=pG f;subst e;by_cases c:(k==aG&&a.scope.kind== .function&&a.kindOf x==Y .cell)=C
  .refine⟨k,la,.inr ?_⟩
   have h1:(k==aG)=C:=by
    cases hk:(k==aG)with
    |true=>rfl
    |false=>rw[hk]at c;simp at c
   exact pG h1
  simp only[c,mT,oW,lL]at h;exact⟨k,la,.inl<|by simpa using h⟩
structure C8(X:Cx)(N':jK)(scope:kb)(pre:St->St):Prop where
 cell:∀y∈scope.names,y.2=.cell->scope.names.lookup y.1=SI .cell
 kind:scope.kind=.function
 names:∀y∈scope.names,y.2=.local->scope.names.lookup y.1=SI .local
 free:∀y∈scope.names,y.2=.free->X.env.scope.names.lookup y.1=SI .cell\/X.env.scope.names.lookup y.1=SI .free
 len:∀σ:St,(pre σ).length=TD N'
 pre:∀(σ:St)(i:Nat)(v:V)(x:ap),(pre σ)[i]?=SI (SI v)->N'[i]?=SI x->scope.names.lookup x=SI .free/\∃j:Nat,X.N[j]?=SI x/\σ[j]?=SI (SI v)
section
variable {X:Cx}
def Rj{H:jK}{scope:kb}{pre:St->St}(S:C8 X H scope pre){d:kf}{f:jk}{E:St}{t:Hp}{A:lG}{cl:kL}{C:jH}{t':Nat}(I:Inv X d E t f)
  (B:Mu X.env.cells scope f.heap.objs.size C cl)
  (w:∀b∈A,ud X d t b)(Q:∀b∈A,b<f.heap.objs.size)
  (t7:C.Ns f.heap.objs.size (λ_=>SS))(hk:∀b o,f.heap.get? b=Y o->C.get? b=Y o):
  Inv (X.comp H scope cl f.heap.objs.size f t A d) [] (pre E) t {f with heap:=C,toks:=t'}:=by
 have D:∀b∈J6 X.stack,t b=SS:=I.JQ;have O:∀b,b≠X.env.locals->b∉X.fs->b∉J6 X.stack:=λb h1 a z=>(nQ.mp<|I.GR b z).elim h1 a;have old:∀x c,X.env.cells.lookup x=Y c->c<f.heap.objs.size:=λx c e=>(I.cell x c e).elim λ_ z=>z.lt
 refine⟨⟨I.ok.mod,?_,I.ok.glob,I.ok.blt,kD _,λx y c h1 a=>?_,λx h=>?_,λx c q e=>?_,I.ok.hd,I.ok.frames,.inl Tl,λb g=>?_,
  I.bs,lY I.ok.bsz I.sz,λb o e g=>?_,λb g=>O b (w b g).2.1 (w b g).2.2.1,I.stack,D⟩,rfl,I.bare,Un.kept hk,⟨_,t7,λi x v h1 a T=>?_⟩,λx c h=>?_,I.hok.fresh<|kD _,λx c h=>?_,λp R=>?_,I.hok.kept hk,S.len E⟩
 .show(jd scope X.env).kind=.function;simp[jd,S.kind]
 .rcases B.ex x c h1 with z|z
  .rcases B.ex y c a with s|s
   .exact I.ok.inj x y c z s
   exact absurd (old x c z) (FY s)
  exact B.inj x y c z h1 a old
 ·
  have J:(jd scope X.env).names.lookup x=Y .cell\/(jd scope X.env).names.lookup x=Y .free:=h;refine B.all x ?_;rcases J with z|z
  .obtain⟨k,h1,a⟩:=mq z;rcases a with a|a<;>subst a
   .exact .inr h1
   exact .inl h1
  obtain⟨k,h1,a⟩:=mq z;rcases a with a|a<;>(subst a;exact .inl h1)
 .rcases B.one x c e with⟨_,z⟩|⟨z,_⟩
  .exact absurd (pG q) z
  exact wj z
 .refine⟨kU<|Q b g,λx c h=>?_⟩;rcases B.ex x c h with z|z
  .exact(w b g).2.2.2.2.1 x c z
  exact qe (CM (Q b g) z)
 ·
  have W:b∈A:=g;rcases(w b W).2.2.2.1 with z|z
  .exact I.ok.noex b o e z
  exact absurd (oK (kX e)<|lY I.ok.bsz z) (qf _)
 .obtain⟨q,j,K,hv⟩:=S.pre E i v x a h1;obtain⟨m,Z,P⟩:=I.loc;have G:=S.free (x,.free) (qd q) Tl;obtain⟨u,r,l⟩:=P j x v K hv (by rcases G with z|z;exact .inr<|.inl z;exact .inr<|.inr z);refine⟨u,r,.inr ⟨oZ q,?_⟩⟩;rcases l with⟨Y',_⟩|⟨_,c,F,V⟩
  .have M:X.env.scope.names.lookup x=Y .local:=Y';rcases G with z|z<;>(have s:X.env.scope.names.lookup x=_:=z;rw[M]at s;cases s)
  obtain⟨N,L⟩:=B.all x<|.inl<|qd q;rcases B.one x N L with⟨this,_⟩|⟨_,z,_⟩
  .rw[F]at this;cases this;exact⟨c,L,V.keeps hk⟩
  rw[q]at z;cases z
 .rcases B.one x c h with⟨z,_⟩|⟨_,_,z⟩
  .obtain⟨v,hv⟩:=I.cell x c z;exact⟨v,hv.keeps hk⟩
  exact⟨_,z⟩
 .rcases B.ex x c h with z|z
  .exact I.freeC x c z
  exact I.hok.fresh (wj z)
 have U:p∈X.pn++d:=by simpa[Cx.comp]using R
 obtain⟨e,n,h1,a,T⟩:=I.pin p U;exact⟨hk _ _ e,n,kU<|kX e,O _ h1 a,T⟩
def EY{q:jK}{scope:kb}{a:kf}{f g:jk}{n k:St}{i l:Hp}{j:lG}{cl:kL}{m:jH}(T:Inv X a n i f)(h:∀b∈j,ud X a i b)
  (Q:Inv (X.comp q scope cl f.heap.objs.size f i j a) [] k l g)(t:au f.heap.objs.size g.heap m):Inv X a n l {g with heap:=m}:=by
 have K:=T.Mf (s':=g) (ch:=j) Q.os Q.base Q.hok Q.bare λb d=>⟨(h b d).2.2.2.1,(h b d).2.1,(h b d).2.2.2.2.1,(h b d).2.2.2.2.2⟩
 have r:X.env.locals<f.heap.objs.size:=T.lt;refine K.turned (it:=f.heap.objs.size) (t':=g.toks) (λb o d e=>by rw[t.2 b d];exact e) Q.free (qe r) (.inr T.sz) (λx c u z=>?_) λp s z=>?_
 .obtain⟨v,o,e,_⟩:=T.cell x c u;exact absurd (kX e) (by rw[z];exact qf _)
 obtain⟨e,_⟩:=T.pin p s;exact absurd (kX e) (by rw[z];exact qf _)
def HM(o:HO)(T:It)(g:TG)(b:TT)(tb:jh->TB)(pre:St->St)(c:St)(H:Hp)(Q:VK):Prop:=
 ∀d,H d=U->HL T g b (tb d) (pre c) (upd H d o) λ_ a=>Q (.ref d) a
def YF(T:It)(g:TG)(a:TT)(tb:jh->TB)(pre:St->St)(b:St)(H:Hp)(Q:VK):Prop:=HM (.lst []) T g a tb pre b H Q
def BZ{e:jv}{o:HO}{l:eM}{c:pD}{s:pZ}{scope:kb}{v:jK}{pre:St->St}{g:TG}{ti:TT}{tb:jh->TB}{N:kL}{J:It}{i:lG}{it:jh}{tn:Nat->jH->Prop}
  (hl:(∃U' k sc p,e=.ListComp U' k sc p)\/∃U' k sc p,e=.SetComp U' k sc p)(hg:bT e=c::s)
  (S:C8 X v scope pre)(hc:X.calm=Td)(ha:c.is_async=0)(l4:∀L,s[0]?=SI L->L.is_async=0)
  (u9:∀(cl:kL)(C:jh)(t:jk)(u:Hp)(i:lG)(a:kf),let I':=X.comp v scope cl C t u i a
   PG I' c.target g/\Jy I' c.ifs ti/\∀d,PB I' (kK e 0 (.ref d) I'.env)<|tb d)
  (k7:∀x c,N.lookup x=SI c->X.env.cells.lookup x=SI c)(k8:∀x,(x,aG)∈scope.names->∃c,N.lookup x=SI c)
  {a:kf}{f:jk}{O:St}{m:Hp}{Q:VK}{E:jZ}{RR:jr->jh->j8->jk->Prop}(I2:Inv X a O m f)(T:Turn X.prog X.w X.K c.target J i it tn)(aO:tn 0 f.heap)(f2:∀b∈i,ud X a m b)
  (M:Inv X a O (upd m f.heap.objs.size o) {f with heap:=f.heap.push l})
  (h:HM o J g ti tb pre O m Q)
  (hRR:∀(d:jh)(cl:kL)(t:jk)(u G:Hp)(σ':St)(s4:jk),Inv X a O u t->(∀b∈i,ud X a u b)->Inv (X.comp v scope cl t.heap.objs.size t u i a) [] σ' G s4->Q (.ref d) G->RR (.ref d) t.heap.objs.size (.ok .next) s4):
  aa (ae X.prog X.w) X.A (da scope X.env.globals N [] X.env.qual U .none<|SI X.env) (λn H=>
   bQ (ae X.prog X.w) X.A (.compStart e 0 (.ref it) (.ref f.heap.objs.size) {n with scope:=jd scope X.env}) (RR (.ref f.heap.objs.size) n.locals) H) E {f with heap:=f.heap.push l}:=by
 have P:∀b∈i,b<f.heap.objs.size:=λb j=>by obtain⟨o,e,_⟩:=T.obj _ _ aO b j;exact kX e
 have Y:∀b∈i,ud X a (upd m f.heap.objs.size o) b:=λb j=>⟨by rw[ke<|kU<|P b j];exact(f2 b j).1,(f2 b j).2⟩
 refine QE S.cell k7 k8 λh1 cl t7 eW B=>?_;have hk:∀b o,(f.heap.push l).get? b=SI o->h1.get? b=SI o:=eW;have F:∀b∈i,b<(f.heap.push l).objs.size:=λb j=>by rw[oV];exact uO<|P b j
 have J0:=Rj (t':=f.toks) S M B Y F t7 hk;obtain⟨pg,bO,pb⟩:=u9 cl (f.heap.push l).objs.size {f with heap:=f.heap.push l} (upd m f.heap.objs.size o) i a;have y:tn 0 h1:=T.keep _ _ _ aO λb j o e=>hk b o<|kB _ e;have hw:=h f.heap.objs.size<|I2.hok.fresh<|kD _
 have D:∀b∈i,ud (X.comp v scope cl (f.heap.push l).objs.size {f with heap:=f.heap.push l} (upd m f.heap.objs.size o) i a) []
   (upd m f.heap.objs.size o) b:=λb j=>by
  obtain⟨z1,z2,z3,z4,z5,z6⟩:=Y b j;refine⟨z1,kU<|F b j,λz=>(nQ.mp<|M.GR b z).elim z2 z3,.inl j,λx c hx=>(B.ex x c hx).elim (z5 x c) λz=>qe<|CM (F b j) z,λp hp=>z6 p<|by simpa[Cx.comp]using hp⟩
 have R:(bT e)[0]?=SI c:=by rw[hg];rfl
 refine D7 hl R ha ?_ λQ' W hq=>T.self X.A 0 _ Q' W y hq
 refine rX (Il (X:=X.comp v scope cl (f.heap.push l).objs.size {f with heap:=f.heap.push l} (upd m f.heap.objs.size o) i a)
  (depth:=0) (acc:=.ref f.heap.objs.size) rfl hc hl R ha (λL V=>l4 L<|by rw[hg]at V;exact V) T pg bO (pb _) J0 D y hw) λr s4 hr=>?_
 obtain⟨rfl,σ4,G,Z,_,q⟩:=hr;exact hRR _ _ _ _ _ _ _ M Y Z q
def RL(d:TI)(g:TG)(c:TT)(tb:jh->TB)(pre:St->St):TE:=λa H Q=>d a H λT b=>YF T g c tb pre a b Q
def Ib{o:HO}{e:jv}{new:dc jr}{fp:bt}{c:pD}{i:pZ}{scope:kb}{O:jK}{pre:St->St}{U:TI}{g:TG}{ti:TT}{tb:jh->TB}
  (S:C8 X O scope pre)(hc:X.calm=Td)(ha:c.is_async=0)(l4:∀G,i[0]?=Y G->G.is_async=0)
  (hs:∀x,ax c.iter X.env x=pure x)(pi:PI X c.target c.iter U)
  (u9:∀(cl:kL)(C:jh)(N:jk)(z:Hp)(fp:lG)(a:kf),let l:=X.comp O scope cl C N z fp a
   PG l c.target g/\Jy l c.ifs ti/\∀d,PB l (kK e 0 (.ref d) l.env)<|tb d)
  (mk:∀(j:jk)(Q E:jZ),(∀n,(∀H,Z7 X.prog X.w H (j.heap.push n) j.heap.objs.size o)->Q (.ref j.heap.objs.size) {j with heap:=j.heap.push n})->aa (ae X.prog X.w) X.A new Q E j)
  (hl:(∃t f y p,e=.ListComp t f y p)\/∃t f y p,e=.SetComp t f y p)(M:bT e=c::i:=by rfl)(hev:aY e X.env=EQ e scope X.env fp new (c.is_async !=0) (aY c.iter X.env)):
  PE X e (λk H Q=>U k H λJ' Y'=>HM o J' g ti tb pre k Y' Q):=by
 intro a s k H Q I h;obtain⟨tg,V,u,P⟩:=c;obtain rfl:P=0:=ha;obtain⟨cl,n8,k7,k8⟩:=vX X.env scope λx hx hf=>I.ok.has x.1<|S.free x hx hf;rw[hev];refine Lr (use:=SS) (g:=⟨tg,V,u,0⟩) (gs:=i) M hs n8 S.kind S.names<|T2 (pi a s k H _ I h) λv s1 h1=>T2 h1 λeJ j h2=>?_;obtain⟨it,fp,tn,J',H2,rfl,B,T,K,W,hw⟩:=h2;refine mk _ _ _ λn hS=>?_;refine BZ (RR:=λr C=>compPost (ae X.prog X.w) X.A X.xe SS (EP X a k Q) r C) hl M S hc J l4 u9 k7 k8 B T K W (B.laid (t':=j.toks) (λb n q=>kB _ q) (kD _)<|hS _) hw λd R N z D σ' s4 F Z L q=>?_;obtain⟨m,hn,_⟩:=id L.loc;exact⟨m,hn,λh' p6=>⟨.ref d,D,EY F Z L p6,rfl,q⟩⟩
def ac4{j:jv}{c:pD}{f:pZ}{scope:kb}{k i4 l:bt}{N':jK}{pre:St->St}{wi:TI}{g:TG}{ti:TT}{tb:jh->TB}{y:ap}{i:Nat}
  (eO:cI (.ListComp j (c::f) scope k) (SI<|.Name y l) i4.line X.env=pure Td)
  (S:C8 X N' scope pre)(hc:X.calm=Td)(ha:c.is_async=0)(l4:∀g',f[0]?=SI g'->g'.is_async=0)
  (hs:∀x,ax c.iter X.env x=pure x)(pi:PI X c.target c.iter wi)(gB:PG X (.Name y l) (EL i))
  (u9:∀(cl:kL)(C:jh)(n:jk)(H3:Hp)(fp:lG)(a:kf),let B:=X.comp N' scope cl C n H3 fp a
   PG B c.target g/\Jy B c.ifs ti/\∀d,PB B (kK (.ListComp j (c::f) scope k) 0 (.ref d) B.env)<|tb d):
  PS X (.Assign [.Name y l] (.ListComp j (c::f) scope k) i4) (Te (RL wi g ti tb pre)<|EL i):=by
 intro a s L H D I h;obtain⟨Z,N,u,az⟩:=c;obtain rfl:az=0:=ha;obtain⟨cl,n8,k7,k8⟩:=vX X.env scope λx F hf=>I.ok.has x.1<|S.free x F hf;rw[exec_Assign_Name_used _ _ _ _ eO];refine ji<|vE<|ji ?_;show aa _ X.A (do let _ <-EQ (.ListComp j (⟨Z,N,u,0⟩::f) scope k) scope X.env _ (s8 []) Tk (aY N X.env) (SI<|cy (.Name y l) X.env)) _ _ s
 refine ji (oJ (Lr (use:=SI<|cy (.Name y l) X.env) (g:=⟨Z,N,u,0⟩) (gs:=f) (Q:=λ_ E=>SP X a D .next E) Tl hs n8 S.kind S.names
  (T2 (pi a s L H _ I h) λv s1 h1=>T2 h1 λeJ s2 h2=>?_)) (λ_ E hq=>ju<|ju hq) λ_ _ e=>e)
 obtain⟨it,fp,tn,J,H2,rfl,R,T,aO,f2,hw⟩:=h2;refine oy<|BZ (RR:=λM C=>compPost (ae X.prog X.w) X.A X.xe (SI<|cy (.Name y l) X.env) (λ_ E=>SP X a D .next E) M C) (.inl ⟨_,_,_,_,rfl⟩) Tl S hc Tl l4 u9 k7 k8 R T aO f2 (R.MT (t':=s2.toks) .nil<|by simp) hw λd cl' n H3 O σ' P r ff G q=>?_;obtain⟨m,hn,_⟩:=id G.loc;obtain⟨K,es,ep,ho,hd,hr⟩:=id hn;have V:Inv X a L O P:=EY r ff G (zE ..);have t:n.heap.objs.size≠X.env.locals:=qe r.lt;have U:n.heap.objs.size∉X.fs:=λz=>r.MP (kD _) z
 have IP:Inv X (a++[(n.heap.objs.size,K)]) L O P:=V.GL λp Y=>by
  rcases qm.mp Y with z|z
  .exact V.pin p (oX _ z)
  rcases DR.mp z with rfl
  exact⟨ho,G.free,t,U,λv z=>by rw[hd]at z;cases z⟩
 show aa _ X.A (cy (.Name y l) X.env<|.ref d) _ _ _;refine T2 (gB _ P L O (.ref d) (.ref d) _ IP rfl q) ?_;rintro _ s5 ⟨σ5,H5,I5,q5⟩;have W:=I5.pin (n.heap.objs.size,K) (by simp);refine⟨m,⟨K,es,ep,W.1,hd,hr⟩,λh' p6=>⟨σ5,H5,?_,q5⟩⟩;refine I5.Bj.turned (it:=n.heap.objs.size) (t':=s5.toks) (λb o hb e=>by rw[p6.2 b hb];exact e) W.2.1 t (.inr r.sz) (λx c F z=>?_) λp Y z=>?_
 .obtain⟨v,o,e,_⟩:=r.cell x c F;exact absurd (kX e) (by rw[z];exact qf _)
 obtain⟨e,_⟩:=r.pin p Y;exact absurd (kX e) (by rw[z];exact qf _)
end
end L2
namespace PX
open L2
inductive OK where
 |dct|set|fn(i:Nat)|exc(c:Nat)
 deriving DecidableEq
inductive D where
 |Z4|bl(b:Bool)|int(i:Int)|str(x:ap)|tup(l:List D)|lst(l:List D)|Z3(k:OK)(ks vs:List D)
mutual
noncomputable def D.hash:D->Int
 |.int i=>Ix i
 |.tup l=>reduceHash<|bh<|D.Es l
 |_=>0
noncomputable def D.Es:List D->List Int
 |[]=>[]
 |d::l=>D.hash d::D.Es l
end
noncomputable def lV:Key->D
 |.inl i=>.int i
 |.inr x=>.str x
def ZH(K:jJ)(o:eM)(T:Nat):Prop:=o.cls=.ref T/\(∀a:jh,PySem.W.KitX K (.ref a) (.ref T) λh=>h.get? a=Y o)/\∀n∈["int","bool","str","tuple","list","dict"],cQ K (.ref T) (.type n)=Y I
def Bf(K:jJ)(h:Option HO)(k:OK)(a c:List D)(b:List V):Prop:=
 match k with
 |.dct=>(∃kvs:List (Key×V),h=Y (.dK kvs)/\a=kvs.map (λp=>lV p.1)/\b=kvs.map (·.2))\/
   (∃kvs:List (List Key×V),h=Y (.dT kvs)/\a=kvs.map (λp=>.tup (p.1.map lV))/\b=kvs.map (·.2))
 |.set=>a=[]/\∃d:List (Int×V),h=Y (.Z6 d)/\d.Perm ((D.Es c).zip b)
 |.exc T=>(a=[]/\c=[]/\b=[])/\∃o,h=Y (.Bi o<|.own 0)/\ZH K o T
 |_=>False
def Bf.ex{K h k a vs us}(x:Bf K h k a vs us):∃o,h=Y o:=by
 cases k with
 |dct=>rcases x with⟨_,e,_⟩|⟨_,e,_⟩<;>exact⟨_,e⟩
 |set=>obtain⟨_,_,e,_⟩:=x;exact⟨_,e⟩
 |exc T=>obtain⟨_,_,e,_⟩:=x;exact⟨_,e⟩
 |_=>exact x.elim
def Bf.keep{K k a b us}(x:Bf K h k a b us)(c:∀o,h=Y o->h'=Y o):Bf K h' k a b us:=by obtain⟨o,e⟩:=x.ex;rw[c o e,<-e];exact x
abbrev Z5:=jh->Prop
def acj(K:jJ)(a:jh)(c:List V):Prop:= ∃(o:eM)(b:nJ)(n:Nat),K.lookup a=Y o/\o.cls=.type "list"/\o.dict=U/\o.data=.seq b n/\b.size<=sizeLine/\Vals c b.toList
def GW(K:jJ)(H:Hp)(O:Z5)(a:jh)(b:List V):Prop:=H a=Y (.tup b)/\¬O a
def GX(K:jJ)(H:Hp)(O:Z5)(a:jh)(b:List V):Prop:=(Rd H a (.lst b)/\¬O a)\/acj K a b
def GW.sq{K H O a xs}(h:GW K H O a xs):Hd K H a xs:=.inl (.inl h.1)
def GX.sq{K H O a xs}(h:GX K H O a xs):G1 K H a xs:=h.elim (λz=>.inl z.1) .inr
def Rd.mono{a u}(h:Rd H a u)(k:∀o,H a=Y o->H' a=Y o):Rd H' a u:=by
 rcases h with h|⟨o,h⟩
 .exact .inl (k _ h)
 exact .inr ⟨o,k _ h⟩
def GW.mono{K H H'}{a xs}(h:GW K H O a xs)(k:∀b o,H b=Y o->¬O b->H' b=Y o)(c:∀b,H b≠U->O' b->O b):GW K H' O' a xs:=
 ⟨k a _ h.1 h.2,λz=>h.2<|c a (by rw[h.1];simp) z⟩
def GX.mono{K H H'}{a xs}(h:GX K H O a xs)(k:∀b o,H b=Y o->¬O b->H' b=Y o)(c:∀b,H b≠U->O' b->O b):GX K H' O' a xs:=by
 rcases h with⟨r,n⟩|h
 .refine .inl ⟨Rd.mono r λo e=>k a o e n,λz=>n<|c a ?_ z⟩;rcases r with r|⟨_,r⟩<;>(rw[r];simp)
 exact .inr h
inductive Kl(S:jh->List V->Prop)(R:List V->Prop)(v:V):Prop where
 |mk (a:jh) (xs:List V) (_:v=.ref a) (_:S a xs) (_:R xs)
inductive MmI{α β:Type}(l:List α)(f:α->β)(b:β):Prop where
 |mk (a:α) (_:a∈l) (_:f a=b)
def jD{c d:Type}{l:List c}{f:c->d}{b:d}(h:b∈l.map f):MmI l f b:=let⟨a,x,y⟩:=rZ.mp h;⟨a,x,y⟩
mutual
def Rep(K:jJ)(H:Hp)(O:Z5):D->V->Prop
 |.Z4,v=>v=.Z4
 |.bl b,v=>v=.bl b
 |.int i,v=>v=.int i
 |.str x,v=>v=.str x
 |.tup l,v=>Kl (GW K H O) (Z9 K H O l) v
 |.lst l,v=>Kl (GX K H O) (Z9 K H O l) v
 |.Z3 k d c,v=>Kl (λa e=>¬O a/\Bf K (H a) k d c e) (Z9 K H O c) v
def Z9(K:jJ)(H:Hp)(O:Z5):List D->List V->Prop
 |[],a=>a=[]
 |d::l,a=>∃v r,a=v::r/\Rep K H O d v/\Z9 K H O l r
end
mutual
theorem Rep.mono{K H H'}{O O':Z5}(k:∀b o,H b=Y o->¬O b->H' b=Y o)(c:∀b,H b≠U->O' b->O b):∀{d:D}{v:V},Rep K H O d v->Rep K H' O' d v
 |.Z4,_,h=>h
 |.bl _,_,h=>h
 |.int _,_,h=>h
 |.str _,_,h=>h
 |.tup l,_,h=>by rw[Rep]at h ⊢;obtain⟨a,f,e,s,r⟩:=h;exact⟨a,f,e,s.mono k c,Z9.mono k c r⟩
 |.lst l,_,h=>by rw[Rep]at h ⊢;obtain⟨a,f,e,s,r⟩:=h;exact⟨a,f,e,s.mono k c,Z9.mono k c r⟩
 |.Z3 i j m,_,h=>by rw[Rep]at h ⊢;obtain⟨a,g,e,s,r⟩:=h;exact⟨a,g,e,⟨λz=>s.1<|c a (by obtain⟨o,q⟩:=s.2.ex;rw[q];simp) z,s.2.keep λo q=>k a o q s.1⟩,Z9.mono k c r⟩
theorem Z9.mono{K H H'}{O O':Z5}(k:∀b o,H b=Y o->¬O b->H' b=Y o)(a:∀b,H b≠U->O' b->O b):∀{l:List D}{c:List V},Z9 K H O l c->Z9 K H' O' l c
 |[],_,h=>h
 |d::l,_,h=>by rw[Z9]at h ⊢;obtain⟨v,r,e,h1,f⟩:=h;exact⟨v,r,e,Rep.mono k a h1,Z9.mono k a f⟩
end
def Rep.mkInt{K H O i}:Rep K H O (.int i) (.int i):=by rw[Rep]
def Rep.JY{K H O i}:Rep K H O (.bl i) (.bl i):=by rw[Rep]
def Rep.JB{K H O}:Rep K H O .Z4 .Z4:=by rw[Rep]
def Rep.mkStr{K H O i}:Rep K H O (.str i) (.str i):=by rw[Rep]
def Rep.int{K H O i v}(h:Rep K H O (.int i) v):v=.int i:=by rwa [Rep]at h
def Rep.bl{K H O i v}(h:Rep K H O (.bl i) v):v=.bl i:=by rwa [Rep]at h
def Rep.Z4{K H O v}(h:Rep K H O .Z4 v):v=.Z4:=by rwa [Rep]at h
def Rep.str{K H O i v}(h:Rep K H O (.str i) v):v=.str i:=by rwa [Rep]at h
def Rep.tup{K H O l v}(h:Rep K H O (.tup l) v):Kl (GW K H O) (Z9 K H O l) v:=by rwa [Rep]at h
def Rep.lst{K H O l v}(h:Rep K H O (.lst l) v):Kl (GX K H O) (Z9 K H O l) v:=by rwa [Rep]at h
def Rep.Z3{K H O k ks vs v}(h:Rep K H O (.Z3 k ks vs) v):Kl (λa b=>¬O a/\Bf K (H a) k ks vs b) (Z9 K H O vs) v:=by rwa [Rep]at h
def Rep.MQ{K H O k c b a us}(n: ¬O a)(h:Bf K (H a) k c b us)(r:Z9 K H O b us):Rep K H O (.Z3 k c b) (.ref a):=by rw[Rep];exact⟨a,us,rfl,⟨n,h⟩,r⟩
def Rep.J9{K H O l a xs}(h:GW K H O a xs)(r:Z9 K H O l xs):Rep K H O (.tup l) (.ref a):=by rw[Rep];exact⟨a,xs,rfl,h,r⟩
def Rep.MR{K H O l a xs}(h:GX K H O a xs)(r:Z9 K H O l xs):Rep K H O (.lst l) (.ref a):=by rw[Rep];exact⟨a,xs,rfl,h,r⟩
theorem Z9.length{K H O}:∀{l:List D}{vs:List V},Z9 K H O l vs->TD vs=TD l
 |[],vs,h=>by rw[Z9]at h;rw[h];rfl
 |d::l,vs,h=>by rw[Z9]at h;obtain⟨v,r,rfl,_,a⟩:=h;simp[Z9.length a]
inductive GtI(vs:List V)(i:Nat)(P:V->Prop):Prop where
 |mk (v:V) (_:vs[i]?=SI v) (_:P v)
theorem Z9.get{K H O}:∀{l:List D}{a:List V}{i:Nat}{d:D},Z9 K H O l a->l[i]?=Y d->GtI a i (Rep K H O d)
 |[],_,_,_,_,e=>by simp at e
 |d::l,a,0,b,h,e=>by rw[Z9]at h;obtain⟨v,r,rfl,h1,_⟩:=h;simp at e;subst e;exact⟨v,rfl,h1⟩
 |d::l,a,i+1,b,h,e=>by rw[Z9]at h;obtain⟨v,r,rfl,_,c⟩:=h;obtain⟨w,f,g⟩:=Z9.get (i:=i) c (by simpa using e);exact⟨w,by simpa using f,g⟩
def Z9.append{K H O}:∀{l m:List D}{a c:List V},Z9 K H O l a->Z9 K H O m c->Z9 K H O (l++m) (a++c):=by
 intro g
 induction g with
 |nil=>intro _ a _ h b;rw[Z9]at h;subst h;exact b
 |cons d l f=>intro _ a _ h b;rw[Z9]at h;obtain⟨v,r,rfl,h1,e⟩:=h;show Z9 K H O (d::(l++_)) _;rw[Z9];exact⟨v,_,rfl,h1,f e b⟩
def Z9.one{K H O}{d:D}{v:V}(h:Rep K H O d v):Z9 K H O [d] [v]:=by rw[Z9];exact⟨v,[],rfl,h,by rw[Z9]⟩
def Z9.nil{K H O}:Z9 K H O [] []:=by rw[Z9]
def Z9.cons{K H O}{l vs}(h:Rep K H O d v)(h':Z9 K H O l vs):Z9 K H O (d::l) (v::vs):=by rw[Z9];exact⟨v,vs,rfl,h,h'⟩
theorem Z9.take{K H O}:∀{l:List D}{vs:List V}(n:Nat),Z9 K H O l vs->Z9 K H O (l.take n) (vs.take n)
 |_,_,0,_=>by simp[Z9]
 |[],vs,n+1,h=>by rw[Z9]at h;subst h;simp[Z9]
 |d::l,vs,n+1,h=>by rw[Z9]at h;obtain⟨v,r,rfl,h1,a⟩:=h;exact Z9.cons h1<|Z9.take n a
theorem Z9.drop{K H O}:∀{l:List D}{a:List V}(n:Nat),Z9 K H O l a->Z9 K H O (l.drop n) (a.drop n)
 |_,_,0,h=>h
 |[],a,n+1,h=>by rw[Z9]at h;subst h;simp[Z9]
 |d::l,a,n+1,h=>by rw[Z9]at h;obtain⟨v,r,rfl,h1,b⟩:=h;exact Z9.drop n b
theorem Z9.set{K H O}{d:D}{v:V}(hv:Rep K H O d v):∀{l:List D}{vs:List V}(i:Nat),Z9 K H O l vs->Z9 K H O (l.set i d) (vs.set i v)
 |[],vs,i,h=>by rw[Z9]at h;subst h;simp[Z9]
 |e::l,vs,0,h=>by rw[Z9]at h;obtain⟨w,r,rfl,h1,a⟩:=h;exact Z9.cons hv a
 |e::l,vs,i+1,h=>by rw[Z9]at h;obtain⟨w,r,rfl,h1,a⟩:=h;exact Z9.cons h1<|Z9.set hv i a
abbrev Sl:=Option<|D×Bool
abbrev Dn:=List Sl
def Z8(b:L2.St)(δ:Dn)(a:jh):Prop:= ∃(i:Nat)(d:D),δ[i]?=Y (Y (d,C))/\b[i]?=Y (Y<|V.ref a)
def Ag(K:jJ)(H:Hp)(O:Z5):D->jh->Prop
 |.lst l,a=>∃d,H a=Y (.lst d)/\Z9 K H O l d
 |.Z3 k e c,a=>∃b,Bf K (H a) k e c b/\Z9 K H O c b
 |_,_=>False
def Ag.mono{K H H'}(h:Ag K H O d a)(k:∀b o,H b=Y o->¬O b->H' b=Y o)(c:∀b,H b≠U->O' b->O b)(f:∀o,H a=Y o->H' a=Y o):Ag K H' O' d a:=by
 cases d with
 |lst l=>obtain⟨i,e,r⟩:=h;exact⟨i,f _ e,Z9.mono k c r⟩
 |Z3 j m n=>obtain⟨g,e,r⟩:=h;exact⟨g,e.keep f,Z9.mono k c r⟩
 |_=>exact h
def Ag.some{K H}(h:Ag K H O d a):H a≠U:=by
 cases d with
 |lst l=>obtain⟨xs,e,r⟩:=h;rw[e];simp
 |Z3 b ks vs=>obtain⟨c,e,r⟩:=h;obtain⟨o,q⟩:=e.ex;rw[q];simp
 |_=>exact h.elim
def Ag.rep{K H}(h:Ag K H O d a)(f: ¬O' a)(c:∀b,H b≠U->O' b->O b):Rep K H O' d (.ref a):=by
 cases d with
 |lst l=>obtain⟨g,e,r⟩:=h;rw[Rep];exact⟨a,g,rfl,.inl ⟨.inl e,f⟩,Z9.mono (λb o e _=>e) c r⟩
 |Z3 i j m=>obtain⟨k,e,r⟩:=h;exact Rep.MQ f e<|Z9.mono (λb o e _=>e) c r
 |_=>exact h.elim
def Ow:Option HO->Prop
 |none=>False
 |some (.tup _)=>False
 |_=>True
def Ow.ne{o:Option HO}(h:Ow o):o≠U:=λe=>by rw[e]at h;exact h
def Ow.up{o a:Option HO}(h:Ow o)(k:∀x,o=Y x->a=Y x):Ow a:=by
 cases o with
 |none=>exact h.elim
 |some x=>rw[k x J];exact h
def MA{o:Option HO}(h:o=U): ¬Ow o:=λz=>z.ne h
def Ag.ow{K H}{O:Z5}{d:D}{a:jh}(h:Ag K H O d a):Ow (H a):=by
 cases d with
 |lst l=>obtain⟨g,e,_⟩:=h;rw[e];trivial
 |Z3 k b f=>
  obtain⟨c,e,_⟩:=h
  cases k with
  |dct=>rcases e with⟨_,e,_⟩|⟨_,e,_⟩<;>(rw[e];trivial)
  |set=>obtain⟨_,_,e,_⟩:=e;rw[e];trivial
  |exc T=>obtain⟨_,_,e,_⟩:=e;rw[e];trivial
  |_=>exact e.elim
 |_=>exact h.elim
inductive AtV(σ:L2.St)(i:Nat)(P:V->Prop):Prop where
 |mk (v:V) (_:σ[i]?=SI (SI v)) (_:P v)
inductive AtA(σ:L2.St)(i:Nat)(P:jh->Prop):Prop where
 |mk (a:jh) (_:σ[i]?=SI (SI<|V.ref a)) (_:P a)
structure ER(K:jJ)(H:Hp)(T:Z5)(σ:L2.St)(δ:Dn):Prop where
 len:(TD σ)=TD δ
 val:∀(i:Nat)(d:D),δ[i]?=SI (SI (d,Tk))->AtV σ i (Rep K H (λa=>Z8 σ δ a\/T a) d)
 own:∀(i:Nat)(d:D),δ[i]?=SI (SI (d,Td))->AtA σ i (Ag K H (λa=>Z8 σ δ a\/T a) d)
 inj:∀(i j:Nat)(d e:D)(a:jh),δ[i]?=SI (SI (d,Td))->δ[j]?=SI (SI (e,Td))->σ[i]?=SI (SI<|V.ref a)->σ[j]?=SI (SI<|V.ref a)->i=j
 nT:∀a,Z8 σ δ a->¬T a
 dom:∀a,T a->Ow (H a)
def ER.JR{K H T σ e}(E:ER K H T σ e)(h:Z8 σ e a):Ow (H a):=by obtain⟨i,d,h1,f⟩:=h;obtain⟨b,c,g⟩:=E.own i d h1;rw[f]at c;cases c;exact g.ow
def ER.Hx{K H T σ δ}(E:ER K H T σ δ)(h:Z8 σ δ a):H a≠U:=(E.JR h).ne
def ER.mono{K H H' σ δ}(E:ER K H T σ δ)(k:∀b o,H b=Y o->¬T b->H' b=Y o)(f:∀b,H b≠U->T' b->T b)(hd:∀a,T' a->Ow (H' a)):ER K H' T' σ δ where
 len:=E.len
 val:=λi d h=>by obtain⟨v,h1,c⟩:=E.val i d h;exact⟨v,h1,Rep.mono (λb o e n=>k b o e λz=>n<|.inr z) (λb g z=>z.elim .inl λz=>.inr (f b g z)) c⟩
 own:=λi d h=>by obtain⟨a,h1,c⟩:=E.own i d h;exact⟨a,h1,c.mono (λb o e n=>k b o e λz=>n<|.inr z) (λb g z=>z.elim .inl λz=>.inr (f b g z)) λo e=>k a o e<|E.nT a ⟨i,d,h,h1⟩⟩
 inj:=E.inj
 nT:=λa h z=>E.nT a h<|f a (E.Hx h) z
 dom:=hd
def Z8.set(h:Z8 σ (δ.set i<|Y (d,I)) a):Z8 σ δ a:=by
 obtain⟨j,e,h1,b⟩:=h;rw[xG]at h1;split at h1
 .split at h1<;>simp at h1
 exact⟨j,e,h1,b⟩
def ER.freeze{K H T σ m}(E:ER K H T σ m){i:Nat}{d:D}{b:Bool}(h:m[i]?=Y (Y (d,b))):ER K H T σ (m.set i<|Y (d,I))/\AtV σ i (Rep K H (λa=>Z8 σ (m.set i<|Y (d,I)) a\/T a) d):=by
 have o:i<(TD m):=(uT.mp h).1
 have p:AtV σ i (Rep K H (λa=>Z8 σ (m.set i<|Y (d,I)) a\/T a) d):=by
  cases b
  .obtain⟨v,h1,l⟩:=E.val i d h;exact⟨v,h1,Rep.mono (λ_ _ e _=>e) (λb _ z=>z.elim (λz=>.inl z.set) .inr) l⟩
  obtain⟨a,h1,l⟩:=E.own i d h;refine⟨.ref a,h1,l.rep (λz=>?_) λb _ z=>z.elim (λz=>.inl z.set) .inr⟩;rcases z with⟨j,e,n,q⟩|z
  .rw[xG]at n;split at n
   .first
     |(split at n<;>simp at n)
     |simp at n
   rename_i r;exact r<|E.inj i j d e a h n h1 q
  exact E.nT a ⟨i,d,h,h1⟩ z
 refine⟨⟨by rw[sJ];exact E.len,λj e c=>?_,λj e c=>?_,λj k e f a c hk h1 l=>?_,λa z=>E.nT a z.set,E.dom⟩,p⟩
 .by_cases g:i=j
  .subst g;rw[uS o]at c;cases c;exact p
  rw[nD g]at c;obtain⟨v,h1,l⟩:=E.val j e c;exact⟨v,h1,Rep.mono (λ_ _ e _=>e) (λb _ z=>z.elim (λz=>.inl z.set) .inr) l⟩
 .by_cases g:i=j
  .subst g;rw[uS o]at c;cases c
  rw[nD g]at c;obtain⟨a,h1,l⟩:=E.own j e c;exact⟨a,h1,l.mono (λ_ _ e _=>e) (λb _ z=>z.elim (λz=>.inl z.set) .inr) λ_ e=>e⟩
 have g1:m[j]?=Y (Y (e,C)):=by
  by_cases g:i=j
  .subst g;rw[uS o]at c;cases c
  rwa [nD g]at c
 have g2:m[k]?=Y (Y (f,C)):=by
  by_cases g:i=k
  .subst g;rw[uS o]at hk;cases hk
  rwa [nD g]at hk
 exact E.inj j k e f a g1 g2 h1 l
def X0(b:L2.St)(δ:Dn)(i:Nat)(a:jh):Prop:= ∃d:D,δ[i]?=Y (Y (d,C))/\b[i]?=Y (Y<|V.ref a)
structure AW(σ:L2.St)(δ:Dn)(H:Hp)(δ':Dn)(H':Hp):Prop where
 kp:∀a o,H a=SI o->¬Z8 σ δ a->H' a=SI o
 owi:∀i a,X0 σ δ' i a->X0 σ δ i a
 dm:∀a,H a≠SS->H' a≠SS
def AW.ow{σ c H b f}(k:AW σ c H b f)(a:jh)(h:Z8 σ b a):Z8 σ c a:=by obtain⟨i,d,h1,g⟩:=h;obtain⟨e,j,l⟩:=k.owi i a ⟨d,h1,g⟩;exact⟨i,e,j,l⟩
def AW.refl{σ a H}:AW σ a H a H:=⟨λ_ _ e _=>e,λ_ _ z=>z,λ_ z=>z⟩
def AW.trans{σ δ δ1 δ2 H H1 b}(x:AW σ δ H δ1 H1)(y:AW σ δ1 H1 δ2 b):AW σ δ H δ2 b:=
 ⟨λa o e n=>y.kp a o (x.kp a o e n) λz=>n<|x.ow a z,λi a z=>x.owi i a<|y.owi i a z,λa z=>y.dm a<|x.dm a z⟩
def AW.ext{σ b H H1}(k:∀a o,H a=Y o->H1 a=Y o):AW σ b H b H1:=⟨λa o e _=>k a o e,λ_ _ z=>z,λa z=>by
 cases h:H a with
 |none=>exact absurd h z
 |some o=>rw[k a o h];simp⟩
def X0.set(h:X0 σ (δ.set i<|Y (d,I)) j a):X0 σ δ j a:=by
 obtain⟨e,h1,b⟩:=h;rw[xG]at h1;split at h1
 .split at h1<;>simp at h1
 exact⟨e,h1,b⟩
def AW.set{σ δ H i d}:AW σ δ H (δ.set i<|Y (d,I)) H:=⟨λ_ _ e _=>e,λ_ _ z=>z.set,λ_ z=>z⟩
def A4(K:jJ)(T:Z5)(c:L2.St)(e:Dn)(H:Hp)(r:D×Bool)(b:Dn)(v:V)(H':Hp):Prop:=
 AW c e H b H'/\
 match r with
 |(d,I)=>ER K H' T c b/\Rep K H' (λa=>Z8 c b a\/T a) d v
 |(d,C)=>∃p,v=.ref p/\H p=U/\ER K H' (λa=>T a\/a=p) c b/\Ag K H' (λa=>Z8 c b a\/T a\/a=p) d p
abbrev F:=Dn->Option ((D×Bool)×Dn)
inductive tF(K:jJ)(f:F)(σ:L2.St)(H:Hp)(Q:VK):Prop where
 |mk (δ:Dn) (T:Z5) (r:D×Bool) (δ':Dn) (_:ER K H T σ δ) (_:f δ=SI (r,δ')) (_:∀v H',A4 K T σ δ H r δ' v H'->Q v H')
def PX(X:Cx)(e:jv)(f:F):Prop:=PE X e<|tF X.K f
noncomputable def JU(T:Z5)(r:D×Bool)(v:V):Z5:=λa=>T a\/(r.2=C/\v=.ref a)
section
variable {K:jJ}{T:Z5}{c:L2.St}{δ δ1 δ2:Dn}{H f g:Hp}{x y:D×Bool}{v u:V}
def A4.er(E:ER K H T c δ)(P:A4 K T c δ H x δ1 v f):ER K f (JU T x v) c δ1:=by
 obtain⟨d,b⟩:=x
 cases b
 .refine P.2.1.mono (λ_ _ e _=>e) (λb _ z=>z.elim id λz=>absurd z.1<|by simp) λa z=>?_;rcases z with z|z
  .exact P.2.1.dom a z
  exact absurd z.1 (by simp)
 obtain⟨p,rfl,i,h,j⟩:=P.2;refine h.mono (λ_ _ e _=>e) (λb _ z=>z.elim .inl λz=>.inr (by have:=z.2;cases this;rfl)) λa z=>?_;rcases z with z|z
 .exact h.dom a (.inl z)
 have:=z.2;cases this;exact h.dom _ (.inr J)
def A4.rep(E:ER K H T c δ)(P:A4 K T c δ H x δ1 v f):ER K f T c δ1/\Rep K f (λa=>Z8 c δ1 a\/T a) x.1 v:=by
 obtain⟨d,b⟩:=x
 cases b
 .exact P.2
 obtain⟨p,rfl,i,h,j⟩:=P.2;refine⟨h.mono (λ_ _ e _=>e) (λb _ z=>.inl z) λa z=>h.dom a<|.inl z,j.rep (λz=>?_) λb _ z=>z.elim .inl λz=>.inr (.inl z)⟩;rcases z with z|z
 .exact h.nT p z (.inr J)
 exact(E.dom p z).ne i
def A4.val(k:AW c δ H δ2 g)(E:ER K g T c δ2)(r:Rep K g (λa=>Z8 c δ2 a\/T a) d w):A4 K T c δ H (d,I) δ2 w g:=⟨k,E,r⟩
end
def jS{e f:Type}{a c:e}{b d:f}(h:Y (a,b)=Y (c,d)):a=c/\b=d:=by cases h;exact⟨rfl,rfl⟩
noncomputable def fC(d:D):F:=λa=>Y ((d,I),a)
noncomputable def lW(i:Nat):F:=λδ=>match δ[i]? with
 |some (Y (d,_))=>Y ((d,I),δ.set i<|Y (d,I))
 |_=>U
section
variable {X:Cx}{a b c:jv}{d:bt}{m l g:F}
def PX.imp(h:PE X e t)(k:∀j H Q,tF X.K f j H Q->t j H Q):PX X e f:=λi s j H Q T n=>h i s j H Q T<|k j H Q n
def WT{i j}:PX X (.Constant (.bool i) j d) (fC<|.bl i):=PX.imp WY λo H Q h=>by obtain⟨n,T,r,f,E,e,k⟩:=h;cases e;exact k _ _ (A4.val .refl E (by first|exact Rep.mkInt|exact Rep.JY|exact Rep.JB|exact Rep.mkStr))
end
inductive AY where
 |val(r:D×Bool)|slot(i:Nat)
noncomputable def res(δ:Dn):AY->Option D
 |.val r=>Y r.1
 |.slot i=>match δ[i]? with
  |some (Y (d,_))=>Y d
  |_=>U
def kZ(K:jJ)(H:Hp)(O:Z5)(d:D)(v:V):Prop:=Rep K H O d v\/∃a,v=.ref a/\Ag K H O d a
abbrev FO:=Dn->Option (AY×Dn)
def C5(K:jJ)(T:Z5)(b:L2.St)(c:Dn)(H:Hp)(o:AY)(a:Dn)(v:V)(H':Hp):Prop:=
 match o with
 |.val r=>A4 K T b c H r a v H'
 |.slot i=>AW b c H a H'/\ER K H' T b a/\b[i]?=Y (Y v)
def Bl(T:Z5)(o:AY)(v:V):Z5:=match o with
 |.val r=>JU T r v
 |.slot _=>T
inductive tO(K:jJ)(f:FO)(σ:L2.St)(H:Hp)(Q:VK):Prop where
 |mk (δ:Dn) (T:Z5) (o:AY) (δ':Dn) (_:ER K H T σ δ) (_:f δ=SI (o,δ')) (_:∀v H',C5 K T σ δ H o δ' v H'->Q v H')
def PO(X:Cx)(e:jv)(f:FO):Prop:=PE X e<|tO X.K f
noncomputable def jB(f:F):FO:=λδ=>(f δ).bind λp=>Y (.val p.1,p.2)
noncomputable def jm(i:Nat):FO:=λδ=>match δ[i]? with
 |some (Y _)=>Y (.slot i,δ)
 |_=>U
def PE.imp'(h:PE X e t)(k:∀b H Q,d b H Q->t b H Q):PE X e d:=λa s b H Q T c=>h a s b H Q T<|k b H Q c
section
variable {X:Cx}{a:bt}
def PX.po(h:PX X e f):PO X e (jB f):=PE.imp' h λj H Q g=>by
 obtain⟨c,T,o,i,E,e,k⟩:=g;unfold jB at e
 cases h1:f c with
 |none=>rw[h1]at e;cases e
 |some p=>obtain⟨r,b⟩:=p;rw[h1]at e;obtain⟨rfl,rfl⟩:=jS e;exact⟨c,T,r,b,E,h1,λv d P=>k v d P⟩
end
structure Ops(K:jJ)(T:Z5)(σ:L2.St)(δ:Dn)(H:Hp)(os:List AY)(vs:List V)(δ':Dn)(H':Hp)(T':Z5):Prop where
 len:os.length=TD vs
 keep:AW σ δ H δ' H'
 er:ER K H' T' σ δ'
 tt:∀a,T a->T' a
 val:∀(j:Nat)(d:D)(v:V),os[j]?=SI (.val (d,Tk))->vs[j]?=SI v->Rep K H' (λa=>Z8 σ δ' a\/T a) d v
 tmp:∀(j:Nat)(d:D)(v:V),os[j]?=SI (.val (d,Td))->vs[j]?=SI v->∃p,v=.ref p/\T' p/\H p=SS/\Ag K H' (λa=>Z8 σ δ' a\/T a) d p
 slt:∀(j i:Nat)(v:V),os[j]?=SI (.slot i)->vs[j]?=SI v->σ[i]?=SI (SI v)
section
variable {K:jJ}{T T':Z5}{b:L2.St}{δ a c:Dn}{H H' e:Hp}{os:List AY}{vs:List V}{o:AY}{v:V}
def Ops.nil(E:ER K H T b δ):Ops K T b δ H [] [] δ H T:=⟨rfl,.refl,E,λ_ z=>z,λj d v h=>by simp at h,λj d v h=>by simp at h,λj i v h=>by simp at h⟩
def C5.keep(P:C5 K T b δ H o a v H'):AW b δ H a H':=by
 cases o with
 |val r=>exact P.1
 |slot i=>exact P.1
def C5.er(E:ER K H T b δ)(P:C5 K T b δ H o a v H'):ER K H' (Bl T o v) b a:=by
 cases o with
 |val r=>exact A4.er E P
 |slot i=>exact P.2.1
end
def Gen(K:jJ)(H:Hp)(O:Z5)(z:D×Bool)(Q:VK):Prop:=
 match z with
 |(d,I)=>∀w b,(∀a o,H a=Y o->b a=Y o)->Rep K b O d w->Q w b
 |(d,C)=>∀p b,H p=U->(∀a o,H a=Y o->b a=Y o)->Ag K b (λa=>O a\/a=p) d p->Q (.ref p) b
section
variable {K:jJ}{T m:Z5}{f:L2.St}{δ δ1 c δ2:Dn}{H s H' h:Hp}{os:List AY}{vs:List V}{o:AY}{v:V}{z:D×Bool}{Q:VK}
def Ops.cons(E:ER K H T f δ)(P:C5 K T f δ H o δ1 v s)(B:Ops K (Bl T o v) f δ1 s os vs δ2 h m):Ops K T f δ H (o::os) (v::vs) δ2 h m:=by
 have A:=P.er E;have x:=B.keep.kp;have y:=B.keep.ow
 have t:∀a,T a->Bl T o v a:=λa z=>by
  cases o with
  |val r=>exact .inl z
  |slot i=>exact z
 refine⟨by simp[B.len],P.keep.trans B.keep,B.er,λa z=>B.tt a<|t a z,λj d w h1 g=>?_,λj d w h1 g=>?_,λj i w h1 g=>?_⟩
 .cases j with
  |zero=>simp at h1 g;subst h1;subst g;have q:A4 K T f δ H (d,I) δ1 v s:=P;exact Rep.mono (λb k e n=>x b k e λz=>n<|.inl z) (λb _ z=>z.elim (λz=>bf<|y b z) bp) (q.rep E).2
  |succ j=>exact Rep.mono (λ_ _ e _=>e) (λb _ z=>z.elim bf λz=>bp<|t b z)<|B.val j d w (by simpa using h1) (by simpa using g)
 .cases j with
  |zero=>simp at h1 g;subst h1;subst g;have q:A4 K T f δ H (d,C) δ1 v s:=P;obtain⟨p,rfl,u,O,ok⟩:=q.2;have l:Bl T (.val (d,C)) (V.ref p) p:=.inr ⟨rfl,rfl⟩;refine⟨p,rfl,B.tt p l,u,ok.mono (λb k e n=>x b k e λz=>n<|.inl z) (λb _ z=>z.elim (λz=>bf<|y b z) λz=>bp<|bf z) λk e=>x p k e λz=>A.nT p z l⟩
  |succ j=>
   obtain⟨p,rfl,l,u,ok⟩:=B.tmp j d w (by simpa using h1) (by simpa using g);refine⟨p,rfl,l,?_,ok.mono (λ_ _ e _=>e) (λb _ z=>z.elim bf λz=>bp<|t b z) λ_ e=>e⟩
   cases N:H p with
   |none=>rfl
   |some k=>exact absurd u<|P.keep.dm p (by rw[N];simp)
 cases j with
 |zero=>simp at h1 g;subst h1;subst g;exact P.2.2
 |succ j=>exact B.slt j i w (by simpa using h1) (by simpa using g)
def Ops.view(B:Ops K T f δ H os vs c H' m){j:Nat}{d:D}(h1:os[j]?=Y o)(n:vs[j]?=Y v)(g:res c o=Y d):kZ K H' (λa=>Z8 f c a\/T a) d v:=by
 cases o with
 |val r=>
  obtain⟨e,b⟩:=r;have hd:e=d:=lI g;subst hd
  cases b
  .exact .inl<|B.val j e v h1 n
  obtain⟨p,rfl,_,_,ok⟩:=B.tmp j e v h1 n;exact .inr ⟨p,rfl,ok⟩
 |slot i=>
  have u:=B.slt j i v h1 n;unfold res at g;dsimp only at g
  cases l:c[i]? with
  |none=>rw[l]at g;cases g
  |some q=>
   cases q with
   |none=>rw[l]at g;cases g
   |some p=>
    obtain⟨e,b⟩:=p;rw[l]at g;have hd:e=d:=lI g;subst hd
    cases b
    .obtain⟨w,k,t⟩:=B.er.val i e l;rw[u]at k;cases k;exact .inl<|Rep.mono (λ_ _ e _=>e) (λb _ z=>z.elim bf λz=>bp<|B.tt b z) t
    obtain⟨a,k,t⟩:=B.er.own i e l;rw[u]at k;cases k;exact .inr ⟨a,rfl,t.mono (λ_ _ e _=>e) (λb _ z=>z.elim bf λz=>bp<|B.tt b z) λ_ e=>e⟩
def Ops.done(B:Ops K T f δ H os vs c H' m)(k:∀v h,A4 K T f δ H z c v h->Q v h):Gen K H' (λa=>Z8 f c a\/T a) z Q:=by
 obtain⟨d,b⟩:=z;have i:∀{h:Hp},(∀a o,H' a=Y o->h a=Y o)->∀a,T a->Ow (h a):=λ{h} g a z=>(B.er.dom a<|B.tt a z).up<|g a
 cases b
 .intro w h g r;exact k w h ⟨B.keep.trans<|.ext g,B.er.mono (λb o e _=>g b o e) (λb _ z=>B.tt b z)<|i g,r⟩
 intro p h l g ok
 have j:H p=U:=by
  cases n:H p with
  |none=>rfl
  |some t=>exact absurd l<|B.keep.dm p (by rw[n];simp)
 refine k (.ref p) h ⟨B.keep.trans<|.ext g,p,rfl,j,B.er.mono (λb o e _=>g b o e) (λb q z=>z.elim (B.tt b) λz=>absurd (z▸l) q) λa z=>?_,ok.mono (λ_ _ e _=>e) (λb _ z=>?_) λ_ e=>e⟩
 .rcases z with z|z
  .exact i g a z
  subst z;exact ok.ow
 rcases z with z|z|z
 .exact bf (bf z)
 .exact bf (bp z)
 exact bp z
def Gen.int(g:Gen K H O (.int i,I) Q):Q (.int i) H:=g _ H (λ_ _ e=>e) Rep.mkInt
def Gen.bl(g:Gen K H O (.bl i,I) Q):Q (.bl i) H:=g _ H (λ_ _ e=>e) Rep.JY
def ly{H:Hp}{p:jh}{o:HO}(b:H p=U):∀a u,H a=Y u->upd H p o a=Y u:=λa u e=>by rw[ke (by intro z;subst z;rw[e]at b;cases b)];exact e
def Gen.lst{O:Z5}{l:List D}{xs:List V}{p:jh}(g:Gen K H O (.lst l,C) Q)(a:H p=U)(r:Z9 K H O l xs):Q (.ref p) (upd H p<|.lst xs):=
 g p _ a (ly a) ⟨xs,jL,Z9.mono (λb o e _=>ly a b o e) (λb d z=>z.elim id λz=>absurd (z▸a) d) r⟩
def Gen.tup(g:Gen K H O (.tup l,I) Q)(a:H p=U)(np: ¬O p)(r:Z9 K H O l xs):Q (.ref p) (upd H p<|.tup xs):=
 g _ _ (ly a) (Rep.J9 ⟨jL,np⟩<|Z9.mono (λb o e _=>ly a b o e) (λb d z=>z) r)
def Ops.np(B:Ops K T f δ H os vs c H' m)(a: ¬Ow (H' p)): ¬(Z8 f c p\/T p):=λz=>a<|z.elim (λz=>B.er.JR z) λz=>B.er.dom p<|B.tt p z
end
def ph(g:D->Option (D×Bool))(a:FO):F:=λb=>(a b).bind λp=>(res p.2 p.1).bind λx=>(g x).bind λz=>Y (z,p.2)
def jW(g:D->D->Option (D×Bool))(a fb:FO):F:=λδ=>(a δ).bind λp=>(fb p.2).bind λq=>(res q.2 p.1).bind λx=>(res q.2 q.1).bind λy=>(g x y).bind λz=>Y (z,q.2)
noncomputable def lq:List FO->Dn->Option (List AY×Dn)
 |[],δ=>Y ([],δ)
 |f::fs,δ=>(f δ).bind λp=>(lq fs p.2).bind λq=>Y (p.1::q.1,q.2)
def vL(a:Dn):List AY->Option (List D)
 |[]=>Y []
 |o::os=>(res a o).bind λd=>(vL a os).bind λl=>Y (d::l)
def jT(g:List D->Option (D×Bool))(fs:List FO):F:=λδ=>(lq fs δ).bind λp=>(vL p.2 p.1).bind λds=>(g ds).bind λz=>Y (z,p.2)
inductive tA(K:jJ)(fs:List FO)(σ:L2.St)(H:Hp)(Q:List V->Hp->Prop):Prop where
 |mk (δ:Dn) (T:Z5) (os:List AY) (δ':Dn) (_:ER K H T σ δ) (_:lq fs δ=SI (os,δ')) (_:∀vs H' T',Ops K T σ δ H os vs δ' H' T'->Q vs H')
section
variable {X:Cx}{e a b:jv}{es:lg}{fa fb:FO}{fs:List FO}{pos:bt}
inductive BndS{α β:Type}(x:Option α)(f:α->Option β)(b:β):Prop where
 |mk (a:α) (_:x=SI a) (_:f a=SI b)
inductive BndP{α β γ:Type}(x:Option (α×γ))(f:α×γ->Option β)(b:β):Prop where
 |mk (a:α) (c:γ) (_:x=SI (a,c)) (_:f (a,c)=SI b)
def jw{c d g:Type}{x:Option (c×g)}{f:c×g->Option d}{b:d}(h:x.bind f=Y b):BndP x f b:=by
 cases x with
 |none=>cases h
 |some a=>exact⟨a.1,a.2,rfl,h⟩
def jl{c d:Type}{x:Option c}{f:c->Option d}{b:d}(h:x.bind f=Y b):BndS x f b:=by
 cases x with
 |none=>cases h
 |some a=>exact⟨a,rfl,h⟩
def ZF(K:jJ)(r:V->Hp->VK->Prop)(g:D->Option (D×Bool)):Prop:=
 ∀x z v H (O:Z5) (Q:VK),(∀p,¬Ow (H p)->¬O p)->kZ K H O x v->g x=Y z->Gen K H O z Q->r v H Q
def Vl(K:jJ)(r:R2)(g:D->D->Option (D×Bool)):Prop:=
 ∀x y z v u H (O:Z5) (Q:VK),(∀p,¬Ow (H p)->¬O p)->kZ K H O x v->kZ K H O y u->g x y=Y z->Gen K H O z Q->r v u H Q
def ZE(K:jJ)(r:List V->Hp->VK->Prop)(g:List D->Option (D×Bool)):Prop:=
 ∀ds z c H (O:Z5) (Q:VK),(∀p,¬Ow (H p)->¬O p)->TD ds=TD c->(∀(j:Nat) d v,ds[j]?=Y d->c[j]?=Y v->kZ K H O d v)->g ds=Y z->Gen K H O z Q->r c H Q
def TU{r:V->Hp->VK->Prop}{g:D->Option (D×Bool)}(h:PE X e (tUn r<|tO X.K fa))(n:ZF X.K r g):PX X e (ph g fa):=PX.imp h λw H Q q=>by obtain⟨s,T,u,t,E,e,k⟩:=q;obtain⟨o,c,h1,e⟩:=jw e;obtain⟨x,i,e⟩:=jl e;obtain⟨z,l,e⟩:=jl e;obtain⟨rfl,rfl⟩:=jS e;refine⟨s,T,o,c,E,h1,λv f d=>?_⟩;have B:=Ops.cons E d<|Ops.nil<|d.er E;exact n x z v f _ Q (λp m=>B.np m) (B.view (j:=0) J J i) l (B.done k)
def TR{r:R2}{g:D->D->Option (D×Bool)}(h:PE X e (L3 r (tO X.K fa)<|tO X.K fb))(w:Vl X.K r g):PX X e (jW g fa fb):=PX.imp h λJ H Q A=>by obtain⟨N,T,G,L,E,e,k⟩:=A;obtain⟨o,c,h1,e⟩:=jw e;obtain⟨M,f,m,e⟩:=jw e;obtain⟨x,n,e⟩:=jl e;obtain⟨y,q,e⟩:=jl e;obtain⟨z,s,e⟩:=jl e;obtain⟨rfl,rfl⟩:=jS e;refine⟨N,T,o,c,E,h1,λv O d=>⟨c,Bl T o v,M,f,d.er E,m,λu l i=>?_⟩⟩;have B:=Ops.cons E d<|Ops.cons (d.er E) i<|Ops.nil<|i.er<|d.er E;exact w x y z v u l _ Q (λp t=>B.np t) (B.view (j:=0) Tl Tl n) (B.view (j:=1) Tl Tl q) s (B.done k)
def yZ:PA X [] (tA X.K []):=λpos c s f H Q O h=>by obtain⟨g,T,os,d,E,e,k⟩:=h;obtain⟨rfl,rfl⟩:=jS e;exact oB pos c s f H Q O<|k [] H T<|Ops.nil E
def tx(n:PO X e fa)(p:PA X es (tA X.K fs))(q:ac (e::es) X.env=(I,aY e X.env)::ac es X.env):PA X (e::es) (tA X.K (fa::fs)):=λpos c s u H Q O h=>by obtain⟨r,T,os,t,E,e,k⟩:=h;unfold lq at e;obtain⟨o,d,h1,e⟩:=jw e;obtain⟨f,g,m,e⟩:=jw e;obtain⟨rfl,rfl⟩:=jS e;exact ma n p q pos c s u H Q O ⟨r,T,o,d,E,h1,λv w i=>⟨d,Bl T o v,f,g,i.er E,m,λx j l B=>k _ j l (Ops.cons E i B)⟩⟩
def oj{g:Dn}:∀{os:List AY}{c:List D},vL g os=Y c->TD c=os.length/\∀(j:Nat) d,c[j]?=Y d->∃o,os[j]?=Y o/\res g o=Y d:=by
 intro p
 induction p with
 |nil=>intro c h;cases h;exact⟨rfl,λj d h=>by simp at h⟩
 |cons o os n=>
  intro c h;unfold vL at h;obtain⟨d,h1,h⟩:=jl h;obtain⟨l,i,h⟩:=jl h;cases h;obtain⟨k,m⟩:=n i;refine⟨by simp[k],λj e f=>?_⟩
  cases j with
  |zero=>simp at f;subst f;exact⟨o,rfl,h1⟩
  |succ j=>obtain⟨q,r,s⟩:=m j e (by simpa using f);exact⟨q,by simpa using r,s⟩
def PN{r:List V->Hp->VK->Prop}{g:List D->Option (D×Bool)}(h:PE X e (MK r<|tA X.K fs))(w:ZE X.K r g):PX X e (jT g fs):=PX.imp h λO H Q x=>by obtain⟨A,T,L,M,E,e,k⟩:=x;obtain⟨os,f,h1,e⟩:=jw e;obtain⟨l,m,e⟩:=jl e;obtain⟨z,n,e⟩:=jl e;obtain⟨rfl,rfl⟩:=jS e;obtain⟨q,s⟩:=oj m;refine⟨A,T,os,f,E,h1,λy i N B=>?_⟩;refine w l z y i _ Q (λp u=>B.np u) (q.trans B.len) (λj d v hd hv=>?_) n (B.done k);obtain⟨o,t,c⟩:=s j d hd;exact B.view t hv c
end
open PySem.SeqAt
mutual
noncomputable def D.Z1:D->D->Bool
 |.Z4,e=>match e with|.Z4=>C|_=>I
 |.bl a,e=>match e with|.bl b=>a==b|.int b=>(if a then 1 else 0)==b|_=>I
 |.int a,e=>match e with|.bl b=>a==(if b then 1 else 0)|.int b=>a==b|_=>I
 |.str a,e=>match e with|.str b=>a==b|_=>I
 |.tup l,e=>match e with|.tup m=>D.Bh l m|_=>I
 |.lst l,e=>match e with|.lst m=>D.Bh l m|_=>I
 |.Z3 _ _ _,e=>match e with|.Z3 _ _ _=>C|_=>I
noncomputable def D.Bh:List D->List D->Bool
 |[],m=>m.isEmpty
 |a::l,m=>match m with|b::m=>D.Z1 a b&&D.Bh l m|[]=>I
end
mutual
noncomputable def D.dep:D->Nat
 |.tup l=>D.A6 l+1
 |.lst l=>D.A6 l+1
 |.Z3 _ _ _=>20000
 |_=>0
noncomputable def D.A6:List D->Nat
 |[]=>0
 |d::l=>max (D.dep d)<|D.A6 l
end
mutual
theorem D.Dg:∀d:D,D.Z1 d d=C
 |.Z4=>rfl
 |.bl a=>by simp[D.Z1]
 |.int a=>by simp[D.Z1]
 |.str a=>by simp[D.Z1]
 |.tup l=>D.G9 l
 |.lst l=>D.G9 l
 |.Z3 _ _ _=>rfl
theorem D.G9:∀l:List D,D.Bh l l=C
 |[]=>rfl
 |d::l=>by show(D.Z1 d d&&D.Bh l l)=C;rw[D.Dg d,D.G9 l];rfl
end
theorem D.ED{d:D}:∀{l:List D}{j:Nat},l[j]?=Y d->d.dep<=D.A6 l
 |[],j,h=>by simp at h
 |e::l,0,h=>by simp at h;subst h;rw[D.A6];exact Nat.le_max_left _ _
 |e::l,j+1,h=>by rw[D.A6];exact lY (D.ED<|by simpa using h)<|Nat.le_max_right _ _
def yG(l m:List D)(j:Nat):Bool:=match l[j]?,m[j]? with
 |some d,Y e=>D.Z1 d e
 |_,_=>C
theorem yt:∀l m:List D,((am<|min (TD l)<|TD m).all (yG l m)&&(TD l)==TD m)=D.Bh l m
 |[],[]=>rfl
 |[],e::m=>rfl
 |d::l,[]=>rfl
 |d::l,e::m=>by
  show _=(D.Z1 d e&&D.Bh l m)
  rw[<-yt l m];simp only[oH,Nat.succ_min_succ,dW,vB,fB];have a:yG (d::l) (e::m) 0=D.Z1 d e:=rfl;have h1:(λx=>yG (d::l) (e::m)<|Nat.succ x)=yG l m:=by funext x;simp[yG]
  rw[a];simp only[gf]
  congr 2
  simp
section
variable {X:Cx}{pins:kf}{σ:L2.St}{H:Hp}{s:jk}
def lZ(h:kZ X.K H O (.tup l) v):Kl (Hd X.K H) (Z9 X.K H O l) v:=by
 rcases h with h|⟨a,rfl,h⟩
 .obtain⟨a,xs,e,q,r⟩:=h.tup;exact⟨a,xs,e,q.sq,r⟩
 exact h.elim
def lN(h:kZ X.K H O (.lst l) v):Kl (G1 X.K H) (Z9 X.K H O l) v:=by
 rcases h with h|⟨a,rfl,h⟩
 .obtain⟨a,xs,e,q,r⟩:=h.lst;exact⟨a,xs,e,q.sq,r⟩
 obtain⟨xs,e,r⟩:=h;exact⟨a,xs,rfl,.inl<|.inl e,r⟩
def Z9.views{O:Z5}{l:List D}{xs:List V}(r:Z9 X.K H O l xs){j:Nat}{d:D}{v:V}(h1:l[j]?=Y d)(b:xs[j]?=Y v):Rep X.K H O d v:=by obtain⟨w,a,c⟩:=r.get h1;rw[b]at a;cases a;exact c
def MX(T:Inv X pins σ H s)(h:Bf X.K (H a) k l i us):∃o,s.heap.get? a=Y o/\(o.cls=.type "dict"\/o.cls=.type "set"\/∃Q,o.cls=.ref Q):=by
 cases k with
 |dct=>
  rcases h with⟨b,e,_⟩|⟨b,e,_⟩
  .obtain⟨_,_,i,_,o,d,g,h1,c,_⟩:=(show Z7 X.prog X.w H s.heap a (.dK b)from T.hok a _ e)
   exact⟨o,h1,.inl c.1⟩
  obtain⟨_,_,m,_,o,d,g,h1,c,_⟩:=(show Z7 X.prog X.w H s.heap a (.dT b)from T.hok a _ e)
  exact⟨o,h1,.inl c.1⟩
 |set=>
  obtain⟨_,j,e,_⟩:=h;obtain⟨d,n,t,h1,_⟩:=(show Z7 X.prog X.w H s.heap a (.Z6 j)from T.hok a _ e)
  exact⟨_,h1,.inr<|.inl J⟩
 |exc Q=>
  obtain⟨_,o,e,h1,_⟩:=h;obtain⟨f,_⟩:=(show Z7 X.prog X.w H s.heap a (.Bi o<|.own 0)from T.hok a _ e)
  exact⟨o,f,.inr<|.inr ⟨Q,h1⟩⟩
 |_=>exact h.elim
def D8(T:Inv X pins σ H s)(h1:Hd X.K H a xs)(f:G1 X.K H a k):False:=by obtain⟨g,_,⟨o,e,c,_⟩,_⟩:=T.tuple h1;obtain⟨h,_,⟨j,i,d,b,_⟩,_⟩:=T.list f;rw[e]at d;cases d;rw[c]at b;exact absurd b (by simp)
def Qk(T:Inv X pins σ H s)(h1:Hd X.K H a xs)(f:Bf X.K (H a) k h j us):False:=by obtain⟨g,_,⟨o,e,c,_⟩,_⟩:=T.tuple h1;obtain⟨i,d,b⟩:=MX T f;rw[e]at d;cases d;rw[c]at b;rcases b with b|b|⟨Q,b⟩<;>exact absurd b (by simp)
def Ql(T:Inv X pins σ H s)(h1:G1 X.K H a xs)(f:Bf X.K (H a) k h j us):False:=by obtain⟨g,_,⟨o,n,e,c,_⟩,_⟩:=T.list h1;obtain⟨i,d,b⟩:=MX T f;rw[e]at d;cases d;rw[c]at b;rcases b with b|b|⟨Q,b⟩<;>exact absurd b (by simp)
mutual
theorem Rep.inj(T:Inv X pins σ H s):∀{d e:D}{v:V},d.dep<20000->Rep X.K H O d v->Rep X.K H u e v->d=e
 |.Z4,e,v,i,h,c=>by
  have:=h.Z4;subst this
  cases e with
  |Z4=>rfl
  |bl b=>have:=c.bl;cases this
  |int b=>have:=c.int;cases this
  |str b=>have:=c.str;cases this
  |tup m=>obtain⟨a,f,z,_⟩:=c.tup;cases z
  |lst m=>obtain⟨a,f,z,_⟩:=c.lst;cases z
  |Z3 m n o=>obtain⟨a,f,z,_⟩:=c.Z3;cases z
 |.bl b,e,v,i,h,c=>by
  have:=h.bl;subst this
  cases e with
  |Z4=>have:=c.Z4;cases this
  |bl b=>have:=c.bl;cases this;rfl
  |int b=>have:=c.int;cases this
  |str b=>have:=c.str;cases this
  |tup m=>obtain⟨a,f,z,_⟩:=c.tup;cases z
  |lst m=>obtain⟨a,f,z,_⟩:=c.lst;cases z
  |Z3 m n o=>obtain⟨a,f,z,_⟩:=c.Z3;cases z
 |.int b,e,v,i,h,c=>by
  have:=h.int;subst this
  cases e with
  |Z4=>have:=c.Z4;cases this
  |bl b=>have:=c.bl;cases this
  |int b=>have:=c.int;cases this;rfl
  |str b=>have:=c.str;cases this
  |tup m=>obtain⟨a,f,z,_⟩:=c.tup;cases z
  |lst m=>obtain⟨a,f,z,_⟩:=c.lst;cases z
  |Z3 m n o=>obtain⟨a,f,z,_⟩:=c.Z3;cases z
 |.str b,e,v,i,h,c=>by
  have:=h.str;subst this
  cases e with
  |Z4=>have:=c.Z4;cases this
  |bl b=>have:=c.bl;cases this
  |int b=>have:=c.int;cases this
  |str b=>have:=c.str;cases this;rfl
  |tup m=>obtain⟨a,f,z,_⟩:=c.tup;cases z
  |lst m=>obtain⟨a,f,z,_⟩:=c.lst;cases z
  |Z3 m n o=>obtain⟨a,f,z,_⟩:=c.Z3;cases z
 |.tup l,e,v,i,h,c=>by
  rw[D.dep]at i;obtain⟨a,f,rfl,q,r⟩:=h.tup
  cases e with
  |Z4=>have:=c.Z4;cases this
  |bl b=>have:=c.bl;cases this
  |int b=>have:=c.int;cases this
  |str b=>have:=c.str;cases this
  |tup m=>obtain⟨k,p,z,g,j⟩:=c.tup;cases z;have:=T.E9 q.sq g.sq;subst this;rw[Z9.inj T (by lia) r j]
  |lst m=>obtain⟨k,p,z,g,j⟩:=c.lst;cases z;exact(D8 T q.sq g.sq).elim
  |Z3 m n o=>obtain⟨k,t,z,g,j⟩:=c.Z3;cases z;exact(Qk T q.sq g.2).elim
 |.lst l,e,v,i,h,c=>by
  rw[D.dep]at i;obtain⟨a,f,rfl,q,r⟩:=h.lst
  cases e with
  |Z4=>have:=c.Z4;cases this
  |bl b=>have:=c.bl;cases this
  |int b=>have:=c.int;cases this
  |str b=>have:=c.str;cases this
  |tup m=>obtain⟨k,p,z,g,j⟩:=c.tup;cases z;exact(D8 T g.sq q.sq).elim
  |lst m=>obtain⟨k,p,z,g,j⟩:=c.lst;cases z;have:=T.Er q.sq g.sq;subst this;rw[Z9.inj T (by lia) r j]
  |Z3 m n o=>obtain⟨k,t,z,g,j⟩:=c.Z3;cases z;exact(Ql T q.sq g.2).elim
 |.Z3 _ _ _,e,v,i,h,c=>by rw[D.dep]at i;lia
theorem Z9.inj(T:Inv X pins σ H s){O b:Z5}:∀{l m:List D}{vs:List V},D.A6 l<20000->Z9 X.K H O l vs->Z9 X.K H b m vs->l=m
 |[],m,vs,_,h,a=>by
  rw[Z9]at h;subst h
  cases m with
  |nil=>rfl
  |cons e m=>rw[Z9]at a;obtain⟨_,_,z,_⟩:=a;cases z
 |d::l,m,vs,i,h,a=>by
  rw[D.A6]at i;rw[Z9]at h;obtain⟨v,r,rfl,h1,c⟩:=h
  cases m with
  |nil=>rw[Z9]at a;cases a
  |cons e m=>rw[Z9]at a;obtain⟨k,j,z,f,g⟩:=a;cases z;rw[Rep.inj T (by lia) h1 f,Z9.inj T (by lia) c g]
end
def wR(h:kZ X.K H O d v)(hd:d.dep=0)(c:∀l,d≠ .tup l)(b:∀l,d≠ .lst l):Rep X.K H O d v:=by
 rcases h with h|⟨a,rfl,h⟩
 .exact h
 cases d with
 |lst l=>exact absurd J<|b l
 |Z3 _ _ _=>rw[D.dep]at hd;lia
 |_=>exact h.elim
inductive Sh(X:Cx)(H:Hp)(s:jk)(O:Z5):D->V->jr->Prop
 |Z4:Sh X H s O .Z4 .Z4 .none
 |bl (b:Bool):Sh X H s O (.bl b) (.bl b) (.bool b)
 |int (i:Int) (t:wP):Sh X H s O (.int i) (.int i) (.int i t)
 |str (x:ap) (t:wP):Sh X H s O (.str x) (.str x) (.str x t)
 |tup {l:List D} {p:jh} {xs:List V} {its:kF} (q:Hd X.K H p xs) (r:Z9 X.K H O l xs) (v:Vals xs its) (pl:gW s.heap p its.toArray):Sh X H s O (.tup l) (.ref p) (.ref p)
 |lst {l:List D} {p:jh} {xs:List V} {its:kF} (q:G1 X.K H p xs) (r:Z9 X.K H O l xs) (v:Vals xs its) (pl:s.heap.IsList p its.toArray):Sh X H s O (.lst l) (.ref p) (.ref p)
def yT(T:Inv X pins σ H s)(h:kZ X.K H O d v)(b:RelV v a)(i:d.dep<20000):Sh X H s O d v a:=by
 cases d with
 |Z3 m k n=>rw[D.dep]at i;omega
 |tup l=>obtain⟨p,j,rfl,q,r⟩:=lZ h;cases b;obtain⟨e,g,f,_⟩:=T.tuple q;exact .tup q r g f
 |lst l=>obtain⟨p,j,rfl,q,r⟩:=lN h;cases b;obtain⟨e,g,f,_⟩:=T.list q;exact .lst q r g f.isList
 |Z4=>have:=(wR h J (by simp)<|by simp).Z4;subst this;cases b;exact .Z4
 |bl c=>have:=(wR h J (by simp)<|by simp).bl;subst this;cases b;exact .bl c
 |int c=>have:=(wR h J (by simp)<|by simp).int;subst this;obtain⟨t,rfl⟩:=b;exact .int c t
 |str c=>have:=(wR h J (by simp)<|by simp).str;subst this;obtain⟨t,rfl⟩:=b;exact .str c t
def Rh{A:jF}{y x:jr}{k:Bool}(h:RcAt A s y x k)(f:y=x->k=C)(e:∀b t,y≠ .float b t):EqAt A s y x k:=λa w E Q c=>by
 unfold eqBool;refine mE ?_;refine wpAny_ite_split (λd=>?_) λ_=>?_
 .rw[f<|pG d]at c;exact ji<|qy<|ju c
 cases y with
 |float b t=>exact absurd J<|e b t
 |_=>exact ji<|h a w E _ (vF c)
def adG(I:Inv X pins σ H s){A:jF}{n:Nat}(M:∀(d e:D)(v u:V)(a b:jr)(O Q:Z5)(A:jF),kZ X.K H O d v->kZ X.K H Q e u->RelV v a->RelV u b->d.dep+1<=n->e.dep<20000->A.units+n<aI+1->EqAt A s a b (D.Z1 d e))(hA:A.units+n<aI):∀(l m:List D)(g h:List V)(c f:kF)(i k:Z5),D.A6 l+1<=n->D.A6 m<20000->Z9 X.K H i l g->Z9 X.K H k m h->Vals g c->Vals h f->
   ∀j (h1:j<c.toArray.size) (r:j<f.toArray.size),EqAt A.in1 s c.toArray[j] f.toArray[j] (yG l m j):=λl m g h c f i k Z hm y z B C j h1 r=>by
 have P:=B.length;have R:=C.length;have S:=y.length;have W:=z.length;simp at h1 r;have t:g[j]?=SI g[j]:=km (by omega);have x:h[j]?=SI h[j]:=km (by omega);have p:l[j]?=SI l[j]:=km (by omega);have o:m[j]?=SI m[j]:=km (by omega);obtain⟨w,E,U⟩:=B.get t;obtain⟨N,L,Y⟩:=C.get x
 have G:c.toArray[j]=w:=by have:c[j]?=SI c[j]:=km (by omega);rw[this]at E;simpa using E
 have J:f.toArray[j]=N:=by have:f[j]?=SI f[j]:=km (by omega);rw[this]at L;simpa using L
 rw[G,J];have T:yG l m j=D.Z1 l[j] m[j]:=by unfold yG;rw[p,o]
 rw[T];have F:=D.ED p;have q:=D.ED o;exact M _ _ _ _ _ _ i k A.in1 (.inl<|y.views p t) (.inl<|z.views o x) U Y (by omega) (by omega) (by show A.units+1+n<aI+1;omega)
def Ml{d e:D}{v u:V}{a b:jr}{O T:Z5}{A:jF}(I:Inv X pins σ H s){n:Nat}(ih:∀(d e:D)(v u:V)(a b:jr)(O T:Z5)(A:jF),kZ X.K H O d v->kZ X.K H T e u->RelV v a->RelV u b->d.dep+1<=n->e.dep<20000->A.units+n<aI+1->EqAt A s a b (D.Z1 d e))(hd:kZ X.K H O d v)(he:kZ X.K H T e u)(ra:RelV v a)(rb:RelV u b)(Q:d.dep<=n)(M:e.dep<20000)(hA:A.units+n<aI):RcAt A s a b (D.Z1 d e)/\RcNeAt A s a b (!D.Z1 d e):=by
 have f:A.units<cLine:=by lia
 have items:=adG I ih hA;have W:aI=9900:=rfl;have h1:=yT I hd ra (by lia);have E:=yT I he rb M
 cases h1 with
 |Z4=>
  cases E with
  |Z4=>exact⟨RcAt.none_none,RcNeAt.none_none⟩
  |bl c=>exact⟨RcAt.none_bool c,RcNeAt.none_bool c⟩
  |int c i=>exact⟨RcAt.none_int c i,RcNeAt.none_int c i⟩
  |str c i=>exact⟨RcAt.none_str c i,RcNeAt.none_str c i⟩
  |tup B t x h=>exact⟨RcAt.none_tuple h f,RcNeAt.none_tuple h f⟩
  |lst B t x h=>exact⟨RcAt.none_list h f,RcNeAt.none_list h f⟩
 |bl g=>
  cases E with
  |Z4=>exact⟨RcAt.bool_none g,RcNeAt.bool_none g⟩
  |bl c=>exact⟨RcAt.bool_bool g c,RcNeAt.bool_bool g c⟩
  |int c i=>exact⟨RcAt.bool_int g c i,RcNeAt.bool_int g c i⟩
  |str c i=>exact⟨RcAt.bool_str g c i,RcNeAt.bool_str g c i⟩
  |tup B t x h=>exact⟨RcAt.bool_tuple g h f,RcNeAt.bool_tuple g h f⟩
  |lst B t x h=>exact⟨RcAt.bool_list g h f,RcNeAt.bool_list g h f⟩
 |int g k=>
  cases E with
  |Z4=>exact⟨RcAt.int_none g k,RcNeAt.int_none g k⟩
  |bl c=>exact⟨RcAt.int_bool g k c,RcNeAt.int_bool g k c⟩
  |int c i=>exact⟨RcAt.int_int g k c i,RcNeAt.int_int g k c i⟩
  |str c i=>exact⟨RcAt.int_str g k c i,RcNeAt.int_str g k c i⟩
  |tup B t x h=>exact⟨RcAt.int_tuple g k h f,RcNeAt.int_tuple g k h f⟩
  |lst B t x h=>exact⟨RcAt.int_list g k h f,RcNeAt.int_list g k h f⟩
 |str g k=>
  cases E with
  |Z4=>exact⟨RcAt.str_none g k,RcNeAt.str_none g k⟩
  |bl c=>exact⟨RcAt.str_bool g k c,RcNeAt.str_bool g k c⟩
  |int c i=>exact⟨RcAt.str_int g k c i,RcNeAt.str_int g k c i⟩
  |str c i=>exact⟨RcAt.str_str g k c i,RcNeAt.str_str g k c i⟩
  |tup B t x h=>exact⟨RcAt.str_tuple g k h f,RcNeAt.str_tuple g k h f⟩
  |lst B t x h=>exact⟨RcAt.str_list g k h f,RcNeAt.str_list g k h f⟩
 | @tup l p N o q r L j=>
  cases E with
  |Z4=>exact⟨RcAt.tuple_none j f,RcNeAt.tuple_none j f⟩
  |bl c=>exact⟨RcAt.tuple_bool c j f,RcNeAt.tuple_bool c j f⟩
  |int c i=>exact⟨RcAt.tuple_int c i j f,RcNeAt.tuple_int c i j f⟩
  |str c i=>exact⟨RcAt.tuple_str c i j f,RcNeAt.tuple_str c i j f⟩
  | @tup m p2 U' C' B t x h=>
   have G:D.A6 l+1<=n:=by rw[D.dep]at Q;exact Q
   have J:D.A6 m<20000:=by rw[D.dep]at M;lia
   have F:=L.length;have P:=x.length;have R:=r.length;have S:=t.length;have w:=items l m N U' o C' _ _ G J r t L x;have z:=dA (RcAt.tuples j h f w)<|RcNeAt.tuples j h f w;simp only[lH]at z;rw[show o.length=l.length by lia,show C'.length=m.length by lia,yt]at z;exact z
  |lst B t x h=>exact⟨RcAt.tuple_list j h f,RcNeAt.tuple_list j h f⟩
 | @lst l p N o q r L j=>
  cases E with
  |Z4=>exact⟨RcAt.list_none j f,RcNeAt.list_none j f⟩
  |bl c=>exact⟨RcAt.list_bool c j f,RcNeAt.list_bool c j f⟩
  |int c i=>exact⟨RcAt.list_int c i j f,RcNeAt.list_int c i j f⟩
  |str c i=>exact⟨RcAt.list_str c i j f,RcNeAt.list_str c i j f⟩
  |tup B t x h=>exact⟨RcAt.list_tuple j h f,RcNeAt.list_tuple j h f⟩
  | @lst m p2 U' C' B t x h=>
   have G:D.A6 l+1<=n:=by rw[D.dep]at Q;exact Q
   have J:D.A6 m<20000:=by rw[D.dep]at M;lia
   have F:=L.length;have P:=x.length;have R:=r.length;have S:=t.length;have Y:=yt l m;by_cases y:l.length=m.length
   .have w:=items l m N U' o C' _ _ G J r t L x;have q:o.toArray.size=C'.toArray.size:=by simp;lia
    have z:=dA (RcAt.lists j h q f w)<|RcNeAt.lists j h q f w;simp at z;rw[show o.length=min l.length m.length by lia]at z;show _/\RcNeAt _ _ _ _ (!D.Bh l m);rw[show D.Z1 (.lst l) (.lst m)=D.Bh l m from Tl,<-Y,y];rw[y]at z;simpa using z
   have q:(o.toArray.size !=C'.toArray.size)=C:=by simp;lia
   have z:=dA (RcAt.lists_lengths j h q f)<|RcNeAt.lists_lengths j h q f;rw[show D.Z1 (.lst l) (.lst m)=D.Bh l m from Tl,<-Y];rw[show(l.length==m.length)=Tk by simpa using y];simpa using z
def BU(N:Inv X pins σ H s)(n:Nat)
  (T:∀(d e:D)(v u:V)(a b:jr)(O k:Z5)(A:jF),kZ X.K H O d v->kZ X.K H k e u->RelV v a->RelV u b->d.dep+1<=n->e.dep<20000->A.units+n<aI+1->EqAt A s a b (D.Z1 d e)):
  ∀(d e:D)(v u:V)(a b:jr)(O k:Z5)(A:jF),kZ X.K H O d v->kZ X.K H k e u->RelV v a->RelV u b->d.dep<=n->e.dep<20000->A.units+n<aI->EqAt A s a b (D.Z1 d e):=by
 intro d e v u a b O k A hd y B C m E Q;have J:aI=9900:=rfl;have h1:=yT N hd B (by lia);have l:=yT N y C E;refine Rh (Ml N T hd y B C m E Q).1 (λL=>?_) λb t z=>by subst z;cases h1
 subst L
 have no:∀{p:jh}{i j:nJ},gW s.heap p i->s.heap.IsList p j->False:=λ⟨o,a,b,_⟩ ⟨M,c,d,_⟩=>by rw[a]at c;cases c;rw[b]at d;exact absurd d (by decide)
 cases h1 with
 |tup q r G w=>
  cases l with
  |tup g h x f=>have:=N.E9 q g;subst this;rw[Z9.inj N (by rw[D.dep]at m;lia) r h,D.Dg]
  |lst g h x f=>exact(no w f).elim
 |lst q r G w=>
  cases l with
  |tup g h x f=>exact(no f w).elim
  |lst g h x f=>have:=N.Er q g;subst this;rw[Z9.inj N (by rw[D.dep]at m;lia) r h,D.Dg]
 |_=>cases l;exact D.Dg _
def AD(T:Inv X pins σ H s):∀(n:Nat)(d e:D)(v u:V)(a b:jr)(O c:Z5)(A:jF),kZ X.K H O d v->kZ X.K H c e u->RelV v a->RelV u b->d.dep<=n->e.dep<20000->A.units+n<aI->EqAt A s a b (D.Z1 d e):=by
 intro n
 induction n with
 |zero=>intro d e v u a b O c A hd f h i g j k;exact BU T 0 (λd e v u a b O c A hd f h i g j k=>absurd g<|by lia) d e v u a b O c A hd f h i g j k
 |succ n l=>intro d e v u a b O c A hd f h i g j k;exact BU T (n+1) (λd e v u a b O c A hd f h i g j k=>l d e v u a b O c A hd f h i (by lia) j<|by lia) d e v u a b O c A hd f h i g j k
end
section
variable {X:Cx}{c:kf}{f:L2.St}{H:Hp}{s:jk}
def RP(T:Inv X c f H s)(hd:kZ X.K H O d v)(i:kZ X.K H g e u)(k:RelV v a)(l:RelV u b)(j:d.dep<=n)(m:e.dep<20000)(h:A.units+n<aI):RcAt A s a b (D.Z1 d e)/\RcNeAt A s a b (!D.Z1 d e):=
 Ml T (λd e v u a b O g A o x2 x3 p r q x7=>AD T (n-1) d e v u a b O g A o x2 x3 p (by lia) q<|by lia) hd i k l j m h
def Uw(j:X.A.units+60<aI):Dw X (aT .Eq) (λx y H Q=>∃O d e,kZ X.K H O d x/\kZ X.K H O e y/\(d.dep<=50/\e.dep<=50)/\Q (.bl<|D.Z1 d e) H):=by intro c s f H x y v u Q T g i h;obtain⟨O,d,e,h1,a,b,q⟩:=h;exact(RP (A:=X.A) T h1 a g i b.1 (by lia)<|by lia).1 _ _ _ _ ⟨.bl _,H,T,rfl,q⟩
def Ut(j:X.A.units+60<aI):Dw X (aT .NotEq) (λx y H Q=>∃O d e,kZ X.K H O d x/\kZ X.K H O e y/\(d.dep<=50/\e.dep<=50)/\Q (.bl (!D.Z1 d e)) H):=by intro c s f H x y v u Q T g i h;obtain⟨O,d,e,h1,a,b,q⟩:=h;exact(RP (A:=X.A) T h1 a g i b.1 (by lia)<|by lia).2 _ _ _ _ ⟨.bl _,H,T,rfl,q⟩
end
def jM{e:Type}{c:Prop}[Decidable c]{a b:e}(h:(if c then Y a else U)=Y b):c/\a=b:=by
 split at h
 .rename_i d;exact⟨d,lI h⟩
 cases h
section
variable {X:Cx}{c:kf}{f:L2.St}{H:Hp}{s:jk}
def R9(I:Inv X c f H s){A:jF}{l:List D}{o:List V}{a:kF}{O C:Z5}{b:D}{Q:V}{x:jr}(r:Z9 X.K H O l o)(v:Vals o a)(U:kZ X.K H C b Q)(rx:RelV Q x)(hn:D.A6 l<=50)(Y:b.dep<=50)(hA:A.units+60<aI):
  ∃e:jr->Bool,(∀y∈a,EqAt A.in1 s y x<|e y)/\a.map e=l.map λd=>D.Z1 d b:=by
 let e:jr->Bool:=λy=>match(a.zip l).find? (λp=>p.1==y)with
  |some p=>D.Z1 p.2 b
  |none=>Tk
 have S:=v.length;have W:=r.length
 have key:∀(j:Nat)(h:j<a.length)(g:j<l.length),e a[j]=D.Z1 l[j] b:=λj h g=>by
  show(match(a.zip l).find? (λp=>p.1==a[j])with|some p=>D.Z1 p.2 b|none=>Tk)=_
  cases t:(a.zip l).find? (λp=>p.1==a[j])with
  |none=>
   have:=List.find?_eq_none.mp t (a[j],l[j]) (by
    have:(a.zip l)[j]?=SI (a[j],l[j]):=by simp[DT,km g]
    exact lX this)
   simp at this
  |some p=>
   have N:=List.find?_some t;have M:=List.mem_of_find?_eq_some t;obtain⟨i,L⟩:=pF M;obtain⟨P,p2⟩:=p;rw[DT]at L;have J:P=a[j]:=pG N;obtain⟨h1,k⟩:=L;have E:i<o.length:=by have:=(uT.mp h1).1;lia
   obtain⟨w,n,B⟩:=v.get<|km E;have q:j<o.length:=by lia
   obtain⟨w',T,R⟩:=v.get<|km q;rw[h1]at n;cases n;rw[km h]at T;cases T;subst J;have hv:=B.inj R;have a1:=r.views k<|km E;have G:=r.views (km g)<|km q;rw[hv]at a1;have Z:=D.ED k;have:=Rep.inj I (by lia) a1 G;exact nC (λz=>D.Z1 z b) this
 refine⟨e,λy F=>?_,?_⟩
 .obtain⟨j,h⟩:=pF F;have u:=(uT.mp h).1;have q:=(uT.mp h).2;have g:j<l.length:=by lia
  have m:j<o.length:=by lia
  obtain⟨w,n,B⟩:=v.get<|km m;rw[h]at n;cases n;have hk:=key j u g;rw[q]at hk;rw[hk];have hd:=D.ED<|km g;exact AD I 50 _ _ _ _ _ _ O C A.in1 (.inl<|r.views (km g)<|km m) U B rx (by lia) (by lia) (by show A.units+1+50<aI;lia)
 apply CK
 .simp;lia
 intro j h1 k;simp at h1 k;simp;exact key j h1 k
def NM(T:Inv X c f H s){A:jF}{l:List D}{j:List V}{a:kF}{O k:Z5}{b:D}{i:V}{x:jr}(r:Z9 X.K H O l j)(v:Vals j a)(t:kZ X.K H k b i)(u:RelV i x)(p:D.A6 l<=50)(g:b.dep<=50)(o:A.units+60<aI):
  ∃e:jr->Bool,(∀y∈a,EqAt A.in1 s y x<|e y)/\a.any e=l.any λd=>D.Z1 d b:=by
 obtain⟨e,h,q⟩:=R9 T r v t u p g o;have m:a.any e=(a.map e).any id:=by rw[FX];rfl
 have n:(l.any λd=>D.Z1 d b)=(l.map λd=>D.Z1 d b).any id:=by rw[FX];rfl
 exact⟨e,h,by rw[m,n,q]⟩
def inD(x:D):D->Option Bool
 |.tup l=>if D.A6 l<=50/\x.dep<=50 then Y (l.any λd=>D.Z1 d x)else U
 |.lst l=>if D.A6 l<=50/\x.dep<=50 then Y (l.any λd=>D.Z1 d x)else U
 |_=>U
def Dc(n:Bool)(E:X.A.units+60<aI):Dw X (aT (if n then .NotIn else .In)) (λx y H Q=>∃O d e b,kZ X.K H O d x/\kZ X.K H O e y/\inD d e=Y b/\Q (.bl (if n then !b else b)) H):=by
 intro c s f H x y v u Q N L T h;obtain⟨O,d,e,b,h1,M,m,q⟩:=h
 cases e with
 |tup l=>
  obtain⟨i,rfl⟩:=jM m;obtain⟨a,G,rfl,t,r⟩:=lZ M;cases T;obtain⟨g,B,j,_⟩:=N.tuple t;obtain⟨e,p,o⟩:=NM (A:=X.A) N r B h1 L i.1 i.2 E;have k:∀w∈g.toArray,EqAt X.A.in1 s w v (e w):=λw z=>p w (by simpa using z);rw[<-o,show g.any e=g.toArray.any e by simp]at q;cases n
  .exact in_tupleAt e j k ⟨.bl _,H,N,rfl,q⟩
  exact notIn_tupleAt e j k ⟨.bl _,H,N,rfl,q⟩
 |lst l=>
  obtain⟨i,rfl⟩:=jM m;obtain⟨a,G,rfl,t,r⟩:=lN M;cases T;obtain⟨g,B,j,_⟩:=N.list t;obtain⟨e,p,o⟩:=NM (A:=X.A) N r B h1 L i.1 i.2 E;have k:∀w∈g.toArray,EqAt X.A.in1 s w v (e w):=λw z=>p w (by simpa using z);rw[<-o,show g.any e=g.toArray.any e by simp]at q;cases n
  .exact in_listAt e j.isList k ⟨.bl _,H,N,rfl,q⟩
  exact notIn_listAt e j.isList k ⟨.bl _,H,N,rfl,q⟩
 |_=>cases m
end
inductive rD1(K:jJ)(g:D->Option (D×Bool))(x:V)(H:Hp)(Q:VK):Prop where
 |mk (O:Z5) (d:D) (z:D×Bool) (_:∀p,¬Ow (H p)->¬O p) (_:kZ K H O d x) (_:g d=SI z) (_:Gen K H O z Q)
inductive rD(K:jJ)(g:D->D->Option (D×Bool))(x y:V)(H:Hp)(Q:VK):Prop where
 |mk (O:Z5) (d e:D) (z:D×Bool) (_:∀p,¬Ow (H p)->¬O p) (_:kZ K H O d x) (_:kZ K H O e y) (_:g d e=SI z) (_:Gen K H O z Q)
inductive GF(K:jJ)(g:List D->Option (D×Bool))(vs:List V)(H:Hp)(Q:VK):Prop where
 |mk (O:Z5) (ds:List D) (z:D×Bool) (_:∀p,¬Ow (H p)->¬O p) (_:(TD ds)=TD vs) (_:∀(j:Nat) d v,ds[j]?=SI d->vs[j]?=SI v->kZ K H O d v) (_:g ds=SI z) (_:Gen K H O z Q)
section
variable {X:Cx}{e a b:jv}{fa fb:FO}{fs:List FO}{pos:bt}
def px1(h:PE X e (tUn (rD1 X.K g)<|tO X.K fa)):PX X e (ph g fa):=TU h λx z v H O Q np d c G=>⟨O,x,z,np,d,c,G⟩
def N1(h:PE X e (L3 (rD X.K g) (tO X.K fa)<|tO X.K fb)):PX X e (jW g fa fb):=TR h λx y z v u H O Q np d f c G=>⟨O,x,y,z,np,d,f,c,G⟩
def pxn(h:PE X e (MK (GF X.K g)<|tA X.K fs)):PX X e (jT g fs):=PN h λc z i H O Q np f hv d G=>⟨O,c,z,np,f,hv,d,G⟩
def kj{K H}{O:Z5}{i:Int}{v:V}(h:kZ K H O (.int i) v):v=.int i:=h.elim (λh=>h.int) λ⟨_,_,h⟩=>h.elim
def C0{K H}(h:kZ K H O (.bl i) v):v=.bl i:=h.elim (λh=>h.bl) λ⟨_,_,h⟩=>h.elim
def wk{K H}(h:kZ K H O (.str i) v):v=.str i:=h.elim (λh=>h.str) λ⟨_,_,h⟩=>h.elim
def D4{K H}(h:kZ K H O .Z4 v):v=.Z4:=h.elim (λh=>h.Z4) λ⟨_,_,h⟩=>h.elim
def Gen.str{K H}(g:Gen K H O (.str i,I) Q):Q (.str i) H:=g _ H (λ_ _ e=>e) Rep.mkStr
noncomputable def gI(f:Int->Int->Option D):D->D->Option (D×Bool)
 |.int i,.int j=>(f i j).map λz=>(z,I)
 |_,_=>U
def zg{f:Int->Int->Option D}{d e:D}{z:D×Bool}(h:gI f d e=Y z):∃i j y,d=.int i/\e=.int j/\f i j=Y y/\z=(y,I):=by
 cases d with
 |int i=>
  cases e with
  |int j=>
   cases c:f i j with
   |none=>simp only[gI,c]at h;cases h
   |some y=>simp only[gI,c]at h;cases h;exact⟨i,j,y,rfl,rfl,c,rfl⟩
  |_=>cases h
 |_=>cases h
def za{f:zk}{N:Int->Int->Prop}[∀i j,Decidable<|N i j]{g:Int->Int->Int}(o:Dw X f (rI N λi j=>.int (g i j))):Dw X f (rD X.K (gI λi j=>if N i j then Y (.int<|g i j)else U)):=by intro c s r H x y v u Q T p q h;obtain⟨O,d,e,z,np,h1,k,n,G⟩:=h;obtain⟨i,j,w,rfl,rfl,m,rfl⟩:=zg n;obtain⟨l,rfl⟩:=jM m;exact o c s r H x y v u Q T p q ⟨i,j,kj h1,kj k,l,G.int⟩
def adm{f:zk}{g:Int->Int->Int}(n:Dw X f (N0 λi j=>.int (g i j))):Dw X f (rD X.K<|gI λi j=>Y<|.int<|g i j):=by intro c s q H x y v u Q T o p h;obtain⟨O,d,e,z,np,h1,k,m,G⟩:=h;obtain⟨i,j,w,rfl,rfl,l,rfl⟩:=zg m;cases l;exact n c s q H x y v u Q T o p ⟨i,j,kj h1,kj k,G.int⟩
instance(i j:Int):Decidable (DJ i j):=by unfold DJ;exact inferInstance
instance(i j:Int):Decidable (Ky i j):=by unfold Ky;exact inferInstance
instance(i j:Int):Decidable (DQ i j):=by unfold DQ;exact inferInstance
def GS:=gI λi j=>Y<|.int<|i-j
def sj:=gI λi j=>if DJ i j then Y (.int<|i*j)else U
def NV:=gI λi j=>if Ky i j then Y (.int<|i / j)else U
def Aq:=gI λi j=>if 0<j then Y (.int<|i%j)else U
def NS:=gI λi j=>if DQ i j then Y (.int<|i^j.toNat)else U
def Qn:Dw X (bJ .Sub) (rD X.K GS):=adm Ur
def Qq:Dw X (bJ .Mult) (rD X.K sj):=za Uu
def Qs:Dw X (bJ .FloorDiv) (rD X.K NV):=za Qu
def Qr:Dw X (bJ .Mod) (rD X.K Aq):=za Uv
def Qo:Dw X (bJ .Pow) (rD X.K NS):=za Us
noncomputable def oD:D->D->Option (D×Bool)
 |.int i,.int j=>Y (.int<|i+j,I)
 |.str i,.str j=>if i.length+j.length<=sizeLine then Y (.str<|i++j,I)else U
 |.tup l,.tup m=>if l.length+m.length<=sizeLine then Y (.tup<|l++m,I)else U
 |.lst l,.lst m=>if l.length+m.length<=sizeLine then Y (.lst<|l++m,C)else U
 |_,_=>U
def Qt:Dw X (bJ .Add) (rD X.K oD):=by
 intro g s σ H x y v u Q I L T h;obtain⟨O,d,e,z,np,h1,J,k,G⟩:=h
 cases d with
 |int i=>
  cases e with
  |int j=>cases k;exact Ux g s σ H x y v u Q I L T ⟨i,j,kj h1,kj J,G.int⟩
  |_=>cases k
 |str i=>
  cases e with
  |str j=>obtain⟨V,rfl⟩:=jM k;exact abe g s σ H x y v u Q I L T ⟨i,j,wk h1,wk J,V,G.str⟩
  |_=>cases k
 |tup l=>
  cases e with
  |tup m=>
   obtain⟨V,rfl⟩:=jM k;have k1:Rep X.K H O (.tup l) x:=h1.elim id λ⟨_,_,z⟩=>z.elim;have k2:Rep X.K H O (.tup m) y:=J.elim id λ⟨_,_,z⟩=>z.elim;obtain⟨M,xs,rfl,N,C⟩:=k1.tup;obtain⟨A,ys,rfl,U,E⟩:=k2.tup;have l1:=C.length;have l2:=E.length;by_cases hx:xs=[]
   .subst hx;have:l=[]:=by simpa using l1.symm
    subst this;cases L;cases T;obtain⟨f,Y,S,_⟩:=I.tuple N.sq;obtain⟨o,v2,W,_⟩:=I.tuple U.sq;have e1:f=[]:=by have:=Y.length;simpa using this.symm
    subst e1;obtain⟨⟨R,dd,q,sl⟩,r,w,n,hd⟩:=id S;obtain⟨⟨dJ,D,data2,P⟩,B,t,Z,c⟩:=id W;simp only at w hd t c;subst w hd t c
    refine CQ ⟨_,r,rfl⟩ ⟨_,B,rfl⟩ Ga F9 F8 F7 (F6 _ _)
     (tuple_addW0 M A #[] o.toArray n Z dd D sl P (by simp)) ⟨r,B,⟨.ref A,H,I,rfl,?_⟩⟩
    exact G _ H (λ_ _ e=>e) (by simpa using k2)
   refine Qv g s σ H _ _ v u Q I L T ⟨M,A,xs,ys,rfl,rfl,N.sq,U.sq,hx,by lia,λhy=>?_,λhy p hp=>?_⟩
   .subst hy;have:m=[]:=by simpa using l2.symm
    subst this;exact G _ H (λ_ _ e=>e) (by simpa using k1)
   exact G.tup hp (np p<|MA hp) (C.append E)
  |_=>cases k
 |lst l=>
  cases e with
  |lst m=>
   obtain⟨V,rfl⟩:=jM k;obtain⟨M,xs,rfl,N,C⟩:=lN h1;obtain⟨A,ys,rfl,U,E⟩:=lN J;have l1:=C.length;have l2:=E.length;cases L;cases T;obtain⟨f,Y,S,_⟩:=I.list N;obtain⟨o,v2,W,_⟩:=I.list U;have e1:=Y.length;have e2:=v2.length;obtain⟨⟨R,dd,q,sl⟩,r,w,n,hd⟩:=id S.isList;obtain⟨⟨dJ,D,data2,P⟩,B,t,Z,c⟩:=id W.isList;simp only at w hd t c;subst w hd t c
   refine CQ ⟨_,r,rfl⟩ ⟨_,B,rfl⟩ noFill_list_add seq_list_add PySem.F.slot_list_add PySem.F.entry_list_add (PySem.F.args_list_add_2 _ _)
    (list_addW M A f.toArray o.toArray n Z dd D sl P<|by simp;lia) ⟨r,B,?_⟩
   rw[show f.toArray++o.toArray=(f++o).toArray by simp];exact⟨.ref _,_,I.MT (t':=s.toks) (Y.append v2)<|by rw[ox];lia,rfl,G.lst I.fresh<|C.append E⟩
  |_=>cases k
 |_=>cases k
def J5(d e:D):Option (D×Bool):=if d.dep<=50/\e.dep<=50 then Y (.bl<|D.Z1 d e,I)else U
def Ki(d e:D):Option (D×Bool):=if d.dep<=50/\e.dep<=50 then Y (.bl (!D.Z1 d e),I)else U
def MB(d e:D):Option (D×Bool):=(inD d e).map λb=>(.bl b,I)
def oT(d e:D):Option (D×Bool):=(inD d e).map λb=>(.bl (!b),I)
def Uq(j:X.A.units+60<aI):Dw X (aT .Eq) (rD X.K J5):=by intro c s m H x y v u Q T k l h;obtain⟨O,d,e,z,np,h1,f,i,G⟩:=h;obtain⟨g,rfl⟩:=jM i;exact Uw j c s m H x y v u Q T k l ⟨O,d,e,h1,f,g,G.bl⟩
def Uo(j:X.A.units+60<aI):Dw X (aT .NotEq) (rD X.K Ki):=by intro c s m H x y v u Q T k l h;obtain⟨O,d,e,z,np,h1,f,i,G⟩:=h;obtain⟨g,rfl⟩:=jM i;exact Ut j c s m H x y v u Q T k l ⟨O,d,e,h1,f,g,G.bl⟩
inductive BndM{α β:Type}(x:Option α)(f:α->β)(b:β):Prop where
 |mk (a:α) (_:x=SI a) (_:f a=b)
def jX{c d:Type}{x:Option c}{f:c->d}{b:d}(h:x.map f=Y b):BndM x f b:=by
 cases x with
 |none=>cases h
 |some a=>exact⟨a,rfl,lI h⟩
def Up(j:X.A.units+60<aI):Dw X (aT .In) (rD X.K MB):=by intro c s m H x y v u Q T k l h;obtain⟨O,d,e,z,np,h1,f,i,G⟩:=h;obtain⟨b,g,rfl⟩:=jX i;exact Dc I j c s m H x y v u Q T k l ⟨O,d,e,b,h1,f,g,G.bl⟩
def abX(j:X.A.units+60<aI):Dw X (aT .NotIn) (rD X.K oT):=by intro c s m H x y v u Q T k l h;obtain⟨O,d,e,z,np,h1,f,i,G⟩:=h;obtain⟨b,g,rfl⟩:=jX i;exact Dc C j c s m H x y v u Q T k l ⟨O,d,e,b,h1,f,g,G.bl⟩
noncomputable def Ap:D->Option (D×Bool)
 |.int i=>Y (.int (-i),I)
 |_=>U
def Pk:NN X (F2 .USub) (rD1 X.K Ap):=by
 intro c s j H x v Q T g h;obtain⟨O,d,z,np,h1,f,G⟩:=h
 cases d with
 |int i=>cases f;exact S6 c s j H x v Q T g ⟨i,kj h1,G.int⟩
 |_=>cases f
def Aw:D->D->Option (D×Bool)
 |.tup l,.int i=>(JD l i).map λd=>(d,I)
 |.lst l,.int i=>(JD l i).map λd=>(d,I)
 |_,_=>U
def Ji{K H}{O:Z5}{l:List D}{c:List V}{i:Int}{d:D}(r:Z9 K H O l c)(h:JD l i=Y d):∃v,JD c i=Y v/\Rep K H O d v:=by unfold JD at h ⊢;rw[r.length];obtain⟨j,h1,f⟩:=jl h;rw[h1];obtain⟨v,g,k⟩:=r.get f;exact⟨v,g,k⟩
def R8:Mq X (rD X.K Aw):=by
 intro f c g s E H x y v u Q T B N h A;obtain⟨O,d,e,z,np,h1,t,j,G⟩:=h
 cases d with
 |tup l=>
  cases e with
  |int i=>obtain⟨w,m,rfl⟩:=jX j;obtain⟨p,o,rfl,q,r⟩:=lZ h1;obtain⟨n,hv,k⟩:=Ji r m;exact UJ f c g s E H _ _ v u Q T B N ⟨p,o,i,n,rfl,kj t,q,hv,G _ H (λ_ _ e=>e) k⟩ A
  |_=>cases j
 |lst l=>
  cases e with
  |int i=>obtain⟨w,m,rfl⟩:=jX j;obtain⟨p,o,rfl,q,r⟩:=lN h1;obtain⟨n,hv,k⟩:=Ji r m;exact QZ f c g s E H _ _ v u Q T B N ⟨p,o,i,n,rfl,kj t,q,hv,G _ H (λ_ _ e=>e) k⟩ A
  |_=>cases j
 |_=>cases j
end
noncomputable def rF:List AY->Option (List D)
 |[]=>Y []
 |.val r::os=>(rF os).map (r.1:: ·)
 |.slot _::_=>U
def tQ(fs:List F):F:=λδ=>(lq (fs.map jB) δ).bind λp=>(rF p.1).bind λa=>if (TD a)<=sizeLine then Y ((.tup a,I),p.2)else U
def tR(fs:List F):F:=λb=>(lq (fs.map jB) b).bind λp=>(rF p.1).bind λa=>if (TD a)<=sizeLine then Y ((.lst a,C),p.2)else U
section
variable {K:jJ}{T m:Z5}{f:L2.St}{g e:Dn}{H H':Hp}{os:List AY}{c:List V}
def Ops.rep(E:ER K H T f g)(B:Ops K T f g H os c e H' m){j:Nat}{r:D×Bool}{v:V}(h1:os[j]?=Y (.val r))(h:c[j]?=Y v):Rep K H' (λa=>Z8 f e a\/T a) r.1 v:=by
 obtain⟨d,b⟩:=r
 cases b
 .exact B.val j d v h1 h
 obtain⟨p,rfl,k,i,ok⟩:=B.tmp j d v h1 h;refine ok.rep (λz=>?_) λb _ z=>z;rcases z with z|z
 .exact B.er.nT p z k
 exact(E.dom p z).ne i
theorem vJ{O:Z5}:∀{os:List AY}{c:List V}{d:List D},rF os=Y d->os.length=TD c->(∀(j:Nat)(r:D×Bool)(v:V),os[j]?=Y (.val r)->c[j]?=Y v->Rep K H' O r.1 v)->Z9 K H' O d c
 |[],c,d,h,n,_=>by
  cases h;have:c=[]:=by simpa using n.symm
  subst this;exact Z9.nil
 |.slot i::os,c,d,h,_,_=>by cases h
 |.val r::os,c,d,h,n,k=>by
  obtain⟨l,h1,rfl⟩:=jX h
  cases c with
  |nil=>simp at n
  |cons v c=>exact Z9.cons (k 0 r v J J)<|vJ h1 (by simpa using n) λj o p a b=>k (j+1) o p (by simpa using a) (by simpa using b)
end
section
variable {X:Cx}{e a b:jv}{m:lg}{n fb:FO}{fs:List F}{c:bt}
def TL{o}(h:PA X m (tA X.K<|fs.map jB)):PX X (.Tuple m o c) (tQ fs):=PX.imp (MO h) λz H Q l=>by obtain⟨q,T,x,s,E,e,k⟩:=l;obtain⟨os,d,h1,e⟩:=jw e;obtain⟨w,g,e⟩:=jl e;obtain⟨i,e⟩:=jM e;obtain⟨rfl,rfl⟩:=sH e;refine⟨q,T,os,d,E,h1,λy t u B=>?_⟩;have r:=vJ g B.len λj r v a b=>B.rep E a b;exact⟨by rw[r.length];exact i,λp f=>(B.done k).tup f (B.np<|MA f) r⟩
def TV(h:PA X m (tA X.K<|fs.map jB)):PX X (.List m c) (tR fs):=PX.imp (Uh h) λy H Q l=>by obtain⟨o,T,w,q,E,e,k⟩:=l;obtain⟨os,d,h1,e⟩:=jw e;obtain⟨u,f,e⟩:=jl e;obtain⟨g,e⟩:=jM e;obtain⟨rfl,rfl⟩:=sH e;refine⟨o,T,os,d,E,h1,λx s t B=>?_⟩;have r:=vJ f B.len λj r v a b=>B.rep E a b;exact⟨by rw[r.length];exact g,λp i=>(B.done k).lst i r⟩
def Ie{g:List D}{f:List V}{d:D}(h:(TD g)=TD f)(hd:g=[d]):∃v,f=[v]:=by
 subst hd
 cases f with
 |nil=>simp at h
 |cons v r=>
  cases r with
  |nil=>exact⟨v,rfl⟩
  |cons _ _=>simp at h
noncomputable def g1(g:D->Option (D×Bool)):List D->Option (D×Bool)
 |[d]=>g d
 |_=>U
noncomputable def g2(g:D->D->Option (D×Bool)):List D->Option (D×Bool)
 |[d,e]=>g d e
 |_=>U
def ot{f:jr}{g:D->Option (D×Bool)}(h:∀(i:kf)(s:jk)(j:L2.St)(H:Hp)(x:V)(u:jr)(Q:VK)(O:Z5)(d:D)(z:D×Bool),Inv X i j H s->RelV x u->(∀p,¬Ow (H p)->¬O p)->kZ X.K H O d x->g d=Y z->Gen X.K H O z Q->
  aa (ae X.prog X.w) X.A (call f [u]) (EP X i j Q) X.xe s):lr X f (GF X.K<|g1 g):=by
 intro i s j H xs y Q T r q;obtain⟨O,l,z,np,o,hv,k,G⟩:=q
 match l,k with
 |[d],k=>obtain⟨v,rfl⟩:=Ie o J;obtain⟨u,rfl,t⟩:=qC r;exact h i s j H v u Q O d z T t np (hv 0 d v J J) k G
def Om{f:jr}{g:D->D->Option (D×Bool)}(h:∀(i:kf)(s:jk)(k:L2.St)(H:Hp)(x y:V)(j:kF)(Q:VK)(O:Z5)(d e:D)(z:D×Bool),Inv X i k H s->Vals [x,y] j->(∀p,¬Ow (H p)->¬O p)->kZ X.K H O d x->kZ X.K H O e y->g d e=Y z->Gen X.K H O z Q->
  aa (ae X.prog X.w) X.A (call f j) (EP X i k Q) X.xe s):lr X f (GF X.K<|g2 g):=by
 intro i s k H u j Q T r t;obtain⟨O,o,z,np,q,hv,l,G⟩:=t;rcases o with _|⟨d,_|⟨e,_|⟨_,_⟩⟩⟩<;>try cases l
 rcases u with _|⟨x,_|⟨y,_|⟨_,_⟩⟩⟩<;>try cases q
 exact h i s k H x y j Q O d e z T r np (hv 0 d x J J) (hv 1 e y J J) l G
noncomputable def Ar:D->Option (D×Bool)
 |.tup l=>Y (.int<|TD l,I)
 |.lst l=>Y (.int<|TD l,I)
 |_=>U
def Ca:lr X (.builtin "len") (GF X.K<|g1 Ar):=ot λf s j H x u Q O d z T i np hd g G=>by
 cases d with
 |tup l=>
  cases g;obtain⟨p,h,rfl,q,r⟩:=lZ hd;refine wW f s j H [_] [u] Q T (.cons i .nil) ⟨p,h,rfl,.inr q,?_⟩;rw[r.length];exact G.int
 |lst l=>
  cases g;obtain⟨p,h,rfl,q,r⟩:=lN hd;refine wW f s j H [_] [u] Q T (.cons i .nil) ⟨p,h,rfl,.inl q,?_⟩;rw[r.length];exact G.int
 |_=>cases g
noncomputable def EM:D->Option (D×Bool)
 |.int i=>Y (.int (if i<0 then -i else i),I)
 |_=>U
def acE:lr X (.builtin "abs") (GF X.K<|g1 EM):=ot λf s j H x u Q O d z T h np hd g G=>by
 cases d with
 |int i=>cases g;exact Oo f s j H [x] [u] Q T (.cons h .nil) ⟨i,by rw[kj hd],G.int⟩
 |_=>cases g
noncomputable def Q3:D->Option (D×Bool)
 |.int i=>Y (.int i,I)
 |.bl b=>Y (.int (if b then 1 else 0),I)
 |_=>U
def acC:lr X (.type "int") (GF X.K<|g1 Q3):=ot λf s j H x u Q O d z T h np hd g G=>by
 cases d with
 |int i=>cases g;exact Cb f s j H [x] [u] Q T (.cons h .nil)<|.inl ⟨i,by rw[kj hd],G.int⟩
 |bl i=>
  cases g;refine Cb f s j H [x] [u] Q T (.cons h .nil)<|.inr ⟨i,by rw[C0 hd],?_⟩;have:=G.int;cases i<;>exact this
 |_=>cases g
noncomputable def oS:D->Option (D×Bool)
 |.tup l=>Y (.tup l,I)
 |.lst l=>Y (.tup l,I)
 |_=>U
def tY:lr X (.type "tuple") (GF X.K<|g1 oS):=ot λf s o H x u Q O d z T k np hd g G=>by
 cases d with
 |tup l=>
  cases g;have j:Rep X.K H O (.tup l) x:=hd.elim id λ⟨_,_,z⟩=>z.elim;obtain⟨p,h,rfl,q,r⟩:=j.tup;exact uX f s o H [_] [u] Q T (.cons k .nil) ⟨p,h,rfl,.inr ⟨q.sq,G _ H (λ_ _ e=>e) j⟩⟩
 |lst l=>
  cases g;obtain⟨p,h,rfl,q,r⟩:=lN hd;exact uX f s o H [_] [u] Q T (.cons k .nil) ⟨p,h,rfl,.inl ⟨q,λt i=>G.tup i (np t<|MA i) r⟩⟩
 |_=>cases g
noncomputable def IM:D->Option (D×Bool)
 |.tup l=>Y (.lst l,C)
 |.lst l=>Y (.lst l,C)
 |_=>U
def abv:lr X (.type "list") (GF X.K<|g1 IM):=ot λf s k H x u Q O d z T j np hd g G=>by
 cases d with
 |tup l=>
  cases g;obtain⟨p,i,rfl,q,r⟩:=lZ hd;exact wV f s k H [_] [u] Q T (.cons j .nil) ⟨p,i,rfl,.inr q,λt h=>G.lst h r⟩
 |lst l=>
  cases g;obtain⟨p,i,rfl,q,r⟩:=lN hd;exact wV f s k H [_] [u] Q T (.cons j .nil) ⟨p,i,rfl,.inl q,λt h=>G.lst h r⟩
 |_=>cases g
end
abbrev FT:=Dn->Option (Bool×Dn)
inductive tT(K:jJ)(f:FT)(σ:L2.St)(H:Hp)(Q:Bool->Hp->Prop):Prop where
 |mk (δ:Dn) (T:Z5) (b:Bool) (δ':Dn) (_:ER K H T σ δ) (_:f δ=SI (b,δ')) (_:∀H',AW σ δ H δ' H'->ER K H' T σ δ'->Q b H')
def PTX(X:Cx)(e:jv)(f:FT):Prop:=PT X e<|tT X.K f
def PWX(X:Cx)(e:jv)(f:FT):Prop:=PW X e<|tT X.K f
noncomputable def Kt:(D×Bool)×Dn->Option (Bool×Dn)
 |((.bl b,_),a)=>Y (b,a)
 |_=>U
def fT(f:F):FT:=λδ=>(f δ).bind Kt
def Fc(h:Kt p=Y q):∃o,p=((.bl q.1,o),q.2):=by
 obtain⟨⟨d,o⟩,a⟩:=p
 cases d with
 |bl b=>cases h;exact⟨o,rfl⟩
 |_=>cases h
def RK{K:jJ}{f:F}{a:L2.St}{H:Hp}{Q:Bool->Hp->Prop}(h:tT K (fT f) a H Q):tF K f a H λx i=>∃c,x=.bl c/\Q c i:=by obtain⟨l,T,b,m,E,e,k⟩:=h;obtain⟨p,h1,j⟩:=jl e;obtain⟨o,rfl⟩:=Fc j;refine⟨l,T,_,_,E,h1,λv g P=>?_⟩;obtain⟨d,r⟩:=P.rep E;exact⟨b,r.bl,k g P.1 d⟩
section
variable {X:Cx}{e a b c:jv}{A:lg}{l i:FO}{f g:F}{w n:FT}{m:bt}
def PT.imp'(h:PT X e t)(k:∀j H Q,p j H Q->t j H Q):PT X e p:=λd s j H Q T o=>h d s j H Q T<|k j H Q o
def PW.imp'(h:PW X e t)(k:∀j H Q,p j H Q->t j H Q):PW X e p:=λq d s j H Q T o=>h q d s j H Q T<|k j H Q o
def Qw{r:R2}{g:D->D->Option (D×Bool)}(M:Vl X.K r g){t:L2.St}{H:Hp}{Q:VK}(N:tF X.K (jW g l i) t H Q):L3 r (tO X.K l) (tO X.K i) t H Q:=by obtain⟨Y,T,R,F,E,e,k⟩:=N;obtain⟨o,d,h1,e⟩:=jw e;obtain⟨U,q,I,e⟩:=jw e;obtain⟨x,L,e⟩:=jl e;obtain⟨y,O,e⟩:=jl e;obtain⟨z,G,e⟩:=jl e;obtain⟨rfl,rfl⟩:=jS e;refine⟨Y,T,o,d,E,h1,λv P h=>⟨d,Bl T o v,U,q,h.er E,I,λu C s=>?_⟩⟩;have B:=Ops.cons E h<|Ops.cons (h.er E) s<|Ops.nil<|s.er<|h.er E;exact M x y z v u C _ Q (λp J=>B.np J) (B.view (j:=0) Tl Tl L) (B.view (j:=1) Tl Tl O) G (B.done k)
def WQ{K:jJ}{g:D->D->Option (D×Bool)}:Vl K (rD K g) g:=λx y z v u H O Q np h j d G=>⟨O,x,y,z,np,h,j,d,G⟩
noncomputable def yF(f g:FT):FT:=λd=>(f d).bind λp=>if p.1=C then g p.2 else Y (I,p.2)
noncomputable def He(f g:FT):FT:=λd=>(f d).bind λp=>if p.1=C then Y (C,p.2)else g p.2
noncomputable def yE(f:FT):FT:=λd=>(f d).bind λp=>Y (!p.1,p.2)
def N6(f g:F):F:=λd=>(f d).bind λp=>(Kt p).bind λq=>if q.1=C then g q.2 else Y ((.bl I,I),q.2)
def Zy(f:F):F:=λd=>(f d).bind λp=>(Kt p).bind λq=>Y ((.bl (!q.1),I),q.2)
def A4.pre{K:jJ}{T:Z5}{h:L2.St}{δ δ1 δ2:Dn}{H j q:Hp}{r:D×Bool}{v:V}(k:AW h δ H δ1 j)(P:A4 K T h δ1 j r δ2 v q):A4 K T h δ H r δ2 v q:=by
 refine⟨k.trans P.1,?_⟩;obtain⟨d,o⟩:=r
 cases o
 .exact P.2
 obtain⟨p,h1,s,t⟩:=P.2;refine⟨p,h1,?_,t⟩
 cases u:H p with
 |none=>rfl
 |some x=>exact absurd s<|k.dm p (by rw[u];simp)
noncomputable def MF(t:FT)(f g:F):F:=λd=>(t d).bind λp=>if p.1=C then f p.2 else g p.2
end
inductive Out where
 |nx(δ:Dn)|rt(r:D×Bool)(δ:Dn)|bk(δ:Dn)|ct(δ:Dn)
abbrev FS:=Dn->Option Out
structure SK(A:kE)(σ:L2.St)(δ:Dn)(H:Hp)(σ':L2.St)(δ':Dn)(H':Hp):Prop where
 kp:∀a o,H a=SI o->¬Z8 σ δ a->H' a=SI o
 owi:∀i a,X0 σ' δ' i a->X0 σ δ i a\/H a=SS\/(A i/\∃j,A j/\X0 σ δ j a)
 dm:∀a,H a≠SS->H' a≠SS
 as:∀i,¬A i->σ'[i]?=σ[i]?
structure LL where
 p:Nat->Prop
 st:Option L2.St
structure FI(A:kE)(L:LL)(H0:Hp)(σ:L2.St)(δ:Dn)(H:Hp):Prop where
 ow:∀i a,X0 σ δ i a->L.p i\/H0 a=SS
 dm:∀a,H0 a≠SS->H a≠SS
 al:∀j,A j->¬L.p j
 gh:∀z,L.st=SI z->∀i,¬A i->σ[i]?=z[i]?
def RV(K:jJ)(T:Z5)(f:Hp)(r:D×Bool)(c:L2.St)(b:Dn)(v:V)(e:Hp):Prop:=
 match r with
 |(d,I)=>ER K e T c b/\Rep K e (λa=>Z8 c b a\/T a) d v
 |(d,C)=>∃p,v=.ref p/\f p=U/\ER K e (λa=>T a\/a=p) c b/\Ag K e (λa=>Z8 c b a\/T a\/a=p) d p
section
variable {A:kE}{c b m:L2.St}{δ δ1 δ2:Dn}{H l g q:Hp}{L:LL}{K:jJ}{T:Z5}
def SK.refl:SK A c δ H c δ H:=⟨λ_ _ e _=>e,λ_ _ z=>.inl z,λ_ z=>z,λ_ _=>rfl⟩
def SK.ow(k:SK A c δ H b δ1 g)(a:jh)(h:Z8 b δ1 a):Z8 c δ a\/H a=U:=by
 obtain⟨i,d,h1,o⟩:=h;rcases k.owi i a ⟨d,h1,o⟩with⟨e,f,n⟩|z|⟨_,j,_,e,f,n⟩
 .exact .inl ⟨i,e,f,n⟩
 .exact .inr z
 exact .inl ⟨j,e,f,n⟩
def SK.trans(x:SK A c δ H b δ1 g)(y:SK A b δ1 g m δ2 q):SK A c δ H m δ2 q where
 kp:=λa o e n=>y.kp a o (x.kp a o e n) λz=>(x.ow a z).elim n λz=>by rw[z]at e;cases e
 owi:=λi a z=>(y.owi i a z).elim (x.owi i a) λz=>z.elim (λz=>.inr (.inl (by
  cases h:H a with
  |none=>rfl
  |some o=>exact absurd z<|x.dm a<|by rw[h];simp))) λ⟨d,j,f,z⟩=>(x.owi j a z).elim (λz=>.inr (.inr ⟨d,j,f,z⟩)) λz=>z.elim (λz=>.inr (.inl z)) λ⟨_,k,ak,z⟩=>.inr (.inr ⟨d,k,ak,z⟩)
 dm:=λa z=>y.dm a<|x.dm a z
 as:=λi h=>(y.as i h).trans<|x.as i h
def AW.sk(k:AW c δ H δ1 g):SK A c δ H c δ1 g:=⟨k.kp,λi a z=>.inl (k.owi i a z),k.dm,λ_ _=>rfl⟩
def FI.step(f:FI A L l c δ H)(k:SK A c δ H b δ1 g):FI A L l b δ1 g where
 ow:=λi a z=>(k.owi i a z).elim (f.ow i a) λz=>.inr (z.elim (λz=>by
  cases h:l a with
  |none=>rfl
  |some o=>exact absurd z<|f.dm a<|by rw[h];simp) λQ=>by obtain⟨_,j,d,z⟩:=Q;exact (f.ow j a z).resolve_left<|f.al j d)
 dm:=λa z=>k.dm a<|f.dm a z
 al:=f.al
 gh:=λz e i n=>(k.as i n).trans<|f.gh z e i n
def FI.fresh(f:FI A L l c δ H)(a:H p=U):l p=U:=by
 cases h:l p with
 |none=>rfl
 |some o=>exact absurd a<|f.dm p (by rw[h];simp)
end
def Vn(K:jJ)(A:kE)(f:Hp)(D:Ends)(e:L2.St)(d:Dn)(H:Hp)(T:Z5)(out:Out):Prop:=
 match out with
 |.nx b=>∀a c,SK A e d H a b c->ER K c T a b->D.nx a c
 |.bk b=>∀a c,SK A e d H a b c->ER K c T a b->D.bk a c
 |.ct b=>∀a c,SK A e d H a b c->ER K c T a b->D.ct a c
 |.rt r b=>∀v a c,SK A e d H a b c->RV K T f r a b v c->D.rt v c
inductive tS(K:jJ)(A:kE)(L:LL)(H0:Hp)(f:FS)(D:Ends)(σ:L2.St)(H:Hp):Prop where
 |mk (δ:Dn) (T:Z5) (out:Out) (_:ER K H T σ δ) (_:FI A L H0 σ δ H) (_:f δ=SI out) (_:Vn K A H0 D σ δ H T out)
def LZ(X:Cx)(A:kE)(L:LL)(a:Hp)(st:aW)(f:FS):Prop:=PS X st<|tS X.K A L a f
def DP(X:Cx)(A:kE)(L:LL)(a:Hp)(st:List aW)(f:FS):Prop:=GJ X st<|tS X.K A L a f
noncomputable def ki:FS:=λδ=>Y<|.nx δ
noncomputable def jA(f g:FS):FS:=λδ=>(f δ).bind λo=>match o with
 |.nx δ1=>g δ1
 |o=>Y o
noncomputable def oP(f:F):FS:=λa=>(f a).bind λp=>Y<|.nx p.2
noncomputable def nV(f:F):FS:=λa=>(f a).bind λp=>Y<|.rt p.1 p.2
noncomputable def rH(i:Nat):FS:=λa=>match a[i]? with
 |some (Y (d,C))=>Y<|.rt (d,C)<|a.set i U
 |some (Y (d,I))=>Y<|.rt (d,I) a
 |_=>U
noncomputable def G4(t:FT)(f g:FS):FS:=λδ=>(t δ).bind λp=>if p.1=C then f p.2 else g p.2
noncomputable def lE(i:Nat)(f:F):FS:=λa=>(f a).bind λp=>if i<(TD p.2)then Y (.nx<|p.2.set i<|Y p.1)else U
section
variable {X:Cx}{A:kE}{L:LL}{d:Hp}{st:aW}{JJ:List aW}{f g:FS}{l:F}{j:FT}{e c:jv}{i:bt}
def PS.imp'(h:PS X st t)(k:∀D b H,n D b H->t D b H):PS X st n:=λa s b H D T m=>h a s b H D T<|k D b H m
def GJ.imp'(h:GJ X JJ t)(k:∀D b H,n D b H->t D b H):GJ X JJ n:=λa s b H D T m=>h a s b H D T<|k D b H m
def T7(O:PTX X c j)(M:DP X A L d a f)(N:DP X A L d b g):LZ X A L d (.If c a b i) (G4 j f g):=PS.imp' (WV O M N) λD u H G=>by
 obtain⟨x,T,out,E,B,e,k⟩:=G;obtain⟨c,n,h1,e⟩:=jw e;refine⟨x,T,c,n,E,h1,λw z y=>?_⟩;have t:SK A u x H u n w:=z.sk
 have fin:∀(h:FS),h n=Y out->tS X.K A L d h D u w:=λh Q=>by
  refine⟨n,T,out,y,B.step t,Q,?_⟩
  cases out with
  |nx q=>exact λm o p s=>k m o (t.trans p) s
  |bk q=>exact λm o p s=>k m o (t.trans p) s
  |ct q=>exact λm o p s=>k m o (t.trans p) s
  |rt r q=>exact λv m o p R2=>k v m o (t.trans p) R2
 cases c with
 |true=>rw[jz J]at e;exact(show(if C=C then tS X.K A L d f D u w else _)from by rw[jz J];exact fin f e)
 |false=>rw[jP lQ]at e;exact(show(if I=C then _ else tS X.K A L d g D u w)from by rw[jP lQ];exact fin g e)
end
def om{b:Type}{l:List b}{i j:Nat}{x y:b}(h:(l.set i x)[j]?=Y y):(i=j/\i<TD l/\y=x)\/(i≠j/\l[j]?=Y y):=by
 rw[xG]at h;split at h
 .rename_i a;split at h
  .rename_i c;exact .inl ⟨a,c,(lI h).symm⟩
  cases h
 rename_i a;exact .inr ⟨a,h⟩
section
variable {K:jJ}{T:Z5}{f:L2.St}{l c:Dn}{H g:Hp}{x:D×Bool}{v:V}{i:Nat}
def X0.store{j:Nat}{a:jh}(h:X0 (f.set i<|Y v) (l.set i<|Y x) j a):(i≠j/\X0 f l j a)\/(i=j/\x.2=C/\v=.ref a):=by
 obtain⟨d,h1,m⟩:=h;rcases om h1 with⟨e,_,q⟩|⟨ne,q⟩
 .rcases om m with⟨_,_,k⟩|⟨b,_⟩
  .right;cases q;exact⟨e,rfl,(lI k).symm⟩
  exact absurd e b
 rcases om m with⟨n,_,_⟩|⟨_,k⟩
 .exact absurd n ne
 exact .inl ⟨ne,d,q,k⟩
def Z8.store(h:Z8 (f.set i<|Y v) (l.set i<|Y x) a):Z8 f l a\/(x.2=C/\v=.ref a):=by
 obtain⟨j,d,h1,k⟩:=h;rcases X0.store ⟨d,h1,k⟩with⟨_,e,b,m⟩|⟨_,b⟩
 .exact .inl ⟨j,e,b,m⟩
 exact .inr b
def ER.store(h:ER K g (JU T x v) f c)(E:i<TD c)(u:match x with|(d,I)=>Rep K g (λa=>Z8 f c a\/T a) d v|(d,C)=>∃p,v=.ref p/\¬T p/\Ag K g (λa=>Z8 f c a\/T a\/a=p) d p):
  ER K g T (f.set i<|Y v) (c.set i<|Y x):=by
 have r:i<(TD f):=by rw[h.len];exact E
 have sub:∀b,g b≠U->(Z8 (f.set i<|Y v) (c.set i<|Y x) b\/T b)->(Z8 f c b\/JU T x v b):=λb _ z=>by
  rcases z with z|z
  .rcases z.store with z|z
   .exact .inl z
   exact .inr (.inr z)
  exact .inr (.inl z)
 refine⟨by rw[sJ,sJ];exact h.len,λj d o=>?_,λj d o=>?_,λj k d e a o hk h1 n=>?_,λa z=>?_,λa z=>h.dom a<|.inl z⟩
 .rcases om o with⟨rfl,_,q⟩|⟨ne,q⟩
  .have q:=lI q;subst q
   exact⟨v,uS r,Rep.mono (λ_ _ e _=>e) (λb O z=>by
    rcases z with z|z
    .rcases z.store with z|z
     .exact .inl z
     exact absurd z.1 (by simp)
    exact .inr z) u⟩
  obtain⟨w,h1,n⟩:=h.val j d q;exact⟨w,by rw[nD ne];exact h1,Rep.mono (λ_ _ e _=>e) sub n⟩
 .rcases om o with⟨rfl,_,q⟩|⟨ne,q⟩
  .have q:=lI q;subst q;obtain⟨p,rfl,np,ok⟩:=u;refine⟨p,uS r,ok.mono (λ_ _ e _=>e) (λb O z=>?_) λ_ e=>e⟩;rcases z with z|z
   .rcases z.store with z|z
    .exact .inl z
    have:=z.2;cases this;exact .inr<|.inr J
   exact .inr (.inl z)
  obtain⟨a,h1,n⟩:=h.own j d q;exact⟨a,by rw[nD ne];exact h1,n.mono (λ_ _ e _=>e) sub λ_ e=>e⟩
 .rcases X0.store ⟨d,o,h1⟩with⟨L,y,g1,g2⟩|⟨B,g1,g2⟩
  .rcases X0.store ⟨e,hk,n⟩with⟨Q,s,g3,m⟩|⟨A,g3,m⟩
   .exact h.inj j k y s a g1 g3 g2 m
   exact absurd (bp ⟨g3,m⟩) (h.nT a ⟨j,y,g1,g2⟩)
  rcases X0.store ⟨e,hk,n⟩with⟨Q,s,g3,m⟩|⟨A,g3,m⟩
  .exact absurd (bp ⟨g1,g2⟩) (h.nT a ⟨k,s,g3,m⟩)
  exact B.symm.trans A
 rcases z.store with z|z
 .exact λt=>h.nT a z<|.inl t
 obtain⟨d,b⟩:=x
 cases b
 .exact absurd z.1 (by simp)
 obtain⟨p,rfl,np,_⟩:=u;have:=z.2;cases this;exact np
def SK.store(k:AW f l H c g)(b:A i)(h:x.2=C->∀p,v=.ref p->H p=U):SK A f l H (f.set i<|Y v) (c.set i<|Y x) g where
 kp:=k.kp
 owi:=λj a z=>by
  rcases z.store with⟨_,z⟩|⟨_,m,n⟩
  .exact .inl (k.owi j a z)
  exact .inr (.inl<|h m a n)
 dm:=k.dm
 as:=λj d=>nD λ(e:i=j)=>d (by subst e;exact b)
end
section
variable {X:Cx}{A:kE}{L:LL}{g:Hp}{f:F}{e c:jv}{b a:bt}
def wx{K:jJ}{T:Z5}{k:L2.St}{n j:Dn}{H l:Hp}{r:D×Bool}{v:V}{i:Nat}(E:ER K H T k n)(P:A4 K T k n H r j v l)(u:i<TD j)(t:A i):
  SK A k n H (k.set i<|Y v) (j.set i<|Y r) l/\ER K l T (k.set i<|Y v) (j.set i<|Y r):=by
 have w:r.2=C->∀p,v=.ref p->H p=U:=λh p hv=>by
  obtain⟨d,o⟩:=r
  cases o
  .cases h
  obtain⟨q,h1,m,_⟩:=P.2;rw[hv]at h1;cases h1;exact m
 refine⟨SK.store P.1 t w,ER.store (P.er E) u ?_⟩;obtain⟨d,o⟩:=r
 cases o
 .exact P.2.2
 obtain⟨p,rfl,m,x,s⟩:=P.2;exact⟨p,rfl,λz=>(E.dom p z).ne m,s⟩
end
abbrev Tg:=D->Dn->Option Dn
inductive tG(K:jJ)(A:kE)(tg:Tg)(v:V)(σ:L2.St)(hp:Hp)(Q:L2.St->Hp->Prop):Prop where
 |mk (δ:Dn) (T:Z5) (d:D) (δ':Dn) (_:ER K hp T σ δ) (_:Rep K hp (λa=>Z8 σ δ a\/T a) d v) (_:tg d δ=SI δ') (_:∀σ',SK A σ δ hp σ' δ' hp->ER K hp T σ' δ'->Q σ' hp)
def Kw(X:Cx)(A:kE)(e:jv)(a:Tg):Prop:=PG X e<|tG X.K A a
noncomputable def jo(i:Nat):Tg:=λd δ=>if i<(TD δ)then Y (δ.set i<|Y (d,I))else U
noncomputable def HK:List Tg->List D->Dn->Option Dn
 |[],[],a=>Y a
 |t::b,d::ds,a=>(t d a).bind<|HK b ds
 |_,_,_=>U
def HJ(a:List Tg):Tg
 |.tup ds,b=>HK a ds b
 |_,_=>U
inductive Mx(K:jJ)(A:kE)(ts:List Tg)(vs:List V)(σ:L2.St)(hp:Hp)(Q:L2.St->Hp->Prop):Prop where
 |mk (δ:Dn) (T:Z5) (ds:List D) (δ':Dn) (_:ER K hp T σ δ) (_:Z9 K hp (λa=>Z8 σ δ a\/T a) ds vs) (_:HK ts ds δ=SI δ') (_:∀σ',SK A σ δ hp σ' δ' hp->ER K hp T σ' δ'->Q σ' hp)
section
variable {X:Cx}{A:kE}{g:bt}{e:jv}{f:lg}{t:Tg}{c:List Tg}
def PG.imp'{t d:TG}(h:PG X e t)(k:∀v b H Q,d v b H Q->t v b H Q):PG X e d:=λa s b H v u Q T r i=>h a s b H v u Q T r<|k v b H Q i
def Jt.imp'{t d:Ku}(h:Jt X f t)(k:∀v b H Q,d v b H Q->t v b H Q):Jt X f d:=λa s b H v u Q T r i=>h a s b H v u Q T r<|k v b H Q i
def adb:Jt X [] (Mx X.K A []):=Jt.imp' Qe λv h H Q b=>by
 obtain⟨i,T,a,d,E,r,e,k⟩:=b
 cases a with
 |nil=>
  cases e;rw[Z9]at r;exact⟨r,k h .refl E⟩
 |cons _ _=>cases e
def BC(h1:Kw X A e t)(p:Jt X f (Mx X.K A c))(u:(ba (e::f) X.env).map (·.2)=cy e X.env::(ba f X.env).map (·.2)):Jt X (e::f) (Mx X.K A (t::c)):=Jt.imp' (ade h1 p u) λv O H Q w=>by
 obtain⟨N,T,h,i,E,r,e,k⟩:=w
 cases h with
 |nil=>cases e
 |cons d h=>rw[Z9]at r;obtain⟨B,M,rfl,x,y⟩:=r;obtain⟨a,q,e⟩:=jl e;refine⟨B,M,rfl,N,T,d,a,E,x,q,λL l m=>⟨a,T,h,i,m,?_,e,λj o n=>k j (l.trans o) n⟩⟩;exact Z9.mono (λ_ _ e _=>e) (λb s z=>z.elim (λz=>(l.ow b z).elim bf λz=>absurd z s) bp) y
def Qd{k:Nat}(o:X.calm=C)(h:Jt X f (Mx X.K A c)){n:Nat}(s:(ba f X.env).length=n)(p:c.length=n)(x:(ba f X.env).findIdx? (·.1)=U):Kw X A (.Tuple f k g) (HJ c):=PG.imp' (Ue o h s x) λv z H Q u=>by
 obtain⟨i,T,d,j,E,r,e,k⟩:=u
 cases d with
 |tup b=>
  obtain⟨a,y,rfl,q,m⟩:=r.tup;refine⟨a,y,rfl,q.sq,?_,i,T,b,j,E,m,e,k⟩
  have:∀(c:List Tg)(b:List D)(i:Dn),HK c b i=Y j->b.length=c.length:=by
   intro c
   induction c with
   |nil=>intro b i h;cases b with|nil=>rfl|cons _ _=>cases h
   |cons t c w=>
    intro b i h
    cases b with
    |nil=>cases h
    |cons d b=>obtain⟨l,_,h⟩:=jl h;simp[w b l h]
  rw[m.length,this c b i e,p]
 |_=>cases e
end
abbrev SB:=Nat->Prop
def Kx(B:SB)(T:Z5)(c:L2.St)(b:Dn):Z5:=λa=>(∃i,¬B i/\X0 c b i a)\/T a
def Kx.own(h:Kx B T σ δ a):Z8 σ δ a\/T a:=h.imp (λQ=>by obtain⟨i,_,d,h1,b⟩:=Q;exact ⟨i,d,h1,b⟩) id
structure Ju(K:jJ)(J:It)(ds:List D)(P O:Z5)(H1:Hp):Prop where
 go:∀(i:Nat) d Hi,ds[i]?=SI d->(∀a o,H1 a=SI o->¬P a->Hi a=SI o)->J.go i Hi/\∀x H',J.yld i Hi x H'->(∀a o,Hi a=SI o->H' a=SI o)/\
  ∀O':Z5,(∀b,H1 b≠SS->O' b->O b)->(∀b,Hi b=SS->¬O' b)->Rep K H' O' d x
 stop:∀(i:Nat) Hi,TD ds<=i->(∀a o,H1 a=SI o->¬P a->Hi a=SI o)->J.stop i Hi
abbrev DK:=Dn->Option (List D×Dn)
def tI(K:jJ)(B:SB)(g:DK):TI:=λc H R=>∃e T f b,ER K H T c e/\g e=Y (f,b)/\∀Q d,AW c e H b d->ER K d T c b->Ju K Q f (Kx B T c b) (λa=>Z8 c b a\/T a) d->R Q d
def Kv(X:Cx)(B:SB)(tg iter:jv)(a:DK):Prop:=PI X tg iter<|tI X.K B a
noncomputable def zQ:D->Option (List D)
 |.tup l=>Y l
 |.lst l=>Y l
 |_=>U
def G7(f:FO):DK:=λa=>(f a).bind λp=>(res p.2 p.1).bind λd=>(zQ d).bind λl=>Y (l,p.2)
noncomputable def lO(f:F):DK:=λδ=>(f δ).bind λp=>match p.1.1 with
 |.lst l=>Y (l,p.2)
 |.tup l=>Y (l,p.2)
 |_=>U
noncomputable def jU(lo:Int)(n:Nat):List D:=(am n).map λ(k:Nat)=>.int (lo+k)
def wI(f:FO):DK:=λδ=>(lq [f] δ).bind λp=>match vL p.2 p.1 with
 |some [.int j]=>if -(2^62)<=j/\j<2^62 then Y (jU 0 j.toNat,p.2)else U
 |_=>U
def Mj(B:SB)(f:FO):Prop:= ∀b i a,f b=Y (.slot i,a)->B i
def Pp:Mj B (jB f):=λb i a h=>by obtain⟨p,_,h⟩:=jl h;cases h
def HR(h:B i):Mj B (jm i):=λb j a e=>by
 unfold jm at e;split at e<;>cases e
 exact h
noncomputable def MY:D->Bool
 |.lst _=>C
 |_=>I
def Hw(b:Bool)(K:jJ)(H:Hp)(P:Z5)(a:jh)(c:List V):Prop:=if b=C then GX K H P a c else GW K H P a c
def Hw.mono{K H H'}{P P':Z5}(q:Hw b K H P a xs)(k:∀b o,H b=Y o->¬P b->H' b=Y o)(c:∀b,P' b->P b):Hw b K H' P' a xs:=by
 cases b
 .exact GW.mono (K:=K) q k λb _=>c b
 exact GX.mono q k λb _=>c b
def Hw.l{K H}(q:Hw C K H P a xs):G1 K H a xs:=GX.sq q
def Hw.t{K H}(q:Hw I K H P a xs):Hd K H a xs:=GW.sq (K:=K) q
def Bw{K H}(h:zQ d=Y l)(r:Rep K H O d v):∃a b,v=.ref a/\Hw (MY d) K H O a b/\Z9 K H O l b:=by
 cases d with
 |tup m=>cases h;obtain⟨a,b,rfl,q,c⟩:=r.tup;exact⟨a,b,rfl,q,c⟩
 |lst m=>cases h;obtain⟨a,b,rfl,q,c⟩:=r.lst;exact⟨a,b,rfl,q,c⟩
 |_=>cases h
def Ops.seq{K:jJ}{T M:Z5}{h:L2.St}{A c:Dn}{H n:Hp}{os:List AY}{y:List V}(E:ER K H T h A)(W:Ops K T h A H os y c n M){j:Nat}(h1:os[j]?=Y o)(x:y[j]?=Y v)(s:res c o=Y d)(t:zQ d=Y l)(L:∀i,o=.slot i->B i):
  ∃a g,v=.ref a/\Hw (MY d) K n (Kx B T h c) a g/\Z9 K n (λa=>Z8 h c a\/T a) l g:=by
 have fin:Rep K n (λa=>Z8 h c a\/T a) d v->∃a g,v=.ref a/\Hw (MY d) K n (Kx B T h c) a g/\Z9 K n (λa=>Z8 h c a\/T a) l g:=λr=>by obtain⟨a,g,rfl,q,u⟩:=Bw t r;exact⟨a,g,rfl,q.mono (λ_ _ e _=>e) λa z=>z.own,u⟩
 cases o with
 |val r=>cases s;exact fin<|W.rep E h1 x
 |slot i=>
  have hk:=W.slt j i _ h1 x
  have hd:∃f,c[i]?=Y (Y (d,f)):=by
   unfold res at s;dsimp only at s;split at s<;>cases s
   exact⟨_,by assumption⟩
  obtain⟨f,hd⟩:=hd
  cases f
  .obtain⟨w,p,N⟩:=W.er.val i _ hd;rw[hk]at p;cases p;exact fin<|Rep.mono (λ_ _ e _=>e) (λb _ z=>z.imp id<|W.tt b) N
  obtain⟨a,p,ok⟩:=W.er.own i _ hd;rw[hk]at p;cases p
  cases d with
  |lst m=>
   cases t;obtain⟨g,e,u⟩:=ok;exact⟨a,g,rfl,.inl ⟨.inl e,λz=>z.elim (λG=>by obtain⟨k,O,Q,g1,g2⟩:=G;exact O<|W.er.inj i k _ _ a hd g1 hk g2▸L i J) λz=>W.er.nT a ⟨i,_,hd,hk⟩<|W.tt a z⟩,Z9.mono (λ_ _ e _=>e) (λb _ z=>z.imp id<|W.tt b) u⟩
  |tup m=>exact ok.elim
  |_=>cases t
section
variable {X:Cx}{B:SB}{tg e:jv}{f:F}{c:FO}{g p:bt}
def PI.imp'(h:PI X tg e t)(k:∀b H R,i b H R->t b H R):PI X tg e i:=λa s b H R T d=>h a s b H R T<|k b H R d
def PI.or(h:PI X tg e t)(d:PI X tg e j):PI X tg e (λb H R=>t b H R\/j b H R):=λa s b H R T i=>i.elim (h a s b H R T)<|d a s b H R T
def ItS(b:Bool)(K:jJ)(a:jh):It:=if b=C then Itl K a else Itt K a
def adK{K:jJ}{P O:Z5}{m:Hp}{a:jh}{k:List V}{l:List D}(q:Hw b K m P a k)(r:Z9 K m O l k)(v:∀a,P a->O a):Ju K (ItS b K a) l P O m:=by
 cases b<;>(
  refine⟨λi d Hi hd j=>?_,λi Hi w j=>?_⟩
  .have h:=Hw.mono q j λ_ z=>z
   first|replace h:=h.l|replace h:=h.t
   obtain⟨x,u,A⟩:=r.get hd;refine⟨⟨k,x,h,u⟩,λy T s=>?_⟩;obtain⟨rfl,s⟩:=s;have:=s k h;rw[u]at this;cases this;exact⟨λ_ _ e=>e,λE h1 H=>Rep.mono (λb o e n=>j b o e λz=>n<|v b z) h1 A⟩
  exact⟨k,by first|exact(Hw.mono q j λ_ z=>z).l|exact(Hw.mono q j λ_ z=>z).t,by rw[r.length];exact w⟩)
def Ao{K:jJ}{P O:Z5}{b:Hp}(lo:Int)(n:Nat):Ju K (Ms lo n) (jU lo n) P O b:=by
 refine⟨λi d Hi hd j=>?_,λi Hi a j=>?_⟩
 .unfold jU at hd;rw[lh]at hd;obtain⟨k,h1,h⟩:=jX hd;have a:i<n:=by have:=(uT.mp h1).1;simpa using this
  have hk:k=i:=by rw[List.getElem?_range a]at h1;exact(lI h1).symm
  subst hk;refine⟨a,λy m l=>?_⟩;obtain⟨rfl,rfl⟩:=l;refine⟨λ_ _ e=>e,λo _ _=>?_⟩;rw[<-h];exact Rep.mkInt
 unfold jU at a;have:n<=i:=by simpa using a
 exact this
def ac8(h:PO X e c)(M:Mj B c):Kv X B tg e (G7 c):=PI.imp' (PI.or (Qc (tg:=tg) h)<|Ud h) λy H R L=>by
 obtain⟨w,T,G,Q,E,e,k⟩:=L;obtain⟨o,u,h1,e⟩:=jw e;obtain⟨d,A,e⟩:=jl e;obtain⟨l,x,e⟩:=jl e;obtain⟨rfl,rfl⟩:=jS e
 have key:∀v n,C5 X.K T y w H o u v n->∃a s,v=.ref a/\Hw (MY d) X.K n (Kx B T y u) a s/\R (ItS (MY d) X.K a) n:=λv n P=>by have W:=Ops.cons E P<|Ops.nil<|P.er E;obtain⟨a,s,rfl,q,O⟩:=W.seq E (j:=0) J J A x λi N=>M _ _ _ (N▸h1);exact⟨a,s,rfl,q,k _ n W.keep (W.er.mono (λ_ _ e _=>e) (λb _ z=>W.tt b z) λa z=>W.er.dom a<|W.tt a z) (adK q O λa z=>z.own)⟩
 cases d with
 |lst m=>exact .inl ⟨w,T,_,_,E,h1,λv n P=>let⟨a,s,e,q,r⟩:=key v n P;⟨a,e,⟨s,q.l⟩,r⟩⟩
 |tup m=>exact .inr ⟨w,T,_,_,E,h1,λv n P=>let⟨a,s,e,q,r⟩:=key v n P;⟨a,e,⟨s,q.t⟩,r⟩⟩
 |_=>cases x
end
noncomputable def mW(c:Tg)(b:FS):List D->FS
 |[],δ=>Y<|.nx δ
 |d::ds,δ=>(c d δ).bind λδ1=>(b δ1).bind λo=>match o with
  |.nx a=>mW c b ds a
  |.ct a=>mW c b ds a
  |.bk a=>Y<|.nx a
  |.rt r a=>Y<|.rt r a
def oA(b:DK)(c:Tg)(a:FS):FS:=λδ=>(b δ).bind λp=>mW c a p.1 p.2
section
variable {X:Cx}{A:kE}{L:LL}{l:Hp}{g iter:jv}{c:List aW}{j:DK}{t:Tg}{f:FS}{h:bt}
def P4(hp:fw (ae X.prog X.w) X.A X.env X.xe)(hc:X.calm=C)(hi:Kv X (λ_=>False) g iter j)(hg:Kw X A g t)(G:DP X A L l c f)(hs:∀x,ax iter X.env x=pure x):
  LZ X A L l (.For g iter c [] h) (oA j t f):=PS.imp' (T9 hp hc hi hg G hs) λD M H hw=>by
 obtain⟨δ,T,out,E,iX,e,k⟩:=hw;obtain⟨u,q,h1,e⟩:=jw e;refine⟨δ,T,u,q,E,h1,λJ Y K1 E1 ok=>?_⟩;have S:SK A M δ H M q Y:=K1.sk;refine⟨λi m s C'=>m=TD u-i/\i<=TD u/\∃p,SK A M q Y s p C'/\ER X.K C' T s p/\mW t f (u.drop i) p=SI out,⟨TD u,by simp,mw _,q,.refl,E1,by simpa using e⟩,?_⟩;rintro i m O H2 ⟨rfl,hle,I',S2,N,e2⟩;have Z:∀a o,Y a=SI o->¬Kx (λ_=>False) T M q a->H2 a=SI o:=λa o ea n=>S2.kp a o ea λ⟨i,d,z⟩=>n<|.inl ⟨i,id,d,z⟩;by_cases W:i<TD u
 .refine .inr ?_;have hd:u[i]?=SI u[i]:=km W;obtain⟨go,yl⟩:=ok.go i _ H2 hd Z;rw[zD W]at e2;obtain⟨R,h3,e3⟩:=jl e2;obtain⟨o,h4,V⟩:=jl e3;refine⟨go,λs C'=>∃p,SK A M q Y s p C'/\ER X.K C' T s p/\mW t f (u.drop<|i+1) p=SI out,λs C' ⟨p,q1,q2,q3⟩=>⟨TD u-(i+1),by omega,rfl,W,p,q1,q2,q3⟩,λx C' hy=>?_⟩;obtain⟨ext,rep⟩:=yl x C' hy;have gm:ER X.K C' T O I':=N.mono (λb ob eb _=>ext b ob eb) (λ_ _ z=>z) λa z=>(N.dom a z).up<|ext a;have ja:SK A M q Y O I' C':=S2.trans (AW.ext ext).sk;have rx:=rep (λa=>Z8 O I' a\/T a) (λb G z=>z.elim (λz=>(S2.ow b z).elim bf λz=>absurd z G) bp) λb G z=>z.elim (λz=>N.Hx z G) λz=>(N.dom b z).ne G;refine⟨I',T,u[i],R,gm,rx,h3,λσ3 S3 E3=>?_⟩;have P:=ja.trans S3;refine⟨R,T,o,E3,(iX.step S).step P,h4,?_⟩
  cases o with
  |nx y=>exact λB F Q U=>⟨y,P.trans Q,U,V⟩
  |ct y=>exact λB F Q U=>⟨y,P.trans Q,U,V⟩
  |bk y=>cases V;exact λB F Q U=>k B F (S.trans<|P.trans Q) U
  |rt r y=>cases V;exact λv B F Q R4=>k v B F (S.trans<|P.trans Q) R4
 refine .inl ⟨ok.stop i H2 (by omega) Z,?_⟩;rw[zC<|by omega]at e2;cases e2;exact k O H2 (S.trans S2) N
end
noncomputable def pR(c:FT)(b:FS):Nat->FS
 |0,_=>U
 |n+1,d=>(c d).bind λp=>if p.1=C then(b p.2).bind λo=>(match o with
   |.nx a=>pR c b n a
   |.ct a=>pR c b n a
   |.bk a=>Y<|.nx a
   |.rt r a=>Y<|.rt r a)else Y (.nx p.2)
def An(f g:FO):DK:=λδ=>(lq [f,g] δ).bind λp=>match vL p.2 p.1 with
 |some [.int i,.int j]=>if -(2^62)<=i/\i<2^62/\ -(2^62)<=j/\j<2^62 then Y (jU i (j-i).toNat,p.2)else U
 |_=>U
section
variable {X:Cx}{A:kE}{L:LL}{s:Hp}{B:SB}{t e c a b:jv}{d:List aW}{f:FT}{g:FS}{x u:FO}{l p:bt}
def abP{n:Nat}(hp:fw (ae X.prog X.w) X.A X.env X.xe)(hc:PTX X c f)(hb:DP X A L s d g):LZ X A L s (.While c d [] l) (pR f g n):=PS.imp' (adB hp hc hb) λD F H hw=>by
 obtain⟨U,T,out,E,iX,e,k⟩:=hw;refine⟨λm i I=>∃h,SK A F U H i h I/\ER X.K I T i h/\pR f g m h=Y out,⟨n,U,.refl,E,e⟩,?_⟩;rintro m J' H2 ⟨Y',S2,E2,e2⟩
 cases m with
 |zero=>cases e2
 |succ m=>
  obtain⟨S,C,Z,M⟩:=jw e2;refine⟨Y',T,S,C,E2,Z,λR V P=>?_⟩;have O:SK A F U H J' C R:=S2.trans V.sk
  cases S with
  |false=>rw[jP lQ]at M;cases M;exact Xh<|k J' R O P
  |true=>
   rw[jz J]at M;obtain⟨o,h4,N⟩:=jl M;refine Xg ⟨λi I=>∃h,SK A F U H i h I/\ER X.K I T i h/\pR f g m h=Y out,λi I q=>⟨m,zB _,q⟩,C,T,o,P,iX.step O,h4,?_⟩
   cases o with
   |nx j=>exact λy G z Q=>⟨j,O.trans z,Q,N⟩
   |ct j=>exact λy G z Q=>⟨j,O.trans z,Q,N⟩
   |bk j=>cases N;exact λy G z Q=>k y G (O.trans z) Q
   |rt r j=>cases N;exact λv y G z W=>k v y G (O.trans z) W
def uf{K:jJ}{T v:Z5}{E:L2.St}{Q m:Dn}{H r:Hp}{os:List AY}{k:List V}{n:List D}(B:Ops K T E Q H os k m r v)(h:vL m os=Y n){j:Nat}{i:Int}(hd:n[j]?=Y (.int i)):k[j]?=Y (.int i):=by
 obtain⟨h1,w⟩:=oj h;obtain⟨o,q,y⟩:=w j _ hd;have z:j<(TD k):=by have:=(uT.mp q).1;have:=B.len;lia
 have hv:k[j]?=Y k[j]:=km z;have:=kj<|B.view q hv y;rw[hv,this]
end
abbrev A5:=List (D×Bool)->Option ((D×Bool)×Dn)
def Hj(K:jJ)(c:A5):Sp:=λvs H Q _=>∃T args r a,ER K H T (vs.map Y) (args.map Y)/\c args=Y (r,a)/\∀v b,A4 K T (vs.map Y) (args.map Y) H r a v b->Q v b
noncomputable def kR(args:List (D×Bool))(δ:Dn):Dn:=args.zipIdx.map λp=>if p.1.2=C then(δ[p.2]?).join else Y p.1
def Ae(n np:Nat)(asg:kz)(f:FS):A5:=λargs=>
 if (TD args)=np/\np<=n/\(args.zipIdx.all λp=>!(p.1.2&&asg.contains p.2))=C then
  match f (args.map Y++af (n-np) U)with
  |some (.rt r δ)=>Y (r,kR args δ)
  |some (.nx δ)=>Y ((.Z4,I),kR args δ)
  |_=>U
 else U
def adl(a:List (D×Bool))(b:Dn)(i:Nat):(kR a b)[i]?=a[i]?.map λx=>if x.2=C then(b[i]?).join else Y x:=by
 unfold kR;rw[lh,FW]
 cases a[i]? with
 |none=>rfl
 |some x=>simp
def pz(h:x.join=Y p):x=Y (Y p):=by
 cases x with
 |none=>cases h
 |some y=>exact nC Y h
section
variable {K:jJ}{T:Z5}{A:kE}{k:List V}{f:List (D×Bool)}{H q:Hp}{m:Nat}{l:L2.St}{g:Dn}{r:D×Bool}{v:V}
def DU{b:Type}{a:List b}{m i:Nat}{y:b}:(a.map Y++af m U)[i]?=Y (Y y)↔a[i]?=Y y:=by
 by_cases h:i<TD a
 .rw[qc<|by simpa using h,lh];cases a[i]?<;>simp
 rw[pJ<|by simpa using h];constructor
 .intro e;rw[CS]at e;split at e<;>cases e
 intro e;exact absurd (uT.mp e).1 h
def uy{b:Type}{a:List b}{i:Nat}{y:b}:(a.map Y)[i]?=Y (Y y)↔a[i]?=Y y:=by rw[lh];cases a[i]?<;>simp
def KG{i:Nat}{a:jh}:X0 (k.map Y++af m U) (f.map Y++af m U) i a↔X0 (k.map Y) (f.map Y) i a:=by unfold X0;simp only[DU,uy]
def Ek:Z8 σ b a↔ ∃i,X0 σ b i a:=Iff.rfl
def MV:Z8 (k.map Y++af m U) (f.map Y++af m U) a↔Z8 (k.map Y) (f.map Y) a:=by rw[Ek,Ek];exact exists_congr λi=>KG
def ER.pad(E:ER K H T (k.map Y) (f.map Y)):ER K H T (k.map Y++af m U) (f.map Y++af m U):=by
 have len:(TD k)=(TD f):=by simpa using E.len
 refine⟨by simp[len],λi d h=>?_,λi d h=>?_,λi j d e a h1 o p s=>?_,λa z=>E.nT a<|MV.mp z,E.dom⟩
 .obtain⟨w,c,n⟩:=E.val i d<|uy.mpr<|DU.mp h;exact⟨w,DU.mpr<|uy.mp c,Rep.mono (λ_ _ e _=>e) (λb _ z=>z.imp MV.mp id) n⟩
 .obtain⟨w,c,n⟩:=E.own i d<|uy.mpr<|DU.mp h;exact⟨w,DU.mpr<|uy.mp c,n.mono (λ_ _ e _=>e) (λb _ z=>z.imp MV.mp id) λ_ e=>e⟩
 exact E.inj i j d e a (uy.mpr<|DU.mp h1) (uy.mpr<|DU.mp o) (uy.mpr<|DU.mp p) (uy.mpr<|DU.mp s)
def Ic{J:Z5}(E:ER K H T (k.map SI) (f.map SI))(S:SK A (k.map SI++af m SS) (f.map SI++af m SS) H l g q)(hA:∀(i:Nat) d,f[i]?=SI (d,Td)->¬A i)
  (Q:ER K q J l g)(hT:∀b,H b≠SS->J b->T b):ER K q J (k.map SI) (kR f g)/\(∀b,Z8 (k.map SI) (kR f g) b->Z8 l g b)/\AW (k.map SI) (f.map SI) H (kR f g) q:=by
 have len:(TD k)=(TD f):=by simpa using E.len
 have s:∀(i:Nat) d w,f[i]?=SI (d,Td)->k[i]?=SI w->l[i]?=SI (SI w):=λi d w h1 p=>by rw[S.as i<|hA i d h1];exact DU.mpr p
 have t:∀(i:Nat) d b,(kR f g)[i]?=SI (SI (d,b))->(∃e,f[i]?=SI (e,Td)/\g[i]?=SI (SI (d,b)))\/(b=Tk/\f[i]?=SI (d,Tk)):=λi d b h=>by
  rw[adl]at h;obtain⟨⟨e,c⟩,h1,p⟩:=jX h
  cases c
  .right;have:SI (e,Tk)=SI (d,b):=by simpa using p
   cases this;exact⟨rfl,h1⟩
  left;exact⟨e,h1,pz<|by simpa using p⟩
 have B:∀i a,X0 (k.map SI) (kR f g) i a->X0 l g i a/\X0 (k.map SI) (f.map SI) i a:=λi a a'=>by
  obtain⟨d,h1,p⟩:=a'
  rcases t i d Td h1 with⟨e,u,x⟩|⟨z,_⟩
  .exact⟨⟨d,x,s i e _ u (uy.mp p)⟩,⟨e,uy.mpr u,p⟩⟩
  cases z
 have G:∀b,Z8 (k.map SI) (kR f g) b->Z8 l g b:=λb a'=>by
  obtain⟨i,d,h1,p⟩:=a'
  obtain⟨⟨e,I,L⟩,_⟩:=B i b ⟨d,h1,p⟩;exact⟨i,e,I,L⟩
 have C:∀b,Z8 (k.map SI) (kR f g) b->Z8 (k.map SI) (f.map SI) b:=λb a'=>by
  obtain⟨i,d,h1,p⟩:=a'
  obtain⟨_,⟨e,I,L⟩⟩:=B i b ⟨d,h1,p⟩;exact⟨i,e,I,L⟩
 have U:∀a o,H a=SI o->¬Z8 (k.map SI) (f.map SI) a->q a=SI o:=λa o e n=>S.kp a o e λz=>n<|MV.mp z;refine⟨⟨?_,λi d h=>?_,λi d h=>?_,λi j d e a h1 p u x=>?_,λa z=>Q.nT a<|G a z,Q.dom⟩,G,⟨U,λi a z=>(B i a z).2,S.dm⟩⟩
 .simp[kR,len]
 .have M:i<(TD k):=by
   have:=(uT.mp h).1;simp[kR]at this
   lia
  have hv:k[i]?=SI k[i]:=km M;rcases t i d Tk h with⟨e,u,x⟩|⟨_,u⟩
  .obtain⟨w,y,O⟩:=Q.val i d x;rw[s i e _ u hv]at y;cases y;exact⟨_,uy.mpr hv,Rep.mono (λ_ _ e _=>e) (λb _ z=>z.imp (G b) id) O⟩
  obtain⟨w,y,O⟩:=E.val i d<|uy.mpr u;exact⟨w,y,Rep.mono (λb o e n=>U b o e λz=>n<|.inl z) (λb F z=>z.imp (C b)<|hT b F) O⟩
 .have M:i<(TD k):=by
   have:=(uT.mp h).1;simp[kR]at this
   lia
  have hv:k[i]?=SI k[i]:=km M;rcases t i d Td h with⟨e,u,x⟩|⟨z,_⟩
  .obtain⟨w,y,O⟩:=Q.own i d x;rw[s i e _ u hv]at y;have N:k[i]=V.ref w:=by simpa using y
   exact⟨w,by rw[<-N];exact uy.mpr hv,O.mono (λ_ _ e _=>e) (λb _ z=>z.imp (G b) id) λ_ e=>e⟩
  cases z
 obtain⟨_,⟨Y,I,L⟩⟩:=B i a ⟨d,h1,u⟩;obtain⟨_,⟨D,P,R⟩⟩:=B j a ⟨e,p,x⟩;exact E.inj i j Y D a I P L R
def qX(E:ER K H T (k.map Y) (f.map Y))(S:SK A (k.map Y++af m U) (f.map Y++af m U) H l g q)(j:∀(i:Nat) d,f[i]?=Y (d,C)->¬A i)
  (R:RV K T H r l g v q):A4 K T (k.map Y) (f.map Y) H r (kR f g) v q:=by
 obtain⟨d,b⟩:=r
 cases b
 .obtain⟨a,s⟩:=R;obtain⟨c,ow,h⟩:=Ic E S j a λ_ _ z=>z;exact⟨h,c,Rep.mono (λ_ _ e _=>e) (λb _ z=>z.imp (ow b) id) s⟩
 obtain⟨p,rfl,n,a,ok⟩:=R;obtain⟨c,ow,h⟩:=Ic E S j a (λb o z=>z.elim id λz=>by subst z;exact absurd n o);exact⟨h,p,rfl,n,c,ok.mono (λ_ _ e _=>e) (λb _ z=>z.imp (ow b) id) λ_ e=>e⟩
end
section
variable {P:jI}{w:jG}{K:jJ}{c:ml}{base:jH}{N:jK}{m:Nat}{b:kz}{fs:FS}{vs:List V}{H:Hp}{Q:VK}{E:XK}
def HP(h:Hj K (Ae (TD N) m b fs) vs H Q E):(TD vs)=m:=by
 obtain⟨T,a,r,d,E0,e,_⟩:=h;unfold Ae at e;split at e
 .rename_i f;have:=E0.len;simp at this;rw[this];exact f.1
 cases e
def GD(h:Hj K (Ae (TD N) m b fs) vs H Q E):∃L:LL,(∀i,L.p i->i<m)/\tS K (λi=>i∈b) L H fs {nx:=λ_ g=>Q .Z4 g,rt:=Q} (L2.oY N vs) H:=by
 obtain⟨T,args,r,t,E0,e,s⟩:=h;unfold Ae at e;split at e
 .rename_i B;obtain⟨h1,M,A⟩:=B;have k:(TD vs)=(TD args):=by simpa using E0.len
  refine⟨⟨λi=>∃d,args[i]?=Y (d,C),U⟩,λi ⟨d,hd⟩=>by have:=(uT.mp hd).1;lia,?_⟩;have G:L2.oY N vs=vs.map Y++af (TD N-m) U:=by unfold L2.oY;rw[k,h1]
  have n:∀(i:Nat) d,args[i]?=Y (d,C)->¬(i∈b):=λi d hd I=>by
   have O:(args.zipIdx)[i]?=Y ((d,C),i):=by rw[FW,hd];simp
   have:=mZ.mp A _ (lX O);simp at this;exact this I
  rw[G]
  have y:FI (λi=>i∈b) ⟨λi=>∃d,args[i]?=Y (d,C),U⟩ H (vs.map Y++af (TD N-m) U) (args.map Y++af (TD N-m) U) H:=⟨λi a z=>by obtain⟨d,J,_⟩:=KG.mp z;exact .inl ⟨d,uy.mp J⟩,λ_ z=>z,λj C' ⟨d,hd⟩=>n j d hd C',λ_ h=>nomatch h⟩
  cases o:fs (args.map Y++af (TD N-m) U)with
  |none=>rw[o]at e;cases e
  |some out=>
   rw[o]at e;refine⟨_,T,out,E0.pad,y,o,?_⟩
   cases out with
   |rt U' f=>obtain⟨rfl,rfl⟩:=jS e;exact λv q g l x=>s v g<|qX E0 l n x
   |nx f=>obtain⟨rfl,rfl⟩:=jS e;exact λq g l u=>s .Z4 g<|qX (r:=(.Z4,Tk)) E0 l n ⟨u,Rep.JB⟩
   |bk f=>cases e
   |ct f=>cases e
 cases e
def UP{x qual:ap}{st:aW}{f:jh}{g:nu}{e:jK}{k:Nat}(F:JP K x qual st f g)(S:Z2 N e (jy st))
  (n:∀(d:jr)(A:jF)(a:List c9)(s:jk)(H:Hp)(E:XK)(L:LL),(∀i,L.p i->i<TD e)->YP k (A.deeper<|bi qual (jy st) s.heap.objs.size f d)->
   DP (qW El P w K c base N qual (jy st) f d A a s H E).J2 (λi=>i∈b) L H (mJ st) fs):DF P w K c base El (k+1) f g e (Hj K<|Ae (TD N) (TD e) b fs):=
 F.ok S (λvs H Q E h=>HP h) λd A a s H vs Q E l h=>let⟨L,h1,j⟩:=GD h;⟨_,n d A a s H E L h1 l,j⟩
end
noncomputable def yK(a:Dn):AY->Option (D×Bool)
 |.val r=>Y (r.1,I)
 |.slot i=>(a[i]?).join
def kM(δ:Dn):List AY->Option (List<|D×Bool)
 |[]=>Y []
 |o::os=>(yK δ o).bind λa=>(kM δ os).bind λl=>Y (a::l)
@[simp] def W8(o:AY)(a:D×Bool):List Nat:=match o with
 |.slot i=>if a.2=C then[i]else[]
 |.val _=>[]
noncomputable def kh:List AY->List (D×Bool)->List Nat
 |[],_=>[]
 |_::_,[]=>[]
 |o::os,a::as=>W8 o a++kh os as
@[simp] def wb1(o:AY)(a:D×Bool)(x:Sl)(b:Dn):Dn:=match o with
 |.slot i=>if a.2=C then b.set i x else b
 |.val _=>b
noncomputable def wb:List AY->List (D×Bool)->Dn->Dn->Dn
 |[],_,_,δ=>δ
 |_::_,[],_,δ=>δ
 |_::_,_::_,[],δ=>δ
 |o::os,a::as,x::outs,δ=>wb os as outs<|wb1 o a x δ
def kc(ev:A5)(fs:List FO):F:=λδ=>(lq fs δ).bind λp=>(kM p.2 p.1).bind λargs=>if(kh p.1 args).Nodup then(ev args).bind λq=>Y (q.1,wb p.1 args q.2 p.2)else U
def pY{δ:Dn}:∀{os:List AY}{as:List (D×Bool)},kM δ os=Y as->TD as=os.length/\∀(j:Nat) a,as[j]?=Y a->∃o,os[j]?=Y o/\yK δ o=Y a:=by
 intro k
 induction k with
 |nil=>intro as h;cases h;exact⟨rfl,λj d h=>by simp at h⟩
 |cons o os i=>
  intro as h;unfold kM at h;obtain⟨d,h1,h⟩:=jl h;obtain⟨l,c,h⟩:=jl h;cases h;obtain⟨f,g⟩:=i c;refine⟨by simp[f],λj e b=>?_⟩
  cases j with
  |zero=>simp at b;subst b;exact⟨o,rfl,h1⟩
  |succ j=>obtain⟨m,n,p⟩:=g j e (by simpa using b);exact⟨m,by simpa using n,p⟩
theorem uq:∀{os:List AY}{as:List (D×Bool)}{j i:Nat}{d:D},os[j]?=Y (.slot i)->as[j]?=Y (d,C)->i∈kh os as
 |[],_,_,_,_,h,_=>by simp at h
 |_::_,[],_,_,_,_,h=>by simp at h
 |o::os,(e,b)::as,0,i,d,h1,a=>by simp at h1 a;obtain⟨rfl,rfl⟩:=a;subst h1;simp[kh]
 |o::os,(e,b)::as,j+1,i,d,h1,a=>by
  have c:=uq (os:=os) (as:=as) (j:=j) (i:=i) (d:=d) (by simpa using h1) (by simpa using a)
  cases o with
  |val r=>simpa[kh]using c
  |slot k=>
   cases b
   .simpa[kh]using c
   simp[kh,c]
theorem BF:∀{os:List AY}{as:List (D×Bool)}{i:Nat},i∈kh os as->∃(j:Nat)(d:D),os[j]?=Y (.slot i)/\as[j]?=Y (d,C)
 |[],_,_,h=>by simp[kh]at h
 |o::_,[],_,h=>by cases o<;>simp[kh]at h
 |o::os,(e,b)::as,i,h=>by
  have a:i∈kh os as->∃(j:Nat)(d:D),(o::os)[j]?=Y (.slot i)/\((e,b)::as)[j]?=Y (d,C):=λh=>by obtain⟨j,d,h1,c⟩:=BF h;exact⟨j+1,d,by simpa using h1,by simpa using c⟩
  cases o with
  |val r=>exact a (by simpa[kh]using h)
  |slot k=>
   cases b
   .exact a (by simpa[kh]using h)
   simp[kh]at h;rcases h with rfl|h
   .exact⟨0,e,rfl,rfl⟩
   exact a h
theorem BG:∀{os:List AY}{as:List (D×Bool)}{j k i:Nat}{d e:D},(kh os as).Nodup->os[j]?=Y (.slot i)->as[j]?=Y (d,C)->os[k]?=Y (.slot i)->as[k]?=Y (e,C)->j=k
 |[],_,_,_,_,_,_,_,h,_,_,_=>by simp at h
 |_::_,[],_,_,_,_,_,_,_,h,_,_=>by simp at h
 |o::os,(n,b)::as,j,k,i,d,e,a,h1,c,f,g=>by
  cases j with
  |zero=>
   cases k with
   |zero=>rfl
   |succ k=>simp at h1 c;obtain⟨rfl,rfl⟩:=c;subst h1;have:=uq (os:=os) (as:=as) (j:=k) (by simpa using f) (by simpa using g);simp[kh]at a;exact absurd this a.1
  |succ j=>
   cases k with
   |zero=>simp at f g;obtain⟨rfl,rfl⟩:=g;subst f;have:=uq (os:=os) (as:=as) (j:=j) (by simpa using h1) (by simpa using c);simp[kh]at a;exact absurd this a.1
   |succ k=>
    have l:(kh os as).Nodup:=by
     cases o with
     |val r=>simpa[kh]using a
     |slot m=>
      cases b
      .simpa[kh]using a
      simp[kh]at a;exact a.2
    have:=BG (os:=os) (as:=as) (j:=j) (k:=k) l (by simpa using h1) (by simpa using c) (by simpa using f) (by simpa using g)
    lia
theorem zM:∀{os:List AY}{as:List (D×Bool)}{a δ:Dn}{i:Nat},i∉kh os as->(wb os as a δ)[i]?=δ[i]?
 |[],_,_,_,_,_=>by simp[wb]
 |o::_,[],_,_,_,_=>by cases o<;>simp[wb]
 |o::os,(e,b)::as,[],_,_,_=>by cases o<;>cases b<;>simp[wb]
 |o::os,(e,b)::as,x::a,δ,i,h=>by
  cases o with
  |val r=>simp only[wb];exact zM (by simpa[kh]using h)
  |slot k=>
   cases b with
   |true=>simp[kh]at h;rw[wb,zM h.2];exact nD<|rY h.1
   |false=>simp only[wb];exact zM (by simpa[kh]using h)
theorem zN:∀{os:List AY}{as:List (D×Bool)}{a δ:Dn},(wb os as a δ).length=TD δ
 |[],_,_,_=>by simp[wb]
 |o::_,[],_,_=>by cases o<;>simp[wb]
 |o::os,(e,b)::as,[],_=>by cases o<;>cases b<;>simp[wb]
 |o::os,(e,b)::as,x::a,δ=>by
  cases o with
  |val r=>simp only[wb];exact zN
  |slot k=>
   cases b with
   |true=>simp only[wb];rw[zN];exact sJ
   |false=>simp only[wb];exact zN
theorem HH:∀{os:List AY}{as:List (D×Bool)}{a δ:Dn}{i j:Nat}{d:D}{x:Sl},(kh os as).Nodup->os[j]?=Y (.slot i)->as[j]?=Y (d,C)->a[j]?=Y x->i<TD δ->(wb os as a δ)[i]?=Y x
 |[],_,_,_,_,_,_,_,_,h,_,_,_=>by simp at h
 |o::_,[],_,_,_,_,_,_,_,_,h,_,_=>by simp at h
 |o::os,(e,b)::as,[],_,_,_,_,_,_,_,_,h,_=>by simp at h
 |o::os,(e,b)::as,y::a,δ,i,0,d,x,c,h1,f,g,l=>by simp at h1 f g;obtain⟨rfl,rfl⟩:=f;subst h1;subst g;simp[kh]at c;rw[wb,zM c.1];exact uS l
 |o::os,(e,b)::as,y::a,δ,i,j+1,d,x,c,h1,f,g,l=>by
  have n:(kh os as).Nodup:=by
   cases o with
   |val r=>simpa[kh]using c
   |slot m=>
    cases b
    .simpa[kh]using c
    simp[kh]at c;exact c.2
  cases o with
  |val r=>simp only[wb];exact HH n (by simpa using h1) (by simpa using f) (by simpa using g) l
  |slot k=>
   cases b with
   |true=>simp only[wb];exact HH n (by simpa using h1) (by simpa using f) (by simpa using g) (by show i<(δ.set k y).length;rw[sJ];exact l)
   |false=>simp only[wb];exact HH n (by simpa using h1) (by simpa using f) (by simpa using g) l
section
variable {K:jJ}{T s:Z5}{g:L2.St}{δ c:Dn}{H l m:Hp}{os:List AY}{vs:List V}{args:List (D×Bool)}{f:Dn}{r:D×Bool}{v:V}
noncomputable def Tc(T:Z5)(g:L2.St)(c:Dn)(vs:List V)(args:List (D×Bool)):Z5:=λa=>T a\/(Z8 g c a/\¬Z8 (vs.map Y) (args.map Y) a)
def wG(B:Ops K T g δ H os vs c l s)(p:kM c os=Y args){j:Nat}{d:D}(h:args[j]?=Y (d,C)):∃(i:Nat)(a:jh),os[j]?=Y (.slot i)/\c[i]?=Y (Y (d,C))/\vs[j]?=Y (.ref a)/\g[i]?=Y (Y<|.ref a):=by
 obtain⟨u,q⟩:=pY p;obtain⟨o,h1,b⟩:=q j _ h
 cases o with
 |val r=>cases b
 |slot i=>
  have e:c[i]?=Y (Y (d,C)):=pz b;have t:j<(TD vs):=by have:=(uT.mp h1).1;have:=B.len;lia
  have hv:vs[j]?=Y vs[j]:=km t;have k:=B.slt j i _ h1 hv;obtain⟨a,n,_⟩:=B.er.own i d e;rw[k]at n;have:vs[j]=V.ref a:=by simpa using n
  exact⟨i,a,h1,e,by rw[hv,this],by rw[k,this]⟩
def EB(B:Ops K T g δ H os vs c l s)(n:kM c os=Y args){j:Nat}{a:jh}(h:X0 (vs.map Y) (args.map Y) j a):∃(i:Nat)(d:D),os[j]?=Y (.slot i)/\args[j]?=Y (d,C)/\X0 g c i a:=by obtain⟨d,h1,k⟩:=h;have e:=uy.mp h1;obtain⟨i,b,o,p,q,t⟩:=wG B n e;have:=uy.mp k;rw[q]at this;cases this;exact⟨i,d,o,e,d,p,t⟩
def Iy(B:Ops K T g δ H os vs c l s)(k:kM c os=Y args)(h:Z8 (vs.map Y) (args.map Y) a):Z8 g c a:=by obtain⟨j,d,h1,b⟩:=h;obtain⟨i,_,_,_,e,n,o⟩:=EB B k ⟨d,h1,b⟩;exact⟨i,e,n,o⟩
def wX(E:ER K H T g δ)(B:Ops K T g δ H os vs c l s)(n:kM c os=SI args)(nd:(kh os args).Nodup):ER K l (Tc T g c vs args) (vs.map SI) (args.map SI):=by
 obtain⟨D,U⟩:=pY n
 have sub:∀b,(Z8 (vs.map SI) (args.map SI) b\/Tc T g c vs args b)->Z8 g c b\/T b:=λb z=>by
  rcases z with z|z|z
  .exact .inl (Iy B n z)
  .exact .inr z
  exact .inl z.1
 refine⟨by simp[D,B.len],λj d h=>?_,λj d h=>?_,λj k d e a h1 p u x=>?_,λa z t=>?_,λa z=>?_⟩
 .have h:=uy.mp h;obtain⟨o,h1,p⟩:=U j _ h;have Y:j<(TD vs):=by have:=(uT.mp h1).1;have:=B.len;lia
  have hv:vs[j]?=SI vs[j]:=km Y;refine⟨_,uy.mpr hv,?_⟩
  cases o with
  |val q=>
   have:q.1=d:=by cases p;rfl
   subst this;exact Rep.mono (λ_ _ e _=>e) (λb _ z=>sub b z)<|B.rep E h1 hv
  |slot i=>
   have u:c[i]?=SI (SI (d,Tk)):=pz p;have x:=B.slt j i _ h1 hv;obtain⟨w,O,P⟩:=B.er.val i d u;rw[x]at O;have:vs[j]=w:=by simpa using O
   rw[this];exact Rep.mono (λ_ _ e _=>e) (λb _ z=>(sub b z).imp id<|B.tt b) P
 .obtain⟨i,a,L,y,A,C⟩:=wG B n<|uy.mp h;obtain⟨b,I,N⟩:=B.er.own i d y;rw[C]at I;cases I;exact⟨a,uy.mpr A,N.mono (λ_ _ e _=>e) (λb _ z=>(sub b z).imp id<|B.tt b) λ_ e=>e⟩
 .obtain⟨i,R,L,y,Q,A,C⟩:=EB B n ⟨d,h1,u⟩;obtain⟨F,S,g1,g2,G,J,M⟩:=EB B n ⟨e,p,x⟩;have:=B.er.inj i F Q G a A J C M;subst this;exact BG nd L y g1 g2
 .rcases t with t|t
  .exact B.er.nT a (Iy B n z) (B.tt a t)
  exact t.2 z
 rcases z with z|z
 .exact B.er.dom a (B.tt a z)
 exact B.er.JR z.1
def Jd{T' Y:Z5}(E:ER K H T g δ)(B:Ops K T g δ H os vs c l s)(M:kM c os=SI args)(nd:(kh os args).Nodup)(kC:AW (vs.map SI) (args.map SI) l f m)
  (U:ER K m Y (vs.map SI) f)(t1:∀b,Tc T g c vs args b->Y b)(t2:∀b,T' b->Y b)(t3:∀b,l b≠SS->T' b->T b):
  ER K m T' g (wb os args f c)/\(∀b,Z8 g (wb os args f c) b->Z8 (vs.map SI) f b\/Tc T g c vs args b)/\AW g c l (wb os args f c) m:=by
 obtain⟨hl,hg⟩:=pY M;have ol:(TD f)=(TD args):=by have:=U.len;have:=B.len;simp at*;lia
 have R:∀(i:Nat)(x:Sl),(wb os args f c)[i]?=SI x->(i∉kh os args/\c[i]?=SI x)\/∃(j:Nat)(d:D),os[j]?=SI (.slot i)/\args[j]?=SI (d,Td)/\f[j]?=SI x:=λi x h=>by
  by_cases y:i∈kh os args
  .right;obtain⟨j,d,h1,p⟩:=BF y;have hj:j<(TD f):=by have:=(uT.mp p).1;lia
   have Z:f[j]?=SI f[j]:=km hj;have hi:i<(TD c):=by have:=(uT.mp h).1;rwa [zN]at this
   have:=HH (δ:=c) nd h1 p Z hi;rw[h]at this;cases this;exact⟨j,d,h1,p,Z⟩
  left;rw[zM y]at h;exact⟨y,h⟩
 have C:∀{i:Nat}{a:jh},i∉kh os args->X0 g c i a->¬Z8 (vs.map SI) (args.map SI) a:=λ{i a} y ⟨e,q,A⟩ ⟨j,d,h1,p⟩=>by obtain⟨P,d2,g1,g2,S,Q,g4⟩:=EB B M ⟨d,h1,p⟩;have:=B.er.inj i P e S a q Q A g4;subst this;exact y<|uq g1 g2
 have N:∀i a,X0 g (wb os args f c) i a->X0 g c i a/\(Z8 (vs.map SI) f a\/Tc T g c vs args a):=λi a a'=>by
  obtain⟨d,h1,p⟩:=a'
  rcases R i _ h1 with⟨y,u⟩|⟨j,e,g1,g2,Q⟩
  .exact⟨⟨d,u,p⟩,.inr<|.inr ⟨⟨i,d,u,p⟩,C y ⟨d,u,p⟩⟩⟩
  obtain⟨P,b,q,A,G,I⟩:=wG B M g2;rw[g1]at q;cases q;rw[p]at I;cases I;exact⟨⟨e,A,p⟩,.inl ⟨j,d,Q,uy.mpr G⟩⟩
 have X:∀b,Z8 g (wb os args f c) b->Z8 (vs.map SI) f b\/Tc T g c vs args b:=λb ⟨i,d,h1,p⟩=>(N i b ⟨d,h1,p⟩).2
 have F:∀b,Z8 g (wb os args f c) b->Z8 g c b:=λb a'=>by
  obtain⟨i,d,h1,p⟩:=a'
  obtain⟨⟨e,q,A⟩,_⟩:=N i b ⟨d,h1,p⟩;exact⟨i,e,q,A⟩
 have W:∀a o,l a=SI o->¬Z8 g c a->m a=SI o:=λa o e n=>kC.kp a o e λz=>n<|Iy B M z
 have L:∀b,(Z8 g (wb os args f c) b\/T' b)->Z8 (vs.map SI) f b\/Y b:=λb z=>by
  rcases z with z|z
  .exact(X b z).imp id (t1 b)
  exact .inr (t2 b z)
 refine⟨⟨by rw[zN];exact B.er.len,λi d h=>?_,λi d h=>?_,λi k d e a h1 p u h4=>?_,λa z t=>?_,λa z=>U.dom a<|t2 a z⟩,X,⟨W,λi a z=>(N i a z).1,kC.dm⟩⟩
 .rcases R i _ h with⟨y,u⟩|⟨j,e,g1,g2,Q⟩
  .obtain⟨w,O,J⟩:=B.er.val i d u;exact⟨w,O,Rep.mono (λb o e n=>W b o e λz=>n<|.inl z) (λb V z=>z.imp (F b) λz=>B.tt b<|t3 b V z) J⟩
  obtain⟨P,b,q,A,G,I⟩:=wG B M g2;rw[g1]at q;cases q;obtain⟨w,O,J⟩:=U.val j d Q;have:=uy.mp O;rw[G]at this;cases this;exact⟨_,I,Rep.mono (λ_ _ e _=>e) (λb _ z=>L b z) J⟩
 .rcases R i _ h with⟨y,u⟩|⟨j,e,g1,g2,Q⟩
  .obtain⟨a,O,J⟩:=B.er.own i d u;exact⟨a,O,J.mono (λb o e n=>W b o e λz=>n<|.inl z) (λb V z=>z.imp (F b) λz=>B.tt b<|t3 b V z) λo e=>kC.kp a o e<|C y ⟨d,u,O⟩⟩
  obtain⟨P,b,q,A,G,I⟩:=wG B M g2;rw[g1]at q;cases q;obtain⟨a,O,J⟩:=U.own j d Q;have:=uy.mp O;rw[G]at this;cases this;exact⟨_,I,J.mono (λ_ _ e _=>e) (λb _ z=>L b z) λ_ e=>e⟩
 .obtain⟨⟨e1,q,A⟩,_⟩:=N i a ⟨d,h1,u⟩;obtain⟨⟨S,G,I⟩,_⟩:=N k a ⟨e,p,h4⟩;exact B.er.inj i k e1 S a q G A I
 exact B.er.nT a (F a z) (B.tt a<|t3 a (B.er.Hx<|F a z) t)
def pW(E:ER K H T g δ)(B:Ops K T g δ H os vs c l s)(n:kM c os=Y args)(q:(kh os args).Nodup)(P:A4 K (Tc T g c vs args) (vs.map Y) (args.map Y) l r f v m):
  A4 K T g δ H r (wb os args f c) v m:=by
 obtain⟨d,b⟩:=r
 cases b
 .obtain⟨k,h,w⟩:=P;obtain⟨i,ow,j⟩:=Jd (T':=T) E B n q k h (λ_ z=>z) (λ_ z=>.inl z) λ_ _ z=>z;refine⟨B.keep.trans j,i,Rep.mono (λ_ _ e _=>e) (λb _ z=>?_) w⟩;rcases z with z|z
  .exact ow b z
  exact .inr (.inl z)
 obtain⟨k,p,rfl,o,h,ok⟩:=P;obtain⟨i,ow,j⟩:=Jd (T':=λa=>T a\/a=p) E B n q k h (λ_ z=>.inl z) (λb z=>z.elim (λz=>.inl (.inl z)) .inr) (λb u z=>z.elim id λz=>by subst z;exact absurd o u);refine⟨B.keep.trans j,p,rfl,?_,i,ok.mono (λ_ _ e _=>e) (λb _ z=>?_) λ_ e=>e⟩
 .cases t:H p with
  |none=>rfl
  |some x=>exact absurd o<|B.keep.dm p (by rw[t];simp)
 rcases z with z|z|z
 .exact(ow b z).imp id .inl
 .exact .inr (.inl<|.inl z)
 exact .inr (.inr z)
end
section
variable {X:Cx}{e:jv}{b:lg}{fs:List FO}{a p:bt}{k:Nat}{f:jh}{g:nu}{d:jK}{c:A5}{x:ap}
def PH(F:DF X.prog X.w X.K X.mg X.base El k f g d (Hj X.K c))(L:YP k X.A)(C:Gl X x)(I:X.mg x=SI (.ref f))(hk:cg X.K (.ref f)=Td)(y:Binds X.K g d [])
  (u:PA X (e::b) (tA X.K fs))(G:(x==("__debug__":ap))=Tk)(z:ac (e::b) X.env=(Tk,aY e X.env)::ac b X.env)(s:(aV a<|ac b X.env).any (·.1)=Tk):
  PX X (.Call (.Name x p) (e::b) [] a) (kc c fs):=PX.imp (Qh F L C I hk y (.nil) RY u G z s) λN H Q O=>by
 obtain⟨J,T,Y,M,E,e,k⟩:=O;obtain⟨os,j,h1,e⟩:=jw e;obtain⟨h,l,e⟩:=jl e;dsimp only at e;split at e
 .rename_i m;obtain⟨r,i,t,e⟩:=jw e;obtain⟨rfl,rfl⟩:=jS e;refine⟨J,T,os,j,E,h1,λn q U B=>?_⟩;show Hj X.K c (n++[]) q Q E0;rw[sX];exact⟨Tc T N j n h,h,r,i,wX E B l m,t,λv o P=>k v o<|pW E B l m P⟩
 cases e
end
structure Js(A:kE)(d:jh)(σ:L2.St)(δ:Dn)(H:Hp)(σ':L2.St)(δ':Dn)(H':Hp):Prop where
 kp:∀a o,H a=SI o->¬Z8 σ δ a->a≠d->H' a=SI o
 owi:∀i a,X0 σ' δ' i a->X0 σ δ i a\/H a=SS\/(A i/\∃j,A j/\X0 σ δ j a)
 dm:∀a,H a≠SS->H' a≠SS
 as:∀i,¬A i->σ'[i]?=σ[i]?
section
variable {A:kE}{d:jh}{c b f:L2.St}{δ δ1 δ2:Dn}{H g l:Hp}
def SK.L5(k:SK A c δ H b δ1 g):Js A d c δ H b δ1 g:=⟨λa o e n _=>k.kp a o e n,k.owi,k.dm,k.as⟩
def Js.ow(k:Js A d c δ H b δ1 g)(a:jh)(h:Z8 b δ1 a):Z8 c δ a\/H a=U:=by
 obtain⟨i,e,h1,o⟩:=h;rcases k.owi i a ⟨e,h1,o⟩with⟨e,m,n⟩|z|⟨_,j,_,e,m,n⟩
 .exact .inl ⟨i,e,m,n⟩
 .exact .inr z
 exact .inl ⟨j,e,m,n⟩
def Js.trans(x:Js A d c δ H b δ1 g)(y:Js A d b δ1 g f δ2 l):Js A d c δ H f δ2 l where
 kp:=λa o e n p=>y.kp a o (x.kp a o e n p) (λz=>(x.ow a z).elim n λz=>by rw[z]at e;cases e) p
 owi:=λi a z=>(y.owi i a z).elim (x.owi i a) λz=>z.elim (λz=>.inr (.inl (by
  cases h:H a with
  |none=>rfl
  |some o=>exact absurd z<|x.dm a<|by rw[h];simp))) λ⟨m,j,q,z⟩=>(x.owi j a z).elim (λz=>.inr (.inr ⟨m,j,q,z⟩)) λz=>z.elim (λz=>.inr (.inl z)) λ⟨_,k,ak,z⟩=>.inr (.inr ⟨m,k,ak,z⟩)
 dm:=λa z=>y.dm a<|x.dm a z
 as:=λi h=>(y.as i h).trans<|x.as i h
end
noncomputable def Pq(p:(Int->Bool)×Nat)(d:D):(Int->Bool)×Nat:=match d with
 |.int k=>(λa=>p.1 a||decide (a=k),if p.1 k then p.2 else p.2+1)
 |_=>p
def Jx(l:List D):(Int->Bool)×Nat:=l.foldl Pq (λ_=>I,0)
def AtD(S:Option Bool)(K:jJ)(H:Hp)(O:Z5)(d:jh)(a:List D):Prop:=match S with
 |some I=>∃c,H d=Y (.lst c)/\Z9 K H O a c
 |some C=>H d=Y (.set (Jx a).1 (Jx a).2)
 |none=>∃b,Bf K (H d) .set [] a b/\Z9 K H O a b
structure BS(S:Option Bool)(K:jJ)(d:jh)(T:Z5)(σ:L2.St)(δ:Dn)(acc:List D)(H:Hp):Prop where
 er:ER K H T σ δ
 td:T d
 at':AtD S K H (λa=>Z8 σ δ a\/T a) d acc
abbrev FB:=List D->Dn->Option (List D×Dn)
inductive JV(S:Option Bool)(K:jJ)(A:kE)(d:jh)(f:FB)(σ:L2.St)(H:Hp)(N:L2.St->Hp->Prop):Prop where
 |mk (δ:Dn) (T:Z5) (acc j6:List D) (δ':Dn) (_:BS S K d T σ δ acc H) (_:f acc δ=SI (j6,δ')) (_:∀σ' H',Js A d σ δ H σ' δ' H'->BS S K d T σ' δ' j6 H'->N σ' H')
noncomputable def lb(f:F):FB:=λa δ=>(f δ).bind λp=>if (TD a)<sizeLine then Y (a++[p.1.1],p.2)else U
noncomputable def lD(tg:Tg)(ti:FT)(fb:FB):List D->FB
 |[],acc,a=>Y (acc,a)
 |x::xs,acc,a=>(tg x a).bind λδ1=>(ti δ1).bind λp=>(if p.1=C then fb acc p.2 else Y (acc,p.2)).bind λq=>lD tg ti fb xs q.1 q.2
def OA(c:DK)(d:Tg)(ti:FT)(b:FB):FB:=λa e=>(c e).bind λp=>lD d ti b p.1 a p.2
section
variable {K:jJ}{A:kE}{d:jh}{T:Z5}{f r:L2.St}{j s:Dn}{p:List D}{H q:Hp}
def BS.step(b:BS S K d T f j p H)(k:SK A f j H r s q)(t:ER K q T r s):BS S K d T r s p q:=by
 refine⟨t,b.td,?_⟩;have h:=b.at'
 have m:∀{l:List D}{i:List V},Z9 K H (λa=>Z8 f j a\/T a) l i->Z9 K q (λa=>Z8 r s a\/T a) l i:=λg=>by
  refine Z9.mono (λb o e n=>k.kp b o e λz=>n<|.inl z) (λc u z=>?_) g;rcases z with z|z
  .exact(k.ow c z).elim bf λz=>absurd z u
  exact .inr z
 rcases S with _|_|_
 .obtain⟨v,h1,g⟩:=h;exact⟨v,h1.keep λo e=>k.kp d o e λz=>b.er.nT d z b.td,m g⟩
 .obtain⟨i,h1,g⟩:=h;exact⟨i,k.kp d _ h1 λz=>b.er.nT d z b.td,m g⟩
 exact k.kp d _ h λz=>b.er.nT d z b.td
def Im(hg:∀v f H Q,tG K A tg v f H Q->g v f H Q)(hi:∀f H Q,tT K ft f H Q->ti f H Q)(hb:∀f H N,JV S K A d fb f H N->tb f H N)
  (b:BS S K d T f j p H)(P O:Z5)(ok:Ju K J' ds P O q)(s1:∀a o,q a=Y o->¬P a->H a=Y o)(s0:∀a,q a≠SS->Z8 f j a\/a=d->P a)(s2:∀a,q a≠SS->(Z8 f j a\/T a)->O a)(s3:∀a,q a≠SS->H a≠SS)(e:lD tg ft fb ds p j=Y (j6,B))
  (k:∀E t,Js A d f j H E B t->BS S K d T E B j6 t->N E t):HL J' g ti tb f H N:=by
 refine⟨λi m l w=>m=TD ds-i/\i<=TD ds/\∃h G,Js A d f j H l h w/\BS S K d T l h G w/\lD tg ft fb (ds.drop i) G h=Y (j6,B),⟨TD ds,by simp,mw _,j,p,SK.refl.L5,b,by simpa using e⟩,?_⟩;rintro i m l w ⟨rfl,hle,h,G,Y',I',e2⟩
 have hO:∀a,q a≠SS->(Z8 l h a\/T a)->O a:=λa W z=>by
  rcases z with z|z
  .exact(Y'.ow a z).elim (λz=>s2 a W<|.inl z) λz=>absurd z<|s3 a W
  exact s2 a W (.inr z)
 have aU:∀a o,q a=Y o->¬P a->w a=Y o:=λa o V n=>Y'.kp a o (s1 a o V n) (λz=>n<|s0 a (by rw[V];simp)<|.inl z) λz=>n<|s0 a (by rw[V];simp)<|.inr z;by_cases F:i<TD ds
 .refine .inr ?_;have hd:ds[i]?=Y ds[i]:=km F;obtain⟨go,yl⟩:=ok.go i _ w hd aU;rw[zD F]at e2;obtain⟨C,h3,e3⟩:=jl e2;obtain⟨c,u,h4,e4⟩:=jw e3;obtain⟨y,M,D,e5⟩:=jw e4;refine⟨go,λx t hy=>?_⟩;obtain⟨ext,rep⟩:=yl x t hy;have gm:ER K t T l h:=I'.er.mono (λb ob eb _=>ext b ob eb) (λ_ _ z=>z) λa z=>(I'.er.dom a z).up<|ext a;have SX:SK A l h w l h t:=(AW.ext ext).sk;have R:=I'.step SX gm;have ja:Js A d f j H l h t:=Y'.trans SX.L5;have rx:=rep (λa=>Z8 l h a\/T a) hO λb hb z=>z.elim (λz=>I'.er.Hx z hb) λz=>(I'.er.dom b z).ne hb;refine hg _ _ _ _ ⟨h,T,ds[i],C,gm,rx,h3,λU S3 Z=>?_⟩;have B3:=R.step S3 Z;have dN:=ja.trans S3.L5;refine hi _ _ _ ⟨C,T,c,u,Z,h4,λH4 K4 E4=>?_⟩;have S4:SK A U C t U u H4:=K4.sk;have X:=B3.step S4 E4;have L:=dN.trans S4.L5
  cases c with
  |false=>rw[jP lQ]at D;obtain⟨rfl,rfl⟩:=jS D;exact Xh ⟨TD ds-(i+1),by lia,rfl,F,u,G,L,X,e5⟩
  |true=>rw[jz J]at D;exact Xg<|hb _ _ _ ⟨u,T,G,y,M,X,D,λσ5 H5 S5 B5=>⟨TD ds-(i+1),by lia,rfl,F,M,y,L.trans S5,B5,e5⟩⟩
 refine .inl ⟨ok.stop i w (by lia) aU,?_⟩;rw[zC<|by lia]at e2;obtain⟨rfl,rfl⟩:=jS e2;exact k l w Y' I'
end
section
variable {X:Cx}{A:kE}{d:jh}{b:jv}{f:F}
def PB.imp'{code:dc Unit}{t e:TB}(h:PB X code t)(k:∀c H N,e c H N->t c H N):PB X code e:=λa s c H N T g=>h a s c H N T<|k c H N g
def Qi{S:Option Bool}{e:jv}{depth:Nat}{c:pD}{r:DK}{u:Tg}{s:FT}{q:FB}(M:X.xe=λ_ _=>False)(hc:X.calm=Td)
  (hl:(∃b g l p,e=.ListComp b g l p)\/(∃b g l p,e=.SetComp b g l p))(hg:(bT e)[depth+1]?=SI c)(Y:c.is_async=0)(l4:∀t,(bT e)[depth+1+1]?=SI t->t.is_async=0)
  (hs:∀x,ax c.iter X.env x=pure x)(pi:Kv X (λ_=>False) c.target c.iter r)(pg:Kw X A c.target u)(G:Jy X c.ifs (tT X.K s))(pb:PB X (kK e (depth+1) (.ref d) X.env) (JV S X.K A d q)):
  PB X (kK e depth (.ref d) X.env) (JV S X.K A d<|OA r u s q):=PB.imp' (Ul M hc hl hg Y l4 hs pi pg G pb) λw H N D=>by
 obtain⟨v,T,Q,P,F,B,e,k⟩:=D;obtain⟨U,j,h1,e⟩:=jw e;refine⟨v,T,U,j,B.er,h1,λJ I L C ok=>?_⟩;have n:SK A w v H w j I:=L.sk;exact Im (λ_ _ _ _ h=>h) (λ_ _ _ h=>h) (λ_ _ _ h=>h) (B.step n C) _ _ ok (λa o e _=>e) (λa _ z=>z.elim (λa'=>by obtain⟨i,x,z⟩:=a';exact .inl ⟨i,id,x,z⟩) λz=>.inr (z▸B.td)) (λa _ z=>z) (λa z=>z) e λm E O y=>k m E (n.L5.trans O) y
end
def kJ(caps:kz)(k:Nat)(fi:DK)(b:Tg)(ti:FT)(a:FB):F:=λδ=>(fi δ).bind λp=>(kM p.2<|caps.map .slot).bind λargs=>if(kh (caps.map .slot) args).Nodup then(lD b ti a p.1 []<|args.map Y++af k U).bind λq=>Y ((.lst q.1,C),wb (caps.map .slot) args (kR args q.2) p.2)else U
noncomputable def yP(a:kz)(k:Nat)(b:L2.St):L2.St:=(a.map λj=>(b[j]?).join)++af k U
def o0(S:Option Bool):HO:=match S with
 |some I=>.lst []
 |some C=>.set (λ_=>I) 0
 |none=>.Z6 []
noncomputable def qS(S:Option Bool)(Q:VK):VK:=match S with
 |some I|none=>Q
 |some C=>λx b=>∃S n,∃a,x=.ref a/\b a=Y (.set S n)/\Q (.int n) b
def rS(S:Option Bool)(a:List D):D×Bool:=match S with
 |some I=>(.lst a,C)
 |none=>(.Z3 .set [] a,C)
 |some C=>(.int (Jx a).2,I)
def Hf(S:Option Bool)(b:kz)(k:Nat)(d:DK)(e:Tg)(f:FT)(c:FB):F:=λg=>(d g).bind λp=>(kM p.2<|b.map .slot).bind λa=>if(kh (b.map .slot) a).Nodup then(lD e f c p.1 []<|a.map Y++af k U).bind λq=>Y (rS S q.1,wb (b.map .slot) a (kR a q.2) p.2)else U
def B6{S:Option Bool}{K:jJ}{f:kz}{k:Nat}{fi:DK}{tg:Tg}{ti:FT}{fb:FB}{p:L2.St}{H:Hp}{Q:VK}(h:tF K (Hf S f k fi tg ti fb) p H Q):
  tI K (λi=>i∉f) fi p H λJ' q=>HM (o0 S) J' (tG K (λi=>TD f<=i) tg) (tT K ti) (λd=>JV S K (λi=>TD f<=i) d fb) (yP f k) p q (qS S Q):=by
 obtain⟨δ,T,rr,δr,E,e,kq⟩:=h;obtain⟨ds,s,h1,e⟩:=jw e;obtain⟨g,t,e⟩:=jl e;dsimp only at e t;split at e
 case isFalse=>cases e
 rename_i Y;obtain⟨m,δ',h2,e⟩:=jw e;obtain⟨rfl,rfl⟩:=jS e;refine⟨δ,T,ds,s,E,h1,λJ' q D A ok d hd=>?_⟩;obtain⟨hl,hg⟩:=pY t;have cB:(TD g)=(TD f):=by simpa using hl
 let C:List V:=f.map λj=>((p[j]?).join).getD .Z4
 have there:∀(i j:Nat),f[i]?=SI j->∃v,p[j]?=SI (SI v):=λi j l=>by
  have hi:i<(TD g):=by have:=(uT.mp l).1;lia
  obtain⟨o,u,q2⟩:=hg i _ (km hi);rw[lh,l]at u;cases u;have O:=pz q2;generalize g[i]=y at O;obtain⟨x,b⟩:=y
  cases b
  .obtain⟨v,h,_⟩:=A.val j x O;exact⟨v,h⟩
  obtain⟨a,h,_⟩:=A.own j x O;exact⟨_,h⟩
 have X:∀(i j:Nat),f[i]?=SI j->∃v,C[i]?=SI v/\p[j]?=SI (SI v):=λi j l=>by obtain⟨v,hv⟩:=there i j l;refine⟨v,?_,hv⟩;show(f.map λj=>((p[j]?).join).getD .Z4)[i]?=SI v;rw[lh,l];simp[hv]
 have r6:yP f k p=C.map SI++af k SS:=by
  unfold yP
  congr 1
  apply zA;intro i;show _=((f.map λj=>((p[j]?).join).getD .Z4).map SI)[i]?;rw[lh,lh,lh]
  cases l:f[i]? with
  |none=>rfl
  |some j=>obtain⟨v,hv⟩:=there i j l;simp[hv]
 have I:Ops K T p s q (f.map AY.slot) C s q T:=by
  refine⟨by simp[C],.refl,A,λ_ z=>z,λj x v l=>?_,λj x v l=>?_,λj i v l hv=>?_⟩
  .rw[lh]at l;obtain⟨_,_,z⟩:=jX l;cases z
  .rw[lh]at l;obtain⟨_,_,z⟩:=jX l;cases z
  rw[lh]at l;obtain⟨c,W,z⟩:=jX l;cases z;obtain⟨v',u,q2⟩:=X j i W;rw[hv]at u;cases u;exact q2
 have L:=wX A I t Y
 have R:∀(i:Nat) x,g[i]?=SI (x,Td)->¬(TD f<=i):=λi x B=>by
  have:=(uT.mp B).1
  lia
 rw[r6];have B:=ly (o:=o0 S) hd
 have nz:∀a,q a≠SS->upd q d (o0 S) a≠SS:=λa z=>by
  cases U:q a with
  |none=>exact absurd U z
  |some o=>rw[B a o U];simp
 have b0:BS S K d (λa=>Tc T p s C g a\/a=d) (C.map SI++af k SS) (g.map SI++af k SS) [] (upd q d<|o0 S):=by
  refine⟨(L.pad).mono (λb o eb _=>B b o eb) (λb hb z=>z.elim id λz=>by subst z;exact absurd hd hb) λa z=>?_,.inr J,?_⟩
  .rcases z with z|z
   .exact(L.dom a z).up (B a)
   subst z;rw[jL];rcases S with _|_|_<;>trivial
  rcases S with _|_|_
  .exact⟨[],⟨rfl,[],jL,.nil⟩,Z9.nil⟩
  .exact⟨[],jL,Z9.nil⟩
  exact jL
 refine Im (λ_ _ _ _ h=>h) (λ_ _ _ h=>h) (λ_ _ _ h=>h) b0 _ _ ok (λa o N _=>B a o N) (λa iL z=>?_) (λa iL z=>?_) nz h2 λσ' G M w=>?_
 .rcases z with z|z
  .obtain⟨j,x,g1,g2⟩:=MV.mp z;obtain⟨i,_,u,_,O⟩:=EB I t ⟨x,g1,g2⟩;refine .inl ⟨i,λn=>n ?_,O⟩;rw[lh]at u;obtain⟨c,W,e⟩:=jX u;cases e;exact lX W
  subst z;exact absurd hd iL
 .rcases z with z|z|z
  .exact .inl (Iy I t<|MV.mp z)
  .rcases z with z|z
   .exact .inr z
   exact .inl z.1
  subst z;exact absurd hd iL
 have F:SK (λi=>TD f<=i) (C.map SI++af k SS) (g.map SI++af k SS) q σ' δ' G:=
  ⟨λa o N n=>M.kp a o (B a o N) n (by intro z;subst z;rw[N]at hd;cases hd),λi a z=>(M.owi i a z).imp id λz=>z.imp (λz=>by
   cases U:q a with
   |none=>rfl
   |some o=>exact absurd z<|nz a<|by rw[U];simp) id,λa z=>M.dm a<|nz a z,M.as⟩
 rcases S with _|_|_
 .obtain⟨us,Z,ry⟩:=w.at';have P:=qX (r:=(.Z3 .set [] m,Td)) (v:=.ref d) L F R ⟨d,rfl,hd,w.er,us,Z,Z9.mono (λ_ _ e _=>e) (λb _ z=>z) ry⟩;exact kq (.ref d) G<|(pW A I t Y P).pre D
 .obtain⟨ys,Z,ry⟩:=w.at';have P:=qX (r:=(.lst m,Td)) (v:=.ref d) L F R ⟨d,rfl,hd,w.er,ys,Z,Z9.mono (λ_ _ e _=>e) (λb _ z=>z) ry⟩;exact kq (.ref d) G<|(pW A I t Y P).pre D
 have P:=qX (r:=(.int (Jx m).2,Tk)) (v:=.int (Jx m).2) L F R ⟨w.er.mono (λ_ _ e _=>e) (λb _ z=>.inl z) λa z=>w.er.dom a<|.inl z,Rep.mkInt⟩;exact⟨_,_,d,rfl,w.at',kq (.int (Jx m).2) G<|(pW A I t Y P).pre D⟩
def EZ{K:jJ}{a:kz}{k:Nat}{c:DK}{e:Tg}{ti:FT}{b:FB}{f:L2.St}{H:Hp}{Q:VK}(h:tF K (kJ a k c e ti b) f H Q):
  RL (tI K (λi=>i∉a) c) (tG K (λi=>TD a<=i) e) (tT K ti) (λd=>JV I K (λi=>TD a<=i) d b) (yP a k) f H Q:=B6 (S:=I) h
section
variable {X:Cx}{elt:jv}{c:pD}{rest:pZ}{scope:kb}{pos i4 py:bt}{N':jK}{caps:kz}{k:Nat}{fi:DK}{tg:Tg}{ti:FT}{fb:FB}{A:kE}{L:LL}{H0:Hp}
structure DH(X:Cx)(N':jK)(scope:kb)(caps:kz)(k:Nat):Prop where
 cell:∀y∈scope.names,y.2=.cell->scope.names.lookup y.1=SI .cell
 kind:scope.kind=.function
 names:∀y∈scope.names,y.2=.local->scope.names.lookup y.1=SI .local
 free:∀y∈scope.names,y.2=.free->X.env.scope.names.lookup y.1=SI .cell\/X.env.scope.names.lookup y.1=SI .free
 len:(TD caps)+k=TD N'
 caps:∀(i j:Nat)(x:ap),caps[i]?=SI j->N'[i]?=SI x->X.N[j]?=SI x/\scope.names.lookup x=SI .free
def DH.M7(T:DH X N' scope caps k):C8 X N' scope (yP caps k):=by
 refine⟨T.cell,T.kind,T.names,T.free,λd=>by simp[yP,T.len],λd i v x h1 f=>?_⟩;unfold yP at h1;by_cases b:i<TD caps
 .rw[qc<|by simpa using b,lh,km b]at h1;obtain⟨g,h⟩:=T.caps i caps[i] x (km b) f;refine⟨h,caps[i],g,?_⟩;have a:(d[caps[i]]?).join=Y v:=by simpa using h1
  cases e:d[caps[i]]? with
  |none=>rw[e]at a;cases a
  |some y=>rw[e]at a;exact nC Y a
 rw[pJ<|by simpa using b,CS]at h1;split at h1<;>cases h1
def PM(T:DH X N' scope caps k)(l:X.calm=C)(j:c.is_async=0)(n:∀e,rest[0]?=Y e->e.is_async=0)
  (m:∀x,ax c.iter X.env x=pure x)(p:Kv X (λi=>i∉caps) c.target c.iter fi)
  (r:∀(cl:kL)(T:jh)(q:jk)(f:Hp)(fp:lG)(a:kf),let b:=X.comp N' scope cl T q f fp a
   Kw b (λi=>TD caps<=i) c.target tg/\Jy b c.ifs (tT X.K ti)/\∀d,PB b (kK (.ListComp elt (c::rest) scope pos) 0 (.ref d) b.env)<|JV I X.K (λi=>TD caps<=i) d fb):
  PX X (.ListComp elt (c::rest) scope pos) (kJ caps k fi tg ti fb):=PX.imp (Ib (o:=.lst []) (fp:=c.iter.pos) (new:=s8 []) (g:=tG X.K (λi=>TD caps<=i) tg) (ti:=tT X.K ti) (tb:=λd=>JV I X.K (λi=>TD caps<=i) d fb) T.M7 l j n m p r (λ_ _ _ k=>oy<|k _ λ_=>⟨mw _,[],0,.nil,kW _ rfl⟩) (.inl ⟨_,_,_,_,rfl⟩) (hev:=by cases c;rfl)) λs H Q h=>EZ h
def adz{y:ap}{i:Nat}(m:cI (.ListComp elt (c::rest) scope pos) (Y<|.Name y py) i4.line X.env=pure Td)
  (C:DH X N' scope caps k)(u:X.calm=Td)(t:c.is_async=0)(N:∀h,rest[0]?=Y h->h.is_async=0)
  (z:∀x,ax c.iter X.env x=pure x)(O:Kv X (λi=>i∉caps) c.target c.iter fi)(o:PG X (.Name y py) (EL i))(s:A i)
  (G:∀(cl:kL)(C:jh)(Q:jk)(l:Hp)(n:lG)(a:kf),let b:=X.comp N' scope cl C Q l n a
   Kw b (λi=>TD caps<=i) c.target tg/\Jy b c.ifs (tT X.K ti)/\∀d,PB b (kK (.ListComp elt (c::rest) scope pos) 0 (.ref d) b.env)<|JV I X.K (λi=>TD caps<=i) d fb):
  LZ X A L H0 (.Assign [.Name y py] (.ListComp elt (c::rest) scope pos) i4) (lE i<|kJ caps k fi tg ti fb):=PS.imp' (ac4 (g:=tG X.K (λi=>TD caps<=i) tg) (ti:=tT X.K ti) (tb:=λd=>JV I X.K (λi=>TD caps<=i) d fb) m C.M7 u t N z O o G) λD M H B=>by
 obtain⟨J,T,out,E,fi,e,k⟩:=B;obtain⟨r,f,q,e⟩:=jw e;obtain⟨w,rfl⟩:=jM e;refine EZ ⟨J,T,r,f,E,q,λv j P=>?_⟩;obtain⟨h1,p⟩:=wx (A:=A) E P w s;exact k _ j h1 p
end
section
variable {K:jJ}{T:Z5}{d:L2.St}{c:Dn}{H:Hp}{i:Nat}{l m:List D}{a:jh}{g:List V}
def X0.Dd{j:Nat}{b:jh}(hd:c[i]?=Y (Y (k,C)))(h:X0 d (c.set i<|Y (d',C)) j b):X0 d c j b:=by
 obtain⟨e,h1,f⟩:=h;rcases om h1 with⟨rfl,_,_⟩|⟨_,q⟩
 .exact⟨_,hd,f⟩
 exact⟨e,q,f⟩
def ER.Dd(E:ER K H T d c)(hd:c[i]?=SI (SI (U',Td)))(t:d[i]?=SI (SI<|.ref a))(r:Ag K (upd H a o) (λb=>Z8 d c b\/T b) d' a):
  ER K (upd H a o) T d (c.set i<|SI (d',Td))/\AW d c H (c.set i<|SI (d',Td)) (upd H a o):=by
 have Y:i<(TD c):=(uT.mp hd).1;have v:Z8 d c a:=⟨i,_,hd,t⟩
 have B:∀b,Z8 d (c.set i<|SI (d',Td)) b->Z8 d c b:=λb a'=>by
  obtain⟨j,e,h1,s⟩:=a'
  obtain⟨O,x,y⟩:=X0.Dd hd ⟨e,h1,s⟩;exact⟨j,O,x,y⟩
 have I:∀b u,H b=SI u->¬(Z8 d c b\/T b)->upd H a o b=SI u:=λb u e n=>by rw[ke<|by intro z;subst z;exact n<|.inl v];exact e
 have L:∀b,H b≠U->upd H a o b≠U:=λb z=>by
  by_cases C:b=a
  .subst C;rw[jL];simp
  rw[ke C];exact z
 have sub:∀b,(Z8 d (c.set i<|SI (d',Td)) b\/T b)->Z8 d c b\/T b:=λb z=>z.imp (B b) id;refine⟨⟨by rw[sJ];exact E.len,λj e h=>?_,λj e h=>?_,λj k e f b h hk h1 s=>?_,λb z=>E.nT b<|B b z,λb z=>by have ne:b≠a:=λe=>E.nT a v<|e▸z;rw[ke ne];exact E.dom b z⟩,⟨λb u e n=>by rw[ke<|by intro z;subst z;exact n v];exact e,λj b z=>X0.Dd hd z,L⟩⟩
 .rcases om h with⟨_,_,q⟩|⟨_,q⟩
  .cases q
  obtain⟨w,p,A⟩:=E.val j e q;exact⟨w,p,Rep.mono I (λb _ z=>sub b z) A⟩
 .rcases om h with⟨rfl,_,q⟩|⟨ne,q⟩
  .cases q;exact⟨a,t,r.mono (λ_ _ e _=>e) (λb _ z=>sub b z) λ_ e=>e⟩
  obtain⟨b,p,A⟩:=E.own j e q;refine⟨b,p,A.mono I (λb _ z=>sub b z) λu J=>?_⟩;rw[ke]
  .exact J
  intro z;subst z;exact ne<|E.inj i j _ _ _ hd q t p
 obtain⟨Q,x,y⟩:=X0.Dd hd ⟨e,h,h1⟩;obtain⟨G,M,N⟩:=X0.Dd hd ⟨f,hk,s⟩;exact E.inj j k Q G b x M y N
def ER.write(E:ER K H T d c)(hd:c[i]?=Y (Y (.lst l,C)))(f:d[i]?=Y (Y<|.ref a))(r:Z9 K H (λb=>Z8 d c b\/T b) m g):
  ER K (upd H a<|.lst g) T d (c.set i<|Y (.lst m,C))/\AW d c H (c.set i<|Y (.lst m,C)) (upd H a<|.lst g):=
 E.Dd hd f ⟨g,jL,Z9.mono (λb o e n=>by rw[ke<|by intro z;subst z;exact n<|.inl ⟨i,_,hd,f⟩];exact e) (λ_ _ z=>z) r⟩
end
noncomputable def mH(i:Nat)(f:F):F:=λa=>match a[i]? with
 |some (Y (.lst _,C))=>(f a).bind λp=>match p.2[i]? with
  |some (Y (.lst l,C))=>if (TD l)<sizeLine then Y ((.Z4,I),p.2.set i<|Y (.lst<|l++[p.1.1],C))else U
  |_=>U
 |_=>U
def Az(i:Nat)(f:FO):F:=λa=>match a[i]? with
 |some (Y (.lst _,C))=>(f a).bind λp=>match res p.2 p.1,p.2[i]? with
  |some (.int k),Y (Y (.lst l,C))=>if -(2^63)<=k/\k<2^63 then(J3 (TD l) k).bind λj=>(l[j]?).bind λd=>Y ((d,I),p.2.set i<|Y (.lst<|l.eraseIdx j,C))else U
  |_,_=>U
 |_=>U
def zR(i:Nat)(f:F)(g:FO):FS:=λa=>(f a).bind λp=>match p.2[i]? with
 |some (Y _)=>(g p.2).bind λq=>match res q.2 q.1,q.2[i]? with
  |some (.int k),Y (Y (.lst l,C))=>(J3 (TD l) k).bind λj=>Y<|.nx<|q.2.set i<|Y (.lst<|l.set j p.1.1,C)
  |_,_=>U
 |_=>U
section
variable {X:Cx}{e c:jv}{f:F}{k:FO}{b m a g:bt}{i:Nat}{x:ap}{A:kE}{L:LL}{n:Hp}
theorem Z9.erase{K H}{O:Z5}:∀{l:List D}{o:List V}(j:Nat),Z9 K H O l o->Z9 K H O (l.eraseIdx j) (o.eraseIdx j)
 |[],o,j,h=>by rw[Z9]at h;subst h;simp[Z9]
 |d::l,o,0,h=>by rw[Z9]at h;obtain⟨v,r,rfl,h1,p⟩:=h;exact p
 |d::l,o,j+1,h=>by rw[Z9]at h;obtain⟨v,r,rfl,h1,p⟩:=h;exact Z9.cons h1<|Z9.erase j p
end
noncomputable def Tp(b:Tg)(f:F):FS:=λc=>(f c).bind λp=>(b p.1.1 p.2).bind λa=>Y<|.nx a
section
variable {X:Cx}{A:kE}{L:LL}{m:Hp}{a b d e:jv}{fs:List F}{f:F}{t:Tg}{c k h pt l:bt}{x y:ap}{i j:Nat}{kt k2}
def PQ{id:String}{p:bt}{n:lg}{o:List FO}{g:List D->Option (D×Bool)}{z:ap}(s:lr X (.builtin id) (GF X.K g))(v:Gl X z)(w:X.mg z=U)(hv:av z=Y (.builtin id))(r:PA X (e::n) (tA X.K o))(B:z≠"__name__")(T:(z==("__debug__":ap))=I)
  (u:ac (e::n) X.env=(I,aY e X.env)::ac n X.env)(q:(aV c<|ac n X.env).any (·.1)=I):PX X (.Call (.Name z p) (e::n) [] c) (jT g o):=pxn<|Aa s v w hv r B T u q
def C7{id:String}{p:bt}{n:lg}{o:List FO}{g:List D->Option (D×Bool)}{z:ap}(s:lr X (.type id) (GF X.K g))(v:Gl X z)(w:X.mg z=U)(hv:av z=Y (.type id))(r:PA X (e::n) (tA X.K o))(B:z≠"__name__")(T:(z==("__debug__":ap))=I)
  (u:ac (e::n) X.env=(I,aY e X.env)::ac n X.env)(q:(aV c<|ac n X.env).any (·.1)=I):PX X (.Call (.Name z p) (e::n) [] c) (jT g o):=pxn<|nh s v w hv r B T u q
end
def Vd:av "abs"=Y (.builtin "abs"):=by decide+kernel
noncomputable def uD(N:jK)(c scope:kb)(b:jK)(a:kz)(k:Nat):Bool:=
 (scope.names.all λy=>y.2 != .cell||scope.names.lookup y.1==Y .cell)&&decide (scope.kind=.function)&&(scope.names.all λy=>y.2 != .local||scope.names.lookup y.1==Y .local)&&
 (scope.names.all λy=>y.2 != .free||(c.names.lookup y.1==Y .cell||c.names.lookup y.1==Y .free))&&decide (TD a+k=TD b)&&
 ((a.zip b).all λp=>N[p.1]?==Y p.2&&scope.names.lookup p.2==Y .free)
def DD(n:X.N=N)(q:X.env.scope=sc)(h:uD N sc scope c a k=C):DH X c scope a k:=by
 subst n;subst q;unfold uD at h;simp only[nN,mZ,vA]at h;obtain⟨⟨⟨⟨⟨h1,d⟩,f⟩,g⟩,l⟩,m⟩:=h;refine⟨λy b e=>?_,d,λy b e=>?_,λy b e=>?_,l,λi j x o r=>?_⟩
 .have:=h1 y b;rw[e]at this;simpa using this
 .have:=f y b;rw[e]at this;simpa using this
 .have:=g y b;rw[e]at this;simpa using this
 have p:(j,x)∈a.zip c:=by
  have:(a.zip c)[i]?=Y (j,x):=by rw[DT];exact⟨o,r⟩
  exact lX this
 have:=m _ p;simpa using this
noncomputable def kP:FT:=λδ=>Y (C,δ)
inductive Ty where
 |int|bool|str|tuple|list|dict
noncomputable def Ty.n:Ty->String
 |.int=>"int"|.bool=>"bool"|.str=>"str"|.tuple=>"tuple"|.list=>"list"|.dict=>"dict"
noncomputable def Jo:D->Ty->Bool
 |.bl _,.bool=>C
 |.bl _,.int=>C
 |.int _,.int=>C
 |.str _,.str=>C
 |.tup _,.tuple=>C
 |.lst _,.list=>C
 |.Z3 .dct _ _,.dict=>C
 |_,_=>I
noncomputable def tyD:D->String
 |.Z4=>"NoneType"|.bl _=>"bool"|.int _=>"int"|.str _=>"str"|.tup _=>"tuple"|.lst _=>"list"|.Z3 .dct _ _=>"dict"|.Z3 .set _ _=>"set"|.Z3 _ _ _=>"NoneType"
section
variable {X:Cx}{b:kf}{c:L2.St}{H:Hp}{s:jk}
def Dm(K:jJ)(d:D)(t:Ty):cQ K (.type<|tyD d) (.type t.n)=Y (Jo d t):=by
 cases d with
 |Z3 k _ _=>cases k<;>cases t<;>with_unfolding_all rfl
 |_=>cases t<;>with_unfolding_all rfl
def Ac(T:Inv X b c H s)(h:Bf X.K (H a) k l i us)(hk:k=.dct\/k=.set:=by first|exact .inl rfl|exact .inr J):s.TypeIs (.ref a) (tyD<|.Z3 k l i):=by
 cases k with
 |dct=>
  rcases h with⟨d,e,_⟩|⟨d,e,_⟩
  .obtain⟨_,_,i,_,o,g,j,h1,f,_⟩:=(show Z7 X.prog X.w H s.heap a (.dK d)from T.hok a _ e)
   exact⟨o,h1,f.1⟩
  obtain⟨_,_,p,_,o,g,j,h1,f,_⟩:=(show Z7 X.prog X.w H s.heap a (.dT d)from T.hok a _ e)
  exact⟨o,h1,f.1⟩
 |set=>
  obtain⟨_,m,e,_⟩:=h;obtain⟨g,n,t,h1,_⟩:=(show Z7 X.prog X.w H s.heap a (.Z6 m)from T.hok a _ e)
  exact⟨_,h1,rfl⟩
 |exc Q=>rcases hk with z|z<;>cases z
 |_=>exact h.elim
def oN{K H}(h:kZ K H O (.Z3 k g f) v):Kl (λa d=>Bf K (H a) k g f d) (Z9 K H O f) v:=by
 rcases h with h|⟨a,rfl,h⟩
 .obtain⟨a,d,e,q,r⟩:=h.Z3;exact⟨a,d,e,q.2,r⟩
 obtain⟨d,e,r⟩:=h;exact⟨a,d,rfl,e,r⟩
end
theorem ni(K:jJ)(d:D):∀a:List Ty,d9 K (.type<|tyD d) (a.map λt=>b3 t.n)=Y (a.any<|Jo d)
 |[]=>rfl
 |t::a=>by
  rw[kG,d9,Dm,rA]
  cases Jo d t
  .simpa using ni K d a
  rfl
def Sk{K:jJ}{T:Nat}(h:∀n∈["int","bool","str","tuple","list","dict"],cQ K (.ref T) (.type n)=Y I)(t:Ty){ks vs:List D}:cQ K (.ref T) (.type t.n)=Y (Jo (.Z3 (.exc T) ks vs) t):=by
 cases t<;>exact h _ (by simp[Ty.n])
theorem IT{K:jJ}{T:Nat}(h:∀n∈["int","bool","str","tuple","list","dict"],cQ K (.ref T) (.type n)=Y I){ks vs:List D}:∀a:List Ty,d9 K (.ref T) (a.map λt=>b3 t.n)=Y (a.any<|Jo<|.Z3 (.exc T) ks vs)
 |[]=>rfl
 |t::a=>by
  rw[kG,d9,Sk h t (ks:=ks) (vs:=vs),rA]
  cases Jo (.Z3 (.exc T) ks vs) t
  .simpa using IT h a
  rfl
section
variable {X:Cx}{c:kf}{f:L2.St}{H:Hp}{s:jk}
def Zo(T:Inv X c f H s)(hd:kZ X.K H O d x)(g:RelV x u)(h:∀m,Q (.bool<|Jo d t) {s with toks:=m}):
  aa (ae X.prog X.w) A (call (.builtin "isinstance") [u,.type t.n]) Q E s:=by
 cases d with
 |Z4=>have:=D4 hd;subst this;cases g;exact rz g6 T.G8 bg (Dm X.K .Z4 t) (λz=>nomatch z) h
 |bl b=>have:=C0 hd;subst this;cases g;exact rz g9 T.G8 bg (Dm X.K (.bl b) t) (λz=>nomatch z) h
 |int b=>have:=kj hd;subst this;obtain⟨m,rfl⟩:=g;exact rz ib T.G8 bg (Dm X.K (.int b) t) (λz=>nomatch z) h
 |str b=>have:=wk hd;subst this;obtain⟨m,rfl⟩:=g;exact rz h9 T.G8 bg (Dm X.K (.str b) t) (λz=>nomatch z) h
 |tup l=>obtain⟨a,y,rfl,q,_⟩:=lZ hd;cases g;obtain⟨j,_,⟨o,h1,i,_⟩,_⟩:=T.tuple q;exact rz gM T.G8 ⟨o,h1,i⟩ (Dm X.K (.tup l) t) (λz=>nomatch z) h
 |lst l=>obtain⟨a,y,rfl,q,_⟩:=lN hd;cases g;obtain⟨j,_,⟨o,n,h1,i,_⟩,_⟩:=T.list q;exact rz g7 T.G8 ⟨o,h1,i⟩ (Dm X.K (.lst l) t) (λz=>nomatch z) h
 |Z3 k p r=>
  obtain⟨a,B,rfl,q,_⟩:=oN hd;cases g
  cases k with
  |dct=>exact rz g8 T.G8 (Ac T q) (Dm X.K (.Z3 .dct p r) t) (λz=>nomatch z) h
  |set=>exact rz ia T.G8 (Ac T q) (Dm X.K (.Z3 .set p r) t) (λz=>nomatch z) h
  |exc N=>obtain⟨_,o,e,h1,i,v⟩:=q;exact rz (i a) T.G8 (show Z7 X.prog X.w H s.heap a (.Bi o<|.own 0)from T.hok a _ e).1 (Sk v t) (λz=>nomatch z) h
  |_=>exact q.elim
def Zn{A:jF}{E:jZ}{Q:jZ}(N:Inv X c f H s){O:Z5}{d:D}{x:V}{u:jr}{ts:List Ty}{p:jh}{dd:Option jh}{n:Nat}{L:wc}(hd:kZ X.K H O d x)(i:RelV x u)
  (g:s.heap.get? p=Y ⟨.type "tuple",dd,.seq (ts.map λt=>b3 t.n).toArray n,L⟩)(h:∀r,Q (.bool<|ts.any<|Jo d) {s with toks:=r}):aa (ae X.prog X.w) A (call (.builtin "isinstance") [u,.ref p]) Q E s:=by
 cases d with
 |Z4=>have:=D4 hd;subst this;cases i;exact rq g6 N.G8 bg g (ni X.K .Z4 ts) (λz=>nomatch z) h
 |bl b=>have:=C0 hd;subst this;cases i;exact rq g9 N.G8 bg g (ni X.K (.bl b) ts) (λz=>nomatch z) h
 |int b=>have:=kj hd;subst this;obtain⟨r,rfl⟩:=i;exact rq ib N.G8 bg g (ni X.K (.int b) ts) (λz=>nomatch z) h
 |str b=>have:=wk hd;subst this;obtain⟨r,rfl⟩:=i;exact rq h9 N.G8 bg g (ni X.K (.str b) ts) (λz=>nomatch z) h
 |tup l=>obtain⟨a,T,rfl,q,_⟩:=lZ hd;cases i;obtain⟨m,_,⟨o,h1,j,_⟩,_⟩:=N.tuple q;exact rq gM N.G8 ⟨o,h1,j⟩ g (ni X.K (.tup l) ts) (λz=>nomatch z) h
 |lst l=>obtain⟨a,T,rfl,q,_⟩:=lN hd;cases i;obtain⟨m,_,⟨o,n,h1,j,_⟩,_⟩:=N.list q;exact rq g7 N.G8 ⟨o,h1,j⟩ g (ni X.K (.lst l) ts) (λz=>nomatch z) h
 |Z3 k v y=>
  obtain⟨a,G,rfl,q,_⟩:=oN hd;cases i
  cases k with
  |dct=>exact rq g8 N.G8 (Ac N q) g (ni X.K (.Z3 .dct v y) ts) (λz=>nomatch z) h
  |set=>exact rq ia N.G8 (Ac N q) g (ni X.K (.Z3 .set v y) ts) (λz=>nomatch z) h
  |exc M=>obtain⟨_,o,e,h1,j,B⟩:=q;exact rq (j a) N.G8 (show Z7 X.prog X.w H s.heap a (.Bi o<|.own 0)from N.hok a _ e).1 g (IT B ts) (λz=>nomatch z) h
  |_=>exact q.elim
end
def yS(ts:List Ty)(d:D):Option (D×Bool):=Y (.bl<|ts.any<|Jo d,I)
section
variable {X:Cx}{e:jv}{g:FO}{f p c:bt}{z:ap}
def TX{t:Ty}(L:PO X e g)(J:Gl X "isinstance")(M:X.mg "isinstance"=SS)(m:Gl X z)(y:X.mg z=SS)(Y:av z=SI (.type t.n))(N:z≠"__name__")(j7:(z==("__debug__":ap))=Tk)(hv:av "isinstance"=SI (.builtin "isinstance"))
  (s1:ac [e,.Name z c] X.env=(Tk,aY e X.env)::ac [.Name z c] X.env)(s2:ac [.Name z c] X.env=(Tk,aY (.Name z c) X.env)::ac [] X.env)(w:(aV f<|ac [.Name z c] X.env).any (·.1)=Tk):
  PX X (.Call (.Name "isinstance" p) [e,.Name z c] [] f) (ph (yS [t]) g):=by
 have G:lr X (.builtin "isinstance") (λl H Q=>∃(O:Z5)(d:D)(x:V),l=[x,.ty t.n]/\kZ X.K H O d x/\Q (.bl<|Jo d t) H):=by intro i s W H l us Q I r h;obtain⟨O,d,x,rfl,hd,q⟩:=h;obtain⟨u,w',rfl,P,F⟩:=wm r;cases F;exact Zo I hd P λtk=>⟨.bl _,H,I.tok _,rfl,q⟩
 refine PX.imp (Aa G J M hv (ma L (ma (C9 (v:=.ty t.n) m y Y Tl N j7) oB s2) s1) (by decide) (by decide) s1 w) λW H Q U=>?_;obtain⟨R,T,rr,S,E,e,k⟩:=U;obtain⟨o,a,h1,e⟩:=jw e;obtain⟨x,A,e⟩:=jl e;obtain⟨zz,C,e⟩:=jl e;cases C;obtain⟨rfl,rfl⟩:=jS e;refine⟨R,T,o,a,E,h1,λv Z b=>?_⟩;have B:=Ops.cons E b<|Ops.nil<|b.er E;refine⟨_,x,v,rfl,B.view (j:=0) Tl Tl A,?_⟩;have:=(B.done k).bl;simpa using this
def PL{t m:Ty}{z i:ap}{l y:bt}{w}(ha:PO X e g)(hg:Gl X "isinstance")(hm:X.mg "isinstance"=SS)(dw:Gl X z)(gS:X.mg z=SS)(hz:av z=SI (.type t.n))(hn:z≠"__name__")(j7:(z==("__debug__":ap))=Tk)
  (dv:Gl X i)(A:X.mg i=SS)(fO:av i=SI (.type m.n))(eT:i≠"__name__")(dE:(i==("__debug__":ap))=Tk)(hv:av "isinstance"=SI (.builtin "isinstance"))
  (s1:ac [e,.Tuple [.Name z c,.Name i l] w y] X.env=(Tk,aY e X.env)::ac [.Tuple [.Name z c,.Name i l] w y] X.env)(s2:ac [.Tuple [.Name z c,.Name i l] w y] X.env=(Tk,aY (.Tuple [.Name z c,.Name i l] w y) X.env)::ac [] X.env)
  (s3:ac [.Name z c,.Name i l] X.env=(Tk,aY (.Name z c) X.env)::ac [.Name i l] X.env)(s4:ac [.Name i l] X.env=(Tk,aY (.Name i l) X.env)::ac [] X.env)
  (f9:(aV f<|ac [.Tuple [.Name z c,.Name i l] w y] X.env).any (·.1)=Tk):
  PX X (.Call (.Name "isinstance" p) [e,.Tuple [.Name z c,.Name i l] w y] [] f) (ph (yS [t,m]) g):=by
 have S:lr X (.builtin "isinstance") (λF H Q=>∃(O:Z5)(d:D)(x:V)(q:jh),F=[x,.ref q]/\H q=SI (.tup [.ty t.n,.ty m.n])/\kZ X.K H O d x/\Q (.bl<|[t,m].any<|Jo d) H):=by intro Y s P H F us Q I r h;obtain⟨O,d,x,q,rfl,N,hd,k⟩:=h;obtain⟨u,w',rfl,ru,q9⟩:=wm r;cases q9;obtain⟨_,Z,v1,o,h1,G,⟨n,J⟩,_⟩:=I.hok q _ N;obtain⟨u1,u2,rfl,r1,r2⟩:=wm v1;cases r1;cases r2;obtain⟨R,dd,dt,sl⟩:=o;simp only at G J;subst G;subst J;exact Zn (ts:=[t,m]) I hd ru h1 λtk=>⟨.bl _,H,I.tok _,rfl,k⟩
 refine PX.imp (Aa S hg hm hv (ma ha (ma (MO<|ma (C9 (v:=.ty t.n) dw gS hz Tl hn j7) (ma (C9 (v:=.ty m.n) dv A fO Tl eT dE) oB s4) s3) oB s2) s1) (by decide) (by decide) s1 f9) λP H Q W=>?_;obtain⟨δ,T,rr,δ',E,e,k⟩:=W;obtain⟨o,L,h1,e⟩:=jw e;obtain⟨x,G,e⟩:=jl e;obtain⟨zz,J,e⟩:=jl e;cases J;obtain⟨rfl,rfl⟩:=jS e;refine⟨δ,T,o,L,E,h1,λv H1 U=>⟨by show 2<=sizeLine;decide,λq N=>?_⟩⟩;have B:=Ops.cons E U<|Ops.nil<|U.er E;have M:=ly (o:=.tup [.ty t.n,.ty m.n]) N;have C:=B.view (j:=0) Tl Tl G;refine⟨λa=>Z8 P L a\/T a,x,v,q,rfl,jL,?_,?_⟩
 .rcases C with C|⟨a,rfl,C⟩
  .exact .inl (Rep.mono (λb o e _=>M b o e) (λ_ _ z=>z) C)
  exact .inr ⟨a,rfl,C.mono (λb o e _=>M b o e) (λ_ _ z=>z) λo e=>M a o e⟩
 exact(B.done k) _ _ M Rep.JY
end
noncomputable def uE:List D->Option (List Bool)
 |[]=>Y []
 |.bl b::l=>(uE l).map (b:: ·)
 |_::_=>U
def Ba:D->Option (D×Bool)
 |.lst l=>(uE l).map λbs=>(.bl<|bs.all id,I)
 |_=>U
def Zu:D->Option (D×Bool)
 |.lst l=>(uE l).map λbs=>(.bl<|bs.any id,I)
 |_=>U
theorem yJ{K H}{O:Z5}:∀{l:List D}{bs:List Bool}{e:List V}{d:kF},uE l=Y bs->Z9 K H O l e->Vals e d->LSm.BoolsAre d bs
 |[],bs,e,d,h,r,v=>by
  cases h;rw[Z9]at r;subst r;cases v;exact .nil
 |.bl b::l,bs,e,d,h,r,v=>by
  obtain⟨f,h1,rfl⟩:=jX h;rw[Z9]at r;obtain⟨x,j,rfl,g,i⟩:=r;have:=g.bl;subst this
  cases v with
  |cons a c=>cases a;exact .cons b<|yJ h1 i c
 |.Z4::l,_,_,_,h,_,_=>by cases h
 |.int _::l,_,_,_,h,_,_=>by cases h
 |.str _::l,_,_,_,h,_,_=>by cases h
 |.tup _::l,_,_,_,h,_,_=>by cases h
 |.lst _::l,_,_,_,h,_,_=>by cases h
 |.Z3 _ _ _::l,_,_,_,h,_,_=>by cases h
section
variable {X:Cx}
def aaK{h a:jH}{o:eM}(hk:∀b x,b∉[h.objs.size]->(h.push o).get? b=Y x->a.get? b=Y x)(b:jh)(x:eM)(e:h.get? b=Y x):a.get? b=Y x:=
 hk b x (λz=>by have:=DR.mp z;subst this;exact absurd (kX e)<|qf _) (kB _ e)
def Ro(q:Bool)(B:X.calm=C):lr X (.builtin (if q then "all" else "any")) (GF X.K<|g1 (if q then Ba else Zu)):=ot λm s J H x u Q O d z N M np hd j G=>by
 cases d with
 |lst l=>
  cases q<;>(
   obtain⟨bs,y,rfl⟩:=jX j;obtain⟨p,T,rfl,q,r⟩:=lN hd;cases M;obtain⟨a,v,c,_⟩:=N.list q;have are:=yJ y r v;have k:X.A.in1.handled=U:=N.ok.hd B;have f:p<s.heap.objs.size:=by obtain⟨_,e,_⟩:=c.isList;exact kX e
   first|refine call_all_walk (xP c.isList ⟨s.heap.objs.size,[s.heap.objs.size,p],[s.heap.objs.size],a.toArray.size,_,_,λi=>(bs[i]?).getD C,rfl,CJ k _ p (kU f) a.toArray,⟨⟨_,kW _ rfl,rfl,rfl⟩,c.isList.push _⟩,λi w E o n h g=>?_,λt L hk=>?_⟩)|refine call_any_walk<|xP c.isList ⟨s.heap.objs.size,[s.heap.objs.size,p],[s.heap.objs.size],a.toArray.size,_,_,λi=>(bs[i]?).getD I,rfl,CJ k _ p (kU f) a.toArray,⟨⟨_,kW _ rfl,rfl,rfl⟩,c.isList.push _⟩,λi w E o n h g=>?_,λt L hk=>?_⟩
   .obtain⟨b,e,rfl⟩:=are.get i w (by simpa using h);dsimp only at g;rw[e]at g;exact vF g
   rw[lH,are.length];(first|rw[LSm.range_all]|rw[LSm.range_any])
   exact⟨.bl _,H,N.kept<|aaK hk,rfl,G.bl⟩)
 |_=>cases q<;>cases j
def acD(a:X.calm=C):lr X (.builtin "all") (GF X.K<|g1 Ba):=Ro C a
def NT:=gI λi j=>Y<|.int (if j>i then j else i)
def IL:=gI λi j=>Y<|.int (if j<i then j else i)
def abu(c:X.calm=C):lr X (.builtin "max") (GF X.K<|g2 NT):=Om λa s k H x y h Q O d e z T r np h1 b g G=>by obtain⟨i,j,w,rfl,rfl,f,rfl⟩:=zg g;cases f;exact acB c a s k H [x,y] h Q T r ⟨i,j,by rw[kj h1,kj b],G.int⟩
def abt(c:X.calm=C):lr X (.builtin "min") (GF X.K<|g2 IL):=Om λa s k H x y h Q O d e z T r np h1 b g G=>by obtain⟨i,j,w,rfl,rfl,f,rfl⟩:=zg g;cases f;exact acA c a s k H [x,y] h Q T r ⟨i,j,by rw[kj h1,kj b],G.int⟩
def zT{lo:Int}{n:Nat}{a:nJ}(h:j9 (λi v=>∃t,v=.int (lo+(i:Int)*1) t) a n):Vals ((am n).map λ(k:Nat)=>V.int<|lo+k) a.toList:=by
 have key:∀(l:kF)(m:Nat),(∀(j:Nat) v,l[j]?=Y v->∃t,v=.int (lo+((m+j:Nat):Int)) t)->Vals ((bz m<|TD l).map λ(k:Nat)=>V.int<|lo+k) l:=by
  intro l
  induction l with
  |nil=>intro m _;exact .nil
  |cons v l d=>intro m hv;obtain⟨t,e⟩:=hv 0 v J;refine .cons ⟨t,by simpa using e⟩<|d (m+1) λj w c=>?_;obtain⟨f,b⟩:=hv (j+1) w (by simpa using c);exact⟨f,by rw[b];congr 2;first|done|lia⟩
 have:=key a.toList 0 λj v hv=>by obtain⟨t,e⟩:=h.2 j v (by simpa using hv);exact⟨t,by rw[e];congr 1⟩
 rw[lT,h.1,<-Lq]at this;exact this
def aa9{K H}(lo:Int)(n:Nat):Z9 K H O (jU lo n) ((am n).map λ(k:Nat)=>V.int<|lo+k):=by
 unfold jU
 induction(am n)with
 |nil=>exact Z9.nil
 |cons k l a=>exact Z9.cons Rep.mkInt a
end
def Dp(lo a:Int):Prop:= -(2^62)<=lo/\lo<2^62/\ -(2^62)<=a/\a<2^62/\(a-lo).toNat<=2^24
instance(lo hi:Int):Decidable (Dp lo hi):=by unfold Dp;infer_instance
noncomputable def JL(lo a:Int):List V:=(am (a-lo).toNat).map λ(k:Nat)=>V.int<|lo+k
def Dp.small{lo a:Int}(h:Dp lo a):vr lo a 1=C:=small_one h.1 h.2.1 h.2.2.1 h.2.2.2.1
def HW(lo a:Int):fx lo a 1=((a-lo).toNat:Nat):=by rw[Db];split<;>lia
section
variable {c:jI}{w:jG}{A:jF}{E:jZ}{s:jk}
def abr{Q:List jr->jk->Prop}{r:jh}{lo n:Int}{t u v:wP}(H:A.handled=U)(x:KE s.heap r lo n 1 t u v)(ok:Dp lo n)
  (B:∀(g:jH) k (d:nJ),(∀b o,s.heap.get? b=Y o->g.get? b=Y o)->j9 (λi v=>∃t,v=.int (lo+(i:Int)*1) t) d (n-lo).toNat->Q d.toList {s with heap:=g,toks:=k}):
  aa (ae c w) A (fW<|.ref r) Q E s:=by
 unfold fW;refine ji<|FV<|qw F.entry_proto_collect ?_;rw[sG F.plain_proto_collect _];refine ji (m:=s8 [])<|oy ?_;refine ju ⟨rp F.plain_list_iadd _,qw F.entry_list_iadd ?_⟩;rw[sG F.plain_list_iadd _];have z:=kW s.heap (o:=({cls:=.type "list",data:=.seq ([]:List jr).toArray}:eM)) J
 let R:j8->jk->Prop:=λr j=>∃(g:jH)(k:Nat)(d:nJ)(l:Nat),r=.ok (.ret<|.ref s.heap.objs.size)/\j={s with heap:=g,toks:=k}/\(∀b o,s.heap.get? b=Y o->g.get? b=Y o)/\
  g.get? s.heap.objs.size=Y {cls:=.type "list",dict:=U,data:=.seq d l,slots:= #[]}/\j9 (λi v=>∃t,v=.int (lo+(i:Int)*1) t) d (n-lo).toNat
 have fin:∀{r j},R r j->∃v,r=.ok (.ret v)/\aa (ae c w) A (match v with
   |Value.ref a=>do
    match(<-load a).data with
     |Data.seq xs _=>pure xs.toList
     |_=>mo "internal:collect"
   |_=>mo "internal:collect") Q E j:=λ{r j} O=>by
  obtain⟨g,k,d,l,rfl,rfl,hk,p,y⟩:=O;exact⟨_,rfl,ji (m:=load s.heap.objs.size)<|CV p<|ju<|B g k d hk y⟩
 refine oJ (wpAny_extend_range (A:=A) (R:=R) (s:={s with heap:=s.heap.push {cls:=.type "list",data:=.seq ([]:List jr).toArray}}) H (kB _ x) ok.small (HW lo n) ok.2.2.2.2 _ _ 0 z λg k T l hk p y=>⟨g,k,T,l,rfl,rfl,λb o e=>hk b o (kU<|kX e)<|kB _ e,p,y⟩) (λf j h=>?_) λe j h=>?_
 .cases f with
  |done f=>obtain⟨v,hv,q⟩:=fin h;cases hv;exact q
  |again l=>exact⟨h.1,rX h.2 λr L x=>by obtain⟨v,rfl,q⟩:=fin x;exact q⟩
 obtain⟨v,hv,_⟩:=fin h;cases hv
def aaw{Q₁:jZ}{r:jh}{lo g:Int}{t u v:wP}(p:A.handled=U)(l:KE s.heap r lo g 1 t u v)(ok:Dp lo g)
  (h:∀(d:jH) k (a:nJ),(∀b o,s.heap.get? b=Y o->d.get? b=Y o)->j9 (λi v=>∃t,v=.int (lo+(i:Int)*1) t) a (g-lo).toNat->Q₁ (.ref d.objs.size) {s with heap:=d.push {cls:=.type "tuple",data:=.seq a},toks:=k}):
  bQ (ae c w) A (.call (.builtin "tuple.__new__") ⟨[.type "tuple",.ref r],[]⟩) (zn Q₁ E) s:=by
 refine vC ?_;refine ji (m:=gl "tuple.__new__" _)<|rB (F.newCall_tuple_1 _)<|ju ⟨rp F.plain_tuple_new _,qw F.entry_tuple_new ?_⟩;rw[sG F.plain_tuple_new _];have z:=sub_tuple_self;have j:=init_tuple_lookup;have q:=madeHere_tuple;have y:s.TypeIs (.ref r) "range":=⟨_,l,rfl⟩
 have f:A.in1.handled=U:=p
 wp_walk using rE y,abr f l ok
 intro d k a hk n;have x:a.size<=sizeLine:=by rw[n.1,kT];have:=ok.2.2.2.2;omega
 refine ji (m:=bn a.toList.toArray) ?_;unfold bn;refine oy ?_ (by show a.toList.toArray.size<=sizeLine;simpa using x);refine ju ?_;have e:a.toList.toArray=a:=by simp
 rw[e];exact h d k a hk n
def aav{Q:jZ}{r:jh}{lo g:Int}{t u v:wP}(k:A.handled=U)(m:KE s.heap r lo g 1 t u v)(ok:Dp lo g)
  (h:∀(f:jH) j (e:nJ),(∀b o,s.heap.get? b=Y o->f.get? b=Y o)->j9 (λi v=>∃t,v=.int (lo+(i:Int)*1) t) e (g-lo).toNat->Q (.ref f.objs.size) {s with heap:=f.push {cls:=.type "tuple",data:=.seq e},toks:=j}):
  aa (ae c w) A (call (.type "tuple") [.ref r]) Q E s:=by
 refine AT (Q₁:=λobj a=>a.TypeIs obj "tuple"/\Q obj a) OV (F.typeCall_tuple_1 _) F.entry_object_init
  (aaw k m ok λf j e l n=>⟨⟨_,kW _ rfl,rfl⟩,h f j e l n⟩) λobj a d=>?_
 exact⟨d.1,Lp obj _,object_init_meets OV.init.lookup OV.made (by decide) c w A.in1 _ a ⟨d.1,rfl,d.2⟩⟩
end
section
variable {X:Cx}
def B9:lr X (.type "range") (λc H Q=>∃j,c=[.int j]/\∀r,H r=U->Q (.ref r) (upd H r<|.rng 0 j)):=by intro a s f H c d Q T r h;obtain⟨j,rfl,h⟩:=h;obtain⟨u,rfl,⟨t,rfl⟩⟩:=qC r;exact I0 ⟨.ref _,_,T.laid (o:=.rng 0 j) (λb o e=>kB _ e) (kD _) ⟨_,_,_,kW _ rfl⟩,rfl,h _ T.fresh⟩
def B8:lr X (.type "range") (λc H Q=>∃i j,c=[.int i,.int j]/\∀r,H r=U->Q (.ref r) (upd H r<|.rng i j)):=by intro a s k H c g Q T r h;obtain⟨i,j,rfl,h⟩:=h;obtain⟨u,f,rfl,⟨t,rfl⟩,⟨d,rfl⟩⟩:=wm r;exact IX ⟨.ref _,_,T.laid (o:=.rng i j) (λb o e=>kB _ e) (kD _) ⟨_,_,_,kW _ rfl⟩,rfl,h _ T.fresh⟩
def uY(i:X.calm=C):lr X (.type "list") (λf H Q=>∃r lo a,f=[.ref r]/\H r=Y (.rng lo a)/\Dp lo a/\∀l,H l=U->Q (.ref l) (upd H l<|.lst<|JL lo a)):=by intro d s x H f q Q T g h;obtain⟨r,lo,a,rfl,j,ok,h⟩:=h;obtain⟨u,rfl,m⟩:=qC g;cases m;obtain⟨t,u,v,er⟩:=T.hok r _ j;refine call_list_range (A:=X.A) (T.ok.hd i) er ok.small (HW lo a) ok.2.2.2.2 λo p b c k e items=>?_;have n:=zT items;refine⟨.ref _,_,T.laid k (kD _) (show Z7 X.prog X.w _ _ _ (.lst<|JL lo a)from⟨?_,b.toList,c,n,by simpa using e⟩),rfl,h _ T.fresh⟩;have:=ok.2.2.2.2;simp only[JL,kN,kw,kT];omega
def tX(k:X.calm=C):lr X (.type "tuple") (λi H Q=>∃r lo c,i=[.ref r]/\H r=Y (.rng lo c)/\Dp lo c/\∀l,H l=U->Q (.ref l) (upd H l<|.tup<|JL lo c)):=by intro d s y H i z Q T j h;obtain⟨r,lo,c,rfl,m,ok,h⟩:=h;obtain⟨u,rfl,p⟩:=qC j;cases p;obtain⟨t,u,v,er⟩:=T.hok r _ m;refine aav (A:=X.A) (T.ok.hd k) er ok λg x a n items=>?_;have q:=zT items;have f:Inv X d y H {s with heap:=g,toks:=x}:=T.kept n;refine⟨.ref _,_,f.laid (λb o e=>kB _ e) (kD _) (show Z7 X.prog X.w _ _ _ (.tup<|JL lo c)from⟨?_,a.toList,q,by have:=Hq.new g a;simpa using this⟩),rfl,h _ f.fresh⟩;have:=ok.2.2.2.2;simp only[JL,kN,kw,kT];omega
def GU(mk:List D->D)(o:Bool):List D->Option (D×Bool)
 |[.int j]=>if Dp 0 j then Y (mk<|jU 0 j.toNat,o)else U
 |[.int i,.int j]=>if Dp i j then Y (mk<|jU i (j-i).toNat,o)else U
 |_=>U
def yV{K H}(lo a:Int):Z9 K H O (jU lo (a-lo).toNat) (JL lo a):=aa9 lo _
variable {a b:jv}{m n:FO}{p g d f:bt}
def wq(h:upd H r o l=U):H l=U:=by
 by_cases e:l=r
 .subst e;rw[jL]at h;cases h
 rwa [ke e]at h
def uF{K:jJ}{T o:Z5}{s:L2.St}{r c:Dn}{H l:Hp}{os:List AY}{k:List V}{e:List D}(B:Ops K T s r H os k c l o)(h:vL c os=Y e){is:jn}(hd:e=is.map .int):k=is.map .int:=by
 obtain⟨h1,t⟩:=oj h;apply zA;intro j;by_cases q:j<TD is
 .rw[uf B h (j:=j) (i:=is[j])<|by rw[hd];simp];simp[q]
 have u:=B.len;subst hd;simp at h1;rw[gY<|by lia,gY<|by simp;lia]
def TQ{T:String}{z:ap}{mk:List D->D}{o:Bool}(hT:(T="list"/\mk=.lst/\o=Td)\/(T="tuple"/\mk=.tup/\o=Tk))(U:X.calm=Td)(Y:Gl X z)(hm:X.mg z=SS)(hv:av z=SI (.type T))(hn:z≠"__name__")(j7:(z==("__debug__":ap))=Tk)
  (J:Gl X "range")(G:X.mg "range"=SS)(N:PA X [a] (tA X.K [m]))
  (s1:ac [.Call (.Name "range" g) [a] [] f] X.env=(Tk,aY (.Call (.Name "range" g) [a] [] f) X.env)::ac [] X.env)(s2:ac [a] X.env=(Tk,aY a X.env)::ac [] X.env)
  (M:(aV d<|ac [] X.env).any (·.1)=Tk)(r8:(aV f<|ac [] X.env).any (·.1)=Tk):
  PX X (.Call (.Name z p) [.Call (.Name "range" g) [a] [] f] [] d) (jT (GU mk o) [m]):=by
 rcases hT with⟨rfl,rfl,rfl⟩|⟨rfl,rfl,rfl⟩
 .refine PX.imp (nh (uY U) Y hm hv (ma (nh B9 J G xN N (by decide) (by decide) s2 r8) oB s1) hn j7 s1 M) λL H Q y=>?_;obtain⟨C,T,V,I,E,e,k⟩:=y;obtain⟨os,c,h1,e⟩:=jw e;obtain⟨P,v,e⟩:=jl e;obtain⟨Z,h,e⟩:=jl e;obtain⟨rfl,rfl⟩:=jS e;refine⟨C,T,os,c,E,h1,λW t F B=>?_⟩;unfold GU at h;split at h
  .rename_i j;obtain⟨ok,rfl⟩:=jM h;refine⟨j,uF B v (is:=[j]) Tl,λr x=>⟨r,0,j,rfl,jL,ok,λl s=>?_⟩⟩;have A:∀a u,t a=SI u->upd (upd t r<|.rng 0 j) l (.lst<|JL 0 j) a=SI u:=λa u e=>ly s a u<|ly x a u e;refine(B.done k) l _ (wq s) A ⟨JL 0 j,jL,?_⟩;have:=yV (K:=X.K) (H:=upd (upd t r<|.rng 0 j) l<|.lst<|JL 0 j) (O:=λa=>(Z8 L c a\/T a)\/a=l) 0 j;simpa using this
  .rename_i i j;obtain⟨s,_⟩:=oj v
   have R:os.length=1:=by unfold lq at h1;obtain⟨p,S,h1⟩:=jl h1;obtain⟨q,w,h1⟩:=jl h1;unfold lq at w;cases w;obtain⟨rfl,rfl⟩:=jS h1;rfl
   simp at s;omega
  cases h
 refine PX.imp (nh (tX U) Y hm hv (ma (nh B9 J G xN N (by decide) (by decide) s2 r8) oB s1) hn j7 s1 M) λL H Q y=>?_;obtain⟨C,T,V,I,E,e,k⟩:=y;obtain⟨os,c,h1,e⟩:=jw e;obtain⟨P,v,e⟩:=jl e;obtain⟨Z,h,e⟩:=jl e;obtain⟨rfl,rfl⟩:=jS e;refine⟨C,T,os,c,E,h1,λW t F B=>?_⟩;unfold GU at h;split at h
 .rename_i j;obtain⟨ok,rfl⟩:=jM h;refine⟨j,uF B v (is:=[j]) Tl,λr x=>⟨r,0,j,rfl,jL,ok,λl s=>?_⟩⟩;have A:∀a u,t a=SI u->upd (upd t r<|.rng 0 j) l (.tup<|JL 0 j) a=SI u:=λa u e=>ly s a u<|ly x a u e;refine(B.done k) _ _ A (Rep.J9 ⟨jL,B.np<|MA<|wq s⟩ ?_);have:=yV (K:=X.K) (H:=upd (upd t r<|.rng 0 j) l<|.tup<|JL 0 j) (O:=λa=>Z8 L c a\/T a) 0 j;simpa using this
 .rename_i i j;obtain⟨s,_⟩:=oj v
  have R:os.length=1:=by unfold lq at h1;obtain⟨p,S,h1⟩:=jl h1;obtain⟨q,w,h1⟩:=jl h1;unfold lq at w;cases w;obtain⟨rfl,rfl⟩:=jS h1;rfl
  simp at s;omega
 cases h
def TN{T:String}{z:ap}{mk:List D->D}{o:Bool}(hT:(T="list"/\mk=.lst/\o=Td)\/(T="tuple"/\mk=.tup/\o=Tk))(N:X.calm=Td)(U:Gl X z)(Y:X.mg z=SS)(hv:av z=SI (.type T))(hn:z≠"__name__")(j7:(z==("__debug__":ap))=Tk)
  (G:Gl X "range")(O:X.mg "range"=SS)(M:PA X [a,b] (tA X.K [m,n]))
  (s1:ac [.Call (.Name "range" g) [a,b] [] f] X.env=(Tk,aY (.Call (.Name "range" g) [a,b] [] f) X.env)::ac [] X.env)(s2:ac [a,b] X.env=(Tk,aY a X.env)::ac [b] X.env)
  (J:(aV d<|ac [] X.env).any (·.1)=Tk)(r8:(aV f<|ac [b] X.env).any (·.1)=Tk):
  PX X (.Call (.Name z p) [.Call (.Name "range" g) [a,b] [] f] [] d) (jT (GU mk o) [m,n]):=by
 have t:∀{w c:Dn}{os:List AY},lq [m,n] w=SI (os,c)->os.length=2:=λ{w c os} h1=>by unfold lq at h1;obtain⟨p,q1,h1⟩:=jl h1;obtain⟨q,v,h1⟩:=jl h1;unfold lq at v;obtain⟨p3,q3,v⟩:=jl v;obtain⟨q4,F,v⟩:=jl v;unfold lq at F;cases F;obtain⟨rfl,rfl⟩:=jS h1;cases v;rfl
 rcases hT with⟨rfl,rfl,rfl⟩|⟨rfl,rfl,rfl⟩
 .refine PX.imp (nh (uY N) U Y hv (ma (nh B8 G O xN M (by decide) (by decide) s2 r8) oB s1) hn j7 s1 J) λZ H Q C=>?_;obtain⟨w,T,S,L,E,e,k⟩:=C;obtain⟨os,c,h1,e⟩:=jw e;obtain⟨R,y,e⟩:=jl e;obtain⟨W,h,e⟩:=jl e;obtain⟨rfl,rfl⟩:=jS e;refine⟨w,T,os,c,E,h1,λV x P B=>?_⟩;unfold GU at h;split at h
  .obtain⟨s,_⟩:=oj y;have:=t h1;simp at s;omega
  .rename_i i j;obtain⟨ok,rfl⟩:=jM h;refine⟨i,j,uF B y (is:=[i,j]) Tl,λr A=>⟨r,i,j,rfl,jL,ok,λl s=>?_⟩⟩;have I:∀a u,x a=SI u->upd (upd x r<|.rng i j) l (.lst<|JL i j) a=SI u:=λa u e=>ly s a u<|ly A a u e;exact(B.done k) l _ (wq s) I ⟨JL i j,jL,yV i j⟩
  cases h
 refine PX.imp (nh (tX N) U Y hv (ma (nh B8 G O xN M (by decide) (by decide) s2 r8) oB s1) hn j7 s1 J) λZ H Q C=>?_;obtain⟨w,T,S,L,E,e,k⟩:=C;obtain⟨os,c,h1,e⟩:=jw e;obtain⟨R,y,e⟩:=jl e;obtain⟨W,h,e⟩:=jl e;obtain⟨rfl,rfl⟩:=jS e;refine⟨w,T,os,c,E,h1,λV x P B=>?_⟩;unfold GU at h;split at h
 .obtain⟨s,_⟩:=oj y;have:=t h1;simp at s;omega
 .rename_i i j;obtain⟨ok,rfl⟩:=jM h;refine⟨i,j,uF B y (is:=[i,j]) Tl,λr A=>⟨r,i,j,rfl,jL,ok,λl s=>?_⟩⟩;have I:∀a u,x a=SI u->upd (upd x r<|.rng i j) l (.tup<|JL i j) a=SI u:=λa u e=>ly s a u<|ly A a u e;exact(B.done k) _ _ I (Rep.J9 ⟨jL,B.np<|MA<|wq s⟩<|yV i j)
 cases h
end
def Src(h:jH)(it l:jh)(i:Nat)(a:nJ):Prop:=(h.IsListIter it l i/\h.IsList l a)\/(h.IsTupleIter it l i/\h.IsTuple l a)
section
variable {prog:jI}{w:jG}{A:jF}{E:jZ}{s:jk}{it l:jh}{i:Nat}{c:nJ}
def Src.ne(x:Src h it l i c):l≠it:=by intro e;subst e;rcases x with⟨⟨o,h1,b,a⟩,d,g1,g2,n,g3⟩|⟨⟨o,h1,b,a⟩,d,g1,g2,n,g3⟩<;>(rw[h1]at g1;cases g1;rw[a]at g3;cases g3)
def Src.lt(x:Src h it l i c):it<h.objs.size/\l<h.objs.size:=by rcases x with⟨⟨o,h1,_⟩,a,g1,_⟩|⟨⟨o,h1,_⟩,a,g1,_⟩<;>exact⟨kX h1,kX g1⟩
def Src.keep(x:Src h it l i c)(d:∀o,h.get? it=Y o->h'.get? it=Y o)(e:∀o,h.get? l=Y o->h'.get? l=Y o):Src h' it l i c:=by
 rcases x with⟨⟨o,h1,r⟩,a,g1,b⟩|⟨⟨o,h1,r⟩,a,g1,b⟩
 .exact .inl ⟨⟨o,d _ h1,r⟩,a,e _ g1,b⟩
 exact .inr ⟨⟨o,d _ h1,r⟩,a,e _ g1,b⟩
def Bq{Q:jZ}(d:s.heap.IsTupleIter it l i)(r:s.heap.IsTuple l c)(p:∀x,c[i]?=Y x->∀b,b.IsTupleIter it l (i+1)->au it s.heap b->Q x {s with heap:=b})
  (h:c[i]?=U->A.handled=U/\∀b e,el it s.heap b->(∃o,b.get? e=Y o/\o.cls=.type "StopIteration")->E (.ref e) {s with heap:=b}):aa (ae prog w) A (aP<|.ref it) Q E s:=by
 obtain⟨o,f,q,hd⟩:=id d;obtain⟨u,k,_,t,n⟩:=r;unfold aP;refine ji<|sV (name:=bv "__next__") d.typeIs Ln<|oI Ln d.typeIs F.entry_tuple_iterator_next ?_<|F.args_tuple_iterator_next_1 _;refine ji (m:=im (.ref it) 0)<|pH f hd (x:=.ref l) J ?_;show aa _ _ (if(bU l==ah)=C then _ else _) _ _ s;rw[jP (by show ¬(bU l==ah)=C;exact lQ)];refine ji (m:=im (.ref it) 1)<|pH f hd (x:=.int i 0) J ?_;refine ji (m:=seqItems?<|.ref l)<|rn k n ?_
 cases g:c[i]? with
 |some x=>simp only[uQ,g];refine ji<|vz f hd (by simp)<|ju ⟨x,rfl,ju<|p x g _ ⟨_,sU _ f (CH<|uN hd _),(CG ..).trans q,?_⟩ (qa ..)⟩;rw[uN hd];simp[cf]
 |none=>
  obtain⟨j,h⟩:=h g;simp only[uQ,g];refine ji<|qy<|ji<|vz f hd (by simp) ?_;refine ji (m:=je (.type "StopIteration") []) ?_;simp -iota only[je];refine ji<|oy (ji (m:=gJ _ _)<|rB (a:=ah) (by first|rfl|(simp -iota;rfl)) ?_) (by size_fits);refine oy ?_ (by size_fits);simp -iota only[z9];refine ji<|FU ?_
  first|rw[show A.in1.handled=U from j]|rw[j]
  exact ji<|ju<|FR<|h _ _ (((qa ..).extBut.push _).push _) ⟨_,kW _ rfl,rfl⟩
def Src.item{x:jr}{Q:jZ}(st:Src s.heap it l i c)(h:c[i]?=Y x)(j:∀d,Src d it l (i+1) c->au it s.heap d->Q x {s with heap:=d}):
  aa (ae prog w) A (aP<|.ref it) Q E s:=by
 have ne:=st.ne;rcases st with⟨a,b⟩|⟨a,b⟩
 .exact wpAny_nextOf_list_item a b h λd g f=>j d (.inl ⟨g,b.extBut f.extBut ne⟩) f
 exact Bq a b (λk e d g f=>by rw[h]at e;cases e;exact j d (.inr ⟨g,b.extBut f.extBut ne⟩) f) λe=>by rw[h]at e;cases e
def Src.stop{Q:jZ}(g:A.handled=U)(st:Src s.heap it l i c)(h:c[i]?=U)
  (f:∀d e,el it s.heap d->(∃o,d.get? e=Y o/\o.cls=.type "StopIteration")->E (.ref e) {s with heap:=d}):aa (ae prog w) A (aP<|.ref it) Q E s:=by
 rcases st with⟨a,b⟩|⟨a,b⟩
 .exact wpAny_nextOf_list_end g a b h f
 exact Bq a b (λx e=>by rw[h]at e;cases e) λ_=>⟨g,f⟩
def Src.new(a:s.heap.IsList l c\/s.heap.IsTuple l c)(d:∀h',Src h' s.heap.objs.size l 0 c->h'.objs.size=s.heap.objs.size+1->(∀b o,s.heap.get? b=Y o->h'.get? b=Y o)->Q (.ref s.heap.objs.size) {s with heap:=h'}):
  aa (ae prog w) A (cM<|.ref l) Q E s:=by
 rcases a with a|a
 .exact xP a (d _ (.inl ⟨⟨_,kW _ rfl,rfl,rfl⟩,a.push _⟩) (oV ..) λb o e=>kB _ e)
 exact Gj a (d _ (.inr ⟨⟨_,kW _ rfl,rfl,rfl⟩,a.push _⟩) (oV ..) λb o e=>kB _ e)
end
section
variable {f:jI}{w:jG}{A:jF}{E:jZ}{s:jk}{e it l:jh}{i:Nat}{c:Int}{h:nJ}
def acs{x old:jr}{Q:jZ}(he:ew s.heap e it c old)(st:Src s.heap it l i h)(hx:h[i]?=SI x)(U:e≠it)(eR:e≠l)
  (hQ:∀L,iF L e it (c+1) x s.heap.objs.size->Src L it l (i+1) h->L.get? s.heap.objs.size=SI {cls:=.type "tuple",data:=.seq #[.int c s.toks,x]}->L.objs.size=s.heap.objs.size+1->
   (∀b o,b≠e->b≠it->s.heap.get? b=SI o->L.get? b=SI o)->Q (.ref s.heap.objs.size) {s with heap:=L,toks:=s.toks+1}):
  aa (ae f w) A (bc.«enumerate.__next__» ⟨[.ref e],[]⟩) (λfin s'=>∃v,fin=.done (.ret v)/\Q v s') E s:=by
 obtain⟨C,g,d,k,os⟩:=s;refine ji (m:=im (.ref e) 2)<|pH he Tl (x:=.ref it) Tl<|ji<|st.item hx λj I G=>?_;replace G:au it C j:=G;have V:ew j e it c old:=(G.2 e U).trans he;refine ji (m:=im (.ref e) 3)<|pH (s:=⟨j,g,d,k,os⟩) V Tl (x:=cf c) Tl ?_;refine ji (m:=im (.ref e) 4)<|pH (s:=⟨j,g,d,k,os⟩) V Tl (x:=.none) Tl ?_;refine ji (m:=mkInt c)<|wpAny_mkInt (s:=⟨j,g,d,k,os⟩) ?_;refine ji (m:=mu (.ref e) 3<|cf<|c+1)<|uM (s:=⟨j,g,d,k+1,os⟩) V (by simp) λp S T=>?_;replace T:au e j p:=T;replace S:ew p e it (c+1) old:=S;refine ji (m:=mu (.ref e) 4 .none)<|uM (s:=⟨p,g,d,k+1,os⟩) S (by simp) λa R O=>?_;replace O:au e p a:=O;replace R:ew a e it (c+1) old:=R;refine ji (m:=newTuple [.int c k,x])<|CF (s:=⟨a,g,d,k+1,os⟩) ?_;have H:a.objs.size=C.objs.size:=by rw[O.1,T.1,G.1]
 have N:ew (a.push {cls:=.type "tuple",data:=.seq #[.int c k,x]}) e it (c+1) old:=kB _ R;have X:e<C.objs.size:=kX he;have y:(a.push {cls:=.type "tuple",data:=.seq #[.int c k,x]}).get? C.objs.size=SI {cls:=.type "tuple",data:=.seq #[.int c k,x]}:=by rw[<-H];exact kW _ rfl
 have up:∀b o,b≠e->b≠it->C.get? b=SI o->(a.push {cls:=.type "tuple",data:=.seq #[.int c k,x]}).get? b=SI o:=λb o B D q=>kB _ (O.extBut b o B<|T.extBut b o B<|G.extBut b o D q);have z:Src (a.push {cls:=.type "tuple",data:=.seq #[.int c k,x]}) it l (i+1) h:=I.keep (λo q=>kB _ (O.extBut _ o U.symm (T.extBut _ o U.symm q))) λo q=>kB _ (O.extBut _ o eR.symm (T.extBut _ o eR.symm q));have W:(a.push {cls:=.type "tuple",data:=.seq #[.int c k,x]}).objs.size=C.objs.size+1:=by rw[oV,H]
 rw[H];generalize (a.push {cls:=.type "tuple",data:=.seq #[.int c k,x]})=n at N y up z W;refine ji (m:=bu<|.ref e) ?_;unfold bu;refine ji<|pH (s:=⟨n,g,d,k+1,os⟩) N Tl (x:=.none) Tl<|ju ?_;simp -iota;refine ji<|qy<|ji<|pH (s:=⟨n,g,d,k+1,os⟩) N Tl (x:=old) Tl<|ji<|uM (s:=⟨n,g,d,k+1,os⟩) N (by simp) λr P Y=>?_;replace Y:au e n r:=Y;replace P:ew r e it (c+1) x:=P;refine ji (m:=bq (.ref e)<|.ref C.objs.size) ?_;unfold bq;refine ji<|uM (s:=⟨r,g,d,k+1,os⟩) P (by simp) λt K M=>?_;replace M:au e r t:=M;replace K:iF t e it (c+1) x C.objs.size:=K;refine uM (s:=⟨t,g,d,k+1,os⟩) K (by simp) λu F J=>?_;replace J:au e t u:=J;replace F:iF u e it (c+1) x C.objs.size:=F;have all:∀b o,b≠e->n.get? b=SI o->u.get? b=SI o:=λb o B q=>J.extBut b o B<|M.extBut b o B<|Y.extBut b o B q;refine ji<|CD<|ju ⟨_,rfl,hQ u F (z.keep (λo q=>all _ o U.symm q) λo q=>all _ o eR.symm q) (all _ _ (qe X) y) ?_ λb o B D q=>all b o B<|up b o B D q⟩;rw[J.1,M.1,Y.1,W]
def xZ{x old:jr}{Q:Bn}(m:ew s.heap e it c old)(st:Src s.heap it l i h)(q:h[i]?=Y x)(r:e≠it)(n:e≠l)
  (p:∀g,iF g e it (c+1) x s.heap.objs.size->Src g it l (i+1) h->g.get? s.heap.objs.size=Y {cls:=.type "tuple",data:=.seq #[.int c s.toks,x]}->g.objs.size=s.heap.objs.size+1->
   (∀b o,b≠e->b≠it->s.heap.get? b=Y o->g.get? b=Y o)->Q (Y<|.ref s.heap.objs.size) {s with heap:=g,toks:=s.toks+1}):
  aa (ae f w) A (cu<|.ref e) Q E s:=by
 have j:s.TypeIs (.ref e) "enumerate":=⟨_,m,rfl⟩
 unfold cu
 exact ji (vq (sV (name:=bv "__next__") j CC (oI CC j Lm
  (acs m st q r n λg a b c d k=>ju<|p g a b c d k) (Ll _))))
def yO{old:jr}{Q:Bn}(p:A.handled=U)(g:ew s.heap e it c old)(st:Src s.heap it l i h)(r:h[i]?=U)
  (k:∀a,el it s.heap a->Q U {s with heap:=a}):aa (ae f w) A (cu<|.ref e) Q E s:=by
 have d:s.TypeIs (.ref e) "enumerate":=⟨_,g,rfl⟩
 unfold cu;refine ji<|vq<|sV (name:=bv "__next__") d CC<|oI CC d Lm ?_<|Ll _;refine ji (m:=im (.ref e) 2)<|pH g J (x:=.ref it) J<|ji<|st.stop p r ?_;rintro a x j ⟨o,q,n⟩;exact ji<|xF (T:="StopIteration") (b:=C) ⟨o,q,n⟩ CB<|ju<|k _ j
end
section
variable {X:Cx}{d:kf}{g:L2.St}{H:Hp}{s:jk}{f:jH}
def Bo{t':Nat}{ch:lG}{a:jh}{o:HO}(N:Inv X d g H s)(j:∀b∈ch,ud X d H b)(k:∀b u,b∉ch->s.heap.get? b=Y u->f.get? b=Y u)(p:s.heap.objs.size<=a)(new:Z7 X.prog X.w (upd H a o) f a o):
  Inv X d g (upd H a o) {s with heap:=f,toks:=t'}:=by
 have L:=N.hok.fresh p;have l:∀b u,H b=Y u->b∉ch:=λb u e z=>by have:=(j b z).1;rw[this]at e;cases e
 have up:∀b u,H b=Y u->upd H a o b=Y u:=λb u e=>by rw[ke<|md e L];exact e
 have M:∀b u,s.heap.get? b=Y u->H b=U->upd H a o b=U:=λb u e n=>by rw[ke λz=>by subst z;exact absurd (kX e)<|LB.mpr p];exact n
 refine N.step (g':=s.gens) (d':=s.drawn) (ch:=ch) (λb i=>?_) (λb u _ _ h e _=>k b u h e) (λb u _ _ h e _=>⟨u.slots,k b u h e⟩) (λb u _ e n=>M b u e n)
  (λb u h e=>⟨u,k b u h e⟩) (λb Q e=>up b _ e) (λb _ _ e=>up b _ e) (λb G e=>⟨#[],by rw[up b _ e];simp⟩) (λm E=>?_) (λb u e=>?_) N.bare
 .obtain⟨_,f1,T,y,A,B⟩:=j b i;exact⟨y,f1,A,B⟩
 .obtain⟨u,x,t,O,r⟩:=E;exact⟨u,x,t,k _ u (λz=>(j _ z).2.1 J) O,r⟩
 by_cases i:b=a
 .subst i;rw[jL]at e;cases e;exact new
 rw[ke i]at e;refine(N.hok b u e).AV (λc v h q=>k c v ?_ q) (λc q=>up c _ q) (λc Q q=>up c _ q) λc _ _ q=>up c _ q;rcases h with z|z
 .rw[z];exact l b u e
 exact l c _ z
def Bp{t':Nat}{ch:lG}(T:Inv X d g H s)(h:∀b∈ch,ud X d H b)(k:∀b u,b∉ch->s.heap.get? b=Y u->f.get? b=Y u):Inv X d g H {s with heap:=f,toks:=t'}:=by
 have i:∀b u,H b=Y u->b∉ch:=λb u e z=>by have:=(h b z).1;rw[this]at e;cases e
 refine T.step (g':=s.gens) (d':=s.drawn) (ch:=ch) (λb w=>?_) (λb u _ _ a e _=>k b u a e) (λb u _ _ a e _=>⟨u.slots,k b u a e⟩) (λb u _ e n=>n)
  (λb u a e=>⟨u,k b u a e⟩) (λb A e=>e) (λb _ _ e=>e) (λb Q e=>⟨#[],by rw[e];simp⟩) (λm x=>?_) (λb u e=>?_) T.bare
 .obtain⟨_,f1,B,o,p,t⟩:=h b w;exact⟨o,f1,p,t⟩
 .obtain⟨u,l,j,y,r⟩:=x;exact⟨u,l,j,k _ u (λz=>(h _ z).2.1 J) y,r⟩
 refine(T.hok b u e).AV (λc v a q=>k c v ?_ q) (λc q=>q) λc A q=>q;rcases a with z|z
 .rw[z];exact i b u e
 exact i c _ z
end
def GV(b:Bool)(K:jJ)(H:Hp)(l:jh)(a:List V):Prop:=if b=C then G1 K H l a else Hd K H l a
def JO(b:Bool)(h:jH)(it l:jh)(i:Nat):Prop:=if b=C then h.IsListIter it l i else h.IsTupleIter it l i
def JO.keep(x:JO b h it l i)(k:∀o,h.get? it=Y o->h'.get? it=Y o):JO b h' it l i:=by
 cases b
 .exact PySem.Heap.IsTupleIter.at (show h.IsTupleIter it l i from x) k
 exact PySem.Heap.IsListIter.at (show h.IsListIter it l i from x) k
def JO.obj(x:JO b h it l i):∃o,h.get? it=Y o/\∀v,o.data≠ .cell v:=by
 cases b<;>(obtain⟨o,e,c,d⟩:=x;exact⟨o,e,λv z=>by rw[d]at z;cases z⟩)
section
variable {X:Cx}{d:kf}{e:L2.St}{H:Hp}{s:jk}
def uh(T:Inv X d e H s)(q:GV b X.K H l xs)(t:JO b s.heap it l i):∃a,Vals xs a/\Src s.heap it l i a.toArray:=by
 cases b
 .obtain⟨a,v,p,_⟩:=T.tuple q;exact⟨a,v,.inr ⟨t,p⟩⟩
 obtain⟨a,v,p,_⟩:=T.list q;exact⟨a,v,.inl ⟨t,p.isList⟩⟩
def C4(T:Inv X d e H s)(q:GV b X.K H l xs)(a:GV b X.K H l c):xs=c:=by
 cases b
 .exact T.E9 q a
 exact T.Er q a
def G6(t:JO b h it l i)(k:Src h it l i xs)(n:Src j it l p xs)(m:∀o,h.get? l=Y o->j.get? l=Y o):JO b j it l p:=by
 cases b
 .rcases n with⟨a,c⟩|⟨a,_⟩
  .rcases k with⟨⟨o,h1,f,_⟩,_⟩|⟨_,o,h1,f,_⟩
   .obtain⟨g,g1,g2,_⟩:=t;rw[h1]at g1;cases g1;rw[f]at g2;injection g2 with g2;exact absurd g2 (by decide)
   obtain⟨g,g1,g2,_⟩:=c;rw[m _ h1]at g1;cases g1;rw[f]at g2;injection g2 with g2;exact absurd g2 (by decide)
  exact a
 rcases n with⟨a,_⟩|⟨a,c⟩
 .exact a
 rcases k with⟨_,o,h1,f,_⟩|⟨⟨o,h1,f,_⟩,_⟩
 .obtain⟨g,g1,g2,_⟩:=c;rw[m _ h1]at g1;cases g1;rw[f]at g2;injection g2 with g2;exact absurd g2 (by decide)
 obtain⟨g,g1,g2,_⟩:=t;rw[h1]at g1;cases g1;rw[f]at g2;injection g2 with g2;exact absurd g2 (by decide)
end
def Mt(b:Bool)(K:jJ)(l:jh)(c:Int):It:=⟨λi H=>∃a x,GV b K H l a/\a[i]?=Y x,
 λi H x d=>∃(T:jh)(y:V),x=.ref T/\H T=U/\d=upd H T (.tup [.int<|c+i,y])/\∀a,GV b K H l a->a[i]?=Y y,λi H=>∃a,GV b K H l a/\(TD a)<=i⟩
def acb{P:jI}{w:jG}{K:jJ}{m:lg}{k1}{Y:bt}(b:Bool)(e it l:jh)(c:Int)(i7:e≠it):
  Turn P w K (.Tuple m k1 Y) (Mt b K l c) [e,it] e (λi h=>(∃old,ew h e it (c+i) old)/\JO b h it l i) where
 mem:=by simp
 obj:=λi h st a B=>by
  obtain⟨⟨old,f⟩,st⟩:=st;have y8:a=e\/a=it:=by simpa using B
  rcases y8 with rfl|rfl
  .exact⟨_,f,λv z=>by have z':fL _=fG v:=z;cases z'⟩
  exact st.obj
 keep:=λi h h' st k=>by obtain⟨⟨old,f⟩,st⟩:=st;exact⟨⟨old,k e (by simp) _ f⟩,st.keep λo q=>k it (by simp) o q⟩
 item:=by
  intro X G M T S i g s Z H E I r st J;subst G M T;obtain⟨⟨old,f⟩,st⟩:=st;obtain⟨xs,x,C,N⟩:=J;obtain⟨U,D,d⟩:=uh I C st;obtain⟨u,hu,ru⟩:=D.get N
  have Q:e≠l:=λz=>by subst z;have V:=(r e<|by simp).1;rcases d with⟨_,o,h1,A,_⟩|⟨_,o,h1,A,_⟩<;>(have F:s.heap.get? e=_:=f;rw[h1]at F;cases F;injection A with A;exact absurd A<|by decide)
  refine xZ f d (x:=u) (by simpa using hu) i7 Q λh' ho t hT hsz kp=>⟨.ref s.heap.objs.size,rfl,?_⟩
  refine wpAny_letOwnedTupleGo_enum ho λj n O=>?_;have p:e<s.heap.objs.size:=kX f
  have R:∀a o,a∉[e,it]->s.heap.get? a=SI o->j.get? a=SI o:=λa o L q=>by have W:a≠e:=λz=>L (by simp[z]);have n2:a≠it:=λz=>L (by simp[z]);exact O.extBut a o W<|kp a o W n2 q
  have dH:j.get? s.heap.objs.size=SI {cls:=.type "tuple",data:=.seq #[.int (c+i) s.toks,u]}:=O.extBut _ _ (qe p) hT
  have I1:Inv X g Z (upd H s.heap.objs.size<|.tup [.int<|c+i,x]) {s with heap:=j,toks:=s.toks+1}:=
   Bo I r R (kD _) (show Z7 X.prog X.w _ _ _ (.tup [.int<|c+i,x])from⟨by show 2<=sizeLine;decide,[.int (c+i) s.toks,u],.cons ⟨_,rfl⟩<|.cons ru .nil,_,dH,rfl,⟨0,rfl⟩,rfl⟩)
  have y:JO b j it l (i+1):=by refine G6 st d (t.keep (λo q=>O.extBut _ o i7.symm q) λo q=>O.extBut _ o Q.symm q) λo q=>R l o ?_ q;have:=d.ne;simp;exact⟨Q.symm,this⟩
  refine⟨.ref s.heap.objs.size,_,I1,rfl,⟨_,x,rfl,I.fresh,rfl,λys hy=>by rw[C4 I hy C];exact N⟩,⟨⟨u,?_⟩,y⟩,λa B=>?_⟩
  .have e1:c+((i+1:Nat):Int)=c+i+1:=by lia
   show ew j e it (c+((i+1:Nat):Int)) u;rw[e1];exact n
  have V:=(r a B).1;rw[ke]
  .exact V
  intro z;have l4:a=e\/a=it:=by simpa using B
  rcases l4 with rfl|rfl
  .exact absurd z (kU p)
  exact absurd z (kU d.lt.1)
 done:=by intro X G M T S i g s Z H E I r st J;subst G M T;obtain⟨⟨old,f⟩,st⟩:=st;obtain⟨xs,C,N⟩:=J;obtain⟨U,D,d⟩:=uh I C st;have hl:=D.length;exact yO (I.ok.hd S) f d (by simp;lia) λh' eb=>⟨rfl,Bp (t':=s.toks) I r λa o L q=>eb a o (λz=>L<|by simp[z]) q⟩
 self:=λ_ _ _ _ _ st h=>by obtain⟨⟨old,f⟩,_⟩:=st;exact sm f h
def zO{K H}(q:Hw b K H P a xs):GV b K H a xs:=by
 cases b
 .exact q.t
 exact q.l
def abE{K:jJ}{P O:Z5}{h:Hp}{a:jh}{g:List V}{l:List D}{b:Bool}{c:Int}(q:Hw b K h P a g)(r:Z9 K h O l g)(A:∀a,P a->O a):
  Ju K (Mt b K a c) (l.zipIdx.map λp=>.tup [.int<|c+p.2,p.1]) P O h:=by
 have sq:∀Hi,(∀a o,h a=Y o->¬P a->Hi a=Y o)->GV b K Hi a g:=λHi f=>zO<|q.mono f λ_ z=>z;refine⟨λi d Hi hd f=>?_,λi Hi M f=>⟨g,sq Hi f,by rw[r.length];simpa using M⟩⟩;rw[lh]at hd;obtain⟨⟨Q,j⟩,h1,u⟩:=jX hd;rw[FW]at h1;obtain⟨G,v,w⟩:=jX h1;obtain⟨rfl,rfl⟩:=sH w;obtain⟨x,s,H⟩:=r.get v;refine⟨⟨g,x,sq Hi f,s⟩,λy N E=>?_⟩;obtain⟨T,z,rfl,m,rfl,k⟩:=E;have k:=k g<|sq Hi f;rw[s]at k;cases k;have ext:=ly (o:=.tup [.int<|c+i,x]) m;refine⟨ext,λL h1 t=>?_⟩;subst u;refine Rep.J9 ⟨jL,t T m⟩<|Z9.cons ?_<|Z9.cons (Rep.mono (λb o e n=>ext b o<|f b o e λz=>n<|A b z) (λb B z=>h1 b B z) H) Z9.nil;simp;exact Rep.mkInt
open AutoSeq1 (wpAny_loadPart')
section
variable {e:jI}{w:jG}{A:jF}{E:jZ}{s:jk}
noncomputable def uB(it:jh)(c:Int):Obj:={cls:=.type "enumerate",data:=.fields #[.none,.bool I,.ref it,cf c,.none,.none]}
def acr(l:jh)(i:nJ):R1 (bc.«enumerate.__new__» ⟨[.type "enumerate",.ref l],[]⟩) (λ_ R s=>(s.heap.IsList l i\/s.heap.IsTuple l i)/\
  ∀f,Src f s.heap.objs.size l 0 i->f.objs.size=s.heap.objs.size+1->(∀b o,s.heap.get? b=Y o->f.get? b=Y o)->R (.ok<|.ret<|.ref f.objs.size) {s with heap:=f.push (uB s.heap.objs.size 0)}):=
 .of_wp λe w A R s h=>by
  obtain⟨k,g,d,n,os⟩:=s;obtain⟨j,h⟩:=h;have m:=sub_enumerate
  wp_walk
  refine wpAny_stack_any λst=>ju ?_;generalize Builtin.SmallTypes.calledThroughType.match_1 _ _ _ _=b;cases b<;>(wp_walk using Src.new j;intro f a b c;wp_walk;exact⟨_,rfl,h f a b c⟩)
def abw(f:s.heap.IsList l xs\/s.heap.IsTuple l xs)
  (h:∀d,Src d s.heap.objs.size l 0 xs->d.objs.size=s.heap.objs.size+1->(∀b o,s.heap.get? b=Y o->d.get? b=Y o)->Q (.ref d.objs.size) {s with heap:=d.push (uB s.heap.objs.size 0)}):
  aa (ae e w) A (call (.type "enumerate") [.ref l]) Q E s:=
 I8 F.called_enumerate (by decide) (F.typeCall_enumerate_1 _) (F.newCall_enumerate_1 _) (λobj=>Lp obj _) F.entry_enumerate_new (acr l xs) ⟨f,λd a b c=>⟨⟨_,kW _ rfl,rfl⟩,h d a b c⟩⟩
end
section
variable {X:Cx}{g:kf}{i:L2.St}{H:Hp}{s:jk}{m:lg}{t:Nat}{n:bt}
def Ri{R:It->Hp->Prop}{E:jZ}{b:Bool}{l:jh}{L:List V}{j:kF}{h':jH}{c:Int}(T:Inv X g i H s)(u:GV b X.K H l L)(k:Src h' s.heap.objs.size l 0 j.toArray)(h:h'.objs.size=s.heap.objs.size+1)
  (z:∀b o,s.heap.get? b=Y o->h'.get? b=Y o)(r:R (Mt b X.K l c) H):aa (ae X.prog X.w) X.A (cM<|.ref h'.objs.size) (PIE X g i (.Tuple m t n) R) E {s with heap:=h'.push (uB s.heap.objs.size c)}:=by
 have q:ew (h'.push<|uB s.heap.objs.size c) h'.objs.size s.heap.objs.size c .none:=kW _ rfl;refine sm q ?_;have d:Inv X g i H {s with heap:=h'.push (uB s.heap.objs.size c)}:=T.kept (t':=s.toks) λb o e=>kB _ (z b o e);have y:h'.objs.size≠s.heap.objs.size:=by rw[h];exact Nat.succ_ne_self _
 refine⟨h'.objs.size,[h'.objs.size,s.heap.objs.size],_,_,H,rfl,d,acb b h'.objs.size s.heap.objs.size l c y,⟨⟨.none,by simpa using q⟩,?_⟩,λa x=>?_,r⟩
 .have v:=k.keep (h':=h'.push<|uB s.heap.objs.size c) (λo e=>kB _ e) (λo e=>kB _ e)
  cases b
  .rcases v with⟨_,o,h1,f,_⟩|⟨a,_⟩
   .obtain⟨_,_,p,_⟩:=d.tuple u;obtain⟨Q,g1,g2,_⟩:=p;rw[h1]at g1;cases g1;rw[f]at g2;injection g2 with g2;exact absurd g2 (by decide)
   exact a
  rcases v with⟨a,_⟩|⟨_,o,h1,f,_⟩
  .exact a
  obtain⟨_,_,p,_⟩:=d.list u;obtain⟨Q,g1,g2,_⟩:=p.isList;rw[h1]at g1;cases g1;rw[f]at g2;injection g2 with g2;exact absurd g2 (by decide)
 have B:a=h'.objs.size\/a=s.heap.objs.size:=by simpa using x
 rcases B with rfl|rfl
 .exact T.Jq (by rw[h];exact uP _) (T.hok.fresh<|by rw[h];exact uP _)
 exact T.Jq (kD _) (T.hok.fresh<|kD _)
def Sa(K:jJ)(c:Int)(d:TA):TI:=λi H R=>d i H λe a=>∃b l f,e=[.ref l]/\GV b K a l f/\R (Mt b K l c) a
def GC(T:Inv X g i H s)(q:GV b X.K H l xs):∃a,Vals xs a/\(s.heap.IsList l a.toArray\/s.heap.IsTuple l a.toArray):=by
 cases b
 .obtain⟨a,v,p,_⟩:=T.tuple q;exact⟨a,v,.inr p⟩
 obtain⟨a,v,p,_⟩:=T.list q;exact⟨a,v,.inl p.isList⟩
def Rr:av "enumerate"=Y (.type "enumerate"):=by decide+kernel
def ada{a:jv}{j:TA}{p c:bt}(o:Gl X "enumerate")(v:X.mg "enumerate"=U)(k:PA X [a] j)(w:ac [a] X.env=[(I,aY a X.env)]):PI X (.Tuple m t n) (.Call (.Name "enumerate" p) [a] [] c) (Sa X.K 0 j):=by intro g s i H R T h;refine Call_<|qo T o v Rr<|zI (T2 (k c g s i H _ T h) ?_) w J;rintro us s1 ⟨E,H1,e,A,b,l,xs,hv,f,q⟩;subst hv;obtain⟨u,rfl,B⟩:=qC A;cases B;obtain⟨y,_,r⟩:=GC e f;exact abw r λQ d x z=>Ri e f d x z q
noncomputable def yj(c:Int)(f:F):DK:=λa=>(f a).bind λp=>match p.1.1 with
 |.tup l=>Y (l.zipIdx.map λq=>.tup [.int<|c+q.2,q.1],p.2)
 |.lst l=>Y (l.zipIdx.map λq=>.tup [.int<|c+q.2,q.1],p.2)
 |_=>U
def Qm{K:jJ}{T:Z5}{i:L2.St}{d c:Dn}{H:Hp}{r:D×Bool}{f:F}{Q:List V->Hp->Prop}(E:ER K H T i d)(h:f d=Y (r,c))(k:∀v l,AW i d H c l->ER K l T i c->Rep K l (λa=>Z8 i c a\/T a) r.1 v->Q [v] l):tA K [jB f] i H Q:=by
 refine⟨d,T,[.val r],c,E,?_,λw o x B=>?_⟩
 .show((jB f d).bind λp=>(lq [] p.2).bind λq=>Y (p.1::q.1,q.2))=_;simp only[jB,h,rd,lq]
 have u:=B.len;rcases w with _|⟨v,_|⟨_,_⟩⟩<;>try cases u
 exact k v o B.keep (B.er.mono (λ_ _ e _=>e) (λb _ z=>B.tt b z) λa z=>B.er.dom a<|B.tt a z)<|B.rep E (j:=0) J J
def adH{K:jJ}{B:SB}{c:Int}{f:F}{i:L2.St}{H:Hp}{R:It->Hp->Prop}(A:tI K B (yj c f) i H R):Sa K c (tA K [jB f]) i H R:=by
 obtain⟨L,T,x,r,E,e,k⟩:=A;obtain⟨⟨⟨d,o⟩,h⟩,h1,e⟩:=jl e;refine Qm E h1 λv j w u Q=>?_
 have key:∀{l},zQ d=Y l->Y (l.zipIdx.map λq=>D.tup [.int<|c+q.2,q.1],h)=Y (x,r)->∃b a p,[v]=[V.ref a]/\GV b K j a p/\R (Mt b K a c) j:=λy e=>by obtain⟨rfl,rfl⟩:=jS e;obtain⟨a,p,rfl,q,O⟩:=Bw y Q;have q:=q.mono (λ_ _ e _=>e) (P':=Kx B T i h) λa z=>z.own;exact⟨_,a,p,rfl,zO q,k _ j w u (abE q O λa z=>z.own)⟩
 cases d with
 |tup l=>exact key J e
 |lst l=>exact key J e
 |_=>cases e
end
section
variable {j:jI}{w:jG}{A:jF}{E:jZ}{s:jk}{z TI TO f d n l:jh}{k:Nat}{i g:nJ}{x y a b:jr}
def Sv{Q:jZ}(D:na z TI TO f d n l)(hz:eE s.heap z TI TO .none)(u7:ci s.heap TI (.ref f) (.ref d))(ao:ci s.heap TO a b)(h1:Src s.heap f n k i)(h2:Src s.heap d l k g)
  (hQ:∀x y,i[k]?=SI x->g[k]?=SI y->∀G,eE G z TI TO (cf s.heap.objs.size)->ci G TO x y->Src G f n (k+1) i->Src G d l (k+1) g->ci G s.heap.objs.size x y->(∀c o,c≠z->c≠TO->c≠f->c≠d->s.heap.get? c=SI o->G.get? c=SI o)->Q (.ref s.heap.objs.size) {s with heap:=G})
  (hE:i[k]?=SS\/g[k]?=SS->A.handled=SS/\∀G e,(∀c o,c≠z->c≠TO->c≠f->c≠d->s.heap.get? c=SI o->G.get? c=SI o)->(∃o,G.get? e=SI o/\o.cls=.type "StopIteration")->E (.ref e) {s with heap:=G}):
  aa (ae j w) A (bc.«zip.__next__» ⟨[.ref z],[]⟩) (λfin s'=>∃v,fin=.done (.ret v)/\Q v s') E s:=by
 have L:∀{h:jH}{e:jh}{oe:eM}{f0:jr},eE h z TI TO f0->h.get? e=SI oe->oe.cls=.type "StopIteration"->e≠z:=λhzz de P q=>by subst q;have V:_=_:=hzz;rw[de]at V;cases V;injection P with P;exact absurd P (by decide)
 refine ji (m:=im (.ref z) 2)<|pH hz Tl (x:=.bool Tk) Tl<|ji (m:=im (.ref z) 3)<|pH hz Tl (x:=.ref TI) Tl<|ji<|rn u7 Tl<|ji (m:=bu<|.ref z) ?_;unfold bu;refine ji<|pH hz Tl (x:=.none) Tl<|ju ?_;simp -iota only[nv];refine ji<|qy<|ji<|pH hz Tl (x:=.ref TO) Tl<|ji<|uM hz (by simp) λH eL R=>?_;replace eL:eE H z TI TO .ellipsis:=eL;refine ji ?_;simp -iota only[xE,List.zipIdx_nil,zF,pp];have c1:Src H f n k i:=h1.keep (λo e=>R.extBut _ o D.i1z e) λo e=>R.extBut _ o D.l1z e
 cases hx:i[k]? with
 |none=>obtain⟨hh,hE⟩:=hE<|.inl hx;refine ji<|ji<|Cz<|ji (m:=aP<|.ref f)<|c1.stop (s:={s with heap:=H}) hh hx ?_;rintro r e Y ⟨oe,de,P⟩;have M:eE r z TI TO .ellipsis:=Y _ _ D.i1z.symm eL;exact uM (s:={s with heap:=r}) M (by simp) λt _ T=>hE t e (λc o O _ d3 _ q=>T.extBut _ _ O (Y _ _ d3 (R.extBut _ _ O q))) ⟨oe,T.extBut _ _ (L M de P) de,P⟩
 |some x=>
  refine ji<|ji<|Cz<|ji (m:=aP<|.ref f)<|c1.item (s:={s with heap:=H}) hx λr X Y=>ju ?_;have B:ci r TO a b:=Y.extBut _ _ D.TOi1 (R.extBut _ _ D.TOz ao);refine ji<|rn (s:={s with heap:=r}) B Tl<|ji<|Lk (s:={s with heap:=r}) B λt dG T=>ji<|CD<|ju ?_;replace dG:ci t TO x b:=dG;have c2:Src t d l k g:=h2.keep (λo e=>T.extBut _ o D.TOi2.symm (Y.extBut _ o D.i12.symm (R.extBut _ o D.i2z e))) λo e=>T.extBut _ o D.l2TO (Y.extBut _ o D.l2i1 (R.extBut _ o D.l2z e))
  cases hy:g[k]? with
  |none=>obtain⟨hh,hE⟩:=hE<|.inr hy;refine ji<|ji<|Cz<|ji (m:=aP<|.ref d)<|c2.stop (s:={s with heap:=t}) hh hy ?_;rintro u e K ⟨oe,de,P⟩;have eK:eE u z TI TO .ellipsis:=K _ _ D.i2z.symm (T.extBut _ _ D.TOz.symm (Y.extBut _ _ D.i1z.symm eL));exact uM (s:={s with heap:=u}) eK (by simp) λp _ F=>hE p e (λc o O d2 d3 d4 q=>F.extBut _ _ O (K _ _ d4 (T.extBut _ _ d2 (Y.extBut _ _ d3 (R.extBut _ _ O q))))) ⟨oe,F.extBut _ _ (L eK de P) de,P⟩
  |some y=>
   refine ji<|ji<|Cz<|ji (m:=aP<|.ref d)<|c2.item (s:={s with heap:=t}) hy λu c2₄ K=>ju ?_;have C:ci u TO x b:=K.extBut _ _ D.TOi2 dG;refine ji<|rn (s:={s with heap:=u}) C Tl<|ji<|Lk (s:={s with heap:=u}) C λp bZ F=>ji<|CD<|ju<|ju ?_;replace bZ:ci p TO x y:=bZ;refine ji<|rn (s:={s with heap:=p}) bZ Tl<|ji<|CF (s:={s with heap:=p}) ?_;have hsz:p.objs.size=s.heap.objs.size:=by rw[F.1,K.1,T.1,Y.1,R.1]
   have N:eE p z TI TO .ellipsis:=F.extBut _ _ D.TOz.symm (K.extBut _ _ D.i2z.symm (T.extBut _ _ D.TOz.symm (Y.extBut _ _ D.i1z.symm eL)));have hk₅:∀c o,c≠z->c≠TO->c≠f->c≠d->s.heap.get? c=SI o->p.get? c=SI o:=λc o O d2 d3 d4 e=>F.extBut _ _ d2 (K.extBut _ _ d4 (T.extBut _ _ d2 (Y.extBut _ _ d3 (R.extBut _ _ O e))));have Z:Src p f n (k+1) i:=X.keep (λo e=>F.extBut _ o D.TOi1.symm (K.extBut _ o D.i12 (T.extBut _ o D.TOi1.symm e))) λo e=>F.extBut _ o D.l1TO (K.extBut _ o D.l1i2 (T.extBut _ o D.l1TO e));have c2₅:Src p d l (k+1) g:=c2₄.keep (λo e=>F.extBut _ o D.TOi2.symm e) λo e=>F.extBut _ o D.l2TO e;have S:z<p.objs.size:=kX N;refine ji (m:=bq (.ref z)<|.ref p.objs.size) ?_;unfold bq;have hz₆:eE (p.push {cls:=.type "tuple",data:=.seq #[x,y]}) z TI TO .ellipsis:=kB _ N;refine ji<|uM (s:={s with heap:=p.push {cls:=.type "tuple",data:=.seq #[x,y]}}) hz₆ (by simp) λW gK cK=>?_;replace gK:eE W z TI TO (cf p.objs.size):=gK;refine uM (s:={s with heap:=W}) gK (by simp) λI fM U=>?_;replace fM:eE I z TI TO (cf p.objs.size):=fM;have up:∀c o,c≠z->p.get? c=SI o->I.get? c=SI o:=λc o O e=>U.extBut _ _ O (cK.extBut _ _ O (kB _ e));have J:ci I p.objs.size x y:=U.extBut _ _ (qe S) (cK.extBut _ _ (qe S) (kW _ rfl));rw[hsz]at fM J;refine ju ⟨_,rfl,?_⟩;show Q (.ref p.objs.size) _;rw[hsz];exact hQ x y hx hy I fM (up _ _ D.TOz bZ) (Z.keep (λo e=>up _ o D.i1z e) λo e=>up _ o D.l1z e) (c2₅.keep (λo e=>up _ o D.i2z e) λo e=>up _ o D.l2z e) J λc o O d2 d3 d4 e=>up c o O<|hk₅ c o O d2 d3 d4 e
def zU{Q:Bn}(D:na z TI TO f d n l)(t:eE s.heap z TI TO .none)(M:ci s.heap TI (.ref f) (.ref d))(N:ci s.heap TO a b)(h1:Src s.heap f n k i)(L:Src s.heap d l k g)
  (O:∀x y,i[k]?=Y x->g[k]?=Y y->∀h,eE h z TI TO (cf s.heap.objs.size)->ci h TO x y->Src h f n (k+1) i->Src h d l (k+1) g->ci h s.heap.objs.size x y->(∀c o,c≠z->c≠TO->c≠f->c≠d->s.heap.get? c=Y o->h.get? c=Y o)->Q (Y<|.ref s.heap.objs.size) {s with heap:=h})
  (m:i[k]?=U\/g[k]?=U->A.handled=U/\∀h,(∀c o,c≠z->c≠TO->c≠f->c≠d->s.heap.get? c=Y o->h.get? c=Y o)->Q U {s with heap:=h}):
  aa (ae j w) A (cu<|.ref z) Q E s:=by
 have p:s.TypeIs (.ref z) "zip":=⟨_,t,rfl⟩
 unfold cu
 exact ji (vq (sV (name:=bv "__next__") p F.slot_zip_next (oI F.slot_zip_next p F.entry_zip_next
  (Sv D t M N h1 L (λx y q r h a1 u v B C H=>ju<|O x y q r h a1 u v B C H) λq=>⟨(m q).1,λh e hk ⟨o,J',G⟩=>ji<|xF (T:="StopIteration") (b:=Td) ⟨o,J',G⟩ CB<|ju<|(m q).2 _ hk⟩) (F.args_zip_next_1 _))))
end
def OX(j c:jh)(l i:nJ):R1 (bc.«zip.__new__» ⟨[.type "zip",.ref j,.ref c],[]⟩) (λ_ R s=>(s.heap.IsList j l\/s.heap.IsTuple j l)/\(s.heap.IsList c i\/s.heap.IsTuple c i)/\
  ∀h1 a,Src h1 s.heap.objs.size j 0 l->h1.objs.size=s.heap.objs.size+1->(∀b o,s.heap.get? b=Y o->h1.get? b=Y o)->Src a h1.objs.size c 0 i->a.objs.size=h1.objs.size+1->(∀b o,h1.get? b=Y o->a.get? b=Y o)->
   R (.ok<|.ret<|.ref ((a.push {cls:=.type "tuple",data:=.seq #[.ref s.heap.objs.size,.ref h1.objs.size]}).push {cls:=.type "tuple",data:=.seq #[.none,.none]}).objs.size)
    {s with heap:=((a.push {cls:=.type "tuple",data:=.seq #[.ref s.heap.objs.size,.ref h1.objs.size]}).push {cls:=.type "tuple",data:=.seq #[.none,.none]}).push {cls:=.type "zip",data:=.fields #[.none,.bool I,.bool I,.ref a.objs.size,.ref (a.push {cls:=.type "tuple",data:=.seq #[.ref s.heap.objs.size,.ref h1.objs.size]}).objs.size]}}):=
 .of_wp λm w A R s h=>by
  obtain⟨y,g,d,x,os⟩:=s;obtain⟨v,u,h⟩:=h;have z:=sub_zip
  wp_walk using Src.new v
  intro h1 a1 n k
  have f:h1.IsList c i\/h1.IsTuple c i:=by
   rcases u with⟨o,e,r⟩|⟨o,e,r⟩
   .exact .inl ⟨o,k _ _ e,r⟩
   exact .inr ⟨o,k _ _ e,r⟩
  wp_walk using Src.new (s:=⟨h1,g,d,x,os⟩) f
  intro a p q t
  wp_walk
  exact⟨_,rfl,h h1 a a1 n k p q t⟩
def ItZ(c d:Bool)(K:jJ)(e f:jh):It:=⟨λi H=>∃a b x y,GV c K H e a/\GV d K H f b/\a[i]?=Y x/\b[i]?=Y y,
 λi H x g=>∃(T:jh)(u v:V),x=.ref T/\H T=U/\g=upd H T (.tup [u,v])/\∀a b,GV c K H e a->GV d K H f b->a[i]?=Y u/\b[i]?=Y v,
 λi H=>∃a b,GV c K H e a/\GV d K H f b/\(TD a<=i\/(TD b)<=i)⟩
structure ZA(z TI TO i1 i2:jh):Prop where
 a1:TI≠z
 a2:TO≠z
 a3:i1≠z
 a4:i2≠z
 a5:TI≠TO
 a6:TI≠i1
 a7:TI≠i2
 a8:TO≠i1
 a9:TO≠i2
 a10:i1≠i2
def wz{b:Bool}{K:jJ}{H:Hp}{l:jh}{m:List V}{X:Cx}{c:kf}{p:L2.St}{s:jk}(T:Inv X c p H s)(k:X.K=K)(q:GV b K H l m){h:lG}(i:∀a∈h,ud X c H a):l∉h:=by
 subst k;intro j;have d:=(i l j).1
 have base:∀o,X.K.lookup l=Y o->False:=λo e=>by
  have g:=T.mod.kin l o e;rcases(i l j).2.2.2.1 with z|z
  .exact T.ok.noex l o g z
  have:=(T.ok.bs l o g).1;exact absurd (kX this)<|LB.mpr z
 cases b
 .rcases q with(q|⟨o,q⟩)|⟨o,f,n,e,_⟩
  .rw[d]at q;cases q
  .rw[d]at q;cases q
  exact base o e
 rcases q with(q|⟨o,q⟩)|⟨o,f,n,e,_⟩
 .rw[d]at q;cases q
 .rw[d]at q;cases q
 exact base o e
def acW{P:jI}{w:jG}{K:jJ}{Y:lg}{k1}{pos:bt}(b1 b2:Bool)(z TI TO m n J M:jh)(D:ZA z TI TO m n):
  Turn P w K (.Tuple Y k1 pos) (ItZ b1 b2 K J M) [z,TI,TO,m,n] z (λi h=>eE h z TI TO .none/\ci h TI (.ref m) (.ref n)/\(∃a b,ci h TO a b)/\JO b1 h m J i/\JO b2 h n M i) where
 mem:=by simp
 obj:=λi h st a G=>by
  obtain⟨l,p,⟨u,v,t⟩,s1,C⟩:=st;simp at G;rcases G with rfl|rfl|rfl|rfl|rfl
  .exact⟨_,l,λv e=>by have U:fL _=fG v:=e;cases U⟩
  .exact⟨_,p,λv e=>by have U:Fk _ _=fG v:=e;cases U⟩
  .exact⟨_,t,λv e=>by have U:Fk _ _=fG v:=e;cases U⟩
  .exact s1.obj
  exact C.obj
 keep:=λi h h' st k=>by obtain⟨l,p,⟨u,v,t⟩,s1,C⟩:=st;exact⟨k z (by simp) _ l,k TI (by simp) _ p,⟨u,v,k TO (by simp) _ t⟩,s1.keep λo q=>k m (by simp) o q,C.keep λo q=>k n (by simp) o q⟩
 item:=by
  intro X hP hw L hc i B s σ H E I A st hg;obtain⟨l,p,⟨a0,b0,t⟩,s1,C⟩:=st;obtain⟨xs,ys,x,y,T,Q,hx,hy⟩:=hg;have d:=wz I L T A;have f:=wz I L Q A;simp at d f;subst hP hw L;obtain⟨cR,gx,S⟩:=uh I T s1;obtain⟨b9,Z,N⟩:=uh I Q C;obtain⟨u,hu,ru⟩:=gx.get hx;obtain⟨v,hv,rv⟩:=Z.get hy;have AP:na z TI TO m n J M:=⟨D.a1,D.a2,D.a3,D.a4,D.a5,D.a6,D.a7,D.a8,D.a9,D.a10,d.1,d.2.2.1,d.2.2.2.1,d.2.2.2.2,f.1,f.2.2.1,f.2.2.2.1,f.2.2.2.2⟩
  refine zU AP l p t S N (λx' y' q r h' z' t1 c1 c2 hT V=>?_) λq=>absurd q (by simp[hu,hv]);obtain rfl:u=x':=by simpa[hu]using q
  obtain rfl:v=y':=by simpa[hv]using r
  refine⟨.ref s.heap.objs.size,rfl,?_⟩;refine wpAny_letOwnedTupleGo_zip (s:={s with heap:=h'}) z' λO z'' j=>?_;replace j:au z h' O:=j
  have W:∀a o,a∉[z,TI,TO,m,n]->s.heap.get? a=SI o->O.get? a=SI o:=λa o g q=>by simp at g;exact j.extBut a o g.1<|V a o g.1 g.2.2.1 g.2.2.2.1 g.2.2.2.2 q
  have lt:∀{c o},s.heap.get? c=SI o->s.heap.objs.size≠c:=λe=>qe<|kX e;have dH:ci O s.heap.objs.size u v:=j.extBut _ _ (lt l) hT
  have I1:Inv X B σ (upd H s.heap.objs.size<|.tup [x,y]) {s with heap:=O}:=
   Bo (t':=s.toks) I A W (kD _) (show Z7 X.prog X.w _ _ _ (.tup [x,y])from⟨by show 2<=sizeLine;decide,[u,v],.cons ru<|.cons rv .nil,_,dH,rfl,⟨0,rfl⟩,rfl⟩)
  have F:JO b1 O m J (i+1):=G6 s1 S (c1.keep (λo q=>j.extBut _ o D.a3 q) λo q=>j.extBut _ o d.1 q) λo q=>W J o (by simp;exact d) q;have R:JO b2 O n M (i+1):=G6 C N (c2.keep (λo q=>j.extBut _ o D.a4 q) λo q=>j.extBut _ o f.1 q) λo q=>W M o (by simp;exact f) q;refine⟨.ref s.heap.objs.size,_,I1,rfl,⟨_,x,y,rfl,I.fresh,rfl,λdO ys' q1 q2=>by rw[C4 I q1 T,C4 I q2 Q];exact⟨hx,hy⟩⟩,⟨z'',j.extBut _ _ D.a1 (V _ _ D.a1 D.a5 D.a6 D.a7 p),⟨u,v,j.extBut _ _ D.a2 t1⟩,F,R⟩,λa G=>?_⟩;have n0:=(A a G).1;rw[ke]
  .exact n0
  intro e;simp at G;rcases G with rfl|rfl|rfl|rfl|rfl
  .exact lt l e.symm
  .exact lt p e.symm
  .exact lt t e.symm
  .exact absurd e (kU S.lt.1)
  exact absurd e (kU N.lt.1)
 done:=by
  intro X hP hw L hc i B s σ H E I A st hg;obtain⟨l,p,⟨a0,b0,t⟩,s1,C⟩:=st;obtain⟨xs,ys,T,Q,hend⟩:=hg;have d:=wz I L T A;have f:=wz I L Q A;simp at d f;subst hP hw L;obtain⟨cR,gx,S⟩:=uh I T s1;obtain⟨b9,Z,N⟩:=uh I Q C;have e1:=gx.length;have e2:=Z.length;have AP:na z TI TO m n J M:=⟨D.a1,D.a2,D.a3,D.a4,D.a5,D.a6,D.a7,D.a8,D.a9,D.a10,d.1,d.2.2.1,d.2.2.2.1,d.2.2.2.2,f.1,f.2.2.1,f.2.2.2.1,f.2.2.2.2⟩
  refine zU AP l p t S N (λx y q r=>?_) λ_=>⟨I.ok.hd hc,λh' V=>⟨rfl,Bp (t':=s.toks) I A λa o g q=>?_⟩⟩
  .have z1:=(Jn.mp q).1;have z2:=(Jn.mp r).1;simp at z1 z2;omega
  simp at g;exact V a o g.1 g.2.2.1 g.2.2.2.1 g.2.2.2.2 q
 self:=λ_ _ _ _ _ st h=>t8 st.1 h
def adJ{K:jJ}{P O:Z5}{g:Hp}{a1 r:jh}{f h:List V}{A B:List D}{s t:Bool}(l:Hw s K g P a1 f)(L:Z9 K g O A f)(m:Hw t K g P r h)(Q:Z9 K g O B h)(C:∀a,P a->O a):
  Ju K (ItZ s t K a1 r) ((A.zip B).map λp=>.tup [p.1,p.2]) P O g:=by
 have sq:∀{b:Bool}{a:jh}{f:List V},Hw b K g P a f->∀Hi,(∀a o,g a=SI o->¬P a->Hi a=SI o)->GV b K Hi a f:=λq Hi c=>zO<|q.mono c λ_ z=>z;refine⟨λi d Hi hd c=>?_,λi Hi U c=>⟨f,h,sq l Hi c,sq m Hi c,by rw[L.length,Q.length];simp at U;lia⟩⟩;rw[lh]at hd;obtain⟨⟨X,Z⟩,h1,J⟩:=jX hd;obtain⟨M,N⟩:=DT.mp h1;obtain⟨x,H,F⟩:=L.get M;obtain⟨y,I,R⟩:=Q.get N;refine⟨⟨f,h,x,y,sq l Hi c,sq m Hi c,H,I⟩,λv S k=>?_⟩;obtain⟨T,u,w,rfl,E,rfl,Y⟩:=k;obtain⟨g1,g2⟩:=Y f h (sq l Hi c)<|sq m Hi c;rw[H]at g1;cases g1;rw[I]at g2;cases g2;have ext:=ly (o:=.tup [x,y]) E;refine⟨ext,λW h1 G=>?_⟩;subst J;exact Rep.J9 ⟨jL,G T E⟩<|Z9.cons (Rep.mono (λb o e n=>ext b o<|c b o e λz=>n<|C b z) (λb j z=>h1 b j z) F)<|Z9.cons (Rep.mono (λb o e n=>ext b o<|c b o e λz=>n<|C b z) (λb j z=>h1 b j z) R) Z9.nil
section
variable {X:Cx}{d:lg}{n:Nat}{r:bt}
def Vb:av "zip"=Y (.type "zip"):=by decide+kernel
def Zq(K:jJ)(g:TA):TI:=λk H R=>g k H λh a=>∃e f b c i j,h=[.ref b,.ref c]/\GV e K a b i/\GV f K a c j/\R (ItZ e f K b c) a
def IH(T:Inv X pins σ H s)(f:GV b X.K H l xs)(c:Src s.heap it l i g):JO b s.heap it l i:=by
 cases b
 .rcases c with⟨_,o,h1,e,_⟩|⟨a,_⟩
  .obtain⟨_,_,p,_⟩:=T.tuple f;obtain⟨h,g1,g2,_⟩:=p;rw[h1]at g1;cases g1;rw[e]at g2;injection g2 with g2;exact absurd g2 (by decide)
  exact a
 rcases c with⟨a,_⟩|⟨_,o,h1,e,_⟩
 .exact a
 obtain⟨_,_,p,_⟩:=T.list f;obtain⟨h,g1,g2,_⟩:=p.isList;rw[h1]at g1;cases g1;rw[e]at g2;injection g2 with g2;exact absurd g2 (by decide)
def Uc{a b:jv}{O:TA}{p j:bt}(hg:Gl X "zip")(hm:X.mg "zip"=SS)(w:PA X [a,b] O)(hs:ac [a,b] X.env=(I,aY a X.env)::ac [b] X.env)(f9:(aV j<|ac [b] X.env).any (·.1)=I):
  PI X (.Tuple d n r) (.Call (.Name "zip" p) [a,b] [] j) (Zq X.K O):=by
 intro i s0 Q T R A h;refine we<|qo A hg hm Vb<|zI (T2 (w j i s0 Q T _ A h) ?_) hs f9;rintro us s ⟨vs,H,I',r1,J',M,E,L,xs,ys,hv,C',B,q⟩;subst hv;obtain⟨u,v,rfl,ru,rv⟩:=wm r1;cases ru;cases rv;obtain⟨S,_,Y⟩:=GC I' C';obtain⟨N,_,U⟩:=GC I' B;refine I8 F.called_zip (by decide) (F.typeCall_zip_2 _ _) (F.newCall_zip_2 _ _) (λobj=>F.args_object_init_3 obj _ _) F.entry_zip_new (OX E L S.toArray N.toArray) ⟨Y,U,λh1 f D z1 n P z2 z=>?_⟩;generalize k:({cls:=.type "tuple",data:=.seq #[.ref s.heap.objs.size,.ref h1.objs.size]}:eM)=g;generalize l:({cls:=.type "tuple",data:=.seq #[.none,.none]}:eM)=o4;have z3:(f.push g).objs.size=f.objs.size+1:=oV ..;have z4:((f.push g).push o4).objs.size=f.objs.size+2:=by rw[oV,z3]
 generalize m:({cls:=.type "zip",data:=.fields #[.none,.bool I,.bool I,.ref f.objs.size,.ref (f.push g).objs.size]}:eM)=o5;have g5:(((f.push g).push o4).push o5).get? ((f.push g).push o4).objs.size=SI o5:=kW _ (by rw[<-m];rfl);have g4:(((f.push g).push o4).push o5).get? (f.push g).objs.size=SI o4:=kB _ (kW _ (by rw[<-l];rfl));have Z:(((f.push g).push o4).push o5).get? f.objs.size=SI g:=kB _ (kB _ (kW _ (by rw[<-k];rfl)));have t:∀c o,f.get? c=SI o->(((f.push g).push o4).push o5).get? c=SI o:=λc o e=>kB _ (kB _ (kB _ e));have y:eE (((f.push g).push o4).push o5) ((f.push g).push o4).objs.size f.objs.size (f.push g).objs.size .none:=by show _=_;rw[g5,<-m]
 have u7:ci (((f.push g).push o4).push o5) f.objs.size (.ref s.heap.objs.size) (.ref h1.objs.size):=by show _=_;rw[Z,<-k]
 have G:ci (((f.push g).push o4).push o5) (f.push g).objs.size .none .none:=by show _=_;rw[g4,<-l]
 have x:Inv X i Q H {s with heap:=((f.push g).push o4).push o5}:=I'.kept (t':=s.toks) λc o e=>t c o<|z c o<|n c o e;have V:=D.keep (h':=((f.push g).push o4).push o5) (λo e=>t _ o (z _ o e)) λo e=>t _ o (z _ o e);have W:=P.keep (h':=((f.push g).push o4).push o5) (λo e=>t _ o e) λo e=>t _ o e;refine⟨⟨_,y,rfl⟩,t8 (s:={s with heap:=((f.push g).push o4).push o5}) y ?_⟩;refine⟨((f.push g).push o4).objs.size,[((f.push g).push o4).objs.size,f.objs.size,(f.push g).objs.size,s.heap.objs.size,h1.objs.size],_,_,H,rfl,x,acW J' M _ _ _ _ _ E L ⟨?_,?_,?_,?_,?_,?_,?_,?_,?_,?_⟩,⟨y,u7,⟨_,_,G⟩,IH x C' V,IH x B W⟩,λa w=>?_,q⟩
 case refine_11=>
  have le:s.heap.objs.size<=a:=by simp only[nQ,qv,or_false]at w;rcases w with rfl|rfl|rfl|rfl|rfl<;>lia
  exact I'.Jq le<|I'.hok.fresh le
 all_goals lia
def yi(f g:FO):DK:=λδ=>(f δ).bind λp=>(g p.2).bind λq=>(res q.2 p.1).bind λx=>(res q.2 q.1).bind λy=>(zQ x).bind λl=>(zQ y).bind λm=>Y ((l.zip m).map λp=>.tup [p.1,p.2],q.2)
def ac7{B:SB}{a b:jv}{f g:FO}{p c:bt}(hg:Gl X "zip")(hm:X.mg "zip"=SS)(ha:PO X a f)(hb:PO X b g)(I:Mj B f)(L:Mj B g)(w:ac [a,b] X.env=(Tk,aY a X.env)::ac [b] X.env)(G:ac [b] X.env=(Tk,aY b X.env)::ac [] X.env)(J:(aV c<|ac [b] X.env).any (·.1)=Tk):
  Kv X B (.Tuple d n r) (.Call (.Name "zip" p) [a,b] [] c) (yi f g):=PI.imp' (Uc hg hm (tx ha (tx hb yZ G) w) w J) λσ H R F=>by
 obtain⟨δ,T,ds,δ',E,e,k⟩:=F;obtain⟨K,δ1,h1,e⟩:=jw e;obtain⟨P,t,h,e⟩:=jw e;obtain⟨x,M,e⟩:=jl e;obtain⟨y,N,e⟩:=jl e;obtain⟨l,U,e⟩:=jl e;obtain⟨m,Y,e⟩:=jl e;obtain⟨rfl,rfl⟩:=jS e;dsimp only at h;refine⟨δ,T,[K,P],t,E,?_,λS O T1 W=>?_⟩
 .simp only[lq,h1,h,rd]
 have D:=W.len;rcases S with _|⟨v,_|⟨u,_|⟨_,_⟩⟩⟩<;>try cases D
 obtain⟨a1,V,rfl,A,q⟩:=W.seq E (j:=0) Tl Tl M U λi o=>I _ _ _ (o▸h1);obtain⟨Q,Z,rfl,C,s⟩:=W.seq E (j:=1) Tl Tl N Y λi o=>L _ _ _ (o▸h);exact⟨_,_,a1,Q,V,Z,rfl,zO A,zO C,k _ O W.keep (W.er.mono (λ_ _ e _=>e) (λb _ z=>W.tt b z) λa z=>W.er.dom a<|W.tt a z) (adJ A q C s λa z=>z.own)⟩
end
end PX
namespace TS
def Ask(M:gy)(A:jF)(G:jk->Prop)(it:Nat->eF)(d:n3)(N:Nat)(lt:Nat->Nat->Bool):Prop:= ∀i j,i<N->j<N->∀s,G s->∀a,aa M A (B1 d (it i).1 (it j).1) (λb c=>G c/\b=lt i j) a s
structure Cs where
 M:gy
 A:jF
 E:jr->jk->Prop
 G:jk->Prop
 it:Nat->eF
 lt:Nat->Nat->Bool
 κ:n3
 N:Nat
 as:∀i j,lt i j=Td->lt j i=Tk
 tr:∀{i j k},lt j i=Tk->lt k j=Tk->lt k i=Tk
 ask:Ask M A G it κ N lt
section
variable {X:Cs}{α β:Type}{f:α->StateT sy dc β}{Q:β->sy->Prop}{st:sy}
def wp(X:Cs){α:Type}(m:StateT sy dc α)(Q:α->sy->Prop)(st:sy):Prop:= ∀s,X.G s->aa X.M X.A (m.run st) (λr a=>X.G a/\Q r.1 r.2) X.E s
def jx{a:β}(h:Q a st):wp X (pure a) Q st:=λs g=>by rw[FQ];exact ju ⟨g,h⟩
def lu{m:StateT sy dc α}(h:wp X m (λa c=>wp X (f a) Q c) st):wp X (m>>=f) Q st:=λs g=>by rw[StateT.run_bind];exact ji<|oJ (h s g) (λr d b=>b.2 d b.1) λ_ _ e=>e
def HE{m:StateT sy dc α}{Q b:α->sy->Prop}(h:wp X m Q st)(i:∀a c,Q a c->b a c):wp X m b st:=λs g=>oJ (h s g) (λr _ d=>⟨d.1,i _ _ d.2⟩) λ_ _ e=>e
def kg{c:Prop}[Decidable c]{t e:StateT sy dc β}(h1:c->wp X t Q st)(a: ¬c->wp X e Q st):wp X (if c then t else e) Q st:=by split<;>simp_all
def pK{f:sy->StateT sy dc β}(h:wp X (f st) Q st):wp X (get>>=f) Q st:=lu λs g=>by rw[StateT.run_get];exact ju ⟨g,h⟩
def vH{g:sy->sy}{f:PUnit->StateT sy dc β}(h:wp X (f ⟨⟩) Q (g st)):wp X (modify g>>=f) Q st:=lu λs g=>by rw[StateT.run_modify];exact ju ⟨g,h⟩
def HF{m:dc α}(h:∀s,X.G s->aa X.M X.A m (λa b=>X.G b/\wp X (f a) Q st) X.E s):wp X (liftM m>>=f) Q st:=lu λs g=>by show aa X.M X.A ((StateT.lift m:StateT sy dc α).run st) _ X.E s;rw[StateT.run_lift];exact ji<|oJ (h s g) (λa b c=>ju c) λ_ _ e=>e
def ue{x:String}{f:Unit->StateT sy dc β}(h:wp X (f ()) Q st):wp X (liftM (rule x)>>=f) Q st:=HF λs g=>qy ⟨g,h⟩
def Pj{e:Nat}{g:Nat->α->StateT sy dc (ForInStep α)}{T:Nat->α->sy->Prop}{O:α->sy->Prop}
  (m:∀i c st,i<e->T i c st->wp X (g i c) (λr b=>match r with|.done d=>O d b|.yield d=>T (i+1) d b) st)(l:∀c st,T e c st->O c st):
  ∀(n a:Nat)(c:α)(st:sy),a+n=e->T a c st->wp X (fq (bz a n 1) c g) O st:=by
 intro p
 induction p with
 |zero=>intro a c st rfl h;exact jx<|l _ _ h
 |succ n o=>
  intro a c st q h;rw[vp,zF];refine lu<|HE (m a c st (by lia) h) λr b k=>?_
  cases r with
  |done j=>exact jx k
  |yield j=>exact o _ j b (by lia) k
def nA{g:Nat->α->StateT sy dc (ForInStep α)}(T:Nat->α->sy->Prop)(O:α->sy->Prop){a b:Nat}{c:α}(h:T a c st)
  (l:∀i c st,i<a+(b-a)->T i c st->wp X (g i c) (λr e=>match r with|.done d=>O d e|.yield d=>T (i+1) d e) st)
  (j:∀c st,T (a+(b-a)) c st->O c st)(k:∀c st,O c st->wp X (f c) Q st):wp X (fq [a:b] c g>>=f) Q st:=by
 refine lu<|HE ?_ k;rw[Lj];exact Pj l j _ _ _ _ (by simp) h
noncomputable abbrev ar(X:Cs)(l:kz):Array Keyed:=(l.map X.it).toArray
def mU{l:kz}{i x:Nat}{f:eF->StateT sy dc β}(e:l[i]?=Y x)(h:wp X (f<|X.it x) Q st):wp X (elem' (ar X l) i>>=f) Q st:=lu (by rw[elem'_eq,show(ar X l)[i]?=Y (X.it x) by simp[e]];exact jx h)
def D1{i j:Nat}{f:Option Bool->StateT sy dc β}(hk:kindOf st=X.κ)(k:i<X.N)(l:j<X.N)(h:∀b,X.lt i j=b->wp X (f<|Y b) Q st):wp X (lt' (X.it i) (X.it j)>>=f) Q st:=lu (by rw[lt'_eq];refine pK ?_;rw[hk];refine HF λs g=>vq<|oJ (X.ask i j k l s g λ_ _=>False) (λb m c=>?_) λe m d=>d.elim;obtain⟨a,rfl⟩:=c;exact⟨a,jx<|h _ rfl⟩)
structure Rp(X:Cs)(q:Array (Nat×Nat×Nat))(L:kz)(st:sy):Prop where
 a:fI st=ar X L
 k:kindOf st=X.κ
 f:f3 st=SS
 q:pendingOf st=q
 p:L.Perm (am X.N)
def Rp.n{q:Array (Nat×Nat×Nat)}{L:kz}(R:Rp X q L st){i x:Nat}(e:L[i]?=Y x):x<X.N:=by simpa using R.p.mem_iff.mp<|lX e
def D2{q:Array (Nat×Nat×Nat)}{L:kz}(R:Rp X q L st){i j x y:Nat}{f:Option Bool->StateT sy dc β}(c:L[i]?=Y x)(d:L[j]?=Y y)(h:∀b,X.lt x y=b->wp X (f<|Y b) Q st):wp X (ltAt' i j>>=f) Q st:=lu (by rw[ltAt'_eq];refine pK ?_;rw[R.a];exact mU c<|mU d<|by rw[<-bind_pure (lt' _ _)];exact D1 R.k (R.n c) (R.n d) λb e=>jx<|h b e)
def aaV{α:Type}(T A R:List α){d:Nat}(hd:d=(TD A) / 2):mirror (T++(A++R)).toArray (TD T) (TD T+TD A) d=(T++(A.reverse++R)).toArray:=by
 have hd:d=(TD T+TD A-TD T) / 2:=by lia
 subst hd;apply Array.ext_getElem?;intro k;rw[getElem?_mirror_all<|by simp];simp;by_cases h1:k<TD T
 .rw[jP<|by lia,qc h1,qc h1]
 obtain⟨k,rfl⟩:=Nat.exists_eq_add_of_le<|n5 h1;rw[pJ (by lia) (l₂:=A.reverse++R),Cy];by_cases a:k<TD A
 .rw[jz<|by lia,pJ<|by lia,qc<|by lia,qc<|by simpa using a,List.getElem?_reverse a]
  congr 1;lia
 rw[jP<|by lia,pJ<|by lia,Cy,pJ<|by lia,pJ<|by simpa using a,List.length_reverse]
def aaM{α:Type}(R:List α)(x:α):∀(A T:List α){i:Nat},i=TD T+TD A->bubble (T++(A++x::R)).toArray i (TD A)=(T++(x::(A++R))).toArray:=by
 intro c
 induction c with
 |nil=>intro T i h;exact J
 |cons a A b=>
  intro T i h;have:=b (T++[a]) (i:=i) (by simp at h ⊢;lia);rw[oH,bubble_succ,show T++(a::A++x::R)=T++[a]++(A++x::R) by simp,this];have e:i-TD A=TD T+1:=by simp at h;lia
  rw[e,kv];simp[Array.swapIfInBounds]
variable {q:Array (Nat×Nat×Nat)}{T A R:kz}{i j x:Nat}
def LO{b:Bm}{L a:kz}(S:Rp X q L st)(e:b=ar X a)(p:a.Perm L):Rp X q a (setArr st b):=⟨e,S.k,S.f,S.q,p.trans S.p⟩
def Gx{f:Unit->StateT sy dc β}(S:Rp X q (T++(A++R)) st)(c:i=TD T)(e:j=TD T+TD A)(h:∀b,Rp X q (T++(A.reverse++R)) b->wp X (f ()) Q b):wp X (F0 i j>>=f) Q st:=by rw[reverseSlice'_eq];subst c e;refine vH<|h _ (LO S ?_<|((Cw A).append_right R).append_left T);have:=aaV (T.map X.it) (A.map X.it) (R.map X.it) (d:=(TD T+TD A-TD T) / 2) (by simp);simpa[ar,S.a]using this
def SW{f:Unit->StateT sy dc β}(S:Rp X q (T++(A++x::R)) st)(c:i=TD T+TD A)(d:j=TD T)(h:∀b,Rp X q (T++(x::(A++R))) b->wp X (f ()) Q b):wp X (moveDown' i j>>=f) Q st:=by rw[moveDown'_eq];subst c d;refine vH<|h _ (LO S ?_<|OU.symm.append_left T);have:=aaM (R.map X.it) (X.it x) (A.map X.it) (T.map X.it) (i:=TD T+TD A) (by simp);simpa[ar,S.a]using this
end
abbrev Cs.le(X:Cs)(i j:Nat):Prop:=X.lt j i=I
section
variable {X:Cs}{o:Type}{Q:o->sy->Prop}{st:sy}{q:Array (Nat×Nat×Nat)}{T A B D R L:kz}{i j x y:Nat}{r:Nat->Nat->Prop}
def Kr(h:i=TD T+TD A):(T++(A++x::R))[i]?=Y x:=by subst h;simp
def ix1(h:i=TD T+TD A+1):(T++(A++x::y::R))[i]?=Y y:=by subst h;rw[<-qb,pJ<|by simp];simp
def Ea(u:D.Pairwise r)(h:∀z∈D,r z y):(D++[y]).Pairwise r:=sv.mpr ⟨u,Li _ _,λa c b d=>DR.mp d▸h a c⟩
def EF(e:∀{a b c},r a b->r b c->r a c)(u:(D++[x]).Pairwise r)(h:r x y):∀z∈D++[x],r z y:=λz d=>by
 rcases qm.mp d with d|d
 .exact e ((sv.mp u).2.2 z d x la) h
 rw[DR.mp d];exact h
def LW{g:Nat->Option (Option Nat)×Nat->StateT sy dc (ForInStep<|Option (Option Nat)×Nat)}{f:Option (Option Nat)×Nat->StateT sy dc o}{lo n m:Nat}
  (p:∀i n,g i (U,n)=(ltAt' (lo+n) (lo+n-1)>>=λx=>match x with|some b=>if b=C then pure (.done (U,n))else pure (.yield (U,n+1))|_=>pure<|.done (Y U,n)))
  (S:Rp X q (T++(A++x::R)) st)(v:(TD T)=lo)(t:n=TD A+1)(a:m=n+R.length)(u:(A++[x]).Pairwise X.le)
  (h:∀A x R,Rp X q (T++(A++x::R)) st->m=TD A+1+R.length->(A++[x]).Pairwise X.le->(∀y l,R=y::l->X.lt y x=C)->wp X (f (U,TD A+1)) Q st):wp X (fq [n:m] (U,n) g>>=f) Q st:=by
 refine nA (λi c s=>s=st/\c=(U,i)/\∃A x R,Rp X q (T++(A++x::R)) st/\i=TD A+1/\m=i+R.length/\(A++[x]).Pairwise X.le)
  (λc s=>s=st/\∃A x R,Rp X q (T++(A++x::R)) st/\c=(U,TD A+1)/\m=TD A+1+R.length/\(A++[x]).Pairwise X.le/\∀y l,R=y::l->X.lt y x=C) ⟨rfl,rfl,A,x,R,S,t,a,u⟩ ?_ ?_ ?_
 .rintro i c s d ⟨rfl,rfl,A,x,R,S,rfl,h1,u⟩;rw[p];obtain⟨y,l,rfl⟩:=sP (l:=R) (by lia);refine D2 S (ix1<|by lia) (Kr<|by lia) λb e=>?_
  cases b
  .exact jx ⟨rfl,rfl,A++[x],y,l,by simpa using S,by simp,by simp at h1;lia,Ea u<|EF X.tr u e⟩
  exact jx ⟨rfl,A,x,_,S,rfl,h1,u,λ_ _ k=>by cases k;exact e⟩
 .rintro c s ⟨rfl,rfl,A,x,R,S,d,h1,u⟩;exact⟨rfl,A,x,R,S,by rw[d],by lia,u,λy l e=>by subst e;simp at h1;lia⟩
 rintro c s ⟨rfl,A,x,R,S,rfl,a,u,e⟩;exact h A x R S a u e
def LP{c:Prop}[Decidable c]{k:StateT sy dc o}(S:Rp X q (T++(A++R)) st)(e:i=TD T)(f:j=TD T+TD A)(d: ¬c->TD A=1)(h:∀b,Rp X q (T++(A.reverse++R)) b->wp X k Q b):wp X (if c then F0 i j>>=λ_=>k else k) Q st:=kg (λ_=>Gx S e f h) λz=>h _ (by obtain⟨a,rfl⟩:=Vz.mp<|d z;exact S)
def dnT(d:(A++B).Pairwise λa b=>X.le b a)(u:B.Pairwise X.le):(A++B.reverse).Pairwise λa b=>X.le b a:=by rw[sv]at d ⊢;exact⟨d.1,Gv.mpr u,λa c b e=>d.2.2 a c b<|me.mp e⟩
def Cs.rf(X:Cs)(i:Nat):X.le i i:=lw.mpr λh=>mm<|h.symm.trans<|X.as i i h
def RH{k m:StateT sy dc o}(P:sy->Prop)(b:(∀a,P a->wp X k Q a)->wp X m Q st)(hk:∀a,P a->wp X k Q a):wp X m Q st:=b hk
def acT{lo m:Nat}{Q:Option Nat->sy->Prop}(S:Rp X q (T++x::R) st)(p:(TD T)=lo)(f:m=1+R.length)(h:∀A R g,Rp X q (T++(A++R)) g->A≠[]->A.Pairwise X.le->m=TD A+R.length->Q (Y<|TD A) g):wp X (countRun' lo m) Q st:=by
 have fin:∀A x R g,Rp X q (T++(A++x::R)) g->m=TD A+1+R.length->(A++[x]).Pairwise X.le->Q (Y<|TD A+1) g:=λA x R g S f u=>by simpa using h (A++[x]) R g (by simpa using S) (by simp) u (by simpa using f)
 have ge:∀{a b c},X.le b a->X.le c b->X.le c a:=λh1 t=>X.tr t h1;rw[countRun'_eq];dsimp only;refine LW (λ_ _=>rfl) (A:=[]) S p J f (by simp) λA x R S f u N=>?_;refine kg (λ_=>jx<|fin A x R _ S f u) λO=>?_;obtain⟨y,l,rfl⟩:=sP (l:=R) (by simp at O;lia);apply RH λg=>Rp X q (T++((A++[x]).reverse++y::l)) g/\∀z∈A++[x],X.le y z
 .intro F;have w:=X.as _ _ (N y l J);refine kg (λh1=>?_) λh1=>F _ ?_
  .obtain⟨a,A,rfl⟩:=sP (l:=A)<|Nat.lt_of_succ_lt_succ h1;refine D2 S (x:=a) (y:=x) (Kr (A:=[])<|by simpa using p.symm) (Kr<|by simp;lia) λb e=>?_
   cases b
   .refine Gx (A:=a::A++[x]) (by simpa using S) p.symm (by simp;lia) λg n=>F _ ⟨n,λz k=>X.tr (X.tr w e) ?_⟩;rcases nQ.mp k with rfl|k
    .exact X.rf _
    exact(AQ.mp u).1 z k
   exact jx<|fin _ x _ _ S f u
  obtain rfl:=zy (l:=A) (by simpa using h1);exact⟨S,by simpa using w⟩
 rintro st ⟨S,d⟩;have t:(TD A)+2<=m:=by simp at f;lia
 dsimp only
 refine ue (nA (λi c s=>∃M B x R,c=(U,i,TD B)/\Rp X q (T++(M++(B++x::R))) s/\i=TD M+TD B+1/\m=i+R.length/\(M++(B++[x])).Pairwise (λa b=>X.le b a)/\(B++[x]).Pairwise X.le)
  (λc s=>∃M B x R,c=(U,TD M+TD B+1,TD B)/\Rp X q (T++(M++(B++x::R))) s/\m=TD M+TD B+1+R.length/\(M++(B++[x])).Pairwise (λa b=>X.le b a)/\(B++[x]).Pairwise X.le) ⟨(A++[x]).reverse,[],y,l,rfl,S,by simp,by simp at f ⊢;lia,?_,by simp⟩ ?_ ?_ ?_)
 .exact Ea (Gv.mpr u) λz k=>d z<|me.mp k
 .rintro i c s v ⟨M,B,x,R,rfl,S,rfl,f,d,u⟩;obtain⟨y,l,rfl⟩:=sP (l:=R) (by lia);rw[<-qb]at S;refine D2 S (ix1<|by simp;lia) (Kr<|by simp;lia) λb e=>?_
  cases b
  .refine D2 S (Kr<|by simp;lia) (ix1<|by simp;lia) λb H=>?_
   cases b
   .refine jx ⟨M,B++[x],y,l,by simp,by simpa using S,by simp;lia,by simp at f;lia,?_,Ea u<|EF X.tr u e⟩;rw[<-qb]at d ⊢;rw[<-qb];exact Ea d<|EF (r:=λa b=>X.le b a) ge d H
   exact jx ⟨M,B,x,_,rfl,by simpa using S,f,d,u⟩
  refine LP (T:=T++M) (A:=B++[x]) (by simpa using S) (by simp;lia) (by simp;lia) (λz=>by simp at z ⊢;exact z) λg n=>jx ⟨M++(B++[x]).reverse,[],y,l,rfl,by simpa using n,by simp;lia,by simp at f;lia,Ea (dnT d u) λz k=>?_,by simp⟩;rw[<-qb]at d;exact EF (r:=λa b=>X.le b a) ge d (X.as _ _ e) z (by simpa[or_comm]using k)
 .rintro c s ⟨M,B,x,R,rfl,S,v,f,d,u⟩;exact⟨M,B,x,R,by rw[v],S,by lia,d,u⟩
 rintro c s ⟨M,B,x,R,rfl,S,f,d,u⟩;refine LP (T:=T++M) (A:=B++[x]) (by simpa using S) (by simp;lia) (by simp;lia) (λz=>by simp at z ⊢;exact z) λg n=>?_;refine Gx (T:=T) (A:=M++(B++[x]).reverse) (by simpa using n) p.symm (by simp;lia) λg n=>?_;have u:=Gv.mpr<|dnT d u;rcases zw (M++(B++[x]).reverse).reverse with e|⟨E,G,e⟩
 .simp at e
 rw[e,Cv]at n u;have k:=nC cG e;simp at k;exact LW (λ_ _=>rfl) (A:=E) (x:=G) (R:=R) (by simpa using n) p (by dsimp only;lia) (by dsimp only;lia) u λA x R S f u _=>jx<|fin A x R _ S f u
end
section
variable {X:Cs}{g:Type}{Q:g->sy->Prop}{st:sy}{q:Array (Nat×Nat×Nat)}{T A B D R L:kz}{i j x y:Nat}{p:Nat->Bool}
abbrev Mo(X:Cs)(p:Nat->Bool):Prop:= ∀a b,X.le a b->p b=C->p a=C
abbrev Lo(p:Nat->Bool)(A:kz)(a:Nat):Prop:= ∀i,i<a->p (A.getD i 0)=C
abbrev Hi(p:Nat->Bool)(A:kz)(a:Nat):Prop:= ∀i,a<=i->i<TD A->p (A.getD i 0)=I
def Na:Mo X λz=>!X.lt x z:=λa b h c=>by simp at c ⊢;exact X.tr h c
def W6:Mo X λz=>X.lt z x:=λa b h c=>by
 cases e:X.lt a x
 .exact mm<|(X.tr e h).symm.trans c
 exact e
def upD(u:A.Pairwise X.le)(b:i<=j)(h:j<TD A):X.le (A.getD i 0) (A.getD j 0):=by
 have a:i<(TD A):=by lia
 simp only[sD,km h,km a];rcases kl b with e|rfl
 .exact LA.mp u i j a h e
 exact X.rf _
def Ez(u:A.Pairwise X.le)(m:Mo X p)(h:i<TD A)(e:p (A.getD i 0)=C):Lo p A (i+1):=λj a=>m _ _ (upD u (by lia) h) e
def EK(u:A.Pairwise X.le)(m:Mo X p)(e:p (A.getD i 0)=I):Hi p A i:=λj a h=>by
 cases c:p (A.getD j 0)with
 |false=>rfl
 |true=>exact(m _ _ (upD u a h) c).symm.trans e
def Iu(h:Lo p A i):∀z∈A.take i,p z=C:=λz a=>by obtain⟨k,hk,rfl⟩:=zv a;have hk:=uR▸hk;have:=h k (by lia);simpa[show k<(TD A) by lia]using this
def IJ(h:Hi p A i):∀z∈A.drop i,p z=I:=λz a=>by obtain⟨k,hk,rfl⟩:=zv a;simp at hk;have:=h (i+k) (by lia) (by lia);simpa[show i+k<(TD A) by lia]using this
def ixD(a:(TD T)=j)(h:i<TD A):(T++(A++R))[j+i]?=Y (A.getD i 0):=by subst a;rw[pJ<|by lia,Cy,qc h];simp[h]
def Zp(u:A.Pairwise X.le)(h1:∀z∈A.take i,(!X.lt y z)=C)(e:∀z∈A.drop i,(!X.lt y z)=I):(A.take i++y::A.drop i).Pairwise X.le:=by
 rw[<-vo i A,sv]at u;refine sv.mpr ⟨u.1,AQ.mpr ⟨λz f=>X.as _ _ (by simpa using e z f),u.2.1⟩,λa d b c=>?_⟩;rcases nQ.mp c with rfl|c
 .simpa using h1 a d
 exact u.2.2 a d b c
def SY{lo n k:Nat}{Q:Bool->sy->Prop}(S:Rp X q (T++(A++R)) st)(H:(TD T)=lo)(E:(TD A)=k)(O:0<k)(o:n<=k+R.length)(hk:k<=n)(u:A.Pairwise X.le)
  (h:∀A R w,Rp X q (T++(A++R)) w->TD A=n->A.Pairwise X.le->Q C w):wp X (binarySort' lo n k) Q st:=by
 rw[binarySort'_eq,show max k 1=k by lia];dsimp only;refine nA (λk c s=>c=(U,())/\∃A R,Rp X q (T++(A++R)) s/\(TD A)=k/\A.Pairwise X.le/\n<=k+R.length) (λc s=>c=(U,())/\∃A R,Rp X q (T++(A++R)) s/\(TD A)=n/\A.Pairwise X.le) ⟨rfl,A,R,S,E,u,o⟩ ?_ ?_ ?_
 .rintro k c s m ⟨rfl,A,R,S,rfl,u,o⟩;obtain⟨y,l,rfl⟩:=sP (l:=R) (by lia)
  refine nA (λi c r=>r=s/\∃a b,c=(U,a,b)/\a<=b/\b<=TD A/\b<=a+(TD A-i)/\Lo (λz=>!X.lt y z) A a/\Hi (λz=>!X.lt y z) A b)
   (λc r=>r=s/\∃a b,c=(U,a,b)/\a<=TD A/\Lo (λz=>!X.lt y z) A a/\Hi (λz=>!X.lt y z) A a) ⟨rfl,0,TD A,rfl,by lia,by lia,by lia,λi h=>by lia,λi h N=>by lia⟩ ?_ ?_ ?_
  .rintro i c _ m ⟨rfl,a,b,rfl,h1,t,v,d,f⟩;dsimp only;refine kg (λe=>jx ⟨rfl,a,b,rfl,by lia,d,(show a=b by lia)▸f⟩) λe=>?_;refine D2 S (Kr<|by lia) (ixD H<|by lia) λc e=>?_
   cases c
   .exact jx ⟨rfl,_,b,rfl,by lia,by lia,by lia,Ez u Na (by lia)<|by rw[e];rfl,f⟩
   exact jx ⟨rfl,a,_,rfl,by lia,by lia,by lia,d,EK u Na<|by rw[e];rfl⟩
  .rintro c _ ⟨rfl,a,b,rfl,h1,t,v,d,f⟩;exact⟨rfl,a,b,rfl,by lia,d,(show a=b by lia)▸f⟩
  rintro c _ ⟨rfl,a,b,rfl,h1,t,v⟩;refine SW (T:=T++A.take a) (A:=A.drop a) (by rw[qb,<-qb (A.take a),vo];exact S) (by simp;lia) (by simp;lia) λr M=>jx ⟨rfl,A.take a++y::A.drop a,l,by simpa using M,by simp;lia,Zp u (Iu t)<|IJ v,by simp at o;lia⟩
 .rintro c s ⟨rfl,A,R,S,m,u,o⟩;exact⟨rfl,A,R,S,by lia,u⟩
 rintro c s ⟨rfl,A,R,S,m,u⟩;exact jx<|h A R s S m u
noncomputable def Q2:Bool->eF->Array eF->Nat->Nat->Nat->StateT sy dc (Option Nat):=sortPriv%PySem.Builtin.gallop
noncomputable def adS:Array eF->Array eF->StateT sy dc (Array eF):=sortPriv%PySem.Builtin.mergeLo
noncomputable def Nc:Array eF->Array eF->StateT sy dc (Array eF):=sortPriv%PySem.Builtin.mergeHi
noncomputable def Pr:Nat->StateT sy dc Unit:=sortPriv%PySem.Builtin.setMinGallop
def Wk{k:Nat->Nat->StateT sy dc g}{m:StateT sy dc g}(P:Nat->Nat->Prop)(c:(∀a b,P a b->wp X (k a b) Q st)->wp X m Q st)(hk:∀a b,P a b->wp X (k a b) Q st):wp X m Q st:=c hk
noncomputable abbrev gp(X:Cs)(left:Bool)(x z:Nat):Bool:=if left=C then X.lt z x else !X.lt x z
def CZ{left:Bool}{base:Nat}{f:Option Bool->StateT sy dc g}(hk:kindOf st=X.κ)(k:∀z∈A,z<X.N)(c:x<X.N)(l:(TD T)=base)(a:i<TD A)(h:∀b,gp X left x (A.getD i 0)=b->wp X (f<|Y b) Q st):
  wp X ((elem' (ar X<|T++(A++R)) (base+i)>>=λz=>if left=C then lt' z (X.it x)else lt' (X.it x) z>>=λr=>pure<|tv (λx=>!x) r)>>=f) Q st:=by
 have d:A.getD i 0<X.N:=k _ (by simp[a]);refine lu<|mU (ixD l a) ?_
 cases left
 .exact D1 hk c d λb e=>jx<|h (!b)<|nC not e
 rw[jz J,<-bind_pure (lt' _ _)];exact D1 hk d c λb e=>jx<|h b e
def xR{left:Bool}{base n hint:Nat}{Q:Option Nat->sy->Prop}(hk:kindOf st=X.κ)(t:∀z∈A,z<X.N)(w:x<X.N)(u:A.Pairwise X.le)(G:L=T++(A++R))(v:(TD T)=base)(H:(TD A)=n)(C:hint<n)
  (h:∀r,r<=n->(∀z∈A.take r,gp X left x z=Td)->(∀z∈A.drop r,gp X left x z=Tk)->Q (Y r) st):wp X (Q2 left (X.it x) (ar X L) base n hint) Q st:=by
 subst G
 have m:Mo X (gp X left x):=by
  cases left
  .exact Na
  exact W6
 apply Wk λa b=>a<=b/\b<=n/\Lo (gp X left x) A a/\Hi (gp X left x) A b
 .intro F;refine CZ hk t w v (H▸C) λb e=>?_;refine kg (λz=>?_) λz=>?_
  .subst z
   refine nA (λi c s=>st=s/\∃a b,c=(U,a,b)/\a<b/\i<b/\hint+a<n/\Lo (gp X left x) A (hint+a+1)) (λc s=>st=s/\∃a b,c=(U,a,b)/\a<b/\hint+a<n/\Lo (gp X left x) A (hint+a+1)/\(n-hint<=b\/Hi (gp X left x) A (hint+b)))
    ⟨rfl,0,1,rfl,by lia,by lia,C,Ez u m (H▸C) e⟩ ?_ ?_ ?_
   .rintro i c _ E ⟨rfl,a,b,rfl,h1,o,l,f⟩;dsimp only;refine kg (λz=>jx ⟨rfl,a,b,rfl,h1,l,f,.inl z⟩) λz=>CZ hk t w v (by lia) λc e=>?_
    cases c
    .exact jx ⟨rfl,a,b,rfl,h1,l,f,.inr<|EK u m e⟩
    exact jx ⟨rfl,_,_,rfl,by lia,by lia,by lia,Ez u m (by lia) e⟩
   .rintro c _ ⟨rfl,a,b,rfl,h1,o,l,f⟩;exact⟨rfl,a,b,rfl,h1,l,f,.inl<|by lia⟩
   rintro c _ ⟨rfl,a,b,rfl,h1,l,f,k⟩;dsimp only;generalize I:hint+a+1=c at*;generalize O:hint+min b (n-hint)=d;refine F c d ⟨by lia,by lia,f,λi J M=>?_⟩;rcases k with k|k
   .lia
   exact k i (by lia) M
  refine nA (λi c s=>st=s/\∃a b,c=(U,a,b)/\a<b/\i<b/\a<=hint/\Hi (gp X left x) A (hint-a)) (λc s=>st=s/\∃a b,c=(U,a,b)/\a<b/\a<=hint/\Hi (gp X left x) A (hint-a)/\(hint<b\/Lo (gp X left x) A (hint-b+1)))
   ⟨rfl,0,1,rfl,by lia,by lia,by lia,EK u m<|by simpa[z]using e⟩ ?_ ?_ ?_
  .rintro i c _ E ⟨rfl,a,b,rfl,h1,o,l,f⟩;dsimp only;refine kg (λz=>jx ⟨rfl,a,b,rfl,h1,l,f,.inl z⟩) λz=>CZ hk t w v (by lia) λc e=>?_
   cases c
   .exact jx ⟨rfl,_,_,rfl,by lia,by lia,by lia,EK u m e⟩
   exact jx ⟨rfl,a,b,rfl,h1,l,f,.inr<|Ez u m (by lia) e⟩
  .rintro c _ ⟨rfl,a,b,rfl,h1,o,l,f⟩;exact⟨rfl,a,b,rfl,h1,l,f,.inl<|by lia⟩
  rintro c _ ⟨rfl,a,b,rfl,h1,l,f,k⟩;dsimp only;generalize O:hint-a=d at*;generalize I:hint+1-min b (hint+1)=c;refine F c d ⟨by lia,by lia,λi J=>?_,f⟩;rcases k with k|k
  .lia
  exact k i (by lia)
 rintro a b ⟨h1,o,l,f⟩;refine nA (λi c s=>st=s/\∃a b,c=(U,a,b)/\a<=b/\b<=n/\b<=a+(n-i)/\Lo (gp X left x) A a/\Hi (gp X left x) A b) (λc s=>st=s/\∃a,c=(U,a,a)/\a<=n/\Lo (gp X left x) A a/\Hi (gp X left x) A a) ⟨rfl,a,b,rfl,h1,o,by lia,l,f⟩ ?_ ?_ ?_
 .rintro i c _ E ⟨rfl,a,b,rfl,h1,o,l,f,k⟩;refine kg (λz=>?_) λz=>CZ hk t w v (by dsimp only at z ⊢;lia) λc e=>?_
  .have:a=b:=by dsimp only at z;lia
   subst this;exact jx ⟨rfl,a,rfl,o,f,k⟩
  dsimp only at z
  cases c
  .exact jx ⟨rfl,a,_,rfl,by dsimp only;lia,by dsimp only;lia,by dsimp only;lia,f,EK u m e⟩
  exact jx ⟨rfl,_,b,rfl,by dsimp only;lia,o,by dsimp only;lia,Ez u m (by dsimp only;lia) e,k⟩
 .rintro c _ ⟨rfl,a,b,rfl,h1,o,l,f,k⟩;have:a=b:=by lia
  subst this;exact⟨rfl,a,rfl,o,f,k⟩
 rintro c _ ⟨rfl,a,rfl,o,f,k⟩;exact jx<|h a o (Iu f)<|IJ k
end
section
variable {X:Cs}{β:Type}{Q:β->sy->Prop}{st:sy}{pq:Array (Nat×Nat×Nat)}{q r L Z a b o k:kz}{i j x y:Nat}{le:Nat->Nat->Prop}{out:Bm}
structure MG(le:Nat->Nat->Prop)(Z a b o:kz):Prop where
 s:o.Pairwise le
 c:∀x∈o,∀y∈a++b,le x y
 p:(o++(a++b)).Perm Z
 ua:a.Pairwise le
 ub:b.Pairwise le
def MG.put(m:MG le Z (k++a) b o)(h:∀x∈k,∀y∈b,le x y):MG le Z a b (o++k):=by
 have f:=sv.mp m.ua;refine⟨sv.mpr ⟨m.s,f.1,λx e y d=>m.c x e y<|by simp[d]⟩,λx e y d=>?_,by simpa using m.p,f.2.1,m.ub⟩;rcases qm.mp e with e|e
 .refine m.c x e y ?_;simp at d ⊢;exact .inr d
 rcases qm.mp d with d|d
 .exact f.2.2 x e y d
 exact h x e y d
def Mg(X:Cs)(le:Nat->Nat->Prop)(Z a b:kz)(out:Bm):Prop:= ∃o,out=ar X o/\MG le Z a b o
def Rs(X:Cs)(Z:kz)(out:Bm):Prop:= ∃o,out=ar X o/\o.Pairwise X.le/\o.Perm Z
def Mg.sw(m:Mg X le Z a b out):Mg X le Z b a out:=by obtain⟨o,e,m⟩:=m;exact⟨o,e,m.s,λx d y f=>m.c x d y<|by simpa[or_comm]using f,(RC.append_left o).trans m.p,m.ub,m.ua⟩
def Mg.put(m:Mg X le Z a b out){a':kz}{c:Bm}(e:a=k++a')(h:∀x∈k,∀y∈b,le x y)(d:c=out++ar X k):Mg X le Z a' b c:=by obtain⟨o,rfl,m⟩:=m;exact⟨o++k,by simpa[ar]using d,(e▸m).put h⟩
def Mg.a1(m:Mg X le Z (q.drop i) b out)(c:i<TD q)(h:∀y∈b,le q[i] y):Mg X le Z (q.drop<|i+1) b (out.push<|X.it q[i]):=m.put (k:=[q[i]]) (zD c) (by simpa using h) (by simp[ar])
def Mg.ak(m:Mg X le Z (q.drop i) b out)(h:∀x∈(q.drop i).take j,∀y∈b,le x y):Mg X le Z (q.drop<|i+j) b (out++(ar X q).extract i (i+j)):=m.put (by rw[<-List.drop_drop,vo]) h (by simp[ar])
def Mg.fin(m:Mg X X.le Z (q.drop i) (r.drop j) out)(h:∀x∈q.drop i,∀y∈r.drop j,X.le x y):Rs X Z (out++(ar X q).extract i (ar X q).size++(ar X r).extract j (ar X r).size):=by obtain⟨o,e,m⟩:=((m.put (k:=q.drop i) (a':=[]) (by simp) h J).sw).put (k:=r.drop j) (a':=[]) (by simp) (by simp) J;exact⟨o,by rw[<-e];simp[ar,dV],m.s,by simpa using m.p⟩
def Mg.end(m:Mg X X.le Z (q.drop i) (r.drop j) out)(h:(TD q)<=i\/(TD r)<=j):Rs X Z (out++(ar X q).extract i (ar X q).size++(ar X r).extract j (ar X r).size):=m.fin λx c y d=>by
 rcases h with h|h
 .rw[zC h]at c;cases c
 rw[zC h]at d;cases d
def Mg.hd(m:Mg X le Z (q.drop i) b out)(f:∀{a b c},le a b->le b c->le a c)(e:i<TD q)(h:le x q[i]):∀y∈q.drop i,le x y:=λy d=>by
 obtain⟨o,_,m⟩:=m;have:=m.ua;rw[zD e]at this d;rcases nQ.mp d with rfl|d
 .exact h
 exact f h ((AQ.mp this).1 y d)
def MH{P:d->Prop}{f:α->β->d}{T:α->β->Prop}{c:d}(x:∃a b,c=f a b/\T a b)(h:∀a b,T a b->P (f a b)):P c:=by obtain⟨_,_,rfl,i⟩:=x;exact h _ _ i
def eX4{P:g->Prop}{f:α->β->l->ε->g}{T:α->β->l->ε->Prop}{c:g}(x:∃a b d e,c=f a b d e/\T a b d e)(h:∀a b c d,T a b c d->P (f a b c d)):P c:=by obtain⟨_,_,_,_,rfl,i⟩:=x;exact h _ _ _ _ i
def NJ{P:l->Prop}{f:α->β->m->ε->ζ->l}{T:α->β->m->ε->ζ->Prop}{c:l}(x:∃a b d e g,c=f a b d e g/\T a b d e g)(h:∀a b c d e,T a b c d e->P (f a b c d e)):P c:=by obtain⟨_,_,_,_,_,rfl,i⟩:=x;exact h _ _ _ _ _ i
def NI{P:l->Prop}{f:α->β->m->ε->ζ->η->l}{T:α->β->m->ε->ζ->η->Prop}{c:l}(x:∃a b d e g k,c=f a b d e g k/\T a b d e g k)(h:∀a b c d e g,T a b c d e g->P (f a b c d e g)):P c:=by obtain⟨_,_,_,_,_,_,rfl,i⟩:=x;exact h _ _ _ _ _ _ i
def MI{a b c d e P:Prop}(h:a->b->c->d->e->P)(x:a/\b/\c/\d/\e):P:=h x.1 x.2.1 x.2.2.1 x.2.2.2.1 x.2.2.2.2
def CY{f:Unit->StateT sy dc β}{n:Nat}(S:Rp X pq L st)(h:∀c,Rp X pq L c->wp X (f ()) Q c):wp X (Pr n>>=f) Q st:=vH (g:=λs=>SortSt.mk' (kindOf s) (fI s) (pendingOf s) n<|f3 s)<|h _ ⟨S.a,S.k,S.f,S.q,S.p⟩
def HG{e:Type}{k:e->Nat->StateT sy dc β}{m:StateT sy dc β}(P:e->Nat->sy->Prop)(f:(∀c n d,P c n d->wp X (k c n) Q d)->wp X m Q st)(hk:∀c n d,P c n d->wp X (k c n) Q d):wp X m Q st:=f hk
def LQ{k:Nat->StateT sy dc β}{m:StateT sy dc β}(P:Nat->sy->Prop)(d:(∀n c,P n c->wp X (k n) Q c)->wp X m Q st)(hk:∀n c,P n c->wp X (k n) Q c):wp X m Q st:=d hk
def Wj{Q:Array eF->sy->Prop}(S:Rp X pq L st)(u1:q.Pairwise X.le)(u2:r.Pairwise X.le)(M:∀z∈q,z<X.N)(U:∀z∈r,z<X.N)(h1:0<TD q)(h2:0<TD r)(hd:∀y∈q,X.le r[0] y)(top:∀x∈r,X.le x q[TD q-1])
  (h:∀out s,Rp X pq L s->Rs X (q++r) out->Q out s):wp X (adS (ar X q)<|ar X r) Q st:=by
 have sq:(ar X q).size=(TD q):=by simp
 have sr:(ar X r).size=(TD r):=by simp
 have P:Mg X X.le (q++r) (q.drop 0) (r.drop 1) #[X.it r[0]]:=Mg.sw<|Mg.a1 (q:=r) (i:=0) (out:= #[]) ⟨[],rfl,.nil,by simp,by simpa using RC,by simpa using u2,by simpa using u1⟩ h2 hd
 have last:∀{out i j},Mg X X.le (q++r) (q.drop i) (r.drop j) out->i+1=TD q->Rs X (q++r) (out++(ar X r).extract j (ar X r).size++(ar X q).extract i (ar X q).size):=λ{_ i j} m e=>m.sw.fin λx O y B=>by
  have hi:i<(TD q):=by lia
  rw[zD hi,zC<|by lia,DR]at B;have:=top x<|Cu O;simpa only[B,<-e,kv]using this
 refine ue<|mU (x:=r[0]) (by simp) ?_;refine kg (λe=>jx<|h _ _ S (P.end<|.inr<|by simp at e;lia)) λe=>kg (λp=>jx<|h _ _ S (last P<|by simpa using p)) λp=>pK ?_
 let I:=λ(c:Nat) out d f s=>Rp X pq L s/\Mg X X.le (q++r) (q.drop d) (r.drop f) out/\d+1<TD q/\f<TD r/\c<=d+f
 refine nA (λi c s=>∃out d f C,c=(SS,out,d,f,C)/\I (i+1) out d f s) (λc s=>∃out t,c=(SI out,t)/\Rp X pq L s/\Rs X (q++r) out) ⟨_,0,1,_,rfl,S,P,by simp at p;lia,by simp at e;lia,by lia⟩ ?_ ?_ ?_
 .intro i c s _ h;apply eX4 h;clear h;intro out d f C K;refine nA (λj c s=>∃out d f v w,c=(SS,out,d,f,v,w)/\I (i+1+j) out d f s) (λc s=>(∃out t,c=(SI out,t)/\Rp X pq L s/\Rs X (q++r) out)\/∃out d f v w,c=(SS,out,d,f,v,w)/\I (i+1) out d f s) ⟨_,_,_,_,_,rfl,K⟩ ?_ ?_ ?_
  .intro j c s _ h;apply NJ h;clear h;refine λout d f v w=>MI λS m E n H=>?_;dsimp only;refine mU (x:=r[f]) (by simp) (mU (x:=q[d]) (by simp)<|D1 S.k (U _ (by simp)) (M _ (by simp)) λb e=>?_)
   cases b
   .have l:=m.a1 (by lia)<|m.sw.hd X.tr n e;exact mU (x:=q[d]) (by simp)<|kg (λe=>jx<|.inl ⟨_,_,rfl,S,last l<|by simpa using e⟩) λe=>kg (λ_=>jx<|.inr ⟨_,_,_,_,_,rfl,S,l,by simp at e;lia,n,by lia⟩) λ_=>jx ⟨_,_,_,_,_,rfl,S,l,by simp at e;lia,n,by lia⟩
   have l:=(m.sw.a1 n<|m.hd X.tr (by lia)<|X.as _ _ e).sw;exact mU (x:=r[f]) (by simp)<|kg (λe=>jx<|.inl ⟨_,_,rfl,S,l.end<|.inr<|by simp at e;lia⟩) λe=>kg (λ_=>jx<|.inr ⟨_,_,_,_,_,rfl,S,l,E,by simp at e;lia,by lia⟩) λ_=>jx ⟨_,_,_,_,_,rfl,S,l,E,by simp at e;lia,by lia⟩
  .refine λc s h=>aJ ?_;obtain⟨_,d,f,_,_,_,S,m,E,n,H⟩:=h;lia
  intro c s z;refine z.elim (λh=>?_) λh=>?_
  .apply MH h;exact λout _ Y=>jx ⟨out,_,rfl,Y⟩
  apply NJ h;clear h z;refine λout d f v w K=>ue<|nA (λj c s=>∃out d f C v w,c=(SS,out,d,f,C,v,w)/\I (i+1+j) out d f s) (λc s=>(∃out t,c=(SI out,t)/\Rp X pq L s/\Rs X (q++r) out)\/∃out d f C v w,c=(SS,out,d,f,C,v,w)/\I (i+2) out d f s) ⟨_,_,_,_,_,_,rfl,K⟩ ?_ ?_ ?_
  .intro j c s _ h;apply NI h;clear h;refine λout d f C v w=>MI λS m E n H=>?_;dsimp only;apply LQ λ_ s=>Rp X pq L s
   .intro F;refine kg (λ_=>?_) λ_=>?_
    .generalize C-1=g;exact F g s S
    exact F C s S
   intro g s S;refine CY S λs S=>mU (x:=r[f]) (by simp)<|lu<|xR (T:=q.take d) (A:=q.drop d) (R:=[]) S.k (λz D=>M z<|Cu D) (U _ (by simp)) (u1.sublist<|FP _ _) (by simp) (by simp;lia) (by simp) (by simp;lia) λk _ V W=>?_;dsimp only;apply HG λout d s=>Rp X pq L s/\Mg X X.le (q++r) (q.drop d) (r.drop f) out/\d+1<TD q/\i+1+j<=d+f/\∀y∈q.drop d,X.le r[f] y
   .intro F;have mk:=m.ak (j:=k) λx O y B=>m.sw.hd (x:=x) X.tr n (by simpa using V x O) y B;have u:∀y∈q.drop (d+k),X.le r[f] y:=λy B=>X.as _ _ (by simpa using W y<|by simpa using B);refine kg (λe=>?_) λe=>?_
    .refine kg (λJ=>jx<|.inl ⟨_,_,rfl,S,last mk<|by simpa using J⟩) λJ=>kg (λp=>jx<|.inl ⟨_,_,rfl,S,mk.end<|.inl<|by simp at p;lia⟩) λp=>?_;generalize out++(ar X q).extract d (d+k)=out at mk ⊢;generalize ea:d+k=ic at mk u J p ⊢;exact F out ic s ⟨S,mk,by simp at J p;lia,by lia,u⟩
    rw[show k=0 by lia]at u;exact F out d s ⟨S,m,E,H,u⟩
   refine λout d s=>MI λS m E H u=>?_;have l:=(m.sw.a1 n u).sw;refine mU (x:=r[f]) (by simp)<|kg (λe=>jx<|.inl ⟨_,_,rfl,S,l.end<|.inr<|by simp at e;lia⟩) λe=>mU (x:=q[d]) (by simp)<|lu<|xR (T:=r.take<|f+1) (A:=r.drop<|f+1) (R:=[]) S.k (λz D=>U z<|Cu D) (M _ (by simp)) (u2.sublist<|FP _ _) (by simp) (by simp;lia) (by simp) (by simp at e ⊢;lia) λG _ V W=>?_;dsimp only;apply HG λout f s=>Rp X pq L s/\Mg X X.le (q++r) (q.drop d) (r.drop f) out/\f<TD r/\i+1+j<d+f/\∀y∈r.drop f,X.le q[d] y
   .intro F;have mk:=(l.sw.ak (j:=G) λx O y B=>l.hd X.tr (by lia) (X.as _ _ (V x O)) y B).sw;have u:∀y∈r.drop (f+1+G),X.le q[d] y:=λy B=>W y (by simpa using B);refine kg (λ_=>?_) λe3=>?_
    .refine kg (λp=>jx<|.inl ⟨_,_,rfl,S,mk.end<|.inr<|by simp at p;lia⟩) λp=>?_;generalize out.push (X.it r[f])++(ar X r).extract (f+1) (f+1+G)=out at mk ⊢;generalize ea:f+1+G=ic at mk u p ⊢;exact F out ic s ⟨S,mk,by simp at p;lia,by lia,u⟩
    rw[show G=0 by lia]at u;exact F _ _ s ⟨S,l,by simp at e;lia,by lia,u⟩
   refine λout f s=>MI λS m n H u=>?_;have l:=m.a1 (by lia) u;exact mU (x:=q[d]) (by simp)<|kg (λe=>jx<|.inl ⟨_,_,rfl,S,last l<|by simpa using e⟩) λe=>kg (λ_=>jx<|.inr ⟨_,_,_,_,_,_,rfl,S,l,by simp at e;lia,n,by lia⟩) λ_=>jx ⟨_,_,_,_,_,_,rfl,S,l,by simp at e;lia,n,by lia⟩
  .refine λc s h=>aJ ?_;obtain⟨_,d,f,_,_,_,_,S,m,E,n,H⟩:=h;lia
  intro c s z;refine z.elim (λh=>?_) λh=>?_
  .apply MH h;exact λout _ Y=>jx ⟨out,_,rfl,Y⟩
  apply NI h;clear h z;exact λ_ _ _ _ _ _ h=>CY h.1 λs S=>jx ⟨_,_,_,_,rfl,S,h.2⟩
 .refine λc s h=>aJ ?_;obtain⟨_,d,f,_,_,S,m,E,n,H⟩:=h;lia
 intro c s x;apply MH x;exact λ_ _ m=>jx<|h _ _ m.1 m.2
end
section
variable {X:Cs}{u:Type}{Q:u->sy->Prop}{st:sy}{l:Array (Nat×Nat×Nat)}{q r L Z a b o k:kz}{i j x y n:Nat}{out:Bm}
theorem ss1(n:Nat):n+1-1=n:=rfl
abbrev Cs.ge(X:Cs)(i j:Nat):Prop:=X.le j i
def Mg.h1(m:Mg X X.ge Z (q.take<|n+1).reverse b out)(c:n<TD q)(h:∀y∈b,X.le y q[n]):Mg X X.ge Z (q.take n).reverse b (out.push<|X.it q[n]):=m.put (k:=[q[n]]) (by rw[zu];simp[c]) (by simpa using h) (by simp[ar])
def Mg.hk(m:Mg X X.ge Z (q.take n).reverse b out)(c:i<=n)(h:∀x∈(q.take n).drop i,∀y∈b,X.le y x):Mg X X.ge Z (q.take i).reverse b (out++((ar X q).extract i n).reverse):=m.put (k:=((q.take n).drop i).reverse) (by rw[<-List.reverse_append,<-eh c,<-f4,eh c,vo]) (by simpa using h) (by simp[ar,List.extract_eq_drop_take'])
def Mg.Ma(m:Mg X X.ge Z (q.take i).reverse (r.take j).reverse out)(h:∀x∈q.take i,∀y∈r.take j,X.le x y):Rs X Z ((ar X q).extract 0 i++(ar X r).extract 0 j++out.reverse):=by obtain⟨o,e,m⟩:=(m.sw.put (k:=(r.take j).reverse) (a':=[]) (by simp) (by simpa using λx c y d=>h y d x c) J).sw.put (k:=(q.take i).reverse) (a':=[]) (by simp) (by simp) J;refine⟨o.reverse,?_,Gv.mpr m.s,(Cw o).trans<|by simpa using m.p⟩;have:=nC Array.reverse e;simpa[ar,List.extract_eq_take_drop]using this
def Mg.Kc(m:Mg X X.ge Z (q.take i).reverse (r.take j).reverse out)(h:i=0\/j=0):Rs X Z ((ar X q).extract 0 i++(ar X r).extract 0 j++out.reverse):=m.Ma λx c y d=>by
 rcases h with rfl|rfl
 .cases c
 cases d
def Mg.NB(m:Mg X X.ge Z (q.take<|n+1).reverse b out)(d:n<TD q)(h:X.le q[n] x):∀y∈(q.take<|n+1).reverse,X.le y x:=λy c=>by
 obtain⟨o,_,m⟩:=m;have:=m.ua;rw[show(q.take<|n+1).reverse=q[n]::(q.take n).reverse by rw[zu];simp[d]]at this c;rcases nQ.mp c with rfl|c
 .exact h
 exact X.tr ((AQ.mp this).1 y c) h
def aX7{a b c d e f g P:Prop}(h:a->b->c->d->e->f->g->P)(x:a/\b/\c/\d/\e/\f/\g):P:=MI (λa b c d e=>h a b c d e.1 e.2.1 e.2.2) x
def aX6{a b c d e f P:Prop}(h:a->b->c->d->e->f->P)(x:a/\b/\c/\d/\e/\f):P:=MI (λa b c d e=>h a b c d e.1 e.2) x
def Wl{Q:Array eF->sy->Prop}(S:Rp X l L st)(u1:q.Pairwise X.le)(u2:r.Pairwise X.le)(hq:∀z∈q,z<X.N)(hr:∀z∈r,z<X.N)(h1:0<TD q)(h2:0<TD r)(hd:∀y∈q,X.le r[0] y)(top:∀x∈r,X.le x q[TD q-1])
  (h:∀out s,Rp X l L s->Rs X (q++r) out->Q out s):wp X (Nc (ar X q)<|ar X r) Q st:=by
 have sq:(ar X q).size=(TD q):=by simp
 have sr:(ar X r).size=(TD r):=by simp
 have W:Mg X X.ge (q++r) (q.take<|TD q-1).reverse (r.take<|TD r).reverse #[X.it q[TD q-1]]:=Mg.h1 (out:= #[]) ⟨[],rfl,.nil,by simp,by simpa[ka h1]using(Cw q).append (Cw r),by simpa[ka h1,Gv]using u1,by simpa[Gv]using u2⟩ (by lia) (by simpa using top)
 have last:∀{out i},Mg X X.ge (q++r) (q.take i).reverse (r.take 1).reverse out->Rs X (q++r) ((ar X r).extract 0 1++(ar X q).extract 0 i++out.reverse):=λm=>m.sw.Ma λx K y D=>by obtain⟨b,r,rfl⟩:=sP h2;simp at K;subst K;exact hd y<|xD D
 refine ue<|mU (x:=q[TD q-1]) (by simp) ?_;rw[sq,sr];refine kg (λe=>jx<|h _ _ S (W.Kc<|.inl<|by simpa using e)) λe=>kg (λC=>jx<|h _ _ S ?_) λC=>pK ?_
 .have C:(TD r)=1:=by simpa using C
  rw[C]at W ⊢;exact last W
 let I:=λ(c:Nat) out d f s=>Rp X l L s/\Mg X X.ge (q++r) (q.take d).reverse (r.take f).reverse out/\0<d/\d<=TD q/\1<f/\f<=TD r/\c+d+f<=TD q+TD r
 refine nA (λi c s=>∃d f out G,c=(SS,d,f,out,G)/\I (i+1) out d f s) (λc s=>∃out t,c=(SI out,t)/\Rp X l L s/\Rs X (q++r) out) ⟨_,_,_,_,rfl,S,W,by simp at e;lia,by lia,by simp at C;lia,by lia,by lia⟩ ?_ ?_ ?_
 .intro i c s _ h;apply eX4 h;clear h;intro d f out G i0;refine nA (λj c s=>∃d f out w B,c=(SS,d,f,out,w,B)/\I (i+1+j) out d f s) (λc s=>(∃out t,c=(SI out,t)/\Rp X l L s/\Rs X (q++r) out)\/∃d f out w B,c=(SS,d,f,out,w,B)/\I (i+1) out d f s) ⟨_,_,_,_,_,rfl,i0⟩ ?_ ?_ ?_
  .intro j c s _ h;apply NJ h;clear h;refine λd f out w B=>aX7 λS m J M E H U=>?_;obtain⟨n,rfl⟩:∃n,d=n+1:=⟨d-1,by lia⟩
   obtain⟨p,rfl⟩:∃n,f=n+1:=⟨f-1,by lia⟩
   dsimp only[ss1];refine mU (x:=r[p]) (by simp)<|mU (x:=q[n]) (by simp)<|D1 S.k (hr _ (by simp)) (hq _ (by simp)) λb e=>?_
   cases b
   .have v:=(m.sw.h1 (by lia)<|m.NB (by lia) e).sw;refine mU (x:=r[p]) (by simp)<|kg (λe=>?_) λe=>kg (λ_=>jx<|.inr ⟨_,_,_,_,_,rfl,S,v,J,M,by simp at e;lia,by lia,by lia⟩) λ_=>jx ⟨_,_,_,_,_,rfl,S,v,J,M,by simp at e;lia,by lia,by lia⟩;obtain rfl:p=1:=by simpa using e
    exact jx<|.inl ⟨_,_,rfl,S,last v⟩
   have v:=m.h1 (by lia)<|m.sw.NB (by lia)<|X.as _ _ e;exact mU (x:=q[n]) (by simp)<|kg (λe=>jx<|.inl ⟨_,_,rfl,S,v.Kc<|.inl<|by simpa using e⟩) λe=>kg (λ_=>jx<|.inr ⟨_,_,_,_,_,rfl,S,v,by simp at e;lia,by lia,E,H,by lia⟩) λ_=>jx ⟨_,_,_,_,_,rfl,S,v,by simp at e;lia,by lia,E,H,by lia⟩
  .refine λc s h=>aJ ?_;obtain⟨_,_,_,_,_,_,S,m,J,M,E,H,U⟩:=h;lia
  intro c s z;refine z.elim (λh=>?_) λh=>?_
  .apply MH h;exact λout _ hs=>jx ⟨out,_,rfl,hs⟩
  apply NJ h;clear h z;refine λd f out w B i0=>ue<|nA (λj c s=>∃d f out G w B,c=(SS,d,f,out,G,w,B)/\I (i+1+j) out d f s) (λc s=>(∃out t,c=(SI out,t)/\Rp X l L s/\Rs X (q++r) out)\/∃d f out G w B,c=(SS,d,f,out,G,w,B)/\I (i+2) out d f s) ⟨_,_,_,_,_,_,rfl,i0⟩ ?_ ?_ ?_
  .intro j c s _ h;apply NI h;clear h;refine λd f out G w B=>aX7 λS m J M E H U=>?_;obtain⟨p,rfl⟩:∃n,f=n+1:=⟨f-1,by lia⟩
   dsimp only[ss1];apply LQ λ_ s=>Rp X l L s
   .intro F;refine kg (λ_=>?_) λ_=>?_
    .generalize G-1=g;exact F g s S
    exact F G s S
   intro g s S;refine CY S λs S=>mU (x:=r[p]) (by simp)<|lu<|xR (T:=[]) (A:=q.take d) (R:=q.drop d) S.k (λz hz=>hq z<|xD hz) (hr _ (by simp)) (u1.sublist<|xM _ _) (by simp) Tl (by simp;lia) (by lia) λk hk t1 t2=>?_;dsimp only;apply HG λout d s=>Rp X l L s/\Mg X X.ge (q++r) (q.take d).reverse (r.take<|p+1).reverse out/\0<d/\d<=TD q/\i+1+j+d+p<TD q+TD r/\∀y∈q.take d,X.le y r[p]
   .intro F;have mk:=m.hk hk λx K y D=>m.sw.NB (x:=x) (by lia) (X.as _ _ (by simpa using t2 x K)) y D;have Y:∀y∈q.take k,X.le y r[p]:=λy D=>by simpa using t1 y (by rwa [f4,eh hk])
    refine kg (λe=>?_) λe=>?_
    .refine kg (λO=>jx<|.inl ⟨_,_,rfl,S,mk.Kc<|.inl<|by simpa using O⟩) λO=>?_;generalize out++((ar X q).extract k d).reverse=out at mk ⊢;generalize ea:k=ic at mk Y O ⊢;exact F out ic s ⟨S,mk,by simp at O;lia,by lia,by lia,Y⟩
    obtain rfl:k=d:=by lia
    exact F out _ s ⟨S,m,J,M,by lia,Y⟩
   refine λout V s=>aX6 λS m J M U Y=>?_;have v:=(m.sw.h1 (by lia)<|by simpa using Y).sw;obtain⟨n,rfl⟩:∃n,V=n+1:=⟨V-1,by lia⟩
   dsimp only[ss1];refine mU (x:=r[p]) (by simp)<|kg (λe=>?_) λe=>mU (x:=q[n]) (by simp)<|lu<|xR (T:=[]) (A:=r.take p) (R:=r.drop p) S.k (λz hz=>hr z<|xD hz) (hq _ (by simp)) (u2.sublist<|xM _ _) (by simp) Tl (by simp;lia) (by lia) λP bW t1 t2=>?_
   .obtain rfl:p=1:=by simpa using e
    exact jx<|.inl ⟨_,_,rfl,S,last v⟩
   dsimp only;apply HG λout f s=>Rp X l L s/\Mg X X.ge (q++r) (q.take<|n+1).reverse (r.take f).reverse out/\1<f/\f<=TD r/\i+1+j+(n+1)+f<TD q+TD r/\∀y∈r.take f,X.le y q[n]
   .intro F;have mk:=(v.sw.hk bW λx K y D=>v.NB (x:=x) (by lia) (t2 x K) y D).sw;have hc:∀y∈r.take P,X.le y q[n]:=λy D=>X.as _ _ (t1 y<|by rwa [f4,eh bW]);refine kg (λ_=>?_) λe3=>?_
    .refine kg (λO=>?_) λO=>kg (λC=>jx<|.inl ⟨_,_,rfl,S,mk.Kc<|.inr<|by simpa using C⟩) λC=>?_
     .obtain rfl:P=1:=by simpa using O
      exact jx<|.inl ⟨_,_,rfl,S,last mk⟩
     generalize out.push (X.it r[p])++((ar X r).extract P p).reverse=out at mk ⊢;generalize ea:P=ic at mk hc O C ⊢;exact F out ic s ⟨S,mk,by simp at O C;lia,by lia,by lia,hc⟩
    obtain rfl:P=p:=by lia
    exact F _ _ s ⟨S,v,by simp at e;lia,by lia,U,hc⟩
   refine λout f s=>aX6 λS m E H U Y=>?_;have v:=m.h1 (by lia) (by simpa using Y);exact mU (x:=q[n]) (by simp)<|kg (λe=>jx<|.inl ⟨_,_,rfl,S,v.Kc<|.inl<|by simpa using e⟩) λe=>kg (λ_=>jx<|.inr ⟨_,_,_,_,_,_,rfl,S,v,by simp at e;lia,by lia,E,H,by lia⟩) λ_=>jx ⟨_,_,_,_,_,_,rfl,S,v,by simp at e;lia,by lia,E,H,by lia⟩
  .refine λc s h=>aJ ?_;obtain⟨_,_,_,_,_,_,_,S,m,J,M,E,H,U⟩:=h;lia
  intro c s z;refine z.elim (λh=>?_) λh=>?_
  .apply MH h;exact λout _ hs=>jx ⟨out,_,rfl,hs⟩
  apply NI h;exact λ_ _ _ _ _ _ h=>CY h.1 λs S=>jx ⟨_,_,_,_,rfl,S,h.2⟩
 .refine λc s h=>aJ ?_;obtain⟨_,_,_,_,_,S,m,J,M,E,H,U⟩:=h;lia
 intro c s x;apply MH x;exact λ_ _ m=>jx<|h _ _ m.1 m.2
end
section
variable {X:Cs}{t:Type}{Q:t->sy->Prop}{st:sy}{d:Array (Nat×Nat×Nat)}{T A B R L:kz}{i j x y n s:Nat}{o C:List (List Nat)}{r w:List (Nat×Nat×Nat)}
def adC{c:Type}:∀(m K T R:List c)(j a:Nat),a+j=TD T->K.length=TD m->(m.zipIdx j).foldl (λ(x:Array c) (p:c×Nat)=>x.setIfInBounds (a+p.2) p.1) (T++(K++R)).toArray=(T++(m++R)).toArray:=by
 intro f
 induction f with
 |nil=>intro K T R j a h b;rw[zy b];rfl
 |cons y m e=>intro K T R j a h b;obtain⟨k,K,rfl⟩:=sP (l:=K) (by simp[b]);rw[xE,rW];have:=e K (T++[y]) R (j+1) a (by simp;lia) (by simpa using b);simpa[h]using this
def Rn(X:Cs):Nat->List (List Nat)->List (Nat×Nat×Nat)->Prop
 |_,[],[]=>True
 |s,A::o,p::r=>p.1=s/\p.2.1=TD A/\A≠[]/\A.Pairwise X.le/\Rn X (s+TD A) o r
 |_,_,_=>False
theorem Rn.cut:∀{r:List (Nat×Nat×Nat)}{s:Nat}{o:List (List Nat)},Rn X s o (r++w)->∃a L2,o=a++L2/\Rn X (s+TD a.flatten) L2 w/\∀M q,Rn X (s+TD a.flatten) M q->Rn X s (a++M) (r++q)
 |[],s,o,h=>⟨[],o,rfl,h,λ_ _ h=>h⟩
 |p::r,s,[],h=>h.elim
 |p::r,s,A::o,h=>by
  obtain⟨h1,b,c,f,g⟩:=h;obtain⟨a,L2,rfl,k,l⟩:=Rn.cut g;have e:s+(A::a).flatten.length=s+TD A+(TD a.flatten):=by simp;lia
  exact⟨A::a,L2,rfl,e▸k,λM q h=>⟨h1,b,c,f,l M q<|e▸h⟩⟩
def SV{s:sy}{f:PUnit->StateT sy dc t}(h:wp X (f ⟨⟩) Q s):wp X (set s>>=f) Q st:=lu λ_ g=>by rw[StateT.run_set];exact ju ⟨g,h⟩
def upA(u:A.Pairwise X.le)(v:B.Pairwise X.le)(h:∀a∈A,∀b∈B,X.le a b):(A++B).Pairwise X.le:=sv.mpr ⟨u,v,h⟩
def Su(a:L=T++(A++R))(b:i=TD T)(c:j=TD T+TD A):(ar X L).extract i j=ar X A:=by subst a b c;simp
def RG{Q:Bool->sy->Prop}(S:Rp X d (o.flatten++R) st)(hr:Rn X 0 o d.toList)(hi:i+1<d.size)(h:∀f6 cO jf,Rp X cO (jf.flatten++R) f6->Rn X 0 jf cO.toList->cO.size+1=d.size->TD jf.flatten=TD o.flatten->Q Td f6):wp X (mergeAt' i) Q st:=by
 obtain⟨d⟩:=d
 obtain⟨H,⟨Y,D,K⟩,⟨sb,F,fA⟩,U,rfl,rfl⟩:∃H x y U,d=H++x::y::U/\(TD H)=i:=by have hi:i+1<(TD d):=hi;exact⟨d.take i,d[i],d[i+1],d.drop<|i+2,by simp,by simp;lia⟩
 obtain⟨L1,L2,rfl,h2,h3⟩:=Rn.cut hr
 obtain⟨A,B,L2,rfl⟩:∃A B L,L2=A::B::L:=by
  match L2,h2 with
  |A::B::L,_=>exact⟨A,B,L,rfl⟩
  |[A],h=>exact h.2.2.2.2.elim
  |[],h=>exact h.elim
 obtain⟨O,Z,a1,P,hb,eS,b1,V,h4⟩:=h2;dsimp only at O Z hb eS;obtain⟨κ',a',p',g,f'⟩:=st;have e1:a'=_:=S.a;have e2:p'=_:=S.q;subst e1 e2;rw[show(L1++A::B::L2).flatten++R=L1.flatten++(A++(B++(L2.flatten++R))) by simp]at S ⊢
 have fin:∀f6 M,Rp X (H++(Y,D+F,K)::U).toArray (L1.flatten++(M++(L2.flatten++R))) f6->M.Perm (A++B)->M.Pairwise X.le->Q Td f6:=λf6 M J em u=>by have em:=em.length_eq;rw[ox,<-Z,<-eS]at em;refine h _ (H++(Y,D+F,K)::U).toArray (L1++M::L2) (by simpa using J) (h3 _ _ ⟨O,em.symm,λe=>a1 ?_,u,by rwa [em,Z,eS,<-xy]⟩) (by simp;lia) (by simp;lia);exact zy (by rw[e]at em;simp at em;lia)
 have ep:∀z,((H++(Y,D,K)::(sb,F,fA)::U).toArray.setIfInBounds (TD H) z).eraseIdxIfInBounds (TD H+1)=(H++z::U).toArray:=λz=>by simp[List.eraseIdx_append];intro;lia
 clear h h3 h4 hr;generalize L1.flatten=T at*;generalize L2.flatten++R=R at*;have hN:∀z,z∈A\/z∈B->z<X.N:=λz l=>by simpa using S.p.mem_iff.mp<|oX _ (by rcases l with h|h<;>simp[h])
 obtain⟨y,B',eB⟩:=List.exists_cons_of_ne_nil b1
 have hy:∀z∈B,X.le y z:=λz l=>by
  rw[eB]at V l;rcases nQ.mp l with rfl|l
  .exact X.rf _
  exact(AQ.mp V).1 z l
 refine pK ?_;dsimp only;rw[show(H++(Y,D,K)::(sb,F,fA)::U).toArray[TD H]?=SI (Y,D,K) by simp,show(H++(Y,D,K)::(sb,F,fA)::U).toArray[TD H+1]?=SI (sb,F,fA) by simp];dsimp only;rw[ep];refine SV<|mU (x:=y) (by rw[eB];exact Kr<|by lia)<|lu<|xR S.k (λz h=>hN z<|.inl h) (hN y<|.inr<|by simp[eB]) P Tl (by lia) Z.symm (by have:=RE.mpr a1;lia) λk hk t1 t2=>?_;have S2:Rp X (H++(Y,D+F,K)::U).toArray (T++(A++(B++R))) (SortSt.mk' κ' (ar X<|T++(A++(B++R))) (H++(Y,D+F,K)::U).toArray g f'):=⟨rfl,S.k,S.f,rfl,S.p⟩
 have done:(∀a∈A,X.le a y)->Q Td (SortSt.mk' κ' (ar X<|T++(A++(B++R))) (H++(Y,D+F,K)::U).toArray g f'):=λz=>fin _ (A++B) (by simpa using S2) (.refl _) (upA P V λa O b hb=>X.tr (z a O)<|hy b hb);rw[Z]at hk;obtain⟨v,E,rfl,rfl⟩:∃v E,A=v++E/\(TD v)=k:=⟨A.take k,A.drop k,by simp,by simp;lia⟩
 have t1:∀z∈v,X.le z y:=λz l=>by simpa using t1 z (by simpa using l)
 have t2:∀z∈E,X.le y z:=λz l=>X.as _ _ (by simpa using t2 z<|by simpa using l);rw[ox]at Z hb;dsimp only;rcases zw E with e|⟨A3,x,e⟩
 .subst e;rw[jz<|by simp[Z]];exact jx<|done (by simpa using t1)
 rw[Cv]at e;have l1:0<(TD E):=by simp[e]
 rw[jP<|by simp;lia];refine mU (x:=x) (by rw[e,show T++(v++(A3++[x])++(B++R))=T++((v++A3)++x::(B++R)) by simp];exact Kr (by have:=nC cG e;simp at this ⊢;lia))<|lu<|xR (T:=T++(v++E)) (R:=R) S.k (λz h=>hN z<|.inr h) (hN x<|.inl<|by simp[e]) V (by rw[<-qb]) (by simp;lia) eS.symm (by have:=RE.mpr b1;lia) λk2 bW t3 t4=>?_;rw[eS]at bW;obtain⟨I',G,rfl,rfl⟩:∃I' G,B=I'++G/\(TD I')=k2:=⟨B.take k2,B.drop k2,by simp,by simp;lia⟩
 have v3:∀z∈I',X.le z x:=λz l=>X.as _ _ (by simpa using t3 z<|by simpa using l);have v4:∀z∈G,X.le x z:=λz l=>by simpa using t4 z (by simpa using l)
 have lx:∀a∈v++E,X.le a x:=by rw[e,<-qb]at P ⊢;exact EF X.tr P<|X.rf x
 cases I' with
 |nil=>exact jx<|done λa O=>X.tr (lx a O)<|v4 y (by simp[show G=y::B' from eB])
 |cons b I'=>
  obtain rfl:b=y:=(vn eB).1;refine kg (λc=>by simp at c) λ_=>?_;rw[Su (A:=E) (T:=T++v) (R:=b::I'++G++R) (by simp) (by simp;lia)<|by simp;lia,Su (A:=b::I') (T:=T++(v++E)) (R:=G++R) (by simp) (by simp;lia)<|by simp;lia]
  have W:∀out s,Rp X (H++(Y,D+F,K)::U).toArray (T++(v++E++(b::I'++G++R))) s->Rs X (E++b::I') out->Q (f3 s).isNone (setArr s<|out.toList.zipIdx.foldl (λa x=>a.setIfInBounds (Y+TD v+x.2) x.1)<|fI s):=λout s J ho=>by
   obtain⟨M,rfl,u,hp⟩:=ho;rw[J.f,J.a];refine fin _ (v++(M++G)) ⟨?_,J.k,J.f,J.q,hH ?_ J.p⟩ ?_ ?_
   .have:=adC (M.map X.it) ((E++b::I').map X.it) ((T++v).map X.it) ((G++R).map X.it) 0 (Y+TD v) (by simp;lia) (by simpa using hp.length_eq.symm);simpa[ar]using this
   .simpa using(((hp.append_right<|G++R).append_left v).append_left T)
   .simpa using((hp.append_right G).append_left v)
   rw[sv]at P V;refine upA P.1 (upA u V.2.1 λa O c m=>?_) λa O c m=>?_
   .rcases qm.mp (hp.mem_iff.mp O)with O|O
    .exact X.tr (lx a<|by simp[O]) (v4 c m)
    exact V.2.2 a O c m
   have m:c∈E\/c∈b::I'++G:=by
    rcases qm.mp m with m|m
    .rcases qm.mp (hp.mem_iff.mp m)with m|m
     .exact .inl m
     exact .inr (CW _ m)
    exact .inr (oX _ m)
   rcases m with m|m
   .exact P.2.2 a O c m
   exact X.tr (t1 a O) (hy c m)
  have hd:∀z∈E,X.le (b::I')[0] z:=t2;have top:∀z∈b::I',X.le z E[TD E-1]:=λz l=>by subst e;simpa using v3 z l
  have l2:0<(b::I').length:=by simp
  have h3:∀z∈E,z<X.N:=λz l=>hN z<|.inl (by simp[l]);have h4:∀z∈b::I',z<X.N:=λz l=>hN z<|.inr<|CW _ l;have u1:=(sv.mp P).2.1;have u2:=(sv.mp V).1;exact kg (λc=>lu<|Wj S2 u1 u2 h3 h4 l1 l2 hd top λout s J ho=>vH<|pK<|jx<|W out s J ho) λc=>lu<|Wl S2 u1 u2 h3 h4 l1 l2 hd top λout s J ho=>vH<|pK<|jx<|W out s J ho
end
section
variable {X:Cs}{st:sy}{b:Array (Nat×Nat×Nat)}{A L:kz}
theorem Rn.mod{w:Nat}:∀{c:List (Nat×Nat×Nat)}{s:Nat}{a:List (List Nat)}(i:Nat),Rn X s a c->Rn X s a (c.modify i λx=>(x.1,x.2.1,w))
 |[],s,a,i,h=>by cases i<;>exact h
 |p::c,s,[],i,h=>h.elim
 |p::c,s,A::a,0,h=>h
 |p::c,s,A::a,i+1,h=>⟨h.1,h.2.1,h.2.2.1,h.2.2.2.1,Rn.mod i h.2.2.2.2⟩
theorem Rn.le:∀{c:List (Nat×Nat×Nat)}{s:Nat}{a:List (List Nat)},Rn X s a c->TD c<=TD a.flatten
 |[],s,a,h=>mw _
 |p::c,s,[],h=>h.elim
 |p::c,s,A::a,h=>by have:=Rn.le h.2.2.2.2;have:=RE.mpr h.2.2.1;simp at*;omega
theorem Rn.push{A:kz}{w:Nat}:∀{d:List (Nat×Nat×Nat)}{s:Nat}{c:List (List Nat)},Rn X s c d->A≠[]->A.Pairwise X.le->Rn X s (c++[A]) (d++[(s+TD c.flatten,TD A,w)])
 |[],s,[],h,a,u=>⟨rfl,rfl,a,u,trivial⟩
 |[],s,A::c,h,a,u=>h.elim
 |p::d,s,[],h,a,u=>h.elim
 |p::d,s,B::c,h,a,u=>⟨h.1,h.2.1,h.2.2.1,h.2.2.2.1,by simpa[xy]using Rn.push (w:=w) h.2.2.2.2 a u⟩
def Ph{Q:Unit->sy->Prop}(S:Rp X #[] L st)(h:∀E b L,Rp X b L E->L.Pairwise X.le->Q () E):wp X sortRuns' Q st:=by
 have I:(fI st).size=X.N:=by rw[S.a];simpa using S.p.length_eq
 have w:∀{b L st},Rp X b L st->TD L=X.N:=λS=>by simpa using S.p.length_eq
 rw[sortRuns'_eq];refine pK ?_;rw[I];dsimp only;refine nA (λi c s=>∃b,∃g:List (List Nat),∃R,c=(U,TD g.flatten)/\Rp X b (g.flatten++R) s/\Rn X 0 g b.toList/\i<=TD g.flatten) (λc s=>c.1=U/\∃b g,Rp X b g.flatten s/\Rn X 0 g b.toList) ⟨#[],[],L,rfl,S,trivial,mw _⟩ ?_ ?_ ?_
 .rintro i c s t ⟨b,g,R,rfl,S,d,o⟩;have r:=w S;dsimp only;refine kg (λe=>?_) λe=>?_
  .obtain rfl:R=[]:=zy (by simp at r e;omega);exact jx ⟨rfl,b,g,by simpa using S,d⟩
  obtain⟨x,R,rfl⟩:=sP (l:=R) (by simp at r e;omega);refine lu<|acT S Tl (by simp at r ⊢;omega) λA R s S a1 u M=>?_;apply LQ λn s=>∃A R,n=TD A/\Rp X b (g.flatten++(A++R)) s/\A≠[]/\A.Pairwise X.le
  .intro F;have T:=RE.mpr a1;refine kg (λe=>?_) λe=>?_
   .refine ue (lu<|SY S Tl Tl T (by simp at r;omega) (by omega) u λA R s S o u=>kg (λc=>by simp at c) λ_=>?_);generalize J:min (X.N-TD g.flatten) (minRun' X.N X.N 0)=n at o ⊢;exact F n s ⟨A,R,o.symm,S,by intro z;subst z;simp at o e;omega,u⟩
   exact F (TD A) s ⟨A,R,rfl,S,a1,u⟩
  rintro _ s ⟨A,R,rfl,S,a1,u⟩;refine pK ?_;apply RH λs=>∃b m,Rp X b (m.flatten++(A++R)) s/\Rn X 0 m b.toList/\(TD m.flatten)=TD g.flatten
  .intro F;rw[S.q]
   cases b.back? with
   |none=>exact F s ⟨b,g,S,d,rfl⟩
   |some z=>
    refine nA (λ_ c s=>c=(U,())/\∃b m,Rp X b (m.flatten++(A++R)) s/\Rn X 0 m b.toList/\(TD m.flatten)=TD g.flatten) (λc s=>c=(U,())/\∃b m,Rp X b (m.flatten++(A++R)) s/\Rn X 0 m b.toList/\(TD m.flatten)=TD g.flatten) ⟨rfl,b,g,S,d,rfl⟩ ?_ (λ_ _ h=>h) ?_
    .rintro j c s _ ⟨rfl,b,m,S,d,o⟩;refine pK ?_;rw[S.q]
     cases H:(if b.size>1 then b[b.size-2]? else U)with
     |none=>exact jx ⟨rfl,b,m,S,d,o⟩
     |some z=>
      refine kg (λ_=>jx ⟨rfl,b,m,S,d,o⟩) λ_=>lu<|RG S d ?_ λs v y S d _ O=>kg (λc=>by simp at c) λ_=>jx ⟨rfl,v,y,S,d,O.trans o⟩;split at H
      .omega
      cases H
    rintro c s ⟨rfl,b,m,S,d,o⟩;exact vH<|F _ ⟨_,m,⟨S.a,S.k,S.f,rfl,S.p⟩,by rw[S.q,Array.toList_modify];exact d.mod _,o⟩
  rintro s ⟨b,m,S,d,o⟩;refine vH<|jx ⟨_,m++[A],R,?_,⟨by simpa using S.a,S.k,S.f,rfl,by simpa using S.p⟩,?_,?_⟩
  .rw[List.flatten_append,ox,o];simp
  .rw[S.q,fv,<-o,<-zt (TD m.flatten)];exact d.push a1 u
  have:=RE.mpr a1;simp at*;omega
 .rintro c s ⟨b,g,R,rfl,S,d,o⟩;have r:=w S;obtain rfl:R=[]:=zy (by simp at r o;omega);exact⟨rfl,b,g,by simpa using S,d⟩
 rintro⟨_,c⟩ s ⟨rfl,b,g,S,d⟩;have r:=w S;have G:=d.le;refine nA (λi c s=>c=(U,())/\∃b g,Rp X b g.flatten s/\Rn X 0 g b.toList/\(b.size<=1\/b.size+i<=X.N)) (λc s=>c=(U,())/\∃b g,Rp X b g.flatten s/\Rn X 0 g b.toList/\b.size<=1) ⟨rfl,b,g,S,d,.inr<|by rw[lT]at G;omega⟩ ?_ ?_ ?_
 .rintro i c s _ ⟨rfl,b,g,S,d,t⟩;refine pK ?_;rw[S.q];refine kg (λe=>jx ⟨rfl,b,g,S,d,e⟩) λe=>lu<|RG (R:=[]) (by simpa using S) d ((λc:Bool=>show(if c=C then b.size-2-1 else b.size-2)+1<b.size by split<;>omega) _) λs v y S d I _=>kg (λc=>by simp at c) λ_=>jx ⟨rfl,v,y,by simpa using S,d,.inr<|by omega⟩
 .rintro c s ⟨rfl,b,g,S,d,t⟩;exact⟨rfl,b,g,S,d,by omega⟩
 rintro c s ⟨rfl,b,g,S,d,t⟩;refine jx<|h s b _ S ?_;obtain⟨C'⟩:=b
 match C',g,d,t with
 |[],[],_,_=>exact .nil
 |[p],[A],d,_=>simpa using d.2.2.2.1
 |p::[],A::B::g,d,_=>exact d.2.2.2.2.elim
 |[],A::g,d,_=>exact d.elim
 |p::C',[],d,_=>exact d.elim
 |p::U'::C',g,d,t=>simp at t
end
end TS
namespace PX
open L2 PySem.SeqAt
open PySem.AutoSeq1 (wpAny_loadPart')
open PySem.MeetsSeq PySem.MeetsSeq2 PySem.MeetsSeq3
noncomputable def pO(op:cZ)(i j:Int):Bool:=match op with
 |.Lt=>decide (i<j)|.LtE=>decide (i<=j)|.Gt=>decide (i>j)|_=>decide<|i>=j
def NG(a:cZ):Prop:=a=.Lt\/a=.LtE\/a=.Gt\/a=.GtE
def RA(op:cZ)(A:jF)(s:jk)(y x:jr)(b:Bool):Prop:= ∀(a:jI)(w:jG)(E:jZ)(Q:jZ),Q (.bool b) s->aa (ae a w) A (richCompare op y x) Q E s
def ON(op:cZ)(A:jF)(s:jk)(fin:Bool):List (jr×jr)->Bool->Prop
 |[],r=>r=fin
 |(y,x)::rest,r=>∃e,EqAt A s y x e/\(if e=C then ON op A s fin rest r else RA op A s y x r)
def D6{op:cZ}{f:bc}(Q:op=.Lt/\f=bc.«tuple.__lt__»\/op=.LtE/\f=bc.«tuple.__le__»)(l b:jh)(items j:nJ)(n E:Nat)(dd t:Option jh)(H u:wc)(r:Bool):
  R1 (f ⟨[.ref l,.ref b],[]⟩) (λA R s=>s.heap.get? l=Y {cls:=.type "tuple",dict:=dd,data:=.seq items n,slots:=H}/\s.heap.get? b=Y {cls:=.type "tuple",dict:=t,data:=.seq j E,slots:=u}/\
   ON op A.in1 s (pO op items.size j.size) (items.toList.zip j.toList) r/\R (.ok<|.ret<|.bool r) s):=by
 rcases Q with⟨h1,rfl⟩|⟨h1,rfl⟩
 all_goals
  refine .of_wp λc w A R s h=>?_;obtain⟨p,g,d,q,os⟩:=s;obtain⟨B,v,a,h⟩:=h;have O:=AutoSeq1.sub_tuple_tuple
  wp_walk using gF B,gF v,vh _ (λi b m=>b.1=U/\m=⟨p,g,d,q,os⟩/\ON op A.in1 ⟨p,g,d,q,os⟩ (pO op items.size j.size) i r) _
  case turn=>
   rintro⟨y,x⟩ i b m ⟨o,rfl,e,z,a⟩;refine ji<|z c w _ _ ?_
   cases e with
   |true=>
    simp at a
    wp_walk
    exact⟨rfl,rfl,a⟩
   |false=>
    simp at a;subst h1;have k:=a c w
    wp_walk using k
    exact⟨_,rfl,by simpa using h⟩
  case fin=>
   rintro⟨T,L⟩ m ⟨o,rfl,a⟩;subst h1;simp only at o;subst o;have a:r=_:=a;rw[a]at h
   wp_walk
   exact⟨_,rfl,by simpa[u4,pO]using h⟩
  case h=>exact⟨rfl,rfl,a⟩
section
variable {A:jF}{s:jk}{l b:jh}{items a:nJ}{r:Bool}
def ads(z:op=.Lt\/op=.LtE)(y:s.heap.IsTuple l items)(v:s.heap.IsTuple b a)(k:A.units<aI)(m:ON op A.in1 s (pO op items.size a.size) (items.toList.zip a.toList) r):RA op A s (.ref l) (.ref b) r:=λp w E Q h=>by
 obtain⟨⟨u,dd,i,q⟩,d,j,n,hd⟩:=id y;obtain⟨⟨B,f,data2,g⟩,e,t,o,c⟩:=id v;simp only at j hd t c;subst j hd t c;rcases z with rfl|rfl
 .exact Lh (op:=.Lt) ⟨_,d,rfl⟩ ⟨_,e,rfl⟩ PySem.F.slot_tuple_lt PySem.F.entry_tuple_lt (PySem.F.args_tuple_lt_2 _ _) (D6 (.inl ⟨rfl,rfl⟩) l b items a n o dd f q g r) ⟨d,e,m,show dh r≠gP/\Q (.bool r) s from⟨(λx=>nomatch x),h⟩⟩ k
 exact Lh (op:=.LtE) ⟨_,d,rfl⟩ ⟨_,e,rfl⟩ PySem.F.slot_tuple_le PySem.F.entry_tuple_le (PySem.F.args_tuple_le_2 _ _) (D6 (.inr ⟨rfl,rfl⟩) l b items a n o dd f q g r) ⟨d,e,m,show dh r≠gP/\Q (.bool r) s from⟨(λx=>nomatch x),h⟩⟩ k
end
mutual
noncomputable def rP(a:cZ):D->D->Option Bool
 |.int i,e=>match e with|.int j=>Y (pO a i j)|_=>U
 |.tup l,e=>match e with|.tup m=>if a=.Lt\/a=.LtE then tV a l m else U|_=>U
 |_,_=>U
noncomputable def tV(a:cZ):List D->List D->Option Bool
 |[],m=>Y<|pO a 0<|TD m
 |x::l,e=>match e with|[]=>Y (pO a ((x::l).length) 0)|y::m=>if D.Z1 x y=C then tV a l m else rP a x y
end
def rL(c:cZ)(a b k:Int):pO c (a+k) (b+k)=pO c a b:=by
 cases c<;>simp[pO]
section
variable {X:Cx}{c:kf}{f:L2.St}{H:Hp}{s:jk}
def Eg(b:NG op):RA op A s (.int i t) (.int j u) (pO op i j):=λa w E Q h=>by
 rcases b with rfl|rfl|rfl|rfl
 .exact(xc h:aa (ae a w) A (aT .Lt _ _) Q E s)
 .exact(xf h:aa (ae a w) A (aT .LtE _ _) Q E s)
 .exact(xn h:aa (ae a w) A (aT .Gt _ _) Q E s)
 exact(xx h:aa (ae a w) A (aT .GtE _ _) Q E s)
def Mk(ho:NG op)(I:Inv X c f H s):∀(n:Nat)(d e:D)(v u:V)(a b:jr)(O B:Z5)(A:jF)(r:Bool),kZ X.K H O d v->kZ X.K H B e u->RelV v a->RelV u b->d.dep<=n->e.dep<20000->A.units+n<aI->rP op d e=Y r->RA op A s a b r:=by
 intro n
 induction n with
 |zero=>
  intro d e v u a b O B A r hd T G J M Z hA g
  cases d with
  |int i=>
   cases e with
   |int j=>have:=kj hd;subst this;have:=kj T;subst this;obtain⟨t,rfl⟩:=G;obtain⟨t',rfl⟩:=J;simp only[rP]at g;rw[<-lI g];exact Eg ho
   |_=>cases g
  |tup l=>rw[D.dep]at M;lia
  |_=>cases g
 |succ n ih=>
  intro d e v u a b O B A r hd T G J M Z hA g
  cases d with
  |int i=>
   cases e with
   |int j=>have:=kj hd;subst this;have:=kj T;subst this;obtain⟨t,rfl⟩:=G;obtain⟨t',rfl⟩:=J;simp only[rP]at g;rw[<-lI g];exact Eg ho
   |_=>cases g
  |tup l=>
   cases e with
   |tup m=>
    simp only[rP]at g;split at g
    case isFalse=>cases g
    rename_i N;rw[D.dep]at M Z;obtain⟨p,E,rfl,q,z⟩:=lZ hd;obtain⟨p2,L,rfl,q2,o⟩:=lZ T;cases G;cases J;obtain⟨h,Q,pl,_⟩:=I.tuple q;obtain⟨w,C,i5,_⟩:=I.tuple q2;have R:A.in1.units=A.units+1:=rfl
    have key:∀(l m:List D)(E L:List V)(h w:kF)(k:Int),D.A6 l+1<=n+1->D.A6 m<20000->Z9 X.K H O l E->Z9 X.K H B m L->Vals E h->Vals L w->tV op l m=Y r->ON op A.in1 s (pO op (h.length+k)<|w.length+k) (h.zip w) r:=by
     intro l
     induction l with
     |nil=>
      intro m E L h w k F P z o Q C g;rw[Z9]at z;subst z;cases Q;simp only[tV]at g;have e1:=o.length;have e2:=C.length;show r=_;rw[rL,<-lI g]
      congr 1
      lia
     |cons x l U'=>
      intro m E L h w k F P z o Q C g;rw[Z9]at z;obtain⟨vx,xr,rfl,g1,g2⟩:=z
      cases Q with
      |cons a1 Y'=>
       cases m with
       |nil=>
        rw[Z9]at o;subst o;cases C;simp only[tV]at g;have e1:=g2.length;have e2:=Y'.length;rw[iO];show r=_;rw[rL,<-lI g]
        congr 1
        simp;lia
       |cons y m=>
        rw[Z9]at o;obtain⟨vy,yr,rfl,S,g4⟩:=o
        cases C with
        |cons b1 b2=>
         simp only[tV]at g;rw[D.A6]at F P;rw[sO];refine⟨D.Z1 x y,AD I n x y vx vy _ _ O B A.in1 (.inl g1) (.inl S) a1 b1 (by lia) (by lia) (by rw[R];lia),?_⟩
         cases W:D.Z1 x y with
         |true=>
          rw[W,jz Tl]at g;rw[jz Tl];have:=U' m xr yr _ _ (k+1) (by lia) (by lia) g2 g4 Y' b2 g;simp only[oH];have e:∀a:Nat,(((a+1:Nat):Int)+k)=(a:Int)+(k+1):=λa=>by lia
          rw[e,e];exact this
         |false=>rw[W,jP lQ]at g;rw[jP lQ];exact ih x y vx vy _ _ O B A.in1 r (.inl g1) (.inl S) a1 b1 (by lia) (by lia) (by rw[R];lia) g
    have:=key l m E L h w 0 (by lia) (by lia) z o Q C g;refine ads N pl i5 (by lia) ?_;simpa using this
   |_=>cases g
  |_=>cases g
def ym(a:cZ)(d e:D):Option (D×Bool):=if d.dep<=50/\e.dep<=50 then(rP a d e).map λb=>(.bl b,I)else U
def Qp(b:NG op)(l:X.A.units+60<aI):Dw X (aT op) (rD X.K<|ym op):=by
 intro c s f H x y v u Q T j k h;obtain⟨O,d,e,z,np,h1,g,a,G⟩:=h;unfold ym at a;split at a
 .rename_i hd;obtain⟨r,i,rfl⟩:=jX a;have:=Mk b T 50 d e x y v u O O X.A r h1 g j k hd.1 (by lia) (by lia) i X.prog X.w X.xe (EP X c f Q) ⟨.bl r,H,T,rfl,G.bl⟩;rcases b with rfl|rfl|rfl|rfl<;>exact this
 cases a
end
open TS
section
variable {b:jI}{w:jG}{A:jF}{E:jZ}{s:jk}
noncomputable def qh(h:jH)(a:jh)(c:kF):Heap:=((h.update a<|aM λ_=> #[]).push<|bo "tuple" c.toArray 0).push<|bo "list" #[] 0
noncomputable def NF(a:kF)(i:Nat):Keyed:=(a.getD i ah,a.getD i ah)
def uU{a:jh}{c:kF}{n:Nat}{P:gC->jk->Prop}{κ:n3}{lt:Nat->Nat->Bool}(r:s.heap.get? a=Y (bo "list" c.toArray n))(z:(TD c)<=sizeLine)(as:∀i j,lt i j=Td->lt j i=Tk)(G:∀{i j k},lt j i=Tk->lt k j=Tk->lt k i=Tk)
  (hk:2<=TD c->aa (ae b w) A (keyKind' c.toArray) (λg d=>d={s with heap:=qh s.heap a c}/\g=κ) (λ_ _=>False) {s with heap:=qh s.heap a c})
  (ask:2<=TD c->Ask (ae b w) A (λd=>d={s with heap:=qh s.heap a c}) (NF c) κ (TD c) lt)
  (h:∀p:List Nat,p.Perm (am<|TD c)->p.Pairwise (λi j=>lt j i=Tk)->P (.done<|.ret .none) {s with heap:=(qh s.heap a c).update a (aM λ_=>(p.map λi=>c.getD i ah).toArray)}):
  aa (ae b w) A (bc.«list.sort» ⟨[.ref a],[]⟩) P E s:=by
 rw[list_sort_plain];have M:a<s.heap.objs.size:=kX r;refine ji<|FN r Tl<|ji<|vg r Tl ?_ (by rw[lH];exact z)<|mw _;obtain⟨u,B⟩:∃u,(s.heap.update a<|aM λ_=>(#[]:Array jr)).get? a=Y (bo "list" #[] u):=⟨_,xw r λ_=> #[]⟩
 refine ji<|zr B Tl<|ji<|CF ?_ (by show (TD c)<=_;exact z);refine ji<|Ct ?_<|mw _;refine mE ?_;have q:(qh s.heap a c).get? a=Y (bo "list" #[] u):=kB _ (kB _ B);show aa (ae b w) A _ P E {s with heap:=qh s.heap a c};dsimp only;by_cases l:c.toArray.size<2
 .rw[jz l,jz l];refine ji<|ju ?_;rw[FQ];refine ji<|ju ?_;dsimp only;refine ji<|zr q Tl<|ji<|vg q Tl ?_ (mw _) ?_
  .simp only[xH,lL];refine ju ?_;have t:(TD c)<2:=by simpa using l
   have:=h (am<|TD c) (vf _) (by rw[LA];intro i j m O N;simp at m O;lia)
   have e:((c.toArray.zip c.toArray).map (·.2))=((am<|TD c).map λi=>c.getD i ah).toArray:=by
    apply x9
    .simp
    intro i h1 I;have m:i<(TD c):=by simpa using h1
    simp[m]
   rw[e];exact this
  rw[oC,n9];simp;lia
 rw[jP l,jP l];have t:2<=(TD c):=by simpa using l
 refine ji<|oJ (hk t) (λg d y=>?_) λ_ _ x=>x.elim;obtain⟨rfl,rfl⟩:=y;refine ji (oJ (Ph (X:=⟨_,A,E,λd=>d={s with heap:=qh s.heap a c},NF c,lt,g,TD c,as,G,ask t⟩) (L:=am<|TD c) ⟨?_,rfl,rfl,rfl,.refl _⟩ (Q:=λ_ o=>∃p,(fI o).map (·.2)=(p.map λi=>c.getD i ah).toArray/\f3 o=U/\p.Perm (am<|TD c)/\p.Pairwise λi j=>lt j i=Tk) (λo _ p R v=>⟨p,?_,R.f,R.p,v⟩) _ rfl) ?_ λ_ _ e=>e)
 .show c.toArray.zip c.toArray=_;apply x9
  .simp
  intro i h1 I;have m:i<(TD c):=by simpa using h1
  simp[NF,m]
 .rw[R.a];simp[NF]
 rintro⟨⟨⟩,o⟩ d ⟨rfl,C,out,J,H,v⟩;dsimp only;have T:(TD C)=(TD c):=by simpa using H.length_eq
 refine ji<|zr q Tl<|ji<|vg q Tl ?_ (mw _) ?_
 .rw[J];simp;rw[out];exact ju<|h C H v
 rw[out,lH,kN,T];lia
end
mutual
noncomputable def cT:D->D->Ordering
 |.int i,e=>match e with|.int j=>if i<j then .lt else if i=j then .eq else .gt|_=>.lt
 |.tup l,e=>match e with|.int _=>.gt|.tup m=>cL l m|_=>.lt
 |_,e=>match e with|.int _=>.gt|.tup _=>.gt|_=>.eq
noncomputable def cL:List D->List D->Ordering
 |[],m=>match m with|[]=>.eq|_::_=>.lt
 |x::l,m=>match m with|[]=>.gt|y::m=>match cT x y with
  |.lt=>.lt
  |.gt=>.gt
  |.eq=>cL l m
end
mutual
theorem Je:∀x:D,cT x x=.eq
 |.int i=>by simp[cT]
 |.tup l=>by simp only[cT];exact Jg l
 |.Z4=>by simp[cT]
 |.bl _=>by simp[cT]
 |.str _=>by simp[cT]
 |.lst _=>by simp[cT]
 |.Z3 _ _ _=>by simp[cT]
theorem Jg:∀l:List D,cL l l=.eq
 |[]=>by simp[cL]
 |x::l=>by simp only[cL,Je x];exact Jg l
end
mutual
theorem zj:∀x y:D,cT y x=(cT x y).swap
 |.int i,.int j=>by
  simp only[cT,cT];by_cases h1:i<j
  .rw[jz h1,jP<|by lia,jP<|by lia];rfl
  rw[jP h1];by_cases a:i=j
  .rw[jz a,jP<|by lia,jz a.symm];rfl
  rw[jP a,jz<|by lia];rfl
 |.tup l,.tup m=>by simp only[cT,cT];exact Jf l m
 |.int _,.tup _=>by simp[cT]
 |.int _,.Z4=>by simp[cT]
 |.int _,.bl _=>by simp[cT]
 |.int _,.str _=>by simp[cT]
 |.int _,.lst _=>by simp[cT]
 |.int _,.Z3 _ _ _=>by simp[cT]
 |.tup _,.int _=>by simp[cT]
 |.tup _,.Z4=>by simp[cT]
 |.tup _,.bl _=>by simp[cT]
 |.tup _,.str _=>by simp[cT]
 |.tup _,.lst _=>by simp[cT]
 |.tup _,.Z3 _ _ _=>by simp[cT]
 |.Z4,y=>by cases y<;>simp[cT]
 |.bl _,y=>by cases y<;>simp[cT]
 |.str _,y=>by cases y<;>simp[cT]
 |.lst _,y=>by cases y<;>simp[cT]
 |.Z3 _ _ _,y=>by cases y<;>simp[cT]
theorem Jf:∀l m:List D,cL m l=(cL l m).swap
 |[],[]=>by simp[cL]
 |[],_::_=>by simp[cL]
 |_::_,[]=>by simp[cL]
 |x::l,y::m=>by
  simp only[cL,cL,zj x y];cases h:cT x y<;>simp[Ordering.swap]
  exact Jf l m
end
def Np(h1:cT x y≠ .gt)(a:cT y x≠ .gt):cT x y=.eq:=by
 rw[zj x y]at a
 cases h:cT x y with
 |lt=>rw[h]at a;exact absurd J a
 |eq=>rfl
 |gt=>exact absurd h h1
mutual
theorem wY:∀x y z:D,cT x y≠ .gt->cT y z≠ .gt->cT x z≠ .gt
 |.int i,y,z,h1,d=>by
  cases z with
  |int k=>
   cases y with
   |int j=>
    simp only[cT]at h1 d ⊢
    have a:i<=j:=by
     by_cases a:i<j
     .lia
     rw[jP a]at h1;by_cases b:i=j
     .lia
     rw[jP b]at h1;exact absurd J h1
    have b:j<=k:=by
     by_cases a:j<k
     .lia
     rw[jP a]at d;by_cases b:j=k
     .lia
     rw[jP b]at d;exact absurd J d
    by_cases c:i<k
    .rw[jz c];simp
    rw[jP c,jz<|by lia];simp
   |_=>simp[cT]at d
  |_=>simp[cT]
 |.tup l,y,z,h1,d=>by
  cases y with
  |int j=>simp[cT]at h1
  |tup m=>
   cases z with
   |int k=>simp[cT]at d
   |tup n=>simp only[cT]at h1 d ⊢;exact E7 l m n h1 d
   |_=>simp[cT]
  |_=>cases z<;>simp_all [cT]
 |.Z4,y,z,h1,d=>by cases y<;>cases z<;>simp_all [cT]
 |.bl _,y,z,h1,d=>by cases y<;>cases z<;>simp_all [cT]
 |.str _,y,z,h1,d=>by cases y<;>cases z<;>simp_all [cT]
 |.lst _,y,z,h1,d=>by cases y<;>cases z<;>simp_all [cT]
 |.Z3 _ _ _,y,z,h1,d=>by cases y<;>cases z<;>simp_all [cT]
 termination_by x y z=>sizeOf x+sizeOf y+sizeOf z
theorem E7:∀l m n:List D,cL l m≠ .gt->cL m n≠ .gt->cL l n≠ .gt
 |[],m,n,_,_=>by cases n<;>simp[cL]
 |x::l,[],n,h1,_=>by simp[cL]at h1
 |x::l,y::m,[],_,a=>by simp[cL]at a
 |x::l,y::m,z::n,h1,a=>by
  have a1:cT x y≠ .gt:=λh=>by simp only[cL,h]at h1;exact h1 J
  have c:cT y z≠ .gt:=λh=>by simp only[cL,h]at a;exact a J
  have g:=wY x y z a1 c;simp only[cL]
  cases b:cT x z with
  |lt=>simp
  |gt=>exact absurd b g
  |eq=>
   have f:cT z x≠ .gt:=by rw[zj x z,b];simp[Ordering.swap]
   have d:cT x y=.eq:=Np a1<|wY y z x c f;have e:cT y z=.eq:=Np c<|wY z x y f a1;simp only[cL,d]at h1;simp only[cL,e]at a;exact E7 l m n h1 a
 termination_by l m n=>sizeOf l+sizeOf m+sizeOf n
end
def Be(x y:D):Bool:=cT x y== .lt
def W7:Be x y=C↔cT x y=.lt:=by simp[Be]
def qL:Be x y=I↔cT x y≠ .lt:=by simp[Be]
def R6:Be y x=I↔cT x y≠ .gt:=by rw[qL,zj x y];cases cT x y<;>simp
def XN(x y:D)(h:Be x y=C):Be y x=I:=by rw[R6,W7.mp h];simp
def Wo(h1:Be y x=I)(a:Be z y=I):Be z x=I:=R6.mpr<|wY _ _ _ (R6.mp h1) (R6.mp a)
mutual
noncomputable def D.pr:D->Bool
 |.int _=>C
 |.tup l=>D.J8 l
 |_=>I
noncomputable def D.J8:List D->Bool
 |[]=>C
 |x::l=>D.pr x&&D.J8 l
end
mutual
theorem Hg:∀x y:D,D.pr x=C->D.pr y=C->D.Z1 x y=(cT x y== .eq)
 |.int i,.int j,_,_=>by
  simp only[D.Z1,cT];by_cases h:i=j
  .subst h;simp
  rw[jP h];by_cases a:i<j<;>simp[h,a]
 |.int _,.tup _,_,_=>by simp[D.Z1,cT]
 |.tup _,.int _,_,_=>by simp[D.Z1,cT]
 |.tup l,.tup m,h1,a=>by simp only[D.Z1,cT];rw[D.pr]at h1 a;exact IV l m h1 a
 |.Z4,_,h,_=>by simp[D.pr]at h
 |.bl _,_,h,_=>by simp[D.pr]at h
 |.str _,_,h,_=>by simp[D.pr]at h
 |.lst _,_,h,_=>by simp[D.pr]at h
 |.Z3 _ _ _,_,h,_=>by simp[D.pr]at h
 |_,.Z4,_,h=>by simp[D.pr]at h
 |_,.bl _,_,h=>by simp[D.pr]at h
 |_,.str _,_,h=>by simp[D.pr]at h
 |_,.lst _,_,h=>by simp[D.pr]at h
 |_,.Z3 _ _ _,_,h=>by simp[D.pr]at h
theorem IV:∀l m:List D,D.J8 l=C->D.J8 m=C->D.Bh l m=(cL l m== .eq)
 |[],[],_,_=>by simp[D.Bh,cL]
 |[],_::_,_,_=>by simp[D.Bh,cL]
 |_::_,[],_,_=>by simp[D.Bh,cL]
 |x::l,y::m,h1,a=>by rw[D.J8,nN]at h1 a;simp only[D.Bh,cL];rw[Hg x y h1.1 a.1,IV l m h1.2 a.2];cases cT x y<;>simp
end
mutual
theorem AK:∀x y:D,D.pr x=C->D.pr y=C->cT x y=.eq->x=y
 |.int i,.int j,_,_,h=>by
  simp only[cT]at h;by_cases h1:i<j
  .rw[jz h1]at h;cases h
  rw[jP h1]at h;by_cases c:i=j
  .rw[c]
  rw[jP c]at h;cases h
 |.tup l,.tup m,a,b,h=>by simp only[cT]at h;rw[D.pr]at a b;rw[E8 l m a b h]
 |.int _,.tup _,_,_,h=>by simp[cT]at h
 |.tup _,.int _,_,_,h=>by simp[cT]at h
 |.Z4,_,a,_,_=>by simp[D.pr]at a
 |.bl _,_,a,_,_=>by simp[D.pr]at a
 |.str _,_,a,_,_=>by simp[D.pr]at a
 |.lst _,_,a,_,_=>by simp[D.pr]at a
 |.Z3 _ _ _,_,a,_,_=>by simp[D.pr]at a
 |_,.Z4,_,a,_=>by simp[D.pr]at a
 |_,.bl _,_,a,_=>by simp[D.pr]at a
 |_,.str _,_,a,_=>by simp[D.pr]at a
 |_,.lst _,_,a,_=>by simp[D.pr]at a
 |_,.Z3 _ _ _,_,a,_=>by simp[D.pr]at a
theorem E8:∀l m:List D,D.J8 l=C->D.J8 m=C->cL l m=.eq->l=m
 |[],[],_,_,_=>rfl
 |[],_::_,_,_,h=>by simp[cL]at h
 |_::_,[],_,_,h=>by simp[cL]at h
 |x::l,y::m,a,b,h=>by
  rw[D.J8,nN]at a b;simp only[cL]at h
  cases e:cT x y with
  |eq=>rw[e]at h;rw[AK x y a.1 b.1 e,E8 l m a.2 b.2 h]
  |lt=>rw[e]at h;cases h
  |gt=>rw[e]at h;cases h
end
mutual
theorem DE:∀x y:D,D.pr x=C->D.pr y=C->∀b,rP .Lt x y=Y b->b=Be x y
 |.int i,.int j,_,_,b,h=>by
  simp only[rP]at h;rw[<-lI h,Be];simp only[cT,pO];by_cases h1:i<j
  .simp[h1]
  rw[jP h1];by_cases a:i=j<;>simp[h1,a]
 |.int _,.tup _,_,_,b,h=>by simp[rP]at h
 |.tup _,.int _,_,_,b,h=>by simp[rP]at h
 |.tup l,.tup m,h1,a,b,h=>by simp only[rP]at h;rw[jz<|.inl trivial]at h;rw[D.pr]at h1 a;rw[Be];simp only[cT];exact Jb l m h1 a b h
 |.Z4,_,h,_,_,_=>by simp[D.pr]at h
 |.bl _,_,h,_,_,_=>by simp[D.pr]at h
 |.str _,_,h,_,_,_=>by simp[D.pr]at h
 |.lst _,_,h,_,_,_=>by simp[D.pr]at h
 |_,.Z4,_,h,_,_=>by simp[D.pr]at h
 |_,.bl _,_,h,_,_=>by simp[D.pr]at h
 |_,.str _,_,h,_,_=>by simp[D.pr]at h
 |_,.lst _,_,h,_,_=>by simp[D.pr]at h
theorem Jb:∀l m:List D,D.J8 l=C->D.J8 m=C->∀b,tV .Lt l m=Y b->b=(cL l m== .lt)
 |[],[],_,_,b,h=>by simp only[tV]at h;rw[<-lI h];simp[pO,cL]
 |[],_::_,_,_,b,h=>by simp only[tV]at h;rw[<-lI h];simp[pO,cL]<;>lia
 |_::_,[],_,_,b,h=>by simp only[tV]at h;rw[<-lI h];simp[pO,cL]<;>lia
 |x::l,y::m,h1,a,b,h=>by
  rw[D.J8,nN]at h1 a;simp only[tV]at h;rw[Hg x y h1.1 a.1]at h;simp only[cL]
  cases c:cT x y with
  |eq=>rw[c]at h;simp at h;exact Jb l m h1.2 a.2 b h
  |lt=>rw[c]at h;simp at h;have:=DE x y h1.1 a.1 b h;rw[this,Be,c]
  |gt=>rw[c]at h;simp at h;have:=DE x y h1.1 a.1 b h;rw[this,Be,c]
end
section
variable {a:Type}(lt:a->a->Bool)
noncomputable def Dr(x:a):List a->List a
 |[]=>[x]
 |y::l=>if lt y x=C then y::Dr x l else x::y::l
def nR:List a->List a
 |[]=>[]
 |x::l=>Dr lt x<|nR l
theorem ux(x:a):∀l:List a,(Dr lt x l).Perm (x::l)
 |[]=>vf _
 |y::l=>by
  rw[Dr];split
  .exact((ux x l).cons y).trans (ij x y l)
  exact vf _
theorem lj:∀l:List a,(nR lt l).Perm l
 |[]=>vf _
 |x::l=>(ux lt x _).trans<|(lj l).cons x
end
def adM{x:D}:∀{l:List D},(l.Pairwise λx y=>Be y x=I)->(Dr Be x l).Pairwise λx y=>Be y x=I:=by
 intro d
 induction d with
 |nil=>intro _;exact Li _ _
 |cons y l c=>
  intro h;have h:=AQ.mp h;rw[Dr]
  cases b:Be y x
  .refine AQ.mpr ⟨λz a=>?_,AQ.mpr h⟩;rcases nQ.mp a with rfl|a
   .exact b
   exact Wo b (h.1 z a)
  refine AQ.mpr ⟨λz a=>?_,c h.2⟩;rcases nQ.mp ((ux Be x l).mem_iff.mp a)with rfl|a
  .exact XN _ _ b
  exact h.1 z a
theorem pk:∀l:List D,(nR Be l).Pairwise λx y=>Be y x=I
 |[]=>b8
 |x::l=>adM<|pk l
def KD{l m:List D}(h:∀x∈m,D.pr x=C)(a:l.Perm m)(c:l.Pairwise λx y=>Be y x=I):l=nR Be m:=
 Lg (λx y d e h1 b=>AK x y (h x<|a.mem_iff.mp d) (h y<|(lj Be m).mem_iff.mp e)<|Np (R6.mp h1)<|R6.mp b) c (pk m) (a.trans (lj Be m).symm)
def ace{a:List D}{p:kz}(pr:∀x∈a,D.pr x=C)(d:p.Perm (am<|TD a))(f:p.Pairwise λi j=>Be (a.getD j .Z4) (a.getD i .Z4)=I):p.map (λi=>a.getD i .Z4)=nR Be a:=by
 have e:(am<|TD a).map (λi=>a.getD i .Z4)=a:=by apply zA;intro i;by_cases c:i<TD a<;>simp[c]
 have b:=d.map λi=>a.getD i .Z4;rw[e]at b;exact KD pr b<|pd.mpr f
noncomputable def mx:D->Option Nat
 |.int _=>Y 0
 |.tup (.int _::_)=>Y 1
 |.tup (.tup _::_)=>Y 2
 |_=>U
noncomputable def IF:Nat->n3
 |0=>B0
 |1=>K2 C
 |_=>K2 I
structure GO(k:Nat)(l:List D):Prop where
 hd:∀x∈l,mx x=SI k
 pr:∀x∈l,D.pr x=Td
 dp:∀x∈l,x.dep<=50
 cm:∀x∈l,∀y∈l,(rP .Lt x y).isSome=Td
def oR(l:List D):Bool:=TD l<=1||match l with
 |[]=>C
 |x::_=>(mx x).isSome&&(l.all λy=>mx y==mx x&&D.pr y&&decide (y.dep<=50))&&l.all λy=>l.all λz=>(rP .Lt y z).isSome
def Bu(h:oR l=C):(TD l)<=1\/∃k,GO k l:=by
 unfold oR at h;rw[vd]at h;rcases h with h|h
 .left;simpa using h
 right
 cases l with
 |nil=>exact⟨0,λx a=>absurd a qv,λx a=>absurd a qv,λx a=>absurd a qv,λx a=>absurd a qv⟩
 |cons x m=>simp only[nN,mZ,vA]at h;obtain⟨⟨h1,c⟩,d⟩:=h;obtain⟨k,hk⟩:=Kz.mp h1;refine⟨k,λy b=>?_,λy b=>(c y b).1.2,λy b=>(c y b).2,λy b z e=>d y b z e⟩;have:=(c y b).1.1;rw[hk]at this;simpa using this
section
variable {X:Cx}{d:kf}{f:L2.St}{H:Hp}{s:jk}
def ug(v:Vals xs a)(b:i<a.length):RelV (xs.getD i .Z4) (a.getD i ah):=by
 have e:=v.length;have h:xs[i]?=Y xs[i]:=km (by omega);obtain⟨w,c,j⟩:=v.get h;have h1:xs.getD i .Z4=xs[i]:=by simp[show i<xs.length by omega]
 have g:a.getD i ah=w:=by rw[km b]at c;have:=lI c;simp[b,this]
 rw[h1,g];exact j
def uk(r:Z9 X.K H O ds xs)(a:i<ds.length):Rep X.K H O (ds.getD i .Z4) (xs.getD i .Z4):=by
 have e:=r.length;have hd:ds[i]?=Y ds[i]:=km a;obtain⟨v,b,g⟩:=r.get hd;have h1:ds.getD i .Z4=ds[i]:=by simp[a]
 have c:xs.getD i .Z4=v:=by rw[km<|by lia]at b;have:=lI b;simp[show i<xs.length by lia,this]
 rw[h1,c];exact g
def Ai{ds:List D}{i:Nat}(a:i<TD ds):ds.getD i .Z4∈ds:=by simp[a]
theorem EI(I:Inv X d f H s){A:jF}{b:Bool}{O z:Z5}(hA:A.units+60<aI){r:Bool}{Q:qu}(n:Q r s):∀(l m:List D)(u v:List V)(g o:kF)(k:Int)(i:Nat),D.A6 l<=50->D.A6 m<=50->
  ((b&&i==0)=Td->∀x y l' m',l=x::l'->m=y::m'->(∃a,x=.int a)/\∃c,y=.int c)->Z9 X.K H O l u->Z9 X.K H z m v->Vals u g->Vals v o->tV .Lt l m=SI r->
  ∀fin:Bool,fin=pO .Lt (g.length+k) (o.length+k)->PySem.W.KatLex X.prog X.w A b fin Q (g.zip o) i s
 |[],m,u,v,g,o,k,i,_,_,_,p,q,v1,v2,j,fin,hf=>by
  rw[Z9]at p;subst p;cases v1;simp only[tV]at j;have U':=q.length;have Y:=v2.length;show Q fin s;rw[hf,rL];rw[<-lI j]at n;have:pO .Lt ((([]:List jr).length:Nat):Int) (o.length:Int)=pO .Lt 0 (m.length:Int):=by congr 1;lia
  rw[this];exact n
 |x::l,[],u,v,g,o,k,i,_,_,_,p,q,v1,v2,j,fin,hf=>by
  rw[Z9]at q;subst q;cases v2;simp only[tV]at j;have U':=p.length;have Y:=v1.length;rw[iO];show Q fin s;rw[hf,rL];rw[<-lI j]at n;have:pO .Lt (g.length:Int) ((([]:List jr).length:Nat):Int)=pO .Lt (((x::l).length:Nat):Int) 0:=by congr 1;lia
  rw[this];exact n
 |x::l,y::m,u,v,g,o,k,i,M,N,hb,p,q,v1,v2,j,fin,hf=>by
  rw[Z9]at p q;obtain⟨L,R,rfl,g1,g2⟩:=p;obtain⟨T,S,rfl,C,F⟩:=q
  cases v1 with
  |cons a1 G=>
   cases v2 with
   |cons B J'=>
    simp only[tV]at j;rw[D.A6]at M N;rw[sO];refine PySem.W.kat_cons<|AD I 50 x y L T _ _ O z A (.inl g1) (.inl C) a1 B (by lia) (by lia) (by lia) X.prog X.w _ _ ?_
    cases E:D.Z1 x y with
    |true=>
     rw[E,jz J]at j;refine PySem.W.kat_yes<|EI I hA n l m R S _ _ (k+1) (i+1) (by lia) (by lia) (λh=>by simp at h) g2 F G J' j fin ?_;rw[hf];simp only[oH];have e:∀a:Nat,(((a+1:Nat):Int)+k)=(a:Int)+(k+1):=λa=>by lia
     rw[e,e]
    |false=>
     rw[E,jP lQ]at j;refine PySem.W.kat_no ?_
     cases P:(b&&i==0)with
     |true=>obtain⟨⟨a,rfl⟩,c,rfl⟩:=hb P x y l m J J;have:=g1.int;subst this;have:=C.int;subst this;obtain⟨t,rfl⟩:=a1;obtain⟨Z,rfl⟩:=B;simp only[rP]at j;rw[<-lI j]at n;exact oneLt_int n
     |false=>exact PySem.W.kat_one _ _ (Mk (.inl J) I 50 x y L T _ _ O z A r (.inl g1) (.inl C) a1 B (by lia) (by lia) (by lia) j X.prog X.w _ _ n)
def XM(I:Inv X d f H s){O:Z5}{u:List D}{N:List V}{e:kF}{A:jF}(hA:A.units+60<aI)(rr:Z9 X.K H O u N)(v:Vals N e){k:Nat}(B:GO k u):
  Ask (ae X.prog X.w) A (λT=>T=s) (NF e) (IF k) e.length (λi j=>Be (u.getD i .Z4)<|u.getD j .Z4):=by
 intro i j hi hj T w9 E';subst w9;have e1:=rr.length;have e2:=v.length;have J:u.getD i .Z4∈u:=Ai (by lia);have M:u.getD j .Z4∈u:=Ai (by lia);have ri:=uk rr (i:=i) (by lia);have rj:=uk rr (i:=j) (by lia);have vi:=ug v hi;have vj:=ug v hj;obtain⟨b,E⟩:=Kz.mp<|B.cm _ J _ M;have i3:=DE _ _ (B.pr _ J) (B.pr _ M) b E;have r:=B.hd _ J;have g:=B.hd _ M;have di:=B.dp _ J;have dj:=B.dp _ M;show aa _ _ (B1 (IF k) (e.getD i ah)<|e.getD j ah) _ _ _;dsimp only;rw[<-i3];generalize u.getD i .Z4=x at*;generalize u.getD j .Z4=y at*;generalize N.getD i .Z4=vx at*;generalize N.getD j .Z4=vy at*;generalize e.getD i ah=a at*;generalize e.getD j ah=c at*
 have C:∀(l m:List D)(G:Bool),x=.tup l->y=.tup m->(G=Td->∀x y Z m',l=x::Z->m=y::m'->(∃a,x=.int a)/\∃c,y=.int c)->aa (ae X.prog X.w) A (B1 (K2 G) a c) (λU R=>R=T/\U=b) E' T:=λl m G F P hh=>by subst F P;obtain⟨p,us,rfl,q,r1⟩:=ri.tup;obtain⟨p2,ws,rfl,q2,r2⟩:=rj.tup;cases vi;cases vj;obtain⟨S,w1,⟨o,ho,hc,n,hd⟩,_⟩:=I.tuple q.sq;obtain⟨L,w2,⟨o2,p7,v7,n2,Y⟩,_⟩:=I.tuple q2.sq;simp only[rP]at E;rw[jz<|.inl trivial]at E;rw[D.dep]at di dj;refine PySem.W.kat_lt ho hd p7 Y ?_;have:=EI I (b:=G) hA (Q:=λU R=>R=T/\U=b) ⟨rfl,rfl⟩ l m us ws S L 0 0 (by lia) (by lia) (λh=>hh<|by simpa using h) r1 r2 w1 w2 E (decide<|S.toArray.size<L.toArray.size) (by simp[pO]);simpa using this
 match k,r,g with
 |0,r,g=>
  cases x with
  |int ix=>
   cases y with
   |int iy=>have:=ri.int;subst this;have:=rj.int;subst this;obtain⟨t,rfl⟩:=vi;obtain⟨t',rfl⟩:=vj;simp only[rP]at E;rw[<-lI E];show aa _ _ (B1 B0 _ _) _ _ _;rw[keyLt'_oneType];exact oneLt_int ⟨rfl,rfl⟩
   |tup m=>cases m with
    |nil=>simp[mx]at g
    |cons z m=>cases z<;>simp[mx]at g
   |_=>simp[mx]at g
  |tup m=>cases m with
   |nil=>simp[mx]at r
   |cons z m=>cases z<;>simp[mx]at r
  |_=>simp[mx]at r
 |1,r,g=>
  cases x with
  |tup l=>
   cases y with
   |tup m=>
    refine C l m Td Tl Tl λ_ x y Z m' F P=>?_;subst F P;refine⟨?_,?_⟩
    .cases x with
     |int a=>exact⟨a,rfl⟩
     |_=>simp[mx]at r
    cases y with
    |int a=>exact⟨a,rfl⟩
    |_=>simp[mx]at g
   |_=>simp[mx]at g
  |_=>simp[mx]at r
 |(n+2),r,g=>
  cases x with
  |tup l=>
   cases y with
   |tup m=>exact C l m Tk Tl Tl λh=>absurd h lQ
   |_=>simp[mx]at g
  |_=>simp[mx]at r
end
open PySem.W
section
variable {X:Cx}{c:kf}{y:L2.St}{H:Hp}{s:jk}
def ES(I:Inv X c y H s){O:Z5}{T:jr}(P:D->Prop)(t:∀x v u,P x->Rep X.K H O x v->RelV v u->Looks (ae X.prog X.w) s.heap (zx u) T):∀{ds:List D}{b:List V}{a:kF},Z9 X.K H O ds b->Vals b a->
  (∀d∈ds,∃x l,d=.tup (x::l)/\P x)->∃fs,KatTups s.heap a fs/\(TD fs)=TD a/\∀f∈fs,Looks (ae X.prog X.w) s.heap (zx f) T:=by
 intro E
 induction E with
 |nil=>intro b a r v _;rw[Z9]at r;subst r;cases v;exact⟨[],KatTups.nil,rfl,λf A=>absurd A qv⟩
 |cons d ds C'=>
  intro b a r v h;rw[Z9]at r;obtain⟨W,Z,rfl,g1,g2⟩:=r
  cases v with
  |cons a1 j=>
   obtain⟨fs,L,Q,G⟩:=C' g2 j λd hd=>h d<|kn _ hd;obtain⟨x,l,rfl,J⟩:=h d la;obtain⟨p,S,rfl,q,i⟩:=g1.tup;cases a1;obtain⟨Y,N,⟨o,B,z,n,hd⟩,_⟩:=I.tuple q.sq;rw[Z9]at i;obtain⟨M,yr,rfl,m,R⟩:=i
   cases N with
   |cons k U'=>
    rename_i f F;refine⟨f::fs,KatTups.cons B z hd (by simp) L,by simp[Q],λg e=>?_⟩;rcases nQ.mp e with rfl|e
    .exact t x M _ J m k
    exact G g e
def UH(I:Inv X c y H s){O:Z5}{ds:List D}{J:List V}{b:kF}{A:jF}(f:Z9 X.K H O ds J)(v:Vals J b){k:Nat}(B:GO k ds)(N:2<=b.length):
  aa (ae X.prog X.w) A (keyKind' b.toArray) (λL s'=>s'=s/\L=IF k) (λ_ _=>False) s:=by
 have R:=f.length;have S:=v.length
 match k,B with
 |0,B=>
  refine kas_kind (T:=.type "int") N (λu F=>?_) Tl Tl ⟨rfl,rfl⟩;obtain⟨i,Q,e⟩:=zv F;have G:=uk f (i:=i) (by lia);have E:=ug v Q;have hd:=B.hd _ (Ai (ds:=ds) (i:=i)<|by lia);have:b.getD i ah=u:=by simp[Q,e]
  rw[this]at E
  cases h:ds.getD i .Z4 with
  |int a=>rw[h]at G;have:=G.int;rw[this]at E;obtain⟨t,rfl⟩:=E;exact Looks.of_pure Tl
  |tup l=>
   rw[h]at hd
   cases l with
   |nil=>simp[mx]at hd
   |cons z m=>cases z<;>simp[mx]at hd
  |_=>rw[h]at hd;simp[mx]at hd
 |1,B=>
  obtain⟨fs,f1,M,g⟩:=ES I (T:=.type "int") (λx=>∃a,x=.int a) (λx P u j C r=>by
   obtain⟨a,rfl⟩:=j;have:=C.int;subst this;obtain⟨t,rfl⟩:=r
   exact Looks.of_pure Tl) f v λd hd=>by
    have:=B.hd d hd
    cases d with
    |tup l=>
     cases l with
     |nil=>simp[mx]at this
     |cons z m=>
      cases z with
      |int a=>exact⟨_,m,rfl,a,rfl⟩
      |_=>simp[mx]at this
    |_=>simp[mx]at this
  exact kat_kind f1 (by lia) g Tl ⟨rfl,rfl⟩
 |(n+2),B=>
  obtain⟨fs,f1,M,g⟩:=ES I (T:=.type "tuple") (λx=>∃a,x=.tup a) (λx P u j C r=>by
   obtain⟨a,rfl⟩:=j;obtain⟨p,us,rfl,q,Z⟩:=C.tup;cases r;obtain⟨W,w1,⟨o,Y,U,n,hd⟩,_⟩:=I.tuple q.sq;have:Looks (ae X.prog X.w) s.heap (zx<|.ref p) o.cls:=(Looks.ld Y).andThen .now
   rw[U]at this;exact this) f v λd hd=>by
    have:=B.hd d hd
    cases d with
    |tup l=>
     cases l with
     |nil=>simp[mx]at this
     |cons z m=>
      cases z with
      |tup a=>exact⟨_,m,rfl,a,rfl⟩
      |_=>simp[mx]at this
    |_=>simp[mx]at this
  exact kat_kind f1 (by lia) g Tl ⟨rfl,rfl⟩
def ll(l:List D):Option (D×Bool):=if oR l=C/\(TD l)<=sizeLine then Y (.lst<|nR Be l,C)else U
def wK(d:D):Option (D×Bool):=(zQ d).bind ll
def acU{b:List V}{a:kF}(v:Vals b a):∀(p:kz),(∀i∈p,i<TD a)->Vals (p.map λi=>b.getD i .Z4) (p.map λi=>a.getD i ah):=by
 intro f
 induction f with
 |nil=>intro _;exact .nil
 |cons i p e=>intro h;exact .cons (ug v<|h i la)<|e λj d=>h j<|kn _ d
def adp{O:Z5}{a:List D}{b:List V}(r:Z9 X.K H O a b):∀(p:kz),(∀i∈p,i<TD a)->Z9 X.K H O (p.map λi=>a.getD i .Z4) (p.map λi=>b.getD i .Z4):=by
 intro f
 induction f with
 |nil=>intro _;exact Z9.nil
 |cons i p e=>intro h;exact Z9.cons (uk r<|h i la)<|e λj d=>h j<|kn _ d
def aa5{b:List D}{n:Nat}(e:n=TD b)(h1:(TD b)<=1){p:kz}(a:p.Perm (am n)):p.map (λi=>b.getD i .Z4)=nR Be b:=by
 subst e
 match b,h1,a with
 |[],_,a=>
  have:p=[]:=by simpa using a.length_eq
  subst this;rfl
 |[d],_,a=>
  have e:(TD p)=1:=by simpa using a.length_eq
  match p,e,a with
  |[i],_,a=>
   have:i=0:=by have:=a.mem_iff.mp<|DR.mpr J;simpa using this
   subst this;rfl
def ui(hu:X.A.units+62<aI)(I:Inv X c y H s){O:Z5}{f:List D}{M:List V}{a:kF}{x:jr}{Q:VK}{z:D×Bool}(u:Z9 X.K H O f M)(v:Vals M a)(hg:ll f=SI z)(G:Gen X.K H O z Q)
  (hc:∀(Y:List jr->jk->Prop)(E':jZ)(N:jF),N.handled=X.A.handled->(∀(h':jH)(d:Nat),(∀b o,s.heap.get? b=SI o->h'.get? b=SI o)->Y a {s with heap:=h',toks:=d})->aa (ae X.prog X.w) N (fW x) Y E' s):
  aa (ae X.prog X.w) X.A (call (.builtin "sorted") [x]) (EP X c y Q) X.xe s:=by
 unfold ll at hg;obtain⟨⟨L,hz⟩,rfl⟩:=jM hg;have r:=u.length;have e2:=v.length;refine Calls.call_function_entry Sr K3 Ls (args_sorted1 _) ?_;unfold bc.«sorted»;refine ji (m:=checkCount "sorted" 1 1 _)<|ju ?_;refine ji<|hc _ _ _ rfl λh1 d R=>?_;refine ji<|Ct ?_ (by lia);have t:(h1.push<|bo "list" a.toArray 0).get? h1.objs.size=SI (bo "list" a.toArray 0):=kW _ rfl;have C:Inv X c y H {s with heap:=h1,toks:=d}:=I.kept R
 have keep:∀b o,h1.get? b=SI o->(qh (h1.push<|bo "list" a.toArray 0) h1.objs.size a).get? b=SI o:=λb o l=>by have P:b≠h1.objs.size:=kU<|kX l;refine kB _ (kB _ ?_);rw[FL _ _ _ _ P];exact kB _ l
 have U:Inv X c y H {s with heap:=qh (h1.push<|bo "list" a.toArray 0) h1.objs.size a,toks:=d}:=C.kept keep;have Z:∀i∈am a.length,i<a.length:=λi q=>by simpa using q
 refine ji<|mE<|oI (s:={s with heap:=h1.push<|bo "list" a.toArray 0,toks:=d}) A2 ⟨_,t,rfl⟩ xz ?body<|args_list_sort _
 case body=>
  have fin:∀p:List Nat,p.Perm (am a.length)->p.map (λi=>f.getD i .Z4)=nR Be f->EP X c y Q (.ref h1.objs.size) {s with heap:=(qh (h1.push<|bo "list" a.toArray 0) h1.objs.size a).update h1.objs.size<|aM λ_=>(p.map λi=>a.getD i ah).toArray,toks:=d}:=λp e T=>by
   have F:∀i∈p,i<a.length:=λi q=>by simpa using e.mem_iff.mp q
   have J:∃n,(qh (h1.push<|bo "list" a.toArray 0) h1.objs.size a).get? h1.objs.size=SI (bo "list" #[] n):=by
    obtain⟨r,S⟩:∃r,((h1.push<|bo "list" a.toArray 0).update h1.objs.size<|aM λ_=>(#[]:Array jr)).get? h1.objs.size=SI (bo "list" #[] r):=⟨_,xw t λ_=> #[]⟩
    exact⟨r,kB _ (kB _ S)⟩
   obtain⟨n,J⟩:=J;obtain⟨E,W⟩:∃E,((qh (h1.push<|bo "list" a.toArray 0) h1.objs.size a).update h1.objs.size<|aM λ_=>(p.map λi=>a.getD i ah).toArray).get? h1.objs.size=SI (bo "list" (p.map λi=>a.getD i ah).toArray E):=⟨_,xw J λ_=>(p.map λi=>a.getD i ah).toArray⟩
   have g:∀b o,h1.get? b=SI o->((qh (h1.push<|bo "list" a.toArray 0) h1.objs.size a).update h1.objs.size<|aM λ_=>(p.map λi=>a.getD i ah).toArray).get? b=SI o:=λb o l=>by rw[FL _ _ _ _ (kU<|kX l)];exact keep b o l
   have pl:p.length=a.length:=by simpa using e.length_eq
   refine⟨.ref h1.objs.size,_,C.laid (t':=d) g (kD _) (show Z7 X.prog X.w _ _ _ (.lst<|p.map λi=>M.getD i .Z4)from⟨by rw[kN];lia,_,E,acU v p F,W⟩),rfl,?_⟩;refine G.lst C.fresh ?_;rw[<-T];exact adp u p λi q=>by have:=F i q;lia
  rcases Bu L with hlen|⟨k,B⟩
  .refine uU (κ:=general') (lt:=λ_ _=>Tk) (s:={s with heap:=h1.push<|bo "list" a.toArray 0,toks:=d}) t (by lia) (λ_ _ _=>rfl) (λ_ _=>rfl) (λh=>by lia) (λh=>by lia) λp e _=>⟨_,rfl,ju ⟨_,rfl,fin p e ?_⟩⟩
   exact aa5 (by lia) hlen e
  refine uU (κ:=IF k) (lt:=λi j=>Be (f.getD i .Z4)<|f.getD j .Z4) (s:={s with heap:=h1.push<|bo "list" a.toArray 0,toks:=d}) t (by lia) (λ_ _=>XN _ _) Wo (λh=>UH U u v B h) (λ_=>XM (A:=X.A.in1.in1) U (by show X.A.units+1+1+60<aI;lia) u v B) λp e T=>⟨_,rfl,ju ⟨_,rfl,fin p e<|ace B.pr (by rw[show f.length=a.length by lia];exact e) T⟩⟩
def aaC(j:X.A.units+62<aI):lr X (.builtin "sorted") (GF X.K<|g1 wK):=ot λc s y H x u Q O d z N t np hd a G=>by
 obtain⟨l,g,a⟩:=jl a
 have M:l.length<=sizeLine:=by unfold ll at a;exact(jM a).1.2
 cases d with
 |lst m=>
  cases g;obtain⟨p,J,rfl,q,r⟩:=lN hd;cases t;obtain⟨i,v,T,_⟩:=N.list q;have E:=r.length;have L:=v.length;obtain⟨o,h,f,n,hd⟩:=T.isList;refine ui j N r v a G λC B w _ e=>FK p (.inl Tl) h f hd (λb k=>by simpa using e b s.toks k) (by rw[lH];lia)
 |tup m=>
  cases g;obtain⟨p,J,rfl,q,r⟩:=lZ hd;cases t;obtain⟨i,v,⟨o,h,f,n,hd⟩,_⟩:=N.tuple q;have E:=r.length;have L:=v.length;refine ui j N r v a G λC B w _ e=>FK p (.inr Tl) h f hd (λb k=>by simpa using e b s.toks k) (by rw[lH];lia)
 |_=>cases g
def acG:av "sorted"=Y (.builtin "sorted"):=by decide+kernel
end
def uZ:av "isinstance"=Y (.builtin "isinstance"):=by decide+kernel
structure Tx(mg:ml):Prop where
 n_len:mg "len"=SS
 n_abs:mg "abs"=SS
 n_int:mg "int"=SS
 n_tuple:mg "tuple"=SS
 n_list:mg "list"=SS
 n_range:mg "range"=SS
 n_isinstance:mg "isinstance"=SS
 n_bool:mg "bool"=SS
 n_max:mg "max"=SS
 n_min:mg "min"=SS
 n_all:mg "all"=SS
 n_any:mg "any"=SS
 n_sorted:mg "sorted"=SS
 n_enumerate:mg "enumerate"=SS
 n_zip:mg "zip"=SS
 n_set:mg "set"=SS
def Q5{P:jI}{w:jG}{K:jJ}{g:ml}{base:jH}{f:jh}{d:nu}{i:jK}{k:Nat}:DF P w K g base El k f d i (Hj K λ_=>U) where
 len:=λj H Q E h=>by obtain⟨T,a,r,b,_,e,_⟩:=h;cases e
 run:=λA c s H a l j Q E _ _ _ _ h=>by obtain⟨T,a,r,b,_,e,_⟩:=h;cases e
def abK{K:jJ}{H:Hp}{O:Z5}:∀a:List Int,Z9 K H O (a.map .int) (a.map V.int):=by
 intro c
 induction c with
 |nil=>exact Z9.nil
 |cons n a b=>exact Z9.cons Rep.mkInt<|b
section
variable {X:Cx}{a b c:jv}{i h g:FO}{d:bt}{f e:cZ}
end
section
variable {X:Cx}
end
end PX
namespace HT
open L2
section
variable {a:jI}{w:jG}{A:jF}{E:jZ}{s:jk}
def abj{t c:jh}{items:nJ}{g i:jr}{lo d:Option Int}{Q:jZ}(b:gW s.heap t items)(e:s.heap.IsSliceOf c g i .none)(n:ef g lo)(o:ef i d)
  (f:AX items.size 0 lo=0/\AX items.size items.size d=items.size)(h:Q (.ref t) s):aa (ae a w) A (dL (.ref t)<|.ref c) Q E s:=by
 obtain⟨os,k,j,p⟩:=id e;have l:s.TypeIs (.ref c) "slice":=⟨os,k,j⟩
 unfold dL
 try with_reducible refine mE ?_
 first|refine ji (ju ?_)|skip
 refine ji<|sa b.typeIs (by decide) ?_
 refine ji (sV (name:=bv "__getitem__") b.typeIs AS
  (oI AS b.typeIs Lx ?_<|rc _ _))
 show aa _ _ (cE (.ref t)>>=_) _ _ s;refine ji<|FM b ?_;refine ji<|rE l ?_;rw[jz<|by decide];refine ji<|qJ e n o ?_;rw[f.1,f.2];show aa _ _ (if((((0:Nat):Int)==0&&(1:Int)==1&&(items.size-0)==items.size)=C)then _ else _) _ _ s;rw[jz<|by simp];refine ji (m:=eP _) ?_;unfold eP;refine ji<|rE b.typeIs ?_;refine ju ?_;rw[jz<|by decide];refine ji<|qy ?_
 first
  |exact ji<|ju ⟨_,rfl,ju h⟩
  |exact ju ⟨_,rfl,ju h⟩
  |exact ji<|ju<|ju ⟨_,rfl,ju h⟩
  |(refine ji ?_;trace_state;done)
end
end HT
namespace PX
open L2 PySem.SeqAt
noncomputable def BY(l:List D)(lo a:Option Int):List D:=(l.drop<|HT.AX (TD l) 0 lo).take<|HT.AX (TD l) (TD l) a-HT.AX (TD l) 0 lo
def NC(lo a:Option Int):D->Option (D×Bool)
 |.tup l=>Y (.tup<|BY l lo a,I)
 |.lst l=>Y (.lst<|BY l lo a,C)
 |_=>U
inductive rSlD(K:jJ)(x:V)(lo hi:Option Int)(H:Hp)(Q:VK):Prop where
 |mk (O:Z5) (d:D) (z:D×Bool) (_:∀p,¬Ow (H p)->¬O p) (_:kZ K H O d x) (_:NC lo hi d=SI z) (_:Gen K H O z Q)
def Z9.cut{K H}(r:Z9 K H O l xs)(lo a:Option Int):Z9 K H O (BY l lo a) (EX xs lo a):=by unfold BY EX;rw[r.length];exact(r.drop _).take _
section
variable {X:Cx}
def Eb{b:kf}{s:jk}{h:L2.St}{H:Hp}{a:jh}{v e f:jr}{lo c:Option Int}{d:jh}{Q:VK}{O:Z5}{l:List D}{g:List V}(N:Inv X b h H s)(n:RelV (.ref a) v)(j:s.heap.IsSliceOf d e f .none)(k:ef e lo)(m:ef f c)
  (q:G1 X.K H a g)(r:Z9 X.K H O l g)(G:Gen X.K H O (.lst<|BY l lo c,C) Q):∃T id,p4 (.type T) "__getitem__"=pure (Y<|.builtin id)/\s.TypeIs v T/\aa (ae X.prog X.w) X.A (dL v<|.ref d) (EP X b h Q) X.xe s:=
 Po b s h H (.ref a) v e f lo c d Q N n j k m ⟨a,g,rfl,q,λp i=>G.lst i<|r.cut lo c⟩
def YH:NW X (rSlD X.K):=by
 intro f s E H x v B N lo g A Q T n i k m h;obtain⟨O,d,z,np,hd,o,G⟩:=h
 cases d with
 |tup l=>
  cases o;rcases hd with hd|⟨a,_,h⟩
  .obtain⟨a,b,rfl,q,r⟩:=hd.tup;by_cases j:HT.AX b.length 0 lo=0/\HT.AX b.length b.length g=b.length
   .cases n;obtain⟨t,y,w,L⟩:=T.tuple q.sq;have c:t.toArray.size=b.length:=by rw[lH];exact y.length.symm
    refine⟨"tuple",_,AS.lookup,w.typeIs,?_⟩;refine HT.abj w i k m (by rw[c];exact j) ⟨.ref a,H,T,rfl,?_⟩
    have e:BY l lo g=l:=by unfold BY;rw[<-r.length,j.1,j.2];simp[r.length]
    rw[e]at G;exact G (.ref a) H (λ_ _ e=>e) hd
   exact Ti f s E H (.ref a) v B N lo g A Q T n i k m ⟨a,b,rfl,q.sq,j,λp u=>G.tup u (np p<|MA u)<|r.cut lo g⟩
  exact h.elim
 |lst l=>
  cases o;rcases hd with hd|⟨a,rfl,h⟩
  .obtain⟨a,b,rfl,q,r⟩:=hd.lst;exact Eb T n i k m q.sq r G
  obtain⟨b,e,r⟩:=h;exact Eb T n i k m (.inl<|.inl e) r G
 |_=>cases o
end
def BP(a b:FO):F:=λδ=>(a δ).bind λp=>(b p.2).bind λq=>match res q.2 q.1 with
 |some (.int i)=>(res q.2 p.1).bind λx=>(NC U (Y i) x).bind λz=>Y (z,q.2)
 |_=>U
section
variable {X:Cx}{a lo d:jv}{g e f:FO}{b c:bt}
end
end PX
namespace L2
section
variable {X:Cx}
end
end L2
namespace PX
open L2 PySem.SeqAt
section
variable {X:Cx}{A:kE}{d:jh}{a:jv}{f:F}
end
section
variable {X:Cx}{f:jv}{c:pD}{a:pZ}{scope:kb}{e b p:bt}{l:jK}{d:kz}{k:Nat}{i:DK}{h:Tg}{g:FT}{j:FB}
end
end PX
namespace HT
open L2
section
variable {a:jI}{w:jG}{A:jF}{E:jZ}{s:jk}
end
end HT
namespace L2
section
variable {X:Cx}{e st:jv}{c b:TE}{a d:bt}
end
end L2
namespace PX
open L2 PySem.SeqAt
section
variable {X:Cx}{a st:jv}{d fs:FO}{b c:bt}
end
section
variable {b:lg}{a:c9}
end
end PX
namespace TT
noncomputable def S:Nat->Nat
 |0=>0
 |n+1=>5*S n+1
theorem Jm(m:Nat):∀n:Nat,S (m+n)=5^n*S m+S n
 |0=>by simp[S]
 |n+1=>by rw[<-xy,S,Jm m n,S,rm,vc,<-rk,xv 5 (5^n)];lia
theorem Ax:∀n:Nat,∃c,5^n=4*c+1
 |0=>⟨0,rfl⟩
 |n+1=>by obtain⟨c,e⟩:=Ax n;exact⟨5*c+1,by rw[rm,e];lia⟩
theorem OL:∀k:Nat,∃c,S (2^k)=2^k*(2*c+1)
 |0=>⟨0,rfl⟩
 |k+1=>by
  obtain⟨c,e⟩:=OL k;obtain⟨d,f⟩:=Ax (2^k)
  have h:S (2^(k+1))=(5^2^k+1)*S (2^k):=by rw[rm,Nat.mul_two,Jm,FH,FG]
  refine⟨2*(d*c)+d+c,?_⟩;rw[h,f,e,rm];have:4*d+1+1=2*(2*d+1):=by lia
  rw[this,rk 2,xv (2*d+1),rk (2^k),rk (2^k),<-rk 2 (2^k),xv 2 (2^k),rk (2^k) 2]
  congr 2
  rw[FH,vc,FG,xu,rk 2 c,Cr c 2 d,xv c d]
  lia
def OM(k n:Nat):S (2^k+n)%2^k=S n%2^k:=by obtain⟨c,e⟩:=OL k;rw[Jm,e,Cr,o8]
def Jl:∀(k e:Nat),e<2^k->∃n,n<2^k/\S n%2^k=e:=by
 intro u
 induction u with
 |zero=>intro e h;exact⟨0,by simp,by simp at h;subst h;rfl⟩
 |succ k t=>
  intro e h;have l:0<2^k:=FF k;obtain⟨n,z,s⟩:=t (e%2^k)<|xq _ l;obtain⟨c,m⟩:=OL k;obtain⟨d,o⟩:=Ax n
  have b:S (2^k+n)=2^(k+1)*(4*d*c+2*d+c)+2^k+S n:=by
   rw[Jm,m,o,rm,Cr,rk (2^k) 2]
   have:(4*d+1)*(2*c+1)=2*(4*d*c+2*d+c)+1:=by rw[FH,vc,FG,xu,Cr (4*d) 2 c];lia
   rw[this,vc,xu]
  rw[rm]at h b ⊢;generalize 2^k=P at*;have j:=pc (S n) P;have i:=pc e P;rw[s]at j;have A:e / P<2:=Nat.div_lt_of_lt_mul (by rw[xv]at h;lia)
  have mk:∀a q x,a=P*2*q+x->x<P*2->a%(P*2)=x:=λa q x h1 b=>by rw[h1,o8,Nat.mod_eq_of_lt b]
  have y:=xq e l;have v:S n / P=2*(S n / P / 2)+S n / P%2:=by lia
  have g:S n=P*2*(S n / P / 2)+(P*(S n / P%2)+e%P):=by rw[rk,<-xy,<-vc,<-v];exact j.symm
  generalize S n / P / 2=q at g;have w:S n / P%2<2:=xq _ (by decide);generalize S n / P%2=r at g w;generalize e / P=f at*;by_cases p:r=f
  .exact⟨n,by lia,mk _ q _ (by rw[g,p,i]) h⟩
  refine⟨P+n,by lia,mk _ (4*d*c+2*d+c+q+r) _ ?_ h⟩;rw[b,g,vc (P*2) _ r,vc (P*2) _ q];rcases(show r=0\/r=1 by lia)with rfl|rfl
  .have:f=1:=by lia
   subst this;rw[FE,FE];rw[xu]at i;lia
  have:f=0:=by lia
  subst this;rw[xu,xu];rw[FE]at i;lia
noncomputable def ls(mask:Nat)(h:Int):Nat->Nat×Nat
 |0=>(aK h%(mask+1),aK h)
 |k+1=>cz mask (ls mask h k).1 (ls mask h k).2
def Rt(h:Int):aK h<2^64:=by
 unfold aK;have:=FD h (show(0:Int)<2^64 by decide);have:=FC h (show(2^64:Int)≠0 by decide)
 lia
def Ii(mask:Nat)(h:Int):∀k,(ls mask h k).1<=mask
 |0=>by have:=xq (aK h) (show 0<mask+1 by lia);show _%(mask+1)<=_;lia
 |k+1=>by show(_%(mask+1))<=_;have:=xq ((ls mask h k).1*5+1+(ls mask h k).2 / 32) (show 0<mask+1 by lia);lia
theorem Ih(mask:Nat)(h:Int):∀k,(ls mask h k).2=aK h / 32^k
 |0=>by simp[ls]
 |k+1=>by show(ls mask h k).2 / 32=_;rw[Ih mask h k,rm,Nat.div_div_eq_div_mul]
def QH(mask:Nat)(h:Int)(k:Nat)(hk:13<=k):(ls mask h k).2=0:=by rw[Ih];refine Nat.div_eq_of_lt<|oK (Rt h) ?_;exact lY (show 2^64<=32^13 by decide)<|zq (by decide) hk
theorem Ng(mask:Nat)(h:Int)(m:Nat)(a:(ls mask h 13).1=S m%(mask+1)):∀n,(ls mask h (13+n)).1=S (m+n)%(mask+1)
 |0=>a
 |n+1=>by show(((ls mask h (13+n)).1*5+1+(ls mask h (13+n)).2 / 32)%(mask+1))=_;rw[QH mask h _ (by lia),Ng mask h m a n,Nat.zero_div,v8,<-xy m n 1,S,x4,Nat.mod_mul_mod,<-x4,xv 5]
def Ew(hk:mask+1=2^k)(h:Int)(i:e<=mask):∃n,n<mask+14/\(ls mask h n).1=e:=by
 have j:=Ii mask h 13;obtain⟨m,d,c⟩:=Jl k (ls mask h 13).1 (by lia);obtain⟨q,f,b⟩:=Jl k e (by lia);rw[<-hk]at c b d f;have a:=Ng mask h m c.symm;by_cases g:m<=q
 .exact⟨13+(q-m),by lia,by rw[a,show m+(q-m)=q by lia];exact b⟩
 refine⟨13+(q+(mask+1)-m),by lia,?_⟩;rw[a,show m+(q+(mask+1)-m)=2^k+q by lia,hk,OM,<-hk];exact b
def GK(mask i:Nat)(h:i<=mask):i<=ay mask i/\ay mask i<=mask/\ay mask i<=i+9:=by unfold ay;split<;>lia
def tm(mask:Nat)(h:Int):Nat->Nat
 |0=>0
 |k+1=>tm mask h k+(ay mask (ls mask h k).1-(ls mask h k).1)+1
theorem RI(mask:Nat)(h:Int):∀k,tm mask h k<=10*k
 |0=>kD _
 |k+1=>by have:=RI mask h k;have:=GK mask _ (Ii mask h k);unfold tm;lia
def at_(mask:Nat)(h:Int)(k t:Nat):SetTable.Probe:=⟨(ls mask h k).1+t,ay mask (ls mask h k).1-(ls mask h k).1-t,(ls mask h k).1,(ls mask h k).2,U⟩
theorem vN(mask:Nat)(h:Int):∀k t,t<=ay mask (ls mask h k).1-(ls mask h k).1->pr mask h (tm mask h k+t)=at_ mask h k t
 |0,0,_=>rfl
 |k+1,0,_=>by have e:=vN mask h k (ay mask (ls mask h k).1-(ls mask h k).1)<|kD _;show Kk mask (pr mask h<|tm mask h k+(ay mask (ls mask h k).1-(ls mask h k).1))=_;rw[e];unfold Kk at_;simp only[Nat.sub_self,mT,gt_iff_lt];rfl
 |k,t+1,a=>by
  have e:=vN mask h k t (by lia);show Kk mask (pr mask h<|tm mask h k+t)=_;rw[e];unfold Kk at_;rw[jz (show ay mask (ls mask h k).1-(ls mask h k).1-t>0 by lia)];simp
  lia
def ac6(hk:mask+1=2^k)(h:Int)(a:e<=mask):∃n,n<10*(mask+14)/\(pr mask h n).j=e:=by obtain⟨r,b,er⟩:=Ew hk h a;have:=RI mask h r;refine⟨tm mask h r,by lia,?_⟩;have:=vN mask h r 0<|mw _;rw[v8]at this;rw[this];exact er
theorem ME(mask:Nat)(h:Int):∀n,(pr mask h n).dummy=U
 |0=>rfl
 |n+1=>by show(Kk mask<|pr mask h n).dummy=U;unfold Kk;split<;>exact ME mask h n
theorem Ej(mask:Nat)(h:Int):∀n,∃k t,n=tm mask h k+t/\t<=ay mask (ls mask h k).1-(ls mask h k).1
 |0=>⟨0,0,rfl,mw _⟩
 |n+1=>by
  obtain⟨k,t,e,b⟩:=Ej mask h n;by_cases a:t+1<=ay mask (ls mask h k).1-(ls mask h k).1
  .exact⟨k,t+1,by lia,a⟩
  exact⟨k+1,0,by unfold tm;lia,mw _⟩
def MD(mask:Nat)(h:Int)(n:Nat):(pr mask h n).j<=mask:=by obtain⟨k,t,e,a⟩:=Ej mask h n;rw[e,vN mask h k t a];have:=GK mask _ (Ii mask h k);show(ls mask h k).1+t<=mask;lia
def C6{c:Array Nat}(g:c.toList.Pairwise (· < ·)){i j:Nat}{a b:Nat}(h:i<j)(h1:c[i]?=Y a)(d:c[j]?=Y b):a<b:=by rw[<-mD]at h1 d;obtain⟨e,rfl⟩:=uT.mp h1;obtain⟨f,rfl⟩:=uT.mp d;exact LA.mp g i j e f h
def Ox{c:Array Nat}(o:c.toList.Pairwise (· < ·))(j:Nat):∀(d lo b:Nat),lo<=b->b<=c.size->b-lo<=d->
  (∀i a,i<lo->c[i]?=Y a->a<j)->(∀i a,b<=i->c[i]?=Y a->j<=a)->
  let p:=SetTable.below.go c j d lo b
  p<=c.size/\(∀i a,i<p->c[i]?=Y a->a<j)/\(∀i a,p<=i->c[i]?=Y a->j<=a):=by
 intro u
 induction u with
 |zero=>
  intro lo b h1 g t h k;have:lo=b:=by lia
  subst this;exact⟨g,h,k⟩
 |succ d r=>
  intro lo b h1 g t h k;unfold SetTable.below.go;by_cases q:lo<b
  .rw[jz q];have n:(lo+b) / 2<c.size:=by lia
   have m:c[(lo+b) / 2]?=Y c[(lo+b) / 2]:=pE n;have hd:c.getD ((lo+b) / 2) j=c[(lo+b) / 2]:=by simp[n]
   dsimp only;rw[hd];by_cases l:c[(lo+b) / 2]<j
   .rw[jz l];refine r ((lo+b) / 2+1) b (by lia) g (by lia) (λi a s f=>?_) k;by_cases e:i=(lo+b) / 2
    .subst e;rw[m]at f;cases f;exact l
    exact CM (C6 o (by lia) f m) l
   rw[jP l];refine r lo ((lo+b) / 2) (by lia) (by lia) (by lia) h λi a s f=>?_;by_cases e:i=(lo+b) / 2
   .subst e;rw[m]at f;cases f;lia
   have:=C6 o (show(lo+b) / 2<i by lia) m f;lia
  rw[jP q];have:lo=b:=by lia
  subst this;exact⟨g,h,k⟩
def pX{b:Array Nat}(d:b.toList.Pairwise (· < ·))(j:Nat):aj b j<=b.size/\(∀i a,i<aj b j->b[i]?=Y a->a<j)/\(∀i a,aj b j<=i->b[i]?=Y a->j<=a):=
 Ox d j b.size 0 b.size (mw _) (kD _) (by lia) (λi a h=>by lia) (λi a h1 c=>by have:=(Jn.mp c).1;lia)
def AM{a:Array Nat}(c:a.toList.Pairwise (· < ·)){i j:Nat}(h:a[i]?=Y j):aj a j=i:=by
 obtain⟨h1,d,e⟩:=pX c j;by_cases g:i<aj a j
 .exact absurd (d i j g h) (qf _)
 by_cases f:aj a j<i
 .have k:=(Jn.mp h).1;have b:a[aj a j]?=Y a[aj a j]:=pE (by omega);have:=e _ _ (kD _) b;have:=C6 c f b h;omega
 omega
theorem Ds(j:Nat):O6 #[] j=I:=rfl
def qI{t:mK}(a:t.place.toList.Pairwise (· < ·)){i j:Nat}(h:t.place[i]?=Y j):t.slot j=.live i:=by unfold j0;dsimp only;rw[AM a h,h];simp
def aa6{t:mK}(hd:t.dummies= #[]){j:Nat}(h:j∉t.place.toList):t.slot j=.empty:=by
 unfold j0;dsimp only
 have:(t.place[aj t.place j]?==Y j)=I:=by rw[AU];intro e;rw[<-mD]at e;exact h<|lX e
 rw[this,hd,Ds];rfl
def OF(t:mK)(p:cH):t.advance p=Kk t.mask p:=by unfold RW Kk;split<;>rfl
def ac5{l:jn}{t:mK}(ok:V0 l t)(hashAt:Nat->Int)(h:Int):∀(a n:Nat),(∃M,n<=M/\M<n+a/\(pr t.mask h M).j∉t.place.toList)->
    ∃m,n<=m/\(∀q,n<=q->q<m->∃i,t.place[i]?=Y (pr t.mask h q).j/\hashAt i≠h)/\
      (((pr t.mask h m).j∉t.place.toList/\dQ t hashAt h a (pr t.mask h n)=Y (.empty (pr t.mask h m).j U))\/
       (∃i,t.place[i]?=Y (pr t.mask h m).j/\hashAt i=h/\dQ t hashAt h a (pr t.mask h n)=Y (.candidate (pr t.mask h m).j i<|pr t.mask h<|m+1))):=by
  intro p
  induction p with
  |zero=>
    rintro n ⟨M,h1,f,g⟩
    lia
  |succ a o=>
    rintro n ⟨M,h1,f,g⟩;unfold dQ;by_cases d:(pr t.mask h n).j∈t.place.toList
    · obtain⟨i,c⟩:=pF d
      rw[mD]at c;rw[qI ok.ris c];dsimp only;by_cases b:hashAt i=h
      · refine⟨n,kD _,λq h1 f=>by lia,.inr ⟨i,c,b,?_⟩⟩
        rw[jz<|by simpa using b,OF];rfl
      · rw[jP<|by simpa using b,OF]
        have s:M≠n:=λe=>g<|e▸d;obtain⟨m,g1,g2,k⟩:=o (n+1) ⟨M,by lia,by lia,g⟩;refine⟨m,by lia,λq u r=>?_,k⟩;by_cases e:q=n
        · subst e;exact⟨i,c,b⟩
        · exact g2 q (by lia) r
    · rw[aa6 ok.dum d]
      dsimp only;rw[ME];exact⟨n,kD _,λq h1 f=>by lia,.inl ⟨d,rfl⟩⟩
def EC:∀(n:Nat)(l:kz),TD l<=n->∃e,e<=n/\e∉l:=by
 intro d
 induction d with
 |zero=>intro l h;exact⟨0,kD _,by cases l with|nil=>simp|cons _ _=>simp at h⟩
 |succ n c=>
  intro l h;by_cases a:n+1∈l
  .obtain⟨e,h1,b⟩:=c (l.erase<|n+1) (by rw[List.length_erase_of_mem a];lia);exact⟨e,by lia,λz=>b<|(FA<|by lia).mpr z⟩
  exact⟨n+1,kD _,a⟩
def V0.free(ok:V0 f t)(h:Int):∃M,M<10*(t.mask+14)/\(pr t.mask h M).j∉t.place.toList:=by
 obtain⟨k,_,_,hk⟩:=ok.pow
 have h1:(TD t.place.toList)<=t.mask:=by have:=ok.len;have:=ok.room;rw[lT];lia
 obtain⟨e,c,d⟩:=EC t.mask _ h1;obtain⟨n,a,b⟩:=ac6 hk h c;exact⟨n,a,by rw[b];exact d⟩
def mV{b:Type}(a:Array b)(p:Nat)(x:b):(aq a p x).toList=a.toList.take p++x::a.toList.drop p:=by unfold aq;simp;rw[dV<|by simp]
def aa8(h:xs.toList.Pairwise (· < ·))(n:j∉xs.toList):(aq xs (aj xs j) j).toList.Pairwise (· < ·):=by
 obtain⟨h1,l,k⟩:=pX h j;rw[mV,sv];refine⟨h.sublist<|xM _ _,?_,?_⟩
 .rw[AQ];refine⟨λa d=>?_,h.sublist<|FP _ _⟩;obtain⟨i,c⟩:=pF d;rw[c7]at c;have m:=k _ _ (show aj xs j<=aj xs j+i by lia) (by rw[<-mD];exact c);have:a≠j:=λe=>n (e▸lX c)
  lia
 intro a d b g
 have f:a<j:=by
  obtain⟨i,c⟩:=pF d;rw[List.getElem?_take]at c;split at c
  .rename_i o;exact l i a o (by rw[<-mD];exact c)
  cases c
 rcases nQ.mp g with rfl|g
 .exact f
 obtain⟨i,c⟩:=pF g;rw[c7]at c;have m:=k _ _ (show aj xs j<=aj xs j+i by lia) (by rw[<-mD];exact c)
 lia
def V0.fresh(finger moves:Nat)(led:Bool):V0 [] (iu finger moves led) where
 pow:=⟨3,by lia,by lia,rfl⟩
 dum:=rfl
 len:=rfl
 room:=by show 5*0<3*7;lia
 ris:=.nil
 bd:=λj h=>by simp[iu]at h
 road:=λi h j h1=>by simp at h1
def V0.put(ok:V0 f t)(z:(pr t.mask h n).j∉t.place.toList)(y:∀m,m<n->(pr t.mask h m).j∈t.place.toList)(H:5*(TD f+1)<3*t.mask)(B:j=(pr t.mask h n).j)(T:p=aj t.place j):
  V0 (f.take p++h::f.drop p) (t.put j).1/\(t.put j).2=p:=by
 subst B;subst T
 have u:(t.put (pr t.mask h n).j).1={t with place:=aq t.place (aj t.place (pr t.mask h n).j) (pr t.mask h n).j,dummies:= #[]}:=by unfold lS;dsimp only;rw[ok.dum,Ds];rfl
 obtain⟨h1,_,_⟩:=pX ok.ris (pr t.mask h n).j;have E:=ok.len
 have c:∀x,x∈t.place.toList->x∈(aq t.place (aj t.place (pr t.mask h n).j) (pr t.mask h n).j).toList:=λx a=>by
  rw[mV];rw[<-vo (aj t.place (pr t.mask h n).j) t.place.toList]at a;rcases qm.mp a with a|a
  .exact qm.mpr (.inl a)
  exact qm.mpr (.inr<|kn _ a)
 refine⟨?_,rfl⟩;rw[u];generalize w:aj t.place (pr t.mask h n).j=P at*;refine⟨ok.pow,rfl,?_,?_,?_,λx a=>?_,λi h' g g1 g2=>?_⟩
 .show(aq t.place P (pr t.mask h n).j).size=_;rw[<-lT,mV];simp;lia
 .show 5*_<3*t.mask;simp;lia
 .have:=aa8 ok.ris z;rw[w]at this;exact this
 .have r:x∈(aq t.place P (pr t.mask h n).j).toList:=a;rw[mV]at r;show x<=t.mask;rcases qm.mp r with a|a
  .exact ok.bd x (xD a)
  rcases nQ.mp a with rfl|a
  .exact MD _ _ _
  exact ok.bd x (Cu a)
 have b:(aq t.place P (pr t.mask h n).j).toList[i]?=Y g:=by rw[mD];exact g2
 rw[mV]at b;show ∃s,(pr t.mask h' s).j=g/\∀m,m<s->(pr t.mask h' m).j∈(aq t.place P (pr t.mask h n).j).toList;have v:(t.place.toList.take P).length=P:=by rw[uR,lT];lia
 have k:(f.take P).length=P:=by rw[uR];lia
 by_cases A:i<P
 .rw[qc<|by lia,Gf A]at g1 b;rw[mD]at b;obtain⟨q,l,o⟩:=ok.road i h' g g1 b;exact⟨q,l,λm e=>c _ (o m e)⟩
 rw[pJ<|by lia,v]at b;rw[pJ<|by lia,k]at g1
 cases hd:i-P with
 |zero=>rw[hd]at g1 b;simp at g1 b;subst g1;subst b;exact⟨n,rfl,λm e=>c _ (y m e)⟩
 |succ d=>rw[hd]at g1 b;simp only[zp,c7]at g1 b;rw[mD]at b;obtain⟨q,l,o⟩:=ok.road _ h' g g1 b;exact⟨q,l,λm e=>c _ (o m e)⟩
def JM(ow:wd)(j:Nat):Prop:= ∃i,ow.getD j U=Y i
def Dt{ow:wd}{j:Nat}{d:Option Nat}(h:j<ow.size):ow.getD j d=ow.getD j U:=by simp[h]
def acn{mask:Nat}{ow:wd}(T:ow.size=mask+1)(h:Int):∀(a k:Nat),(∃r,k<=r/\r<k+a/\¬JM ow (ls mask h r).1)->(∀m,m<tm mask h k->JM ow (pr mask h m).j)->
  ∃n,bG mask ow a (ls mask h k).1 (ls mask h k).2=Y (pr mask h n).j/\¬JM ow (pr mask h n).j/\∀m,m<n->JM ow (pr mask h m).j:=by
 intro A
 induction A with
 |zero=>
  rintro k ⟨r,h1,v,_⟩ _
  lia
 |succ a z=>
  rintro k ⟨r,h1,v,g⟩ l;unfold bG;have x:=Ii mask h k;have y:=GK mask _ x
  cases c:(am<|ay mask (ls mask h k).1+1-(ls mask h k).1).find? λt=>(ow.getD ((ls mask h k).1+t)<|Y 0).isNone with
  |some t=>
   rw[List.find?_range_eq_some]at c;obtain⟨a1,q,s⟩:=c;rw[sL]at q;have p:t<=ay mask (ls mask h k).1-(ls mask h k).1:=by lia
   have e:=vN mask h k t p;refine⟨tm mask h k+t,by rw[e];rfl,?_,λm o=>?_⟩
   .rw[e];rintro⟨i,w⟩;rw[Dt (by show(ls mask h k).1+t<_;lia)]at a1;have u:ow.getD ((ls mask h k).1+t) U=Y i:=w;rw[u]at a1;simp at a1
   by_cases f:m<tm mask h k
   .exact l m f
   have b:=vN mask h k (m-tm mask h k) (by lia);rw[show tm mask h k+(m-tm mask h k)=m by lia]at b;rw[b];have:=s (m-tm mask h k) (by lia);rw[Dt (by show(ls mask h k).1+(m-tm mask h k)<_;lia)]at this;show JM ow ((ls mask h k).1+(m-tm mask h k));unfold JM
   cases d:ow.getD ((ls mask h k).1+(m-tm mask h k)) U with
   |none=>rw[d]at this;simp at this
   |some i=>exact⟨i,rfl⟩
  |none=>
   rw[List.find?_range_eq_none]at c
   have all:∀t,t<=ay mask (ls mask h k).1-(ls mask h k).1->JM ow ((ls mask h k).1+t):=λt p=>by
    have:=c t (by lia);rw[Dt<|by lia]at this;unfold JM
    cases d:ow.getD ((ls mask h k).1+t) U with
    |none=>rw[d]at this;simp at this
    |some i=>exact⟨i,rfl⟩
   have B:r≠k:=λe=>g (by subst e;have:=all 0<|mw _;simpa using this)
   have:=z (k+1) ⟨r,by lia,by lia,g⟩ (λm o=>by
    by_cases f:m<tm mask h k
    .exact l m f
    unfold tm at o;have b:=vN mask h k (m-tm mask h k) (by lia);rw[show tm mask h k+(m-tm mask h k)=m by lia]at b;rw[b];exact all _ (by lia))
   exact this
def EO{a e:Type}{f g:a->Option e}:∀{l:List a},(∀x∈l,f x=g x)->l.filterMap f=l.filterMap g:=by
 intro d
 induction d with
 |nil=>intro _;exact J
 |cons x l c=>intro h;rw[wg,wg,h x la,c λy b=>h y<|kn _ b]
noncomputable def pN(mask:Nat)(ow:wd):List (Nat×Nat):=(am<|mask+1).filterMap λj=>(ow.getD j U).map (j,·)
def OQ:(j,i)∈pN mask ow↔j<=mask/\ow.getD j U=Y i:=by
 unfold pN;simp only[fm,sL,gD,Prod.mk.injEq];constructor
 .rintro⟨a,h1,b,c,rfl,rfl⟩;exact⟨by lia,c⟩
 rintro⟨h1,c⟩;exact⟨j,by lia,i,c,rfl,rfl⟩
def Nk(mask:Nat)(ow:wd):((pN mask ow).map (·.1)).Pairwise (· < ·):=by unfold pN;rw[List.map_filterMap,List.pairwise_filterMap];refine OP.imp λ{a b} e x c y d=>?_;simp at c d;obtain⟨_,_,rfl⟩:=c;obtain⟨_,_,rfl⟩:=d;exact e
def Nj{mask:Nat}{ow:wd}(f:ow.size=mask+1){j k:Nat}(d:j<=mask)(c:ow.getD j U=U):(pN mask<|ow.setIfInBounds j<|Y k).Perm ((j,k)::pN mask ow):=by
 have g:∀i,(ow.setIfInBounds j<|Y k).getD i U=if i=j then Y k else ow.getD i U:=λi=>by
  simp only[vb,Cq];by_cases e:i=j
  .subst e;simp[show i<ow.size by lia]
  rw[jP λz=>e z.symm,jP e]
 have split:am (mask+1)=am j++j::(am<|mask-j).map (λx=>j+1+x):=by rw[show mask+1=j+(mask-j+1) by lia,List.range_add,dW];simp[c4,xy,Nat.add_comm 1]
 unfold pN;rw[split,Lf,Lf,wg,wg];simp only[g,c,Option.map_none,Option.map_some]
 have a1:(am j).filterMap (λi=>(if i=j then Y k else ow.getD i U).map (i,·))=(am j).filterMap (λi=>(ow.getD i U).map (i,·)):=
  EO λi a=>by rw[sL]at a;rw[jP<|by lia]
 have b:((am<|mask-j).map λx=>j+1+x).filterMap (λi=>(if i=j then Y k else ow.getD i U).map (i,·))=((am<|mask-j).map λx=>j+1+x).filterMap (λi=>(ow.getD i U).map (i,·)):=
  EO λi a=>by obtain⟨x,_,rfl⟩:=rZ.mp a;rw[jP<|by lia]
 rw[a1,b];exact OU
structure Eu(mask:Nat)(hs:jn)(ow:wd):Prop where
 size:ow.size=mask+1
 perm:((pN mask ow).map (·.2)).Perm (am<|TD hs)
 road:∀j i h,ow.getD j SS=SI i->hs[i]?=SI h->∃n,(pr mask h n).j=j/\∀m,m<n->JM ow (pr mask h m).j
def Ig(h:JM ow x):JM (ow.setIfInBounds j<|Y k) x:=by
 obtain⟨i,a⟩:=h;unfold JM;simp only[vb,Cq]at a ⊢;by_cases e:j=x
 .subst e;rw[jz J];split
  .exact⟨k,rfl⟩
  rename_i b;rw[Fy<|by lia]at a;simp at a
 rw[jP e];exact⟨i,a⟩
def Eu.step{mask k:Nat}(hk:mask+1=2^k){a:jn}{ow:wd}(ok:Eu mask a ow)(h:Int)(H:(TD a)<=mask):
  ∃j,bG mask ow (bX mask) (aK h%(mask+1)) (aK h)=Y j/\Eu mask (a++[h]) (ow.setIfInBounds j<|Y<|TD a):=by
 have p:(pN mask ow).length=(TD a):=by have:=ok.perm.length_eq;simpa using this
 obtain⟨e,o,w⟩:=EC mask ((pN mask ow).map (·.1)) (by rw[kN];lia)
 have T: ¬JM ow e:=by rintro⟨i,f⟩;exact w<|rZ.mpr ⟨(e,i),OQ.mpr ⟨o,f⟩,rfl⟩
 obtain⟨r,y,l⟩:=Ew hk h o;obtain⟨n,f1,s,t⟩:=acn ok.size h (bX mask) 0 ⟨r,mw _,by unfold bX;lia,by rw[l];exact T⟩ (λm c=>by simp[tm]at c);have v:=MD mask h n
 have E:ow.getD (pr mask h n).j U=U:=by
  cases x:ow.getD (pr mask h n).j U with
  |none=>rfl
  |some i=>exact absurd ⟨i,x⟩ s
 refine⟨_,f1,⟨by rw[Array.size_setIfInBounds];exact ok.size,?_,λj i u g1 g2=>?_⟩⟩
 .refine((Nj ok.size v E).map _).trans ?_;rw[kG,ox,xK,List.range_succ];exact(ik _ ok.perm).trans (Le _ _).symm
 by_cases b:j=(pr mask h n).j
 .subst b
  have:i=(TD a):=by simp only[vb,Cq]at g1;rw[jz bg,jz<|by rw[ok.size];lia]at g1;exact(lI g1).symm
  subst this;rw[pJ<|kD _]at g2;simp at g2;subst g2;exact⟨n,rfl,λm c=>Ig<|t m c⟩
 have d:ow.getD j U=Y i:=by simp only[vb,Cq]at g1 ⊢;rw[jP λz=>b z.symm]at g1;exact g1
 have f:i<(TD a):=by
  have g:j<=mask:=by
   by_cases q:j<ow.size
   .have:=ok.size;lia
   rw[vb,Fy<|by lia]at d;simp at d
  have:=ok.perm.mem_iff.mp<|rZ.mpr ⟨(j,i),OQ.mpr ⟨g,d⟩,rfl⟩;exact sL.mp this
 rw[qc f]at g2;obtain⟨q,A,B⟩:=ok.road j i u d g2;exact⟨q,A,λm c=>Ig<|B m c⟩
def Eu.start(mask:Nat):Eu mask [] (fQ (mask+1) U) where
 size:=by simp
 perm:=by
  have:pN mask (fQ (mask+1) U)=[]:=by unfold pN;refine List.filterMap_eq_nil_iff.mpr λj a=>?_;rw[vb,Ld];split<;>rfl
  rw[this];exact vf _
 road:=λj i h h1=>by rw[vb,Ld]at h1;split at h1<;>cases h1
noncomputable def wH(mask:Nat)(a:Option (Array (Option Nat)×Nat))(h:Int):Option (Array (Option Nat)×Nat):=do
 let(owner,k) <-a
 let j <-bG mask owner (bX mask) (aK h%(mask+1)) (aK h)
 pure (owner.setIfInBounds j<|Y k,k+1)
def Nt{mask k:Nat}(hk:mask+1=2^k):∀(l a:jn)(ow:wd),Eu mask a ow->TD a+TD l<=mask+1->
  ∃c,l.foldl (wH mask) (Y (ow,TD a))=Y (c,TD a+TD l)/\Eu mask (a++l) c:=by
 intro m
 induction m with
 |nil=>intro a ow ok _;exact⟨ow,rfl,by rw[sX];exact ok⟩
 |cons h l i=>
  intro a ow ok g;rw[oH]at g;obtain⟨j,e,d⟩:=ok.step hk h (by lia);obtain⟨c,f,b⟩:=i (a++[h]) _ d (by rw[ox,xK];lia);refine⟨c,?_,by rw[qb]at b;exact b⟩;rw[rW]
  have:wH mask (Y (ow,TD a)) h=Y (ow.setIfInBounds j<|Y<|TD a,TD a+1):=by unfold wH;show(bG mask ow (bX mask) (aK h%(mask+1)) (aK h)>>=_)=_;rw[e];rfl
  rw[this];rw[ox,xK]at f;rw[f,oH]
  congr 2;lia
def aaO(hk:mask+1=2^k)(a:jn)(c:(TD a)<=mask):∃ow,gV mask a.toArray=Y ow/\Eu mask a ow:=by
 obtain⟨ow,e,ok⟩:=Nt hk a [] _ (Eu.start mask) (by simp;lia);refine⟨ow,?_,by simpa using ok⟩;unfold gV;rw[<-Array.foldl_toList];show tv _ (x5 (wH mask) _ a)=_;have b:x5 (wH mask) (Y (fQ (mask+1) U,0)) a=Y (ow,TD a):=by simpa using e
 rw[b];rfl
def IB(hk:mask+1=2^k)(w:3<=k)(o:k<=11)(finger moves:Nat)(led plain:Bool)(d:jn)(E:5*(TD d)<3*mask):
  ∃t c,j1 mask finger moves led plain d.toArray=Y (t,c)/\c.toList.Perm (am<|TD d)/\V0 (c.toList.map λi=>d.getD i 0) t/\t.plain=plain/\t.led=led:=by
 obtain⟨ow,e,ok⟩:=aaO hk d (by lia);refine⟨{mask,place:=((pN mask ow).map (·.1)).toArray,dummies:= #[],finger,led,moves,plain},((pN mask ow).map (·.2)).toArray,?_,by simpa using ok.perm,?_,rfl,rfl⟩
 .unfold j1;rw[e];rfl
 have g:(pN mask ow).length=(TD d):=by have:=ok.perm.length_eq;simpa using this
 refine⟨⟨k,w,o,hk⟩,rfl,by simp,by simp[g];lia,by simpa using Nk mask ow,λj z=>?_,λi h j g1 g2=>?_⟩
 .have v:j∈(pN mask ow).map (·.1):=by simpa using z
  obtain⟨⟨a,b⟩,q,rfl⟩:=rZ.mp v;exact(OQ.mp q).1
 have s:((pN mask ow).map (·.2)).map (λi=>d.getD i 0)=(((pN mask ow).map (·.2)).toArray).toList.map λi=>d.getD i 0:=by simp
 rw[<-s,lh,lh]at g1;have f:((pN mask ow).map (·.1))[i]?=Y j:=by simpa using g2
 rw[lh]at f
 cases l:(pN mask ow)[i]? with
 |none=>rw[l]at f;cases f
 |some p=>
  obtain⟨a,b⟩:=p;rw[l]at g1 f;simp at g1 f;subst f;have q:=OQ.mp<|lX l
  have x:b<(TD d):=by have:=ok.perm.mem_iff.mp<|rZ.mpr ⟨(a,b),lX l,rfl⟩;exact sL.mp this
  have y:d[b]?=Y h:=by rw[km x]at g1 ⊢;simpa using g1
  obtain⟨n,B,T⟩:=ok.road a b h q.2 y;refine⟨n,B,λm r=>?_⟩;obtain⟨A,u⟩:=T m r;show(pr mask h m).j∈(((pN mask ow).map (·.1)).toArray).toList;have:(pr mask h m).j∈(pN mask ow).map (·.1):=rZ.mpr ⟨(_,A),OQ.mpr ⟨MD mask h m,u⟩,rfl⟩;simpa using this
def wB:∀n,n<2048->∃k,3<=k/\k<=11/\ca n=2^k/\n<2^k:=by
 intro n h
 have step:∀(f k:Nat),3<=k->k<=11->11<k+f->∃b,3<=b/\b<=11/\SetTable.sizeAbove.go n f (2^k)=2^b/\n<2^b:=by
  intro f
  induction f with
  |zero=>intro k h1 c d;lia
  |succ f g=>
   intro k h1 c d;unfold SetTable.sizeAbove.go;by_cases a:2^k<=n
   .rw[jz a,<-rm];have:k≠11:=λe=>by subst e;lia
    exact g (k+1) (by lia) (by lia) (by lia)
   rw[jP a];exact⟨k,h1,c,rfl,by lia⟩
 exact step 64 3 (by lia) (by lia) (by lia)
open PyProof.Rows PySem.SeqAt
def Bz{k:jn}{t:mK}(ok:V0 k t){hashAt:Nat->Int}{h:Int}{p:cH}{n:Nat}(g:p=pr t.mask h n)(f:∀m,m<n->(pr t.mask h m).j∈t.place.toList):
    ∃m,n<=m/\m<10*(t.mask+14)/\(∀q,n<=q->q<m->∃i,t.place[i]?=Y (pr t.mask h q).j/\hashAt i≠h)/\
      (((pr t.mask h m).j∉t.place.toList/\t.probe hashAt h p=Y (.empty (pr t.mask h m).j U))\/
       (∃i,t.place[i]?=Y (pr t.mask h m).j/\hashAt i=h/\t.probe hashAt h p=Y (.candidate (pr t.mask h m).j i<|pr t.mask h<|m+1))):=by
  subst g;obtain⟨M,h1,a⟩:=ok.free h
  have c:n<=M:=by
    by_cases b:M<n
    · exact absurd (f M b) a
    · lia
  obtain⟨m,g1,g2,e⟩:=ac5 ok hashAt h (10*bX t.mask) n ⟨M,c,by unfold bX;lia,a⟩
  have l:m<=M:=by
    by_cases b:M<m
    · obtain⟨i,d,_⟩:=g2 M c b
      rw[<-mD]at d;exact absurd (lX d) a
    · lia
  exact⟨m,g1,by lia,g2,e⟩
section
variable {prog:jI}{w:jG}{A:jF}{E:jZ}{s:jk}
structure Jr(A:jF)(s:jk)(a:jh)(es:rh)(n:Nat)(t:mK)(x:jr)(h:Int)(eqs:Nat->Bool):Prop where
 at_:∃o,s.heap.get? a=SI o/\o.data=.set es n t
 tab:V0 (es.toList.map (·.1)) t
 refs:∀(i:Nat)(e:Int×jr),es[i]?=SI e->∃b,e.2=.ref b
 eq:∀(i:Nat)(e:Int×jr),es[i]?=SI e->EqAt A s e.2 x (eqs i)
 hash:∀(i:Nat)(e:Int×jr),es[i]?=SI e->eqs i=Td->e.1=h
 quiet:∀(l:kF)(prog:jI)(w:jG)(E:jZ)(Q:qu),(∀v∈l,∃e∈es.toList,e.2=v)->Q Tk s->aa (ae prog w) A (sK x l) Q E s
def acY(ok:V0 c t):t.gaveWay=I:=by
 obtain⟨k,h1,_,b⟩:=ok.pow;obtain⟨a,rfl⟩:∃a,k=a+1:=⟨k-1,by lia⟩
 rw[rm]at b;unfold Ps;rw[AU];lia
def zi(ok:V0 a t)(h:(TD a)=n):t.fits n=C:=by have:=ok.len;have:=ok.room;unfold j2 j3;rw[ok.dum];simp only[nN,beq_iff_eq,vA];exact⟨by lia,by show _+0<=_;lia⟩
def Jr.fits{a es n t x h eqs}(S:Jr A s a es n t x h eqs):t.fits es.size=C:=zi S.tab (by simp)
def yz{a:jh}{k:rh}{nn:Nat}{t:mK}{x:jr}{h:Int}{c:Nat->Bool}{adding:Bool}(S:Jr A s a k nn t x h c){Q:SetFound->jk->Prop}
  (H:∀i r,c i=Td->i<k.size->(r=SS\/r=SI i)->(adding=Tk->r=SI i)->Q (.there r) s)
  (l3:(∀i,i<k.size->c i=Tk)->∀n,(pr t.mask h n).j∉t.place.toList->(∀m,m<n->(pr t.mask h m).j∈t.place.toList)->Q (.free (pr t.mask h n).j Tk) s):
  ∀(l n:Nat)(u:Option cH),u.getD (t.probeStart h)=pr t.mask h n->(∀q,q<n->∃i,t.place[i]?=SI (pr t.mask h q).j/\c i=Tk)->10*(t.mask+14)<n+l->n<=10*(t.mask+14)->
   aa (ae prog w) A (Ch a x h adding l u) Q E s:=by
 intro iV
 induction iV with
 |zero=>
  intro n u _ _ W Z
  lia
 |succ l iH=>
  intro n u l8 U W Z;obtain⟨o,T,hd⟩:=S.at_
  have JM:∀m,m<n->(pr t.mask h m).j∈t.place.toList:=λm X=>by obtain⟨i,g,_⟩:=U m X;rw[<-mD]at g;exact lX g
  unfold Ch;refine ji<|rV T hd S.fits ?_;dsimp only;rw[acY S.tab];simp only[lL,↓reduceIte];generalize V:t.probe _ h _=P;obtain⟨m,m1,m2,m3,F⟩:=Bz S.tab l8 JM (hashAt:=λi=>(k[i]?.map (·.1)).getD 0);have O:t.probe (λi=>(k[i]?.map (·.1)).getD 0) h (u.getD<|t.probeStart h)=P:=V;rw[O]at F
  have N:∀(i:Nat)(j:Nat),t.place[i]?=SI j->∃e,k[i]?=SI e/\(k[i]?.map (·.1)).getD 0=e.1:=λi j g=>by have h1:=(Jn.mp g).1;have L:=S.tab.len;rw[kN,lT]at L;exact⟨k[i],pE<|by lia,by rw[pE<|by lia];rfl⟩
  have ne:∀(i:Nat)(j:Nat),t.place[i]?=SI j->(k[i]?.map (·.1)).getD 0≠h->c i=Tk:=λi j g J=>by
   obtain⟨e,f,Y⟩:=N i j g
   cases d:c i
   .rfl
   exact absurd (Y.trans<|S.hash i e f d) J
  have seen:∀q,q<m->∃i,t.place[i]?=SI (pr t.mask h q).j/\c i=Tk:=λq d=>by
   by_cases p:q<n
   .exact U q p
   obtain⟨i,g,J⟩:=m3 q (by lia) d;exact⟨i,g,ne i _ g J⟩
  rcases F with⟨a1,a2⟩|⟨i,a1,a2,a3⟩
  .subst a2;dsimp only;refine ju<|l3 (λi g=>?_) m a1 λq d=>?_
   .cases d:c i
    .rfl
    exfalso;have f:k[i]?=SI k[i]:=pE g;have h1:=S.hash i _ f d;have L:=S.tab.len;rw[kN,lT]at L;have B:t.place[i]?=SI t.place[i]:=pE (by lia);obtain⟨M,K,r2⟩:=S.tab.road i h t.place[i] (by rw[lh,mD,f];exact nC SI h1) B
    have:M<m:=by
     by_cases p:M<m
     .exact p
     exfalso;rcases kl (LB.mp p)with p|heq
     .exact a1 (r2 m p)
     subst heq;rw[<-mD]at B;rw[K]at a1;exact a1<|lX B
    obtain⟨i',g1,g2⟩:=seen M this;rw[K]at g1;have:i'=i:=by rw[<-AM S.tab.ris g1,AM S.tab.ris B]
    rw[this,d]at g2;cases g2
   obtain⟨i,g,_⟩:=seen q d;rw[<-mD]at g;exact lX g
  subst a3;dsimp only;obtain⟨e,f,Y⟩:=N i _ a1;obtain⟨h',y⟩:=e;obtain⟨b,D⟩:=S.refs i _ f;dsimp only at D;subst D;have I:t.sameMemory t.moves t.mask=SI Td:=by simp[O2]
  have C:i<k.size:=(Jn.mp f).1;cases hl:t.led
  .simp only[gc];refine ji<|S.quiet _ _ _ _ _ (λv hv=>?_) ?_
   .obtain⟨e,R,rfl⟩:=rZ.mp hv;exact⟨e,(Vy.mp (by simpa using(Array.mem_filter.mp<|Vy.mp R).1) |> λz=>by simpa using z),rfl⟩
   simp only[lL];rw[f];dsimp only;refine ji<|mE<|S.eq i _ f _ _ _ _ ?_;refine ji<|rV T hd S.fits ?_;dsimp only
   cases d:c i with
   |true=>
    cases adding with
    |true=>simp;exact ju<|H i SS d C (.inl Tl) (λz=>by cases z)
    |false=>simp only[et,lL,↓reduceIte,I,qI S.tab.ris a1,f];refine ji<|Cp ?_;simp;exact ji<|ju<|ju<|H i _ d C (.inr Tl) λ_=>rfl
   |false=>
    simp only[pw,lL,↓reduceIte,I,qI S.tab.ris a1,f];refine ji<|Cp ?_;simp;refine ji<|ju ?_
    exact iH (m+1) _ rfl (λq G=>by
     by_cases e:q=m
     .subst e;exact⟨i,a1,d⟩
     exact seen q (by lia)) (by lia) (by lia)
  simp only[sA,lL];rw[f];dsimp only;refine ji<|mE<|S.eq i _ f _ _ _ _ ?_;refine ji<|rV T hd S.fits ?_;dsimp only
  cases d:c i with
  |true=>
   cases adding with
   |true=>simp;exact ju<|H i SS d C (.inl Tl) (λz=>by cases z)
   |false=>simp only[et,lL,↓reduceIte,I,qI S.tab.ris a1,f];refine ji<|Cp ?_;simp;exact ji<|ju<|ju<|H i _ d C (.inr Tl) λ_=>rfl
  |false=>
   simp only[pw,lL,↓reduceIte,I,qI S.tab.ris a1,f];refine ji<|Cp ?_;simp;refine ji<|ju ?_
   exact iH (m+1) _ rfl (λq G=>by
    by_cases e:q=m
    .subst e;exact⟨i,a1,d⟩
    exact seen q (by lia)) (by lia) (by lia)
end
noncomputable abbrev kI(es:rh)(n:Nat)(t:mK):Obj:={cls:=.type "set",data:=.set es n t}
section
variable {c:jI}{w:jG}{A:jF}{E:jZ}{s:jk}
def wy{h:jH}{a:jh}{es es':rh}{n:Nat}{t t':mK}(b:h.get? a=Y (kI es n t)):(h.update a<|gr es' t').get? a=Y (kI es' (n+1) t'):=by have:=sU (gr es' t') b (by rw[putSet_of es' t' J];rfl);rw[putSet_of es' t' J]at this;exact this
def Ei{b:Type}(a:Array b):(am a.size).filterMap (λi=>a[i]?)=a.toList:=by
 have:∀(l:List b),(am<|TD l).filterMap (λi=>l[i]?)=l:=by
  intro l
  induction l with
  |nil=>rfl
  |cons x l d=>rw[oH,dW,wg];simp only[dg,i9,c4,zp,d]
 have h:=this a.toList;simpa using h
def IS{a:rh}:∀(l:kz),(∀i∈l,i<a.size)->(l.filterMap λi=>a[i]?).map (·.1)=l.map λi=>(a.toList.map (·.1)).getD i 0:=by
 intro f
 induction f with
 |nil=>intro _;exact J
 |cons i l e=>
  intro h;have b:=h i la;rw[wg,pE b];simp;rw[e λj d=>h j<|kn _ d]
  congr 1
  simp[b]
def adq{a:jh}{d:rh}{n:Nat}{t:mK}(j:s.heap.get? a=Y (kI d n t))(x:t.fits d.size=C)(T:5<=d.size)(O:d.size<=500){Q:Unit->jk->Prop}
  (h:∀g es' H t',au a s.heap g->g.get? a=Y (kI es' H t')->es'.toList.Perm d.toList->V0 (es'.toList.map (·.1)) t'->t'.plain=t.plain->t'.led=t.led->Q () {s with heap:=g}):
  aa (ae c w) A (setRelay a<|ce d.size) Q E s:=by
 have y:ce d.size=d.size*4:=by unfold ce;rw[jP<|by lia]
 obtain⟨k,N,l,v,lk⟩:=wB (d.size*4) (by lia);have B:ca (d.size*4)-1+1=2^k:=by have:=FF k;lia
 obtain⟨t',b,p,f,q,r,u⟩:=IB B N l t.finger (t.movedTo<|ca (d.size*4)-1) t.led t.plain (d.toList.map (·.1)) (by rw[kN,lT];lia);rw[kN,lT]at f
 have er:t.relaid (d.map (·.1)) (d.size*4)=Y (t',b):=by unfold ie;rw[<-p,<-lC]
 have o:∀i∈b.toList,i<d.size:=λi z=>sL.mp<|f.mem_iff.mp z;have m:(b.filterMap (d[·]?)).toList=b.toList.filterMap (λi=>d[i]?):=by simp
 have e:(b.filterMap (d[·]?)).toList.Perm d.toList:=by rw[m];refine(f.filterMap _).trans ?_;rw[Ei]
 have sz:(b.filterMap (d[·]?)).size=d.size:=by rw[<-lT,e.length_eq,lT]
 rw[y];unfold setRelay;refine ji<|rV j J x ?_;dsimp only
 have L:2^k<=sizeLine:=by have:2^k<=2^11:=zq (by decide) l;rw[kT];lia
 rw[jP<|by rw[v];lia,er];refine ji ?_;change aa _ _ (if((b.filterMap (d[·]?)).size !=d.size)=C then _ else _) _ _ _;rw[jP<|by rw[sz];simp];refine ju ?_;dsimp only;refine Co j J ?_ (by rw[sz,kT];lia);refine h _ (b.filterMap (d[·]?)) (n+1) t' (qa s.heap a _) (wy j) e ?_ r u;rw[m,IS _ o];exact q
def tK{b:Type}(a:Array b)(p:Nat)(x:b):(aq a p x).toList.Perm (x::a.toList):=by rw[mV];refine OU.trans ?_;rw[vo]
def Mr{es:rh}{t:mK}{h:Int}{m:Nat}(x:jr)(e:V0 (es.toList.map (·.1)) t)(u:t.plain=C)(h1:(pr t.mask h m).j∉t.place.toList)(v:∀i,i<m->(pr t.mask h i).j∈t.place.toList):
  ∃o n,aq es (t.put (pr t.mask h m).j).2 (h,x)=o/\(t.put (pr t.mask h m).j).1=n/\o.size=es.size+1/\n.plain=C/\n.led=t.led/\o.toList.Perm ((h,x)::es.toList)/\n.fits o.size=C/\(n.tooFull=C->5<=o.size)/\(n.tooFull=I->V0 (o.toList.map (·.1)) n):=by
 have p:(t.put (pr t.mask h m).j).1={t with place:=aq t.place (aj t.place (pr t.mask h m).j) (pr t.mask h m).j,dummies:= #[]}:=by unfold lS;dsimp only;rw[e.dum,Ds];rfl
 have q:(aq es (t.put (pr t.mask h m).j).2 (h,x)).size=es.size+1:=by rw[<-lT,(tK es _ _).length_eq,oH,lT]
 have b:es.toList.length=es.size:=lT;have g:=e.len;rw[kN,b]at g
 have f:(t.put (pr t.mask h m).j).1.place.size=es.size+1:=by rw[p];show(aq t.place _ _).size=_;rw[<-lT,(tK t.place _ _).length_eq,oH,lT,g]
 have a:(t.put (pr t.mask h m).j).1.fill=es.size+1:=by unfold j3;rw[f,p];rfl
 have d:(t.put (pr t.mask h m).j).1.mask=t.mask:=by rw[p]
 have l:=e.room;rw[kN,b]at l
 have H:7<=t.mask:=by
  obtain⟨k,y,_,Q⟩:=e.pow;have:2^3<=2^k:=zq (by decide) y
  lia
 have r:(t.put (pr t.mask h m).j).1.tooFull=decide ((es.size+1)*5>=t.mask*3):=by unfold O1;rw[a,d]
 refine⟨_,_,rfl,rfl,q,by rw[p];exact u,by rw[p],tK es _ _,?_,λz=>?_,λz=>?_⟩
 .unfold j2;rw[f,q,a,d];simp;lia
 .rw[r]at z;have:=uL z;rw[q];lia
 rw[r]at z;have:=of_decide_eq_false z;obtain⟨B,T⟩:=e.put h1 v (by rw[kN,b];lia) J J;rw[mV,nM,kG,rg,List.map_drop];exact B
def Yb{a b:jh}{e:rh}{n:Nat}{t:mK}{h:Int}{d:Nat->Bool}(S:Jr A s a e n t (.ref b) h d)(f:s.heap.get? a=SI (kI e n t))(J:t.plain=Td)(hz:e.size+1<=500)
  (l:∀(v:qu),v Td s->aa (ae c w) A (gu 8<|.ref b) v E s){Q:qu}
  (hold:(∃i,i<e.size/\d i=Td)->Q Tk s)
  (C:(∀i,i<e.size->d i=Tk)->∀h' es' o t',au a s.heap h'->h'.get? a=SI (kI es' o t')->es'.toList.Perm ((h,.ref b)::e.toList)->V0 (es'.toList.map (·.1)) t'->t'.plain=Td->t'.led=t.led->Q Td {s with heap:=h'}):
  aa (ae c w) A (fS a (.ref b) h) Q E s:=by
 unfold fS z8;refine mE<|ji<|rV f Tl S.fits ?_;dsimp only;have D:byScan (.ref b) e=Tk:=rfl;rw[D];simp only[lL]
 have V:t.mask+1<=2048:=by
  obtain⟨k,_,O,R⟩:=S.tab.pow;have:2^k<=2^11:=zq (by decide) O
  lia
 refine ji<|yz S (adding:=Td) (λi r h1 j _ _=>?_) (λL m h1 j=>?_) 100000 0 SS Tl (λq W=>by lia) (by lia) (by lia)
 .dsimp only;exact ju<|hold ⟨i,j,h1⟩
 dsimp only;refine ji<|rV f Tl S.fits ?_;dsimp only;obtain⟨x,p,K,P,g,u,y,I,T,F,G⟩:=Mr (.ref b) S.tab J h1 j;rw[K,P,jz u];refine ji<|l _ ?_;simp;refine ji<|Co f Tl ?_ (by rw[g,kT];lia);have H:=wy (es':=x) (t':=p) f;have z:=qa s.heap a (gr x p)
 cases B:p.tooFull with
 |true=>simp;rw[<-g];refine ji<|adq H T (F B) (by rw[g];lia) λh' es' o t' g1 g2 M N U Y=>?_;exact ju<|C L h' es' o t' (z.trans g1) g2 (M.trans I) N (by rw[U];exact u) (by rw[Y];exact y)
 |false=>simp;exact ju<|C L _ _ _ _ z H I (G B) u y
def Xw(S:Jr A s a d n t (.ref b) h eqs)(j:s.heap.get? a=Y (kI d n t))
  (h1:∀i,i<d.size->eqs i=C->Q (Y i) s)(g:(∀i,i<d.size->eqs i=I)->Q U s):aa (ae c w) A (setFind a (.ref b) h) Q E s:=by
 unfold setFind setFindIn;refine ji<|rV j J S.fits ?_;dsimp only;have l:byScan (.ref b) d=I:=rfl;rw[l];simp
 have u:t.mask+1<=2048:=by
  obtain⟨k,_,e,p⟩:=S.tab.pow;have:2^k<=2^11:=zq (by decide) e
  lia
 refine ji<|yz S (adding:=I) (λi r g1 g2 _ f=>?_) (λo m _ _=>?_) 100000 0 U J (λq v=>by lia) (by lia) (by lia)
 .rw[f J];exact ju<|h1 i g2 g1
 exact ju (g o)
end
end TT
namespace PX
open L2 PySem.SeqAt TS
def D.Jp:∀l:List D,D.Es l=l.map D.hash:=by
 intro b
 induction b with
 |nil=>rw[D.Es];rfl
 |cons d l a=>rw[D.Es,a];rfl
def MC:∀{l:List D}{d:D},D.J8 l=C->d∈l->D.pr d=C:=by
 intro c
 induction c with
 |nil=>intro d _ h;simp at h
 |cons e l b=>
  intro d a h;rw[D.J8,nN]at a;rcases nQ.mp h with rfl|h
  .exact a.1
  exact b a.2 h
def AG:∀{l:List D}{d:D},d∈l->d.dep<=D.A6 l:=λ{l d} h=>by obtain⟨j,a⟩:=pF h;exact D.ED a
section
variable {X:Cx}{f:kf}{g:L2.St}{H:Hp}{s:jk}
def JF(X:Cx)(H:Hp)(O:Z5)(c:List D)(a:kF):Prop:= ∃b,Z9 X.K H O c b/\Vals b a
def JF.cons(h:JF X H O (d::ds) (v::c)):(∃x,Rep X.K H O d x/\RelV x v)/\JF X H O ds c:=by
 obtain⟨k,r,vs⟩:=h;rw[Z9]at r;obtain⟨x,j,rfl,e,i⟩:=r
 cases vs with
 |cons a b=>exact⟨⟨x,e,a⟩,j,i,b⟩
def JF.nil_of{O:Z5}{a:List D}(h:JF X H O a []):a=[]:=by
 obtain⟨c,r,b⟩:=h;cases b
 cases a with
 |nil=>rfl
 |cons d a=>rw[Z9]at r;obtain⟨_,_,e,_⟩:=r;cases e
def JF.cons_of(h:JF X H O a (v::c)):∃d b,a=d::b:=by
 cases a with
 |nil=>obtain⟨i,r,e⟩:=h;rw[Z9]at r;subst r;cases e
 |cons d a=>exact⟨d,a,rfl⟩
def NO:∀(n:Nat){s:jk}(I:Inv X f g H s)(d:D)(v:V)(u:jr)(O:Z5)(A:jF)(E:jZ)(Q:Int->jk->Prop),Rep X.K H O d v->RelV v u->D.pr d=Td->d.dep<=n->A.units+n<aI->(∀j,s.toks<=j->Q d.hash {s with toks:=j})->
  aa (ae X.prog X.w) A (pyHash u) Q E s:=by
 intro n
 induction n with
 |zero=>
  intro s I d v u O A E Q c T p hd R B
  cases d with
  |int i=>have:=c.int;subst this;obtain⟨t,rfl⟩:=T;have:=B (s.toks+1)<|uP _;rw[D.hash]at this;exact Gs this
  |tup l=>rw[D.dep]at hd;lia
  |_=>simp[D.pr]at p
 |succ n ih=>
  intro s I d v u O A E Q c T p hd R B
  cases d with
  |int i=>have:=c.int;subst this;obtain⟨t,rfl⟩:=T;have:=B (s.toks+1)<|uP _;rw[D.hash]at this;exact Gs this
  |tup l=>
   rw[D.pr]at p;rw[D.dep]at hd;obtain⟨a,xs,rfl,q,r⟩:=c.tup;cases T;obtain⟨Z,vs,⟨o,Y,S,nn,y7⟩,_⟩:=I.tuple q.sq;have C:s.TypeIs (.ref a) "tuple":=⟨o,Y,S⟩
   have W:A.units<cLine:=by lia
   unfold pyHash;unfold pyHashByItsType;refine ji<|wpAny_cRoomFor_or (.inr W) ?_;refine ji<|sN C HD.lookup ?_;show aa _ _ (if(SI (eD "tuple.__hash__")==SI ah)=Td then _ else _) Q E s;rw[jP<|by rw[Fx];exact lQ];refine ji<|sN C HD.lookup ?_;show aa _ _ (callSpecialIfBoundUnlessNone? (.ref a) "__hash__" _>>=_) Q E s;refine ji<|wpAny_callSpecialIfBoundUnlessNone?_slot C HD<|oI HD C PySem.F.entry_tuple_hash ?_<|PySem.F.args_tuple_hash_1 _;show aa _ _ (cE (.ref a)>>=_) _ _ s;refine ji<|wpAny_tupleItemsOf Y y7 ?_;refine ji ?_;rw[<-Cn]
   refine vh _
    (λm (b:Array Int) J'=>∃done left,l=done++left/\JF X H (λa=>O a) left m/\b.toList=done.map D.hash/\∃j,s.toks<=j/\J'={s with toks:=j})
    _ ?_ ?_ _ _ ⟨[],l,rfl,⟨xs,r,by simpa using vs⟩,rfl,s.toks,kD _,rfl⟩
   .rintro x m b J' ⟨done,left,rfl,L,G,j,z,rfl⟩;obtain⟨d,left,rfl⟩:=L.cons_of;obtain⟨⟨y,h1,P⟩,N⟩:=L.cons;have U:d∈done++d::left:=by simp
    have en:=AG U;refine ji<|ih (I.kept (h':=s.heap) (t':=j) λ_ _ e=>e) d y x O A.in1 E _ h1 P (MC p U) (by lia) (by show A.units+1+n<aI;lia) λM k=>?_
    first
     |exact ju ⟨done++[d],left,by simp,N,by simp[G],M,lY z k,rfl⟩
     |exact ji<|ju<|ju ⟨done++[d],left,by simp,N,by simp,M,lY z k,rfl⟩
   rintro b J' ⟨done,left,rfl,L,G,j,z,rfl⟩;have:=L.nil_of;subst this;have h:=B (j+1)<|l6 z;rw[D.hash,D.Jp,sX]at h;show aa _ _ (retInt<|bh b.toList) _ _ _;rw[G];refine wpAny_ret_mkInt ?_;show aa _ _ (if(decide (-(2:Int)^63<=bh (done.map D.hash))&&decide (bh (done.map D.hash)<2^63))=Td then _ else _) Q E _;unfold reduceHash at h;by_cases c:(decide (-(2:Int)^63<=bh (done.map D.hash))&&decide (bh (done.map D.hash)<2^63))=Td
   .rw[jz c];rw[jz c]at h;exact ju h
   rw[jP c];rw[jP c]at h;exact ji<|qy<|ju h
  |_=>simp[D.pr]at p
def NK{P:jI}{W:jG}{F:Nat->jr->dc Bool}{c:Bool}(I:Inv X f g H s)(p:∀n i t,F n (.int i t)=pure c)
  (N:∀(n:Nat)(a:jh)(o:eM)(b:kF)(m:Nat)(A:jF)(E:jZ)(Q:qu),s.heap.get? a=Y o->s.TypeIs (.ref a) "tuple"->o.data=.seq b.toArray m->
   (∀u∈b,∀Q:Bool->jk->Prop,Q c s->aa (ae P W) A (F n u) Q E s)->Q c s->aa (ae P W) A (F (n+1)<|.ref a) Q E s):∀(n:Nat)(d:D)(v:V)(u:jr)(O:Z5)(A:jF)(E:jZ)(Q:qu),Rep X.K H O d v->RelV v u->D.pr d=Td->d.dep<=n->Q c s->aa (ae P W) A (F n u) Q E s:=by
 intro n
 induction n with
 |zero=>
  intro d v u O A E Q j k e hd h
  cases d with
  |int i=>have:=j.int;subst this;obtain⟨t,rfl⟩:=k;exact rB (p _ _ _) h
  |tup l=>rw[D.dep]at hd;omega
  |_=>simp[D.pr]at e
 |succ n Y'=>
  intro d v u O A E Q j k e hd h
  cases d with
  |int i=>have:=j.int;subst this;obtain⟨t,rfl⟩:=k;exact rB (p _ _ _) h
  |tup l=>rw[D.pr]at e;rw[D.dep]at hd;obtain⟨a,T,rfl,q,r⟩:=j.tup;cases k;obtain⟨b,C,⟨o,z,G,m,S⟩,_⟩:=I.tuple q.sq;refine N n a o b m A E Q z ⟨o,z,G⟩ S (λu U Q M=>?_) h;obtain⟨i,x⟩:=pF U;have l1:=C.length;have l2:=r.length;have Z:=(uT.mp x).1;have B:T[i]?=Y T[i]:=km (by omega);have J:l[i]?=Y l[i]:=km (by omega);obtain⟨w,L,R⟩:=C.get B;rw[x]at L;cases L;have y:l[i]∈l:=xo _;have en:=AG y;exact Y' _ _ _ O A E Q (r.views J B) R (MC e y) (by omega) M
  |_=>simp[D.pr]at e
def Xm(T:Inv X f g H s):=NK (P:=X.prog) (W:=X.w) (F:=gu) (c:=C) T (λn i t=>by simp[gu]) λn a o d v A E Q p m r q l=>by
 unfold gu;refine ji<|sN m HD.lookup ?_;dsimp only;refine ji<|rn p r ?_;refine ji ?_;show aa _ _ (fq d.toArray _ _) _ _ s;rw[<-Cn];refine vh _ (λb k j=>k.1=U/\j=s/\∀u∈b,u∈d) _ ?_ ?_ _ _ ⟨rfl,rfl,by simp⟩
 .rintro x b k j ⟨e,rfl,hm⟩;refine ji<|q x (hm x la) _ ?_;simp -iota only[sA,lL,mT];exact ju ⟨rfl,rfl,λu h=>hm u<|kn _ h⟩
 rintro⟨y,z⟩ j ⟨e,rfl,_⟩;simp only at e;subst e;exact ju l
def PF{P:jI}{W:jG}(T:Inv X f g H s):=NK (P:=P) (W:=W) (F:=ut) (c:=C) T (λn i t=>eqIsQuiet_byValue n J) λn a o d v A E Q p k r q m=>by
 unfold ut;refine ji<|sN k PySem.F.slot_tuple_eq.lookup ?_;show aa _ _ (isInstance (.ref a) (.type "tuple")>>=_) _ _ s;refine ji<|xF k isSubtype_tuple_tuple ?_;simp -iota only[sA,lL,mT];refine ji<|rn p r ?_;refine ji ?_;show aa _ _ (fq d.toArray _ _) _ _ s;rw[<-Cn];refine vh _ (λb l j=>l.1=U/\j=s/\∀u∈b,u∈d) _ ?_ ?_ _ _ ⟨rfl,rfl,by simp⟩
 .rintro x b l j ⟨e,rfl,hm⟩;refine ji<|q x (hm x la) _ ?_;simp -iota only[sA,lL,mT];exact ju ⟨rfl,rfl,λu h=>hm u<|kn _ h⟩
 rintro⟨w,y⟩ j ⟨e,rfl,_⟩;simp only at e;subst e;exact ju m
def abZ{P:jI}{W:jG}(T:Inv X f g H s):=NK (P:=P) (W:=W) (F:=dF) (c:=I) T (λn i t=>by simp[dF]) λn a o d v A E Q p m r q l=>by
 unfold dF;refine ji<|rE m ?_;dsimp only;rw[jz<|by decide];refine ji<|ju ?_;simp -iota only[sA,lL,mT];refine ji<|rn p r ?_;dsimp only;refine ji ?_;show aa _ _ (fq d.toArray _ _) _ _ s;rw[<-Cn];refine vh _ (λb k j=>k.1=U/\j=s/\∀u∈b,u∈d) _ ?_ ?_ _ _ ⟨rfl,rfl,by simp⟩
 .rintro x b k j ⟨e,rfl,hm⟩;refine ji<|q x (hm x la) _ ?_;simp -iota only[lL,mT];exact ju ⟨rfl,rfl,λu h=>hm u<|kn _ h⟩
 rintro⟨w,y⟩ j ⟨e,rfl,_⟩;simp only at e;subst e;exact ju l
end
end PX
namespace TT
open PySem.SeqAt
def aae:mL z0 "set.__iter__"=Y bc.«frozenset.__iter__»:=At (id':="frozenset.__iter__") (by kernel_rfl) J (by decide+kernel) (by kernel_rfl)
def vK:Slot "set_iterator" "__next__" "set_iterator.__next__":=.of (owner:="set_iterator") (n:="__next__") (by rw[Fw,Fv];kernel_rfl) (by decide+kernel) (by decide+kernel) (by decide+kernel) (by first|exact .inl (by decide+kernel)|exact .inr<|by decide+kernel) (by rw[Fu];kernel_rfl)
def wA:Slot "set_iterator" "__iter__" "set_iterator.__iter__":=.of (owner:="set_iterator") (n:="__iter__") (by rw[Fw,Fv];kernel_rfl) (by decide+kernel) (by decide+kernel) (by decide+kernel) (by first|exact .inl (by decide+kernel)|exact .inr<|by decide+kernel) (by rw[Fu];kernel_rfl)
def aat:mL z0 "set_iterator.__next__"=Y bc.«set_iterator.__next__»:=entryFor_of_fast (by kernel_rfl)
def aau:mL z0 "set_iterator.__iter__"=Y bc.«dict_keyiterator.__iter__»:=At (id':="dict_keyiterator.__iter__") (by kernel_rfl) J (by decide+kernel) (by kernel_rfl)
def aaE(a:jr):A1 "set_iterator.__next__" ⟨[a],[]⟩:=by unfold A1;kernel_rfl
def aaF(a:jr):A1 "set_iterator.__iter__" ⟨[a],[]⟩:=by unfold A1;kernel_rfl
theorem si{a:Type}:∀(l:List a){i:Nat}(h:i<TD l),(l[i]::l.eraseIdx i).Perm l
 |x::l,0,_=>by simp
 |x::l,i+1,h=>by have:=si l (i:=i) (by simpa using h);simp;exact(ij x _ _).trans (ik x this)
def aay{c:Type}(next:Nat->Nat):∀(a k:Nat)(left:List c)(out:Array c),TD left<=a->(pickOrder.go next a k left out).toList.Perm (out.toList++left):=by
 intro e
 induction e with
 |zero=>intro k left out h;have:left=[]:=OW.mp (by lia);subst this;unfold pickOrder.go;simp
 |succ a d=>
  intro k left out h;unfold pickOrder.go
  cases left with
  |nil=>simp
  |cons y l=>have b:next k%(y::l).length<(y::l).length:=xq _ (by simp);rw[km b];dsimp only;refine(d (k+1) _ _ (by rw[Cm,jz b];simp at h ⊢;lia)).trans ?_;rw[fv,qb];refine adw _ ?_;exact si _ b
def zZ{b:Type}(next:Nat->Nat)(a:Array b):(gk next a).toList.Perm a.toList:=by unfold gk;have:=aay next a.size 0 a.toList #[] (by simp);simpa using this
noncomputable def qZ(w:jG)(a:jh)(n:Nat)(b:rh):Array (Int×jr):=if w.params.followText "set-order"=C then gk (w.params.setOrder a n) b else b
def Ff(w:jG)(a:jh)(n:Nat)(b:rh):(qZ w a n b).toList.Perm b.toList:=by
 unfold qZ;split
 .exact zZ _ _
 exact vf _
def vI(w:jG)(a:jh)(n:Nat)(b:rh):(qZ w a n b).size=b.size:=by rw[<-lT,(Ff w a n b).length_eq,lT]
noncomputable def HQ(t:mK):Nat->Nat
 |0=>0
 |i+1=>t.place.getD i 0+1
def og(w:jG)(t:mK)(i:Nat):Nat:=if w.params.followText "set-order"=C then 0 else HQ t i
structure Bb(w:jG)(h:jH)(a:jh)(es:rh)(n:Nat)(t:mK):Prop where
 at_:h.get? a=SI (kI es n t)
 tab:V0 (es.toList.map (·.1)) t
 plain:t.plain=Td
 led:t.led=!w.params.followText "set-order"
def DC(w:jG)(h:jH)(it a:jh)(t:mK)(size n i:Nat):Prop:= ∃o,h.get? it=Y o/\o.cls=.type "set_iterator"/\o.data=.fields #[.int (og w t i) 0,.int i 0,.ref a,.int size 0,.int n 0]
section
variable {prog:jI}{w:jG}{A:jF}{E:jZ}{s:jk}
def Bb.fits{h a es n t}(S:Bb w h a es n t):t.fits es.size=C:=zi S.tab (by simp)
def abz(c:t.place.toList.Pairwise (· < ·))(j:i<=t.place.size):aj t.place (HQ t i)=i:=by
 cases i with
 |zero=>
  obtain⟨h1,a,_⟩:=pX c 0
  cases g:aj t.place 0 with
  |zero=>exact g
  |succ k=>
   have h:0<t.place.size:=by lia
   have:=a 0 _ (by lia) (pE h)
   lia
 |succ i=>
  have hd:t.place.getD i 0=t.place[i]:=by simp[show i<t.place.size by lia]
  show aj t.place (t.place.getD i 0+1)=i+1;rw[hd];have e:t.place[i]?=Y t.place[i]:=pE (by lia);obtain⟨h1,a,f⟩:=pX c<|t.place[i]+1;by_cases l:aj t.place (t.place[i]+1)<i+1
  .have:=f i _ (by lia) e;lia
  by_cases b:i+1<aj t.place (t.place[i]+1)
  .have d:t.place[i+1]?=Y t.place[i+1]:=pE (by lia);have:=a (i+1) _ b d;have:=C6 c (zB i) e d
   lia
  lia
def aa7{a:jh}{b:rh}{n:Nat}{t:mK}(S:Bb w s.heap a b n t){i:Nat}(q:i<=b.size){Q:Option (jr×Nat)->jk->Prop}
  (h1:∀e,(qZ w a n b)[i]?=Y e->Q (Y (e.2,og w t<|i+1)) s)(h:i=b.size->Q U s):aa (ae prog w) A (setNext a (og w t i) i n) Q E s:=by
 have p:=S.tab.len;rw[kN,lT]at p;unfold setNext;refine ji<|rV S.at_ J S.fits ?_;dsimp only;unfold gH;refine ji<|ji<|sQ<|ju ?_;by_cases c:w.params.followText "set-order"=C
 .have f:(ae prog w).w.params.followText "set-order"=C:=c;rw[jz f,jP<|by simp];unfold setWalk gH;refine ji<|ji<|rV S.at_ J S.fits ?_;dsimp only;refine ji<|ji<|sQ<|ju ?_;rw[jz f];refine ji<|sQ<|ju<|ju ?_;have g:qZ w a n b=gk (w.params.setOrder a n) b:=by unfold qZ;rw[jz c]
  have d:∀k,og w t k=0:=λk=>by unfold og;rw[jz c]
  show Q (((gk (w.params.setOrder a n) b)[i]?).map λe=>(e.2,og w t i)) s;rw[<-g];rw[d]at h1;rw[d]
  cases j:(qZ w a n b)[i]? with
  |some e=>exact h1 e j
  |none=>have:=Vx.mp j;rw[vI]at this;exact h (by lia)
 have f: ¬(ae prog w).w.params.followText "set-order"=C:=c;rw[jP f];change aa _ _ (if(!t.plain&&decide (b.size>1))=C then _ else _) _ _ _;rw[jP<|by rw[S.plain];simp];have m:t.led=C:=by rw[S.led];simpa using c
 refine ji ?_;change aa _ _ (if(!t.led&&!b.isEmpty)=C then _ else _) _ _ _;rw[jP<|by rw[m];simp];refine ju ?_;have g:qZ w a n b=b:=by unfold qZ;rw[jP c]
 have d:∀k,og w t k=HQ t k:=λk=>by unfold og;rw[jP c]
 have l:aj t.place (og w t i)=i:=by rw[d];exact abz S.tab.ris (by lia)
 rw[l];rw[g]at h1;by_cases o:i<b.size
 .have g1:b[i]?=Y b[i]:=pE o;have g2:t.place[i]?=Y t.place[i]:=pE (by lia);rw[g1,g2];have:=h1 b[i] g1;rw[d]at this;rw[show HQ t (i+1)=t.place.getD i 0+1 from J]at this;have hd:t.place.getD i 0=t.place[i]:=by simp[show i<t.place.size by lia]
  rw[hd]at this;exact ju this
 rw[Fy<|by lia];exact ju<|h (by lia)
def Bb.typeIs{a b n t}(S:Bb w s.heap a b n t):s.TypeIs (.ref a) "set":=⟨_,S.at_,rfl⟩
def DC.typeIs{it a t z n i}(S:DC w s.heap it a t z n i):s.TypeIs (.ref it) "set_iterator":=let⟨o,c,b,_⟩:=S;⟨o,c,b⟩
def adI(S:Bb w s.heap a d n t)
  (f:∀c,DC w c s.heap.objs.size a t d.size n 0->(∀b o,s.heap.get? b=Y o->c.get? b=Y o)->c.objs.size=s.heap.objs.size+1->Q (.ref s.heap.objs.size) {s with heap:=c}):
  aa (ae prog w) A (cM<|.ref a) Q E s:=by
 refine Ft S.typeIs Lc<|oI Lc S.typeIs aae ?_<|PySem.F.args_set_iter_1 _;unfold bc.«frozenset.__iter__» nt z7;simp -iota only[xm,sA,lL,rC,zo,xH];unfold bw nw;refine ji<|ju ?_;dsimp only;refine ji<|ju ?_;refine ji<|ji<|Lb S.at_ J S.fits<|ju ?_;unfold setDrawn gH;refine ji<|ji<|rV S.at_ J S.fits ?_;dsimp only;refine ji<|ji<|sQ<|ju ?_;refine ju ?_;change aa _ _ (if(!w.params.followText "set-order"&&(!t.plain&&decide (d.size>1)))=C then _ else _) _ _ _;rw[jP<|by rw[S.plain];simp];refine ji<|ju ?_;unfold setEpoch;refine ji<|ji<|rV S.at_ J S.fits<|ju ?_;refine ji<|oy<|ju ⟨_,rfl,"set_iterator",_,⟨_,kW _ rfl,rfl⟩,vK.lookup,?_⟩;refine f _ ⟨_,kW _ rfl,rfl,?_⟩ (λb o e=>kB _ e) (oV _ _);have:og w t 0=0:=by unfold og;split<;>rfl
 rw[this];rfl
def Ep(u:A.handled=U){it a:jh}{c:rh}{n:Nat}{t:mK}(S:Bb w s.heap a c n t){i:Nat}(g:DC w s.heap it a t c.size n i)(v:i<=c.size){Q:Bn}
  (q:∀e,(qZ w a n c)[i]?=Y e->∀d,DC w d it a t c.size n (i+1)->au it s.heap d->Q (Y e.2) {s with heap:=d})
  (p:i=c.size->∀d,el it s.heap d->Q U {s with heap:=d}):aa (ae prog w) A (cu<|.ref it) Q E s:=by
 obtain⟨o,f,r,hd⟩:=id g;unfold cu;refine ji<|vq<|sV (name:=bv "__next__") g.typeIs vK<|oI vK g.typeIs aat ?_<|aaE _;unfold bc.«set_iterator.__next__» z7;simp -iota only[xm,sA,lL,rC,zo,xH];refine ji<|ju ?_;unfold fieldsOf;dsimp only;simp -iota only[rC];refine ji<|CV f ?_;rw[hd];refine ji<|ju ?_;dsimp only;refine ji<|Lb S.at_ J S.fits ?_;rw[jP<|by simp];have h1:((og w t i:Nat):Int).toNat=og w t i:=uQ _;have k:((i:Nat):Int).toNat=i:=uQ _;have l:((n:Nat):Int).toNat=n:=uQ _;rw[h1,k,l];refine ji<|aa7 S v (λy j=>?_) λz=>?_
 .dsimp only;refine ji<|vz f hd (by simp) ?_;have h:=sU (gG λx=>x.setIfInBounds 0<|cf<|og w t<|i+1) f<|CH<|uN hd _;refine ji<|vz h (uN hd _) (by simp)<|ju ⟨_,rfl,ju<|q _ j _ ?_ ((qa ..).trans (qa ..))⟩;refine⟨_,sU _ h (CH<|uN (uN hd _) _),?_,?_⟩
  .rw[CG,CG];exact r
  rw[uN<|uN hd _];simp[cf]
 dsimp only;refine ji<|vz f hd (by simp) ?_;show aa _ _ (je (.type "StopIteration") []>>=_) _ _ _;refine ji ?_;simp -iota only[je];refine ji<|oy ?_ (by size_fits);refine ji (m:=gJ _ _)<|rB (a:=ah) (by first|rfl|(simp -iota;rfl)) ?_;refine oy ?_ (by size_fits);simp -iota only[z9];refine ji<|FU ?_;rw[show A.in1.handled=U from u];refine ji<|ju<|FR ?_;refine ji<|xF (T:="StopIteration") (b:=C) ⟨_,kW _ rfl,rfl⟩ CB ?_;exact ju<|p z _ (((qa ..).extBut.push _).push _)
def abC(b:DC w s.heap it a t z n i)(c:Q (.ref it) s):aa (ae prog w) A (cM<|.ref it) Q E s:=by refine Ft b.typeIs wA<|oI wA b.typeIs aau ?_<|aaF _;unfold bc.«dict_keyiterator.__iter__» z7;simp -iota only[xm,sA,lL,rC,zo,xH];exact ji<|ju<|ju ⟨_,rfl,"set_iterator",_,b.typeIs,vK.lookup,c⟩
def Bb.AV{a b n t}(S:Bb w h a b n t)(k:∀o,h.get? a=Y o->c.get? a=Y o):Bb w c a b n t:=⟨k _ S.at_,S.tab,S.plain,S.led⟩
def acg(j:A.handled=U)(T a:jh)(x:T≠a)(f:rh)(n:Nat)(t:mK):
  O0 prog w A T [T,a] [T] f.size (λi v=>∃e,(qZ w a n f)[i]?=Y e/\v=e.2) (λi h=>DC w h T a t f.size n i/\Bb w h a f n t) where
 sub:=λb c=>by simp at c;simp[c]
 frame:=λ_ _ _ st hk=>⟨(by obtain⟨o,h1,q⟩:=st.1;exact⟨o,hk T (by simp) o h1,q⟩),st.2.AV λo e=>hk a (by simp) o e⟩
 item:=λi s Q E k st d=>by refine Ep j st.2 st.1 (wj k) (λe u g p l=>?_) λz=>absurd z<|kU k;exact d _ g s.toks ⟨_,u,rfl⟩ ⟨p,st.2.AV λo e=>l.extBut a o (λh=>x h.symm) e⟩ λb o c e=>l.extBut b o (λh=>c<|by simp[h]) e
 done:=λs Q E st d=>Ep j st.2 st.1 (kD _) (λe r=>absurd (Jn.mp r).1<|by rw[vI];exact qf _) λ_ g m=>d g s.toks λb o c e=>m b o (λh=>c<|by simp[h]) e
 self:=λ_ _ _ _ st d=>abC st.1 d
def yI{T id:String}{N:Nat}{y:kF}{J:Nat->jr->Prop}{ST:Nat->jH->Prop}(m:T="set"/\id="set.__len__"\/T="dict"/\id="dict.__len__")(dq:a<s.heap.objs.size)(ty:∀h:jk,(∀o,s.heap.get? a=Y o->h.heap.get? a=Y o)->h.TypeIs (.ref a) T)
  (W:O0 prog w A.in1 (s.heap.objs.size+1) [s.heap.objs.size+1,a] [s.heap.objs.size+1] N J ST)(hn:N<=sizeLine)(hv:∀i v,J i v->y[i]?=Y v)(hl:(TD y)=N)
  (H:∀(l:eM)(G:jZ),(∀p,ST 0 p->(∀b o,(s.heap.push l).get? b=Y o->p.get? b=Y o)->G (.ref<|s.heap.objs.size+1) {s with heap:=p})->aa (ae prog w) A.in1 (cM<|.ref a) G E {s with heap:=s.heap.push l})
  (hQ:∀u tk,(∀b o,s.heap.get? b=Y o->u.get? b=Y o)->Q y {s with heap:=u,toks:=tk}):aa (ae prog w) A (fW<|.ref a) Q E s:=by
 have B:a≠s.heap.objs.size:=kU dq;have t:s.heap.objs.size≠s.heap.objs.size+1:=kU<|zB _;unfold fW;refine ji<|FV<|qw PySem.F.entry_proto_collect ?_;rw[sG PySem.F.plain_proto_collect _];show aa _ A.in1 (s8 []>>=λl=>again<|.builtin "list.__iadd__" ⟨[l,.ref a],[]⟩) _ _ s;refine ji<|oy ?_;refine ju ⟨rp La _,qw PySem.F.entry_list_iadd ?_⟩;rw[sG La _];show aa _ A.in1 (eZ (.ref s.heap.objs.size) (.ref a)<|.ref s.heap.objs.size) _ _ _;generalize q:({cls:=.type "list",data:=.seq ([]:List jr).toArray}:eM)=O;unfold eZ;refine ji<|rE (T:=T) (s:={s with heap:=s.heap.push O}) (ty _ λo e=>kB _ e) ?_;have h1:fy (.ref s.heap.objs.size) (.ref a)=I:=by simp only[fy,AU];exact B.symm
 have p:(b3 T==b3 "list")=I:=by rcases m with⟨rfl,_⟩|⟨rfl,_⟩<;>decide
 have Z:(b3 T==b3 "tuple")=I:=by rcases m with⟨rfl,_⟩|⟨rfl,_⟩<;>decide
 simp -iota only[h1,p,Z,lL,mT];refine ji<|H O _ λg K L=>?_;have C:c8 {s with heap:=g} (.ref a) T:=ty _ λo e=>L _ _ (kB _ e);refine ji<|mE<|oJ (Q:=λr h=>r=I/\h={s with heap:=g}) ?_ (λr h ⟨e1,e2⟩=>?_) λ_ _ z=>z
 .unfold wS;refine ji<|sN (s:={s with heap:=g}) C (r:=Y<|.builtin id) (by rcases m with⟨rfl,rfl⟩|⟨rfl,rfl⟩<;>first|exact PySem.F.slot_set_len.lookup|exact PySem.F.slot_dict_len.lookup) ?_;dsimp only;rw[show splitId id=Y (T,"__len__")from by rcases m with⟨rfl,rfl⟩|⟨rfl,rfl⟩<;>decide+kernel];dsimp only;refine ji<|xF (s:={s with heap:=g}) (b:=Td) C (by rw[Fu];rcases m with⟨rfl,_⟩|⟨rfl,_⟩<;>kernel_rfl) ?_;simp -iota only[sA,lL];change aa _ _ (if _=Td then _ else _) _ _ _;rw[jz (by rcases m with⟨_,rfl⟩|⟨_,rfl⟩<;>decide+kernel)];refine ji<|rE (s:={s with heap:=g}) C ?_;dsimp only;exact ju ⟨rfl,rfl⟩
 subst e1 e2;change aa _ _ (if _=Td then _ else _) _ _ _;rw[jz (by rcases m with⟨rfl,_⟩|⟨rfl,_⟩<;>decide+kernel)];refine ji<|qy ?_;have c:g.get? s.heap.objs.size=Y O:=L _ _ (kW _ (by subst q;rfl));subst q;refine ji ?_;show aa _ A.in1 (updateSeq s.heap.objs.size (·.push .none)>>=λ_=>updateSeq s.heap.objs.size (·.pop)) _ _ _;refine ji<|ww (s:={s with heap:=g}) c Tl ?_;have d:=sU (aM (·.push ah)) c Tl;refine ww d Tl ?_;have k:=sU (aM (·.pop)) d Tl
 have Z3:∀b o,b≠s.heap.objs.size->g.get? b=Y o->((g.update s.heap.objs.size (aM (·.push ah))).update s.heap.objs.size (aM (·.pop))).get? b=Y o:=
  λb o f e=>(CP _ _ (rY f)).trans<|(CP _ _ (rY f)).trans e
 refine ju ⟨rp PySem.F.plain_extend_loop _,?_⟩;refine codeAny_extend_loopS W.toS hn s.heap.objs.size (by simp -iota only[nQ,qv,or_false,not_or];exact⟨t,B.symm⟩) _ N 0 _ _ _ rfl (mw _) (W.frame _ _ _ K λb f o e=>Z3 b o (by simp at f;rcases f with rfl|rfl<;>first|exact t.symm|exact B) e) k (ItemsOf.nil _) λh I' c' x Y' o9=>?_;show aa _ A (load s.heap.objs.size>>=_) _ _ h;refine ji<|CV Y' ?_;obtain⟨u,X,P,U,D⟩:=h;have S:X=s.gens:=x.gens;have R:P=s.drawn:=x.drawn;have V:D=s.os:=x.os;subst S;subst R;subst V
 have n:I'.toList=y:=by
  obtain⟨a1,M⟩:=o9;refine zA λj=>?_;rw[mD]
  cases e:I'[j]? with
  |some v=>exact(hv j v<|M j v e).symm
  |none=>rw[List.getElem?_eq_none_iff.mpr];rw[hl,<-a1];exact Vx.mp e
 refine ju ?_;show Q I'.toList _;rw[n];refine hQ u U λb o e=>?_;have f:=kX e;exact x.heap b o (by simp -iota;exact⟨kU f,kU<|uO f⟩)<|Z3 b o (kU f)<|L _ _ (kB _ e)
def Rk(r:A.handled=U)(S:Bb w s.heap a c n t)(u:c.size<=sizeLine)
  (p:∀h x,(∀b o,s.heap.get? b=Y o->h.get? b=Y o)->Q ((qZ w a n c).toList.map (·.2)) {s with heap:=h,toks:=x}):aa (ae prog w) A (fW<|.ref a) Q E s:=by
 have g:a<s.heap.objs.size:=kX S.at_;refine yI (.inl ⟨rfl,rfl⟩) g (λz k=>(S.AV k).typeIs) (acg (by show A.handled=U;exact r) (s.heap.objs.size+1) a (qe<|uO g) c n t) u (λi v ⟨e,q,hv⟩=>?_) (by rw[kN,lT,vI]) (λl y k=>?_) p
 .rw[lh,mD,q,hv];rfl
 have d:Bb w (s.heap.push l) a c n t:=S.AV λo e=>kB _ e;refine adI (s:={s with heap:=s.heap.push l}) d λm f j _=>?_;rw[show(s.heap.push l).objs.size=s.heap.objs.size+1 from oV _ _]at f ⊢;exact k m ⟨f,d.AV λo e=>j _ _ e⟩ j
end
section
variable {a:jI}{w:jG}{A:jF}{R:j8->jk->Prop}{I:jh}{d c:lG}{G:Array ej->Array ej->Prop}{n:Nat}{P:Nat->jr->Prop}{St:Nat->jk->Prop}
def acV(W:WalksS a w A.in1 I d c G n P St)(S:jh)(B:S∉d)(s0:jk)(j:Nat->jH->Prop)(AV:∀i h g,j i h->(∀o,h.get? S=Y o->g.get? S=Y o)->j i g)
  (step:∀i v (f:jk) (Q:qu) (E:jZ),i<n->P i v->j i f.heap->nb (S::c) G s0 f->(∀r g y,f.toks<=y->au S f.heap g->j (i+1) g->Q r {f with heap:=g,toks:=y})->aa (ae a w) A.in1 (gj S v) Q E f):
  ∀(k i:Nat)(s:jk),n-i=k->i<=n->St i s->j i s.heap->nb (S::c) G s0 s->(∀f,nb (S::c) G s0 f->j n f.heap->R (.ok<|.ret .none) f)->
   bQ (ae a w) A (.builtin "set.update.loop" ⟨[.ref S,.ref I],[]⟩) R s:=by
 have H:S∉c:=λh=>B<|W.sub _ h;have L:∀b∈c,b∈S::c:=λb l=>kn _ l;intro k
 induction k with
 |zero=>
  intro i s hk N x t p q;have T:i=n:=by lia
  subst T;refine qw K9 ?_;rw[sG Fs _];show aa _ A.in1 (cu (.ref I)>>=_) _ _ s;refine ji<|W.done s _ _ x λf m=>?_;show aa _ A.in1 (ret ah) _ _ f;exact ju<|q f (Ck W.gtrans p<|m.mono L)<|AV _ _ _ t λo e=>m.heap S o H e
 |succ k Y'=>
  intro i s hk N x t p q;have u:i<n:=by lia
  refine qw K9 ?_;rw[sG Fs _];show aa _ A.in1 (cu (.ref I)>>=_) _ _ s;refine ji<|W.item i s _ _ u x λv f M J m=>?_;have C:=Ck W.gtrans p<|m.mono L;show aa _ A.in1 (b6 [v] (gj S v)>>=_) _ _ f;refine ji<|mE<|step i v f _ _ u M (AV _ _ _ t λo e=>m.heap S o H e) C λr g y z O U=>?_;refine ju ⟨rp Fs _,Y' (i+1) _ (by lia) u (W.frame _ f _ _ J z λb l o e=>?_) U (C.then_heap z λb o l e=>?_) q⟩
  .rw[O.2 b λh:b=S=>B<|by rw[<-h];exact l];exact e
  rw[O.2 b λh:b=S=>l<|by rw[h];exact la];exact e
end
section
variable {f:jI}{w:jG}{A:jF}{E:jZ}{s:jk}
def QD(a:jr)(h:Q₁ (.ref s.heap.objs.size) {s with heap:=s.heap.push (kI #[] 0 (.fresh 0 0 (!w.params.followText "set-order")))}):
  bQ (ae f w) A (.call (.builtin "set.__new__") ⟨[.type "set",a],[]⟩) (zn Q₁ E) s:=by
 refine vC ?_;show aa _ A.in1 (do gl "set.__new__" ⟨[.type "set",a],[]⟩;again (.builtin "set.__new__" ⟨[.type "set",a],[]⟩)) _ _ s;refine ji<|rB (PySem.F.newCall_set_1 a)<|ju ⟨rp Cj _,qw K8 ?_⟩;rw[sG Cj _];unfold bc.«set.__new__» ek;have c:=Gc;obtain⟨b,g,d,e,os⟩:=s;dsimp only
 wp_walk
 refine sQ<|ju ?_;dsimp only;simp only[newObj];refine ji<|xJ<|ju ?_;exact ju h
noncomputable abbrev lM(w:jG):SetTable:=.fresh 0 0 (!w.params.followText "set-order")
def Vr{h:jH}{a:jh}(e:h.get? a=Y (kI #[] 0 (lM w))):Bb w h a #[] 0 (lM w):=⟨e,V0.fresh _ _ _,rfl,rfl⟩
set_option maxHeartbeats 8000000 in
def Vs{l:jh}{items:nJ}{Q:jZ}(hh:A.handled=SS)(m:s.heap.IsList l items\/s.heap.IsTuple l items)(k:Nat->jH->Prop)
  (AV:∀i h a,k i h->(∀o,h.get? s.heap.objs.size=SI o->a.get? s.heap.objs.size=SI o)->k i a)
  (oY:∀a,a.get? s.heap.objs.size=SI (kI #[] 0 (lM w))->k 0 a)
  (step:∀i v (d:jk) (B:jF) (Q:qu) (E:jZ),B.units<=A.units+20->items[i]?=SI v->k i d.heap->(∀b o,s.heap.get? b=SI o->d.heap.get? b=SI o)->d.gens=s.gens->d.drawn=s.drawn->d.os=s.os->
   (∀r a u,d.toks<=u->au s.heap.objs.size d.heap a->k (i+1) a->Q r {d with heap:=a,toks:=u})->aa (ae f w) B (gj s.heap.objs.size v) Q E d)
  (h:∀(a:jH)(u:Nat),k items.size a->(∀b o,s.heap.get? b=SI o->a.get? b=SI o)->Q (.ref s.heap.objs.size) {s with heap:=a,toks:=u}):
  aa (ae f w) A (call (.type "set") [.ref l]) Q E s:=by
 obtain⟨c,tl,D⟩:=DS.mro;have L:=DS.made;have m8:=DS.sub;refine zH<|vC ?_;show aa _ _ (callAny (.type "set") _) _ _ _;refine ju ⟨Code.quiet_builtin _ (by decide+kernel),qw K7 ?_⟩;rw[hC (K6 "set" [.ref l] []) Tl];have h1:=DS.notType;have h2:=DS.canCreate;have fg:=PySem.F.typeCall_set_1<|.ref l
 repeat (any_goals (first|assumption|wp_step))
 refine rX (QD (.ref l) (E:=E) (Q₁:=λobj p=>obj=.ref s.heap.objs.size/\p={s with heap:=s.heap.push (kI #[] 0 (lM w))}) ⟨rfl,rfl⟩) λr p O=>?_
 cases r with
 |error e=>exact O
 |ok fl=>
  cases fl with
  |ret obj=>
   obtain⟨rfl,rfl⟩:=O;have Y:(s.heap.push<|kI #[] 0 (lM w)).get? s.heap.objs.size=SI (kI #[] 0 (lM w)):=kW _ rfl;have hT:c8 {s with heap:=s.heap.push (kI #[] 0 (lM w))} (.ref s.heap.objs.size) "set":=⟨_,Y,rfl⟩
   have eV:=DS.init.lookup;have iG:=DS.init.bind<|.ref s.heap.objs.size
   repeat (any_goals (first|assumption|wp_step))
   refine rX (K5 (R:=zn (λr q=>r=.none/\∃a u,q={s with heap:=a,toks:=u}/\k items.size a/\(∀b o,s.heap.get? b=SI o->a.get? b=SI o)) E) DS.init.plain K0<|check_set_init_1 hT ?_) λy q C=>?_
   .obtain⟨c,hc,ol,J,V,nl,M⟩:∃c,(c="list"\/c="tuple")/\∃o,s.heap.get? l=SI o/\o.cls=.type c/\∃n,o.data=.seq items n:=m.elim (λh=>⟨_,.inl Tl,h⟩) (λh=>⟨_,.inr Tl,h⟩)
    obtain⟨S,P,i7⟩:isSubtype (.type c) (.type "set")=pure Tk/\isSubtype (.type c) (.type "frozenset")=pure Tk/\(b3 c==b3 "dict")=Tk:=by
     rcases hc with rfl|rfl
     .exact⟨PySem.F.sub_list_set,PySem.F.sub_list_frozenset,by decide⟩
     exact⟨PySem.F.sub_tuple_set,PySem.F.sub_tuple_frozenset,by decide⟩
    obtain⟨X,t,T,j⟩:=ol;simp only at V M;subst V;subst M;have K:(s.heap.push<|kI #[] 0 (lM w)).get? l=SI {cls:=.type c,dict:=t,data:=.seq items nl,slots:=j}:=kB _ J;have U:l<s.heap.objs.size:=kX J;have N:A.in1.in1.in1.handled=SS:=by simp[hh]
    have sz:(s.heap.push<|kI #[] 0 (lM w)).objs.size=s.heap.objs.size+1:=oV _ _;have G:l≠(s.heap.push<|kI #[] 0 (lM w)).objs.size:=by rw[sz];exact kU<|uO U
    have cb:s.heap.objs.size∉[(s.heap.push<|kI #[] 0 (lM w)).objs.size,l]:=by rw[sz];simp only[nQ,qv,or_false,not_or];exact⟨kU<|zB _,qe U⟩
    obtain⟨St,W,o0,h0,H⟩:∃St,O0 f w A.in1.in1.in1 (s.heap.push<|kI #[] 0 (lM w)).objs.size [(s.heap.push<|kI #[] 0 (lM w)).objs.size,l] [(s.heap.push<|kI #[] 0 (lM w)).objs.size] items.size (λi v=>items[i]?=SI v) St/\∃o0,St 0 ((s.heap.push<|kI #[] 0 (lM w)).push o0)/\
      ∀{Z:jF}{Q:jZ}{E},Q (.ref (s.heap.push<|kI #[] 0 (lM w)).objs.size) {s with heap:=(s.heap.push<|kI #[] 0 (lM w)).push o0}->aa (ae f w) Z (cM<|.ref l) Q E {s with heap:=s.heap.push (kI #[] 0 (lM w))}:=by
     rcases m with m|m
     .exact⟨_,CJ N _ l G items,_,⟨⟨_,kW _ rfl,rfl,rfl⟩,(m.push _).push _⟩,λh=>xP (m.push _) h⟩
     exact⟨_,Walks.tuple N _ l G items,_,⟨⟨_,kW _ rfl,rfl,rfl⟩,(m.push _).push _⟩,λh=>Gj (m.push _) h⟩
    unfold bc.«set.__init__» noKeywords nf;generalize I:cM=PI
    wp_walk
    subst I;refine H ?_;refine ji<|FV ?_;refine acV W.toS s.heap.objs.size cb _ k AV (λi v d Q' E' hi hP iN g hk=>?_) (items.size-0) 0 _ (by lia) (mw _) h0 (oY _ (kB _ Y)) (u3 λ_=>rfl) ?hR
    .refine step i v d _ Q' E' ?_ hP iN (λb o e=>?_) g.gens g.drawn g.os hk
     .show A.units+1+1+1<=A.units+20;lia
     have x:=kX e;exact g.heap b o (by rw[sz];simp only[nQ,qv,or_false,not_or];exact⟨kU x,kU<|uO x⟩)<|kB _ (kB _ e)
    case hR=>intro d g z;obtain⟨a,g',d',aL,cP⟩:=d;have eg:g'=s.gens:=g.gens;have ed:d'=s.drawn:=g.drawn;have eo:cP=s.os:=g.os;subst eg;subst ed;subst eo;show aa _ _ _ _ _ _;refine ju ?_;show aa _ _ (ret ah) _ _ _;refine ju ⟨rfl,a,aL,rfl,z,λb o e=>?_⟩;have x:=kX e;exact g.heap b o (by rw[sz];simp only[nQ,qv,or_false,not_or];exact⟨kU x,kU<|uO x⟩)<|kB _ (kB _ e)
   cases y with
   |error e=>exact C
   |ok iW=>
    cases iW with
    |ret r=>
     obtain⟨rfl,a,u,rfl,z,eX⟩:=C
     repeat (any_goals (first|assumption|wp_step))
     exact h _ _ z eX
    |_=>exact C.elim
  |_=>exact O.elim
end
end TT
namespace PX
open L2 PySem.SeqAt TS
def Em:D->Bool
 |.tup l=>D.J8 l&&decide (D.A6 l<=6)
 |_=>I
def qi(h:Em d=C):∃l,d=.tup l:=by cases d<;>first|exact⟨_,rfl⟩|(simp[Em]at h)
def tD(h:Em d=C):D.pr d=C:=by obtain⟨l,rfl⟩:=qi h;simp only[Em,nN]at h;rw[D.pr];exact h.1
def rJ(h:Em d=C):d.dep<=7:=by obtain⟨l,rfl⟩:=qi h;simp -iota only[Em,vA]at h;rw[D.dep];lia
def vW(h1:D.pr x=C)(a:D.pr y=C):D.Z1 x y=C↔x=y:=by
 rw[Hg x y h1 a];constructor
 .intro h;exact AK x y h1 a (by simpa using h)
 rintro rfl;rw[Je];rfl
def nH(a:List D)(d:D):List D:=if a.any (D.Z1 · d)=C then a else a++[d]
def mC(l:List D):List D:=l.foldl nH []
def Rw{p:D->Bool}(h1:b.all p=C)(a:p d=C):(nH b d).all p=C:=by
 unfold nH;split
 .exact h1
 rw[List.all_append,h1];simp[a]
def OG(a:List D)(d:D):(nH a d).length<=TD a+1:=by unfold nH;split<;>simp
def nE{d i:Type}(f:d->i){g m:List i}(h:g.Perm m):∀l:List d,m=l.map f->∃c:List d,c.Perm l/\g=c.map f:=by
 induction h with
 |nil=>
  intro l e;have:l=[]:=by simpa using e.symm
  subst this;exact⟨[],.refl _,rfl⟩
 |cons x _ n=>
  intro l e
  cases l with
  |nil=>simp at e
  |cons y l=>simp -iota at e;obtain⟨c,p,q⟩:=n l e.2;exact⟨y::c,p.cons y,by rw[q,e.1];rfl⟩
 |swap x y w=>
  intro l e
  cases l with
  |nil=>simp at e
  |cons a l=>
   cases l with
   |nil=>simp at e
   |cons b l=>simp -iota at e;exact⟨b::a::l,.swap a b l,by rw[e.1,e.2.1,e.2.2];rfl⟩
 |trans _ _ k j=>intro l e;obtain⟨o,s,u⟩:=j l e;obtain⟨r,t,v⟩:=k o u;exact⟨r,t.trans s,v⟩
def yA{b d:Type}{F:b->d->Prop}{c m:List d}(h:c.Perm m):∀{z:List b},Paired F z m->∃a:List b,Paired F a c/\a.Perm z:=by
 induction h with
 |nil=>intro z p;exact⟨z,p,.refl _⟩
 |cons x _ i=>
  intro z p
  cases p with
  |cons r t=>obtain⟨a,h1,g⟩:=i t;exact⟨_::a,.cons r h1,g.cons _⟩
 |swap x y s=>
  intro z p
  cases p with
  |cons r t=>
   cases t with
   |cons o t=>exact⟨_,.cons o<|.cons r t,.swap _ _ _⟩
 |trans _ _ f e=>intro z p;obtain⟨u,j,l⟩:=e p;obtain⟨q,k,n⟩:=f j;exact⟨q,k,n.trans l⟩
def Z9.zip{K H}{O:Z5}:∀{l:List D}{b:List V},Z9 K H O l b->∀p∈l.zip b,Rep K H O p.1 p.2:=by
 intro f
 induction f with
 |nil=>intro b h p a;simp at a
 |cons d l e=>
  intro b h p a;rw[Z9]at h;obtain⟨v,r,rfl,h1,c⟩:=h;rw[sO]at a;rcases nQ.mp a with rfl|a
  .exact h1
  exact e c p a
def Z9.Kp{K H}{O:Z5}:∀{l:List (D×V)},(∀p∈l,Rep K H O p.1 p.2)->Z9 K H O (l.map (·.1)) (l.map (·.2)):=by
 intro c
 induction c with
 |nil=>intro _;exact Z9.nil
 |cons p l b=>intro h;exact Z9.cons (h p la)<|b λq a=>h q<|kn _ a
abbrev hv(p:D×V):Int×V:=(D.hash p.1,p.2)
theorem zL:∀(b:List D)(a:List V),(D.Es b).zip a=(b.zip a).map hv
 |[],a=>by simp[D.Es]
 |d::b,[]=>by simp
 |d::b,u::a=>by rw[D.Es,sO,sO,kG,zL b a]
section
variable {X:Cx}{pins:kf}{σ:L2.St}{H:Hp}{s:jk}
structure VP(X:Cx)(H:Hp)(O:Z5)(h:jH)(a:jh)(vs:List D)(es:rh)(n:Nat)(t:mK)(l:List (D×V)):Prop where
 is:TT.Bb X.w h a es n t
 perm:(l.map (·.1)).Perm vs
 rep:∀p∈l,Rep X.K H O p.1 p.2
 par:Paired (λ(z:Int×V) (e:Int×jr)=>z.1=e.1/\RelV z.2 e.2) (l.map hv) es.toList
def VP.AV{a c b n t l}(S:VP X H O h a c b n t l)(k:∀o,h.get? a=Y o->d.get? a=Y o):VP X H O d a c b n t l:=⟨S.is.AV k,S.perm,S.rep,S.par⟩
def vO{d c:Type}{F:d->c->Prop}{l:List d}{m:List c}(h:Paired F l m):∀{i:Nat}{b:c},m[i]?=Y b->∃a,l[i]?=Y a/\F a b:=by
 induction h with
 |nil=>intro i b h;simp at h
 |cons r t f=>
  intro i b h
  cases i with
  |zero=>simp at h;subst h;exact⟨_,rfl,r⟩
  |succ i=>obtain⟨a,h1,e⟩:=f (i:=i) (b:=b) (by simpa using h);exact⟨a,by simpa using h1,e⟩
def abb{a b:Type}{F:a->b->Prop}:∀{l:List a}{m:List b},Paired F l m->TD l=(TD m):=zJ
def Ab{l:List (Int×V)}{m:List (Int×jr)}(h:Paired (λ(z:Int×V) (e:Int×jr)=>z.1=e.1/\RelV z.2 e.2) l m):l.map (·.1)=m.map (·.1):=by
 induction h with
 |nil=>rfl
 |cons r t a=>rw[kG,kG,r.1,a]
def VP.MM(I:Inv X pins σ H s){O Y:Z5}{a:jh}{vs:List D}{J' n t l}(S:VP X H O s.heap a vs J' n t l)(hok:vs.all Em=Td){d:D}{v:V}{u:jr}(hd:kZ X.K H Y d v)(ru:RelV v u)(U:Em d=Td){A:jF}(hA:A.units+60<aI):
  ∃b,u=.ref b/\TT.Jr A s a J' n t u d.hash (λi=>match l[i]? with|some p=>D.Z1 p.1 d|none=>Tk):=by
 obtain⟨ld,rfl⟩:=qi U;obtain⟨b,xs,rfl,q,r⟩:=lZ hd;cases ru;have hdp:=rJ U;have gR:=tD U;have h:∀p∈l,Em p.1=Td:=λp M=>mZ.mp hok _ (S.perm.mem_iff.mp<|rT M)
 have at_:∀(i:Nat)(e:Int×jr),J'[i]?=SI e->∃p,l[i]?=SI p/\p∈l/\D.hash p.1=e.1/\RelV p.2 e.2:=λi e o=>by
  obtain⟨z,h1,f,L⟩:=vO S.par (i:=i) (b:=e) (by rw[mD];exact o);rw[lh]at h1
  cases hl:l[i]? with
  |none=>rw[hl]at h1;cases h1
  |some p=>rw[hl]at h1;cases h1;exact⟨p,rfl,lX hl,f,L⟩
 have N:∀(e:D)(y:V)(G:jr)(C:Z5)(B:jF)(P:jI)(W:jG)(Q:qu)(E:jZ),Em e=Td->kZ X.K H C e y->RelV y G->Q Td s->aa (ae P W) B (ut 8 G) Q E s:=λe y G C B P W Q E T hv hr x=>by
  obtain⟨le,rfl⟩:=qi T;rcases hv with hv|⟨_,_,hv⟩
  .exact PF I 8 _ _ _ C B E Q hv hr (tD T) (by have:=rJ T;lia) x
  exact hv.elim
 have n8:∀(e:D)(y:V)(G:jr)(C:Z5)(B:jF)(P:jI)(W:jG)(Q:qu)(E:jZ),Em e=Td->kZ X.K H C e y->RelV y G->Q Tk s->aa (ae P W) B (dF 8 G) Q E s:=λe y G C B P W Q E T hv hr x=>by
  obtain⟨le,rfl⟩:=qi T;rcases hv with hv|⟨_,_,hv⟩
  .exact abZ I 8 _ _ _ C B E Q hv hr (tD T) (by have:=rJ T;lia) x
  exact hv.elim
 refine⟨b,rfl,⟨_,S.is.at_,rfl⟩,S.is.tab,λi e o=>?_,λi e o=>?_,λi e o x=>?_,λls g w E Q hls x=>?_⟩
 .obtain⟨p,h1,f,L,j⟩:=at_ i e o;obtain⟨lp,M⟩:=qi<|h p f;have:=S.rep p f;rw[M]at this;obtain⟨c,xs,R,_⟩:=this.tup;rw[R]at j;exact⟨c,j⟩
 .obtain⟨p,h1,f,L,j⟩:=at_ i e o;rw[h1];have:=rJ<|h p f;exact AD I 50 p.1 (.tup ld) p.2 (.ref b) _ _ O Y A (.inl<|S.rep p f) hd j rfl (by lia) (by lia) (by lia)
 .obtain⟨p,h1,f,L,j⟩:=at_ i e o;rw[h1]at x;rw[(vW (tD<|h p f) gR).mp x]at L;exact L.symm
 unfold sK;refine ji ?_;refine vh _ (λm rr s'=>rr.1=SS/\s'=s/\∀v∈m,∃e∈J'.toList,e.2=v) _ ?_ ?_ _ _ ⟨rfl,rfl,hls⟩
 .rintro y m rr s' ⟨Z,rfl,hm⟩;have k:∀v∈m,∃e∈J'.toList,e.2=v:=λv hv=>hm v<|kn _ hv;obtain⟨e,o,rfl⟩:=hm y la;obtain⟨i,hi⟩:=pF o;rw[mD]at hi;obtain⟨p,h1,f,L,j⟩:=at_ i e hi;obtain⟨lp,M⟩:=qi<|h p f;have F:=S.rep p f
  obtain⟨c,ec⟩:∃c,e.2=.ref c:=by rw[M]at F;obtain⟨c,xs,R,_⟩:=F.tup;rw[R]at j;exact⟨c,j⟩
  rw[ec]at j ⊢;dsimp only;split
  .exact ju ⟨rfl,rfl,k⟩
  refine ji (N _ _ _ Y A g w _ _ U hd rfl ?_);simp -iota only[sA,lL];refine ji<|N _ _ _ O A g w _ _ (h p f) (.inl F) j ?_;simp -iota only[sA,lL];refine ji<|n8 _ _ _ Y A g w _ _ U hd rfl ?_;simp -iota only[lL];refine ji<|n8 _ _ _ O A g w _ _ (h p f) (.inl F) j ?_;simp -iota only[lL];exact ju ⟨rfl,rfl,k⟩
 rintro⟨r1,r2⟩ s' ⟨Z,rfl,_⟩;simp only at Z;subst Z;exact ju x
def Bf.KL(T:Inv X pins σ H s)(h:Bf X.K (H a) .set o f us)(r:Z9 X.K H O f us):∃b n t l,VP X H O s.heap a f b n t l:=by
 obtain⟨_,m,e,p⟩:=h;obtain⟨b,n,t,h1,c,g,i,j⟩:=(show Z7 X.prog X.w H s.heap a (.Z6 m)from T.hok a _ e)
 rw[zL]at p;obtain⟨l,d,rfl⟩:=nE hv p _ rfl;refine⟨b,n,t,l,⟨h1,by rw[<-Ab c];exact g,i,j⟩,?_,λq k=>r.zip q<|d.mem_iff.mp k,c⟩;have:=d.map (·.1);rw[mi<|by rw[r.length];exact kD _]at this;exact this
def VP.Kb{b n t l}(S:VP X H O h a c b n t l):Z7 X.prog X.w H' h a (.Z6<|l.map hv):=
 ⟨b,n,t,S.is.at_,S.par,by rw[Ab S.par];exact S.is.tab,S.is.plain,S.is.led⟩
def VP.JZ{b n t l}(S:VP X H O h a c b n t l):b.size=TD c/\(TD l)=(TD c):=by
 have h1:=abb S.par;have d:=S.perm.length_eq;simp at h1 d
 lia
def VP.Z3{O:Z5}{h:jH}{a:jh}{vs:List D}{f n t l}(S:VP X H O h a vs f n t l){K H'}{O':Z5}(j:∀p∈l,Rep K H' O' p.1 p.2)(g:H' a=Y (.Z6<|l.map hv)):∃e,Bf K (H' a) .set [] vs e/\Z9 K H' O' vs e:=by
 obtain⟨b,c,d⟩:=nE (·.1) S.perm.symm l J;refine⟨b.map (·.2),⟨rfl,l.map hv,g,?_⟩,?_⟩
 .rw[d,zL]
  have:(b.map (·.1)).zip (b.map (·.2))=b:=by
   clear c d
   induction b with
   |nil=>rfl
   |cons x l k=>rw[kG,kG,sO,k]
  rw[this];exact(c.map hv).symm
 rw[d];exact Z9.Kp λp i=>j p<|c.mem_iff.mp i
def VP.put{m h':jH}{es n t l es' h t'}(S:VP X H O m a b es n t l)(q:b.any (D.Z1 · d)=I)(j:Rep X.K H O d v)(y:RelV v u)(o:TT.Bb X.w h' a es' h t')(k:es'.toList.Perm ((d.hash,u)::es.toList)):∃f,VP X H O h' a (nH b d) es' h t' f:=by
 have g:Paired (λ(z:Int×V) (e:Int×jr)=>z.1=e.1/\RelV z.2 e.2) (((d,v)::l).map hv) ((d.hash,u)::es.toList):=.cons ⟨rfl,y⟩ S.par;obtain⟨A,r,x⟩:=yA k g;obtain⟨f,i,rfl⟩:=nE hv x _ rfl;refine⟨f,o,?_,λp c=>?_,r⟩
 .rw[show nH b d=b++[d] by unfold nH;rw[q,jP lQ]];refine(i.map (·.1)).trans ?_;rw[kG];exact(S.perm.cons d).trans (Le d b).symm
 rcases nQ.mp (i.mem_iff.mp c)with rfl|c
 .exact j
 exact S.rep p c
def VP.add(I:Inv X pins σ H s){N n t l}(S:VP X H O s.heap a g N n t l)(B:g.all Em=Td)(hd:kZ X.K H O' d v)(o:Rep X.K H O d v)(m:RelV v u)(k:Em d=Td)(hz:(TD g)<500)
  (hA:A.units+60<aI)
  (h:∀r h' c f G t' L,s.toks<=c->au a s.heap h'->VP X H O h' a (nH g d) f G t' L->Q r {s with heap:=h',toks:=c}):aa (ae X.prog X.w) A (gj a u) Q E s:=by
 obtain⟨bC,bB⟩:=S.JZ;unfold gj;refine mE<|ji<|NO 50 I d v u O A E _ o m (tD k) (by have:=rJ k;lia) (by lia) λc M=>?_;have J:Inv X pins σ H {s with toks:=c}:=I.kept (h':=s.heap) (t':=c) λ_ _ e=>e;obtain⟨b,rfl,Y⟩:=VP.MM (s:={s with toks:=c}) J S B hd m k hA;have T:∀p∈l,p.1∈g:=λp C=>S.perm.mem_iff.mp<|rT C;refine TT.Yb Y S.is.at_ S.is.plain (by lia) (λU j=>Xm J 8 d v _ O A E U o m (tD k) (by have:=rJ k;lia) j) (λ⟨i,y,j⟩=>?_) λr9 h' f G t' g1 g2 P R V W=>?_
 .have:nH g d=g:=by
   unfold nH
   cases z:l[i]? with
   |none=>rw[z]at j;cases j
   |some p=>rw[z]at j;rw[jz<|OT.mpr ⟨p.1,T p<|lX z,j⟩]
  exact h Tk s.heap c N n t l M (zE a s.heap) (by rw[this];exact S)
 have u6:g.any (D.Z1 · d)=Tk:=by rw[li];intro x Z;have F:=S.perm.mem_iff.mpr Z;obtain⟨p,C,rfl⟩:=jD F;obtain⟨i,y⟩:=pF C;have:=r9 i (by have:=(uT.mp y).1;lia);rw[y]at this;simpa using this
 obtain⟨L,q⟩:=S.put u6 o m ⟨g2,R,V,W.trans S.is.led⟩ P;exact h Td h' c f G t' L M g1 q
def NQ:D->Option (D×Bool)
 |.lst l|.tup l=>if l.all Em=C/\(TD l)<500 then Y (.Z3 .set []<|mC l,C)else U
 |_=>U
def abn{l:List D}{i:Nat}{d:D}(h:l[i]?=Y d):mC (l.take<|i+1)=nH (mC<|l.take i) d:=by unfold mC;rw[zu,h,kS];rfl
def Oe{p:D->Bool}:∀(l a:List D),l.all p=C->a.all p=C->(l.foldl nH a).all p=C:=by
 intro e
 induction e with
 |nil=>intro a _ h;exact h
 |cons d l c=>intro a h1 b;rw[vB,nN]at h1;exact c _ h1.2 (Rw b h1.1)
def BW:∀(l a:List D),(l.foldl nH a).length<=TD a+(TD l):=by
 intro c
 induction c with
 |nil=>intro a;simp
 |cons d l b=>intro a;have:=b<|nH a d;have:=OG a d;simp;lia
def OD{p:D->Bool}{l:List D}(h:l.all p=C)(i:Nat):(l.take i).all p=C:=by rw[mZ]at h ⊢;exact λx a=>h x<|xD a
def Od:∀(l a:List D),TD a<=(l.foldl nH a).length:=by
 intro l
 induction l with
 |nil=>intro a;exact kD _
 |cons d l b=>intro a;refine lY ?_<|b<|nH a d;unfold nH;split<;>simp
def GI{ok:D->Bool}{pins:kf}{s:jk}{σ:L2.St}{H:Hp}{x:V}{u:jr}{Q:VK}{O:Z5}{d:D}{l:List D}(hc:X.calm=C)(I:Inv X pins σ H s)(ru:RelV x u)(hd:kZ X.K H O d x)(hl:d=.lst l\/d=.tup l)(T:l.all ok=C)(hz:(mC l).length<500)(G:Gen X.K H O (.Z3 .set []<|mC l,C) Q)
  (add:∀{j:jk}{B:jF}{E':jZ}{U:qu}{N:List D}{d:D}{x:V}{w:jr}{a:jh}{m n t g},Inv X pins σ H j->VP X H O j.heap a N m n t g->N.all ok=C->Rep X.K H O d x->RelV x w->ok d=C->N.length<500->(X.A.units+90<aI->B.units+60<aI)->
   (∀r C' tk y n' t' Y',j.toks<=tk->au a j.heap C'->VP X H O C' a (nH N d) y n' t' Y'->U r {j with heap:=C',toks:=tk})->aa (ae X.prog X.w) B (gj a w) U E' j):
  aa (ae X.prog X.w) X.A (call (.type "set") [u]) (EP X pins σ Q) X.xe s:=by
 obtain⟨p,f,c,rfl,r,v,J⟩:∃p f c,x=.ref p/\Z9 X.K H O l f/\Vals f c/\(s.heap.IsList p c.toArray\/s.heap.IsTuple p c.toArray):=by
  rcases hl with rfl|rfl
  .obtain⟨p,f,rfl,q,r⟩:=lN hd;obtain⟨c,v,J,_⟩:=I.list q;exact⟨p,f,c,rfl,r,v,.inl J.isList⟩
  obtain⟨p,f,rfl,q,r⟩:=lZ hd;obtain⟨c,v,J,_⟩:=I.tuple q;exact⟨p,f,c,rfl,r,v,.inr J⟩
 cases ru;have e1:=r.length;have e2:=v.length;have hh:X.A.handled=SS:=I.ok.hd hc;have M:=I.fresh
 refine TT.Vs hh J (λi h=>∃m n t g,VP X H O h s.heap.objs.size (mC<|l.take i) m n t g) (λi h C' ⟨m,n,t,g,S⟩ k=>⟨m,n,t,g,S.AV k⟩)
  (λC' e=>⟨#[],0,_,[],⟨TT.Vr e,by simp[mC],λp P=>by simp at P,.nil⟩⟩) (λi w j B U E' hB hi F hk hg L Z E=>?_) (λC' tk F hk=>?_)
 .obtain⟨m,n,t,g,S⟩:=F
  have du:i<c.length:=by have:=(Jn.mp hi).1;simpa using this
  have hw:c[i]?=Y w:=by simpa using hi
  have cx:f[i]?=Y f[i]:=km (by omega);have iB:l[i]?=Y l[i]:=km (by omega);obtain⟨w',w1,w2⟩:=v.get cx;rw[hw]at w1;cases w1;have aX:Rep X.K H O l[i] f[i]:=r.views iB cx;have p8:ok l[i]=C:=mZ.mp T _ (xo _);obtain⟨h1,g1,dr1,dP,os1⟩:=j;dsimp only at hk hg L Z E S;subst hg;subst L;subst Z;have I':Inv X pins σ H {s with heap:=h1,toks:=dP}:=I.kept hk;refine add I' S (Oe _ _ (OD T i) rfl) aX w2 p8 ?_ (λ_=>by omega) λrr h2 gv y n' t' Y' a1 a2 W=>?_
  .have:=Od (l.drop i)<|mC<|l.take i;unfold mC at this hz ⊢;rw[<-kS,vo]at this;omega
  rw[<-abn iB]at W;exact E rr h2 gv a1 a2 ⟨y,n',t',Y',W⟩
 obtain⟨m,n,t,g,S⟩:=F;have R:c.toArray.size=l.length:=by simp;omega
 rw[R,Fq]at S;refine⟨.ref s.heap.objs.size,upd H s.heap.objs.size<|.Z6<|g.map hv,I.laid hk (kD _) S.Kb,rfl,?_⟩;refine G s.heap.objs.size _ M (ly M) ?_;exact S.Z3 (λp P=>Rep.mono (λb o e _=>ly M b o e) (λb hb z=>z.elim id λz=>absurd (z▸M) hb)<|S.rep p P) jL
def acz(j:X.calm=C)(m:X.A.units+90<aI):lr X (.type "set") (GF X.K<|g1 NQ):=ot λpins s σ H x u Q O d z T n np hd f G=>by
 cases d with
 |lst l=>obtain⟨⟨a,b⟩,rfl⟩:=jM f;exact GI j T n hd (.inl J) a (zm (by have:=BW l [];simpa[mC]using this) b) G λT S g c rw i h e k=>VP.add T S g (.inl c) c rw i h (e m) k
 |tup l=>obtain⟨⟨a,b⟩,rfl⟩:=jM f;exact GI j T n hd (.inr J) a (zm (by have:=BW l [];simpa[mC]using this) b) G λT S g c rw i h e k=>VP.add T S g (.inl c) c rw i h (e m) k
 |_=>cases f
def Vc:av "set"=Y (.type "set"):=by decide+kernel
def UR(I:Inv X pins σ H s){G n t l}(S:VP X H O s.heap a g G n t l)(q:g.all Em=Td)(hd:kZ X.K H O d v)(z:RelV v u)(k:Em d=Td)(J:A.units+60<aI)
  (h:∀c,Q (g.any (D.Z1 · d)) {s with toks:=c}):aa (ae X.prog X.w) A (mA a u) Q E s:=by
 obtain⟨F,Y⟩:=S.JZ
 have T:Rep X.K H O d v:=by
  obtain⟨ld,rfl⟩:=qi k;rcases hd with hd|⟨_,_,hd⟩
  .exact hd
  exact hd.elim
 unfold mA;refine mE<|ji<|NO 50 I d v u O A E _ T z (tD k) (by have:=rJ k;lia) (by lia) λc U=>?_;have B:Inv X pins σ H {s with toks:=c}:=I.kept (h':=s.heap) (t':=c) λ_ _ e=>e;obtain⟨b,rfl,C⟩:=VP.MM (s:={s with toks:=c}) B S q hd z k J;have y:∀p∈l,p.1∈g:=λp r=>S.perm.mem_iff.mp<|rT r;refine ji<|TT.Xw C S.is.at_ (λi m j=>?_) λN=>?_
 .have:g.any (D.Z1 · d)=Td:=by
   cases o:l[i]? with
   |none=>rw[o]at j;cases j
   |some p=>rw[o]at j;exact OT.mpr ⟨p.1,y p<|lX o,j⟩
  have f:=h c;rw[this]at f;exact ju f
 have:g.any (D.Z1 · d)=Tk:=by rw[li];intro x M;have L:=S.perm.mem_iff.mpr M;obtain⟨p,r,rfl⟩:=jD L;obtain⟨i,m⟩:=pF r;have:=N i (by have:=(uT.mp m).1;lia);rw[m]at this;simpa using this
 have f:=h c;rw[this]at f;exact ju f
def abq(T:Inv X pins σ H s){g n t l}(S:VP X H O s.heap a f g n t l)(c:f.all Em=C)(hd:kZ X.K H O d v)(j:RelV v u)(i:Em d=C)(k:A.units+61<aI)
  (h:∀e,Q (f.any (D.Z1 · d)) {s with toks:=e}):aa (ae X.prog X.w) A (fU (.ref a) u) Q E s:=by
 have b:=S.is.typeIs;unfold fU;refine mE<|ji<|sN b AR.lookup ?_;change aa _ _ (if(Y (eD "set.__contains__")==Y ah)=C then _ else _) _ E s;rw[jP<|by rw[Fx];exact lQ];refine ji<|KZ (name:=bv "__contains__") b AR<|oI AR b p9 ?_<|KY _ _;unfold bc.«frozenset.__contains__» bM;simp only[xm,rC];unfold bw dz;refine ji<|ju ?_;dsimp only;refine ji<|ju ?_;dsimp only;refine ji<|Fp ?_;refine UR T S c hd j i (by show A.units+1+60<aI;omega) λe=>?_;exact ju ⟨_,rfl,vF<|h e⟩
def inX(d e:D):Option Bool:=match e with
 |.Z3 .set [] a=>if a.all Em=C/\Em d=C then Y (a.any (D.Z1 · d))else U
 |_=>inD d e
def Du(d e:D):Option (D×Bool):=(inX d e).map λb=>(.bl (!b),I)
def abc(B:X.A.units+62<aI):Dw X (aT .NotIn) (rD X.K Du):=by
 intro pins s σ H x y v u Q T j k h;obtain⟨O,d,e,z,np,h1,g,m,G⟩:=h;obtain⟨b,c,rfl⟩:=jX m;by_cases i:∃f,e=.Z3 .set [] f
 .obtain⟨f,rfl⟩:=i;obtain⟨⟨o,hd⟩,rfl⟩:=jM (show(if f.all Em=C/\Em d=C then Y (f.any (D.Z1 · d))else U)=Y b from c);obtain⟨a,N,rfl,q,r⟩:=oN g;cases k;obtain⟨w,n,t,l,S⟩:=q.KL T r;change aa _ _ (fU (.ref a) v>>=λb=>pure<|dh (!b)) _ _ s;refine ji<|abq T S o h1 j hd (by lia) λp=>?_;exact ju ⟨.bl _,H,T.kept (h':=s.heap) (t':=p) λ_ _ e=>e,rfl,G.bl⟩
 have:inD d e=Y b:=by
  unfold inX at c;split at c
  .exact absurd ⟨_,rfl⟩ i
  exact c
 exact Dc C (by lia) pins s σ H x y v u Q T j k ⟨O,d,e,b,h1,g,this,G.bl⟩
end
def acP(a:l.Perm m)(b:∀x∈l,D.pr x=C):nR Be l=nR Be m:=KD (λx c=>b x<|a.mem_iff.mpr c) ((lj Be l).trans a)<|pk l
def acf{k:Nat}{l:List D}(h:GO k l):oR l=C:=by
 unfold oR;rw[vd];right
 cases l with
 |nil=>rfl
 |cons x m=>simp only[nN,mZ,vA];refine⟨⟨by rw[h.hd x la];rfl,λy a=>⟨⟨?_,h.pr y a⟩,h.dp y a⟩⟩,λy a z b=>h.cm y a z b⟩;rw[h.hd x la,h.hd y a];simp
def aaz(b:l.Perm m)(h:oR m=C):oR l=C:=by
 rcases Bu h with c|⟨k,B⟩
 .unfold oR;rw[vd];left;rw[b.length_eq];simpa using c
 exact acf (k:=k) ⟨λx a=>B.hd x<|b.mem_iff.mp a,λx a=>B.pr x<|b.mem_iff.mp a,λx a=>B.dp x<|b.mem_iff.mp a,λx a y d=>B.cm x (b.mem_iff.mp a) y<|b.mem_iff.mp d⟩
def tL(d:D):Option (D×Bool):=match d with
 |.Z3 .set [] a=>if a.all Em=C then ll a else U
 |_=>wK d
section
variable {X:Cx}
def uw{d:Type}{c:Prop}[Decidable c]{a:Option d}{b:d}(h:(if c then a else U)=Y b):c/\a=Y b:=by
 split at h
 .exact⟨‹_›,h⟩
 cases h
def Bs{c:kf}{s:jk}{B:L2.St}{H:Hp}{x:V}{u:jr}{Q:VK}{O:Z5}{i:List D}{z:D×Bool}(M:X.calm=Td)(U:X.A.units+62<aI)(I:Inv X c B H s)(ru:RelV x u)(np:∀p,¬Ow (H p)->¬O p)(hd:kZ X.K H O (.Z3 .set [] i) x)(j:∀x∈i,D.pr x=Td)(g:ll i=SI z)(G:Gen X.K H O z Q):
  aa (ae X.prog X.w) X.A (call (.builtin "sorted") [u]) (EP X c B Q) X.xe s:=by
 obtain⟨a,us,rfl,q,r⟩:=oN hd;cases ru;obtain⟨f,n,t,l,S⟩:=q.KL I r;obtain⟨C,bB⟩:=S.JZ;have wp:=TT.Ff X.w a n f;obtain⟨z',h,v⟩:=yA wp S.par;obtain⟨b,o,rfl⟩:=nE hv v _ rfl;have y:Z9 X.K H O (b.map (·.1)) (b.map (·.2)):=Z9.Kp λp j=>S.rep p<|o.mem_iff.mp j
 have R:Vals (b.map (·.2)) ((TT.qZ X.w a n f).toList.map (·.2)):=by
  clear v o y wp;generalize (TT.qZ X.w a n f).toList=m at h;revert h;generalize d:b.map hv=zz;intro h
  induction h generalizing b with
  |nil=>
    have:b=[]:=by simpa using d
    subst this;exact .nil
  |cons r t ih=>
   cases b with
   |nil=>simp at d
   |cons p b=>simp at d;rw[kG,kG];refine .cons ?_<|ih b d.2;have:=r.2;rw[<-d.1]at this;exact this
 have e:(b.map (·.1)).Perm i:=(o.map (·.1)).trans S.perm
 have E:ll (b.map (·.1))=SI z:=by unfold ll at g ⊢;obtain⟨⟨h1,T⟩,rfl⟩:=jM g;rw[jz ⟨aaz e h1,by rw[e.length_eq];exact T⟩,acP e λx Y=>j x<|e.mem_iff.mp Y]
 have N:X.A.handled=SS:=I.ok.hd M
 have d:f.size<=sizeLine:=by unfold ll at g;rw[C];exact(jM g).1.2
 exact ui U I y R E G λQ' Z W F J=>TT.Rk (by rw[F];exact N) S.is d λL P k=>J L P k
def aaB(m:X.calm=C)(k:X.A.units+62<aI):lr X (.builtin "sorted") (GF X.K<|g1 tL):=ot λc s o H x u Q O d z T l np hd h G=>by
 by_cases i:∃e,d=.Z3 .set [] e
 .obtain⟨e,rfl⟩:=i;obtain⟨f,g⟩:=uw (show(if e.all Em=C then ll e else U)=Y z from h);exact Bs m k T l np hd (λx n=>tD<|mZ.mp f x n) g G
 have g:g1 wK [d]=Y z:=by
  have:tL d=wK d:=by
   unfold tL;split
   .exact absurd ⟨_,rfl⟩ i
   rfl
  show wK d=Y z;rw[<-this];exact h
 exact aaC k c s o H [x] [u] Q T (.cons l .nil) ⟨O,[d],z,np,rfl,(λj p q a b=>by
  cases j with
  |zero=>simp at a b;subst a;subst b;exact hd
  |succ j=>simp at a),g,G⟩
end
end PX
namespace L2
section
variable {κ:Type}[DecidableEq κ]
def uG(a:List (κ×V))(k:κ):Option V:=(a.find? λb=>decide<|b.1=k).map (·.2)
def vM(a:List (κ×V))(k:κ)(v:V):List (κ×V):=
 if(a.any λb=>decide<|b.1=k)=C then a.map (λb=>if b.1=k then(b.1,v)else b)else a++[(k,v)]
theorem wo{p:κ×V}{r:List (κ×V)}{k:κ}(e:p.1=k):uG (p::r) k=Y p.2:=by simp[uG,xk,e]
theorem sY{p:κ×V}{r:List (κ×V)}{k:κ}(e: ¬p.1=k):uG (p::r) k=uG r k:=by simp[uG,xk,e]
theorem D5(k:κ):∀a:List (κ×V),(a.any λb=>decide<|b.1=k)=(uG a k).isSome
 |[]=>rfl
 |p::r=>by
  rw[rA];by_cases e:p.1=k
  .simp only[wo e,nW e,Bool.true_or,hD]
  rw[sY e,nO e,Bool.false_or];exact D5 k r
theorem yC(a:List (κ×V))(k:κ)(v:V):(vM a k v).length<=TD a+1:=by
 unfold vM;split
 .rw[kN];lia
 rw[ox,oH,zo];lia
theorem Hs.C1{o:Option V}{u:Option jr}(r:Hs o u):o.isSome=u.isSome:=by
 cases o with
 |none=>cases u with
  |none=>rfl
  |some _=>exact(show False from r).elim
 |some _=>cases u with
  |none=>exact(show False from r).elim
  |some _=>rfl
theorem KV.val{kvs:List (κ×V)}{vs:List (κ×jr)}(r:KV kvs vs)(k:κ):Hs (uG kvs k) (fR vs k):=by
 unfold KV at r
 induction r with
 |nil=>exact bg
 | @cons p q g c h t f=>
  obtain⟨h1,d⟩:=h;by_cases e:p.1=k
  .have a:q.1=k:=h1.symm.trans e;have b:fR (q::c) k=Y q.2:=by simp[fR,xk,a]
   rw[wo e,b];exact d
  have a: ¬q.1=k:=λz=>e<|h1.trans z;have b:fR (q::c) k=fR c k:=by simp[fR,xk,a]
  rw[sY e,b];exact f
theorem KV.any{a:List (κ×V)}{vs:List (κ×jr)}(r:KV a vs)(k:κ):(a.any λb=>decide<|b.1=k)=vs.any λb=>decide (b.1=k):=by
 unfold KV at r
 induction r with
 |nil=>rfl
 |cons h t c=>rw[rA,rA,c,h.1]
theorem KV.L6{b:List (κ×V)}{c:List (κ×jr)}(r:KV b c)(k:κ){y:V}{u:jr}(g:RelV y u):
  KV (b.map λa=>if a.1=k then(a.1,y)else a) (c.map λa=>if a.1=k then(a.1,u)else a):=by
 unfold KV at r ⊢
 induction r with
 |nil=>exact .nil
 | @cons p q i j h t f=>
  rw[kG,kG];refine .cons ?_ f;obtain⟨h1,d⟩:=h;by_cases e:p.1=k
  .rw[jz e,jz<|h1.symm.trans e];exact⟨h1,g⟩
  rw[jP e,jP λz=>e<|h1.trans z];exact⟨h1,d⟩
theorem KV.put{a:List (κ×V)}{b:List (κ×jr)}(r:KV a b)(k:κ){y:V}{u:jr}(c:RelV y u):KV (vM a k y) (stored b k u):=by
 unfold vM stored;rw[r.any k];by_cases e:(b.any λd=>decide<|d.1=k)=C
 .rw[jz e,jz e];exact r.L6 k c
 rw[jP e,jP e];exact Paired.snoc r ⟨rfl,c⟩
theorem KV.length{a:List (κ×V)}{vs:List (κ×jr)}(r:KV a vs):(TD a)=(TD vs):=zJ r
end
def Am{P:jI}{w:jG}{k:Key}{u:jr}(r:RelV (kV k) u):(lA P w).is k u=C:=by
 cases k with
 |inl i=>obtain⟨t,e⟩:=(show ∃t,u=jp i t from r);subst e;exact aaU P w i t
 |inr x=>obtain⟨t,e⟩:=(show ∃t,u=gw x t from r);subst e;exact aaT P w x t
theorem BL{P:jI}{w:jG}:∀{a:List Key}{b:kF},Vals (a.map kV) b->ItemsAre (lA P w) a b
 |[],_,r=>by rw[qx]at r;cases r;exact .nil
 |k::a,_,r=>by
  rw[kG]at r
  cases r with
  |cons h t=>exact .cons (Am h)<|BL t
abbrev KT(H:Hp):List (List Key×V)->List (List Key×jh×jr)->Prop:=Paired λp q=>p.1=q.1/\H q.2.1=Y (.tup<|p.1.map kV)/\RelV p.2 q.2.2
def KT.val{H:Hp}{kvs:List (List Key×V)}{d:List (List Key×jh×jr)}(r:KT H kvs d)(k:List Key):Hs (uG kvs k) ((fY d k).map (·.2)):=by
 induction r with
 |nil=>exact bg
 | @cons p q i c h t g=>
  obtain⟨h1,_,f⟩:=h;by_cases e:p.1=k
  .have a:q.1=k:=h1.symm.trans e;have b:fY (q::c) k=Y q.2:=by simp[fY,xk,a]
   rw[wo e,b];exact f
  have a: ¬q.1=k:=λz=>e<|h1.trans z;have b:fY (q::c) k=fY c k:=by simp[fY,xk,a]
  rw[sY e,b];exact g
def KT.L6{H:Hp}{a:List (List Key×V)}{d:List (List Key×jh×jr)}(r:KT H a d)(k:List Key){y:V}{u:jr}(i:RelV y u):
  KT H (a.map λb=>if b.1=k then(b.1,y)else b) (d.map<|putAt k u):=by
 induction r with
 |nil=>exact .nil
 | @cons p q j l h t g=>
  rw[kG,kG];refine .cons ?_ g;obtain⟨h1,c,f⟩:=h;unfold putAt;by_cases e:p.1=k
  .rw[jz e,jz<|h1.symm.trans e];exact⟨h1,c,i⟩
  rw[jP e,jP λz=>e<|h1.trans z];exact⟨h1,c,f⟩
def KT.put{H:Hp}{a:List (List Key×V)}{c:List (List Key×jh×jr)}(r:KT H a c)(k:List Key){b:jh}{y:V}{u:jr}(f:H b=Y (.tup<|k.map kV))(d:RelV y u):
  KT H (vM a k y) (storedH c k b u):=by
 have e:(a.any λg=>decide<|g.1=k)=(fY c k).isSome:=by rw[D5,(r.val k).C1,Fo]
 unfold vM storedH;rw[e];by_cases q:(fY c k).isSome=C
 .rw[jz q,jz q];exact r.L6 k d
 rw[jP q,jP q];exact Paired.snoc r ⟨rfl,f,d⟩
def KT.keeps{H c:Hp}{a:List (List Key×V)}{d:List (List Key×jh×jr)}(r:KT H a d)(f:∀b e,H b=Y (.tup e)->c b=Y (.tup e)):KT c a d:=
 Paired.MS r λ_ _ z=>⟨z.1,f _ _ z.2.1,z.2.2⟩
section
variable {P:jI}{w:jG}{H:Hp}{h:jH}{a:jh}
def RO{u:HO}(ok:EE P w H h)(e:Rd H a u):Z7 P w H h a u:=e.ok ok
def IZ{b:List (Key×V)}(ok:EE P w H h)(e:Rd H a (.dK b)):(TD b)<=sizeLine/\(a==bY)=I/\∃c,KV b c/\h.DictOf (lA P w) a c:=
 show Z7 P w H h a (.dK b)from RO ok e
def Sm{b:List (Key×V)}(ok:EE P w H h)(e:H a=Y (.dK b)):(TD b)<=sizeLine/\(a==bY)=I/\∃c,KV b c/\h.DictOf (lA P w) a c:=IZ ok<|.inl e
def qp{c:List Key}(ok:EE P w H h)(e:H a=Y (.tup<|c.map kV)):(bR<|lA P w).is h c a:=by
 obtain⟨_,b,r,o,h1,d,⟨n,f⟩,_⟩:=(show Z7 P w H h a (.tup<|c.map kV)from ok a _ e)
 exact⟨o,b.toArray,n,h1,d,f,by simpa using BL r⟩
def IY{b:List (List Key×V)}(ok:EE P w H h)(e:Rd H a (.dT b)):(TD b)<=sizeLine/\(a==bY)=I/\
  ∃d,KT H b d/\h.DictOfH (bR<|lA P w) a d:=by
 obtain⟨z,y,d,r,o,i,g,h1,j,k,n,s⟩:=(show Z7 P w H h a (.dT b)from RO ok e)
 refine⟨z,y,d,r,o,i,g,h1,j,k,n,λx c=>?_,s⟩
 have all:∀{l:List (List Key×V)}{m:List (List Key×jh×jr)},KT H l m->∀x∈m,(bR<|lA P w).is h x.1 x.2.1:=by
  intro l m q
  induction q with
  |nil=>intro x c;exact nomatch c
  | @cons p q v A f t u=>
   intro x c;rcases nQ.mp c with e|c
   .subst e;exact qp ok (by rw[<-f.1];exact f.2.1)
   exact u x c
 exact all r x c
def XC{b:List (List Key×V)}(ok:EE P w H h)(e:H a=Y (.dT b)):(TD b)<=sizeLine/\(a==bY)=I/\
  ∃c,KT H b c/\h.DictOfH (bR<|lA P w) a c:=IY ok<|.inl e
end
def GA(H:Hp)(a:jh)(y:V)(r:Option V):Prop:=
 (∃c k,Rd H a (.dK c)/\y=kV k/\r=uG c k)\/∃c k b,Rd H a (.dT c)/\y=.ref b/\H b=Y (.tup<|k.map kV)/\r=uG c k
def Hv(H:Hp)(a:jh)(y v:V)(c:Hp):Prop:=
 (∃kvs k,H a=Y (.dK kvs)/\y=kV k/\(TD kvs)<sizeLine/\c=upd H a (.dK<|vM kvs k v))\/
 ∃kvs k b,H a=Y (.dT kvs)/\y=.ref b/\H b=Y (.tup<|k.map kV)/\(TD kvs)<sizeLine/\c=upd H a (.dT<|vM kvs k v)
def GA.k{H:Hp}{a:jh}{kvs:List (Key×V)}{k:Key}(e:H a=Y (.dK kvs)):GA H a (kV k) (uG kvs k):=.inl ⟨kvs,k,.inl e,rfl,rfl⟩
def GA.t{H:Hp}{a b:jh}{kvs:List (List Key×V)}{k:List Key}(e:H a=Y (.dT kvs))(c:H b=Y (.tup<|k.map kV)):GA H a (.ref b) (uG kvs k):=.inr ⟨kvs,k,b,.inl e,rfl,c,rfl⟩
def Hv.k{H:Hp}{a:jh}{kvs:List (Key×V)}{k:Key}{v:V}(e:H a=Y (.dK kvs))(b:(TD kvs)<sizeLine):Hv H a (kV k) v (upd H a<|.dK<|vM kvs k v):=.inl ⟨kvs,k,e,rfl,b,rfl⟩
def Hv.t{H:Hp}{a b:jh}{kvs:List (List Key×V)}{k:List Key}{v:V}(e:H a=Y (.dT kvs))(c:H b=Y (.tup<|k.map kV))(d:(TD kvs)<sizeLine):
  Hv H a (.ref b) v (upd H a<|.dT<|vM kvs k v):=.inr ⟨kvs,k,b,e,rfl,c,d,rfl⟩
section
variable {X:Cx}{d:kf}{f:St}{H:Hp}{s:jk}{a:jh}{y v:V}{u r:jr}{o:Option V}{A:jF}{E:jZ}
def Inv.big(T:Inv X d f H s):bY<s.heap.objs.size:=by have h:ag<s.heap.objs.size:=(T.mod.glob.keeps T.bk).lt;exact CM (by decide) h
def BX{Q:jZ}(O:A.units+1<aI)(N:Inv X d f H s)(g:GA H a y (Y v))(t:RelV y u)(h:∀i x,Inv X d f H x->RelV v i->Q i x):
  aa (ae X.prog X.w) A (dL (.ref a) u) Q E s:=by
 rcases g with⟨n,k,e,j,l⟩|⟨n,k,b,e,j,M,l⟩
 .subst j;obtain⟨z,hd,T,c,dd⟩:=IZ N.hok e;obtain⟨i,m,q⟩:=Hs.some_of (v:=v) (o:=fR T k) (by rw[l];exact c.val k);exact wpAny_getItem_of (Am t) dd.mapOf m<|h i _ (N.tok _) q
 subst j;cases(show u=bU b from t);obtain⟨z,hd,G,c,dd⟩:=IY N.hok e;obtain⟨i,m,q⟩:=Hs.some_of (v:=v) (o:=(fY G k).map (·.2)) (by rw[l];exact c.val k);obtain⟨p,L,B⟩:=gD.mp m;refine wpAny_getItem_heap (xj O) (qp N.hok M) dd L ?_;rw[B];exact h i _ (N.tok _) q
def XE{Q:jZ}(t:A.units+1<aI)(T:Inv X d f H s)(g:GA H a y o)(m:RelV y u)(h:∀n,Inv X d f H n->Q (.bool o.isSome) n):
  aa (ae X.prog X.w) A (aT .In u<|.ref a) Q E s:=by
 rcases g with⟨j,k,e,i,l⟩|⟨j,k,b,e,i,p,l⟩
 .subst i;obtain⟨z,hd,x,c,dd⟩:=IZ T.hok e;refine NR (Am m) hd dd.mapOf ?_;rw[<-(c.val k).C1,<-l];exact h _ (T.tok _)
 subst i;cases(show u=bU b from m);obtain⟨z,hd,B,c,dd⟩:=IY T.hok e;refine B4 (xj t) (qp T.hok p) hd dd ?_;have q:=(c.val k).C1;rw[Fo]at q;rw[<-q,<-l];exact h _ (T.tok _)
def Ja{Q:jZ}(t:A.units+1<aI)(T:Inv X d f H s)(g:GA H a y o)(m:RelV y u)(h:∀n,Inv X d f H n->Q (.bool (!o.isSome)) n):
  aa (ae X.prog X.w) A (aT .NotIn u<|.ref a) Q E s:=by
 rcases g with⟨j,k,e,i,l⟩|⟨j,k,b,e,i,p,l⟩
 .subst i;obtain⟨z,hd,x,c,dd⟩:=IZ T.hok e;refine y3 (Am m) hd dd.mapOf ?_;rw[<-(c.val k).C1,<-l];exact h _ (T.tok _)
 subst i;cases(show u=bU b from m);obtain⟨z,hd,B,c,dd⟩:=IY T.hok e;refine vu (xj t) (qp T.hok p) hd dd ?_;have q:=(c.val k).C1;rw[Fo]at q;rw[<-q,<-l];exact h _ (T.tok _)
def uC{h':jH}{t':Nat}{c:HO}(T:Inv X d f H s)(j:Mp (H a))(i:au a s.heap h')(h:∃q,h'.get? a=Y q)(new:Z7 X.prog X.w (upd H a c) h' a c):
  Inv X d f (upd H a c) {s with heap:=h',toks:=t'}:=
 T.write (x:=a) (e:=a) j (.inl J) (λb q g z=>(i.2 b g).trans z) h new
def U8{P:jI}{w:jG}{h:Hp}{g:jH}{b:List (Key×V)}{e:List (Key×jr)}(z:(TD b)<=sizeLine)(hd:(a==bY)=I)(c:KV b e)(dd:g.DictOf (lA P w) a e):
  Z7 P w h g a (.dK b):=⟨z,hd,e,c,dd⟩
def yu{L:Hp}{Q:Unit->jk->Prop}(hu:A.units+1<aI)(I:Inv X d f H s)(g:Hv H a y v L)(M:RelV y u)(J:RelV v r)(h:∀N,Inv X d f L N->Q () N):
  aa (ae X.prog X.w) A (jc (.ref a) u r) Q E s:=by
 rcases g with⟨i,k,e,t,l,p⟩|⟨i,k,b,e,t,O,l,p⟩
 .subst t p;obtain⟨z,hd,S,j,dd⟩:=Sm I.hok e;have C:S.length<=sizeLine:=by rw[<-j.length];exact z
  have x:(vM i k v).length<=sizeLine:=by have:=yC i k v;lia
  refine wpAny_setItem_pairs (hsz:=C) (Am M) dd λG m B=>h _ ?_;have R:∃q,G.get? a=SI q:=let⟨q,_,_,n,_⟩:=m;⟨q,n⟩
  exact uC I (by rw[e];exact bg) B R<|U8 x hd (j.put k J) m
 subst t p;cases(show u=bU b from M);obtain⟨z,hd,V,j,dd⟩:=XC I.hok e;have C:V.length<=sizeLine:=by rw[<-zJ j];exact z
 have x:(vM i k v).length<=sizeLine:=by have:=yC i k v;lia
 refine wpAny_setItem_heap (hsz:=C) (xj hu) (qp I.hok O) dd λG m B=>h _ ?_;obtain⟨q,Y,U,n,D,F,K,_,P⟩:=m;refine uC I (by rw[e];exact bg) B ⟨q,n⟩ ⟨x,hd,_,(j.put k O J).keeps λc W T=>?_,q,Y,U,n,D,F,K,P⟩;rw[ke<|R0 T e (λz=>nomatch z)];exact T
end
def Oa{P:jI}{w:jG}{H:Hp}(h:jH)(a:bY<h.objs.size):Z7 P w H (h.push {cls:=.type "dict",data:=.dict #[]}) h.objs.size (.dK []):=
 ⟨mw _,AU.mpr<|rY<|kU a,[],.nil,Heap.DictOf.new h⟩
def Ta:TE:=λ_ H Q=>∀p,H p=U->Q (.ref p) (upd H p<|.dK [])
section
variable {X:Cx}{b:bt}
def adi:PE X (.Dict [] [] b) Ta:=λc s d H Q T h=>wpAny_Dict_empty ⟨.ref s.heap.objs.size,_,T.laid (a:=s.heap.objs.size) (o:=.dK []) (t':=s.toks) (λ_ _ q=>kB _ q) (kD _)<|Oa s.heap T.big,rfl,h _ (T.hok.fresh<|kD _)⟩
end
end L2
namespace PX
open L2 PySem.SeqAt TS
noncomputable def vT:D->Option Key
 |.int i=>Y<|.inl i
 |.str x=>Y<|.inr x
 |_=>U
def A7:List D->Option (List Key)
 |[]=>Y []
 |d::l=>(vT d).bind λk=>(A7 l).map (k:: ·)
def vS:D->Option (List Key)
 |.tup l=>A7 l
 |_=>U
def pv(h:vT d=Y k):d=lV k:=by
 cases d<;>simp[vT]at h<;>subst h<;>rfl
def Nz:∀{l:List D}{a:List Key},A7 l=Y a->l=a.map lV:=by
 intro e
 induction e with
 |nil=>intro a h;cases h;rfl
 |cons d l c=>intro a h;rw[A7]at h;obtain⟨k,h1,h⟩:=jl h;obtain⟨m,b,rfl⟩:=jX h;rw[pv h1,c b];rfl
def tJ(h:vS d=Y a):d=.tup (a.map lV):=by
 cases d with
 |tup l=>rw[Nz (show A7 l=Y a from h)]
 |_=>cases h
def tU(a b:Key):D.Z1 (lV a) (lV b)=decide (a=b):=by
 cases a with
 |inl i=>cases b with
  |inl j=>simp only[lV,D.Z1,Ny]
  |inr y=>simp only[lV,D.Z1,Nx]
 |inr x=>cases b with
  |inl j=>simp only[lV,D.Z1,Nw]
  |inr y=>simp;rfl
theorem uA:∀a b:List Key,D.Bh (a.map lV) (b.map lV)=decide (a=b)
 |[],[]=>by simp[D.Bh]
 |[],_::_=>by simp[D.Bh]
 |_::_,[]=>by simp[D.Bh]
 |x::a,y::b=>by simp only[kG];rw[D.Bh,tU,uA a b];simp
def mF:List D->List D->D->Option D
 |a::b,v::c,k=>if D.Z1 a k=C then Y v else mF b c k
 |_,_,_=>U
def zS:List D->List D->D->D->List D
 |b::c,v::a,k,w=>(if D.Z1 b k=C then w else v)::zS c a k w
 |_,a,_,_=>a
def ya(a b:List D)(k w:D):List D×List D:=if a.any (D.Z1 · k)=C then(a,zS a b k w)else(a++[k],b++[w])
def qR(a:List D)(k:D):Bool:=((vT k).isSome&&a.all λx=>(vT x).isSome)||((vS k).isSome&&a.all λx=>(vS x).isSome)
section
variable {K:jJ}{H:Hp}{O:Z5}
def Ee(h:Rep K H O (lV k) v):v=kV k:=by
 cases k with
 |inl i=>exact Rep.int h
 |inr x=>exact Rep.str h
def abL:∀{b:List Key}{a:List V},Z9 K H O (b.map lV) a->a=b.map kV:=by
 intro e
 induction e with
 |nil=>intro a h;rw[qx,Z9]at h;exact h
 |cons k b d=>intro a h;rw[kG,Z9]at h;obtain⟨v,r,rfl,h1,c⟩:=h;rw[Ee h1,d c];rfl
def qz(hk:vT d=Y k)(h:kZ K H O d v):v=kV k:=by
 rw[pv hk]at h;rcases h with h|⟨a,rfl,h⟩
 .exact Ee h
 cases k<;>exact h.elim
def oz(hk:vS d=Y c)(h:kZ K H O d v):∃b,v=.ref b/\H b=Y (.tup<|c.map kV):=by
 rw[tJ hk]at h;rcases h with h|⟨a,rfl,h⟩
 .obtain⟨b,xs,rfl,q,r⟩:=h.tup;rw[abL r]at q;exact⟨b,rfl,q.1⟩
 exact h.elim
def Wn(a b:List Key):D.Z1 (.tup<|a.map lV) (.tup<|b.map lV)=decide (a=b):=by rw[D.Z1,uA]
theorem Aj{j:Type}[DecidableEq j]{f:j->D}{k:j}(l:∀a b,D.Z1 (f a) (f b)=decide (a=b)):∀{c:List (j×V)}{g:List D},Z9 K H O g (c.map (·.2))->(∀d,mF (c.map λp=>f p.1) g (f k)=Y d->∃v,uG c k=Y v/\Rep K H O d v)/\(mF (c.map λp=>f p.1) g (f k)=U->uG c k=U)
 |[],g,_=>⟨λd h=>by cases g<;>simp[mF]at h,λ_=>rfl⟩
 |(i,v)::c,[],h=>by rw[kG,Z9]at h;cases h
 |(i,v)::c,t::g,h=>by
  rw[kG,Z9]at h;obtain⟨w,r,e,h1,m⟩:=h;obtain⟨rfl,rfl⟩:=vn e;obtain⟨q,s⟩:=Aj l m;simp only[kG,mF,l];by_cases hk:i=k
  .simp only[hk,nv];exact⟨λd h=>by cases h;exact⟨v,wo (p:=(k,v)) J,h1⟩,λh=>by cases h⟩
  simp only[hk,lL,mT];refine⟨λd h=>?_,λh=>?_⟩
  .obtain⟨u,n,o⟩:=q d h;exact⟨u,by rw[sY (p:=(i,v)) hk];exact n,o⟩
  rw[sY (p:=(i,v)) hk];exact s h
end
section
variable {P:jI}{w:jG}{H H':Hp}{h:jH}{a:jh}
def Sn(x:Z7 P w H h a (.dT [])):Z7 P w H' h a (.dK []):=by
 obtain⟨z,y,k,r,o,b,c,h1,d,f,g,j⟩:=x;cases r
 have:b= #[]:=by
  have:b.toList=[]:=by simpa using g
  exact Vw.mp this
 subst this;refine⟨z,y,[],.nil,o,#[],c,h1,d,f,?_,?_,mS⟩
 .first|exact λe i=>by simp at i|(intro;simp)
 first|exact .nil|trivial|simp
def So(x:Z7 P w H h a (.dK [])):Z7 P w H' h a (.dT []):=by
 obtain⟨z,y,n,r,o,c,d,h1,f,g,k,b,m⟩:=x;cases r
 have:c= #[]:=by
  have j:(TD c.toList)=0:=by
   first
    |simpa using (TD b)
    |simpa using(zJ b)
    |(
      cases i:c.toList with
      |nil=>rfl
      |cons e l=>rw[i]at b;cases b)
  exact Vw.mp<|OW.mp j
 subst this;exact⟨z,y,[],.nil,o,#[],d,h1,f,g,rfl,mS⟩
end
section
variable {X:Cx}{g:kf}{i:L2.St}{H:Hp}{s:jk}
def abH{A:jF}{E:jZ}(T:Inv X g i H s){H':Hp}{a:jh}{k:Key}{u:jr}{Q:jZ}(x:Z7 X.prog X.w H' s.heap a (.dK []))(d:RelV (kV k) u)(b:Bool)(h:∀e,Inv X g i H e->Q (.bool b) e):
  aa (ae X.prog X.w) A (aT (if b=C then .NotIn else .In) u<|.ref a) Q E s:=by
 obtain⟨z,hd,f,c,dd⟩:=x;cases c
 cases b
 .exact NR (Am d) hd dd.mapOf<|h _ (T.tok _)
 exact y3 (Am d) hd dd.mapOf<|h _ (T.tok _)
def abG{A:jF}{E:jZ}(e:A.units+1<aI)(T:Inv X g i H s){H':Hp}{a b:jh}{k:List Key}{Q:jZ}(x:Z7 X.prog X.w H' s.heap a (.dT []))(d:H b=Y (.tup<|k.map kV))(c:Bool)(h:∀f,Inv X g i H f->Q (.bool c) f):
  aa (ae X.prog X.w) A (aT (if c=C then .NotIn else .In) (.ref b)<|.ref a) Q E s:=by
 obtain⟨z,hd,u,r,o,l,j,h1,m,n,p,q⟩:=x;cases r;have dd:s.heap.DictOfH (bR<|lA X.prog X.w) a []:=⟨o,l,j,h1,m,n,p,(λx (t:x∈[])=>by simp at t),q⟩
 cases c
 .exact B4 (xj e) (qp T.hok d) hd dd<|h _ (T.tok _)
 exact vu (xj e) (qp T.hok d) hd dd<|h _ (T.tok _)
def qO(h:qR d k=C):(∃e,vT k=Y e/\∀x∈d,∃c,vT x=Y c)\/(∃f,vS k=Y f/\∀x∈d,∃c,vS x=Y c):=by
 unfold qR at h;rw[vd,nN,nN,mZ,mZ]at h;rcases h with⟨h1,a⟩|⟨h1,a⟩
 .exact .inl ⟨_,(Kz.mp h1).choose_spec,λx b=>Kz.mp<|a x b⟩
 exact .inr ⟨_,(Kz.mp h1).choose_spec,λx b=>Kz.mp<|a x b⟩
def C2{a:List Key}{c:Key}(h:vT (.tup<|a.map lV)=Y c):False:=by cases h
def Al(h:vS (lV k)=Y c):False:=by cases k<;>cases h
def XD(B:A.units+1<aI)(I:Inv X g i H s)(q:Bf X.K (H a) .dct ks o us)(r:Z9 X.K H O o us)(hk:qR ks k=C)(G:kZ X.K H O k y)(x:RelV y u)(m:Bool)
  (h:∀l,Inv X g i H l->Q (.bool<|xor m (mF ks o k).isSome) l):aa (ae X.prog X.w) A (aT (if m=C then .NotIn else .In) u<|.ref a) Q E s:=by
 have nil:∀o:List D,mF [] o k=SS:=λo=>by cases o<;>rfl
 rcases q with⟨j,e,rfl,rfl⟩|⟨j,e,rfl,rfl⟩
 .rcases qO hk with⟨C',h1,_⟩|⟨L,h1,M⟩
  .have:=qz h1 G;subst this;have R:=pv h1;subst R;obtain⟨F,P⟩:=Aj (f:=lV) (k:=C') tU r
   have Y:(uG j C').isSome=(mF (j.map λp=>lV p.1) o<|lV C').isSome:=by
    cases z:mF (j.map λp=>lV p.1) o (lV C')with
    |none=>rw[P z];rfl
    |some d=>obtain⟨v,N,_⟩:=F d z;rw[N];rfl
   rw[<-Y]at h
   cases m
   .exact XE B I (GA.k e) x λl n=>by simpa using h l n
   exact Ja B I (GA.k e) x λl n=>by simpa using h l n
  have J:j=[]:=by
   cases j with
   |nil=>rfl
   |cons p j=>obtain⟨c,U⟩:=M (lV p.1) (by simp);exact(Al U).elim
  subst J;obtain⟨b,rfl,T⟩:=oz h1 G;cases x;rw[qx,nil]at h;exact abG B I (So (H':=H)<|I.hok a _ e) T m λl n=>by simpa using h l n
 rcases qO hk with⟨C',h1,M⟩|⟨L,h1,_⟩
 .have J:j=[]:=by
   cases j with
   |nil=>rfl
   |cons p j=>obtain⟨c,U⟩:=M (.tup<|p.1.map lV) (by simp);exact(C2 U).elim
  subst J;have:=qz h1 G;subst this;rw[qx,nil]at h;exact abH I (Sn (H':=H)<|I.hok a _ e) x m λl n=>by simpa using h l n
 obtain⟨b,rfl,T⟩:=oz h1 G;have R:=tJ h1;subst R;obtain⟨F,P⟩:=Aj (f:=λk:List Key=>D.tup<|k.map lV) (k:=L) Wn r
 have Y:(uG j L).isSome=(mF (j.map λp=>.tup (p.1.map lV)) o<|.tup<|L.map lV).isSome:=by
  cases z:mF (j.map λp=>.tup (p.1.map lV)) o (.tup<|L.map lV)with
  |none=>rw[P z];rfl
  |some d=>obtain⟨v,N,_⟩:=F d z;rw[N];rfl
 rw[<-Y]at h
 cases m
 .exact XE B I (GA.t e T) x λl n=>by simpa using h l n
 exact Ja B I (GA.t e T) x λl n=>by simpa using h l n
def U9(J:A.units+1<aI)(I:Inv X g i H s)(q:Bf X.K (H a) .dct M n us)(r:Z9 X.K H O n us)(hk:qR M k=Td)(l:mF M n k=Y d)(U:kZ X.K H O k y)(N:RelV y u)
  (h:∀v w m,Inv X g i H m->Rep X.K H O d v->RelV v w->Q w m):aa (ae X.prog X.w) A (dL (.ref a) u) Q E s:=by
 have nil:∀n:List D,mF [] n k=SS:=λn=>by cases n<;>rfl
 rcases q with⟨j,e,rfl,rfl⟩|⟨j,e,rfl,rfl⟩
 .rcases qO hk with⟨G,h1,_⟩|⟨Y',h1,x⟩
  .have:=qz h1 U;subst this;have T:=pv h1;subst T;obtain⟨v,z,B⟩:=(Aj (f:=lV) (k:=G) tU r).1 d l;refine BX J I (v:=v) (y:=kV G) ?_ N λw m o L=>h v w m o B L;rw[<-z];exact GA.k e
  cases j with
  |nil=>rw[qx,nil]at l;cases l
  |cons p j=>obtain⟨c,C⟩:=x (lV p.1) (by simp);exact(Al C).elim
 rcases qO hk with⟨G,h1,x⟩|⟨Y',h1,_⟩
 .cases j with
  |nil=>rw[qx,nil]at l;cases l
  |cons p j=>obtain⟨c,C⟩:=x (.tup<|p.1.map lV) (by simp);exact(C2 C).elim
 obtain⟨b,rfl,F⟩:=oz h1 U;have T:=tJ h1;subst T;obtain⟨v,z,B⟩:=(Aj (f:=λk:List Key=>D.tup<|k.map lV) (k:=Y') Wn r).1 d l;refine BX J I (v:=v) (y:=.ref b) ?_ N λw m o L=>h v w m o B L;rw[<-z];exact GA.t e F
end
def A9(d k:D):Option (D×Bool):=match d with
 |.Z3 .dct a b=>if qR a k=C then(mF a b k).map λv=>(v,I)else U
 |_=>Aw d k
def UO(d e:D):Option Bool:=match e with
 |.Z3 .dct a b=>if qR a d=C then Y (mF a b d).isSome else U
 |_=>inX d e
def uz(d e:D):Option (D×Bool):=(UO d e).map λb=>(.bl (!b),I)
section
variable {X:Cx}
def abd(p:X.A.units+62<aI):Dw X (aT .NotIn) (rD X.K uz):=by
 intro c s t H x y v u Q T l m h;obtain⟨O,d,e,z,np,h1,j,g,G⟩:=h;by_cases k:∃f i,e=.Z3 .dct f i
 .obtain⟨f,i,rfl⟩:=k;obtain⟨b,o,rfl⟩:=jX g;obtain⟨hk,rfl⟩:=jM (show(if qR f d=C then Y (mF f i d).isSome else U)=Y b from o);obtain⟨a,B,rfl,q,r⟩:=oN j;cases m;exact XD (by lia) T q r hk h1 l C λw n=>⟨.bl _,H,n,by simp[L2.RelV],G.bl⟩
 have:uz d e=Du d e:=by
  unfold uz UO Du;split
  .exact absurd ⟨_,_,rfl⟩ k
  rfl
 rw[this]at g;exact abc p c s t H x y v u Q T l m ⟨O,d,e,z,np,h1,j,g,G⟩
def Xd(T:X.A.units+1<aI):Mq X (rD X.K A9):=by
 intro c b f s C H x y v u Q I p t h o;obtain⟨O,d,e,z,np,h1,m,j,G⟩:=h;by_cases hd:∃i l,d=.Z3 .dct i l
 .obtain⟨i,l,rfl⟩:=hd;have k:(if qR i e=Td then(mF i l e).map λv=>(v,Tk)else SS)=SI z:=j;split at k
  case isFalse=>cases k
  rename_i hk;obtain⟨w,J,rfl⟩:=jX k;obtain⟨a,U,rfl,q,r⟩:=oN h1;cases p;have n:s.TypeIs (.ref a) "dict":=Ac I q;unfold ig;refine ji ?_;rw[getitemInPython_of_ne n.not_modules];refine ji<|sN n PySem.F.slot_dict_getitem.lookup ?_
  have fin:aa (ae X.prog X.w) X.A (ms b Tk (.ref a) u) (λr g=>aa (ae X.prog X.w) X.A (letTemporaryGo c (.ref a) r>>=λ_=>pure r) (EP X f C Q) X.xe g) X.xe s:=by rw[o];exact wpAny_operating<|U9 T I q r hk J m t λB Y N E L M=>ji<|wpAny_letTemporaryGo<|ju ⟨B,H,E,M,G B H (λ_ _ e=>e) L⟩
  first
   |exact ju<|ji fin
   |exact ji<|ju<|ji fin
   |exact ji fin
 have:A9 d e=Aw d e:=by
  unfold A9;split
  .exact absurd ⟨_,_,rfl⟩ hd
  rfl
 rw[this]at j;exact R8 c b f s C H x y v u Q I p t ⟨O,d,e,z,np,h1,m,j,G⟩ o
noncomputable def Sj:F:=λa=>Y ((.Z3 .dct [] [],C),a)
end
section
variable {K:jJ}{T:Z5}{b:L2.St}{c:Dn}{H:Hp}{i:Nat}{d e:D}{a:jh}{o:HO}
end
section
variable {X:Cx}{c:kf}{d:L2.St}{H:Hp}{s:jk}{a:jh}
def Tu(T:Inv X c d H s)(e:H a=Y (.dT [])):Inv X c d (upd H a<|.dK []) s:=by have:=uC (t':=s.toks) (h':=s.heap) T (by rw[e];exact bg) (zE a s.heap) (by obtain⟨z,y,g,r,o,f,b,h1,_⟩:=(show Z7 X.prog X.w H s.heap a (.dT [])from T.hok a _ e);exact⟨o,h1⟩)<|Sn (H':=upd H a<|.dK [])<|T.hok a _ e;exact this
def Tt(T:Inv X c d H s)(e:H a=Y (.dK [])):Inv X c d (upd H a<|.dT []) s:=by have:=uC (t':=s.toks) (h':=s.heap) T (by rw[e];exact bg) (zE a s.heap) (by obtain⟨z,y,g,r,o,f,b,h1,_⟩:=(show Z7 X.prog X.w H s.heap a (.dK [])from T.hok a _ e);exact⟨o,h1⟩)<|So (H':=upd H a<|.dT [])<|T.hok a _ e;exact this
def WO:Rz:=λo i v H Q=>∃a,o=.ref a/\((∃e,Hv H a i v e/\Q e)\/(∃f,H a=Y (.dT [])/\i=kV f/\Q (upd H a<|.dK [(f,v)]))\/
 (∃g b,H a=Y (.dK [])/\i=.ref b/\H b=Y (.tup<|g.map kV)/\Q (upd H a<|.dT [(g,v)])))
def ado(j:X.A.units+1<aI):Vm X WO:=by
 intro c s d H o i v E O u Q T x l m h;obtain⟨a,rfl,h⟩:=h;cases x;rcases h with⟨r,g,q⟩|⟨y,e,rfl,q⟩|⟨B,b,e,rfl,n,q⟩
 .exact yu j T g l m λp f=>⟨r,f,q⟩
 .refine yu j (Tu T e) (Hv.k (k:=y) (v:=v) jL<|by rw[kT];decide) l m λp f=>⟨_,f,?_⟩
  rw[HI];exact q
 have w:b≠a:=R0 n e (λz=>nomatch z);refine yu j (Tt T e) (Hv.t (k:=B) (v:=v) (b:=b) jL (by rw[ke w];exact n)<|by rw[kT];decide) l m λp f=>⟨_,f,?_⟩
 rw[HI];exact q
end
section
variable {K:jJ}{H:Hp}{O:Z5}
theorem Mh{g:Type}[DecidableEq g]{f:g->D}(hd:∀a b,D.Z1 (f a) (f b)=decide (a=b)){k:g}{w:D}{v:V}(j:Rep K H O w v):∀{c:List (g×V)}{d:List D},Z9 K H O d (c.map (·.2))->Z9 K H O (zS (c.map λp=>f p.1) d (f k) w) ((c.map λi=>if i.1=k then(i.1,v)else i).map (·.2))
 |[],d,h=>by cases d<;>simpa[zS]using h
 |(l,u)::c,[],h=>by rw[kG,Z9]at h;cases h
 |(l,u)::c,n::d,h=>by
  rw[kG,Z9]at h;obtain⟨x,r,e,h1,m⟩:=h;obtain⟨rfl,rfl⟩:=vn e;simp only[kG,zS,hd];refine Z9.cons ?_<|Mh hd j m;by_cases hk:l=k
  .simp only[hk,nv];exact j
  simp only[hk,lL,mT];exact h1
def H9{c:Type}[DecidableEq c]{kd:c->D}(hd:∀a b,D.Z1 (kd a) (kd b)=decide (a=b)){k:c}{w:D}{v:V}(e:Rep K H O w v){kvs:List (c×V)}{d:List D}(h:Z9 K H O d (kvs.map (·.2))):
  (ya (kvs.map λp=>kd p.1) d (kd k) w).1=(vM kvs k v).map (λp=>kd p.1)/\Z9 K H O (ya (kvs.map λp=>kd p.1) d (kd k) w).2 ((vM kvs k v).map (·.2)):=by
 have f:(kvs.map λp=>kd p.1).any (D.Z1 · (kd k))=kvs.any λg=>decide (g.1=k):=by rw[FX];congr 1;funext p;exact hd _ _
 unfold ya vM;rw[f];split
 .refine⟨?_,Mh hd e h⟩;rw[ky];apply ou;intro p _;simp;split<;>rfl
 exact⟨by simp,by rw[nM];exact h.append<|Z9.one e⟩
end
def Mc(i:Nat)(f:F)(g:FO):FS:=λc=>(f c).bind λp=>match p.2[i]? with
 |some (Y _)=>(g p.2).bind λq=>match res q.2 q.1,q.2[i]? with
  |some k,Y (Y (.Z3 .dct a b,C))=>if qR a k=C/\(TD a)<10000 then Y (.nx<|q.2.set i<|Y (.Z3 .dct (ya a b k p.1.1).1 (ya a b k p.1.1).2,C))else U
  |_,_=>U
 |_=>U
section
variable {X:Cx}{e c:jv}{f:F}{g:FO}{b h a d:bt}{i:Nat}{x:ap}{A:kE}{L:LL}{j:Hp}
end
end PX
namespace TT
open PySem.SeqAt
structure Hu(h:jH)(d:jh)(es:Array iK)(ep:Nat):Prop where
 at_:∃o,h.get? d=SI o/\o.ExactDict/\o.data=.dict es ep
def Hu.AV{d b a}(x:Hu h d b a)(k:∀o,h.get? d=Y o->c.get? d=Y o):Hu c d b a:=let⟨o,h1,r⟩:=x.at_;⟨o,k _ h1,r⟩
section
variable {c:jI}{w:jG}{A:jF}{E:jZ}{s:jk}
def Hu.typeIs{d b a}(x:Hu s.heap d b a):s.TypeIs (.ref d) "dict":=let⟨o,h1,r,_⟩:=x.at_;⟨o,h1,r.1⟩
def abD(hd:(d==bY)=I)(e:Hu s.heap d h g)
  (i:Q (.ref s.heap.objs.size) {s with heap:=s.heap.push {cls:=.type "dict_keyiterator",data:=.fields #[.ref d,.int 0 0,.int h.size 0,.int g 0]}}):aa (ae c w) A (cM<|.ref d) Q E s:=by
 have a:=e.typeIs;obtain⟨o,f,j,b⟩:=e.at_;refine Ft a KW<|oI KW a PySem.F.entry_dict_iter ?_<|PySem.F.args_dict_iter_1 _;unfold bc.«dict.__iter__»;refine ji ?_;unfold w5;refine ji<|KU a ?_;change aa _ _ (pure<|bU d) _ _ s;refine ju ?_;change aa _ _ (fN d>>=_) _ _ s;unfold fN;rw[jP<|by rw[hd];exact lQ];refine ji<|ju ?_;refine ji<|sn f b ?_;refine ji<|wE f b ?_;refine ji<|oy<|ju ⟨_,rfl,"dict_keyiterator",_,⟨_,kW _ rfl,rfl⟩,KA.lookup,?_⟩;simpa[cf]using i
def BE(x:A.handled=U){it d:jh}{i k:Nat}{g:Array iK}{Q:Bn}(f:s.heap.IsKeyIter it d i g.size k)(z:Hu s.heap d g k)(B:i<=g.size)
  (u:∀e,g[i]?=Y e->∀h,h.IsKeyIter it d (i+1) g.size k->au it s.heap h->Q (Y e.key) {s with heap:=h})
  (t:i=g.size->∀h,el it s.heap h->Q U {s with heap:=h}):aa (ae c w) A (cu<|.ref it) Q E s:=by
 obtain⟨o,l,v,hd⟩:=id f;obtain⟨H,j,O,p⟩:=z.at_;unfold cu;refine ji<|vq<|sV (name:=bv "__next__") f.typeIs KA<|oI KA f.typeIs PySem.F.entry_dict_keyiterator_next ?_<|PySem.F.args_dict_keyiterator_next_1 _;refine ji<|ju ?_;refine ji ?_;refine ji ?_;refine ji<|Fn f.typeIs<|ju ?_;refine ji<|wpAny_fieldsOf l hd ?_;have q:Builtin.Dict_items.ownsTuple "dict_keyiterator"=I:=by decide
 simp -iota only[lL,mT];change aa _ _ (if(bU d==ah)=C then _ else _) _ _ s;rw[jP (show ¬((bU d==ah)=C)from lQ)];refine ji<|ju ?_;refine ji<|sn j p ?_;rw[jP<|by simp];refine ji<|ju ?_;refine ji<|wE j p ?_;rw[jP<|by simp];refine ju ?_;dsimp only;simp -iota;by_cases y:i<g.size
 .have r:g[i]?=Y g[i]:=pE y;simp -iota only[r];refine ji ?_;refine ji<|Fn f.typeIs<|ju ?_;refine ji<|KS f.typeIs ?_;change aa _ _ (mu (.ref it) 1 (cf<|(i:Int)+1)>>=_) _ _ s;refine ji (vz l hd (by simp) ?_)
  have n:(s.heap.update it (gG (·.setIfInBounds 1 (cf<|(i:Int)+1)))).IsKeyIter it d (i+1) g.size k:=
   ⟨_,sU _ l (CH<|uN hd _),(CG ..).trans v,by rw[uN hd];simp[cf]⟩
  refine ji<|mE ?_;refine ji (KS (s:={s with heap:=s.heap.update it (gG (·.setIfInBounds 1 (cf<|(i:Int)+1)))}) n.typeIs ?_);change aa _ _ (pure g[i].key) _ _ _;exact ju<|ju ⟨_,rfl,ju<|u _ r _ n (qa ..)⟩
 obtain rfl:i=g.size:=by lia
 simp -iota;refine ji ?_;refine ji<|Fn f.typeIs<|ju ?_;change aa _ _ (mu (.ref it) 0 .none>>=_) _ _ s;refine ji<|vz l hd (by simp) ?_;change aa _ _ (je (.type "StopIteration") []>>=_) _ _ _;refine ji ?_;simp -iota only[je];refine ji<|oy ?_ (by size_fits);refine ji (m:=gJ _ _)<|rB (a:=ah) (by first|rfl|(simp -iota;rfl)) ?_;refine oy ?_ (by size_fits);simp -iota only[z9];refine ji<|FU ?_;rw[show A.in1.handled=U from x];refine ji<|ju<|FR ?_;refine ji<|xF (T:="StopIteration") (b:=C) ⟨_,kW _ rfl,rfl⟩ CB ?_;exact ju<|t J _ (((qa ..).extBut.push _).push _)
def abm(l:A.handled=U)(T d:jh)(u:T≠d)(g:Array iK)(k:Nat):O0 c w A T [T,d] [T] g.size (λi v=>∃e,g[i]?=Y e/\v=e.key) (λi h=>h.IsKeyIter T d i g.size k/\Hu h d g k) where
 sub:=λb a=>by simp at a;simp[a]
 frame:=λ_ _ _ st hk=>⟨st.1.at λo e=>hk T (by simp) o e,st.2.AV λo e=>hk d (by simp) o e⟩
 item:=λi s Q E m st f=>by refine BE l st.1 st.2 (wj m) (λe t j q n=>?_) λz=>absurd z<|kU m;exact f _ j s.toks ⟨_,t,rfl⟩ ⟨q,st.2.AV λo e=>n.extBut d o (λh=>u h.symm) e⟩ λb o a e=>n.extBut b o (λh=>a<|by simp[h]) e
 done:=λs Q E st f=>BE l st.1 st.2 (kD _) (λe r=>absurd (Jn.mp r).1<|qf _) λ_ j p=>f j s.toks λb o a e=>p b o (λh=>a<|by simp[h]) e
 self:=λ_ _ _ _ st f=>wpAny_pyIter_keyiter st.1 f
def OR(hd:(a==bY)=I)(p:A.handled=U)(S:Hu s.heap a d n)(q:d.size<=sizeLine)
  (j:∀h r,(∀b o,s.heap.get? b=Y o->h.get? b=Y o)->Q (d.toList.map (·.key)) {s with heap:=h,toks:=r}):aa (ae c w) A (fW<|.ref a) Q E s:=by
 have g:a<s.heap.objs.size:=let⟨_,h1,_⟩:=S.at_;kX h1;refine yI (.inr ⟨rfl,rfl⟩) g (λx k=>(S.AV k).typeIs) (abm (by show A.handled=U;exact p) (s.heap.objs.size+1) a (qe<|uO g) d n) q (λi v ⟨e,m,hv⟩=>?_) (by rw[kN,lT]) (λl t k=>?_) j
 .rw[lh,mD,m,hv];rfl
 have f:Hu (s.heap.push l) a d n:=S.AV λo e=>kB _ e;have ext:∀(u:eM) b o,(s.heap.push l).get? b=Y o->((s.heap.push l).push u).get? b=Y o:=λu b o e=>kB _ e;refine abD (s:={s with heap:=s.heap.push l}) hd f ?_;have z:(s.heap.push l).objs.size=s.heap.objs.size+1:=oV _ _;have:=k _ ⟨show((s.heap.push l).push {cls:=.type "dict_keyiterator",data:=.fields #[.ref a,.int 0 0,.int d.size 0,.int n 0]}).IsKeyIter (s.heap.objs.size+1) a 0 d.size n from⟨_,by rw[<-z];exact kW _ rfl,rfl,rfl⟩,f.AV λo e=>ext _ _ _ e⟩ (ext _);rw[<-z]at this;exact this
end
end TT
namespace PX
open L2 PySem.SeqAt TS
def mN(d:D):Option (D×Bool):=match d with
 |.Z3 .dct a b=>if(a.all λk=>(vT k).isSome)=C/\a≠[]then ll a else U
 |_=>tL d
section
variable {X:Cx}
def ab8{P:jI}{w:jG}{e:List iK}{f:List (Key×jr)}{a:List (Key×V)}(h:Pairs (lA P w) e f)(q:KV a f):Vals (a.map λp=>kV p.1) (e.map (·.key)):=by
 induction h generalizing a with
 |nil=>cases q;exact .nil
 |cons h1 j t g=>
  obtain _|⟨r,q⟩:=q;refine .cons ?_<|g q;dsimp only;rw[r.1];rcases lR (show Ak _ _=C from h1)with⟨i,d,b,c⟩|⟨x,d,b,c⟩
  .rw[b,c];exact⟨d,rfl⟩
  rw[b,c];exact⟨d,rfl⟩
theorem By{K:jJ}{H:Hp}{O:Z5}:∀(a:List (Key×V)),Z9 K H O (a.map λp=>lV p.1)<|a.map λp=>kV p.1
 |[]=>Z9.nil
 |(k,v)::a=>by
  refine Z9.cons ?_<|By a
  cases k with
  |inl i=>exact Rep.mkInt
  |inr x=>exact Rep.mkStr
def WZ{X:Cx}{id:String}{g f:D->Option (D×Bool)}(i:lr X (.builtin id) (GF X.K<|g1 f)){c:kf}{s:jk}{e:L2.St}{H:Hp}{x:V}{u:jr}{Q:VK}{O:Z5}{d:D}{z:D×Bool}(T:Inv X c e H s)(k:L2.RelV x u)(np:∀p,¬Ow (H p)->¬O p)(hd:kZ X.K H O d x)(h:f d=Y z)(G:Gen X.K H O z Q):
  aa (ae X.prog X.w) X.A (call (.builtin id) [u]) (EP X c e Q) X.xe s:=
 i c s e H [x] [u] Q T (.cons k .nil) ⟨O,[d],z,np,rfl,(λj l m a b=>by
   cases j with
   |zero=>simp at a b;subst a;subst b;exact hd
   |succ j=>simp at a),h,G⟩
def aaD(j:X.calm=Td)(n:X.A.units+62<aI):lr X (.builtin "sorted") (GF X.K<|g1 mN):=ot λt s σ H x u Q O d z I v np hd l G=>by
 by_cases m:∃f w,d=.Z3 .dct f w
 .obtain⟨f,w,rfl⟩:=m;have h:(if(f.all λk=>(vT k).isSome)=Td/\f≠[]then ll f else SS)=SI z:=l;split at h
  .rename_i c;obtain⟨a,us,rfl,q,r⟩:=oN hd;cases v;rcases q with⟨b,e,rfl,rfl⟩|⟨b,e,rfl,rfl⟩
   .obtain⟨zl,B,D,i,o,V,S,h1,E,L,W,T,Z⟩:=Sm I.hok e;have y:=ab8 T i;have N:=y.length;simp at N;have M:X.A.handled=SS:=I.ok.hd j;exact ui n I (By (O:=O) b) y h G λR P F U J=>TT.OR B (by rw[U];exact M) ⟨o,h1,E,L⟩ (by lia) λC Y k=>J C Y k
   exfalso
   cases b with
   |nil=>exact c.2 Tl
   |cons p b=>have:=mZ.mp c.1 (.tup<|p.1.map lV) (by simp);simp[vT]at this
  cases h
 have:mN d=tL d:=by
  unfold mN;split
  .exact absurd ⟨_,_,rfl⟩ m
  rfl
 exact WZ (g:=mN) (aaB j n) I v np hd (by rw[<-this];exact l) G
end
section
variable {X:Cx}{e:jv}{f:F}{b d a c:bt}{i:Nat}{x:ap}
end
structure PXs(X:Cx)(es:lg)(fs:List F):Prop where
 pa:PA X es (tA X.K<|fs.map jB)
section
variable {X:Cx}{e:jv}{b:lg}{f:F}{fs:List F}{a:bt}
end
structure QX(X:Cx)(e:jv)(f:F):Prop where
 h:PX X e f
structure QO(X:Cx)(e:jv)(f:FO):Prop where
 h:PX.PO X e f
structure QA(X:Cx)(es:lg)(fs:List FO):Prop where
 h:PA X es (tA X.K fs)
structure QL(X:Cx)(es:lg)(fs:List F):Prop where
 h:PXs X es fs
structure QT(X:Cx)(e:jv)(f:FT):Prop where
 h:PTX X e f
structure QW(X:Cx)(e:jv)(f:FT):Prop where
 h:PWX X e f
structure QG(X:Cx)(A:kE)(e:jv)(t:Tg):Prop where
 h:Kw X A e t
structure QI(X:Cx)(B:SB)(tg e:jv)(f:DK):Prop where
 h:Kv X B tg e f
structure QF(X:Cx)(es:lg)(f:FT):Prop where
 h:Jy X es (tT X.K f)
structure QB(X:Cx)(A:kE)(d:jh)(e:jv)(n:Nat)(f:FB):Prop where
 h:PB X (kK e n (.ref d) X.env) (JV Tk X.K A d f)
structure QS(X:Cx)(A:kE)(L:LL)(H0:Hp)(st:aW)(f:FS):Prop where
 h:LZ X A L H0 st f
structure QQ(X:Cx)(A:kE)(L:LL)(H0:Hp)(st:List aW)(f:FS):Prop where
 h:DP X A L H0 st f
structure QC(X:Cx)(v:jr)(g:List D->Option (D×Bool)):Prop where
 h:lr X v (GF X.K g)
structure QP(X:Cx)(o:zk)(g:D->D->Option (D×Bool)):Prop where
 h:Dw X o (rD X.K g)
abbrev SE(X:Cx)(e:jv)(a:lg):Prop:=ac (e::a) X.env=(I,aY e X.env)::ac a X.env
abbrev BA(X:Cx)(p:bt)(a:lg):Prop:=(aV p<|ac a X.env).any (·.1)=I
abbrev DB(x:ap):Prop:=(x==("__debug__":ap))=I
abbrev un(A:jF)(n:Nat):Prop:=A.units+n<aI
structure ZZ where
 P:jI
 w:jG
 K:jJ
 mg:ap->Option jr
 base:jH
def Oz(Z:ZZ)(k:Nat)(x:ap)(b:jK)(c:A5):Prop:= ∃f a,DF Z.P Z.w Z.K Z.mg Z.base El k f a b (Hj Z.K c)/\Z.mg x=Y (.ref f)/\cg Z.K (.ref f)=C/\Binds Z.K a b []
def Oz.up{Z:ZZ}{k j:Nat}{x:ap}{d:jK}{c:A5}(o:Oz Z k x d c)(h:k<=j:=by decide):Oz Z j x d c:=let⟨f,e,a,b⟩:=o;⟨f,e,a.mono h,b⟩
noncomputable abbrev zX(X:Cx):ZZ:=⟨X.prog,X.w,X.K,X.mg,X.base⟩
def tgN:Expr->List ap
 |.Name x _=>[x]
 |.Tuple [.Name x _,.Name y _] _ _=>[x,y]
 |_=>[]
def cN(N:jK)(a:kz)(b:pZ):List Str:=a.filterMap (N[·]?)++b.flatMap λg=>tgN g.target
noncomputable def JT:List (ap×jr):=[("len",.builtin "len"),("abs",.builtin "abs"),("int",.type "int"),("tuple",.type "tuple"),("list",.type "list"),("bool",.type "bool"),("max",.builtin "max"),("min",.builtin "min"),("all",.builtin "all"),("any",.builtin "any"),("sorted",.builtin "sorted"),("set",.type "set")]
def btA{c:ml}(T:Tx c):∀p∈JT,c p.1=U/\av p.1=Y p.2:=by
 have h:∀p∈JT,av p.1=Y p.2:=by decide+kernel
 intro p b;refine⟨?_,h p b⟩;have a:p∈JT:=b;unfold JT at a;simp only[nQ,qv,or_false]at a;rcases a with rfl|rfl|rfl|rfl|rfl|rfl|rfl|rfl|rfl|rfl|rfl|rfl
 .exact T.n_len
 .exact T.n_abs
 .exact T.n_int
 .exact T.n_tuple
 .exact T.n_list
 .exact T.n_bool
 .exact T.n_max
 .exact T.n_min
 .exact T.n_all
 .exact T.n_any
 .exact T.n_sorted
 exact T.n_set
theorem G2{z:ap}{v:jr}:∀{l:List (ap×jr)},l.lookup z=Y v->(z,v)∈l
 |[],h=>by cases h
 |(y,u)::l,h=>by
  rw[oW]at h;split at h
  .rename_i q;cases h;rw[pG q];exact .head _
  exact .tail _ (G2 h)
def Kj{a:ml}{z:ap}{v:jr}(T:Tx a)(h:JT.lookup z=Y v):a z=U:=(btA T _ (G2 h)).1
def LU{z:ap}{v:jr}(h:JT.lookup z=Y v):av z=Y v:=(show ∀p∈JT,av p.1=Y p.2 from by decide+kernel) _ (G2 h)
section
variable {X:Cx}{x z:ap}{e a b c st lo G:jv}{J:lg}{M U fc fo fl fh:FO}{f g:F}{ft fu:FT}{p p2 p3 m f7 apos:bt}{A:kE}{L:LL}{B:SB}{H0:Hp}{fs:List FO}{eu:List F}{i j k:Nat}{tg:jv}{S:aW}{Ss Ts:List aW}{u v:FS}
def xV(h1:X.N[i]?=Y x:=by rfl)(l:JE X.env.scope x:=by first|exact bf rfl|exact bp (bf Tl)|exact bp<|bp Tl)(n:DB x:=by decide)(r:(x==("__classdict__":ap))=I:=by decide):QO X (.Name x m) (jm i):=⟨PE.imp' (yb h1 l n r) λy H Q h=>by
 obtain⟨s,T,o,t,E,e,k⟩:=h;unfold jm at e
 cases G:s[i]? with
 |none=>rw[G]at e;cases e
 |some q=>
  cases q with
  |none=>rw[G]at e;cases e
  |some p=>obtain⟨d,b⟩:=p;rw[G]at e;obtain⟨rfl,rfl⟩:=jS e;obtain⟨w,v,h1,l⟩:=E.freeze G;exact⟨v,h1,k v H ⟨.refl,E,h1⟩⟩⟩
def xW(h1:X.N[i]?=Y x:=by rfl)(l:JE X.env.scope x:=by first|exact bf rfl|exact bp (bf Tl)|exact bp<|bp Tl)(q:DB x:=by decide)(s:(x==("__classdict__":ap))=I:=by decide):QX X (.Name x m) (lW i):=⟨PX.imp (yb h1 l q s) λy H Q h=>by
 obtain⟨t,T,r,w,E,e,k⟩:=h;unfold lW at e
 cases G:t[i]? with
 |none=>rw[G]at e;cases e
 |some o=>
  cases o with
  |none=>rw[G]at e;cases e
  |some p=>obtain⟨d,b⟩:=p;rw[G]at e;cases e;obtain⟨n,v,h1,l⟩:=E.freeze G;exact⟨v,h1,k v H<|A4.val .set n l⟩⟩
def xO(h:QX X e f):QO X e (jB f):=⟨PX.po h.h⟩
def x2{i j}:QX X (.Constant (.bool i) j m) (fC<|.bl i):=⟨WT⟩
def x3{i j}:QX X (.Constant (.int i) j m) (fC<|.int i):=⟨PX.imp Ui λl H Q h=>by obtain⟨δ,T,r,d,E,e,k⟩:=h;cases e;exact k _ _ (A4.val .refl E (by first|exact Rep.mkInt|exact Rep.JY|exact Rep.JB|exact Rep.mkStr))⟩
def x7:QX X (.Dict [] [] m) Sj:=⟨PX.imp adi λq H Q h=>by obtain⟨o,T,n,l,E,e,k⟩:=h;cases e;intro p d;have B:=Ops.nil E;exact(B.done k) p _ d (ly d) ⟨[],.inl ⟨[],jL,rfl,rfl⟩,Z9.nil⟩⟩
def Yr{d:Operator}{g:D->D->Option (D×Bool)}(o:QP X (bJ d) g)(l:QO X a M)(n:QO X b U):QX X (.BinOp a d b m) (jW g M U):=⟨N1<|WX o.h l.h n.h⟩
def Ym(d:QO X a M):QX X (.UnaryOp .USub a m) (ph Ap M):=⟨px1<|WW Pk d.h⟩
def Yq{d:cZ}{g:D->D->Option (D×Bool)}(o:QP X (aT d) g)(l:QO X a M)(n:QO X b U)(q:cX d b=I:=by first|exact M5 _|with_unfolding_all rfl):QX X (.Compare a [d] [b] m) (jW g M U):=⟨N1<|Qg o.h l.h n.h q⟩
def Tb{d:cZ}{g:D->D->Option (D×Bool)}(o:QP X (aT d) g)(l:QO X a M)(n:QO X b U)(q:cX d b=I:=by first|exact M5 _|with_unfolding_all rfl):QT X (.Compare a [d] [b] m) (fT<|jW g M U):=⟨
 PT.imp' (PZ o.h l.h n.h q) λs H Q r=>Qw WQ<|RK r⟩
def xBo{op}(d:QX X a f):QX X (.BoolOp op [a] m) f:=⟨Ug d.h⟩
def Ys(I:QX X a f)(O:QX X (.BoolOp .And (b::J) m) g):QX X (.BoolOp .And (a::b::J) m) (N6 f g):=⟨PX.imp (Uk I.h O.h) λF H Q N=>by
 obtain⟨D,T,r,l,E,e,k⟩:=N;obtain⟨p,h1,e⟩:=jl e;obtain⟨c,n,C,d⟩:=jw e;obtain⟨o,rfl⟩:=Fc C;refine⟨D,T,_,_,E,h1,λv s P=>?_⟩;obtain⟨q,Y⟩:=P.rep E;refine⟨c,Y.bl,?_⟩
 cases c with
 |true=>rw[jz Tl]at d;rw[jz Tl];exact⟨n,T,r,l,q,d,λw t y=>k w t<|y.pre P.1⟩
 |false=>rw[jP lQ]at d;rw[jP lQ];obtain⟨rfl,rfl⟩:=jS d;exact k _ s (A4.val P.1 q Rep.JY)⟩
def Yu(y:QT X a ft)(C:QW X (.BoolOp .And (b::J) m) fu):QW X (.BoolOp .And (a::b::J) m) (yF ft fu):=⟨PW.imp' (TZ y.h C.h) λN H Q I=>by
 obtain⟨O,T,c,l,E,e,k⟩:=I;obtain⟨q,d,h1,e⟩:=jw e;refine⟨O,T,q,d,E,h1,λs o n=>?_⟩
 cases q with
 |true=>rw[jz Tl]at e;rw[jz Tl];exact⟨d,T,c,l,n,e,λt w r=>k t (o.trans w) r⟩
 |false=>rw[jP lQ]at e;rw[jP lQ];obtain⟨rfl,rfl⟩:=jS e;exact k s o n⟩
def wOr(y:QT X a ft)(C:QW X (.BoolOp .Or (b::J) m) fu):QW X (.BoolOp .Or (a::b::J) m) (He ft fu):=⟨PW.imp' (WU y.h C.h) λN H Q I=>by
 obtain⟨O,T,c,l,E,e,k⟩:=I;obtain⟨q,d,h1,e⟩:=jw e;refine⟨O,T,q,d,E,h1,λs o n=>?_⟩
 cases q with
 |true=>rw[jz Tl]at e;rw[jz Tl];obtain⟨rfl,rfl⟩:=jS e;exact k s o n
 |false=>rw[jP lQ]at e;rw[jP lQ];exact⟨d,T,c,l,n,e,λt w r=>k t (o.trans w) r⟩⟩
def Wm(d:QT X a ft):QW X (.BoolOp .And [a] m) ft:=⟨PR d.h⟩
def Yt(d:QT X a ft):QW X (.BoolOp .Or [a] m) ft:=⟨TY d.h⟩
def tW{op}(h:QW X (.BoolOp op J m) ft):QT X (.BoolOp op J m) ft:=⟨PW.pt h.h⟩
def L4(n:QT X a ft):QT X (.UnaryOp .Not a m) (yE ft):=⟨PT.imp' (T6 n.h) λs H Q o=>by obtain⟨q,T,c,r,E,e,k⟩:=o;obtain⟨l,d,h1,e⟩:=jw e;obtain⟨rfl,rfl⟩:=jS e;exact⟨q,T,l,d,E,h1,k⟩⟩
def Yw(h:QX X e f)(l:∀d,isTrue e X.env d=(do let v <-d;cW e.pos;b6 [v] (truthy v)):=by intro _;rfl):QT X e (fT f):=⟨PT.imp' (T5 h.h l) λo H Q n=>RK n⟩
def xIf(C:QT X c ft)(t:QX X a f)(y:QX X b g):QX X (.IfExp c a b m) (MF ft f g):=⟨PX.imp (adh C.h t.h y.h) λY H Q I=>by
 obtain⟨O,T,r,l,E,e,k⟩:=I;obtain⟨c,d,h1,e⟩:=jw e;refine⟨O,T,c,d,E,h1,λN s q=>?_⟩
 cases c with
 |true=>rw[jz Tl]at e;rw[jz Tl];exact⟨d,T,r,l,q,e,λw n o=>k w n<|o.pre s⟩
 |false=>rw[jP lQ]at e;rw[jP lQ];exact⟨d,T,r,l,q,e,λw n o=>k w n<|o.pre s⟩⟩
def Mv(d:QO X a M)(l:QO X b U)(n:DO b:=by exact λ_ _=>rfl):QX X (.Subscript a b m) (jW Aw M U):=⟨N1<|RU R8 d.h l.h n⟩
def Yn(o:un X.A 1)(d:QO X a M)(l:QO X b U)(n:DO b:=by exact λ_ _=>rfl):QX X (.Subscript a b m) (jW A9 M U):=⟨N1<|RU (Xd o) d.h l.h n⟩
def Yi(s:QO X a M)(t:QO X G fh):QX X (.Subscript a (.Slice SS (SI G) SS p2) m) (BP M fh):=⟨
 PX.imp (adg YH s.h P9<|P8 t.h) λP H Q y=>by
  obtain⟨N,T,K,Y,E,e,k⟩:=y;unfold BP at e;obtain⟨q,d,h1,e⟩:=jw e;obtain⟨O,n,r,e⟩:=jw e;dsimp only at e;split at e
  .rename_i i G;obtain⟨x,C,e⟩:=jl e;obtain⟨z,I,e⟩:=jl e;obtain⟨rfl,rfl⟩:=jS e;refine⟨N,T,q,d,E,h1,λv D l=>⟨d,Bl T q v,O,n,l.er E,r,λu F o=>?_⟩⟩;have B:=Ops.cons E l<|Ops.cons (l.er E) o<|Ops.nil<|o.er<|l.er E;exact⟨i,kj<|B.view (j:=1) Tl Tl G,_,x,z,λp w=>B.np w,B.view (j:=0) Tl Tl C,I,B.done k⟩
  cases e⟩
def xL0:QL X [] []:=⟨⟨yZ⟩⟩
def xL(d:QX X e f)(l:QL X J eu)(n:SE X e J:=by rfl):QL X (e::J) (f::eu):=⟨⟨tx (PX.po d.h) l.h.pa n⟩⟩
def Jv:QA X [] []:=⟨yZ⟩
def xA(d:QO X e M)(l:QA X J fs)(n:SE X e J:=by rfl):QA X (e::J) (M::fs):=⟨tx d.h l.h n⟩
def Yg{k}(h:QL X J eu):QX X (.Tuple J k m) (tQ eu):=⟨TL h.h.pa⟩
def SR(h:QL X J eu):QX X (.List J m) (tR eu):=⟨TV h.h.pa⟩
def xB{id:String}{g:List D->Option (D×Bool)}(T:Tx X.mg)(hv:JT.lookup z=Y (.builtin id))(n:QC X (.builtin id) g)(l:QA X (e::J) fs)(q:Gl X z:=by rfl)(r:z≠"__name__":=by decide)(s:DB z:=by decide)(o:SE X e J:=by rfl)(d:BA X m J:=by rfl):QX X (.Call (.Name z p) (e::J) [] m) (jT g fs):=⟨PQ n.h q (Kj T hv) (LU hv) l.h r s o d⟩
def xT{id:String}{g:List D->Option (D×Bool)}(T:Tx X.mg)(hv:JT.lookup z=Y (.type id))(n:QC X (.type id) g)(l:QA X (e::J) fs)(q:Gl X z:=by rfl)(r:z≠"__name__":=by decide)(s:DB z:=by decide)(o:SE X e J:=by rfl)(d:BA X m J:=by rfl):QX X (.Call (.Name z p) (e::J) [] m) (jT g fs):=⟨C7 n.h q (Kj T hv) (LU hv) l.h r s o d⟩
def xI{t:Ty}(T:Tx X.mg)(d:JT.lookup z=Y (.type t.n))(q:QO X e M)(r:Gl X "isinstance":=by rfl)(l:Gl X z:=by rfl)(s:z≠"__name__":=by decide)(w:DB z:=by decide)
  (s1:SE X e [.Name z p2]:=by rfl)(y:SE X (.Name z p2) []:=by rfl)(o:BA X m [.Name z p2]:=by rfl):
  QX X (.Call (.Name "isinstance" p) [e,.Name z p2] [] m) (ph (yS [t]) M):=⟨TX q.h r T.n_isinstance l (Kj T d) (LU d) s w uZ s1 y o⟩
def xI2{t s:Ty}{d:ap}{o:bt}{l}(T:Tx X.mg)(r:JT.lookup z=SI (.type t.n))(q:JT.lookup d=SI (.type s.n))(I:QO X e M)(O:Gl X "isinstance":=by rfl)(C:Gl X z:=by rfl)(Q:z≠"__name__":=by decide)(N:DB z:=by decide)(y:Gl X d:=by rfl)(E:d≠"__name__":=by decide)(w:DB d:=by rfl)
  (s1:SE X e [.Tuple [.Name z p2,.Name d p3] l o]:=by rfl)(Y:SE X (.Tuple [.Name z p2,.Name d p3] l o) []:=by rfl)
  (s3:SE X (.Name z p2) [.Name d p3]:=by rfl)(s4:SE X (.Name d p3) []:=by rfl)
  (H:BA X m [.Tuple [.Name z p2,.Name d p3] l o]:=by rfl):
  QX X (.Call (.Name "isinstance" p) [e,.Tuple [.Name z p2,.Name d p3] l o] [] m) (ph (yS [t,s]) M):=⟨PL I.h O T.n_isinstance C (Kj T r) (LU r) Q N y (Kj T q) (LU q) E w uZ s1 Y s3 s4 H⟩
def xU{k:Nat}{T:jK}{d:A5}(t:YP k X.A)(O:Oz (zX X) k x T d)(o:QA X (e::J) fs)(r:Gl X x:=by rfl)(w:DB x:=by decide)
  (q:SE X e J:=by rfl)(n:BA X m J:=by rfl):QX X (.Call (.Name x p) (e::J) [] m) (kc d fs):=
 let⟨_,_,ok,s,y,l⟩:=O;⟨PH ok t r s y l o.h w q n⟩
def Yk{T:String}{mk:List D->D}{o:Bool}(d:Tx X.mg)(hv:JT.lookup z=Y (.type T))(r:QA X [a] [M])(q:(T="list"/\mk=.lst/\o=C)\/(T="tuple"/\mk=.tup/\o=I):=by first|exact .inl ⟨rfl,rfl,rfl⟩|exact .inr ⟨rfl,rfl,rfl⟩)(s:X.calm=C:=by rfl)(t:Gl X z:=by rfl)(w:z≠"__name__":=by decide)(y:DB z:=by decide)(l:Gl X "range":=by rfl)
  (s1:SE X (.Call (.Name "range" p2) [a] [] p3) []:=by rfl)(E:SE X a []:=by rfl)
  (n:BA X m []:=by rfl)(Q:BA X p3 []:=by rfl):
  QX X (.Call (.Name z p) [.Call (.Name "range" p2) [a] [] p3] [] m) (jT (GU mk o) [M]):=⟨TQ q s t (Kj d hv) (LU hv) w y l d.n_range r.h s1 E n Q⟩
def Yj{T:String}{mk:List D->D}{o:Bool}(d:Tx X.mg)(hv:JT.lookup z=Y (.type T))(r:QA X [a,b] [M,U])(q:(T="list"/\mk=.lst/\o=C)\/(T="tuple"/\mk=.tup/\o=I):=by first|exact .inl ⟨rfl,rfl,rfl⟩|exact .inr ⟨rfl,rfl,rfl⟩)(s:X.calm=C:=by rfl)(t:Gl X z:=by rfl)(w:z≠"__name__":=by decide)(y:DB z:=by decide)(l:Gl X "range":=by rfl)
  (s1:SE X (.Call (.Name "range" p2) [a,b] [] p3) []:=by rfl)(E:SE X a [b]:=by rfl)
  (n:BA X m []:=by rfl)(Q:BA X p3 [b]:=by rfl):
  QX X (.Call (.Name z p) [.Call (.Name "range" p2) [a,b] [] p3] [] m) (jT (GU mk o) [M,U]):=⟨TN q s t (Kj d hv) (LU hv) w y l d.n_range r.h s1 E n Q⟩
def SU(hv:QO X (.Name x f7) (jm i))(he:QX X e f)(j5:M6 X (.Name x f7) "append":=by rfl)
  (l9:M4 X m [e]:=by rfl)
  (j4:(apos.endLine==m.line)=Td:=by rfl)(I:SE X e []:=by rfl)(g0:BA X m []:=by rfl):QX X (.Call (.Attribute (.Name x f7) "append" apos) [e] [] m) (mH i f):=⟨
 PX.imp (RX KR PySem.F.slot_list_append PySem.F.type_list_append ab1 hv.h (ma he.h oB I) j5 l9 j4 I g0) λσ H Q V=>by
 obtain⟨o,T,rr,δ',E,e,k⟩:=V;unfold mH at e;split at e
 .rename_i l0 w;obtain⟨r,q,h1,e⟩:=jw e;dsimp only at e;split at e
  .rename_i l C;obtain⟨W,e⟩:=jM e;obtain⟨rfl,rfl⟩:=sH e;refine⟨o,T,.slot i,o,E,by unfold jm;rw[w],λv H1 P=>?_⟩;obtain⟨D,n,d⟩:=P;obtain⟨a,g1,R,g2,g3⟩:=n.own i _ w;rw[d]at g1;cases g1;refine⟨.inl ⟨rfl,R,G1.of g2⟩,o,T,r,q,n,h1,λy H2 t=>?_⟩;obtain⟨s,ry⟩:=t.rep n;obtain⟨a',O,xs,Z,N⟩:=s.own i _ C;rw[d]at O;cases O;refine⟨_,xs,y,rfl,rfl,Z,by rw[N.length];exact W,?_⟩;obtain⟨Y,K⟩:=s.write C d<|N.append<|Z9.one ry;exact k _ _ (A4.val ((D.trans t.1).trans K) Y Rep.JB)
  cases e
 cases e⟩
def Yl(hv:QO X (.Name x f7) (jm i))(he:QO X e fo)(j5:M6 X (.Name x f7) "pop":=by rfl)
  (l9:M4 X m [e]:=by rfl)
  (j4:(apos.endLine==m.line)=Td:=by rfl)(hs:SE X e []:=by rfl)(g0:BA X m []:=by rfl):QX X (.Call (.Attribute (.Name x f7) "pop" apos) [e] [] m) (Az i fo):=⟨
 PX.imp (RX KR PySem.F.slot_list_pop PySem.F.type_list_pop ac3 hv.h (ma he.h oB hs) j5 l9 j4 hs g0) λσ H Q hw=>by
 obtain⟨I,T,rr,δ',E,e,k⟩:=hw;unfold Az at e;split at e
 .rename_i l0 Y;obtain⟨o,r,h1,e⟩:=jw e;dsimp only at e;split at e
  .rename_i V l hk D;split at e
   case isFalse=>cases e
   rename_i R;obtain⟨j,hj,e⟩:=jl e;obtain⟨d,hd,e⟩:=jl e;obtain⟨rfl,rfl⟩:=jS e;refine⟨I,T,.slot i,I,E,by unfold jm;rw[Y],λv H1 P=>?_⟩;obtain⟨K1,s,q⟩:=P;obtain⟨a,g1,gn,g2,g3⟩:=s.own i _ Y;rw[q]at g1;cases g1;refine⟨.inl ⟨rfl,gn,G1.of g2⟩,I,T,o,r,s,h1,λy H2 N=>?_⟩;have B:=Ops.cons s N<|Ops.nil<|N.er s;have vy:=kj<|B.view (j:=0) Tl Tl hk;have O:ER X.K H2 T σ r:=B.er.mono (λ_ _ e _=>e) (λb _ z=>B.tt b z) λa z=>B.er.dom a<|B.tt a z;obtain⟨a',W,Z,q2,C⟩:=O.own i _ D;rw[q]at W;cases W;obtain⟨w,w1,w2⟩:=C.get hd;have hl:=C.length;have gZ:J3 Z.length V=SI j:=by rw[hl];exact hj
   obtain⟨s1,s2,s3,s4⟩:=Dq gZ;obtain⟨E3,t⟩:=O.write D q<|Z9.erase j C;refine⟨_,Z,V,j,w,rfl,by rw[vy],q2,R.1,R.2,s1,w1,?_⟩;exact k _ _ (A4.val ((K1.trans B.keep).trans t) E3<|Rep.mono (λb o e n=>t.kp b o e λz=>n<|.inl z) (λb _ z=>z.imp (t.ow b) id) w2)
  cases e
 cases e⟩
def iR1(T:Tx X.mg)(w:QA X [a] [M])(y:Gl X "range":=by rfl)(I:ac [a] X.env=[(Tk,aY a X.env)]:=by rfl):QI X B tg (.Call (.Name "range" p) [a] [] m) (wI M):=⟨PI.imp' (abT y T.n_range w.h I) λF H R O=>by
 obtain⟨Q,T,D,N,E,e,k⟩:=O;obtain⟨os,l,h1,e⟩:=jw e;refine⟨Q,T,os,l,E,h1,λo q Y B=>?_⟩;dsimp only at e;split at e
 .rename_i j n;obtain⟨⟨s,t⟩,e⟩:=jM e;obtain⟨rfl,rfl⟩:=sH e;have hv:=uf B n (j:=0) Tl;obtain⟨C,_⟩:=oj n
  have:o=[.int j]:=by
   have d:=B.len
   cases o with
   |nil=>simp at hv
   |cons v r=>
    cases r with
    |nil=>simp at hv;rw[hv]
    |cons _ _=>simp at C d;lia
  exact⟨j,this,s,t,k _ q B.keep (B.er.mono (λ_ _ e _=>e) (λb _ z=>B.tt b z) λa z=>B.er.dom a<|B.tt a z) (Ao 0 j.toNat)⟩
 cases e⟩
def iR2(T:Tx X.mg)(C:QA X [a,b] [M,U])(I:Gl X "range":=by rfl)(Q:ac [a,b] X.env=[(Tk,aY a X.env),(Tk,aY b X.env)]:=by rfl)(w:ac [b] X.env=[(Tk,aY b X.env)]:=by rfl):QI X B tg (.Call (.Name "range" p) [a,b] [] m) (An M U):=⟨PI.imp' (abS I T.n_range C.h Q w) λP H R N=>by
 obtain⟨Y,T,K,D,E,e,k⟩:=N;obtain⟨os,o,h1,e⟩:=jw e;refine⟨Y,T,os,o,E,h1,λq s F B=>?_⟩;dsimp only at e;split at e
 .rename_i i j n;obtain⟨t,e⟩:=jM e;obtain⟨rfl,rfl⟩:=sH e;have hv:=uf B n (j:=0) Tl;have l:=uf B n (j:=1) Tl;obtain⟨O,_⟩:=oj n
  have:q=[.int i,.int j]:=by
   have d:=B.len
   match q,hv,l with
   |[x,y],hv,l=>simp at hv l;rw[hv,l]
   |x::y::z::r,_,_=>simp at O d;lia
  exact⟨i,j,this,t,k _ s B.keep (B.er.mono (λ_ _ e _=>e) (λb _ z=>B.tt b z) λa z=>B.er.dom a<|B.tt a z) (Ao i (j-i).toNat)⟩
 cases e⟩
def iE{d:lg}{r:Nat}{s:bt}(T:Tx X.mg)(l:QX X a f)(n:Gl X "enumerate":=by rfl)(o:ac [a] X.env=[(I,aY a X.env)]:=by rfl)(s0:SE X a []:=by rfl):QI X B (.Tuple d r s) (.Call (.Name "enumerate" p) [a] [] m) (yj 0 f):=⟨PI.imp' (ada n T.n_enumerate (tx (PX.po l.h) yZ s0) o) λt H R q=>adH q⟩
def iS(h:QX X e f):QI X B tg e (lO f):=⟨PI.imp' (ac8 (B:=B) (PX.po h.h) Pp) λr H R l=>by
 have:lO f=G7 (jB f):=funext λn=>by
  unfold lO G7 jB
  cases f n with
  |none=>rfl
  |some p=>obtain⟨⟨d,o⟩,q⟩:=p;cases d<;>rfl
 rwa [this]at l⟩
def iZV{d:lg}{y:Nat}{Q:bt}(T:Tx X.mg)(r:QO X a (jm i))(s:QO X b (jm j))(l:B i:=by decide)(n:B j:=by decide)(t:Gl X "zip":=by rfl)(w:SE X a [b]:=by rfl)(o:SE X b []:=by rfl)(q:BA X m [b]:=by rfl):
  QI X B (.Tuple d y Q) (.Call (.Name "zip" p) [a,b] [] m) (yi (jm i)<|jm j):=⟨ac7 t T.n_zip r.h s.h (HR l) (HR n) w o q⟩
def gN(l:X.N.Nodup)(G:X.N[i]?=Y x:=by rfl)(s:Loc X.env.scope x:=by first|exact bf rfl|exact bp Tl)(o:X.fn x=C\/X.env.scope.names.lookup x=Y .local:=by first|exact bf rfl|exact bp Tl)(n:A i:=by decide):QG X A (.Name x m) (jo i):=⟨PG.imp' (Ia l G s o) λv y H Q q=>by obtain⟨w,T,d,t,E,r,e,k⟩:=q;obtain⟨G,rfl⟩:=jM e;obtain⟨h1,h⟩:=wx (A:=A) (r:=(d,I)) (v:=v) E (A4.val .refl E r) G n;exact k _ h1 h⟩
def gT{d l:Tg}{k:Nat}(h1:QG X A a d)(n:QG X A b l)(o:X.calm=C:=by rfl)(s:(ba [a,b] X.env).map (·.2)=cy a X.env::(ba [b] X.env).map (·.2):=by rfl)(t:(ba [b] X.env).map (·.2)=cy b X.env::(ba [] X.env).map (·.2):=by rfl)
  (q:(ba [a,b] X.env).length=2:=by rfl)(r:(ba [a,b] X.env).findIdx? (·.1)=SS:=by rfl):QG X A (.Tuple [a,b] k m) (HJ [d,l]):=⟨Qd o (BC h1.h (BC n.h adb t) s) q Tl r⟩
def f0:QF X [] kP:=⟨λd s n H Q O h=>by obtain⟨o,T,b,l,E,e,k⟩:=h;cases e;exact Qb d s n H Q O<|k H .refl E⟩
def f1(h:QT X e ft):QF X [e] ft:=⟨Qa h.h⟩
def bE{q:pZ}{sc:kb}{d:jh}{n:Nat}(he:QX X e f)(hn:q[n+1]?=SS:=by rfl):QB X A d (.ListComp e q sc p) n (lb f):=⟨PB.imp' (Qj hn he.h) λy H N D=>by
 obtain⟨O,T,Y,Z,W,B,e,k⟩:=D;obtain⟨r,l,h1,e⟩:=jw e;obtain⟨K,e⟩:=jM e;obtain⟨rfl,rfl⟩:=sH e;refine⟨O,T,r,l,B.er,h1,λv s P=>?_⟩;obtain⟨C,V⟩:=P.rep B.er;have E:SK A y O H y l s:=P.1.sk;have Q:=B.step E C;obtain⟨w,F,I⟩:=Q.at';refine⟨w,F,by rw[I.length];exact K,k y _ ?_ ?_⟩
 .have:Js A d y l s y l (upd s d<|.lst<|w++[v]):=⟨λa o e n R=>by rw[ke R];exact e,λi a z=>.inl z,λa z=>by
   by_cases t:a=d
   .subst t;rw[jL];simp
   rw[ke t];exact z,λ_ _=>rfl⟩
  exact E.L5.trans this
 have hk:∀b o,s b=SI o->¬T b->upd s d (.lst<|w++[v]) b=SI o:=λb o e n=>by rw[ke<|by intro z;subst z;exact n B.td];exact e
 have hd:∀a,T a->Ow (upd s d (.lst<|w++[v]) a):=λa z=>by
  by_cases t:a=d
  .subst t;rw[jL];trivial
  rw[ke t];exact C.dom a z
 refine⟨C.mono hk (λ_ _ z=>z) hd,B.td,w++[v],jL,?_⟩;exact Z9.mono (λb o e n=>hk b o e λz=>n<|.inr z) (λ_ _ z=>z)<|I.append<|Z9.one V⟩
def bF{l:pZ}{r:kb}{d:jh}{n:Nat}{c:pD}{q:DK}{tt:Tg}{U:FB}(N:l[n+1]?=Y c)(Q:QI X (λ_=>False) c.target c.iter q)(O:QG X A c.target tt)(s:QF X c.ifs ft)(T:QB X A d (.ListComp e l r p) (n+1) U)(t:X.xe=λ_ _=>False:=by rfl)(y:X.calm=C:=by rfl)
  (w:c.is_async=0:=by rfl)(H:∀o,l[n+1+1]?=Y o->o.is_async=0:=by intro o h;cases h;try rfl)(E:∀x,ax c.iter X.env x=pure x:=by intro _;rfl):QB X A d (.ListComp e l r p) n (OA q tt ft U):=⟨Qi t y (bf ⟨_,_,_,_,rfl⟩) N w H E Q.h O.h s.h T.h⟩
def cOk{N P:jK}{l scope:kb}{N':jK}{d:kz}(S:Z2 N P l)(h:uD N l scope N' d k=C:=by decide+kernel)(n:X.N=N:=by rfl)(o:X.env.scope=l:=by rfl):DH X N' scope d k:=DD n o h
abbrev Blk(X:Cx)(d:kz)(o:pZ)(r:kb)(P:Cx->Prop):Prop:= ∀(cl:kL)(T:jh)(q:jk)(l:Hp)(n:lG)(h:kf),
 (X.comp (cN X.N d o) r cl T q l n h).N.Nodup->P (X.comp (cN X.N d o) r cl T q l n h)
def xC{c:pD}{n:pZ}{o:jv}{scope:kb}{s:DK}{tt:Tg}{t:FT}{U:FB}{l:kz}(T:QI X (λi=>i∉l) c.target c.iter s)
  (u9:Blk X l (c::n) scope λY'=>QG Y' (λi=>TD l<=i) c.target tt/\QF Y' c.ifs t/\∀d,QB Y' (λi=>TD l<=i) d (.ListComp o (c::n) scope m) 0 U)
  (C:uD X.N X.env.scope scope (cN X.N l (c::n)) l k=Td:=by kernel_rfl)(Q:decide (cN X.N l (c::n)).Nodup=Td:=by kernel_rfl)
  (H:X.calm=Td:=by rfl)(E:c.is_async=0:=by rfl)(O:∀r,n[0]?=Y r->r.is_async=0:=by intro r h;cases h;try rfl)(I:∀x,ax c.iter X.env x=pure x:=by intro _;rfl):QX X (.ListComp o (c::n) scope m) (kJ l k s tt t U):=⟨PM (DD Tl Tl C) H E O I T.h λcl C D w y q=>let⟨a,b,c⟩:=u9 cl C D w y q<|uL Q;⟨a.h,b.h,λd=>(c d).h⟩⟩
def sC{c:pD}{n:pZ}{o:jv}{scope:kb}{s:DK}{tt:Tg}{y:FT}{U:FB}{l:kz}{w t:bt}(Q:X.N.Nodup)(pi:QI X (λi=>i∉l) c.target c.iter s)
  (u9:Blk X l (c::n) scope λY'=>QG Y' (λi=>TD l<=i) c.target tt/\QF Y' c.ifs y/\∀d,QB Y' (λi=>TD l<=i) d (.ListComp o (c::n) scope m) 0 U)
  (C:uD X.N X.env.scope scope (cN X.N l (c::n)) l k=Td:=by kernel_rfl)(nd:decide (cN X.N l (c::n)).Nodup=Td:=by kernel_rfl)
  (H:cI (.ListComp o (c::n) scope m) (Y<|.Name x w) t.line X.env=pure Td:=by rfl)(G:X.N[i]?=Y x:=by rfl)(hx:X.env.scope.names.lookup x=Y .local:=by rfl)(hf:X.fn x=Td:=by rfl)(O:A i:=by decide)
  (hc:X.calm=Td:=by rfl)(T:c.is_async=0:=by rfl)(l4:∀r,n[0]?=Y r->r.is_async=0:=by intro r h;cases h;try rfl)(hs:∀x,ax c.iter X.env x=pure x:=by intro _;rfl):QS X A L H0 (.Assign [.Name x w] (.ListComp o (c::n) scope m) t) (lE i<|kJ l k s tt y U):=⟨adz H (DD Tl Tl C) hc T l4 hs pi.h (Ia Q G (bf hx)<|bf hf) O λcl C D E I q=>let⟨a,b,c⟩:=u9 cl C D E I q<|uL nd;⟨a.h,b.h,λd=>(c d).h⟩⟩
def s0:QQ X A L H0 [] ki:=⟨GJ.imp' P6 λD h H d=>by obtain⟨δ,T,out,E,l,e,k⟩:=d;cases e;exact k h H .refl E⟩
def s1(h:QS X A L H0 S u)(C:QQ X A L H0 Ss v):QQ X A L H0 (S::Ss) (jA u v):=⟨GJ.imp' (adA h.h C.h) λD N H I=>by
 obtain⟨δ,T,out,E,t,e,k⟩:=I;obtain⟨o,y,e⟩:=jl e;refine⟨δ,T,o,E,t,y,?_⟩
 cases o with
 |nx δ1=>
  intro O Q s w;refine⟨δ1,T,out,w,t.step s,e,?_⟩
  cases out with
  |nx δ2=>exact λd l n q=>k d l (s.trans n) q
  |bk δ2=>exact λd l n q=>k d l (s.trans n) q
  |ct δ2=>exact λd l n q=>k d l (s.trans n) q
  |rt r δ2=>exact λv d l n R2=>k v d l (s.trans n) R2
 |rt r δ1=>cases e;exact k
 |bk δ1=>cases e;exact k
 |ct δ1=>cases e;exact k⟩
def sR(h:QX X e f):QS X A L H0 (.Return (Y e) m) (nV f):=⟨PS.imp' (Mz h.h) λD Q H t=>by
 obtain⟨w,T,out,E,r,e,k⟩:=t;obtain⟨p,l,e⟩:=jl e;cases e;refine⟨w,T,p.1,p.2,E,l,λv n P=>k v Q n P.1.sk ?_⟩;obtain⟨⟨d,o⟩,y⟩:=p
 cases o
 .exact P.2
 obtain⟨q,h1,s,l⟩:=P.2;exact⟨q,h1,r.fresh s,l⟩⟩
def sRV{n:Nat}(q:∀i,L.p i->i<n)(hq:n<=i:=by decide)(h1:X.N[i]?=SI x:=by rfl)(C:JE X.env.scope x:=by first|exact bf rfl|exact bp (bf Tl)|exact bp<|bp Tl)(h3:DB x:=by decide)(h4:(x==("__classdict__":ap))=Tk:=by decide):QS X A L H0 (.Return (SI<|.Name x p) m) (rH i):=⟨PS.imp' (Mz<|yb h1 C h3 h4) λD y H hw=>by
 have Z: ¬L.p i:=λh=>absurd (q _ h)<|LB.2 hq;obtain⟨s,T,out,E,W,e,k⟩:=hw;unfold rH at e
 cases G:s[i]? with
 |none=>rw[G]at e;cases e
 |some q=>
  cases q with
  |none=>rw[G]at e;cases e
  |some p=>
   obtain⟨d,b⟩:=p;have du:i<(TD s):=(uT.mp G).1
   cases b with
   |false=>rw[G]at e;cases e;obtain⟨v,h1,C⟩:=E.val i d G;exact⟨v,h1,k v y H .refl ⟨E,C⟩⟩
   |true=>
    rw[G]at e;cases e;obtain⟨a,h1,C⟩:=E.own i d G
    have l:∀j b,X0 y (s.set i SS) j b->i≠j/\X0 y s j b:=λj b a'=>by
     obtain⟨r,g1,g2⟩:=a'
     rcases om g1 with⟨_,_,q⟩|⟨ne,q⟩
     .cases q
     exact⟨ne,r,q,g2⟩
    have o:∀b,Z8 y (s.set i SS) b->Z8 y s b/\b≠a:=λb a'=>by
     obtain⟨j,r,g1,g2⟩:=a'
     obtain⟨ne,O,F,K⟩:=l j b ⟨r,g1,g2⟩;exact⟨⟨j,O,F,K⟩,λz=>ne<|by subst z;exact E.inj i j d O _ G F h1 K⟩
    have P:Z8 y s a:=⟨i,d,G,h1⟩
    have sub:∀b,H b≠SS->(Z8 y (s.set i SS) b\/(T b\/b=a))->(Z8 y s b\/T b):=λb _ z=>by
     rcases z with z|z|z
     .exact .inl (o b z).1
     .exact .inr z
     subst z;exact .inl P
    refine⟨.ref a,h1,k (.ref a) y H ⟨λ_ _ e _=>e,λj b z=>.inl (l j b z).2,λ_ z=>z,λ_ _=>rfl⟩ ⟨a,rfl,?_,?_,C.mono (λ_ _ e _=>e) sub λ_ e=>e⟩⟩
    .rcases W.ow i a ⟨d,G,h1⟩with z|z
     .exact absurd z Z
     exact z
    refine⟨by rw[sJ];exact E.len,λj r I=>?_,λj r I=>?_,λj k r V b I hk g1 g2=>?_,λb z t=>?_,λb z=>?_⟩
    .rcases om I with⟨_,_,q⟩|⟨ne,q⟩
     .cases q
     obtain⟨w,Q,Y⟩:=E.val j r q;exact⟨w,Q,Rep.mono (λ_ _ e _=>e) sub Y⟩
    .rcases om I with⟨_,_,q⟩|⟨ne,q⟩
     .cases q
     obtain⟨w,Q,Y⟩:=E.own j r q;exact⟨w,Q,Y.mono (λ_ _ e _=>e) sub λ_ e=>e⟩
    .obtain⟨_,O,q1,q2⟩:=l j b ⟨r,I,g1⟩;obtain⟨_,R,q3,q4⟩:=l k b ⟨V,hk,g2⟩;exact E.inj j k O R b q1 q3 q2 q4
    .obtain⟨z1,z2⟩:=o b z;rcases t with t|t
     .exact E.nT b z1 t
     exact z2 t
    rcases z with z|z
    .exact E.dom b z
    subst z;exact E.JR P⟩
def sE(h:QX X e f)(n:cI e SS m.line X.env=pure I:=by rfl):QS X A L H0 (.Expr e m) (oP f):=⟨PS.imp' (P7 h.h n) λD r H o=>by obtain⟨q,T,out,E,s,e,k⟩:=o;obtain⟨p,l,e⟩:=jl e;cases e;exact⟨q,T,p.1,p.2,E,l,λv d P=>k r d P.1.sk (P.rep E).1⟩⟩
def sI(n:QT X c ft)(d:QQ X A L H0 Ss u)(l:QQ X A L H0 Ts v):QS X A L H0 (.If c Ss Ts m) (G4 ft u v):=⟨T7 n.h d.h l.h⟩
def sW{n:Nat}(l:QT X c ft)(d:QQ X A L H0 Ss u)(o:fw (ae X.prog X.w) X.A X.env X.xe:=by exact PassesOwn.never):QS X A L H0 (.While c Ss [] m) (pR ft u n):=⟨abP o l.h d.h⟩
def sF{d:DK}{t:Tg}(G:QI X (λ_=>False) tg e d)(o:QG X A tg t)(l:QQ X A L H0 Ss u)(q:fw (ae X.prog X.w) X.A X.env X.xe:=by exact PassesOwn.never)(n:X.calm=C:=by rfl)(r:∀x,ax e X.env x=pure x:=by intro _;rfl):QS X A L H0 (.For tg e Ss [] m) (oA d t u):=⟨P4 q n G.h o.h l.h r⟩
def sS(q:X.N.Nodup)(t:QX X e f)(G:X.N[i]?=SI x:=by rfl)(I:Loc X.env.scope x:=by first|exact bf rfl|exact bp Tl)(w:X.fn x=Td\/X.env.scope.names.lookup x=SI .local:=by first|exact bf rfl|exact bp Tl)(s:A i:=by decide)(y:cI e (SI<|.Name x p) m.line X.env=pure Tk:=by rfl):QS X A L H0 (.Assign [.Name x p] e m) (lE i f):=⟨PS.imp' (My q G I t.h y w) λD Y H C=>by obtain⟨O,T,out,E,Q,e,k⟩:=C;obtain⟨r,d,o,e⟩:=jw e;obtain⟨G,rfl⟩:=jM e;refine⟨O,T,r,d,E,o,λv l P=>?_⟩;obtain⟨h1,n⟩:=wx (A:=A) E P G s;exact k _ l h1 n⟩
def sT{t:Tg}{pt:bt}(I:QX X e f)(O:QG X A (.Tuple J k pt) t)(Q:cn [.Tuple J k pt] e m.line X.env=pure Tk:=by rfl)(l:cq [.Tuple J k pt] e X.env=pure SS:=by rfl)(h1:(ba [.Tuple J k pt] X.env).map (·.2)=[cy (.Tuple J k pt) X.env]:=by rfl):QS X A L H0 (.Assign [.Tuple J k pt] e m) (Tp t f):=⟨PS.imp' (GQ I.h O.h Q l h1) λD K H l=>by obtain⟨Y,T,out,E,F,e,k⟩:=l;obtain⟨r,d,h1,e⟩:=jw e;obtain⟨n,C,e⟩:=jl e;cases e;refine⟨Y,T,r,d,E,h1,λv w P=>?_⟩;obtain⟨s,N⟩:=P.rep E;exact⟨d,T,r.1,n,s,N,C,λo y q=>k o w (P.1.sk.trans y) q⟩⟩
def AX{n:bt}(hv:QO X (.Name x f7) (jm i))(he:QX X e f)(G:QO X a fo)
  (ha:∀v,cy (.Subscript (.Name x f7) a n) X.env v=(do
   let y <-b6 [v] (aY (.Name x f7) X.env)
   let I' <-b6 [v,y] (aY a X.env)
   cW n
   b6 [v,y,I'] (jc y I' v)
   Go [v,y,I'] []):=by intro _;rfl)
  (hs:cn [.Subscript (.Name x f7) a n] e m.line X.env=pure I:=by rfl)(C:cq [.Subscript (.Name x f7) a n] e X.env=pure SS:=by rfl)
  (h1:(ba [.Subscript (.Name x f7) a n] X.env).map (·.2)=[cy (.Subscript (.Name x f7) a n) X.env]:=by rfl):QS X A L H0 (.Assign [.Subscript (.Name x f7) a n] e m) (zR i f fo):=⟨PS.imp' (GQ he.h (MN hv.h G.h acR ha) hs C h1) λD O H C=>by
 obtain⟨P,T,out,E,fi,e,k⟩:=C;obtain⟨r,d,h1,e⟩:=jw e;dsimp only at e;split at e
 case h_2=>cases e
 rename_i y0 h0;obtain⟨o,w,h2,e⟩:=jw e;dsimp only at e;split at e
 .rename_i kk l hk N;obtain⟨j,hj,e⟩:=jl e;cases e;refine⟨P,T,r,d,E,h1,λv V q=>⟨d,JU T r v,.slot i,d,q.er E,by unfold jm;rw[h0],λv2 H2 s=>⟨d,JU T r v,o,w,s.er<|q.er E,h2,λv3 W P3=>?_⟩⟩⟩;have jb:C5 X.K T O P H (.val r) d v V:=q;have B:=Ops.cons E jb<|Ops.cons (q.er E) s<|Ops.cons (s.er<|q.er E) P3<|Ops.nil<|P3.er<|s.er<|q.er E;have Q:ER X.K W T O w:=B.er.mono (λ_ _ e _=>e) (λb _ z=>B.tt b z) λa z=>B.er.dom a<|B.tt a z;have t:O[i]?=SI (SI v2):=s.2.2;obtain⟨a,Y,xs,q2,F⟩:=Q.own i _ N;rw[t]at Y;cases Y;have vk:=kj<|B.view (j:=2) Tl Tl hk;have rv:=B.rep E (j:=0) (r:=r) Tl Tl;refine⟨a,xs,kk,j,rfl,vk,q2,by rw[F.length];exact hj,?_⟩;obtain⟨R,Z⟩:=Q.write N t<|Z9.set rv j F;exact k _ _ (B.keep.trans Z).sk R
 cases e⟩
def sDP{C:bt}(hu:un X.A 1)(hv:QO X (.Name x f7) (jm i))(he:QX X e f)(G:QO X a fo)
  (ha:∀v,cy (.Subscript (.Name x f7) a C) X.env v=(do
   let ov <-b6 [v] (aY (.Name x f7) X.env)
   let iv <-b6 [v,ov] (aY a X.env)
   cW C
   b6 [v,ov,iv] (jc ov iv v)
   Go [v,ov,iv] []):=by intro _;rfl)
  (hs:cn [.Subscript (.Name x f7) a C] e m.line X.env=pure Tk:=by rfl)(hw:cq [.Subscript (.Name x f7) a C] e X.env=pure SS:=by rfl)
  (h1:(ba [.Subscript (.Name x f7) a C] X.env).map (·.2)=[cy (.Subscript (.Name x f7) a C) X.env]:=by rfl):QS X A L H0 (.Assign [.Subscript (.Name x f7) a C] e m) (Mc i f fo):=⟨PS.imp' (GQ he.h (MN hv.h G.h (ado hu) ha) hs hw h1) λD Q H hw=>by
 obtain⟨δ,T,out,E,fi,e,k⟩:=hw;obtain⟨r,d,h1,e⟩:=jw e;dsimp only at e;split at e
 case h_2=>cases e
 rename_i y0 h0;obtain⟨o,l,h2,e⟩:=jw e;dsimp only at e;split at e
 .rename_i R V W hk h3;obtain⟨⟨P,q⟩,e⟩:=jM e;cases e;refine⟨δ,T,r,d,E,h1,λv H1 N=>⟨d,JU T r v,.slot i,d,N.er E,by unfold jm;rw[h0],λv2 H2 F=>⟨d,JU T r v,o,l,F.er<|N.er E,h2,λv3 Y P3=>?_⟩⟩⟩;have jb:C5 X.K T Q δ H (.val r) d v H1:=N;have B:=Ops.cons E jb<|Ops.cons (N.er E) F<|Ops.cons (F.er<|N.er E) P3<|Ops.nil<|P3.er<|F.er<|N.er E;have E3:ER X.K Y T Q l:=B.er.mono (λ_ _ e _=>e) (λb _ z=>B.tt b z) λa z=>B.er.dom a<|B.tt a z;have y:Q[i]?=SI (SI v2):=F.2.2;obtain⟨a,q1,us,q2,q3⟩:=E3.own i _ h3;rw[y]at q1;cases q1;have vk:=B.view (j:=2) Tl Tl hk;have rv:=B.rep E (j:=0) (r:=r) Tl Tl;have oa:Z8 Q l a:=⟨i,_,h3,y⟩
  have kp:∀(s:HO) b u,Y b=SI u->¬(Z8 Q l b\/T b)->upd Y a s b=SI u:=λs b u e n=>by rw[ke<|by intro z;subst z;exact n<|.inl oa];exact e
  have ks10:10000<sizeLine:=by rw[kT];decide
  have fin:∀s Z,Bf X.K (SI s) .dct (ya V W R r.1).1 (ya V W R r.1).2 Z->Z9 X.K Y (λa=>Z8 Q l a\/T a) (ya V W R r.1).2 Z->D.nx Q (upd Y a s):=λs Z g1 g2=>by obtain⟨E4,K4⟩:=E3.Dd (o:=s) (d':=.Z3 .dct (ya V W R r.1).1 (ya V W R r.1).2) h3 y ⟨Z,by rw[jL];exact g1,Z9.mono (kp s) (λ_ _ z=>z) g2⟩;exact k _ _ (B.keep.trans K4).sk E4
  refine⟨a,rfl,?_⟩;rcases q2 with⟨kvs,eH,rfl,rfl⟩|⟨kvs,eH,rfl,rfl⟩
  .rw[kN]at q;rcases qO P with⟨κ,g1,_⟩|⟨τ,g1,g2⟩
   .have w:=qz g1 vk;have O:=pv g1;subst O;obtain⟨I,p2⟩:=H9 tU (k:=κ) rv q3;refine .inl ⟨_,by rw[w];exact Hv.k eH<|by lia,fin _ _ (.inl ⟨_,rfl,I,rfl⟩) p2⟩
   have dr:kvs=[]:=by
    cases kvs with
    |nil=>rfl
    |cons p kvs=>obtain⟨c,hc⟩:=g2 (lV p.1) (by simp);exact(Al hc).elim
   subst dr;obtain⟨b,w,eb⟩:=oz g1 vk;have O:=tJ g1;subst O;obtain⟨I,p2⟩:=H9 (kd:=λk=>.tup (k.map lV)) uA (k:=τ) (kvs:=[]) rv q3;exact .inr<|.inr ⟨τ,b,eH,w,eb,fin _ _ (.inr ⟨[(τ,v)],rfl,I,rfl⟩) p2⟩
  rw[kN]at q;rcases qO P with⟨κ,g1,g2⟩|⟨τ,g1,_⟩
  .have dr:kvs=[]:=by
    cases kvs with
    |nil=>rfl
    |cons p kvs=>obtain⟨c,hc⟩:=g2 (.tup<|p.1.map lV) (by simp);exact(C2 hc).elim
   subst dr;have w:=qz g1 vk;have O:=pv g1;subst O;obtain⟨I,p2⟩:=H9 tU (k:=κ) (kvs:=[]) rv q3;exact .inr<|.inl ⟨κ,eH,w,fin _ _ (.inl ⟨[(κ,v)],rfl,I,rfl⟩) p2⟩
  obtain⟨b,w,eb⟩:=oz g1 vk;have O:=tJ g1;subst O;obtain⟨I,p2⟩:=H9 (kd:=λk=>.tup (k.map lV)) uA (k:=τ) rv q3;refine .inl ⟨_,by rw[w];exact Hv.t eH eb<|by lia,fin _ _ (.inr ⟨_,rfl,I,rfl⟩) p2⟩
 cases e⟩
end
def Fz(K:jJ)(b:ml)(x:ap)(st:aW):Prop:= ∃f a,b x=Y (.ref f)/\JP K x x st f a
def fz{K:jJ}{h:jH}{e:ml}{x:ap}{st:aW}{f:jh}{g:jr}{i an:Option jh}{m:wc}{kV b j d ct:jr}(X:K.In h)(G:h.Ns ag e)(a:aQ K ag x=Y (Y<|.ref f))
  (l:K.lookup f=Y ⟨g,i,.func<|bD x x (qk st) (mJ st) (jy st) .none kV b j an d ct,m⟩)(c:cS K d x=C)(k:cg K (.ref f)=C):Fz K e x st:=⟨f,_,PySem.W.mg_of X G a,NY l c k⟩
def Jz(x:ap)(st:aW)(c:jK):Prop:= ∀(kV a e:jr)(an:Option jh)(d ct:jr)(b:kF),TD b=TD c->db (bD x x (qk st) (mJ st) (jy st) .none kV a e an d ct) ⟨b,[]⟩=pure (c.zip b)
def Ko{N P:jK}{a:kb}(h1:a.kind=.function:=by rfl)(b:a.isCoroutine=I:=by rfl)(c:a.isGenerator=I:=by rfl)(d:N.Nodup:=by decide+kernel)(e:N.take P.length=P:=by rfl)(f:∀x∈P,a.names.lookup x=Y .local\/a.names.lookup x=Y .cell:=by decide+kernel)(g:∀y∈a.names,y.2≠ .free:=by decide+kernel):Z2 N P a:=⟨h1,b,c,d,e,f,g⟩
abbrev Bd(Z:ZZ)(k:Nat)(x:ap)(st:aW)(N d:jK)(c:kz)(fs:FS):Prop:= ∀(f:jh)(b:jr)(A:jF)(a:List c9)(s:jk)(H:Hp)(E:XK)(L:LL),(∀i,L.p i->i<TD d)->YP k (A.deeper<|bi x (jy st) s.heap.objs.size f b)->
 un (A.deeper<|bi x (jy st) s.heap.objs.size f b) 60->un (A.deeper<|bi x (jy st) s.heap.objs.size f b) 1->un (A.deeper<|bi x (jy st) s.heap.objs.size f b) 62->un (A.deeper<|bi x (jy st) s.heap.objs.size f b) 90->N.Nodup->
 QQ (qW El Z.P Z.w Z.K Z.mg Z.base N x (jy st) f b A a s H E).J2 (λi=>i∈c) L H (mJ st) fs
def fnB{Z:ZZ}{k:Nat}{x:ap}{st:aW}{N c:jK}{b:kz}{fs:FS}{f:jh}{d:nu}(F:JP Z.K x x st f d)(S:Z2 N c (jy st))(j:Bd Z k x st N c b fs):DF Z.P Z.w Z.K Z.mg Z.base El (k+1) f d c (Hj Z.K<|Ae (TD N) (TD c) b fs):=
 UP F S λg A a s H E L i e=>by have:=e.un;exact(j f g A a s H E L i e (by unfold un;omega) (by unfold un;omega) (by unfold un;omega) (by unfold un;omega) S.nd).h
def ozB{Z:ZZ}{k:Nat}{x:ap}{st:aW}{N d:jK}{c:kz}{fs:FS}(a:Fz Z.K Z.mg x st)(S:Z2 N d (jy st))(b:Jz x st d)(g:Bd Z k x st N d c fs):Oz Z (k+1) x d (Ae (TD N) (TD d) c fs):=
 let⟨f,e,m,F⟩:=a;⟨f,e,fnB F S g,m,F.kp,F.binds b⟩
def Km{P:List jr->Prop}(h:P []):∀b:List jr,TD b=0->P b:=λb e=>by cases b with|nil=>exact h|cons a l=>cases e
def Ke{P:List jr->Prop}{n:Nat}(h:∀a,∀b:List jr,TD b=n->P (a::b)):∀b:List jr,TD b=n+1->P b:=λb e=>by cases b with|nil=>cases e|cons a l=>exact h a l<|Nat.succ.inj e
def oz0{Z:ZZ}{x:ap}{st:aW}{c:jK}(a:Fz Z.K Z.mg x st)(b:Jz x st c):Oz Z 0 x c (λ_=>U):=
 let⟨f,d,m,F⟩:=a;⟨f,d,Q5,m,F.kp,F.binds b⟩
def fzL{K:jJ}{h:ml}{x y:ap}{st:aW}{g:jh}(a:Fz K h x st)(i:h x=Y (.ref g))(b:Jz x st [y]):∃c,JP K x x st g c/\∀(s:jk)(v:jr),fZ s c ⟨[v],[]⟩ [(y,v)]:=by obtain⟨f,c,m,F⟩:=a;have e:=i.symm.trans m;cases e;obtain⟨l,n,kV,d,k,an,j,ct,o,e,_⟩:=F.ex;exact⟨c,F,λs v=>by subst e;exact .of_eq<|b kV d k an j ct [v] J⟩
def txK{K:jJ}{h:jH}{g:ml}(X:K.In h)(G:h.Ns ag g)(i:aQ K ag "len"=Y U)(j:aQ K ag "abs"=Y U)(k:aQ K ag "int"=Y U)(l:aQ K ag "tuple"=Y U)(m:aQ K ag "list"=Y U)(n:aQ K ag "range"=Y U)(o:aQ K ag "isinstance"=Y U)(p:aQ K ag "bool"=Y U)(q:aQ K ag "max"=Y U)(r:aQ K ag "min"=Y U)(a:aQ K ag "all"=Y U)(b:aQ K ag "any"=Y U)(c:aQ K ag "sorted"=Y U)(d:aQ K ag "enumerate"=Y U)(e:aQ K ag "zip"=Y U)(f:aQ K ag "set"=Y U):Tx g:=⟨oU X G i,oU X G j,oU X G k,oU X G l,oU X G m,oU X G n,oU X G o,oU X G p,oU X G q,oU X G r,oU X G a,oU X G b,oU X G c,oU X G d,oU X G e,oU X G f⟩
noncomputable abbrev LY(i:Int):Int:=if i<0 then -i else i
section
variable {d:jI}{w:jG}{A:jF}{E:jZ}{s:jk}
def acO{a:jh}{f:kF}{r:jn}{n:Nat}{P:gC->jk->Prop}(M:s.heap.get? a=SI (bo "list" f.toArray n))(hi:ey f r)(Y:f.length<64)
  (h:∀g y out c,(∀b o,b≠a->s.heap.get? b=SI o->g.get? b=SI o)->g.get? a=SI (bo "list" out c)->KskOut Tk (r.map LY) f out.toList->P (.done<|.ret .none) {s with heap:=g,toks:=y}):
  aa (ae d w) A (ksk_tree a (.builtin "abs") Tk) P E s:=by
 have ha:a<s.heap.objs.size:=kX M;have W:=hi.length;have T:∀k,k<=f.length->k<=sizeLine:=λk hk=>by rw[kT];omega
 unfold ksk_tree;refine ji<|FN M Tl<|ji<|vg M Tl ?_ (T _ (by simp))<|mw _;obtain⟨B,n6⟩:∃B,(s.heap.update a<|aM λ_=>(#[]:Array jr)).get? a=SI (bo "list" #[] B):=⟨_,xw M λ_=> #[]⟩
 refine ji<|zr n6 Tl<|ji<|CF ?_<|T _ (by simp);refine ji<|Ct ?_<|mw _;refine mE ?_
 let h1:=qh s.heap a f
 let m:Addr:=((s.heap.update a<|aM λ_=>(#[]:Array jr)).push<|bo "tuple" f.toArray 0).objs.size
 have hk:m=s.heap.objs.size+1:=by show _=_;simp -iota only[m];rw[size_push',Heap.size_update]
 have L:a≠m:=by rw[hk];exact kU<|uO ha
 have old:∀b o,b≠a->s.heap.get? b=SI o->h1.get? b=SI o:=λb o z e=>kB _ (kB _ (by rw[FL _ _ _ _ z];exact e));have F:h1.get? a=SI (bo "list" #[] B):=kB _ (kB _ n6);have dY:h1.get? m=SI (bo "list" #[] 0):=kW _ rfl;show aa (ae d w) A (ksk_rest a (.builtin "abs") Tk f.toArray B<|.ref m) P E {s with heap:=h1};unfold ksk_rest;refine ji<|qy ?_;rw[List.forIn_toArray];refine ji<|ksk_fold (λi U=>∃g y l e,U={s with heap:=g,toks:=y}/\(∀b o,b≠m->h1.get? b=SI o->g.get? b=SI o)/\g.get? m=SI (bo "list" l e)/\ey l.toList ((r.map LY).take i)) f 0 _ ⟨h1,s.toks,#[],0,rfl,λ_ _ _ e=>e,dY,.nil⟩ (λj x U Z D=>?_) λU D=>?_
 .obtain⟨g,y,l,e,rfl,N,G,p⟩:=D;have V:j<f.length:=(uT.mp Z).1;obtain⟨t,X⟩:=hi.get j r[j]<|km (by omega);rw[Z]at X;cases X
  have q:l.size<=f.length:=by have:=p.length;rw[lT,uR]at this;omega
  refine ji<|vq<|LK λu gv=>?_;dsimp only;have s1:=qa g m (aM (·.push (.int (LY r[j]) u)));refine ji<|vg (s:={s with heap:=g,toks:=gv}) G Tl ?_ (T _ q)<|lY (v6 (Array.size_push ..)) (by rw[kT];omega);refine ju ⟨rfl,_,_,l.push<|.int (LY r[j]) u,_,rfl,λb o z e=>(s1.2 b z).trans<|N b o z e,xw G _,?_⟩;rw[zt,List.take_add_one,lh,km (show j<r.length by omega),fv];rw[zt]at p;exact p.append<|.cons _ _ .nil
 obtain⟨g,y,l,e,rfl,N,G,p⟩:=D;have p:ey l.toList (r.map LY):=by rwa [zt,dV<|by simp;omega]at p
 have q:l.size=f.length:=by have:=p.length;rw[lT,kN]at this;omega
 have J:(l.zip f.toArray).size=f.length:=by rw[n9,q,lH,vw]
 refine ji<|FN (s:={s with heap:=g,toks:=y}) G Tl ?_
 have v:∀st:sy,(fI st).Perm (l.zip f.toArray)->SortedTo (fI st) (fI st).size->f3 st=SS->aa (ae d w) A (ksk_tail a Tk B (.ref m) st) P E {s with heap:=g,toks:=y}:=λst O R K=>by
  have s1:=qa g m<|aM λ_=>(#[]:Array jr);have S:(g.update m<|aM λ_=>(#[]:Array jr)).get? a=SI (bo "list" #[] B):=(s1.2 a L).trans<|N a _ L F;have s2:=qa (g.update m<|aM λ_=>(#[]:Array jr)) a (aM λ_=>(fI st).map (·.2));unfold ksk_tail;simp -iota;refine ji<|vg (s:={s with heap:=g,toks:=y}) G Tl ?_ (T _ (by omega))<|mw _;refine ji (CD (ji (zr S Tl (ji (vg S Tl ?_ (mw _) (l6 (show((fI st).map (·.2)).size<=sizeLine from T _ (by rw[oC,O.size_eq,J];exact kD _))))))));rw[K];simp -iota;refine ju<|h _ _ _ _ (λb o z e=>?_) (xw S _) (ksk_out (b:=Tk) p O R);have I:b≠m:=by rw[hk];exact kU<|uO<|kX e
  exact(s2.2 b z).trans ((s1.2 b I).trans<|N b o I<|old b o z e)
 unfold ksk_end;simp -iota only[mT];by_cases H:f.toArray.size<2
 .rw[jz H,jz H];refine ji<|ju ?_;rw[FQ];refine ji<|ju<|v _ (Array.Perm.refl _) (λi j l5 V=>?_) rfl;have ee:j<(l.zip f.toArray).size:=V;rw[J]at ee;rw[lH]at H;have:i=j:=by omega
  subst this;exact x8 _
 rw[jP H,jP H];rw[lH]at H;rw[ksk_kind p<|by rw[q];omega];refine ji (ju ?_)
 refine ji (oJ (wpS_sortRuns (a₀:=l.zip f.toArray) (st:=SortSt.mk' B0 (l.zip f.toArray) #[] 7 SS) (Q:=λ_ C=>(fI C).Perm (l.zip f.toArray)/\f3 C=SS/\SortedTo (fI C) (l.zip f.toArray).size)
  (ksk_intKeys p) ⟨Array.Perm.refl _,rfl,rfl,rfl⟩ (by rw[J];omega) (by rw[J];exact Y) λC a1 a2 a3=>⟨a1,a2,a3⟩) ?_ λ_ _ e=>e)
 rintro⟨⟨⟩,C⟩ U ⟨rfl,O,K,R⟩;exact v C O (by rw[O.size_eq];exact R) K
end
def aD:D->Int
 |.int i=>LY i
 |_=>0
noncomputable def MZ:D->Bool
 |.int _=>C
 |_=>I
def JC(x y:D):Bool:=decide<|aD x<aD y
def yk:D->Option (D×Bool)
 |.lst l=>if l.all MZ=C/\(l.map aD).Nodup/\(TD l)<64 then Y (.lst<|nR JC l,C)else U
 |_=>U
def adN{x:D}:∀{l:List D},l.Pairwise (λa b=>aD a<=aD b)->(Dr JC x l).Pairwise λa b=>aD a<=aD b:=by
 intro g
 induction g with
 |nil=>intro _;simp[Dr]
 |cons y l f=>
  intro h;obtain⟨h1,e⟩:=AQ.mp h;unfold Dr;by_cases d:aD y<aD x
  .rw[jz<|by simpa[JC]using d];refine AQ.mpr ⟨λz c=>?_,f e⟩;rcases nQ.mp ((ux JC x l).mem_iff.mp c)with rfl|c
   .omega
   exact h1 z c
  rw[jP<|by simpa[JC]using d];refine AQ.mpr ⟨λz c=>?_,h⟩;rcases nQ.mp c with rfl|c
  .omega
  have:=h1 z c;omega
def Bv:∀l:List D,(nR JC l).Pairwise λa b=>aD a<=aD b:=by
 intro d
 induction d with
 |nil=>exact .nil
 |cons _ l c=>exact adN<|c
theorem BD:∀{l:List D},(l.map aD).Nodup->∀a∈l,∀b∈l,aD a=aD b->a=b
 |x::l,h,a,d,b,f,e=>by
  rw[kG,zK]at h;rcases nQ.mp d with h1|h1<;>rcases nQ.mp f with c|c
  .rw[h1,c]
  .exact absurd (h1▸e▸rT c) h.1
  .exact absurd (c▸e▸rT h1) h.1
  exact BD h.2 a h1 b c e
def acQ{l m:List D}(c:m.Perm l)(g:m.Pairwise λa b=>aD a<=aD b)(f:(l.map aD).Nodup):m=nR JC l:=by refine(c.trans (lj JC l).symm).eq_of_pairwise (le:=λa b=>aD a<=aD b) (λa b d e x y=>BD f a (c.mem_iff.mp d) b ((lj JC l).mem_iff.mp e)<|by omega) g (Bv l)
section
variable {X:Cx}{f:kf}{g:L2.St}{H:Hp}{s:jk}
def YI{O:Z5}:∀{l:List D}{j:List V}{c:kF},l.all MZ=C->Z9 X.K H O l j->Vals j c->∃e:List Int,l=e.map .int/\ey c e:=by
 intro n
 induction n with
 |nil=>intro j c _ r v;rw[Z9]at r;subst r;cases v;exact⟨[],rfl,.nil⟩
 |cons d l m=>
  intro j c h r v;rw[Z9]at r;obtain⟨x,q,rfl,o,p⟩:=r;rw[vB,nN]at h
  cases d with
  |int i=>
   cases v with
   |cons a b=>obtain⟨e,rfl,k⟩:=m h.2 p b;rw[kj<|.inl o]at a;obtain⟨t,rfl⟩:=a;exact⟨i::e,rfl,.cons _ _ k⟩
  |_=>exact absurd h.1 (by simp[MZ])
theorem VA:∀{l:List D}{a:jn}{xs:List V}{its:kF},l=a.map .int->TD xs=TD l->TD its=TD l->(a.map LY).zip its=(l.zip<|xs.zip its).map λt=>(aD t.1,t.2.2)
 |[],[],_,_,_,_,_=>by simp
 |d::l,i::a,x::xs,u::its,h,h1,b=>by obtain⟨rfl,c⟩:=vn h;have:=VA (xs:=xs) (its:=its) c (by simpa using h1) (by simpa using b);simp -iota only[kG,sO,this];rfl
def aa4{u:jr}{Q:VK}{O:Z5}{d:D}{z:D×Bool}{x:V}(I:Inv X f g H s)(ru:RelV x u)(np:∀p,¬Ow (H p)->¬O p)(hd:kZ X.K H O d x)(M:yk d=SI z)(G:Gen X.K H O z Q):
  aa (ae X.prog X.w) X.A (call (.builtin "sorted") [u] [(bv "key",.builtin "abs")]) (EP X f g Q) X.xe s:=by
 cases d with
 |lst l=>
  obtain⟨⟨Z,hn,hz⟩,rfl⟩:=jM M;obtain⟨p,xs,rfl,q,E⟩:=lN hd;cases ru;obtain⟨j,v,pl,_⟩:=I.list q;have e1:=E.length;have e2:=v.length;obtain⟨ns,t7,r⟩:=YI Z E v;have hl:j.length<=sizeLine:=by rw[kT];omega
  obtain⟨o,ho,hc,n,y7⟩:=pl.isList;refine call_function_entry_kw Sr K3 Ls (ksk_s1 _ _) ?_;unfold bc.«sorted»;refine ji (m:=checkCount "sorted" 1 1 _)<|ju ?_;refine ji<|FK p (.inl Tl) ho hc y7 (λh1 k1=>?_) (by rw[lH];omega);rw[List.toList_toArray];refine ji<|Ct ?_ hl;have T:(h1.push<|bo "list" j.toArray 0).get? h1.objs.size=SI (bo "list" j.toArray 0):=kW _ rfl;have L:Inv X f g H {s with heap:=h1}:=I.kept k1;refine ji<|mE<|wpAny_call_entry_kw (s:={s with heap:=h1.push (bo "list" j.toArray 0)}) A2 ⟨_,T,rfl⟩ xz ?body<|ksk_l1 _ _
  case body=>
   show aa _ _ (bc.«list.sort» ⟨[.ref h1.objs.size],[(bv "key",.builtin "abs")]⟩) _ _ _;rw[ksk_t4];refine acO (s:={s with heap:=h1.push (bo "list" j.toArray 0)}) T r (by omega) λW tk out c k2 k3 ko=>⟨_,rfl,ju ⟨_,rfl,?_⟩⟩
   obtain⟨ps,U,k,Y⟩:=ko;rw[VA t7 (by omega)<|by omega]at U;obtain⟨a,F,rfl⟩:=nE _ U _ rfl;rw[ky]at k
   have R:∀t∈a,Rep X.K H O t.1 t.2.1/\RelV t.2.1 t.2.2:=λt hm=>by obtain⟨i,hi⟩:=pF<|F.mem_iff.mp hm;obtain⟨B,S⟩:=DT.mp hi;obtain⟨y,C⟩:=DT.mp S;obtain⟨w,P,w2⟩:=v.get y;rw[C]at P;cases P;exact⟨E.views B y,w2⟩
   have J:a.map (·.1)=nR JC l:=by
    refine acQ ?_ (by rw[pd]at Y ⊢;exact Y.imp λh=>by simpa using h) hn;have:=F.map (·.1)
    rwa [mi<|by simp;omega]at this
   have hR:∀a:List (D×V×jr),(∀t∈a,Rep X.K H O t.1 t.2.1/\RelV t.2.1 t.2.2)->Z9 X.K H O (a.map (·.1)) (a.map (·.2.1))/\Vals (a.map (·.2.1)) (a.map (·.2.2)):=λa=>by
    induction a with
    |nil=>exact λ_=>⟨.nil,.nil⟩
    |cons t a ih=>intro h;obtain⟨i1,i2⟩:=ih λx hx=>h x<|kn _ hx;exact⟨.cons (h t la).1 i1,.cons (h t la).2 i2⟩
   obtain⟨r1,r2⟩:=hR a R;have keep:∀b o,h1.get? b=SI o->W.get? b=SI o:=λb o e=>k2 b o (kU<|kX e)<|kB _ e;have N:a.length=l.length:=by have:=nC cG J;rw[(lj JC l).length_eq,kN]at this;exact this
   refine⟨.ref h1.objs.size,_,L.laid (t':=tk) keep (kD _) (show Z7 X.prog X.w _ _ _ (.lst (a.map (·.2.1)))from⟨by rw[kN,kT];omega,out.toList,c,?_,?_⟩),rfl,?_⟩
   .rw[k];exact r2
   .rw[Array.toArray_toList];exact k3
   refine G.lst L.fresh ?_;rw[<-J];exact r1
 |_=>cases M
def adf{a:jv}{i:TA}{p b w v:bt}(c:Gl X "sorted")(r:X.mg "sorted"=U)(k:Gl X "abs")(m:X.mg "abs"=U)(n:PA X [a] i)
  (o:aV b (ac [a] X.env)=(I,aY a X.env)::aV b (ac [] X.env))(l:(aV b<|ac [a] X.env).any (·.1)=I):
  PE X (.Call (.Name "sorted" p) [a] [⟨Y "key",.Name "abs" w,v⟩] b) (MK (GF X.K<|g1 yk) i):=by
 intro f s g H Q T h;refine we<|qo T c r acG<|callWith_kw (T2 (n b f s g H _ T h) λN s1 ⟨E,B,e,y,t⟩=>kws_cons<|qo e k m Vd<|kws_nil ?_) o l J J;obtain⟨O,j,z,np,q,hv,c,G⟩:=t
 match j,c with
 |[d],c=>obtain⟨x,rfl⟩:=Ie q J;obtain⟨u,rfl,A⟩:=qC y;exact aa4 e A np (hv 0 d x J J) c G
def adt{a:jv}{c:FO}{p b n m:bt}(k:Gl X "sorted")(l:X.mg "sorted"=U)(d:Gl X "abs")(h:X.mg "abs"=U)(i:PA X [a] (tA X.K [c]))
  (j:aV b (ac [a] X.env)=(I,aY a X.env)::aV b (ac [] X.env))(e:(aV b<|ac [a] X.env).any (·.1)=I):
  PX X (.Call (.Name "sorted" p) [a] [⟨Y "key",.Name "abs" n,m⟩] b) (jT (g1 yk) [c]):=pxn<|adf k l d h i j e
end
section
variable {X:Cx}{x:ap}{i:Nat}{c a b:bt}
end
section
variable {X:Cx}
variable {a:jv}{c:FO}{p b e f g d:bt}{x:ap}{i:Nat}
def xSA(T:Tx X.mg)(l:QA X [a] [c])(n:Gl X "sorted":=by rfl)(j:Gl X "abs":=by rfl)(m:aV b (ac [a] X.env)=(I,aY a X.env)::aV b (ac [] X.env):=by rfl)(k:BA X b [a]:=by rfl):
  QX X (.Call (.Name "sorted" p) [a] [⟨Y "key",.Name "abs" e,f⟩] b) (jT (g1 yk) [c]):=⟨adt n (Kj T (z:="sorted") J) j (Kj T (z:="abs") J) l.h m k⟩
end
section
variable {X:Cx}{a:kf}{b:L2.St}{H:Hp}{s:jk}
end
section
variable {X:Cx}
end
section
variable {a:jI}{w:jG}{A:jF}{E:jZ}{I:jh}{c b:lG}{n:Nat}{P:Nat->jr->Prop}{St:Nat->jH->Prop}
end
section
variable {X:Cx}{A:kE}{a:bt}{c:lg}{b:List Tg}
end
section
variable {X:Cx}{A:kE}{a b:jv}{c:bt}
variable {e d:jv}{f:F}{x z:ap}{p j g h:bt}{i k:Nat}{L:LL}{l:Hp}
end
section
variable {X:Cx}{a:kf}{b:L2.St}{H:Hp}{s:jk}
end
end PX
namespace TT
open PySem.SeqAt
def BV:mL z0 "dict.update.loop"=Y bc.«dict.update.loop»:=entryFor_of_tree (by kernel_rfl)
def um:plainId "dict.update.loop"=C:=by decide+kernel
section
variable {prog:jI}{w:jG}{A:jF}{R:j8->jk->Prop}{I:jh}{c a:lG}{G:Array ej->Array ej->Prop}{n:Nat}{P:Nat->jr->Prop}{St:Nat->jk->Prop}
def acu(W:WalksS prog w A.in1 I c a G n P St)(S:jh)(C:S∉c)(s0:jk)(j:Nat->jH->Prop)(AV:∀i h f,j i h->(∀o,h.get? S=SI o->f.get? S=SI o)->j i f)
  (step:∀i v (d:jk),i<n->P i v->j i d.heap->nb (S::a) G s0 d->∃p k x,v=.ref p/\d.heap.IsTuple p #[k,x]/\∀(Q:Unit->jk->Prop)(E:jZ),(∀f z,d.toks<=z->au S d.heap f->j (i+1) f->Q () {d with heap:=f,toks:=z})->aa (ae prog w) A.in1 (IN S k x) Q E d):
  ∀(k i:Nat)(s:jk),n-i=k->i<=n->St i s->j i s.heap->nb (S::a) G s0 s->(∀d,nb (S::a) G s0 d->j n d.heap->R (.ok<|.ret .none) d)->
   bQ (ae prog w) A (.builtin "dict.update.loop" ⟨[.ref S,.ref I,cf i,.none],[]⟩) R s:=by
 have L:S∉a:=λh=>C<|W.sub _ h;have J:∀b∈a,b∈S::a:=λb l=>kn _ l;intro k
 induction k with
 |zero=>
  intro i s hk V y t q r;have N:i=n:=by lia
  subst N;refine qw BV ?_;rw[sG um _];show aa _ A.in1 (cu (.ref I)>>=_) _ _ s;refine ji<|W.done s _ _ y λd m=>?_;show aa _ A.in1 (w6 S []>>=λ_=>ret ah) _ _ d;exact ji<|ju<|ju<|r d (Ck W.gtrans q<|m.mono J)<|AV _ _ _ t λo e=>m.heap S o L e
 |succ k ih=>
  intro i s hk V y t q r;have u:i<n:=by lia
  refine qw BV ?_;rw[sG um _];show aa _ A.in1 (cu (.ref I)>>=_) _ _ s;refine ji<|W.item i s _ _ u y λv d D U m=>?_;have H:=Ck W.gtrans q<|m.mono J;obtain⟨p,T,x,rfl,X,g⟩:=step i v d u D (AV _ _ _ t λo e=>m.heap S o L e) H;show aa _ A.in1 (b6 [.ref p] _>>=_) _ _ d;refine ji<|mE ?_;obtain⟨o,O,K,n',Y⟩:=X;have F:d.TypeIs (.ref p) "tuple":=⟨o,O,K⟩
  refine ji<|Fp ?_;unfold w4;refine ji<|rE F ?_;show aa _ _ (seqItems? (.ref p)>>=_) _ _ _;refine ji<|rn O Y ?_;refine ju ?_;show aa _ _ (b6 [T,x]<|IN S T x) _ _ _;refine mE<|g _ _ λf z B M Z=>?_;refine ju ⟨rp um _,ih (i+1) _ (by lia) u (W.frame _ d _ _ U B λb l o e=>?_) Z (H.then_heap B λb o l e=>?_) r⟩
  .rw[M.2 b λh:b=S=>C<|by rw[<-h];exact l];exact e
  rw[M.2 b λh:b=S=>l<|by rw[h];exact la];exact e
end
end TT
namespace PX
open L2 PySem.SeqAt TS
section
variable {prog:jI}{w:jG}{A:jF}{E:jZ}{s:jk}
def Qz:p4 (.type "list") "keys"=pure U:=by rw[Fw,Fv];kernel_rfl
def UB{a:jh}{o:eM}{q:nJ}{k:Nat}{Q:Bn}(n:s.heap.get? a=Y o)(m:o.cls=.type "list")(j:o.data=.seq q k)(hd:o.dict=U)(t:A.handled=U)
  (h:∀b p e,Heap.NewExcOf s.heap b e "AttributeError"->Q U {s with heap:=b,toks:=p}):aa (ae prog w) A (getAttr? (.ref a) "keys") Q E s:=by
 obtain⟨c,dct,r,v⟩:=o;simp only at m j hd;subst m j hd;obtain⟨u,g,d,p,os⟩:=s;have l:∀f,(⟨u,g,d,f,os⟩:jk).TypeIs (.ref a) "list":=λ_=>⟨_,n,rfl⟩
 have f1:=sub_AttributeError;have x:=OS.lookup;have y:=OS.bind<|.ref a;have z:=am_list_getattr_none;unfold getAttr? getAttrBy? getAttrBy
 repeat (any_goals (first|assumption|exact l _|((with_reducible show aa _ _ (call (eD "list.__getattribute__") _ _) _ _ _);refine zG OS (l _) am_entry_list_getattribute (F.args_list_getattribute_2 _ _) (meets_getattribute_miss_list a q k v "keys" _ Qz (by decide+kernel)) ⟨n,t,λb f e i=>?_⟩)|wp_step))
 obtain⟨T,H,B⟩:=i.there;show aa _ _ (p5 _ _ _ _ _ _ _) _ _ _;unfold p5
 repeat (any_goals (first|assumption|wp_step))
 exact h _ _ _ i.of
end
end PX
namespace TT
open PySem.SeqAt
section
variable {prog:jI}{w:jG}{A:jF}{E:jZ}{s:jk}
noncomputable abbrev Hk:Obj:={cls:=.type "dict",data:=.dict #[]}
def Rq{l:jh}{items:nJ}{n:Nat}{q:eM}{Q:jZ}(O:A.handled=SS)(T:s.heap.get? l=SI q)(u:q.cls=.type "list")(C:q.data=.seq items n)(eU:q.dict=SS)(g:Nat->jH->Prop)
  (AV:∀i h c,g i h->(∀o,h.get? s.heap.objs.size=SI o->c.get? s.heap.objs.size=SI o)->g i c)
  (oY:∀c,c.get? s.heap.objs.size=SI Hk->g 0 c)
  (step:∀i v (a:jk) (B:jF),B.units<=A.units+20->items[i]?=SI v->g i a.heap->(∀b o,s.heap.get? b=SI o->a.heap.get? b=SI o)->a.gens=s.gens->a.drawn=s.drawn->a.os=s.os->
   ∃p k x,v=.ref p/\a.heap.IsTuple p #[k,x]/\∀(Q:Unit->jk->Prop)(E:jZ),(∀c r,a.toks<=r->au s.heap.objs.size a.heap c->g (i+1) c->Q () {a with heap:=c,toks:=r})->aa (ae prog w) B (IN s.heap.objs.size k x) Q E a)
  (h:∀(c:jH)(r:Nat),g items.size c->(∀b o,s.heap.get? b=SI o->c.get? b=SI o)->Q (.ref s.heap.objs.size) {s with heap:=c,toks:=r}):
  aa (ae prog w) A (call (.type "dict") [.ref l]) Q E s:=by
 refine AT (Q₁:=λobj f=>obj=.ref s.heap.objs.size/\f={s with heap:=s.heap.push Hk}) F.kt_called_dict (F.kt_typeCall_dict_1 _) F.entry_dict_init (kt_code_dict_new _ ⟨rfl,rfl⟩) ?_;rintro obj f ⟨rfl,rfl⟩;have H:(s.heap.push Hk).get? s.heap.objs.size=SI Hk:=kW _ rfl;have L:c8 {s with heap:=s.heap.push Hk} (.ref s.heap.objs.size) "dict":=⟨_,H,rfl⟩
 have t:(s.heap.push Hk).get? l=SI q:=kB _ T;have z:c8 {s with heap:=s.heap.push Hk} (.ref l) "list":=⟨_,t,u⟩
 refine⟨L,F.args_dict_init_2 _ _,?_⟩;unfold bc.«dict.__init__»;refine ji ?_;unfold wT;refine ji<|KU L ?_;show aa _ _ (pure (s.heap.objs.size,[bU l])) _ _ _;refine ju ?_;show aa _ _ (fF "dict.__init__" s.heap.objs.size (.ref l) [] .none) _ _ _;unfold fF;refine ji<|rE z ?_;rw[jz<|by decide];refine ji<|PX.UB t u C eU (by simp[O]) λh1 dP e1 y=>?_;have j:h1.IsList l items:=⟨_,y.keeps _ _ t,u,n,C⟩
 have m:=y.keeps _ _ H;have gX:l<s.heap.objs.size:=kX T;have I:s.heap.objs.size<h1.objs.size:=kX m;have M:l≠h1.objs.size:=by lia
 have Y:s.heap.objs.size∉[h1.objs.size,l]:=by simp;lia
 have S:A.in1.in1.handled=SS:=by simp[O]
 have W:=CJ (prog:=prog) (w:=w) S h1.objs.size l M items;show aa _ _ (rule _>>=λ_=>cM (.ref l)>>=λit=>again<|.builtin "dict.update.loop" ⟨[.ref s.heap.objs.size,it,cf 0,.none],[]⟩) _ _ _;refine ji<|qy ?_;refine ji<|xP j ?_;refine ju ⟨rp um _,?_⟩
 have ext:∀{G:Array ej->Array ej->Prop}{s0 a:jk},(∀b o,h1.get? b=SI o->s0.heap.get? b=SI o)->nb (s.heap.objs.size::[h1.objs.size]) G s0 a->∀b o,s.heap.get? b=SI o->a.heap.get? b=SI o:=λ{G s0 a} X d b o e=>by have hb:=kX e;exact d.heap b o (by simp;lia)<|X _ _ (y.keeps _ _ (kB _ e))
 refine acu W.toS s.heap.objs.size Y _ g AV ?st (items.size-0) 0 _ (by lia) (mw _) ⟨⟨_,kW _ rfl,rfl,rfl⟩,j.push _⟩ (oY _ (kB _ m)) (u3 λ_=>rfl) ?hR
 case st=>exact λi v a hi Z iN d=>step i v a _ (by show A.units+1+1<=A.units+20;lia) Z iN (ext (λ_ _ e=>kB _ e) d) d.gens d.drawn d.os
 case hR=>intro a d N;have ex:=ext (λ_ _ e=>kB _ e) d;obtain⟨c,V,D,J,U⟩:=a;have P:V=s.gens:=d.gens;have K:D=s.drawn:=d.drawn;have R:U=s.os:=d.os;subst P;subst K;subst R;exact⟨rfl,h c J N ex⟩
end
end TT
namespace PX
open L2 PySem.SeqAt
def kyT:D->Option (List Key)
 |.tup [k,.bl C]=>vS k
 |_=>U
def JW:List D->Option (List<|List Key)
 |[]=>Y []
 |d::l=>(kyT d).bind λk=>(JW l).map (k:: ·)
def As:D->Option (D×Bool)
 |.lst l=>(JW l).bind λa=>if (TD a)<=1000/\a.Nodup then Y (.Z3 .dct (a.map λk=>.tup (k.map lV))<|a.map λ_=>.bl C,C)else U
 |_=>U
noncomputable abbrev MU(a:List (List Key)):List (List Key×V):=a.map λk=>(k,V.bl C)
def QU:∀{l:List D}{a:List (List Key)},JW l=Y a->TD l=TD a/\∀(i:Nat) k,a[i]?=Y k->∃d,vS d=Y k/\l[i]?=Y (.tup [d,.bl C]):=by
 intro j
 induction j with
 |nil=>intro a h;cases h;exact⟨rfl,λi p h=>by simp at h⟩
 |cons d l g=>
  intro a h;obtain⟨p,h1,h⟩:=jl h;obtain⟨m,f,rfl⟩:=jX h;obtain⟨c,e⟩:=g f;refine⟨by simp[c],λi q b=>?_⟩
  cases i with
  |zero=>
   simp at b;subst b;unfold kyT at h1;split at h1
   .exact⟨_,h1,rfl⟩
   cases h1
  |succ i=>simpa using e i q (by simpa using b)
def R7{P:jI}{w:jG}{H:Hp}{h:jH}(ok:EE P w H h):∀{l:List (List Key×V)}{m:List (List Key×jh×jr)},L2.KT H l m->∀x∈m,(bR<|lA P w).is h x.1 x.2.1:=by
 intro l m q
 induction q with
 |nil=>intro x a;exact nomatch a
 | @cons p q d f b t c=>
  intro x a;rcases nQ.mp a with e|a
  .subst e;exact qp ok (by rw[<-b.1];exact b.2.1)
  exact c x a
def ze{H:Hp}{l:List (List Key×V)}{m:List (List Key×jh×jr)}(q:L2.KT H l m):m.map (·.1)=l.map (·.1):=by
 induction q with
 |nil=>rfl
 |cons a t b=>rw[kG,kG,b,a.1]
def ID{H:Hp}{l:List (List Key×V)}{m:List (List Key×jh×jr)}{p q}(h:L2.KT H l m)(a:p.1=q.1/\H q.2.1=Y (.tup<|p.1.map kV)/\RelV p.2 q.2.2):L2.KT H (l++[p]) (m++[q]):=by
 induction h with
 |nil=>exact .cons a .nil
 |cons h t b=>exact .cons h b
def IE{H b:Hp}{l:List (List Key×V)}{m:List (List Key×jh×jr)}(c:∀a u,H a=Y u->b a=Y u)(h:L2.KT H l m):L2.KT b l m:=by
 induction h with
 |nil=>exact .nil
 |cons h t d=>exact .cons ⟨h.1,c _ _ h.2.1,h.2.2⟩ d
def Tv{K:jJ}{H:Hp}{O:Z5}:∀a:List (List Key),Z9 K H O (a.map λ_=>.bl C) ((MU a).map (·.2)):=by
 intro c
 induction c with
 |nil=>exact Z9.nil
 |cons _ a b=>exact Z9.cons Rep.JY<|b
def DIs(P:jI)(w:jG)(H:Hp)(S:jh)(c:List (List Key))(h:jH):Prop:= ∃m:List (List Key×jh×jr),L2.KT H (MU c) m/\∃o a b,h.get? S=Y o/\o.ExactDict/\o.data=.dict a b/\a.toList=m.map (qs<|bR<|lA P w)/\(m.map (·.1)).Nodup
section
variable {X:Cx}
def abx(hu:X.A.units+62<aI)(hc:X.calm=Td):lr X (.type "dict") (GF X.K<|g1 As):=ot λy s σ H x u Q O d z I ru np hd C G=>by
 cases d with
 |lst l=>
  obtain⟨f,gQ,C⟩:=jl C;obtain⟨⟨hz,dU⟩,rfl⟩:=jM C;obtain⟨p,xs,rfl,q,r⟩:=lN hd;cases ru;obtain⟨n,v,⟨ol,nn,cA,dn,eU,dX⟩,_⟩:=I.list q;obtain⟨e0,dy⟩:=QU gQ;have e1:=r.length;have e2:=v.length;have hh:X.A.handled=SS:=I.ok.hd hc;have Y:=I.fresh
  refine TT.Rq hh cA dn dX eU (λi h=>DIs X.prog X.w H s.heap.objs.size (f.take i) h)
   (λi h h' ⟨m,k,o,J',T,e,c⟩ st=>⟨m,k,o,J',T,st _ e,c⟩) (λh' e=>⟨[],.nil,_,#[],0,e,⟨rfl,rfl,rfl⟩,rfl,rfl,mS⟩) (λi w s' B hB hi ⟨m,hk,hd⟩ E eg ed eo=>?_) (λh' tk ⟨m,hk,hd⟩ E=>?_)
  .have du:i<n.length:=by have:=(Jn.mp hi).1;simpa using this
   have hw:n[i]?=SI w:=by simpa using hi
   have R:f[i]?=SI f[i]:=km (by lia);have F:xs[i]?=SI xs[i]:=km (by lia);obtain⟨w',W,Z⟩:=v.get F;rw[hw]at W;cases W;obtain⟨dk,iA,eV⟩:=dy i _ R;have aX:Rep X.K H O (.tup [dk,.bl Td]) xs[i]:=r.views eV F;obtain⟨h1,g1,dr1,dP,os1⟩:=s';dsimp only at E eg ed eo hd;subst eg;subst ed;subst eo;have L:Inv X y σ H {s with heap:=h1,toks:=dP}:=I.kept E;obtain⟨a,ys,ea,sq,g⟩:=lZ<|.inl aX;rw[ea]at Z;cases Z;obtain⟨b9,v2,cw,_⟩:=L.tuple sq;rw[Z9]at g;obtain⟨y1,r1,rfl,p1,g⟩:=g;rw[Z9]at g;obtain⟨y2,r2,rfl,V,g⟩:=g;rw[Z9]at g;subst g;obtain⟨b,rfl,S⟩:=oz iA<|.inl p1;rw[Rep]at V;subst V;obtain⟨u1,u2,rfl,gA,gz⟩:=wm v2;cases gA;refine⟨a,_,_,rfl,cw,λQ' E' hq=>?_⟩;obtain⟨o,J',T,g1,g2,g3,g4,g5⟩:=hd
   have hm:f[i]∉m.map (·.1):=by rw[ze hk];intro D;rw[ky]at D;obtain⟨x,hx,e⟩:=jD D;obtain⟨j,N,P⟩:=zv hx;rw[uR]at N;rw[kA]at P;have i7:=LA.mp dU j i (by lia) (by lia) (by lia);exact i7<|P.trans e
   have fj:fY m f[i]=SS:=te λj p' N=>hm<|rZ.mpr ⟨_,lX N,rfl⟩
   have hml:m.length<=1000:=by have:=nC cG<|ze hk;simp at this;lia
   refine px (knd:=bR<|lA X.prog X.w) (k:=f[i]) (show(bR<|lA X.prog X.w).room B from(by show B.units<aI;lia)) (qp L.hok S) (xs:=m) ⟨o,J',T,g1,g2,g3,g4,R7 L.hok hk,g5⟩ (λh2 t p6=>hq h2 _ (n7 _ _) p6 ?_) (by rw[kT];lia);rw[Op fj]at t;obtain⟨o',M,dI,k1,k2,k3,k4,_,k5⟩:=t;refine⟨_,?_,o',M,dI,k1,k2,k3,k4,k5⟩;rw[zu,R];show L2.KT H (cc _ (f.take i++[f[i]])) _;rw[nM];exact ID hk ⟨rfl,S,gz⟩
  have U:n.toArray.size=f.length:=by simp;lia
  rw[U,Fq]at hk;refine⟨.ref s.heap.objs.size,upd H s.heap.objs.size<|.dT<|MU f,I.laid E (kD _) ⟨?_,?_,m,IE (λa u e=>by rw[ke<|md e Y];exact e) hk,hd⟩,rfl,?_⟩
  .rw[kN,kT];lia
  .have:=I.big;simp
   lia
  refine G s.heap.objs.size _ Y (ly Y) ⟨(MU f).map (·.2),.inr ⟨MU f,jL,?_,rfl⟩,?_⟩
  .rw[ky];rfl
  exact Tv _
 |_=>cases C
variable {a:jv}{g:FO}{p f:bt}
def Yo(k:X.A.units+62<aI)(j:X.mg "dict"=U)(c:QA X [a] [g])(d:X.calm=C:=by rfl)(i:Gl X "dict":=by rfl)(e:SE X a []:=by rfl)(b:BA X f []:=by rfl):QX X (.Call (.Name "dict" p) [a] [] f) (jT (g1 As) [g]):=
 ⟨C7 (abx k d) i j (by decide+kernel) c.h (by decide) (by decide) e b⟩
end
end PX
namespace L2
open PySem.W
structure Fly(P:jI)(w:jG)(outer:List c9)(H:Hp)(s:jk)(C:jh)(H':Hp)(ea:jh)(s':jk)(h0 B:jH)(F:lG):Prop where
 os:s'.os=s.os
 bare:dR s'.gens
 un:Un (J6 outer) [] H H' s.heap h0
 hok:EE P w H' h0
 fr:∀b∈F,H' b=SS/\(b∈J6 outer\/s.heap.objs.size<=b)
 st:∀b o,h0.get? b=SI o->b∉F->B.get? b=SI o
 fl:∃a0,Heap.FlyingW B outer ea (.ref C) a0 s'.heap
 up:h0.UpToSlots s'.heap
 ne:h0.get? ea=SS
inductive Nb(P:jI)(w:jG)(outer:List c9)(H:Hp)(s:jk)(E:XK)(e:jr)(s':jk):Prop where
 |mk (C:jh) (H':Hp) (ea:jh) (h0 B:jH) (F:lG) (_:e=.ref ea) (_:Fly P w outer H s C H' ea s' h0 B F) (_:E (.ref C) SS H')
section
variable {P:jI}{w:jG}{a:List c9}{H f:Hp}{s b:jk}{C e:jh}{c B d:jH}{F:lG}
end
section
variable {X:Cx}{d:kf}{g:St}{H:Hp}{s c:jk}{C i:jh}
def XQ(X:Cx)(P:jI)(w:jG)(a:List c9)(b:Hp)(s0:jk)(E:XK):Prop:=X.prog=P/\X.w=w/\X.stack=X.env::a/\X.outer=a/\X.H₀=b/\X.s₀=s0/\X.ex=[]/\X.env.frame=Y X.env.locals/\
 ∀e c,aa (ae P w) X.A (Is X.env e) (λ_ f=>Nb P w a b s0 E e f) (λh f=>Nb P w a b s0 E h f) c->X.xe e c
def ab7{P:jI}{w:jG}{K:jJ}{b:ml}{base:jH}{N:jK}{qual:ap}{scope:kb}{f:jh}{cd:jr}{A:jF}{a:List c9}{s:jk}{H:Hp}{E:XK}:
  XQ (qW (Nb P w) P w K b base N qual scope f cd A a s H E) P w a H s E:=⟨rfl,rfl,rfl,rfl,rfl,rfl,rfl,rfl,λ_ _ h=>h⟩
variable {P:jI}{w:jG}{a:List c9}{b:Hp}{s0:jk}{E:XK}
end
abbrev veB:List Value:=[.type "ValueError",.type "Exception",.type "BaseException",.type "object"]
section
variable {X:Cx}{P:jI}{w:jG}{b:List c9}{f:Hp}{s0:jk}{E:XK}{x:ap}{C:jh}{a:jv}{d:TE}{np e c:bt}
end
def yh(q:ap):HO:=.tbl #[.str q 0]
structure L0(TB:List (jh×ap))(H:Hp):Prop where
 one:∀b,H b=SS\/(∃o xs,H b=SI (.Bi o<|.lst xs))\/∃q,(b,q)∈TB/\H b=SI (yh q)
 all:∀p∈TB,H p.1=SI (yh p.2)
def ab4{P:jI}{w:jG}{K:jJ}{C mb:ml}{CX:JI}{k:Nat}{fa a:jh}{fd:nu}{x:ap}{sp:Sp}{c:jk}{O:kF}{Q:jn}{TB:List (jh×ap)}
  (KX:K.In c.heap)(t7:c.heap.Ns ag C)(g:c.heap.Ns gL mb)(hbb:∀x:ap,x≠"__name__"->mb x=av x)(Y:c.heap.NoLimit)(hg:c.gens= #[])
  (M:∀p∈TB,c.heap.get? p.1=SI (tabObj #[]))(gi:∀p∈TB,K.lookup p.1=SS)(gg:∀p∈TB,isCodeTable c.heap p.1)(fk:(TB.map (·.1)).Nodup)(U:∀p∈TB,c.heap.BuiltinsAt C p.1)
  (N:c.heap.get? a=SI {cls:=.type "list",data:=.seq O.toArray})(hi:ey O Q)(hl:Q.length<=sizeLine)(hr:YP k fX)
  (F:∀base:jH,K.In base->base.Ns ag C->(∀p∈TB,base.BuiltinsAt C p.1)->DF P w K C base CX k fa fd [x] sp)(k6:∀(s:jk)(u:jr),fZ s fd ⟨[u],[]⟩ [(x,u)])
  (bx:∀H:Hp,L0 TB H->G1 K H a (Q.map V.int)->sp [.ref a] H (λv H'=>v=.bl Td/\∀p∈TB,H' p.1=SI (yh p.2)) λ_ _ _=>False)
  (hCX:∀H e j,CX [] H c (λ_ _ _=>False) e j->False):
  bQ (ae P w) fX (.call (.ref fa) ⟨[.ref a],[]⟩) (λr j=>r=.ok (.ret<|.bool Td)/\OldK c.heap j.heap/\j.os=c.os/\dR j.gens) c:=by
 have rv:=ab9 hi;have R:=hi.length
 have Z:∀p∈TB,p.1≠a:=λp f e=>by have:=M p f;rw[e,N]at this;cases this
 have t:∀H:Hp,L0 TB H->G1 K H a (Q.map V.int)->EE P w H c.heap->(∀b,H b≠SS->b=a\/∃p∈TB,b=p.1)->(H a≠SS->K.lookup a=SS)->
   bQ (ae P w) fX (.call (.ref fa) ⟨[.ref a],[]⟩) (λr j=>r=.ok (.ret<|.bool Td)/\OldK c.heap j.heap/\j.os=c.os/\dR j.gens) c:=by
  intro H hO hS D hA hK;have s9:∀{b:jh}{o:eM},c.heap.get? b=SI o->H b=SS->(A8 c.heap H).get? b=SI o:=λe n=>adO e n
  have y9:∀{b:jh}{o:eM},c.heap.get? b=SI o->(∀its n,o.data≠ .seq its n)->(∀I,o.data≠ .fields I)->H b=SS:=λ{b o} e d d2=>by
   cases q:H b with
   |none=>rfl
   |some u=>
    rcases hA b (by rw[q];simp)with rfl|⟨p,f,rfl⟩
    .rw[N]at e;cases e;exact absurd Tl<|d _ _
    rw[M p f]at e;cases e;exact absurd Tl<|d2 _
  have X:∀{b:jh}{m:ml},c.heap.Ns b m->(A8 c.heap H).Ns b m:=λ{b m} ⟨o,es,ep,e,d,r⟩=>⟨o,es,ep,s9 e (y9 e (λ_ _ z=>by rw[d]at z;cases z) λ_ z=>by rw[d]at z;cases z),d,r⟩
  have J:K.In (A8 c.heap H):=λb o e=>s9 (KX b o e) (by
   cases q:H b with
   |none=>rfl
   |some u=>
    rcases hA b (by rw[q];simp)with rfl|⟨p,f,rfl⟩
    .rw[hK<|by rw[q];simp]at e;cases e
    rw[gi p f]at e;cases e)
  have hBA:∀p∈TB,(A8 c.heap H).BuiltinsAt C p.1:=λp f=>by obtain⟨bm,o,h1,h2,h3,h4,h5,h6,h7,h8⟩:=U p f;exact⟨bm,o,h1,h2,h3,h4,s9 h5 (y9 h5 (λ_ _ z=>by rw[h8]at z;cases z) λ_ z=>by rw[h8]at z;cases z),h6,h7,h8⟩
  have hM:Mod K C (A8 c.heap H):=⟨J,X t7,⟨mb,X g,hbb⟩,let⟨mc,h1,h2⟩:=Y;⟨mc,X h1,h2⟩⟩
  have e0:Ht P w K C (A8 c.heap H) fX [] c H:=⟨rfl,hM,λb o e=>Qy e,v6<|abJ _ _,trivial,λb g=>absurd (show b∈([]:List jh)from g)<|by simp,D,.of_eq hg⟩
  refine rX ((F _ J (X t7) hBA).run fX [] c H ⟨[.ref a],[]⟩ [.ref a] [.ref a] _ _ hr e0 (k6 c<|.ref a) (.cons Tl .nil) (bx H hO hS)) λr j h=>?_
  cases r with
  |error e=>exact(hCX H e j h).elim
  |ok fl=>
   cases fl with
   |next=>exact aJ h
   |brk=>exact aJ h
   |cont=>exact aJ h
   |ret u=>
    obtain⟨v,H',os,T,un,B,r',q,L⟩:=h;subst q;obtain rfl:u=dh Td:=r'
    have W:∀p∈TB,∃I,j.heap.get? p.1=SI (tabObj I):=λp f=>by
     obtain⟨_,_,I,_,e,_⟩:=(show Z7 P w H' j.heap p.1 (.tbl #[.str p.2 0])from B _ _ (L p f))
     exact⟨I,e⟩
    have keep:∀b o,c.heap.get? b=SI o->(∀p∈TB,b≠p.1)->j.heap.get? b=SI o:=λb o e n=>by
     cases q:H b with
     |none=>exact un.keep b o e q (by intro z;exact absurd (show b∈([]:List jh)from z)<|by simp) (by simp)
     |some u=>
      rcases hO.one b with z|⟨ob,xs,z⟩|⟨qq,hm,z⟩
      .rw[q]at z;cases z
      .have z2:=un.frzs b ob _ z;obtain⟨e1,_⟩:=D b _ z;obtain⟨G,_⟩:=B b _ z2;rw[e]at e1;cases e1;exact G
      exact absurd Tl (n _ hm)
    refine⟨rfl,⟨λb o e=>?_,λb o e=>?_⟩,os,T⟩
    .by_cases g:∃p∈TB,b=p.1
     .obtain⟨p,f,rfl⟩:=g;obtain⟨I,G⟩:=W p f;rw[M p f]at e;cases e;refine .inr<|.inl ⟨gg p f,rfl,#[],I,rfl,?_⟩;rw[G];simp
     exact .inl (keep b o e λp f z=>g ⟨p,f,z⟩)
    by_cases g:∃p∈TB,b=p.1
    .obtain⟨p,f,rfl⟩:=g;obtain⟨I,G⟩:=W p f;exact⟨_,G⟩
    exact⟨o,keep b o e λp f z=>g ⟨p,f,z⟩⟩
 have A:∀{b q},TB.lookup b=SI q->(b,q)∈TB:=λh=>by
  revert h;generalize TB=l
  induction l with
  |nil=>intro h;simp at h
  |cons x l ih=>
   intro h;rw[oW]at h;split at h
   .rename_i g;cases h;rw[beq_iff_eq.mp g];exact la
   exact kn _ (ih h)
 have S:∀p∈TB,TB.lookup p.1=SI p.2:=by
  clear A t Z bx gi gg U F M
  induction TB with
  |nil=>intro p f;simp at f
  |cons x l ih=>
   intro p f;rw[kG,zK]at fk;rw[oW];rcases nQ.mp f with rfl|f
   .simp
   have:(p.1==x.1)=Tk:=by rw[AU];exact λe=>fk.1 (e▸rT f)
   rw[this];exact ih fk.2 p f
 have E:∀(H:Hp)(b:jh)(q:ap),(b,q)∈TB->Z7 P w H c.heap b (yh q):=λH b q hm=>⟨q,0,#[],rfl,M _ hm,trivial,λpos cv z=>by simp[ei]at z⟩
 cases hk:K.lookup a with
 |some o=>
  have e:=KX a o hk;rw[N]at e;cases e;refine t (λb=>(TB.lookup b).map yh) ⟨λb=>?_,λp f=>by rw[S p f];rfl⟩ (.inr ⟨_,O.toArray,_,hk,rfl,rfl,rfl,by rw[lH,R];exact hl,by simpa using rv⟩) (λb u z=>?_) (λb z=>?_) λz=>?_
  .cases q:TB.lookup b with
   |none=>exact .inl Tl
   |some y=>exact .inr<|.inr ⟨y,A q,rfl⟩
  .have i:(TB.lookup b).map yh=SI u:=z
   cases q:TB.lookup b with
   |none=>rw[q]at i;cases i
   |some y=>rw[q]at i;cases i;exact E _ b y (A q)
  .have i:(TB.lookup b).map yh≠SS:=z
   cases q:TB.lookup b with
   |none=>rw[q]at i;exact absurd Tl i
   |some y=>exact .inr ⟨_,A q,rfl⟩
  have i:(TB.lookup a).map yh≠SS:=z
  cases q:TB.lookup a with
  |none=>rw[q]at i;exact absurd Tl i
  |some y=>exact absurd Tl<|Z _ (A q)
 |none=>
  have fj:∀p∈TB,(if p.1=a then SI (HO.Bi {cls:=.type "list",data:=.seq O.toArray}<|.lst<|Q.map V.int)else(TB.lookup p.1).map yh)=SI (yh p.2):=λp f=>by rw[jP<|Z p f,S p f];rfl
  refine t (λb=>if b=a then SI (.Bi {cls:=.type "list",data:=.seq O.toArray}<|.lst<|Q.map V.int)else(TB.lookup b).map yh) ⟨λb=>?_,fj⟩ (.inl<|.inr ⟨{cls:=.type "list",data:=.seq O.toArray},jz Tl⟩) (λb u z=>?_) (λb z=>?_) λ_=>hk
  .by_cases g:b=a
   .exact .inr (.inl ⟨_,_,jz g⟩)
   cases q:TB.lookup b with
   |none=>exact .inl (by simp[g])
   |some y=>exact .inr<|.inr ⟨y,A q,by simp[g]⟩
  .by_cases g:b=a
   .have i:=(jz g).symm.trans z;cases i;subst g;exact⟨N,by rw[kN];exact hl,O,_,rv,N⟩
   have i:=(jP g).symm.trans z
   cases q:TB.lookup b with
   |none=>rw[q]at i;cases i
   |some y=>rw[q]at i;cases i;exact E _ b y (A q)
  by_cases g:b=a
  .exact .inl g
  cases q:TB.lookup b with
  |none=>exact absurd (by simp[g,q]) z
  |some y=>exact .inr ⟨_,A q,rfl⟩
end L2
namespace PX
open L2
def QN{TB:List (jh×ap)}{K:jJ}{k:A5}{H:Hp}{a:jh}{f:jn}(m:∀p∈TB,H p.1=Y (yh p.2))(l:G1 K H a (f.map V.int)){o:Bool}{c:Dn}(h:k [(.lst<|f.map .int,I)]=Y ((.bl C,o),c)):Hj K k [.ref a] H (λv g=>v=.bl C/\∀p∈TB,g p.1=Y (yh p.2)) λ_ _ _=>False:=by
 have no:∀b,¬Z8 [Y<|V.ref a] [Y (D.lst<|f.map .int,I)] b:=λb T=>by
  obtain⟨i,d,h1,q⟩:=T
  cases i with
  |zero=>simp at h1
  |succ i=>simp at h1
 refine⟨λ_=>False,[(.lst<|f.map .int,I)],_,c,⟨rfl,λi d hd=>?_,λi d hd=>?_,λi j d e b h1=>?_,λb z=>absurd z<|no b,λb z=>z.elim⟩,h,λv g P=>?_⟩
 .cases i with
  |zero=>simp at hd;subst hd;refine⟨_,rfl,Rep.MR (a:=a) (xs:=f.map V.int) ?_<|abK f⟩;exact l.imp (λz=>⟨z,λz=>z.elim (no a) id⟩) id
  |succ i=>simp at hd
 .cases i with
  |zero=>simp at hd
  |succ i=>simp at hd
 .cases i with
  |zero=>simp at h1
  |succ i=>simp at h1
 refine⟨?_,λp n=>P.1.kp _ _ (m p n) (no _)⟩
 cases o
 .exact P.2.2.bl
 obtain⟨p,_,_,_,ok⟩:=P.2;exact ok.elim
end PX
namespace L2
open PySem.W
theorem wt{a b:Int}{t u:Nat}{c:jr}:∀l:List jr,ir l->ir (l++[.int a t,.int b u,c])
 |[],_=>trivial
 |.int _ _:: .int _ _::_::rest,h=>wt rest h
theorem AN{a b:Int}{t u:Nat}{e:bt}{c f:jr}:∀l:List jr,ir l->ei e (l++[.int a t,.int b u,c])=Y f->ei e l=Y f\/f=c
 |[],_,h=>by
  simp only[uK,ei]at h;split at h
  .exact .inr (lI h).symm
  cases h
 |.int i _:: .int j _::d::rest,h0,h=>by
  simp only[List.cons_append,ei]at h ⊢;split at h
  .rename_i q;rw[jz q];exact .inl h
  rename_i q;rw[jP q];exact AN rest h0 h
section
variable {X:Cx}{d:kf}{i:St}{H:Hp}{s:jk}{P c:jh}{b:aZ}{f:jv}{scope:kb}{j:kL}{g:bt}
def RZ{h:jH}{a:jh}(e:h.objs.size<=a):h.get? a=U:=by
 cases q:h.get? a with
 |none=>rfl
 |some o=>exact absurd (kX q)<|LB.mpr e
end
def AE(q:ap)(scope:kb)(L fl:jh)(cd:jr)(a:kL):Env:=
 newEnv scope L ag a (q++".<locals>.") (Y fl) cd U gL
def pV(CX:JI)(P:jI)(w:jG)(K:Frag)(d:ml)(base:jH)(N:jK)(q:ap)(scope:kb)(fl:jh)(cd:jr)(b:kL)(A:jF)(a:List c9)(s:jk)(H:Hp)(E:XK):Cx where
 prog:=P
 w:=w
 K:=K
 mg:=d
 base:=base
 A:=A.deeper<|AE q scope s.heap.objs.size fl cd b
 N:=N
 s₀:=s
 H₀:=H
 env:=AE q scope s.heap.objs.size fl cd b
 outer:=a
 stack:=AE q scope s.heap.objs.size fl cd b::a
 ex:=[]
 calm:=C
 fn:=λ_=>I
 pn:=[]
 xe:=λe h=>aa (ae P w) (A.deeper<|AE q scope s.heap.objs.size fl cd b) (Is (AE q scope s.heap.objs.size fl cd b) e) (λ_ c=>CX a H s E e c) (λg c=>CX a H s E g c) h
structure Fb(scope:kb):Prop where
 kind:scope.kind=.function
 co:scope.isCoroutine=Tk
 gen:scope.isGenerator=Tk
 cell:∀y∈scope.names,y.2≠ .cell
structure AF(N:jK)(scope:kb)(b7:kL)(σ:St)(H:Hp)(h:jH):Prop where
 inj:∀x y c,b7.lookup x=SI c->b7.lookup y=SI c->x=y
 has:∀x,scope.names.lookup x=SI .free->∃c,b7.lookup x=SI c
 cell:∀x c,b7.lookup x=SI c->(∃v,h.IsCell c v)/\H c=SS
 val:∀(i:Nat)(x:ap)(v:V),N[i]?=SI x->σ[i]?=SI (SI v)->scope.names.lookup x=SI .free/\∃c u,b7.lookup x=SI c/\h.IsCell c (SI u)/\RelV v u
 len:(TD σ)=(TD N)
section
variable {f:JI}{P:jI}{w:jG}{K:Frag}{c:ml}{base:jH}{N:jK}{q:ap}{scope:kb}{d:jh}{cd:jr}{e:kL}{A:jF}{a:List c9}{s:jk}{H:Hp}{E:XK}{b:St}
end
open PySem.Calls Builtin Builtin.ObjectAttr Builtin.Getset_descriptor
structure ExcK(K:Frag)(C:jh):Prop where
 ga:findIn K (.ref C) "__getattribute__"=SI (SI<|.builtin "BaseException.__getattribute__")
 gb:findIn K (.ref C) "__getattr__"=SI SS
 mrB:mroIn K C (.type "BaseException")=SI Td
 dct:hasDictIn K C=Td
 fnd:findIn K (.ref C) "__class__"=SI (SI<|.builtin "object.__class__")
 spc:specialIn K (.builtin "object.__class__") "__get__"=SI (SI<|.builtin "getset_descriptor.__get__")
 tks:takesIn K (.builtin "object.__class__")=SI Td
 mro:mroIn K C (.type "object")=SI Td
section
variable {K:Frag}{C x:jh}{o:eM}
end
section
variable {X:Cx}{b:kf}{d c:St}{H:Hp}{s:jk}{a:jh}{o:eM}{e:jH}
end
section
variable {X:Cx}{a:kf}{b:St}{H h:Hp}{s c:jk}{C f:jh}{d B e:jH}{F:lG}{g:jr}
end
end L2
namespace PX
open L2 PySem.SeqAt PySem.W
def Xp(a:Dn):Bool:=a.all λx=>match x with
 |some (_,C)=>I
 |_=>C
def Q4{b:Dn}(h:Xp b=C)(c:L2.St)(a:jh): ¬Z8 c b a:=λT=>by
 obtain⟨i,d,h1,_⟩:=T
 have:=mZ.mp h _ (lX h1);simp at this
def IQ{args:List (D×Bool)}(h:(args.all λa=>!a.2)=C):∀a∈args,a=(a.1,I):=λa b=>by
 have:=mZ.mp h a b;obtain⟨d,f⟩:=a
 cases f
 .rfl
 cases this
theorem tP:∀(os:List AY)(as:List (D×Bool)),(∀a∈as,a=(a.1,I))->kh os as=[]
 |[],as,_=>by cases as<;>simp[kh]
 |o::os,[],_=>by simp[kh]
 |o::os,a::as,h=>by have b:=h a la;obtain⟨d,f⟩:=a;cases b;cases o<;>simp[kh,tP os as λa c=>h a<|kn _ c]
section
variable {X:Cx}{P:jI}{w:jG}{c:List c9}{l:Hp}{s0:jk}{E:XK}{A:kE}{st:aW}{JJ a b:List aW}{x y:XS}{e:jv}{d:bt}
variable {k:Nat}{f:jh}{i:nu}{h:jK}{g:List D->Option ap}{j:lg}{fs:List FO}{z:ap}{p:bt}
end
end PX
namespace L2
open PySem.W
section
variable {fs:lG}{N:jK}{scope:kb}{b:kL}{d:St}{H g:Hp}{h h':jH}{q:ap}{a:aZ}{f:jv}{j:jh}
def AF.keep(T:AF N scope b d H h)(u:Un fs [] H g h h')(n:∀x c,b.lookup x=Y c->c∉fs):AF N scope b d g h':=by
 have p:∀{x c v},b.lookup x=Y c->h.IsCell c v->h'.IsCell c v:=λ{x c v} e z=>by obtain⟨o,k,l⟩:=z;exact⟨o,u.keep c o k (T.cell x c e).2 (n x c e)<|by simp,l⟩
 refine⟨T.inj,T.has,λx c e=>?_,λi x v h1 s=>?_,T.len⟩
 .obtain⟨⟨v,o,k,l⟩,y⟩:=T.cell x c e;exact⟨⟨v,p e ⟨o,k,l⟩⟩,u.free c o k y<|by simp⟩
 obtain⟨t,c,w,m,A,r⟩:=T.val i x v h1 s;exact⟨t,c,w,m,p m A,r⟩
end
section
variable {X:Cx}{N:jK}{scope:kb}{e:kL}{c:St}{q:ap}{a:aZ}{b:jv}{d:jh}{k:Nat}{t:XK->TE}
end
end L2
namespace PX
open L2 PySem.SeqAt PySem.W
structure ClK(K:Frag)(C CR:jh):Prop where
 k:ExcK K C
 ty:∀n∈["int","bool","str","tuple","list","dict"],kitOne K (.ref C) (.type n)=SI Tk
 up:exmOne K (.ref C) (.ref CR)=SI Td
def UQ{b:List (D×Bool)}(h:∀a∈b,a=(a.1,I))(f:L2.St)(a:jh): ¬Z8 f (b.map Y) a:=λT=>by
 obtain⟨i,d,h1,_⟩:=T
 rw[lh]at h1;obtain⟨p,c,e⟩:=jX h1;cases e;have:=h _ (lX c);simp at this
section
variable {X:Cx}
def E6{T:Z5}{f:L2.St}{k:Dn}{H:Hp}{d:kz}{args:List (D×Bool)}{K:Frag}(l:ER K H T f k)(q:kM k (d.map .slot)=Y args):
  ∃vs:List V,yP d 0 f=vs.map Y/\Ops K T f k H (d.map AY.slot) vs k H T:=by
 obtain⟨t,r⟩:=pY q
 have there:∀(i j:Nat),d[i]?=Y j->∃v,f[j]?=Y (Y v):=λi j e=>by
  have s:i<(TD args):=by have:=(uT.mp e).1;simp at t;lia
  obtain⟨o,p,g⟩:=r i _ (km s);rw[lh,e]at p;cases p;have m:=pz g;generalize args[i]=y at m;obtain⟨x,b⟩:=y
  cases b
  .obtain⟨v,h,_⟩:=l.val j x m;exact⟨v,h⟩
  obtain⟨a,h,_⟩:=l.own j x m;exact⟨_,h⟩
 refine⟨d.map λj=>((f[j]?).join).getD .Z4,?_,by simp,.refl,l,λ_ z=>z,λj x v e=>?_,λj x v e=>?_,λj i v e hv=>?_⟩
 .unfold yP;rw[cV,sX];apply zA;intro i;rw[lh,lh,lh]
  cases e:d[i]? with
  |none=>rfl
  |some j=>obtain⟨v,hv⟩:=there i j e;simp[hv]
 .rw[lh]at e;obtain⟨_,_,z⟩:=jX e;cases z
 .rw[lh]at e;obtain⟨_,_,z⟩:=jX e;cases z
 rw[lh]at e;obtain⟨c,n,z⟩:=jX e;cases z;obtain⟨u,g⟩:=there j i n;rw[lh,n]at hv;simp[g]at hv;rw[g,hv]
end
section
variable {X:Cx}{u c:jh}{a:aZ}{e:jv}{scope:kb}{f b p:bt}{d:kz}{w v:jK}{r:F}{xB:XS}{t:FS}{x:ap->Option Nat}{g:kz}{st:aW}{q:jh}{s:nu}{n o l h m:ap}{CR:jh}{i j k:Nat}
end
section
variable {X:Cx}
variable {b f a e c:bt}{i:Nat}{x:ap}{d:Nat}
end
section
variable {X:Cx}{e:jv}{fa:FO}{pos p p2:bt}{z:ap}{CL:kz}{D0:Nat}
structure ClT(K:Frag)(mg:ml)(CL:kz)(D0:Nat)(z:ap):Prop where
 mg:mg z=SI (.ref D0)
 is:∀C∈CL,kitOne K (.ref C) (.ref D0)=SI (C==D0)
variable {x:ap}{i kk:Nat}{f7 apos:bt}{a:jv}{f:F}
end
def ClX(Z:ZZ)(z:ap):Prop:= ∃T,Z.mg z=Y (.ref T)/\excIn Z.K T veB "ValueError.__new__"=C
section
variable {X:Cx}{P:jI}{w:jG}{d:List c9}{o:Hp}{s0:jk}{E:XK}{A:kE}{st:aW}{JJ b:List aW}{x y:XS}{e:jv}{g p j:bt}{f:FS}{z:ap}{a:jv}{m:F}{k:Nat}{i:jK}{h:List D->Option ap}{n:lg}{fs:List FO}{l:FT}{c:jv}
end
def acS{P:jI}{w:jG}{K:Frag}{d:ml}{base:jH}{N:jK}{q:ap}{scope:kb}{c:jh}{cd:jr}{b:kL}{A:jF}{a:List c9}{s:jk}{H:Hp}{E:XK}:
  XQ (pV (Nb P w) P w K d base N q scope c cd b A a s H E) P w a H s E:=⟨rfl,rfl,rfl,rfl,rfl,rfl,rfl,rfl,λ_ _ h=>h⟩
def Vk(q:ap)(a:jh)(H:Hp):Prop:= ∃more,H a=Y (.tbl (#[.str q 0]++more))
def spT(TB:List (jh×ap))(a:Sp):Sp:=λb H Q E=>(∀p∈TB,Vk p.2 p.1 H)/\a b H Q E
def G5(scope:kb):Bool:=decide (scope.kind=.function)&&!scope.isCoroutine&&!scope.isGenerator&&(scope.names.all λy=>y.2 != .cell)
def Xc{scope:kb}(h:G5 scope=C):Fb scope:=by unfold G5 at h;simp only[nN,mZ,vA,lm,bne_iff_ne]at h;exact⟨h.1.1.1,h.1.1.2,h.1.2,h.2⟩
def walkT{l:OpenLaw}{q:jI}{m:jK}{XP:(ap->Option jr)->jH->Prop}{E:jG->jH->Prop}{d:DefRec}{K:Params->Frag}{LV:Nat}{x:ap}{Q:A5}{TB:List (jh×ap)}(hk:YP LV fX)(hn:l.most=SI 63)(dB:d.params.defaults=[])(hY:∀(w:jG)(h:jH),E w h->(K w.params).In h)
  (L:∀(w:jG)(h:jH),E w h->∀p∈TB,h.get? p.1=SI (tabObj #[]))(gi:∀(w:jG),∀p∈TB,(K w.params).lookup p.1=SS)(fk:(TB.map (·.1)).Nodup)
  (F:∀(w:jG)(n:ml)(v:jh)(h:jH),(K w.params).In h->h.Ns ag n->n d.name=SI (.ref v)->∃I':nu,(∀(s:jk)(u:jr),fZ s I' ⟨[u],[]⟩ [(x,u)])/\(∀p∈TB,∃c,codeHdIn (K w.params) c p.1=Td)/\∀base:jH,(K w.params).In base->base.Ns ag n->(∀p∈TB,base.BuiltinsAt n p.1)->DF l.prog w (K w.params) n base El LV v I' [x] (spT TB<|Hj (K w.params) Q))
  (M:∀A:List Int,TD A<=63->∃o j,Q [(.lst<|A.map .int,I)]=SI ((.bl Td,o),j)):WalkO q m XP E l.row.toRowW d [] (λf B=>uu f B):=by
 refine Att.Rv hn dB λw U D n mb v o pm cd S a B A G Y ho hd m5 O R k i hg=>?_;have C:=hY w _ Y;obtain⟨I',hb,gg,hF⟩:=F w n v _ C G.T.g O;have N:=L w _ Y;refine ab4 (TB:=TB) C G.T.g G.T.b G.T.builtins G.T.nolimit hg N (gi w) (λp t=>?_) fk (λp t=>?_) R k (lY i<|by decide) hk hF hb (λH J hS=>?_) λH e s' z=>z
 .obtain⟨c,hc⟩:=gg p t;obtain⟨o,B,_,_,_,_,_,_,_,V,W,X,Z,_⟩:=codeHd_of_K C hc;exact⟨c,o,B,V,W,X,Z⟩
 .obtain⟨P,ob,h1,h2,r,h4,h5,y⟩:=G.T.bmain;refine⟨P,ob,h1,h2,λz=>?_,λz=>?_,r,h4,h5,y⟩
  .obtain⟨o',es,ep,e,dd,_⟩:=G.T.g;rw[z,e]at r;cases r;rw[dd]at y;cases y
  rw[z,N p t]at r;cases r;cases y
 obtain⟨o,j,e⟩:=M A i;exact⟨λp t=>⟨#[],by rw[J.all p t];rfl⟩,QN J.all hS e⟩
def Vj(TB:List (jh×ap))(H:Hp):Prop:= ∀p∈TB,Vk p.2 p.1 H
def fnU{Z:ZZ}{k:Nat}{x:ap}{st:aW}{N c:jK}{asg:kz}{fs:FS}{f:jh}{d:nu}{TB:List (jh×ap)}(F:JP Z.K x x st f d)(S:Z2 N c (jy st))
  (l:∀(b:jr)(A:jF)(a:List c9)(s:jk)(H:Hp)(E:XK)(L:LL),(∀i,L.p i->i<TD c)->YP k (A.deeper<|bi x (jy st) s.heap.objs.size f b)->
   un (A.deeper<|bi x (jy st) s.heap.objs.size f b) 60->un (A.deeper<|bi x (jy st) s.heap.objs.size f b) 1->un (A.deeper<|bi x (jy st) s.heap.objs.size f b) 62->un (A.deeper<|bi x (jy st) s.heap.objs.size f b) 90->N.Nodup->
   b=d.code->Vj TB H->QQ (qW El Z.P Z.w Z.K Z.mg Z.base N x (jy st) f b A a s H E).J2 (λi=>i∈asg) L H (mJ st) fs):
  DF Z.P Z.w Z.K Z.mg Z.base El (k+1) f d c (spT TB<|Hj Z.K<|Ae (TD N) (TD c) asg fs):=by
 obtain⟨o,q,kV,g,r,an,b,ct,t,rfl,lk,m⟩:=F.ex;refine Sf lk m S (λn H Q E h=>HP h.2) λA a s H n Q E e h=>?_;obtain⟨L,h1,j⟩:=GD h.2;have:=e.un;exact⟨_,((l b A a s H E L h1 e (by unfold un;omega) (by unfold un;omega) (by unfold un;omega) (by unfold un;omega) S.nd J h.1).h).J2,j⟩
def M0(Z:ZZ)(TB:List (jh×ap))(k:Nat)(x:ap)(b:jK)(c:A5):Prop:= ∃f a,DF Z.P Z.w Z.K Z.mg Z.base El k f a b (spT TB<|Hj Z.K c)/\Z.mg x=Y (.ref f)/\keepIn Z.K (.ref f)=C/\Binds Z.K a b []
def M0.up{Z:ZZ}{TB:List (jh×ap)}{k j:Nat}{x:ap}{d:jK}{c:A5}(o:M0 Z TB k x d c)(h:k<=j:=by decide):M0 Z TB j x d c:=let⟨f,e,a,b⟩:=o;⟨f,e,a.mono h,b⟩
def NU(Z:ZZ)(TB:List (jh×ap))(x:ap)(st:aW)(q:ap)(a:jh):Prop:= ∃f b c,Z.mg x=Y (.ref f)/\JP Z.K x x st f b/\b.code=.ref c/\CodeHd Z.base c a/\Z.base.BuiltinsAt Z.mg a/\ag≠a/\(a,q)∈TB
def M3(K:Frag)(d:ml)(x:ap)(st:aW)(b:jh):Prop:= ∃f a c,d x=Y (.ref f)/\JP K x x st f a/\a.code=.ref c/\codeHdIn K c b=C
def fzT{K:Frag}{h:jH}{g:ml}{x:ap}{st:aW}{f c d:jh}{j:jr}{m an:Option jh}{o:wc}{kV b n ct:jr}(X:K.In h)(G:h.Ns ag g)(a:nsIn K ag x=Y (Y<|.ref f))
  (l:K.lookup f=Y ⟨j,m,.func<|fnOf x x (qk st) (mJ st) (jy st) .none kV b n an (.ref c) ct,o⟩)(e:codeIn K (.ref c) x=C)(k:keepIn K (.ref f)=C)(i:codeHdIn K c d=C):M3 K g x st d:=⟨f,_,c,mg_of X G a,NY l e k,rfl,i⟩
def M3.tb{Z:ZZ}{x q:ap}{st:aW}{b:jh}{TB:List (jh×ap)}(a:M3 Z.K Z.mg x st b)(X:Z.K.In Z.base)(B:∀p∈TB,Z.base.BuiltinsAt Z.mg p.1)(m:(b,q)∈TB)(i:ag≠b:=by decide):NU Z TB x st q b:=
 let⟨f,d,c,h1,e,g,h⟩:=a
 ⟨f,d,c,h1,e,g,codeHd_of_K X h,B _ m,i,m⟩
def M3.cd{K:Frag}{d:ml}{x:ap}{st:aW}{b:jh}(a:M3 K d x st b):∃c,codeHdIn K c b=C:=let⟨_,_,c,_,_,_,h⟩:=a;⟨c,h⟩
section
variable {X:Cx}{k:Nat}{f:jh}{i:nu}{d:jK}{x:ap}{p b:bt}{e a:jv}{c:lg}{g:A5}{fs:List FO}{j:FO}{TB:List (jh×ap)}
def adj{o:Sp}{t:TA}(F:DF X.prog X.w X.K X.mg X.base El k f i d (spT TB o))(T:Vj TB X.H₀)(O:YP k X.A)(C:Gl X x)(E:X.mg x=Y (.ref f))(hk:keepIn X.K (.ref f)=Td)(z:Binds X.K i d [])
  (y:PA X (e::c) t)(G:(x==("__debug__":ap))=Tk)(B:ac (e::c) X.env=(Tk,aY e X.env)::ac c X.env)(v:(aV b<|ac c X.env).any (·.1)=Tk):
  PE X (.Call (.Name x p) (e::c) [] b) (RM o [] L2.E0 t):=by
 intro l s M H Q I h;refine we<|Dl I C E ?_ G;refine gO (h₀:=X.base) I.ok.mod.kin hk (T2 (y b l s M H _ I h) λU' s1 ⟨Y',N,n,r,q⟩=>⟨n.G8,?_⟩) B v;exact Md F O z .nil RY n r ⟨λp L=>let⟨m,e⟩:=T p L;let⟨J',u⟩:=n.base.tbls _ _ e;⟨m++J',by rw[u,Gr]⟩,q⟩
def xUT(J:YP k X.A)(O:M0 (zX X) TB k x d g)(M:Vj TB X.H₀)(C:QA X (e::c) fs)(L:Gl X x:=by rfl)(U:DB x:=by decide)
  (I:SE X e c:=by rfl)(y:BA X b c:=by rfl):QX X (.Call (.Name x p) (e::c) [] b) (kc g fs):=
 let⟨_,_,ok,G,Y',w⟩:=O;⟨PX.imp (adj ok M J L G Y' w C.h U I y) λR H Q N=>by
 obtain⟨D,T,V,F,E,e,k⟩:=N;obtain⟨os,n,h1,e⟩:=jw e;obtain⟨l,o,e⟩:=jl e;dsimp only at e;split at e
 .rename_i q;obtain⟨r,m,z,e⟩:=jw e;obtain⟨rfl,rfl⟩:=jS e;refine⟨D,T,os,n,E,h1,λs u S B=>?_⟩;show Hj X.K g (s++[]) u Q L2.E0;rw[sX];exact⟨Tc T R n s l,l,r,m,wX E B o q,z,λv t P=>k v t<|pW E B o q P⟩
 cases e⟩
end
structure Gy(K:Frag)(mg:ml)(ct rs:List (ap×Nat))(CR:Nat):Prop where
 m:∀p∈ct,mg p.1=SI (.ref p.2)
 mr:∀p∈rs,mg p.1=SI (.ref p.2)
 is:∀p∈rs,∀r∈ct,kitOne K (.ref p.2) (.ref r.2)=SI (p.2==r.2)
 ve:∀p∈rs,kitOne K (.ref p.2) (.type "ValueError")=SI Td
 ck:∀p∈rs,ClK K p.2 CR
 ex:∀p∈rs,excIn K p.2 veB "ValueError.__new__"=Td
 su:mg "sum"=SS
 vm:mg "ValueError"=SS
 re:mg "RiddleError"=SI (.ref CR)
def aN{a:Type}{P:a->Prop}:∀p∈([]:List a),P p:=λ_ h=>nomatch h
def aC{b:Type}{P:b->Prop}{a:b}{l:List b}(h:P a)(r:∀p∈l,P p):∀p∈a::l,P p:=List.forall_mem_cons.mpr ⟨h,r⟩
def ctD(ct:List (ap×Nat))(z:ap):Nat:=(ct.lookup z).getD 0
section
variable {Z:ZZ}{ct a:List (ap×Nat)}{CR:Nat}
def N7{z:ap}{T:Nat}(h:ct.lookup z=Y T):(z,T)∈ct:=qd h
def Gy.x(c:Gy Z.K Z.mg ct a CR)(z:ap)(h:(a.lookup z).isSome=C:=by decide):ClX Z z:=by obtain⟨T,b⟩:=Kz.mp h;exact⟨T,c.mr _ (N7 b),c.ex _ (N7 b)⟩
def Gy.t{K:Frag}{d:ml}(c:Gy K d ct a CR)(z:ap)(h:(ct.lookup z).isSome=C:=by decide):ClT K d (a.map (·.2)) (ctD ct z) z:=by
 obtain⟨T,b⟩:=Kz.mp h;have:ctD ct z=T:=by unfold ctD;rw[b];rfl
 rw[this];refine⟨c.m _ (N7 b),λD e=>?_⟩;obtain⟨p,f,rfl⟩:=jD e;exact c.is p f _ (N7 b)
def Gy.v{K:Frag}{e:ml}(c:Gy K e ct a CR):∀T∈a.map (·.2),kitOne K (.ref T) (.type "ValueError")=Y C:=λD b=>by obtain⟨p,d,rfl⟩:=jD b;exact c.ve p d
end
section
variable {X:Cx}{x y a b c d:jv}{u v z:ap}{t s r q:FO}{f l k j i h:bt}{p o n:Nat}{m g e:cZ}
end
end PX
namespace TT
section
variable {a:jI}{w:jG}{A:jF}{E:jZ}{s:jk}
def ac1(h:Q₁ (.ref s.heap.objs.size) {s with heap:=s.heap.push (kI #[] 0 (lM w))}):
  bQ (ae a w) A (.call (.builtin "set.__new__") ⟨[.type "set"],[]⟩) (zn Q₁ E) s:=by
 refine vC ?_;change aa _ A.in1 (gl "set.__new__" ⟨[.type "set"],[]⟩>>=λ_=>again<|.builtin "set.__new__" ⟨[.type "set"],[]⟩) _ _ s;refine ji<|rB PySem.F.newCall_set_0<|ju ⟨rp Cj _,qw K8 ?_⟩;rw[sG Cj _];unfold bc.«set.__new__» ek;have c:=Gc;obtain⟨b,g,d,e,os⟩:=s;dsimp only
 wp_walk
 refine sQ<|ju ?_;dsimp only;simp only[newObj];refine ji<|xJ<|ju ?_;exact ju h
set_option maxHeartbeats 8000000 in
def Va{Q:jZ}(h:Q (.ref s.heap.objs.size) {s with heap:=s.heap.push (kI #[] 0 (lM w))}):aa (ae a w) A (call (.type "set") []) Q E s:=by
 obtain⟨c,y,j⟩:=DS.mro;have g:=DS.made;have x:=DS.sub;refine zH<|vC ?_;change aa _ _ (callAny (.type "set") ⟨[],[]⟩) _ _ s;refine ju ⟨Code.quiet_builtin _ (by decide+kernel),qw K7 ?_⟩;rw[hC (K6 "set" ([]:List jr) []) J];have h1:=DS.notType;have t:=DS.canCreate;have q:=PySem.F.typeCall_set_0
 repeat (any_goals (first|assumption|wp_step))
 refine rX (ac1 (E:=E) (Q₁:=λobj b=>obj=.ref s.heap.objs.size/\b={s with heap:=s.heap.push (kI #[] 0 (lM w))}) ⟨rfl,rfl⟩) λr b i=>?_
 cases r with
 |error e=>exact i
 |ok l=>
  cases l with
  |ret obj=>
   obtain⟨rfl,rfl⟩:=i;have m:(s.heap.push<|kI #[] 0 (lM w)).get? s.heap.objs.size=Y (kI #[] 0 (lM w)):=kW _ rfl;have n:c8 {s with heap:=s.heap.push (kI #[] 0 (lM w))} (.ref s.heap.objs.size) "set":=⟨_,m,rfl⟩
   have p:=DS.init.lookup;have v:=DS.init.bind<|.ref s.heap.objs.size
   repeat (any_goals (first|assumption|wp_step))
   refine rX (K5 (R:=zn (λr z=>r=.none/\Q (.ref s.heap.objs.size) z) E) DS.init.plain K0<|check_set_init n ?_) λd k f=>?_
   .unfold bc.«set.__init__» noKeywords
    wp_walk
    exact⟨rfl,h⟩
   cases d with
   |error e=>exact f
   |ok o=>
    cases o with
    |ret r=>
     obtain⟨rfl,u⟩:=f
     repeat (any_goals (first|assumption|wp_step))
    |_=>exact f.elim
  |_=>exact i.elim
end
end TT
namespace PX
open L2 PySem.SeqAt
def ET:F:=λa=>Y ((.Z3 .set [] [],C),a)
section
variable {X:Cx}{e:jv}{f:F}{g:FO}{a h c d p:bt}{i:Nat}{x:ap}
def PK(m:Gl X "set")(n:X.mg "set"=U):PX X (.Call (.Name "set" p) [] [] a) ET:=λl s y H Q O r=>by obtain⟨w,T,v,t,E,e,k⟩:=r;cases e;refine we<|qo O m n Vc ?_ (by decide) (by decide);refine x0<|TT.Va ?_;have j:=O.hok.fresh<|kD s.heap.objs.size;refine⟨.ref s.heap.objs.size,upd H s.heap.objs.size<|.Z6 [],O.laid (t':=s.toks) (o:=.Z6 []) (λb u q=>kB _ q) (kD _) ?_,rfl,(Ops.nil E).done k _ _ j (ly j) ⟨[],⟨rfl,[],jL,.nil⟩,Z9.nil⟩⟩;exact⟨#[],0,_,kW _ rfl,.nil,TT.V0.fresh _ _ _,rfl,rfl⟩
def RF{p:bt}(T:Tx X.mg)(b:Gl X "set":=by rfl):QX X (.Call (.Name "set" p) [] [] a) ET:=⟨PK b T.n_set⟩
end
open PySem.W
section
variable {X:Cx}{E:XK}{A:kE}{c iter:jv}{a:List aW}{d:DK}{t:Tg}{e:FS}{x:XS}{b:bt}
end
def adk{c:L2.St}{b:Dn}{i j:Nat}{a:jh}(h:X0 c (b.set j U) i a):X0 c b i a/\i≠j:=by
 obtain⟨d,h1,f⟩:=h;by_cases e:j=i
 .subst e;rw[xG]at h1;split at h1
  .split at h1<;>cases h1
  rename_i z;exact absurd J z
 rw[nD e]at h1;exact⟨⟨d,h1,f⟩,λz=>e z.symm⟩
section
variable {X:Cx}{P:jI}{w:jG}{a:List c9}{g:Hp}{s0:jk}{E:XK}{k:Nat}{d:jK}{c:List D->Option ap}{e:jv}{f:lg}{fs:List FO}{z:ap}{p b:bt}
end
section
variable {X:Cx}{t c:jh}{a:aZ}{d:jv}{scope:kb}{e b o:bt}{p:Nat}{v u:jK}{xB:XS}{s:FS}{w:ap->Option Nat}{f:kz}{st:aW}{q:jh}{r:nu}{m n h g l:ap}{CR:jh}{i j k:Nat}
end
end PX
namespace L2
open PySem.W
structure Fd(nm q:ap)(params:aZ)(body:List aW)(scope:kb)(b7:kL)(H:Hp)(h:jH)(fl:jh):Prop where
 fn:∃doc pm c' k9,h.get? fl=SI (fnMade nm q params body scope b7 doc pm c' k9)/\∃ob u vs t,H c'=SI (.Bi ob u)/\ob.data=.fields vs/\vs[1]?=SI (.str q t)
 un:H fl=SS
section
variable {X:Cx}{g:kf}{l:St}{H:Hp}{s:jk}{P c:jh}{a:aZ}{f:List aW}{h q:ap}{ln:Nat}{scope:kb}{i:kL}{j:bt}
def Oc{M:gy}{A:jF}{E:jZ}{Q:jZ}(I:Inv X g l H s){more:nJ}(hP:H P=SI (.tbl (#[.str q 0]++more)))(hc:X.env.code=.ref c)(C:CodeHd X.base c P)(hB:X.base.BuiltinsAt X.mg P)(hU:ag≠P)
  (n8:q7 scope X.env=pure i)
  (k:∀s1 N fl,Inv X g l N s1->(∀b o,H b=SI o->N b=SI o)->Fd h q a f scope i N s1.heap fl->(∀b o,s.heap.get? b=SI o->H b=SS->s1.heap.get? b=SI o)->(∀b o,s.heap.get? b=SI o->H b=SS->N b=SS)->s.heap.get? fl=SS->Q (.ref fl) s1):
  aa M A (makeFunction h q a (.stmts f) scope X.env [] [] [] j ln) Q E s:=by
 obtain⟨qq,tq,ps,Y,O,F,hm⟩:=(show Z7 X.prog X.w H s.heap P (.tbl (#[.str q 0]++more))from I.hok P _ hP)
 have hqq:q=qq:=by rw[Array.getElem?_append_left<|by simp]at Y;simp at Y;exact Y.1
 subst hqq;have y8:s.heap.BuiltinsAt X.mg P:=let⟨bm,o,h1,R,S,V,h5,h6⟩:=hB;⟨bm,o,h1,R,S,V,I.bk _ _ h5,h6⟩
 have hg:s.heap.Ns ag X.mg:=I.ok.mod.glob.keeps I.bk
 cases W:ei j ps.toList with
 |some cv=>refine makeFunction_hit n8 I.ok.glob hg hc (C.keeps I.bk) O F W y8 λr m y K v sz=>?_;obtain⟨p,ob,u,vs,t,rfl,R,S,V⟩:=hm j cv W;have bP:∀b o,s.heap.get? b=SI o->(y.push<|fnMade h q a f scope i m ((X.mg "__name__").getD .none) p r).get? b=SI o:=λb o e=>kB _ (v b o e);exact k _ H _ (I.kept (t':=K) bP) (λ_ _ e=>e) ⟨⟨m,_,p,r,kW _ rfl,ob,u,vs,t,R,S,V⟩,I.hok.fresh sz⟩ (λb o e _=>bP b o e) (λ_ _ _ n=>n) (RZ sz)
 |none=>
  refine makeFunction_K n8 I.ok.glob hg hc (C.keeps I.bk) O F W hU y8 λp r m y K ex U B cr tb=>?_;obtain⟨c0,x,vs,t,ec,eQ,G,hq⟩:=cr;cases ec;have nc:H p=SS:=I.hok.fresh U;have v:∀b o,b≠P->s.heap.get? b=SI o->(y.push<|fnMade h q a f scope i m ((X.mg "__name__").getD .none) p r).get? b=SI o:=λb o n e=>kB _ (ex b o n e);have up:∀b o,H b=SI o->upd H p (.Bi x<|.own 0) b=SI o:=λb o e=>by rw[ke<|md e nc];exact e
  have nP:∀b,H b=SS->b≠P:=λb n z=>by rw[z,hP]at n;cases n
  have L:=kB (fnMade h q a f scope i m ((X.mg "__name__").getD .none) p r) tb
  have un:Un (J6 X.stack) [] H (upd H p<|.Bi x<|.own 0) s.heap (y.push<|fnMade h q a f scope i m ((X.mg "__name__").getD .none) p r):=
   ⟨λb o e n _ _=>v b o (nP b n) e,λb o e n _ _=>⟨o.slots,v b o (nP b n) e⟩,λb o e n _=>by rw[ke<|kU<|oK (kX e) U];exact n,λb o e _=>by
    by_cases z:b=P
    .subst z;exact⟨_,L⟩
    exact⟨o,v b o z e⟩,λb xs e=>up b _ e,λb o xs e=>up b _ e,λb ps e=>⟨#[],by rw[up b _ e];simp⟩⟩
  have Z:EE X.prog X.w (upd H p<|.Bi x<|.own 0) (y.push<|fnMade h q a f scope i m ((X.mg "__name__").getD .none) p r):=λb u e=>by
   by_cases D:b=p
   .subst D;rw[jL]at e;cases e;exact⟨kB _ eQ,⟨x,kB _ eQ⟩⟩
   rw[ke D]at e;by_cases T:b=P
   .subst T;rw[hP]at e;cases e;refine⟨_,tq,_,Y,L,?_,λJ cv z=>?_⟩
    .rw[KQ];exact wt _ F
    rw[KQ]at z;rcases AN _ F z with z|z
    .obtain⟨B,ob,u,vs,t,r1,r2,r3,r4⟩:=hm J cv z;exact⟨B,ob,u,vs,t,r1,up _ _ r2,r3,r4⟩
    exact⟨p,x,_,vs,t,z,jL,G,hq⟩
   refine(I.hok b u e).AV (λd w hd q=>v d w (λz=>?_) q) (λd q=>up d _ q) (λd xs q=>up d _ q) λd _ _ q=>up d _ q;subst z;rcases hd with z|z
   .exact T z.symm
   rw[hP]at z;cases z
  have I1:Inv X g l (upd H p<|.Bi x<|.own 0) {s with heap:=y.push<|fnMade h q a f scope i m ((X.mg "__name__").getD .none) p r,toks:=K}:=I.call (g':=s.gens) (d':=s.drawn) (t':=K) un Z I.bare λb D=>absurd D (by simp);refine k _ _ _ I1 up ⟨⟨m,_,p,r,kW _ rfl,x,_,vs,t,jL,G,hq⟩,?_⟩ (λb o e n=>v b o (nP b n) e) (λb o e n=>un.free b o e n<|by simp) (RZ<|wj<|zm U B);rw[ke<|qe B];exact I.hok.fresh<|wj<|zm U B
end
section
variable {CX:JI}{P:jI}{w:jG}{K:Frag}{j:ml}{base:jH}{N:jK}{d m q:ap}{scope:kb}{fl:jh}{cd:jr}{g:kL}{A:jF}{a:List c9}{s:jk}{H:Hp}{E:XK}{l:St}{v:V}{u:jr}
def Q0(S:Fb scope)(k:scope.names.lookup d=Y .local)(hd:A.handled=U)(e:Ht P w K j base A a s H)(G:AF N scope g l H s.heap)(L:RelV v u){h1:jH}{t1:Nat}(O:h1.Ns s.heap.objs.size (λy=>[(d,u)].reverse.lookup y))(hk:∀b o,s.heap.get? b=Y o->h1.get? b=Y o):
  Inv (pV CX P w K j base (d::N) q scope fl cd g A a s H E) [] (Y v::l) H {s with heap:=h1,toks:=t1}:=by
 have n:∀b:jh,b∉(pV CX P w K j base (d::N) q scope fl cd g A a s H E).ex:=λb z=>absurd (show b∈([]:List jh)from z) (by simp)
 refine⟨⟨e.mod,S.kind,rfl,rfl,kD _,G.inj,λy f=>?_,λy c z _=>absurd z<|by simp[pV],λ_=>hd,Gg e.frames,.inr ⟨rfl,rfl⟩,λb z=>absurd z<|n b,e.bs,e.bsz,λb _ _=>n b,λb z=>absurd z<|n b,e.Ef,e.frf⟩,
  rfl,e.bare,Un.kept hk,⟨_,O,λi y T h1 t _=>?_⟩,λy c h=>?_,e.hok.fresh<|kD _,λy c h=>(G.cell y c h).2,λp k=>absurd (show p∈([]:List (jh×eM))from k)<|by simp,e.hok.kept hk,nC (· +1) G.len⟩
 .have f:scope.names.lookup y=Y .cell\/scope.names.lookup y=Y .free:=f;rcases f with f|f
  .exact absurd J (S.cell _ (qd f))
  exact G.has y f
 .cases i with
  |zero=>
   cases h1;cases t;exact⟨u,L,.inl ⟨k,by simp⟩⟩
  |succ i=>obtain⟨B,c,Q,x,M,r⟩:=G.val i y T h1 t;exact⟨Q,r,.inr ⟨.inr B,c,x,M.keeps hk⟩⟩
 obtain⟨⟨v,hv⟩,_⟩:=G.cell y c h;exact⟨v,hv.keeps hk⟩
def Rl{c:aZ}{h:List aW}{k:Nat}{Q:VK}(S:Fb scope)(U:scope.names.lookup d=SI .local)(T:YP (k+1) A)(O:Ht P w K j base A a s H)(C:AF N scope g l H s.heap)(L:Fd m q c h scope g H s.heap fl)
  (k6:∀x pm i k9,db (fnX m q c h scope g .none .none x pm SS (.ref i) k9) ⟨[u],[]⟩=pure [(d,u)])(B:RelV v u)
  (hb:∀i:jh,YP k (A.deeper<|AE q scope s.heap.objs.size fl (.ref i) g)->∃t,GJ (pV CX P w K j base (d::N) q scope fl (.ref i) g A a s H E) h t/\t {nx:=λ_ p=>Q .Z4 p,rt:=Q} (SI v::l) H):
  bQ (ae P w) A (.call (.ref fl) ⟨[u],[]⟩) (CR CX a P w H s Q E) s:=by
 obtain⟨x,pm,i,k9,Z,ob,u',vs,tk,h1,W,X⟩:=L.fn;have m5:s.heap.CodeRec (.ref i) q:=⟨i,ob,vs,tk,rfl,(O.hok i _ h1).1,W,X⟩
 have G:s.heap.NoLimit:=O.mod.nolimit.keeps λb o e=>(O.bs b o e).1;refine Gd T.depth Z Tl S.co S.gen Tl m5 ?_;rw[k6];refine ju<|wpAny_newFunctionEnv S.cell (by intro y Y;simp at Y;subst Y;exact U) (λz t7 D=>⟨G.fresh _ D,Gb ?_⟩) S.kind;have F:∀b o,s.heap.get? b=SI o->z.get? b=SI o:=λb o e=>D.extBut b o (kU<|kX e)<|kB _ e;have I:=Q0 (CX:=CX) (q:=q) (fl:=fl) (cd:=.ref i) (E:=E) (t1:=s.toks+([(d,u)]:List (ap×jr)).length) S U T.hd O C B t7 F;obtain⟨t,R,ht⟩:=hb i<|T.deeper _;refine oJ (R [] _ (SI v::l) H _ I ht) (λf M r=>?_) λe M r=>r
 have fin:∀{n:St}{p:Hp}{v:V}{u:jr},Inv (pV CX P w K j base (d::N) q scope fl (.ref i) g A a s H E) [] n p M->RelV v u->Q v p->CE a P w H s Q u M:=
  λ{n p v u} J B q=>⟨v,p,J.os,J.bare,J.base,J.hok,B,q⟩
 cases f with
 |ret u=>obtain⟨v,n,p,J,B,q⟩:=r;exact fin J B q
 |next=>obtain⟨n,p,J,q⟩:=r;exact fin (v:=V.Z4) (u:=ah) J Tl q
 |brk=>obtain⟨_,_,_,q⟩:=r;exact aJ q
 |cont=>obtain⟨_,_,_,q⟩:=r;exact aJ q
end
structure Bc(scope:kb)(xp:ap):Prop where
 kind:scope.kind=.function
 co:scope.isCoroutine=Tk
 gen:scope.isGenerator=Tk
 par:scope.names.lookup xp=SI .cell
 one:(scope.names.filter λy=>y.2==aE)=[(xp,.cell)]
theorem AJ:∀(b:List (ap×NameKind))(n:Nat)(c:kL),(b.filter λy=>y.2==aE)=[]->bb n b c=c
 |[],_,_,_=>rfl
 |(x,k)::r,n,c,h=>by
  unfold bb;by_cases hk:(k==aE)=C
  .rw[xi (p:=λy:ap×NameKind=>y.2==aE) (a:=(x,k)) hk]at h;cases h
  rw[jP hk];rw[xh (p:=λy:ap×NameKind=>y.2==aE) (a:=(x,k)) hk]at h;exact AJ r n c h
theorem yv{d:ap}:∀(b:List (ap×NameKind))(n:Nat)(c:kL),(b.filter λy=>y.2==aE)=[(d,.cell)]->bb n b c=(d,n)::c
 |[],_,_,h=>nomatch h
 |(x,k)::r,n,c,h=>by
  unfold bb;by_cases hk:(k==aE)=C
  .rw[jz hk];rw[xi (p:=λy:ap×NameKind=>y.2==aE) (a:=(x,k)) hk]at h;obtain⟨h1,e⟩:=vn h;cases h1;exact AJ r _ _ e
  rw[jP hk];rw[xh (p:=λy:ap×NameKind=>y.2==aE) (a:=(x,k)) hk]at h;exact yv r n c h
def Bc.only{scope:kb}{a y:ap}(S:Bc scope a)(h:scope.names.lookup y=Y .cell):y=a:=by have:(y,aE)∈scope.names.filter λy=>y.2==NameKind.cell:=yL.mpr ⟨qd h,rfl⟩;rw[S.one]at this;exact(sH<|DR.mp this).1
def aaS{M:gy}{A:jF}{E:jZ}{s:jk}{scope:kb}{globals:jh}{k:kL}{h:ap}{u:jr}{qual:ap}{d:Option jh}{code:jr}{a:jh}{Q:c9->jk->Prop}(S:Bc scope h)
  (q:∀f,f.Ns s.heap.objs.size (λ_=>U)->(∀b o,s.heap.get? b=Y o->f.get? b=Y o)->f.IsCell (s.heap.objs.size+1) (Y u)->
   Q (newEnv scope s.heap.objs.size globals ((h,s.heap.objs.size+1)::k) qual d code U a) {s with heap:=f}):
  aa M A (da scope globals k [(h,u)] qual d code U a) Q E s:=by
 simp -iota only[da,Option.isSome_none,lL,mT];refine ji<|xJ ?_;refine ji<|y4 _ (λl g i=>by cases j:g==aE<;>simp[j]) _ _ _ _ ?_;have ok:=IR scope.names (s.heap.push {cls:=.type "frame",data:=.dict #[]}) (s.heap.objs.size+1) [] ⟨λ_ _ t=>(nomatch t),b8⟩ (by rw[oV];exact kD _);rw[oV,yv _ _ _ S.one]at ok;rw[show({s with heap:=s.heap.push {cls:=.type "frame",data:=.dict #[]}}:jk).heap.objs.size=s.heap.objs.size+1 from oV ..,yv _ _ _ S.one];have r:=(ok.empty h (s.heap.objs.size+1) la).1;have v:=(Heap.Ns.new s.heap<|.type "frame").keeps<|CN scope.names _;refine ji ?_;rw[zF];refine ji<|ji<|Lz (c:=s.heap.objs.size+1) (v₀:=U) S.kind S.par (by simp[newEnv]) r λf p n=>ju ?_;show aa M A (fq (m:=dc) ([]:List (ap×jr)) PUnit.unit _) _ _ _;rw[pp];refine ju<|ju<|q f (v.sameBut n<|kU<|zB _) (λb o e=>?_) p;refine(n.2 b<|kU<|uO<|kX e).trans ?_;exact CN _ _ b o (kB _ e)
section
variable {CX:JI}{P:jI}{w:jG}{K:Frag}{mg:ml}{base:jH}{N:jK}{xp nm q:ap}{scope:kb}{fl:jh}{cd:jr}{b7:kL}{A:jF}{outer:List c9}{s:jk}{H:Hp}{E:XK}{σ:St}{v:V}{u:jr}
def adL(S:Bc scope xp)(hd:A.handled=U)(d:Ht P w K mg base A outer s H)(G:AF N scope b7 σ H s.heap)(L:RelV v u){h1:jH}{t1:Nat}(O:h1.Ns s.heap.objs.size (λ_=>U))(hk:∀b o,s.heap.get? b=Y o->h1.get? b=Y o)
  (g:h1.IsCell (s.heap.objs.size+1) (Y u)):
  Inv (pV CX P w K mg base (xp::N) q scope fl cd ((xp,s.heap.objs.size+1)::b7) A outer s H E) [] (Y v::σ) H {s with heap:=h1,toks:=t1}:=by
 have k:∀b:jh,b∉(pV CX P w K mg base (xp::N) q scope fl cd ((xp,s.heap.objs.size+1)::b7) A outer s H E).ex:=λb z=>absurd (show b∈([]:List jh)from z) (by simp)
 have a:∀y c,((xp,s.heap.objs.size+1)::b7).lookup y=Y c->(y=xp/\c=s.heap.objs.size+1)\/b7.lookup y=Y c:=λy c h=>by
  rw[oW]at h
  cases f:y==xp with
  |true=>rw[f]at h;cases h;exact .inl ⟨pG f,rfl⟩
  |false=>rw[f]at h;exact .inr h
 have own:((xp,s.heap.objs.size+1)::b7).lookup xp=Y (s.heap.objs.size+1):=by simp
 have free:∀y,scope.names.lookup y=Y .free->((xp,s.heap.objs.size+1)::b7).lookup y=b7.lookup y:=λy h=>by
  rw[oW]
  cases f:y==xp
  .rfl
  rw[pG f,S.par]at h;cases h
 have lt:∀y c,b7.lookup y=Y c->c<s.heap.objs.size:=λy c h=>by obtain⟨⟨v,hv⟩,_⟩:=G.cell y c h;exact hv.lt
 refine⟨⟨d.mod,S.kind,rfl,rfl,kD _,λx y c h1 j=>?_,λy e=>?_,λy c z _=>absurd z<|by simp[pV],λ_=>hd,Gg d.frames,.inr ⟨rfl,rfl⟩,λb z=>absurd z<|k b,d.bs,d.bsz,λb _ _=>k b,λb z=>absurd z<|k b,d.Ef,d.frf⟩,
  rfl,d.bare,Un.kept hk,⟨_,O,λi y T h1 j _=>?_⟩,λy c h=>?_,d.hok.fresh<|kD _,λy c h=>?_,λp B=>absurd (show p∈([]:List (jh×eM))from B)<|by simp,d.hok.kept hk,nC (· +1) G.len⟩
 .rcases a x c h1 with⟨a1,m⟩|a1<;>rcases a y c j with⟨a2,n⟩|a2
  .rw[a1,a2]
  .exact absurd (lt y c a2) (by rw[m];exact LB.mpr<|uP _)
  .exact absurd (lt x c a1) (by rw[n];exact LB.mpr<|uP _)
  exact G.inj x y c a1 a2
 .have e:scope.names.lookup y=Y .cell\/scope.names.lookup y=Y .free:=e;show ∃c,((xp,s.heap.objs.size+1)::b7).lookup y=Y c;rcases e with e|e
  .rw[S.only e];exact⟨_,own⟩
  rw[free y e];exact G.has y e
 .cases i with
  |zero=>
   cases h1;cases j;exact⟨u,L,.inr ⟨.inl S.par,_,own,g⟩⟩
  |succ i=>obtain⟨l,c,Q,t,M,r⟩:=G.val i y T h1 j;exact⟨Q,r,.inr ⟨.inr l,c,(free y l).trans t,M.keeps hk⟩⟩
 .rcases a y c h with⟨_,rfl⟩|h
  .exact⟨_,g⟩
  obtain⟨⟨v,hv⟩,_⟩:=G.cell y c h;exact⟨v,hv.keeps hk⟩
 rcases a y c h with⟨_,rfl⟩|h
 .exact d.hok.fresh (uP _)
 exact(G.cell y c h).2
def Ol{a:aZ}{c:List aW}{k:Nat}{Q:VK}(S:Bc scope xp)(n:YP (k+1) A)(m:Ht P w K mg base A outer s H)(C:AF N scope b7 σ H s.heap)(L:Fd nm q a c scope b7 H s.heap fl)
  (k6:∀j O d z,db (fnX nm q a c scope b7 .none .none j O SS (.ref d) z) ⟨[u],[]⟩=pure [(xp,u)])(l:RelV v u)
  (U:∀(d:jh)(B:kL),YP k (A.deeper<|AE q scope s.heap.objs.size fl (.ref d) B)->∃t,GJ (pV CX P w K mg base (xp::N) q scope fl (.ref d) B A outer s H E) c t/\t {nx:=λ_ h=>Q .Z4 h,rt:=Q} (SI v::σ) H):
  bQ (ae P w) A (.call (.ref fl) ⟨[u],[]⟩) (CR CX outer P w H s Q E) s:=by
 obtain⟨j,O,d,z,D,W,u',vs,Z,h1,G,M⟩:=L.fn;have R:s.heap.CodeRec (.ref d) q:=⟨d,W,vs,Z,rfl,(m.hok d _ h1).1,G,M⟩
 have p:s.heap.NoLimit:=m.mod.nolimit.keeps λb o e=>(m.bs b o e).1;refine Gd n.depth D Tl S.co S.gen Tl R ?_;rw[k6];refine ju<|aaS S λy X x Y=>⟨p.keeps x,Gb ?_⟩;have I:=adL (CX:=CX) (q:=q) (fl:=fl) (cd:=.ref d) (E:=E) (t1:=s.toks) S n.hd m C l X x Y;obtain⟨t,T,F⟩:=U d ((xp,s.heap.objs.size+1)::b7)<|n.deeper _;refine oJ (T [] _ (SI v::σ) H _ I F) (λf r i=>?_) λe r i=>i
 have fin:∀{g:St}{h:Hp}{v:V}{u:jr},Inv (pV CX P w K mg base (xp::N) q scope fl (.ref d) ((xp,s.heap.objs.size+1)::b7) A outer s H E) [] g h r->RelV v u->Q v h->CE outer P w H s Q u r:=
  λ{g h v u} J l q=>⟨v,h,J.os,J.bare,J.base,J.hok,l,q⟩
 cases f with
 |ret u=>obtain⟨v,g,h,J,l,q⟩:=i;exact fin J l q
 |next=>obtain⟨g,h,J,q⟩:=i;exact fin (v:=V.Z4) (u:=ah) J Tl q
 |brk=>obtain⟨_,_,_,q⟩:=i;exact aJ q
 |cont=>obtain⟨_,_,_,q⟩:=i;exact aJ q
inductive G0(scope:kb)(xp:ap):Prop
 |loc (S:Fb scope) (hp:scope.names.lookup xp=SI .local)
 |cel (S:Bc scope xp)
def Oj{a:aZ}{b:List aW}{k:Nat}{Q:VK}(S:G0 scope xp)(g:YP (k+1) A)(e:Ht P w K mg base A outer s H)(T:AF N scope b7 σ H s.heap)(L:Fd nm q a b scope b7 H s.heap fl)
  (h:∀d o c n,db (fnX nm q a b scope b7 .none .none d o U (.ref c) n) ⟨[u],[]⟩=pure [(xp,u)])(j:RelV v u)
  (f:∀(c:jh)(i:kL),YP k (A.deeper<|AE q scope s.heap.objs.size fl (.ref c) i)->∃t,GJ (pV CX P w K mg base (xp::N) q scope fl (.ref c) i A outer s H E) b t/\t {nx:=λ_ l=>Q .Z4 l,rt:=Q} (Y v::σ) H):
  bQ (ae P w) A (.call (.ref fl) ⟨[u],[]⟩) (CR CX outer P w H s Q E) s:=by
 cases S with
 |loc S m=>exact Rl S m g e T L h j λc=>f c _
 |cel S=>exact Ol S g e T L h j f
end
end L2
namespace PX
open L2
def Hr(scope:kb)(a:ap):Bool:=(G5 scope&&(scope.names.lookup a==Y .local))||(decide (scope.kind=.function)&&!scope.isCoroutine&&!scope.isGenerator&&(scope.names.lookup a==Y .cell)&&((scope.names.filter λy=>y.2==aE).map (·.1)==[a]))
def XG{scope:kb}{f:ap}(h:Hr scope f=C):G0 scope f:=by
 unfold Hr at h;rcases vd .. ▸h with h|h
 .obtain⟨h1,c⟩:=nN .. ▸h;exact .loc (Xc h1)<|pG c
 simp only[nN,vA,lm,beq_iff_eq]at h;refine .cel ⟨h.1.1.1.1,h.1.1.1.2,h.1.1.2,h.1.2,?_⟩;have c:=h.2;generalize i:(scope.names.filter λy=>y.2==aE)=l at c
 have d:∀y∈l,y.2=.cell:=λy e=>by rw[<-i]at e;exact pG (yL.mp e).2
 match l,c,d with
 |[(a,b)],c,d=>have g:=d (a,b) la;cases g;cases c;rfl
def Kn{k:Nat}{A:jF}(n:Nat)(r:YP k A)(h:n<=199:=by decide):A.units+n<cLine:=by have:=r.un;omega
end PX
namespace L2
open PySem.W
section
variable {fs:lG}{N:jK}{d q:ap}{scope:kb}{f:kL}{H g:Hp}{h h':jH}{a:aZ}{b:List aW}{c:jh}
def Fd.keep(L:Fd d q a b scope f H h c)(u:Un fs [] H g h h')(n:c∉fs):Fd d q a b scope f g h' c:=by obtain⟨i,o,j,l,e,m,w,p,t,h1,k⟩:=L.fn;exact⟨⟨i,o,j,l,u.keep c _ e L.un n (by simp),m,w,p,t,u.frzs _ _ _ h1,k⟩,u.free c _ e L.un (by simp)⟩
end
structure Gz(X:Cx)(N:jK)(xp nm q:ap)(scope:kb)(b7:kL)(vs:List V)(params:aZ)(body:List aW)(fl:jh)(k:Nat)(sp:Sp):Prop where
 sc:G0 scope xp
 cel:AF N scope b7 (vs.map SI) X.H₀ X.s₀.heap
 df:Fd nm q params body scope b7 X.H₀ X.s₀.heap fl
 nfl:fl∉X.fs
 ncl:∀x c,b7.lookup x=SI c->c∉X.fs
 bnd:∀doc pm c' k9 u,db (fnX nm q params body scope b7 .none .none doc pm SS (.ref c') k9) ⟨[u],[]⟩=pure [(xp,u)]
 run:∀(c':jh)(m6:kL)(s:jk)(H:Hp)(v:V)(Q:VK),YP k (X.A.deeper<|AE q scope s.heap.objs.size fl (.ref c') m6)->sp (v::vs) H Q E0->
  ∃t,GJ (pV El X.prog X.w X.K X.mg X.base (xp::N) q scope fl (.ref c') m6 X.A X.stack s H E0) body t/\t {nx:=λ_ H'=>Q .Z4 H',rt:=Q} (SI v::vs.map SI) H
def Uj{X:Cx}{N:jK}{xp T q n:ap}{scope:kb}{t:kL}{B:List V}{a:aZ}{g:List aW}{m:jh}{k j:Nat}{G:Sp}{e:jv}{M:TE}{p i:bt}(h:Gz X N xp T q scope t B a g m k G)(hex:X.ex=[])(hr:YP (k+1) X.A)
  (hj:X.N[j]?=SI n)(vj:JE X.env.scope n)(hd:(n==("__debug__":ap))=Tk)(m5:(n==("__classdict__":ap))=Tk)(he:PE X e M)(O:ac [e] X.env=(Tk,aY e X.env)::ac [] X.env)(f9:(aV i<|ac [] X.env).any (·.1)=Tk):
  PE X (.Call (.Name n p) [e] [] i) λl H Q=>l[j]?=SI (SI<|.ref m)/\M l H λv r=>G (v::B) r Q E0:=by
 intro b s l H Q I ⟨hl,hte⟩;refine we ?_;refine oJ (yb hj vj hd m5 b s l H (λv r=>v=.ref m/\r=H) I ⟨.ref m,hl,rfl,rfl⟩) (λf s1 K=>?_) λ_ _ z=>z;obtain⟨v,U,C,Z,rfl,rfl⟩:=K;cases Z
 have at_:∀{d:Hp}{c:jk},Inv X b l d c->Fd T q a g scope t d c.heap m/\AF N scope t (B.map SI) d c.heap:=λ{d c} J=>by
  have un:Un X.fs [] X.H₀ d X.s₀.heap c.heap:=by have:=J.base;rwa [hex]at this
  exact⟨h.df.keep un h.nfl,h.cel.keep un h.ncl⟩
 have L:∀{d:Hp}{c:jk},Inv X b l d c->FnAt m c.heap:=λJ=>by obtain⟨_,_,_,_,e,_⟩:=(at_ J).1.fn;exact⟨_,_,_,_,e⟩
 refine callWith_F (L C) ?_ O f9;rw[O];show aa _ _ (sx ((Tk,aY e X.env)::aV i (ac [] X.env))) _ _ s1;refine CU<|T2 (he b s1 l U _ C hte) λu c ⟨v,d,o,r2,q2⟩=>Gi ⟨L o,?_⟩;obtain⟨F,D⟩:=at_ o;refine zH<|rX (Oj (CX:=El) (E:=E0) (Q:=Q) (v:=v) (u:=u) h.sc hr o.LM D F (λx S w R=>h.bnd x S w R u) r2 λw P Y=>h.run w P c d v Q Y q2) λW s3 y=>?_
 cases W with
 |error e=>exact aJ y
 |ok f=>
  cases f with
  |ret u=>exact o.after y
  |_=>exact aJ y
end L2
namespace PX
open L2 PySem.SeqAt PySem.W
def yN(i:Nat)(os:kz)(d:A5):FS:=λc=>(kM c<|os.map .slot).bind λb=>if(b.all λa=>!a.2)=C/\i<(TD c)then(d b).bind λq=>Y (.nx<|c.set i<|Y q.1)else U
theorem NZ:∀(os:List AY)(as:List (D×Bool))(b c:Dn),(∀a∈as,a=(a.1,I))->wb os as b c=c
 |[],as,_,_,_=>by simp[wb]
 |o::os,[],_,_,_=>by cases o<;>simp[wb]
 |o::os,a::as,[],c,h=>by have e:=h a la;obtain⟨d,f⟩:=a;cases e;cases o<;>simp[wb]
 |o::os,a::as,x::b,c,h=>by have e:=h a la;obtain⟨d,f⟩:=a;cases e;cases o<;>simp[wb,NZ os as b c λa g=>h a<|kn _ g]
section
variable {X:Cx}{A:kE}{L:LL}{O:Hp}{N:jK}{C E q c d b:ap}{scope:kb}{I:kL}{f:List V}{a:aZ}{m:List aW}{w:jh}{k i j s:Nat}{o:kz}{y:A5}{z:L2.St}{p n u t l:bt}
def P5(CI:Gz X N C E q scope I f a m w k (Hj X.K y))(hL:L.st=SI z)(hz:z[j]?=SI (SI<|.ref w))(hg:o.map (λg=>(z[g]?).join)=f.map SI)(nj: ¬A j)(ng:∀g∈o,¬A g)(hex:X.ex=[])(hr:YP (k+1) X.A)
  (hj:X.N[j]?=SI c)(vj:JE X.env.scope c)(hd:(c==("__debug__":ap))=Tk)(m5:(c==("__classdict__":ap))=Tk)(ht:X.N[s]?=SI b)(vt:JE X.env.scope b)(y7:(b==("__debug__":ap))=Tk)(fg:(b==("__classdict__":ap))=Tk)
  (l8:ac [Expr.Name b n] X.env=(Tk,aY (.Name b n) X.env)::ac [] X.env)(f9:(aV t<|ac [] X.env).any (·.1)=Tk)
  (hN:X.N.Nodup)(hi:X.N[i]?=SI d)(hx:Loc X.env.scope d)(hs:cI (.Call (.Name c p) [.Name b n] [] t) (SI<|.Name d u) l.line X.env=pure Tk)(hf:X.fn d=Td\/X.env.scope.names.lookup d=SI .local)(ai:A i):
  LZ X A L O (.Assign [.Name d u] (.Call (.Name c p) [.Name b n] [] t) l) (yN i (s::o) y):=PS.imp' (My hN hi hx (Uj CI hex hr hj vj hd m5 (yb ht vt y7 fg) l8 f9) hs hf) λD σ H hw=>by
 obtain⟨δ,T,out,M,fi,e,kk⟩:=hw;obtain⟨G,F,e⟩:=jl e;obtain⟨⟨hV,du⟩,e⟩:=uw e;obtain⟨r,J,R,e⟩:=jw e;cases e;have Y:=IQ hV;obtain⟨W,fP,B⟩:=E6 M F;have Ec:=wX M B F (by rw[tP _ _ Y];exact mS);have gh:=fi.gh z hL
 have S:o.map (λg=>(σ[g]?).join)=f.map SI:=by rw[<-hg];exact ou λg h=>by rw[gh g<|ng g h]
 have U:(σ[s]?).join::f.map SI=W.map SI:=by rw[<-fP,<-S];simp[yP]
 obtain⟨v,Q,rfl⟩:∃v Q,W=v::Q:=by
  cases W with
  |nil=>simp at U
  |cons v Q=>exact⟨v,Q,rfl⟩
 simp at U
 have e2:f=Q:=by have:=nC (cc λx:Option V=>x.getD .Z4) U.2;simpa[ky,c4]using this
 subst e2;refine⟨(gh j nj).trans hz,v,pz U.1,_,G,r,J,Ec,R,λv' H' P=>?_⟩;have Z:=pW M B F (by rw[tP _ _ Y];exact mS) P;rw[NZ _ _ _ _ Y]at Z;obtain⟨h1,h2⟩:=wx (A:=A) M Z du ai;exact kk _ H' h1 h2
end
end PX
namespace L2
open PySem.W
def Inv.ghost{X:Cx}{a:kf}{c b:St}{H:Hp}{s:jk}(T:Inv X a c H s)(j:(TD b)=TD c)(h:∀(i:Nat) x,X.N[i]?=Y x->JE X.env.scope x->b[i]?=c[i]?):Inv X a b H s:=by obtain⟨m,k,f⟩:=T.loc;exact⟨T.ok,T.os,T.bare,T.base,⟨m,k,λi x v d g e=>f i x v d (by rw[<-h i x d e];exact g) e⟩,T.cell,T.free,T.freeC,T.pin,T.hok,j.trans T.len⟩
end L2
namespace PX
open L2 PySem.SeqAt PySem.W
def sh(a:D×Bool)(m:Nat)(b:List (D×Bool)):Dn:=Y a::U::(af m U++b.map Y)
def ER.forget{K:Frag}{H g:Hp}{T:Z5}{f:L2.St}{c:Dn}{i:Nat}{v:V}(E:ER K H T f c)(k:∀b o,H b=Y o->g b=Y o):ER K g T (f.set i<|Y v) (c.set i U):=by
 have ne:∀{j:Nat}{p:D×Bool},(c.set i U)[j]?=Y (Y p)->c[j]?=Y (Y p)/\i≠j:=λ{j p} h=>by
  by_cases e:i=j
  .subst e;rw[xG]at h;split at h
   .split at h<;>cases h
   rename_i z;exact absurd J z
  rw[nD e]at h;exact⟨h,e⟩
 have ow:∀{b:jh},Z8 (f.set i<|Y v) (c.set i U) b->Z8 f c b:=λ{b} ⟨j,d,h1,a⟩=>⟨j,d,(ne h1).1,by rwa [nD (ne h1).2]at a⟩
 have q:∀b,H b≠U->Z8 (f.set i<|Y v) (c.set i U) b\/T b->Z8 f c b\/T b:=λb _ z=>z.imp ow id;refine⟨by rw[sJ,sJ];exact E.len,λj x h=>?_,λj x h=>?_,λj l x y b h1 a m n=>?_,λb z=>E.nT b<|ow z,λb z=>(E.dom b z).up<|k b⟩
 .obtain⟨w,h1,a⟩:=E.val j x (ne h).1;exact⟨w,by rw[nD (ne h).2];exact h1,Rep.mono (λb o e _=>k b o e) q a⟩
 .obtain⟨b,h1,a⟩:=E.own j x (ne h).1;exact⟨b,by rw[nD (ne h).2];exact h1,a.mono (λb o e _=>k b o e) q<|k b⟩
 rw[nD (ne h1).2]at m;rw[nD (ne a).2]at n;exact E.inj j l x y b (ne h1).1 (ne a).1 m n
def DA{x:D×Bool}{m:Nat}{a:List (D×Bool)}{j:Nat}{p:D×Bool}(h:(sh x m a)[j]?=Y (Y p)):(j=0/\p=x)\/∃l,j=m+2+l/\a[l]?=Y p:=by
 unfold sh at h
 match j,h with
 |0,h=>cases h;exact .inl ⟨rfl,rfl⟩
 |1,h=>cases h
 |j+2,h=>
  simp at h;by_cases b:j<m
  .rw[qc<|by simpa using b,CS]at h;split at h<;>cases h
  rw[pJ<|by simpa using b,Ge,lh]at h;obtain⟨q,c,e⟩:=jX h;cases e;exact .inr ⟨j-m,by lia,c⟩
def oM(v:V)(fl:jh)(m:Nat)(vs:List V):L2.St:=Y v::Y (.ref fl)::(af m U++vs.map Y)
def IU{K:Frag}{H:Hp}{T:Z5}{v:V}{vs:List V}{x:D×Bool}{c:List (D×Bool)}{fl:jh}{m:Nat}(E:ER K H T ((v::vs).map Y) ((x::c).map Y))(f:∀a∈x::c,a=(a.1,I)):ER K H T (oM v fl m vs) (sh x m c)/\∀b,¬Z8 (oM v fl m vs) (sh x m c) b:=by
 have no:∀b,¬Z8 (oM v fl m vs) (sh x m c) b:=λb Q=>by
  obtain⟨j,d,h1,_⟩:=Q
  rcases DA h1 with⟨_,e⟩|⟨l,_,e⟩
  .have:=f x la;rw[<-e]at this;cases this
  have:=f _ (kn _ (lX e));cases this
 have len:(TD vs)=(TD c):=by have:=E.len;simpa using this
 refine⟨⟨by simp[oM,sh,len],λj d h=>?_,λj d h=>?_,λj l d e b h=>?_,λb z=>absurd z<|no b,E.dom⟩,no⟩
 .have i:∀{w},Rep K H (λa=>Z8 ((v::vs).map Y) ((x::c).map Y) a\/T a) d w->Rep K H (λa=>Z8 (oM v fl m vs) (sh x m c) a\/T a) d w:=Rep.mono (λ_ _ e _=>e) λb _ z=>z.elim (λz=>absurd z<|no b) .inr;rcases DA h with⟨rfl,e⟩|⟨l,rfl,e⟩
  .obtain⟨w,h1,g⟩:=E.val 0 d (by rw[<-e];rfl);cases h1;exact⟨v,rfl,i g⟩
  obtain⟨w,h1,g⟩:=E.val (l+1) d (by simp[e]);refine⟨w,?_,i g⟩;unfold oM;rw[show m+2+l=(m+l)+2 by lia,zp,zp,pJ<|by simp,Ge,Cy];simpa using h1
 .rcases DA h with⟨_,e⟩|⟨l,_,e⟩
  .have:=f x la;rw[<-e]at this;cases this
  have:=f _ (kn _ (lX e));cases this
 rcases DA h with⟨_,e⟩|⟨l,_,e⟩
 .have:=f x la;rw[<-e]at this;cases this
 have:=f _ (kn _ (lX e));cases this
def Px{K:Frag}{H j:Hp}{T:Z5}{A:kE}{v w:V}{vs:List V}{x:D×Bool}{c:List (D×Bool)}{fl:jh}{m:Nat}{r:D×Bool}{i:L2.St}{h:Dn}(E:ER K H T ((v::vs).map Y) ((x::c).map Y))(k:∀a∈x::c,a=(a.1,I))
  (S:SK A (oM v fl m vs) (sh x m c) H i h j)(R:RV K T H r i h w j):A4 K T ((v::vs).map Y) ((x::c).map Y) H r ((x::c).map Y) w j:=by
 have no:=(IU (fl:=fl) (m:=m) E k).2;have g:∀b,¬Z8 ((v::vs).map Y) ((x::c).map Y) b:=UQ k _;have up:∀b o,H b=Y o->j b=Y o:=λb o e=>S.kp b o e<|no b;obtain⟨d,f⟩:=r
 cases f
 .exact⟨.ext up,E.mono (λb o e _=>up b o e) (λ_ _ z=>z) λb z=>(E.dom b z).up<|up b,Rep.mono (λ_ _ e _=>e) (λb _ z=>z.elim (λz=>absurd z<|g b) .inr) R.2⟩
 obtain⟨p,rfl,l,q,ok⟩:=R;refine⟨.ext up,p,rfl,l,E.mono (λb o e _=>up b o e) (λb n z=>z.elim id λz=>absurd l<|z▸n) λb z=>?_,ok.mono (λ_ _ e _=>e) (λb _ z=>z.elim (λz=>absurd z<|g b) .inr) λ_ e=>e⟩;rcases z with z|z
 .exact(E.dom b z).up (up b)
 subst z;exact ok.ow
section
variable {X:Cx}{A:kE}{L:LL}{I:Hp}{C c u:jh}{b:aZ}{e:List aW}{scope:kb}{g z w p s r:bt}{d f B:kz}{H E:jK}{y x:FS}{st:aW}{v:nu}{o l n t q j h:ap}{i a k m:Nat}
end
open PySem.Builtin.Str
section
variable {X:Cx}
end
section
variable {X:Cx}{o e a:jv}{k l:FO}{b v:ap}{d p c i h g f:bt}{j:Nat}
end
section
variable {K:jJ}{T:Z5}{b:L2.St}{c:Dn}{H:Hp}{A:kE}{i j:Nat}{d:D}{a:jh}
end
section
variable {X:Cx}{A:kE}{L:LL}{d:Hp}{b a c:bt}{i j:Nat}{x y:ap}
end
end PX
namespace TT
open PySem.SeqAt
def aco{c:jn}{t:mK}(ok:V0 c t)(h:Int):∃m,(pr t.mask h m).j∉t.place.toList/\(∀q,q<m->(pr t.mask h q).j∈t.place.toList)/\t.freeSlot h=Y ((pr t.mask h m).j,I):=by
 obtain⟨m,_,_,d,e⟩:=Bz ok (p:=t.probeStart h) (n:=0) (h:=h) (hashAt:=λ_=>h+1) J (λq b=>by lia);rcases e with⟨a1,a2⟩|⟨i,_,a2,_⟩
 .refine⟨m,a1,λq b=>?_,?_⟩
  .obtain⟨i,a,_⟩:=d q (mw _) b;rw[<-mD]at a;exact lX a
  unfold PP;rw[a2];rfl
 lia
def abM{es:rh}(t:mK)(u:5<=es.size)(v:es.size<=500):∃t' es',relayAll t es (ce es.size)=(es',t',I)/\es'.toList.Perm es.toList/\V0 (es'.toList.map (·.1)) t'/\t'.plain=t.plain/\t'.led=t.led:=by
 have o:ce es.size=es.size*4:=by unfold ce;rw[jP<|by lia]
 obtain⟨k,r,g,s,lk⟩:=wB (es.size*4) (by lia);have q:ca (es.size*4)-1+1=2^k:=by have:=FF k;lia
 obtain⟨t',a,h,c,j,l,m⟩:=IB q r g t.finger (t.movedTo<|ca (es.size*4)-1) t.led t.plain (es.toList.map (·.1)) (by rw[kN,lT];lia);rw[kN,lT]at c
 have er:t.relaid (es.map (·.1)) (es.size*4)=Y (t',a):=by unfold ie;rw[<-h,<-lC]
 have f:∀i∈a.toList,i<es.size:=λi p=>sL.mp<|c.mem_iff.mp p;have d:(a.filterMap (es[·]?)).toList=a.toList.filterMap (λi=>es[i]?):=by simp
 have b:(a.filterMap (es[·]?)).toList.Perm es.toList:=by rw[d];refine(c.filterMap _).trans ?_;rw[Ei]
 have e:V0 ((a.filterMap (es[·]?)).toList.map (·.1)) t':=by rw[d,IS _ f];exact j
 refine⟨t',a.filterMap (es[·]?),?_,b,e,l,m⟩;unfold relayAll;rw[o,er];have h1:coversAll a es.size=C:=by unfold coversAll;exact List.isPerm_iff.mpr c
 have n:t'.fits (a.filterMap (es[·]?)).size=C:=zi e (by rw[kN,lT]);dsimp only;rw[h1,n];rfl
section
variable {b:jI}{w:jG}{A:jF}{E:jZ}{s:jk}
def Vt{a:jh}{es:rh}{n:Nat}{t:mK}{k:Int}{x:jr}(d:(b5 b w).is k x=Td)(g:x.scannable=Td)(u:plainKind x=Td)(o:s.heap.get? a=SI (kI es n t))(c:V0 (es.toList.map (·.1)) t)(Y:t.plain=Td)(hz:es.size+1<=500)
  (L:ElemsOf (b5 b w) es.toList){Q:qu}
  (hold:(∃e∈es.toList,(b5 b w).is k e.2=Td)->Q Tk s)
  (v:(∀e∈es.toList,(b5 b w).is k e.2=Tk)->∀q es' n' t',au a s.heap q->q.get? a=SI (kI es' n' t')->es'.toList.Perm (((b5 b w).hash k,x)::es.toList)->V0 (es'.toList.map (·.1)) t'->t'.plain=Td->t'.led=t.led->Q Td {s with heap:=q}):
  aa (ae b w) A (fS a x<|(b5 b w).hash k) Q E s:=by
 have O:t.fits es.size=Td:=zi c (by simp);have K:es.size<scanBound:=by show es.size<4096;lia
 unfold fS z8;refine mE<|ji<|rV o Tl O ?_;dsimp only;rw[byScan_of g K L];simp;unfold setAddByScan;refine ji ?_;refine ji<|qy ?_;refine ji<|wpAny_setScan_of d o Tl O L ?_
 cases T:List.findIdx? (λe=>(b5 b w).is k e.2) es.toList with
 |some j=>dsimp only;obtain⟨R,r,_⟩:=Vv.mp T;exact ju<|ju<|hold ⟨es.toList[j],xo R,r⟩
 |none=>
  dsimp only;have M:∀e∈es.toList,(b5 b w).is k e.2=Tk:=λe P=>by simpa using List.findIdx?_eq_none_iff.mp T e P
  generalize hh:(b5 b w).hash k=h at v ⊢;obtain⟨m,h1,D,F⟩:=aco c h;obtain⟨l,i,V,W,p,B,C,G,N,S,U⟩:=Mr x c Y h1 D
  have f:layNew t es h x=(l,i,Tk,Tk):=by unfold layNew;rw[F];show(aq es (t.put (pr t.mask h m).j).2 (h,x),(t.put (pr t.mask h m).j).1.orStandIn (aq es (t.put (pr t.mask h m).j).2 (h,x)).size,Tk,!(t.put (pr t.mask h m).j).1.fits (aq es (t.put (pr t.mask h m).j).2 (h,x)).size)=_;rw[V,W];unfold O3;rw[N];rfl
  rw[f];dsimp only;refine ji<|ju ?_;rw[jz B,hashByValue_scannable 8 g,u];refine ji<|ju ?_;simp;refine ji<|Co o Tl ?_ (by rw[p,kT];lia);have y:=wy (es':=l) (t':=i) o;have H:=qa s.heap a<|gr l i
  cases I:i.tooFull with
  |true=>
   simp;obtain⟨t',es',X,J,Z,r4,r5⟩:=abM (es:=l) i (S I) (by rw[p];lia);rw[X];dsimp only;refine ji<|ju ?_;have z:es'.size=es.size+1:=by rw[<-lT,J.length_eq,lT,p]
   refine ji<|Co y Tl ?_ (by rw[z,kT];lia);exact ju<|ju<|v M _ es' _ t' (H.trans<|qa _ a _) (wy y) (J.trans G) Z (by rw[r4];exact B) (by rw[r5];exact C)
  |false=>simp;exact ju<|ju<|v M _ _ _ _ H y G (U I) B C
end
end TT
namespace PX
open L2 PySem.SeqAt TS
def Hm:D->Bool
 |.int _=>C
 |_=>I
def uo(h:Hm d=C):∃k,d=.int k:=by cases d<;>first|exact⟨_,rfl⟩|cases h
def M1(h:Hm d=C):D.pr d=C:=by obtain⟨k,rfl⟩:=uo h;rw[D.pr]
section
variable {X:Cx}{c:kf}{f:L2.St}{H:Hp}{s:jk}
def VP.ints{a:jh}{j:List D}{u n t l}(S:VP X H O h a j u n t l)(q:j.all Hm=C):∀(i:Nat)(e:Int×jr),u[i]?=Y e->∃k r,e=(Ix k,.int k r)/\ .int k∈j:=λi e x=>by
 obtain⟨z,h1,m,d⟩:=vO S.par (i:=i) (b:=e) (by rw[mD];exact x);rw[lh]at h1
 cases o:l[i]? with
 |none=>rw[o]at h1;cases h1
 |some p=>rw[o]at h1;cases h1;have v:=lX o;have g:p.1∈j:=S.perm.mem_iff.mp<|rT v;obtain⟨k,hk⟩:=uo<|mZ.mp q _ g;have w:=S.rep p v;rw[hk]at w;have:=w.int;rw[this]at d;obtain⟨r,d⟩:=d;obtain⟨y,A⟩:=e;dsimp only at m d;subst d;rw[hk,D.hash]at m;exact⟨k,r,by rw[m],hk▸g⟩
def VP.elems{a:jh}{g:List D}{d n t l}(S:VP X H O h a g d n t l)(b:g.all Hm=C):ElemsOf (b5 X.prog X.w) d.toList:=λe j=>by obtain⟨i,m⟩:=pF j;obtain⟨k,o,rfl,_⟩:=S.ints b i e (by rw[<-mD];exact m);exact⟨⟨k,va _ _ k o,rfl⟩,rfl⟩
def VP.there{a:jh}{u:List D}{d n t l}(S:VP X H O h a u d n t l)(q:u.all Hm=C)(k:Int):(∃e∈d.toList,(b5 X.prog X.w).is k e.2=C)↔ .int k∈u:=by
 constructor
 .rintro⟨e,g,hk⟩;obtain⟨i,m⟩:=pF g;obtain⟨y,r,rfl,o⟩:=S.ints q i e (by rw[<-mD];exact m);rw[(b5 X.prog X.w).inj _ k y hk (va _ _ y r)];exact o
 intro o;obtain⟨p,v,e⟩:=jD<|S.perm.mem_iff.mpr o;obtain⟨i,m⟩:=pF v
 have A:i<d.size:=by
  have:=(uT.mp m).1;have:=S.JZ
  lia
 have g:d[i]?=Y d[i]:=pE A;obtain⟨z,h1,B,j⟩:=vO S.par (i:=i) (b:=d[i]) (by rw[mD];exact g);rw[lh,m]at h1;cases h1;have x:=S.rep p v;rw[e]at x;rw[x.int]at j;obtain⟨r,j⟩:=j;refine⟨d[i],by rw[<-mD]at g;exact lX g,?_⟩;rw[j];exact va _ _ k r
def DL{d:List D}(a:d.all Hm=C)(k:Int):d.any (D.Z1 · (.int k))=C↔ .int k∈d:=by
 rw[OT];constructor
 .rintro⟨x,b,e⟩;rw[(vW (M1<|mZ.mp a x b)<|by rw[D.pr]).mp e]at b;exact b
 intro h;exact⟨_,h,(vW (by rw[D.pr])<|by rw[D.pr]).mpr J⟩
def VP.LX(S:VP X H O s.heap a i x n t l)(b:i.all Hm=Td)(U:(TD i)<500)
  (h:∀r j u g o t' m,s.toks<=u->au a s.heap j->VP X H O j a (nH i<|.int k) g o t' m->Q r {s with heap:=j,toks:=u}):aa (ae X.prog X.w) A (gj a<|.int k p) Q E s:=by
 obtain⟨N,M⟩:=S.JZ;unfold gj;refine mE<|ji<|(b5 X.prog X.w).pyHash (k:=k) (va _ _ _ _) ?_;refine TT.Vt (s:={s with toks:=s.toks+1}) (va _ _ k p) Tl Tl S.is.at_ S.is.tab S.is.plain (by lia) (S.elems b) (λT=>?_) λG j g o t' g1 g2 y B C I=>?_
 .have:nH i (.int k)=i:=by unfold nH;rw[jz<|(DL b k).mpr<|(S.there b k).mp T]
  exact h Tk s.heap (s.toks+1) x n t l (uP _) (zE a s.heap) (by rw[this];exact S)
 have J: ¬i.any (D.Z1 · (.int k))=Td:=λz=>by obtain⟨e,L,hk⟩:=(S.there b k).mpr<|(DL b k).mp z;rw[G e L]at hk;cases hk
 obtain⟨m,q⟩:=S.put (d:=.int k) (v:=.int k) (by simpa using J) Rep.mkInt ⟨p,rfl⟩ ⟨g2,B,C,I.trans S.is.led⟩ (by rw[D.hash];exact y);exact h Td j (s.toks+1) g o t' m (uP _) g1 q
end
def oo(d:D):Option (D×Bool):=match d with
 |.Z3 .set [] a=>if a.all Hm=C then ll a else U
 |_=>U
section
variable {X:Cx}
def rQ(e:X.calm=C)(f:X.A.units+62<aI):lr X (.builtin "sorted") (GF X.K<|g1 oo):=ot λc s j H x u Q O d z T i np hd a G=>by
 change oo d=Y z at a;unfold oo at a;split at a
 .obtain⟨b,h⟩:=uw a;exact Bs e f T i np hd (λx g=>M1<|mZ.mp b x g) h G
 cases a
end
end PX
namespace TT
def Vp{a:jI}{w:jG}{A:jF}{E:jZ}{s:jk}{Q:jZ}(h:Q (.ref s.heap.objs.size) {s with heap:=s.heap.push (kI #[] 0 (lM w))}):aa (ae a w) A (newSet<|.type "set") Q E s:=by
 unfold newSet gH;obtain⟨b,g,d,c,os⟩:=s;dsimp only;refine ji<|ji<|sQ<|ju ?_;dsimp only;simp only[newObj]
 first
  |exact ji<|xJ<|ju h
  |exact ji<|ju<|ji<|xJ<|ju h
end TT
namespace PX
open L2 PySem.SeqAt
def wa(f:F):FB:=λa b=>(f b).bind λp=>if a.all Hm=C/\Hm p.1.1=C/\(TD a)<500 then Y (nH a p.1.1,p.2)else U
def EU(caps:kz)(k:Nat)(b:DK)(c:Tg)(ti:FT)(a:FB):F:=Hf U caps k b c ti a
section
variable {X:Cx}{A:kE}{d:jh}{q:jv}{f:F}
def abU{g:pZ}{sc:kb}{p:bt}{depth:Nat}(hn:g[depth+1]?=SS)(he:PX X q f):PB X (kK (.SetComp q g sc p) depth (.ref d) X.env) (JV SS X.K A d<|wa f):=by
 intro x s m H N I hw;obtain⟨J,T,V,j6,δ',B,e,k⟩:=hw;obtain⟨r,c,h1,e⟩:=jw e;obtain⟨⟨o1,D,o3⟩,e⟩:=jM e;obtain⟨rfl,rfl⟩:=sH e
 have Z:kK (.SetComp q g sc p) depth (.ref d) X.env=(do let v <-aY q X.env;cW q.pos;let _ <-call (.builtin "set.add") [.ref d,v]):=by unfold kK;simp -iota only[clausesOf.eq_def];rw[hn]
 rw[Z];refine ji<|T2 (he x s m H (λy h=>A4 X.K T m J H r c y h) I ⟨J,T,r,c,B.er,h1,λv h P=>P⟩) ?_;rintro u s1 ⟨y,h,M,ru,P⟩;obtain⟨L,Q⟩:=P.rep B.er;have U:SK A m J H m c h:=P.1.sk;have R:=B.step U L;obtain⟨j,E⟩:=uo D;dsimp only at E D Q;rw[E]at Q;rw[Q.int]at ru;obtain⟨t0,rfl⟩:=ru;obtain⟨us,F,q3⟩:=R.at';obtain⟨es,n,t,l,S⟩:=Bf.KL M F q3;refine ji<|vE<|ji ?_;refine oI Fm ⟨_,S.is.at_,rfl⟩ KP ?_<|KO _ _;unfold bc.«set.add» bM;simp only[xm,rC];unfold bw;refine ji<|ju ?_
 try dsimp only
 refine ji<|ju ?_
 try dsimp only
 refine ji<|VP.LX S o1 o3 λb h' tk es' n' t' O ht p6 C=>?_;show aa _ _ (ret ah) _ _ _;have G:T d:=B.td;have kp:∀(Y:HO) b u,h b=SI u->¬(Z8 m c b\/T b)->upd h d Y b=SI u:=λY b u e n=>by rw[ke<|by intro z;subst z;exact n<|.inr G];exact e
 obtain⟨W,z1,z2⟩:=C.Z3 (K:=X.K) (H':=upd h d<|.Z6<|O.map hv) (O':=λa=>Z8 m c a\/T a) (λp hp=>Rep.mono (kp _) (λ_ _ z=>z)<|C.rep p hp) jL;refine ju ⟨_,rfl,ju ⟨m,upd h d<|.Z6<|O.map hv,?_,k m _ ?_ ?_⟩⟩
 .obtain⟨gq,zs2,g4,_⟩:=F;exact uC (t':=tk) M (by rw[g4];exact bg) p6 ⟨_,C.is.at_⟩ C.Kb
 .have:Js A d m c h m c (upd h d<|.Z6<|O.map hv):=⟨λa o e n nd=>by rw[ke nd];exact e,λi a z=>.inl z,λa z=>by
   by_cases w:a=d
   .subst w;rw[jL];simp
   rw[ke w];exact z,λ_ _=>rfl⟩
  exact U.L5.trans this
 refine⟨L.mono (λb o e n=>by rw[ke<|by intro z;subst z;exact n G];exact e) (λ_ _ z=>z) λa z=>?_,G,W,?_,?_⟩
 .by_cases w:a=d
  .subst w;rw[jL];trivial
  rw[ke w];exact L.dom a z
 .rw[E];exact z1
 rw[E];exact z2
variable {c:pD}{w:pZ}{scope:kb}{E:bt}{J:jK}{m:kz}{k:Nat}{G:DK}{L:Tg}{ti:FT}{O:FB}
def TM(T:DH X J scope m k)(n:X.calm=C)(l:c.is_async=0)(r:∀e,w[0]?=Y e->e.is_async=0)
  (p:∀x,ax c.iter X.env x=pure x)(s:Kv X (λi=>i∉m) c.target c.iter G)
  (u:∀(cl:kL)(T:jh)(t:jk)(j:Hp)(fp:lG)(a:kf),let b:=X.comp J scope cl T t j fp a
   Kw b (λi=>TD m<=i) c.target L/\Jy b c.ifs (tT X.K ti)/\∀d,PB b (kK (.SetComp q (c::w) scope E) 0 (.ref d) b.env)<|JV U X.K (λi=>TD m<=i) d O):
  PX X (.SetComp q (c::w) scope E) (EU m k G L ti O):=PX.imp (Ib (fp:=c.iter.pos) (new:=newSet<|.type "set") (o:=.Z6 []) (g:=tG X.K (λi=>TD m<=i) L) (ti:=tT X.K ti) (tb:=λd=>JV U X.K (λi=>TD m<=i) d O) T.M7 n l r p s u (λ_ _ _ k=>TT.Vp<|k _ λ_=>⟨#[],0,_,kW _ rfl,.nil,TT.V0.fresh _ _ _,rfl,rfl⟩) (.inr ⟨_,_,_,_,rfl⟩) (hev:=by cases c;rfl)) λv H Q h=>B6 (S:=U) h
end
def Wi{X:Cx}{g:jv}{f:F}{k:Nat}{l:bt}{c:pD}{scope:kb}{m:DK}{tt:Tg}{n:FT}{e:kz}(u:QI X (λi=>i∉e) c.target c.iter m)
  (w:Blk X e [c] scope λQ=>QG Q (λi=>TD e<=i) c.target tt/\QF Q c.ifs n/\QX Q g f)
  (T:uD X.N X.env.scope scope (cN X.N e [c]) e k=C:=by kernel_rfl)(t:decide (cN X.N e [c]).Nodup=C:=by kernel_rfl)
  (r:X.calm=C:=by rfl)(q:c.is_async=0:=by rfl)(s:∀x,ax c.iter X.env x=pure x:=by intro _;rfl):
  QX X (.SetComp g [c] scope l) (EU e k m tt n<|wa f):=
 ⟨TM (DD J J T) r q (by intro y h;cases h) s u.h λcl T v o p j=>let⟨a,b,c⟩:=w cl T v o p j<|uL t;⟨a.h,b.h,λd=>abU J c.h⟩⟩
section
variable {K:jJ}{T g:Z5}{d:L2.St}{e c:Dn}{H h i:Hp}{os:List AY}{f:List V}{b:List (D×Bool)}{a:Dn}{r:D×Bool}{v:V}
end
section
variable {X:Cx}{e:jv}{d:lg}{fs:List FO}{a p:bt}{k:Nat}{b:jK}{c:A5}{x:ap}
end
section
variable {X:Cx}{A:kE}{d:jh}{a:jv}{f:F}
end
open PySem.W
structure Mi(X:Cx)(q:ap)(Pt:jh):Prop where
 t:Vk q Pt X.H₀
 c:∃c,X.env.code=.ref c/\CodeHd X.base c Pt
 b:X.base.BuiltinsAt X.mg Pt
 g:ag≠Pt
def ozQ{Z:ZZ}{k:Nat}{x q:ap}{st:aW}{N g:jK}{asg:kz}{fs:FS}{l:jh}{TB:List (jh×ap)}(a:NU Z TB x st q l)(S:Z2 N g (jy st))(b:Jz x st g)
  (M:∀(f:jh)(e:jr)(A:jF)(d:List c9)(s:jk)(H:Hp)(E:XK)(L:LL),(∀i,L.p i->i<TD g)->YP k (A.deeper<|bi x (jy st) s.heap.objs.size f e)->
   un (A.deeper<|bi x (jy st) s.heap.objs.size f e) 60->un (A.deeper<|bi x (jy st) s.heap.objs.size f e) 1->un (A.deeper<|bi x (jy st) s.heap.objs.size f e) 62->un (A.deeper<|bi x (jy st) s.heap.objs.size f e) 90->N.Nodup->
   Mi (qW El Z.P Z.w Z.K Z.mg Z.base N x (jy st) f e A d s H E).J2 q l->QQ (qW El Z.P Z.w Z.K Z.mg Z.base N x (jy st) f e A d s H E).J2 (λi=>i∈asg) L H (mJ st) fs):M0 Z TB (k+1) x g (Ae (TD N) (TD g) asg fs):=
 let⟨f,o,c,m,F,h1,t,u,v,y⟩:=a
 ⟨f,o,fnU F S λe A d s H E L z O r n h j Q T B=>M f e A d s H E L z O r n h j Q ⟨B _ y,⟨c,T.trans h1,t⟩,u,v⟩,m,F.kp,F.binds b⟩
def NX(Z:ZZ)(k:Nat)(x:ap)(st:aW)(N t:jK)(d:kz)(m g:Nat)(fs:A5->FS):Prop:= ∃f l,Z.mg x=Y (.ref f)/\JP Z.K x x st f l/\Binds Z.K l t []/\
 ∀(e:jr)(A:jF)(a:List c9)(s:jk)(H:Hp)(n:jh)(p:kL)(v:V)(h:List V)(o:jK)(u r q:ap)(scope:kb)(b:aZ)(c:List aW)(j:A5),TD h=g->YP (k+1) (A.deeper<|bi x (jy st) s.heap.objs.size f e)->
  Gz (qW El Z.P Z.w Z.K Z.mg Z.base N x (jy st) f e A a s H E0).J2 o u r q scope p h b c n k (Hj Z.K j)->
  QQ (qW El Z.P Z.w Z.K Z.mg Z.base N x (jy st) f e A a s H E0).J2 (λi=>i∈d) ⟨λ_=>False,Y<|oM v n m h⟩ H (mJ st) (fs j)
def ltZ{Z:ZZ}{k:Nat}{x:ap}{st:aW}{N u:jK}{j:kz}{m g:Nat}{fs:A5->FS}(a:Fz Z.K Z.mg x st)(S:Z2 N u (jy st))(b:Jz x st u)
  (E:∀(f:jh)(h:jr)(A:jF)(c:List c9)(s:jk)(H:Hp)(o:jh)(r:kL)(v:V)(l:List V)(p:jK)(y t q:ap)(scope:kb)(d:aZ)(e:List aW)(n:A5),TD l=g->YP (k+1) (A.deeper<|bi x (jy st) s.heap.objs.size f h)->
   un (A.deeper<|bi x (jy st) s.heap.objs.size f h) 60->un (A.deeper<|bi x (jy st) s.heap.objs.size f h) 1->un (A.deeper<|bi x (jy st) s.heap.objs.size f h) 62->un (A.deeper<|bi x (jy st) s.heap.objs.size f h) 90->N.Nodup->
   Gz (qW El Z.P Z.w Z.K Z.mg Z.base N x (jy st) f h A c s H E0).J2 p y t q scope r l d e o k (Hj Z.K n)->
   QQ (qW El Z.P Z.w Z.K Z.mg Z.base N x (jy st) f h A c s H E0).J2 (λi=>i∈j) ⟨λ_=>False,Y<|oM v o m l⟩ H (mJ st) (fs n)):NX Z k x st N u j m g fs:=
 let⟨f,T,h1,F⟩:=a
 ⟨f,T,h1,F,F.binds b,λh A c s H o r v l p y t q scope d e n hv z B=>by have:=z.un;exact E f h A c s H o r v l p y t q scope d e n hv z (by unfold un;omega) (by unfold un;omega) (by unfold un;omega) (by unfold un;omega) S.nd B⟩
section
variable {X:Cx}{A:kE}{L:LL}{E:Hp}{N:jK}{y B q d e c:ap}{scope:kb}{C:kL}{r:List V}{b:aZ}{h:List aW}{u:jh}{k i j t:Nat}{n:kz}{v:A5}{z:L2.St}{p l s o f:bt}
def sCl(a:Gz X N y B q scope C r b h u k (Hj X.K v))(Q:n.map (λg=>(z[g]?).join)=r.map SI)(J:YP (k+1) X.A)(I:X.N.Nodup)(H:L.st=SI z:=by rfl)(hz:z[j]?=SI (SI<|.ref u):=by rfl)(nj: ¬A j:=by decide)(ng:∀g∈n,¬A g:=by decide)(hex:X.ex=[]:=by rfl)
  (G:X.N[j]?=SI d:=by rfl)(vj:JE X.env.scope d:=by exact bf Tl)(hd:DB d:=by decide)(m5:(d==("__classdict__":ap))=Tk:=by decide)(U:X.N[t]?=SI c:=by rfl)(vt:JE X.env.scope c:=by exact bf Tl)(y7:DB c:=by decide)(x:(c==("__classdict__":ap))=Tk:=by decide)
  (l8:SE X (.Name c l) []:=by rfl)(w:BA X o []:=by rfl)(T:X.N[i]?=SI e:=by rfl)(Y:Loc X.env.scope e:=by exact bf Tl)(M:cI (.Call (.Name d p) [.Name c l] [] o) (SI<|.Name e s) f.line X.env=pure Tk:=by rfl)(O:X.fn e=Td\/X.env.scope.names.lookup e=SI .local:=by exact bf Tl)(m:A i:=by decide):
  QS X A L E (.Assign [.Name e s] (.Call (.Name d p) [.Name c l] [] o) f) (yN i (t::n) v):=⟨P5 a H hz Q nj ng hex J G vj hd m5 U vt y7 x l8 w I T Y M O m⟩
variable {Pt:jh}{U T G:bt}{w x Y:kz}{N' NL:jK}{M:FS}{J:A5->FS}{st:aW}{Q O I H:ap}{a m:Nat}
end
def Mb(i:Nat)(f:FS):FS:=λa=>match a[i]? with
 |some (Y (d,_))=>f<|a.set i<|Y (d,I)
 |_=>U
def Tr{X:Cx}{A:kE}{L:LL}{m:Hp}{JJ:List aW}{f:FS}{i:Nat}(h:QQ X A L m JJ f):QQ X A L m JJ (Mb i f):=⟨GJ.imp' h.h λD o H s=>by
 obtain⟨n,T,out,E,q,e,k⟩:=s;unfold Mb at e;split at e
 case h_2=>cases e
 rename_i d b hd;obtain⟨p,_⟩:=E.freeze hd;have S:SK A o n H o (n.set i<|Y (d,I)) H:=AW.set.sk;refine⟨_,T,out,p,q.step S,e,?_⟩
 cases out with
 |nx j=>exact λa c g l=>k a c (S.trans g) l
 |bk j=>exact λa c g l=>k a c (S.trans g) l
 |ct j=>exact λa c g l=>k a c (S.trans g) l
 |rt r j=>exact λv a c g R2=>k v a c (S.trans g) R2⟩
def Xn{a:jK}{n:Nat}{b:kb}(h:((a.drop n).all λx=>(b.names.lookup x).isNone)=C):∀(j:Nat) x,n<=j->a[j]?=Y x->¬JE b x:=λj x d e v=>by have c:x∈a.drop n:=lX (i:=j-n) (by rw[c7,show n+(j-n)=j by lia];exact e);have:=mZ.mp h x c;unfold JE at v;rcases v with z|z|z<;>(rw[z]at this;cases this)
def tj(i:Nat)(f:F)(b:kz)(m:Nat)(c:FS):FS:=λδ=>(f<|δ.set i U).bind λp=>(kM p.2<|b.map .slot).bind λcs=>if(cs.all λa=>!a.2)=C/\i<TD δ/\Xp (δ.set i U)=C then(match c (sh (p.1.1,I) m cs)with
  |some (.rt r _)=>Y<|.rt r p.2
  |_=>U)else U
section
variable {X:Cx}{A:kE}{L:LL}{H0:Hp}{Pt c fr:jh}{a:aZ}{O:List aW}{scope:kb}{pos aR cp pf p1 p2:bt}{g J aF:kz}{N' U:jK}{bK bL:FS}{st:aW}{ez:nu}{M xs Y G q y1 y2:ap}{i k m:Nat}{ex:jv}{fE:F}
def abQ{more:nJ}(F:JP X.K M M st fr ez)(iI:Binds X.K ez [y1,y2] [])(SL:Z2 U [y1,y2] (jy st))(hJ:Gl X M)(gU:X.mg M=SI (.ref fr))(dB:(M==("__debug__":ap))=Tk)
  (cC:∀x,X.fn x=Td)(hr:YP (k+2) X.A)(hTb:X.H₀ Pt=SI (.tbl (#[.str q 0]++more)))(m5:X.env.code=.ref c)(C:CodeHd X.base c Pt)(hB:X.base.BuiltinsAt X.mg Pt)(hU:ag≠Pt)(hq:qualnameIn X.env G G=q)
  (CO:DH X N' scope g 0)(LS:G0 scope Y)(iC:a.defaults=[])(eW:a.kw_defaults=[])(iJ:annTrees a SS X.env=[])
  (k6:∀b7 doc pm c' k9 u,db (fnX G q a O scope b7 .none .none doc pm SS (.ref c') k9) ⟨[u],[]⟩=pure [(Y,u)])
  (hN:X.N.Nodup)(hi:X.N[i]?=SI G)(hx:Loc X.env.scope G)(ai:A i)(vi:JE X.env.scope G)(iz:(G==("__debug__":ap))=Tk)(iD:(G==("__classdict__":ap))=Tk)
  (hE:PX X ex fE)
  (he:ac [ex,.Name G p2] X.env=(Tk,aY ex X.env)::ac [.Name G p2] X.env)(iw:aV cp (ac [Expr.Name G p2] X.env)=[(Tk,aY (.Name G p2) X.env)])(f9:(aV cp<|ac [Expr.Name G p2] X.env).any (·.1)=Tk)
  (hm:(TD U)=m+2+TD g)(hG:∀(j:Nat) x,m+2<=j->U[j]?=SI x->¬JE (jy st) x)
  (hR:∀(fl:jh)(b7:kL)(c':jh)(A:jF)(outer:List c9)(s:jk)(H:Hp)(L:LL),(∀i,L.p i->i<TD g+1)->YP k (A.deeper<|AE q scope s.heap.objs.size fl (.ref c') b7)->
   DP (pV El X.prog X.w X.K X.mg X.base (Y::N') q scope fl (.ref c') b7 A outer s H E0) (λi=>i∈J) L H O bK)
  (iQ:∀(e9:jr)(A:jF)(outer:List c9)(s:jk)(H:Hp)(fl:jh)(b7:kL)(v:V)(vs:List V),TD vs=TD g->YP (k+1) (A.deeper<|bi M (jy st) s.heap.objs.size fr e9)->
   Gz (qW El X.prog X.w X.K X.mg X.base U M (jy st) fr e9 A outer s H E0).J2 N' Y G q scope b7 vs a O fl k (Hj X.K<|Ae (TD g+1) (TD g+1) J bK)->
   DP (qW El X.prog X.w X.K X.mg X.base U M (jy st) fr e9 A outer s H E0).J2 (λi=>i∈aF) ⟨λ_=>False,SI<|oM v fl m vs⟩ H (mJ st) bL):
  DP X A L H0 [.FunctionDef G a O [] SS [] scope SS G pos,.Return (SI<|.Call (.Name M pf) [ex,.Name G p2] [] cp) aR] (tj i fE g m bL):=by
 intro pins s σ H D I hw;obtain⟨δ,T,out,E1,fi,e,kk⟩:=hw;obtain⟨⟨d0,o0⟩,δ1,hf0,e⟩:=jw e;obtain⟨cs,bH,e⟩:=jl e;obtain⟨⟨hV,du,hfd⟩,e⟩:=uw e;have aA:=IQ (args:=(d0,Tk)::cs) (by simpa using hV);simp only at e;split at e
 case h_2=>cases e
 rename_i r δL hW;cases e;obtain⟨br,hclo,k7,k8⟩:=vX X.env scope λx hx hf=>I.ok.has x.1<|CO.free x hx hf;obtain⟨more2,hP⟩:=I.base.tbls Pt _ hTb;rw[Gr]at hP;refine Gn<|nestDef_K iC eW iJ ?_;rw[hq];refine Oc I hP m5 C hB hU hclo λs1 H1 fl I1 up L1 kp fr0 new=>?_;refine Br I1 hN hi hx (v:=.ref fl) Tl (λs2 I2 ch=>?_)<|.inl<|cC _
 have fH:fl∉X.fs:=λz=>by obtain⟨_,o,ho,_⟩:=I.Ef.mem z;rw[new]at ho;cases ho
 have nfl:fl∉J6 X.stack:=λz=>by obtain⟨_,o,ho,_⟩:=I.stack.mem z;rw[new]at ho;cases ho
 have nlo:fl≠X.env.locals:=λz=>by obtain⟨m,⟨o',es,ep,bA,_⟩,_⟩:=I.loc;rw[<-z,new]at bA;cases bA
 obtain⟨doc,pm,c',k9,hob,hX⟩:=L1.fn
 have hob2:s2.heap.get? fl=SI (fnMade G q a O scope br doc pm c' k9):=by
  obtain⟨b,hs,hb⟩:=ch;refine hs.extBut fl _ (λz=>?_) hob;rcases hb with hb|hb
  .exact nlo (z.trans hb)
  obtain⟨w,o,ho,_⟩:=I.cell G b hb;rw[<-z,new]at ho;cases ho
 have Ip:Inv X (pins++[(fl,fnMade G q a O scope br doc pm c' k9)]) (σ.set i<|SI<|.ref fl) H1 s2:=I2.GL λp hp=>(qm.mp hp).elim (λz=>I2.pin p<|oX _ z) λz=>by
  cases DR.mp z;exact⟨hob2,L1.un,nlo,fH,λv h=>by cases h⟩
 have E2:=E1.forget (i:=i) (v:=.ref fl) up;have hil2:i<(TD σ):=by rw[E1.len];exact du
 refine Gn<|ss<|T2 (Q:=EP X pins (σ.set i<|SI<|.ref fl) λw W=>A4 X.K T (σ.set i<|SI<|.ref fl) (δ.set i SS) H1 r δ1 w W) ?_ λw s3 ⟨y,H3,I3,r3,P3⟩=>?_
 .refine we (Dl I2 hJ gU ?_ dB);refine callWith_K (h₀:=X.base) I2.ok.mod.kin F.kp ?_ he f9;rw[he];show aa _ _ (sx ((Tk,aY ex X.env)::aV cp (ac [.Name G p2] X.env))) _ _ s2;rw[iw];refine CU<|T2 (hE _ s2 _ H1 (λw W=>A4 X.K T (σ.set i<|SI<|.ref fl) (δ.set i SS) H1 (d0,o0) δ1 w W) Ip ⟨_,T,(d0,o0),δ1,E2,hf0,λ_ _ P=>P⟩) ?_;rintro u1 s3 ⟨w,H3,I3,r3,P0⟩;refine CU<|T2 (yb hi vi iz iD _ s3 _ H3 (λw' W=>w'=.ref fl/\W=H3) I3 ⟨.ref fl,uS hil2,rfl,rfl⟩) λu2 s4 ⟨w2,H4,I4,r4,e3,e4⟩=>Gi ⟨I4.G8,?_⟩;subst e3 e4;obtain⟨vs,fP,B'⟩:=E6 (C5.er (o:=.val (d0,o0)) E2 P0) bH;have B:=Ops.cons (o:=.val (d0,o0)) E2 P0 B';have Z:kM δ1 (.val (d0,o0)::g.map .slot)=SI ((d0,Tk)::cs):=by simp[kM,yK,bH]
  have Ec:=wX E2 B Z (by rw[tP _ _ aA];exact mS)
  have gE:(TD vs)=(TD g):=by have:=nC cG fP;simpa[yP]using this.symm
  obtain⟨hob4,un4,_⟩:=I4.pin _ (oX _ (oX _ la));have I5:=I4.Bj
  have hfr4:∃ob u vs t,H4 c'=SI (HO.Bi ob u)/\ob.data=fL vs/\vs[1]?=SI (gw q t):=by obtain⟨ob,u,vs,t,z1,z2,z3⟩:=hX;exact⟨ob,u,vs,t,P0.1.kp _ _ z1 (Q4 hfd _ _),z2,z3⟩
  have LC:AF N' scope br (vs.map SI) H4 s4.heap:=by
   rw[<-fP];refine⟨λx y c h1 h2=>I.ok.inj x y c (k7 x c h1)<|k7 y c h2,λx hx=>k8 x<|qd hx,λx c h=>⟨I5.cell x c<|k7 x c h,I5.freeC x c<|k7 x c h⟩,λl x v h1 h2=>?_,CO.M7.len _⟩;obtain⟨hf,jj,hj,hv⟩:=CO.M7.pre _ l v x h2 h1;refine⟨hf,?_⟩;obtain⟨m,hn,hl⟩:=I5.loc;have l3:=CO.free (x,.free) (qd hf) Tl;obtain⟨u,r,q⟩:=hl jj x v hj hv (by rcases l3 with z|z;exact .inr<|.inl z;exact .inr<|.inr z);rcases q with⟨eX,_⟩|⟨_,c,hc,i6⟩
   .have bW:X.env.scope.names.lookup x=SI .local:=eX;rcases l3 with z|z<;>(have z':X.env.scope.names.lookup x=_:=z;rw[bW]at z';cases z')
   obtain⟨c',aH⟩:=k8 x<|qd hf;have:=k7 x c' aH;rw[hc]at this;cases this;exact⟨c,u,aH,i6,r⟩
  have nst:∀x c,br.lookup x=SI c->c∉J6 X.stack:=λx c e z=>by
   rcases nQ.mp (I.GR c z)with q|q
   .exact I.Ks x c (k7 x c e) q
   obtain⟨_,o,ho,_⟩:=I.ok.Ef.mem q;exact absurd (kX ho)<|LB.mpr<|I.ok.cab x c (cC x)<|k7 x c e
  obtain⟨oc,od,kV,doc2,pm2,an,e9,ct,u5,rfl,lkr,hcdr⟩:=F.ex;have hbt:=iI s4 [u1,u2] I5.G8 Tl
  have CI:Gz (qW El X.prog X.w X.K X.mg X.base U M (jy st) fr e9 X.A X.stack s4 H4 E0).J2 N' Y G q scope br vs a O fl k (Hj X.K<|Ae (TD g+1) (TD g+1) J bK):=
   ⟨LS,LC,⟨⟨doc,pm,c',k9,hob4,hfr4⟩,un4⟩,nfl,nst,k6 br,λc2 iY s' W w' Q bS bx=>by
    have iP:(Y::N').length=TD g+1:=by have:=CO.M7.len<|σ.set i<|SI<|.ref fl;simp[yP]at this ⊢;exact this.symm
    rw[<-iP]at bx;obtain⟨L',h1,h2⟩:=GD (N:=Y::N') bx;refine⟨_,hR fl iY c2 _ _ s' W L' (λi h=>by have:=h1 i h;rwa [iP]at this) bS,?_⟩
    have:L2.oY (Y::N') (w'::vs)=SI w'::vs.map SI:=by unfold L2.oY;rw[iP,oH,gE];simp
    rw[<-this];exact h2⟩
  refine zH<|rX (Sg (CX:=El) (E:=E0) (Q:=λw W=>A4 X.K T (σ.set i<|SI<|.ref fl) (δ.set i SS) H1 r δ1 w W) (vs:=[w,.ref fl]) lkr hcdr SL hr I5.LM hbt (.cons r3<|.cons r4 .nil) Tl λbS=>?_) λrr s5 hq=>?_
  .have nd0:(kh (AY.val (d0,o0)::g.map AY.slot) ((d0,Tk)::cs)).Nodup:=by rw[tP _ _ aA];exact mS
   refine⟨λD σ' W=>tS X.K (λi=>i∈aF) ⟨λ_=>False,SI<|oM w fl m vs⟩ H4 bL D (σ'.take (m+2)++vs.map SI) W,GJ.J2 λpins s' σ' W D I' h=>?_,?_⟩
   .refine iQ e9 X.A X.stack s4 H4 fl br w vs gE bS CI pins s' _ W D (I'.ghost ?_ λj y h1 h2=>?_) h
    .have:=I'.len;have e:(TD σ')=(TD U):=this;simp[gE];omega
    by_cases hj:j<m+2
    .have e:(TD σ')=(TD U):=I'.len;rw[qc<|by simp;omega,Gf hj]
    exact absurd h2 (hG j y (by omega) h1)
   have hz:(L2.oY U [w,.ref fl]).take (m+2)++vs.map SI=oM w fl m vs:=by unfold L2.oY oM;rw[show (TD U)-[w,V.ref fl].length=m+(TD g) by simp;omega];simp
   show tS _ _ _ _ _ _ _ _;rw[hz];obtain⟨e1,no⟩:=IU (fl:=fl) (m:=m) Ec aA;refine⟨_,_,_,e1,⟨λl b ⟨d,h1,h2⟩=>absurd ⟨l,d,h1,h2⟩<|no b,λ_ z=>z,λ_ _ z=>z,λz' e j _=>by cases e;rfl⟩,hW,λw' σ' W S R=>?_⟩;have P:=pW E2 B Z nd0<|Px Ec aA S R
   rwa [NZ _ _ _ _ aA]at P
  cases rr with
  |error e=>exact aJ hq
  |ok f=>
   cases f with
   |ret u=>exact I5.after hq
   |_=>exact aJ hq
 have S1:SK A σ δ H (σ.set i<|SI<|.ref fl) (δ.set i SS) H1:=⟨λb o q _=>up b o q,λl b z=>by
  obtain⟨⟨d,h1,h2⟩,n⟩:=adk z;rw[nD<|rY n]at h2;exact .inl ⟨d,h1,h2⟩,λb q=>by
  cases hh:H b with
  |none=>exact absurd hh q
  |some o=>rw[up b o hh];simp,λl n=>nD λ(z:i=l)=>n<|z▸ai⟩
 refine⟨y,_,H3,I3,r3,kk y _ H3 (S1.trans P3.1.sk) ?_⟩;obtain⟨d,f⟩:=r
 cases f
 .exact P3.2
 obtain⟨p,h1,h2,h3⟩:=P3.2;refine⟨p,h1,fi.fresh ?_,h3⟩
 cases hh:H p with
 |none=>rfl
 |some o=>rw[up p o hh]at h2;cases h2
end
section
variable {X:Cx}{A:kE}{L:LL}{H0:Hp}{N:jK}{xp e q xr xl xt:ap}{scope:kb}{l:kL}{Q:List V}{a:aZ}{f:List aW}{n:jh}{k i j jt:Nat}{gs:kz}{ev:A5}{z:L2.St}{p o p3 C B:bt}
variable {Y:jh}{M J p1:bt}{d asgR U:kz}{N' y:jK}{G:FS}{T:A5->FS}{st:aW}{r xs I E:ap}{m:Nat}{ex:jv}{fE:F}
def WG(O:NX (zX X) k r st y [I,E] U m (TD d) T)(SL:Z2 y [I,E] (jy st))(tb:Mi X q Y)(hr:YP (k+2) X.A)(hN:X.N.Nodup)(CO:DH X N' scope d 0)(LS:Hr scope xp=Td)(hE:QX X ex fE)
  (hR:∀(n:jh)(l:kL)(c':jh)(A:jF)(outer:List c9)(s:jk)(H:Hp)(L:LL),(∀i,L.p i->i<TD d+1)->YP k (A.deeper<|AE q scope s.heap.objs.size n (.ref c') l)->
   QQ (pV El X.prog X.w X.K X.mg X.base (xp::N') q scope n (.ref c') l A outer s H E0) (λi=>i∈asgR) L H f G)
  (hm:(TD y)=m+2+(TD d):=by rfl)(hG:∀(j:Nat) x,m+2<=j->y[j]?=SI x->¬JE (jy st) x)
  (hJ:Gl X r:=by rfl)(dB:DB r:=by decide)(cC:∀x,X.fn x=Td:=by exact λ_=>rfl)(hq:qualnameIn X.env e e=q:=by rfl)(iC:a.defaults=[]:=by rfl)(eW:a.kw_defaults=[]:=by rfl)(iJ:annTrees a SS X.env=[]:=by rfl)
  (k6:∀l doc pm c' k9 u,db (fnX e q a f scope l .none .none doc pm SS (.ref c') k9) ⟨[u],[]⟩=pure [(xp,u)]:=by exact λ_ _ _ _ _ _=>rfl)
  (hi:X.N[i]?=SI e:=by rfl)(hx:Loc X.env.scope e:=by exact bf Tl)(ai:A i:=by decide)(vi:JE X.env.scope e:=by exact bf Tl)(iz:DB e:=by decide)(iD:(e==("__classdict__":ap))=Tk:=by decide)
  (he:SE X ex [.Name e o]:=by rfl)(iw:aV C (ac [Expr.Name e o] X.env)=[(Tk,aY (.Name e o) X.env)]:=by rfl)(f9:BA X C [.Name e o]:=by rfl):
  QQ X A L H0 [.FunctionDef e a f [] SS [] scope SS e B,.Return (SI<|.Call (.Name r J) [ex,.Name e o] [] C) M] (tj i fE d m<|T<|Ae (TD d+1) (TD d+1) asgR G):=by
 obtain⟨fr,ez,S,F,iI,iQ⟩:=O;obtain⟨more,ht⟩:=tb.t;obtain⟨c,Z,V⟩:=tb.c;exact⟨abQ F iI SL hJ S dB cC hr ht Z V tb.b tb.g hq CO (XG LS) iC eW iJ k6 hN hi hx ai vi iz iD hE.h he iw f9 hm hG (λn l c' A outer s H L W D=>(hR n l c' A outer s H L W D).h) λR A outer s H n l v Q hv D P=>(iQ R A outer s H n l v Q _ _ _ _ _ _ _ _ hv D P).h⟩
end
def Bx(i j:Nat)(f g:F):FS:=λa=>(f a).bind λp=>(g p.2).bind λq=>if i<TD q.2/\j<(TD q.2)then Y (.nx<|(q.2.set i<|Y p.1).set j<|Y q.1)else U
section
variable {K:jJ}{T:Z5}{f:L2.St}{r g c:Dn}{H m l:Hp}{A:kE}{i j:Nat}{x y:D×Bool}{v u:V}
def Um(E:ER K H T f r)(P:A4 K T f r H x g v m)(Q:A4 K (JU T x v) f g m y c u l)(Y:i<TD c)(hj:j<TD c)(M:A i)(N:A j):
  SK A f r H ((f.set i<|SI v).set j<|SI u) ((c.set i<|SI x).set j<|SI y) l/\ER K l T ((f.set i<|SI v).set j<|SI u) ((c.set i<|SI x).set j<|SI y):=by
 have B:=P.er E;have I:=P.1.trans Q.1
 have h1:x.2=Td->∀p,v=.ref p->H p=SS/\m p≠SS/\¬Z8 f g p:=λh p hv=>by obtain⟨d,b⟩:=x;cases h;obtain⟨q,e,s,w,o⟩:=P.2;rw[hv]at e;cases e;exact⟨s,o.some,λz=>w.nT p z<|.inr Tl⟩
 have s:y.2=Td->∀p,u=.ref p->m p=SS:=λh p hv=>by obtain⟨d,b⟩:=y;cases h;obtain⟨q,e,s,_⟩:=Q.2;rw[hv]at e;cases e;exact s
 have new:∀b,m b≠SS->¬(y.2=Td/\u=.ref b):=λb t z=>t<|s z.1 b z.2
 have G:ER K l (JU (JU T y u) x v) f c:=(Q.er B).mono (λ_ _ e _=>e) (λb _ z=>by
  rcases z with(z|z)|z
  .exact .inl (.inl z)
  .exact .inr z
  exact .inl (.inr z)) (λa z=>(Q.er B).dom a (by
  rcases z with(z|z)|z
  .exact .inl (.inl z)
  .exact .inr z
  exact .inl (.inr z)))
 have J:ER K l (JU T y u) (f.set i<|SI v) (c.set i<|SI x):=ER.store G Y (by
  obtain⟨d,b⟩:=x
  cases b
  .refine Rep.mono (λb o e n=>Q.1.kp b o e λz=>n<|.inl z) (λb t z=>?_) P.2.2;rcases z with z|z|z
   .exact .inl (Q.1.ow b z)
   .exact .inr z
   exact absurd z (new b t)
  obtain⟨p,rfl,C,w,o⟩:=P.2;obtain⟨_,g2,U⟩:=h1 Tl p Tl;refine⟨p,rfl,λz=>?_,o.mono (λb o e n=>Q.1.kp b o e λz=>n<|.inl z) (λb t z=>?_) λo e=>Q.1.kp p o e U⟩
  .rcases z with z|z
   .exact(E.dom p z).ne C
   exact new p g2 z
  rcases z with z|(z|z)|z
  .exact .inl (Q.1.ow b z)
  .exact .inr (.inl z)
  .exact absurd z (new b t)
  exact .inr (.inr z))
 refine⟨⟨I.kp,λk a z=>?_,I.dm,λk hk=>?_⟩,ER.store J (by rw[sJ];exact hj) ?_⟩
 .rcases z.store with⟨_,z⟩|⟨_,L,O⟩
  .rcases z.store with⟨_,z⟩|⟨_,L,O⟩
   .exact .inl (I.owi k a z)
   exact .inr (.inl (h1 L a O).1)
  refine .inr (.inl ?_);have:=s L a O
  cases e:H a with
  |none=>rfl
  |some o=>exact absurd this<|P.1.dm a (by rw[e];simp)
 .rw[nD λ(e:j=k)=>hk<|e▸N,nD λ(e:i=k)=>hk<|e▸M]
 have sub:∀b,Z8 (f.set i<|SI v) (c.set i<|SI x) b\/T b->Z8 f c b\/JU T x v b:=λb z=>by
  rcases z with z|z
  .exact z.store.imp id .inr
  exact .inr (.inl z)
 obtain⟨d,b⟩:=y
 cases b
 .exact Rep.mono (λ_ _ e _=>e) (λb _ z=>sub b z) Q.2.2
 obtain⟨p,rfl,C,w,o⟩:=Q.2;refine⟨p,rfl,λz=>(B.dom p<|.inl z).ne C,o.mono (λ_ _ e _=>e) (λb _ z=>?_) λ_ e=>e⟩;rcases z with z|z|z
 .exact(sub b<|.inl z).imp id .inl
 .exact .inr (.inl<|.inl z)
 exact .inr (.inr z)
end
section
variable {X:Cx}{A:kE}{L:LL}{p:Hp}{a b:jv}{f g:F}{c l d pt o:bt}{x y:ap}{i j:Nat}{m n:Nat}
def ady(G:X.calm=Td)(C:X.N.Nodup)(J:X.N[i]?=SI x)(M:X.N[j]?=SI y)(l5:i≠j)(Y:X.env.scope.names.lookup x=SI .local)(hy:X.env.scope.names.lookup y=SI .local)
  (I:PX X a f)(O:PX X b g)(h1:ac [a,b] X.env=(Tk,aY a X.env)::ac [b] X.env)(q:ac [b] X.env=(Tk,aY b X.env)::ac [] X.env)(r:cq [.Tuple [.Name x l,.Name y d] m pt] (.Tuple [a,b] n o) X.env=pure (SI [x,y]))
  (U:cn [.Tuple [.Name x l,.Name y d] m pt] (.Tuple [a,b] n o) c.line X.env=pure Tk)(z:A i)(B:A j):
  LZ X A L p (.Assign [.Tuple [.Name x l,.Name y d] m pt] (.Tuple [a,b] n o) c) (Bx i j f g):=PS.imp' (T8 G C J M l5 Y hy (ma I (ma O oB q) h1) r U) λD σ H r=>by
 obtain⟨W,T,out,E,fi,e,k⟩:=r;obtain⟨t,h,h1,e⟩:=jw e;obtain⟨V,s,q,e⟩:=jw e;obtain⟨⟨F,K⟩,e⟩:=jM e;subst e;refine⟨W,T,t,h,E,h1,λv Z P=>⟨h,JU T t v,V,s,P.er E,q,λu w Q=>⟨v,u,rfl,?_⟩⟩⟩;obtain⟨R,S⟩:=Um E P Q F K z B;exact k _ w R S
def sPO(r:X.N.Nodup)(s:QX X a f)(t:QX X b g)(u:X.calm=C:=by rfl)(v:X.N[i]?=Y x:=by rfl)(w:X.N[j]?=Y y:=by rfl)(H:i≠j:=by decide)(T:X.env.scope.names.lookup x=Y .local:=by rfl)(E:X.env.scope.names.lookup y=Y .local:=by rfl)(h1:SE X a [b]:=by rfl)(e:SE X b []:=by rfl)
  (B:cq [.Tuple [.Name x l,.Name y d] m pt] (.Tuple [a,b] n o) X.env=pure (Y [x,y]):=by rfl)(z:cn [.Tuple [.Name x l,.Name y d] m pt] (.Tuple [a,b] n o) c.line X.env=pure I:=by rfl)(k:A i:=by decide)(q:A j:=by decide):
  QS X A L p (.Assign [.Tuple [.Name x l,.Name y d] m pt] (.Tuple [a,b] n o) c) (Bx i j f g):=⟨ady u r v w H T E s.h t.h h1 e B z k q⟩
end
def kyI:D->Option (List Key×Int)
 |.tup [k,.int i]=>(vS k).map (·,i)
 |_=>U
def JX:List D->Option (List<|List Key×Int)
 |[]=>Y []
 |d::l=>(kyI d).bind λk=>(JX l).map (k:: ·)
def Dv:D->Option (D×Bool)
 |.lst l=>(JX l).bind λa=>if (TD a)<=1000/\(a.map (·.1)).Nodup then Y (.Z3 .dct (a.map λk=>.tup (k.1.map lV))<|a.map λk=>.int k.2,C)else U
 |_=>U
abbrev MW(a:List (List Key×Int)):List (List Key×V):=a.map λk=>(k.1,V.int k.2)
def Nv:∀{l:List D}{b:List (List Key×Int)},JX l=Y b->TD l=TD b/\∀(i:Nat) k,b[i]?=Y k->∃d,vS d=Y k.1/\l[i]?=Y (.tup [d,.int k.2]):=by
 intro m
 induction m with
 |nil=>intro b h;cases h;exact⟨rfl,λi p h=>by simp at h⟩
 |cons d l j=>
  intro b h;obtain⟨p,h1,h⟩:=jl h;obtain⟨n,c,rfl⟩:=jX h;obtain⟨f,g⟩:=j c;refine⟨by simp[f],λi q e=>?_⟩
  cases i with
  |zero=>
   simp at e;subst e;unfold kyI at h1;split at h1
   .obtain⟨a,c,rfl⟩:=jX h1;exact⟨_,c,rfl⟩
   cases h1
  |succ i=>simpa using g i q (by simpa using e)
def Tw{K:jJ}{H:Hp}{O:Z5}:∀a:List (List Key×Int),Z9 K H O (a.map λk=>.int k.2) ((MW a).map (·.2)):=by
 intro c
 induction c with
 |nil=>exact Z9.nil
 |cons _ a b=>exact Z9.cons Rep.mkInt b
def ZI(P:jI)(w:jG)(H:Hp)(S:jh)(c:List (List Key×Int))(h:jH):Prop:= ∃m:List (List Key×jh×jr),L2.KT H (MW c) m/\∃o a b,h.get? S=Y o/\o.ExactDict/\o.data=.dict a b/\a.toList=m.map (qs<|bR<|lA P w)/\(m.map (·.1)).Nodup
section
variable {X:Cx}
def aby(hu:X.A.units+62<aI)(hc:X.calm=Td):lr X (.type "dict") (GF X.K<|g1 Dv):=ot λy s σ H x u Q O d z I ru np hd C G=>by
 cases d with
 |lst l=>
  obtain⟨f,gQ,C⟩:=jl C;obtain⟨⟨hz,dU⟩,rfl⟩:=jM C;obtain⟨p,xs,rfl,q,r⟩:=lN hd;cases ru;obtain⟨n,v,⟨ol,nn,cA,dn,eU,dX⟩,_⟩:=I.list q;obtain⟨e0,dy⟩:=Nv gQ;have e1:=r.length;have e2:=v.length;have hh:X.A.handled=SS:=I.ok.hd hc;have Y:=I.fresh
  refine TT.Rq hh cA dn dX eU (λi h=>ZI X.prog X.w H s.heap.objs.size (f.take i) h)
   (λi h h' ⟨m,k,o,J',T,e,c⟩ st=>⟨m,k,o,J',T,st _ e,c⟩) (λh' e=>⟨[],.nil,_,#[],0,e,⟨rfl,rfl,rfl⟩,rfl,rfl,mS⟩) (λi w s' B hB hi ⟨m,hk,hd⟩ E eg ed eo=>?_) (λh' tk ⟨m,hk,hd⟩ E=>?_)
  .have du:i<n.length:=by have:=(Jn.mp hi).1;simpa using this
   have hw:n[i]?=SI w:=by simpa using hi
   have R:f[i]?=SI f[i]:=km (by lia);have F:xs[i]?=SI xs[i]:=km (by lia);obtain⟨w',Z,w2⟩:=v.get F;rw[hw]at Z;cases Z;obtain⟨dk,iA,eV⟩:=dy i _ R;have aX:Rep X.K H O (.tup [dk,.int f[i].2]) xs[i]:=r.views eV F;obtain⟨h1,g1,dr1,dP,os1⟩:=s';dsimp only at E eg ed eo hd;subst eg;subst ed;subst eo;have L:Inv X y σ H {s with heap:=h1,toks:=dP}:=I.kept E;obtain⟨a,ys,ea,sq,g⟩:=lZ<|.inl aX;rw[ea]at w2;cases w2;obtain⟨b9,v2,cw,_⟩:=L.tuple sq;rw[Z9]at g;obtain⟨y1,r1,rfl,p1,g⟩:=g;rw[Z9]at g;obtain⟨y2,r2,rfl,W,g⟩:=g;rw[Z9]at g;subst g;obtain⟨b,rfl,S⟩:=oz iA<|.inl p1;rw[Rep]at W;subst W;obtain⟨u1,u2,rfl,gA,gz⟩:=wm v2;cases gA;refine⟨a,_,_,rfl,cw,λQ' E' hq=>?_⟩;obtain⟨o,J',T,g1,g2,g3,g4,g5⟩:=hd
   have hm:f[i].1∉m.map (·.1):=by rw[ze hk];intro D;rw[ky]at D;obtain⟨x,hx,e⟩:=jD D;obtain⟨j,N,P⟩:=zv hx;rw[uR]at N;rw[kA]at P;have V:=LA.mp dU j i (by simp;lia) (by simp;lia) (by lia);simp only[fJ]at V;exact V ((nC (·.1) P).trans e)
   have fj:fY m f[i].1=SS:=te λj p' N=>hm<|rZ.mpr ⟨_,lX N,rfl⟩
   have hml:m.length<=1000:=by have:=nC cG<|ze hk;simp at this;lia
   refine px (knd:=bR<|lA X.prog X.w) (k:=f[i].1) (show(bR<|lA X.prog X.w).room B from(by show B.units<aI;lia)) (qp L.hok S) (xs:=m) ⟨o,J',T,g1,g2,g3,g4,R7 L.hok hk,g5⟩ (λh2 t p6=>hq h2 _ (n7 _ _) p6 ?_) (by rw[kT];lia);rw[Op fj]at t;obtain⟨o',M,dI,k1,k2,k3,k4,_,k5⟩:=t;refine⟨_,?_,o',M,dI,k1,k2,k3,k4,k5⟩;rw[zu,R];show L2.KT H (cc _ (f.take i++[f[i]])) _;rw[nM];exact ID hk ⟨rfl,S,gz⟩
  have U:n.toArray.size=f.length:=by simp;lia
  rw[U,Fq]at hk;refine⟨.ref s.heap.objs.size,upd H s.heap.objs.size<|.dT<|MW f,I.laid E (kD _) ⟨?_,?_,m,IE (λa u e=>by rw[ke<|md e Y];exact e) hk,hd⟩,rfl,?_⟩
  .rw[kN,kT];lia
  .have:=I.big;simp
   lia
  refine G s.heap.objs.size _ Y (ly Y) ⟨(MW f).map (·.2),.inr ⟨MW f,jL,?_,rfl⟩,?_⟩
  .rw[ky];rfl
  exact Tw _
 |_=>cases C
variable {a:jv}{g:FO}{p f:bt}
def Yp(k:X.A.units+62<aI)(j:X.mg "dict"=U)(c:QA X [a] [g])(d:X.calm=C:=by rfl)(i:Gl X "dict":=by rfl)(e:SE X a []:=by rfl)(b:BA X f []:=by rfl):QX X (.Call (.Name "dict" p) [a] [] f) (jT (g1 Dv) [g]):=
 ⟨C7 (aby k d) i j (by decide+kernel) c.h (by decide) (by decide) e b⟩
def IK:D->Option (D×Bool)
 |.lst l|.tup l=>if l.all Hm=C/\(mC l).length<500 then Y (.Z3 .set []<|mC l,C)else U
 |_=>U
def acy(j:X.calm=C):lr X (.type "set") (GF X.K<|g1 IK):=ot λh s y H x u Q O d z T t np hd c G=>by
 obtain⟨l,m,a,b,rfl⟩:∃l,(d=.lst l\/d=.tup l)/\l.all Hm=C/\(mC l).length<500/\(D.Z3 .set []<|mC l,C)=z:=by
  cases d with
  |lst l=>obtain⟨⟨a,b⟩,e⟩:=jM c;exact⟨l,.inl J,a,b,e⟩
  |tup l=>obtain⟨⟨a,b⟩,e⟩:=jM c;exact⟨l,.inr J,a,b,e⟩
  |_=>cases c
 refine GI j T t hd m a b G λT S n o rw r q v k=>?_;obtain⟨i,rfl⟩:=uo r;have e:=o.int;subst e;obtain⟨w,rfl⟩:=rw;exact VP.LX S n q k
end
def acp{M:gy}{A:jF}{E:jZ}{s:jk}{c:Type}(n:Nat)(f:Nat->c->dc (ForInStep c))(T:List Nat->c->jk->Prop)(Q:c->jk->Prop)
  (turn:∀x a b s,T (x::a) b s->aa M A (f x b) (λr e=>match r with|.yield d=>T a d e|.done d=>Q d e) E s)
  (fin:∀b s,T [] b s->Q b s)(b:c)(h:T (bz 0 n) b s):aa M A (fq [:n] b f) Q E s:=by
 rw[Lj];exact vh f T Q turn fin _ _ (by simpa[o6]using h)
def aaf(l:jh)(items:nJ)(n:Nat)(dd:Option jh)(T:wc)(x:jr)(e:jr->Bool)(j:Nat)(Q:j<items.size)
  (p:e items[j]=C)(E:∀m (o:m<items.size),m<j->e items[m]=I):
  R1 (bc.«tuple.index» ⟨[.ref l,x],[]⟩)
   (λA R s=>s.heap.get? l=Y {cls:=.type "tuple",dict:=dd,data:=.seq items n,slots:=T}/\(∀y,y∈items->EqAt A.in1 s y x (e y))/\R (.ok<|.ret<|.int j s.toks) {s with toks:=s.toks+1}):=
 .of_wp λf w A R s h=>by
  obtain⟨B,g,d,L,os⟩:=s;obtain⟨z,u,h⟩:=h
  wp_walk using gF z
  change aa _ _ (fq [:min items.size items.size] ((U:Option gC),()) (λ(i:Nat) _=>match items[i]? with
   |some y=>do
    let r <-eqBool y x
    if r=C then do
     let v <-retInt (i:Int)
     pure (M2 (Y v,()))
    else pure (bj (U,()))
   |_=>pure<|bj (U,()))) _ _ _
  rw[vw];refine acp _ _ (λa (H:Option gC×Unit) t=>H.1=U/\t=⟨B,g,d,L,os⟩/\∃k,k<=j/\a=bz k (items.size-k)) _ ?_ ?_ _ ⟨rfl,rfl,0,mw _,by simp⟩
  .rintro i a b t ⟨O,rfl,k,hk,c⟩;obtain⟨m,o⟩:∃m,items.size-k=m+1:=⟨items.size-k-1,by lia⟩
   rw[o,vp]at c;obtain⟨rfl,rfl⟩:=vn c;have q:i<items.size:=by lia
   rw[pE q];dsimp only;refine ji<|u _ (Array.getElem_mem q) f w _ _ ?_;by_cases N:i=j
   .subst N;rw[p]
    wp_walk
    exact⟨_,rfl,h⟩
   rw[E i q<|by lia]
   wp_walk
   exact⟨rfl,rfl,i+1,by lia,by congr 1;lia⟩
  rintro b t ⟨_,_,k,hk,c⟩;obtain⟨m,o⟩:∃m,items.size-k=m+1:=⟨items.size-k-1,by lia⟩
  rw[o,vp]at c;cases c
def BQ(a:FO)(f:F):F:=λδ=>(a δ).bind λp=>match res p.2 p.1 with
 |some (.tup l)=>(f p.2).bind λq=>(l.findIdx? (D.Z1 · q.1.1)).bind λj=>if D.A6 l<=50/\q.1.1.dep<=50 then Y ((.int j,I),q.2)else U
 |_=>U
section
variable {X:Cx}{a e:jv}{f:F}{p:FO}{c i:bt}
def PJ(hu:X.A.units+60<aI)(ha:PO X a p)(he:PX X e f)(j5:M6 X a "index")
  (l9:M4 X i [e])
  (j4:(c.endLine==i.line)=Td)(hs:ac [e] X.env=(Tk,aY e X.env)::ac [] X.env)(g0:(aV i<|ac [] X.env).any (·.1)=Tk):
  PX X (.Call (.Attribute a "index" c) [e] [] i) (BQ p f):=λt s G H Q I hw=>by
 obtain⟨δ,T,rr,δ',E,h,k⟩:=hw;unfold BQ at h;obtain⟨o,q,h1,h⟩:=jw h;dsimp only at h
 cases R:res q o with
 |none=>rw[R]at h;cases h
 |some x=>
 rw[R]at h
 cases x with
 |tup l=>
  obtain⟨r,C,h2,h⟩:=jw h;obtain⟨j,hj,h⟩:=jl h;obtain⟨⟨d1,d2⟩,h⟩:=jM h;obtain⟨rfl,rfl⟩:=sH h;refine F3 j5 l9 j4 Tl<|T2 (ha t s G H (λv L=>C5 X.K T G δ H o q v L) I ⟨δ,T,o,q,E,h1,λ_ _ P=>P⟩) λv s1 a'=>?_;obtain⟨w,L,I1,r1,P1⟩:=a';have J:=P1.er E;have B:=Ops.cons E P1<|Ops.nil J;have tw:Rep X.K L (λa=>Z8 G q a\/T a) (.tup l) w:=(B.view (j:=0) Tl Tl R).elim id λ⟨_,_,z⟩=>z.elim;obtain⟨a,xs,rfl,sq,rl⟩:=tw.tup;cases r1;obtain⟨_,its,vv,ob,ho,hc,⟨n,hd⟩,hn⟩:=(show Z7 X.prog X.w L s1.heap a (.tup xs)from I1.hok a _ sq.1)
  refine⟨"tuple","tuple.index",PySem.F.plainAttrs_tuple,PySem.F.slot_tuple_index,PySem.F.type_tuple_index,⟨_,ho,hc⟩,λb eb=>by cases eb;exact⟨_,ho,hn⟩,?_⟩;have hA:=ma he oB hs i t s1 G L (λvs O=>∃y,vs=[y]/\A4 X.K (Bl T o<|.ref a) G q L r C y O) I1 ⟨q,Bl T o<|.ref a,r,C,J,h2,λy O P=>⟨y,rfl,P⟩⟩;rw[hs]at hA ⊢;refine F1 (by show(Tk||(aV i<|ac [] X.env).any (·.1))=Tk;rw[g0];rfl)<|FZ<|T2 hA λus s2 a'=>?_;obtain⟨ws,O,Y',r2,y,hy,M⟩:=a';subst hy;obtain⟨u,rfl,ru⟩:=r2.one;obtain⟨E2,ry⟩:=M.rep J;have Z:Rep X.K O (λa=>Z8 G C a\/T a) (.tup l) (.ref a):=Rep.mono (λb ob e n=>M.1.kp b ob e λz=>n<|.inl z) (λb _ z=>z.elim (λz=>.inl (M.1.ow b z)) .inr) tw;obtain⟨a2,eC,e2,W,V⟩:=Z.tup;cases e2;obtain⟨_,U,vv2,S,p7,v7,⟨n2,N⟩,hn2⟩:=(show Z7 X.prog X.w O s2.heap a (.tup eC)from Y'.hok a _ W.1)
  obtain⟨c2,aB,da2,aw⟩:=S;dsimp only at v7 N;subst v7 N;obtain⟨g,hg,hm⟩:=R9 (A:=X.A) Y' V vv2 (.inl ry) ru d1 d2 hu
  have fi:U.findIdx? g=Y j:=by
   have h3:U.findIdx? g=(U.map g).findIdx? id:=by rw[Fl];rfl
   have h4:l.findIdx? (D.Z1 · r.1)=(l.map λd=>D.Z1 d r.1).findIdx? id:=by rw[Fl];rfl
   rw[h3,hm,<-h4];exact hj
  obtain⟨g1,g2,g3⟩:=Vv.mp fi
  exact zG F.slot_tuple_index ⟨_,p7,rfl⟩ F.entry_tuple_index (F.args_tuple_index_2 _ _)
   (aaf a U.toArray n2 aB aw u g j (by simpa using g1) (by simpa using g2) λm hm i3=>by simpa using g3 m i3) ⟨p7,λy hy=>hg y<|List.mem_toArray.mp hy,⟨.int j,O,Y'.tok _,⟨_,rfl⟩,((Ops.cons E P1<|Ops.cons (o:=.val r) J M<|Ops.nil<|C5.er (o:=.val r) J M).done k).int⟩⟩
 |_=>cases h
def Yh(k:un X.A 60)(d:QO X a p)(g:QX X e f)(m:M6 X a "index":=by rfl)
  (n:M4 X i [e]:=by rfl)
  (l:(c.endLine==i.line)=C:=by rfl)(j:SE X e []:=by rfl)(b:BA X i []:=by rfl):QX X (.Call (.Attribute a "index" c) [e] [] i) (BQ p f):=⟨PJ k d.h g.h m n l j b⟩
end
section
variable {X:Cx}{c:kf}{d:L2.St}{H:Hp}{s:jk}{O:Z5}{b:List D}{a:jh}{A:jF}{E:jZ}
def abp{Q:qu}{k:Int}{g:wP}{i n t l}(S:VP X H O s.heap a b i n t l)(e:b.all Hm=C)(u:(TD b)<500)
  (h:∀o,Q (b.any (D.Z1 · (.int k))) {s with toks:=o}):aa (ae X.prog X.w) A (fU (.ref a)<|.int k g) Q E s:=by
 have f:=S.is.typeIs;obtain⟨q,p⟩:=S.JZ;unfold fU;refine mE<|ji<|sN f AR.lookup ?_;change aa _ _ (if(Y (eD "set.__contains__")==Y ah)=C then _ else _) _ E s;rw[jP<|by rw[Fx];exact lQ];refine ji<|KZ (name:=bv "__contains__") f AR<|oI AR f p9 ?_<|KY _ _;unfold bc.«frozenset.__contains__» bM;simp only[xm,rC];unfold bw dz;refine ji<|ju ?_;dsimp only;refine ji<|ju ?_;dsimp only;refine ji<|Fp ?_;unfold mA;refine mE<|ji<|(b5 X.prog X.w).pyHash (k:=k) (va _ _ _ _) ?_;refine ji (PySem.W.setFind_any (knd:=b5 X.prog X.w) (S:=λk=>b.any (D.Z1 · (.int k))) (s:={s with toks:=s.toks+1}) (va _ _ k g) J S.is.at_ J (S.elems e) (λk=>(DL e k).trans (S.there e k).symm) (show i.size<4096 by lia) S.is.fits λr m=>?_);have j:=h<|s.toks+1;rw[<-show r.isSome=b.any (D.Z1 · (.int k))from m]at j;exact ju<|ju ⟨_,rfl,vF j⟩
end
def N9(d e:D):Option Bool:=match e with
 |.Z3 .set [] a=>if a.all Hm=C/\Hm d=C/\(TD a)<500 then Y (a.any (D.Z1 · d))else U
 |_=>U
def zf(d e:D):Option (D×Bool):=(N9 d e).map λb=>(.bl (!b),I)
def Q1{d e:D}{b:Bool}(h:N9 d e=Y b):∃a,e=.Z3 .set [] a/\a.all Hm=C/\(∃k,d=.int k)/\(TD a)<500/\a.any (D.Z1 · d)=b:=by
 unfold N9 at h;split at h
 .obtain⟨⟨h1,c,f⟩,rfl⟩:=jM h;exact⟨_,rfl,h1,uo c,f,rfl⟩
 cases h
section
variable {X:Cx}
def Ad:Dw X (aT .NotIn) (rD X.K zf):=by intro c s L H x y v u Q T o p h;obtain⟨O,d,e,z,np,h1,f,i,G⟩:=h;obtain⟨b,g,rfl⟩:=jX i;obtain⟨E,rfl,j,⟨k,rfl⟩,m,rfl⟩:=Q1 g;obtain⟨a,N,rfl,q,r⟩:=oN f;cases p;have:=kj h1;subst this;obtain⟨w,rfl⟩:=o;obtain⟨B,n,t,l,S⟩:=q.KL T r;change aa _ _ (fU (.ref a) (.int k w)>>=λb=>pure<|dh (!b)) _ _ s;refine ji<|abp S j m λA=>?_;exact ju ⟨.bl _,H,T.kept (h':=s.heap) (t':=A) λ_ _ e=>e,rfl,G.bl⟩
end
def Ay(i:Nat)(f:F):F:=λb=>match b[i]? with
 |some (Y (.Z3 .set _ _,C))=>(f b).bind λp=>match p.2[i]? with
  |some (Y (.Z3 .set _ a,C))=>if a.all Hm=C/\Hm p.1.1=C/\(TD a)<500 then Y ((.Z4,I),p.2.set i<|Y (.Z3 .set []<|nH a p.1.1,C))else U
  |_=>U
 |_=>U
section
variable {X:Cx}{e:jv}{f:F}{m:FO}{d j c g p:bt}{i:Nat}{x:ap}
def adu(hu:X.A.units+90<aI)(hn:PO X (.Name x j) (jm i))(he:PX X e f)(j5:M6 X (.Name x j) "add")
  (l9:M4 X g [e])
  (j4:(c.endLine==g.line)=Td)(hs:ac [e] X.env=(Tk,aY e X.env)::ac [] X.env)(g0:(aV g<|ac [] X.env).any (·.1)=Tk):
  PX X (.Call (.Attribute (.Name x j) "add" c) [e] [] g) (Ay i f):=λC s L H Q I hw=>by
 obtain⟨G,T,rr,δ',E,q,k⟩:=hw;unfold Ay at q;split at q
 case h_2=>cases q
 rename_i k0 w0 W;obtain⟨r,h,h1,q⟩:=jw q;dsimp only at q;split at q
 case h_2=>cases q
 rename_i k1 R Y;obtain⟨⟨o1,o2,o3⟩,q⟩:=jM q;obtain⟨rfl,rfl⟩:=sH q;refine F3 j5 l9 j4 J<|T2 (hn C s L H (λv J'=>C5 X.K T L G H (.slot i) G v J') I ⟨G,T,.slot i,G,E,by unfold jm;rw[W],λ_ _ P=>P⟩) λv s1 b'=>?_;obtain⟨y,J',I1,r1,K1,U',B⟩:=b';obtain⟨a,g1,Km,⟨_,zs,g2,_⟩,g3⟩:=U'.own i _ W;rw[B]at g1;cases g1;cases r1;obtain⟨es,n,t,M,_⟩:=(show Z7 X.prog X.w J' s1.heap a (.Z6 zs)from I1.hok a _ g2)
 refine⟨"set","set.add",PySem.F.plainAttrs_set,Fm,PySem.F.type_set_add,⟨_,M,rfl⟩,λb eb=>by cases eb;exact⟨_,M,rfl⟩,?_⟩;have Z:=ma he oB hs g C s1 L J' (λR O=>∃y,R=[y]/\A4 X.K T L G J' r h y O) I1 ⟨G,T,r,h,U',h1,λy O P=>⟨y,rfl,P⟩⟩;rw[hs]at Z ⊢;refine F1 (by show(Tk||(aV g<|ac [] X.env).any (·.1))=Tk;rw[g0];rfl)<|FZ<|T2 Z λus s2 b'=>?_;obtain⟨ws,O,I2,r2,y,hy,P2⟩:=b';subst hy;obtain⟨u,rfl,ru⟩:=r2.one;obtain⟨V,ry⟩:=P2.rep U';obtain⟨jj,hj⟩:=uo o2;rw[hj]at ry k;rw[ry.int]at ru;obtain⟨t0,rfl⟩:=ru;obtain⟨a',q1,us,q2,q3⟩:=V.own i _ Y;rw[B]at q1;cases q1;obtain⟨es,n,t,l,S⟩:=Bf.KL I2 q2 q3;refine oI Fm ⟨_,S.is.at_,rfl⟩ KP ?_<|KO _ _;unfold bc.«set.add» bM;simp;unfold bw;refine ji<|ju ?_
 try dsimp only
 refine ji<|VP.LX S o1 o3 λb h' tk es' n' t' D ht p6 N=>?_;show aa _ _ (ret ah) _ _ _;have rl:∀p∈D,Rep X.K O (λa=>Z8 L h a\/T a) p.1 p.2:=N.rep;have oa:Z8 L h a:=⟨i,_,Y,B⟩
 have kp:∀(M:HO) b u,O b=SI u->¬(Z8 L h b\/T b)->upd O a M b=SI u:=λM b u e n=>by rw[ke<|by intro z;subst z;exact n<|.inl oa];exact e
 obtain⟨cj,z1,z2⟩:=N.Z3 (K:=X.K) (H':=upd O a<|.Z6<|D.map hv) (O':=λa=>Z8 L h a\/T a) (λp hp=>Rep.mono (kp _) (λ_ _ z=>z)<|rl p hp) jL;obtain⟨E4,K4⟩:=V.Dd (o:=.Z6 (D.map hv)) (d':=.Z3 .set [] (nH R<|.int jj)) Y B ⟨cj,z1,z2⟩;refine ju ⟨_,rfl,.Z4,_,?_,rfl,k _ _ (A4.val ((K1.trans P2.1).trans K4) E4 Rep.JB)⟩;obtain⟨gq,zs2,g4,_⟩:=q2;exact uC (t':=tk) I2 (by rw[g4];exact bg) p6 ⟨_,N.is.at_⟩ N.Kb
def LN(n:X.A.units+90<aI)(k:QO X (.Name x j) (jm i))(b:QX X e f)(q:M6 X (.Name x j) "add":=by rfl)
  (r:M4 X d [e]:=by rfl)
  (o:(c.endLine==d.line)=C:=by rfl)(l:SE X e []:=by rfl)(a:BA X d []:=by rfl):QX X (.Call (.Attribute (.Name x j) "add" c) [e] [] d) (Ay i f):=⟨adu n k.h b.h q r o l a⟩
end
def M9:aW->ap
 |.FunctionDef n .. =>n
 |_=>""
def M8(s:aW):List Str:=(qk s).args.map (·.arg)
def loS(s:aW):List Str:=(jy s).names.filterMap λp=>match p.2 with|.local|.cell=>Y p.1|_=>U
def qN(k:fK)(a:List b4):=Lean.Syntax.node .none k a.toArray
def qA:=Lean.Syntax.atom .none
def qK:=Lean.Name.str `Lean.Parser.Tactic
def qM(s:String):=qN<|.str `Lean.Parser.Term s
def qH(t s:String)(a:List b4):=qN (qK t) (qA s::a)
def qT(s:String):=qH s s
def qQ(a:List b4):=qN (qK "tacticSeq") [qN (qK "tacticSeq1Indented") [qN `null a]]
def qF(l:List b4):=qT "first" [qN `null (l.map λt=>qN `group [qA "|",t])]
def qP(f:fK)(a:List b4):=if a.isEmpty then(t6 f).raw else qM "app" [t6 f,qN `null a]
def qU:=qM "hole" [qA "_"]
def qY(a:List b4):=qM "byTactic" [qA "by",qQ a]
def qB:=qY [qT "assumption" []]
def qE(f:fK)(a:List b4):=qT "refine" [qP f a]
def qG:Nat->b4
 |1=>qM "syntheticHole" [qA "?",qA "_"]
 |2=>qB
 |3=>qP `rfl []
 |4=>qY [qF [qQ [qE `ab7 []],qQ [qE `acS []]]]
 |5=>qP `Gy.x [qB,qU]
 |6=>qP `Gy.t [qB,qU]
 |7=>qP `Gy.vm [qB]
 |8=>qP `Gy.v [qB]
 |_=>qP `Gy.su [qB]
def qD:Nat->Nat->List b4
 |0,_=>[]
 |n+1,k=>if k=0 then[]else qD n (k / 10)++[qG<|k%10]
def WS(l:List (fK×Nat×List (Nat×List fK))):Lean.Syntax:=
 let r:=qP `rfl []
 let w t:=qH "withReducible" "with_reducible" [qQ [t]]
 let g:=l.map λg=>
  let f:=qF<|g.2.2.flatMap λp=>p.2.map λn=>qQ [qE n<|qD 9 p.1]
  if g.2.1=0 then qQ [qE g.1 [qG 1],qA ";",w f]else qQ [qT "show" [qP g.1<|af g.2.1 qU],qA ";",f]
 qQ [qT "repeat'" [qQ [qF (qQ [w<|qT "intro" [qN `null [qU]]]::(g++[qE `dA [qG 1,qG 1],qT "assumption" [],qH "tacticRfl" "rfl" [],qE `bf [r],qE `bp [qP `bf [r]],qE `bp [qP `bp [qP `bf [r]]],qE `bp [qP `bp [qP `bp [r]]]].map (λt=>qQ [t])))]]]
end PX
set_option backward.eqns.nonrecursive true
namespace PV
open L2 PX
noncomputable abbrev XR:Nat:=100000
abbrev RD:Nat:=6
abbrev vG:=jB<|fC<|.int 0
abbrev nX:=jB<|fC<|.int 1
abbrev VF:=jW (ym .Gt) (jm 1) vG
def yD:FS:=jA (nV<|MF (fT VF) (jW Aw (jm 0)<|jB<|jW GS (jm 1) nX)<|ph Ap<|jB<|jW Aw (jm 0)<|jB<|jW GS (jB<|ph Ap<|jm 1) nX) ki
def mG:A5:=Ae 2 2 [] yD
abbrev Sx:=jW Aw (jm 0)<|jm 1
abbrev LJ:=jB<|jT (g1 Ar) [jm 0]
def pQ:FS:=jA (G4 (fT<|jW (ym .Lt) (jm 1) LJ) (jA (nV Sx) ki) ki)<|jA (nV<|fC<|.int 0) ki
def mz:A5:=Ae 2 2 [] pQ
abbrev LD:=fC<|.bl C
abbrev VS:=jB<|jW NS (jB<|fC<|.int 10)<|jB<|fC<|.int 18
def rN:FS:=jA (lE 2<|kc mz [jm 0,jm 1])<|jA (G4 (fT<|jW (ym .GtE) (jm 2) VS) (jA (nV<|tR [jW GS (jm 2) VS,LD]) ki) ki)<|jA (nV<|tR [jW Aq (jm 2)<|jB<|fC<|.int 2147483647,fC<|.bl I]) ki
def nr:A5:=Ae 3 2 [2] rN
abbrev LH:=jA (rH 2) ki
abbrev Pd:=jW Aw (jm 0) nX
abbrev DZ:=jB<|jW Aw (jm 0) vG
def tM:FS:=jA (G4 (fT Pd) (jA (lE 2<|jW Aq DZ<|jm 1)<|jA (zR 0 (jW NV DZ<|jm 1) vG) LH) ki)<|jA (zR 0 (jW Aq (jB<|jW oD (jB<|jW sj DZ<|jB<|fC<|.int 48271)<|jB<|fC<|.int 29)<|jB<|fC<|.int 2147483647) vG)<|jA (lE 3<|jW Aq (jB<|jW oD (jB<|jW oD (jB<|jW sj DZ DZ)<|jB<|jW sj (jB<|fC<|.int 39373) DZ)<|jB<|fC<|.int 7)<|jB<|fC<|.int 2147483629)<|jA (lE 3<|jW Aq (jB<|jW oD (jB<|jW sj (jm 3)<|jm 3)<|jB<|jW sj (jB<|fC<|.int 16807)<|jm 3)<|jB<|fC<|.int 2147483587)<|jA (nV<|jW Aq (jB<|jW NV (jm 3)<|jB<|fC<|.int 8)<|jm 1) ki
def kx:A5:=Ae 4 2 [2,3] tM
abbrev LG:=lE 3<|tR []
abbrev Gw:=jB<|fC<|.int 2
abbrev Pa:=ph Ap nX
abbrev Pf:=jB<|jW oD (jm 1) nX
abbrev VJ:=jA (nV<|jT (g1 oS) [jm 3]) ki
abbrev V1:=Az 2<|jB<|kc kx [jm 0,jB<|jT (g1 Ar) [jm 2]]
abbrev Wd:=jW Aw (jB<|tR [fC<|.int 1,Pa])<|jB<|kc kx [jm 0,Gw]
abbrev Wg:=jB Wd
def aam:FS:=jA (lE 2<|jT (GU .lst C) [nX,Pf])<|jA LG<|jA (oA (wI<|jm 1) (jo 4)<|jA (oP<|mH 3<|jW sj (jB V1) Wg) ki) VJ
def mX:A5:=Ae 5 2 [2,3,4] aam
abbrev VI:=lE 5<|kc kx [jm 0,jm 2]
abbrev VO:=jB<|kc kx [jm 0,jB<|fC<|.int 3]
abbrev We:=lE 2<|jW Aw (jB<|tR [fC<|.int 3,fC<|.int 4,fC<|.int 6]) VO
abbrev zC2:=jA VI<|jA (G4 (fT<|jW (ym .Lt) (jm 5) Gw) (jA (oP<|mH 3<|jW Aw (jB<|tR [lW 4,ph Ap<|jm 4])<|jm 5) ki) ki) ki
def aas:FS:=jA We<|jA LG<|jA (oA (An nX Pf) (jo 4) zC2)<|jA (G4 (fT<|jW J5 (jm 3)<|jB<|tR []) (jA (oP<|mH 3<|jW sj Wg<|jB<|jW oD nX<|jB<|kc kx [jm 0,jm 1]) ki) ki) VJ
def nF:A5:=Ae 6 2 [2,3,4,5] aas
def sf:FS:=jA (nV<|jW sj (jB<|jW Aw (jm 0)<|jB<|jW GS (jB<|jT (g1 EM) [jm 1]) nX)<|jB<|jW Aw (jB<|tR [Pa,fC<|.int 1])<|jB<|jT (g1 Q3) [jB VF]) ki
def kY:A5:=Ae 2 2 [] sf
abbrev xQ:=lO<|lW 1
abbrev Wc:=jA (lE 4<|kc kY [jm 0,jm 3])<|jA (Mc 2 (lW 4)<|jB<|jT (g1 EM) [jm 4]) ki
def wQ:FS:=jA (lE 2 Sj)<|jA (oA xQ (jo 3) Wc)<|jA (nV<|jT (g1 oS) [jB<|kJ [2] 1 (lO<|jT (g1 mN) [jm 2]) (jo 1) kP<|lb<|jW A9 (jm 0)<|jm 1]) ki
def kr:A5:=Ae 5 2 [2,3,4] wQ
abbrev Sw:=oP<|mH 2<|lW 5
abbrev VR:=jA (lE 3<|jW oD (jm 3) nX) ki
abbrev VU:=fT<|jW (ym .Lt) (jm 3)<|jB<|jT (g1 Ar) [jm 2]
abbrev VY:=lE 5<|kc kr [jm 4,jB<|jW Aw (jm 2)<|jm 3]
abbrev zC4:=jA VY<|jA (G4 (fT<|jW oT (jm 5)<|jm 2) (jA Sw ki) ki) ki
def aar:FS:=jA (lE 2<|jT (g1 IM) [jm 0])<|jA (lE 3<|fC<|.int 0)<|jA (pR VU (jA (oA xQ (jo 4) zC4) VR) XR) LH
def oG:A5:=Ae 6 2 [2,3,4,5] aar
abbrev DX:=lO<|lW 0
abbrev Yc:=jB<|jT (g1 NQ) [jm 6]
abbrev Pg:=jT (g1 mN) [Yc]
abbrev VQ:=lE 4<|kc kx [jm 0,jB<|fC<|.int 4]
abbrev SN:=fT<|jW (ym .Gt) (jB<|jT (g1 Ar) [jm 6])<|jB<|fC<|.int 30
abbrev V3:=jB<|jW oD nX<|jB<|jW Aq (jm 4) Gw
abbrev Yf:=jB<|kJ [] 1 DX (jo 0) kP<|lb<|jT (g1 EM) [jm 0]
abbrev V7:=jA (lE 6<|BP (jm 6)<|jB<|kc kx [jm 0,jB<|fC<|.int 30]) ki
abbrev SO:=jT (g1 oS) [Yf]
abbrev Wa:=lb SO
abbrev SQ:=jW Aw (jB<|tR [fC<|.int 4,fC<|.int 8,fC<|.int 13]) VO
abbrev Wh:=lE 3<|jW oD (jm 1)<|jB<|kc kx [jm 0,jB<|jW oD (jB<|jW GS (jm 2)<|jm 1) nX]
abbrev zC1:=G4 (fT<|jW J5 (jm 4)<|jB<|fC<|.int 3) (jA (lE 7<|kJ [] 1 (lO<|lW 7) (jo 0) kP Wa) ki) ki
abbrev zC0:=G4 (fT<|jW (ym .Gt) (jm 4) vG) (jA (lE 7<|kJ [0,3] 1 (wI V3) (jo 2) kP<|lb<|kc mX [jm 0,jm 1])<|jA zC1<|jA (lE 6<|kc oG [jB<|BP (jB Pg) Gw,jm 7]) ki) ki
def aaq:FS:=jA Wh<|jA VQ<|jA (G4 (fT<|jW J5 (jm 3) vG) (jA (nV<|tQ [fC<|.int 0,tQ []]) ki) ki)<|jA (lE 5<|kc kx [jm 0,jB SQ])<|jA (lE 6<|kJ [0,3] 1 (wI<|jm 5) (jo 2) kP<|lb<|kc nF [jm 0,jm 1])<|jA zC0<|jA (lE 6 Pg)<|jA (G4 SN V7 ki)<|jA (nV<|tQ [lW 3,jT (g1 oS) [jm 6]]) ki
def oF:A5:=Ae 8 3 [3,4,5,6,7] aaq
abbrev DY:=HJ [jo 0,jo 1]
abbrev Pb:=jA (nV<|fC<|.bl I) ki
abbrev LI:=jB<|jT (g1 Ar) [jm 1]
def nU(ev:A5):FS:=jA (G4 (fT<|ph (yS [.list,.tuple])<|jm 1) (jA (G4 (He (fT<|jW Ki (jB<|ph (yS [.list])<|jm 0)<|jB<|ph (yS [.list])<|jm 1)<|fT<|jW Ki (jB<|ph (yS [.tuple])<|jm 0)<|jB<|ph (yS [.tuple])<|jm 1) Pb ki)<|jA (nV<|N6 (jW J5 LJ LI)<|jT (g1 Ba) [jB<|kJ [] 2 (yi (jm 0)<|jm 1) DY kP<|lb<|kc ev [jm 0,jm 1]]) ki) ki)<|jA (nV<|N6 (jW J5 (jB<|ph (yS [.bool])<|jm 0)<|jB<|ph (yS [.bool])<|jm 1)<|jW J5 (jm 0)<|jm 1) ki
def lK:Nat->A5
 |0=>λ_=>U
 |m+1=>Ae 2 2 []<|nU<|lK m
def aap:FS:=jA (nV<|jT (g1 oS) [jB<|jT (g1 yk) [jB<|kJ [1] 1 DX (jo 1) kP<|lb<|kc mG [jm 0,jm 1]]]) ki
def mf:A5:=Ae 2 2 [] aap
abbrev OZ:=jB<|ph Ap<|jm 0
abbrev Pe:=jB<|jW oD (jm 0) nX
def aaL:FS:=jA (nV<|kJ [] 1 (An OZ Pe) (jo 0) (fT<|jW Ki (jm 0) vG)<|lb<|lW 0) ki
def mI:A5:=Ae 1 1 [] aaL
abbrev Sz:=jW oT (jm 2)<|jm 1
abbrev VD:=jW oD (jm 1)<|jB<|tQ [lW 2]
abbrev Ye:=jW oT (jB<|ph Ap<|jm 2)<|jm 1
abbrev SJ:=fT Ye
def yn:FS:=jA (nV<|kJ [0] 2 xQ (jo 1) kP<|OA (lO<|kc mI [jm 0]) (jo 2) (yF (fT Sz) SJ)<|lb VD) ki
def nk:A5:=Ae 2 2 [] yn
abbrev LF:=lb<|lW 2
abbrev VH:=jB<|kc mf [jm 2,jm 1]
abbrev SF:=lO<|kc nk [jm 2,jm 4]
abbrev V9:=jW J5 (jB<|jT (g1 EM) [jB<|jW Aw (jm 1)<|jB Pa])<|jm 0
abbrev zC9:=fT<|jT (g1 Ba) [jB<|kJ [0,2] 1 xQ (jo 2) kP<|lb<|jW MB VH<|jm 0]
abbrev zC5:=lE 6<|kJ [5] 1 (lO<|lW 3) (jo 1) (fT V9)<|lb<|lW 1
def yo:FS:=jA (Tp (HJ [jo 2,jo 3])<|lW 0)<|jA (lE 4<|tR [tQ []])<|jA (oA (An nX<|jB<|jW oD (jm 2) nX) (jo 5)<|jA zC5<|jA (lE 4<|kJ [1,6] 1 SF (jo 2) zC9 LF) ki)<|jA (rH 4) ki
def nq:A5:=Ae 7 2 [2,3,4,5,6] yo
abbrev SD:=jB<|jW Aw (jm 1) nX
def aan:FS:=jA (nV<|MF (fT<|jW J5 (jB<|jT (g1 Ar) [jB Pd])<|jB<|jT (g1 Ar) [SD]) (kc nq [jm 0,SD])<|tR []) ki
def pU:A5:=Ae 2 2 [] aan
def aao:FS:=jA (nV<|kc pU [jm 0,jm 0]) ki
def mP:A5:=Ae 1 1 [] aao
abbrev Sy:=jW oT (jm 5)<|jm 4
abbrev Yd:=jW oT (jB<|ph Ap<|jm 5)<|jm 4
abbrev SH:=fT Yd
abbrev zC3:=jA (G4 (yF (fT Sy) SH) (jA (oP<|mH 3<|jW oD (jm 4)<|jB<|tQ [lW 5]) ki) ki) ki
def uI:FS:=jA (lE 1<|tR [tQ []])<|jA (oA (wI<|jm 0) (jo 2)<|jA LG<|jA (oA xQ (jo 4)<|jA (oA (lO<|jW oD (jB<|jT (GU .lst C) [OZ,vG])<|jB<|jT (GU .lst C) [nX,Pe]) (jo 5) zC3) ki)<|jA (lE 1<|lW 3) ki)<|jA (rH 1) ki
def mv:A5:=Ae 6 1 [1,2,3,4,5] uI
abbrev VW:=jW uz (jB<|kc kr [jm 0,jm 3])<|jm 2
abbrev Wf:=jA (G4 (fT VW) Pb ki) ki
def rO:FS:=jA (oA xQ (jo 3) Wf)<|jA (nV LD) ki
def pj:A5:=Ae 4 3 [3] rO
abbrev VB:=lb<|tQ [lW 0,LD]
abbrev V5:=kc pj [jm 2,SD,jm 0]
def wO:FS:=jA (lE 1<|jT (g1 As) [jB<|kJ [] 1 (lO Pd) (jo 0) kP VB])<|jA (nV<|kJ [1,0] 1 (lO<|kc mv [DZ]) (jo 2) (fT V5) LF) ki
def mR:A5:=Ae 2 1 [1] wO
abbrev OY:=lE 2<|tR []
abbrev Pc:=fT<|jW zf (jm 4)<|jm 3
abbrev Wb:=jA Sw<|jA (oA (lO<|lW 5) (jo 6)<|jA (oP<|Ay 3<|lW 6) ki) ki
def wN(a:A5):FS:=jA OY<|jA (lE 3 ET)<|jA (oA DX (jo 4)<|jA (G4 Pc (jA (yN 5 [4,7] a) Wb) ki) ki) LH
def wM(ev:A5):FS:=jA OY<|jA (lE 3 ET)<|jA (oA DX (jo 4)<|jA (G4 Pc (jA (yN 5 [4,7,8] ev) Wb) ki) ki) LH
abbrev VG:=wa<|kc mG [jm 1,jm 0]
def rM:FS:=jA (nV<|jT (g1 oS) [jB<|jT (g1 oo) [jB<|EU [0] 1 xQ (jo 1) kP VG]]) ki
def lP:A5:=Ae 2 2 [] rM
abbrev SM:=kc mI [DZ]
def qV:FS:=jA (lE 1<|kc mP [jm 0])<|Mb 1<|tj 2 SM [1] 5<|wN lP
def my:A5:=Ae 3 1 [1,2] qV
abbrev V6:=wa<|BQ (jm 0)<|kc mf [jB Sx,jm 2]
def qr:FS:=jA (nV<|jT (g1 oS) [jB<|jT (g1 oo) [jB<|EU [2,0] 1 xQ (jo 2) kP V6]]) ki
def lF:A5:=Ae 3 3 [] qr
def pP:FS:=jA (lE 1 Pd)<|jA (lE 2<|kc mP [jm 0])<|Mb 1<|Mb 2<|tj 3 (jT (GU .lst C) [LI]) [2,1] 5<|wM lF
def lU:A5:=Ae 4 1 [1,2,3] pP
abbrev VZ:=kJ [3] 1 xQ (jo 1) kP<|lb<|jW Aw (jm 1)<|jm 0
def tN:FS:=jA OY<|jA (oA (wI LJ) (jo 3)<|jA (oP<|mH 2<|jT (g1 oS) [jB<|jT (g1 oo) [jB<|jT (g1 IK) [jB VZ]]]) ki)<|jA (nV<|jT (g1 mN) [jB<|jT (g1 NQ) [jm 2]]) ki
def mY:A5:=Ae 4 2 [2,3] tN
abbrev SA:=jW Aw (jm 3) nX
abbrev VC:=lE 4<|kc mR [jm 3]
abbrev VE:=jB<|jW Aw (jm 3) vG
abbrev VM:=lE 2<|kc nr [jm 0,jm 1]
abbrev VL:=jB<|kc mY [jm 5,jm 6]
abbrev VN:=jB<|jT (g2 IL) [jm 1,nX]
abbrev VT:=jB<|ph Ap VE
abbrev VV:=jW A9 (jm 0)<|jB<|kc kr [jm 1,jm 2]
abbrev VX:=jA (oP<|mH 10<|tQ [])<|jA (oP<|mH 11<|tQ []) ki
abbrev V2:=jB<|jW oD VE nX
abbrev V4:=jB<|kc mY [jB SA,jm 8]
abbrev V8:=kJ [1] 1 DX (jo 1) kP<|lb<|kc kY [jm 0,jm 1]
abbrev zC8:=lE 3<|kc oF [jm 2,vG,jB<|jW GS (jB<|fC<|.int 5) VN]
abbrev zC7:=kJ [0,2] 1 (lO<|jW Aw (jm 1) nX) (jo 2) kP<|lb VV
abbrev zC6:=jT (g1 Dv) [jB<|kJ [] 2 (yj 0 SA) DY kP<|lb<|tQ [lW 1,lW 0]]
def Av:FS:=jA (oA (wI<|jB<|jT (g2 NT) [nX,jB<|jT (g2 IL) [LJ,jB<|fC<|.int 5]]) (jo 1)<|jA VM<|jA zC8<|jA VC<|jA (lE 5<|jW oD (jB<|jT (GU .lst C) [VT,vG])<|jB<|jT (GU .lst C) [nX,V2])<|jA (lE 6<|kJ [5] 1 (lO<|lW 4) (jo 1) kP<|lb V8)<|jA (lE 7 zC6)<|jA (lE 8<|kJ [7,3] 1 (lO<|lW 4) (jo 2) kP<|lb zC7)<|jA (oA (wI Gw) (jo 9)<|jA (Bx 10 11 (kc my [jm 3])<|kc lU [jm 3])<|jA (G4 (He (yE<|fT<|kc (lK RD) [jm 10,VL])<|yE<|fT (kc (lK RD) [jm 11,V4])) Pb ki) VX) ki)<|jA (nV LD) ki
def uW:A5:=Ae 12 1 [1,2,3,4,5,6,7,8,9,10,11] Av
end PV
namespace K32
open L2 PX PV
noncomputable def top(i:Nat):Stmt:=PySem.Challenge.pw_twinriddles_k32_lots_of_signs_and_clause.main.body.getD i<|.Pass ⟨0,0,0,0⟩
abbrev TB32:List (jh×ap):=[(64,"lots_of_signs.<locals>.reach"),(71,"lots_of_clauses.<locals>.reach")]
abbrev AZ(Z:ZZ)(i:Nat):Prop:=Fz Z.K Z.mg (M9<|top i)<|top i
abbrev Ow(Z:ZZ)(k i:Nat)(a:A5):Prop:=Oz Z k (M9<|top i) (M8<|top i) a
def aS:Lean.Syntax:=WS [(`QO,3,[(1,[`xO]),(0,[`xV])]),(`QX,3,[(231,[`Yj,`xI]),(0,[`x3,`xW,`x2,`x7]),(221,[`xU,`Yo,`Yp]),(111,[`Yr,`Yq,`xIf]),(11,[`Mv,`xC,`SU,`Yi,`Ys,`Yl]),(2311,[`xB,`xT]),(1,[`SR,`Ym,`Yg,`xBo]),(211,[`Yn]),(2221,[`xUT]),(21,[`xSA]),(2331,[`xI2])]),(`QA,3,[(11,[`xA]),(0,[`Jv])]),(`QQ,6,[(11,[`s1]),(0,[`s0])]),(`QS,6,[(21,[`sS]),(1,[`sR,`sE]),(111,[`sI,`sF,`AX]),(211,[`sC,`sPO]),(2,[`sRV]),(11,[`sT,`sW]),(2111,[`sDP])]),(`QG,4,[(2,[`gN]),(11,[`gT])]),(`QP.mk,0,[(0,[`Qt,`Qq,`Qr,`Qn,`Qo,`Qs]),(11,[`Qp]),(1,[`Uq,`abX,`Uo,`Up,`abd])]),(`QL,3,[(11,[`xL]),(0,[`xL0])]),(`QT,3,[(111,[`Tb]),(1,[`Yw,`tW,`L4])]),(`QC.mk,0,[(0,[`Ca,`tY,`acE,`acC,`abv]),(11,[`aaD,`acz,`rQ]),(1,[`acD,`abt,`acy,`abu])]),(`QI,5,[(1,[`iS]),(21,[`iR1,`iR2,`iE]),(211,[`iZV])]),(`QW,3,[(11,[`Yu,`wOr]),(1,[`Wm,`Yt])]),(`QF,3,[(0,[`f0]),(1,[`f1])]),(`QB,6,[(1,[`bE]),(31111,[`bF])])]
def qS{P:Prop}(h:autoParam P aS):P:=h
def Hl{Z:ZZ}{k:Nat}{st:aW}{c:kz}{fs:FS}(a:Fz Z.K Z.mg (M9 st) st)(_:Tx Z.mg)(N:List Str:=loS st)(d:Bd Z k (M9 st) st N (M8 st) c fs:=by exact qS)(S:Z2 N (M8 st) (jy st):=by exact Ko)(b:Jz (M9 st) st (M8 st):=by intro _ _ _ _ _ _;repeat' (first|exact Km rfl|refine Ke λ_=>?_)):Oz Z (k+1) (M9 st) (M8 st) (Ae (TD N) (M8 st).length c fs):=ozB a S b d
section
variable {Z:ZZ}{k:Nat}
def aaQ(a:AZ Z 1)(T:Tx Z.mg):Ow Z (k+1) 1 mG:=Hl a T
def aai(a:AZ Z 2)(T:Tx Z.mg)(b:Ow Z k 1 mG):Ow Z (k+1) 2 mf:=Hl a T
def aaJ(a:AZ Z 4)(T:Tx Z.mg):Ow Z (k+1) 4 mI:=Hl a T
def yd(a:AZ Z 5)(T:Tx Z.mg)(b:Ow Z k 4 mI):Ow Z (k+1) 5 nk:=Hl a T
def ye(a:AZ Z 6)(T:Tx Z.mg)(b:Ow Z k 5 nk)(c:Ow Z k 2 mf):Ow Z (k+1) 6 nq:=Hl a T
def aal(a:AZ Z 7)(T:Tx Z.mg)(b:Ow Z k 6 nq):Ow Z (k+1) 7 pU:=Hl a T
def aah(a:AZ Z 8)(T:Tx Z.mg)(b:Ow Z k 7 pU):Ow Z (k+1) 8 mP:=Hl a T
abbrev Nu(Z:ZZ)(k:Nat):Prop:=NX Z k "lots" (top 9) ["things","reach","found","seen","thing","lot","other","0"] ["things","reach"] [2,3,4,5,6] 5 1 wN
def Ru:Jz "lots" (top 9) ["things","reach"]:=λ_ _ _ _ _ _=>Ke λ_=>Ke λ_=>Km J
def Qx(a:AZ Z 9)(T:Tx Z.mg):Nu Z k:=by have S:Z2 ["things","reach","found","seen","thing","lot","other","0"] ["things","reach"] (jy<|top 9):=Ko;refine ltZ a S Ru λf y A d s H g u v Q t L E q scope c e B hv r O x w n b m=>?_;obtain⟨l,rfl⟩:=Vz.mp hv;have o:∀i,(⟨λ_=>False,Y<|oM v g 5 [l]⟩:LL).p i->i<2:=λ_ h=>h.elim;exact(s1 (sS b<|SR xL0)<|s1 (sS b<|RF T)<|s1 (sF (iS xW) (gN b)<|s1 (sI (Tb ⟨Ad⟩ xV xV) (s1 (sCl (j:=1) (z:=oM v g 5 [l]) m J r b)<|s1 (sE<|SU xV xW)<|s1 (sF (iS xW) (gN b)<|s1 (sE<|LN n xV xW) s0) s0) s0) s0)<|s1 (sRV o) s0)
abbrev IC(Z:ZZ)(k:Nat):Prop:=NX Z k "lots" (top 9) ["things","reach","found","seen","thing","lot","other","0","1"] ["things","reach"] [2,3,4,5,6] 5 2 wM
def Oy:Jz "lots" (top 9) ["things","reach"]:=λ_ _ _ _ _ _=>Ke λ_=>Ke λ_=>Km J
def adn(a:AZ Z 9)(T:Tx Z.mg):IC Z k:=by
 have S:Z2 ["things","reach","found","seen","thing","lot","other","0","1"] ["things","reach"] (jy<|top 9):=Ko;refine ltZ a S Oy λf E A l s H n y v o x Q O q scope d m N hv w L M B t c r=>?_;obtain⟨e,g,rfl⟩:∃e g,o=[e,g]:=by match o,hv with|[a,b],_=>exact⟨a,b,rfl⟩
 have u:∀i,(⟨λ_=>False,Y<|oM v n 5 [e,g]⟩:LL).p i->i<2:=λ_ h=>h.elim;exact(s1 (sS c<|SR xL0)<|s1 (sS c<|RF T)<|s1 (sF (iS xW) (gN c)<|s1 (sI (Tb ⟨Ad⟩ xV xV) (s1 (sCl (j:=1) (z:=oM v n 5 [e,g]) r J w c)<|s1 (sE<|SU xV xW)<|s1 (sF (iS xW) (gN c)<|s1 (sE<|LN t xV xW) s0) s0) s0) s0)<|s1 (sRV u) s0)
abbrev sd(Z:ZZ)(k:Nat):Prop:=M0 Z TB32 k "lots_of_signs" ["riddle"] my
def yw:Jz "lots_of_signs" (top 10) ["riddle"]:=λ_ _ _ _ _ _=>Ke λ_=>Km J
def yc(a:NU Z TB32 "lots_of_signs" (top 10) "lots_of_signs.<locals>.reach" 64)(T:Tx Z.mg)(r:Ow Z k 8 mP)(b:Ow Z k 1 mG)(e:Nu Z k)(d:Ow Z k 4 mI):sd Z (k+3):=by have S:Z2 ["riddle","turnings","reach"] ["riddle"] (jy<|top 10):=Ko;have t:=r.up (j:=k+2) (by omega);have h:=b.up (j:=k+2) (by omega);have c:=d.up (j:=k+2) (by omega);refine ozQ (asg:=[1,2]) (fs:=qV) a S yw λf u A l s H E L p g q o m n i tb=>?_;exact(s1 (sS i<|xU g t<|xA xV Jv)<|Tr<|WG (N':=["turnings"]) (xp:="sign") (asgR:=[]) e Ko tb g i (cOk S) (by decide+kernel) (xU g c<|xA (xO<|Mv xV<|xO x3) Jv) (λ_ _ _ _ _ _ _ L p g=>have q:=Kn 60 g;have o:=Kn 1 g;have m:=Kn 62 g;have n:=Kn 90 g;(s1 (sR<|xT T J ⟨tY⟩<|xA (xO<|xB T J ⟨rQ J m⟩<|xA (xO<|by exact Wi (iS xW) λ_ _ _ _ _ _ i=>⟨gN i,f0,xU g b<|xA xV<|xA xV Jv⟩) Jv) Jv) s0)) J<|Xn<|by decide+kernel)
abbrev qg(Z:ZZ)(k:Nat):Prop:=M0 Z TB32 k "lots_of_clauses" ["riddle"] lU
def vZ:Jz "lots_of_clauses" (top 11) ["riddle"]:=λ_ _ _ _ _ _=>Ke λ_=>Km J
def vP(a:NU Z TB32 "lots_of_clauses" (top 11) "lots_of_clauses.<locals>.reach" 71)(T:Tx Z.mg)(p:Ow Z k 8 mP)(b:Ow Z k 2 mf)(c:IC Z k):qg Z (k+3):=by have S:Z2 ["riddle","clauses","turnings","reach"] ["riddle"] (jy<|top 11):=Ko;have q:=p.up (j:=k+2) (by omega);have d:=b.up (j:=k+2) (by omega);refine ozQ (asg:=[1,2,3]) (fs:=pP) a S vZ λf r A h s H E L o e l n i m g tb=>?_;exact(s1 (sS g<|Mv xV<|xO x3)<|s1 (sS g<|xU e q<|xA xV Jv)<|Tr<|Tr<|WG (N':=["turnings","clauses"]) (xp:="at") (asgR:=[]) c Ko tb e g (cOk S) (by decide+kernel) (Yk T J<|xA (xO<|xB T J ⟨Ca⟩<|xA xV Jv) Jv) (λ_ _ _ _ _ _ _ L o e=>have l:=Kn 60 e;have n:=Kn 1 e;have i:=Kn 62 e;have m:=Kn 90 e;(s1 (sR<|xT T J ⟨tY⟩<|xA (xO<|xB T J ⟨rQ J i⟩<|xA (xO<|by exact Wi (iS xW) λ_ _ _ _ _ _ g=>⟨gN g,f0,Yh l xV<|xU e b<|xA (xO<|Mv xV xV)<|xA xV Jv⟩) Jv) Jv) s0)) J<|Xn<|by decide+kernel)
def aak(a:AZ Z 13)(T:Tx Z.mg):Ow Z (k+1) 13 mz:=Hl a T
def aaH(a:AZ Z 14)(T:Tx Z.mg)(b:Ow Z k 13 mz):Ow Z (k+1) 14 nr:=Hl a T
def aaR(a:AZ Z 15)(T:Tx Z.mg):Ow Z (k+1) 15 kx:=Hl a T
def aac(a:AZ Z 16)(T:Tx Z.mg)(b:Ow Z k 15 kx):Ow Z (k+1) 16 nF:=Hl a T
def aaj(a:AZ Z 17)(T:Tx Z.mg)(b:Ow Z k 15 kx):Ow Z (k+1) 17 mX:=Hl a T
def yQ(a:AZ Z 18)(T:Tx Z.mg):Ow Z (k+1) 18 kY:=Hl a T
def wF(a:AZ Z 19)(T:Tx Z.mg)(b:Ow Z k 18 kY):Ow Z (k+1) 19 kr:=Hl a T
def aab(a:AZ Z 21)(T:Tx Z.mg)(b:Ow Z k 19 kr):Ow Z (k+1) 21 oG:=Hl a T
def aaa(a:AZ Z 22)(T:Tx Z.mg)(e:Ow Z k 15 kx)(c:Ow Z k 16 nF)(b:Ow Z k 17 mX)(d:Ow Z k 21 oG):Ow Z (k+1) 22 oF:=Hl a T
def uH(a:AZ Z 23)(T:Tx Z.mg):Ow Z (k+1) 23 mv:=Hl a T
def aaI(a:AZ Z 24)(T:Tx Z.mg)(b:Ow Z k 19 kr):Ow Z (k+1) 24 pj:=Hl a T
def wD(a:AZ Z 25)(T:Tx Z.mg)(d:Z.mg "dict"=U)(b:Ow Z k 23 mv)(c:Ow Z k 24 pj):Ow Z (k+1) 25 mR:=Hl a T
def aaW:Jz "_law_same" (top 26) ["_law_found","_law_due_here"]:=λ_ _ _ _ _ _=>Ke λ_=>Ke λ_=>Km J
def aaG{c:A5}(a:AZ Z 26)(T:Tx Z.mg)(b:Ow Z k 26 c):Ow Z (k+1) 26 (Ae 2 2 []<|nU c):=Hl a T
theorem yB(a:AZ Z 26)(T:Tx Z.mg):∀m,Ow Z m 26<|lK m
 |0=>oz0 a aaW
 |m+1=>aaG a T<|yB a T m
def abf(a:AZ Z 27)(T:Tx Z.mg):Ow Z (k+1) 27 mY:=Hl a T
def Vh:Jz "law" (top 28) ["_law_script"]:=λ_ _ _ _ _ _=>Ke λ_=>Km J
def Uy{f:jh}{l:nu}(F:JP Z.K "law" "law" (top 28) f l)(T:Tx Z.mg)(m:Z.mg "dict"=U)(h:Ow Z k 14 nr)(g:Ow Z k 22 oF)(c:Ow Z k 25 mR)(e:Ow Z k 18 kY)(b:Ow Z k 19 kr)(d:sd Z k)(a:qg Z k)(j:Ow Z k 27 mY)(i:Ow Z k 26 (lK RD)):DF Z.P Z.w Z.K Z.mg Z.base El (k+1) f l ["_law_script"] (spT TB32<|Hj Z.K uW):=by have S:Z2 ["_law_script","_law_k","_law_state_here","_law_riddle_here","_law_likes","_law_signs","_law_rows","_law_numbers","_law_lines","_law_turn","_law_one","_law_other"] ["_law_script"] (jy<|top 28):=Ko;refine fnU (asg:=[1,2,3,4,5,6,7,8,9,10,11]) (fs:=Av) F S λ_ _ _ _ _ _ _ _ _ _ _ _ _ _ _ _=>?_;exact qS
end
def all_mk{l:PySem.W.OpenLaw}{w:jG}{K:jJ}{a:ml}{fa:jh}(aA:a "law"=SI (.ref fa))(T:Tx a)
  (a0:Fz K a "led_sign" (top 1))
  (a1:Fz K a "led_clause" (top 2))
  (a2:Fz K a "all_signs" (top 4))
  (a3:Fz K a "longer_by_one" (top 5))
  (a4:Fz K a "leading_among" (top 6))
  (a5:Fz K a "all_leading" (top 7))
  (a6:Fz K a "likenesses" (top 8))
  (a7:Fz K a "lots" (top 9))
  (a8:Fz K a "lots" (top 9))
  (a9:M3 K a "lots_of_signs" (top 10) 64)
  (d:M3 K a "lots_of_clauses" (top 11) 71)
  (x:Fz K a "_law_cell_at" (top 13))
  (y:Fz K a "_law_state" (top 14))
  (A:Fz K a "_law_take" (top 15))
  (B:Fz K a "_law_clause" (top 16))
  (C:Fz K a "_law_turning" (top 17))
  (E:Fz K a "_law_led_sign" (top 18))
  (H:Fz K a "_law_led_clause" (top 19))
  (I:Fz K a "_law_closed" (top 21))
  (L:Fz K a "_law_riddle" (top 22))
  (O:Fz K a "_law_all_turnings" (top 23))
  (Q:Fz K a "_law_leads" (top 24))
  (G:Fz K a "_law_likenesses" (top 25))
  (J:Fz K a "_law_same" (top 26))
  (M:Fz K a "_law_due" (top 27))
  (N:Fz K a "law" (top 28))
  (t5:a "dict"=SS)
  :∃e:nu,(∀(s:jk)(v:jr),fZ s e ⟨[v],[]⟩ [("_law_script",v)])/\(∀p∈TB32,∃c,PySem.W.codeHdIn K c p.1=Td)/\∀base:jH,K.In base->base.Ns ag a->(∀p∈TB32,base.BuiltinsAt a p.1)->DF l.prog w K a base El 9 fa e ["_law_script"] (spT TB32<|Hj K uW):=by
 obtain⟨e,F,hb⟩:=fzL N aA Vh;refine⟨e,hb,aC a9.cd<|aC d.cd<|aN,λbase KB _ D=>?_⟩
 let z:ZZ:=⟨l.prog,w,K,a,base⟩
 have P:=aaQ (Z:=z) (k:=0) a0 T;have R:=aai (Z:=z) (k:=1) a1 T P.up;have S:=aaJ (Z:=z) (k:=0) a2 T;have X:=yd (Z:=z) (k:=1) a3 T S.up;have O4:=ye (Z:=z) (k:=2) a4 T X.up R.up;have O5:=aal (Z:=z) (k:=3) a5 T O4.up;have V:=aah (Z:=z) (k:=4) a6 T O5.up;have O7:=Qx (Z:=z) (k:=5) a7 T;have O8:=adn (Z:=z) (k:=5) a8 T;have O9:=yc (Z:=z) (k:=5) (a9.tb KB D<|by decide) T V.up P.up O7 S.up;have f:=vP (Z:=z) (k:=5) (d.tb KB D<|by decide) T V.up R.up O8;have g:=aak (Z:=z) (k:=0) x T;have h:=aaH (Z:=z) (k:=1) y T g.up;have Y:=aaR (Z:=z) (k:=0) A T;have i:=aac (Z:=z) (k:=1) B T Y.up;have j:=aaj (Z:=z) (k:=1) C T Y.up;have b:=yQ (Z:=z) (k:=0) E T;have U:=wF (Z:=z) (k:=1) H T b.up;have m:=aab (Z:=z) (k:=2) I T U.up;have n:=aaa (Z:=z) (k:=3) L T Y.up i.up j.up m.up;have o:=uH (Z:=z) (k:=0) O T;have q:=aaI (Z:=z) (k:=2) Q T U.up;have r:=wD (Z:=z) (k:=3) G T t5 o.up q.up;have t:=yB (Z:=z) J T RD;have u:=abf (Z:=z) (k:=0) M T;exact Uy (Z:=z) (k:=8) F T t5 h.up n.up r.up b.up U.up O9.up f.up u.up t.up
end K32
namespace PV
def nB(a:jn)(c:Int):List Int:=if c∈a then a else a++[c]
theorem xb:∀(b a:jn)(x:Int),x∈b.foldl nB a↔x∈a\/x∈b
 |[],a,x=>by simp
 |c::b,a,x=>by
  rw[rW,xb b];unfold nB;by_cases h:c∈a
  .rw[jz h];constructor
   .rintro(z|z)
    .exact .inl z
    exact .inr (kn _ z)
   rintro(z|z)
   .exact .inl z
   rcases nQ.mp z with z|z
   .exact .inl (z▸h)
   exact .inr z
  rw[jP h];simp[or_assoc]
theorem DM:∀(f d:jn),d.Nodup->(f.foldl nB d).Nodup
 |[],d,h=>h
 |c::f,d,h=>by
  rw[rW];refine DM f _ ?_;unfold nB;by_cases q:c∈d
  .rw[jz q];exact h
  rw[jP q];exact xg.mpr ⟨h,by simp,λa g b i e=>q<|by rw[DR.mp i]at e;exact e▸g⟩
def nI(R:Int->List Int)(p:List (List Int)×List Int)(x:Int):List (List Int)×List Int:=if x∈p.2 then p else(p.1++[R x],(R x).foldl nB p.2)
structure Et(R:Int->List Int)(l7:jn):Prop where
 asc:l7.Pairwise (· < ·)
 self:∀x∈l7,x∈R x
 cls:∀x∈l7,∀y∈R x,y∈l7/\R y=R x
def kO(R:Int->List Int)(x:Int):Bool:=(R x).all λy=>decide<|x<=y
theorem Ij{R:Int->List Int}{g:jn}(L:Et R g):∀(a pre:jn)(p:List (List Int)×List Int),g=pre++a->p.1=(pre.filter<|kO R).map R->(∀z,z∈p.2↔ ∃y∈pre,z∈R y)->
  (a.foldl (nI R) p).1=(g.filter<|kO R).map R
 |[],pre,p,e,h1,_=>by rw[e,sX];exact h1
 |x::a,pre,p,e,h1,i=>by
  have n:x∈g:=by rw[e];simp
  have o:∀y∈pre,y∈g/\y<x:=λy c=>⟨by rw[e];simp[c],by have:=L.asc;rw[e]at this;exact(sv.mp this).2.2 y c x la⟩
  have lt:∀y∈g,y<x->y∈pre:=λy c m=>by
   rw[e]at c;rcases qm.mp c with z|z
   .exact z
   rcases nQ.mp z with z|z
   .omega
   have:=L.asc;rw[e]at this;have:=(AQ.mp (sv.mp this).2.1).1 y z;omega
  rw[rW];refine Ij L a (pre++[x]) _ (by rw[e];simp) ?_ λz=>?_
  .rw[Fj,nM,<-h1];unfold nI;by_cases d:x∈p.2
   .rw[jz d];obtain⟨y,c,k⟩:=(i x).mp d;obtain⟨j,t⟩:=o y c;have l:=(L.cls y j x k).2
    have:kO R x=I:=by unfold kO;refine lw.mpr λh=>?_;have:=mZ.mp h y (by rw[l];exact L.self y j);have:=uL this;omega
    simp[v9,this]
   rw[jP d]
   have:kO R x=C:=mZ.mpr λy c=>nW (by obtain⟨r,s⟩:=L.cls x n y c;refine Int.not_lt.mp λm=>d<|(i x).mpr ⟨y,lt y r m,?_⟩;rw[s];exact L.self x n)
   simp[v9,this]
  unfold nI;by_cases d:x∈p.2
  .rw[jz d,i];obtain⟨y,c,k⟩:=(i x).mp d;have l:=(L.cls y (o y c).1 x k).2;constructor
   .rintro⟨w,f,b⟩;exact⟨w,by simp[f],b⟩
   rintro⟨w,f,b⟩;rcases qm.mp f with q|q
   .exact⟨w,q,b⟩
   rw[DR.mp q,l]at b;exact⟨y,c,b⟩
  rw[jP d];show z∈(R x).foldl nB p.2↔_;rw[xb,i];constructor
  .rintro(⟨w,f,b⟩|b)
   .exact⟨w,by simp[f],b⟩
   exact⟨x,by simp,b⟩
  rintro⟨w,f,b⟩;rcases qm.mp f with q|q
  .exact .inl ⟨w,q,b⟩
  rw[DR.mp q]at b;exact .inr b
def aaZ{R:Int->List Int}{a:jn}(L:Et R a):(a.foldl (nI R) ([],[])).1=(a.filter<|kO R).map R:=Ij L a [] _ rfl rfl (by simp)
def Nh{R:Int->List Int}{a:jn}(L:Et R a){x:Int}(f:x∈a)(e:∃m∈R x,∀y∈R x,m<=y):R x∈(a.filter<|kO R).map R:=by obtain⟨m,h1,c⟩:=e;obtain⟨d,b⟩:=L.cls x f m h1;refine rZ.mpr ⟨m,yL.mpr ⟨d,mZ.mpr λy g=>nW<|c y<|b▸g⟩,b⟩
def Ey{R:Int->List Int}{d:jn}(L:Et R d){x:Int}(e:x∈d)(c:(R x).Pairwise (· < ·))(h:kO R x=C):∃r,R x=x::r:=by
 have h1:=L.self x e
 cases b:R x with
 |nil=>rw[b]at h1;cases h1
 |cons a r=>
  have f:x<=a:=uL<|mZ.mp h a (by rw[b];exact la);rw[b]at h1 c;rcases nQ.mp h1 with z|z
  .rw[z];exact⟨r,rfl⟩
  have:=(AQ.mp c).1 x z;omega
def Ex{R:Int->List Int}{c:jn}(L:Et R c)(d:∀x∈c,(R x).Pairwise (· < ·)):((c.filter<|kO R).map R).Pairwise λa b=>∃x r y t,a=x::r/\b=y::t/\x<y:=by rw[pd];refine(wn _ L.asc).imp_of_mem λ{x y} j k i=>?_;obtain⟨e,x2⟩:=yL.mp j;obtain⟨f,l⟩:=yL.mp k;obtain⟨r,g⟩:=Ey L e (d x e) x2;obtain⟨t,h⟩:=Ey L f (d y f) l;exact⟨x,r,y,t,g,h,i⟩
open L2 PX
@[simp] theorem Z0(d:D)(a:Dn):fC d a=Y ((d,I),a):=rfl
@[simp] theorem Y1(f:F)(a:Dn):jB f a=(f a).bind λp=>Y (.val p.1,p.2):=rfl
@[simp] theorem X5(x:D×Bool)(a:Dn):jm 0 (Y x::a)=Y (.slot 0,Y x::a):=rfl
@[simp] theorem X4(a:Sl)(x:D×Bool)(b:Dn):jm 1 (a::Y x::b)=Y (.slot 1,a::Y x::b):=rfl
@[simp] theorem X3(a b:Sl)(x:D×Bool)(c:Dn):jm 2 (a::b::Y x::c)=Y (.slot 2,a::b::Y x::c):=rfl
@[simp] theorem X2(a b c:Sl)(x:D×Bool)(d:Dn):jm 3 (a::b::c::Y x::d)=Y (.slot 3,a::b::c::Y x::d):=rfl
@[simp] theorem X1(a b c d:Sl)(x:D×Bool)(e:Dn):jm 4 (a::b::c::d::Y x::e)=Y (.slot 4,a::b::c::d::Y x::e):=rfl
@[simp] theorem XZ(a b c d e:Sl)(x:D×Bool)(f:Dn):jm 5 (a::b::c::d::e::Y x::f)=Y (.slot 5,a::b::c::d::e::Y x::f):=rfl
@[simp] theorem XY(a b c d e f:Sl)(x:D×Bool)(g:Dn):jm 6 (a::b::c::d::e::f::Y x::g)=Y (.slot 6,a::b::c::d::e::f::Y x::g):=rfl
@[simp] theorem XX(a b c d e f g:Sl)(x:D×Bool)(h:Dn):jm 7 (a::b::c::d::e::f::g::Y x::h)=Y (.slot 7,a::b::c::d::e::f::g::Y x::h):=rfl
@[simp] theorem XW(a b c d e f g h:Sl)(x:D×Bool)(i:Dn):jm 8 (a::b::c::d::e::f::g::h::Y x::i)=Y (.slot 8,a::b::c::d::e::f::g::h::Y x::i):=rfl
@[simp] theorem GP(δ:Dn)(r:D×Bool):res δ (.val r)=Y r.1:=rfl
@[simp] theorem Y0(x:D×Bool)(a:Dn):res (Y x::a) (.slot 0)=Y x.1:=rfl
@[simp] theorem YZ(a:Sl)(x:D×Bool)(b:Dn):res (a::Y x::b) (.slot 1)=Y x.1:=rfl
@[simp] theorem YY(a b:Sl)(x:D×Bool)(c:Dn):res (a::b::Y x::c) (.slot 2)=Y x.1:=rfl
@[simp] theorem YX(a b c:Sl)(x:D×Bool)(d:Dn):res (a::b::c::Y x::d) (.slot 3)=Y x.1:=rfl
@[simp] theorem YW(a b c d:Sl)(x:D×Bool)(e:Dn):res (a::b::c::d::Y x::e) (.slot 4)=Y x.1:=rfl
@[simp] theorem YV(a b c d e:Sl)(x:D×Bool)(f:Dn):res (a::b::c::d::e::Y x::f) (.slot 5)=Y x.1:=rfl
@[simp] theorem YU(a b c d e f:Sl)(x:D×Bool)(g:Dn):res (a::b::c::d::e::f::Y x::g) (.slot 6)=Y x.1:=rfl
@[simp] theorem YT(a b c d e f g:Sl)(x:D×Bool)(h:Dn):res (a::b::c::d::e::f::g::Y x::h) (.slot 7)=Y x.1:=rfl
@[simp] theorem YS(a b c d e f g h:Sl)(x:D×Bool)(i:Dn):res (a::b::c::d::e::f::g::h::Y x::i) (.slot 8)=Y x.1:=rfl
@[simp] theorem TH(g:D->Option (D×Bool))(a:FO)(b:Dn):ph g a b=(a b).bind λp=>(res p.2 p.1).bind λx=>(g x).bind λz=>Y (z,p.2):=rfl
@[simp] theorem Za(g:D->D->Option (D×Bool))(a b:FO)(c:Dn):jW g a b c=(a c).bind λp=>(b p.2).bind λq=>(res q.2 p.1).bind λx=>(res q.2 q.1).bind λy=>(g x y).bind λz=>Y (z,q.2):=rfl
@[simp] theorem WK(a:Dn):lq [] a=Y ([],a):=rfl
@[simp] theorem X9(f:FO)(fs:List FO)(a:Dn):lq (f::fs) a=(f a).bind λp=>(lq fs p.2).bind λq=>Y (p.1::q.1,q.2):=rfl
@[simp] theorem PC(a:Dn):vL a []=Y []:=rfl
@[simp] theorem Tz(a:Dn)(o:AY)(os:List AY):vL a (o::os)=(res a o).bind λd=>(vL a os).bind λl=>Y (d::l):=rfl
@[simp] theorem X8(g:List D->Option (D×Bool))(fs:List FO)(a:Dn):jT g fs a=(lq fs a).bind λp=>(vL p.2 p.1).bind λb=>(g b).bind λz=>Y (z,p.2):=rfl
@[simp] theorem XT:rF []=Y []:=rfl
@[simp] theorem YJ(r:D×Bool)(os:List AY):rF (.val r::os)=(rF os).map (r.1:: ·):=rfl
@[simp] theorem Y8(fs:List F)(b:Dn):tQ fs b=(lq (fs.map jB) b).bind λp=>(rF p.1).bind λa=>if (TD a)<=sizeLine then Y ((.tup a,I),p.2)else U:=rfl
@[simp] theorem Zc(fs:List F)(b:Dn):tR fs b=(lq (fs.map jB) b).bind λp=>(rF p.1).bind λa=>if (TD a)<=sizeLine then Y ((.lst a,C),p.2)else U:=rfl
@[simp] theorem ZS(b o:Bool)(a:Dn):Kt ((.bl b,o),a)=Y (b,a):=rfl
@[simp] theorem ZY(f:F)(a:Dn):fT f a=(f a).bind Kt:=rfl
@[simp] theorem Ya(f g:FT)(a:Dn):yF f g a=(f a).bind λp=>if p.1=C then g p.2 else Y (I,p.2):=rfl
@[simp] theorem Y9(f g:FT)(a:Dn):He f g a=(f a).bind λp=>if p.1=C then Y (C,p.2)else g p.2:=rfl
@[simp] theorem X7(f:FT)(a:Dn):yE f a=(f a).bind λp=>Y (!p.1,p.2):=rfl
@[simp] theorem TJ(f g:F)(a:Dn):N6 f g a=(f a).bind λp=>(Kt p).bind λq=>if q.1=C then g q.2 else Y ((.bl I,I),q.2):=rfl
@[simp] theorem Zb(f:F)(a:Dn):Zy f a=(f a).bind λp=>(Kt p).bind λq=>Y ((.bl (!q.1),I),q.2):=rfl
@[simp] theorem ZQ(t:FT)(f g:F)(a:Dn):MF t f g a=(t a).bind λp=>if p.1=C then f p.2 else g p.2:=rfl
@[simp] theorem YQ(a:Dn):ki a=Y (.nx a):=rfl
noncomputable def nxt(g:FS):Out->Option Out
 |.nx a=>g a
 |o=>Y o
@[simp] theorem Y3(g:FS)(a:Dn):nxt g (.nx a)=g a:=rfl
@[simp] theorem Y2(g:FS)(r:D×Bool)(a:Dn):nxt g (.rt r a)=Y (.rt r a):=rfl
@[simp] theorem YN(f g:FS)(a:Dn):jA f g a=(f a).bind (nxt g):=by
 unfold jA
 cases f a with
 |none=>rfl
 |some o=>cases o<;>rfl
@[simp] theorem XU(f:F)(a:Dn):oP f a=(f a).bind λp=>Y (.nx p.2):=rfl
@[simp] theorem YO(f:F)(a:Dn):nV f a=(f a).bind λp=>Y (.rt p.1 p.2):=rfl
@[simp] theorem ZK(t:FT)(f g:FS)(a:Dn):G4 t f g a=(t a).bind λp=>if p.1=C then f p.2 else g p.2:=rfl
@[simp] theorem YM(i:Nat)(f:F)(a:Dn):lE i f a=(f a).bind λp=>if i<(TD p.2)then Y (.nx<|p.2.set i<|Y p.1)else U:=rfl
@[simp] theorem YL(b:Tg)(f:F)(c:Dn):Tp b f c=(f c).bind λp=>(b p.1.1 p.2).bind λa=>Y (.nx a):=rfl
@[simp] theorem ZX(g:D->Option (D×Bool))(d:D):g1 g [d]=g d:=rfl
@[simp] theorem ZW(g:D->D->Option (D×Bool))(d e:D):g2 g [d,e]=g d e:=rfl
@[simp] theorem WM(i j:Int):oD (.int i) (.int j)=Y (.int<|i+j,I):=rfl
@[simp] theorem ZJ(i j:Int):PX.GS (.int i) (.int j)=Y (.int<|i-j,I):=rfl
@[simp] theorem WI(i:Int):Ap (.int i)=Y (.int (-i),I):=rfl
@[simp] theorem ZT(i:Int):EM (.int i)=Y (.int (if i<0 then -i else i),I):=rfl
@[simp] theorem Mn(l:List D):Ar (.tup l)=Y (.int<|TD l,I):=rfl
@[simp] theorem TC(l:List D):Ar (.lst l)=Y (.int<|TD l,I):=rfl
@[simp] theorem Mm(l:List D):oS (.lst l)=Y (.tup l,I):=rfl
@[simp] theorem YK(l:List D):oS (.tup l)=Y (.tup l,I):=rfl
@[simp] theorem Y4(l:List D):IM (.tup l)=Y (.lst l,C):=rfl
@[simp] theorem Y5(l:List D):IM (.lst l)=Y (.lst l,C):=rfl
@[simp] theorem Y7(b:Bool):Q3 (.bl b)=Y (.int (if b then 1 else 0),I):=rfl
@[simp] theorem Y6(b:Int):Q3 (.int b)=Y (.int b,I):=rfl
@[simp] theorem ZO(i j:Int):NT (.int i) (.int j)=Y (.int (if j>i then j else i),I):=rfl
@[simp] theorem ZN(i j:Int):IL (.int i) (.int j)=Y (.int (if j<i then j else i),I):=rfl
@[simp] theorem ZP(a:List Ty)(d:D):yS a d=Y (.bl<|a.any<|Jo d,I):=rfl
@[simp] theorem RQ(i j:Int):J5 (.int i) (.int j)=Y (.bl<|i==j,I):=by unfold J5;rw[jz<|by simp[D.dep]];simp[D.Z1]
@[simp] theorem ZL(i j:Int):Ki (.int i) (.int j)=Y (.bl (!(i==j)),I):=by unfold Ki;rw[jz<|by simp[D.dep]];simp[D.Z1]
@[simp] theorem ZR(i j:Bool):J5 (.bl i) (.bl j)=Y (.bl<|i==j,I):=by unfold J5;rw[jz<|by simp[D.dep]];simp[D.Z1]
@[simp] theorem ZM(i j:Bool):Ki (.bl i) (.bl j)=Y (.bl (!(i==j)),I):=by unfold Ki;rw[jz<|by simp[D.dep]];simp[D.Z1]
@[simp] theorem WJ(i j:Int):ym .Lt (.int i) (.int j)=Y (.bl<|decide<|i<j,I):=by kernel_rfl
@[simp] theorem ZU(i j:Int):ym .LtE (.int i) (.int j)=Y (.bl<|decide<|i<=j,I):=by kernel_rfl
@[simp] theorem TF(i j:Int):ym .Gt (.int i) (.int j)=Y (.bl<|decide<|i>j,I):=by kernel_rfl
@[simp] theorem ZV(i j:Int):ym .GtE (.int i) (.int j)=Y (.bl<|decide<|i>=j,I):=by kernel_rfl
@[simp] theorem HX(f:F)(δ:Dn):lO f δ=(f δ).bind λp=>match p.1.1 with|.lst l=>Y (l,p.2)|.tup l=>Y (l,p.2)|_=>U:=rfl
@[simp] theorem YR(b:DK)(c:Tg)(a:FS)(d:Dn):oA b c a d=(b d).bind λp=>mW c a p.1 p.2:=rfl
@[simp] theorem yW(a:Dn):kP a=Y (C,a):=rfl
@[simp] theorem yX(f:F)(a:List D)(b:Dn):lb f a b=(f b).bind λp=>if (TD a)<sizeLine then Y (a++[p.1.1],p.2)else U:=rfl
def uj(h:n<=10000):n<=sizeLine:=by rw[kT];lia
def rG(h:n<=10000):n<sizeLine:=by rw[kT];lia
noncomputable abbrev enc(t:jn):D×Bool:=(.tup<|t.map .int,I)
noncomputable abbrev ii(n:Int):Sl:=Y (.int n,I)
abbrev eN(t:jn):Sl:=Y<|enc t
noncomputable abbrev pI(n:Int):D×Bool:=(.int n,I)
noncomputable abbrev pS(a:Int)(b:Bool):D×Bool:=(.lst [.int a,.bl b],C)
def JS(i:Nat):([i]:List Nat).Nodup:=by simp
noncomputable abbrev Z6(a:Int)(b:Bool):Sl:=Y (.lst [.int a,.bl b],C)
noncomputable abbrev Af(l:jn):Sl:=Y (.lst<|l.map .int,C)
@[simp] theorem X6(b:A5)(fs:List FO)(c:Dn):kc b fs c=(lq fs c).bind λp=>(kM p.2 p.1).bind λa=>if(kh p.1 a).Nodup then(b a).bind λq=>Y (q.1,wb p.1 a q.2 p.2)else U:=rfl
@[simp] theorem xY(δ:Dn):kM δ []=Y []:=rfl
@[simp] theorem WL(b:Dn)(o:AY)(os:List AY):kM b (o::os)=(yK b o).bind λa=>(kM b os).bind λl=>Y (a::l):=rfl
@[simp] theorem Zd(a:Dn)(r:D×Bool):yK a (.val r)=Y (r.1,I):=rfl
@[simp] theorem Ze(a:Dn)(i:Nat):yK a (.slot i)=(a[i]?).join:=rfl
def xS(a:Int)(b:Bool)(m:Int)(c:0<m)(d:m<1073741824):
  ∃v e,0<=v/\v<m/\kx [pS a b,pI m]=Y ((.int v,I),[Y (.lst [.int e,.bl b],C),ii m]):=by
 cases b
 .have h1:∀x:Int, -18446744073709551616<x%2147483647/\x%2147483647<18446744073709551616:=λx=>by lia
  have f:∀x:Int, -18446744073709551616<x%2147483629/\x%2147483629<18446744073709551616:=λx=>by lia
  simp only[kx,tM];simp[Ae,Aw,JD,J3,Aq,gI,NV,sj,NS,zR,rH,kR,kh,wb,Ky,DQ,DJ,c,d,h1,f];exact⟨FC _ (by lia),FD _ c⟩
 simp only[kx,tM];simp[Ae,Aw,JD,J3,Aq,gI,NV,sj,NS,zR,rH,kR,kh,wb,Ky,DQ,DJ,c,d];exact⟨FC _ (by lia),FD _ c⟩
theorem DI(x y:Int):(x==y)=decide (x=y):=rfl
def ku{g:List D->Option (D×Bool)}{fs:List FO}{δ a:Dn}{os:List AY}{ds:List D}{z:D×Bool}(h1:lq fs δ=Y (os,a))(b:vL a os=Y ds)(c:g ds=Y z):jT g fs δ=Y (z,a):=by unfold jT;rw[h1];simp;rw[b];simp;rw[c];rfl
def mB(h1:(TD args)=np/\np<=n/\(args.zipIdx.all λp=>!(p.1.2&&asg.contains p.2))=C)(a:f (args.map Y++af (n-np) U)=Y (.rt r δ)):Ae n np asg f args=Y (r,kR args δ):=by unfold Ae;rw[jz h1,a]
def jq(h:f δ=Y (.nx δ1)):jA f g δ=g δ1:=by unfold jA;rw[h];rfl
def lz{r}(h:f δ=Y (.rt r δ1)):jA f g δ=Y (.rt r δ1):=by unfold jA;rw[h];rfl
def oi{r}(h:f δ=Y (r,δ1)):nV f δ=Y (.rt r δ1):=by unfold nV;rw[h];rfl
def kH{r}(h:f δ=Y (r,δ1))(a:i<TD δ1):lE i f δ=Y (.nx<|δ1.set i<|Y r):=by unfold lE;rw[h];simp only[kQ];rw[jz a]
def ny(h:f δ=Y ((.bl b,o),δ1)):fT f δ=Y (b,δ1):=by unfold fT;rw[h];rfl
def jQ{r}(h:f δ=Y (r,δ1)):jB f δ=Y (.val r,δ1):=by unfold jB;rw[h];rfl
def lB(h1:a δ=Y (o1,δ1))(c:b δ1=Y (o2,δ2))(d:res δ2 o1=Y x)(e:res δ2 o2=Y y)(f:g x y=Y z):jW g a b δ=Y (z,δ2):=by unfold jW;rw[h1];simp;rw[c];simp;rw[d,e];simp;rw[f];rfl
def lJ{b:A5}{fs:List FO}{δ δ1:Dn}{os:List AY}{args:List (D×Bool)}{r:D×Bool}{a:Dn}(h1:lq fs δ=Y (os,δ1))(c:kM δ1 os=Y args)(d:(kh os args).Nodup)(e:b args=Y (r,a)):kc b fs δ=Y (r,wb os args a δ1):=by unfold kc;rw[h1];simp;rw[c];simp only[kQ];rw[jz d,e];rfl
def U0(h:f a=Y (I,δ1)):He f g a=g δ1:=by unfold He;rw[h];rfl
def EV(h:f a=Y (b,δ1)):yE f a=Y (!b,δ1):=by unfold yE;rw[h];rfl
def se(h:t δ=Y (I,δ1)):G4 t f g δ=g δ1:=by unfold G4;rw[h];rfl
def tu(h:t δ=Y (C,δ1)):G4 t f g δ=f δ1:=by unfold G4;rw[h];rfl
def oq{b fb:FO}{δ δ1 a:Dn}{o1 o2:AY}(h1:b δ=Y (o1,δ1))(c:fb δ1=Y (o2,a)):lq [b,fb] δ=Y ([o1,o2],a):=by simp;rw[h1];simp;rw[c];rfl
def oE{a:FO}{δ δ1:Dn}{o1:AY}(h1:a δ=Y (o1,δ1)):lq [a] δ=Y ([o1],δ1):=by simp;rw[h1];rfl
def mn(h:a δ=Y (ds,δ1)):oA a tg fb δ=mW tg fb ds δ1:=by unfold oA;rw[h];rfl
def AA{os}(h1:b δ=Y (d,δ1))(c:lq fs δ1=Y (os,a)):lq (b::fs) δ=Y (d::os,a):=by simp;rw[h1];simp;rw[c];rfl
def Rm(a:jn)(k:Nat):∃c,mz [(.lst<|a.map .int,I),pI k]=Y ((.int c,I),[Y (.lst<|a.map .int,I),ii k]):=by
 by_cases hk:k<TD a
 .refine⟨a[k],?_⟩;simp[mz,pQ,Ae,Aw,JD,J3,kR,hk]
 refine⟨0,?_⟩;simp[mz,pQ,Ae,kR,hk]
def RT:NS (.int 10) (.int 18)=ii 1000000000000000000:=by
 have:DQ 10 18:=by unfold DQ;decide+kernel
 show((if DQ 10 18 then Y (D.int (10^(18:Int).toNat))else U).map λz=>(z,I))=_;rw[jz this];rfl
def acN(d:jn)(k:Nat):∃a b,nr [(.lst<|d.map .int,I),pI k]=Y ((.lst [.int a,.bl b],C),[Y (.lst<|d.map .int,I),ii k]):=by
 obtain⟨c,e⟩:=Rm d k;by_cases h:c>=1000000000000000000
 .refine⟨c-1000000000000000000,C,?_⟩;simp[nr,rN,Ae,e,kh,wb,RT,h,kT,kR]
 refine⟨c%2147483647,I,?_⟩;simp[nr,rN,Ae,e,kh,wb,RT,h,kT,kR,Aq,gI]
noncomputable def st(n:Nat):List Int:=(am n).map λ(k:Nat)=>(1+(k:Int))
def Tf(n:Nat):(st n).map D.int=jU 1 n:=by simp[st,jU]
noncomputable def pM:Nat->List Int->List Int->List (List Int)
 |0,_,f=>[f]
 |k+1,r,f=>(am<|TD r).flatMap λv=>pM k (r.eraseIdx v) (f++[r.getD v 0*1])++pM k (r.eraseIdx v) (f++[r.getD v 0* -1])
theorem BR(f:Int->D):∀(l:jn)(k:Nat),(l.map f).eraseIdx k=(l.eraseIdx k).map f
 |[],k=>by simp
 |x::l,0=>by kernel_rfl
 |x::l,k+1=>by simp[BR f l k]
def acq{i:Nat}{f:FO}{a δ1:Dn}{o:AY}{n l:List D}{k:Int}{j:Nat}{d:D}(b:a[i]?=Y (Y (.lst n,C)))(h1:f a=Y (o,δ1))(c:res δ1 o=Y (.int k))(e:δ1[i]?=Y (Y (.lst l,C)))(g: -(2^63)<=k/\k<2^63)(h:J3 (TD l) k=Y j)(m:l[j]?=Y d):
  Az i f a=Y ((d,I),δ1.set i<|Y (.lst<|l.eraseIdx j,C)):=by
 unfold Az;rw[b];simp only[];rw[h1];simp only[kQ];rw[c,e];simp only[];rw[jz g,h];simp;rw[m];rfl
def nL{i:Nat}{f:F}{δ δ1:Dn}{r:D×Bool}{l0 l:List D}(a:δ[i]?=Y (Y (.lst l0,C)))(h1:f δ=Y (r,δ1))(b:δ1[i]?=Y (Y (.lst l,C)))(c:(TD l)<sizeLine):
  mH i f δ=Y ((.Z4,I),δ1.set i<|Y (.lst<|l++[r.1],C)):=by
 unfold mH;rw[a];simp;rw[h1];simp;rw[b];simp only[];rw[jz c]
def oO{r}(h:f δ=Y (r,δ1)):oP f δ=Y (.nx δ1):=by unfold oP;rw[h];rfl
abbrev XA:F:=V1
abbrev Xz:F:=Wd
abbrev fbT:FS:=jA (oP<|mH 3<|jW sj (jB XA)<|jB Xz) ki
def Ua(a:Int)(b:Bool)(n:Sl)(r f:jn)(x:Sl)(i:0<TD r)(l:(TD r)<=5):∃v c,v<TD r/\XA [Z6 a b,n,Af r,Af f,x]=Y ((.int<|r.getD v 0,I),[Z6 c b,n,Af<|r.eraseIdx v,Af f,x]):=by
 obtain⟨v,c,d,hv,e⟩:=xS a b (TD r) (by lia) (by lia);have g:v.toNat<(TD r):=by lia
 refine⟨v.toNat,c,g,?_⟩;have h:(Af (r.eraseIdx v.toNat):Sl)=Y (.lst<|(r.map D.int).eraseIdx v.toNat,C):=by rw[BR]
 rw[h];refine acq (k:=v) (δ1:=[Z6 c b,n,Af r,Af f,x]) J (jQ (r:=(.int v,I))<|lJ (δ1:=[Z6 a b,n,Af r,Af f,x]) (os:=[.slot 0,.val (.int<|TD r,I)]) (args:=[pS a b,pI<|TD r]) ?_ J (show([0]:List Nat).Nodup from by decide) e) J J ⟨by lia,by lia⟩ (j:=v.toNat) ?_ ?_
 .show Y ([AY.slot 0,AY.val (D.int ((r.map D.int).length:Nat),I)],_)=_;rw[kN]
 .unfold J3;rw[jz d,jz<|by simpa using hv]
 simp[g]
def Tn(a:Int)(b:Bool)(n y z x:Sl):∃s c,(s=1\/s= -1)/\Xz [Z6 a b,n,y,z,x]=Y ((.int s,I),[Z6 c b,n,y,z,x]):=by obtain⟨v,c,f,hv,e⟩:=xS a b 2 (by lia) (by lia);have d:∀δ:Dn,tR [fC<|.int 1,Pa] δ=Y ((.lst [.int 1,.int (-1)],C),δ):=λδ=>rfl;refine⟨if v=0 then 1 else -1,c,by split<;>simp,?_⟩;refine lB (δ1:=[Z6 a b,n,y,z,x]) (jQ<|d _) (jQ (δ1:=[Z6 c b,n,y,z,x])<|lJ (δ1:=[Z6 a b,n,y,z,x]) (os:=[.slot 0,.val (.int 2,I)]) (args:=[pS a b,pI 2]) J J (show([0]:List Nat).Nodup from by decide) e) J J ?_;rcases(show v=0\/v=1 by lia)with rfl|rfl<;>rfl
def US(a:Int)(b:Bool)(n:Sl)(r f:jn)(x:Sl)(j:0<TD r)(k:(TD r)<=5)(m:(TD f)<=5):∃v s c,v<TD r/\(s=1\/s= -1)/\fbT [Z6 a b,n,Af r,Af f,x]=Y (.nx [Z6 c b,n,Af<|r.eraseIdx v,Af<|f++[r.getD v 0*s],x]):=by
 obtain⟨v,a1,hv,e⟩:=Ua a b n r f x j k;obtain⟨s,d,q,g⟩:=Tn a1 b n (Af<|r.eraseIdx v) (Af f) x;refine⟨v,s,d,hv,q,?_⟩
 have p:sj (.int<|r.getD v 0) (.int s)=ii (r.getD v 0*s):=by have:DJ (r.getD v 0) s:=.inr (by lia);show((if DJ (r.getD v 0) s then Y (D.int<|r.getD v 0*s)else U).map λz=>(z,I))=_;rw[jz this];rfl
 have o:(f.map D.int).length<sizeLine:=by rw[kN];exact zm m (by decide)
 have h:=nL (i:=3) (δ:=[Z6 a b,n,Af r,Af f,x]) (l0:=f.map .int) J (lB (jQ e) (jQ g) J J p) (l:=f.map .int) J o;refine(jq<|oO h).trans ?_;simp
def Xq(b:Bool)(n:Sl):∀(c:List D)(a:Int)(r f:jn)(x:Sl),TD c=TD r->TD f+TD r<=5->
  ∃g t i j,t∈pM (TD c) r f/\mW (jo 4) fbT c [Z6 a b,n,Af r,Af f,x]=Y (.nx [Z6 g b,n,Af i,Af t,j]):=by
 intro p
 induction p with
 |nil=>intro a r f x _ _;exact⟨a,f,r,x,by simp[pM],rfl⟩
 |cons d c o=>
  intro a r f x h q;simp at h;obtain⟨v,s,a1,hv,m,e⟩:=US a b n r f (Y (d,I)) (by lia) (by lia) (by lia);obtain⟨g,t,i,j,k,l⟩:=o a1 (r.eraseIdx v) (f++[r.getD v 0*s]) (Y (d,I)) (by rw[Cm,jz hv];lia) (by rw[Cm,jz hv,ox];simp only[oH,zo];lia);refine⟨g,t,i,j,?_,?_⟩
  .simp only[oH,pM,yM,qm,sL];refine⟨v,hv,?_⟩;rcases m with rfl|rfl
   .exact .inl k
   exact .inr k
  unfold mW;rw[show jo 4 d [Z6 a b,n,Af r,Af f,x]=Y [Z6 a b,n,Af r,Af f,Y (d,I)]from J];simp only[kQ];rw[e];simp;exact l
def GN(n:Nat)(b:n<=5):GU .lst C [.int 1,.int<|(n:Int)+1]=Y (.lst<|(st n).map .int,C):=by
 have:n=0\/n=1\/n=2\/n=3\/n=4\/n=5:=by lia
 have h1:Dp 1 ((n:Int)+1):=by rcases this with rfl|rfl|rfl|rfl|rfl|rfl<;>decide+kernel
 have a:((n:Int)+1-1).toNat=n:=by lia
 show(if Dp 1 ((n:Int)+1)then Y (D.lst<|jU 1 ((n:Int)+1-1).toNat,C)else U)=_;rw[jz h1,a,<-Tf]
def qj{f:FO}{δ δ1:Dn}{o:AY}{n:Nat}(h1:f δ=Y (o,δ1))(a:res δ1 o=Y (.int n))(e:n<=63):wI f δ=Y (jU 0 n,δ1):=by
 have d:(-(2^62)<=(n:Int)/\(n:Int)<2^62):=⟨by lia,by lia⟩
 have b:lq [f] δ=Y ([o],δ1):=by simp[h1]
 have c:vL δ1 [o]=Y [.int n]:=by simp[a]
 unfold wI;rw[b];simp only[kQ];rw[c];simp only[];rw[jz d];rfl
def abh(a:Int)(b:Bool)(n:Nat)(f:n<=5):∃d t,t∈pM n (st n) []/\mX [pS a b,pI n]=Y (enc t,[Z6 d b,ii n]):=by
 have c:(jU 0 n).length=n:=by simp[jU]
 have h:(st n).length=n:=by simp[st]
 obtain⟨d,t,j,k,g,e⟩:=Xq b (ii n) (jU 0 n) a (st n) [] U (by rw[c,h]) (by rw[h];simpa using f);rw[c]at g;refine⟨d,t,g,?_⟩;refine mB (δ:=[Z6 d b,ii n,Af j,Af t,k]) ⟨rfl,by decide,rfl⟩ ?_;refine(jq (δ1:=[Z6 a b,ii n,Af<|st n,U,U])<|kH (i:=2) (δ1:=[Z6 a b,ii n,U,U,U]) (ku (os:=[.val (.int 1,I),.val (.int<|(n:Int)+1,I)]) J J<|GN n f) (show 2<5 by decide)).trans ?_;refine(jq (δ1:=[Z6 a b,ii n,Af<|st n,Af [],U]) J).trans ?_;refine(jq<|(mn<|qj (o:=.slot 1) J J<|by lia).trans e).trans ?_;exact lz<|oi<|ku (os:=[.slot 3]) J J J
def abW:∀(k:Nat)(r f t:jn),TD r=k->t∈pM k r f->TD t=TD f+k:=by
 intro c
 induction c with
 |zero=>intro r f t _ h;simp[pM]at h;subst h;simp
 |succ k b=>
  intro r f t d h;simp only[pM,yM,qm,sL]at h;obtain⟨v,hv,h⟩:=h;have a:(r.eraseIdx v).length=k:=by rw[Cm,jz hv];lia
  rcases h with h|h
  .have:=b _ _ t a h;simp at this;lia
  have:=b _ _ t a h;simp at this;lia
def acK{n:Nat}{t:jn}(h:t∈pM n (st n) []):(TD t)=n:=by have:=abW n (st n) [] t (by simp[st]) h;simpa using this
def wU:∀t:List Int,D.A6 (t.map .int)=0:=by
 intro b
 induction b with
 |nil=>simp[D.A6]
 |cons s t a=>simp[D.A6,D.dep,a]
theorem AB:∀a b:List Int,D.Bh (a.map .int) (b.map .int)=decide (a=b)
 |[],[]=>by kernel_rfl
 |[],_::_=>by kernel_rfl
 |_::_,[]=>by kernel_rfl
 |x::a,y::b=>by simp[D.Bh,D.Z1,AB a b,DI]
@[simp] theorem BM(a b:jn):J5 (.lst<|a.map .int) (.lst<|b.map .int)=Y (.bl<|decide<|a=b,I):=by unfold J5;rw[jz<|by simp[D.dep,wU]];simp[D.Z1,AB]
def Di:∀(l m:jn),l.Nodup->(∀x∈l,x∈m)->TD m<=TD l->l.Perm m:=by
 intro k
 induction k with
 |nil=>intro m _ _ h;have:m=[]:=OW.mp (by simpa using h);subst this;exact vf _
 |cons x l j=>
  intro m a c h;rw[zK]at a;have g:=c x la;have b:=KN g;refine((j (m.erase x) a.2 (λy d=>?_) ?_).cons x).trans b.symm
  .have f:=c y<|kn _ d;have i:y≠x:=λe=>a.1<|e▸d;exact(FA i).mpr f
  have:=b.length_eq;simp at this h
  lia
def KC:x∈st n↔1<=x/\x<=n:=by
 simp only[st,rZ,sL];constructor
 .rintro⟨k,h,rfl⟩;lia
 rintro⟨h1,a⟩;exact⟨(x-1).toNat,by lia,by lia⟩
def Wy(n:Nat):(st n).Pairwise (· < ·):=by simp only[st];rw[pd];exact OP.imp λh=>by lia
def RN(n:Nat):(st n).Nodup:=(Wy n).imp λh=>by lia
def Qf{n:Nat}{l:jn}:l.Perm (st n)↔(TD l)=n/\(∀x∈l,1<=x/\x<=n)/\l.Nodup:=by
 constructor
 .intro h;refine⟨by rw[h.length_eq];simp[st],λx a=>KC.mp<|h.mem_iff.mp a,h.symm.nodup<|RN n⟩
 rintro⟨h1,b,c⟩;exact Di l (st n) c (λx a=>KC.mpr<|b x a) (by simp[st,h1])
def acF(h1:Be (.int i) (.int j)=I)(c:Be (.int j) (.int i)=I):i=j:=by
 rw[qL]at h1 c;simp only[cT]at h1 c;by_cases a:i<j
 .simp[a]at h1
 by_cases b:j<i
 .simp[b]at c
 lia
def wJ{l:jn}{m:List D}(h:m.Perm (l.map D.int)):∃k:List Int,m=k.map .int:=by
 refine⟨m.map λd=>match d with|D.int i=>i|_=>0,?_⟩;rw[ky]
 symm
 rw[ou (g:=id),uJ];intro d hd;obtain⟨i,_,rfl⟩:=jD<|h.mem_iff.mp hd;rfl
def yy(l:jn):oR (l.map .int)=C:=by
 unfold oR
 cases l with
 |nil=>rfl
 |cons x l=>rw[vd];right;simp;simp[mx,D.pr,D.dep,show ∀i j:Int,rP .Lt (.int i) (.int j)=Y (pO .Lt i j)from λ_ _=>rfl]
def C3(pre:Dn)(x:Sl)(d:D):jo (TD pre) d (pre++[x])=Y (pre++[Y (d,I)]):=by unfold jo;rw[jz<|by simp];simp
def Vf{f:FB}{g:D->D}{pre:Dn}{N:Nat}:∀(l b:List D)(x:Sl),(∀d∈l,∀a:List D,TD a<N->f a (pre++[Y (d,I)])=Y (a++[g d],pre++[Y (d,I)]))->TD b+TD l<=N->
  ∃c,lD (jo<|TD pre) kP f l b (pre++[x])=Y (b++l.map g,pre++[c]):=by
 intro n
 induction n with
 |nil=>exact λb x _ _=>⟨x,by simp[lD]⟩
 |cons d l m=>intro b x h i;obtain⟨c,e⟩:=m (b++[g d]) (Y (d,I)) (λj k=>h j<|kn _ k) (by simp at i ⊢;lia);refine⟨c,?_⟩;rw[lD,C3];simp;rw[h d la b<|by simp at i;lia];simp;rw[e];simp
def AL(f:F)(g:D->D)(pre:Dn):∀(l b:List D)(x:Sl),(∀d∈l,∃o,f (pre++[Y (d,I)])=Y ((g d,o),pre++[Y (d,I)]))->TD b+TD l<=sizeLine->
  ∃i,lD (jo<|TD pre) kP (lb f) l b (pre++[x])=Y (b++l.map g,pre++[i]):=λl b x h=>Vf l b x λd hd a c=>by
 obtain⟨o,e⟩:=h d hd;show(f _).bind _=_;rw[e];exact jz c
def acH(p:D->Bool):∀l:List D,uE (l.map λd=>.bl (p d))=Y (l.map p):=by
 intro b
 induction b with
 |nil=>exact J
 |cons d l a=>simp[uE,a]
def DV(p:D->Bool)(l:List D):Ba (.lst<|l.map λd=>.bl (p d))=Y (.bl<|l.all p,I):=by simp[Ba,acH,fB]
noncomputable def ab(s:Int):Int:=if s<0 then -s else s
def sg(n:Int):D->Bool
 |.int s=>decide (1<=ab s)&&decide (ab s<=n)
 |_=>I
noncomputable def J1:D->Int
 |.int s=>s
 |_=>0
def OkD(d:D):Prop:= ∀l,d=.tup l->TD l<=60
def ixt(a:0<=v)(h:v<L.length):Aw (.tup L) (.int v)=Y (L.getD v.toNat .Z4,I):=by
 have h1:v.toNat<L.length:=by lia
 simp[Aw,JD,J3,a,h]
def N8{t:jn}{v:Int}(a:0<=v)(h:v<TD t):Aw (.tup<|t.map .int) (.int v)=ii (t.getD v.toNat 0):=by
 have h1:v.toNat<(TD t):=by lia
 simp[Aw,JD,J3,a,h]
def Xe{t:jn}{v:Int}(a:0<=v)(h:v<TD t):Aw (.lst<|t.map .int) (.int v)=ii (t.getD v.toNat 0):=by
 have h1:v.toNat<(TD t):=by lia
 simp[Aw,JD,J3,a,h]
inductive TkI(m:Int)(P:Int->Int->Prop):Prop where
 |mk (v a:Int) (_:0<=v) (_:v<m) (_:P v a)
def pe(a:Int)(b:Bool)(m:Int)(j:0<m)(f:m<1073741824):TkI m λv c=>∀(d:FO)(δ:Dn)(o:AY),d (Z6 a b::δ)=Y (o,Z6 a b::δ)->yK (Z6 a b::δ) o=ii m->kc kx [jm 0,d] (Z6 a b::δ)=Y ((.int v,I),Z6 c b::δ):=by
 obtain⟨v,c,g,h1,e⟩:=xS a b m j f;refine⟨v,c,g,h1,λd δ o h i=>?_⟩;refine(lJ (os:=[.slot 0,o]) (args:=[pS a b,pI m]) (oq J h) ?_ ?_ e).trans ?_
 .simp[i]
 .cases o<;>simp[kh]
 cases o<;>kernel_rfl
noncomputable def led(u:jn)(s:Int):Int:=if 0<s then u.getD (s-1).toNat 0 else -(u.getD (-s-1).toNat 0)
def UD(u:jn)(s:Int)(a:s≠0)(h1: -((TD u):Int)<=s)(b:s<=TD u):
  mG [enc u,pI s]=Y ((.int<|led u s,I),[eN u,ii s]):=by
 simp only[mG,yD];by_cases h:0<s
 .have:=N8 (t:=u) (v:=s-1) (by lia) (by lia);simp only[Ae];simp[h,led,this,kR]
 have:=N8 (t:=u) (v:= -s-1) (by lia) (by lia);simp only[Ae];simp[h,led,this,kR]
def Zk(x:Int):sj (.int x) (.int 1)=ii x:=by have:DJ x 1:=.inr (by lia);show((if DJ x 1 then Y (D.int<|x*1)else U).map λz=>(z,I))=_;rw[jz this,Gk];rfl
def Zj(x:Int):sj (.int x) (.int (-1))=ii (-x):=by have:DJ x (-1):=.inr (by lia);show((if DJ x (-1)then Y (D.int<|x*(-1))else U).map λz=>(z,I))=_;rw[jz this,Int.mul_neg,Gk];rfl
def A0(n:Nat)(c:jn):Prop:=c≠[]/\(c.map ab).Pairwise (· < ·)/\∀s∈c,1<=ab s/\ab s<=n
def CA(j:Int)(c:jn):Prop:=(c.map ab).Pairwise (· < ·)/\∀s∈c,1<=ab s/\ab s<j
def uc(h:0<=i):ab i=i:=by unfold ab;rw[jP<|by lia]
def HB(h:0<=i):ab (-i)=i:=by unfold ab;split<;>lia
def CA.snoc{j s:Int}{c:jn}(h:CA j c)(h1:ab s=j)(e:1<=j):CA (j+1) (c++[s]):=by
 refine⟨?_,λx a=>?_⟩
 .rw[nM,sv];refine⟨h.1,by simp,λx a y b=>?_⟩;obtain⟨z,d,rfl⟩:=jD a;simp at b;subst b;have:=h.2 z d;lia
 rcases qm.mp a with a|a
 .have:=h.2 x a;lia
 simp at a;subst a;lia
def CA.up(h:CA j c):CA (j+1) c:=⟨h.1,λx a=>by have:=h.2 x a;lia⟩
abbrev fbC:FS:=zC2
def vV{i:Nat}{f:F}{δ δ1:Dn}{r:D×Bool}{l0 l:List D}(a:δ[i]?=Y (Y (.lst l0,C)))(h1:f δ=Y (r,δ1))(b:δ1[i]?=Y (Y (.lst l,C)))(c:(TD l)<=10000):
  jA (oP<|mH i f) ki δ=Y (.nx<|δ1.set i<|Y (.lst<|l++[r.1],C)):=
 (jq<|oO<|nL a h1 b<|rG c).trans rfl
def UX(a:Int)(b:Bool)(n w:Int)(p:0<w)(s:w<100)(j:Int)(o:1<=j)(c:jn)(m:CA j c)(t:(TD c)<=10)(x:Sl):∃d f q,CA (j+1) f/\(TD f)<=TD c+1/\fbC [Z6 a b,ii n,ii w,Af c,ii j,x]=Y (.nx [Z6 d b,ii n,ii w,Af f,ii j,q]):=by
 obtain⟨v,d,u,y,e⟩:=pe a b w p (by lia)
 have s1:∀g,jA VI g [Z6 a b,ii n,ii w,Af c,ii j,x]=g [Z6 d b,ii n,ii w,Af c,ii j,ii v]:=λg=>jq<|kH (i:=5) (δ1:=[Z6 d b,ii n,ii w,Af c,ii j,x]) (e _ [ii n,ii w,Af c,ii j,x] (.slot 2) rfl rfl) (show 5<6 by decide)
 by_cases h:v<2
 .have k:Aw (.lst [.int j,.int (-j)]) (.int v)=ii (if v=0 then j else -j):=by rcases(show v=0\/v=1 by lia)with rfl|rfl<;>rfl
  refine⟨d,c++[if v=0 then j else -j],ii v,m.snoc (by split;exact uc (by lia);exact HB<|by lia) o,by simp,?_⟩;refine(s1 _).trans ((jq<|(tu (δ1:=[Z6 d b,ii n,ii w,Af c,ii j,ii v])<|by simp[h]).trans<|vV (δ1:=[Z6 d b,ii n,ii w,Af c,ii j,ii v]) (r:=(.int (if v=0 then j else -j),I)) (l0:=c.map .int) (l:=c.map .int) J (by simp[lW,kT,k]) J<|by simp;lia).trans ?_);simp
 refine⟨d,c,ii v,m.up,by lia,?_⟩;exact(s1 _).trans ((jq<|(se<|by simp[h]).trans J).trans J)
def Zw(b:Bool)(n w:Int)(v:0<w)(p:w<100):∀(m:Nat)(j:Nat)(a:Int)(c:jn)(f d:Sl),1<=j->CA j c->TD c+m<=10->∃g e i l,CA (j+m:Nat) e/\(TD e)<=10/\mW (jo 4) fbC ((bz j m).map λ(k:Nat)=>D.int (k:Int)) [Z6 a b,ii n,ii w,Af c,f,d]=Y (.nx [Z6 g b,ii n,ii w,Af e,i,l]):=by
 intro y
 induction y with
 |zero=>intro j a c f d t h u;exact⟨a,c,f,d,by simpa using h,by lia,rfl⟩
 |succ m x=>intro j a c f d t h u;obtain⟨a1,o,A,h1,B,q⟩:=UX a b n w v p j (by lia) c h (by lia) d;obtain⟨g,e,i,l,s,z,r⟩:=x (j+1) a1 o (ii j) A (by lia) (by simpa using h1) (by lia);refine⟨g,e,i,l,by rw[show j+(m+1)=j+1+m by lia];exact s,z,?_⟩;rw[vp,kG];unfold mW;rw[show jo 4 (.int (j:Int)) [Z6 a b,ii n,ii w,Af c,f,d]=Y [Z6 a b,ii n,ii w,Af c,ii j,d]from J];simp only[kQ];rw[q];simp;exact r
def II(h1:f δ=Y (o1,δ1))(a:g δ1=Y (o2,δ2))(b:res δ2 o1=Y (.int i))(c:res δ2 o2=Y (.int j))(d:0<=i/\i<=1000)(e:0<=j/\j<=1000):An f g δ=Y (jU i (j-i).toNat,δ2):=by unfold An;rw[oq h1 a];simp only[kQ,Tz,PC,b,c];rw[jz ⟨by lia,by lia,by lia,by lia⟩]
def acx(a:Int)(b:Bool)(n:Nat)(h1:1<=n)(N:n<=5):∃C' c,A0 n c/\nF [pS a b,pI n]=SI (enc c,[Z6 C' b,ii n]):=by
 obtain⟨v,a1,J,M,E⟩:=pe a b 3 (by lia) (by lia)
 let t:List Int:=[3,4,6]
 let w:=t.getD v.toNat 0
 have A:0<w/\w<100:=by rcases(show v=0\/v=1\/v=2 by lia)with rfl|rfl|rfl<;>decide
 obtain⟨f,c,d,e,y,U,H⟩:=Zw b n w A.1 A.2 n 1 a1 [] SS SS (by lia) ⟨by simp,by simp⟩ (by simp;lia)
 have G:An nX Pf [Z6 a1 b,ii n,ii w,Af [],SS,SS]=SI ((bz 1 n).map λ(k:Nat)=>D.int (k:Int),[Z6 a1 b,ii n,ii w,Af [],SS,SS]):=by
  rw[II (o1:=.val (.int 1,Tk)) (o2:=.val (.int<|(n:Int)+1,Tk)) (i:=1) (j:=(n:Int)+1) Tl Tl Tl Tl (by lia)<|by lia];rw[show((n:Int)+1-1).toNat=n by lia]
  congr 2
  unfold jU;rw[KJ,ky];apply ou;intro k _;simp
 have pre:∀g,(jA We<|jA LG<|jA (oA (An nX Pf) (jo 4) fbC) g) [Z6 a b,ii n,SS,SS,SS,SS]=g [Z6 f b,ii n,ii w,Af c,d,e]:=by
  intro g;refine(jq (δ1:=[Z6 a1 b,ii n,ii w,SS,SS,SS]) ?_).trans ?_
  .refine kH (i:=2) (δ1:=[Z6 a1 b,ii n,SS,SS,SS,SS]) (lB (o1:=.val (.lst<|t.map .int,C)) (o2:=.val (.int v,Tk)) (jQ (δ1:=[Z6 a b,ii n,SS,SS,SS,SS])<|by kernel_rfl) (jQ<|E _ [ii n,SS,SS,SS,SS] _ rfl rfl) Tl Tl<|Xe J<|by simpa[t]using M) (show 2<6 by decide)
  refine(jq (δ1:=[Z6 a1 b,ii n,ii w,Af [],SS,SS])<|by kernel_rfl).trans ?_;exact jq<|(mn G).trans H
 by_cases p:c=[]
 .subst p;obtain⟨s,u,s0,s1,I⟩:=pe f b 2 (by lia) (by lia);obtain⟨i,m,Y,F,L⟩:=pe u b n (by lia) (by lia);refine⟨m,[if s=0 then 1+i else -(1+i)],?_,?_⟩
  .refine⟨by simp,by simp,λx B=>?_⟩;simp at B;subst B;split
   .rw[uc<|by lia];lia
   rw[show -(1+i)= -(1+i)from Tl,HB<|by lia];lia
  refine mB (δ:=[Z6 m b,ii n,ii w,Af [if s=0 then 1+i else -(1+i)],d,e]) ⟨rfl,by decide,rfl⟩ ((pre _).trans ?_)
  have O:∀q,Aw (.lst [.int 1,.int (-1)]) (.int s)=SI q->sj q.1 (.int (1+i))=ii (if s=0 then 1+i else -(1+i)):=by
   intro q z;have Q:DJ 1 (1+i):=by unfold DJ;lia
   have T:DJ (-1) (1+i):=by unfold DJ;lia
   rcases(show s=0\/s=1 by lia)with rfl|rfl
   .cases z;simp[sj,gI,Q]
   cases z;simp[sj,gI,T]
  have h:Aw (.lst [.int 1,.int (-1)]) (.int s)=ii (if s=0 then 1 else -1):=by rcases(show s=0\/s=1 by lia)with rfl|rfl<;>rfl
  refine(jq<|(tu (δ1:=[Z6 f b,ii n,ii w,Af [],d,e])<|ny<|lB (o1:=.slot 3) (o2:=.val (.lst [],C)) (δ2:=[Z6 f b,ii n,ii w,Af [],d,e]) Tl (jQ<|by kernel_rfl) Tl Tl<|BM [] []).trans<|vV (r:=(.int (if s=0 then 1+i else -(1+i)),Tk)) (δ1:=[Z6 m b,ii n,ii w,Af [],d,e]) (l0:=[]) (l:=[]) Tl ?_ Tl<|by simp).trans ?_
  .refine lB (δ1:=[Z6 u b,ii n,ii w,Af [],d,e]) (jQ<|lB (δ1:=[Z6 f b,ii n,ii w,Af [],d,e]) (o1:=.val (.lst [.int 1,.int (-1)],C)) (jQ<|by kernel_rfl) (jQ<|I _ _ _ rfl rfl) Tl Tl h) (jQ<|lB (o1:=.val (.int 1,Tk)) Tl (jQ<|L _ _ (.slot 1) rfl rfl) Tl Tl Tl) Tl Tl (O _ h)
  exact lz (oi<|ku (os:=[.slot 3]) Tl Tl Tl)
 refine⟨f,c,⟨p,y.1,λs h=>by have:=y.2 s h;lia⟩,?_⟩;refine mB (δ:=[Z6 f b,ii n,ii w,Af c,d,e]) ⟨rfl,by decide,rfl⟩<|(pre _).trans ?_;refine(jq<|(se (δ1:=[Z6 f b,ii n,ii w,Af c,d,e])<|ny (o:=Tk)<|lB (o1:=.slot 3) (o2:=.val (.lst [],C)) (δ2:=[Z6 f b,ii n,ii w,Af c,d,e]) Tl (jQ<|by kernel_rfl) Tl Tl<|(BM c []).trans<|by rw[nO p]).trans Tl).trans ?_;exact lz<|oi<|ku (os:=[.slot 3]) Tl Tl Tl
noncomputable def JJ(n:Nat):List Int:=(am n).map λ(k:Nat)=>(-(n:Int)+(k:Int))
def Me(n:Nat)(b:n<=5):GU .lst C [.int (-(n:Int)),.int 0]=Y (.lst<|(JJ n).map .int,C):=by
 have:n=0\/n=1\/n=2\/n=3\/n=4\/n=5:=by lia
 have h1:Dp (-(n:Int)) 0:=by rcases this with rfl|rfl|rfl|rfl|rfl|rfl<;>decide+kernel
 have a:(0- -(n:Int)).toNat=n:=by lia
 show(if Dp (-(n:Int)) 0 then Y (D.lst<|jU (-(n:Int)) (0- -(n:Int)).toNat,C)else U)=_;rw[jz h1,a];simp[JJ,jU]
def nS(h:f δ=Y ((.lst l,o),δ1)):lO f δ=Y (l,δ1):=by unfold lO;rw[h];rfl
def vQ{b:Type}[BEq b][LawfulBEq b]:∀(l m:List b),l.Nodup->(∀x∈l,x∈m)->TD l<=(TD m):=by
 intro n
 induction n with
 |nil=>intro m _ _;exact mw _
 |cons x l k=>
  intro m a c;rw[zK]at a;have i:=c x la;have h:=KN i
  have:=k (m.erase x) a.2 (λy d=>by have f:=c y<|kn _ d;have j:y≠x:=λe=>a.1<|e▸d;exact(FA j).mpr f)
  have g:=h.length_eq;simp at g ⊢
  lia
def HY{l:jn}(h:l.Pairwise (· < ·)):l.Nodup:=h.imp λh=>by lia
def A0.len{n:Nat}{c:jn}(h:A0 n c):(TD c)<=n:=by
 have:=vQ (c.map ab) (st n) (HY h.2.1) (λx b=>by obtain⟨s,a,rfl⟩:=jD b;exact KC.mpr<|h.2.2 s a)
 simpa[st]using this
def JH(n:Nat)(t:jn):Prop:=TD t=n/\∀x∈t,1<=ab x/\ab x<=n
theorem mp0:Aw (.lst [.int (-1),.int 1]) (.int 0)=ii (-1):=rfl
theorem mp1:Aw (.lst [.int (-1),.int 1]) (.int 1)=ii 1:=rfl
def R5(u:jn)(s:Int)(b:s≠0)(h1: -((TD u):Int)<=s)(c:s<=TD u):
  kY [enc u,pI s]=Y ((.int<|led u s,I),[eN u,ii s]):=by
 simp only[kY,sf];by_cases h:0<s
 .have:=N8 (t:=u) (v:=s-1) (by lia) (by lia);have a: ¬s<0:=by lia
  simp only[Ae];simp[h,a,led,this,kR,kT,mp1,Zk]
 have:=N8 (t:=u) (v:= -s-1) (by lia) (by lia);have a:s<0:=by lia
 simp only[Ae];simp[h,a,led,this,kR,kT,mp0,Zj]
def pB(i:Int):ab (-i)=ab i:=by unfold ab;split<;>split<;>lia
def pA{l:jn}{k:Nat}(h:k<TD l):l.getD k 0∈l:=by rw[sD,km h];exact xo h
def G3{n:Nat}{t:jn}(b:JH n t){s:Int}(h1:1<=ab s)(a:ab s<=n):1<=ab (led t s)/\ab (led t s)<=n:=by
 unfold led;unfold ab at h1 a;have c:=b.1;split
 .rename_i h;rw[jP<|by omega]at h1 a;exact b.2 _ (pA<|by omega)
 rename_i h;rw[pB];split at h1
 .rw[jz<|by assumption]at a;exact b.2 _ (pA<|by omega)
 omega
def dD(a:jn):D:=.Z3 .dct (a.map λw=>.int (ab w)) (a.map .int)
def zV(a:jn)(w:Int):List Int:=if ab w∈a.map ab then a.map λx=>if ab x=ab w then w else x else a++[w]
def Vi(w:Int):∀a:List Int,((a.map λw=>D.int<|ab w).any (D.Z1 · (.int<|ab w)))=decide (ab w∈a.map ab):=by
 intro c
 induction c with
 |nil=>kernel_rfl
 |cons x a b=>
  simp only[kG,rA,b,D.Z1];by_cases h:ab x=ab w
  .simp[h]
  have: ¬ab w=ab x:=λe=>h e.symm;simp[h,this]
def Pz(w:Int):∀a:List Int,zS (a.map λw=>D.int<|ab w) (a.map .int) (.int<|ab w) (.int w)=(a.map λx=>if ab x=ab w then w else x).map .int:=by
 intro c
 induction c with
 |nil=>kernel_rfl
 |cons x a b=>simp only[kG,zS,b,D.Z1];by_cases h:ab x=ab w<;>simp[h]
def T4(a:jn)(w:Int):D.Z3 .dct (ya (a.map λw=>.int (ab w)) (a.map .int) (.int<|ab w)<|.int w).1 (ya (a.map λw=>.int (ab w)) (a.map .int) (.int<|ab w)<|.int w).2=dD (zV a w):=by
 unfold ya zV dD;rw[Vi];by_cases h:ab w∈a.map ab
 .rw[jz<|by simpa using h,jz h,Pz]
  congr 1
  show(a.map λw=>D.int<|ab w)=cc (λw=>D.int<|ab w) (a.map λx=>if ab x=ab w then w else x);rw[ky];apply ou;intro x _;simp;split
  .rename_i e;rw[e]
  rfl
 rw[jP<|by simpa using h,jP h];simp
def DW(n:Nat)(a:jn):Prop:=(a.map ab).Nodup/\∀w∈a,1<=ab w/\ab w<=n
def DW.put(h:DW n ws)(h1:1<=ab w/\ab w<=n):DW n (zV ws w):=by
 unfold zV;split
 .rename_i c;refine⟨?_,λx a=>?_⟩
  .have:((ws.map λx=>if ab x=ab w then w else x).map ab)=ws.map ab:=by
    rw[ky];apply ou;intro x _;simp;split
    .rename_i e;rw[e]
    rfl
   rw[this];exact h.1
  obtain⟨y,b,rfl⟩:=jD a;split
  .exact h1
  exact h.2 y b
 rename_i c;refine⟨?_,λx a=>?_⟩
 .rw[nM,xg];refine⟨h.1,by simp,λx a y b e=>?_⟩;simp at b;subst b;subst e;exact c a
 rcases qm.mp a with a|a
 .exact h.2 x a
 simp at a;subst a;exact h1
def PY(a:jn)(w:Int):zV a w≠[]:=by
 unfold zV;split
 .rename_i h
  cases a with
  |nil=>simp at h
  |cons=>simp
 simp
def DW.len(h:DW n ws):(TD ws)<=n:=by
 have:=vQ (ws.map ab) (st n) h.1 (λx b=>by obtain⟨s,a,rfl⟩:=jD b;exact KC.mpr<|h.2 s a)
 simpa[st]using this
def Ir(k:Int):∀a:List Int,k∈a.map ab->∃w∈a,ab w=k/\mF (a.map λw=>D.int<|ab w) (a.map .int) (.int k)=Y (.int w):=by
 intro f
 induction f with
 |nil=>intro h;simp at h
 |cons x a d=>
  intro h;simp only[kG,mF,D.Z1];by_cases e:ab x=k
  .exact⟨x,by simp,e,by simp[e]⟩
  have:k∈a.map ab:=by
   simp only[kG,nQ]at h;rcases h with h|h
   .exact absurd h.symm e
   exact h
  obtain⟨w,c,h1,b⟩:=d this;exact⟨w,by simp[c],h1,by simp[e,b]⟩
def EH(a:jn)(k:Int):qR (a.map λw=>D.int<|ab w) (.int k)=C:=by simp[qR,vT]
abbrev ND:FS:=Wc
def N4{n:Nat}{t:jn}(g:JH n t)(k:n<=5){s:Int}(h1:1<=ab s/\ab s<=n){a:jn}(h:DW n a)(b d:Sl):ND [eN t,b,Y (dD a,C),ii s,d]=Y (.nx [eN t,b,Y (dD<|zV a<|led t s,C),ii s,ii<|led t s]):=by
 have j:=g.1
 have c:s≠0/\ -((TD t):Int)<=s/\s<=(TD t):=by have:=h1;unfold ab at this;split at this<;>lia
 refine(jq (δ1:=[eN t,b,Y (dD a,C),ii s,ii<|led t s]) ?_).trans ?_
 .exact kH (i:=4) (δ1:=[eN t,b,Y (dD a,C),ii s,d]) (lJ (δ1:=[eN t,b,Y (dD a,C),ii s,d]) (os:=[.slot 0,.slot 3]) (args:=[enc t,pI s]) J J mS<|R5 t s c.1 c.2.1 c.2.2) (show 4<5 by decide)
 refine(jq (δ1:=[eN t,b,Y (dD<|zV a<|led t s,C),ii s,ii<|led t s]) ?_).trans J;have e:lW 4 [eN t,b,Y (dD a,C),ii s,ii<|led t s]=Y ((.int<|led t s,I),[eN t,b,Y (dD a,C),ii s,ii<|led t s]):=rfl;have f:jB (jT (g1 EM) [jm 4]) [eN t,b,Y (dD a,C),ii s,ii<|led t s]=Y (.val (.int<|ab<|led t s,I),[eN t,b,Y (dD a,C),ii s,ii<|led t s]):=rfl;unfold Mc;rw[e];simp only[kQ,dg];rw[f];simp only[kQ,GP,zp,dg,dD];rw[jz ⟨EH a _,by have:=h.len;simp;lia⟩,T4];rfl
def Xv{n:Nat}{t:jn}(l:JH n t)(o:n<=5)(f:Sl):∀(c a:jn)(x3 b:Sl),(∀s∈c,1<=ab s/\ab s<=n)->DW n a->∃d i k,DW n d/\(a≠[]\/c≠[]->d≠[])/\mW (jo 3) ND (c.map .int) [eN t,f,Y (dD a,C),x3,b]=Y (.nx [eN t,f,Y (dD d,C),i,k]):=by
 intro r
 induction r with
 |nil=>intro a x3 b _ g;exact⟨a,x3,b,g,λh=>h.elim id λh=>absurd J h,rfl⟩
 |cons s c q=>intro a x3 b h g;have j:=h s la;obtain⟨d,i,k,h1,m,e⟩:=q (zV a<|led t s) (ii s) (ii<|led t s) (λx p=>h x<|kn _ p)<|g.put<|G3 l j.1 j.2;refine⟨d,i,k,h1,λ_=>m<|.inl<|PY _ _,?_⟩;rw[kG];unfold mW;rw[show jo 3 (.int s) [eN t,f,Y (dD a,C),x3,b]=Y [eN t,f,Y (dD a,C),ii s,b]from J];simp only[kQ];rw[N4 l o j g];simp;exact e
def Th{l k:jn}(m:l.Nodup)(h:nR Be (l.map .int)=k.map .int):k.Perm l/\k.Pairwise (· < ·):=by
 have f:=lj Be<|l.map D.int;rw[h]at f;have c:=(f.map λd=>match d with|D.int i=>i|_=>0)
 simp at c;have e:((λd=>match d with|D.int i=>i|_=>0)∘D.int)=id:=rfl;rw[e,uJ,uJ]at c;refine⟨c,?_⟩;have g:=pk<|l.map D.int;rw[h,pd]at g;have j:=c.symm.nodup m;have:=g.and j;refine this.imp λ{a b} h=>?_;have h1:=h.1;rw[qL]at h1;simp only[cT]at h1;by_cases q:b<a
 .simp[q]at h1
 have:=h.2;lia
def ab5(a:jn):∀k:List Int,(∀x∈k,x∈a.map ab)->∃c:List Int,c.map ab=k/\(∀w∈c,w∈a)/\k.map (λx=>(mF (a.map λw=>D.int<|ab w) (a.map .int)<|.int x).getD .Z4)=c.map .int:=by
 intro l
 induction l with
 |nil=>intro _;exact⟨[],rfl,by simp,rfl⟩
 |cons x k j=>intro h;obtain⟨w,g,h1,f⟩:=Ir x a<|h x la;obtain⟨c,b,d,e⟩:=j λy i=>h y<|kn _ i;exact⟨w::c,by simp[h1,b],by simp[g];exact d,by simp[f,e]⟩
def IA{n:Nat}(E:n<=5){t c a:jn}{x3 f:Sl}(m:DW n a)(z:a≠[])(e:mW (jo 3) ND (c.map .int) [eN t,eN c,Y (dD [],C),U,U]=Y (.nx [eN t,eN c,Y (dD a,C),x3,f])):
  ∃b,((b.map ab).Pairwise (· < ·)/\(∀w∈b,w∈a)/\(b.map ab).Perm (a.map ab))/\kr [enc t,enc c]=Y (enc b,[eN t,eN c]):=by
 have l:=m.len;obtain⟨k,hk⟩:=wJ<|lj Be<|(a.map ab).map D.int;obtain⟨g,A⟩:=Th m.1 hk;obtain⟨b,j,p,r⟩:=ab5 a k λx i=>g.mem_iff.mp i;refine⟨b,⟨by rw[j];exact A,p,by rw[j];exact g⟩,?_⟩
 have o:(TD k)<=5:=by have:=g.length_eq;simp at this;lia
 have s1:mN (dD a)=Y (.lst<|k.map .int,C):=by
  unfold mN dD;have q:((a.map λw=>D.int<|ab w).all λk=>(vT k).isSome)=C:=by simp[vT]
  have T:(a.map λw=>D.int<|ab w)≠[]:=by simpa using z
  simp only;rw[jz ⟨q,T⟩];have s:(a.map λw=>D.int<|ab w)=(a.map ab).map D.int:=by rw[ky];rfl
  unfold ll;rw[s,jz ⟨yy _,by rw[kT];simp;lia⟩,hk]
 obtain⟨H,h⟩:=AL (jW A9 (jm 0)<|jm 1) (λd=>match d with|.int x=>(mF (a.map λw=>D.int<|ab w) (a.map .int)<|.int x).getD .Z4|_=>.Z4) [Y (dD a,C)] (k.map .int) [] U (by intro d hd;obtain⟨x,i,rfl⟩:=jD hd;obtain⟨w,v,h1,u⟩:=Ir x a<|g.mem_iff.mp i;refine⟨I,lB (o1:=.slot 0) (o2:=.slot 1) J J J J ?_⟩;simp only[A9,dD];rw[jz<|EH a x,u];rfl) (by rw[kT];simp;lia)
 have B:((k.map D.int).map λd=>match d with|.int x=>(mF (a.map λw=>D.int<|ab w) (a.map .int)<|.int x).getD .Z4|_=>.Z4)=b.map .int:=by rw[ky,<-r];rfl
 rw[B]at h;simp at h;refine mB (δ:=[eN t,eN c,Y (dD a,C),x3,f]) ⟨rfl,by decide,rfl⟩ ?_;refine(jq (δ1:=[eN t,eN c,Y (dD [],C),U,U]) J).trans ?_;refine(jq<|(mn (ds:=c.map .int) (δ1:=[eN t,eN c,Y (dD [],C),U,U]) J).trans e).trans ?_;refine lz<|oi<|ku (os:=[.val (.lst<|b.map .int,C)]) (oE<|jQ ?_) J J;have y:lO (jT (g1 mN) [jm 2]) [eN t,eN c,Y (dD a,C),x3,f]=Y (k.map .int,[eN t,eN c,Y (dD a,C),x3,f]):=nS<|ku (os:=[.slot 2]) J J s1;unfold kJ;rw[y];simp only[kQ,kG,qx];rw[show kM [eN t,eN c,Y (dD a,C),x3,f] [.slot 2]=Y [(dD a,C)]from J];simp only[kQ];rw[jz (show(kh [AY.slot 2] [(dD a,C)]).Nodup from(JS 2))];rw[show(cc Y [(dD a,C)]++af 1 U:Dn)=[Y (dD a,C),U]from J,h];rfl
def aad{n:Nat}(f:n<=5){t c:jn}(k:JH n t)(d:A0 n c):∃a,A0 n a/\kr [enc t,enc c]=Y (enc a,[eN t,eN c]):=by obtain⟨l,x3,m,g,b,e⟩:=Xv k f (eN c) c [] U U d.2.2 ⟨by simp,by simp⟩;have b:=b<|.inr d.1;obtain⟨a,⟨h1,h,i⟩,e⟩:=IA f g b e;refine⟨a,⟨λz=>b ?_,h1,λs j=>g.2 s<|h s j⟩,e⟩;have:=i.length_eq;rw[z]at this;exact OW.mp (by simpa using this.symm)
noncomputable abbrev cD(c:jn):D:=.tup (c.map .int)
def Dz(c:jn):D.dep (cD c)=1:=by simp[D.dep,wU]
def I9:∀a:List (List Int),D.A6 (a.map cD)<=1:=by
 intro d
 induction d with
 |nil=>simp[D.A6]
 |cons c a b=>have:=b;simp only[kG,D.A6,Dz];lia
def Dy(a b:jn):D.Z1 (cD a) (cD b)=decide (a=b):=by simp[D.Z1,AB]
def OC(c:jn):∀a:List (List Int),(a.map cD).any (λd=>D.Z1 d<|cD c)=decide (c∈a):=by
 intro f
 induction f with
 |nil=>kernel_rfl
 |cons x a b=>
  simp only[kG,rA,b,Dy];by_cases h:x=c
  .simp[h]
  have: ¬c=x:=λe=>h e.symm;simp[h,this]
def En(c:jn)(a:jY):oT (cD c) (.lst<|a.map cD)=Y (.bl (!decide (c∈a)),I):=by
 have:inD (cD c) (.lst<|a.map cD)=Y (decide<|c∈a):=by have hd:=I9 a;show(if D.A6 (a.map cD)<=50/\(cD c).dep<=50 then Y ((a.map cD).any λd=>D.Z1 d<|cD c)else U)=_;rw[jz ⟨by lia,by rw[Dz];lia⟩,OC]
 unfold oT;rw[this];rfl
noncomputable def AO:Nat->List (List Int)
 |0=>[[]]
 |k+1=>AO k++((AO k).map λc=>c++[(k:Int)+1])++((AO k).map λc=>c++[-((k:Int)+1)])
def OE:∀(k:Nat)(c:jn),(c.map ab).Pairwise (· < ·)->(∀s∈c,1<=ab s/\ab s<=k)->c∈AO k:=by
 intro j
 induction j with
 |zero=>
  intro c _ h
  cases c with
  |nil=>simp[AO]
  |cons s c=>have:=h s la;lia
 |succ k f=>
  intro c b h;simp only[AO,qm,rZ];by_cases d:c=[]
  .subst d;exact .inl<|.inl<|f [] (by simp) (by simp)
  have hd:=List.dropLast_concat_getLast d;generalize c.dropLast=i at hd;generalize c.getLast d=s at hd;subst hd;rw[nM,sv]at b;have l:=h s (by simp);have g:∀x∈i,1<=ab x/\ab x<ab s:=λx a=>⟨(h x<|by simp[a]).1,b.2.2 (ab x) (rT a) (ab s)<|by simp⟩
  by_cases q:ab s<=k
  .refine .inl (.inl<|f _ ?_ λx a=>?_)
   .rw[nM,sv];exact b
   rcases qm.mp a with a|a
   .have:=g x a;lia
   simp at a;subst a;lia
  have e:ab s=(k:Int)+1:=by lia
  have hk:=f i b.1 λx a=>by have:=g x a;lia
  unfold ab at e;split at e
  .exact .inr ⟨i,hk,by rw[show s= -((k:Int)+1) by lia]⟩
  exact .inl (.inr ⟨i,hk,by rw[show s=((k:Int)+1) by lia]⟩)
def acI:∀(k:Nat)(n:Nat),n<=k->(AO n).length<=(AO k).length:=by
 intro b
 induction b with
 |zero=>intro n h;rw[show n=0 by lia];exact kD _
 |succ k a=>
  intro n h;by_cases e:n=k+1
  .subst e;exact kD _
  have:=a n (by lia);simp only[AO,ox,kN];lia
def DG(n:Nat)(a:jY):Prop:=a.Nodup/\∀c∈a,A0 n c
def DG.len(b:n<=5)(h:DG n cs):(TD cs)<=243:=by
 have h1:=vQ cs (AO n) h.1 λc a=>OE n c (h.2 c a).2.1 (h.2 c a).2.2;have d:=acI 5 n b;have e:(AO 5).length=243:=by decide
 lia
def DG.snoc{n:Nat}{b:jY}{c:jn}(h:DG n b)(f:A0 n c)(g:c∉b):DG n (b++[c]):=by
 refine⟨?_,λx a=>?_⟩
 .rw[xg];exact⟨h.1,by simp,λx a y d e=>by simp at d;subst d;subst e;exact g a⟩
 rcases qm.mp a with a|a
 .exact h.2 x a
 simp at a;subst a;exact f
abbrev GH(a:jY):Sl:=Y (.lst<|a.map cD,C)
abbrev UT:FS:=zC4
def ixc{a:jY}{i:Nat}(h:i<TD a):Aw (.lst<|a.map cD) (.int i)=Y (cD<|a.getD i [],I):=by
 have:(i:Int)<(TD a):=by lia
 simp[Aw,JD,J3,h]
def ack{a:jY}{i:Nat}(h:i<TD a):a.getD i []∈a:=by rw[sD,km h];exact xo h
def Ra{n:Nat}(q:n<=5){t:jn}(u:JH n t){a:jY}(f:DG n a){i:Nat}(p:i<TD a)(c d j:Sl):∃k v,DG n k/\(TD a)<=TD k/\UT [c,d,GH a,ii i,eN t,j]=Y (.nx [c,d,GH k,ii i,eN t,v]):=by
 obtain⟨b,s,e⟩:=aad q u<|f.2 _ (ack p);have w:=f.len q
 have s1:∀g,jA VY g [c,d,GH a,ii i,eN t,j]=g [c,d,GH a,ii i,eN t,eN b]:=λg=>jq<|kH (i:=5) (δ1:=[c,d,GH a,ii i,eN t,j]) (lJ (δ1:=[c,d,GH a,ii i,eN t,j]) (os:=[.slot 4,.val<|enc<|a.getD i []]) (args:=[enc t,enc<|a.getD i []]) (oq J<|jQ<|lB (o1:=.slot 2) (o2:=.slot 3) J J J J<|ixc p) J mS e) (show 5<6 by decide)
 have m:(fT<|jW oT (jm 5)<|jm 2) [c,d,GH a,ii i,eN t,eN b]=Y (!decide (b∈a),[c,d,GH a,ii i,eN t,eN b]):=
  ny (o:=I) (lB (o1:=.slot 5) (o2:=.slot 2) J J J J<|En b a)
 by_cases h:b∈a
 .refine⟨a,eN b,f,kD _,(s1 _).trans<|(jq<|(se ?_).trans J).trans J⟩;rw[m,nW h];rfl
 refine⟨a++[b],eN b,f.snoc s h,by simp,(s1 _).trans ?_⟩;rw[nO h]at m;refine(jq<|(tu m).trans<|vV (δ1:=[c,d,GH a,ii i,eN t,eN b]) (r:=enc b) (l0:=a.map cD) (l:=a.map cD) J J J<|by simp;lia).trans ?_;simp
def Xr{n:Nat}(s:n<=5)(i:Nat)(c d:Sl):∀(j:jY)(a:jY)(f b:Sl),(∀t∈j,JH n t)->DG n a->i<TD a->∃e h k,DG n e/\(TD a)<=TD e/\mW (jo 4) UT (j.map cD) [c,d,GH a,ii i,f,b]=Y (.nx [c,d,GH e,ii i,h,k]):=by
 intro x
 induction x with
 |nil=>intro a f b _ g l;exact⟨a,f,b,g,kD _,rfl⟩
 |cons t j w=>intro a f b m g l;obtain⟨q,y,h1,z,o⟩:=Ra s (m t la) g l c d b;obtain⟨e,h,k,r,A,p⟩:=w q (eN t) y (λu v=>m u<|kn _ v) h1 (by lia);refine⟨e,h,k,r,by lia,?_⟩;rw[kG];unfold mW;rw[show jo 4 (cD t) [c,d,GH a,ii i,f,b]=Y [c,d,GH a,ii i,eN t,b]from J];simp only[kQ];rw[o];simp;exact p
abbrev ftW:FT:=VU
abbrev fbW:FS:=jA (oA xQ (jo 4) UT) VR
def S0{n:Nat}(y:n<=5)(g:Sl)(c:jY)(A:∀t∈c,JH n t):∀(m a i:Nat)(o:Bool)(b:jY)(d e:Sl),i+m=243->m<a->DG n b->∃l s r u v,DG n l/\(TD b)<=TD l/\pR ftW fbW a [g,Y (.lst<|c.map cD,o),GH b,ii i,d,e]=Y (.nx [g,Y (.lst<|c.map cD,s),GH l,ii r,u,v]):=by
 intro m
 induction m with
 |zero=>
  intro a i o b d e q H k;have L:=k.len y;obtain⟨f,rfl⟩:∃f,a=f+1:=⟨a-1,by lia⟩
  refine⟨b,o,i,d,e,k,kD _,?_⟩;have h: ¬((i:Int)<TD b):=by lia
  have j:ftW [g,Y (.lst<|c.map cD,o),GH b,ii i,d,e]=Y (I,[g,Y (.lst<|c.map cD,o),GH b,ii i,d,e]):=
   ny (o:=I) (lB (o1:=.slot 3) (o2:=.val (.int<|TD b,I)) J (jQ<|ku (os:=[.slot 2]) J J<|by simp) J J<|by rw[WJ,nO h])
  unfold pR;rw[j];rfl
 |succ m T=>
  intro a i o b d e q H k;obtain⟨f,rfl⟩:∃f,a=f+1:=⟨a-1,by lia⟩
  have j:ftW [g,Y (.lst<|c.map cD,o),GH b,ii i,d,e]=Y (decide<|(i:Int)<TD b,[g,Y (.lst<|c.map cD,o),GH b,ii i,d,e]):=
   ny (o:=I) (lB (o1:=.slot 3) (o2:=.val (.int<|TD b,I)) J (jQ<|ku (os:=[.slot 2]) J J<|by simp) J J<|by rw[WJ])
  by_cases h:((i:Int)<TD b)
  .rw[nW h]at j;obtain⟨p,w,x,h1,O,B⟩:=Xr y i g (Y (.lst<|c.map cD,I)) c b d e A k (by lia);obtain⟨l,s,r,u,v,E,Q,N⟩:=T f (i+1) I p w x (by lia) (by lia) h1;refine⟨l,s,r,u,v,E,by lia,?_⟩;unfold pR;rw[j];simp only[kQ]
   have z:fbW [g,Y (.lst<|c.map cD,o),GH b,ii i,d,e]=Y (.nx [g,Y (.lst<|c.map cD,I),GH p,ii (i+1:Nat),w,x]):=by refine(jq<|(mn (ds:=c.map cD) (δ1:=[g,Y (.lst<|c.map cD,I),GH b,ii i,d,e]) J).trans B).trans ?_;refine(jq<|kH (i:=3) (δ1:=[g,Y (.lst<|c.map cD,I),GH p,ii i,w,x]) (lB (o1:=.slot 3) (o2:=.val (.int 1,I)) J J J J J) (show 3<6 by decide)).trans ?_;simp
   rw[z];simp;exact N
  rw[nO h]at j;refine⟨b,o,i,d,e,k,kD _,?_⟩;unfold pR;rw[j];rfl
def acw{n:Nat}(i:n<=5){b a:jY}(f:∀t∈b,JH n t)(h:DG n a)(o:Bool):∃c m,DG n c/\(TD a)<=TD c/\oG [(.lst<|a.map cD,I),(.lst<|b.map cD,o)]=Y ((.lst<|c.map cD,C),[Y (.lst<|a.map cD,I),m]):=by
 obtain⟨c,d,j,l,p,g,k,e⟩:=S0 i (Y (.lst<|a.map cD,I)) b f 243 XR 0 o a U U (by lia) (by decide) h;refine⟨c,if o=C then Y (.lst<|b.map cD,d)else Y (.lst<|b.map cD,o),g,k,?_⟩;refine(mB (r:=(.lst<|c.map cD,C)) (δ:=[Y (.lst<|a.map cD,I),Y (.lst<|b.map cD,d),U,ii j,l,p]) ⟨rfl,(show 2<=6 by decide),by cases o<;>rfl⟩ ?_).trans ?_
 .refine(jq (δ1:=[Y (.lst<|a.map cD,I),Y (.lst<|b.map cD,o),GH a,U,U,U]) J).trans ?_;refine(jq (δ1:=[Y (.lst<|a.map cD,I),Y (.lst<|b.map cD,o),GH a,ii 0,U,U]) J).trans ?_;exact(jq e).trans (lz J)
 cases o<;>rfl
noncomputable def Bk(a:jY)(c:jn):List (List Int):=if c∈a then a else a++[c]
def dd(a:jY):List (List Int):=a.foldl Bk []
def Rx(a:jY)(c:jn):nH (a.map cD) (cD c)=(Bk a c).map cD:=by unfold nH Bk;rw[show(a.map cD).any (D.Z1 · (cD c))=decide (c∈a)from OC c a];by_cases h:c∈a<;>simp[h]
def EW:∀(b a:jY),(b.map cD).foldl nH (a.map cD)=(b.foldl Bk a).map cD:=by
 intro e
 induction e with
 |nil=>intro a;exact J
 |cons c b d=>intro a;rw[kG,rW,rW,Rx,d]
def OH:x∈Bk a c↔x∈a\/x=c:=by
 unfold Bk;by_cases h:c∈a
 .rw[jz h];constructor
  .exact .inl
  rintro(h1|rfl)
  .exact h1
  exact h
 rw[jP h];simp
def yq:∀(b a:jY)(x:jn),x∈b.foldl Bk a↔x∈a\/x∈b:=by
 intro e
 induction e with
 |nil=>intro a x;simp
 |cons c b d=>intro a x;rw[rW,d,OH,nQ,or_assoc]
def Ry(h:f.Nodup):(Bk f c).Nodup:=by
 unfold Bk;split
 .exact h
 rename_i b;rw[xg];exact⟨h,by simp,λx d y a e=>by simp at a;subst a;subst e;exact b d⟩
def EN:∀(b a:jY),a.Nodup->(b.foldl Bk a).Nodup:=by
 intro e
 induction e with
 |nil=>intro a h;exact h
 |cons c b d=>intro a h;rw[rW];exact d _ (Ry h)
def zW:∀l:List Int,D.J8 (l.map .int)=C:=by
 intro b
 induction b with
 |nil=>simp[D.J8]
 |cons x l a=>simp[D.J8,D.pr,a]
def Uz(c:jn):Em (cD c)=C:=by simp[Em,zW,wU]
def Dh(a:jY):(a.map cD).all Em=C:=by rw[mZ];intro d hd;obtain⟨c,_,rfl⟩:=jD hd;exact Uz c
theorem B7(c:cZ):∀a b:List Int,(tV c (a.map .int)<|b.map .int).isSome=C
 |[],b=>by kernel_rfl
 |x::a,[]=>by kernel_rfl
 |x::a,y::b=>by
  simp only[kG,tV];split
  .exact B7 c a b
  simp[rP]
def Bt(a:jY)(h:∀c∈a,c≠[]):oR (a.map cD)=C:=by
 have hk:∀c:List Int,c≠[]->mx (cD c)=Y 1:=λc i=>by
  cases c with
  |nil=>exact absurd J i
  |cons=>rfl
 unfold oR
 cases a with
 |nil=>rfl
 |cons c a=>
  rw[vd];right;simp only[kG];rw[nN,nN,hk c<|h c la];refine⟨⟨rfl,?_⟩,?_⟩
  .rw[mZ];intro d hd;rw[<-kG (f:=cD)]at hd;obtain⟨x,g,rfl⟩:=jD hd;rw[hk x<|h x g,Dz];simp[D.pr,zW]
  rw[mZ];intro d hd;rw[mZ];intro e b;rw[<-kG (f:=cD)]at hd b;obtain⟨x,g,rfl⟩:=jD hd;obtain⟨y,j,rfl⟩:=jD b;simp only[rP];rw[jz<|.inl trivial];exact B7 _ _ _
def JG:D->List Int
 |.tup l=>l.map J1
 |_=>[]
def nY(c:jn):JG (cD c)=c:=by simp only[JG,ky];rw[ou (g:=id),uJ];intro x _;rfl
def abo(h:m.Perm (cs.map cD)):∃a:List (List Int),m=a.map cD/\a.Perm cs:=by
 refine⟨m.map JG,?_,?_⟩
 .rw[ky]
  symm
  rw[ou (g:=id),uJ];intro d hd;obtain⟨c,_,rfl⟩:=jD<|h.mem_iff.mp hd;simp only[bI,nY];rfl
 have:=h.map JG;rw[ky]at this;rw[show cc (JG∘cD) cs=cc id cs from ou λc _=>nY c,uJ]at this;exact this
def JN(c:jY):Prop:=c.Pairwise λa b=>Be (cD b) (cD a)=I
def Wz{n:Nat}{a:jY}(j:∀c∈a,A0 n c)(l:(TD a)<500):∃k b:List (List Int),DG n b/\JN b/\(∀c,c∈b↔c∈a)/\(TD b)<=TD a/\NQ (.lst<|a.map cD)=Y (.Z3 .set []<|k.map cD,C)/\mN (.Z3 .set []<|k.map cD)=Y (.lst<|b.map cD,C):=by
 have f:∀c,c∈dd a↔c∈a:=λc=>by unfold dd;rw[yq];simp
 have i:(dd a).Nodup:=EN a [] (by simp);obtain⟨b,e,g⟩:=abo<|lj Be<|(dd a).map cD;have d:(dd a).length<=(TD a):=vQ _ _ i λc h=>(f c).mp h;refine⟨dd a,b,⟨g.symm.nodup i,λc h=>j c<|(f c).mp<|g.mem_iff.mp h⟩,?_,λc=>g.mem_iff.trans<|f c,by rw[g.length_eq];exact d,?_,?_⟩
 .have:=pk<|(dd a).map cD;rw[e,pd]at this;exact this
 .show(if(a.map cD).all Em=C/\(a.map cD).length<500 then Y (D.Z3 .set []<|mC<|a.map cD,C)else U)=_;rw[jz ⟨Dh a,by simpa using l⟩];unfold mC;rw[show([]:List D)=([]:List (List Int)).map cD from J,EW];rfl
 show(if((dd a).map cD).all Em=C then ll ((dd a).map cD)else U)=_;rw[jz<|Dh _];unfold ll;rw[jz ⟨Bt _ λc h=>(j c<|(f c).mp h).1,by rw[kT];simp;lia⟩,e]
abbrev sZ(V:jn):Sl:=Y (.Z3 .set []<|V.map .int,C)
theorem OB(c:Int):∀V:List Int,(V.map D.int).any (D.Z1 · (.int c))=decide (c∈V)
 |[]=>rfl
 |v::V=>by
  rw[kG,rA,OB c V,show D.Z1 (.int v) (.int c)=(v==c)from J];by_cases h:v=c
  .subst h;simp
  have a: ¬c=v:=λe=>h e.symm;simp[h,a]
def Ah(V:jn):(V.map D.int).all Hm=C:=by rw[fB];exact mZ.mpr λ_ _=>rfl
def HA(a:jn)(c:Int):nH (a.map .int) (.int c)=(nB a c).map .int:=by unfold nH nB;rw[OB];by_cases h:c∈a<;>simp[h]
def acZ(c:Int)(V:jn)(a:V.length<500):zf (.int c) (.Z3 .set []<|V.map .int)=Y (.bl (!decide (c∈V)),I):=by unfold zf N9;simp only;rw[jz ⟨Ah V,rfl,by simpa using a⟩,OB];rfl
def GZ(T V:jn):Prop:=V.Nodup/\∀v∈V,v∈T
def GZ.fold{T V cs:jn}(h:GZ T V)(a:∀c∈cs,c∈T):GZ T (cs.foldl nB V):=⟨DM cs V h.1,λv hv=>((xb cs V v).mp hv).elim (h.2 v)<|a v⟩
def GZ.len{T V:jn}(a:(TD T)<=100)(h:GZ T V):V.length<=100:=lY (vQ V T h.1 h.2) a
abbrev Q7:FS:=jA (oP<|Ay 3<|lW 6) ki
section
variable {T:jn}(a:T.length<=100)
include a
theorem Sb(b d f i j:Sl)(G:Dn):∀(cs V:jn)(k:Sl),(∀c∈cs,c∈T)->GZ T V->∃l,mW (jo 6) Q7 (cs.map .int) (b::d::f::sZ V::i::j::k::G)=Y (.nx (b::d::f::sZ (cs.foldl nB V)::i::j::l::G))
 |[],V,k,_,_=>⟨k,rfl⟩
 |c::cs,V,k,h,g=>by
  obtain⟨l,e⟩:=Sb b d f i j G cs (nB V c) (Y (.int c,I)) (λc m=>h c<|kn _ m) (g.fold (cs:=[c]) λx n=>by cases DR.mp n;exact h c la);refine⟨l,?_⟩;have o:=g.len a
  have s1:Q7 (b::d::f::sZ V::i::j::Y (.int c,I)::G)=Y (.nx (b::d::f::sZ (nB V c)::i::j::Y (.int c,I)::G)):=by refine(jq<|oO (r:=(.Z4,I)) (δ1:=b::d::f::sZ (nB V c)::i::j::Y (.int c,I)::G) ?_).trans rfl;show(if(V.map D.int).all Hm=C/\Hm (.int c)=C/\(V.map D.int).length<500 then Y ((D.Z4,I),b::d::f::Y (D.Z3 .set []<|nH (V.map .int)<|.int c,C)::i::j::Y (.int c,I)::G)else U)=_;rw[jz ⟨Ah V,rfl,by simp;lia⟩,HA]
  show(Q7 (b::d::f::sZ V::i::j::Y (.int c,I)::G)).bind _=_;rw[s1];exact e
end
def abV:∀(k:Nat)(r f t:jn),t∈pM k r f->∀x∈t,x∈f\/∃y∈r,x=y*1\/x=y* -1:=by
 intro e
 induction e with
 |zero=>intro r f t h x a;simp[pM]at h;subst h;exact .inl a
 |succ k d=>
  intro r f t h x a;simp only[pM,yM,qm,sL]at h;obtain⟨v,hv,h⟩:=h
  have key:∀s:Int,(s=1\/s= -1)->t∈pM k (r.eraseIdx v) (f++[r.getD v 0*s])->x∈f\/∃y∈r,x=y*1\/x=y* -1:=by
   intro s b h;rcases d _ _ t h x a with h1|⟨y,c,h1⟩
   .rcases qm.mp h1 with h1|h1
    .exact .inl h1
    simp at h1;refine .inr ⟨r.getD v 0,pA hv,?_⟩;rw[sD];rcases b with rfl|rfl<;>simp[h1]
   exact .inr ⟨y,List.mem_of_mem_eraseIdx c,h1⟩
  rcases h with h|h
  .exact key 1 (.inl J) h
  exact key (-1) (.inr J) h
def acL{n:Nat}{t:jn}(h:t∈pM n (st n) []):JH n t:=by
 refine⟨acK h,λx a=>?_⟩;rcases abV n _ _ t h x a with h1|⟨y,b,h1⟩
 .simp at h1
 have:=KC.mp b;unfold ab;rcases h1 with rfl|rfl<;>split<;>omega
def JH.abs(h:JH n t):JH n (t.map ab):=by refine⟨by simpa using h.1,λx a=>?_⟩;obtain⟨y,b,rfl⟩:=jD a;have:=h.2 y b;rw[uc (i:=ab y)<|by lia];exact this
def Ou(l:A5)(P:List Int->Prop)(b:Bool)(n:Int)(h:∀a,∃i c,P c/\l [pS a b,pI n]=Y (enc c,[Z6 i b,ii n])):∀(k:List D)(f:jY)(a:Int)(x:Sl),(∀c∈f,P c)->TD f+TD k<=1000->
  ∃(i:Int)(j:jY)(o:Sl),(∀c∈j,P c)/\(TD j)=TD f+TD k/\lD (jo 2) kP (lb<|kc l [jm 0,jm 1]) k (f.map cD) [Z6 a b,ii n,x]=Y (j.map cD,[Z6 i b,ii n,o]):=by
 intro A
 induction A with
 |nil=>intro f a x m _;exact⟨a,f,x,m,by simp,rfl⟩
 |cons d k w=>
  intro f a x m p;obtain⟨a1,z,v,r⟩:=h a
  obtain⟨i,j,o,t,q,e⟩:=w (f++[z]) a1 (Y (d,I)) (λy g=>by
   rcases qm.mp g with g|g
   .exact m y g
   simp at g;subst g;exact v) (by simp at p ⊢;lia)
  refine⟨i,j,o,t,by simp at q ⊢;lia,?_⟩;have u:(f.map cD).length<sizeLine:=by rw[kT];simp at p ⊢;lia
  have s:kc l [jm 0,jm 1] [Z6 a b,ii n,Y (d,I)]=Y (enc z,[Z6 a1 b,ii n,Y (d,I)]):=
   lJ (δ1:=[Z6 a b,ii n,Y (d,I)]) (os:=[.slot 0,.slot 1]) (args:=[pS a b,pI n]) rfl rfl (JS 0) r
  rw[lD,show jo 2 d [Z6 a b,ii n,x]=Y [Z6 a b,ii n,Y (d,I)]from J];simp only[kQ,yW,yX];rw[s];simp only[kQ];rw[jz u];rw[nM]at e;exact e
def AI(l:A5)(P:List Int->Prop)(b:Bool)(n:Int)(h:∀a,∃f c,P c/\l [pS a b,pI n]=Y (enc c,[Z6 f b,ii n]))(k:List D)(hd:(TD k)<=1000)(a:Int)(g i:Sl)(d:Dn)(o:DK)(m:o (Z6 a b::g::i::ii n::d)=Y (k,Z6 a b::g::i::ii n::d)):
  ∃(f:Int)(j:jY),(∀c∈j,P c)/\(TD j)=TD k/\kJ [0,3] 1 o (jo 2) kP (lb<|kc l [jm 0,jm 1]) (Z6 a b::g::i::ii n::d)=Y ((.lst<|j.map cD,C),Z6 f b::g::i::ii n::d):=by
 obtain⟨f,j,q,h1,p,e⟩:=Ou l P b n h k [] a U (by simp) (by simpa using hd);refine⟨f,j,h1,by simpa using p,?_⟩;unfold kJ;rw[m];simp only[kQ,kG,qx];rw[show kM (Z6 a b::g::i::ii n::d) [.slot 0,.slot 3]=Y [pS a b,pI n]from J];simp only[kQ];rw[jz (show(kh [AY.slot 0,AY.slot 3] [(D.lst [.int a,.bl b],C),pI n]).Nodup from(JS 0))];rw[show(cc Y [(D.lst [.int a,.bl b],C),(D.int n,I)]++af 1 U:Dn)=[Z6 a b,ii n,U]from J];rw[show([]:List D)=([]:List (List Int)).map cD from J,e];rfl
def Og(a:jY)(v:Nat):∃m,m<=v/\PX.BY (a.map cD) U (Y (v:Int))=(a.take m).map cD:=by refine⟨min v<|TD a,by lia,?_⟩;unfold PX.BY;rw[HT.Vo,HT.WH,rg,kN,List.drop_zero,Nat.sub_zero]
def JN.take(h:JN a)(m:Nat):JN (a.take m):=wf (xM m a) h
def DG.take(h:DG n a)(m:Nat):DG n (a.take m):=⟨List.Nodup.sublist (xM m a) h.1,λc b=>h.2 c<|xD b⟩
def OJ(t:jn)(a:(TD t)<=100):SO [Y (cD t,I)]=Y ((cD<|t.map ab,I),[Y (cD t,I)]):=by
 obtain⟨b,e⟩:=AL (jT (g1 EM) [jm 0]) (λd=>.int (ab<|J1 d)) [] (t.map .int) [] U (by intro d hd;obtain⟨i,_,rfl⟩:=jD hd;exact⟨I,rfl⟩) (by rw[kT];simp;lia)
 simp at e;refine ku (os:=[.val (.lst<|(t.map ab).map .int,C)]) (oE<|jQ ?_) J J;unfold kJ;rw[show DX [Y (cD t,I)]=Y (t.map .int,[Y (cD t,I)])from J];simp only[kQ,qx,xY,kh,mS,nv,uK,eG,cV];rw[e,ky];rfl
def XF{f:F}{c:DK}{e a:Dn}{b d:List D}{h:Sl}(h1:c e=Y (b,a))(g:lD (jo 0) kP (lb f) b [] [U]=Y (d,[h])):kJ [] 1 c (jo 0) kP (lb f) e=Y ((.lst d,C),a):=by unfold kJ;rw[h1];simp only[kQ,qx,xY,kh,mS,nv,uK,eG,cV];rw[g];rfl
def acJ(a:jY)(m:(TD a)<=1000)(l:∀t∈a,TD t<=100)(b c f g i j k:Sl)(o:Bool):kJ [] 1 (lO<|lW 7) (jo 0) kP Wa [b,c,f,g,i,j,k,Y (.lst<|a.map cD,o)]=Y ((.lst<|(a.map<|cc ab).map cD,C),[b,c,f,g,i,j,k,Y (.lst<|a.map cD,I)]):=by
 obtain⟨n,e⟩:=AL SO (λd=>cD<|(JG d).map ab) [] (a.map cD) [] U (by intro d hd;obtain⟨t,h,rfl⟩:=jD hd;refine⟨I,?_⟩;rw[nY];exact OJ t<|l t h) (by rw[kT];simp;lia)
 simp at e;have:(a.map<|(λd=>cD<|(JG d).map ab)∘cD)=a.map (cD∘cc ab):=ou λt _=>by simp only[bI,nY]
 rw[this]at e;rw[ky];exact XF J e
def yx(n:Nat)(a:jY):Prop:=n<=5/\DG n a/\JN a/\(TD a)<=30
abbrev Ka(n:Nat)(a:jY):D:=.tup [.int n,.tup<|a.map cD]
abbrev rS(n:Nat)(a:jY):Sl:=Y (Ka n a,I)
noncomputable abbrev lv(L:List D):Sl:=Y (.lst L,C)
def abl(h:lq fs δ=lq b a):kc ev fs δ=kc ev b a:=by unfold kc;rw[h]
def aci(a:Int)(b:Bool)(lo d:Nat)(h1:lo<=d)(h5:d<=5):∃Y' n h,yx n h/\lo<=n/\n<=d/\oF [pS a b,pI lo,pI d]=Y ((Ka n h,Tk),[Z6 Y' b,ii lo,ii d]):=by
 obtain⟨v,a1,v0,v1,e1⟩:=pe a b ((d:Int)-lo+1) (by lia) (by lia);obtain⟨w,s,w0,w1,e2⟩:=pe a1 b 4 (by lia) (by lia);obtain⟨n,hn⟩:∃n:Nat,(lo:Int)+v=n:=⟨(lo+v).toNat,by lia⟩
 have pre:∀g,jA Wh (jA VQ g) [Z6 a b,ii lo,ii d,SS,SS,SS,SS,SS]=g [Z6 s b,ii lo,ii d,ii n,ii w,SS,SS,SS]:=by
  intro g;refine(jq (δ1:=[Z6 a1 b,ii lo,ii d,ii n,SS,SS,SS,SS]) ?_).trans ?_
  .refine kH (i:=3) (δ1:=[Z6 a1 b,ii lo,ii d,SS,SS,SS,SS,SS]) (lB (o1:=.slot 1) (o2:=.val (.int v,Tk)) Tl (jQ<|e1 _ _ _ rfl rfl) Tl Tl ?_) (show 3<8 by decide);rw[WM,hn]
  exact jq (kH (i:=4) (δ1:=[Z6 s b,ii lo,ii d,ii n,SS,SS,SS,SS]) (e2 _ [ii lo,ii d,ii n,SS,SS,SS,SS] _ rfl rfl) (show 4<8 by decide))
 by_cases hz:n=0
 .subst hz;refine⟨s,0,[],⟨by lia,⟨by simp,by simp⟩,b8,by simp⟩,by lia,by lia,?_⟩;refine mB (δ:=[Z6 s b,ii lo,ii d,ii (0:Nat),ii w,SS,SS,SS]) ⟨rfl,by decide,rfl⟩<|(pre _).trans ?_;refine lz ((tu (δ1:=[Z6 s b,ii lo,ii d,ii (0:Nat),ii w,SS,SS,SS])<|by kernel_rfl).trans<|lz<|oi ?_)
  kernel_rfl
 have n1:1<=n:=by lia
 have G:n<=5:=by lia
 obtain⟨u,I,u0,u1,e3⟩:=pe s b 3 (by lia) (by lia)
 let Z:List Int:=[4,8,13]
 let m:=Z.getD u.toNat 0
 have hm:0<m/\m<=13:=by rcases(show u=0\/u=1\/u=2 by lia)with rfl|rfl|rfl<;>decide
 obtain⟨c,L,q0,q1,e4⟩:=pe I b m hm.1 (by lia);obtain⟨f,rfl⟩:∃f:Nat,c=f:=⟨c.toNat,by lia⟩
 have i1:wI (jm 5) [Z6 L b,ii lo,ii d,ii n,ii w,ii f,SS,SS]=Y (jU 0 f,[Z6 L b,ii lo,ii d,ii n,ii w,ii f,SS,SS]):=qj (o:=.slot 5) Tl Tl (by lia);obtain⟨C,l,bH,n8,e5⟩:=AI nF (A0 n) b n (λa=>acx a b n n1 G) (jU 0 f) (by simp[jU];lia) L (ii lo) (ii d) [ii w,ii f,SS,SS] (wI<|jm 5) i1;have k8:(TD l)<13:=by simp[jU]at n8;lia
 have H:∃(j:Int)(A:jY)(q:Sl),(∀c∈A,A0 n c)/\(TD A)<500/\zC0 [Z6 C b,ii lo,ii d,ii n,ii w,ii f,lv<|l.map cD,SS]=Y (.nx [Z6 j b,ii lo,ii d,ii n,ii w,ii f,lv<|A.map cD,q]):=by
  by_cases hw:0<w
  .obtain⟨k,hk,bW⟩:∃k:Nat,(1:Int)+w%2=k/\k<=2:=⟨(1+w%2).toNat,by lia,by lia⟩
   have i2:wI V3 [Z6 C b,ii lo,ii d,ii n,ii w,ii f,lv<|l.map cD,SS]=Y (jU 0 k,[Z6 C b,ii lo,ii d,ii n,ii w,ii f,lv<|l.map cD,SS]):=by
    refine qj (o:=.val (.int k,Tk)) (jQ ?_) Tl (by lia);rw[<-hk]
    kernel_rfl
   obtain⟨j,B,F,X,e6⟩:=AI mX (JH n) b n (λa=>by obtain⟨Y',t,O,e⟩:=abh a b n G;exact⟨Y',t,acL O,e⟩) (jU 0 k) (by simp[jU];lia) C (ii lo) (ii d) [ii w,ii f,lv<|l.map cD,SS] _ i2
   have Q:(TD B)<=1000:=by simp[jU]at X;lia
   have th:∃x:List (List Int),(∀t∈x,JH n t)/\∀g,jA zC1 g [Z6 j b,ii lo,ii d,ii n,ii w,ii f,lv<|l.map cD,lv<|B.map cD]=g [Z6 j b,ii lo,ii d,ii n,ii w,ii f,lv<|l.map cD,lv<|x.map cD]:=by
    by_cases h3:w=3
    .refine⟨B.map<|cc ab,λt O=>?_,λg=>?_⟩
     .obtain⟨t',W,rfl⟩:=jD O;exact(F t' W).abs
     refine jq ((tu (δ1:=[Z6 j b,ii lo,ii d,ii n,ii w,ii f,lv<|l.map cD,lv<|B.map cD])<|ny (o:=Tk)<|lB (o1:=.slot 4) (o2:=.val (.int 3,Tk)) Tl Tl Tl Tl<|by rw[RQ,h3];rfl).trans<|(jq<|kH (i:=7) (δ1:=[Z6 j b,ii lo,ii d,ii n,ii w,ii f,lv<|l.map cD,Y (.lst<|B.map cD,Tk)]) (acJ B Q (λt O=>by have:=(F t O).1;lia) _ _ _ _ _ _ _ Td) (show 7<8 by decide)).trans Tl)
    refine⟨B,F,λg=>jq<|(se (δ1:=[Z6 j b,ii lo,ii d,ii n,ii w,ii f,lv<|l.map cD,lv<|B.map cD])<|ny (o:=Tk)<|lB (o1:=.slot 4) (o2:=.val (.int 3,Tk)) Tl Tl Tl Tl<|by rw[RQ,DI,nO h3]).trans Tl⟩
   obtain⟨x,T,th⟩:=th;obtain⟨vs,h,M,P,S,R,D,n4⟩:=Wz bH (by lia);obtain⟨y,V,ct⟩:=Og h 2;obtain⟨A,q,U,_,e7⟩:=acw G T (M.take y) Td;refine⟨j,A,q,U.2,by have:=U.len G;lia,?_⟩;refine(tu (δ1:=[Z6 C b,ii lo,ii d,ii n,ii w,ii f,lv<|l.map cD,SS])<|ny (o:=Tk)<|lB (o1:=.slot 4) (o2:=.val (.int 0,Tk)) Tl Tl Tl Tl<|by rw[TF,nW (show w>0 from hw)]).trans ?_;refine(jq<|kH (i:=7) e6 (show 7<8 by decide)).trans ((th _).trans<|(jq<|kH (i:=6) (δ1:=[Z6 j b,ii lo,ii d,ii n,ii w,ii f,lv<|l.map cD,q]) (lJ (δ1:=[Z6 j b,ii lo,ii d,ii n,ii w,ii f,lv<|l.map cD,lv<|x.map cD]) (os:=[.val (.lst<|(h.take y).map cD,Td),.slot 7]) (args:=[(.lst<|(h.take y).map cD,Tk),(.lst<|x.map cD,Td)]) (oq (δ1:=[Z6 j b,ii lo,ii d,ii n,ii w,ii f,lv<|l.map cD,lv<|x.map cD]) (jQ ?_) Tl) Tl (JS 7) e7) (show 6<8 by decide)).trans Tl)
   have f1:Pg [Z6 j b,ii lo,ii d,ii n,ii w,ii f,lv<|l.map cD,lv<|x.map cD]=Y ((.lst<|h.map cD,Td),[Z6 j b,ii lo,ii d,ii n,ii w,ii f,lv<|l.map cD,lv<|x.map cD]):=
    ku (os:=[.val (.Z3 .set []<|vs.map cD,Td)]) (oE<|jQ<|ku (os:=[.slot 6]) Tl Tl D) rfl n4
   unfold BP;rw[jQ f1];simp only[kQ];rw[show Gw [Z6 j b,ii lo,ii d,ii n,ii w,ii f,lv<|l.map cD,lv<|x.map cD]=Y (.val (.int 2,Tk),[Z6 j b,ii lo,ii d,ii n,ii w,ii f,lv<|l.map cD,lv<|x.map cD])from Tl];simp only[kQ,GP];rw[show NC SS (Y 2) (.lst<|h.map cD)=Y (.lst<|PX.BY (h.map cD) SS<|Y 2,Td)from Tl];simp only[kQ];rw[show PX.BY (h.map cD) SS (Y 2)=(h.take y).map cD from ct]
  refine⟨C,l,SS,bH,by lia,?_⟩;exact(se (δ1:=[Z6 C b,ii lo,ii d,ii n,ii w,ii f,lv<|l.map cD,SS])<|ny (o:=Tk)<|lB (o1:=.slot 4) (o2:=.val (.int 0,Tk)) Tl Tl Tl Tl<|by rw[TF,nO (show ¬w>0 from hw)]).trans Tl
 obtain⟨j,A,q,U,bB,H⟩:=H;obtain⟨vs,h,M,P,S,R,D,n4⟩:=Wz U bB
 have f1:Pg [Z6 j b,ii lo,ii d,ii n,ii w,ii f,lv<|A.map cD,q]=Y ((.lst<|h.map cD,Td),[Z6 j b,ii lo,ii d,ii n,ii w,ii f,lv<|A.map cD,q]):=
  ku (os:=[.val (.Z3 .set []<|vs.map cD,Td)]) (oE<|jQ<|ku (os:=[.slot 6]) Tl Tl D) rfl n4
 have last:∃(z:Int)(E:jY),DG n E/\JN E/\(TD E)<=30/\G4 SN V7 ki [Z6 j b,ii lo,ii d,ii n,ii w,ii f,lv<|h.map cD,q]=Y (.nx [Z6 z b,ii lo,ii d,ii n,ii w,ii f,lv<|E.map cD,q]):=by
  have N:SN [Z6 j b,ii lo,ii d,ii n,ii w,ii f,lv<|h.map cD,q]=Y (decide<|((TD h):Int)>30,[Z6 j b,ii lo,ii d,ii n,ii w,ii f,lv<|h.map cD,q]):=
   ny (o:=Tk) (lB (o1:=.val (.int<|TD h,Tk)) (o2:=.val (.int 30,Tk)) (jQ<|ku (os:=[.slot 6]) Tl Tl<|by simp) Tl Tl Tl<|TF _ _)
  by_cases hb:((TD h):Int)>30
  .obtain⟨p,z,p0,p1,e8⟩:=pe j b 30 (by lia) (by lia);obtain⟨J,rfl⟩:∃J:Nat,p=J:=⟨p.toNat,by lia⟩
   obtain⟨y,V,ct⟩:=Og h J;refine⟨z,h.take y,M.take y,P.take y,by rw[uR];lia,?_⟩;rw[nW hb]at N;refine(tu N).trans ((jq<|kH (i:=6) (δ1:=[Z6 z b,ii lo,ii d,ii n,ii w,ii f,lv<|h.map cD,q]) (r:=(.lst<|(h.take y).map cD,Td)) ?_ (show 6<8 by decide)).trans Tl);unfold BP;rw[show jm 6 [Z6 j b,ii lo,ii d,ii n,ii w,ii f,lv<|h.map cD,q]=Y (.slot 6,[Z6 j b,ii lo,ii d,ii n,ii w,ii f,lv<|h.map cD,q])from Tl];simp only[kQ];rw[jQ<|e8 _ [ii lo,ii d,ii n,ii w,ii f,lv<|h.map cD,q] _ rfl rfl];simp only[kQ,GP];rw[show res (Z6 z b::[ii lo,ii d,ii n,ii w,ii f,lv<|h.map cD,q]) (.slot 6)=Y (.lst<|h.map cD)from Tl];simp only[kQ];rw[show NC SS (Y (J:Int)) (.lst<|h.map cD)=Y (.lst<|PX.BY (h.map cD) SS<|Y (J:Int),Td)from Tl,ct];rfl
  rw[nO hb]at N;exact⟨j,h,M,P,by lia,(se N).trans Tl⟩
 obtain⟨z,E,k1,k2,k3,last⟩:=last;refine⟨z,n,E,⟨G,k1,k2,k3⟩,by lia,by lia,?_⟩;refine mB (δ:=[Z6 z b,ii lo,ii d,ii n,ii w,ii f,lv<|E.map cD,q]) ⟨rfl,by decide,rfl⟩<|(pre _).trans ?_;refine(jq<|(se (δ1:=[Z6 s b,ii lo,ii d,ii n,ii w,SS,SS,SS])<|by simp[hz]).trans Tl).trans ?_;refine(jq (δ1:=[Z6 L b,ii lo,ii d,ii n,ii w,ii f,SS,SS]) ?_).trans ?_
 .refine kH (i:=5) (δ1:=[Z6 L b,ii lo,ii d,ii n,ii w,SS,SS,SS]) ?_ (show 5<8 by decide)
  have em:jB SQ [Z6 s b,ii lo,ii d,ii n,ii w,SS,SS,SS]=Y (.val (.int m,Tk),[Z6 I b,ii lo,ii d,ii n,ii w,SS,SS,SS]):=
   jQ (lB (o1:=.val (.lst<|Z.map .int,Td)) (o2:=.val (.int u,Tk)) (jQ (δ1:=[Z6 s b,ii lo,ii d,ii n,ii w,SS,SS,SS])<|by kernel_rfl) (jQ<|e3 _ [ii lo,ii d,ii n,ii w,SS,SS,SS] _ rfl rfl) Tl Tl<|Xe u0<|by simpa[Z]using u1)
  have K:=e4 (λ_=>Y (.val (.int m,Tk),[Z6 I b,ii lo,ii d,ii n,ii w,SS,SS,SS])) [ii lo,ii d,ii n,ii w,SS,SS,SS] (.val (.int m,Tk)) Tl Tl
  have hf:lq [jm 0,jB SQ] [Z6 s b,ii lo,ii d,ii n,ii w,SS,SS,SS]=lq [jm 0,λ_=>Y (.val (.int m,Tk),[Z6 I b,ii lo,ii d,ii n,ii w,SS,SS,SS])] (Z6 I b::[ii lo,ii d,ii n,ii w,SS,SS,SS]):=by rw[oq (o1:=.slot 0) Tl em];rfl
  exact(abl hf).trans K
 refine(jq<|kH (i:=6) e5 (show 6<8 by decide)).trans ?_;refine(jq H).trans ?_;refine(jq<|kH (i:=6) f1 (show 6<8 by decide)).trans ?_;refine(jq last).trans (lz<|oi ?_)
 kernel_rfl
noncomputable abbrev Bi(a:List D):Dn:=a.map λd=>Y (d,I)
theorem tE:∀(os:List AY)(a:List D),kh os (a.map λd=>(d,I))=[]
 |[],_=>by simp[kh]
 |_::_,[]=>by simp[kh]
 |o::os,d::a=>by cases o<;>simp[kh,tE os a]
theorem D3:∀(os:List AY)(b:List D)(a c:Dn),wb os (b.map λd=>(d,I)) a c=c
 |[],_,_,_=>by simp[wb]
 |_::_,[],_,_=>by kernel_rfl
 |_::_,_::_,[],_=>by kernel_rfl
 |o::os,d::b,x::xs,c=>by cases o<;>simp[wb,D3 os b xs]
def Ve{f:F}{ti:FT}{g:D->D}{p:D->Bool}{pre:Dn}:∀(l a:List D)(x:Sl),(∀d∈l,ti (pre++[Y (d,I)])=Y (p d,pre++[Y (d,I)])/\(p d=C->∃o,f (pre++[Y (d,I)])=Y ((g d,o),pre++[Y (d,I)])))->TD a+TD l<=sizeLine->
  ∃b,lD (jo<|TD pre) ti (lb f) l a (pre++[x])=Y (a++(l.filter p).map g,pre++[b]):=by
 intro r
 induction r with
 |nil=>intro a x _ _;exact⟨x,by simp[lD]⟩
 |cons d l m=>
  intro a x h j;obtain⟨h1,n⟩:=h d la;have q:(TD a)<sizeLine:=by simp at j;lia
  rw[lD,C3];simp;rw[h1]
  cases k:p d
  .obtain⟨b,e⟩:=m a (Y (d,I)) (λc i=>h c<|kn _ i) (by simp at j ⊢;lia);exact⟨b,by simp[e,k]⟩
  obtain⟨o,hd⟩:=n k;obtain⟨b,e⟩:=m (a++[g d]) (Y (d,I)) (λc i=>h c<|kn _ i) (by simp at j ⊢;lia);refine⟨b,?_⟩;simp;rw[hd];simp;rw[jz q];simp;rw[e];simp[k]
def Ho{caps:kz}{fi:DK}{f:F}{ti:FT}{δ δ1:Dn}{l args:List D}(g:D->D)(p:D->Bool)(h1:fi δ=Y (l,δ1))(a:kM δ1 (caps.map .slot)=Y (args.map λd=>(d,I)))(b:(TD args)=TD caps)
  (h:∀d∈l,ti (Bi args++[Y (d,I)])=Y (p d,Bi args++[Y (d,I)])/\(p d=C->∃o,f (Bi args++[Y (d,I)])=Y ((g d,o),Bi args++[Y (d,I)])))(c:(TD l)<=10000):
  kJ caps 1 fi (jo<|TD caps) ti (lb f) δ=Y ((.lst<|(l.filter p).map g,C),δ1):=by
 obtain⟨i,e⟩:=Ve (f:=f) (ti:=ti) (g:=g) (p:=p) (pre:=Bi args) l [] U h (by rw[kT];simp;lia);unfold kJ;rw[h1];simp only[kQ];rw[a];simp only[kQ,tE,nv,ky,D3];rw[show jo (TD caps)=jo (Bi args).length from by rw[kN,b]];rw[show((args.map<|Y∘λd=>(d,I))++af 1 U:Dn)=Bi args++[U]from J,e];simp
def AH{caps:kz}{fi:DK}{f:F}{δ δ1:Dn}{l args:List D}(g:D->D)(h1:fi δ=Y (l,δ1))(a:kM δ1 (caps.map .slot)=Y (args.map λd=>(d,I)))(b:(TD args)=TD caps)
  (h:∀d∈l,∃o,f (Bi args++[Y (d,I)])=Y ((g d,o),Bi args++[Y (d,I)]))(c:(TD l)<=10000):
  kJ caps 1 fi (jo<|TD caps) kP (lb f) δ=Y ((.lst<|l.map g,C),δ1):=by
 rw[Ho g (λ_=>C) h1 a b (λd hd=>⟨rfl,λ_=>h d hd⟩) c,Vu.mpr λ_ _=>rfl]
def Oh{caps:kz}{fi:DK}{f:F}{δ δ1:Dn}{l args:List D}(p:D->Bool)(h1:fi δ=Y (l,δ1))(a:kM δ1 (caps.map .slot)=Y (args.map λd=>(d,I)))(b:(TD args)=TD caps)
  (h:∀d∈l,∃o,f (Bi args++[Y (d,I)])=Y ((.bl<|p d,o),Bi args++[Y (d,I)]))(c:(TD l)<=10000):
  jT (g1 Ba) [jB<|kJ caps 1 fi (jo<|TD caps) kP<|lb f] δ=Y ((.bl<|l.all p,I),δ1):=
 ku (oE<|jQ<|AH (λd=>.bl (p d)) h1 a b h c) rfl (DV p l)
inductive FIv(P:Dn->Prop)(x:Option Out):Prop where
 |mk (δ:Dn) (_:P δ) (_:x=SI (.nx δ))
def zh{tg:Tg}{fb:FS}(T:List D->Dn->Prop)(step:∀d ds δ,T (d::ds) δ->∃δ1 δ2,tg d δ=Y δ1/\fb δ1=Y (.nx δ2)/\T ds δ2):∀(ds:List D)(δ:Dn),T ds δ->FIv (T []) (mW tg fb ds δ):=by
 intro i
 induction i with
 |nil=>intro δ h;exact⟨δ,h,rfl⟩
 |cons d ds g=>intro δ h;obtain⟨δ1,δ2,h1,b,c⟩:=step d ds δ h;obtain⟨a,e,f⟩:=g δ2 c;refine⟨a,e,?_⟩;unfold mW;rw[h1];simp;rw[b];exact f
def pT{caps:kz}{k:Nat}{fi:DK}{tg:Tg}{ti:FT}{fb:FB}{δ δ1 b:Dn}{l a:List D}{args:List (D×Bool)}(h1:fi δ=Y (l,δ1))(c:kM δ1 (caps.map .slot)=Y args)(d:(kh (caps.map .slot) args).Nodup)(e:lD tg ti fb l [] (args.map Y++af k U)=Y (a,b)):
  kJ caps k fi tg ti fb δ=Y ((.lst a,C),wb (caps.map .slot) args (kR args b) δ1):=by
 unfold kJ;rw[h1];simp;rw[c];simp only[kQ];rw[jz d,e];rfl
def U7(h:f δ=Y ((.bl C,o),δ1)):N6 f g δ=g δ1:=by rw[TJ,h];rfl
def BO(p:D->Bool)(L:jY):((L.map cD).filter p).map (λd=>d)=(L.filter λt=>p<|cD t).map cD:=by rw[tz,Fi];rfl
def XO(x:Int)(c:jn):(c.map D.int).any (λd=>D.Z1 d<|.int x)=c.contains x:=by
 induction c with
 |nil=>rfl
 |cons y c a=>rw[kG,rA,a,List.contains_cons];simp[D.Z1,DI,eq_comm]
def zb(x:Int)(c:jn):oT (.int x) (cD c)=Y (.bl (!c.contains x),I):=by
 have:inD (.int x) (cD c)=Y (c.contains x):=by show(if D.A6 (c.map .int)<=50/\(D.int x).dep<=50 then Y ((c.map D.int).any λd=>D.Z1 d<|.int x)else U)=_;rw[jz ⟨by rw[wU];lia,by simp[D.dep]⟩,XO]
 unfold oT;rw[this];rfl
def Xi(c:jn)(a:jY):MB (cD c) (.lst<|a.map cD)=Y (.bl<|decide<|c∈a,I):=by
 have h:=En c a;unfold oT at h;unfold MB
 cases d:inD (cD c) (.lst<|a.map cD)with
 |none=>rw[d]at h;cases h
 |some b=>rw[d]at h;simp at h ⊢;cases b<;>simp at h ⊢ <;>exact h
def adP{d:D}(h:d.dep<=50):J5 d d=Y (.bl C,I):=by unfold J5;rw[jz ⟨h,h⟩,D.Dg]
def TT(n:Nat)(t:jn):Prop:=(t.map ab).Perm<|st n
def SG(n:Nat)(s:Int):Prop:=1<=ab s/\ab s<=n
def Hb(t u:jn):List Int:=t.map<|led u
def TT.len{n:Nat}{t:jn}(h:TT n t):(TD t)=n:=by simpa using(Qf.mp h).1
def TT.sg{n:Nat}{t:jn}(h:TT n t){x:Int}(a:x∈t):SG n x:=(Qf.mp h).2.1 _ (rT a)
def TT.tok{n:Nat}{t:jn}(h:TT n t):JH n t:=⟨h.len,λx a=>h.sg a⟩
def WA{n:Nat}{s:Int}(h:SG n s):s≠0:=by rintro rfl;have:=h.1;simp[ab]at this
def To{n:Nat}{s:Int}(h:SG n s):SG n (-s):=by unfold SG;rw[pB];exact h
def oh{n:Nat}{s:Int}(h:SG n s):∃k:Nat,k<n/\(s=(k:Int)+1\/s= -((k:Int)+1)):=by
 have:=h;unfold SG ab at this;split at this
 .exact⟨(-s-1).toNat,by omega,.inr<|by omega⟩
 exact⟨(s-1).toNat,by omega,.inl<|by omega⟩
def WB{n k:Nat}(h:k<n):SG n ((k:Int)+1):=by unfold SG;rw[uc<|by lia];lia
def mQ(t:jn)(k:Nat):led t ((k:Int)+1)=t.getD k 0:=by unfold led;rw[jz<|by lia,show((k:Int)+1-1).toNat=k by lia]
def mM(t:jn)(k:Nat):led t (-((k:Int)+1))= -t.getD k 0:=by unfold led;rw[jP<|by lia,show(- -((k:Int)+1)-1).toNat=k by lia]
def Iz{n:Nat}(t:jn){s:Int}(h:SG n s):led t (-s)= -led t s:=by
 obtain⟨k,_,rfl|rfl⟩:=oh h
 .rw[mQ,mM]
 rw[x6,mQ,mM,x6]
def DN{n:Nat}{t:jn}(a:(TD t)=n){s:Int}(h:SG n s):ab (led t s)=(t.map ab).getD ((ab s).toNat-1) 0:=by
 obtain⟨k,hk,rfl|rfl⟩:=oh h
 .rw[mQ,uc (i:=(k:Int)+1)<|by lia,show(((k:Int)+1).toNat-1)=k by lia];simp[a,hk]
 rw[mM,pB,HB<|by lia,show(((k:Int)+1).toNat-1)=k by lia];simp[a,hk]
def TT.led{n:Nat}{t:jn}(h:TT n t){s:Int}(a:SG n s):SG n (led t s):=G3 h.tok a.1 a.2
def ur{n:Nat}{t:jn}(h:TT n t)(u:jn){s:Int}(b:SG n s):PV.led (Hb t u) s=PV.led u (PV.led t s):=by
 obtain⟨k,hk,rfl|rfl⟩:=oh b
 .rw[mQ,mQ];simp[Hb,h.len,hk]
 have a:t.getD k 0∈t:=pA (by rw[h.len];exact hk);rw[mM,mM,Iz u<|h.sg a];simp[Hb,h.len,hk]
def TT.Hb{n:Nat}{t u:jn}(h:TT n t)(a:TT n u):TT n (Hb t u):=by
 unfold TT
 have e:(PV.Hb t u).map ab=(t.map ab).map λj=>(u.map ab).getD (j.toNat-1) 0:=by unfold PV.Hb;rw[ky,ky];refine ou λx d=>?_;exact DN a.len<|h.sg d
 rw[e];refine(h.map _).trans (hH (Fh ?_) a);apply CK
 .simp[st,a.len]
 intro i h1 f;have c:i<n:=by simpa[st]using h1
 have b:((1:Int)+(i:Int)).toNat-1=i:=by lia
 simp only[st,ky,fJ,i8,bI,b];simp[sD,a.len,c]
def zc{n:Nat}{t:jn}(h:TT n t){s r:Int}(g:SG n s)(f:SG n r)(e:PV.led t s=PV.led t r):s=r:=by
 have k:=(Qf.mp h).2.2
 have c:∀{i j:Nat},i<n->j<n->ab (t.getD i 0)=ab (t.getD j 0)->i=j:=λ{i j} a b e=>by
  have l:=h.len
  have:=(Gq (xs:=t.map ab) (i:=i) (j:=j) (h₀:=by simpa[l]using a) (h₁:=by simpa[l]using b) k).mp (by simp;simpa[sD,l,a,b]using e)
  exact this
 have d:∀{i:Nat},i<n->t.getD i 0≠0:=λ{i} a=>WA<|h.sg<|pA (by rw[h.len];exact a);obtain⟨i,a,rfl|rfl⟩:=oh g<;>obtain⟨j,b,rfl|rfl⟩:=oh f
 .rw[mQ,mQ]at e;rw[c a b<|by rw[e]]
 .rw[mQ,mM]at e;have:=c a b (by rw[e,pB]);subst this;exact absurd (show t.getD i 0=0 by lia)<|d a
 .rw[mQ,mM]at e;have:=c a b (by rw[<-e,pB]);subst this;exact absurd (show t.getD i 0=0 by lia)<|d a
 rw[mM,mM]at e;rw[c a b<|by rw[show t.getD i 0=t.getD j 0 by lia]]
def zd{n:Nat}{t u:jn}(h1:(TD t)=n)(a:(TD u)=n)(h:∀s,SG n s->PV.led t s=PV.led u s):t=u:=by apply CK (by rw[h1,a]);intro i b c;have:=h _ (WB (n:=n) (k:=i)<|by lia);rw[mQ,mQ]at this;simpa[sD,b,c]using this
def xX(n:Nat):(st n).length=n:=by simp[st]
def HN(n:Nat):TT n (st n):=by
 have:(st n).map ab=st n:=by
  conv=>rhs;rw[<-uJ (st n)]
  refine ou λx a=>?_;have:=KC.mp a;exact uc (by lia)
 unfold TT;rw[this]
def tH{n:Nat}{s:Int}(h:SG n s):PV.led (st n) s=s:=by
 obtain⟨k,hk,rfl|rfl⟩:=oh h
 .rw[mQ];simp[st,hk];lia
 rw[mM];simp[st,hk];lia
def BK(n:Nat)(t w:jn):Prop:=TD w=n/\∀s,SG n s->PV.led w (PV.led t s)=s
def BK.tt{n:Nat}{t w:jn}(h:BK n t w)(f:TT n t):TT n w:=by
 refine(Di (st n) (w.map ab) (RN n) (λx g=>?_)<|by simp[xX,h.1]).symm;have i:=KC.mp g;have c:SG n x:=by unfold SG;rw[uc<|by lia];lia
 have e:=h.2 x c;have a:=f.led c;have b:ab (PV.led w<|PV.led t x)=x:=by rw[e,uc<|by lia]
 rw[DN h.1 a]at b;rw[<-b];have d:(ab<|PV.led t x).toNat-1<(w.map ab).length:=by have:=a.2;have:=a.1;rw[kN,h.1];lia
 exact pA d
def BK.sym{n:Nat}{t w:jn}(h:BK n t w)(b:TT n t):BK n w t:=by refine⟨b.len,λs a=>?_⟩;have c:=h.tt b;exact zc c (b.led<|c.led a) a<|h.2 _ (c.led a)
def BK.ML{n:Nat}{t w:jn}(h:BK n t w)(b:TT n t):Hb t w=st n:=
 zd (n:=n) (by simp[Hb,b.len]) (xX n) λs a=>by rw[ur b w a,h.2 s a,tH a]
def J7(n:Nat)(t:jn):Nat->List Int
 |0=>st n
 |k+1=>Hb (J7 n t k) t
theorem pL{n:Nat}{t:jn}(h:TT n t):∀k,TT n<|J7 n t k
 |0=>HN n
 |k+1=>(pL h k).Hb h
theorem yY{n:Nat}{t:jn}(h:TT n t)(i:Nat){s:Int}(a:SG n s):∀j,PV.led (J7 n t<|i+j) s=PV.led (J7 n t j) (PV.led (J7 n t i) s)
 |0=>by rw[show J7 n t 0=st n from J,tH<|(pL h i).led a];rfl
 |j+1=>by show PV.led (PV.Hb (J7 n t<|i+j) t) s=PV.led (PV.Hb (J7 n t j) t) _;rw[ur (pL h _) t a,ur (pL h j) t<|(pL h i).led a,yY h i a j]
theorem HZ{n:Nat}{t:jn}(h:TT n t){d:Nat}{s:Int}(a:SG n s)(e:PV.led (J7 n t d) s=s):∀q,PV.led (J7 n t<|d*q) s=s
 |0=>tH a
 |q+1=>by rw[Nat.mul_succ,yY h _ a,HZ h a e q,e]
def Ub{c:Type}[DecidableEq c](f:Nat->c)(m:List c):∀k:Nat,(∀i,i<=k->f i∈m)->TD m<=k->∃i j,i<j/\j<=k/\f i=f j:=λk l s=>by
 apply NE;intro o
 have q:((am<|k+1).map f).Nodup:=by rw[f8,pd];refine(OP (n:=k+1)).imp_of_mem λ{a b} r g d e=>o ⟨a,b,d,?_,e⟩;have:=sL.mp g;lia
 have:=vQ _ m q λx p=>by obtain⟨i,h,rfl⟩:=jD p;exact l i (by have:=sL.mp h;lia)
 simp at this;lia
def W0{n:Nat}(f:n<=5){t:jn}(h:TT n t){s:Int}(a:SG n s):∃d,1<=d/\d<=10/\PV.led (J7 n t d) s=s:=by
 obtain⟨i,j,g,c,e⟩:=Ub (λi=>PV.led (J7 n t i) s) (st n++(st n).map λx=> -x) 10 (λi _=>by
  have:=(pL h i).led a;rw[qm,rZ];obtain⟨k,hk,e|e⟩:=oh this
  .left;rw[e];exact KC.mpr (by lia)
  right;exact⟨(k:Int)+1,KC.mpr<|by lia,by rw[e]⟩) (by simp[xX];lia)
 refine⟨j-i,by lia,by lia,?_⟩;have b:=yY h (j-i) a i;rw[show j-i+i=j by lia]at b;exact zc (pL h i) ((pL h _).led a) a (by rw[<-b];exact e.symm)
def T3{n:Nat}(b:n<=5){t:jn}(h:TT n t):J7 n t 2520=st n:=by
 refine zd (n:=n) (pL h _).len (xX n) λs a=>?_;obtain⟨d,h1,c,e⟩:=W0 b h a
 have hd:d*(2520 / d)=2520:=by
  have:d=1\/d=2\/d=3\/d=4\/d=5\/d=6\/d=7\/d=8\/d=9\/d=10:=by lia
  rcases this with rfl|rfl|rfl|rfl|rfl|rfl|rfl|rfl|rfl|rfl<;>rfl
 rw[<-hd,HZ h a e,tH a]
def PU{n:Nat}{t:jn}(h:TT n t):J7 n t 1=t:=
 zd (n:=n) (pL h 1).len h.len λs a=>by rw[show J7 n t 1=PV.Hb (st n) t from J,ur (HN n) t a,tH a]
def lc(t c:jn):List Int:=(nR JC<|(c.map<|led t).map D.int).map J1
def Kh(t c d:jn):Prop:=d.Perm (c.map<|led t)/\(d.map ab).Pairwise (· < ·)
def EJ{m:List D}{l:jn}(h:m.Perm (l.map D.int)):m=(m.map J1).map D.int/\(m.map J1).Perm l:=by
 obtain⟨k,rfl⟩:=wJ h;have e:(k.map D.int).map J1=k:=by rw[ky];exact uJ k
 rw[e];refine⟨rfl,?_⟩;have:=h.map J1
 rwa [e,ky,show cc (J1∘D.int) l=l from uJ l]at this
def Cg{n:Nat}{t c:jn}(g:TT n t)(h1:(c.map ab).Nodup)(f:∀s∈c,SG n s):((c.map<|led t).map ab).Nodup:=by
 rw[ky,f8,pd];rw[f8,pd]at h1;refine h1.imp_of_mem λ{a b} j k i e=>i ?_;have e:ab (led t a)=ab (led t b):=e;have h:=f a j;have d:=f b k;by_cases q:led t a=led t b
 .rw[zc g h d q]
 have:led t a=led t (-b):=by rw[Iz t d];unfold ab at e;split at e<;>split at e<;>lia
 rw[zc g h (To d) this,pB]
def uv{n:Nat}{t c:jn}(j:TT n t)(g:A0 n c):Kh t c (lc t c)/\(nR JC<|(c.map<|led t).map D.int)=(lc t c).map D.int:=by
 obtain⟨e,i⟩:=EJ<|lj JC<|(c.map<|led t).map D.int;refine⟨⟨i,?_⟩,e⟩;have k:=Cg j (HY g.2.1) λs d=>g.2.2 s d;have f:((lc t c).map ab).Nodup:=(i.map ab).symm.nodup k;have d:=Bv<|(c.map<|led t).map D.int;rw[e,pd]at d;rw[pd];rw[f8,pd]at f;refine(d.and f).imp λ{a b} h=>?_;have h1:ab a<=ab b:=h.1;have l:ab a≠ab b:=h.2
 lia
def Kh.uniq{n:Nat}{t c d e:jn}(h1:Kh t c d)(f:Kh t c e):d=e:=by have g:=h1.2;have h:=f.2;rw[pd]at g h;refine(h1.1.trans f.1.symm).eq_of_pairwise (le:=λa b=>ab a<ab b) (λa b _ _ x y=>absurd x<|by lia) g h
def Kh.cl{n:Nat}{t c d:jn}(h:Kh t c d)(f:TT n t)(a:A0 n c):A0 n d:=by
 refine⟨λe=>a.1 ?_,h.2,λs b=>?_⟩
 .have:=h.1.length_eq;rw[e]at this;simp at this;exact OW.mp this.symm
 obtain⟨x,g,rfl⟩:=jD<|h.1.mem_iff.mp b;exact f.led<|a.2.2 x g
def Xa{n:Nat}{t c:jn}(b:TT n t)(a:A0 n c):A0 n (lc t c):=(uv b a).1.cl b a
def Nr{n:Nat}{t u c:jn}(b:TT n t)(e:TT n u)(a:A0 n c):lc u (lc t c)=lc (Hb t u) c:=by have h1:=(uv b a).1;have d:=(uv e<|Xa b a).1;refine Kh.uniq (n:=n) (t:=Hb t u) (c:=c) ⟨d.1.trans ?_,d.2⟩ (uv (b.Hb e) a).1;refine(h1.1.map _).trans (Fh ?_);rw[ky];exact ou λs f=>(ur b u<|a.2.2 s f).symm
def Nq{n:Nat}{c:jn}(a:A0 n c):lc (st n) c=c:=by
 refine Kh.uniq (n:=n) (t:=st n) (c:=c) (uv (HN n) a).1 ⟨Fh ?_,a.2.1⟩
 conv=>lhs;rw[<-uJ c]
 exact ou λs b=>(tH<|a.2.2 s b).symm
def Xb{n:Nat}{t w c:jn}(a:TT n t)(d:BK n t w)(b:A0 n c):lc w (lc t c)=c:=by rw[Nr a (d.tt a) b,d.ML a,Nq b]
def LR(t:jn)(b a:jY):Prop:=a.Perm (b.map<|lc t)/\JN a
def RJ(b:FO)(a:Dn)(d:D):Prop:= ∃o,b a=Y (o,a)/\res a o=Y d
def FJ(b:FO)(a:Dn)(d:D):Prop:= ∃o,b a=Y (o,a)/\res a o=Y d/\yK a o=Y (d,I)
def FJ.r{c:FO}{δ:Dn}{d:D}(h:FJ c δ d):RJ c δ d:=let⟨o,a,b,_⟩:=h;⟨o,a,b⟩
def jV{i:Nat}{δ:Dn}{d:D}(h:δ[i]?=Y (Y (d,I))):FJ (jm i) δ d:=⟨.slot i,by unfold jm;rw[h],by unfold res;simp[h],by simp[h]⟩
def jR{i:Nat}{δ:Dn}{d:D}{b:Bool}(h:δ[i]?=Y (Y (d,b))):RJ (jm i) δ d:=⟨.slot i,by unfold jm;rw[h],by unfold res;simp[h]⟩
def jE{f:F}{δ:Dn}{d:D}{b:Bool}(h:f δ=Y ((d,b),δ)):FJ (jB f) δ d:=⟨.val (d,b),jQ h,rfl,rfl⟩
def Kq{ev:A5}{c:FO}{δ:Dn}{a:D}{r:D×Bool}{b:Dn}(h:ev [(a,I)]=Y (r,b))(f:FJ c δ a):kc ev [c] δ=Y (r,δ):=by obtain⟨o,h1,_,e⟩:=f;refine(lJ (oE h1) (args:=[a].map λd=>(d,I)) (by simp[e]) (by rw[tE];exact mS) h).trans ?_;rw[D3]
def Kf{c:A5}{e fb:FO}{δ:Dn}{a b:D}{r:D×Bool}{outs:Dn}(h:c [(a,I),(b,I)]=Y (r,outs))(g:FJ e δ a)(i:FJ fb δ b):kc c [e,fb] δ=Y (r,δ):=by obtain⟨o,h1,_,f⟩:=g;obtain⟨l,j,_,k⟩:=i;refine(lJ (oq h1 j) (args:=[a,b].map λd=>(d,I)) (by simp[f,k]) (by rw[tE];exact mS) h).trans ?_;rw[D3]
def jO{g:D->D->Option (D×Bool)}{c d:FO}{δ:Dn}{a b:D}{r:D×Bool}(h:g a b=Y r)(f:RJ c δ a)(i:RJ d δ b):jW g c d δ=Y (r,δ):=by obtain⟨o,h1,e⟩:=f;obtain⟨l,j,k⟩:=i;exact lB h1 j e k h
def jN{g:D->Option (D×Bool)}{c:FO}{b:Dn}{a:D}{r:D×Bool}(h:g a=Y r)(e:RJ c b a):ph g c b=Y (r,b):=by obtain⟨o,h1,d⟩:=e;rw[TH,h1];simp;rw[d];simp;rw[h];rfl
def jC{g:D->Option (D×Bool)}{b:FO}{δ:Dn}{a:D}{r:D×Bool}(h:g a=Y r)(d:RJ b δ a):jT (g1 g) [b] δ=Y (r,δ):=by obtain⟨o,h1,c⟩:=d;exact ku (ds:=[a]) (oE h1) (by simp[c]) h
def JA{f:F}{np:Nat}{args:List (D×Bool)}{r:D×Bool}{δ:Dn}(h1:(TD args)=np/\np<=np/\(args.zipIdx.all λp=>!(p.1.2&&([]:List Nat).contains p.2))=C)(a:f (args.map Y++af (np-np) U)=Y (r,δ)):Ae np np [] (jA (nV f) ki) args=Y (r,kR args δ):=
 mB h1 (lz<|oi a)
def WD{n:Nat}{s:Int}(h:SG n s):s≠0/\ -(n:Int)<=s/\s<=n:=by obtain⟨k,hk,rfl|rfl⟩:=oh h<;>lia
def W9{n:Nat}{u:jn}(d:(TD u)=n){s:Int}(h:SG n s):mG [enc u,pI s]=Y ((.int<|led u s,I),[eN u,ii s]):=by obtain⟨a,b,c⟩:=WD h;exact UD u s a (by rw[d];exact b) (by rw[d];exact c)
def Nf(f:Int->Int)(l:jn):(l.map D.int).map (λd=>D.int<|f<|J1 d)=(l.map f).map D.int:=by rw[ky,ky];rfl
def acv{a:kz}{c:DK}{f:F}{e b:Dn}{l:jn}{args:List D}(g:Int->Int)(h1:c e=Y (l.map D.int,b))(i:kM b (a.map .slot)=Y (args.map λd=>(d,I)))(j:(TD args)=TD a)
  (h:∀x∈l,∃o,f (Bi args++[ii x])=Y ((.int<|g x,o),Bi args++[ii x]))(k:(TD l)<=10000):
  kJ a 1 c (jo<|TD a) kP (lb f) e=Y ((.lst<|(l.map g).map D.int,C),b):=by
 rw[AH (λd=>.int (g<|J1 d)) h1 i j (λd hd=>by obtain⟨x,m,rfl⟩:=jD hd;exact h x m)<|by simpa using k,Nf]
def BK.uniq{n:Nat}{t w v:jn}(c:TT n t)(h1:BK n t w)(a:BK n t v):w=v:=
 zd h1.1 a.1 λs b=>by have e:=(h1.sym c).2 s b;have:=a.2 _ ((h1.tt c).led b);rw[e]at this;exact this.symm
abbrev tZ(l:jn):D:=.tup (l.map .int)
abbrev Q9(os:kz)(a:A5):FS:=jA (G4 Pc (jA (yN 5 os a)<|jA Sw<|jA (oA (lO<|lW 5) (jo 6) Q7) ki) ki) ki
abbrev dZ(a:Sl)(p:List (List Int)×List Int)(b c d:Sl)(G:Dn):Dn:=a::U::Y (.lst<|p.1.map tZ,C)::sZ p.2::b::c::d::G
abbrev iZ(a:Int):Sl:=Y (.int a,I)
section
variable {T:jn}(d:T.length<=100){R:Int->List Int}{j:A5}{os:kz}{G:Dn}
 (f:∀a∈T,(∀c∈R a,c∈T)/\∀b c2 c3 c5 c6:Sl,yN 5 os j (b::SS::c2::c3::iZ a::c5::c6::G)=SI (.nx (b::SS::c2::c3::iZ a::SI (tZ<|R a,Tk)::c6::G)))
include d f
theorem Q8(b:Sl){a:Int}(q:a∈T)(p:List (List Int)×List Int)(g:GZ T p.2)(w:(TD p.1)<=1000)(m c:Sl):∃s k,Q9 os j (dZ b p (iZ a) m c G)=Y (.nx<|dZ b (nI R p a) (iZ a) s k G):=by
 obtain⟨t,u⟩:=f a q;have v:=g.len d;have n:Pc (dZ b p (iZ a) m c G)=Y (!decide (a∈p.2),dZ b p (iZ a) m c G):=ny (o:=I)<|jO (acZ a p.2<|by lia) (jV J).r<|jR J;unfold nI;by_cases h:a∈p.2
 .rw[nW h]at n;rw[jz h];exact⟨m,c,(jq<|(se n).trans J).trans J⟩
 rw[nO h]at n;rw[jP h];obtain⟨k,e⟩:=Sb d b U (Y (.lst<|p.1.map tZ++[tZ<|R a],C)) (iZ a) (Y (tZ<|R a,I)) G (R a) p.2 c t g;refine⟨Y (tZ<|R a,I),k,(jq<|(tu n).trans<|(jq (δ1:=dZ b p (iZ a) (Y (tZ<|R a,I)) c G)<|u _ _ _ _ _).trans<|(jq<|oO<|nL (i:=2) (l0:=p.1.map tZ) (l:=p.1.map tZ) (r:=(tZ<|R a,I)) (δ1:=dZ b p (iZ a) (Y (tZ<|R a,I)) c G) J J J<|rG<|by simp;lia).trans<|(jq<|(mn (ds:=(R a).map .int) J).trans e).trans ?_).trans J⟩;rw[show dZ b (p.1++[R a],(R a).foldl nB p.2) (iZ a) (Y (tZ<|R a,I)) k G=b::U::Y (.lst<|p.1.map tZ++[tZ<|R a],C)::sZ ((R a).foldl nB p.2)::iZ a::Y (tZ<|R a,I)::k::G by unfold dZ;simp];rfl
theorem QJ{p:List (List Int)×List Int}{a:Int}(c:a∈T)(g:GZ T p.2):GZ T (nI R p a).2/\(nI R p a).1.length<=TD p.1+1:=by
 unfold nI;split
 .exact⟨g,by lia⟩
 exact⟨g.fold (f a c).1,by simp⟩
theorem Sd(b:Sl):∀(as:jn)(p:List (List Int)×List Int)(k c i:Sl),(∀a∈as,a∈T)->GZ T p.2->TD p.1+TD as<=1000->∃m n l,mW (jo 4) (Q9 os j) (as.map .int) (dZ b p k c i G)=Y (.nx<|dZ b (as.foldl (nI R) p) m n l G)
 |[],p,k,c,i,_,_,_=>⟨k,c,i,rfl⟩
 |a::as,p,k,c,i,h,g,u=>by have o:=h a la;obtain⟨g1,g2⟩:=QJ d f o g;simp at u;obtain⟨q,r,s⟩:=Q8 d f b o p g (by lia) c i;obtain⟨m,n,l,e⟩:=Sd b as (nI R p a) (iZ a) q r (λa t=>h a<|kn _ t) g1 (by lia);refine⟨m,n,l,?_⟩;show(Q9 os j<|dZ b p (iZ a) c i G).bind _=_;rw[s];exact e
end
abbrev fsZ(os:kz)(a:A5):FS:=jA OY<|jA (lE 3 ET)<|jA (oA DX (jo 4)<|Q9 os a) LH
theorem acm(a:A5):wN a=fsZ [4,7] a:=rfl
theorem abk(ev:A5):wM ev=fsZ [4,7,8] ev:=rfl
section
variable {T:jn}(f:T.length<=100){R:Int->List Int}{ev:A5}{os:kz}{cs:List (D×Bool)}
 (g:∀a∈T,∀b c2 c3 c5 c6:Sl,yN 5 os ev (b::SS::c2::c3::iZ a::c5::c6::cs.map SI)=SI (.nx (b::SS::c2::c3::iZ a::SI (tZ<|R a,Tk)::c6::cs.map SI)))
include f g
theorem R3(L:Et R T){d:D}(r:∀δ:Dn,δ[0]?=Y (Y (d,I))->DX δ=Y (T.map .int,δ)):∃l,fsZ os ev (sh (d,I) 5 cs)=Y (.rt (.lst<|((T.filter<|kO R).map R).map tZ,C) l):=by
 have k:∀a∈T,(∀c∈R a,c∈T)/\∀b m n j i:Sl,yN 5 os ev (b::U::m::n::iZ a::j::i::cs.map Y)=Y (.nx (b::U::m::n::iZ a::Y (tZ<|R a,I)::i::cs.map Y)):=λa o=>⟨λc q=>(L.cls a o c q).1,g a o⟩
 obtain⟨p,j,i,e⟩:=Sd f k (Y (d,I)) T ([],[]) U U U (λa h=>h) ⟨mS,by simp⟩ (by simp;lia);rw[<-aaZ L];refine⟨dZ (Y (d,I)) (T.foldl (nI R) ([],[])) p j i (cs.map Y) |>.set 2 U,?_⟩;refine(jq (δ1:=Y (d,I)::U::Y (.lst [],C)::U::U::U::U::cs.map Y)<|by simp[sh,kT]).trans ((jq (δ1:=dZ (Y (d,I)) ([],[]) U U U<|cs.map Y) J).trans<|(jq<|(mn (ds:=T.map .int)<|r _ rfl).trans e).trans<|lz J)
end
def Pw{i:A5}{a:Int}{g r:D}{o:List (Sl)}(b c d f e:Sl)(h:i [(.int a,I),(g,I)]=Y ((r,I),o)):yN 5 [4,7] i (b::U::c::d::iZ a::f::e::([(g,I)]:List (D×Bool)).map Y)=Y (.nx (b::U::c::d::iZ a::Y (r,I)::e::([(g,I)]:List (D×Bool)).map Y)):=by unfold yN;rw[show kM (b::U::c::d::iZ a::f::e::([(g,I)]:List (D×Bool)).map Y) (([4,7]:List Nat).map .slot)=Y [(.int a,I),(g,I)]from J];simp only[kQ];rw[jz ⟨rfl,show 5<8 by decide⟩,h];rfl
def Pu{ev:A5}{a:Int}{g g2 r:D}{o:List (Sl)}(b c d f e:Sl)(h:ev [(.int a,I),(g,I),(g2,I)]=Y ((r,I),o)):yN 5 [4,7,8] ev (b::U::c::d::iZ a::f::e::([(g,I),(g2,I)]:List (D×Bool)).map Y)=Y (.nx (b::U::c::d::iZ a::Y (r,I)::e::([(g,I),(g2,I)]:List (D×Bool)).map Y)):=by unfold yN;rw[show kM (b::U::c::d::iZ a::f::e::([(g,I),(g2,I)]:List (D×Bool)).map Y) (([4,7,8]:List Nat).map .slot)=Y [(.int a,I),(g,I),(g2,I)]from J];simp only[kQ];rw[jz ⟨rfl,show 5<9 by decide⟩,h];rfl
end PV
namespace PX
open L2 PySem.SeqAt
section
variable {X:Cx}{k:jv}{c:FO}{a b:bt}{j:Nat}
end
section
variable {X:Cx}{b:kf}{d:L2.St}{H:Hp}{s:jk}
variable {a:jv}{g:FO}{c p:bt}{k:jv}{f:FO}{e:bt}{j:Nat}
end
end PX
namespace PV
open L2 PX
def abO(n:Nat):jU 1 n=(bz 1 n).map λ(k:Nat)=>D.int (k:Int):=by unfold jU;rw[KJ,ky];exact ou λk _=>by simp
def dC(a:jY):D:=.Z3 .dct (a.map cD) (a.map λ_=>.bl C)
theorem BJ:∀l:List Int,(A7<|l.map .int).isSome=C
 |[]=>rfl
 |x::l=>by
  have:=BJ l;simp only[kG,A7]
  cases h:A7 (l.map D.int)with
  |none=>rw[h]at this;cases this
  |some k=>rfl
def IG(c:jn):(vS<|cD c).isSome=C:=BJ c
def QY(a:jY):((a.map cD).all λk=>(vS k).isSome)=C:=by rw[mZ];intro d hd;obtain⟨c,_,rfl⟩:=jD hd;exact IG c
def EG(a:jY)(c:jn):qR (a.map cD) (cD c)=C:=by unfold qR;rw[IG,QY];kernel_rfl
theorem Iq(c:jn):∀a:List (List Int),(mF (a.map cD) (a.map λ_=>.bl C)<|cD c).isSome=decide (c∈a)
 |[]=>rfl
 |x::a=>by
  simp only[kG,mF,Dy];by_cases h:x=c
  .simp[h]
  have: ¬c=x:=λe=>h e.symm;simp[h,this,Iq c a]
def Fe(ev:A5)(d:D):Prop:= ∀b c,ev [(d,b),(d,c)]=Y ((.bl C,I),[Y (d,b),Y (d,c)])
theorem Jh{ev:A5}:∀(l a:List D)(x y:Sl),(∀d∈l,Fe ev d)->TD a+TD l<=10000->∃b c,lD DY kP (lb<|kc ev [jm 0,jm 1]) ((l.zip l).map λp=>.tup [p.1,p.2]) a [x,y]=Y (a++l.map λ_=>.bl C,[b,c])
 |[],a,x,y,_,_=>⟨x,y,by simp[lD]⟩
 |d::l,a,x,y,h,f=>by
  obtain⟨b,c,e⟩:=Jh l (a++[.bl C]) (Y (d,I)) (Y (d,I)) (λg i=>h g<|kn _ i) (by simp at f ⊢;lia);refine⟨b,c,?_⟩;have j:(TD a)<sizeLine:=by rw[kT];simp at f;lia
  simp only[sO,kG,lD];rw[show DY (.tup [d,d]) [x,y]=Y [Y (d,I),Y (d,I)]from J];simp only[kQ,yW,nv,yX];rw[lJ (os:=[.slot 0,.slot 1]) (args:=[(d,I),(d,I)]) J J mS<|h d la I I];simp;rw[jz j];simp;rw[show wb [.slot 0,.slot 1] [(d,I),(d,I)] [Y (d,I),Y (d,I)] [Y (d,I),Y (d,I)]=[Y (d,I),Y (d,I)]from J,e];simp
def Ed{ev:A5}{l:List D}{d:D}(hd:d=.lst l\/d=.tup l)(h:∀d∈l,Fe ev d)(k:(TD l)<=1000):Fe (Ae 2 2 []<|nU ev) d:=λb c=>by
 obtain⟨m,o,e⟩:=Jh (ev:=ev) l [] U U h (by simp;lia)
 have i:kJ [] 2 (yi (jm 0)<|jm 1) DY kP (lb<|kc ev [jm 0,jm 1]) [Y (d,b),Y (d,c)]=Y ((.lst<|l.map λ_=>.bl C,C),[Y (d,b),Y (d,c)]):=by unfold kJ;rw[show yi (jm 0) (jm 1) [Y (d,b),Y (d,c)]=Y ((l.zip l).map λp=>.tup [p.1,p.2],[Y (d,b),Y (d,c)])from by rcases hd with rfl|rfl<;>rfl];simp only[kQ,qx,xY,kh,mS,nv,uK,eG,cV];rw[e];rfl
 have g:jT (g1 Ba) [jB<|kJ [] 2 (yi (jm 0)<|jm 1) DY kP<|lb<|kc ev [jm 0,jm 1]] [Y (d,b),Y (d,c)]=Y ((.bl C,I),[Y (d,b),Y (d,c)]):=
  ku (oE<|jQ i) rfl (by rw[show g1 Ba [.lst<|l.map λ_=>.bl C]=Ba (.lst<|l.map λ_=>.bl C)from J,DV λ_=>C];simp)
 have a:jW J5 LJ LI [Y (d,b),Y (d,c)]=Y ((.bl C,I),[Y (d,b),Y (d,c)]):=by rcases hd with rfl|rfl<;>simp
 have j:kR [(d,b),(d,c)] [Y (d,b),Y (d,c)]=[Y (d,b),Y (d,c)]:=by cases b<;>cases c<;>rfl
 have:=mB (args:=[(d,b),(d,c)]) (np:=2) (n:=2) (asg:=[]) (f:=nU ev) (δ:=[Y (d,b),Y (d,c)]) (r:=(.bl C,I)) ⟨rfl,by decide,by simp⟩ (by refine lz<|(tu (δ1:=[Y (d,b),Y (d,c)]) (by rcases hd with rfl|rfl<;>rfl)).trans ?_;refine(jq<|(se (δ1:=[Y (d,b),Y (d,c)]) ?_).trans J).trans (lz<|oi<|(U7 a).trans g);rcases hd with rfl|rfl<;>kernel_rfl)
 rwa [j]at this
def WE(ev:A5)(i:Int):Fe (Ae 2 2 []<|nU ev) (.int i):=λb c=>by
 cases b<;>cases c<;>simp[nU,Ae,kR,Jo]
def HV(L:jY)(a:(TD L)<=1000)(h:∀t∈L,TD t<=1000):Fe (lK RD) (.lst<|L.map cD):=
 Ed (ev:=lK 5) (.inl J) (λd hd=>by
  obtain⟨t,b,rfl⟩:=jD hd
  exact Ed (ev:=lK 4) (.inr J) (λd hd=>by obtain⟨i,_,rfl⟩:=jD hd;exact WE (lK 3) i)<|by simpa using h t b) (by simpa using a)
def PT(n m:Nat)(p:jn):Prop:=TD p=m/\(∀x∈p,SG n x)/\(p.map ab).Nodup
def PT.tt{n:Nat}{t:jn}(h:PT n n t):TT n t:=Qf.mpr ⟨by simp[h.1],λx a=>by obtain⟨y,b,rfl⟩:=jD a;exact h.2.1 y b,h.2.2⟩
def UA{n m:Nat}{p c:jn}(h:PT n m p)(d:A0 m c):((c.map<|led p).map ab).Nodup:=by
 rw[ky];have f:=HY d.2.1;rw[RB]at f ⊢;rw[pd]at f ⊢;refine wl ?_ f;intro a b g i l e;simp at e;rw[DN h.1<|d.2.2 a g,DN h.1<|d.2.2 b i]at e;have h1:=d.2.2 a g;have o:=d.2.2 b i;have j:(ab a).toNat-1<(p.map ab).length:=by simp[h.1];lia
 have k:(ab b).toNat-1<(p.map ab).length:=by simp[h.1];lia
 simp only[sD,km j,km k]at e;have:=(Gq h.2.2).mp e
 lia
def QM(p c:jn):nR JC ((c.map<|led p).map D.int)=(lc p c).map D.int:=(EJ<|lj JC _).1
def Nm{n m:Nat}(l:m<=5){p c:jn}(h:PT n m p)(e:A0 m c):mf [enc c,enc p]=Y (enc<|lc p c,[eN c,eN p]):=by
 have k:=e.len
 have i:yk (.lst<|(c.map<|led p).map D.int)=Y (.lst<|(lc p c).map D.int,C):=by
  show(if((c.map<|led p).map D.int).all MZ=C/\(((c.map<|led p).map D.int).map aD).Nodup/\((c.map<|led p).map D.int).length<64 then Y (D.lst<|nR JC<|(c.map<|led p).map D.int,C)else U)=_
  have f:((c.map<|led p).map D.int).all MZ=C:=by rw[mZ];intro d hd;obtain⟨x,_,rfl⟩:=jD hd;rfl
  have g:(((c.map<|led p).map D.int).map aD).Nodup:=by rw[ky];exact UA h e
  rw[jz ⟨f,g,by simp;lia⟩,QM]
 refine JA ⟨rfl,by decide,rfl⟩<|jC (a:=.lst ((lc p c).map D.int)) J (jE (b:=C)<|jC i (jE (b:=C)<|acv (args:=[cD p]) (led p) J J J (λx j=>⟨I,?_⟩)<|by lia).r).r;exact Kf (W9 h.1<|e.2.2 x j) (jV J)<|jV J
def QK{m:Nat}{p:jn}(a:(TD p)=m)(r:jn){s:Int}(h:SG m s):led (p++r) s=led p s:=by
 obtain⟨k,hk,rfl|rfl⟩:=oh h
 .rw[mQ,mQ];simp[qc (show k<(TD p) by lia)]
 rw[mM,mM];simp[qc (show k<(TD p) by lia)]
def UE{m:Nat}{p c:jn}(b:(TD p)=m)(r:jn)(a:A0 m c):lc (p++r) c=lc p c:=by unfold lc;rw[ou λs d=>QK b r<|a.2.2 s d]
noncomputable def Df(n:Nat):List Int:=((am (2*n+1)).map λ(k:Nat)=> -(n:Int)+k).filter λs=>!(s==0)
def Kg(n:Nat)(t:jn):List Int:=(Df n).filter λs=>!t.contains s&&!t.contains (-s)
def Hn(n:Nat)(L:jY):List (List Int):=L.flatMap λt=>(Kg n t).map λs=>t++[s]
def mO(n:Nat):Nat->List (List Int)
 |0=>[[]]
 |m+1=>Hn n<|mO n m
def HU{n:Nat}{s:Int}:s∈Df n↔SG n s:=by
 unfold Df SG;simp only[yL,rZ,sL];constructor
 .rintro⟨⟨k,hk,rfl⟩,b⟩;unfold ab;simp at b;split<;>lia
 rintro⟨h1,a⟩;unfold ab at h1 a;refine⟨⟨(s+n).toNat,by split at a<;>lia,by split at a<;>lia⟩,by simp;split at h1<;>lia⟩
def oQ{n:Nat}:∀{m:Nat}{t:jn},t∈mO n m->PT n m t:=by
 intro r
 induction r with
 |zero=>intro t h;simp[mO]at h;subst h;exact⟨rfl,λx c=>by simp at c,mS⟩
 |succ m q=>
  intro t h;simp only[mO,Hn,yM,rZ]at h;obtain⟨p,o,s,d,rfl⟩:=h;obtain⟨h1,j,k⟩:=q o;unfold Kg at d;simp at d;obtain⟨d,f,g⟩:=d;have sg:=HU.mp d;refine⟨by simp[h1],λx c=>?_,?_⟩
  .rcases qm.mp c with c|c
   .exact j x c
   simp at c;subst c;exact sg
  rw[nM,xg];refine⟨k,by simp,λa l b i e=>?_⟩;simp at i;subst i;subst e;obtain⟨x,c,e⟩:=jD l;unfold ab at e;have:x=s\/x= -s:=by split at e<;>split at e<;>lia
  rcases this with rfl|rfl
  .exact f c
  exact g c
def xa:∀n,n<6->∀m,m<6->(mO n m).length<=3840:=by decide+kernel
def UL{f g:FO}{δ δ1 δ2:Dn}{o1 o2:AY}{i j:Int}(h1:f δ=Y (o1,δ1))(a:g δ1=Y (o2,δ2))(b:res δ2 o1=Y (.int i))(c:res δ2 o2=Y (.int j))(d: -1000<=i/\i<=1000)(e: -1000<=j/\j<=1000):An f g δ=Y (jU i (j-i).toNat,δ2):=by unfold An;rw[oq h1 a];simp only[kQ,vL,b,c];rw[jz<|by lia]
def wZ{n:Nat}(b:n<=5):mI [pI n]=Y ((.lst<|(Df n).map .int,C),[ii n]):=by
 have e:=Ho (caps:=[]) (fi:=An OZ Pe) (f:=lW 0) (ti:=fT<|jW Ki (jm 0) vG) (δ:=[ii n]) (δ1:=[ii n]) (l:=jU (-(n:Int)) (2*n+1)) (args:=[]) (λd=>d) (λd=>!(J1 d==0)) ?_ J J (λd hd=>?_) (by simp[jU];lia)
 .have a:((jU (-(n:Int)) (2*n+1)).filter λd=>!(J1 d==0)).map (λd=>d)=(Df n).map .int:=by rw[tz];unfold jU Df;rw[show(λ(k:Nat)=>D.int (-(n:Int)+k))=D.int∘(λ(k:Nat)=> -(n:Int)+k)from J,<-ky,Fi];rfl
  rw[a]at e;exact JA ⟨rfl,by decide,rfl⟩ e
 .rw[UL (o1:=.val (.int (-n),I)) (o2:=.val (.int<|n+1,I)) (δ1:=[ii n]) (δ2:=[ii n]) J J J J (by lia)<|by lia,show((n:Int)+1- -n).toNat=2*n+1 by lia]
 obtain⟨k,_,rfl⟩:=jD hd;exact⟨by kernel_rfl,λ_=>⟨I,rfl⟩⟩
abbrev MJ:FT:=yF (fT Sz) SJ
abbrev fE:F:=VD
def S8(n:Nat)(t:jn)(s:Int):MJ [ii n,eN t,ii s]=Y (!t.contains s&&!t.contains (-s),[ii n,eN t,ii s]):=by
 have h1:fT Sz [ii n,eN t,ii s]=Y (!t.contains s,[ii n,eN t,ii s]):=ny<|jO (zb s t) (jV J).r (jV J).r;have a:SJ [ii n,eN t,ii s]=Y (!t.contains (-s),[ii n,eN t,ii s]):=ny<|jO (zb (-s) t) (jE (b:=I) J).r (jV J).r;unfold MJ yF;rw[h1];simp only[kQ];cases t.contains s
 .simp only[gc,ro];exact a
 rfl
def XB(n:Nat)(t:jn)(a:(TD t)<=100)(s:Int):fE [ii n,eN t,ii s]=Y ((cD<|t++[s],I),[ii n,eN t,ii s]):=by refine jO (b:=.tup [.int s]) ?_ (jV J).r (jE (b:=I)<|by kernel_rfl).r;show oD (.tup<|t.map .int) (.tup [.int s])=_;simp only[oD];rw[jz<|uj<|by simp;lia,<-iR,<-nM]
theorem Ot{n:Nat}(e:n<=5):∀(L:jY)(a:List D)(x y:Sl),(∀t∈L,TD t<=100)->TD a+10*(TD L)<=sizeLine->
  ∃u b,lD (jo 1) kP (OA (lO<|kc mI [jm 0]) (jo 2) MJ<|lb fE) (L.map cD) a [ii n,x,y]=Y (a++(Hn n L).map cD,[ii n,u,b])
 |[],a,x,y,_,_=>⟨x,y,by simp[lD,Hn]⟩
 |t::L,a,x,y,h,o=>by
  have q:(Df n).length<=10:=by have:=sM (λs:Int=>!(s==0))<|(am (2*n+1)).map λ(k:Nat)=> -(n:Int)+k;rcases(show n=0\/n=1\/n=2\/n=3\/n=4\/n=5 by lia)with rfl|rfl|rfl|rfl|rfl|rfl<;>decide
  simp at o
  obtain⟨b,c⟩:=Ve (f:=fE) (ti:=MJ) (g:=λd=>cD<|t++[J1 d]) (p:=λd=>!t.contains (J1 d)&&!t.contains (-(J1 d))) (pre:=[ii n,eN t]) ((Df n).map .int) a y (λd hd=>by obtain⟨s,_,rfl⟩:=jD hd;exact⟨S8 n t s,λ_=>⟨I,XB n t (h t la) s⟩⟩) (by simp;lia)
  have j:(((Df n).map D.int).filter λd=>!t.contains (J1 d)&&!t.contains (-(J1 d))).map (λd=>cD<|t++[J1 d])=((Kg n t).map λs=>t++[s]).map cD:=by rw[Fi,ky,ky];rfl
  rw[j]at c
  have m:((Kg n t).map λs=>t++[s]).length<=10:=by rw[kN];exact lY (sM _ _) q
  obtain⟨x2,v,i⟩:=Ot e L (a++((Kg n t).map λs=>t++[s]).map cD) (eN t) b (λr l=>h r<|kn _ l) (by rw[ox,kN];lia);refine⟨x2,v,?_⟩;rw[kG,lD];rw[show jo 1 (cD t) [ii n,x,y]=Y [ii n,eN t,y]from J];simp;unfold OA;rw[nS<|Kq (wZ e)<|jV J];simp;rw[show lD (jo 2) MJ (lb fE) ((Df n).map .int) a [ii n,eN t,y]=_ from c];simp only[kQ];refine(show _=_ from i).trans ?_;simp[Hn]
def ab3{n:Nat}(a:n<=5)(L:jY)(h:∀t∈L,TD t<=100)(b:(TD L)<=4000):nk [pI n,(.lst<|L.map cD,C)]=Y ((.lst<|(Hn n L).map cD,C),[ii n,Y (.lst<|L.map cD,I)]):=by obtain⟨c,d,e⟩:=Ot a L [] U U h (by rw[kT];simp;lia);refine mB (δ:=[ii n,Y (.lst<|L.map cD,I)]) ⟨rfl,by decide,rfl⟩<|lz<|oi ?_;exact(pT (caps:=[0]) (l:=L.map cD) (δ1:=[ii n,Y (.lst<|L.map cD,I)]) (args:=[pI n]) (nS (o:=I) J) J mS e).trans J
def ln(c:jn):Nat:=(ab<|c.getLastD 0).toNat
def Iv{n:Nat}{c:jn}(h:A0 n c):1<=ln c/\ln c<=n/\A0 (ln c) c:=by
 obtain⟨b,h1,d⟩:=h;rcases zw c with rfl|⟨l,x,rfl⟩
 .exact absurd J b
 rw[Cv]at b h1 d ⊢;have e:ln (l++[x])=(ab x).toNat:=by simp[ln]
 have f:=d x (by simp);rw[e];refine⟨by lia,by lia,b,h1,λs a=>⟨(d s a).1,?_⟩⟩;rcases qm.mp a with a|a
 .rw[nM,sv]at h1;have:=h1.2.2 (ab s) (rT a) (ab x) (by simp)
  lia
 simp at a;subst a;lia
def A0.up{n m:Nat}{c:jn}(h:A0 n c)(b:n<=m):A0 m c:=⟨h.1,h.2.1,λs a=>by have:=h.2.2 s a;lia⟩
def QR{n:Nat}{c:jn}(h:A0 n c):Aw (cD c) (.int (-1))=ii (c.getLastD 0):=by
 rcases zw c with rfl|⟨l,x,rfl⟩
 .exact absurd J h.1
 simp;simp[Aw,JD,J3];rw[jz<|by lia,show(-1+(((TD l):Int)+1)).toNat=(TD l) by lia];simp
def UN(c:jn)(a:jY):MB (cD c) (.tup<|a.map cD)=Y (.bl<|decide<|c∈a,I):=Xi c a
def GG(js a:jY)(m:Nat)(t:jn):Bool:=a.all λc=>!decide (ln c<=m)||decide (lc t c∈js)
def Jw(a:jY)(m:Nat):List (List Int):=a.filter λc=>ln c==m
theorem BN{d e:Type}{P:d->Bool}{Q R:e->Bool}{f:d->List e}:∀L:List d,(∀t∈L,∀u∈f t,R u=(P t&&Q u))->((L.filter P).flatMap f).filter Q=(L.flatMap f).filter R
 |[],_=>rfl
 |t::L,h=>by
  have g:=BN L λt b=>h t<|kn _ b;have b:=h t la;rw[Fg,Fj,<-g]
  cases a:P t with
  |true=>
   rw[xi a,Fg,Fj]
   congr 1
   exact lf λu c=>by rw[b u c,a];rfl
  |false=>
   rw[xh<|by rw[a];decide];have:(f t).filter R=[]:=List.filter_eq_nil_iff.mpr λu c=>by rw[b u c,a,et];exact lQ
   rw[this];rfl
def acX{n m:Nat}{b a:jY}(hk:∀c∈a,A0 n c){t:jn}(f:(TD t)=m)(s:Int):GG b a (m+1) (t++[s])=(GG b a m t&&(Jw a<|m+1).all λc=>decide<|lc (t++[s]) c∈b):=by
 unfold GG Jw
 induction a with
 |nil=>rfl
 |cons c a g=>
  have e:=Iv<|hk c la;rw[vB,vB,g λc h=>hk c<|kn _ h];by_cases h1:ln c=m+1
  .rw[xi<|by simp[h1],vB,nW (show ln c<=m+1 by lia),nO (show ¬ln c<=m by lia)];simp;cases decide (lc (t++[s]) c∈b)<;>cases(a.all λc=>!decide (ln c<=m)||decide (lc t c∈b))<;>rfl
  rw[xh<|by simpa using h1];by_cases d:ln c<=m
  .rw[nW (show ln c<=m+1 by lia),nW d,UE f [s]<|e.2.2.up d,gf]
  rw[nO (show ¬ln c<=m+1 by lia),nO d,gf];rfl
def adF{n m:Nat}{js a:jY}(hk:∀c∈a,A0 n c):(Hn n<|(mO n m).filter<|GG js a m).filter (λu=>(Jw a<|m+1).all λc=>decide<|lc u c∈js)=(mO n<|m+1).filter (GG js a<|m+1):=by refine BN _ λt b u d=>?_;obtain⟨s,_,rfl⟩:=jD d;exact acX hk (oQ b).1 s
def W4{n:Nat}{js a:jY}(hk:∀c∈a,A0 n c)(t:jn):GG js a 0 t=C:=mZ.mpr λc b=>by rw[nO (by have:=(Iv<|hk c b).1;lia)];rfl
def W3{n:Nat}{js a:jY}(hk:∀c∈a,A0 n c)(t:jn):GG js a n t=a.all λc=>decide (lc t c∈js):=by unfold GG;rw[Bool.eq_iff_iff,mZ,mZ];refine forall_congr' λc=>forall_congr' λb=>?_;rw[nW (Iv<|hk c b).2.1];rfl
abbrev Pm:FT:=zC9
abbrev Xy:FS:=jA zC5<|jA (lE 4<|kJ [1,6] 1 SF (jo 2) Pm LF) ki
abbrev Bg(L:jY)(o:Bool):Sl:=Y (.lst<|L.map cD,o)
abbrev D9(L:jY):Sl:=Y (.tup<|L.map cD,I)
def Pl{n m:Nat}(g:m<=5){js a:jY}(h:∀c∈a,A0 m c)(j:(TD a)<=30){t:jn}(i:PT n m t)(o:Bool):Pm [D9 js,Bg a o,eN t]=Y (a.all λc=>decide<|lc t c∈js,[D9 js,Bg a I,eN t]):=by
 have c:=Oh (caps:=[0,2]) (fi:=lO<|lW 1) (f:=jW MB VH<|jm 0) (δ:=[D9 js,Bg a o,eN t]) (δ1:=[D9 js,Bg a I,eN t]) (l:=a.map cD) (args:=[.tup<|js.map cD,cD t]) (λd=>decide<|lc t (JG d)∈js) (by cases o<;>exact nS (o:=I) J) J J (λd hd=>by obtain⟨c,e,rfl⟩:=jD hd;rw[nY];exact⟨I,jO (b:=.tup (js.map cD)) (UN _ _) (jE (b:=I)<|Kf (Nm g i<|h c e) (jV J)<|jV J).r (jV J).r⟩) (by simp;lia)
 rw[show(a.map cD).all (λd=>decide<|lc t (JG d)∈js)=a.all λc=>decide (lc t c∈js) by rw[fB];simp only[c4,nY]]at c;exact ny c
theorem Oq{n m:Nat}(i:m<=5){js b:jY}(j:∀c∈b,A0 m c)(g:(TD b)<=30):∀(L:jY)(a:List D)(o:Bool)(x:Sl),(∀t∈L,PT n m t)->TD a+TD L<=sizeLine->
  ∃d f,lD (jo 2) Pm LF (L.map cD) a [D9 js,Bg b o,x]=Y (a++(L.filter λt=>b.all λc=>decide<|lc t c∈js).map cD,[D9 js,Bg b d,f])
 |[],a,o,x,_,_=>⟨o,x,by simp[lD]⟩
 |t::L,a,o,x,h,r=>by
  have q:=Pl i j g (h t la) (js:=js) o;have k:∀t∈L,PT n m t:=λt s=>h t<|kn _ s;simp at r;rw[kG,lD,show jo 2 (cD t) [D9 js,Bg b o,x]=Y [D9 js,Bg b o,eN t]from J];simp only[kQ];rw[q];simp only[kQ]
  cases l:b.all λc=>decide (lc t c∈js)with
  |false=>obtain⟨d,f,e⟩:=Oq i j g L a I (eN t) k (by lia);exact⟨d,f,by rw[jP lQ,xh (p:=λt=>b.all λc=>decide<|lc t c∈js)<|by rw[l];exact lQ];exact e⟩
  |true=>obtain⟨d,f,e⟩:=Oq i j g L (a++[cD t]) I (eN t) k (by simp;lia);refine⟨d,f,?_⟩;rw[jz J,xi (p:=λt=>b.all λc=>decide<|lc t c∈js) l];simp;rw[show lW 2 [D9 js,Bg b I,eN t]=Y ((cD t,I),[D9 js,Bg b I,eN t])from J];simp;rw[jz<|by lia];simp;rw[e];simp
def U3{t:FT}{f g:F}{δ δ1:Dn}{b:Bool}(h:t δ=Y (b,δ1)):MF t f g δ=if b=C then f δ1 else g δ1:=by unfold MF;rw[h];rfl
theorem Dx{n:Nat}(a:n<=5):∀L:List (List Int),(Hn n L).length<=10*(TD L)
 |[]=>by simp[Hn]
 |t::L=>by
  have:=Dx a L
  have b:((Kg n t).map λs=>t++[s]).length<=10:=by rw[kN];refine lY (sM _ _) ?_;rcases(show n=0\/n=1\/n=2\/n=3\/n=4\/n=5 by lia)with rfl|rfl|rfl|rfl|rfl|rfl<;>decide
  unfold Hn at*;rw[Fg,ox,oH]
  lia
section
variable {n:Nat}{g js:jY}(j:n<=5)(hk:∀c∈g,A0 n c)(q:g.length<=30)
include j hk q
abbrev Kd(n:Nat)(g js L:jY)(x y:Sl):Dn:=[Y (Ka n g,I),D9 js,ii n,D9 g,Bg L C,x,y]
theorem Rg{m:Nat}(G:m+1<=n)(y:Sl):∃Q,Xy (Kd n g js ((mO n m).filter<|GG js g m) (ii<|(m:Int)+1) y)=Y (.nx<|Kd n g js ((mO n<|m+1).filter<|GG js g<|m+1) (ii<|(m:Int)+1) Q):=by
 have s:=Ho (caps:=[5]) (fi:=lO<|lW 3) (f:=lW 1) (ti:=fT V9) (δ:=Kd n g js ((mO n m).filter<|GG js g m) (ii<|(m:Int)+1) y) (δ1:=Kd n g js ((mO n m).filter<|GG js g m) (ii<|(m:Int)+1) y) (l:=g.map cD) (args:=[.int<|(m:Int)+1]) (λd=>d) (λd=>ln (JG d)==m+1) Tl Tl Tl (λd hd=>by
  obtain⟨c,u,rfl⟩:=jD hd;rw[nY];refine⟨ny (o:=I)<|jO (a:=.int (ab<|c.getLastD 0)) ?_ (jE (b:=I)<|jC Tl (jE (b:=I)<|jO (QR<|hk c u) (jV Tl).r (jE (b:=I) Tl).r).r).r (jV Tl).r,λ_=>⟨I,rfl⟩⟩;have T:0<=ab (c.getLastD 0):=by unfold ab;split<;>lia
  have:(ln c==m+1)=decide (ab (c.getLastD 0)=(m:Int)+1):=by
   unfold ln;generalize ab (c.getLastD 0)=x at*;by_cases h:x=(m:Int)+1
   .rw[nW h,h];simp
   rw[nO h];simp;lia
  rw[this];generalize ab (c.getLastD 0)=x
  kernel_rfl) (by simp;lia)
 rw[BO]at s;have er:(g.filter λt=>ln (JG<|cD t)==m+1)=Jw g (m+1):=by simp only[nY];rfl
 rw[er]at s
 have O:∀c∈Jw g (m+1),A0 (m+1) c:=λc u=>by obtain⟨h1,z⟩:=yL.mp u;have:=Iv<|hk c h1;rw[beq_iff_eq]at z;rw[<-z];exact this.2.2
 have v:(Jw g<|m+1).length<=30:=lY (sM _ _) q;have B:∀t∈(mO n m).filter (GG js g m),PT n m t:=λt k=>oQ (yL.mp k).1;have M:((mO n m).filter<|GG js g m).length<=3840:=lY (sM _ _)<|xa n (by lia) m (by lia)
 have E:∀t∈Hn n ((mO n m).filter<|GG js g m),PT n (m+1) t:=λt k=>by refine oQ (m:=m+1) ?_;obtain⟨p,N,L⟩:=yM.mp k;exact yM.mpr ⟨p,(yL.mp N).1,L⟩
 have H:(Hn n<|(mO n m).filter<|GG js g m).length<=38400:=by
  have:=Dx j<|(mO n m).filter<|GG js g m
  lia
 obtain⟨w,J,e⟩:=Oq (n:=n) (m:=m+1) (by lia) (js:=js) O v (Hn n<|(mO n m).filter<|GG js g m) [] C U E (by rw[kT];simp;lia);rw[uK,adF hk]at e;refine⟨Bg (Jw g<|m+1) w,?_⟩
 have A:kJ [1,6] 1 SF (jo 2) Pm LF (Kd n g js ((mO n m).filter<|GG js g m) (ii<|(m:Int)+1)<|Bg (Jw g<|m+1) C)=Y ((.lst<|((mO n<|m+1).filter<|GG js g<|m+1).map cD,C),[rS n g,D9 js,ii n,D9 g,Bg ((mO n m).filter<|GG js g m) I,ii<|(m:Int)+1,Bg (Jw g<|m+1) w]):=by
  refine(pT (caps:=[1,6]) (args:=[(.tup<|js.map cD,I),(.lst<|(Jw g<|m+1).map cD,C)]) (δ1:=[rS n g,D9 js,ii n,D9 g,Bg ((mO n m).filter<|GG js g m) I,ii<|(m:Int)+1,Bg (Jw g<|m+1) C]) (nS (o:=C) ?_) Tl (JS 6) e).trans ?_
  .exact lJ (δ1:=Kd n g js ((mO n m).filter<|GG js g m) (ii<|(m:Int)+1)<|Bg (Jw g<|m+1) C) (os:=[.slot 2,.slot 4]) (args:=[pI n,(.lst<|((mO n m).filter<|GG js g m).map cD,C)]) Tl Tl (JS 4) (ab3 j _ (λt k=>by have:=(B t k).1;lia) (by lia))
  cases w<;>rfl
 exact(jq<|kH s (show 6<7 by decide)).trans ((jq<|kH (i:=4) A (show 4<7 by decide)).trans Tl)
theorem aa0:nq [(Ka n g,I),(.tup<|js.map cD,I)]=Y ((.lst<|((mO n n).filter λt=>g.all λc=>decide<|lc t c∈js).map cD,C),[rS n g,D9 js]):=by
 obtain⟨_,⟨m,x,y,i,rfl⟩,e⟩:=zh (tg:=jo 5) (fb:=Xy) (λds δ=>∃(m:Nat)(x y:Sl),(m<=n/\ds=(bz (m+1)<|n-m).map λ(k:Nat)=>D.int (k:Int))/\δ=Kd n g js ((mO n m).filter<|GG js g m) x y) (λd ds δ T=>by
  obtain⟨m,x,y,⟨h1,a⟩,h⟩:=T
  subst h
  have l:m<n:=by
   rcases v5 m n with h|h
   .exact h
   rw[show n-m=0 by lia]at a;cases a
  rw[show n-m=(n-(m+1))+1 by lia,vp,kG]at a;obtain⟨rfl,rfl⟩:=vn a;obtain⟨o,e⟩:=Rg (js:=js) j hk q (m:=m) (by lia) y
  exact⟨_,_,rfl,e,m+1,_,o,⟨l,rfl⟩,rfl⟩) ((bz 1 n).map λ(k:Nat)=>D.int (k:Int)) (Kd n g js [[]] U U) ⟨0,U,U,⟨mw _,rfl⟩,by rw[Vu.mpr λt _=>W4 hk t];rfl⟩
 obtain⟨p,f⟩:=i
 have b:m=n:=by
  rcases v5 m n with h|h
  .rw[show n-m=(n-(m+1))+1 by lia,vp]at f;cases f
  lia
 subst b;rw[lf λt _=>W3 hk t]at e;refine mB (δ:=[rS m g,D9 js,ii m,D9 g,U,x,y]) ⟨rfl,by decide,rfl⟩ ?_;refine(jq (δ1:=[rS m g,D9 js,ii m,D9 g,U,U,U]) J).trans ((jq (δ1:=Kd m g js [[]] U U)<|by kernel_rfl).trans ?_);refine(jq<|(mn (ds:=(bz 1 m).map λ(k:Nat)=>D.int (k:Int)) (δ1:=Kd m g js [[]] U U) ?_).trans e).trans (lz ?_)
 .rw[II (o1:=.val (.int 1,I)) (o2:=.val (.int<|(m:Int)+1,I)) (δ2:=Kd m g js [[]] U U) J J J J (by lia)<|by lia,show((m:Int)+1-1).toNat=m by lia,abO]
 rfl
theorem uV:mP [(Ka n g,I)]=Y ((.lst<|((mO n n).filter λt=>g.all λc=>decide<|lc t c∈g).map cD,C),[rS n g]):=by
 refine JA ⟨rfl,by decide,rfl⟩<|Kf (b:=Ka n g) (outs:=[rS n g,rS n g]) ?_ (jV J)<|jV J;refine JA ⟨rfl,by decide,rfl⟩ (δ:=[rS n g,rS n g])<|(U3 (b:=C) (δ1:=[rS n g,rS n g])<|ny (o:=I)<|jO (a:=.int (TD g)) (adP<|by simp[D.dep]) (jE (b:=I)<|jC ?_ (jE (b:=I)<|jO J (jV J).r (jE J).r).r).r (jE (b:=I)<|jC ?_ (jE (b:=I)<|jO J (jV J).r (jE J).r).r).r).trans ?_
 .simp
 .simp
 exact Kf (aa0 j hk q) (jV J) (jE (b:=I)<|jO J (jV J).r (jE J).r)
end
def adx{a:jn}{w:Int}(h:ab w∉a.map ab):zV a w=a++[w]:=by unfold zV;rw[jP h]
def Xu{n:Nat}{t:jn}(o:JH n t)(p:n<=5)(d:Sl):∀(c a:jn)(x3 b:Sl),(∀s∈c,1<=ab s/\ab s<=n)->DW n a->((a++c.map (led t)).map ab).Nodup->DW n (a++c.map (led t))/\∃g k,mW (jo 3) ND (c.map .int) [eN t,d,Y (dD a,C),x3,b]=Y (.nx [eN t,d,Y (dD<|a++c.map (led t),C),g,k]):=by
 intro v
 induction v with
 |nil=>intro a x3 b _ f _;simp;exact⟨f,x3,b,rfl⟩
 |cons s c u=>
  intro a x3 b h f j;have i:=h s la
  have r:ab (led t s)∉a.map ab:=by rw[nM,xg]at j;exact λz=>j.2.2 _ z _ (by simp) rfl
  have m:=adx r;have l:a++(s::c).map (led t)=(a++[led t s])++c.map (led t):=by simp
  obtain⟨h1,g,k,e⟩:=u (a++[led t s]) (ii s) (ii<|led t s) (λx q=>h x<|kn _ q) (m▸f.put (G3 o i.1 i.2))<|l▸j;rw[l];refine⟨h1,g,k,?_⟩;rw[kG];unfold mW;rw[show jo 3 (.int s) [eN t,d,Y (dD a,C),x3,b]=Y [eN t,d,Y (dD a,C),ii s,b]from J];simp only[kQ];rw[N4 o p i f,m];simp only[kQ];exact e
def ac2{l:jn}(h:(l.map ab).Nodup):l.Nodup:=wh ab (λ_ _ h e=>h<|nC ab e) h
def EA{n:Nat}(f:n<=5){t c:jn}(b:TT n t)(a:A0 n c):kr [enc t,enc c]=Y (enc<|lc t c,[eN t,eN c]):=by
 have h:=Cg b (HY a.2.1) λs m=>a.2.2 s m;obtain⟨g,x3,o,e⟩:=Xu b.tok f (eN c) c [] U U a.2.2 ⟨by simp,by simp⟩ (by simpa using h);rw[uK]at g e;obtain⟨i,⟨h1,j,d⟩,e⟩:=IA f g (by simpa using a.1) e;rw[e];have k:Kh t c i:=⟨?_,h1⟩
 .rw[Kh.uniq (n:=n) k (uv b a).1]
 have l:=d.length_eq;simp at l;exact Di _ _ (ac2<|d.symm.nodup h) j (by simp;lia)
def HS:∀n:Nat,n<6->Df n=JJ n++st n:=by decide
abbrev N3:FS:=zC3
abbrev UU:FS:=jA (oA (lO<|jW oD (jB<|jT (GU .lst C) [OZ,vG])<|jB<|jT (GU .lst C) [nX,Pe]) (jo 5) N3) ki
abbrev Xx:FS:=jA LG<|jA (oA xQ (jo 4) UU)<|jA (lE 1<|lW 3) ki
abbrev dS(n:Nat)(a b:Sl)(F:jY)(c d:Sl):Dn:=[ii n,a,b,Bg F C,c,d]
def Rb(n:Nat)(a c:Sl)(F:jY)(g:F.length<=100000){t:jn}(h:(TD t)<=100)(s:Int):N3 (dS n a c F (eN t)<|ii s)=Y (.nx<|dS n a c (if(!t.contains s&&!t.contains (-s))=C then F++[t++[s]]else F) (eN t)<|ii s):=by
 have h1:fT Sy (dS n a c F (eN t)<|ii s)=Y (!t.contains s,dS n a c F (eN t)<|ii s):=ny<|jO (zb s t) (jV J).r (jV J).r;have f:SH (dS n a c F (eN t)<|ii s)=Y (!t.contains (-s),dS n a c F (eN t)<|ii s):=ny<|jO (zb (-s) t) (jE (b:=I) J).r (jV J).r
 have d:yF (fT Sy) SH (dS n a c F (eN t)<|ii s)=Y (!t.contains s&&!t.contains (-s),dS n a c F (eN t)<|ii s):=by
  unfold yF;rw[h1];simp only[kQ];cases t.contains s
  .simp only[gc,ro];exact f
  rfl
 cases e:(!t.contains s&&!t.contains (-s))with
 |false=>rw[e]at d;exact(jq<|(se d).trans J).trans J
 |true=>
  rw[e]at d;rw[jz J];refine(jq<|(tu d).trans<|(jq<|oO (r:=(.Z4,I)) ?_).trans J).trans J;refine(nL (i:=3) (δ1:=dS n a c F (eN t)<|ii s) (l0:=F.map cD) (l:=F.map cD) (r:=(cD<|t++[s],I)) J ?_ J<|by rw[kT];simp;lia).trans ?_
  .refine jO (b:=.tup [.int s]) ?_ (jV J).r (jE (b:=I)<|by kernel_rfl).r;show oD (.tup<|t.map .int) (.tup [.int s])=_;simp only[oD];rw[jz<|uj<|by simp;lia,<-iR,<-nM]
  simp
def Xs(n:Nat)(a b:Sl){t:jn}(k:(TD t)<=100):∀(l:jn)(F:jY)(d:Sl),F.length+TD l<=100000->∃c,mW (jo 5) N3 (l.map .int) (dS n a b F (eN t) d)=Y (.nx<|dS n a b (F++(l.filter λs=>!t.contains s&&!t.contains (-s)).map λs=>t++[s]) (eN t) c):=by
 intro m
 induction m with
 |nil=>intro F d _;exact⟨d,by simp[mW]⟩
 |cons s l i=>
  intro F d h;simp at h;have j:=Rb n a b F (by lia) k s
  have f:∀G c,mW (jo 5) N3 (l.map .int) (dS n a b (if(!t.contains s&&!t.contains (-s))=C then F++[t++[s]]else F) (eN t)<|ii s)=Y (.nx<|dS n a b G (eN t) c)->mW (jo 5) N3 ((s::l).map .int) (dS n a b F (eN t) d)=Y (.nx<|dS n a b G (eN t) c):=λG c e=>by rw[kG];unfold mW;rw[show jo 5 (.int s) (dS n a b F (eN t) d)=Y (dS n a b F (eN t)<|ii s)from J];simp only[kQ];rw[j];exact e
  cases g:(!t.contains s&&!t.contains (-s))with
  |true=>rw[g,jz J]at f;obtain⟨c,e⟩:=i (F++[t++[s]]) (ii s) (by simp;lia);refine⟨c,f _ _ (e.trans ?_)⟩;rw[xi<|by exact g];simp
  |false=>rw[g,jP lQ]at f;obtain⟨c,e⟩:=i F (ii s) (by lia);refine⟨c,f _ _ (e.trans ?_)⟩;rw[xh<|by rw[g];exact lQ]
def Rc{n:Nat}(h:n<=5)(c d:Sl){t:jn}(i:(TD t)<=100)(F:jY)(j:F.length<=90000)(g:Sl):∃f,UU (dS n c d F (eN t) g)=Y (.nx<|dS n c d (F++(Kg n t).map λs=>t++[s]) (eN t) f):=by
 have k:(Df n).length<=10:=by rcases(show n=0\/n=1\/n=2\/n=3\/n=4\/n=5 by lia)with rfl|rfl|rfl|rfl|rfl|rfl<;>decide
 obtain⟨f,e⟩:=Xs n c d i (Df n) F g (by lia);refine⟨f,(jq<|(mn<|nS (o:=C) ?_).trans e).trans J⟩;rw[HS n<|by lia,nM];refine jO (a:=.lst ((JJ n).map .int)) (b:=.lst ((st n).map .int)) ?_ (jE (b:=C) ?_).r (jE (b:=C) ?_).r
 .simp only[oD];rw[jz<|uj<|by simp[JJ,xX];lia]
 .exact ku (os:=[.val (.int (-n),I),.val (.int 0,I)]) J J (Me n h)
 exact ku (os:=[.val (.int 1,I),.val (.int<|(n:Int)+1,I)]) J J (GN n h)
def Xt{n:Nat}(k:n<=5)(b c:Sl):∀(L F:jY)(d a:Sl),(∀t∈L,TD t<=100)->F.length+10*(TD L)<=80000->∃f i,mW (jo 4) UU (L.map cD) (dS n b c F d a)=Y (.nx<|dS n b c (F++Hn n L) f i):=by
 intro p
 induction p with
 |nil=>intro F d a _ _;exact⟨d,a,by simp[mW,Hn]⟩
 |cons t L o=>
  intro F d a h m;simp at m;obtain⟨q,l⟩:=Rc k b c (h t la) F (by lia) a;have j:=Dx k [t];have g:Hn n [t]=(Kg n t).map λs=>t++[s]:=by simp[Hn]
  rw[g]at j;simp only[xK]at j;obtain⟨f,i,e⟩:=o (F++(Kg n t).map λs=>t++[s]) (eN t) q (λt g=>h t<|kn _ g) (by rw[ox];lia);refine⟨f,i,?_⟩;rw[kG];unfold mW;rw[show jo 4 (cD t) (dS n b c F d a)=Y (dS n b c F (eN t) a)from J];simp only[kQ];rw[l];refine(show _=_ from e).trans ?_;simp[Hn]
def Rf{n:Nat}(i:n<=5)(L:jY)(h:∀t∈L,TD t<=100)(j:(TD L)<=4000)(o:Bool)(a g c d:Sl):∃b f,Xx [ii n,Bg L o,a,g,c,d]=Y (.nx [ii n,Bg (Hn n L) I,a,Bg (Hn n L) I,b,f]):=by obtain⟨b,f,e⟩:=Xt i (Bg L I) a L [] c d h (by simp;lia);refine⟨b,f,(jq (δ1:=[ii n,Bg L o,a,Bg [] C,c,d])<|by kernel_rfl).trans<|(jq<|(mn<|nS (o:=I) (by cases o<;>rfl)).trans e).trans J⟩
def aaX{n:Nat}(k:n<=5):∃o,mv [pI n]=Y ((.lst<|(mO n n).map cD,o),[ii n]):=by
 obtain⟨_,⟨m,o,f,a,b,c,i,rfl⟩,e⟩:=zh (tg:=jo 2) (fb:=Xx) (λg δ=>∃(m:Nat)(o:Bool)(f a b c:Sl),(m+TD g=n)/\δ=[ii n,Bg (mO n m) o,f,a,b,c]) (λd g δ j=>by obtain⟨m,o,f,a,b,c,h1,h⟩:=j;subst h;simp at h1;obtain⟨p,q,e⟩:=Rf k (mO n m) (λt l=>by have:=(oQ l).1;lia) (by have:=xa n (by lia) m (by lia);lia) o (Y (d,I)) a b c;exact⟨_,_,rfl,e,m+1,I,_,_,_,_,by lia,rfl⟩) (jU 0 n) [ii n,Bg [[]] C,U,U,U,U] ⟨0,C,U,U,U,U,by simp[jU],rfl⟩
 simp at i;subst i;refine⟨o,?_⟩;cases o
 .refine mB (δ:=[ii m,Bg (mO m m) I,f,a,b,c]) ⟨rfl,by decide,rfl⟩ ((jq (δ1:=[ii m,Bg [[]] C,U,U,U,U])<|by simp[kT]).trans<|(jq<|(mn ?_).trans e).trans<|lz J);exact qj (o:=.slot 0) J J (by lia)
 refine mB (δ:=[ii m,U,f,a,b,c]) ⟨rfl,by decide,rfl⟩ ((jq (δ1:=[ii m,Bg [[]] C,U,U,U,U])<|by simp[kT]).trans<|(jq<|(mn ?_).trans e).trans<|lz J);exact qj (o:=.slot 0) J J (by lia)
abbrev Hc:FS:=Wf
def ab0(c:jn)(a:jY):uz (cD c) (dC a)=Y (.bl (!decide (c∈a)),I):=by unfold uz UO dC;simp only;rw[jz<|EG a c,Iq];rfl
def Zv{n:Nat}(q:n<=5){t:jn}(s:TT n t)(a:jY)(b:Bool)(f:Sl):∀(g:jY)(x:Sl),(∀c∈g,A0 n c)->∃j,mW (jo 3) Hc (g.map cD) [eN t,f,Y (dC a,b),x]=if(g.all λc=>decide<|lc t c∈a)=C then Y (.nx [eN t,f,Y (dC a,b),j])else Y (.rt (.bl I,I) [eN t,f,Y (dC a,b),j]):=by
 intro v
 induction v with
 |nil=>intro x _;exact⟨x,rfl⟩
 |cons c g u=>
  intro x h;have p:=h c la;have i:fT VW [eN t,f,Y (dC a,b),eN c]=Y (!decide (lc t c∈a),[eN t,f,Y (dC a,b),eN c]):=ny<|jO (b:=dC a) (ab0 _ _) (jE (b:=I)<|Kf (EA q s p) (jV J)<|jV J).r<|jR J
  have l:mW (jo 3) Hc ((c::g).map cD) [Y<|enc t,f,Y (dC a,b),x]=(Hc [Y<|enc t,f,Y (dC a,b),Y<|enc c]).bind λo=>match o with
   |.nx d=>mW (jo 3) Hc (g.map cD) d
   |.ct d=>mW (jo 3) Hc (g.map cD) d
   |.bk d=>Y<|.nx d
   |.rt r d=>Y (.rt r d):=rfl
  rw[l,vB];by_cases k:lc t c∈a
  .rw[nW k]at i ⊢;obtain⟨j,e⟩:=u (eN c) λc m=>h c<|kn _ m;refine⟨j,?_⟩;have s1:Hc [eN t,f,Y (dC a,b),eN c]=Y (.nx [eN t,f,Y (dC a,b),eN c]):=(jq<|(se i).trans J).trans J;rw[s1];exact e
  rw[nO k]at i ⊢;refine⟨eN c,?_⟩;have s1:Hc [eN t,f,Y (dC a,b),eN c]=Y (.rt (.bl I,I) [eN t,f,Y (dC a,b),eN c]):=lz<|(tu i).trans J;rw[s1];rfl
def Nn{n:Nat}(i:n<=5){t:jn}(j:TT n t)(d a:jY)(hk:∀c∈a,A0 n c)(b:Bool):pj [enc t,(.tup<|a.map cD,I),(dC d,b)]=Y ((.bl<|a.all λc=>decide<|lc t c∈d,I),[eN t,D9 a,Y (dC d,b)]):=by
 obtain⟨x,e⟩:=Zv i j d b (D9 a) a U hk;have h:∀x,kR [enc t,(.tup<|a.map cD,I),(dC d,b)] [eN t,D9 a,Y (dC d,b),x]=[eN t,D9 a,Y (dC d,b)]:=λx=>by cases b<;>rfl
 cases g:a.all λc=>decide (lc t c∈d)with
 |true=>
  rw[g,jz J]at e;have q:=mB (n:=4) (np:=3) (asg:=[3]) (f:=rO) (args:=[enc t,(.tup<|a.map cD,I),(dC d,b)]) (r:=(.bl C,I)) (δ:=[eN t,D9 a,Y (dC d,b),x]) ⟨rfl,by decide,by cases b<;>rfl⟩<|(jq<|(mn J).trans e).trans<|lz J
  rwa [h]at q
 |false=>
  rw[g,jP lQ]at e;have q:=mB (n:=4) (np:=3) (asg:=[3]) (f:=rO) (args:=[enc t,(.tup<|a.map cD,I),(dC d,b)]) (r:=(.bl I,I)) (δ:=[eN t,D9 a,Y (dC d,b),x]) ⟨rfl,by decide,by cases b<;>rfl⟩<|lz<|(mn J).trans e
  rwa [h]at q
def NA:∀c:List Int,A7 (c.map .int)=Y (c.map bN):=by
 intro b
 induction b with
 |nil=>exact J
 |cons x c a=>simp only[kG,A7,kQ];rw[a];rfl
def UG:∀a:List (List Int),JW (a.map λc=>.tup [cD c,.bl C])=Y (a.map λc=>c.map bN):=by
 intro d
 induction d with
 |nil=>exact J
 |cons c a b=>simp only[kG,JW,kyT];rw[b,show vS (cD c)=Y (c.map bN)from NA c];rfl
def adR{d:jY}(h:d.Nodup)(g:(TD d)<=1000):As (.lst<|d.map λc=>.tup [cD c,.bl C])=Y (dC d,C):=by
 show((JW<|d.map λc=>.tup [cD c,.bl C]).bind λd=>if (TD d)<=1000/\d.Nodup then Y (D.Z3 .dct (d.map λk=>.tup (k.map lV))<|d.map λ_=>.bl C,C)else U)=_;rw[UG];simp only[kQ];have i:(d.map λc=>c.map (bN:Int->Key)).Nodup:=f5 _ (λa b f e=>f<|(iT λ_ _ e=>Gu e).mp e) h;rw[jz ⟨by simpa using g,i⟩];unfold dC;rw[ky,ky]
 have:((λk:List Key=>D.tup<|k.map lV)∘λc:List Int=>c.map bN)=cD:=by funext c;simp only[bI,ky];rfl
 rw[this];rfl
abbrev fDc(i:Nat):F:=jT (g1 As) [jB<|kJ [] 1 (lO<|jW Aw (jm i) nX) (jo 0) kP VB]
def U4{n i:Nat}{a:jY}{δ:Dn}(c:δ[i]?=Y (rS n a))(h:a.Nodup)(g:(TD a)<=1000):fDc i δ=Y ((dC a,C),δ):=by
 refine jC (adR h g) (jE (b:=C) ?_).r;have e:=AH (caps:=[]) (fi:=lO<|jW Aw (jm i) nX) (f:=tQ [lW 0,LD]) (δ:=δ) (δ1:=δ) (l:=a.map cD) (args:=[]) (λd=>.tup [d,.bl C]) ?_ J J (λd hd=>⟨I,by kernel_rfl⟩) (by simp;lia)
 .rw[ky]at e;exact e
 rw[HX,jO (r:=(.tup<|a.map cD,I)) J (jV c).r (jE J).r];rfl
def Ni{n:Nat}{a:jY}(h:yx n a):mR [(Ka n a,I)]=Y ((.lst<|((mO n n).filter λt=>a.all λc=>decide<|lc t c∈a).map cD,C),[rS n a]):=by
 obtain⟨j,hk,_,u⟩:=h;obtain⟨o,m⟩:=aaX j;have hd:=U4 (n:=n) (i:=0) (δ:=[rS n a,U]) J hk.1 (by lia);have q:=xa n (by lia) n (by lia)
 obtain⟨v,e⟩:=Ve (f:=lW 2) (ti:=fT V5) (g:=λd=>d) (p:=λd=>a.all λc=>decide<|lc (JG d) c∈a) (pre:=[Y (dC a,C),rS n a]) ((mO n n).map cD) [] U (λd hd=>by obtain⟨t,s,rfl⟩:=jD hd;rw[nY];have tt:=(oQ s).tt;refine⟨ny (o:=I)<|(lJ (δ1:=[Y (dC a,C),rS n a,eN t]) (os:=[.slot 2,.val (.tup<|a.map cD,I),.slot 0]) (args:=[enc t,(.tup<|a.map cD,I),(dC a,C)]) (AA J<|oq (jQ<|jO J (jV J).r (jE J).r) J) J (JS 0)<|Nn j tt a a hk.2 C).trans J,λ_=>⟨I,rfl⟩⟩) (by rw[kT];simp;lia)
 rw[uK,BO]at e;simp only[nY]at e;refine mB (δ:=[rS n a,Y (dC a,C)]) ⟨rfl,by decide,rfl⟩<|(jq<|kH (i:=1) hd (show 1<2 by decide)).trans<|lz<|oi ?_;refine(pT (caps:=[1,0]) (k:=1) (l:=(mO n n).map cD) (δ1:=[rS n a,Y (dC a,C)]) (args:=[(dC a,C),(Ka n a,I)]) (nS (o:=o) ?_) J (JS 1) e).trans J;exact Kq m<|jE (b:=I)<|jO J (jV J).r (jE J).r
section
variable {n:Nat}{a:jY}(h:yx n a){d:D}(hd:OkD d)
include h hd
end
section
variable {n:Nat}{a:jY}(h:yx n a)
include h
abbrev Au(n:Nat)(a:jY):List (List Int):=(mO n n).filter λt=>a.all λc=>decide<|lc t c∈a
theorem Iw:(Au n a).length<=3840:=lY (sM _ _)<|xa n (by have:=h.1;lia) n (by have:=h.1;lia)
theorem nK{t:jn}(b:t∈Au n a):TT n t:=(oQ (yL.mp b).1).tt
end
def acd{l m:jn}(h:l.Perm m)(e:m.Pairwise (· < ·)):nR Be (l.map .int)=m.map .int:=by
 have d:(m.map D.int).Pairwise (λa b=>Be b a=I):=by
  rw[pd];refine e.imp λ{a b} h=>?_;have h1: ¬b<a:=by lia
  have c: ¬b=a:=by lia
  rw[qL];simp[cT,h1,c]
 refine Lg (λx y f g h1 c=>?_) (pk _) d<|(lj Be _).trans<|h.map _;obtain⟨i,_,rfl⟩:=jD<|(lj Be<|l.map D.int).mem_iff.mp f;obtain⟨j,_,rfl⟩:=jD g;rw[acF c h1]
def Tj:∀n,n<6->(Df n).Pairwise (· < ·):=by decide+kernel
def aa1(V:jn)(e:V.Nodup):∃m:List Int,V.Perm m/\m.Pairwise (· < ·):=by
 refine⟨V.mergeSort λa b=>decide<|a<=b,(KI V _).symm,?_⟩;have h1:=List.pairwise_mergeSort (le:=λa b:Int=>decide<|a<=b) (λa b c h1 d=>by simp at*;omega) (λa b=>by simp;omega) V;have d:(V.mergeSort λa b=>decide<|a<=b).Nodup:=(KI V _).nodup_iff.mpr e
 exact(h1.and d).imp λ{a b} h=>by have f:a<=b:=uL h.1;have g:a≠b:=h.2;omega
def vU{V m:jn}(b:V.Perm m)(a:m.Pairwise (· < ·))(c:V.length<500):oo (.Z3 .set []<|V.map .int)=Y (.lst<|m.map .int,C):=by unfold oo;simp only;rw[jz<|Ah V];unfold ll;rw[acd b a,jz ⟨yy V,by rw[kT];simp;lia⟩]
def ZC{i:Type}(q:i->D)(f:F)(g:i->Int)(pre:Dn){T:jn}(n:(TD T)<=100):∀(l:List i)(a:jn)(x:Sl),(∀d∈l,g d∈T/\∃o,f (pre++[Y (q d,I)])=Y ((.int<|g d,o),pre++[Y (q d,I)]))->GZ T a->
  ∃b,lD (jo<|TD pre) kP (wa f) (l.map q) (a.map .int) (pre++[x])=Y (((l.map g).foldl nB a).map .int,pre++[b]):=by
 intro l
 induction l with
 |nil=>exact λa x _ _=>⟨x,by simp[lD]⟩
 |cons d l s=>intro a x h G;obtain⟨r,o,k⟩:=h d la;have t:=G.len n;obtain⟨b,e⟩:=s (nB a<|g d) (Y (q d,I)) (λj m=>h j<|kn _ m) (G.fold (cs:=[g d]) λc p=>by cases DR.mp p;exact r);refine⟨b,?_⟩;rw[kG,lD,C3];simp only[kQ];rw[show kP (pre++[Y (q d,I)])=Y (C,pre++[Y (q d,I)])from J];simp only[kQ,nv,wa];rw[k];simp only[kQ];rw[jz ⟨Ah a,rfl,by simp;lia⟩];simp only[kQ];rw[HA,e,kG,rW]
def Oi{caps:kz}{c:DK}{f:F}{δ a:Dn}{b:Type}(q:b->D){l:List b}{args:List D}(g:b->Int){T:jn}(j:(TD T)<=100)(h1:c δ=Y (l.map q,a))(i:kM a (caps.map .slot)=Y (args.map λd=>(d,I)))(k:(TD args)=TD caps)
  (h:∀d∈l,g d∈T/\∃o,f (Bi args++[Y (q d,I)])=Y ((.int<|g d,o),Bi args++[Y (q d,I)])):
  EU caps 1 c (jo<|TD caps) kP (wa f) δ=Y ((.Z3 .set []<|((l.map g).foldl nB []).map .int,C),a):=by
 obtain⟨m,e⟩:=ZC q f g (Bi args) j l [] U h ⟨mS,λv h=>by cases h⟩;unfold EU Hf;rw[h1];simp only[kQ];rw[i];simp only[kQ,tE,mS,nv,ky,D3];rw[show (TD caps)=(Bi args).length from by rw[kN,k]];rw[show((args.map<|Y∘λd=>(d,I))++af 1 U:Dn)=Bi args++[U]from J];rw[qx]at e;rw[e];rfl
def yp{V T:jn}(h:∀v∈V,v∈T):GZ T (V.foldl nB []):=GZ.fold ⟨mS,λv h=>by cases h⟩ h
def yU{n:Nat}(a:n<=5):(Df n).length<=100:=by rcases(show n=0\/n=1\/n=2\/n=3\/n=4\/n=5 by lia)with rfl|rfl|rfl|rfl|rfl|rfl<;>decide
def aaP{n:Nat}(e:n<=5){L:jY}(c:∀t∈L,TT n t){s:Int}(f:SG n s){m:jn}(i:((L.map λt=>led t s).foldl nB []).Perm m)(h:m.Pairwise (· < ·)):
  ∃o,lP [(.int s,I),(.lst<|L.map cD,I)]=Y ((tZ m,I),o):=by
 have cl:∀t∈L,led t s∈Df n:=λt a=>HU.mpr<|(c t a).led f;have d:=(yp (V:=L.map λt=>led t s) λv hv=>by obtain⟨t,a,rfl⟩:=jD hv;exact cl t a).len<|yU e
 have g:EU [0] 1 xQ (jo 1) kP VG [iZ s,Bg L I]=Y ((.Z3 .set []<|((L.map λt=>led t s).foldl nB []).map .int,C),[iZ s,Bg L I]):=
  Oi (caps:=[0]) cD (l:=L) (args:=[.int s]) (λt=>led t s) (yU e) rfl rfl rfl (λt a=>⟨cl t a,I,Kf (W9 (c t a).len f) (jV J)<|jV J⟩)
 refine⟨_,JA (np:=2) ⟨rfl,by decide,rfl⟩ (δ:=[iZ s,Bg L I])<|jC (Mm _) (jE (b:=C)<|jC (vU i h<|by lia) (jE (b:=C) g).r).r⟩
section
variable {d:D}{lo a:Int}
end
section
variable {n m:Nat}{V R:jY}{d:D}
end
section
variable {n:Nat}{L a V R:jY}{d:D}
end
section
variable {a b c:D}
end
section
variable {n:Nat}{d:D}
end
section
variable {n:Nat}{L a c V F:jY}{d:D}{b:jn}
end
def Nd{n:Nat}:∀{m:Nat}{t:jn},PT n m t->t∈mO n m:=by
 intro m
 induction m with
 |zero=>intro t h;rw[OW.mp h.1];simp[mO]
 |succ m e=>
  intro t h;obtain⟨h1,c,a⟩:=h;rcases zw t with rfl|⟨p,s,rfl⟩
  .simp at h1
  rw[Cv]at*;rw[nM,xg]at a;have d:∀x∈p,ab x≠ab s:=λx b=>a.2.2 _ (rT b) _ (by simp);simp only[mO,Hn,yM,rZ];refine⟨p,e ⟨by simpa using h1,λx b=>c x<|by simp[b],a.1⟩,s,?_,rfl⟩;unfold Kg;simp;refine⟨HU.mpr<|c s<|by simp,λz=>d s z J,λz=>d (-s) z ?_⟩;unfold ab;split<;>split<;>lia
def TT.all{n:Nat}{t:jn}(h:TT n t):t∈mO n n:=Nd ⟨h.len,λx a=>h.sg a,(Qf.mp h).2.2⟩
section
variable {n:Nat}{a:jY}(h:yx n a)
include h
theorem Dk{v t:jn}(hv:v∈Au n a)(b:t∈Au n a):Hb v t∈Au n a:=by have f:=nK h hv;have e:=nK h b;refine yL.mpr ⟨(f.Hb e).all,mZ.mpr λc d=>?_⟩;have hv:=uL<|mZ.mp (yL.mp hv).2 c d;have b:=uL<|mZ.mp (yL.mp b).2 _ hv;rw[Nr f e<|h.2.1.2 c d]at b;exact nW b
theorem GB:st n∈Au n a:=yL.mpr ⟨(HN n).all,mZ.mpr λc b=>by rw[Nq<|h.2.1.2 c b,nW b]⟩
end
section
variable {n:Nat}{a:jY}{t u v w:jn}
@[irreducible] def bkF(n:Nat)(t:jn):List Int:=J7 n t 2519
def Ov(d:n<=5)(b:TT n t):BK n t (bkF n t):=by unfold bkF;refine⟨(pL b _).len,λs c=>?_⟩;have:=yY b 1 c 2519;rw[T3 d b,tH c,PU b]at this;exact this.symm
theorem RS{V:jY}(b:st n∈V)(c:∀v∈V,Hb v t∈V):∀k,J7 n t k∈V
 |0=>b
 |k+1=>c _ (RS b c k)
def UC:t∈Au n a↔TT n t/\∀c∈a,lc t c∈a:=by refine⟨λh=>⟨(oQ (yL.mp h).1).tt,λc b=>uL<|mZ.mp (yL.mp h).2 c b⟩,λh=>yL.mpr ⟨h.1.all,mZ.mpr λc b=>nW<|h.2 c b⟩⟩
def Nl(h:yx n a)(b:u∈Au n a)(c:BK n u w):w∈Au n a:=by rw[BK.uniq (nK h b) c<|Ov h.1<|nK h b];unfold bkF;exact RS (GB h) (λv hv=>Dk h hv b) _
end
theorem Jk:∀{a b:jn},a.Pairwise (· < ·)->b.Pairwise (· < ·)->(∀x,x∈a↔x∈b)->a=b
 |[],[],_,_,_=>rfl
 |[],y::b,_,_,h=>absurd ((h y).mpr la) qv
 |x::a,[],_,_,h=>absurd ((h x).mp la) qv
 |x::a,y::b,i,j,h=>by
  obtain⟨a1,f⟩:=AQ.mp i;obtain⟨d,g⟩:=AQ.mp j
  have e:x=y:=by
   rcases nQ.mp ((h x).mp la)with z|z
   .exact z
   rcases nQ.mp ((h y).mpr la)with w|w
   .exact w.symm
   have:=d x z;have:=a1 y w;omega
  subst e;rw[Jk f g λz=>?_];constructor
  .intro c;rcases nQ.mp ((h z).mp<|kn _ c)with w|w
   .have:=a1 z c;omega
   exact w
  intro c;rcases nQ.mp ((h z).mpr<|kn _ c)with w|w
  .have:=d z c;omega
  exact w
structure GY(act:List Int->Int->Int)(L:jY)(T:jn):Prop where
 one:∃e∈L,∀x∈T,act e x=x
 mul:∀t∈L,∀u∈L,∃v∈L,∀x∈T,act v x=act u (act t x)
 inv:∀t∈L,∃w∈L,∀x∈T,act w (act t x)=x
 cl:∀t∈L,∀x∈T,act t x∈T
def GY.lot{d:List Int->Int->Int}{L:jY}{T:jn}(A:GY d L T)(g:T.Pairwise (· < ·)){R:Int->List Int}(b:∀x∈T,(∀c,c∈R x↔ ∃t∈L,d t x=c)/\(R x).Pairwise (· < ·)):Et R T:=by
 refine⟨g,λx a=>?_,λx a y m=>?_⟩
 .obtain⟨e,h1,k⟩:=A.one;exact((b x a).1 x).mpr ⟨e,h1,k x a⟩
 obtain⟨t,h,rfl⟩:=((b x a).1 y).mp m;have f:=A.cl t h x a;refine⟨f,Jk (b _ f).2 (b x a).2 λz=>?_⟩;rw[(b _ f).1,(b x a).1];constructor
 .rintro⟨u,i,rfl⟩;obtain⟨v,hv,e⟩:=A.mul t h u i;exact⟨v,hv,e x a⟩
 rintro⟨u,i,rfl⟩;obtain⟨w,l,e⟩:=A.inv t h;obtain⟨v,hv,j⟩:=A.mul w l u i;exact⟨v,hv,by rw[j _ f,e x a]⟩
def GY.R{a:List Int->Int->Int}{L:jY}{T:jn}(A:GY a L T)(b:T.Pairwise (· < ·)):∃R:Int->List Int,Et R T/\∀s,(∀c,c∈R s↔ ∃t∈L,a t s=c)/\(R s).Pairwise (· < ·)/\((L.map λt=>a t s).foldl nB []).Perm (R s):=by
 have ex:∀s,∃m:List Int,((L.map λt=>a t s).foldl nB []).Perm m/\m.Pairwise (· < ·):=λs=>aa1 _ (DM _ [] (by simp))
 have key:∀s,(∀c,c∈fe (ex s)↔ ∃t∈L,a t s=c)/\(fe<|ex s).Pairwise (· < ·)/\((L.map λt=>a t s).foldl nB []).Perm (fe<|ex s):=λs=>by obtain⟨h1,d⟩:=No<|ex s;refine⟨λc=>?_,d,h1⟩;rw[<-h1.mem_iff,xb,rZ];simp
 exact⟨_,A.lot b λs _=>⟨(key s).1,(key s).2.1⟩,key⟩
def aaN{n:Nat}{e:jY}(h:yx n e){T:jn}(d:∀s,s∈T↔SG n s):GY (λt s=>led t s) (Au n e) T:=by refine⟨⟨st n,GB h,λx c=>tH<|(d x).mp c⟩,λt a u f=>⟨Hb t u,Dk h a f,λx c=>ur (nK h a) u<|(d x).mp c⟩,λt a=>?_,λt a x c=>(d _).mpr<|(nK h a).led<|(d x).mp c⟩;have b:=Ov h.1<|nK h a;exact⟨_,Nl h a b,λx c=>b.2 x<|(d x).mp c⟩
def aaY{n:Nat}{b:jY}(h:yx n b){R:Int->List Int}(L:Et R (Df n))(d:∀s,(R s).Pairwise (· < ·)/\(((Au n b).map λt=>led t s).foldl nB []).Perm (R s)):
  ∃c,wN lP (sh (.lst<|(Df n).map .int,I) 5 [(.lst<|(Au n b).map cD,I)])=Y (.rt (.lst<|(((Df n).filter<|kO R).map R).map tZ,C) c):=by
 have f:=h.1;rw[acm]
 refine R3 (yU f) (λs m g i j k l=>?_) L (λδ hd=>by
  cases δ with
  |nil=>cases hd
  |cons a δ=>cases hd;rfl)
 obtain⟨o,e⟩:=aaP f (λt p=>nK h p) (HU.mp m) (d s).2 (d s).1;exact Pw g i j k l e
def yg{n:Nat}{a:jY}(h:yx n a){R:Int->List Int}(L:Et R (Df n))(d:∀s,(R s).Pairwise (· < ·)/\(((Au n a).map λt=>led t s).foldl nB []).Perm (R s)):
  ∃o,my [(Ka n a,I)]=Y ((.lst<|(((Df n).filter<|kO R).map R).map tZ,C),o):=by
 have c:=h.1;obtain⟨f,e⟩:=aaY h L d;refine⟨_,mB (δ:=[rS n a,Bg (Au n a) I,U]) ⟨rfl,by decide,rfl⟩<|(jq<|kH (i:=1) (δ1:=[rS n a,U,U]) (Kq (uV c h.2.1.2 h.2.2.2)<|jV J) (show 1<3 by decide)).trans ?_⟩;show tj 2 SM [1] 5 (wN lP) [rS n a,Bg (Au n a) I,U]=_;unfold tj;rw[show SM ([rS n a,Bg (Au n a) I,U].set 2 U)=Y ((.lst<|(Df n).map .int,C),[rS n a,Bg (Au n a) I,U])from Kq (wZ c)<|jE (b:=I)<|jO J (jV J).r (jE J).r];simp only[kQ];rw[show kM [rS n a,Bg (Au n a) I,U] (([1]:List Nat).map .slot)=Y [(.lst<|(Au n a).map cD,I)]from J];simp only[kQ];rw[jz ⟨rfl,show 2<3 by decide,rfl⟩,e]
abbrev nZ(m:Nat):List Int:=(am m).map λ(k:Nat)=>(k:Int)
abbrev Ha(a:jY)(c:jn):Int:=(a.idxOf c:Nat)
def rR(a:jY)(t:jn)(x:Int):Int:=Ha a<|lc t<|a.getD x.toNat []
def yf{a:jY}(d:a.Nodup){x:Int}:x∈nZ (TD a)↔ ∃c∈a,Ha a c=x:=by
 rw[rZ];constructor
 .rintro⟨k,hk,rfl⟩;have hk:=sL.mp hk;exact⟨a[k],xo hk,by unfold Ha;rw[d.idxOf_getElem k hk]⟩
 rintro⟨c,b,rfl⟩;exact⟨a.idxOf c,sL.mpr<|Ci b,rfl⟩
def XJ{a:jY}{c:jn}(b:c∈a):a.getD (Ha a c).toNat []=c:=by have h:=Ci b;unfold Ha;rw[uQ,sD,km h];simp
def ql{a:jY}{c:jn}(b:c∈a)(t:jn):rR a t (Ha a c)=Ha a (lc t c):=by unfold rR;rw[XJ b]
def W5(m:Nat):(nZ m).Pairwise (· < ·):=by unfold nZ;rw[pd];exact OP.imp λh=>by lia
def BI{n:Nat}{f:jY}(h:yx n f):GY (rR f) (Au n f) (nZ<|TD f):=by
 have hk:=h.2.1.2;have g:=h.2.1.1;have cl:∀t∈Au n f,∀c∈f,lc t c∈f:=λt d=>(UC.mp d).2;refine⟨⟨st n,GB h,λx e=>?_⟩,λt d u i=>⟨Hb t u,Dk h d i,λx e=>?_⟩,λt d=>?_,λt d x e=>?_⟩
 .obtain⟨c,a,rfl⟩:=(yf g).mp e;rw[ql a,Nq<|hk c a]
 .obtain⟨c,a,rfl⟩:=(yf g).mp e;rw[ql a,ql a,ql<|cl t d c a,Nr (nK h d) (nK h i)<|hk c a]
 .have b:=Ov h.1<|nK h d;refine⟨_,Nl h d b,λx e=>?_⟩;obtain⟨c,a,rfl⟩:=(yf g).mp e;rw[ql a,ql<|cl t d c a,Xb (nK h d) b<|hk c a]
 obtain⟨c,a,rfl⟩:=(yf g).mp e;rw[ql a];exact(yf g).mpr ⟨_,cl t d c a,rfl⟩
def Q6{b:jY}{c:jn}(f:c∈b):(b.map cD).findIdx? (D.Z1 · (cD c))=Y (b.idxOf c):=by
 rw[Fl]
 have e:((λd=>D.Z1 d<|cD c)∘cD)=λa=>a==c:=by funext a;show D.Z1 (cD a) (cD c)=_;rw[Dy];by_cases q:a=c<;>simp[q]
 rw[e,List.findIdx?_eq_some_iff_findIdx_eq];exact⟨Ci f,rfl⟩
def Xf{l:List D}{m:Nat}{d:D}(h:l[m]?=Y d):Aw (.tup l) (.int m)=Y (d,I):=by have:=(uT.mp h).1;rw[ixt (by lia)<|by lia,sD,uQ,h];rfl
def Zm{l:List D}{m:Nat}{d:D}(h:l[m]?=Y d):Aw (.lst l) (.int m)=Y (d,I):=(show Aw (.lst l) (.int m)=Aw (.tup l) (.int m)from J).trans<|Xf h
section
variable {n:Nat}{f:jY}(h:yx n f)
include h
theorem abN{x:Int}(g:x∈nZ (TD f)){m:jn}(u:(((Au n f).map λt=>rR f t x).foldl nB []).Perm m)(q:m.Pairwise (· < ·)):
  ∃o,lF [(.int x,I),(.lst<|(Au n f).map cD,I),(.tup<|f.map cD,I)]=Y ((tZ m,I),o):=by
 have s:=h.1;have i:(nZ<|TD f).length<=100:=by have:=h.2.2.2;simp;lia
 have cl:=(BI h).cl;have j:=(yp (V:=(Au n f).map λt=>rR f t x) λv hv=>by obtain⟨t,a,rfl⟩:=jD hv;exact cl t a x g).len i;obtain⟨c,e,rfl⟩:=(yf h.2.1.1).mp g
 let δ:Dn:=[iZ<|Ha f c,Bg (Au n f) I,D9 f]
 have k:EU [2,0] 1 xQ (jo 2) kP V6 δ=Y ((.Z3 .set []<|(((Au n f).map λt=>rR f t<|Ha f c).foldl nB []).map .int,C),δ):=
  Oi (caps:=[2,0]) cD (l:=Au n f) (args:=[.tup<|f.map cD,.int<|Ha f c]) (λt=>rR f t<|Ha f c) i rfl rfl rfl (λt a=>⟨cl t a _ g,I,by
   have tt:=nK h a
   have p:kc mf [jB Sx,jm 2] [D9 f,iZ<|Ha f c,eN t]=Y (enc<|lc t c,[D9 f,iZ<|Ha f c,eN t]):=
    Kf (Nm s (oQ tt.all)<|h.2.1.2 c e) (jE (b:=I)<|jO (Xf (l:=f.map cD) (m:=f.idxOf c) (d:=cD c)<|by rw[lh,km<|Ci e,List.getElem_idxOf];rfl) (jV J).r (jV J).r) (jV J)
   show BQ (jm 0) _ [D9 f,iZ<|Ha f c,eN t]=_;unfold BQ;rw[show jm 0 [D9 f,iZ<|Ha f c,eN t]=Y (.slot 0,[D9 f,iZ<|Ha f c,eN t])from J];simp only[kQ];rw[show res [D9 f,iZ<|Ha f c,eN t] (.slot 0)=Y (.tup<|f.map cD)from J];dsimp only;rw[p];simp only[kQ];rw[Q6<|(UC.mp a).2 c e];simp only[kQ];rw[jz ⟨by have:=I9 f;lia,by rw[Dz];decide⟩,ql e];rfl⟩)
 exact⟨_,JA (np:=3) ⟨rfl,by decide,rfl⟩ (δ:=δ)<|jC (Mm _) (jE (b:=C)<|jC (vU u q<|by lia) (jE (b:=C) k).r).r⟩
theorem vR{R:Int->List Int}(L:Et R (nZ<|TD f))(b:∀s,(R s).Pairwise (· < ·)/\(((Au n f).map λt=>rR f t s).foldl nB []).Perm (R s)):
  ∃o,lU [(Ka n f,I)]=Y ((.lst<|(((nZ<|TD f).filter<|kO R).map R).map tZ,C),o):=by
 have m:=h.1;have v:=h.2.2.2
 obtain⟨u,e⟩:=R3 (T:=nZ<|TD f) (ev:=lF) (os:=[4,7,8]) (cs:=[(.lst<|(Au n f).map cD,I),(.tup<|f.map cD,I)]) (by simp;lia) (λx p c g j k l=>by
  obtain⟨o,e⟩:=abN h p (b x).2 (b x).1;exact Pu c g j k l e) L (d:=.lst ((nZ<|TD f).map .int)) (λδ hd=>by
  cases δ with
  |nil=>cases hd
  |cons a δ=>cases hd;rfl)
 rw[<-abk]at e;refine⟨_,mB (δ:=[rS n f,D9 f,Bg (Au n f) I,U]) ⟨rfl,by decide,rfl⟩<|(jq<|kH (i:=1) (δ1:=[rS n f,U,U,U]) (r:=(.tup<|f.map cD,I)) (jO J (jV J).r (jE J).r) (show 1<4 by decide)).trans<|(jq<|kH (i:=2) (δ1:=[rS n f,D9 f,U,U]) (Kq (uV m h.2.1.2 h.2.2.2)<|jV J) (show 2<4 by decide)).trans ?_⟩;show tj 3 (jT (GU .lst C) [LI]) [2,1] 5 (wM lF) [rS n f,D9 f,Bg (Au n f) I,U]=_;unfold tj;rw[show jT (GU .lst C) [LI] ([rS n f,D9 f,Bg (Au n f) I,U].set 3 U)=Y ((.lst<|(nZ<|TD f).map .int,C),[rS n f,D9 f,Bg (Au n f) I,U])from ?_]
 .simp only[kQ];rw[show kM [rS n f,D9 f,Bg (Au n f) I,U] (([2,1]:List Nat).map .slot)=Y [(.lst<|(Au n f).map cD,I),(.tup<|f.map cD,I)]from J];simp only[kQ];rw[jz ⟨rfl,show 3<4 by decide,rfl⟩,e]
 exact ku (os:=[.val (.int<|TD f,I)]) (oE<|jQ<|jC (a:=.tup (f.map cD)) (by rw[Mn,kN])<|jR J) J (by
 have q:Dp 0 ((TD f):Int):=by unfold Dp;omega
 simp only[GU];rw[jz q];unfold jU nZ;rw[ky,uQ];simp)
end
theorem Of:∀(a b:jn),(a.map D.int).foldl nH (b.map .int)=(a.foldl nB b).map .int
 |[],_=>rfl
 |c::a,b=>by rw[kG,rW,rW,HA,Of]
abbrev U5:F:=VZ
abbrev fCl:F:=jT (g1 oS) [jB<|jT (g1 oo) [jB<|jT (g1 IK) [jB U5]]]
abbrev UW:FS:=jA (oP<|mH 2 fCl) ki
section
variable {h:List Int->Int->Int}{L:jY}{T:jn}{R:Int->List Int}(u:T.length<=60)(w:L.length<=10000)(A:GY h L T)
 (j:∀s,(∀c,c∈R s↔ ∃t∈L,h t s=c)/\(R s).Pairwise (· < ·)/\((L.map λt=>h t s).foldl nB []).Perm (R s))
abbrev wC(h:List Int->Int->Int)(T:jn)(t:jn):D:=.lst (T.map λx=>.int (h t x))
abbrev mh(h:List Int->Int->Int)(L:jY)(T:jn):D:=.lst (L.map<|wC h T)
include u w A j
theorem U6(c a:Sl)(b:Bool){k:Nat}{x:Int}(n:T[k]?=Y x):fCl [c,Y (mh h L T,b),a,ii k]=Y ((tZ<|R x,I),[c,Y (mh h L T,I),a,ii k]):=by
 have p:=lX n
 let g:D->D:=λd=>match Aw d (.int k)with
  |some r=>r.1
  |none=>.Z4
 have i:∀t,Aw (wC h T t) (.int k)=Y (.int<|h t x,I):=λt=>Zm (l:=T.map λx=>.int (h t x)) (by rw[lh,n];rfl)
 have o:U5 [c,Y (mh h L T,b),a,ii k]=Y ((.lst<|(L.map λt=>h t x).map .int,C),[c,Y (mh h L T,I),a,ii k]):=by
  have e:=AH (caps:=[3]) (fi:=lO<|lW 1) (f:=jW Aw (jm 1)<|jm 0) (δ:=[c,Y (mh h L T,b),a,ii k]) (δ1:=[c,Y (mh h L T,I),a,ii k]) (l:=L.map<|wC h T) (args:=[.int k]) g (by cases b<;>rfl) J J (λd hd=>by
   obtain⟨t,_,rfl⟩:=jD hd;refine⟨I,?_⟩;have:g (wC h T t)=.int (h t x):=by simp only[g];rw[i]
   rw[this];exact jO (i t) (jV J).r (jV J).r) (by simpa using w)
  refine e.trans ?_;rw[ky,ky]
  have:(g∘wC h T)=(D.int∘λt=>h t x):=by funext t;simp only[bI,g];rw[i]
  rw[this]
 have G:=yp (V:=L.map λt=>h t x) λv hv=>by obtain⟨t,q,rfl⟩:=jD hv;exact A.cl t q x p
 have m:=G.len (by lia);have dd:mC ((L.map λt=>h t x).map D.int)=((L.map λt=>h t x).foldl nB []).map .int:=Of _ []
 have a:jT (g1 IK) [jB U5] [c,Y (mh h L T,b),a,ii k]=Y ((.Z3 .set []<|((L.map λt=>h t x).foldl nB []).map .int,C),[c,Y (mh h L T,I),a,ii k]):=by refine ku (oE<|jQ o) J ?_;show(if _ then _ else _)=_;rw[dd,jz ⟨Ah _,by rw[kN];lia⟩]
 exact ku (oE<|jQ<|ku (oE<|jQ a) J<|vU (j x).2.2 (j x).2.1<|by lia) J J
theorem Se(c:Sl):∀(a pre:jn)(b:Bool)(d:Sl),T=pre++a->∃g m,mW (jo 3) UW ((bz (TD pre)<|TD a).map λ(k:Nat)=>D.int k) [c,Y (mh h L T,b),Y (.lst<|(pre.map R).map cD,C),d]=Y (.nx [c,Y (mh h L T,g),Y (.lst<|(T.map R).map cD,C),m])
 |[],pre,b,d,e=>⟨b,d,by rw[e,sX];rfl⟩
 |x::a,pre,b,d,e=>by
  have o:T[TD pre]?=Y x:=by rw[e];simp
  have p:(TD pre)<60:=by rw[e]at u;simp at u;lia
  obtain⟨g,m,n⟩:=Se c a (pre++[x]) I (ii<|TD pre) (by rw[e];simp);refine⟨g,m,?_⟩
  have s1:UW [c,Y (mh h L T,b),Y (.lst<|(pre.map R).map cD,C),ii<|TD pre]=Y (.nx [c,Y (mh h L T,I),Y (.lst<|((pre++[x]).map R).map cD,C),ii<|TD pre]):=by have q:=nL (i:=2) (l0:=(pre.map R).map cD) (l:=(pre.map R).map cD) (r:=(tZ<|R x,I)) (f:=fCl) J (U6 u w A j c (Y (.lst<|(pre.map R).map cD,C)) b o) J<|rG (by simp;lia);refine(jq<|oO q).trans ?_;rw[nM,nM];rfl
  rw[oH,vp,kG];show(UW [c,Y (mh h L T,b),Y (.lst<|(pre.map R).map cD,C),ii<|TD pre]).bind _=_;rw[s1];rw[ox]at n;exact n
theorem ab2(LR:Et R T):((T.filter<|kO R).map R).Perm (dd<|T.map R):=by
 refine(List.perm_ext_iff_of_nodup ?_<|EN _ [] (by simp)).mpr λz=>?_
 .refine RB.mpr ((Ex LR λx _=>(j x).2.1).imp ?_);rintro a b ⟨x,r,y,t,rfl,rfl,g⟩ e;cases e;lia
 rw[yq];constructor
 .intro c;obtain⟨x,d,rfl⟩:=jD c;exact .inr<|rT (yL.mp d).1
 rintro(c|c)
 .cases c
 obtain⟨x,d,rfl⟩:=jD c;refine Nh LR d ?_
 cases e:R x with
 |nil=>have:=LR.self x d;rw[e]at this;cases this
 |cons m r=>
  refine⟨m,la,λy f=>?_⟩;have p:=(j x).2.1;rw[e]at p;rcases nQ.mp f with z|z
  .rw[z];exact x8 _
  have:=(AQ.mp p).1 y z;lia
theorem IW{th:D}(g:Ar th=Y (.int<|TD T,I))(LR:Et R T)(a b:Bool):∃d,mY [(th,a),(mh h L T,b)]=Y ((.lst<|((T.filter<|kO R).map R).map cD,C),[Y (th,a),Y (mh h L T,d)]):=by
 obtain⟨d,s,e⟩:=Se u w A j (Y (th,a)) T [] b U J
 have B:∀c∈dd (T.map R),c≠[]:=λc m=>by
  unfold dd at m;rcases(yq _ _ _).mp m with z|z
  .cases z
  obtain⟨x,i,rfl⟩:=jD z;exact λe=>by have:=LR.self x i;rw[e]at this;cases this
 have p:=ab2 u w A j LR;have v:(dd<|T.map R).length<=60:=by rw[<-p.length_eq,kN];exact lY (sM _ _) u
 let δ:Dn:=[Y (th,a),Y (mh h L T,d),Y (.lst<|(T.map R).map cD,C),s]
 have Q:NQ (.lst<|(T.map R).map cD)=Y (.Z3 .set []<|(dd<|T.map R).map cD,C):=by show(if _ then _ else _)=_;rw[jz ⟨Dh _,by simp;lia⟩];unfold mC;rw[show([]:List D)=([]:List (List Int)).map cD from J,EW];rfl
 have E:mN (.Z3 .set []<|(dd<|T.map R).map cD)=Y (.lst<|((T.filter<|kO R).map R).map cD,C):=by show(if((dd<|T.map R).map cD).all Em=C then ll ((dd<|T.map R).map cD)else U)=_;rw[jz<|Dh _];unfold ll;rw[jz ⟨Bt _ B,by rw[kT];simp;lia⟩];rw[<-PX.KD (l:=((T.filter<|kO R).map R).map cD) (λx i=>by obtain⟨c,_,rfl⟩:=jD i;rw[D.pr];exact zW c) (p.map _) (pd.mpr<|(Ex LR λx _=>(j x).2.1).imp ?_)];rintro a b ⟨x,r,y,t,rfl,rfl,v⟩;rw[qL];simp only[cT,kG,cL];rw[jP (show ¬y<x by lia),jP (show ¬y=x by lia)];simp
 have H:jU 0 (TD T)=(bz ([]:List Int).length<|TD T).map λ(k:Nat)=>D.int k:=by unfold jU;rw[Lq];refine ou λk _=>?_;rw[wv]
 have q:=mB (n:=4) (np:=2) (asg:=[2,3]) (f:=tN) (args:=[(th,a),(mh h L T,b)]) (r:=(.lst<|((T.filter<|kO R).map R).map cD,C)) (δ:=δ) ⟨rfl,by decide,by cases a<;>cases b<;>rfl⟩
  ((jq (δ1:=[Y (th,a),Y (mh h L T,b),Y (.lst [],C),U]) J).trans ((jq<|(mn (δ1:=[Y (th,a),Y (mh h L T,b),Y (.lst [],C),U])<|(qj (o:=.val (.int<|TD T,I)) (jQ<|jC g<|jR J) J<|by lia).trans<|by rw[H]).trans e).trans
   (lz<|oi<|ku (oE<|jQ<|jC Q<|jR (δ:=δ) J) J E)))
 cases b
 .exact⟨I,q.trans (by cases a<;>rfl)⟩
 exact⟨d,q.trans (by cases a<;>rfl)⟩
end
abbrev fSg:F:=jW oD (jB<|jT (GU .lst C) [VT,vG])<|jB<|jT (GU .lst C) [nX,V2]
abbrev fRw:F:=V8
abbrev fNm:F:=zC6
abbrev NH:F:=zC7
abbrev JK(n:Nat):D:=.lst ((Df n).map .int)
def UY{n:Nat}(d:n<=5){g:jY}{c:Dn}(f:c[3]?=Y (rS n g)):fSg c=Y ((JK n,C),c):=by
 have e:jW Aw (jm 3) vG c=Y ((.int n,I),c):=jO J (jV f).r (jE J).r;unfold JK;rw[HS n<|by lia,nM];refine jO (a:=.lst ((JJ n).map .int)) (b:=.lst ((st n).map .int)) ?_ (jE (b:=C) ?_).r (jE (b:=C) ?_).r
 .simp only[oD];rw[jz<|uj<|by simp[JJ,xX];lia]
 .exact ku (os:=[.val (.int (-n),I),.val (.int 0,I)]) (oq (jQ<|jN (WI (n:Int)) (jE e).r) J) J (Me n d)
 exact ku (os:=[.val (.int 1,I),.val (.int<|(n:Int)+1,I)]) (oq J<|jQ<|jO (a:=.int n) J (jE e).r (jE J).r) J (GN n d)
def WC{n:Nat}{t:jn}(b:TT n t){s:Int}(a:SG n s):kY [enc t,pI s]=Y (pI<|led t s,[eN t,ii s]):=by have:=b.len;unfold SG ab at a;exact R5 t s (by rintro rfl;simp at a) (by split at a<;>lia) (by split at a<;>lia)
def UZ{n:Nat}(a:n<=5){t:jn}(g:TT n t)(b:Bool):fRw [Y (JK n,b),eN t]=Y ((wC (λt s=>led t s) (Df n) t,C),[Y (JK n,I),eN t]):=by
 have e:=AH (caps:=[1]) (fi:=lO<|lW 0) (f:=kc kY [jm 0,jm 1]) (δ:=[Y (JK n,b),eN t]) (δ1:=[Y (JK n,I),eN t]) (l:=(Df n).map .int) (args:=[cD t]) (λd=>.int (led t<|J1 d)) (by cases b<;>rfl) J J (λd hd=>by obtain⟨s,c,rfl⟩:=jD hd;exact⟨I,Kf (WC g<|HU.mp c) (jV J)<|jV J⟩) (by have:=yU a;simp;lia)
 rw[ky]at e;exact e
theorem Sq{n:Nat}(f:n<=5):∀(L:jY)(a:List D)(b:Bool)(x:Sl),(∀t∈L,TT n t)->TD a+TD L<=10000->
  ∃c d,lD (jo 1) kP (lb fRw) (L.map cD) a [Y (JK n,b),x]=Y (a++L.map (wC (λt s=>led t s)<|Df n),[Y (JK n,c),d])
 |[],a,b,x,_,_=>⟨b,x,by simp[lD]⟩
 |t::L,a,b,x,h,i=>by rw[oH]at i;obtain⟨c,d,e⟩:=Sq f L (a++[wC (λt s=>led t s) (Df n) t]) I (eN t) (λj g=>h j<|kn _ g) (by simp;lia);refine⟨c,d,?_⟩;rw[kG,lD,show jo 1 (cD t) [Y (JK n,b),x]=Y [Y (JK n,b),eN t]from J];simp only[kQ,yW,nv,yX];rw[UZ f (h t la) b];simp only[kQ];rw[jz<|rG<|by lia];simp only[kQ];rw[e,qb];rfl
def XI:∀(b:jY)(k:Nat)(a:List D)(u v:Sl),TD a+TD b<=100->∃d f,lD DY kP (lb<|tQ [lW 1,lW 0]) (((b.map cD).zipIdx k).map λq=>.tup [.int (0+q.2),q.1]) a [u,v]=Y (a++(b.zipIdx k).map (λq=>.tup [cD q.1,.int q.2]),[d,f]):=by
 intro b
 induction b with
 |nil=>intro k a u v _;exact⟨u,v,by simp[lD]⟩
 |cons c b h=>intro k a u v g;rw[oH]at g;obtain⟨d,f,e⟩:=h (k+1) (a++[.tup [cD c,.int k]]) (ii k) (eN c) (by simp;lia);refine⟨d,f,?_⟩;rw[kG,xE,kG,lD];rw[show DY (.tup [.int (0+((cD c,k):D×Nat).2),((cD c,k):D×Nat).1]) [u,v]=Y [ii k,eN c]from by show Y [ii (0+(k:Int)),eN c]=_;rw[wv]];simp only[kQ,yW,nv,yX];rw[show tQ [lW 1,lW 0] [ii k,eN c]=Y ((.tup [cD c,.int k],I),[ii k,eN c])from J];simp only[kQ];rw[jz<|rG<|by lia];simp only[kQ];rw[e,qb,xE,kG];rfl
abbrev Hy(a:jY):D:=.Z3 .dct (a.map cD) ((a.zipIdx 0).map λq=>.int q.2)
def QV:∀(a:jY)(k:Nat),JX ((a.zipIdx k).map λq=>.tup [cD q.1,.int q.2])=Y ((a.zipIdx k).map λq=>(q.1.map bN,(q.2:Int))):=by
 intro a
 induction a with
 |nil=>exact λ_=>rfl
 |cons c a b=>intro k;simp only[xE,kG,JX,kyI];rw[b,show vS (cD c)=Y (c.map bN)from NA c];rfl
def adQ{d:jY}(h:d.Nodup)(j:(TD d)<=1000):Dv (.lst<|(d.zipIdx 0).map λq=>.tup [cD q.1,.int q.2])=Y (Hy d,C):=by
 show((JX _).bind λd=>if (TD d)<=1000/\(d.map (·.1)).Nodup then Y (D.Z3 .dct (d.map λk=>.tup (k.1.map lV))<|d.map λk=>.int k.2,C)else U)=_;rw[QV];simp only[kQ]
 have g:((d.zipIdx 0).map λq=>(q.1.map (bN:Int->Key),(q.2:Int))).map (·.1)=d.map λc=>c.map Sum.inl:=by
  rw[ky];have:((d.zipIdx 0).map Prod.fst).map (λc=>c.map (bN:Int->Key))=d.map λc=>c.map Sum.inl:=by rw[KH]
  rw[ky]at this;exact this
 have l:(d.map λc=>c.map (bN:Int->Key)).Nodup:=f5 _ (λa b f e=>f<|(iT λ_ _ e=>Gu e).mp e) h;rw[jz ⟨by simpa using j,by rw[g];exact l⟩];rw[ky,ky]
 have i:((d.zipIdx 0).map<|(λk:List Key×Int=>D.tup<|k.1.map lV)∘λq=>(q.1.map (bN:Int->Key),(q.2:Int)))=d.map cD:=by
  have:((d.zipIdx 0).map Prod.fst).map cD=d.map cD:=by rw[KH]
  rw[ky]at this;rw[<-this];refine ou λq _=>?_;simp only[bI,ky];rfl
 rw[i];rfl
def UM{f:F}{c a:Dn}{l:List D}{b:Bool}(h:f c=Y ((.tup l,b),a)):yj 0 f c=Y (l.zipIdx.map λq=>.tup [.int (0+q.2),q.1],a):=by unfold yj;rw[h];rfl
def U1{n:Nat}{a:jY}{c:Dn}(d:c[3]?=Y (rS n a))(h:a.Nodup)(g:(TD a)<=100):fNm c=Y ((Hy a,C),c):=by obtain⟨u,v,e⟩:=XI a 0 [] U U (by simpa using g);have f:yj 0 SA c=Y (((a.map cD).zipIdx 0).map λq=>.tup [.int (0+q.2),q.1],c):=UM<|jO (r:=(.tup<|a.map cD,I)) J (jV d).r (jE J).r;exact jC (adQ h<|by lia) (jE (b:=C)<|(pT (caps:=[]) (k:=2) (args:=[]) f J mS e).trans J).r
theorem Io{c:jn}:∀{a:jY}(k:Nat),c∈a->mF (a.map cD) ((a.zipIdx k).map λq=>.int q.2) (cD c)=Y (.int ((a.idxOf c+k:Nat):Int))
 |[],_,h=>by cases h
 |x::a,k,h=>by
  simp only[kG,xE,mF,Dy];by_cases q:x=c
  .subst q;rw[jz<|nW J,List.idxOf_cons_self,zt]
  rw[jP<|by simpa using q]
  have b:c∈a:=by
   rcases nQ.mp h with z|z
   .exact absurd z.symm q
   exact z
  rw[Io (k+1) b,List.idxOf_cons,show(x==c)=I by simp[q]];show _=Y (D.int ((a.idxOf c+1+k:Nat):Int));rw[show a.idxOf c+(k+1)=a.idxOf c+1+k by omega]
section
variable {n:Nat}{a:jY}(h:yx n a)
include h
theorem UK{c:jn}(b:c∈a):A9 (Hy a) (cD c)=Y (.int<|Ha a c,I):=by unfold A9 Hy;simp only;rw[jz<|EG a c,Io 0 b];rfl
theorem Py(t:jn):wC (rR a) (nZ<|TD a) t=.lst (a.map λc=>.int (Ha a<|lc t c)):=by
 show D.lst _=_
 congr 1
 unfold nZ;rw[ky];apply CK
 .simp
 intro i h1 d;have b:i<(TD a):=by simpa using h1
 simp only[fJ,i8,bI]
 congr 1
 unfold rR;rw[sD,uQ,km b];rfl
theorem U2{t:jn}(g:t∈Au n a):NH [Y (Hy a,C),rS n a,eN t]=Y ((wC (rR a) (nZ<|TD a) t,C),[Y (Hy a,C),rS n a,eN t]):=by
 have i:=h.2.2.2;have tt:=nK h g
 obtain⟨j,e⟩:=AL VV (λd=>.int (Ha a<|lc t<|JG d)) [Y (Hy a,C),eN t] (a.map cD) [] U (λd hd=>by obtain⟨c,f,rfl⟩:=jD hd;rw[nY];exact⟨I,jO (UK h<|(UC.mp g).2 c f) (jR J) (jE (b:=I)<|Kf (EA h.1 tt<|h.2.1.2 c f) (jV J)<|jV J).r⟩)<|uj (by simp;lia)
 rw[uK,ky]at e;rw[Py h];refine(pT (caps:=[0,2]) (k:=1) (l:=a.map cD) (δ1:=[Y (Hy a,C),rS n a,eN t]) (args:=[(Hy a,C),(cD t,I)]) ?_ J (JS 0) e).trans ?_
 .rw[HX,jO (r:=(.tup<|a.map cD,I)) J (jV J).r (jE J).r];rfl
 have:(λd=>D.int<|Ha a<|lc t<|JG d)∘cD=λc=>D.int (Ha a<|lc t c):=by funext c;simp only[bI,nY]
 rw[this];rfl
end
abbrev fS1:F:=kc (lK RD) [jm 10,VL]
abbrev fS2:F:=kc (lK RD) [jm 11,V4]
abbrev N2:FS:=jA (Bx 10 11 (kc my [jm 3])<|kc lU [jm 3])<|jA (G4 (He (yE<|fT fS1)<|yE<|fT fS2) Pb ki) VX
abbrev OI:List Int->Int->Int:=λt s=>led t s
def Ik{R:Int->List Int}{T:jn}(L:Et R T)(a:(TD T)<=60)(b:∀s,(R s).Pairwise (· < ·)):(((T.filter<|kO R).map R).length<=60)/\∀c∈(T.filter<|kO R).map R,TD c<=60:=by
 refine⟨by rw[kN];exact lY (sM _ _) a,λc d=>?_⟩;obtain⟨x,e,rfl⟩:=jD d;have g:(R x).Nodup:=(b x).imp λh=>by omega
 exact lY (vQ _ T g λy f=>(L.cls x (yL.mp e).1 y f).1) a
section
variable {n:Nat}{a:jY}(h:yx n a)(d b g f e:Sl)
abbrev dM(n:Nat)(a:jY)(d b g f e:Sl)(c i j:Bool)(m l k:Sl):Dn:=[d,b,g,rS n a,f,Y (JK n,c),Y (mh OI (Au n a)<|Df n,i),e,Y (mh (rR a) (Au n a)<|nZ<|TD a,j),m,l,k]
include h
theorem adD(q j k:Bool)(I u t:Sl):∃z A L O,N2 (dM n a d b g f e q j k I u t)=SI (.nx<|dM n a d b g f e q z A I L O):=by
 have hn:=h.1;have hk:=h.2.2.2;have U:=Iw h
 have J:(Df n).length<=60:=by rcases(show n=0\/n=1\/n=2\/n=3\/n=4\/n=5 by lia)with rfl|rfl|rfl|rfl|rfl|rfl<;>decide
 have G:(nZ<|TD a).length<=60:=by simp;lia
 have aS:=aaN h (T:=Df n) λs=>HU;have aC:=BI h;obtain⟨Q,w,E⟩:=aS.R<|Tj n (by lia);obtain⟨R2,L2,H⟩:=aC.R<|W5<|TD a;obtain⟨o1,M⟩:=yg h w λs=>(E s).2;obtain⟨o2,N⟩:=vR h L2 λs=>(H s).2;obtain⟨s1,V⟩:=Ik w J λs=>(E s).2.1;obtain⟨W,Z⟩:=Ik L2 G λs=>(H s).2.1;obtain⟨p,u1⟩:=IW J (by lia) aS E (th:=JK n) (by rw[TC,kN]) w q j;obtain⟨v,u2⟩:=IW G (by lia) aC H (th:=.tup (a.map cD)) (by rw[Mn,kN];simp) L2 Tk k;have D:=HV _ (lY s1<|by decide) (λc B=>lY (V c B)<|by decide) C Tk;have F:=HV _ (lY W<|by decide) (λc B=>lY (Z c B)<|by decide) C Tk;generalize ((Df n).filter<|kO Q).map Q=S at*;generalize ((nZ<|TD a).filter<|kO R2).map R2=C' at*
 let m:Bool->Bool->Sl->Sl->Dn:=λj k x y=>dM n a d b g f e q j k I x y
 let X:Sl:=SI (.lst<|S.map cD,C)
 let Y:Sl:=SI (.lst<|C'.map cD,C)
 have K:kc my [jm 3] (m j k u t)=SI ((.lst<|S.map cD,C),m j k u t):=Kq M<|jV Tl;have P:kc lU [jm 3] (m j k u t)=SI ((.lst<|C'.map cD,C),m j k u t):=Kq N<|jV Tl;have t1:fT fS1 (m j k X Y)=SI (C,m (j&&p) k X Y):=ny (o:=Tk)<|(lJ (δ1:=m (j&&p) k X Y) (os:=[.slot 10,.val (.lst<|S.map cD,C)]) (args:=[(.lst<|S.map cD,C),(.lst<|S.map cD,Tk)]) (oq Tl<|jQ<|(lJ (δ1:=m j k X Y) (os:=[.slot 5,.slot 6]) (args:=[(JK n,q),(mh OI (Au n a)<|Df n,j)]) Tl Tl (by cases q<;>cases j<;>simp[kh]) u1).trans (by cases q<;>cases j<;>rfl)) Tl (JS 10) D).trans Tl;have t2:fT fS2 (m (j&&p) k X Y)=SI (C,m (j&&p) (k&&v) X Y):=ny (o:=Tk)<|(lJ (δ1:=m (j&&p) (k&&v) X Y) (os:=[.slot 11,.val (.lst<|C'.map cD,C)]) (args:=[(.lst<|C'.map cD,C),(.lst<|C'.map cD,Tk)]) (oq Tl<|jQ<|(lJ (δ1:=m (j&&p) k X Y) (os:=[.val (.tup<|a.map cD,Tk),.slot 8]) (args:=[(.tup<|a.map cD,Tk),(mh (rR a) (Au n a)<|nZ<|TD a,k)]) (oq (jQ<|jO Tl (jV Tl).r (jE Tl).r) Tl) Tl (by cases k<;>simp[kh]) u2).trans (by cases k<;>rfl)) Tl (JS 11) F).trans Tl;refine⟨j&&p,k&&v,SI (.lst<|S.map cD++[.tup []],C),SI (.lst<|C'.map cD++[.tup []],C),?_⟩;refine(jq (δ1:=m j k X Y) ?_).trans ?_
 .show Bx 10 11 _ _ (m j k u t)=_;unfold Bx;rw[K];simp only[kQ];rw[P];simp only[kQ];rw[jz ⟨show 10<12 by decide,show 11<12 by decide⟩];rfl
 refine(jq<|(se (δ1:=m (j&&p) (k&&v) X Y)<|(U0<|EV t1).trans<|EV t2).trans Tl).trans ?_;refine(jq<|oO<|nL (i:=10) (δ1:=m (j&&p) (k&&v) X Y) (l0:=S.map cD) (l:=S.map cD) (r:=(.tup [],Tk)) Tl Tl Tl<|rG<|by simp;lia).trans ?_;exact(jq<|oO<|nL (i:=11) (δ1:=m (j&&p) (k&&v) (SI (.lst<|S.map cD++[.tup []],C)) Y) (l0:=C'.map cD) (l:=C'.map cD) (r:=(.tup [],Tk)) Tl Tl Tl<|rG<|by simp;lia).trans Tl
end
abbrev Zx:F:=kJ [5] 1 (lO<|lW 4) (jo 1) kP<|lb fRw
abbrev Zz:F:=kJ [7,3] 1 (lO<|lW 4) (jo 2) kP<|lb NH
abbrev Si:FS:=jA VM<|jA zC8<|jA VC<|jA (lE 5 fSg)<|jA (lE 6 Zx)<|jA (lE 7 fNm)<|jA (lE 8 Zz)<|jA (oA (wI Gw) (jo 9) N2) ki
def adE(O:jn)(k:Nat)(M E B x v s p m j h:Sl):∃d2 d3 d4 d5 d6 d7 d8 H A z,Si [SI (.lst<|O.map .int,I),ii k,M,E,B,x,v,s,p,m,j,h]=SI (.nx [SI (.lst<|O.map .int,I),ii k,d2,d3,d4,d5,d6,d7,d8,H,A,z]):=by
 let f:Sl:=SI (.lst<|O.map .int,I)
 let g:Sl:=ii k
 obtain⟨a,b,F⟩:=acN O k
 let C:Nat:=5-min k 1
 obtain⟨a1,n,c,y,_,_,K⟩:=aci a b 0 C (by lia) (by simp only[C];lia);have U:=y.1;have S:=Iw y
 have R:jW PX.GS (jB<|fC<|.int 5) VN [f,g,Z6 a b,E,B,x,v,s,p,m,j,h]=SI ((.int C,I),[f,g,Z6 a b,E,B,x,v,s,p,m,j,h]):=by
  have:(C:Int)=5-(if(1:Int)<k then 1 else(k:Int)):=by simp only[C];split<;>lia
  rw[this];simp[f,g]
 obtain⟨w,X,N⟩:=Sq U (Au n c) [] Td SS (λt G=>nK y G) (by simp;lia);rw[uK]at N
 have T:∃J,lD (jo 2) kP (lb NH) ((Au n c).map cD) [] [SI (Hy c,Td),rS n c,SS]=SI ((Au n c).map<|wC (rR c)<|nZ<|TD c,[SI (Hy c,Td),rS n c,J]):=by
  obtain⟨J,e⟩:=AL NH (λd=>wC (rR c) (nZ<|TD c)<|JG d) [SI (Hy c,Td),rS n c] ((Au n c).map cD) [] SS (λd hd=>by obtain⟨t,G,rfl⟩:=jD hd;rw[nY];exact⟨Td,U2 y G⟩)<|uj (by simp;lia)
  rw[uK,ky]at e;refine⟨J,e.trans ?_⟩;have:(λd=>wC (rR c) (nZ<|TD c)<|JG d)∘cD=wC (rR c) (nZ<|TD c):=by funext t;simp only[bI,nY]
  rw[this];rfl
 obtain⟨Z,T⟩:=T
 let SG:Bool->Sl:=λb=>SI (JK n,b)
 let u:Bool->Sl:=λb=>Bg (Au n c) b
 let Q:Sl:=SI (mh OI (Au n c)<|Df n,Td)
 obtain⟨_,⟨I',L,H,A,z,rfl⟩,P⟩:=zh (tg:=jo 9) (fb:=N2) (λ_ δ=>∃I' L H A z,δ=dM n c f g (Z6 a1 b) (u I) (SI (Hy c,Td)) w I' L H A z) (λd ds δ a'=>by
  obtain⟨I',L,H,A,z,q⟩:=a'
  subst q;obtain⟨Y,D,V,W,e⟩:=adD y f g (Z6 a1 b) (u I) (SI (Hy c,Td)) w I' L (SI (d,I)) A z;exact⟨_,_,rfl,e,_,_,_,_,_,rfl⟩) (jU 0 2) (dM n c f g (Z6 a1 b) (u I) (SI (Hy c,Td)) w Td Td m j h) ⟨_,_,_,_,_,rfl⟩
 refine⟨Z6 a1 b,rS n c,u I,SG w,SI (mh OI (Au n c)<|Df n,I'),SI (Hy c,Td),SI (mh (rR c) (Au n c)<|nZ<|TD c,L),H,A,z,?_⟩;refine(jq<|kH (i:=2) (δ1:=[f,g,M,E,B,x,v,s,p,m,j,h]) (Kf F (jV Tl)<|jV Tl) (show 2<12 by decide)).trans ?_;refine(jq<|kH (i:=3) (δ1:=[f,g,Z6 a1 b,E,B,x,v,s,p,m,j,h]) ((lJ (δ1:=[f,g,Z6 a b,E,B,x,v,s,p,m,j,h]) (os:=[.slot 2,.val (.int 0,I),.val (.int C,I)]) (args:=[pS a b,pI (0:Nat),pI C]) (AA Tl<|oq Tl<|jQ R) Tl (JS 2) K).trans Tl) (show 3<12 by decide)).trans ?_;refine(jq<|kH (i:=4) (δ1:=[f,g,Z6 a1 b,rS n c,B,x,v,s,p,m,j,h]) (Kq (Ni y)<|jV Tl) (show 4<12 by decide)).trans ?_;refine(jq<|kH (i:=5) (δ1:=[f,g,Z6 a1 b,rS n c,u Td,x,v,s,p,m,j,h]) (UY U Tl) (show 5<12 by decide)).trans ?_;refine(jq<|kH (i:=6) (δ1:=[f,g,Z6 a1 b,rS n c,u I,SG w,v,s,p,m,j,h]) (r:=(mh OI (Au n c)<|Df n,Td)) ?_ (show 6<12 by decide)).trans ?_
 .exact(pT (caps:=[5]) (k:=1) (l:=(Au n c).map cD) (δ1:=[f,g,Z6 a1 b,rS n c,u I,SG Td,v,s,p,m,j,h]) (args:=[(JK n,Td)]) Tl Tl (JS 5) N).trans Tl
 refine(jq<|kH (i:=7) (δ1:=[f,g,Z6 a1 b,rS n c,u I,SG w,Q,s,p,m,j,h]) (U1 Tl y.2.1.1 (by have:=y.2.2.2;lia)) (show 7<12 by decide)).trans ?_;refine(jq<|kH (i:=8) (δ1:=[f,g,Z6 a1 b,rS n c,u I,SG w,Q,SI (Hy c,Td),p,m,j,h]) (r:=(mh (rR c) (Au n c)<|nZ<|TD c,Td)) ?_ (show 8<12 by decide)).trans ?_
 .exact(pT (caps:=[7,3]) (k:=1) (l:=(Au n c).map cD) (δ1:=[f,g,Z6 a1 b,rS n c,u I,SG w,Q,SI (Hy c,Td),p,m,j,h]) (args:=[(Hy c,Td),(Ka n c,I)]) Tl Tl (JS 7) T).trans Tl
 exact(jq<|(mn (ds:=jU 0 2)<|qj (n:=2) (o:=.val (.int 2,I)) Tl Tl<|by decide).trans P).trans rfl
def Vq(a:jn)(L:(TD a)<=63):∃o b,uW [(.lst<|a.map .int,I)]=Y ((.bl C,o),b):=by
 let c:Sl:=Y (.lst<|a.map .int,I)
 let N:Nat:=if 1<min (TD a) 5 then min (TD a) 5 else 1
 obtain⟨s,_,e⟩:=zh (tg:=jo 1) (fb:=Si) (λds δ=>∃t i j l m n p q r g f,(∀d∈ds,∃k:Nat,d=.int k)/\δ=[c,t,i,j,l,m,n,p,q,r,g,f]) (λd ds δ O=>by
  obtain⟨t,i,j,l,m,n,p,q,r,g,f,h1,h⟩:=O
  subst h;obtain⟨k,rfl⟩:=h1 d la;obtain⟨g2,z,A,B,Q,E,H,T,u,v,e⟩:=adE a k i j l m n p q r g f
  exact⟨_,_,rfl,e,_,_,_,_,_,_,_,_,_,_,_,λx y=>h1 x<|kn _ y,rfl⟩) (jU 0 N) [c,U,U,U,U,U,U,U,U,U,U,U] ⟨_,_,_,_,_,_,_,_,_,_,_,λd hd=>by obtain⟨k,_,rfl⟩:=rZ.mp hd;exact⟨k,by simp⟩,rfl⟩
 refine⟨I,_,mB (δ:=s) ⟨rfl,by decide,rfl⟩ ?_⟩;refine(jq<|(mn (ds:=jU 0 N) (δ1:=[c,U,U,U,U,U,U,U,U,U,U,U]) ?_).trans e).trans (lz J);refine qj (o:=.val (.int N,I)) (jQ ?_) J (by simp only[N];split<;>omega)
 have w:(N:Int)=if(if(5:Int)<(TD a)then 5 else((TD a):Int))>1 then(if(5:Int)<(TD a)then 5 else((TD a):Int))else 1:=by simp only[N];split<;>split<;>split<;>omega
 rw[w];simp[c]
end PV
def K32.main(b:jn)(c:(TD b)<=63):∃o a,PV.uW [(.lst<|b.map .int,I)]=Y ((.bl C,o),a):=PV.Vq b c
structure PySem.W.Fast:Prop where(tw692333608344704089 tw9255159806423216968 tw17805088018080896468 tw9179798574651148493 tw11894912460161041854 tw4752475041407916615 tw3828976156720685442 tw10415268163733056880 tw6286320404049472579 tw1561859602900155450 tw5262699733595900382 tw6985366843415041643 tw17142481804278488315 tw14199051422660958162 tw12658407127527546380 tw1274161755702597036 tw12091954196739642879 tw14305772254483579542 tw7637494012705199242 tw5547186904229835266 tw778173444701732496 tw11645892822273863069 tw11679373573836558389 tw6558361782250441729 tw9296804687397813045 tw15174093297761920881 tw9716175742544241354 tw17669814172776028431 tw16849443346544664173 tw7486196028302195888 tw1209815586641386892 tw8384538521625473169 tw17065445738839380210 tw18215254016642029930 tw12848106683321686984 tw10585870162696519484 tw8078437811637210301 tw15464069066262196897 tw16423990098987687666 tw9689024511332771749 tw12332383688283386260 tw11678326309082292785 tw14831205105357809355 tw13618160873658825368 tw17602958490088385897 tw12650078558484599770 tw3747657504459261110 tw3885284087380180183 tw16652634352000977885 tw3082189446308279481 tw11198274635530676106 tw7767219651775738748 tw4019899851649849537 tw14854568744045411109 tw7231615751399486959 tw15762444964943858972 tw16357122337693355468 tw9174657632788190856 tw2774976186378012666 tw10989519280119824491 tw15229599090316103900 tw13634693559274582775 tw580945640478774125 tw10988812727825900353 tw11768062000128579052 tw17389136137849266458 tw11877263902920884864 tw6340692520456585403 tw556398849528706520 tw3408206233485774794 tw5262956363656772073 tw3318181522765504566 tw11468118311875147246 tw7896041409605072002 tw16797194071076616003 tw6258143905467335599 tw6326517684943917583 tw10582693219340025659 tw4526239713054861406 tw17483207606794873796 tw16255303619153899250 tw7499644903066086143 tw16985263469911594845 tw6122592904240812576 tw3532576114902898145 tw16732413529641066385 tw15713528640223619998 tw14952805519738343981 tw2567491177937076545 tw6527731474955348866 tw15868409810789839910 tw10559707502566470124 tw1295904488012849177 tw17156754614772058832 tw7215425643720493454 tw17448023945580118388 tw16813335479499126626 tw15766606634655623516 tw10008932341788018726 tw10699132822052758363 tw11878333156700192572 tw10950371062872177009 tw9500753162966619889 tw1950397116543863273 tw9306505536093268038 tw7107745848312658199 tw14696750439901815716 tw11114634144968536709 tw14426322283272748972 tw13661217767899414637 tw11385324198807363161 tw9041318244284763043 tw5409134796124896653 tw4865870723790656508 tw4780830091169506871:True)
open PySem PySem.W PyProof.Rows PX
set_option maxRecDepth 100000 in
set_option maxHeartbeats 0 in
theorem PySem.Challenge.cw_twinriddles_k32_lots_of_signs_and_clause_holds : PySem.Challenge.rw_twinriddles_k32_lots_of_signs_and_clause.Holds := by
  w_on; o_law; k_head; (case hw => w_witness2)
  k_fill
  refine walkT (TB := K32.TB32) (l := PySem.Challenge.rw_twinriddles_k32_lots_of_signs_and_clause) (LV := 9) (x := "_law_script") ⟨rfl, by decide, by decide, rfl⟩ rfl rfl (fun w h Y => km_in_of Y) (fun w h Y => aC (km_tabs_of Y _ (List.mem_cons_of_mem _ List.mem_cons_self)) (aC (km_tabs_of Y _ List.mem_cons_self) aN)) (fun w => aC ?K (aC ?L aN)) (by decide) ?F K32.main
  case K => show List.lookup 64 _ = none; kernel_rfl
  case L => show List.lookup 71 _ = none; kernel_rfl
  case F =>
   intro w mg fa h KX G hmg
   refine' K32.all_mk hmg (txK KX G ?_ ?_ ?_ ?_ ?_ ?_ ?_ ?_ ?_ ?_ ?_ ?_ ?_ ?_ ?_ ?_) ?_ ?_ ?_ ?_ ?_ ?_ ?_ ?_ ?_ (fzT KX G ?_ ?_ ?_ ?_ ?_) (fzT KX G ?_ ?_ ?_ ?_ ?_) ?_ ?_ ?_ ?_ ?_ ?_ ?_ ?_ ?_ ?_ ?_ ?_ ?_ ?_ ?_ (mg_none_of KX G ?_)<;>try first|refine' fz KX G ?_ ?_ ?_ ?_<;>try k_is|k_is|kernel_rfl
