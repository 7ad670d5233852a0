import PyProof.Rows.All
import Wide.All
import OpenK.AllK
import Wide.FinOn
import PyProof.EqAt
import PyProof.EqKinds
import PyProof.TupleCall
import Lean
import PySem.Challenge.RW_twinriddles_k64_whole_papers
set_option Elab.async false
set_option linter.all false
set_option maxRecDepth 100000
set_option maxHeartbeats 8000000
set_option compiler.extract_closed false
set_option backward.eqns.nonrecursive false
noncomputable section
open List renaming length->AC
namespace RfL
theorem r{a:α}:a=a:=rfl
end RfL
open RfL renaming r->H,r->At
open Option renaming some->J,some->zx,none->I,none->z7
open Bool renaming true->C,true->z8,false->Y,false->z9
open And renaming intro->dI
open Array renaming length_toList->kn,getElem?_toList->kR,getElem?_eq_getElem->qc,getElem?_eq_some_iff->Nw,getD_eq_getD_getElem?->vP,getElem?_setIfInBounds->D6,getElem?_eq_none->D5,forIn_toList->D1,getElem?_eq_none_iff->Wt,getElem?_replicate->NQ,mem_toList_iff->Zf,toList_eq_nil_iff->Ze,toArray_toList->NC,toList_push->d0,replicate->ez,getD->eR,toList_map->hH,size_zip->kw,size_map->kA,toList->mm,ext->sm
open Bool renaming false_eq_true->jF,false_ne_true->kJ,and_eq_true->la,not_true->rQ,eq_iff_iff->sM,or_eq_true->yD,true_and->yz,not_eq_true'->AB,not_false->Ax,false_and->dk,and_false->dn,and_self->dP,and_assoc->eV,eq_false_iff->hF,noConfusion->im,decide_and->kv,or_false->mi,false_or->mj,true_or->m8
open False renaming elim->aT
open ForInStep renaming yield->bn
open Function renaming comp_def->rR,comp->aW
open Int renaming toNat_natCast->xj,neg_neg->sL,mul_one->AR,emod_lt_of_pos->Ih,emod_nonneg->Ig,natCast_inj->li,add_comm->pw,mul_neg->r9,le_refl->sa
open LawfulBEq renaming eq_of_beq->rT
open LawfulMonad renaming bind_assoc->vZ,pure_bind->pp
open List renaming mem_map->kO,length_map->jl,map_cons->jI,map_map->ji,getElem?_eq_getElem->jq,mem_cons_self->jt,mem_cons->kN,getElem?_map->jv,mem_cons_of_mem->jx,all_eq_true->ku,size_toArray->jG,mem_append->oE,getElem?_eq_some_iff->qX,length_cons->kG,mem_filter->oD,pairwise_map->kP,map_append->kQ,length_append->lA,mem_of_getElem?->lK,getD_eq_getElem?_getD->lJ,not_mem_nil->my,mem_singleton->yw,nodup_nil->mT,append_assoc->oo,foldl_cons->oU,pairwise_append->uw,map_congr_left->oT,length_filter_le->oR,getElem?_of_mem->pk,getElem?_append_right->qg,lookup_cons->qe,pairwise_cons->FN,mem_append_right->qy,mem_range->yv,getElem?_append_left->rV,length_pos_iff->Ke,mem_map_of_mem->rP,map_id->rO,getElem?_set_ne->sJ,map_nil->sH,getElem?_set_self->vq,length_take->vo,length_singleton->vm,filterMap_cons->xk,nodup_cons->Cj,all_map->rg,any_eq_true->Cn,length_set->tx,replicate_succ->tw,any_map->tj,exists_cons_of_length_pos->sV,take_append_drop->sU,zip_cons_cons->sQ,length_eq_zero_iff->Of,any_cons->sO,nil_append->sN,append_nil->we,all_cons->vX,getElem_mem->vO,length_nil->vN,mem_flatMap->Ac,filter_map->vM,take_sublist->yO,flatten_cons->yN,getElem?_zip_eq_some->FP,drop_eq_getElem_cons->yM,pairwise_reverse->IT,eq_nil_or_concat->yJ,concat_eq_append->yI,mem_of_mem_take->yH,find?_cons->yy,map_id'->yx,mem_append_left->AS,ext_getElem->AK,getElem_map->AI,drop_eq_nil_of_le->AH,ext_getElem?->AG,range'_succ->AF,reverse_perm->AE,eq_nil_of_length_eq_zero->AD,take_of_length_le->AA,nodup_append->FV,getElem_inj->Ex,getElem?_set->Em,perm_middle->Tn,extract_eq_take_drop->Ed,mem_of_mem_drop->Eb,mem_erase_of_ne->D8,getElem?_cons_succ->D7,length_eraseIdx->DZ,any_eq_false->Mc,filter_cons_of_pos->DX,of_mem_zip->IL,length_dropLast->ID,getElem?_zipIdx->IB,foldl_append->IA,pairwise_iff_getElem->Tp,getElem_of_mem->Ir,drop_sublist->Iq,take_succ->Ip,all_append->Ia,perm_cons_erase->HX,dropLast_concat_getLast->HW,filter_eq_self->Y4,filter_congr->HV,nodup_iff_pairwise_ne->Nu,flatMap_cons->HU,filter_cons_of_neg->HS,getElem?_take_of_lt->Oc,eraseIdxIfInBounds_toArray->N6,getElem?_range->N4,length_reverse->NW,pairwise_singleton->NV,perm_append_comm->Vt,length_erase_of_mem->NU,pairwise_lt_range->Zg,filterMap_append->NT,perm_append_singleton->NS,dropLast_eq_take->NB,findIdx?_eq_some_iff_getElem->Zd,findIdx?_eq_none_iff->Zc,dropLast_subset->NA,perm_ext_iff_of_nodup->Nz,getElem?_concat_length->Ny,filter_eq_nil_iff->Vs,eq_nil_iff_forall_not_mem->Zb,replicate->ac,range->am,range'->bi,Nodup->bI,mem_reverse->cP,length_drop->cQ,isEmpty_nil->cR,getElem?_replicate->cV,getElem?_cons_zero->cW,cons_append->cX,range_succ_eq_map->c4,forIn_cons->c7,mem_filterMap->dU,getElem?_drop->dW,foldl->dX,map->ef,length->ey,take_take->eS,getLastD_eq_getLast?->fe,eraseIdx_cons_succ->fv,getElem?_eq_none->fG,zip_nil_right->gc,getElem_range->gf,filter_append->gi,filterMap_map->gj,append_of_mem->gl,length_range->g7,all_eq_false->hD,zipIdx_cons->h8,map_fst_zip->ia,getLast_mem->ib,append_inj'->ij,set_append->kl,forIn_nil->lf,map_take->me
open List.Pairwise renaming imp_of_mem->DV,nil->aV,and->eT,sublist->pc,of_map->pf
open List.Perm renaming refl->vS,of_eq->DW,append_left->NO,trans->fJ,swap->fO,cons->fS,eq_of_pairwise->wS
open List.cons renaming inj->ve,injEq->cJ
open Nat renaming le_refl->jw,ne_of_lt->jY,le_trans->kK,zero_le->lz,lt_of_lt_of_le->oV,lt_irrefl->pz,ne_of_gt->qh,pow_succ->vd,mul_assoc->vc,lt_succ_of_lt->xh,mul_add->sP,le_of_lt->wm,le_succ->wa,zero_add->vU,mul_comm->vR,mul_one->vQ,add_assoc->yG,mod_lt->yB,pow_le_pow_right->yA,min_eq_left->Az,lt_trans->En,lt_succ_self->El,mul_left_comm->D9,lt_of_le_of_lt->DY,lt_asymm->IC,add_sub_cancel_left->Iu,one_mul->Ik,two_pow_pos->Ij,mul_zero->Ii,add_mul->eE,sub_add_cancel->gV,not_lt->g0,lt_or_eq_of_le->g5,add_sub_cancel->g6,le_succ_of_le->h7,le_of_not_lt->j8,le_add_right->ka,mul_add_mod->k5,div_add_mod->k6,lt_or_ge->oC,le_of_eq->oO,add_zero->o8,add_comm->o9,add_mod->r3
open Ne renaming symm->vt
open Option renaming bind_some->jj,isSome_iff_exists->Og,isSome_map->H9,map_eq_some_iff->cO,map->eC,bind->fy,isSome_some->fI,getD_some->ga,getD_none->gb,map_some->gO
open Option.some renaming inj->kD
open Or renaming inl->bj,inr->bq
open Ordering renaming swap->eA
open Prod.mk renaming inj->vh
open PyProof.Rows renaming SortSt->sy,listUpdate_at->vT,slot_tuple_getitem->Ck,get?_update_seq->yE,callWith_type1->AO,seqEpoch_at->Ay,boot_range->Eu,listItems_at->Io,entry_tuple_getitem->Ob,subscriptTail_builtinR->Oa,seqObj->aZ,envOfC->cr,IntsAre->dy,AllBare->dD,Keyed->dH,arrOf->ew,failedOf->eO,IsTup->f9,SortKind->j6,args_tuple_getitem->l9,wpAny_notIn_heap->n7,lt_int->q7,le_int->q9,gt_int->rc,ge_int->re,entry_list_sort->ro,callWith_builtin1->rs,slot_list_sort->t9,slicePart_none->ul,oneType'->ut,keyLt'->uu,tupleItemsOf_->vr,subscriptTail->vu,reverseSlice'->vv,tuples'->wv,plain_sorted->ww,entry_sorted->wE,call_abs_int->wP,kind_sorted->zn
open PyProof.Rows.F renaming plain_set_update_loop->Ib,entry_set_update_loop->NK
open PyProof.Rows.IsTup renaming new->Er
open PySem renaming Shared->hJ,Program->iF,Around->iB,World->iu,SetTable->lH,Value->il,Comprehension->oQ,FuncData->nI,Heap->iJ,Addr->gU,wpAny_bind->gW,wpAny_pure->ik,sizeLine_eq->jP,wpAny_holding->mU,wpAny_newObj_type->oq,wpAny_field->pv,wpAny_mono->qi,wpAny_call_entry->qf,wpAny_rule->sG,wpAny_setState_of->sA,wpAny_truthy_bool->vp,wpAny_setField_rec->vf,codeAny_builtin->qY,codeAny_mono->tJ,mem_of_lookup->tH,wpAny_callSpecial?_slot->tE,call_meets->tu,wpAny_of_eq->tq,wpAny_seqItems->sY,wpAny_standAt->wk,wpAny_passesOwn->wg,wpAny_typeOf->wc,wpAny_askSetting->vY,wpAny_setField->vW,wpAny_attempt->vV,plainId_quiet->yL,wpAny_isInstance->yK,wpAny_forIn_list->yF,intKind_is->yC,wpAny_pyIter_list->AQ,wpAny_Call_Name_kw->AN,codeAny_of_tree->AM,wpAny_specialOf->Aw,tupleKind_room_in1->Av,wpAny_load->Ew,concat_meets->Es,wpAny_alloc->Eo,wpAny_newTuple->Ei,wpAny_letGo->Eh,isSubtype_stop->Ef,wpAny_onRaise->Ee,wpAny_newList->Ea,wpAny_isSame_ref_self->D4,wpAny_storeSet_of->D3,wpAny_pyHash_int->IS,wpAny_execs_nil->IQ,wpAny_pyIter_tuple->IM,noFill_tuple_add->IK,seq_tuple_add->IJ,seqIndex_of->IF,seqIndex_neg->IE,wpAny_runValue->Iz,wpAny_handled->Iy,wpAny_throw->Iw,wpAny_collect_seq->Il,isSubtype_type->Ie,wpAny_pyIter_slot->Ic,wpAny_typeNameOfWhole_keyiter->HZ,wpAny_comprehension_free->N5,wpAny_updateSeq_pair->NX,builtinLookup_eq_fast->NP,wpAny_setEntries_of->NM,wpAny_isOneOf_keyiter->NH,wpAny->ae,model->ah,starEach->ai,assignEach->ao,mainGlobals->ap,compareOp->au,foldedSetIterable->aB,bootBuiltins->aI,Str->aQ,cLine->aS,eval->aU,cellsFrom->bf,backTo->bg,binaryOp->bm,Builtin->bo,Pos->bp,sysModules->bx,assign->bD,Stmt->bG,intKind->bH,clausesOf->bK,IsPair->bY,CmpOp->bZ,wpAny_loadPart'->b5,holding->b6,standAt->ce,rawInt->cg,firstArgMember->ci,codeAny->cj,pyNext->cw,behindInMarks->cz,attributeBase->cB,sliceBounds->cC,NameKind->cE,pyIter->cH,Sem->cY,ofAClassStatement->c0,IsPart->c6,tupleKind->db,swapsWith->de,DictEntry->df,IsEnum->du,letOwnedTupleGo->dE,IsZip->dF,Obj->dS,getItem->d1,callerA->d5,PassesOwn->d6,BindsTo->d9,Arguments->ee,Env->ek,swapsWithSole->el,swappedStores->eu,setAddHashed->eF,collect->eG,Keyword->eJ,GenState->eM,setAdd->eX,pickOrder->eY,hashByValue->fg,valueAt->fw,setsByText->fA,newFunctionEnv->fB,call->fL,scanBound->fU,numAt->fV,list_append->fW,lastMarks->fY,field->fZ,compStart->f3,bindL->f4,bindC->f5,atKey->f6,IsEnumOut->f8,setItem->gm,relabel->gq,newExc->gr,Result->gF,ItemsOf->gJ,unsupported->io,setField->i5,newTuple->i7,keywordEach->i8,compTurn->i9,ZipApart->jp,Model->j0,wpAny_Name->lm,typeOf->lv,typeIs_int->lw,builtinsNs->l6,wpAny_sequenceKey->mo,wpAny_pyIter_enum->ms,wpAny_dictEntries->mu,slot_list_getitem->mA,searchCouldBeSeen->mL,newList->m4,Tok->m7,wpAny_pyIter_zip->na,seqIndex?->nb,noteFrame->nk,eqIsQuiet->nm,checkBuiltinCall->nw,wpAny_updateSeq->px,wpAny_dictEpoch->pB,typeLookup_type->pC,theWindowsPlace->p0,size_of_entries->p4,pushCells_keeps->p5,Fin->p6,wpAny_notIn_of->sn,slotArgs->ss,setAddHashedIn->sx,raiseNew->sB,newSet->sK,intItems->s8,fitsIndex_both->ta,entryFor_alias->tc,entryFor->te,cellOf->tf,bindArgs->th,backToKw->tp,argsOk->ts,Params->tv,Meets->tz,wpAny_notedAt->u3,wpAny_in_heap->u5,setSearchFrom->u6,rangeSize_one->u7,intBits_le_64->u8,evalPart_none->u9,comprehension->vl,call_list_seq->vn,unaryOp->v6,release->v8,name_of_addr->v9,hashInt->wf,call_range_2->wl,callType_new->wn,IsRange->wr,wpAny_in_of->wT,table->w4,subscripted->w5,interactive->w6,Walks->xc,Moved->y3,IsRangeIter->y4
open PySem.Around renaming under_plainId->sZ
open PySem.Builtin.Frozenset renaming addrOf->dv,updateFrom->j1,slot0->j2,sizeOf->j3,oneOther->j4,newClass->j5
open PySem.Builtin.List renaming listTooLong->cv,listExtendWith->dO,listSameRef->d8,listLengthHint->p9,listFitsIndex->qs
open PySem.Builtin.Range renaming rangeSize->d7,small->n6
open PySem.Builtin.Slice renaming slicePlaces->bO,sliceAdjust->cp,sliceApplied->dN,slicePartIndex->n3,sliceFields->n4
open PySem.Builtin.SmallTypes renaming nextOf->aN,ownedTupleHandOut->bb,ownedTupleIsFree->bc
open PySem.Builtin.Tuple renaming tupleHashOf->aX,tupleExact->aY,tupleItemsOf->cb,tupleIsExact->dL,tupleCompareSizes->n1
open PySem.Calls renaming Name_function_global->Od,callWith_builtin->N9
open PySem.Data renaming cell->ev,fields->fH,seq->k4
open PySem.F renaming called_set->Oe,slot_tuple_hash->Kf,slot_enumerate_next->Eg,slot_tuple_add->II,entry_tuple_add->IH,args_tuple_add_2->IG,called_tuple->Tq,slot_dict_keyiterator_next->Nv,plainAttrs_list->HY,entry_list_append->N8,args_list_append_2->N7,args_object_init_2->N3,slot_tuple_iterator_next->N0,entry_enumerate_next->NZ,args_enumerate_next_1->NY,slot_set_iter->NN,plain_list_iadd->NL,plain_set_new->NJ,slot_dict_iter->NI,slot_list_pop->NG,type_list_pop->NF,slot_tuple_eq_refl->ND
open PySem.Heap renaming get?_push_of_some->jJ,lt_size->jc,get?_push_size->kc,size_push->qx,get?_update_self->tD,get?_update_other->Ep,get?_update_ne->Im,SameBut->aF,ExtBut->dh
open PySem.Heap.SameBut renaming update->qd,refl->AL
open PySem.NameKind renaming free->aJ,cell->b9
open PySem.Obj renaming data_mapFields->vg,isFreed_of_fields->Ek,cls_mapFields->Ej,mapSeq->aM,putSet->e6,mapFields->fq
open PySem.Paired renaming length->wo
open PySem.SetTable renaming below->aj,insertAt->aE,runEnd->aG,bits->aK,turns->bP,sizeAbove->bR,grown->bW,leap->b8,Probe->cu,layClean->fF,relaid->fN,fresh->f7,slot->gz,laid->gB,fits->gD,fill->gE,put->h6,tooFull->xf,sameMemory->xn,orStandIn->xx,has->xz,gaveWay->x0,freeSlot->y1,advance->y2
open PySem.SetTable.layClean renaming free->bw
open PySem.SetTable.probe renaming go->c3
open PySem.Str renaming ofString->bz
open PySem.Value renaming none->aw,ref->bV,type->ca,int->fk,bool->fM,str->gu,isStrOf->kS,isInt->m6
open PySem.W renaming Frag->iA,mg_none_of->oS,kia_one->qZ,cellsFrom_some->Et,nsIn->aP,fnOf->bv,keepIn->bX,codeIn->cx,kitOne->c5,methodObj->dJ,OpenLaw->ej,mg_of->hL,WalkO->hZ
open StateT renaming run_pure->Iv
open Sum renaming inr->eh,inl->ei
open True renaming intro->bB
open PySem PySem.Spec PyProof.Rows
section
abbrev iU:=il->hJ->Prop
abbrev iO:=List<|gU×dS
abbrev iI:=List<|List Int
abbrev gY:=List Int
abbrev ju:=List il
abbrev mB:=aQ->Option il
abbrev jM:=List Nat
abbrev qV:=Array<|Int×il
abbrev oF:=Array il
abbrev iX:=List aQ
abbrev kb:=List Expr
abbrev rN:=Bool->hJ->Prop
abbrev FU:=Option il->hJ->Prop
abbrev zC:=il->il->cY il
abbrev xg:=Array<|Option Nat
abbrev CT:=Array<|Option il
abbrev lI:=List<|aQ×gU
abbrev qb:=List oQ
abbrev CS:=Array dH
abbrev jX:=Nat->Prop
abbrev ki:=List gU
abbrev jU:=Scope
abbrev ig:=Expr
end
section
open PySem.SeqAt
theorem ie:type_of% @if_pos:=@if_pos
theorem iC:type_of% @if_neg:=@if_neg
theorem kr:type_of% @decide_eq_false:=@decide_eq_false
theorem km:type_of% @if_false:=@if_false
theorem kj:type_of% @decide_eq_true:=@decide_eq_true
theorem kz:type_of% @if_true:=@if_true
def nc:=@congrArg
theorem om:type_of% @or_false:=@or_false
theorem qw:type_of% @decide_eq_true_eq:=@decide_eq_true_eq
theorem qW:type_of% @not_or:=@not_or
theorem xi:type_of% @bne_self_eq_false:=@bne_self_eq_false
theorem Cm:type_of% @beq_eq_false_iff_ne:=@beq_eq_false_iff_ne
def Au:=@forall_congr'
def D2:=@of_decide_eq_true
end
namespace TT
noncomputable def Jq(mask:Nat)(p:cu):SetTable.Probe:=
 if p.more>0 then {p with j:=p.j+1,more:=p.more-1}else
 {p with j:=(b8 mask p.i p.perturb).1,more:=aG mask (b8 mask p.i p.perturb).1-(b8 mask p.i p.perturb).1,i:=(b8 mask p.i p.perturb).1,perturb:=(b8 mask p.i p.perturb).2}
noncomputable def SS(mask:Nat)(h:Int):SetTable.Probe:={j:=aK h%(mask+1),more:=aG mask (aK h%(mask+1))-aK h%(mask+1),i:=aK h%(mask+1),perturb:=aK h,dummy:=I}
def pr(mask:Nat)(h:Int):Nat->cu
 |0=>SS mask h
 |n+1=>Jq mask<|pr mask h n
structure O1(hs:gY)(t:lH):Prop where
 pow:∃k,3<=k/\k<=11/\t.mask+1=2^k
 dum:t.dummies= #[]
 len:t.place.size=AC hs
 room:5*(AC hs)<3*t.mask
 ris:t.place.toList.Pairwise (· < ·)
 bd:∀j∈t.place.toList,j<=t.mask
 road:∀(i:Nat)(h:Int)(j:Nat),hs[i]?=zx h->t.place[i]?=zx j->∃n,(pr t.mask h n).j=j/\∀m,m<n->(pr t.mask h m).j∈t.place.toList
end TT
namespace L2
abbrev Key:=Sum Int aQ
noncomputable def BF:Key->il->Bool
 |.inl k,v=>m6 k v
 |.inr x,v=>kS x v
noncomputable def adu(w:iu):Key->Int
 |.inl k=>wf k
 |.inr x=>hashStr w x
def kI:∀{k:Key}{v:il},BF k v=C->(∃i t,k=ei i/\v=fk i t)\/(∃x t,k=eh x/\v=gu x t)
 |.inl i,v,h=>by obtain⟨t,e⟩:=Value.isInt_shape (k:=i) (v:=v) h;exact .inl ⟨i,t,rfl,e⟩
 |.inr x,v,h=>by obtain⟨t,e⟩:=Value.isStrOf_shape (x:=x) (v:=v) h;exact .inr ⟨x,t,rfl,e⟩
def ags(i:Int)(t:m7):BF (.inl i) (.int i t)=C:=by simp[BF,m6]
def agr(x:aQ)(t:m7):BF (.inr x) (.str x t)=C:=by simp[BF,kS]
def Rr(a b:Int):decide ((ei a:Key)=ei b)=(a==b):=by
 by_cases e:a=b
 .subst e;simp
 have h: ¬(ei a:Key)=ei b:=λq=>e<|Sum.inl.inj q;rw[kr h];exact(Cm.mpr e).symm
def Rm(a b:aQ):decide ((eh a:Key)=eh b)=decide (a=b):=by
 by_cases e:a=b
 .subst e;simp
 have h: ¬(eh a:Key)=eh b:=λq=>e<|Sum.inr.inj q;rw[kr h,kr e]
def Rq(a:Int)(b:aQ):decide ((ei a:Key)=eh b)=Y:=kr (λq=>nomatch q)
def Ro(a:aQ)(b:Int):decide ((eh a:Key)=ei b)=Y:=kr (λq=>nomatch q)
def lb(d:iF)(w:iu):PySem.KeyKind d w Key where
 is:=BF
 hash:=adu w
 inj:=λv a b g f=>by
  rcases kI g with⟨i,t,rfl,rfl⟩|⟨x,t,rfl,rfl⟩
  .rcases kI f with⟨j,u,rfl,e⟩|⟨y,u,rfl,e⟩
   .injection e with c _;rw[c]
   exact nomatch e
  rcases kI f with⟨j,u,rfl,e⟩|⟨y,u,rfl,e⟩
  .exact nomatch e
  injection e with c _;rw[c]
 byValue:=λk v h=>by rcases kI h with⟨i,t,rfl,rfl⟩|⟨x,t,rfl,rfl⟩<;>rfl
 pyHash:=λhv h=>by
  rcases kI hv with⟨i,t,rfl,rfl⟩|⟨x,t,rfl,rfl⟩
  .exact IS h
  exact wpAny_pyHash_str h
 eqBool:=λl hv h=>by
  rcases kI l with⟨i,t,rfl,rfl⟩|⟨x,t,rfl,rfl⟩
  .rcases kI hv with⟨j,u,rfl,rfl⟩|⟨y,u,rfl,rfl⟩
   .rw[Rr]at h;exact wpAny_eqBool_int h
   rw[Rq]at h;exact SeqAt.EqAt.int_str i t y u _ _ _ _ h
  rcases kI hv with⟨j,u,rfl,rfl⟩|⟨y,u,rfl,rfl⟩
  .rw[Ro]at h;exact SeqAt.EqAt.str_int x t j u _ _ _ _ h
  rw[Rm]at h;exact wpAny_eqBool_str h
 «strs»:=λk x t v h=>by
  rcases kI h with⟨i,u,rfl,e⟩|⟨y,u,rfl,e⟩
  .exact nomatch e
  injection e with c _
  subst c;cases v<;>rfl
def aeZ(a:iF)(w:iu)(i:Int)(t:m7):(lb a w).is (.inl i) (.int i t)=C:=ags i t
def aeY(a:iF)(w:iu)(x:aQ)(t:m7):(lb a w).is (.inr x) (.str x t)=C:=agr x t
inductive V where
 |T2|bl(b:Bool)|int(i:Int)|str(x:aQ)|byt(b:Array UInt8)|flt(b:UInt64)|ref(a:gU)|ty(n:String)
 deriving DecidableEq
def RelV:V->il->Prop
 |.T2,u=>u=aw
 |.bl b,u=>u=fM b
 |.int i,u=>∃t,u=fk i t
 |.str x,u=>∃t,u=gu x t
 |.byt b,u=>∃t,u=Value.bytes b t
 |.flt b,u=>∃t,u=Value.float b t
 |.ref a,u=>u=bV a
 |.ty n,u=>u=ca n
abbrev Vals:List V->List il->Prop:=Paired RelV
def Vals.length{xs:List V}{a:ju}(r:Vals xs a):(AC xs)=(AC a):=wo r
def Vals.get{b:List V}{a:ju}{i:Nat}{x:V}(h:Vals b a)(e:b[i]?=J x):∃u,a[i]?=J u/\RelV x u:=by
 induction h generalizing i with
 |nil=>simp at e
 |cons r t c=>
  cases i with
  |zero=>simp at e;subst e;exact⟨_,rfl,r⟩
  |succ i=>simpa using c (by simpa using e)
theorem Vals.set{x:V}{u:il}(r:RelV x u):∀{xs:List V}{a:ju}(i:Nat),Vals xs a->Vals (xs.set i x) (a.set i u)
 |_,_,_,.nil=>.nil
 |_,_,0,.cons _ t=>.cons r t
 |_,_,i+1,.cons q t=>.cons q (Vals.set r i t)
def Vals.append{c d:List V}{a b:ju}(h:Vals c a)(s:Vals d b):Vals (c++d) (a++b):=by
 induction h with
 |nil=>exact s
 |cons r t e=>exact .cons r e
theorem Vals.take:∀{b:List V}{a:ju}(n:Nat),Vals b a->Vals (b.take n) (a.take n)
 |_,_,0,_=>.nil
 |_,_,_+1,.nil=>.nil
 |_,_,n+1,.cons r t=>.cons r (Vals.take n t)
theorem Vals.drop:∀{b:List V}{a:ju}(n:Nat),Vals b a->Vals (b.drop n) (a.drop n)
 |_,_,0,r=>r
 |_,_,_+1,.nil=>.nil
 |_,_,n+1,.cons _ t=>Vals.drop n t
def J7:Option V->Option il->Prop
 |some v,J u=>RelV v u
 |none,I=>True
 |_,_=>False
def KV{a:Type}:List (a×V)->List (a×il)->Prop:=Paired λ(p:a×V) (q:a×il)=>p.1=q.1/\RelV p.2 q.2
noncomputable def kV:Key->V
 |.inl i=>.int i
 |.inr x=>.str x
inductive HO where
 |lst(xs:List V)
 |tup(xs:List V)
 |dK(kvs:List (Key×V))|dT(kvs:List (List Key×V))
 |set (S:Int->Bool) (n:Nat)
 |SS (zs:List (Int×V))
 |ins (C dx:gU) (fs:List (aQ×V))
 |own (x:gU)
 |xd (fs:List (aQ×V))
 |met (f x:gU)
 |rng (lo hi:Int)
 |Aj (o:dS) (u:HO)
 |tbl (ps:oF)
 |ext (φ:iJ->Prop)
abbrev Hp:=gU->Option HO
noncomputable def upd(U:Hp)(a:gU)(o:HO):Hp:=λb=>if b=a then J o else U b
def iQ{U:Hp}{a:gU}{o:HO}:upd U a o a=J o:=by unfold upd;rw[ie H]
def iW{U:Hp}{a b:gU}{o:HO}(h:b≠a):upd U a o b=U b:=by unfold upd;rw[iC h]
def Kt{U:Hp}{a:gU}{o u:HO}:upd (upd U a o) a u=upd U a u:=by funext b;unfold upd;split<;>rfl
def Wa{U:Hp}{a b:gU}{o u:HO}(h:U a=J o)(c:U b=J u)(d:o≠u):a≠b:=by intro e;subst e;rw[h]at c;exact d<|kD c
def mM{U:Hp}{a b:gU}{o:HO}(h:U a=J o)(c:U b=I):a≠b:=by intro e;subst e;rw[h]at c;cases c
section
variable(P:iF)(w:iu)
def S1(T:Hp)(h:iJ)(a:gU):HO->Prop
 |.lst g=>AC g<=sizeLine/\∃(b:ju)(n:Nat),Vals g b/\h.get? a=J {cls:=.type "list",data:=.seq b.toArray n}
 |.tup g=>AC g<=sizeLine/\∃b:List il,Vals g b/\f9 h a b.toArray
 |.dK d=>AC d<=sizeLine/\(a==bx)=Y/\∃k,KV d k/\h.DictOf (lb P w) a k
 |.dT d=>AC d<=sizeLine/\(a==bx)=Y/\∃g:List (List Key×gU×il),
   Paired (λ(p:List Key×V) (q:List Key×gU×il)=>p.1=q.1/\T q.2.1=J (.tup<|p.1.map kV)/\RelV p.2 q.2.2) d g/\
   ∃o j Q,h.get? a=J o/\o.ExactDict/\o.data=.dict j Q/\j.toList=g.map (entryOfKey<|db<|lb P w)/\(g.map (·.1)).Nodup
 |.set S n=>h.SetOf (bH P w) a S n
 |.SS E=>∃(j:qV)(n:Nat)(t:lH),h.get? a=J {cls:=.type "set",data:=.set j n t}/\Paired (λ(z:Int×V) (e:Int×il)=>z.1=e.1/\RelV z.2 e.2) E j.toList/\
   TT.O1 (E.map (·.1)) t/\t.plain=C/\t.led=!w.params.followText "set-order"
 |.ins U l fs=>T l=J (.own a)/\(AC fs)<=1000/\l≠a/\h.get? a=J (PySem.W.instObj U l)/\
   ∃i,h.Ns1 l i/\(∀f,J7 (fs.lookup f)<|i f)/\PySem.Within i (fs.map (·.1))
 |.own _=>∃o,h.get? a=J o
 |.xd fs=>∃i,h.Ns1 a i/\∀f,J7 (fs.lookup f)<|i f
 |.rng lo L=>∃t u v,h.get? a=J {cls:=.type "range",data:=.fields #[.int lo t,.int L u,.int 1 v]}
 |.Aj o u=>h.get? a=J o/\S1 T h a u
 |.tbl O=>∃q t r,O[0]?=J (.str q t)/\h.get? a=J {cls:=.none,data:=.fields r}/\TriplesOk r.toList/\∀m y,codeAmong m r.toList=J y->∃c B u k t,y=.ref c/\T c=J (.Aj B u)/\B.data=.fields k/\k[1]?=J (.str q t)
 |.met f x=>h.get? a=J (dJ (.ref f)<|.ref x)
 |.ext s=>s h/\(∃o,h.get? a=J o)/\∀h1 A:iJ,s h1->(∀o,h1.get? a=J o->A.get? a=J o)->s A
def Cr(U:Hp)(h:iJ):Prop:= ∀a o,U a=J o->S1 P w U h a o
end
section
variable {P:iF}{w:iu}{H g:Hp}{h h':iJ}{a:gU}{o:HO}
def S1.lt(x:S1 P w H h a o):a<h.objs.size:=by
 cases o with
 |lst c=>obtain⟨_,_,_,_,e⟩:=x;exact jc e
 |tup c=>obtain⟨_,_,_,p⟩:=x;exact p.lt
 |dK b=>obtain⟨_,_,_,_,o,_,_,e,_⟩:=x;exact jc e
 |dT b=>obtain⟨_,_,_,_,o,_,_,e,_⟩:=x;exact jc e
 |set S n=>obtain⟨o,_,_,_,e,_⟩:=x;exact jc e
 |SS l=>obtain⟨_,_,_,e,_⟩:=x;exact jc e
 |ins U d fs=>obtain⟨_,_,_,e,_⟩:=x;exact jc e
 |own y=>obtain⟨_,e⟩:=x;exact jc e
 |xd fs=>obtain⟨_,⟨_,_,_,e,_⟩,_⟩:=x;exact jc e
 |rng lo i=>obtain⟨_,_,_,e⟩:=x;exact jc e
 |Aj j u=>obtain⟨e,_⟩:=x;exact jc e
 |tbl k=>obtain⟨_,_,_,_,e,_⟩:=x;exact jc e
 |met f y=>exact jc (show h.get? a=J _ from x)
 |ext m=>obtain⟨_,⟨_,e⟩,_⟩:=x;exact jc e
def Paired.Md{e i:Type}{F G:e->i->Prop}{c:List e}{d:List i}(h:Paired F c d)(f:∀a b,F a b->G a b):Paired G c d:=by
 induction h with
 |nil=>exact .nil
 |cons r t j=>exact .cons (f _ _ r) j
def S1.I0(x:S1 P w H h a o)(k:∀b u,(b=a\/H b=J (.own a))->h.get? b=J u->h'.get? b=J u)
  (N:∀b,H b=J (.own a)->g b=J (.own a))(U:∀b A,H b=J (.tup A)->g b=J (.tup A))(Y:∀b i u,H b=J (.Aj i u)->g b=J (.Aj i u):=by exact λ_ _ _ q=>q):S1 P w g h' a o:=by
 induction o with
 |lst A=>obtain⟨z,s,n,r,e⟩:=x;exact⟨z,s,n,r,k _ _ (.inl At) e⟩
 |tup A=>obtain⟨z,s,r,i,e,c⟩:=x;exact⟨z,s,r,i,k _ _ (.inl At) e,c⟩
 |dK B=>obtain⟨z,y,O,r,i,j,l,e,c⟩:=x;exact⟨z,y,O,r,i,j,l,k _ _ (.inl At) e,c⟩
 |dT B=>obtain⟨z,y,A,r,i,j,l,e,c⟩:=x;exact⟨z,y,A,Paired.Md r λp q z=>⟨z.1,U _ _ z.2.1,z.2.2⟩,i,j,l,k _ _ (.inl At) e,c⟩
 |set S n=>obtain⟨i,j,l,t,e,c⟩:=x;exact⟨i,j,l,t,k _ _ (.inl At) e,c⟩
 |SS zs=>obtain⟨j,n,t,e,c⟩:=x;exact⟨j,n,t,k _ _ (.inl At) e,c⟩
 |ins C' dx fs=>obtain⟨d,z,ne,e,E,⟨I,j,l,G,c⟩,r⟩:=x;exact⟨N _ d,z,ne,k _ _ (.inl At) e,E,⟨I,j,l,k _ _ (.inr d) G,c⟩,r⟩
 |own y=>obtain⟨i,e⟩:=x;exact⟨i,k _ _ (.inl At) e⟩
 |xd fs=>obtain⟨E,⟨I,j,l,e,c⟩,r⟩:=x;exact⟨E,⟨I,j,l,k _ _ (.inl At) e,c⟩,r⟩
 |rng lo hi=>obtain⟨t,u,v,e⟩:=x;exact⟨t,u,v,k _ _ (.inl At) e⟩
 |Aj i u ih=>obtain⟨e,q⟩:=x;exact⟨k _ _ (.inl At) e,ih q⟩
 |tbl ps=>obtain⟨q,t,D,T,e,F,m⟩:=x;exact⟨q,t,D,T,k _ _ (.inl At) e,F,λL Q z=>let⟨c,i,u,O,t,h1,J',M⟩:=m L Q z;⟨c,i,u,O,t,h1,Y _ _ _ J',M⟩⟩
 |met f y=>have e:h.get? a=J (dJ (.ref f)<|.ref y):=x;show h'.get? a=J (dJ (.ref f)<|.ref y);exact k a _ (.inl At) e
 |ext φ=>obtain⟨p,⟨o,e⟩,st⟩:=x;exact⟨st _ _ p λo q=>k _ _ (.inl At) q,⟨o,k _ _ (.inl At) e⟩,st⟩
def Cr.lt(x:Cr P w H h)(e:H a=J o):a<h.objs.size:=(x a o e).lt
def Cr.fresh(x:Cr P w H h)(e:h.objs.size<=a):H a=I:=by
 cases q:H a with
 |none=>rfl
 |some u=>exact absurd (oV (x.lt q) e)<|pz _
def Cr.kept(x:Cr P w H h)(k:∀b u,h.get? b=J u->h'.get? b=J u):Cr P w H h':=λa o e=>(x a o e).I0 (λb u _ q=>k b u q) (λ_ q=>q) λ_ _ q=>q
def Cr.laid(x:Cr P w H h)(k:∀b u,h.get? b=J u->h'.get? b=J u)(i:h.objs.size<=a)(new:S1 P w (upd H a o) h' a o):Cr P w (upd H a o) h':=λb u e=>by
 have d:=x.fresh i;by_cases f:b=a
 .subst f;rw[iQ]at e;cases e;exact new
 rw[iW f]at e;exact(x b u e).I0 (λc v _ q=>k c v q) (λc q=>by rw[iW<|mM q d];exact q) (λc j q=>by rw[iW<|mM q d];exact q) λc _ _ q=>by rw[iW<|mM q d];exact q
end
def Rd(U:Hp)(a:gU)(u:HO):Prop:=U a=J u\/∃o,U a=J (.Aj o u)
def Rd.ok{P:iF}{w:iu}{U:Hp}{h:iJ}{a:gU}{u:HO}(r:Rd U a u)(x:Cr P w U h):S1 P w U h a u:=by
 rcases r with r|⟨o,r⟩
 .exact x a u r
 obtain⟨_,q⟩:=x a _ r;exact q
def Mp:Option HO->Prop
 |some (.lst _)=>True
 |some (.dK _)=>True
 |some (.dT _)=>True
 |some (.set _ _)=>True
 |some (.SS _)=>True
 |some (.ins _ _ _)=>True
 |some (.ext _)=>True
 |_=>False
section
variable {P:iF}{w:iu}{H:Hp}{h a:iJ}{x e:gU}{d:HO}
def Cr.write(ok:Cr P w H h)(g:Mp (H x))(o:e=x\/H e=J (.own x))(k:∀b u,b≠e->h.get? b=J u->a.get? b=J u)(s:∃u,a.get? e=J u)
  (new:S1 P w (upd H x d) a x d):Cr P w (upd H x d) a:=λb u q=>by
 have f:∀c y,H c=J (.own y)->c≠x:=λc y r z=>by subst z;rw[r]at g;exact g
 have i:∀c n,H c=J (.tup n)->c≠x:=λc n r z=>by subst z;rw[r]at g;exact g
 by_cases l:b=x
 .subst l;rw[iQ]at q;cases q;exact new
 rw[iW l]at q;by_cases j:b=e
 .have p:H b=J (.own x):=by
   rcases o with z|z
   .exact absurd (j.trans z) l
   rw[j];exact z
  rw[q]at p;cases p;obtain⟨v,hv⟩:=s;exact⟨v,by rw[j];exact hv⟩
 refine(ok b u q).I0 (λc v m r=>k c v ?_ r) (λc r=>by rw[iW<|f c b r];exact r) (λc n r=>by rw[iW<|i c n r];exact r) λc _ _ r=>by rw[iW λz=>by subst z;rw[r]at g;exact g];exact r
 rcases m with rfl|m
 .exact j
 rintro rfl;rcases o with z|z
 .exact f c b m z
 rw[m]at z;cases z;exact l At
end
structure Un(fs ex:ki)(H H':Hp)(h h':iJ):Prop where
 keep:∀b o,h.get? b=zx o->H b=z7->b∉fs->b∉ex->h'.get? b=zx o
 slot:∀b o,h.get? b=zx o->H b=z7->b∈fs->b∉ex->∃sl,h'.get? b=zx {o with slots:=sl}
 free:∀b o,h.get? b=zx o->H b=z7->b∉ex->H' b=z7
 there:∀b o,h.get? b=zx o->b∉ex->∃o',h'.get? b=zx o'
 tups:∀b xs,H b=zx (.tup xs)->H' b=zx (.tup xs)
 frzs:∀b o u,H b=zx (.Aj o u)->H' b=zx (.Aj o u)
 tbls:∀b ps,H b=zx (.tbl ps)->∃more,H' b=zx (.tbl<|ps++more)
section
variable {fs c ex d:ki}{H f i:Hp}{h h1 g h':iJ}{a x e:gU}{o:HO}
def Un.any(u:Un fs ex H f h h1){b:gU}{j:dS}(q:h.get? b=J j)(n:H b=I)(l:b∉ex):∃m,h1.get? b=J {j with slots:=m}:=by
 by_cases k:b∈fs
 .exact u.slot b j q n k l
 exact⟨j.slots,u.keep b j q n k l⟩
def Un.kept(k:∀b u,h.get? b=J u->h'.get? b=J u):Un fs ex H H h h':=
 ⟨λb j q _ _ _=>k b j q,λb j q _ _ _=>⟨j.slots,k b j q⟩,λ_ _ _ n _=>n,λb j q _=>⟨j,k b j q⟩,λ_ _ q=>q,λ_ _ _ q=>q,λ_ l q=>⟨#[],by rw[q];simp⟩⟩
def Un.refl:Un fs ex H H h h:=Un.kept λ_ _ q=>q
def Un.laid(k:∀b u,h.get? b=J u->h'.get? b=J u)(r:h.objs.size<=a)(j:H a=I):Un fs ex H (upd H a o) h h' where
 keep:=λb u q _ _ _=>k b u q
 slot:=λb u q _ _ _=>⟨u.slots,k b u q⟩
 free:=λb u q n _=>by rw[iW<|jY<|oV (jc q) r];exact n
 there:=λb u q _=>⟨u,k b u q⟩
 tups:=λb s q=>by rw[iW<|mM q j];exact q
 frzs:=λb u s q=>by rw[iW<|mM q j];exact q
 tbls:=λb t q=>⟨#[],by rw[iW<|mM q j,q];simp⟩
def Un.write(j:Mp (H x))(v:e=x\/H e=J (.own x))(k:∀b u,b≠e->h.get? b=J u->h'.get? b=J u)(t:∃u,h'.get? e=J u):Un fs ex H (upd H x o) h h':=by
 have s:∀b,H b=I->b≠x:=λb n z=>by subst z;rw[n]at j;exact j
 have p:∀b,H b=I->b≠e:=λb n z=>by
  subst z;rcases v with r|r
  .exact s b n r
  rw[n]at r;cases r
 have l:∀b u,H b=J u->¬Mp (J u)->b≠x:=λb u q w z=>by subst z;rw[q]at j;exact w j
 refine⟨λb u q n _ _=>k b u (p b n) q,λb u q n _ _=>⟨u.slots,k b u (p b n) q⟩,λb u q n _=>by rw[iW<|s b n];exact n,λb u q _=>?_,
  λb y q=>by rw[iW<|l b _ q λz=>z];exact q,λb u y q=>by rw[iW<|l b _ q λz=>z];exact q,λb A q=>⟨#[],by rw[iW<|l b _ q λz=>z,q];simp⟩⟩
 by_cases m:b=e
 .subst m;exact t
 exact⟨u,k b u m q⟩
end
noncomputable def My(h:iJ)(U:Hp):List Addr:=(am h.objs.size).filter λa=>(U a).isSome
def Fb(h:iJ)(U:Hp):Heap:=PySem.W.hideAll h<|My h U
def agA(h:iJ)(U:Hp):(Fb h U).objs.size=h.objs.size:=PySem.W.hideAll_size _ _
def RL{h:iJ}{U:Hp}{b:gU}{o:dS}(e:h.get? b=J o)(n:U b=I):(Fb h U).get? b=J o:=
 PySem.W.hideAll_get _ e λa=>by have q:(U b).isSome=C:=(oD.mp a).2;rw[n]at q;simp at q
def UB{h:iJ}{U:Hp}{b:gU}{o:dS}(e:(Fb h U).get? b=J o):h.get? b=J o/\U b=I:=by
 have a:h.get? b=J o:=PySem.W.of_hideAll (My h U) e;refine⟨a,?_⟩
 cases q:U b with
 |none=>rfl
 |some x=>have c:b∈My h U:=oD.mpr ⟨yv.mpr<|jc a,by simp[q]⟩;have z:(Fb h U).get? b=I:=PySem.W.hideAll_none (My h U) c;rw[z]at e;cases e
structure Mod(K:iA)(mg:mB)(base:iJ):Prop where
 kin:K.In base
 glob:base.Ns ap mg
 blt:∃mb,base.Ns l6 mb/\∀x:aQ,x≠"__name__"->mb x=aI x
 nolimit:base.NoLimit
structure Cx where
 prog:iF
 w:iu
 K:iA
 mg:aQ->Option il
 base:iJ
 A:iB
 N:List aQ
 s₀:hJ
 H₀:Hp
 env:ek
 outer:List ek
 stack:List ek
 ex:List gU
 fn:aQ->Bool
 calm:Bool
 pn:List (gU×dS)
 xe:il->hJ->Prop
noncomputable def J2(l:List ek):List Addr:=l.filterMap (·.frame)
abbrev Cx.fs(X:Cx):List Addr:=J2 X.outer
def Mm(a:jU)(x:aQ):Prop:=a.names.lookup x=J .local\/a.names.lookup x=J .cell\/a.names.lookup x=J .free
def Loc(a:jU)(x:aQ):Prop:=a.names.lookup x=J .local\/a.names.lookup x=J .cell
def adO(a:ek)(h:iJ)(m:mB)(x:aQ)(u:il):Prop:=
 (a.kindOf x=J .local/\m x=J u)\/((a.kindOf x=J .cell\/a.kindOf x=J .free)/\∃c,a.cells.lookup x=J c/\h.IsCell c (J u))
structure Cx.Ok(X:Cx):Prop where
 mod:Mod X.K X.mg X.base
 kind:X.env.scope.kind=.function
 glob:X.env.globals=ap
 blt:X.env.builtins=l6
 above:X.s₀.heap.objs.size<=X.env.locals
 inj:∀x y c,X.env.cells.lookup x=zx c->X.env.cells.lookup y=zx c->x=y
 has:∀x,(X.env.kindOf x=zx .cell\/X.env.kindOf x=zx .free)->∃c,X.env.cells.lookup x=zx c
 cab:∀x c,X.fn x=z8->X.env.cells.lookup x=zx c->X.s₀.heap.objs.size<=c
 hd:X.calm=z8->X.A.handled=z7
 frames:X.A.frames=zx X.stack
 stk:X.stack=X.outer\/(X.stack=X.env::X.outer/\X.env.frame=zx X.env.locals)
 exf:∀b∈X.ex,b≠X.env.locals/\∀x c,X.env.cells.lookup x=zx c->c≠b
 bs:∀b o,X.base.get? b=zx o->X.s₀.heap.get? b=zx o/\X.H₀ b=z7
 bsz:X.base.objs.size<=X.s₀.heap.objs.size
 noex:∀b o,X.base.get? b=zx o->b∉X.ex
 exfs:∀b∈X.ex,b∉X.fs
 EU:X.s₀.heap.FunFrames X.base X.outer
 frf:∀b∈X.fs,X.H₀ b=z7
structure Inv(X:Cx)(pins:iO)(σ:List (Option V))(H:Hp)(s:hJ):Prop where
 ok:X.Ok
 os:s.os=X.s₀.os
 bare:dD s.gens
 base:Un X.fs X.ex X.H₀ H X.s₀.heap s.heap
 loc:∃m,s.heap.Ns X.env.locals m/\∀(i:Nat)(x:aQ)(v:V),X.N[i]?=zx x->σ[i]?=zx (zx v)->Mm X.env.scope x->∃u,RelV v u/\adO X.env s.heap m x u
 cell:∀x c,X.env.cells.lookup x=zx c->∃v,s.heap.IsCell c v
 free:H X.env.locals=z7
 freeC:∀x c,X.env.cells.lookup x=zx c->H c=z7
 pin:∀p∈X.pn++pins,s.heap.get? p.1=zx p.2/\H p.1=z7/\p.1≠X.env.locals/\p.1∉X.fs/\∀v,p.2.data≠ .cell v
 hok:Cr X.prog X.w H s.heap
 len:(AC σ)=X.N.length
section
variable {X:Cx}{f:iO}{g:List (Option V)}{H H':Hp}{s:hJ}{h':iJ}
def Cx.Ok.nofr(ok:X.Ok){b:gU}{o:dS}(e:X.base.get? b=J o):b∉X.fs:=λa=>by have:=(ok.EU.mem a).1;rw[e]at this;cases this
def Inv.bs(U:Inv X f g H s):∀b o,X.base.get? b=J o->s.heap.get? b=J o/\H b=I:=λb o e=>⟨U.base.keep b o (U.ok.bs b o e).1 (U.ok.bs b o e).2 (U.ok.nofr e)<|U.ok.noex b o e,U.base.free b o (U.ok.bs b o e).1 (U.ok.bs b o e).2<|U.ok.noex b o e⟩
def Inv.bk(U:Inv X f g H s):∀b o,X.base.get? b=J o->s.heap.get? b=J o:=λb o e=>(U.bs b o e).1
def Inv.mod(U:Inv X f g H s):Mod X.K X.mg X.base:=U.ok.mod
def Inv.Gv(U:Inv X f g H s):X.K.In s.heap:=U.ok.mod.kin.keeps U.bk
def Inv.lt(U:Inv X f g H s):X.env.locals<s.heap.objs.size:=let⟨_,a,_⟩:=U.loc;a.lt
def Inv.sz(U:Inv X f g H s):X.s₀.heap.objs.size<=s.heap.objs.size:=kK U.ok.above<|wm U.lt
def Inv.MV(U:Inv X f g H s){a:gU}(h:s.heap.objs.size<=a):a∉X.fs:=λb=>by obtain⟨_,o,c,_⟩:=U.ok.EU.mem b;exact absurd (oV (jc c)<|kK U.sz h)<|pz _
def Inv.M9(U:Inv X f g H s):∀x c,X.env.cells.lookup x=J c->c≠X.env.locals:=λx c e z=>by obtain⟨v,o,a,hd⟩:=U.cell x c e;obtain⟨m,⟨j,i,h,b,d,_⟩,_⟩:=U.loc;rw[z,b]at a;cases a;rw[d]at hd;cases hd
def Inv.EU(U:Inv X f g H s):s.heap.FunFrames X.base X.outer:=by
 have all:∀(l:List ek),(∀b∈J2 l,b∈X.fs)->X.s₀.heap.FunFrames X.base l->s.heap.FunFrames X.base l:=by
  intro l
  induction l with
  |nil=>intro _ _;trivial
  |cons i r p=>intro h j;obtain⟨hk,⟨L,o,d,k,m,hd⟩,n⟩:=j;have a:L∈X.fs:=h L (by unfold J2;rw[xk,d];exact jt);obtain⟨q,e⟩:=U.base.slot L o m (U.ok.frf L a) a λz=>U.ok.exfs L z a;exact⟨hk,⟨L,_,d,k,e,hd⟩,p (λb c=>h b<|by unfold J2;rw[xk,d];exact jx _ c) n⟩
 exact all X.outer (λ_ c=>c) U.ok.EU
def Inv.stack(U:Inv X f g H s):s.heap.FunFrames X.base X.stack:=by
 rcases U.ok.stk with e|⟨e,hf⟩
 .rw[e];exact U.EU
 rw[e];obtain⟨m,a,_⟩:=U.loc;refine .cons (by rw[U.ok.kind];decide) hf a ?_ U.EU;exact Heap.get?_none_of_le<|kK U.ok.bsz U.ok.above
def Inv.GL(U:Inv X f g H s):∀b∈J2 X.stack,b∈X.env.locals::X.fs:=λb a=>by
 rcases U.ok.stk with e|⟨e,hf⟩
 .rw[e]at a;exact jx _ a
 rw[e]at a;unfold J2 at a;rw[xk,hf]at a;exact a
def Inv.He(U:Inv X f g H s):∀b∈J2 X.stack,H b=I:=λb a=>by
 rcases kN.mp (U.GL b a)with e|a
 .rw[e];exact U.free
 obtain⟨_,o,c,_⟩:=U.ok.EU.mem a;exact U.base.free b o c (U.ok.frf b a) λz=>U.ok.exfs b z a
def Inv.step{g':Array eM}{t':Nat}{d':Drawn}{ch:ki}(I:Inv X f g H s)
  (C:∀b∈ch,(b∈X.ex\/X.s₀.heap.objs.size<=b)/\b≠X.env.locals/\(∀x c,X.env.cells.lookup x=zx c->c≠b)/\∀p∈X.pn++f,p.1≠b)
  (keep:∀b o,b≠X.env.locals->b∉X.fs->b∉ch->s.heap.get? b=zx o->H b=z7->h'.get? b=zx o)
  (slot:∀b o,b≠X.env.locals->b∈X.fs->b∉ch->s.heap.get? b=zx o->H b=z7->∃U,h'.get? b=zx {o with slots:=U})(free:∀b o,b∉ch->s.heap.get? b=zx o->H b=z7->H' b=z7)
  (there:∀b o,b∉ch->s.heap.get? b=zx o->∃Q,h'.get? b=zx Q)
  (G:∀b t,H b=zx (.tup t)->H' b=zx (.tup t))(L:∀b o u,H b=zx (.Aj o u)->H' b=zx (.Aj o u))(T:∀b M,H b=zx (.tbl M)->∃more,H' b=zx (.tbl<|M++more))
  (ns:∀m,s.heap.Ns X.env.locals m->h'.Ns X.env.locals m)(N:Cr X.prog X.w H' h')(hg:dD g'):
  Inv X f g H' {s with heap:=h',gens:=g',drawn:=d',toks:=t'}:=by
 have O:∀b o,X.s₀.heap.get? b=zx o->b≠X.env.locals:=λb o e=>jY<|oV (jc e) I.ok.above
 have J:∀b o,X.s₀.heap.get? b=zx o->b∉X.ex->b∉ch:=λb o e a y=>by
  rcases(C b y).1 with z|z
  .exact a z
  exact absurd (oV (jc e) z) (pz _)
 have h:∀x c,X.env.cells.lookup x=zx c->∀v,s.heap.IsCell c v->h'.IsCell c v:=λx c e v a'=>by
  obtain⟨o,A,hd⟩:=a'
  have B:c∉ch:=λz=>(C c z).2.2.1 x c e At;by_cases D:c∈X.fs
  .obtain⟨U,q⟩:=slot c o (I.M9 x c e) D B A<|I.freeC x c e;exact⟨_,q,hd⟩
  exact⟨o,keep c o (I.M9 x c e) D B A<|I.freeC x c e,hd⟩
 refine⟨I.ok,I.os,hg,⟨λb o e n y a=>?_,λb o e n y a=>?_,λb o e n a=>?_,λb o e a=>?_,λb t e=>G b t<|I.base.tups b t e,λb o t e=>L b o t<|I.base.frzs b o t e,λb M e=>?_⟩,?_,λx c e=>?_,?_,λx c e=>?_,λp F=>?_,N,I.len⟩
 .exact keep b o (O b o e) y (J b o e a) (I.base.keep b o e n y a) (I.base.free b o e n a)
 .obtain⟨U,j⟩:=I.base.slot b o e n y a;obtain⟨Y,E⟩:=slot b _ (O b o e) y (J b o e a) j (I.base.free b o e n a);exact⟨Y,E⟩
 .obtain⟨Q,j⟩:=I.base.there b o e a;exact free b Q (J b o e a) j<|I.base.free b o e n a
 .obtain⟨Q,j⟩:=I.base.there b o e a;exact there b Q (J b o e a) j
 .obtain⟨V,j⟩:=I.base.tbls b M e;obtain⟨W,E⟩:=T b _ j;exact⟨V++W,by rw[E,Array.append_assoc]⟩
 .obtain⟨m,S,R⟩:=I.loc;refine⟨m,ns m S,λi x v j E P=>?_⟩;obtain⟨u,r,l⟩:=R i x v j E P;refine⟨u,r,?_⟩;rcases l with l|⟨k,c,e,z⟩
  .exact .inl l
  exact .inr ⟨k,c,e,h x c e _ z⟩
 .obtain⟨v,z⟩:=I.cell x c e;exact⟨v,h x c e v z⟩
 .obtain⟨m,⟨o,_,_,A,_⟩,_⟩:=I.loc;exact free _ o (λz=>(C _ z).2.1 At) A I.free
 .obtain⟨v,o,A,hd⟩:=I.cell x c e;exact free c o (λz=>(C c z).2.2.1 x c e At) A<|I.freeC x c e
 obtain⟨e,n,ne,K,d⟩:=I.pin p F;have B:p.1∉ch:=λz=>(C p.1 z).2.2.2 p F At;exact⟨keep p.1 p.2 ne K B e n,free p.1 p.2 B e n,ne,K,d⟩
def Inv.un{t':Nat}(U:Inv X f g H s)(u:Un X.fs [] H H' s.heap h')(d:Cr X.prog X.w H' h'):Inv X f g H' {s with heap:=h',toks:=t'}:=by
 obtain⟨m,⟨o,t,q,i,r⟩,_⟩:=id U.loc;obtain⟨y,k⟩:=u.any i U.free (by simp)
 exact U.step (g':=s.gens) (d':=s.drawn) (ch:=[]) (λ_ z=>nomatch z) (λb o _ c _ e n=>u.keep b o e n c<|by simp) (λb o _ c _ e n=>u.slot b o e n c<|by simp) (λb o _ e n=>u.free b o e n<|by simp) (λb o _ e=>u.there b o e<|by simp) u.tups u.frzs u.tbls (λv l=>by obtain⟨x,a,j,h,p⟩:=l;rw[i]at h;cases h;exact⟨_,a,j,k,p⟩) d U.bare
def Inv.call{g':Array eM}{t':Nat}{d':Drawn}{ch:ki}(T:Inv X f g H s)(u:Un (J2 X.stack) ch H H' s.heap h')(i:Cr X.prog X.w H' h')(v:dD g')
  (k:∀b∈ch,(b∈X.ex\/X.s₀.heap.objs.size<=b)/\b≠X.env.locals/\(∀x c,X.env.cells.lookup x=J c->c≠b)/\∀p∈X.pn++f,p.1≠b):
  Inv X f g H' {s with heap:=h',gens:=g',drawn:=d',toks:=t'}:=by
 obtain⟨m,⟨o,U,B,l,r⟩,_⟩:=id T.loc;obtain⟨O,h⟩:=u.any l T.free λz=>(k _ z).2.1 At
 exact T.step (ch:=ch) k (λb o h t a e n=>u.keep b o e n (λz=>(kN.mp<|T.GL b z).elim h t) a) (λb o _ _ a e n=>u.any e n a) (λb o a e n=>u.free b o e n a) (λb o a e=>u.there b o e a) u.tups u.frzs u.tbls (λE y=>by obtain⟨L,d,q,j,A⟩:=y;rw[l]at j;cases j;exact⟨_,d,q,h,A⟩) i v
def Inv.turned{t':Nat}{it:gU}(T:Inv X f g H s)(k:∀b o,b≠it->s.heap.get? b=J o->h'.get? b=J o)(A:H it=I)(h:it≠X.env.locals)
  (h1:it∈X.ex\/X.s₀.heap.objs.size<=it)(l:∀x c,X.env.cells.lookup x=J c->c≠it)(t:∀p∈X.pn++f,p.1≠it):Inv X f g H {s with heap:=h',toks:=t'}:=by
 have d:∀b u,H b=J u->b≠it:=λb u e z=>by rw[z,A]at e;cases e
 refine T.step (g':=s.gens) (d':=s.drawn) (ch:=[it]) (λb w=>?_) (λb o _ _ a e _=>k b o (λz=>a<|by simp[z]) e) (λb o _ _ a e _=>⟨o.slots,k b o (λz=>a<|by simp[z]) e⟩) (λ_ _ _ _ n=>n)
  (λb o a e=>⟨o,k b o (λz=>a<|by simp[z]) e⟩) (λ_ _ e=>e) (λ_ _ _ e=>e) (λb U e=>⟨#[],by rw[e];simp⟩) (λm y=>?_) (λb u e=>?_) T.bare
 .have e:b=it:=by simpa using w
  subst e;exact⟨h1,h,l,t⟩
 .obtain⟨o,j,i,B,r⟩:=y;exact⟨o,j,i,k _ o (vt h) B,r⟩
 refine(T.hok b u e).I0 (λc v a q=>k c v ?_ q) (λ_ q=>q) λ_ _ q=>q;rcases a with z|z
 .rw[z];exact d b u e
 exact d c _ z
def Inv.tok(U:Inv X f g H s)(t:Nat):Inv X f g H {s with toks:=t}:=U.un (h':=s.heap) (t':=t) Un.refl U.hok
def Inv.kept{t':Nat}(U:Inv X f g H s)(k:∀b u,s.heap.get? b=J u->h'.get? b=J u):Inv X f g H {s with heap:=h',toks:=t'}:=U.un (Un.kept k)<|U.hok.kept k
def Inv.laid{a:gU}{o:HO}{t':Nat}(U:Inv X f g H s)(k:∀b u,s.heap.get? b=J u->h'.get? b=J u)(c:s.heap.objs.size<=a)(new:S1 X.prog X.w (upd H a o) h' a o):
  Inv X f g (upd H a o) {s with heap:=h',toks:=t'}:=U.un (Un.laid k c<|U.hok.fresh c)<|U.hok.laid k c new
def Inv.write{x e:gU}{o:HO}{h:Nat}(U:Inv X f g H s)(d:Mp (H x))(c:e=x\/H e=J (.own x))(k:∀b u,b≠e->s.heap.get? b=J u->h'.get? b=J u)(a:∃u,h'.get? e=J u)
  (new:S1 X.prog X.w (upd H x o) h' x o):Inv X f g (upd H x o) {s with heap:=h',toks:=h}:=U.un (Un.write d c k a)<|U.hok.write d c k a new
def Inv.GN{a:iO}(U:Inv X f g H s)(h:∀p∈a,s.heap.get? p.1=J p.2/\H p.1=I/\p.1≠X.env.locals/\p.1∉X.fs/\∀v,p.2.data≠ .cell v):Inv X a g H s:=
 ⟨U.ok,U.os,U.bare,U.base,U.loc,U.cell,U.free,U.freeC,λp b=>(oE.mp b).elim (λz=>U.pin p<|AS _ z)<|h p,U.hok,U.len⟩
def G1{N:iX}(e:N.Nodup){i j:Nat}{x:aQ}(a:N[i]?=J x)(b:N[j]?=J x):i=j:=by obtain⟨h1,c⟩:=qX.mp a;obtain⟨h,d⟩:=qX.mp b;exact(Ex e).mp (c.trans d.symm)
def agF{M:j0}{A:iB}{E:iU}{i:Nat}{x:aQ}{v:V}{u:il}{Q:Unit->hJ->Prop}(I:Inv X f g H s)(hN:X.N.Nodup)(hi:X.N[i]?=zx x)(L:Loc X.env.scope x)(r:RelV v u)
  (h:∀s',Inv X f (g.set i<|zx v) H s'->(∃a,aF a s.heap s'.heap/\(a=X.env.locals\/X.env.cells.lookup x=zx a))->Q () s')(hf:X.fn x=z8\/X.env.scope.names.lookup x=zx .local:=by first|exact .inl rfl|exact .inr rfl|assumption):ae M A (storeName X.env x u) Q E s:=by
 obtain⟨m,W,hl⟩:=id I.loc;have Y:(X.env.scope.kind== .class||(X.env.scope.kind== .module&&X.env.locals !=X.env.globals))=z9:=by rw[I.ok.kind];rfl
 have T:i<(AC g):=by rw[I.len];exact(qX.mp hi).1
 have M9:=I.M9
 have B:∀{a:gU}{h':iJ},(∃o,s.heap.get? a=zx o/\H a=z7)->aF a s.heap h'->Cr X.prog X.w H h':=λ{a h'} ha l b ob e=>by
  obtain⟨_,_,m9⟩:=ha;refine(I.hok b ob e).I0 (λc P C q=>(l.2 c ?_).trans q) (λ_ q=>q) λ_ _ q=>q;rintro rfl;rcases C with rfl|C
  .rw[m9]at e;cases e
  rw[m9]at C;cases C
 rcases L with hk|hk
 .refine wpAny_storeName_local hk W (λh' cS l=>?_) Y;obtain⟨oL,_,_,eD,_⟩:=id W;refine h _ ⟨I.ok,I.os,I.bare,⟨λb o e n G L=>?_,λb o e n G L=>?_,I.base.free,λb o e L=>?_,I.base.tups,I.base.frzs,I.base.tbls⟩,⟨_,cS,λj y v' t O R=>?_⟩,λy c e=>?_,I.free,I.freeC,λp Z=>?_,B ⟨oL,eD,I.free⟩ l,by simpa using I.len⟩ ⟨_,l,.inl At⟩
  .exact(l.2 b<|jY<|oV (jc e) I.ok.above).trans (I.base.keep b o e n G L)
  .obtain⟨sl,t⟩:=I.base.slot b o e n G L;exact⟨sl,(l.2 b<|jY<|oV (jc e) I.ok.above).trans t⟩
  .obtain⟨o',t⟩:=I.base.there b o e L;exact⟨o',(l.2 b<|jY<|oV (jc e) I.ok.above).trans t⟩
  .by_cases J:j=i
   .subst J;rw[hi]at t;cases t;rw[vq T]at O;cases O;exact⟨u,r,.inl ⟨hk,by simp⟩⟩
   rw[sJ<|vt J]at O;obtain⟨u',r',q⟩:=hl j y v' t O R;refine⟨u',r',?_⟩;rcases q with⟨k,e⟩|⟨k,c,e,z⟩
   .refine .inl ⟨k,?_⟩;have:y≠x:=λe=>J<|G1 hN t<|e▸hi;simp[this,e]
   exact .inr ⟨k,c,e,z.sameBut l<|M9 y c e⟩
  .obtain⟨P,z⟩:=I.cell y c e;exact⟨P,z.sameBut l<|M9 y c e⟩
  obtain⟨e,n,ne,nf,d⟩:=I.pin p Z;exact⟨(l.2 p.1 ne).trans e,n,ne,nf,d⟩
 have S:X.fn x=z8:=by
  rcases hf with z|z
  .exact z
  rw[z]at hk;cases hk
 obtain⟨c,C⟩:=I.ok.has x<|.inl hk;obtain⟨P,z⟩:=I.cell x c C;refine wpAny_storeName_cell I.ok.kind hk C z λh' bM l=>?_;obtain⟨oc,D,F⟩:=id z;refine h {s with heap:=h'} ⟨I.ok,I.os,I.bare,⟨λb o e n G L=>?_,λb o e n G L=>?_,I.base.free,λb o e L=>?_,I.base.tups,I.base.frzs,I.base.tbls⟩,⟨m,W.sameBut l<|vt<|M9 x c C,λj y v' t O R=>?_⟩,λy K e=>?_,I.free,I.freeC,λp Z=>?_,B ⟨oc,D,I.freeC x c C⟩ l,by simpa using I.len⟩ ⟨c,l,.inr C⟩
 .exact(l.2 b<|jY<|oV (jc e)<|I.ok.cab x c S C).trans (I.base.keep b o e n G L)
 .obtain⟨sl,t⟩:=I.base.slot b o e n G L;exact⟨sl,(l.2 b<|jY<|oV (jc e)<|I.ok.cab x c S C).trans t⟩
 .obtain⟨o',t⟩:=I.base.there b o e L;exact⟨o',(l.2 b<|jY<|oV (jc e)<|I.ok.cab x c S C).trans t⟩
 .by_cases J:j=i
  .subst J;rw[hi]at t;cases t;rw[vq T]at O;cases O;exact⟨u,r,.inr ⟨.inl hk,c,C,bM⟩⟩
  rw[sJ<|vt J]at O;obtain⟨u',r',q⟩:=hl j y v' t O R;refine⟨u',r',?_⟩;rcases q with q|⟨k,K,e,z'⟩
  .exact .inl q
  refine .inr ⟨k,K,e,z'.sameBut l ?_⟩;rintro rfl;exact J<|G1 hN t<|I.ok.inj _ _ _ e C▸hi
 .by_cases U:K=c
  .subst U;exact⟨_,bM⟩
  obtain⟨w2,z2⟩:=I.cell y K e;exact⟨w2,z2.sameBut l U⟩
 obtain⟨e,n,ne,nf,d⟩:=I.pin p Z;refine⟨(l.2 p.1 ?_).trans e,n,ne,nf,d⟩;intro q;rw[q,D]at e;have q':oc=p.2:=kD e;exact d P (by rw[<-q'];exact F)
def Gk{M:j0}{A:iB}{E:iU}{i:Nat}{x:aQ}{v:V}{u:il}{Q:Unit->hJ->Prop}(U:Inv X f g H s)(c:X.N.Nodup)(e:X.N[i]?=J x)(j:Loc X.env.scope x)(r:RelV v u)
  (h:∀a,Inv X f (g.set i<|J v) H a->Q () a)(d:X.fn x=C\/X.env.scope.names.lookup x=J .local:=by first|exact .inl rfl|exact .inr rfl|assumption):ae M A (storeName X.env x u) Q E s:=
 agF U c e j r (λa b _=>h a b) d
def Inv.Mk{s':hJ}{ch:ki}(U:Inv X f g H s)(i:s'.os=s.os)(u:Un (J2 X.stack) ch H H' s.heap s'.heap)(a:Cr X.prog X.w H' s'.heap)(h:dD s'.gens)
  (d:∀b∈ch,(b∈X.ex\/X.s₀.heap.objs.size<=b)/\b≠X.env.locals/\(∀x c,X.env.cells.lookup x=J c->c≠b)/\∀p∈X.pn++f,p.1≠b):Inv X f g H' s':=by
 obtain⟨h',g',d',t',j⟩:=s';have e:j=s.os:=i;subst e;exact U.call (g':=g') (t':=t') (d':=d') u a h d
end
abbrev XK:=il->Option gU->Hp->Prop
abbrev St:=List<|Option V
abbrev VK:=V->Hp->Prop
abbrev TE:=St->Hp->VK->Prop
abbrev TT:=St->Hp->(Bool->Hp->Prop)->Prop
abbrev TA:=St->Hp->(List V->Hp->Prop)->Prop
structure Ends where
 nx:St->Hp->Prop
 rt:VK
 bk:St->Hp->Prop:=λ_ _=>False
 ct:St->Hp->Prop:=λ_ _=>False
abbrev TS:=Ends->St->Hp->Prop
def EP(X:Cx)(a:iO)(d:St)(Q:VK)(u:il)(c:hJ):Prop:= ∃v b,Inv X a d b c/\RelV v u/\Q v b
def TP(X:Cx)(a:iO)(e:St)(Q:Bool->Hp->Prop)(b:Bool)(d:hJ):Prop:= ∃c,Inv X a e c d/\Q b c
def AP(X:Cx)(a:iO)(f:St)(Q:List V->Hp->Prop)(e:ju)(d:hJ):Prop:= ∃c b,Inv X a f b d/\Vals c e/\Q c b
def SP(X:Cx)(b:iO)(D:Ends)(f:Flow)(d:hJ):Prop:=
 match f with
 |.next=>∃a c,Inv X b a c d/\D.nx a c
 |.brk=>∃a c,Inv X b a c d/\D.bk a c
 |.cont=>∃a c,Inv X b a c d/\D.ct a c
 |.ret u=>∃v a c,Inv X b a c d/\RelV v u/\D.rt v c
def PE(X:Cx)(e:ig)(t:TE):Prop:=
 ∀(a:iO)(s:hJ)(b:St)(U:Hp)(Q:VK),Inv X a b U s->t b U Q->ae (ah X.prog X.w) X.A (aU e X.env) (EP X a b Q) X.xe s
def PT(X:Cx)(e:ig)(t:TT):Prop:=
 ∀(a:iO)(s:hJ)(b:St)(U:Hp)(Q:Bool->Hp->Prop),Inv X a b U s->t b U Q->ae (ah X.prog X.w) X.A (isTrue e X.env<|aU e X.env) (TP X a b Q) X.xe s
def PW(X:Cx)(e:ig)(t:TT):Prop:=
 ∀(b:cY il)(a:iO)(s:hJ)(c:St)(U:Hp)(Q:Bool->Hp->Prop),Inv X a c U s->t c U Q->ae (ah X.prog X.w) X.A (isTrue e X.env b) (TP X a c Q) X.xe s
def PW.pt{X:Cx}{e:ig}{t:TT}(h:PW X e t):PT X e t:=h _
def PA(X:Cx)(d:kb)(t:TA):Prop:=
 ∀(b:bp)(a:iO)(s:hJ)(c:St)(U:Hp)(Q:List V->Hp->Prop),Inv X a c U s->t c U Q->ae (ah X.prog X.w) X.A (spliced<|bg b<|ai d X.env) (AP X a c Q) X.xe s
def PS(X:Cx)(st:bG)(t:TS):Prop:=
 ∀(a:iO)(s:hJ)(b:St)(U:Hp)(D:Ends),Inv X a b U s->t D b U->ae (ah X.prog X.w) X.A (exec st X.env) (SP X a D) X.xe s
def GQ(X:Cx)(st:List bG)(t:TS):Prop:=
 ∀(a:iO)(s:hJ)(b:St)(U:Hp)(D:Ends),Inv X a b U s->t D b U->ae (ah X.prog X.w) X.A (execs st X.env) (SP X a D) X.xe s
def Pt{c:Type}{t:cY c}{Q b:c->hJ->Prop}{M:j0}{A:iB}{E:iU}{s:hJ}(h:ae M A t Q E s)(d:∀a s,Q a s->b a s):ae M A t b E s:=qi h d λ_ _ x=>x
section
variable {X:Cx}
def acC(i:Nat):TE:=λa U Q=>∃v,a[i]?=J (J v)/\Q v U
noncomputable def tC(v:V):TE:=λ_ U Q=>Q v U
def Jo{i:Nat}{x:aQ}{f:bp}(j:X.N[i]?=J x)(hv:Mm X.env.scope x)(hd:(x==("__debug__":aQ))=Y:=by decide)(g:(x==("__classdict__":aQ))=Y:=by decide):PE X (.Name x f) (acC i):=by
 intro a s o U Q T h;obtain⟨v,e,h⟩:=h;obtain⟨m,n,k⟩:=T.loc;obtain⟨u,r,l⟩:=k i x v j e hv;have fin:EP X a o Q u s:=⟨v,U,T,r,h⟩
 rcases l with⟨hk,hm⟩|⟨hk,c,b,d⟩
 .exact lm (wpAny_loadName_local T.ok.kind hk n hm fin) hd
 rcases hk with hk|hk
 .exact lm (wpAny_loadName_cell T.ok.kind hk b d fin) hd
 exact lm (wpAny_loadName_free T.ok.kind hk b d fin g) hd
def XJ{i j f}:PE X (.Constant (.int i) j f) (tC<|.int i):=λ_ _ _ U _ T h=>wpAny_Constant_int ⟨.int i,U,T.tok _,⟨_,rfl⟩,h⟩
def aa9{b j f}:PE X (.Constant (.bool b) j f) (tC<|.bl b):=λ_ _ _ U _ T h=>Constant_bool ⟨.bl b,U,T,rfl,h⟩
def XH{j f}:PE X (.Constant .none j f) (tC .T2):=λ_ _ _ U _ T h=>Constant_none ⟨.T2,U,T,rfl,h⟩
def XE{x j f}:PE X (.Constant (.str x) j f) (tC<|.str x):=λ_ _ _ U _ T h=>Calls.Constant_str ⟨.str x,U,T.tok _,⟨_,rfl⟩,h⟩
def Gl(X:Cx)(x:aQ):Prop:=X.env.kindOf x=J .globalImplicit
def Lv{E:iU}{a:iO}{s:hJ}{d:St}{U:Hp}{x:aQ}{u:il}{f:bp}{Q:iU}(T:Inv X a d U s)(b:Gl X x)(c:X.mg x=J u)(h:Q u s)
  (hd:(x==("__debug__":aQ))=Y:=by decide):ae (ah X.prog X.w) X.A (aU (.Name x f) X.env) Q E s:=
 Od T.ok.kind b (Calls.loadGlobal_global (by rw[T.ok.glob];exact T.mod.glob.keeps T.bk) c h) hd
def rA{E:iU}{a:iO}{s:hJ}{g:St}{U:Hp}{x:aQ}{u:il}{f:bp}{Q:iU}(T:Inv X a g U s)(c:Gl X x)(d:X.mg x=I)(hv:aI x=J u)(h:Q u s)
  (e:x≠"__name__":=by decide)(hd:(x==("__debug__":aQ))=Y:=by decide):ae (ah X.prog X.w) X.A (aU (.Name x f) X.env) Q E s:=by
 obtain⟨i,h1,b⟩:=T.mod.blt;exact Od T.ok.kind c (Calls.loadGlobal_builtin (by rw[T.ok.glob];exact T.mod.glob.keeps T.bk) d (by rw[T.ok.blt];exact h1.keeps T.bk) ((b x e).trans hv) h) hd
def Uo{x:aQ}{v:V}{u:il}{f:bp}(a:Gl X x)(b:X.mg x=J u)(r:RelV v u)(hd:(x==("__debug__":aQ))=Y:=by decide):PE X (.Name x f) (tC v):=
 λ_ _ _ U _ T h=>Lv T a b ⟨v,U,T,r,h⟩ hd
def Uq{x:aQ}{v:V}{u:il}{f:bp}(a:Gl X x)(b:X.mg x=I)(hv:aI x=J u)(r:RelV v u)(c:x≠"__name__":=by decide)(hd:(x==("__debug__":aQ))=Y:=by decide):PE X (.Name x f) (tC v):=
 λ_ _ _ U _ T h=>rA T a b hv ⟨v,U,T,r,h⟩ c hd
variable {a b:ig}{k tb:TE}{f:bp}
noncomputable def tB(t:TE):TT:=λe U Q=>t e U λx d=>∃c,x=.bl c/\Q c d
def Xu{e:ig}{t:TE}(h:PE X e t)(l:∀c,isTrue e X.env c=(do let v <-c;ce e.pos;b6 [v] (truthy v)):=by intro _;rfl):PT X e (tB t):=by intro g s p U Q T m;refine isTrue_plain (Pt (h g s p U _ T m) λv s1 O=>?_)<|l _;obtain⟨x,i,j,o,n⟩:=O;obtain⟨d,rfl,q⟩:=n;cases o;exact vp ⟨i,j,q⟩
variable {tA n:TT}{g:kb}
noncomputable def acO(t u:TT):TT:=λe U Q=>t e U λc d=>if c=C then u e d Q else Q Y d
noncomputable def tOr(t u:TT):TT:=λe U Q=>t e U λc d=>if c=C then Q C d else u e d Q
noncomputable def A2(t:TT):TT:=λe U Q=>t e U λc d=>Q (!c) d
def Ub(i:PT X a tA):PW X (.BoolOp .And [a] f) tA:=by
 intro wh d s j U Q T h;refine isTrue_and<|Pt (i d s j U Q T h) λc s1 e=>?_
 cases c
 .exact e
 exact isTrue_and_nil e
def Xr(i:PT X a tA):PW X (.BoolOp .Or [a] f) tA:=by
 intro wh d s j U Q T h;refine isTrue_or<|Pt (i d s j U Q T h) λc s1 e=>?_
 cases c
 .exact isTrue_or_nil e
 exact e
def Xs(m:PT X a tA)(o:PW X (.BoolOp .And (b::g) f) n):PW X (.BoolOp .And (a::b::g) f) (acO tA n):=by
 intro wh d s l U Q T h;refine isTrue_and<|Pt (m d s l U _ T h) λc s1 O=>?_;obtain⟨e,i,j⟩:=O
 cases c
 .exact⟨e,i,j⟩
 exact o wh d s1 l e Q i j
def aa3(m:PT X a tA)(o:PW X (.BoolOp .Or (b::g) f) n):PW X (.BoolOp .Or (a::b::g) f) (tOr tA n):=by
 intro wh d s l U Q T h;refine isTrue_or<|Pt (m d s l U _ T h) λc s1 O=>?_;obtain⟨e,i,j⟩:=O
 cases c
 .exact o wh d s1 l e Q i j
 exact⟨e,i,j⟩
def Xv(i:PT X a tA):PT X (.UnaryOp .Not a f) (A2 tA):=by intro d s j U Q T h;exact isTrue_not<|i d s j U (λc e=>Q (!c) e) T h
def aaM(k tb:TE):TE:=λe U Q=>k e U λx d=>∃c,x=.bl c/\if c=C then tb e d Q else Q (.bl Y) d
def acG(k tb:TE):TE:=λe U Q=>k e U λx d=>∃c,x=.bl c/\if c=C then Q (.bl C) d else tb e d Q
def aaE(k:TE):TE:=λe U Q=>k e U λx d=>∃c,x=.bl c/\Q (.bl (!c)) d
def XF{op}{t:TE}(h:PE X a t):PE X (.BoolOp op [a] f) t:=λc s e U Q T d=>BoolOp_one<|h c s e U Q T d
def XN(m:PE X a k)(o:PE X (.BoolOp .And (b::g) f) tb):PE X (.BoolOp .And (a::b::g) f) (aaM k tb):=by
 intro d s l U Q T h;refine BoolOp_and<|Pt (m d s l U _ T h) λv s1 O=>?_;obtain⟨x,i,j,p,e⟩:=O;obtain⟨c,rfl,e⟩:=e;cases p;refine vp ?_
 cases c
 .exact⟨.bl Y,i,j,rfl,e⟩
 exact o d s1 l i Q j e
def aa6(m:PE X a k)(o:PE X (.BoolOp .Or (b::g) f) tb):PE X (.BoolOp .Or (a::b::g) f) (acG k tb):=by
 intro d s l U Q T h;refine BoolOp_or<|Pt (m d s l U _ T h) λv s1 O=>?_;obtain⟨x,i,j,p,e⟩:=O;obtain⟨c,rfl,e⟩:=e;cases p;refine vp ?_
 cases c
 .exact o d s1 l i Q j e
 exact⟨.bl C,i,j,rfl,e⟩
def XG(l:PE X a k):PE X (.UnaryOp .Not a f) (aaE k):=by intro d s o U Q T h;refine UnaryOp_<|Pt (l d s o U _ T h) λv s1 O=>?_;obtain⟨x,i,j,m,e⟩:=O;obtain⟨c,rfl,e⟩:=e;cases m;exact not_of<|vp ⟨.bl (!c),i,j,rfl,e⟩
noncomputable def tIf(t:TT)(k tb:TE):TE:=λd U Q=>t d U λc e=>if c=C then k d e Q else tb d e Q
def Ql{c:ig}(q:PT X c tA)(o:PE X a k)(p:PE X b tb):PE X (.IfExp c a b f) (tIf tA k tb):=by
 intro e s i U Q T h;refine wpAny_IfExp<|Pt (q e s i U _ T h) λd s1 O=>?_;obtain⟨j,l,m⟩:=O
 cases d
 .exact p e s1 i j Q l m
 exact o e s1 i j Q l m
end
def CO(K:iA)(U:Hp)(a:gU)(xs:List V):Prop:=
 Rd U a (.lst xs)\/
  ∃(o:dS)(b:oF)(n:Nat),K.lookup a=J o/\o.cls=.type "list"/\o.dict=I/\o.data=.seq b n/\b.size<=sizeLine/\Vals xs b.toList
def FD(K:iA)(U:Hp)(a:gU)(c:List V):Prop:=
 Rd U a (.tup c)\/
  ∃(o:dS)(b:oF)(n:Nat),K.lookup a=J o/\o.cls=.type "tuple"/\o.data=.seq b n/\b.size<=sizeLine/\Vals c b.toList
noncomputable def adL:il->Option V
 |.none=>J .T2
 |.bool b=>J<|.bl b
 |.int i _=>J<|.int i
 |.str x _=>J<|.str x
 |.bytes b _=>J<|.byt b
 |.float b _=>J<|.flt b
 |.ref a=>J<|.ref a
 |.type n=>J<|.ty n
 |_=>I
def RelV.abs{x:V}{u:il}(r:RelV x u):adL u=J x:=by
 cases x with
 |T2=>cases r;rfl
 |bl _=>cases r;rfl
 |int _=>obtain⟨t,rfl⟩:=r;rfl
 |str _=>obtain⟨t,rfl⟩:=r;rfl
 |byt _=>obtain⟨t,rfl⟩:=r;rfl
 |flt _=>obtain⟨t,rfl⟩:=r;rfl
 |ref _=>cases r;rfl
 |ty _=>cases r;rfl
def RelV.inj{x y:V}{u:il}(r:RelV x u)(q:RelV y u):x=y:=kD<|r.abs.symm.trans q.abs
def Vals.inj{c a:List V}{b:ju}(h:Vals c b)(q:Vals a b):c=a:=by
 induction h generalizing a with
 |nil=>cases q;rfl
 |cons r t d=>obtain _|⟨e,f⟩:=q;rw[r.inj e,d f]
section
variable {X:Cx}{b:iO}{f:St}{H:Hp}{s:hJ}{a:gU}{c g:List V}
def CO.of{K:iA}(h:H a=J (.lst c)):CO K H a c:=.inl (.inl h)
def Inv.list(U:Inv X b f H s)(h:CO X.K H a c):∃d:List il,Vals c d/\PlainL s.heap a d.toArray/\c.length<=sizeLine:=by
 rcases h with h|⟨o,d,n,hk,i,hd,j,k,r⟩
 .obtain⟨z,d,n,r,e⟩:=h.ok U.hok;exact⟨d,r,⟨_,n,e,rfl,rfl,rfl⟩,z⟩
 refine⟨d.toList,r,⟨o,n,U.Gv a o hk,i,hd,by simpa using j⟩,?_⟩;have e:=r.length;simp only[kn]at e
 lia
def Inv.tuple(U:Inv X b f H s)(h:FD X.K H a c):∃d:List il,Vals c d/\f9 s.heap a d.toArray/\c.length<=sizeLine:=by
 rcases h with h|⟨o,d,n,hk,i,j,k,r⟩
 .obtain⟨z,d,r,p⟩:=h.ok U.hok;exact⟨d,r,p,z⟩
 refine⟨d.toList,r,⟨o,U.Gv a o hk,i,n,by simpa using j⟩,?_⟩;have e:=r.length;simp only[kn]at e
 lia
def Inv.Cc(U:Inv X b f H s)(h:CO X.K H a c)(p:CO X.K H a g):c=g:=by
 obtain⟨j,r,⟨o,n,e,_,_,d⟩,_⟩:=U.list h;obtain⟨i,q,⟨u,t,l,_,_,k⟩,_⟩:=U.list p;rw[e]at l;cases l;rw[d]at k;injection k with m _
 have:j=i:=by simpa using nc mm m
 subst this;exact r.inj q
def Inv.Bt(U:Inv X b f H s)(h:FD X.K H a c)(p:FD X.K H a g):c=g:=by
 obtain⟨j,r,⟨o,e,_,n,d⟩,_⟩:=U.tuple h;obtain⟨i,q,⟨u,l,_,t,k⟩,_⟩:=U.tuple p;rw[e]at l;cases l;rw[d]at k;injection k with m _
 have:j=i:=by simpa using nc mm m
 subst this;exact r.inj q
end
noncomputable abbrev Cx.FE(X:Cx)(E:iU):Cx:={X with xe:=E}
noncomputable abbrev Cx.MB(X:Cx):Cx:=X.FE λ_ _=>False
def Cx.Ok.FE{X:Cx}(ok:X.Ok)(E:iU):(X.FE E).Ok:=
 ⟨ok.mod,ok.kind,ok.glob,ok.blt,ok.above,ok.inj,ok.has,ok.cab,ok.hd,ok.frames,ok.stk,ok.exf,ok.bs,ok.bsz,ok.noex,ok.exfs,ok.EU,ok.frf⟩
def Cx.Ok.BR{X:Cx}{E:iU}(ok:(X.FE E).Ok):X.Ok:=
 ⟨ok.mod,ok.kind,ok.glob,ok.blt,ok.above,ok.inj,ok.has,ok.cab,ok.hd,ok.frames,ok.stk,ok.exf,ok.bs,ok.bsz,ok.noex,ok.exfs,ok.EU,ok.frf⟩
section
variable {X:Cx}{a:iO}{b:St}{H:Hp}{s:hJ}{E:iU}
def Inv.FE(U:Inv X a b H s)(E:iU):Inv (X.FE E) a b H s:=⟨U.ok.FE E,U.os,U.bare,U.base,U.loc,U.cell,U.free,U.freeC,U.pin,U.hok,U.len⟩
def Inv.BR(U:Inv (X.FE E) a b H s):Inv X a b H s:=⟨U.ok.BR,U.os,U.bare,U.base,U.loc,U.cell,U.free,U.freeC,U.pin,U.hok,U.len⟩
def SP.BR{D:Ends}{f:Flow}{e:hJ}(h:SP (X.FE E) a D f e):SP X a D f e:=by
 cases f with
 |next=>obtain⟨c,d,U,q⟩:=h;exact⟨c,d,U.BR,q⟩
 |brk=>obtain⟨c,d,U,q⟩:=h;exact⟨c,d,U.BR,q⟩
 |cont=>obtain⟨c,d,U,q⟩:=h;exact⟨c,d,U.BR,q⟩
 |ret u=>obtain⟨v,c,d,U,r,q⟩:=h;exact⟨v,c,d,U.BR,r,q⟩
def GQ.MB{st:List bG}{t:TS}(h:GQ X.MB st t):GQ X st t:=λa s b H D U c=>qi (h a s b H D (U.FE _) c) (λ_ _ q=>q.BR) λ_ _ z=>aT z
end
section
variable {X:Cx}{st:bG}{j:List bG}{t u:TS}{e:ig}{i:TE}{g:bp}
noncomputable def aaF:TS:=λD a U=>D.nx a U
noncomputable def acE(t u:TS):TS:=λD a U=>t {D with nx:=u D} a U
def Ue:GQ X [] aaF:=λ_ _ a U _ T h=>IQ ⟨a,U,T,h⟩
def P4(h1:PS X st t)(k:GQ X j u):GQ X (st::j) (acE t u):=by
 intro a s l U D T h;refine wpAny_execs_cons<|Pt (h1 a s l U {D with nx:=u D} T h) λf s1 q=>?_
 cases f with
 |next=>obtain⟨b,c,d,q⟩:=q;exact k a s1 b c D d q
 |ret v=>exact q
 |brk=>exact q
 |cont=>exact q
noncomputable def aaI:TS:=λD a U=>D.ct a U
def ae1:PS X (.Continue g) aaI:=λ_ _ a U _ T h=>wpAny_Continue ⟨a,U,T,h⟩
def Inv.quiet{a:iO}{b:St}{U:Hp}{s:hJ}(T:Inv X a b U s):w6 X.env=Y:=by simp[w6,T.ok.kind]
noncomputable def aaH(i:TE):TS:=λD a U=>i a U λ_ b=>D.nx a b
def Uh(f:PE X e i)(k:de e I g.line X.env=pure Y:=by rfl):PS X (.Expr e g) (aaH i):=by intro a s b U D T h;exact wpAny_Expr_any (Pt (f a s b U _ T h) λv s1 Q=>by obtain⟨x,c,d,m,l⟩:=Q;exact ⟨b,c,d,l⟩) T.quiet k
noncomputable def acF(i:TE):TS:=λD a U=>i a U D.rt
def P6(f:PE X e i):PS X (.Return (J e) g) (acF i):=by intro a s b U D T h;exact wpAny_Return_some (Pt (f a s b U _ T h) λv s1 Q=>by obtain⟨x,c,d,l,k⟩:=Q;exact ⟨x,b,c,d,l,k⟩)
noncomputable def aaC:TS:=λD _ U=>D.rt .T2 U
def Ug:PS X (.Return I g) aaC:=λ_ _ a U _ T h=>wpAny_Return_none ⟨.T2,a,U,T,rfl,h⟩
noncomputable def acJ(c:TT)(t u:TS):TS:=λD a U=>c a U λb d=>if b=C then t D a d else u D a d
def aa4{c:ig}{a b:List bG}{o:TT}(r:PT X c o)(p:GQ X a t)(q:GQ X b u):PS X (.If c a b g) (acJ o t u):=by
 intro f s k U D T h;refine wpAny_If<|Pt (r f s k U _ T h) λd s1 Q=>?_;obtain⟨l,m,n⟩:=Q
 cases d
 .exact q f s1 k l D m n
 exact p f s1 k l D m n
end
abbrev TG:=V->St->Hp->(St->Hp->Prop)->Prop
abbrev Js:=List V->St->Hp->(St->Hp->Prop)->Prop
def PG(X:Cx)(a:ig)(t:TG):Prop:=
 ∀(b:iO)(s:hJ)(e:St)(U:Hp)(v:V)(u:il)(Q:St->Hp->Prop),Inv X b e U s->RelV v u->t v e U Q->
  ae (ah X.prog X.w) X.A (bD a X.env u) (λ_ f=>∃c d,Inv X b c d f/\Q c d) X.xe s
def JC(X:Cx)(h:kb)(t:Js):Prop:=
 ∀(a:iO)(s:hJ)(f:St)(U:Hp)(e:List V)(d:ju)(Q:St->Hp->Prop),Inv X a f U s->Vals e d->t e f U Q->
  ae (ah X.prog X.w) X.A (assignInOrder ((ao h X.env).map (·.2)) d) (λ_ g=>∃b c,Inv X a b c g/\Q b c) X.xe s
abbrev Vq:=V->V->V->Hp->(Hp->Prop)->Prop
def Y2(X:Cx)(t:Vq):Prop:=
 ∀(a:iO)(s:hJ)(e:St)(U:Hp)(o i v:V)(d c u:il)(Q:Hp->Prop),Inv X a e U s->RelV o d->RelV i c->RelV v u->t o i v U Q->
  ae (ah X.prog X.w) X.A (gm d c u) (λ_ f=>∃b,Inv X a e b f/\Q b) X.xe s
section
variable {X:Cx}{d:bp}
noncomputable def Ho(i:Nat):TG:=λv a U Q=>Q (a.set i<|J v) U
def KR{i:Nat}{x:aQ}(c:X.N.Nodup)(f:X.N[i]?=J x)(g:Loc X.env.scope x)(e:X.fn x=C\/X.env.scope.names.lookup x=J .local:=by first|exact .inl rfl|exact .inr rfl|assumption):PG X (.Name x d) (Ho i):=by intro a s k U v u Q T r h;exact wpAny_assign_Name<|Gk T c f g r (λj b=>⟨_,U,b,h⟩) e
noncomputable def adE:Js:=λa b U Q=>a=[]/\Q b U
def abK(t:TG)(u:Js):Js:=λc e U Q=>∃v r,c=v::r/\t v e U λa b=>u r a b Q
def Um:JC X [] adE:=by intro a s b U f c Q T r h;obtain⟨e,h⟩:=h;subst e;cases r;exact assignInOrder_nil ⟨b,U,T,h⟩
def Qh{e:ig}{b:kb}{t:TG}{u:Js}(h1:PG X e t)(j:JC X b u)
  (k:(ao (e::b) X.env).map (·.2)=bD e X.env::(ao b X.env).map (·.2):=by rfl):JC X (e::b) (abK t u):=by
 intro a s n U q o Q T r h;obtain⟨v,p,i,h⟩:=h;subst i
 cases r with
 |cons r m=>rw[k];refine assignInOrder_cons<|Pt (h1 a s n U _ _ _ T r h) λ_ s1 O=>?_;obtain⟨c,f,g,l⟩:=O;exact j a s1 c f _ _ Q g m l
def adD(K:iA)(n:Nat)(t:Js):TG:=λv c U Q=>∃a b,v=.ref a/\FD K U a b/\(AC b)=n/\t b c U Q
def XC{f:kb}{k:Nat}{t:Js}{n:Nat}(q:X.calm=C)(h:JC X f t)
  (x:(ao f X.env).length=n:=by rfl)(U:(ao f X.env).findIdx? (·.1)=I:=by rfl):PG X (.Tuple f k d) (adD X.K n t):=by
 intro c s j T v u Q O r g;obtain⟨a,E,m,y,w,g⟩:=g;subst m;cases r;obtain⟨B,i,z,L⟩:=O.tuple y;refine assign_Tuple_tuple (O.ok.hd q) z (by simp[x,<-w,i.length]) U λp A=>?_;have l:Inv X c j T {s with heap:=p}:=O.kept (t':=s.toks) λb o e=>A b o (jY<|jc e) e;exact h c _ j T E _ Q l (by simpa using i) g
noncomputable def CF(to f:TE)(t:Vq):TG:=λv a U Q=>to a U λo b=>f a b λi c=>t o i v c λe=>Q a e
def Qi{o i:ig}{to f:TE}{t:Vq}(w:PE X o to)(q:PE X i f)(z:Y2 X t)
  (p:∀v,bD (.Subscript o i d) X.env v=(do
   let b <-b6 [v] (aU o X.env)
   let c <-b6 [v,b] (aU i X.env)
   ce d
   b6 [v,b,c] (gm b c v)
   v8 [v,b,c] []):=by intro _;rfl):PG X (.Subscript o i d) (CF to f t):=by
 intro a s e N v u Q M r h;rw[p];refine gW<|mU<|Pt (w a s e N _ M h) λb s1 G=>?_;obtain⟨x,g,l,E,A⟩:=G;refine gW<|mU<|Pt (q a s1 e g _ l A) λc O G=>?_;obtain⟨y,j,m,L,B⟩:=G;refine gW<|wk<|gW<|mU<|Pt (z a O e j x y v b c u _ m E L r B) λ_ T G=>?_;obtain⟨k,n,U⟩:=G;exact wpAny_release ⟨e,k,n,U⟩
noncomputable def WX(c:TE)(g:TG):TS:=λD a U=>c a U λx b=>g x a b D.nx
def Jm{b e:ig}{c:TE}{g:TG}(k:PE X e c)(l:PG X b g)(m:el [b] e d.line X.env=pure Y:=by rfl)(n:eu [b] e X.env=pure I:=by rfl)
  (h1:(ao [b] X.env).map (·.2)=[bD b X.env]:=by rfl):PS X (.Assign [b] e d) (WX c g):=by
 intro a s f U D T h;refine wpAny_Assign_stores (Pt (k a s f U _ T h) λv s1 Q=>?_) m n;obtain⟨x,i,j,p,o⟩:=Q;rw[h1];exact Pt (l a s1 f i x v _ j p o) λ_ r q=>q
def Xx{i:Nat}{x:aQ}{e:ig}{c:TE}{a:bp}(k:X.N.Nodup)(n:X.N[i]?=J x)(p:Loc X.env.scope x)(l:PE X e c)(o:de e (J<|.Name x a) d.line X.env=pure Y:=by rfl)(m:X.fn x=C\/X.env.scope.names.lookup x=J .local:=by first|exact .inl rfl|exact .inr rfl|assumption):
  PS X (.Assign [.Name x a] e d) (WX c<|Ho i):=by
 intro b s t U D T h;refine wpAny_Assign_Name (Pt (l b s t U _ T h) λv s1 Q=>?_) o;obtain⟨y,f,g,r,q⟩:=Q;exact Gk g k n p r (λu j=>⟨_,f,j,q⟩) m
def WU(c:TT)(i:TS):TS:=λD a U=>∃W:Nat->St->Hp->Prop,(∃m,W m a U)/\∀m a U,W m a U->
 c a U λb g=>if b=C then ∃N:St->Hp->Prop,(∀e f,N e f->∃h,h<m/\W h e f)/\i {D with nx:=N,ct:=N,bk:=D.nx} a g else D.nx a g
def P5{c:ig}{i:List bG}{E:TT}{C:TS}(B:d6 (ah X.prog X.w) X.A X.env X.xe)(Q:PT X c E)(O:GQ X i C):PS X (.While c i [] d) (WU E C):=by
 intro a s Y H D I h;obtain⟨W,⟨T,M⟩,turn⟩:=h;refine wpAny_While<|codeAny_whileLoop (λn G=>∃k u,Inv X a k u G/\W n k u) ?_ T ⟨Y,H,I,M⟩;rintro n s1 ⟨g,H1,L,U⟩;refine wg B<|Pt (Q a s1 g H1 _ L (turn n g H1 U)) λb J' a'=>?_;obtain⟨x,y,l⟩:=a'
 cases b with
 |true=>
  obtain⟨N,z,l⟩:=l;rw[ie At];refine wg B<|Pt (O a J' g x _ y l) λf F m=>?_
  cases f with
  |next=>obtain⟨e,j,o,r⟩:=m;obtain⟨q,p,t⟩:=z e j r;exact⟨q,p,e,j,o,t⟩
  |cont=>obtain⟨e,j,o,r⟩:=m;obtain⟨q,p,t⟩:=z e j r;exact⟨q,p,e,j,o,t⟩
  |brk=>exact m
  |ret v=>exact m
 |false=>rw[iC kJ];exact IQ ⟨g,x,y,l⟩
end
structure It where
 go:Nat->Hp->Prop
 yld:Nat->Hp->V->Hp->Prop
 stop:Nat->Hp->Prop
def ur(X:Cx)(a:iO)(U:Hp)(b:gU):Prop:=
 U b=I/\b≠X.env.locals/\b∉X.fs/\(b∈X.ex\/X.s₀.heap.objs.size<=b)/\(∀x c,X.env.cells.lookup x=J c->c≠b)/\∀p∈X.pn++a,p.1≠b
def Inv.J3{X:Cx}{a:iO}{i:St}{U f:Hp}{s:hJ}{b:gU}(T:Inv X a i U s)(d:s.heap.objs.size<=b)(g:f b=I):ur X a f b:=by
 refine⟨g,qh<|oV T.lt d,T.MV d,.inr<|kK T.sz d,λx c e z=>?_,λp h z=>?_⟩
 .obtain⟨v,q⟩:=T.cell x c e;exact absurd (oV q.lt<|by rw[z];exact d)<|pz _
 exact absurd (oV (jc (T.pin p h).1)<|by rw[z];exact d) (pz _)
structure Turn(P:iF)(w:iu)(K:iA)(tg:ig)(J:It)(fp:ki)(it:gU)(tn:Nat->iJ->Prop):Prop where
 mem:it∈fp
 obj:∀i h,tn i h->∀b∈fp,∃o,h.get? b=zx o/\∀v,o.data≠ .cell v
 keep:∀i h h',tn i h->(∀b∈fp,∀o,h.get? b=zx o->h'.get? b=zx o)->tn i h'
 item:∀(X:Cx),X.prog=P->X.w=w->X.K=K->X.calm=z8->∀(i:Nat)(pins:iO)(s:hJ)(σ:St)(H:Hp)(E:iU),Inv X pins σ H s->(∀b∈fp,ur X pins H b)->tn i s.heap->J.go i H->
  ae (ah P w) X.A (cw<|.ref it) (λr s1=>∃u,r=zx u/\
   ae (ah P w) X.A (dE tg (.ref it) u) (λ_ s2=>∃x H',Inv X pins σ H' s2/\RelV x u/\J.yld i H x H'/\tn (i+1) s2.heap/\∀b∈fp,H' b=z7) E s1) E s
 done:∀(X:Cx),X.prog=P->X.w=w->X.K=K->X.calm=z8->∀(i:Nat)(pins:iO)(s:hJ)(σ:St)(H:Hp)(E:iU),Inv X pins σ H s->(∀b∈fp,ur X pins H b)->tn i s.heap->J.stop i H->
  ae (ah P w) X.A (cw<|.ref it) (λr s1=>r=z7/\Inv X pins σ H s1) E s
 self:∀(A:iB)(i:Nat)(s:hJ)(Q:iU)(E:iU),tn i s.heap->Q (.ref it) s->ae (ah P w) A (cH<|.ref it) Q E s
abbrev TI:=St->Hp->(It->Hp->Prop)->Prop
def PIE(X:Cx)(a:iO)(i:St)(h:ig)(R:It->Hp->Prop)(g:il)(e:hJ):Prop:=
 ∃(it:gU)(d:ki)(f:Nat->iJ->Prop)(U:It)(c:Hp),g=.ref it/\Inv X a i c e/\Turn X.prog X.w X.K h U d it f/\f 0 e.heap/\(∀b∈d,ur X a c b)/\R U c
def PI(X:Cx)(tg iter:ig)(c:TI):Prop:=
 ∀(a:iO)(s:hJ)(b:St)(U:Hp)(R:It->Hp->Prop),Inv X a b U s->c b U R->
  ae (ah X.prog X.w) X.A (aU iter X.env) (λv s1=>ae (ah X.prog X.w) X.A (cH v) (PIE X a b tg R) X.xe s1) X.xe s
def RM{M:j0}{A:iB}{E:iU}{s:hJ}{b:ig}{it:gU}{u:il}{o:dS}{n:String}{c:oF}{Q:Unit->hJ->Prop}(f:s.heap.get? it=J o)(d:o.cls=.type n)(hd:o.data=.fields c)
  (e:["enumerate","zip","dict_itemiterator","dict_reverseitemiterator","odict_iterator","itertools.zip_longest","itertools.pairwise"].contains n=Y)(a:Q () s):ae M A (dE b (.ref it) u) Q E s:=by
 unfold dE
 cases b<;>first
  |exact ik a
  |(cases u<;>first
    |exact ik a
    |(
      refine gW<|Ew f ?_;rw[d,hd];show ae M A (if(["enumerate","zip","dict_itemiterator","dict_reverseitemiterator","odict_iterator","itertools.zip_longest","itertools.pairwise"].contains n&&c[0]?==J (cg _))=C then _ else _) Q E s;rw[iC (by intro h;rw[e,dk]at h;cases h)];exact ik a))
noncomputable def Itl(K:iA)(a:gU):It:=
 ⟨λi U=>∃b x,CO K U a b/\b[i]?=J x,λi U x c=>c=U/\∀b,CO K U a b->b[i]?=J x,λi U=>∃b,CO K U a b/\(AC b)<=i⟩
noncomputable def Itt(K:iA)(a:gU):It:=
 ⟨λi U=>∃b x,FD K U a b/\b[i]?=J x,λi U x c=>c=U/\∀b,FD K U a b->b[i]?=J x,λi U=>∃b,FD K U a b/\(AC b)<=i⟩
noncomputable def Mr(lo:Int)(n:Nat):It:=⟨λi _=>i<n,λi U x a=>a=U/\x=.int (lo+i),λi _=>n<=i⟩
def agD{P:iF}{w:iu}{K:iA}{tg:ig}(a it:gU):Turn P w K tg (Itl K a) [it] it (λi h=>h.IsListIter it a i) where
 mem:=by simp
 obj:=λi h st b g=>by
  have e:b=it:=by simpa using g
  subst e;obtain⟨o,e,c,d⟩:=st;exact⟨o,e,λv z=>by rw[d]at z;cases z⟩
 keep:=λi h j st k=>st.at λo e=>k it (by simp) o e
 item:=by intro X y B t T i f s G H E I l st A;subst y B t;obtain⟨S,x,m,C⟩:=A;obtain⟨L,O,p,D⟩:=I.list m;obtain⟨u,U,F⟩:=O.get C;obtain⟨f0,f1,N,n,q,r⟩:=l it (by simp);refine wpAny_pyNext_list_item st p.isList (x:=u) (by simpa using U) λj Q R=>?_;have J:Inv X f G H {s with heap:=j}:=I.turned (t':=s.toks) (λb o g e=>(R.2 b g).trans e) f0 f1 n q r;obtain⟨o,e,c,d⟩:=id Q;exact⟨u,rfl,RM (s:={s with heap:=j}) e c d (by decide) ⟨x,H,J,F,⟨rfl,λW Y=>by rw[I.Cc Y m];exact C⟩,Q,λb g=>(l b g).1⟩⟩
 done:=by intro X y B t T i f s G H E I l st A;subst y B t;obtain⟨S,m,C⟩:=A;obtain⟨L,O,p,D⟩:=I.list m;obtain⟨f0,f1,N,n,q,r⟩:=l it (by simp);have V:=O.length;exact wpAny_pyNext_list_end (I.ok.hd T) st p.isList (by simp;lia) λj M=>⟨rfl,I.turned (t':=s.toks) (λb o g e=>M b o g e) f0 f1 n q r⟩
 self:=λ_ _ _ _ _ st h=>wpAny_pyIter_listiter st h
def afp{P:iF}{w:iu}{K:iA}{tg:ig}(a it:gU):Turn P w K tg (Itt K a) [it] it (λi h=>h.IsTupleIter it a i) where
 mem:=by simp
 obj:=λi h st b g=>by
  have e:b=it:=by simpa using g
  subst e;obtain⟨o,e,c,d⟩:=st;exact⟨o,e,λv z=>by rw[d]at z;cases z⟩
 keep:=λi h l st k=>st.at λo e=>k it (by simp) o e
 item:=by intro X A C y T i f s G H E I m st B;subst A C y;obtain⟨S,x,n,L⟩:=B;obtain⟨j,O,p,D⟩:=I.tuple n;obtain⟨u,U,F⟩:=O.get L;obtain⟨f0,f1,N,q,r,t⟩:=m it (by simp);refine wpAny_pyNext_tuple_item st (show s.heap.IsTuple a j.toArray from p) (x:=u) (by simpa using U) λl Q R=>?_;have J:Inv X f G H {s with heap:=l}:=I.turned (t':=s.toks) (λb o g e=>(R.2 b g).trans e) f0 f1 q r t;obtain⟨o,e,c,d⟩:=id Q;exact⟨u,rfl,RM (s:={s with heap:=l}) e c d (by decide) ⟨x,H,J,F,⟨rfl,λW Y=>by rw[I.Bt Y n];exact L⟩,Q,λb g=>(m b g).1⟩⟩
 done:=by intro X A C y T i f s G H E I m st B;subst A C y;obtain⟨S,n,L⟩:=B;obtain⟨j,O,p,D⟩:=I.tuple n;obtain⟨f0,f1,N,q,r,t⟩:=m it (by simp);have V:=O.length;exact wpAny_pyNext_tuple_end (I.ok.hd T) st (show s.heap.IsTuple a j.toArray from p) (by simp;lia) λl M=>⟨rfl,I.turned (t':=s.toks) (λb o g e=>M b o g e) f0 f1 q r t⟩
 self:=λ_ _ _ _ _ st h=>wpAny_pyIter_tupleiter st h
def afq{P:iF}{w:iu}{K:iA}{Q:ig}(it:gU)(lo:Int)(n:Nat):Turn P w K Q (Mr lo n) [it] it (λi h=>y4 h it (lo+(i:Nat)*1) ((n:Int)-(i:Nat)) 1) where
 mem:=by simp
 obj:=λi h st b c=>by
  have e:b=it:=by simpa using c
  subst e
  exact⟨_,st,λv z=>by have T:fH _=ev v:=z;cases T⟩
 keep:=λi h d st k=>k it (by simp) _ st
 item:=by intro X p u m q i a s A N E M f st r;subst p u m;obtain⟨f0,f1,L,g,j,l⟩:=f it (by simp);have W:=Walks.range (prog:=X.prog) (w:=X.w) (M.ok.hd q) it lo 1 n;refine W.item i s _ _ r st λv d y hv x O=>?_;obtain⟨t,rfl⟩:=hv;have B:Inv X a A N {s with heap:=d,toks:=y}:=M.turned (λb o c e=>O b o (by simpa using c) e) f0 f1 g j l;refine⟨_,rfl,RM (s:={s with heap:=d,toks:=y}) (n:="range_iterator") x H H (by decide) ⟨.int<|lo+i,N,B,⟨t,?_⟩,⟨rfl,rfl⟩,x,λb c=>(f b c).1⟩⟩;rw[AR]
 done:=by intro X p u m q i a s A N E M f st r;subst p u m;obtain⟨f0,f1,L,g,j,l⟩:=f it (by simp);exact wpAny_pyNext_range_end (M.ok.hd q) st (by have:n<=i:=r;lia) λd U=>⟨rfl,M.turned (t':=s.toks) (λb o c e=>U b o c e) f0 f1 g j l⟩
 self:=λ_ _ _ _ _ st h=>wpAny_pyIter_rangeiter st h
section
variable {X:Cx}{tg:ig}
def abF(K:iA)(c:TE):TI:=λe U R=>c e U λx b=>∃a,x=.ref a/\(∃d,CO K b a d)/\R (Itl K a) b
def adC(K:iA)(c:TE):TI:=λe U R=>c e U λx b=>∃a,x=.ref a/\(∃d,FD K b a d)/\R (Itt K a) b
def Ul{l:ig}{f:TE}(j:PE X l f):PI X tg l (abF X.K f):=by
 intro c s t U R T h;refine Pt (j c s t U _ T h) λv s1 Q=>?_;obtain⟨x,g,d,r,n⟩:=Q;obtain⟨a,e,⟨y,k⟩,q⟩:=n;subst e;cases r;obtain⟨m,w,p,u⟩:=d.list k;refine AQ p.isList ?_;refine⟨s1.heap.objs.size,[s1.heap.objs.size],_,_,g,rfl,d.kept (t':=s1.toks) λb o e=>jJ _ e,agD a _,⟨_,kc _ rfl,rfl,rfl⟩,λb i=>?_,q⟩;have e:b=s1.heap.objs.size:=by simpa using i
 subst e;exact d.J3 (jw _)<|d.hok.fresh<|jw _
def XB{l:ig}{g:TE}(k:PE X l g):PI X tg l (adC X.K g):=by
 intro c s t U R T h;refine Pt (k c s t U _ T h) λv s1 Q=>?_;obtain⟨x,i,d,r,n⟩:=Q;obtain⟨a,e,⟨y,m⟩,q⟩:=n;subst e;cases r;obtain⟨f,w,p,u⟩:=d.tuple m;refine IM (show s1.heap.IsTuple a f.toArray from p) ?_;refine⟨s1.heap.objs.size,[s1.heap.objs.size],_,_,i,rfl,d.kept (t':=s1.toks) λb o e=>jJ _ e,afp a _,⟨_,kc _ rfl,rfl,rfl⟩,λb j=>?_,q⟩;have e:b=s1.heap.objs.size:=by simpa using j
 subst e;exact d.J3 (jw _)<|d.hok.fresh<|jw _
def GD{c:iO}{g:St}{U:Hp}{s:hJ}{R:It->Hp->Prop}{E:iU}{lo a:Int}{t u v:m7}{f:Nat}(T:Inv X c g U s)(h1: -(2^62)<=lo)(j:lo<2^62)(k: -(2^62)<=a)(l:a<2^62)
  (q:R (Mr lo (a-lo).toNat) U):ae (ah X.prog X.w) X.A (cH<|.ref s.heap.objs.size) (PIE X c g tg R) E {s with heap:=s.heap.push {cls:=.type "range",data:=.fields #[.int lo t,.int a u,.int 1 v]},toks:=f}:=by
 refine wpAny_pyIter_range (IsRange.new ..) (small_one h1 j k l) ?_;have d:Inv X c g U {s with heap:=s.heap.push {cls:=.type "range",data:=.fields #[.int lo t,.int a u,.int 1 v]},toks:=f}:=T.kept λb o e=>jJ _ e
 refine⟨(s.heap.push {cls:=.type "range",data:=.fields #[.int lo t,.int a u,.int 1 v]}).objs.size,[(s.heap.push {cls:=.type "range",data:=.fields #[.int lo t,.int a u,.int 1 v]}).objs.size],_,_,U,rfl,
  d.kept (t':=f) λb o e=>jJ _ e,afq _ lo (a-lo).toNat,?_,λb m=>?_,q⟩
 .have h:lo+((0:Nat):Int)*1=lo:=by simp
  have i:(((a-lo).toNat:Nat):Int)-((0:Nat):Int)=d7 lo a 1:=by rw[u7];split<;>lia
  show y4 _ _ (lo+((0:Nat):Int)*1) ((((a-lo).toNat:Nat):Int)-((0:Nat):Int)) 1;rw[h,i];exact kc _ rfl
 have e:b=(s.heap.push {cls:=.type "range",data:=.fields #[.int lo t,.int a u,.int 1 v]}).objs.size:=by simpa using m
 subst e;exact d.J3 (jw _)<|d.hok.fresh<|jw _
def abE(b:TA):TI:=λd U R=>b d U λc a=>∃j:Int,c=[.int j]/\ -(2^62)<=j/\j<2^62/\R (Mr 0 j.toNat) a
def abD(b:TA):TI:=λd U R=>b d U λc a=>∃i j:Int,c=[.int i,.int j]/\(-(2^62)<=i/\i<2^62/\ -(2^62)<=j/\j<2^62)/\R (Mr i (j-i).toNat) a
def agT{a:ig}{f:TA}{p c:bp}(k:Gl X "range")(l:X.mg "range"=I)(i:PA X [a] f)(m:ai [a] X.env=[(Y,aU a X.env)]:=by rfl):PI X tg (.Call (.Name "range" p) [a] [] c) (abE f):=by
 intro b s v U R T h;refine Call_<|rA T k l Eu<|AO (Pt (i c b s v U _ T h) λx s1 Q=>?_) m H;obtain⟨y,w,g,o,d⟩:=Q;obtain⟨j,e,d,n,q⟩:=d;subst e
 cases o with
 |cons r u=>
  cases u;obtain⟨t,rfl⟩:=r;exact call_range_1<|GD g (by lia) (by lia) d n (by simpa using q)
def agS{a b:ig}{l:TA}{p d:bp}(o:Gl X "range")(u:X.mg "range"=I)(n:PA X [a,b] l)(v:ai [a,b] X.env=[(Y,aU a X.env),(Y,aU b X.env)]:=by rfl)(k:ai [b] X.env=[(Y,aU b X.env)]:=by rfl):
  PI X tg (.Call (.Name "range" p) [a,b] [] d) (abD l):=by
 intro c s B T R Q h;refine Call_<|rA Q o u Eu<|AO (Pt (n d c s B T _ Q h) λL s1 N=>?_) (by rw[v,k]) (by rw[k];rfl);obtain⟨O,U,m,A,f⟩:=N;obtain⟨i,j,e,⟨f,w,x,y⟩,q⟩:=f;subst e
 cases A with
 |cons r g=>
  cases g with
  |cons z g=>
   cases g;obtain⟨t,rfl⟩:=r;obtain⟨E,rfl⟩:=z;exact wl<|GD m f w x y q
def acK(k:TI)(g:TG)(j:TS):TS:=λD a T=>k a T λU f=>∃W:Nat->Nat->St->Hp->Prop,(∃m,W 0 m a f)/\∀i m a T,W i m a T->
 (U.stop i T/\D.nx a T)\/(U.go i T/\∃N:St->Hp->Prop,(∀c b,N c b->∃e,e<m/\W (i+1) e c b)/\∀x b,U.yld i T x b->g x a b λd h=>j {D with nx:=N,ct:=N,bk:=D.nx} d h)
noncomputable def Bm(a:ki)(h:iJ):List (gU×dS):=a.filterMap λb=>(h.get? b).map λo=>(b,o)
def rz{a:ki}{h:iJ}{b:gU}{o:dS}(c:b∈a)(e:h.get? b=J o):(b,o)∈Bm a h:=dU.mpr ⟨b,c,by rw[e];rfl⟩
def agl{a:ki}{h:iJ}{p:gU×dS}(f:p∈Bm a h):p.1∈a/\h.get? p.1=J p.2:=by
 obtain⟨b,d,e⟩:=dU.mp f
 cases q:h.get? b with
 |none=>rw[q]at e;cases e
 |some o=>rw[q]at e;have c:(b,o)=p:=kD e;subst c;exact⟨d,q⟩
def Inv.pinned{a:iO}{h:St}{U:Hp}{s:hJ}{c:ki}(T:Inv X a h U s)(j:∀b∈c,ur X a U b)(k:∀b∈c,∃o,s.heap.get? b=J o/\∀v,o.data≠ .cell v):Inv X (a++Bm c s.heap) h U s:=
 T.GN λp l=>(oE.mp l).elim (λz=>T.pin p<|qy _ z) λz=>by obtain⟨g,e⟩:=agl z;obtain⟨f0,f1,i,_⟩:=j p.1 g;obtain⟨o,f,d⟩:=k p.1 g;rw[e]at f;cases f;exact⟨e,f0,f1,i,d⟩
def Inv.Bn{a d:iO}{b:St}{U:Hp}{s:hJ}(T:Inv X (a++d) b U s):Inv X a b U s:=T.GN λp c=>T.pin p<|qy _ (AS _ c)
def Xy{iter:ig}{y:List bG}{wi:TI}{g:TG}{tb:TS}{G:bp}(C:d6 (ah X.prog X.w) X.A X.env X.xe)(hc:X.calm=z8)(hi:PI X tg iter wi)(hg:PG X tg g)(l:GQ X y tb)
  (hs:∀x,aB iter X.env x=pure x:=by intro _;rfl):PS X (.For tg iter y [] G) (acK wi g tb):=by
 intro a s R H D I h;refine wpAny_For (Pt (hi a s R H _ I h) λv s1 h1=>Pt h1 λdq s2 h2=>?_) hs;obtain⟨it,B,P,J,S,e,V,T,Z,F,W,⟨m0,w0⟩,turn⟩:=h2;subst e;have U:∀{t:Hp},(∀b∈B,t b=z7)->∀b∈B,ur X a t b:=λhn b l=>⟨hn b l,(F b l).2⟩
 refine codeAny_forLoop_any (λn K=>∃i p t,Inv X a p t K/\P i K.heap/\(∀b∈B,t b=z7)/\W i n p t) ?_ m0 ⟨0,R,S,V,Z,λb l=>(F b l).1,w0⟩;rintro n s3 ⟨i,q,L,I3,dc,cZ,w3⟩;rcases turn i n q L w3 with⟨stop,qn⟩|⟨go,N,hN,step⟩
 .refine wg C (Pt (T.done X At At At hc i a s3 q L X.xe I3 (U cZ) dc stop) λr s4 a'=>?_);obtain⟨Q,I4⟩:=a';subst Q;exact IQ ⟨q,L,I4,qn⟩
 refine wg C (Pt (T.item X At At At hc i a s3 q L X.xe I3 (U cZ) dc go) λr s4 a'=>?_);obtain⟨u,Q,h4⟩:=a';subst Q;refine wg C<|Pt h4 λ_ s5 a'=>?_;obtain⟨x,H5,I5,r5,y5,O,gx⟩:=a';have gQ:=I5.pinned (U gx)<|T.obj _ _ O;refine wg C<|Pt (hg _ s5 q H5 x u _ gQ r5 (step x H5 y5)) λ_ s6 a'=>?_;obtain⟨Y',H6,I6,q6⟩:=a';refine wg C (Pt (l _ s6 Y' H6 _ I6 q6) λf M z=>?_)
 have again:∀{c:St}{j:Hp},Inv X (a++Bm B s5.heap) c j M->N c j->∃m,m<n/\∃i p t,Inv X a p t M/\P i M.heap/\(∀b∈B,t b=z7)/\W i m p t:=λ{c j} k E=>by obtain⟨m',hm,w7⟩:=hN c j E;refine⟨m',hm,i+1,c,j,k.Bn,T.keep _ _ _ O λb l o e=>(k.pin (b,o)<|qy _ (qy _ (rz l e))).1,λb l=>?_,w7⟩;obtain⟨o,e,d⟩:=T.obj _ _ O b l;exact(k.pin (b,o)<|qy _ (qy _ (rz l e))).2.1
 cases f with
 |next=>obtain⟨c,j,k,E⟩:=z;exact again k E
 |cont=>obtain⟨c,j,k,E⟩:=z;exact again k E
 |brk=>obtain⟨c,j,k,z⟩:=z;exact⟨c,j,k.Bn,z⟩
 |ret v=>obtain⟨x7,c,j,k,r7,z⟩:=z;exact⟨x7,c,j,k.Bn,r7,z⟩
end
abbrev R2:=V->V->Hp->VK->Prop
def D0(X:Cx)(f:zC)(r:R2):Prop:=
 ∀(a:iO)(s:hJ)(b:St)(U:Hp)(x y:V)(v u:il)(Q:VK),Inv X a b U s->RelV x v->RelV y u->r x y U Q->
  ae (ah X.prog X.w) X.A (f v u) (EP X a b Q) X.xe s
def Nm(X:Cx)(f:il->cY il)(r:V->Hp->VK->Prop):Prop:=
 ∀(a:iO)(s:hJ)(b:St)(U:Hp)(x:V)(v:il)(Q:VK),Inv X a b U s->RelV x v->r x U Q->
  ae (ah X.prog X.w) X.A (f v) (EP X a b Q) X.xe s
def kg(X:Cx)(f:il)(r:List V->Hp->VK->Prop):Prop:=
 ∀(a:iO)(s:hJ)(d:St)(U:Hp)(c:List V)(b:ju)(Q:VK),Inv X a d U s->Vals c b->r c U Q->
  ae (ah X.prog X.w) X.A (call f b) (EP X a d Q) X.xe s
noncomputable def M0(r:R2)(d e:TE):TE:=λa U Q=>d a U λx b=>e a b λy c=>r x y c Q
def tUn(r:V->Hp->VK->Prop)(b:TE):TE:=λc U Q=>b c U λx a=>r x a Q
def rI(U:Int->Int->Prop)(g:Int->Int->V):R2:=λx y T Q=>∃i j,x=.int i/\y=.int j/\U i j/\Q (g i j) T
def JK(g:Int->Int->V):R2:=λx y U Q=>∃i j,x=.int i/\y=.int j/\Q (g i j) U
def rU(g:Int->V):V->Hp->VK->Prop:=λx U Q=>∃i,x=.int i/\Q (g i) U
section
variable {X:Cx}{a b c:ig}{l tb n:TE}{m:bp}
def YW(r:PE X a l)(t:PE X b tb){d:iO}{s:hJ}{g:St}{T:Hp}{R:V->V->Hp->Prop}(O:Inv X d g T s)
  (h:l g T λx o=>tb g o λy e=>R x y e){Q:iU}{f:zC}
  (z:∀v u k x y e,Inv X d g e k->RelV x v->RelV y u->R x y e->ae (ah X.prog X.w) X.A (f v u) Q X.xe k):
  ae (ah X.prog X.w) X.A (aU a X.env) (λv i=>ae (ah X.prog X.w) X.A (aU b X.env) (λu j=>ae (ah X.prog X.w) X.A (f v u) Q X.xe j) X.xe i) X.xe s:=by
 refine Pt (r d s g T _ O h) λv s1 N=>?_;obtain⟨x,o,p,E,B⟩:=N;refine Pt (t d s1 g o _ p B) λu k N=>?_;obtain⟨y,e,q,L,U⟩:=N;exact z v u k x y e q E L U
def aa7{e:Operator}{r:R2}(k:D0 X (bm e) r)(i:PE X a l)(j:PE X b tb):PE X (.BinOp a e b m) (M0 r l tb):=by intro d s w U Q T h;exact wpAny_BinOp<|YW i j T h λv u t x y f g o p q=>k d t w f x y v u Q g o p q
def aa5{e:UnaryOp}{r:V->Hp->VK->Prop}(k:Nm X (v6 e) r)(j:PE X a l):PE X (.UnaryOp e a m) (tUn r l):=by intro d s f U Q T h;exact UnaryOp_ (Pt (j d s f U _ T h) λv s1 O=>by obtain⟨x,g,i,p,o⟩:=O;exact k d s1 f g x v Q i p o)
def Nd{f:zC}{U:Int->Int->Prop}{g:Int->Int->Int}
  (rule:∀(i j:Int)(t u:m7)(s:hJ)(Q:iU)(E:iU),U i j->Q (.int (g i j) s.toks) {s with toks:=s.toks+1}->ae (ah X.prog X.w) X.A (f (.int i t)<|.int j u) Q E s):
  D0 X f (rI U λi j=>.int (g i j)):=by
 intro d s r T x y v u Q O k o h;obtain⟨i,j,rfl,rfl,e,q⟩:=h;obtain⟨t,rfl⟩:=k;obtain⟨p,rfl⟩:=o;exact rule i j t p s _ _ e ⟨.int<|g i j,T,O.tok _,⟨_,rfl⟩,q⟩
def abe{f:zC}{g:Int->Int->Int}
  (rule:∀(i j:Int)(t u:m7)(s:hJ)(Q:iU)(E:iU),Q (.int (g i j) s.toks) {s with toks:=s.toks+1}->ae (ah X.prog X.w) X.A (f (.int i t)<|.int j u) Q E s):
  D0 X f (JK λi j=>.int (g i j)):=by
 intro d s p U x y v u Q T e k h;obtain⟨i,j,rfl,rfl,q⟩:=h;obtain⟨t,rfl⟩:=e;obtain⟨o,rfl⟩:=k;exact rule i j t o s _ _ ⟨.int<|g i j,U,T.tok _,⟨_,rfl⟩,q⟩
def Uz{f:zC}{g:Int->Int->Bool}
  (rule:∀(i j:Int)(t u:m7)(s:hJ)(Q:iU)(E:iU),Q (.bool<|g i j) s->ae (ah X.prog X.w) X.A (f (.int i t)<|.int j u) Q E s):
  D0 X f (JK λi j=>.bl (g i j)):=by
 intro d s p U x y v u Q T e k h;obtain⟨i,j,rfl,rfl,q⟩:=h;obtain⟨t,rfl⟩:=e;obtain⟨o,rfl⟩:=k;exact rule i j t o s _ _ ⟨.bl<|g i j,U,T,rfl,q⟩
def Nt(i j:Int):Prop:=0<j/\j<1073741824
def FL(i j:Int):Prop:=0<=j/\j<=1000000/\i.natAbs<2^64
def CG(i j:Int):Prop:=(-(2^64)<i/\i<2^64)\/(-(2^64)<j/\j<2^64)
def CG.ok{i j:Int}(h:CG i j):IntMulOk i j:=by
 rcases h with⟨h1,d⟩|⟨h1,d⟩
 .exact .of_left (u8 h1 d)
 exact .of_right (u8 h1 d)
def XY:D0 X (bm .Add) (JK λi j=>.int (i+j)):=abe λ_ _ _ _ _ _ _ q=>add_int q
def XQ:D0 X (bm .Sub) (JK λi j=>.int (i-j)):=abe λ_ _ _ _ _ _ _ q=>sub_int q
def XU:D0 X (bm .Mult) (rI CG λi j=>.int (i*j)):=Nd λ_ _ _ _ _ _ _ d q=>mul_int q d.ok
def Ux:D0 X (bm .FloorDiv) (rI Nt λi j=>.int (i / j)):=Nd λi j _ _ _ _ _ d q=>by have h1:(0:Int)<j:=d.1;have e:j<1073741824:=d.2;exact floordiv_int (by lia) (by rw[Int.fdiv_eq_ediv_of_nonneg i<|by lia];exact q)<|.inl<|PyProof.noPylong_small (by lia)
def XW:D0 X (bm .Mod) (rI (λ_ j=>0<j) λi j=>.int (i%j)):=Nd λi j _ _ _ _ _ d q=>by have h1:(0:Int)<j:=d;exact mod_int' (by lia) (by rw[Int.fmod_eq_emod_of_nonneg i<|by lia];exact q)
def XR:D0 X (bm .Pow) (rI FL λi j=>.int (i^j.toNat)):=Nd λ_ _ _ _ _ _ _ d q=>pow_int_small d.1 d.2.1 d.2.2 q
def unI{f:il->cY il}{g:Int->Int}
  (rule:∀(i:Int)(t:m7)(s:hJ)(Q:iU)(E:iU),Q (.int (g i) s.toks) {s with toks:=s.toks+1}->ae (ah X.prog X.w) X.A (f<|.int i t) Q E s):
  Nm X f (rU λi=>.int (g i)):=by
 intro d s j U x v Q T e h;obtain⟨i,rfl,q⟩:=h;obtain⟨t,rfl⟩:=e;exact rule i t s _ _ ⟨.int<|g i,U,T.tok _,⟨_,rfl⟩,q⟩
def WS:Nm X (v6 .USub) (rU λi=>.int (-i)):=unI λ_ _ _ _ _ q=>neg_int q
def Fm{d:iO}{g:St}{U:Hp}{s:hJ}{Q:VK}{k f:Bool}(T:Inv X d g U s)(q:Q (.bl k) U)(e:k=f):EP X d g Q (.bool f) s:=by subst e;exact⟨.bl k,U,T,rfl,q⟩
def aba:D0 X (au .Lt) (JK λi j=>.bl (decide<|i<j)):=Uz λ_ _ _ _ _ _ _ q=>lt_int q
def abb:D0 X (au .LtE) (JK λi j=>.bl (decide<|i<=j)):=Uz λ_ _ _ _ _ _ _ q=>le_int q
def abc:D0 X (au .Gt) (JK λi j=>.bl (decide<|j<i)):=Uz λ_ _ _ _ _ _ _ q=>gt_int q
def abd:D0 X (au .GtE) (JK λi j=>.bl (decide<|j<=i)):=Uz λ_ _ _ _ _ _ _ q=>ge_int q
def Qw:D0 X (au .Is) (λx y U Q=>y=.T2/\Q (.bl<|decide<|x=.T2) U):=by
 intro d s g U x y v u Q T e f h;obtain⟨rfl,q⟩:=h;cases f;refine is_none_gen<|Fm T q ?_
 cases x<;>first
  |(cases e;rfl)
  |(obtain⟨t,rfl⟩:=e;rfl)
def K5:D0 X (au .IsNot) (λx y U Q=>y=.T2/\Q (.bl (!decide (x=.T2))) U):=by
 intro d s g U x y v u Q T e f h;obtain⟨rfl,q⟩:=h;cases f;refine isnot_none_gen<|Fm T q ?_
 cases x<;>first
  |(cases e;rfl)
  |(obtain⟨t,rfl⟩:=e;rfl)
def QR(b:ig){d:bZ}(h:d≠ .In:=by decide)(g:d≠ .NotIn:=by decide):cz d b=Y:=by
 have e:(d==bZ.In)=Y:=by cases d<;>first|rfl|exact absurd H h
 have f:(d==CmpOp.NotIn)=Y:=by cases d<;>first|rfl|exact absurd H g
 cases b<;>simp[cz,e,f]
def Up{e:bZ}{r:R2}(o:D0 X (au e) r)(i:PE X a l)(j:PE X b tb)(k:cz e b=Y):PE X (.Compare a [e] [b] m) (M0 r l tb):=by intro d s z U Q T h;exact wpAny_Compare1 (YW i j T h λv u w x y f g p t q=>o d w z f x y v u Q g p t q) k
def VV(t:TE):TT:=λe U Q=>t e U λx d=>∃k,x=.bl k/\Q k d
def Uc{g:bZ}{r:R2}(E:D0 X (au g) r)(A:PE X a l)(B:PE X b tb)(C:cz g b=Y):PT X (.Compare a [g] [b] m) (VV<|M0 r l tb):=by intro d s i H Q I h;refine wpAny_isTrue_Compare1 (Pt (A d s i H _ I h) λv s1 f=>?_) C;obtain⟨x,j,q,G,L⟩:=f;refine Pt (B d s1 i j _ q L) λu N f=>?_;obtain⟨y,o,t,J,O⟩:=f;refine Pt (E d N i o x y v u _ t G J O) λc U f=>?_;obtain⟨z,p,w,M,k,e,T⟩:=f;subst e;cases M;exact vp ⟨p,w,T⟩
def IZ(r i:R2)(l tb n:TE):TE:=λd U Q=>l d U λx f=>tb d f λy g=>r x y g λz e=>∃k,z=.bl k/\
 (if k=C then n d e λj h=>i y j h Q else Q (.bl Y) e)
def Qn{o g:bZ}{r w:R2}(Y:D0 X (au o) r)(G:D0 X (au g) w)(J:PE X a l)(M:PE X b tb)(N:PE X c n)
  (U:fY [o,g] [b,c]=z9:=by with_unfolding_all rfl):PE X (.Compare a [o,g] [b,c] m) (IZ r w l tb n):=by
 intro f s j H Q I h;refine Compare_chain (Pt (J f s j H _ I h) λv s1 i=>?_) U;obtain⟨x,B,L,K,D⟩:=i;refine chain_link<|Pt (M f s1 j B _ L D) λu R i=>?_;obtain⟨y,C,O,A,F⟩:=i;refine Pt (Y f R j C x y v u _ O K A F) λd S i=>?_;obtain⟨z,p,q,P,k,e,t⟩:=i;subst e;cases P;refine vp ?_
 cases k
 .exact ite_ff ⟨.bl z9,p,q,rfl,t⟩
 exact ite_tt<|chain_last (Pt (N f S j p _ q t) λw' s4 a'=>by obtain⟨z',E,T,r4,q4⟩:=a';exact G f s4 j E y z' u w' Q T A r4 q4)
def PZ{o i:bZ}{r w:R2}(ho:D0 X (au o) r)(M:D0 X (au i) w)(Y:PE X a l)(hb:PE X b tb)(hc:PE X c n)
  (hm:fY [o,i] [b,c]=z9:=by with_unfolding_all rfl):PT X (.Compare a [o,i] [b,c] m) (VV<|IZ r w l tb n):=by
 intro f s j H Q I h;refine isTrue_chain (Pt (Y f s j H _ I h) λv s1 g=>?_) hm;obtain⟨x,B,O,S,F⟩:=g;refine test_link<|Pt (hb f s1 j B _ O F) λu s2 g=>?_;obtain⟨y,C,T,A,K⟩:=g;refine Pt (ho f s2 j C x y v u _ T S A K) λd s3 g=>?_;obtain⟨z,p,q,V,k,e,t⟩:=g;subst e;cases V;refine vp ?_
 cases k
 .obtain⟨k',N,D⟩:=t;cases N;exact ite_ff ⟨p,q,D⟩
 refine ite_tt<|test_last<|Pt (hc f s3 j p _ q t) λw' s4 g=>?_;obtain⟨z',E,G,W,P⟩:=g;refine Pt (M f s4 j E y z' u w' _ G A W P) λd' s5 g=>?_;obtain⟨z2,L,J,Z,k2,U,R⟩:=g;subst U;cases Z;exact vp ⟨L,J,R⟩
def EX:(sizeLine:Nat)<2^63:=by rw[jP];decide
def afW:D0 X (bm .Add) (λx y U Q=>∃i j,x=.str i/\y=.str j/\i.length+j.length<=sizeLine/\Q (.str<|i++j) U):=by intro d s o U x y v u Q T f g h;obtain⟨i,j,rfl,rfl,e,q⟩:=h;obtain⟨t,rfl⟩:=f;obtain⟨t',rfl⟩:=g;exact add_str (λt' k=>⟨.str<|i++j,U,T.tok _,⟨_,rfl⟩,q⟩) e
def qC{x:V}{d:ju}(r:Vals [x] d):∃u,d=[u]/\RelV x u:=by
 cases r with
 |cons e f=>cases f;exact⟨_,rfl,e⟩
def Ge{x y:V}{d:ju}(r:Vals [x,y] d):∃u e,d=[u,e]/\RelV x u/\RelV y e:=by
 cases r with
 |cons f g=>
  cases g with
  |cons h i=>cases i;exact⟨_,_,rfl,f,h⟩
def SH:kg X (.builtin "abs") (λe U Q=>∃i,e=[.int i]/\Q (.int (if i<0 then -i else i)) U):=by intro d s j U e g Q T r h;obtain⟨i,rfl,q⟩:=h;obtain⟨u,rfl,t,rfl⟩:=qC r;exact wP λu f=>⟨.int (if i<0 then -i else i),U,T.tok _,⟨_,rfl⟩,q⟩
def ag1(g:X.calm=C):kg X (.builtin "max") (λf U Q=>∃i j,f=[.int i,.int j]/\Q (.int (if j>i then j else i)) U):=by
 intro e s y U f w Q T r h;obtain⟨i,j,rfl,q⟩:=h;obtain⟨u,x,rfl,⟨t,rfl⟩,⟨p,rfl⟩⟩:=Ge r;refine max_two_ints (T.ok.hd g) λo v k=>⟨_,U,T.kept k,?_,q⟩
 by_cases d:j>i
 .rw[ie d,ie d];exact⟨_,rfl⟩
 rw[iC d,iC d];exact⟨_,rfl⟩
def ag0(g:X.calm=C):kg X (.builtin "min") (λf U Q=>∃i j,f=[.int i,.int j]/\Q (.int (if j<i then j else i)) U):=by
 intro e s y U f w Q T r h;obtain⟨i,j,rfl,q⟩:=h;obtain⟨u,x,rfl,⟨t,rfl⟩,⟨p,rfl⟩⟩:=Ge r;refine min_two_ints (T.ok.hd g) λo v k=>⟨_,U,T.kept k,?_,q⟩
 by_cases d:j<i
 .rw[ie d,ie d];exact⟨_,rfl⟩
 rw[iC d,iC d];exact⟨_,rfl⟩
def DN:kg X (.type "int") (λd U Q=>(∃i,d=[.int i]/\Q (.int i) U)\/∃k,d=[.bl k]/\Q (.int (if k then 1 else 0)) U):=by
 intro e s j U d g Q T r h;rcases h with⟨i,rfl,q⟩|⟨k,rfl,q⟩
 .obtain⟨u,rfl,t,rfl⟩:=qC r;exact call_int_int ⟨.int i,U,T,⟨_,rfl⟩,q⟩
 obtain⟨u,rfl,f⟩:=qC r;cases f;exact call_int_bool ⟨.int (if k then 1 else 0),U,T.tok _,⟨_,rfl⟩,q⟩
end
section
variable {a:iF}{w:iu}{A:iB}{E:iU}{s:hJ}{K:iA}{x d C f:gU}{c:mB}{b:aQ}{v:il}
end
section
variable {P:iF}{w:iu}{H e:Hp}{h c:iJ}{a C d:gU}{fs b:List (aQ×V)}
end
section
variable {X:Cx}{b:iO}{c:St}{H:Hp}{s:hJ}{a C d:gU}{fs:List (aQ×V)}{f:aQ}{v:V}{A:iB}{E:iU}
end
section
variable {X:Cx}{o e a:ig}{f:aQ}{c b h:bp}{g d:TE}
end
section
variable {X:Cx}{a:iO}{d:St}{H:Hp}{s:hJ}{A:iB}{E:iU}{Q:iU}{c:il}{b:Bool}
end
structure Ad(k:Nat)(A:iB):Prop where
 hd:A.handled=z7
 dp:A.depth+3*k+5<recursionLimit
 un:A.units+16*k+200<aS
 gd:A.guards=zx []:=by rfl
def Ad.mono{j k:Nat}{A:iB}(r:Ad k A)(h:j<=k):Ad j A:=⟨r.hd,by have:=r.dp;lia,by have:=r.un;lia,r.gd⟩
def Ad.deeper{k:Nat}{A:iB}(r:Ad (k+1) A)(a:ek):Ad k (A.deeper a):=
 ⟨r.hd,by have:=r.dp;show A.depth+1+3*k+5<_;lia,by have:=r.un;show A.units+3+16*k+200<_;lia,r.gd⟩
def Ad.depth{k:Nat}{A:iB}(r:Ad k A):A.depth<recursionLimit:=by have:=r.dp;lia
noncomputable def acH:TA:=λ_ U Q=>Q [] U
noncomputable def aaJ(d:TE)(e:TA):TA:=λa U Q=>d a U λx b=>e a b λf c=>Q (x::f) c
section
variable {X:Cx}{e:ig}{c:kb}{d:TE}{t:TA}{a:bp}
def wJ:PA X [] acH:=λ_ _ _ _ U Q T h=>Calls.spliced_nil ⟨[],U,T,.nil,h⟩
def qk(l:PE X e d)(m:PA X c t)(n:ai (e::c) X.env=(Y,aU e X.env)::ai c X.env:=by rfl):PA X (e::c) (aaJ d t):=by intro a b s f U Q T h;rw[n];show ae _ _ (spliced ((Y,aU e X.env)::bg a (ai c X.env))) _ _ s;refine Calls.spliced_cons<|Pt (l b s f U _ T h) λu s1 O=>?_;obtain⟨x,g,j,q,o⟩:=O;exact Pt (m a b s1 f g _ j o) λy w ⟨v,i,k,r,p⟩=>⟨x::v,i,k,.cons q r,p⟩
def acD(t:TA):TE:=λg U Q=>t g U λf b=>AC f<=sizeLine/\∀p,b p=I->Q (.ref p) (upd b p<|.tup f)
def acI(t:TA):TE:=λg U Q=>t g U λf b=>AC f<=sizeLine/\∀p,b p=I->Q (.ref p) (upd b p<|.lst f)
def XD{x1}(h:PA X c t):PE X (.Tuple c x1 a) (acD t):=by intro f s n U Q T k;refine wpAny_Tuple_spliced<|Pt (h a f s n U _ T k) λl s1 ⟨m,g,i,r,z,q⟩=>⟨by rw[<-r.length];exact z,?_⟩;have j:g s1.heap.objs.size=I:=i.hok.fresh<|jw _;refine⟨.ref s1.heap.objs.size,upd g s1.heap.objs.size<|.tup m,i.laid (t':=s1.toks) (λb u e=>jJ _ e) (jw _) ?_,rfl,q _ j⟩;exact⟨z,l,r,⟨_,kc _ rfl,rfl,_,rfl⟩⟩
def XI(h:PA X c t):PE X (.List c a) (acI t):=by intro f s n U Q T k;refine wpAny_List_spliced<|Pt (h a f s n U _ T k) λl s1 ⟨m,g,i,r,z,q⟩=>⟨by rw[<-r.length];exact z,?_⟩;have j:g s1.heap.objs.size=I:=i.hok.fresh<|jw _;refine⟨.ref s1.heap.objs.size,upd g s1.heap.objs.size<|.lst m,i.laid (t':=s1.toks) (λb u e=>jJ _ e) (jw _) ?_,rfl,q _ j⟩;exact⟨z,l,0,r,kc _ rfl⟩
end
abbrev Sp:=List V->Hp->VK->XK->Prop
abbrev Hy:=List ek->Hp->hJ->XK->il->hJ->Prop
structure JR(P:iF)(w:iu)(K:iA)(mg:mB)(base:iJ)(A:iB)(outer:List ek)(s:hJ)(H:Hp):Prop where
 frames:A.frames=zx outer
 mod:Mod K mg base
 bs:∀b o,base.get? b=zx o->s.heap.get? b=zx o/\H b=z7
 bsz:base.objs.size<=s.heap.objs.size
 EU:s.heap.FunFrames base outer
 frf:∀b∈J2 outer,H b=z7
 hok:Cr P w H s.heap
 bare:dD s.gens
def CE(a:List ek)(P:iF)(w:iu)(U:Hp)(s:hJ)(Q:VK)(u:il)(b:hJ):Prop:=
 ∃v c,b.os=s.os/\dD b.gens/\Un (J2 a) [] U c s.heap b.heap/\Cr P w c b.heap/\RelV v u/\Q v c
def CR(c:Hy)(a:List ek)(P:iF)(w:iu)(U:Hp)(s:hJ)(Q:VK)(E:XK)(r:gF)(b:hJ):Prop:=
 match r with
 |.ok (.ret u)=>CE a P w U s Q u b
 |.ok _=>False
 |.error e=>c a U s E e b
structure Bs(P:iF)(w:iu)(K:iA)(mg:mB)(base:iJ)(CX:Hy)(k:Nat)(f:gU)(fd:nI)(ps:iX)(sp:Sp):Prop where
 len:∀vs H Q E,sp vs H Q E->AC vs=AC ps
 run:∀(A:iB)(outer:List ek)(s:hJ)(H:Hp)(args:Args)(us:ju)(vs:List V)(Q:VK)(E:XK),Ad k A->JR P w K mg base A outer s H->d9 s fd args (ps.zip us)->Vals vs us->sp vs H Q E->
  cj (ah P w) A (.call (.ref f) args) (CR CX outer P w H s Q E) s
def Bs.mono{P:iF}{w:iu}{K:iA}{e:mB}{base:iJ}{c:Hy}{j k:Nat}{f:gU}{d:nI}{g:iX}{i:Sp}(F:Bs P w K e base c j f d g i)(h:j<=k):
  Bs P w K e base c k f d g i:=⟨F.len,λA a s U b m n Q E l=>F.run A a s U b m n Q E<|l.mono h⟩
section
variable {X:Cx}{a:iO}{c:St}{H:Hp}{s e:hJ}
def Inv.env0(U:Inv X a c H s):JR X.prog X.w X.K X.mg X.base X.A X.stack s H:=
 ⟨U.ok.frames,U.ok.mod,U.bs,kK U.ok.bsz U.sz,U.stack,U.He,U.hok,U.bare⟩
def Inv.after{Q:VK}{u:il}(U:Inv X a c H s)(h:CE X.stack X.prog X.w H s Q u e):EP X a c Q u e:=by obtain⟨v,j,os,f,un,i,r,q⟩:=h;obtain⟨l,g,d,t,k⟩:=e;obtain rfl:k=s.os:=os;exact⟨v,j,U.call (h':=l) (g':=g) (d':=d) (t':=t) (ch:=[]) un i f λb z=>absurd z<|by simp,r,q⟩
end
noncomputable def aaK(c:Sp)(b:List V)(E:XK)(t:TA):TE:=λe U Q=>t e U λd a=>c (d++b) a Q E
def Binds(K:iA)(d:nI)(c:iX)(b:ju):Prop:=
 ∀(s:hJ)(a:ju),K.In s.heap->(a++b).length=AC c->d9 s d ⟨a,[]⟩ (c.zip<|a++b)
def Binds.all{K:iA}{c:nI}{b:iX}(h:∀a:List il,AC a=AC b->th c ⟨a,[]⟩=pure (b.zip a)):Binds K c b []:=λs a _ d=>by rw[we]at d ⊢;exact .of_eq<|h a d
def Kd(c:Hy)(X:Cx)(E:XK):Prop:= ∀(a:iO)(d:St)(U:Hp)(s:hJ)(e:il)(b:hJ),Inv X a d U s->c X.stack U s E e b->X.xe e b
section
variable {X:Cx}{l:Hy}{k:Nat}{f C:gU}{j:nI}{d:iX}{i:Sp}{c:List V}{b:ju}{E:XK}{x m:aQ}{p a n:bp}{e o:ig}{g:kb}{v:TE}{t:TA}
def W9{q:iO}{L:St}{H:Hp}{s:hJ}{Q:VK}{y:ju}{B:List V}(F:Bs X.prog X.w X.K X.mg X.base l k f j d i)(M:Ad k X.A)(G:Binds X.K j d b)(hd:Vals c b)(N:Kd l X E)
  (I:Inv X q L H s)(r:Vals B y)(h:i (B++c) H Q E):ae (ah X.prog X.w) X.A (call (.ref f) y) (EP X q L Q) X.xe s:=by
 have O:Vals (B++c) (y++b):=r.append hd;have J:(y++b).length=d.length:=by rw[<-O.length];exact F.len _ _ _ _ h
 refine wpAny_call<|tJ (F.run X.A X.stack s H ⟨y,[]⟩ (y++b) (B++c) Q E M I.env0 (G s y I.Gv J) O h) λr U z=>?_
 cases r with
 |error e=>exact N q L H s e U I z
 |ok T=>
  cases T with
  |ret u=>exact I.after z
  |next=>exact aT z
  |brk=>exact aT z
  |cont=>exact aT z
def KU(F:Bs X.prog X.w X.K X.mg X.base l k f j d i)(J:Ad k X.A)(T:Gl X x)(G:X.mg x=zx (.ref f))(hk:bX X.K (.ref f)=z8)(L:Binds X.K j d b)(hd:Vals c b)(M:Kd l X E)
  (B:PA X (e::g) t)(N:(x==("__debug__":aQ))=Y:=by decide)(O:ai (e::g) X.env=(Y,aU e X.env)::ai g X.env:=by rfl)(z:(bg a<|ai g X.env).any (·.1)=Y:=by rfl):
  PE X (.Call (.Name x p) (e::g) [] a) (aaK i c E t):=by
 intro u s U H Q I h;refine AN<|Lv I T G ?_ N;refine PySem.W.callWith_K (h₀:=X.base) I.ok.mod.kin hk (Pt (B a u s U H _ I h) λus s1 ⟨vs,Y',y,r,q⟩=>⟨y.Gv,?_⟩) O z;exact W9 F J L hd M y r q
end
section
variable {X:Cx}{w:Hy}{k:Nat}{f C:gU}{u:nI}{n r:iX}{l:Sp}{E:XK}{x m:aQ}{p c b a:bp}{e o:ig}{v:kb}{d:List eJ}{i j:TE}{t h:TA}{q:Option aQ}
variable {g:List il->List il->List il}{s:List V->List V->List V}
end
structure VP(N P:iX)(sc:jU):Prop where
 kind:sc.kind=.function
 co:sc.isCoroutine=z9
 gen:sc.isGenerator=z9
 nd:N.Nodup
 pre:N.take P.length=P
 par:∀x∈P,sc.names.lookup x=zx .local\/sc.names.lookup x=zx .cell
 nofree:∀y∈sc.names,y.2≠ .free
theorem DQ{kindOf:aQ->Option cE}{x:aQ}:∀{binds:List (aQ×il)}{m:mB},(∀v,(x,v)∉binds)->f4 kindOf binds m x=m x
 |[],_,_=>rfl
 |(n,v)::r,m,h=>by
  unfold f4;rw[DQ λw a=>h w<|jx _ a];split
  .have:x≠n:=by rintro rfl;exact h v jt
   simp[this]
  rfl
theorem DS{kindOf:aQ->Option cE}{x:aQ}:∀{binds:List (aQ×il)}{m:mB},(∀v,(x,v)∉binds)->f5 kindOf binds m x=m x
 |[],_,_=>rfl
 |(n,v)::r,m,h=>by
  unfold f5;rw[DS λw a=>h w<|jx _ a];split
  .rfl
  have:x≠n:=by rintro rfl;exact h v jt
  simp[this]
theorem DR{kindOf:aQ->Option cE}{x:aQ}{v:il}:∀{P:iX}{a:ju}{i:Nat}{m:mB},P.Nodup->P[i]?=J x->a[i]?=J v->kindOf x=J .local->
  f4 kindOf (P.zip a) m x=J v
 |[],_,_,_,_,h,_,_=>by simp at h
 |_::_,[],_,_,_,_,h,_=>by simp at h
 |p::P,w::a,0,m,c,h1,b,hk=>by simp at h1 b;subst h1;subst b;show f4 kindOf ((p,w)::P.zip a) m p=_;unfold f4;rw[DQ λv hv=>(Cj.mp c).1 (IL hv).1,ie hk];simp
 |p::P,w::a,i+1,m,c,h1,b,hk=>by show f4 kindOf ((p,w)::P.zip a) m x=_;unfold f4;exact DR (i:=i) (Cj.mp c).2 (by simpa using h1) (by simpa using b) hk
theorem DT{kindOf:aQ->Option cE}{x:aQ}{v:il}:∀{P:iX}{a:ju}{i:Nat}{m:mB},P.Nodup->P[i]?=J x->a[i]?=J v->kindOf x≠J .local->
  f5 kindOf (P.zip a) m x=J v
 |[],_,_,_,_,h,_,_=>by simp at h
 |_::_,[],_,_,_,_,h,_=>by simp at h
 |p::P,w::a,0,m,c,h1,b,hk=>by simp at h1 b;subst h1;subst b;show f5 kindOf ((p,w)::P.zip a) m p=_;unfold f5;rw[DS λv hv=>(Cj.mp c).1 (IL hv).1,iC hk];simp
 |p::P,w::a,i+1,m,c,h1,b,hk=>by show f5 kindOf ((p,w)::P.zip a) m x=_;unfold f5;exact DT (i:=i) (Cj.mp c).2 (by simpa using h1) (by simpa using b) hk
noncomputable def qU(N:iX)(a:List V):St:=a.map J++ac (AC N-AC a) I
noncomputable def Fu(d:Hy)(P:iF)(w:iu)(K:iA)(g:mB)(base:iJ)(N:iX)(qual:aQ)(scope:jU)(f:gU)(b:il)(A:iB)(a:List ek)(s:hJ)(U:Hp)(E:XK):Cx where
 prog:=P
 w:=w
 K:=K
 mg:=g
 base:=base
 A:=A.deeper<|cr qual scope s.heap.objs.size f b
 N:=N
 s₀:=s
 H₀:=U
 env:=cr qual scope s.heap.objs.size f b
 outer:=a
 stack:=cr qual scope s.heap.objs.size f b::a
 ex:=[]
 calm:=C
 fn:=λ_=>C
 pn:=[]
 xe:=λe j=>ae (ah P w) (A.deeper<|cr qual scope s.heap.objs.size f b) (leaving (cr qual scope s.heap.objs.size f b) e) (λ_ c=>d a U s E e c) (λi c=>d a U s E i c) j
def HI{a:jU}{n:Nat}{x:aQ}(h:a.names.lookup x=J .cell):∃c,(bf n a.names []).lookup x=J c:=by have q:=Et a.names n []<|.inl h;exact Og.mp q
def agx{T:Hy}{P:iF}{w:iu}{K:iA}{O:mB}{base:iJ}{N m:iX}{qual:aQ}{scope:jU}{f:gU}{C:il}{A:iB}{d:List ek}{s s1:hJ}{H:Hp}{E:XK}{Q:ju}{o:List V}
  (S:VP N m scope)(hd:A.handled=z7)(j:JR P w K O base A d s H)(hl:(AC o)=AC m)(r:Vals o Q)
  (x:InCallC s s.heap.objs.size (f4 (cr qual scope s.heap.objs.size f C).kindOf (m.zip Q) λ_=>z7) (bf (s.heap.objs.size+1) scope.names []) (f5 (cr qual scope s.heap.objs.size f C).kindOf (m.zip Q) λ_=>z7) s1):
  Inv (Fu T P w K O base N qual scope f C A d s H E) [] (qU N o) H s1:=by
 have U:(AC m)<=(AC N):=by have:=nc ey S.pre;rw[vo]at this;lia
 obtain⟨h1,D,rfl,hk⟩:=x.done;have L:∀b:gU,b∉(Fu T P w K O base N qual scope f C A d s H E).ex:=λb z=>absurd (show b∈([]:List gU)from z) (by simp)
 refine⟨⟨j.mod,S.kind,rfl,rfl,jw _,λy z c h1 g=>?_,λy l=>?_,λy c _ h=>?_,λ_=>hd,Around.frames_deeper j.frames,.inr ⟨rfl,rfl⟩,λb z=>absurd z<|L b,j.bs,j.bsz,λb _ _=>L b,λb z=>absurd z<|L b,j.EU,j.frf⟩,
  rfl,j.bare,Un.kept hk,⟨_,x.toInCall.ns,λi y v h1 g Y=>?_⟩,λy c h=>⟨_,x.cell y c h⟩,j.hok.fresh<|jw _,λy c h=>?_,λp t=>absurd (show p∈([]:List (gU×dS))from t)<|by simp,j.hok.kept hk,?_⟩
 .exact v9 x.apart (tH h1) (tH g)
 .have l:scope.names.lookup y=zx .cell\/scope.names.lookup y=zx .free:=l;rcases l with l|l
  .exact HI l
  exact absurd At (S.nofree _ (tH l))
 .exact wm (x.above y c<|tH h)
 .have I:i<(AC o):=by
   unfold qU at g;by_cases I:i<AC o
   .exact I
   rw[qg<|by simpa using I]at g;rw[cV]at g;split at g<;>cases g
  have J:o[i]?=zx v:=by
   unfold qU at g;rw[rV<|by simpa using I,jv]at g
   cases e:o[i]? with
   |none=>rw[e]at g;cases g
   |some a=>rw[e]at g;cases g;rfl
  obtain⟨u,G,M⟩:=r.get J
  have t:m[i]?=zx y:=by rw[<-S.pre,Oc<|by lia];exact h1
  have B:m.Nodup:=by rw[<-S.pre];exact S.nd.sublist<|yO _ _
  refine⟨u,M,?_⟩;rcases S.par y (lK t)with k|k
  .exact .inl ⟨k,DR B t G k⟩
  obtain⟨c,e⟩:=HI (n:=s.heap.objs.size+1) k;refine .inr ⟨.inl k,c,e,?_⟩;have q:=x.cell y c e;rw[DT B t G (by show scope.names.lookup y≠_;rw[k];decide)]at q;exact q
 .exact j.hok.fresh (wm<|x.above y c<|tH h)
 unfold qU;show _=AC N;rw[lA,jl,List.length_replicate]
 lia
def abO{L:Hy}{P:iF}{w:iu}{K:iA}{O:mB}{base:iJ}{k:Nat}{f:gU}{j qual:aQ}{c:ee}{d:List bG}{scope:jU}{dV kV z pm l ct oc:il}{an od:Option gU}
  {ax:CT}{N T:iX}{A:iB}{a:List ek}{s:hJ}{H:Hp}{i:Args}{us:ju}{C:List V}{Q:VK}{E:XK}(lk:K.lookup f=zx ⟨oc,od,.func<|bv j qual c d scope dV kV z pm an l ct,ax⟩)(aH:cx K l qual=z8)(S:VP N T scope)
  (G:Ad (k+1) A)(B:JR P w K O base A a s H)(hb:d9 s (bv j qual c d scope dV kV z pm an l ct) i (T.zip us))(r:Vals C us)(hl:(AC C)=AC T)
  (n5:Ad k (A.deeper<|cr qual scope s.heap.objs.size f l)->∃t,GQ (Fu L P w K O base N qual scope f l A a s H E) d t/\t {nx:=λ_ h=>Q .T2 h,rt:=Q} (qU N C) H):
  cj (ah P w) A (.call (.ref f) i) (CR L a P w H s Q E) s:=by
 have D:K.In s.heap:=B.mod.kin.keeps λb o e=>(B.bs b o e).1;have M:s.heap.NoLimit:=B.mod.nolimit.keeps λb o e=>(B.bs b o e).1
 have m:∀y∈T.zip us,scope.names.lookup y.1=zx .local\/(scope.names.lookup y.1=zx .cell/\((bf (s.heap.objs.size+1) scope.names []).lookup y.1).isSome=z8):=λ⟨n,v⟩ hy=>by
  rcases S.par n (IL hy).1 with q|q
  .exact .inl q
  exact .inr ⟨q,Et _ _ _ (.inl q)⟩
 refine codeAny_call_function G.depth (D _ _ lk) At S.co S.gen At (PySem.W.codeRec_of D aH)<|hb _ _ _ _ ?_;refine wpAny_newFunctionEnv_cells S.kind m λF X s1 x=>?_;subst X;refine⟨M.keeps x.toInCall.keep,codeAny_func ?_⟩;obtain⟨t,ht,Z⟩:=n5<|G.deeper _;have I:Inv (Fu L P w K O base N qual scope f l A a s H E) [] (qU N C) H s1:=agx S G.hd B hl r x;refine qi (ht [] s1 (qU N C) H _ I Z) (λR Y p=>?_) λe Y p=>p
 have fin:∀{g:St}{h:Hp}{v:V}{u:il},Inv (Fu L P w K O base N qual scope f l A a s H E) [] g h Y->RelV v u->Q v h->CE a P w H s Q u Y:=
  λ{g h v u} J U q=>⟨v,h,J.os,J.bare,J.base,J.hok,U,q⟩
 cases R with
 |ret u=>obtain⟨v,g,h,J,U,q⟩:=p;exact fin J U q
 |next=>obtain⟨g,h,J,q⟩:=p;exact fin (v:=V.T2) (u:=aw) J At q
 |brk=>obtain⟨_,_,_,q⟩:=p;exact aT q
 |cont=>obtain⟨_,_,_,q⟩:=p;exact aT q
def abN{l:Hy}{P:iF}{w:iu}{K:iA}{o:mB}{base:iJ}{k:Nat}{f:gU}{d qual:aQ}{b:ee}{c:List bG}{scope:jU}{n kV h p g ct O:il}{an L:Option gU}
  {x:CT}{N i:iX}{j:Sp}(lk:K.lookup f=J ⟨O,L,.func<|bv d qual b c scope n kV h p an g ct,x⟩)(v:cx K g qual=C)(S:VP N i scope)
  (len:∀e T Q E,j e T Q E->AC e=AC i)
  (U:∀(A:iB)(a:List ek)(s:hJ)(T:Hp)(e:List V)(Q:VK)(E:XK),Ad k (A.deeper<|cr qual scope s.heap.objs.size f g)->j e T Q E->
   ∃t,GQ (Fu l P w K o base N qual scope f g A a s T E) c t/\t {nx:=λ_ u=>Q .T2 u,rt:=Q} (qU N e) T):
  Bs P w K o base l (k+1) f (bv d qual b c scope n kV h p an g ct) i j:=
 ⟨len,λA a s T _ _ e Q E B y z r m=>abO lk v S B y z r (len _ _ _ _ m) λq=>U A a s T e Q E q m⟩
section
variable {X:Cx}{x:aQ}{p a:bp}{e:ig}{b:kb}{t:TA}{id T:String}{r:List V->Hp->VK->Prop}
def MR(r:List V->Hp->VK->Prop)(t:TA):TE:=λf U Q=>t f U λd c=>r d c Q
def Bp(k:kg X (.builtin id) r)(m:Gl X x)(n:X.mg x=I)(hv:aI x=J (.builtin id))(j:PA X (e::b) t)(o:x≠"__name__":=by decide)(q:(x==("__debug__":aQ))=Y:=by decide)
  (l:ai (e::b) X.env=(Y,aU e X.env)::ai b X.env:=by rfl)(i:(bg a<|ai b X.env).any (·.1)=Y:=by rfl):PE X (.Call (.Name x p) (e::b) [] a) (MR r t):=by
 intro c s d U Q O h;refine AN<|rA O m n hv ?_ o q;exact rs (Pt (j a c s d U _ O h) λw s1 N=>by obtain⟨y,f,g,v,u⟩:=N;exact k c s1 d f y w Q g v u) l i
def qK(k:kg X (.type T) r)(m:Gl X x)(n:X.mg x=I)(hv:aI x=J (.type T))(j:PA X (e::b) t)(o:x≠"__name__":=by decide)(q:(x==("__debug__":aQ))=Y:=by decide)
  (l:ai (e::b) X.env=(Y,aU e X.env)::ai b X.env:=by rfl)(i:(bg a<|ai b X.env).any (·.1)=Y:=by rfl):PE X (.Call (.Name x p) (e::b) [] a) (MR r t):=by
 intro c s d U Q O h;refine AN<|rA O m n hv ?_ o q;exact AO (Pt (j a c s d U _ O h) λw s1 N=>by obtain⟨y,f,g,v,u⟩:=N;exact k c s1 d f y w Q g v u) l i
end
end L2
namespace HT
section
open PySem.SeqAt
open PySem.AutoSeq1 (wpAny_loadPart')
open PySem.MeetsSeq PySem.MeetsSeq2 PySem.MeetsSeq3
end
section
variable {a:iF}{w:iu}{A:iB}{E:iU}{s:hJ}
def ab0{t b:gU}{d c:ju}{Q:iU}(y:f9 s.heap t d.toArray)(x:f9 s.heap b c.toArray)(hv:d≠[])
  (h1:c=[]->Q (.ref t) s)(v:c≠[]->Q (.ref s.heap.objs.size) {s with heap:=s.heap.push {cls:=.type "tuple",data:=.seq (d++c).toArray}})
  (l:(AC d)+AC c<=sizeLine):ae (ah a w) A (bm .Add (.ref t)<|.ref b) Q E s:=by
 obtain⟨⟨k,dd,f,u⟩,i,q,n,hd⟩:=id y;obtain⟨⟨z,o,data2,m⟩,h,p,r,g⟩:=id x;simp only at q hd p g;subst q hd p g;have e:d.toArray++c.toArray=(d++c).toArray:=by simp
 by_cases j:c=[]
 .exact Es ⟨_,i,rfl⟩ ⟨_,h,rfl⟩ IK IJ II IH (IG _ _)
   (tuple_addW1 t b d.toArray c.toArray n r dd o u m (by simpa using hv)<|by simp[j]) ⟨i,h,h1 j⟩
 refine Es ⟨_,i,rfl⟩ ⟨_,h,rfl⟩ IK IJ II IH (IG _ _)
  (tuple_addW2 t b d.toArray c.toArray n r dd o u m (by simpa using hv) (by simpa using j)<|by rw[jG,jG];exact l) ⟨i,h,?_⟩
 rw[e];exact v j
noncomputable def J0(n d:Nat):Option Int->Nat
 |none=>d
 |some v=>if v<0 then(v+(n:Int)).toNat else min v.toNat n
theorem W7(n d:Nat):J0 n d I=d:=rfl
def Y5(n d k:Nat):J0 n d (J (k:Int))=min k n:=by show(if(k:Int)<0 then((k:Int)+(n:Int)).toNat else min (k:Int).toNat n)=min k n;rw[iC<|by lia,xj]
def W8(n d:Nat)(hd:d<=n)(o:Option Int):J0 n d o<=n:=by
 cases o with
 |none=>exact hd
 |some v=>
  show(if v<0 then(v+(n:Int)).toNat else min v.toNat n)<=n;by_cases hv:v<0
  .rw[ie hv];lia
  rw[iC hv];exact Nat.min_le_right _ _
def LP(v:Int)(n d:Nat):(if v<0 then max (v+(n:Int)) 0 else min v (n:Int))=((J0 n d (J v):Nat):Int):=by
 show(if v<0 then max (v+(n:Int)) 0 else min v (n:Int))=(((if v<0 then(v+(n:Int)).toNat else min v.toNat n):Nat):Int)
 by_cases hv:v<0
 .simp only[ie hv];lia
 simp only[iC hv];lia
def af5(lo b:Option Int)(n:Nat):cp lo b 1 (n:Int)=(((J0 n 0 lo:Nat):Int),((J0 n n b:Nat):Int)):=by
 have h1: ¬((1:Int)<0):=by lia
 unfold cp;simp only[h1,km];refine Prod.ext ?_ ?_
 .cases lo with
  |none=>rfl
  |some v=>exact LP v n 0
 cases b with
 |none=>rfl
 |some v=>exact LP v n n
def afS(i j:Nat):bO (i:Int) (j:Int) 1=j-i:=by
 unfold bO;have h1:(1:Int)>0:=by lia
 simp only[h1,kz,Int.ediv_one];split<;>lia
def A9{v:il}{o:Option Int}{Q:Option Int->hJ->Prop}(p:c6 v o)(h:Q o s):ae (ah a w) A (n3 v) Q E s:=by
 cases p with
 |none=>exact ul h
 |int i t=>exact slicePart_int h
def qI{g:gU}{e f:il}{lo b:Option Int}{n:Nat}{Q:Int×Int×Nat->hJ->Prop}(i:s.heap.IsSliceOf g e f .none)(j:c6 e lo)(k:c6 f b)
  (h:Q (((J0 n 0 lo:Nat):Int),1,J0 n n b-J0 n 0 lo) s):ae (ah a w) A (dN (.ref g)<|pure (n:Int)) Q E s:=by
 obtain⟨os,c,l,d⟩:=id i;unfold dN n4;refine gW<|gW<|pv c d (x:=e) H<|gW<|pv c d (x:=f) H<|gW<|pv c d (x:=.none) H<|ik ?_;refine gW<|ul ?_;show ae _ _ (if((1:Int)==0)=C then _ else _) _ _ s;rw[iC<|by decide];refine gW<|A9 j<|gW<|A9 k<|gW<|ik ?_;show ae _ _ (match cp lo b 1 (n:Int)with|(lo,b)=>pure (lo,(1:Int),bO lo b 1)) _ _ s;rw[af5 lo b n];show ae _ _ (pure (((J0 n 0 lo:Nat):Int),(1:Int),bO ((J0 n 0 lo:Nat):Int) ((J0 n n b:Nat):Int) 1)) _ _ s;rw[afS];exact ik h
def Qf(b:oF)(i k:Nat):((am k).filterMap λ(m:Nat)=>b[((i:Int)+(m:Int)*1).toNat]?).toArray=((b.toList.drop i).take k).toArray:=by
 have e:(λ(m:Nat)=>b[((i:Int)+(m:Int)*1).toNat]?)=λm=>b[i+m]?:=by
  funext m;have:((i:Int)+(m:Int)*1).toNat=i+m:=by lia
  rw[this]
 rw[e];have:=pick_run b i k;rw[gj]at this;have c:((λx=>b[x]?)∘λx=>i+x)=λm=>b[i+m]?:=rfl;rw[c]at this;rw[this]
def afz{t e:gU}{items:oF}{g i:il}{lo b:Option Int}{Q:iU}(d:f9 s.heap t items)(f:s.heap.IsSliceOf e g i .none)(p:c6 g lo)(r:c6 i b)
  (o: ¬(J0 items.size 0 lo=0/\J0 items.size items.size b=items.size))
  (h:Q (.ref s.heap.objs.size) {s with heap:=s.heap.push {cls:=.type "tuple",data:=.seq ((items.toList.drop<|J0 items.size 0 lo).take<|J0 items.size items.size b-J0 items.size 0 lo).toArray}})
  (n:items.size<=sizeLine):ae (ah a w) A (d1 (.ref t)<|.ref e) Q E s:=by
 have c:sizeOk (.seq ((items.toList.drop<|J0 items.size 0 lo).take<|J0 items.size items.size b-J0 items.size 0 lo).toArray):=by show((items.toList.drop<|J0 items.size 0 lo).take<|J0 items.size items.size b-J0 items.size 0 lo).toArray.size<=sizeLine;rw[jG,vo,cQ,kn];omega
 have x:J0 items.size items.size b<=items.size:=W8 _ _ (jw _) b;obtain⟨os,k,j,v⟩:=id f;have l:s.TypeIs (.ref e) "slice":=⟨os,k,j⟩
 unfold d1
 try with_reducible refine mU ?_
 first|refine gW (ik ?_)|skip
 refine gW<|mo d.typeIs (by decide) ?_
 refine gW (tE (name:=bz "__getitem__") d.typeIs Ck
  (qf Ck d.typeIs Ob ?_<|l9 _ _))
 show ae _ _ (cb (.ref t)>>=_) _ _ s;refine gW<|vr d ?_;refine gW<|wc l ?_;rw[ie<|by decide];refine gW<|qI f p r ?_
 have u: ¬((((J0 items.size 0 lo:Nat):Int)==0&&(1:Int)==1&&(J0 items.size items.size b-J0 items.size 0 lo)==items.size)=C):=by intro q;rw[la,la]at q;have y:((J0 items.size 0 lo:Nat):Int)=0:=rT q.1.1;have z:J0 items.size items.size b-J0 items.size 0 lo=items.size:=rT q.2;exact o ⟨by omega,by omega⟩
 show ae _ _ (if(((J0 items.size 0 lo:Nat):Int)==0&&(1:Int)==1&&(J0 items.size items.size b-J0 items.size 0 lo)==items.size)=C then _ else _) _ _ s;rw[iC u,Qf]
 first
  |exact gW (m:=aY _)<|oq (ik ⟨_,rfl,ik h⟩) c
  |exact gW (m:=aY _)<|oq (gW<|ik<|ik ⟨_,rfl,ik h⟩) c
  |exact gW<|gW (m:=aY _)<|oq (ik<|ik ⟨_,rfl,ik h⟩) c
  |exact gW<|gW (m:=aY _)<|oq (ik ⟨_,rfl,ik h⟩) c
end
end HT
namespace L2
abbrev TO:=St->Hp->(Option Int->Hp->Prop)->Prop
def PO(X:Cx)(e:Option Expr)(t:TO):Prop:=
 ∀(a:iO)(s:hJ)(b:St)(U:Hp)(Q:Option Int->Hp->Prop),Inv X a b U s->t b U Q->
  ae (ah X.prog X.w) X.A (evalPart e X.env) (λu d=>∃o c,Inv X a b c d/\c6 u o/\Q o c) X.xe s
noncomputable def TL:TO:=λ_ U Q=>Q I U
def aaD(t:TE):TO:=λb U Q=>t b U λx a=>∃i,x=.int i/\Q (J i) a
section
variable {X:Cx}{e:ig}{d:TE}{lo c:Option Expr}{f g:TO}{k j:bp}
def KQ:PO X I TL:=by intro a s b U Q T h;rw[u9];exact ik ⟨I,U,T,.none,h⟩
def KP(h:PE X e d):PO X (J e) (aaD d):=by intro a s p U Q T m;rw[evalPart_some];refine Pt (h a s p U _ T m) λu s1 O=>?_;obtain⟨x,b,l,o,n⟩:=O;obtain⟨i,rfl,q⟩:=n;obtain⟨t,rfl⟩:=o;exact⟨J i,b,l,.int i t,q⟩
def Nn(X:Cx)(r:V->Option Int->Option Int->Hp->VK->Prop):Prop:=
 ∀(a:iO)(s:hJ)(l:St)(U:Hp)(x:V)(v h i:il)(lo c:Option Int)(b:gU)(Q:VK),Inv X a l U s->RelV x v->s.heap.IsSliceOf b h i .none->c6 h lo->c6 i c->r x lo c U Q->
  ∃T id,typeLookup (.type T) "__getitem__"=pure (J<|.builtin id)/\s.TypeIs v T/\ae (ah X.prog X.w) X.A (d1 v<|.ref b) (EP X a l Q) X.xe s
def tSl(r:V->Option Int->Option Int->Hp->VK->Prop)(d:TE)(f g:TO):TE:=λa U Q=>d a U λx b=>f a b λl h=>g a h λu i=>r x l u i Q
def GJ{r:V->Option Int->Option Int->Hp->VK->Prop}(M:Nn X r)(O:PE X e d)(J:PO X lo f)(U:PO X c g):PE X (.Subscript e (.Slice lo c z7 j) k) (tSl r d f g):=by intro a s m H Q I h;refine Subscript_<|Pt (O a s m H _ I h) λv s1 a'=>?_;obtain⟨x,t,z,r1,q1⟩:=a';refine wpAny_Slice<|Pt (J a s1 m t _ z q1) λn s2 ⟨l,y,B,Y',q2⟩=>Pt (U a s2 m y _ B q2) λo i a'=>?_;obtain⟨u,p,C',pu,q3⟩:=a';rw[u9];refine ik ?_;have E:Inv X a m p {i with heap:=i.heap.push {cls:=.type "slice",data:=.fields #[n,o,.none]}}:=C'.kept (t':=i.toks) λb D q=>jJ _ q;obtain⟨T,id,L,N,G⟩:=M a {i with heap:=i.heap.push {cls:=.type "slice",data:=.fields #[n,o,.none]}} m p x v n o l u i.heap.objs.size Q E r1 (Heap.IsSliceOf.new ..) Y' pu q3;show ae (ah X.prog X.w) X.A (vu e (.Slice lo c z7 j) v<|.ref i.heap.objs.size) (EP X a m Q) X.xe {i with heap:=i.heap.push {cls:=.type "slice",data:=.fields #[n,o,.none]}};exact tail_any (ops:=[.ref i.heap.objs.size,v]) N L G (by with_unfolding_all rfl)
noncomputable def HE(a:List V)(lo c:Option Int):List V:=(a.drop<|HT.J0 (AC a) 0 lo).take<|HT.J0 (AC a) (AC a) c-HT.J0 (AC a) 0 lo
def zZ(a:List V)(lo c:Option Int):(HE a lo c).length<=(AC a):=by
 unfold HE;rw[vo,cQ]
 lia
def adm(K:iA):V->Option Int->Option Int->Hp->VK->Prop:=λx lo c U Q=>∃a b,x=.ref a/\FD K U a b/\
 ¬(HT.J0 (AC b) 0 lo=0/\HT.J0 (AC b) (AC b) c=AC b)/\∀p,U p=I->Q (.ref p) (upd U p<|.tup<|HE b lo c)
def W3:Nn X (adm X.K):=by
 intro t s T N x v L O lo c E Q M B u z A h;obtain⟨a,l,rfl,y,w,q⟩:=h;cases B;obtain⟨m,r,n,p⟩:=M.tuple y;have i:m.toArray.size=(AC l):=by rw[jG];exact r.length.symm
 refine⟨"tuple",_,Ck.lookup,n.typeIs,?_⟩;refine HT.afz n u z A (by rw[i];exact w) ?_ (by rw[i];exact p);rw[i];refine⟨.ref s.heap.objs.size,_,M.laid (t':=s.toks) (o:=.tup (HE l lo c)) (λb U q=>jJ _ q) (jw _) ?_,rfl,q _ (M.hok.fresh<|jw _)⟩;exact⟨kK (zZ l lo c) p,_,(r.drop<|HT.J0 (AC l) 0 lo).take<|HT.J0 (AC l) (AC l) c-HT.J0 (AC l) 0 lo,Er _ _⟩
def aa1(K:iA):R2:=λx y U Q=>∃a b i h,x=.ref a/\y=.ref b/\FD K U a i/\FD K U b h/\i≠[]/\(AC i)+AC h<=sizeLine/\
 (h=[]->Q (.ref a) U)/\(h≠[]->∀p,U p=I->Q (.ref p) (upd U p<|.tup<|i++h))
def Vals.GP{b:List V}{a:ju}(r:Vals b a):a=[]↔b=[]:=by
 cases r with
 |nil=>simp
 |cons _ _=>simp
def Uy:D0 X (bm .Add) (aa1 X.K):=by intro n s N H x y v u Q I L O h;obtain⟨a,b,T,G,rfl,rfl,p,r,t,m,C,E⟩:=h;cases L;cases O;obtain⟨A,l,B,_⟩:=I.tuple p;obtain⟨U,i,j,_⟩:=I.tuple r;refine HT.ab0 B j (λz=>t<|l.GP.mp z) (λz=>⟨.ref a,H,I,rfl,C<|i.GP.mp z⟩) (λz=>?_) (by rw[<-l.length,<-i.length];exact m);refine⟨.ref s.heap.objs.size,_,I.laid (t':=s.toks) (o:=.tup (T++G)) (λb M q=>jJ _ q) (jw _) ?_,rfl,E (λw=>z<|i.GP.mpr w) _ (I.hok.fresh<|jw _)⟩;exact⟨by rw[lA];exact m,_,l.append i,Er _ _⟩
end
noncomputable def EO(n:Nat)(i:Int):Option Nat:=if 0<=i then(if i<n then J i.toNat else I)else if -(n:Int)<=i then J (i+n).toNat else I
def G5{b:Type}(a:List b)(i:Int):Option b:=(EO (AC a) i).bind λj=>a[j]?
def E6{n:Nat}{i:Int}{j:Nat}(h:EO n i=J j):nb i n=J j/\j<n/\ -(n:Int)<=i/\i<n:=by
 unfold EO at h;by_cases a:0<=i
 .rw[ie a]at h;by_cases h1:i<n
  .rw[ie h1]at h;have e:i.toNat=j:=kD h;exact⟨by rw[IF a h1,e],by lia,by lia,h1⟩
  rw[iC h1]at h;cases h
 rw[iC a]at h;by_cases h1: -(n:Int)<=i
 .rw[ie h1]at h;have e:(i+n).toNat=j:=kD h;exact⟨by rw[IE (by lia) h1,e],by lia,h1,by lia⟩
 rw[iC h1]at h;cases h
def L4{b:Type}{a:List b}{i:Int}{v:b}(h:G5 a i=J v):∃j,nb i (AC a)=J j/\a[j]?=J v/\j<AC a/\ -((AC a):Int)<=i/\i<(AC a):=by
 unfold G5 at h
 cases e:EO (AC a) i with
 |none=>rw[e]at h;cases h
 |some j=>rw[e]at h;obtain⟨h1,c,d,f⟩:=E6 e;exact⟨j,h1,h,c,d,f⟩
def Mb(b:ig):Prop:= ∀o i,w5 b Y o i=operate [o,i] (d1 o i)
def OW(X:Cx)(r:R2):Prop:=
 ∀(c a:ig)(b:iO)(s:hJ)(d:St)(U:Hp)(x y:V)(v u:il)(Q:VK),Inv X b d U s->RelV x v->RelV y u->r x y U Q->
  w5 a Y v u=operate [v,u] (d1 v u)->ae (ah X.prog X.w) X.A (vu c a v u) (EP X b d Q) X.xe s
def MtR(X:Cx)(id:String)(r:V->List V->Hp->VK->Prop):Prop:=
 ∀(a:iO)(s:hJ)(d:St)(U:Hp)(x:V)(c:List V)(v:il)(b:ju)(Q:VK),Inv X a d U s->RelV x v->Vals c b->r x c U Q->
  ae (ah X.prog X.w) X.A (call (.builtin id) (v::b)) (EP X a d Q) X.xe s
section
variable {X:Cx}{a b:ig}{C tb:TE}{B:bp}
def aa8{r:R2}(i:OW X r)(f:PE X a C)(g:PE X b tb)(j:Mb b):PE X (.Subscript a b B) (M0 r C tb):=by intro c s n U Q T h;exact Subscript_<|YW f g T h λv u m x y d e k l q=>i a b c m n d x y v u Q e k l q<|j _ _
def ads(K:iA):R2:=λx y U Q=>∃p c i v,x=.ref p/\y=.int i/\CO K U p c/\G5 c i=J v/\Q v U
def adq(K:iA):R2:=λx y U Q=>∃p c i v,x=.ref p/\y=.int i/\FD K U p c/\G5 c i=J v/\Q v U
def UT:OW X (ads X.K):=by
 intro k g c s o H x y v u Q I M N h n;obtain⟨p,P,i,z,rfl,rfl,J,T,q⟩:=h;cases M;obtain⟨t,rfl⟩:=N;obtain⟨e,r,f,F⟩:=I.list J;obtain⟨j,h1,E,Y,L,O⟩:=L4 T;obtain⟨w,l,A⟩:=r.get E;have G:=r.length;have D:=EX;have fin:EP X c o Q w s:=⟨z,H,I,A,q⟩
 by_cases m:0<=i
 .have d:i.toNat=j:=by rw[IF m O]at h1;exact kD h1
  exact item_listR f.isList m (by lia) (by rw[d];simpa using l) fin n
 have d:(i+(e.toArray.size:Int)).toNat=j:=by rw[IE (by lia) L]at h1;rw[jG,<-G];exact kD h1
 exact Oa (x:=w) f.isList.typeIs mA.lookup
  (wpAny_getItem_list_neg (Q:=λr U=>r=w/\EP X c o Q r U) f.isList (by lia) (by rw[jG]<;>lia) (by lia) (by rw[d];simpa using l) ⟨rfl,fin⟩) n
def Yk:OW X (adq X.K):=by
 intro e d c s g H x y v u Q I O T h E;obtain⟨p,D,i,z,rfl,rfl,A,n,q⟩:=h;cases O;obtain⟨t,rfl⟩:=T;obtain⟨L,r,f,Y⟩:=I.tuple A;obtain⟨j,h1,m,J,M,N⟩:=L4 n;obtain⟨w,l,k⟩:=r.get m;have o:=r.length;have U:=EX;have fin:EP X c g Q w s:=⟨z,H,I,k,q⟩
 exact Oa (x:=w) f.typeIs Ck.lookup
  (getItem_tuple (j:=j) (Q:=λr G=>r=w/\EP X c g Q r G) f (by lia) (by lia) (by rw[jG,<-o];exact h1) (by simpa using l) ⟨rfl,fin⟩) E
def afx(c:ju)(n j:Nat)(u:il):aM (·.setIfInBounds j u) {cls:=.type "list",data:=.seq c.toArray n}={cls:=.type "list",data:=.seq (c.set j u).toArray n}:=by simp[aM]
def Inv.lst{d:iO}{f:St}{U:Hp}{s:hJ}{p:gU}{xs:List V}(T:Inv X d f U s)(h:U p=J (.lst xs)):
  ∃(c:ju)(n:Nat),Vals xs c/\s.heap.get? p=J {cls:=.type "list",data:=.seq c.toArray n}/\(AC xs)<=sizeLine:=by
 obtain⟨z,c,n,r,e⟩:=T.hok p _ h;exact⟨c,n,r,e,z⟩
def Inv.M4{d:iO}{l:St}{U:Hp}{s:hJ}{p:gU}{w j:List V}{g c:ju}{n i:Nat}{f:dS->dS}(T:Inv X d l U s)(h:U p=J (.lst w))
  (o:s.heap.get? p=J {cls:=.type "list",data:=.seq g.toArray n})(k:f {cls:=.type "list",data:=.seq g.toArray n}={cls:=.type "list",data:=.seq c.toArray i})(r:Vals j c)(v:(AC j)<=sizeLine)(t:Nat):
  Inv X d l (upd U p<|.lst j) {s with heap:=s.heap.update p f,toks:=t}:=by
 have e:(s.heap.update p f).get? p=J {cls:=.type "list",data:=.seq c.toArray i}:=by rw[tD f o<|by rw[k]<;>rfl,k]
 refine T.write (x:=p) (e:=p) (by rw[h];trivial) (.inl H) (λb u m q=>(Ep _ _ (vt m)).trans q) ⟨_,e⟩ ?_;exact⟨v,c,i,r,e⟩
def aaY:V->V->V->Hp->(Hp->Prop)->Prop:=λo i v U Q=>∃p c k j,o=.ref p/\i=.int k/\U p=J (.lst c)/\EO (AC c) k=J j/\Q (upd U p<|.lst<|c.set j v)
def Pr:Y2 X aaY:=by
 intro d s T H o i v N M u Q I E A L h;obtain⟨p,O,k,j,rfl,rfl,x,y,q⟩:=h;cases E;obtain⟨t,rfl⟩:=A;obtain⟨c,n,r,f,z⟩:=I.lst x;obtain⟨h1,G,m,w⟩:=E6 y;have e:=r.length;have U:=EX
 have g:Inv X d T (upd H p<|.lst<|O.set j v) {s with heap:=s.heap.update p (aM (·.setIfInBounds j u))}:=
  I.M4 x f (afx c n j u) (r.set L j) (by rw[tx];exact z) s.toks
 by_cases l:0<=k
 .have hk:k.toNat=j:=by rw[IF l w]at h1;exact kD h1
  exact PySem.W.ki_setAt f l (by lia) (by rw[jG,<-e];exact w) (by rw[hk];exact⟨_,g,q⟩)
 have hk:(k+(c.toArray.size:Int)).toNat=j:=by rw[IE (by lia) m]at h1;rw[jG,<-e];exact kD h1
 exact PySem.W.ki_setBack f (by lia) (by rw[jG,<-e];exact m) (by lia) (by rw[hk];exact⟨_,g,q⟩)
def aeF(lo c:Option Int)(n:Nat):(cC lo c I n).1=((HT.J0 n 0 lo:Nat):Int)/\(cC lo c I n).2.1=((HT.J0 n n c:Nat):Int)/\(cC lo c I n).2.2=1:=by
 refine⟨?_,?_,rfl⟩
 .cases lo with
  |none=>simp[cC,HT.J0]
  |some i=>
   simp only[cC,HT.J0,gb,show(1:Int)>0 by decide,kz];by_cases h:i<0
   .simp only[h,kz]<;>lia
   simp only[h,km]<;>lia
 cases c with
 |none=>simp[cC,HT.J0]
 |some i=>
  simp only[cC,HT.J0,gb,show(1:Int)>0 by decide,kz];by_cases h:i<0
  .simp only[h,kz]<;>lia
  simp only[h,km]<;>lia
def aew(c:ju)(lo d:Option Int):slicePick c.toArray lo d I=((c.drop<|HT.J0 (AC c) 0 lo).take<|HT.J0 (AC c) (AC c) d-HT.J0 (AC c) 0 lo).toArray:=by obtain⟨h1,e,f⟩:=aeF lo d c.toArray.size;unfold slicePick;rw[h1,e,f];simp only[sliceRange_one,pick_run,jG]<;>rfl
def adn(K:iA):V->Option Int->Option Int->Hp->VK->Prop:=λx lo d U Q=>∃a c,x=.ref a/\CO K U a c/\∀p,U p=I->Q (.ref p) (upd U p<|.lst<|HE c lo d)
def TN:Nn X (adn X.K):=by intro g s z U x v w y lo e u Q T p i m n h;obtain⟨a,c,rfl,j,q⟩:=h;cases p;obtain⟨l,r,f,k⟩:=T.list j;have d:=r.length;refine⟨"list",_,mA.lookup,f.isList.typeIs,?_⟩;refine wpAny_getItem_list_slice f.isList i m n .none (by simp) ?_ (by rw[jG]<;>lia);rw[aew,<-d];refine⟨.ref s.heap.objs.size,_,T.laid (t':=s.toks) (o:=.lst (HE c lo e)) (λb t q=>jJ _ q) (jw _) ?_,rfl,q _ (T.hok.fresh<|jw _)⟩;exact⟨kK (zZ c lo e) k,_,0,(r.drop<|HT.J0 c.length 0 lo).take<|HT.J0 c.length c.length e-HT.J0 c.length 0 lo,kc _ rfl⟩
def yk:kg X (.builtin "len") (λk U Q=>∃p d,k=[.ref p]/\(CO X.K U p d\/FD X.K U p d)/\Q (.int d.length) U):=by
 intro j s t U k o Q T r h;obtain⟨p,d,rfl,e,q⟩:=h;obtain⟨u,rfl,m⟩:=qC r;cases m;have n:=EX;rcases e with e|e
 .obtain⟨f,i,g,l⟩:=T.list e;have c:=i.length;exact Calls.call_len_list g.isList (by simp only[jG]<;>lia) ⟨.int d.length,U,T.tok _,⟨s.toks+1,by rw[jG,c]⟩,q⟩
 obtain⟨f,i,g,l⟩:=T.tuple e;have c:=i.length;exact len_tuple g (by simp only[jG]<;>lia) ⟨.int d.length,U,T.tok _,⟨s.toks+1,by rw[jG,c]⟩,q⟩
def yj:kg X (.type "list") (λE U Q=>∃p i,E=[.ref p]/\(CO X.K U p i\/FD X.K U p i)/\∀l,U l=I->Q (.ref l) (upd U l<|.lst i)):=by
 intro v s O U E T Q N r h;obtain⟨p,i,rfl,k,q⟩:=h;obtain⟨u,rfl,L⟩:=qC r;cases L
 have fin:∀(c:ju),Vals i c->i.length<=sizeLine->∀(d:iJ)(f:Nat),(∀b A,s.heap.get? b=J A->d.get? b=J A)->
   d.get? s.heap.objs.size=J {cls:=.type "list",dict:=I,data:=.seq c.toArray f,slots:= #[]}->EP X v O Q (.ref s.heap.objs.size) {s with heap:=d}:=λc g m d f t e=>
  ⟨.ref s.heap.objs.size,_,N.laid (t':=s.toks) t (jw _) (show S1 X.prog X.w _ d _ (.lst i)from⟨m,c,f,g,e⟩),rfl,q _ (N.hok.fresh<|jw _)⟩
 rcases k with k|k
 .obtain⟨c,g,z,m⟩:=N.list k;have j:=g.length;obtain⟨o,y,x,n,hd⟩:=z.isList;exact vn p (.inl H) y x hd (λd f t e=>fin c g m d f t e) (by simp only[jG]<;>omega)
 obtain⟨c,g,z,m⟩:=N.tuple k;have j:=g.length;obtain⟨o,y,x,n,hd⟩:=z;exact vn p (.inr H) y x hd (λd f t e=>fin c g m d f t e) (by simp only[jG]<;>omega)
def vL:kg X (.type "tuple") (λv U Q=>∃p f,v=[.ref p]/\((CO X.K U p f/\∀l,U l=I->Q (.ref l) (upd U l<|.tup f))\/(FD X.K U p f/\Q (.ref p) U))):=by
 intro c s x U v E Q T r h;obtain⟨p,f,rfl,h⟩:=h;obtain⟨u,rfl,A⟩:=qC r;cases A;rcases h with⟨i,q⟩|⟨i,q⟩
 .obtain⟨d,k,j,t⟩:=T.list i;have n:=k.length;refine call_tuple_list j.isList (λg z=>?_) (by simp only[jG]<;>lia);have m:Inv X c x U {s with heap:=g}:=T.kept (t':=s.toks) z
  have y:Inv X c x (upd U g.objs.size<|.tup f) {s with heap:=g.push {cls:=.type "tuple",data:=.seq d.toArray}}:=
   m.laid (t':=s.toks) (λb o e=>jJ _ e) (jw _) (show S1 X.prog X.w _ _ _ (.tup f)from⟨t,d,k,Er _ _⟩)
  exact⟨.ref g.objs.size,_,y,rfl,q _ (m.hok.fresh<|jw _)⟩
 obtain⟨d,k,j,t⟩:=T.tuple i;exact call_tuple_same j ⟨.ref p,U,T,rfl,q⟩
def tyV(K:iA)(T:String)(x:V)(U:Hp):Prop:=match x with
 |.str _=>T="str"
 |.int _=>T="int"
 |.ref p=>(T="list"/\∃d,CO K U p d)\/(T="tuple"/\∃o,K.lookup p=J o/\o.cls=.type "tuple"/\o.dict=I)\/
   (T="dict"/\((∃c,U p=J (.dK c))\/∃c,U p=J (.dT c)))\/(T="set"/\∃S n,U p=J (.set S n))
 |_=>False
def OZ{d:iO}{q:St}{U:Hp}{s:hJ}{T:String}{x:V}{v:il}(Q:Inv X d q U s)(r:RelV x v)(ty:tyV X.K T x U):
  s.TypeIs v T/\∀a,v=.ref a->∃h,s.heap.get? a=J h/\h.dict=I:=by
 cases x with
 |str z=>obtain⟨t,rfl⟩:=r;cases(show T="str" from ty);exact⟨typeIs_str s z t,λ_ e=>nomatch e⟩
 |int i=>obtain⟨t,rfl⟩:=r;cases(show T="int" from ty);exact⟨lw s i t,λ_ e=>nomatch e⟩
 |ref p=>
  cases r;rcases ty with⟨rfl,u,l⟩|⟨rfl,o,hk,k,hd⟩|⟨rfl,hk⟩|⟨rfl,S,n,hk⟩
  .obtain⟨m,_,j,_⟩:=Q.list l;refine⟨j.isList.typeIs,λa e=>?_⟩;cases e;obtain⟨o,n,e,c,hd,_⟩:=j;exact⟨o,e,hd⟩
  .refine⟨⟨o,Q.Gv p o hk,k⟩,λa e=>?_⟩;cases e;exact⟨o,Q.Gv _ o hk,hd⟩
  .have z:∃o,s.heap.get? p=J o/\o.ExactDict:=by
    rcases hk with⟨g,hk⟩|⟨g,hk⟩
    .obtain⟨_,_,_,_,o,_,_,e,ex,_⟩:=Q.hok p _ hk;exact⟨o,e,ex⟩
    obtain⟨_,_,_,_,o,_,_,e,ex,_⟩:=Q.hok p _ hk;exact⟨o,e,ex⟩
   obtain⟨o,e,ex⟩:=z;refine⟨⟨o,e,ex.1⟩,λa f=>?_⟩;cases f;exact⟨o,e,ex.2.1⟩
  obtain⟨o,_,_,_,e,ex,_⟩:=Q.hok p _ hk;refine⟨⟨o,e,ex.1⟩,λa f=>?_⟩;cases f;exact⟨o,e,ex.2.1⟩
 |_=>exact aT ty
def acN(K:iA)(T:String)(r:V->List V->Hp->VK->Prop)(to:TE):TE:=λd U Q=>to d U λx c=>tyV K T x c/\r x [] c Q
def tBM(K:iA)(T:String)(r:V->List V->Hp->VK->Prop)(to:TE)(t:TA):TE:=λd U Q=>to d U λx c=>tyV K T x c/\t d c λf e=>r x f e Q
variable {o e:ig}{A:kb}{to:TE}{t:TA}{d:aQ}{g m:bp}{T id:String}{r:V->List V->Hp->VK->Prop}
def XM(y:PlainAttrs T)(slot:Slot T d id)(l:lv (.builtin id)=pure (.type "method_descriptor"))(p:MtR X id r)(q:PE X o to)
  (w:cB o d X.env (aU o X.env)=aU o X.env:=by rfl)(u:(g.endLine==m.line)=z8:=by rfl):PE X (.Call (.Attribute o d g) [] [] m) (acN X.K T r to):=by
 intro c s j U Q O h;refine wpAny_Call_method0_late w u<|Pt (q c s j U _ O h) λv s1 N=>?_;obtain⟨x,k,f,i,ty,z⟩:=N;obtain⟨h1,n⟩:=OZ f i ty;exact⟨T,id,y,slot,l,h1,n,N9 H<|PySem.evalArgs_none<|p c s1 j k x [] v [] Q f i .nil z⟩
def V7(M:PlainAttrs T)(slot:Slot T d id)(u:lv (.builtin id)=pure (.type "method_descriptor"))(z:MtR X id r)(E:PE X o to)(y:PA X (e::A) t)
  (J:cB o d X.env (aU o X.env)=aU o X.env:=by rfl)
  (q:((bg m<|ai (e::A) X.env).all (λx=>!x.1)&&(tp m<|i8 [] X.env).all (λx=>x.1.isSome)
   &&decide ((e::A).length+([]:List eJ).length+(if([]:List eJ).isEmpty then 0 else 1)<30))=z8:=by rfl)
  (G:(g.endLine==m.line)=z8:=by rfl)(L:ai (e::A) X.env=(Y,aU e X.env)::ai A X.env:=by rfl)(O:(bg m<|ai A X.env).any (·.1)=Y:=by rfl):
  PE X (.Call (.Attribute o d g) (e::A) [] m) (tBM X.K T r to t):=by
 intro c s f H Q I h;refine wpAny_Call_method_late J q G At<|Pt (E c s f H _ I h) λv s1 a'=>?_;obtain⟨x,l,i,k,ty,N⟩:=a';obtain⟨h1,w⟩:=OZ i k ty;refine⟨T,id,M,slot,u,h1,w,?_⟩;have j:=y m c s1 f l _ i N;rw[L]at j ⊢;refine N9 (by show(Y||(bg m<|ai A X.env).any (·.1))=Y;rw[O]<;>rfl)<|Calls.evalArgs_plain ?_;exact Pt j λus s2 ⟨vs,n,p,Y',U⟩=>z c s2 f n x vs v us Q p k Y' U
end
def MtM(X:Cx)(id:String)(r:V->List V->Hp->VK->Prop):Prop:=
 ∀(a:iO)(s:hJ)(d:St)(U:Hp)(x:V)(c:List V)(v:il)(b:ju)(Q:VK),Inv X a d U s->RelV x v->Vals c b->r x c U Q->
  ae (ah X.prog X.w) X.A (call (.builtin id) (v::b)) (EP X a d Q) X.xe s
def Vals.one{x:V}{a:ju}:Vals [x] a->∃u,a=[u]/\RelV x u:=qC
def Vals.zero:∀{a:ju},Vals [] a->a=[]
 |_,.nil=>rfl
def Vals.dropLast{b:List V}{a:ju}(h:Vals b a):Vals b.dropLast a.dropLast:=by
 induction h with
 |nil=>exact .nil
 |cons r t c=>
  cases t with
  |nil=>exact .nil
  |cons q d=>exact .cons r c
theorem Vals.eraseIdx:∀{b:List V}{a:ju}(i:Nat),Vals b a->Vals (b.eraseIdx i) (a.eraseIdx i)
 |_,_,_,.nil=>.nil
 |_,_,0,.cons _ t=>t
 |_,_,i+1,.cons r t=>.cons r (Vals.eraseIdx i t)
theorem Vals.rep{b:List V}{a:ju}(h:Vals b a):∀k:Nat,Vals (ac k b).flatten (ac k a).flatten
 |0=>.nil
 |k+1=>by rw[tw,tw,yN,yN];exact Vals.append h<|Vals.rep h k
def afH{d:Type}(l:List d):l.eraseIdx (AC l-1)=l.dropLast:=by
 induction l with
 |nil=>rfl
 |cons a r c=>
  cases r with
  |nil=>rfl
  |cons b r=>
   have e:(a::b::r).length-1=((b::r).length-1)+1:=by
    have h1:(a::b::r).length=AC r+2:=rfl;have f:(b::r).length=AC r+1:=rfl
    lia
   rw[e,fv,c]
   all_goals rfl
theorem Dt{a:Type}:∀(l:List a)(i:Nat),(l.eraseIdx i).length<=AC l
 |[],_=>jw _
 |_::_,0=>wa _
 |_::r,i+1=>Nat.succ_le_succ<|Dt r i
theorem DA(b:ju):∀(k:Nat)(a:ju),
  dX (λx1 x2=>x1++x2) a.toArray (ac k b.toArray)=(a++(ac k b).flatten).toArray
 |0,a=>by simp
 |k+1,a=>by
  have e:a.toArray++b.toArray=(a++b).toArray:=by simp
  have c:(a++b)++(ac k b).flatten=a++(ac (k+1) b).flatten:=by rw[tw,yN,oo]
  rw[<-c,<-DA b k (a++b),<-e,tw,oU]
section
variable {X:Cx}{a:iO}{c:St}{H:Hp}{s:hJ}{l b:gU}{g d i:List V}
def Inv.Jj{h its':ju}{n:Nat}{f:Array il->Array il}{r:Nat}(U:Inv X a c H s)(j:H l=J (.lst g))
  (e:s.heap.get? l=J {cls:=.type "list",data:=.seq h.toArray n})(m:f h.toArray=its'.toArray)(hv:Vals d its')(p:(AC d)<=sizeLine):
  Inv X a c (upd H l<|.lst d) {s with heap:=s.heap.update l<|aM f,toks:=r}:=by
 have q:=PySem.IsL.update e f;rw[m]at q;refine U.write (x:=l) (e:=l) (by rw[j];exact trivial) (.inl At) (λt u k o=>(Ep s.heap (aM f)<|vt k).trans o) ⟨_,q⟩ ?_;exact⟨p,its',_,hv,q⟩
def Inv.M5{e:ju}{t':Nat}(U:Inv X a c H s)(hv:Vals d e)(f:(AC d)<=sizeLine):
  Inv X a c (upd H s.heap.objs.size<|.lst d) {s with heap:=s.heap.push {cls:=.type "list",data:=.seq e.toArray},toks:=t'}:=
 U.laid (λ_ _ q=>jJ _ q) (jw _) ⟨f,e,0,hv,kc _ rfl⟩
def Inv.fresh(U:Inv X a c H s):H s.heap.objs.size=I:=U.hok.fresh<|jw _
def Inv.Jg(U:Inv X a c H s)(h:H l=J (.lst g)):g.length<=sizeLine/\∃(f:ju)(n:Nat),Vals g f/\g.length=f.length/\s.heap.get? l=J {cls:=.type "list",data:=.seq f.toArray n}:=by obtain⟨z,f,n,r,e⟩:=U.hok l _ h;exact⟨z,f,n,r,r.length,e⟩
def QM{n:Nat}(h:n<=sizeLine):cv n=Y:=by unfold cv;exact kr (by lia)
end
section
variable {X:Cx}
def T3:V->List V->Hp->VK->Prop:=λx b U Q=>∃l a y,x=.ref l/\b=[y]/\U l=J (.lst a)/\(AC a)<sizeLine/\Q .T2 (upd U l<|.lst<|a++[y])
def agp:MtM X "list.append" T3:=by
 intro c s p U x m v k Q T g f h;obtain⟨l,o,y,rfl,rfl,b,j,q⟩:=h;cases g;obtain⟨u,rfl,d⟩:=f.one;obtain⟨z,a,n,r,i,e⟩:=T.Jg b;refine tu F.slot_list_append ⟨_,e,rfl⟩ N8 (N7 _ _) (fW l a.toArray n u<|by rw[jG];lia) ⟨e,?_⟩;refine⟨.T2,_,T.Jj (its':=a++[u]) b e (by simp) (r.append<|.cons d .nil) ?_,rfl,q⟩;rw[lA,vm]
 lia
def adp:V->List V->Hp->VK->Prop:=λx b U Q=>∃l a y,x=.ref l/\b=[]/\U l=J (.lst a)/\a[AC a-1]?=J y/\Q y (upd U l<|.lst a.dropLast)
def X7:MtM X "list.pop" adp:=by
 intro d s A U x t v p Q T o m h;obtain⟨l,w,y,rfl,rfl,c,j,q⟩:=h;cases o;have b:=m.zero;subst b;obtain⟨z,a,n,r,g,e⟩:=T.Jg c;obtain⟨u,i,k⟩:=r.get j
 have f:a.toArray[a.toArray.size-1]?=J u:=by show a.toArray[AC a-1]?=J u;rw[<-kR,<-g];exact i
 refine tu F.slot_list_pop ⟨_,e,rfl⟩ F.entry_list_pop (F.args_list_pop_1 _) (MeetsSeq.list_pop_last l a.toArray n u f<|by rw[jG];lia) ⟨e,?_⟩;refine⟨y,_,T.Jj (its':=a.dropLast) c e ?_ r.dropLast ?_,k,q⟩
 .show a.toArray.eraseIdxIfInBounds (a.toArray.size-1)=a.dropLast.toArray;rw[jG,N6,afH]
 rw[ID]
 lia
def Xi:V->List V->Hp->VK->Prop:=λx b U Q=>∃l a i k y,x=.ref l/\b=[.int i]/\U l=J (.lst a)/\ -(2^63)<=i/\i<2^63/\nb i (AC a)=J k/\a[k]?=J y/\Q y (upd U l<|.lst<|a.eraseIdx k)
def QY:MtM X "list.pop" Xi:=by
 intro c s L T x E v U Q O A p h;obtain⟨l,B,i,k,y,rfl,rfl,b,h1,f,hk,m,q⟩:=h;cases A;obtain⟨u,rfl,o⟩:=p.one;obtain⟨t,rfl⟩:=o;obtain⟨z,a,n,r,g,e⟩:=O.Jg b;obtain⟨w,j,d⟩:=r.get m
 refine tu F.slot_list_pop ⟨_,e,rfl⟩ F.entry_list_pop (F.args_list_pop_2 _ _)
  (MeetsSeq.list_pop_at l a.toArray n i t k w (ta h1 f) (by rw[jG,<-g];exact hk) (by rw[<-kR];exact j)<|by rw[jG];lia) ⟨e,?_⟩
 refine⟨y,_,O.Jj (its':=a.eraseIdx k) b e ?_ (r.eraseIdx k) ?_,d,q⟩
 .show a.toArray.eraseIdxIfInBounds k=(a.eraseIdx k).toArray;rw[N6]
 have:=Dt B k
 lia
def UL{c:Type}(a:List c)(k:Nat):(ac k a).flatten.length=k*(AC a):=by
 induction k with
 |zero=>simp
 |succ k b=>rw[tw,yN,lA,b,Nat.succ_mul,o9]
end
section
variable {a:iF}{w:iu}{A:iB}{E:iU}{s:hJ}
end
section
variable {X:Cx}
end
end L2
namespace Att
open PySem.W PySem.Calls
def ad6{P:tv}{h:iJ}:∀(c:gY)(d:ju),WellAll P h d (c.map WData.int)->dy d c:=by
 intro c
 induction c with
 |nil=>intro d w;rw[sH]at w;cases w;exact .nil
 |cons n c e=>
  intro d w;rw[jI]at w
  cases w with
  |cons a b=>
   cases a;exact .cons _ _ (e _ b)
def agK{l:OpenLaw}{n:Nat}(v:l.most=J n){P:tv}{h:iJ}{b:List WData}{e:ju}
  (j:l.row.toRowW.claim.pre b=C)(s:WellAll P h e b):
  ∃a m c,e=[bV a]/\b=[WData.list<|c.map WData.int]/\h.get? a=J {cls:=.type "list",data:=.seq m.toArray}/\dy m c/\(AC c)<=n:=by
 have p:WShape.hasAll [] b [.list .int]=C:=(pre_splitW j).1;have k:l.pre.holds [] {args:=b}=C:=(pre_splitW j).2;obtain⟨d,r,rfl,h1,t⟩:=hasAllW_cons p;obtain rfl:=hasAllW_nil t;obtain⟨A,rfl,u⟩:=hasW_list h1;obtain⟨c,rfl⟩:=items_int u
 have f:(AC c)<=n:=by
  unfold OpenLaw.pre at k
  have g:(WTm.not<|.lt (.lit<|.int (n:Int))<|.len<|.arg 0).holds [] {args:=[.list<|c.map .int]}=C:=by have g:=(holds_andW k).1;rw[v]at g;exact g
  have i:=condW_of g<|w_not<|w_lt w_lit<|w_len_list<|w_arg H;rw[jl]at i;refine j8 λq=>?_;have x:(n:Int)<(((AC c):Nat):Int):=by omega
  first
   |(rw[kj x]at i;exact absurd i<|by decide)
   |(simp at i;omega)
 cases s with
 |cons y z=>
  cases z
  cases y with
  |list w o=>exact⟨_,_,c,rfl,rfl,w,ad6 c _ o,f⟩
def agR(l:OpenLaw)(a:List WData):l.row.toRowW.claim.post a (.bool C) a=C:=
 postW_of (r:=l.row.toRowW) (X:=C==C)
  (show WShape.has [] (.bool C) .bool=C by first|rfl|decide|simp[WShape.has,WShape.arms,WShape.armsAll])
  (show(WTm.eq .res<|.lit<|.bool C).value [] {args:=a,res:=J<|.bool C,after:=a}=J (.bool<|C==C)from w_eq_bool (w_res H) w_lit) rfl
def Vk{l:OpenLaw}{n:Nat}{q:iF}{c:iX}{y:(aQ->Option il)->iJ->Prop}{z:iu->iJ->Prop}{d:DefRec}
  (hn:l.most=zx n)(O:d.params.defaults=[])
  (call:∀(w:iu)(e b:hJ)(p v:mB)(j:gU)(o:dS)(x m g:il)(a:gU)(i:ju)(s:gY),
   Ground q c [] y w e p v b.heap->z w b.heap->
   b.heap.get? j=zx o->o.data=.func (docDef d.name d.params d.body d.scope x m g)->b.heap.CodeRec m d.name->p d.name=zx (.ref j)->
   b.heap.get? a=zx {cls:=.type "list",data:=.seq i.toArray}->dy i s->AC s<=n->b.gens= #[]->
   cj (ah l.prog w) d5 (.call (.ref j) ⟨[.ref a],[]⟩) (λr t=>r=.ok (.ret<|.bool z8)/\OldK b.heap t.heap/\t.os=b.os/\dD t.gens) b):
  WalkO q c y z l.row.toRowW d [] (λf i=>fL f i):=by
 intro w e b p v G Y j o x m g Q kV K hd H B u U A E as I C R T D;obtain rfl:Q=.none:=Dflts.none B O;obtain rfl:kV=.none:=Dflts.noKw B;obtain⟨a,i,s,rfl,rfl,L,h,k⟩:=agK hn I T;refine enter_call<|tJ (call w e b p v j o x m g a i s G Y K (fd_plain hd) H u L h k U) λr t P=>?_;obtain⟨rfl,J,M,N⟩:=P;exact⟨.inl ⟨.bool z8,.bool z8,[],rfl,λ_=>rfl,.bool z8,agR l _,λ_=>⟨aV,λ_ F=>(nomatch F)⟩⟩,J,M,N⟩
section
variable {a:iF}{w:iu}{A:iB}{E:iU}{s:hJ}{K:Frag}
end
end Att
namespace L2
def agC{b:ju}{a:gY}(h:dy b a):Vals (a.map V.int) b:=by
 induction h with
 |nil=>exact .nil
 |cons n t h c=>exact .cons ⟨t,rfl⟩ c
def Y3(U:Hp):Prop:= ∀b,U b=I\/∃o a,U b=J (.Aj o<|.lst a)
def Rl{P:iF}{w:iu}{K:iA}{O Y:mB}{CX:Hy}{k:Nat}{N a:gU}{fd:nI}{x:aQ}{sp:Sp}{c:hJ}{p:ju}{Q:gY}
  (KX:K.In c.heap)(bS:c.heap.Ns ap O)(g:c.heap.Ns l6 Y)(U:∀x:aQ,x≠"__name__"->Y x=aI x)(C:c.heap.NoLimit)(hg:c.gens= #[])
  (J:c.heap.get? a=zx {cls:=.type "list",data:=.seq p.toArray})(hi:dy p Q)(hl:Q.length<=sizeLine)(hr:Ad k d5)
  (F:∀base:iJ,K.In base->base.Ns ap O->Bs P w K O base CX k N fd [x] sp)(l:∀(s:hJ)(u:il),d9 s fd ⟨[u],[]⟩ [(x,u)])
  (bQ:∀H8:Hp,Y3 H8->CO K H8 a (Q.map V.int)->sp [.ref a] H8 (λv _=>v=.bl z8) λ_ _ _=>False)
  (gw:∀H8 e i,CX [] H8 c (λ_ _ _=>False) e i->False):
  cj (ah P w) d5 (.call (.ref N) ⟨[.ref a],[]⟩) (λr i=>r=.ok (.ret<|.bool z8)/\OldK c.heap i.heap/\i.os=c.os/\dD i.gens) c:=by
 have W:=agC hi;have L:=hi.length
 have j:∀H8:Hp,Y3 H8->CO K H8 a (Q.map V.int)->Cr P w H8 c.heap->(∀b,H8 b≠z7->b=a)->(H8 a≠z7->K.lookup a=z7)->
   cj (ah P w) d5 (.call (.ref N) ⟨[.ref a],[]⟩) (λr i=>r=.ok (.ret<|.bool z8)/\OldK c.heap i.heap/\i.os=c.os/\dD i.gens) c:=by
  intro H8 S hS E R hK;have f:∀{b:gU}{o:dS},c.heap.get? b=zx o->H8 b=z7->(Fb c.heap H8).get? b=zx o:=λe n=>RL e n
  have Z:∀{b:gU}{o:dS}{A:Array df}{y:Nat},c.heap.get? b=zx o->o.data=.dict A y->H8 b=z7:=λ{b o A y} e d=>by
   cases q:H8 b with
   |none=>rfl
   |some u=>have M:b=a:=R b (by rw[q];simp);subst M;rw[J]at e;cases e;have X:k4 p.toArray _=Data.dict A y:=d;cases X
  have G:∀{b:gU}{m:mB},c.heap.Ns b m->(Fb c.heap H8).Ns b m:=λ{b m} ⟨o,A,y,e,d,r⟩=>⟨o,A,y,f e<|Z e d,d,r⟩
  have B:K.In (Fb c.heap H8):=λb o e=>f (KX b o e) (by
   cases q:H8 b with
   |none=>rfl
   |some u=>have M:b=a:=R b (by rw[q];simp);subst M;rw[hK<|by rw[q];simp]at e;cases e)
  have hM:Mod K O (Fb c.heap H8):=⟨B,G bS,⟨Y,G g,U⟩,let⟨mc,h1,h2⟩:=C;⟨mc,G h1,h2⟩⟩
  have e0:JR P w K O (Fb c.heap H8) d5 [] c H8:=⟨rfl,hM,λb o e=>UB e,oO<|agA _ _,trivial,λb g=>absurd (show b∈([]:List gU)from g)<|by simp,E,.of_eq hg⟩
  refine tJ ((F _ B (G bS)).run d5 [] c H8 ⟨[.ref a],[]⟩ [.ref a] [.ref a] _ _ hr e0 (l c<|.ref a) (.cons H .nil) (bQ H8 S hS)) λr i h=>?_
  cases r with
  |error e=>exact(gw H8 e i h).elim
  |ok fl=>
   cases fl with
   |next=>exact aT h
   |brk=>exact aT h
   |cont=>exact aT h
   |ret u=>
    obtain⟨v,H',os,t,un,I,r',q⟩:=h;have q':v=.bl z8:=q;subst q';obtain rfl:u=fM z8:=r';refine⟨rfl,OldK.of_keep λb o e=>?_,os,t⟩
    cases q:H8 b with
    |none=>exact un.keep b o e q (by intro z;exact absurd (show b∈([]:List gU)from z)<|by simp) (by simp)
    |some u=>
     rcases S b with z|⟨ob,xs,z⟩
     .rw[q]at z;cases z
     have z2:=un.frzs b ob _ z;obtain⟨D,_⟩:=E b _ z;obtain⟨e2,_⟩:=I b _ z2;rw[e]at D;cases D;exact e2
 cases hk:K.lookup a with
 |some o=>have e:=KX a o hk;rw[J]at e;cases e;refine j (λ_=>z7) (λ_=>.inl rfl) (.inr ⟨_,p.toArray,_,hk,rfl,rfl,rfl,by rw[jG,L];exact hl,by simpa using W⟩) (λb u z=>by have T:(z7:Option HO)=zx u:=z;cases T) (λb z=>absurd H z) λz=>absurd H z
 |none=>
  refine j (λb=>if b=a then zx (.Aj {cls:=.type "list",data:=.seq p.toArray}<|.lst<|Q.map V.int)else z7) (λb=>?_) (.inl<|.inr ⟨{cls:=.type "list",data:=.seq p.toArray},ie H⟩) (λb u z=>?_) (λb z=>?_) λ_=>hk
  .by_cases g:b=a
   .exact .inr ⟨_,_,ie g⟩
   exact .inl (iC g)
  .by_cases g:b=a
   .have T:=(ie g).symm.trans z;cases T;subst g;exact⟨J,by rw[jl];exact hl,p,_,W,J⟩
   have T:=(iC g).symm.trans z;cases T
  by_cases g:b=a
  .exact g
  exact absurd (iC g) z
def aay{l:ej}{n k:Nat}{q:iF}{j:iX}{L:(aQ->Option il)->iJ->Prop}{C:iu->iJ->Prop}{d:DefRec}{K:tv->iA}{CX:iu->Hy}{sp:iu->Sp}{x:aQ}
  (hn:l.most=zx n)(N:n<=sizeLine)(J:d.params.defaults=[])(hr:Ad k d5)
  (hY:∀(w:iu)(h:iJ),C w h->(K w.params).In h)
  (F:∀(w:iu)(m:mB)(r:gU)(h:iJ),(K w.params).In h->h.Ns ap m->m d.name=zx (.ref r)->
   ∃y:nI,(∀(s:hJ)(u:il),d9 s y ⟨[u],[]⟩ [(x,u)])/\
    ∀base:iJ,(K w.params).In base->base.Ns ap m->Bs l.prog w (K w.params) m base (CX w) k r y [x] (sp w))
  (O:∀(w:iu)(H:Hp)(a:gU)(t:gY),AC t<=n->Y3 H->CO (K w.params) H a (t.map V.int)->sp w [.ref a] H (λv _=>v=.bl z8) λ_ _ _=>False)
  (U:∀(w:iu)(H:Hp)(s:hJ)(e:il)(A:hJ),CX w [] H s (λ_ _ _=>False) e A->False):
  hZ q j L C l.row.toRowW d [] (λf I'=>fL f I'):=by
 refine Att.Vk hn J λw E p m mb r o pm cd M a I' t G Y ho hd Z z Q i c X=>?_;have B:=hY w _ Y;obtain⟨y,S,D⟩:=F w m r _ B G.T.g z;exact Rl B G.T.g G.T.b G.T.builtins G.T.nolimit X Q i (kK c N) hr D S (λH P R=>O w H a t c P R) λH e A=>U w H p e A
noncomputable def uU(s:bG):Arguments:=match s with
 |.FunctionDef _ a _ _ _ _ _ _ _ _=>a
 |_=>{posonlyargs:=[],args:=[],vararg:=I,kwonlyargs:=[],kw_defaults:=[],kwarg:=I,defaults:=[]}
noncomputable def pj(s:bG):List Stmt:=match s with
 |.FunctionDef _ _ b _ _ _ _ _ _ _=>b
 |_=>[]
noncomputable def ir(s:bG):Scope:=match s with
 |.FunctionDef _ _ _ _ _ _ a _ _ _=>a
 |_=>{kind:=.function,names:=[],isGenerator:=Y,isCoroutine:=Y}
abbrev Hz:Hy:=λ_ _ _ _ _ _=>False
abbrev E0:XK:=λ_ _ _=>False
def V8{X:Cx}:Kd Hz X E0:=λ_ _ _ _ _ _ _ h=>h.elim
structure Ja(K:iA)(x qual:aQ)(st:bG)(f:gU)(fd:nI):Prop where
 ex:∃(oc:il)(od:Option gU)(kV doc pm:il)(an:Option gU)(b7 ct:il)(ax:CT),
  fd=bv x qual (uU st) (pj st) (ir st) .none kV doc pm an b7 ct/\K.lookup f=zx ⟨oc,od,.func fd,ax⟩/\cx K b7 qual=z8
 kp:bX K (.ref f)=z8
section
variable {P:iF}{w:iu}{K:iA}{a:mB}{base:iJ}
def Ja.ok{x qual:aQ}{st:bG}{f:gU}{i:nI}{N e:iX}{k:Nat}{g:Sp}(F:Ja K x qual st f i)(S:VP N e (ir st))(len:∀c U Q E,g c U Q E->AC c=AC e)
  (p:∀(d:il)(A:iB)(b:List ek)(s:hJ)(U:Hp)(c:List V)(Q:VK)(E:XK),Ad k (A.deeper<|cr qual (ir st) s.heap.objs.size f d)->g c U Q E->
   ∃t,GQ (Fu Hz P w K a base N qual (ir st) f d A b s U E).MB (pj st) t/\t {nx:=λ_ j=>Q .T2 j,rt:=Q} (qU N c) U):Bs P w K a base Hz (k+1) f i e g:=by
 obtain⟨u,v,kV,n,y,an,d,ct,r,rfl,lk,l⟩:=F.ex;refine abN lk l S len λA b s U c Q E o m=>?_;obtain⟨t,h,q⟩:=p d A b s U c Q E o m;exact⟨t,h.MB,q⟩
def Ja.binds{x qual:aQ}{st:bG}{f:gU}{i:nI}{e:iX}(F:Ja K x qual st f i)
  (h:∀(kV b d:il)(an:Option gU)(c ct:il)(g:ju),AC g=AC e->th (bv x qual (uU st) (pj st) (ir st) .none kV b d an c ct) ⟨g,[]⟩=pure (e.zip g)):Binds K i e []:=by
 obtain⟨l,m,kV,b,d,an,c,ct,k,rfl,lk,j⟩:=F.ex;exact .all<|h kV b d an c ct
def Yv{x qual:aQ}{st:bG}{f:gU}{h:il}{i an:Option gU}{g:CT}{kV b e d ct:il}(l:K.lookup f=J ⟨h,i,.func<|bv x qual (uU st) (pj st) (ir st) .none kV b e an d ct,g⟩)
  (c:cx K d qual=C)(k:bX K (.ref f)=C):Ja K x qual st f (bv x qual (uU st) (pj st) (ir st) .none kV b e an d ct):=⟨⟨h,i,kV,b,e,an,d,ct,g,rfl,l,c⟩,k⟩
end
section
variable {X:Cx}
end
def abB{A B:Prop}(h:B):if Y=C then A else B:=by rw[iC kJ];exact h
def abA{A B:Prop}(h:A):if C=C then A else B:=by rw[ie H];exact h
theorem xa(b:ek):∀(l:List (aQ×cE))(g:lI),(∀x∈l,x.2=.free->∃c,b.cells.lookup x.1=J c)->(∀x c,g.lookup x=J c->b.cells.lookup x=J c)->
  ∃cl,(forIn l g λx r=>if x.2==aJ then do let a <-tf b x.1;pure (bn ((x.1,a)::r))else pure (bn r))=(pure cl:cY (List<|aQ×gU))/\
   (∀x c,cl.lookup x=J c->b.cells.lookup x=J c)/\(∀x,(x,aJ)∈l->∃c,cl.lookup x=J c)/\∀x c,g.lookup x=J c->∃c,cl.lookup x=J c
 |[],g,_,m=>⟨g,rfl,m,λx h=>by simp at h,λx c h=>⟨c,h⟩⟩
 |(n,k)::l,g,h,m=>by
  by_cases hk:k=.free
  .subst hk;obtain⟨c,e⟩:=h (n,.free) jt H;have q:b.cells.lookup n=J c:=e
   obtain⟨cl,h1,o,p,j⟩:=xa b l ((n,c)::g) (λx f=>h x<|jx _ f) (λx d f=>by
    rw[qe]at f
    cases i:x==n with
    |true=>rw[i]at f;have:=rT i;subst this;cases f;exact q
    |false=>rw[i]at f;exact m x d f)
   refine⟨cl,?_,o,λx f=>?_,λx d f=>?_⟩
   .rw[c7];have:tf b n=pure c:=by unfold tf;rw[q]
    simp -iota only[this,pp,beq_self_eq_true,kz];exact h1
   .rcases kN.mp f with z|z
    .cases z;exact j n c (by simp[qe])
    exact p x z
   cases i:x==n
   .exact j x d (by rw[qe,i];exact f)
   have:=rT i;subst this;exact j x c (by simp[qe])
  obtain⟨cl,h1,o,p,j⟩:=xa b l g (λx f=>h x<|jx _ f) m;have i:(k==aJ)=Y:=by simpa using hk
  refine⟨cl,?_,o,λx f=>?_,j⟩
  .rw[c7];simp -iota only[i,jF,km,pp];exact h1
  rcases kN.mp f with z|z
  .cases z;exact absurd H hk
  exact p x z
def Ca(b:ek)(scope:jU)(h:∀x∈scope.names,x.2=.free->∃c,b.cells.lookup x.1=J c):
  ∃cl,closureFor scope b=pure cl/\(∀x c,cl.lookup x=J c->b.cells.lookup x=J c)/\∀x,(x,aJ)∈scope.names->∃c,cl.lookup x=J c:=by
 obtain⟨cl,h1,d,e,_⟩:=xa b scope.names [] h (λx c f=>by simp at f);refine⟨cl,?_,d,e⟩;unfold closureFor;have:(forIn scope.names ([]:List (aQ×gU)) λx r=>if x.2==aJ then do let a <-tf b x.1;pure (bn ((x.1,a)::r))else pure (bn r))=(pure cl:cY (List<|aQ×gU)):=h1
 first
  |exact(nc (· >>=λr=>pure r) this).trans (pp _ _)
  |(simp -iota only[bind_pure];exact this)
  |exact this
theorem mH:∀(b:List (aQ×cE))(n:Nat)(a:lI),bf n b a=bf n b []++a
 |[],_,_=>rfl
 |(x,k)::r,n,a=>by
  unfold bf;split
  .rw[mH r (n+1) ((x,n)::a),mH r (n+1) [(x,n)],oo];rfl
  exact mH r n a
theorem qv{x:aQ}{c:gU}:∀(a:List (aQ×cE))(n:Nat),(x,c)∈bf n a []->(x,b9)∈a
 |[],_,h=>by simp[bf]at h
 |(y,k)::r,n,h=>by
  unfold bf at h;split at h
  .rename_i hk;rw[mH]at h;rcases oE.mp h with z|z
   .exact jx _ (qv r _ z)
   cases yw.mp z;rw[rT hk];exact jt
  exact jx _ (qv r _ h)
structure Mv(cells:lI)(scope:jU)(C:gU)(h:iJ)(cl:lI):Prop where
 one:∀x c,cl.lookup x=zx c->(cells.lookup x=zx c/\scope.names.lookup x≠zx .cell)\/(C<c/\scope.names.lookup x=zx .cell/\h.IsCell c z7)
 all:∀x,(x,aJ)∈scope.names\/(x,b9)∈scope.names->∃c,cl.lookup x=zx c
 inj:∀x y c,C<c->cl.lookup x=zx c->cl.lookup y=zx c->(∀z d,cells.lookup z=zx d->d<C)->x=y
 ex:∀x c,cl.lookup x=zx c->cells.lookup x=zx c\/C<c
def UE{M:j0}{A:iB}{E:iU}{s:hJ}{scope:jU}{globals:gU}{a:ek}{cl:lI}{qual:aQ}{Q:ek->hJ->Prop}(u:∀y∈scope.names,y.2=.cell->scope.names.lookup y.1=J .cell)
  (m:∀x c,cl.lookup x=J c->a.cells.lookup x=J c)(O:∀x,(x,aJ)∈scope.names->∃c,cl.lookup x=J c)
  (B:∀k r,k.Ns s.heap.objs.size (λ_=>I)->(∀b o,s.heap.get? b=J o->k.get? b=J o)->Mv a.cells scope s.heap.objs.size k r->
   Q {scope,locals:=s.heap.objs.size,globals,cells:=r,qual,func:=I,code:=a.code,frame:=a.frame,builtins:=a.builtins} {s with heap:=k}):
  ae M A (fB scope globals cl [] qual I .none<|J a) Q E s:=by
 simp -iota only[fB,fI,kz];refine gW<|Eo ?_;refine gW<|wpAny_layCells _ (λv j i=>by cases n:j==b9<;>simp[n]) _ _ _ _ ?_;have ok:=cellsFrom_ok scope.names (s.heap.push {cls:=.type "dict",data:=.dict #[]}) (s.heap.objs.size+1) [] ⟨λ_ _ U=>(nomatch U),aV⟩ (by rw[qx];exact jw _);rw[qx]at ok;rw[show({s with heap:=s.heap.push {cls:=.type "dict",data:=.dict #[]}}:hJ).heap.objs.size=s.heap.objs.size+1 from qx ..];simp -iota only[lf];have g:∀x,(bf (s.heap.objs.size+1) scope.names cl).lookup x=((bf (s.heap.objs.size+1) scope.names []).lookup x).or (cl.lookup x):=λx=>by rw[mH,List.lookup_append]
 have f:∀x c,(bf (s.heap.objs.size+1) scope.names cl).lookup x=J c->(cl.lookup x=J c/\(bf (s.heap.objs.size+1) scope.names []).lookup x=I)\/(x,c)∈bf (s.heap.objs.size+1) scope.names []:=λx c h=>by
  rw[g]at h
  cases p:(bf (s.heap.objs.size+1) scope.names []).lookup x with
  |none=>rw[p]at h;exact .inl ⟨h,rfl⟩
  |some d=>rw[p]at h;cases h;exact .inr<|tH p
 have lo:∀{x:aQ}{c:gU},(x,c)∈bf (s.heap.objs.size+1) scope.names []->s.heap.objs.size<c:=λ{x c} h=>(ok.empty x c h).2;refine gW<|ik<|ik<|B _ _ ((Heap.Ns.new s.heap<|.type "dict").keeps<|p5 _ _) (λb o e=>p5 _ _ b o (jJ _ e)) ⟨λx c h=>?_,λx h=>?_,λx y c l h1 w t=>?_,λx c h=>?_⟩
 .rcases f x c h with⟨z,T⟩|z
  .refine .inl ⟨m x c z,λe=>?_⟩;have:=Et scope.names (s.heap.objs.size+1) []<|.inl e;rw[T]at this;cases this
  exact .inr ⟨lo z,u _ (qv _ _ z) rfl,(ok.empty x c z).1⟩
 .rcases h with h|h
  .obtain⟨c,l⟩:=O x h;rw[g,l];cases(bf (s.heap.objs.size+1) scope.names []).lookup x<;>exact⟨_,rfl⟩
  have:=Et scope.names (s.heap.objs.size+1) cl<|.inl<|u _ h rfl;exact Og.mp this
 .rcases f x c h1 with⟨z,_⟩|z
  .exact absurd (t x c<|m x c z) (IC l)
  rcases f y c w with⟨q,_⟩|q
  .exact absurd (t y c<|m y c q) (IC l)
  exact v9 ok.apart z q
 rcases f x c h with⟨z,_⟩|z
 .exact .inl (m x c z)
 exact .inr (lo z)
noncomputable def Cx.comp(X:Cx)(d:iX)(scope:jU)(cl:lI)(U:gU)(e:hJ)(c:Hp)(fp:ki)(a:iO):Cx:=
 {X with N:=d,s₀:=e,H₀:=c,env:=compEnvC scope cl U X.env,outer:=X.stack,stack:=X.stack,ex:=fp,fn:=λx=>scope.names.lookup x==J .cell,pn:=X.pn++a,xe:=λ_ _=>False}
abbrev TB:=St->Hp->(St->Hp->Prop)->Prop
def PB(X:Cx)(code:cY Unit)(t:TB):Prop:=
 ∀(a:iO)(s:hJ)(c:St)(U:Hp)(N:St->Hp->Prop),Inv X a c U s->t c U N->
  ae (ah X.prog X.w) X.A code (λ_ d=>∃b H',Inv X a b H' d/\N b H') X.xe s
def JA(X:Cx)(b:kb)(t:TT):Prop:=
 ∀(a:iO)(s:hJ)(d:St)(U:Hp)(Q:Bool->Hp->Prop),Inv X a d U s->t d U Q->
  ae (ah X.prog X.w) X.A (forIn b C λc r=>if r=C then do let ok <-isTrue c X.env (aU c X.env);pure (bn ok)else pure (bn r)) (TP X a d Q) X.xe s
noncomputable def aaB:TT:=λ_ U Q=>Q C U
section
variable {X:Cx}
def Uk:JA X [] aaB:=λa s b U Q T h=>wpAny_tests_nil ⟨U,T,h⟩
def Uj{c:ig}{t:TT}(h:PT X c t):JA X [c] t:=λa s d U Q T b=>wpAny_tests_one<|h a s d U Q T b
noncomputable def jf(e:ig)(depth:Nat)(acc:il)(a:ek):cY Unit:=
 match(bK e)[depth+1]? with
 |some c=>do
  let x <-aU c.iter a
  ce c.iter.pos
  let x <-aB c.iter a x
  let _ <-runOwn (.compStart e (depth+1) (<-b6 [x] (cH x)) acc a) a
 |none=>match e with
  |.ListComp b _ _ _=>do let _ <-call (.builtin "list.append") [acc,<-aU b a]
  |.SetComp b _ _ _=>do let v <-aU b a;ce b.pos;let _ <-call (.builtin "set.add") [acc,v]
  |_=>io "no"
def Kx(U:It)(g:TG)(n:TT)(l:TB):TB:=λd T N=>∃W:Nat->Nat->St->Hp->Prop,(∃m,W 0 m d T)/\∀i m d T,W i m d T->
 (U.stop i T/\N d T)\/(U.go i T/\∀x f,U.yld i T x f->g x d f λa j=>n a j λb h=>if b=C then l a h λe k=>∃c,c<m/\W (i+1) c e k else ∃c,c<m/\W (i+1) c a h)
def aeV(e:ig)(depth:Nat)(it f:il)(b:ek)(g:oQ)(o:(∃d a i p,e=.ListComp d a i p)\/(∃d a i p,e=.SetComp d a i p))
  (j:(bK e)[depth]?=J g)(n:g.is_async=0)(k:∀h,(bK e)[depth+1]?=J h->h.is_async=0):
  i9 e depth it f b=(do
   ce g.iter.pos
   match <-cw it with
   |none=>pure<|.done .next
   |some v=>
    dE g.target it v
    bD g.target b v
    let ok <-forIn g.ifs C λc r=>if r=C then do let ok <-isTrue c b (aU c b);pure (bn ok)else pure (bn r)
    if ok=C then jf e depth f b
    again (.compLoop e depth it f b)):=by
 rcases o with⟨d,a,i,p,rfl⟩|⟨d,a,i,p,rfl⟩
 .have l:a[depth]?=J g:=j;unfold i9 jf;simp only[clausesOf.eq_def]at j k ⊢;rw[l];simp only[n]
  cases m:a[depth+1]? with
  |none=>rfl
  |some h=>
   have:=k h m;simp only[this,xi,jF,km]
   congr 1;funext _;congr 1;funext r
   cases r with
   |none=>rfl
   |some v=>
    dsimp only
    congr 1;funext _;congr 1;funext _;congr 1;funext ok
    cases ok
    .rfl
    simp only[kz,vZ];rfl
 have l:a[depth]?=J g:=j;unfold i9 jf;simp only[clausesOf.eq_def]at j k ⊢;rw[l];simp only[n]
 cases m:a[depth+1]? with
 |none=>rfl
 |some h=>
  have:=k h m;simp only[this,xi,jF,km]
  congr 1;funext _;congr 1;funext r
  cases r with
  |none=>rfl
  |some v=>
   dsimp only
   congr 1;funext _;congr 1;funext _;congr 1;funext ok
   cases ok
   .rfl
   simp only[kz,vZ];rfl
def Sv
  (d:(∃b a c p,e=.ListComp b a c p)\/(∃b a c p,e=.SetComp b a c p))
  (h:ae (ah prog w) A ((i9 e depth it acc env).onRaise (λx=>do nk x env;theTreesLotGoes x)) Q E s):
  ae (ah prog w) (A.under<|.compLoop e depth it acc env) ((ah prog w).den<|.compLoop e depth it acc env) Q E s:=by
 rcases d with⟨b,a,c,p,rfl⟩|⟨b,a,c,p,rfl⟩
 .exact h
 exact h
def Li{e:ig}{depth:Nat}{acc:il}{c:oQ}{g:TG}{ti:TT}{tb:TB}{J:It}{y:ki}{it:gU}{tn:Nat->iJ->Prop}(cq:X.xe=λ_ _=>False)(hc:X.calm=C)
  (hl:(∃B k sc p,e=.ListComp B k sc p)\/(∃B k sc p,e=.SetComp B k sc p))(hg:(bK e)[depth]?=zx c)(ha:c.is_async=0)(l4:∀g',(bK e)[depth+1]?=zx g'->g'.is_async=0)
  (T:Turn X.prog X.w X.K c.target J y it tn)(pg:PG X c.target g)(bC:JA X c.ifs ti)(pb:PB X (jf e depth acc X.env) tb)
  {a:iO}{s:hJ}{σ:St}{H:Hp}{N:St->Hp->Prop}(I:Inv X a σ H s)(f2:∀b∈y,ur X a H b)(st:tn 0 s.heap)(h:Kx J g ti tb σ H N):
  cj (ah X.prog X.w) X.A (.compLoop e depth (.ref it) acc X.env) (λr s'=>r=.ok .next/\∃f j,Inv X a f j s'/\(∀b∈y,j b=z7)/\N f j) s:=by
 obtain⟨W,⟨m0,w0⟩,turn⟩:=h;have P:∀{j:Hp},(∀b∈y,j b=z7)->∀b∈y,ur X a j b:=λhn b v=>⟨hn b v,(f2 b v).2⟩
 have D:∀{Z:Type}{t:cY Z}{Q:Z->hJ->Prop}{E:iU}{s:hJ},ae (ah X.prog X.w) X.A t Q X.xe s->ae (ah X.prog X.w) X.A t Q E s:=λh=>qi h (λ_ _ x=>x) λ_ _ z=>by rw[cq]at z;exact z.elim
 refine codeAny_loop At (λn s'=>∃i f j,Inv X a f j s'/\tn i s'.heap/\(∀b∈y,j b=z7)/\W i n f j) (λn V hI=>?_) m0 ⟨0,σ,H,I,st,λb v=>(f2 b v).1,w0⟩;refine Sv hl ?_;refine wpAny_noted ?_;rw[aeV e depth (.ref it) acc X.env c hl hg ha l4];obtain⟨i,l,M,R,S,F,w3⟩:=hI;refine gW<|wk ?_;rcases turn i n l M w3 with⟨stop,qn⟩|⟨go,step⟩
 .refine gW (Pt (T.done X At At At hc i a V l M _ R (P F) S stop) λr s4 a'=>?_);obtain⟨hr,I4⟩:=a';subst hr;exact ik ⟨rfl,l,M,I4,F,qn⟩
 refine gW (Pt (T.item X At At At hc i a V l M _ R (P F) S go) λr s4 a'=>?_);obtain⟨u,hr,h4⟩:=a';subst hr;refine gW<|Pt h4 λ_ s5 a'=>?_;obtain⟨x,H5,I5,r5,y5,cc,gx⟩:=a';have gQ:=I5.pinned (P gx)<|T.obj _ _ cc;refine gW<|Pt (D<|pg _ s5 l H5 x u _ gQ r5 (step x H5 y5)) λ_ s6 a'=>?_;obtain⟨G,H6,I6,q6⟩:=a';refine gW<|Pt (D<|bC _ s6 G H6 _ I6 q6) λok s7 a'=>?_;obtain⟨H7,I7,Y'⟩:=a'
 have again:∀{O:hJ}{q:St}{C':Hp},Inv X (a++Bm y s5.heap) q C' O->(∃U,U<n/\W (i+1) U q C')->∃m,m<n/\∃i f j,Inv X a f j O/\tn i O.heap/\(∀b∈y,j b=z7)/\W i m f j:=λ{O q C'} L a'=>by
  obtain⟨U,hm,w8⟩:=a'
  refine⟨U,hm,i+1,q,C',L.Bn,T.keep _ _ _ cc λb v o e=>(L.pin (b,o)<|qy _ (qy _ (rz v e))).1,λb v=>?_,w8⟩;obtain⟨o,e,d⟩:=T.obj _ _ cc b v;exact(L.pin (b,o)<|qy _ (qy _ (rz v e))).2.1
 cases ok with
 |false=>rw[iC kJ]at Y';exact ik ⟨rfl,again I7 Y'⟩
 |true=>rw[ie At]at Y';simp -iota only[kz];refine gW<|Pt (D<|pb _ s7 G H7 _ I7 Y') λ_ O a'=>?_;obtain⟨q,C',L,q8⟩:=a';exact ik ⟨rfl,again L q8⟩
def aaG(d:gU)(e:TE):TB:=λc U N=>e c U λy b=>∃a,b d=J (.lst a)/\(AC a)<sizeLine/\N c (upd b d<|.lst<|a++[y])
def Us{b:ig}{a:qb}{i:jU}{p:bp}{depth:Nat}{d:gU}{j:TE}(o:a[depth+1]?=I)(m:PE X b j):PB X (jf (.ListComp b a i p) depth (.ref d) X.env) (aaG d j):=by
 intro f s k U N T h
 have l:jf (.ListComp b a i p) depth (.ref d) X.env=(do let _ <-call (.builtin "list.append") [.ref d,<-aU b X.env]):=by unfold jf;simp -iota only[clausesOf.eq_def];rw[o]
 rw[l];refine gW<|Pt (m f s k U _ T h) λu s1 Q=>?_;obtain⟨y,v,g,t,A,hd,x,q⟩:=Q;obtain⟨z,c,n,r,w,e⟩:=g.Jg hd;refine gW<|tu F.slot_list_append ⟨_,e,rfl⟩ N8 (N7 _ _) (fW d c.toArray n u<|by rw[jG];lia) ⟨e,?_⟩;refine ik ⟨k,_,g.Jj (its':=c++[u]) hd e (by simp) (r.append<|.cons t .nil) ?_,q⟩;rw[lA,vm]
 lia
def Gm{b:iF}{w:iu}{A:iB}{e:ig}{depth:Nat}{it acc:il}{d:ek}{R:gF->hJ->Prop}{s:hJ}{c:oQ}
  (q:(∃g a i p,e=.ListComp g a i p)\/(∃g a i p,e=.SetComp g a i p))(o:(bK e)[depth]?=J c)(n:c.is_async=0)
  (l:cj (ah b w) A (.compLoop e depth it acc d) R s)
  (j:∀(Q:iU)(E:iU),Q it s->ae (ah b w) A (cH it) Q E s):
  cj (ah b w) A (.compStart e depth it acc d) R s:=by
 have h:ae (ah b w) A (f3 e depth it acc d) (λfin k=>match fin with|.done f=>R (.ok f) k|.again m=>m.quiet=C/\cj (ah b w) A m R k) (notedBy (ah b w) A d λx k=>R (.error x) k) s:=by
  unfold f3;rw[o];simp only[Option.elim,n,xi,jF,km];refine gW<|vY<|wpAny_ite ?_;split
  .first
    |exact gW<|ik<|ik<|dI H l
    |exact ik<|dI H l
  exact gW (sG<|gW<|wk<|gW<|j _ _ (ik<|dI H l))
 rcases q with⟨g,a,i,p,rfl⟩|⟨g,a,i,p,rfl⟩
 .refine AM ?_;show ae _ A ((f3 (.ListComp g a i p) depth it acc d).onRaise (λx=>do nk x d;ce p0)) _ _ s;exact u3 h
 refine AM ?_;show ae _ A ((f3 (.SetComp g a i p) depth it acc d).onRaise (λx=>do nk x d;ce p0)) _ _ s;exact u3 h
noncomputable def Pd(e:TI)(g:TG)(d:TT)(c:TB):TB:=λa T N=>e a T λU b=>Kx U g d c a b N
def XO{e:ig}{depth:Nat}{b:il}{c:oQ}{w:TI}{g:TG}{u:TT}{t:TB}(L:X.xe=λ_ _=>False)(U:X.calm=z8)
  (o:(∃d a j p,e=.ListComp d a j p)\/(∃d a j p,e=.SetComp d a j p))(i:(bK e)[depth+1]?=zx c)(n:c.is_async=0)(l4:∀m,(bK e)[depth+1+1]?=zx m->m.is_async=0)
  (hs:∀x,aB c.iter X.env x=pure x)(pi:PI X c.target c.iter w)(pg:PG X c.target g)(C:JA X c.ifs u)(pb:PB X (jf e (depth+1) b X.env) t):
  PB X (jf e depth b X.env) (Pd w g u t):=by
 intro f s P H N I h
 have O:jf e depth b X.env=(do
  let x <-aU c.iter X.env
  ce c.iter.pos
  let x <-aB c.iter X.env x
  let _ <-runOwn (.compStart e (depth+1) (<-b6 [x] (cH x)) b X.env) X.env):=by
  unfold jf;rw[i]
 rw[O];refine gW<|Pt (pi f s P H _ I h) λv s1 h1=>gW<|wk<|gW<|tq (hs v)<|gW<|mU<|Pt h1 λS K M=>?_;obtain⟨it,V,Z,J,R,rfl,z,T,l,G,F⟩:=M;refine gW<|wpAny_runOwn ?_;refine Gm o i n ?_ λQ E Y=>T.self X.A 0 K Q E l Y;refine tJ (Li L U o i n l4 T pg C pb z G l F) λr W D=>?_;obtain⟨rfl,k,y,B,_,q⟩:=D;exact ik ⟨k,y,B,q⟩
end
theorem oW{a:ek}:∀{b:List (aQ×cE)}{x:aQ},b.lookup x=J .free->
  (b.map λ(n,k)=>if(k==aJ&&a.scope.kind== .function&&a.kindOf n==J .cell)then(n,b9)else(n,k)).lookup x=J .cell\/
  (b.map λ(n,k)=>if(k==aJ&&a.scope.kind== .function&&a.kindOf n==J .cell)then(n,b9)else(n,k)).lookup x=J .free
 |[],_,h=>by simp at h
 |(n,k)::r,x,h=>by
  have e:= @oW a r x;rw[jI]
  cases c:x==n with
  |true=>
   simp only[qe,c]at h;cases h;by_cases d:(aJ==aJ&&a.scope.kind== .function&&a.kindOf n==J .cell)=C
   .left;simp only[d,kz,qe,c]
   right;simp only[d,km,qe,c,jF]
  |false=>
   simp only[qe,c]at h;by_cases d:(k==aJ&&a.scope.kind== .function&&a.kindOf n==J .cell)=C
   .simp only[d,kz,qe,c];exact e h
   simp only[d,km,qe,c,jF];exact e h
theorem lg{a:ek}:∀{b:List (aQ×cE)}{x:aQ}{g:cE},
  (b.map λ(n,k)=>if(k==aJ&&a.scope.kind== .function&&a.kindOf n==J .cell)then(n,b9)else(n,k)).lookup x=J g->∃k,(x,k)∈b/\(k=g\/k=.free)
 |[],_,_,h=>by simp at h
 |(n,k)::r,x,g,h=>by
  rw[jI]at h
  cases d:x==n
  .by_cases c:(k==aJ&&a.scope.kind== .function&&a.kindOf n==J .cell)=C
   .simp only[c,kz,qe,d]at h;obtain⟨k2,h1,f⟩:=lg h;exact⟨k2,jx _ h1,f⟩
   simp only[c,km,qe,d,jF]at h;obtain⟨k2,h1,f⟩:=lg h;exact⟨k2,jx _ h1,f⟩
  have e:=rT d;subst e;by_cases c:(k==aJ&&a.scope.kind== .function&&a.kindOf x==J .cell)=C
  .refine⟨k,jt,.inr ?_⟩
   have h1:(k==aJ)=C:=by
    cases hk:(k==aJ)with
    |true=>rfl
    |false=>rw[hk]at c;simp at c
   exact rT h1
  simp only[c,km,qe,d,jF]at h;exact⟨k,jt,.inl<|by simpa using h⟩
structure B7(X:Cx)(N':iX)(scope:jU)(pre:St->St):Prop where
 cell:∀y∈scope.names,y.2=.cell->scope.names.lookup y.1=zx .cell
 kind:scope.kind=.function
 names:∀y∈scope.names,y.2=.local->scope.names.lookup y.1=zx .local
 free:∀y∈scope.names,y.2=.free->X.env.scope.names.lookup y.1=zx .cell\/X.env.scope.names.lookup y.1=zx .free
 len:∀σ:St,(pre σ).length=AC N'
 pre:∀(σ:St)(i:Nat)(v:V)(x:aQ),(pre σ)[i]?=zx (zx v)->N'[i]?=zx x->scope.names.lookup x=zx .free/\∃j:Nat,X.N[j]?=zx x/\σ[j]?=zx (zx v)
section
variable {X:Cx}
def Vc{L:iX}{scope:jU}{pre:St->St}(S:B7 X L scope pre){d:iO}{f:hJ}{H:St}{t:Hp}{C:ki}{cl:lI}{E:iJ}{t':Nat}(I:Inv X d H t f)
  (B:Mv X.env.cells scope f.heap.objs.size E cl)
  (A:∀b∈C,ur X d t b)(Q:∀b∈C,b<f.heap.objs.size)
  (N:E.Ns f.heap.objs.size (λ_=>z7))(hk:∀b o,f.heap.get? b=zx o->E.get? b=zx o):
  Inv (X.comp L scope cl f.heap.objs.size f t C d) [] (pre H) t {f with heap:=E,toks:=t'}:=by
 have F:∀b∈J2 X.stack,t b=z7:=I.He;have w:∀b,b≠X.env.locals->b∉X.fs->b∉J2 X.stack:=λb h1 a z=>(kN.mp<|I.GL b z).elim h1 a;have old:∀x c,X.env.cells.lookup x=zx c->c<f.heap.objs.size:=λx c e=>(I.cell x c e).elim λ_ z=>z.lt
 refine⟨⟨I.ok.mod,?_,I.ok.glob,I.ok.blt,jw _,λx y c h1 a=>?_,λx h=>?_,λx c q e=>?_,I.ok.hd,I.ok.frames,.inl At,λb g=>?_,
  I.bs,kK I.ok.bsz I.sz,λb o e g=>?_,λb g=>w b (A b g).2.1 (A b g).2.2.1,I.stack,F⟩,rfl,I.bare,Un.kept hk,⟨_,N,λi x v h1 a T=>?_⟩,λx c h=>?_,I.hok.fresh<|jw _,λx c h=>?_,λp V=>?_,I.hok.kept hk,S.len H⟩
 .show(gq scope X.env).kind=.function;simp[gq,S.kind]
 .rcases B.ex x c h1 with z|z
  .rcases B.ex y c a with s|s
   .exact I.ok.inj x y c z s
   exact absurd (old x c z) (IC s)
  exact B.inj x y c z h1 a old
 ·
  have Y:(gq scope X.env).names.lookup x=zx .cell\/(gq scope X.env).names.lookup x=zx .free:=h;refine B.all x ?_;rcases Y with z|z
  .obtain⟨k,h1,a⟩:=lg z;rcases a with a|a<;>subst a
   .exact .inr h1
   exact .inl h1
  obtain⟨k,h1,a⟩:=lg z;rcases a with a|a<;>(subst a;exact .inl h1)
 .rcases B.one x c e with⟨_,z⟩|⟨z,_⟩
  .exact absurd (rT q) z
  exact wm z
 .refine⟨jY<|Q b g,λx c h=>?_⟩;rcases B.ex x c h with z|z
  .exact(A b g).2.2.2.2.1 x c z
  exact qh (En (Q b g) z)
 ·
  have M:b∈C:=g;rcases(A b M).2.2.2.1 with z|z
  .exact I.ok.noex b o e z
  exact absurd (oV (jc e)<|kK I.ok.bsz z) (pz _)
 .obtain⟨q,j,P,hv⟩:=S.pre H i v x a h1;obtain⟨m,Z,R⟩:=I.loc;have G:=S.free (x,.free) (tH q) At;obtain⟨u,r,l⟩:=R j x v P hv (by rcases G with z|z;exact .inr<|.inl z;exact .inr<|.inr z);refine⟨u,r,.inr ⟨oW q,?_⟩⟩;rcases l with⟨fQ,_⟩|⟨_,c,K,W⟩
  .have J:X.env.scope.names.lookup x=zx .local:=fQ;rcases G with z|z<;>(have s:X.env.scope.names.lookup x=_:=z;rw[J]at s;cases s)
  obtain⟨U,O⟩:=B.all x<|.inl<|tH q;rcases B.one x U O with⟨this,_⟩|⟨_,z,_⟩
  .rw[K]at this;cases this;exact⟨c,O,W.keeps hk⟩
  rw[q]at z;cases z
 .rcases B.one x c h with⟨z,_⟩|⟨_,_,z⟩
  .obtain⟨v,hv⟩:=I.cell x c z;exact⟨v,hv.keeps hk⟩
  exact⟨_,z⟩
 .rcases B.ex x c h with z|z
  .exact I.freeC x c z
  exact I.hok.fresh (wm z)
 have D:p∈X.pn++d:=by simpa[Cx.comp]using V
 obtain⟨e,n,h1,a,T⟩:=I.pin p D;exact⟨hk _ _ e,n,jY<|jc e,w _ h1 a,T⟩
def HF{q:iX}{scope:jU}{a:iO}{f g:hJ}{n k:St}{i l:Hp}{j:ki}{cl:lI}{m:iJ}(T:Inv X a n i f)(h:∀b∈j,ur X a i b)
  (U:Inv (X.comp q scope cl f.heap.objs.size f i j a) [] k l g)(t:aF f.heap.objs.size g.heap m):Inv X a n l {g with heap:=m}:=by
 have K:=T.Mk (s':=g) (ch:=j) U.os U.base U.hok U.bare λb d=>⟨(h b d).2.2.2.1,(h b d).2.1,(h b d).2.2.2.2.1,(h b d).2.2.2.2.2⟩
 have r:X.env.locals<f.heap.objs.size:=T.lt;refine K.turned (it:=f.heap.objs.size) (t':=g.toks) (λb o d e=>by rw[t.2 b d];exact e) U.free (qh r) (.inr T.sz) (λx c u z=>?_) λp s z=>?_
 .obtain⟨v,o,e,_⟩:=T.cell x c u;exact absurd (jc e) (by rw[z];exact pz _)
 obtain⟨e,_⟩:=T.pin p s;exact absurd (jc e) (by rw[z];exact pz _)
def Gj(o:HO)(U:It)(g:TG)(c:TT)(b:gU->TB)(pre:St->St)(e:St)(T:Hp)(Q:VK):Prop:=
 ∀d,T d=I->Kx U g c (b d) (pre e) (upd T d o) λ_ a=>Q (.ref d) a
def acL(U:It)(g:TG)(b:TT)(a:gU->TB)(pre:St->St)(c:St)(T:Hp)(Q:VK):Prop:=Gj (.lst []) U g b a pre c T Q
def DI{e:ig}{o:HO}{l:dS}{c:oQ}{s:qb}{scope:jU}{v:iX}{pre:St->St}{g:TG}{ti:TT}{tb:gU->TB}{gC:lI}{J:It}{i:ki}{it:gU}{tn:Nat->iJ->Prop}
  (hl:(∃N k sc p,e=.ListComp N k sc p)\/∃N k sc p,e=.SetComp N k sc p)(hg:bK e=c::s)
  (S:B7 X v scope pre)(hc:X.calm=z8)(ha:c.is_async=0)(l4:∀L,s[0]?=zx L->L.is_async=0)
  (o6:∀(cl:lI)(C:gU)(t:hJ)(u:Hp)(i:ki)(a:iO),let I':=X.comp v scope cl C t u i a
   PG I' c.target g/\JA I' c.ifs ti/\∀d,PB I' (jf e 0 (.ref d) I'.env)<|tb d)
  (n8:∀x c,gC.lookup x=zx c->X.env.cells.lookup x=zx c)(m5:∀x,(x,aJ)∈scope.names->∃c,gC.lookup x=zx c)
  {a:iO}{f:hJ}{O:St}{m:Hp}{Q:VK}{E:iU}{RR:il->gU->gF->hJ->Prop}(I2:Inv X a O m f)(T:Turn X.prog X.w X.K c.target J i it tn)(aO:tn 0 f.heap)(f2:∀b∈i,ur X a m b)
  (M:Inv X a O (upd m f.heap.objs.size o) {f with heap:=f.heap.push l})
  (h:Gj o J g ti tb pre O m Q)
  (hRR:∀(d:gU)(cl:lI)(t:hJ)(u G:Hp)(σ':St)(s4:hJ),Inv X a O u t->(∀b∈i,ur X a u b)->Inv (X.comp v scope cl t.heap.objs.size t u i a) [] σ' G s4->Q (.ref d) G->RR (.ref d) t.heap.objs.size (.ok .next) s4):
  ae (ah X.prog X.w) X.A (fB scope X.env.globals gC [] X.env.qual I .none<|zx X.env) (λn H'=>
   cj (ah X.prog X.w) X.A (.compStart e 0 (.ref it) (.ref f.heap.objs.size) {n with scope:=gq scope X.env}) (RR (.ref f.heap.objs.size) n.locals) H') E {f with heap:=f.heap.push l}:=by
 have F:∀b∈i,b<f.heap.objs.size:=λb j=>by obtain⟨o,e,_⟩:=T.obj _ _ aO b j;exact jc e
 have Y:∀b∈i,ur X a (upd m f.heap.objs.size o) b:=λb j=>⟨by rw[iW<|jY<|F b j];exact(f2 b j).1,(f2 b j).2⟩
 refine UE S.cell n8 m5 λh1 cl bS eI B=>?_;have hk:∀b o,(f.heap.push l).get? b=zx o->h1.get? b=zx o:=eI;have U:∀b∈i,b<(f.heap.push l).objs.size:=λb j=>by rw[qx];exact xh<|F b j
 have Z:=Vc (t':=f.toks) S M B Y U bS hk;obtain⟨pg,bC,pb⟩:=o6 cl (f.heap.push l).objs.size {f with heap:=f.heap.push l} (upd m f.heap.objs.size o) i a;have y:tn 0 h1:=T.keep _ _ _ aO λb j o e=>hk b o<|jJ _ e;have hw:=h f.heap.objs.size<|I2.hok.fresh<|jw _
 have D:∀b∈i,ur (X.comp v scope cl (f.heap.push l).objs.size {f with heap:=f.heap.push l} (upd m f.heap.objs.size o) i a) []
   (upd m f.heap.objs.size o) b:=λb j=>by
  obtain⟨z1,z2,z3,z4,z5,z6⟩:=Y b j;refine⟨z1,jY<|U b j,λz=>(kN.mp<|M.GL b z).elim z2 z3,.inl j,λx c hx=>(B.ex x c hx).elim (z5 x c) λz=>qh<|En (U b j) z,λp hp=>z6 p<|by simpa[Cx.comp]using hp⟩
 have P:(bK e)[0]?=zx c:=by rw[hg];rfl
 refine Gm hl P ha ?_ λQ' V hq=>T.self X.A 0 _ Q' V y hq
 refine tJ (Li (X:=X.comp v scope cl (f.heap.push l).objs.size {f with heap:=f.heap.push l} (upd m f.heap.objs.size o) i a)
  (depth:=0) (acc:=.ref f.heap.objs.size) rfl hc hl P ha (λL R=>l4 L<|by rw[hg]at R;exact R) T pg bC (pb _) Z D y hw) λr s4 hr=>?_
 obtain⟨rfl,σ4,G,W,_,q⟩:=hr;exact hRR _ _ _ _ _ _ _ M Y W q
def VW(e:TI)(g:TG)(d:TT)(c:gU->TB)(pre:St->St):TE:=λa T Q=>e a T λU b=>acL U g d c pre a b Q
def EL{o:HO}{e:ig}{new:cY il}{fp:bp}{c:oQ}{i:qb}{scope:jU}{O:iX}{pre:St->St}{U:TI}{g:TG}{ti:TT}{tb:gU->TB}
  (S:B7 X O scope pre)(hc:X.calm=z8)(ha:c.is_async=0)(l4:∀G,i[0]?=J G->G.is_async=0)
  (hs:∀x,aB c.iter X.env x=pure x)(pi:PI X c.target c.iter U)
  (o6:∀(cl:lI)(C:gU)(N:hJ)(z:Hp)(fp:ki)(a:iO),let l:=X.comp O scope cl C N z fp a
   PG l c.target g/\JA l c.ifs ti/\∀d,PB l (jf e 0 (.ref d) l.env)<|tb d)
  (mk:∀(j:hJ)(Q E:iU),(∀n,(∀H',S1 X.prog X.w H' (j.heap.push n) j.heap.objs.size o)->Q (.ref j.heap.objs.size) {j with heap:=j.heap.push n})->ae (ah X.prog X.w) X.A new Q E j)
  (hl:(∃t f y p,e=.ListComp t f y p)\/∃t f y p,e=.SetComp t f y p)(M:bK e=c::i:=by rfl)(hev:aU e X.env=vl e scope X.env fp new (c.is_async !=0) (aU c.iter X.env)):
  PE X e (λk H' Q=>U k H' λJ' Y'=>Gj o J' g ti tb pre k Y' Q):=by
 intro a s k H' Q I h;obtain⟨tg,W,u,P⟩:=c;obtain rfl:P=0:=ha;obtain⟨cl,l8,n8,m5⟩:=Ca X.env scope λx hx hf=>I.ok.has x.1<|S.free x hx hf;rw[hev];refine N5 (use:=z7) (g:=⟨tg,W,u,0⟩) (gs:=i) M hs l8 S.kind S.names<|Pt (pi a s k H' _ I h) λv s1 h1=>Pt h1 λdq j h2=>?_;obtain⟨it,fp,tn,J',H2,rfl,B,T,K,Z,hw⟩:=h2;refine mk _ _ _ λn hS=>?_;refine DI (RR:=λr C=>compPost (ah X.prog X.w) X.A X.xe z7 (EP X a k Q) r C) hl M S hc H l4 o6 n8 m5 B T K Z (B.laid (t':=j.toks) (λb n q=>jJ _ q) (jw _)<|hS _) hw λd V N z D σ' s4 F ff L q=>?_;obtain⟨m,hn,_⟩:=id L.loc;exact⟨m,hn,λh' R=>⟨.ref d,D,HF F ff L R,rfl,q⟩⟩
def P7{j:ig}{c:oQ}{f:qb}{scope:jU}{k g9 l:bp}{N':iX}{pre:St->St}{wi:TI}{g:TG}{ti:TT}{tb:gU->TB}{y:aQ}{i:Nat}
  (dw:de (.ListComp j (c::f) scope k) (zx<|.Name y l) g9.line X.env=pure z8)
  (S:B7 X N' scope pre)(hc:X.calm=z8)(ha:c.is_async=0)(l4:∀g',f[0]?=zx g'->g'.is_async=0)
  (hs:∀x,aB c.iter X.env x=pure x)(pi:PI X c.target c.iter wi)(fm:PG X (.Name y l) (Ho i))
  (o6:∀(cl:lI)(C:gU)(n:hJ)(H3:Hp)(fp:ki)(a:iO),let B:=X.comp N' scope cl C n H3 fp a
   PG B c.target g/\JA B c.ifs ti/\∀d,PB B (jf (.ListComp j (c::f) scope k) 0 (.ref d) B.env)<|tb d):
  PS X (.Assign [.Name y l] (.ListComp j (c::f) scope k) g9) (WX (VW wi g ti tb pre)<|Ho i):=by
 intro a s L H D I h;obtain⟨Z,N,u,az⟩:=c;obtain rfl:az=0:=ha;obtain⟨cl,l8,n8,m5⟩:=Ca X.env scope λx F hf=>I.ok.has x.1<|S.free x F hf;rw[exec_Assign_Name_used _ _ _ _ dw];refine gW<|wk<|gW ?_;show ae _ X.A (do let _ <-vl (.ListComp j (⟨Z,N,u,0⟩::f) scope k) scope X.env _ (m4 []) z9 (aU N X.env) (zx<|bD (.Name y l) X.env)) _ _ s
 refine gW (qi (N5 (use:=zx<|bD (.Name y l) X.env) (g:=⟨Z,N,u,0⟩) (gs:=f) (Q:=λ_ E=>SP X a D .next E) At hs l8 S.kind S.names
  (Pt (pi a s L H _ I h) λv s1 h1=>Pt h1 λdq s2 h2=>?_)) (λ_ E hq=>ik<|ik hq) λ_ _ e=>e)
 obtain⟨it,fp,tn,J,H2,rfl,R,T,aO,f2,hw⟩:=h2;refine oq<|DI (RR:=λM C=>compPost (ah X.prog X.w) X.A X.xe (zx<|bD (.Name y l) X.env) (λ_ E=>SP X a D .next E) M C) (.inl ⟨_,_,_,_,rfl⟩) At S hc At l4 o6 n8 m5 R T aO f2 (R.M5 (t':=s2.toks) .nil<|by simp) hw λd cl' n H3 O σ' P r ff G q=>?_;obtain⟨m,hn,_⟩:=id G.loc;obtain⟨K,es,ep,ho,hd,hr⟩:=id hn;have V:Inv X a L O P:=HF r ff G (AL ..);have t:n.heap.objs.size≠X.env.locals:=qh r.lt;have U:n.heap.objs.size∉X.fs:=λz=>r.MV (jw _) z
 have IP:Inv X (a++[(n.heap.objs.size,K)]) L O P:=V.GN λp Y=>by
  rcases oE.mp Y with z|z
  .exact V.pin p (qy _ z)
  rcases yw.mp z with rfl
  exact⟨ho,G.free,t,U,λv z=>by rw[hd]at z;cases z⟩
 show ae _ X.A (bD (.Name y l) X.env<|.ref d) _ _ _;refine Pt (fm _ P L O (.ref d) (.ref d) _ IP rfl q) λ_ s5 a'=>?_;obtain⟨σ5,H5,I5,q5⟩:=a';have W:=I5.pin (n.heap.objs.size,K) (by simp);refine⟨m,⟨K,es,ep,W.1,hd,hr⟩,λh' br=>⟨σ5,H5,?_,q5⟩⟩;refine I5.Bn.turned (it:=n.heap.objs.size) (t':=s5.toks) (λb o hb e=>by rw[br.2 b hb];exact e) W.2.1 t (.inr r.sz) (λx c F z=>?_) λp Y z=>?_
 .obtain⟨v,o,e,_⟩:=r.cell x c F;exact absurd (jc e) (by rw[z];exact pz _)
 obtain⟨e,_⟩:=r.pin p Y;exact absurd (jc e) (by rw[z];exact pz _)
end
end L2
namespace PX
open L2
inductive OK where
 |dct|set|fn(i:Nat)|exc(c:Nat)
 deriving DecidableEq
inductive D where
 |T2|bl(b:Bool)|int(i:Int)|str(x:aQ)|tup(l:List D)|lst(l:List D)|R1(k:OK)(ks vs:List D)
mutual
noncomputable def D.hash:D->Int
 |.int i=>wf i
 |.tup l=>reduceHash<|aX<|D.Cg l
 |_=>0
noncomputable def D.Cg:List D->List Int
 |[]=>[]
 |d::l=>D.hash d::D.Cg l
end
noncomputable def ky:Key->D
 |.inl i=>.int i
 |.inr x=>.str x
def adP(K:iA)(o:dS)(U:Nat):Prop:=o.cls=.ref U/\(∀a:gU,PySem.W.KitX K (.ref a) (.ref U) λh=>h.get? a=J o)/\∀n∈["int","bool","str","tuple","list","dict"],c5 K (.ref U) (.type n)=J Y
def Ah(K:iA)(h:Option HO)(k:OK)(a c:List D)(b:List V):Prop:=
 match k with
 |.dct=>(∃kvs:List (Key×V),h=J (.dK kvs)/\a=kvs.map (λp=>ky p.1)/\b=kvs.map (·.2))\/
   (∃kvs:List (List Key×V),h=J (.dT kvs)/\a=kvs.map (λp=>.tup (p.1.map ky))/\b=kvs.map (·.2))
 |.set=>a=[]/\∃d:List (Int×V),h=J (.SS d)/\d.Perm ((D.Cg c).zip b)
 |.exc U=>(a=[]/\c=[]/\b=[])/\∃o,h=J (.Aj o<|.own 0)/\adP K o U
 |_=>False
def Ah.ex{K h k a b us}(x:Ah K h k a b us):∃o,h=J o:=by
 cases k with
 |dct=>rcases x with⟨_,e,_⟩|⟨_,e,_⟩<;>exact⟨_,e⟩
 |set=>obtain⟨_,_,e,_⟩:=x;exact⟨_,e⟩
 |exc U=>obtain⟨_,_,e,_⟩:=x;exact⟨_,e⟩
 |_=>exact x.elim
def Ah.keep{K k a b us}(x:Ah K h k a b us)(c:∀o,h=J o->h'=J o):Ah K h' k a b us:=by obtain⟨o,e⟩:=x.ex;rw[c o e,<-e];exact x
abbrev SI:=gU->Prop
def af3(K:iA)(a:gU)(c:List V):Prop:= ∃(o:dS)(b:oF)(n:Nat),K.lookup a=J o/\o.cls=.type "list"/\o.dict=I/\o.data=.seq b n/\b.size<=sizeLine/\Vals c b.toList
def EW(K:iA)(U:Hp)(O:SI)(a:gU)(b:List V):Prop:=U a=J (.tup b)/\¬O a
def FA(K:iA)(U:Hp)(O:SI)(a:gU)(b:List V):Prop:=(Rd U a (.lst b)/\¬O a)\/af3 K a b
def EW.sq{K U O a xs}(h:EW K U O a xs):FD K U a xs:=.inl (.inl h.1)
def FA.sq{K U O a xs}(h:FA K U O a xs):CO K U a xs:=h.elim (λz=>.inl z.1) .inr
def Rd.mono{a u}(h:Rd U a u)(k:∀o,U a=J o->H' a=J o):Rd H' a u:=by
 rcases h with h|⟨o,h⟩
 .exact .inl (k _ h)
 exact .inr ⟨o,k _ h⟩
def EW.mono{K U H'}{a xs}(h:EW K U O a xs)(k:∀b o,U b=J o->¬O b->H' b=J o)(c:∀b,U b≠I->O' b->O b):EW K H' O' a xs:=
 ⟨k a _ h.1 h.2,λz=>h.2<|c a (by rw[h.1];simp) z⟩
def FA.mono{K U H'}{a xs}(h:FA K U O a xs)(k:∀b o,U b=J o->¬O b->H' b=J o)(c:∀b,U b≠I->O' b->O b):FA K H' O' a xs:=by
 rcases h with⟨r,n⟩|h
 .refine .inl ⟨Rd.mono r λo e=>k a o e n,λz=>n<|c a ?_ z⟩;rcases r with r|⟨_,r⟩<;>(rw[r];simp)
 exact .inr h
mutual
def Rep(K:iA)(U:Hp)(O:SI):D->V->Prop
 |.T2,v=>v=.T2
 |.bl b,v=>v=.bl b
 |.int i,v=>v=.int i
 |.str x,v=>v=.str x
 |.tup l,v=>∃a xs,v=.ref a/\EW K U O a xs/\YP K U O l xs
 |.lst l,v=>∃a xs,v=.ref a/\FA K U O a xs/\YP K U O l xs
 |.R1 k e d,v=>∃a c,v=.ref a/\(¬O a/\Ah K (U a) k e d c)/\YP K U O d c
def YP(K:iA)(U:Hp)(O:SI):List D->List V->Prop
 |[],a=>a=[]
 |d::l,a=>∃v r,a=v::r/\Rep K U O d v/\YP K U O l r
end
mutual
theorem Rep.mono{K U H'}{O O':SI}(k:∀b o,U b=J o->¬O b->H' b=J o)(c:∀b,U b≠I->O' b->O b):∀{d:D}{v:V},Rep K U O d v->Rep K H' O' d v
 |.T2,_,h=>h
 |.bl _,_,h=>h
 |.int _,_,h=>h
 |.str _,_,h=>h
 |.tup l,_,h=>by rw[Rep]at h ⊢;obtain⟨a,f,e,s,r⟩:=h;exact⟨a,f,e,s.mono k c,YP.mono k c r⟩
 |.lst l,_,h=>by rw[Rep]at h ⊢;obtain⟨a,f,e,s,r⟩:=h;exact⟨a,f,e,s.mono k c,YP.mono k c r⟩
 |.R1 i j m,_,h=>by rw[Rep]at h ⊢;obtain⟨a,g,e,s,r⟩:=h;exact⟨a,g,e,⟨λz=>s.1<|c a (by obtain⟨o,q⟩:=s.2.ex;rw[q];simp) z,s.2.keep λo q=>k a o q s.1⟩,YP.mono k c r⟩
theorem YP.mono{K U H'}{O O':SI}(k:∀b o,U b=J o->¬O b->H' b=J o)(a:∀b,U b≠I->O' b->O b):∀{l:List D}{c:List V},YP K U O l c->YP K H' O' l c
 |[],_,h=>h
 |d::l,_,h=>by rw[YP]at h ⊢;obtain⟨v,r,e,h1,f⟩:=h;exact⟨v,r,e,Rep.mono k a h1,YP.mono k a f⟩
end
def Rep.mkInt{K U O i}:Rep K U O (.int i) (.int i):=by rw[Rep]
def Rep.GV{K U O i}:Rep K U O (.bl i) (.bl i):=by rw[Rep]
def Rep.ET{K U O}:Rep K U O .T2 .T2:=by rw[Rep]
def Rep.mkStr{K U O i}:Rep K U O (.str i) (.str i):=by rw[Rep]
def Rep.int{K U O i v}(h:Rep K U O (.int i) v):v=.int i:=by rwa [Rep]at h
def Rep.bl{K U O i v}(h:Rep K U O (.bl i) v):v=.bl i:=by rwa [Rep]at h
def Rep.T2{K U O v}(h:Rep K U O .T2 v):v=.T2:=by rwa [Rep]at h
def Rep.str{K U O i v}(h:Rep K U O (.str i) v):v=.str i:=by rwa [Rep]at h
def Rep.tup{K U O l v}(h:Rep K U O (.tup l) v):∃a b,v=.ref a/\EW K U O a b/\YP K U O l b:=by rwa [Rep]at h
def Rep.lst{K U O l v}(h:Rep K U O (.lst l) v):∃a xs,v=.ref a/\FA K U O a xs/\YP K U O l xs:=by rwa [Rep]at h
def Rep.R1{K U O k c b v}(h:Rep K U O (.R1 k c b) v):∃a d,v=.ref a/\(¬O a/\Ah K (U a) k c b d)/\YP K U O b d:=by rwa [Rep]at h
def Rep.MX{K U O k c b a us}(n: ¬O a)(h:Ah K (U a) k c b us)(r:YP K U O b us):Rep K U O (.R1 k c b) (.ref a):=by rw[Rep];exact⟨a,us,rfl,⟨n,h⟩,r⟩
def Rep.G4{K U O l a xs}(h:EW K U O a xs)(r:YP K U O l xs):Rep K U O (.tup l) (.ref a):=by rw[Rep];exact⟨a,xs,rfl,h,r⟩
def Rep.MZ{K U O l a xs}(h:FA K U O a xs)(r:YP K U O l xs):Rep K U O (.lst l) (.ref a):=by rw[Rep];exact⟨a,xs,rfl,h,r⟩
theorem YP.length{K U O}:∀{l:List D}{a:List V},YP K U O l a->AC a=AC l
 |[],a,h=>by rw[YP]at h;rw[h];rfl
 |d::l,a,h=>by rw[YP]at h;obtain⟨v,r,rfl,_,b⟩:=h;simp[YP.length b]
theorem YP.get{K U O}:∀{l:List D}{a:List V}{i:Nat}{d:D},YP K U O l a->l[i]?=J d->∃v,a[i]?=J v/\Rep K U O d v
 |[],_,_,_,_,e=>by simp at e
 |d::l,a,0,b,h,e=>by rw[YP]at h;obtain⟨v,r,rfl,h1,_⟩:=h;simp at e;subst e;exact⟨v,rfl,h1⟩
 |d::l,a,i+1,b,h,e=>by rw[YP]at h;obtain⟨v,r,rfl,_,c⟩:=h;obtain⟨w,f,g⟩:=YP.get (i:=i) c (by simpa using e);exact⟨w,by simpa using f,g⟩
def YP.append{K U O}:∀{l m:List D}{a c:List V},YP K U O l a->YP K U O m c->YP K U O (l++m) (a++c):=by
 intro g
 induction g with
 |nil=>intro _ a _ h b;rw[YP]at h;subst h;exact b
 |cons d l f=>intro _ a _ h b;rw[YP]at h;obtain⟨v,r,rfl,h1,e⟩:=h;show YP K U O (d::(l++_)) _;rw[YP];exact⟨v,_,rfl,h1,f e b⟩
def YP.one{K U O}{d:D}{v:V}(h:Rep K U O d v):YP K U O [d] [v]:=by rw[YP];exact⟨v,[],rfl,h,by rw[YP]⟩
def YP.nil{K U O}:YP K U O [] []:=by rw[YP]
def YP.cons{K U O}{l a}(h:Rep K U O d v)(h':YP K U O l a):YP K U O (d::l) (v::a):=by rw[YP];exact⟨v,a,rfl,h,h'⟩
theorem YP.take{K U O}:∀{l:List D}{a:List V}(n:Nat),YP K U O l a->YP K U O (l.take n) (a.take n)
 |_,_,0,_=>by simp[YP]
 |[],a,n+1,h=>by rw[YP]at h;subst h;simp[YP]
 |d::l,a,n+1,h=>by rw[YP]at h;obtain⟨v,r,rfl,h1,b⟩:=h;exact YP.cons h1<|YP.take n b
theorem YP.drop{K U O}:∀{l:List D}{a:List V}(n:Nat),YP K U O l a->YP K U O (l.drop n) (a.drop n)
 |_,_,0,h=>h
 |[],a,n+1,h=>by rw[YP]at h;subst h;simp[YP]
 |d::l,a,n+1,h=>by rw[YP]at h;obtain⟨v,r,rfl,h1,b⟩:=h;exact YP.drop n b
theorem YP.set{K U O}{d:D}{v:V}(hv:Rep K U O d v):∀{l:List D}{a:List V}(i:Nat),YP K U O l a->YP K U O (l.set i d) (a.set i v)
 |[],a,i,h=>by rw[YP]at h;subst h;simp[YP]
 |e::l,a,0,h=>by rw[YP]at h;obtain⟨w,r,rfl,h1,b⟩:=h;exact YP.cons hv b
 |e::l,a,i+1,h=>by rw[YP]at h;obtain⟨w,r,rfl,h1,b⟩:=h;exact YP.cons h1<|YP.set hv i b
abbrev Sl:=Option<|D×Bool
abbrev Dn:=List Sl
def X0(b:L2.St)(δ:Dn)(a:gU):Prop:= ∃(i:Nat)(d:D),δ[i]?=J (J (d,C))/\b[i]?=J (J<|V.ref a)
def Ae(K:iA)(U:Hp)(O:SI):D->gU->Prop
 |.lst l,a=>∃d,U a=J (.lst d)/\YP K U O l d
 |.R1 k e c,a=>∃b,Ah K (U a) k e c b/\YP K U O c b
 |_,_=>False
def Ae.mono{K U H'}(h:Ae K U O d a)(k:∀b o,U b=J o->¬O b->H' b=J o)(c:∀b,U b≠I->O' b->O b)(f:∀o,U a=J o->H' a=J o):Ae K H' O' d a:=by
 cases d with
 |lst l=>obtain⟨i,e,r⟩:=h;exact⟨i,f _ e,YP.mono k c r⟩
 |R1 j m n=>obtain⟨g,e,r⟩:=h;exact⟨g,e.keep f,YP.mono k c r⟩
 |_=>exact h
def Ae.rep{K U}(h:Ae K U O d a)(f: ¬O' a)(c:∀b,U b≠I->O' b->O b):Rep K U O' d (.ref a):=by
 cases d with
 |lst l=>obtain⟨g,e,r⟩:=h;rw[Rep];exact⟨a,g,rfl,.inl ⟨.inl e,f⟩,YP.mono (λb o e _=>e) c r⟩
 |R1 i j m=>obtain⟨k,e,r⟩:=h;exact Rep.MX f e<|YP.mono (λb o e _=>e) c r
 |_=>exact h.elim
def Ow:Option HO->Prop
 |none=>False
 |some (.tup _)=>False
 |_=>True
def Ow.ne{o:Option HO}(h:Ow o):o≠I:=λe=>by rw[e]at h;exact h
def Ow.up{o a:Option HO}(h:Ow o)(k:∀x,o=J x->a=J x):Ow a:=by
 cases o with
 |none=>exact h.elim
 |some x=>rw[k x H];exact h
def MW{o:Option HO}(h:o=I): ¬Ow o:=λz=>z.ne h
def Ow.nt{o:Option HO}(h:Ow o)(a:List V):o≠J (.tup a):=λe=>by rw[e]at h;exact h
def Ae.ow{K T}{O:SI}{d:D}{a:gU}(h:Ae K T O d a):Ow (T a):=by
 cases d with
 |lst l=>obtain⟨g,e,_⟩:=h;rw[e];trivial
 |R1 k b f=>
  obtain⟨c,e,_⟩:=h
  cases k with
  |dct=>rcases e with⟨_,e,_⟩|⟨_,e,_⟩<;>(rw[e];trivial)
  |set=>obtain⟨_,_,e,_⟩:=e;rw[e];trivial
  |exc U=>obtain⟨_,_,e,_⟩:=e;rw[e];trivial
  |_=>exact e.elim
 |_=>exact h.elim
structure ER(K:iA)(H:Hp)(T:SI)(σ:L2.St)(δ:Dn):Prop where
 len:(AC σ)=AC δ
 val:∀(i:Nat)(d:D),δ[i]?=zx (zx (d,z9))->∃v,σ[i]?=zx (zx v)/\Rep K H (λa=>X0 σ δ a\/T a) d v
 own:∀(i:Nat)(d:D),δ[i]?=zx (zx (d,z8))->∃a,σ[i]?=zx (zx<|V.ref a)/\Ae K H (λa=>X0 σ δ a\/T a) d a
 inj:∀(i j:Nat)(d e:D)(a:gU),δ[i]?=zx (zx (d,z8))->δ[j]?=zx (zx (e,z8))->σ[i]?=zx (zx<|V.ref a)->σ[j]?=zx (zx<|V.ref a)->i=j
 nT:∀a,X0 σ δ a->¬T a
 dom:∀a,T a->Ow (H a)
def ER.GU{K U T σ e}(E:ER K U T σ e)(h:X0 σ e a):Ow (U a):=by obtain⟨i,d,h1,f⟩:=h;obtain⟨b,c,g⟩:=E.own i d h1;rw[f]at c;cases c;exact g.ow
def ER.GO{K U T σ δ}(E:ER K U T σ δ)(h:X0 σ δ a):U a≠I:=(E.GU h).ne
def ER.mono{K U H' σ δ}(E:ER K U T σ δ)(k:∀b o,U b=J o->¬T b->H' b=J o)(f:∀b,U b≠I->T' b->T b)(hd:∀a,T' a->Ow (H' a)):ER K H' T' σ δ where
 len:=E.len
 val:=λi d h=>by obtain⟨v,h1,c⟩:=E.val i d h;exact⟨v,h1,Rep.mono (λb o e n=>k b o e λz=>n<|.inr z) (λb g z=>z.elim .inl λz=>.inr (f b g z)) c⟩
 own:=λi d h=>by obtain⟨a,h1,c⟩:=E.own i d h;exact⟨a,h1,c.mono (λb o e n=>k b o e λz=>n<|.inr z) (λb g z=>z.elim .inl λz=>.inr (f b g z)) λo e=>k a o e<|E.nT a ⟨i,d,h,h1⟩⟩
 inj:=E.inj
 nT:=λa h z=>E.nT a h<|f a (E.GO h) z
 dom:=hd
def X0.set(h:X0 σ (δ.set i<|J (d,Y)) a):X0 σ δ a:=by
 obtain⟨j,e,h1,b⟩:=h;rw[Em]at h1;split at h1
 .split at h1<;>simp at h1
 exact⟨j,e,h1,b⟩
def ER.freeze{K U T σ m}(E:ER K U T σ m){i:Nat}{d:D}{b:Bool}(h:m[i]?=J (J (d,b))):ER K U T σ (m.set i<|J (d,Y))/\∃v,σ[i]?=J (J v)/\Rep K U (λa=>X0 σ (m.set i<|J (d,Y)) a\/T a) d v:=by
 have o:i<(AC m):=(qX.mp h).1
 have p:∃v,σ[i]?=J (J v)/\Rep K U (λa=>X0 σ (m.set i<|J (d,Y)) a\/T a) d v:=by
  cases b
  .obtain⟨v,h1,l⟩:=E.val i d h;exact⟨v,h1,Rep.mono (λ_ _ e _=>e) (λb _ z=>z.elim (λz=>.inl z.set) .inr) l⟩
  obtain⟨a,h1,l⟩:=E.own i d h;refine⟨.ref a,h1,l.rep (λz=>?_) λb _ z=>z.elim (λz=>.inl z.set) .inr⟩;rcases z with⟨j,e,n,q⟩|z
  .rw[Em]at n;split at n
   .first
     |(split at n<;>simp at n)
     |simp at n
   rename_i r;exact r<|E.inj i j d e a h n h1 q
  exact E.nT a ⟨i,d,h,h1⟩ z
 refine⟨⟨by rw[tx];exact E.len,λj e c=>?_,λj e c=>?_,λj k e f a c hk h1 l=>?_,λa z=>E.nT a z.set,E.dom⟩,p⟩
 .by_cases g:i=j
  .subst g;rw[vq o]at c;cases c;exact p
  rw[sJ g]at c;obtain⟨v,h1,l⟩:=E.val j e c;exact⟨v,h1,Rep.mono (λ_ _ e _=>e) (λb _ z=>z.elim (λz=>.inl z.set) .inr) l⟩
 .by_cases g:i=j
  .subst g;rw[vq o]at c;cases c
  rw[sJ g]at c;obtain⟨a,h1,l⟩:=E.own j e c;exact⟨a,h1,l.mono (λ_ _ e _=>e) (λb _ z=>z.elim (λz=>.inl z.set) .inr) λ_ e=>e⟩
 have g1:m[j]?=J (J (e,C)):=by
  by_cases g:i=j
  .subst g;rw[vq o]at c;cases c
  rwa [sJ g]at c
 have g2:m[k]?=J (J (f,C)):=by
  by_cases g:i=k
  .subst g;rw[vq o]at hk;cases hk
  rwa [sJ g]at hk
 exact E.inj j k e f a g1 g2 h1 l
def P1(b:L2.St)(δ:Dn)(i:Nat)(a:gU):Prop:= ∃d:D,δ[i]?=J (J (d,C))/\b[i]?=J (J<|V.ref a)
structure K2(σ:L2.St)(δ:Dn)(H:Hp)(δ':Dn)(H':Hp):Prop where
 kp:∀a o,H a=zx o->¬X0 σ δ a->H' a=zx o
 owi:∀i a,P1 σ δ' i a->P1 σ δ i a
 dm:∀a,H a≠z7->H' a≠z7
def K2.ow{σ c U b f}(k:K2 σ c U b f)(a:gU)(h:X0 σ b a):X0 σ c a:=by obtain⟨i,d,h1,g⟩:=h;obtain⟨e,j,l⟩:=k.owi i a ⟨d,h1,g⟩;exact⟨i,e,j,l⟩
def K2.refl{σ a U}:K2 σ a U a U:=⟨λ_ _ e _=>e,λ_ _ z=>z,λ_ z=>z⟩
def K2.trans{σ δ δ1 δ2 U H1 b}(x:K2 σ δ U δ1 H1)(y:K2 σ δ1 H1 δ2 b):K2 σ δ U δ2 b:=
 ⟨λa o e n=>y.kp a o (x.kp a o e n) λz=>n<|x.ow a z,λi a z=>x.owi i a<|y.owi i a z,λa z=>y.dm a<|x.dm a z⟩
def K2.ext{σ b U H1}(k:∀a o,U a=J o->H1 a=J o):K2 σ b U b H1:=⟨λa o e _=>k a o e,λ_ _ z=>z,λa z=>by
 cases h:U a with
 |none=>exact absurd h z
 |some o=>rw[k a o h];simp⟩
def P1.set(h:P1 σ (δ.set i<|J (d,Y)) j a):P1 σ δ j a:=by
 obtain⟨e,h1,b⟩:=h;rw[Em]at h1;split at h1
 .split at h1<;>simp at h1
 exact⟨e,h1,b⟩
def K2.set{σ δ U i d}:K2 σ δ U (δ.set i<|J (d,Y)) U:=⟨λ_ _ e _=>e,λ_ _ z=>z.set,λ_ z=>z⟩
def N1(K:iA)(T:SI)(c:L2.St)(e:Dn)(U:Hp)(r:D×Bool)(b:Dn)(v:V)(H':Hp):Prop:=
 K2 c e U b H'/\
 match r with
 |(d,Y)=>ER K H' T c b/\Rep K H' (λa=>X0 c b a\/T a) d v
 |(d,C)=>∃p,v=.ref p/\U p=I/\ER K H' (λa=>T a\/a=p) c b/\Ae K H' (λa=>X0 c b a\/T a\/a=p) d p
abbrev F:=Dn->Option ((D×Bool)×Dn)
def tF(K:iA)(f:F):TE:=λd U Q=>∃b T r a,ER K U T d b/\f b=J (r,a)/\∀v c,N1 K T d b U r a v c->Q v c
def PX(X:Cx)(e:ig)(f:F):Prop:=PE X e<|tF X.K f
noncomputable def Kb(T:SI)(r:D×Bool)(v:V):SI:=λa=>T a\/(r.2=C/\v=.ref a)
section
variable {K:iA}{T:SI}{c:L2.St}{δ δ1 δ2:Dn}{H f g:Hp}{x y:D×Bool}{v u:V}
def N1.er(E:ER K H T c δ)(P:N1 K T c δ H x δ1 v f):ER K f (Kb T x v) c δ1:=by
 obtain⟨d,b⟩:=x
 cases b
 .refine P.2.1.mono (λ_ _ e _=>e) (λb _ z=>z.elim id λz=>absurd z.1<|by simp) λa z=>?_;rcases z with z|z
  .exact P.2.1.dom a z
  exact absurd z.1 (by simp)
 obtain⟨p,rfl,i,h,j⟩:=P.2;refine h.mono (λ_ _ e _=>e) (λb _ z=>z.elim .inl λz=>.inr (by have:=z.2;cases this;rfl)) λa z=>?_;rcases z with z|z
 .exact h.dom a (.inl z)
 have:=z.2;cases this;exact h.dom _ (.inr At)
def N1.rep(E:ER K H T c δ)(P:N1 K T c δ H x δ1 v f):ER K f T c δ1/\Rep K f (λa=>X0 c δ1 a\/T a) x.1 v:=by
 obtain⟨d,b⟩:=x
 cases b
 .exact P.2
 obtain⟨p,rfl,i,h,j⟩:=P.2;refine⟨h.mono (λ_ _ e _=>e) (λb _ z=>.inl z) λa z=>h.dom a<|.inl z,j.rep (λz=>?_) λb _ z=>z.elim .inl λz=>.inr (.inl z)⟩;rcases z with z|z
 .exact h.nT p z (.inr At)
 exact(E.dom p z).ne i
def N1.val(k:K2 c δ H δ2 g)(E:ER K g T c δ2)(r:Rep K g (λa=>X0 c δ2 a\/T a) d w):N1 K T c δ H (d,Y) δ2 w g:=⟨k,E,r⟩
end
def iG{e f:Type}{a c:e}{b d:f}(h:J (a,b)=J (c,d)):a=c/\b=d:=by cases h;exact⟨rfl,rfl⟩
noncomputable def fC(d:D):F:=λδ=>J ((d,Y),δ)
noncomputable def iM(i:Nat):F:=λδ=>match δ[i]? with
 |some (J (d,_))=>J ((d,Y),δ.set i<|J (d,Y))
 |_=>I
section
variable {X:Cx}{a b c:ig}{d:bp}{m l g:F}
def PX.imp(h:PE X e t)(k:∀j U Q,tF X.K f j U Q->t j U Q):PX X e f:=λi s j U Q T n=>h i s j U Q T<|k j U Q n
def aa2{i j}:PX X (.Constant (.bool i) j d) (fC<|.bl i):=PX.imp aa9 λo U Q h=>by obtain⟨n,T,r,f,E,e,k⟩:=h;cases e;exact k _ _ (N1.val .refl E (by first|exact Rep.mkInt|exact Rep.GV|exact Rep.ET|exact Rep.mkStr))
end
inductive F1 where
 |val(r:D×Bool)|slot(i:Nat)
noncomputable def res(a:Dn):F1->Option D
 |.val r=>J r.1
 |.slot i=>match a[i]? with
  |some (J (d,_))=>J d
  |_=>I
def jT(K:iA)(U:Hp)(O:SI)(d:D)(v:V):Prop:=Rep K U O d v\/∃a,v=.ref a/\Ae K U O d a
abbrev FO:=Dn->Option (F1×Dn)
def Cp(K:iA)(T:SI)(b:L2.St)(d:Dn)(U:Hp)(o:F1)(a:Dn)(v:V)(c:Hp):Prop:=
 match o with
 |.val r=>N1 K T b d U r a v c
 |.slot i=>K2 b d U a c/\ER K c T b a/\b[i]?=J (J v)
def CQ(T:SI)(o:F1)(v:V):SI:=match o with
 |.val r=>Kb T r v
 |.slot _=>T
def tO(K:iA)(f:FO):TE:=λd U Q=>∃b T o a,ER K U T d b/\f b=J (o,a)/\∀v c,Cp K T d b U o a v c->Q v c
def PO(X:Cx)(e:ig)(f:FO):Prop:=PE X e<|tO X.K f
noncomputable def hC(f:F):FO:=λδ=>(f δ).bind λp=>J (.val p.1,p.2)
noncomputable def gR(i:Nat):FO:=λδ=>match δ[i]? with
 |some (J _)=>J (.slot i,δ)
 |_=>I
def PE.imp'(h:PE X e t)(k:∀b U Q,d b U Q->t b U Q):PE X e d:=λa s b U Q T c=>h a s b U Q T<|k b U Q c
section
variable {X:Cx}{a:bp}
def PX.po(h:PX X e f):PO X e (hC f):=PE.imp' h λj U Q g=>by
 obtain⟨c,T,o,i,E,e,k⟩:=g;unfold hC at e
 cases h1:f c with
 |none=>rw[h1]at e;cases e
 |some p=>obtain⟨r,b⟩:=p;rw[h1]at e;obtain⟨rfl,rfl⟩:=iG e;exact⟨c,T,r,b,E,h1,λv d P=>k v d P⟩
end
structure Ops(K:iA)(T:SI)(σ:L2.St)(δ:Dn)(H:Hp)(os:List F1)(vs:List V)(δ':Dn)(H':Hp)(T':SI):Prop where
 len:os.length=AC vs
 keep:K2 σ δ H δ' H'
 er:ER K H' T' σ δ'
 tt:∀a,T a->T' a
 val:∀(j:Nat)(d:D)(v:V),os[j]?=zx (.val (d,z9))->vs[j]?=zx v->Rep K H' (λa=>X0 σ δ' a\/T a) d v
 tmp:∀(j:Nat)(d:D)(v:V),os[j]?=zx (.val (d,z8))->vs[j]?=zx v->∃p,v=.ref p/\T' p/\H p=z7/\Ae K H' (λa=>X0 σ δ' a\/T a) d p
 slt:∀(j i:Nat)(v:V),os[j]?=zx (.slot i)->vs[j]?=zx v->σ[i]?=zx (zx v)
section
variable {K:iA}{T T':SI}{b:L2.St}{δ a δ2:Dn}{H H' e:Hp}{os:List F1}{c:List V}{o:F1}{v:V}
def Ops.nil(E:ER K H T b δ):Ops K T b δ H [] [] δ H T:=⟨rfl,.refl,E,λ_ z=>z,λj d v h=>by simp at h,λj d v h=>by simp at h,λj i v h=>by simp at h⟩
def Cp.keep(P:Cp K T b δ H o a v H'):K2 b δ H a H':=by
 cases o with
 |val r=>exact P.1
 |slot i=>exact P.1
def Cp.er(E:ER K H T b δ)(P:Cp K T b δ H o a v H'):ER K H' (CQ T o v) b a:=by
 cases o with
 |val r=>exact N1.er E P
 |slot i=>exact P.2.1
end
def Gen(K:iA)(U:Hp)(O:SI)(z:D×Bool)(Q:VK):Prop:=
 match z with
 |(d,Y)=>∀w b,(∀a o,U a=J o->b a=J o)->Rep K b O d w->Q w b
 |(d,C)=>∀p b,U p=I->(∀a o,U a=J o->b a=J o)->Ae K b (λa=>O a\/a=p) d p->Q (.ref p) b
section
variable {K:iA}{T s:SI}{f:L2.St}{δ δ1 c δ2:Dn}{H t H' h:Hp}{os:List F1}{m:List V}{o:F1}{v:V}{z:D×Bool}{Q:VK}
def Ops.cons(E:ER K H T f δ)(P:Cp K T f δ H o δ1 v t)(B:Ops K (CQ T o v) f δ1 t os m δ2 h s):Ops K T f δ H (o::os) (v::m) δ2 h s:=by
 have U:=P.er E;have y:=B.keep.kp;have A:=B.keep.ow
 have u:∀a,T a->CQ T o v a:=λa z=>by
  cases o with
  |val r=>exact .inl z
  |slot i=>exact z
 refine⟨by simp[B.len],P.keep.trans B.keep,B.er,λa z=>B.tt a<|u a z,λj d w h1 g=>?_,λj d w h1 g=>?_,λj i w h1 g=>?_⟩
 .cases j with
  |zero=>simp at h1 g;subst h1;subst g;have q:N1 K T f δ H (d,Y) δ1 v t:=P;exact Rep.mono (λb k e n=>y b k e λz=>n<|.inl z) (λb _ z=>z.elim (λz=>bj<|A b z) bq) (q.rep E).2
  |succ j=>exact Rep.mono (λ_ _ e _=>e) (λb _ z=>z.elim bj λz=>bq<|u b z)<|B.val j d w (by simpa using h1) (by simpa using g)
 .cases j with
  |zero=>simp at h1 g;subst h1;subst g;have q:N1 K T f δ H (d,C) δ1 v t:=P;obtain⟨p,rfl,x,L,ok⟩:=q.2;have l:CQ T (.val (d,C)) (V.ref p) p:=.inr ⟨rfl,rfl⟩;refine⟨p,rfl,B.tt p l,x,ok.mono (λb k e n=>y b k e λz=>n<|.inl z) (λb _ z=>z.elim (λz=>bj<|A b z) λz=>bq<|bj z) λk e=>y p k e λz=>U.nT p z l⟩
  |succ j=>
   obtain⟨p,rfl,l,x,ok⟩:=B.tmp j d w (by simpa using h1) (by simpa using g);refine⟨p,rfl,l,?_,ok.mono (λ_ _ e _=>e) (λb _ z=>z.elim bj λz=>bq<|u b z) λ_ e=>e⟩
   cases O:H p with
   |none=>rfl
   |some k=>exact absurd x<|P.keep.dm p (by rw[O];simp)
 cases j with
 |zero=>simp at h1 g;subst h1;subst g;exact P.2.2
 |succ j=>exact B.slt j i w (by simpa using h1) (by simpa using g)
def Ops.view(B:Ops K T f δ H os m c H' s){j:Nat}{d:D}(h1:os[j]?=J o)(n:m[j]?=J v)(g:res c o=J d):jT K H' (λa=>X0 f c a\/T a) d v:=by
 cases o with
 |val r=>
  obtain⟨e,b⟩:=r;have hd:e=d:=kD g;subst hd
  cases b
  .exact .inl<|B.val j e v h1 n
  obtain⟨p,rfl,_,_,ok⟩:=B.tmp j e v h1 n;exact .inr ⟨p,rfl,ok⟩
 |slot i=>
  have x:=B.slt j i v h1 n;unfold res at g;dsimp only at g
  cases l:c[i]? with
  |none=>rw[l]at g;cases g
  |some q=>
   cases q with
   |none=>rw[l]at g;cases g
   |some p=>
    obtain⟨e,b⟩:=p;rw[l]at g;have hd:e=d:=kD g;subst hd
    cases b
    .obtain⟨w,k,u⟩:=B.er.val i e l;rw[x]at k;cases k;exact .inl<|Rep.mono (λ_ _ e _=>e) (λb _ z=>z.elim bj λz=>bq<|B.tt b z) u
    obtain⟨a,k,u⟩:=B.er.own i e l;rw[x]at k;cases k;exact .inr ⟨a,rfl,u.mono (λ_ _ e _=>e) (λb _ z=>z.elim bj λz=>bq<|B.tt b z) λ_ e=>e⟩
def Ops.done(B:Ops K T f δ H os m c H' s)(k:∀v h,N1 K T f δ H z c v h->Q v h):Gen K H' (λa=>X0 f c a\/T a) z Q:=by
 obtain⟨d,b⟩:=z;have i:∀{h:Hp},(∀a o,H' a=J o->h a=J o)->∀a,T a->Ow (h a):=λ{h} g a z=>(B.er.dom a<|B.tt a z).up<|g a
 cases b
 .intro w h g r;exact k w h ⟨B.keep.trans<|.ext g,B.er.mono (λb o e _=>g b o e) (λb _ z=>B.tt b z)<|i g,r⟩
 intro p h l g ok
 have j:H p=I:=by
  cases n:H p with
  |none=>rfl
  |some u=>exact absurd l<|B.keep.dm p (by rw[n];simp)
 refine k (.ref p) h ⟨B.keep.trans<|.ext g,p,rfl,j,B.er.mono (λb o e _=>g b o e) (λb q z=>z.elim (B.tt b) λz=>absurd (z▸l) q) λa z=>?_,ok.mono (λ_ _ e _=>e) (λb _ z=>?_) λ_ e=>e⟩
 .rcases z with z|z
  .exact i g a z
  subst z;exact ok.ow
 rcases z with z|z|z
 .exact bj (bj z)
 .exact bj (bq z)
 exact bq z
def Gen.int(g:Gen K H O (.int i,Y) Q):Q (.int i) H:=g _ H (λ_ _ e=>e) Rep.mkInt
def Gen.bl(g:Gen K H O (.bl i,Y) Q):Q (.bl i) H:=g _ H (λ_ _ e=>e) Rep.GV
def lW{H:Hp}{p:gU}{o:HO}(b:H p=I):∀a u,H a=J u->upd H p o a=J u:=λa u e=>by rw[iW (by intro z;subst z;rw[e]at b;cases b)];exact e
def Gen.lst{O:SI}{l:List D}{xs:List V}{p:gU}(g:Gen K H O (.lst l,C) Q)(a:H p=I)(r:YP K H O l xs):Q (.ref p) (upd H p<|.lst xs):=
 g p _ a (lW a) ⟨xs,iQ,YP.mono (λb o e _=>lW a b o e) (λb d z=>z.elim id λz=>absurd (z▸a) d) r⟩
def Gen.tup(g:Gen K H O (.tup l,Y) Q)(a:H p=I)(np: ¬O p)(r:YP K H O l xs):Q (.ref p) (upd H p<|.tup xs):=
 g _ _ (lW a) (Rep.G4 ⟨iQ,np⟩<|YP.mono (λb o e _=>lW a b o e) (λb d z=>z) r)
def Ops.np(B:Ops K T f δ H os m c H' s)(a: ¬Ow (H' p)): ¬(X0 f c p\/T p):=λz=>a<|z.elim (λz=>B.er.GU z) λz=>B.er.dom p<|B.tt p z
end
def pe(g:D->Option (D×Bool))(a:FO):F:=λb=>(a b).bind λp=>(res p.2 p.1).bind λx=>(g x).bind λz=>J (z,p.2)
def hU(g:D->D->Option (D×Bool))(fa fb:FO):F:=λδ=>(fa δ).bind λp=>(fb p.2).bind λq=>(res q.2 p.1).bind λx=>(res q.2 q.1).bind λy=>(g x y).bind λz=>J (z,q.2)
noncomputable def kd:List FO->Dn->Option (List F1×Dn)
 |[],a=>J ([],a)
 |f::fs,a=>(f a).bind λp=>(kd fs p.2).bind λq=>J (p.1::q.1,q.2)
def uX(a:Dn):List F1->Option (List D)
 |[]=>J []
 |o::os=>(res a o).bind λd=>(uX a os).bind λl=>J (d::l)
def iw(g:List D->Option (D×Bool))(fs:List FO):F:=λδ=>(kd fs δ).bind λp=>(uX p.2 p.1).bind λds=>(g ds).bind λz=>J (z,p.2)
def tA(K:iA)(fs:List FO):TA:=λe U Q=>∃b T os a,ER K U T e b/\kd fs b=J (os,a)/\∀d c f,Ops K T e b U os d a c f->Q d c
section
variable {X:Cx}{e a b:ig}{m:kb}{i n:FO}{fs:List FO}{c:bp}
def gS{d g:Type}{x:Option d}{f:d->Option g}{b:g}(h:x.bind f=J b):∃a,x=J a/\f a=J b:=by
 cases x with
 |none=>cases h
 |some a=>exact⟨a,rfl,h⟩
def adN(K:iA)(r:V->Hp->VK->Prop)(g:D->Option (D×Bool)):Prop:=
 ∀x z v U (O:SI) (Q:VK),(∀p,¬Ow (U p)->¬O p)->jT K U O x v->g x=J z->Gen K U O z Q->r v U Q
def Y1(K:iA)(r:R2)(g:D->D->Option (D×Bool)):Prop:=
 ∀x y z v u U (O:SI) (Q:VK),(∀p,¬Ow (U p)->¬O p)->jT K U O x v->jT K U O y u->g x y=J z->Gen K U O z Q->r v u U Q
def adM(K:iA)(r:List V->Hp->VK->Prop)(g:List D->Option (D×Bool)):Prop:=
 ∀ds z f U (O:SI) (Q:VK),(∀p,¬Ow (U p)->¬O p)->AC ds=AC f->(∀(j:Nat) d v,ds[j]?=J d->f[j]?=J v->jT K U O d v)->g ds=J z->Gen K U O z Q->r f U Q
def Xo{r:V->Hp->VK->Prop}{g:D->Option (D×Bool)}(h:PE X e (tUn r<|tO X.K i))(u:adN X.K r g):PX X e (pe g i):=PX.imp h λN O Q w=>by obtain⟨y,T,U,A,E,e,k⟩:=w;obtain⟨⟨o,d⟩,h1,e⟩:=gS e;obtain⟨x,q,e⟩:=gS e;obtain⟨z,s,e⟩:=gS e;obtain⟨rfl,rfl⟩:=iG e;refine⟨y,T,o,d,E,h1,λv l f=>?_⟩;have B:=Ops.cons E f<|Ops.nil<|f.er E;exact u x z v l _ Q (λp t=>B.np t) (B.view (j:=0) H H q) s (B.done k)
def Xn{r:R2}{g:D->D->Option (D×Bool)}(h:PE X e (M0 r (tO X.K i)<|tO X.K n))(L:Y1 X.K r g):PX X e (hU g i n):=PX.imp h λY H Q O=>by obtain⟨J,T,U,M,E,e,k⟩:=O;obtain⟨⟨o,d⟩,h1,e⟩:=gS e;obtain⟨⟨G,l⟩,t,e⟩:=gS e;obtain⟨x,w,e⟩:=gS e;obtain⟨y,A,e⟩:=gS e;obtain⟨z,C,e⟩:=gS e;obtain⟨rfl,rfl⟩:=iG e;refine⟨J,T,o,d,E,h1,λv N f=>⟨d,CQ T o v,G,l,f.er E,t,λu s q=>?_⟩⟩;have B:=Ops.cons E f<|Ops.cons (f.er E) q<|Ops.nil<|q.er<|f.er E;exact L x y z v u s _ Q (λp I=>B.np I) (B.view (j:=0) At At w) (B.view (j:=1) At At A) C (B.done k)
def An:PA X [] (tA X.K []):=λc d s g U Q O h=>by obtain⟨j,T,os,f,E,e,k⟩:=h;obtain⟨rfl,rfl⟩:=iG e;exact wJ c d s g U Q O<|k [] U T<|Ops.nil E
def tX(t:PO X e i)(u:PA X m (tA X.K fs))(w:ai (e::m) X.env=(Y,aU e X.env)::ai m X.env):PA X (e::m) (tA X.K (i::fs)):=λc d s z O Q N h=>by obtain⟨x,T,os,y,E,e,k⟩:=h;unfold kd at e;obtain⟨⟨o,f⟩,h1,e⟩:=gS e;obtain⟨⟨g,j⟩,r,e⟩:=gS e;obtain⟨rfl,rfl⟩:=iG e;exact qk t u w c d s z O Q N ⟨x,T,o,f,E,h1,λv A l=>⟨f,CQ T o v,g,j,l.er E,r,λU p q B=>k _ p q (Ops.cons E l B)⟩⟩
def pG{k:Dn}:∀{os:List F1}{f:List D},uX k os=J f->AC f=os.length/\∀(j:Nat) d,f[j]?=J d->∃o,os[j]?=J o/\res k o=J d:=by
 intro t
 induction t with
 |nil=>intro f h;cases h;exact⟨rfl,λj d h=>by simp at h⟩
 |cons o os s=>
  intro f h;unfold uX at h;obtain⟨d,h1,h⟩:=gS h;obtain⟨l,p,h⟩:=gS h;cases h;obtain⟨q,r⟩:=s p;refine⟨by simp[q],λj e g=>?_⟩
  cases j with
  |zero=>simp at g;subst g;exact⟨o,rfl,h1⟩
  |succ j=>obtain⟨u,v,w⟩:=r j e (by simpa using g);exact⟨u,by simpa using v,w⟩
def T9{r:List V->Hp->VK->Prop}{g:List D->Option (D×Bool)}(h:PE X e (MR r<|tA X.K fs))(C:adM X.K r g):PX X e (iw g fs):=PX.imp h λN H Q I=>by obtain⟨O,T,M,G,E,e,k⟩:=I;obtain⟨⟨os,l⟩,h1,e⟩:=gS e;obtain⟨s,t,e⟩:=gS e;obtain⟨z,u,e⟩:=gS e;obtain⟨rfl,rfl⟩:=iG e;obtain⟨w,x⟩:=pG t;refine⟨O,T,os,l,E,h1,λL q U B=>?_⟩;refine C s z L q _ Q (λp A=>B.np A) (w.trans B.len) (λj d v hd hv=>?_) u (B.done k);obtain⟨o,y,f⟩:=x j d hd;exact B.view y hv f
end
open PySem.SeqAt
mutual
noncomputable def D.Q2:D->D->Bool
 |.T2,.T2=>C
 |.bl a,.bl b=>a==b
 |.bl a,.int b=>(if a then 1 else 0)==b
 |.int a,.bl b=>a==(if b then 1 else 0)
 |.int a,.int b=>a==b
 |.str a,.str b=>a==b
 |.tup l,.tup m=>D.K3 l m
 |.lst l,.lst m=>D.K3 l m
 |.R1 _ _ _,.R1 _ _ _=>C
 |_,_=>Y
noncomputable def D.K3:List D->List D->Bool
 |[],[]=>C
 |a::l,b::m=>D.Q2 a b&&D.K3 l m
 |_,_=>Y
end
mutual
noncomputable def D.dep:D->Nat
 |.tup l=>D.P2 l+1
 |.lst l=>D.P2 l+1
 |.R1 _ _ _=>20000
 |_=>0
noncomputable def D.P2:List D->Nat
 |[]=>0
 |d::l=>max (D.dep d)<|D.P2 l
end
mutual
theorem D.Br:∀d:D,D.Q2 d d=C
 |.T2=>rfl
 |.bl a=>by simp[D.Q2]
 |.int a=>by simp[D.Q2]
 |.str a=>by simp[D.Q2]
 |.tup l=>by rw[D.Q2];exact D.Cv l
 |.lst l=>by rw[D.Q2];exact D.Cv l
 |.R1 _ _ _=>by rw[D.Q2]
theorem D.Cv:∀l:List D,D.K3 l l=C
 |[]=>rfl
 |d::l=>by rw[D.K3,D.Br d,D.Cv l];rfl
end
theorem D.Bu{d:D}:∀{l:List D}{j:Nat},l[j]?=J d->d.dep<=D.P2 l
 |[],j,h=>by simp at h
 |e::l,0,h=>by simp at h;subst h;rw[D.P2];exact Nat.le_max_left _ _
 |e::l,j+1,h=>by rw[D.P2];exact kK (D.Bu<|by simpa using h)<|Nat.le_max_right _ _
def zY(l m:List D)(j:Nat):Bool:=match l[j]?,m[j]? with
 |some d,J e=>D.Q2 d e
 |_,_=>C
theorem zr:∀l m:List D,((am<|min (AC l)<|AC m).all (zY l m)&&(AC l)==AC m)=D.K3 l m
 |[],[]=>rfl
 |[],e::m=>by simp[D.K3]
 |d::l,[]=>by simp[D.K3]
 |d::l,e::m=>by
  rw[D.K3,<-zr l m];simp only[kG,Nat.succ_min_succ,c4,vX,rg,rR];have a:zY (d::l) (e::m) 0=D.Q2 d e:=rfl;have h1:(λx=>zY (d::l) (e::m)<|Nat.succ x)=zY l m:=by funext x;simp[zY]
  rw[a];simp only[h1,eV]
  congr 2
  simp
section
variable {X:Cx}{pins:iO}{σ:L2.St}{H:Hp}{s:hJ}
def lM(h:jT X.K H O (.tup l) v):∃a b,v=.ref a/\FD X.K H a b/\YP X.K H O l b:=by
 rcases h with h|⟨a,rfl,h⟩
 .obtain⟨a,b,e,q,r⟩:=h.tup;exact⟨a,b,e,q.sq,r⟩
 exact h.elim
def kL(h:jT X.K H O (.lst l) v):∃a b,v=.ref a/\CO X.K H a b/\YP X.K H O l b:=by
 rcases h with h|⟨a,rfl,h⟩
 .obtain⟨a,b,e,q,r⟩:=h.lst;exact⟨a,b,e,q.sq,r⟩
 obtain⟨b,e,r⟩:=h;exact⟨a,b,rfl,.inl<|.inl e,r⟩
def YP.views{O:SI}{l:List D}{b:List V}(r:YP X.K H O l b){j:Nat}{d:D}{v:V}(h1:l[j]?=J d)(c:b[j]?=J v):Rep X.K H O d v:=by obtain⟨w,a,e⟩:=r.get h1;rw[c]at a;cases a;exact e
def Qt(T:Inv X pins σ H s)(h:Ah X.K (H a) k l i us):∃o,s.heap.get? a=J o/\(o.cls=.type "dict"\/o.cls=.type "set"\/∃U,o.cls=.ref U):=by
 cases k with
 |dct=>
  rcases h with⟨b,e,_⟩|⟨b,e,_⟩
  .obtain⟨_,_,i,_,o,d,g,h1,c,_⟩:=(show S1 X.prog X.w H s.heap a (.dK b)from T.hok a _ e)
   exact⟨o,h1,.inl c.1⟩
  obtain⟨_,_,m,_,o,d,g,h1,c,_⟩:=(show S1 X.prog X.w H s.heap a (.dT b)from T.hok a _ e)
  exact⟨o,h1,.inl c.1⟩
 |set=>
  obtain⟨_,j,e,_⟩:=h;obtain⟨d,n,t,h1,_⟩:=(show S1 X.prog X.w H s.heap a (.SS j)from T.hok a _ e)
  exact⟨_,h1,.inr<|.inl At⟩
 |exc U=>
  obtain⟨_,o,e,h1,_⟩:=h;obtain⟨f,_⟩:=(show S1 X.prog X.w H s.heap a (.Aj o<|.own 0)from T.hok a _ e)
  exact⟨o,f,.inr<|.inr ⟨U,h1⟩⟩
 |_=>exact h.elim
def Gp(U:Inv X pins σ H s)(h1:FD X.K H a xs)(f:CO X.K H a k):False:=by obtain⟨g,_,⟨o,e,c,_⟩,_⟩:=U.tuple h1;obtain⟨h,_,⟨j,i,d,b,_⟩,_⟩:=U.list f;rw[e]at d;cases d;rw[c]at b;exact absurd b (by simp)
def Ut(T:Inv X pins σ H s)(h1:FD X.K H a xs)(f:Ah X.K (H a) k h j us):False:=by obtain⟨g,_,⟨o,e,c,_⟩,_⟩:=T.tuple h1;obtain⟨i,d,b⟩:=Qt T f;rw[e]at d;cases d;rw[c]at b;rcases b with b|b|⟨U,b⟩<;>exact absurd b (by simp)
def Uu(T:Inv X pins σ H s)(h1:CO X.K H a xs)(f:Ah X.K (H a) k h j us):False:=by obtain⟨g,_,⟨o,n,e,c,_⟩,_⟩:=T.list h1;obtain⟨i,d,b⟩:=Qt T f;rw[e]at d;cases d;rw[c]at b;rcases b with b|b|⟨U,b⟩<;>exact absurd b (by simp)
mutual
theorem Rep.inj(U:Inv X pins σ H s):∀{d e:D}{v:V},d.dep<20000->Rep X.K H O d v->Rep X.K H u e v->d=e
 |.T2,e,v,i,h,c=>by
  have:=h.T2;subst this
  cases e with
  |T2=>rfl
  |bl b=>have:=c.bl;cases this
  |int b=>have:=c.int;cases this
  |str b=>have:=c.str;cases this
  |tup m=>obtain⟨a,f,z,_⟩:=c.tup;cases z
  |lst m=>obtain⟨a,f,z,_⟩:=c.lst;cases z
  |R1 m n o=>obtain⟨a,f,z,_⟩:=c.R1;cases z
 |.bl b,e,v,i,h,c=>by
  have:=h.bl;subst this
  cases e with
  |T2=>have:=c.T2;cases this
  |bl b=>have:=c.bl;cases this;rfl
  |int b=>have:=c.int;cases this
  |str b=>have:=c.str;cases this
  |tup m=>obtain⟨a,f,z,_⟩:=c.tup;cases z
  |lst m=>obtain⟨a,f,z,_⟩:=c.lst;cases z
  |R1 m n o=>obtain⟨a,f,z,_⟩:=c.R1;cases z
 |.int b,e,v,i,h,c=>by
  have:=h.int;subst this
  cases e with
  |T2=>have:=c.T2;cases this
  |bl b=>have:=c.bl;cases this
  |int b=>have:=c.int;cases this;rfl
  |str b=>have:=c.str;cases this
  |tup m=>obtain⟨a,f,z,_⟩:=c.tup;cases z
  |lst m=>obtain⟨a,f,z,_⟩:=c.lst;cases z
  |R1 m n o=>obtain⟨a,f,z,_⟩:=c.R1;cases z
 |.str b,e,v,i,h,c=>by
  have:=h.str;subst this
  cases e with
  |T2=>have:=c.T2;cases this
  |bl b=>have:=c.bl;cases this
  |int b=>have:=c.int;cases this
  |str b=>have:=c.str;cases this;rfl
  |tup m=>obtain⟨a,f,z,_⟩:=c.tup;cases z
  |lst m=>obtain⟨a,f,z,_⟩:=c.lst;cases z
  |R1 m n o=>obtain⟨a,f,z,_⟩:=c.R1;cases z
 |.tup l,e,v,i,h,c=>by
  rw[D.dep]at i;obtain⟨a,f,rfl,q,r⟩:=h.tup
  cases e with
  |T2=>have:=c.T2;cases this
  |bl b=>have:=c.bl;cases this
  |int b=>have:=c.int;cases this
  |str b=>have:=c.str;cases this
  |tup m=>obtain⟨k,p,z,g,j⟩:=c.tup;cases z;have:=U.Bt q.sq g.sq;subst this;rw[YP.inj U (by lia) r j]
  |lst m=>obtain⟨k,p,z,g,j⟩:=c.lst;cases z;exact(Gp U q.sq g.sq).elim
  |R1 m n o=>obtain⟨k,t,z,g,j⟩:=c.R1;cases z;exact(Ut U q.sq g.2).elim
 |.lst l,e,v,i,h,c=>by
  rw[D.dep]at i;obtain⟨a,f,rfl,q,r⟩:=h.lst
  cases e with
  |T2=>have:=c.T2;cases this
  |bl b=>have:=c.bl;cases this
  |int b=>have:=c.int;cases this
  |str b=>have:=c.str;cases this
  |tup m=>obtain⟨k,p,z,g,j⟩:=c.tup;cases z;exact(Gp U g.sq q.sq).elim
  |lst m=>obtain⟨k,p,z,g,j⟩:=c.lst;cases z;have:=U.Cc q.sq g.sq;subst this;rw[YP.inj U (by lia) r j]
  |R1 m n o=>obtain⟨k,t,z,g,j⟩:=c.R1;cases z;exact(Uu U q.sq g.2).elim
 |.R1 _ _ _,e,v,i,h,c=>by rw[D.dep]at i;lia
theorem YP.inj(U:Inv X pins σ H s){O c:SI}:∀{l m:List D}{b:List V},D.P2 l<20000->YP X.K H O l b->YP X.K H c m b->l=m
 |[],m,b,_,h,a=>by
  rw[YP]at h;subst h
  cases m with
  |nil=>rfl
  |cons e m=>rw[YP]at a;obtain⟨_,_,z,_⟩:=a;cases z
 |d::l,m,b,j,h,a=>by
  rw[D.P2]at j;rw[YP]at h;obtain⟨v,r,rfl,h1,f⟩:=h
  cases m with
  |nil=>rw[YP]at a;cases a
  |cons e m=>rw[YP]at a;obtain⟨n,k,z,g,i⟩:=a;cases z;rw[Rep.inj U (by lia) h1 g,YP.inj U (by lia) f i]
end
def yc(h:jT X.K H O d v)(hd:d.dep=0)(nt:∀l,d≠ .tup l)(b:∀l,d≠ .lst l):Rep X.K H O d v:=by
 rcases h with h|⟨a,rfl,h⟩
 .exact h
 cases d with
 |lst l=>exact absurd At<|b l
 |R1 _ _ _=>rw[D.dep]at hd;lia
 |_=>exact h.elim
inductive Sh(X:Cx)(H:Hp)(s:hJ)(O:SI):D->V->il->Prop
 |T2:Sh X H s O .T2 .T2 .none
 |bl (b:Bool):Sh X H s O (.bl b) (.bl b) (.bool b)
 |int (i:Int) (t:m7):Sh X H s O (.int i) (.int i) (.int i t)
 |str (x:aQ) (t:m7):Sh X H s O (.str x) (.str x) (.str x t)
 |tup {l:List D} {p:gU} {xs:List V} {its:ju} (q:FD X.K H p xs) (r:YP X.K H O l xs) (v:Vals xs its) (pl:f9 s.heap p its.toArray):Sh X H s O (.tup l) (.ref p) (.ref p)
 |lst {l:List D} {p:gU} {xs:List V} {its:ju} (q:CO X.K H p xs) (r:YP X.K H O l xs) (v:Vals xs its) (pl:s.heap.IsList p its.toArray):Sh X H s O (.lst l) (.ref p) (.ref p)
def Ak(U:Inv X pins σ H s)(h:jT X.K H O d v)(b:RelV v a)(i:d.dep<20000):Sh X H s O d v a:=by
 cases d with
 |R1 m k n=>rw[D.dep]at i;omega
 |tup l=>obtain⟨p,j,rfl,q,r⟩:=lM h;cases b;obtain⟨e,g,f,_⟩:=U.tuple q;exact .tup q r g f
 |lst l=>obtain⟨p,j,rfl,q,r⟩:=kL h;cases b;obtain⟨e,g,f,_⟩:=U.list q;exact .lst q r g f.isList
 |T2=>have:=(yc h At (by simp)<|by simp).T2;subst this;cases b;exact .T2
 |bl c=>have:=(yc h At (by simp)<|by simp).bl;subst this;cases b;exact .bl c
 |int c=>have:=(yc h At (by simp)<|by simp).int;subst this;obtain⟨t,rfl⟩:=b;exact .int c t
 |str c=>have:=(yc h At (by simp)<|by simp).str;subst this;obtain⟨t,rfl⟩:=b;exact .str c t
def Va{A:iB}{y x:il}{k:Bool}(h:RcAt A s y x k)(e:y=x->k=C)(d:∀b t,y≠ .float b t):EqAt A s y x k:=λa w E Q c=>by
 unfold eqBool;refine mU ?_;refine wpAny_ite_split (λf=>?_) λ_=>?_
 .rw[e<|rT f]at c;exact gW<|sG<|ik c
 cases y with
 |float b t=>exact absurd At<|d b t
 |_=>exact gW<|h a w E _ (vp c)
def Sf(I:Inv X pins σ H s){A:iB}{n:Nat}(M:∀(d e:D)(v u:V)(a b:il)(O Q:SI)(A:iB),jT X.K H O d v->jT X.K H Q e u->RelV v a->RelV u b->d.dep+1<=n->e.dep<20000->A.units+n<aS+1->EqAt A s a b (D.Q2 d e))(hA:A.units+n<aS):∀(l m:List D)(g h:List V)(c f:ju)(i k:SI),D.P2 l+1<=n->D.P2 m<20000->YP X.K H i l g->YP X.K H k m h->Vals g c->Vals h f->
   ∀j (h1:j<c.toArray.size) (r:j<f.toArray.size),EqAt A.in1 s c.toArray[j] f.toArray[j] (zY l m j):=λl m g h c f i k Z hm y z B C j h1 r=>by
 have P:=B.length;have R:=C.length;have S:=y.length;have W:=z.length;simp only[jG]at h1 r;have t:g[j]?=zx g[j]:=jq (by omega);have x:h[j]?=zx h[j]:=jq (by omega);have p:l[j]?=zx l[j]:=jq (by omega);have o:m[j]?=zx m[j]:=jq (by omega);obtain⟨w,E,U⟩:=B.get t;obtain⟨N,L,Y⟩:=C.get x
 have G:c.toArray[j]=w:=by have:c[j]?=zx c[j]:=jq (by omega);rw[this]at E;simpa using E
 have J:f.toArray[j]=N:=by have:f[j]?=zx f[j]:=jq (by omega);rw[this]at L;simpa using L
 rw[G,J];have T:zY l m j=D.Q2 l[j] m[j]:=by unfold zY;rw[p,o]
 rw[T];have F:=D.Bu p;have q:=D.Bu o;exact M _ _ _ _ _ _ i k A.in1 (.inl<|y.views p t) (.inl<|z.views o x) U Y (by omega) (by omega) (by show A.units+1+n<aS+1;omega)
def PL{d e:D}{v u:V}{a b:il}{O T:SI}{A:iB}(I:Inv X pins σ H s){n:Nat}(ih:∀(d e:D)(v u:V)(a b:il)(O T:SI)(A:iB),jT X.K H O d v->jT X.K H T e u->RelV v a->RelV u b->d.dep+1<=n->e.dep<20000->A.units+n<aS+1->EqAt A s a b (D.Q2 d e))(hd:jT X.K H O d v)(he:jT X.K H T e u)(ra:RelV v a)(rb:RelV u b)(Q:d.dep<=n)(M:e.dep<20000)(hA:A.units+n<aS):RcAt A s a b (D.Q2 d e)/\RcNeAt A s a b (!D.Q2 d e):=by
 have f:A.units<cLine:=by lia
 have items:=Sf I ih hA;have W:aS=9900:=rfl;have h1:=Ak I hd ra (by lia);have E:=Ak I he rb M
 cases h1 with
 |T2=>
  cases E with
  |T2=>exact⟨RcAt.none_none,RcNeAt.none_none⟩
  |bl c=>exact⟨RcAt.none_bool c,RcNeAt.none_bool c⟩
  |int c i=>exact⟨RcAt.none_int c i,RcNeAt.none_int c i⟩
  |str c i=>exact⟨RcAt.none_str c i,RcNeAt.none_str c i⟩
  |tup B t x h=>exact⟨RcAt.none_tuple h f,RcNeAt.none_tuple h f⟩
  |lst B t x h=>exact⟨RcAt.none_list h f,RcNeAt.none_list h f⟩
 |bl g=>
  cases E with
  |T2=>exact⟨RcAt.bool_none g,RcNeAt.bool_none g⟩
  |bl c=>exact⟨RcAt.bool_bool g c,RcNeAt.bool_bool g c⟩
  |int c i=>exact⟨RcAt.bool_int g c i,RcNeAt.bool_int g c i⟩
  |str c i=>exact⟨RcAt.bool_str g c i,RcNeAt.bool_str g c i⟩
  |tup B t x h=>exact⟨RcAt.bool_tuple g h f,RcNeAt.bool_tuple g h f⟩
  |lst B t x h=>exact⟨RcAt.bool_list g h f,RcNeAt.bool_list g h f⟩
 |int g k=>
  cases E with
  |T2=>exact⟨RcAt.int_none g k,RcNeAt.int_none g k⟩
  |bl c=>exact⟨RcAt.int_bool g k c,RcNeAt.int_bool g k c⟩
  |int c i=>exact⟨RcAt.int_int g k c i,RcNeAt.int_int g k c i⟩
  |str c i=>exact⟨RcAt.int_str g k c i,RcNeAt.int_str g k c i⟩
  |tup B t x h=>exact⟨RcAt.int_tuple g k h f,RcNeAt.int_tuple g k h f⟩
  |lst B t x h=>exact⟨RcAt.int_list g k h f,RcNeAt.int_list g k h f⟩
 |str g k=>
  cases E with
  |T2=>exact⟨RcAt.str_none g k,RcNeAt.str_none g k⟩
  |bl c=>exact⟨RcAt.str_bool g k c,RcNeAt.str_bool g k c⟩
  |int c i=>exact⟨RcAt.str_int g k c i,RcNeAt.str_int g k c i⟩
  |str c i=>exact⟨RcAt.str_str g k c i,RcNeAt.str_str g k c i⟩
  |tup B t x h=>exact⟨RcAt.str_tuple g k h f,RcNeAt.str_tuple g k h f⟩
  |lst B t x h=>exact⟨RcAt.str_list g k h f,RcNeAt.str_list g k h f⟩
 | @tup l p N o q r L j=>
  cases E with
  |T2=>exact⟨RcAt.tuple_none j f,RcNeAt.tuple_none j f⟩
  |bl c=>exact⟨RcAt.tuple_bool c j f,RcNeAt.tuple_bool c j f⟩
  |int c i=>exact⟨RcAt.tuple_int c i j f,RcNeAt.tuple_int c i j f⟩
  |str c i=>exact⟨RcAt.tuple_str c i j f,RcNeAt.tuple_str c i j f⟩
  | @tup m p2 U C' B t x h=>
   have G:D.P2 l+1<=n:=by rw[D.dep]at Q;exact Q
   have J:D.P2 m<20000:=by rw[D.dep]at M;lia
   have F:=L.length;have P:=x.length;have R:=r.length;have S:=t.length;have w:=items l m N U o C' _ _ G J r t L x;have z:=dI (RcAt.tuples j h f w)<|RcNeAt.tuples j h f w;simp only[jG]at z;rw[show o.length=l.length by lia,show C'.length=m.length by lia,zr]at z;rw[D.Q2];exact z
  |lst B t x h=>exact⟨RcAt.tuple_list j h f,RcNeAt.tuple_list j h f⟩
 | @lst l p N o q r L j=>
  cases E with
  |T2=>exact⟨RcAt.list_none j f,RcNeAt.list_none j f⟩
  |bl c=>exact⟨RcAt.list_bool c j f,RcNeAt.list_bool c j f⟩
  |int c i=>exact⟨RcAt.list_int c i j f,RcNeAt.list_int c i j f⟩
  |str c i=>exact⟨RcAt.list_str c i j f,RcNeAt.list_str c i j f⟩
  |tup B t x h=>exact⟨RcAt.list_tuple j h f,RcNeAt.list_tuple j h f⟩
  | @lst m p2 U C' B t x h=>
   have G:D.P2 l+1<=n:=by rw[D.dep]at Q;exact Q
   have J:D.P2 m<20000:=by rw[D.dep]at M;lia
   have F:=L.length;have P:=x.length;have R:=r.length;have S:=t.length;have Y:=zr l m;by_cases y:l.length=m.length
   .have w:=items l m N U o C' _ _ G J r t L x;have q:o.toArray.size=C'.toArray.size:=by simp only[jG];lia
    have z:=dI (RcAt.lists j h q f w)<|RcNeAt.lists j h q f w;simp only[jG]at z;rw[show o.length=min l.length m.length by lia]at z;rw[D.Q2,<-Y,y];rw[y]at z;simpa using z
   have q:(o.toArray.size !=C'.toArray.size)=C:=by simp only[jG,bne_iff_ne,ne_eq];lia
   have z:=dI (RcAt.lists_lengths j h q f)<|RcNeAt.lists_lengths j h q f;rw[D.Q2,<-Y];rw[show(l.length==m.length)=z9 by simpa using y];simpa using z
def DG(I:Inv X pins σ H s)(n:Nat)
  (Q:∀(d e:D)(v u:V)(a b:il)(O k:SI)(A:iB),jT X.K H O d v->jT X.K H k e u->RelV v a->RelV u b->d.dep+1<=n->e.dep<20000->A.units+n<aS+1->EqAt A s a b (D.Q2 d e)):
  ∀(d e:D)(v u:V)(a b:il)(O k:SI)(A:iB),jT X.K H O d v->jT X.K H k e u->RelV v a->RelV u b->d.dep<=n->e.dep<20000->A.units+n<aS->EqAt A s a b (D.Q2 d e):=by
 intro d e v u a b O k A hd y N E m B L;have U:aS=9900:=rfl;have h1:=Ak I hd N (by lia);have l:=Ak I y E B;refine Va (PL I Q hd y N E m B L).1 (λT=>?_) λb t z=>by subst z;cases h1
 subst T
 have no:∀{p:gU}{i j:oF},f9 s.heap p i->s.heap.IsList p j->False:=λ⟨o,a,b,_⟩ ⟨M,c,d,_⟩=>by rw[a]at c;cases c;rw[b]at d;exact absurd d (by decide)
 cases h1 with
 |tup q r G w=>
  cases l with
  |tup g h x f=>have:=I.Bt q g;subst this;rw[YP.inj I (by rw[D.dep]at m;lia) r h,D.Br]
  |lst g h x f=>exact(no w f).elim
 |lst q r G w=>
  cases l with
  |tup g h x f=>exact(no f w).elim
  |lst g h x f=>have:=I.Cc q g;subst this;rw[YP.inj I (by rw[D.dep]at m;lia) r h,D.Br]
 |_=>cases l;exact D.Br _
def B6(U:Inv X pins σ H s):∀(n:Nat)(d e:D)(v u:V)(a b:il)(O c:SI)(A:iB),jT X.K H O d v->jT X.K H c e u->RelV v a->RelV u b->d.dep<=n->e.dep<20000->A.units+n<aS->EqAt A s a b (D.Q2 d e):=by
 intro n
 induction n with
 |zero=>intro d e v u a b O c A hd f i j g h k;exact DG U 0 (λd e v u a b O c A hd f i j g h k=>absurd g<|by lia) d e v u a b O c A hd f i j g h k
 |succ n l=>intro d e v u a b O c A hd f i j g h k;exact DG U (n+1) (λd e v u a b O c A hd f i j g h k=>l d e v u a b O c A hd f i j (by lia) h<|by lia) d e v u a b O c A hd f i j g h k
end
section
variable {X:Cx}{c:iO}{f:L2.St}{H:Hp}{s:hJ}
def V2(U:Inv X c f H s)(hd:jT X.K H O d v)(i:jT X.K H g e u)(l:RelV v a)(m:RelV u b)(j:d.dep<=n)(k:e.dep<20000)(h:A.units+n<aS):RcAt A s a b (D.Q2 d e)/\RcNeAt A s a b (!D.Q2 d e):=
 PL U (λd e v u a b O g A x1 x2 x3 x4 x5 o x7=>B6 U (n-1) d e v u a b O g A x1 x2 x3 x4 (by lia) o<|by lia) hd i l m j k h
def XX(j:X.A.units+60<aS):D0 X (au .Eq) (λx y H Q=>∃O d e,jT X.K H O d x/\jT X.K H O e y/\(d.dep<=50/\e.dep<=50)/\Q (.bl<|D.Q2 d e) H):=by intro c s f H x y v u Q U g i h;obtain⟨O,d,e,h1,a,b,q⟩:=h;exact(V2 (A:=X.A) U h1 a g i b.1 (by lia)<|by lia).1 _ _ _ _ ⟨.bl _,H,U,rfl,q⟩
def XT(j:X.A.units+60<aS):D0 X (au .NotEq) (λx y H Q=>∃O d e,jT X.K H O d x/\jT X.K H O e y/\(d.dep<=50/\e.dep<=50)/\Q (.bl (!D.Q2 d e)) H):=by intro c s f H x y v u Q U g i h;obtain⟨O,d,e,h1,a,b,q⟩:=h;exact(V2 (A:=X.A) U h1 a g i b.1 (by lia)<|by lia).2 _ _ _ _ ⟨.bl _,H,U,rfl,q⟩
end
def iK{e:Type}{c:Prop}[Decidable c]{a b:e}(h:(if c then J a else I)=J b):c/\a=b:=by
 split at h
 .rename_i d;exact⟨d,kD h⟩
 cases h
section
variable {X:Cx}{c:iO}{f:L2.St}{H:Hp}{s:hJ}
def RK(I:Inv X c f H s){A:iB}{l:List D}{o:List V}{a:ju}{O C:SI}{b:D}{Q:V}{x:il}(r:YP X.K H O l o)(v:Vals o a)(hx:jT X.K H C b Q)(rx:RelV Q x)(hn:D.P2 l<=50)(hxn:b.dep<=50)(hA:A.units+60<aS):
  ∃e:il->Bool,(∀y∈a,EqAt A.in1 s y x<|e y)/\a.any e=l.any λd=>D.Q2 d b:=by
 let e:il->Bool:=λy=>match(a.zip l).find? (λp=>p.1==y)with
  |some p=>D.Q2 p.2 b
  |none=>z9
 have S:=v.length;have W:=r.length
 have key:∀(j:Nat)(g:j<a.length)(h:j<l.length),e a[j]=D.Q2 l[j] b:=λj g h=>by
  show(match(a.zip l).find? (λp=>p.1==a[j])with|some p=>D.Q2 p.2 b|none=>z9)=_
  cases t:(a.zip l).find? (λp=>p.1==a[j])with
  |none=>
   have:=List.find?_eq_none.mp t (a[j],l[j]) (by
    have:(a.zip l)[j]?=zx (a[j],l[j]):=by simp[FP,jq g,jq h]
    exact lK this)
   simp at this
  |some p=>
   have Y:=List.find?_some t;have U:=List.mem_of_find?_eq_some t;obtain⟨i,L⟩:=pk U;obtain⟨P,p2⟩:=p;rw[FP]at L;have J:P=a[j]:=rT Y;obtain⟨h1,k⟩:=L;have E:i<o.length:=by have:=(qX.mp h1).1;lia
   obtain⟨w,n,B⟩:=v.get<|jq E;have q:j<o.length:=by lia
   obtain⟨w',T,R⟩:=v.get<|jq q;rw[h1]at n;cases n;rw[jq g]at T;cases T;subst J;have hv:=B.inj R;have a1:=r.views k<|jq E;have G:=r.views (jq h)<|jq q;rw[hv]at a1;have Z:=D.Bu k;have:=Rep.inj I (by lia) a1 G;exact nc (λz=>D.Q2 z b) this
 refine⟨e,λy F=>?_,?_⟩
 .obtain⟨j,g⟩:=pk F;have u:=(qX.mp g).1;have q:=(qX.mp g).2;have h:j<l.length:=by lia
  have m:j<o.length:=by lia
  obtain⟨w,n,B⟩:=v.get<|jq m;rw[g]at n;cases n;have hk:=key j u h;rw[q]at hk;rw[hk];have hd:=D.Bu<|jq h;exact B6 I 50 _ _ _ _ _ _ O C A.in1 (.inl<|r.views (jq h)<|jq m) hx B rx (by lia) (by lia) (by show A.units+1+50<aS;lia)
 have:a.map e=l.map λd=>D.Q2 d b:=by
  apply AK
  .simp;lia
  intro j h1 k;simp only[jl]at h1 k;simp only[AI];exact key j h1 k
 have M:a.any e=(a.map e).any id:=by rw[tj];rfl
 have N:(l.any λd=>D.Q2 d b)=(l.map λd=>D.Q2 d b).any id:=by rw[tj];rfl
 rw[M,N,this]
def inD(x:D):D->Option Bool
 |.tup l=>if D.P2 l<=50/\x.dep<=50 then J (l.any λd=>D.Q2 d x)else I
 |.lst l=>if D.P2 l<=50/\x.dep<=50 then J (l.any λd=>D.Q2 d x)else I
 |_=>I
def K6(n:Bool)(E:X.A.units+60<aS):D0 X (au (if n then .NotIn else .In)) (λx y H Q=>∃O d e b,jT X.K H O d x/\jT X.K H O e y/\inD d e=J b/\Q (.bl (if n then !b else b)) H):=by
 intro c s f H x y v u Q N L T h;obtain⟨O,d,e,b,h1,U,m,q⟩:=h
 cases e with
 |tup l=>
  obtain⟨i,rfl⟩:=iK m;obtain⟨a,G,rfl,t,r⟩:=lM U;cases T;obtain⟨g,B,j,_⟩:=N.tuple t;obtain⟨e,p,o⟩:=RK (A:=X.A) N r B h1 L i.1 i.2 E;have k:∀w∈g.toArray,EqAt X.A.in1 s w v (e w):=λw z=>p w (by simpa using z);rw[<-o,show g.any e=g.toArray.any e by simp]at q;cases n
  .exact in_tupleAt e j k ⟨.bl _,H,N,rfl,q⟩
  exact notIn_tupleAt e j k ⟨.bl _,H,N,rfl,q⟩
 |lst l=>
  obtain⟨i,rfl⟩:=iK m;obtain⟨a,G,rfl,t,r⟩:=kL U;cases T;obtain⟨g,B,j,_⟩:=N.list t;obtain⟨e,p,o⟩:=RK (A:=X.A) N r B h1 L i.1 i.2 E;have k:∀w∈g.toArray,EqAt X.A.in1 s w v (e w):=λw z=>p w (by simpa using z);rw[<-o,show g.any e=g.toArray.any e by simp]at q;cases n
  .exact in_listAt e j.isList k ⟨.bl _,H,N,rfl,q⟩
  exact notIn_listAt e j.isList k ⟨.bl _,H,N,rfl,q⟩
 |_=>cases m
end
def rD1(K:iA)(g:D->Option (D×Bool)):V->Hp->VK->Prop:=λx U Q=>∃(O:SI)(d:D)(z:D×Bool),(∀p,¬Ow (U p)->¬O p)/\jT K U O d x/\g d=J z/\Gen K U O z Q
def rD(K:iA)(g:D->D->Option (D×Bool)):R2:=λx y U Q=>∃(O:SI)(d e:D)(z:D×Bool),(∀p,¬Ow (U p)->¬O p)/\jT K U O d x/\jT K U O e y/\g d e=J z/\Gen K U O z Q
def Cz(K:iA)(g:List D->Option (D×Bool)):List V->Hp->VK->Prop:=λb U Q=>∃(O:SI)(a:List D)(z:D×Bool),(∀p,¬Ow (U p)->¬O p)/\(AC a)=AC b/\(∀(j:Nat) d v,a[j]?=J d->b[j]?=J v->jT K U O d v)/\g a=J z/\Gen K U O z Q
section
variable {X:Cx}{e a b:ig}{fa fb:FO}{fs:List FO}{c:bp}
def px1(h:PE X e (tUn (rD1 X.K g)<|tO X.K fa)):PX X e (pe g fa):=Xo h λx z v U O Q np f d G=>⟨O,x,z,np,f,d,G⟩
def px2(h:PE X e (M0 (rD X.K g) (tO X.K fa)<|tO X.K fb)):PX X e (hU g fa fb):=Xn h λx y z v u U O Q np f i d G=>⟨O,x,y,z,np,f,i,d,G⟩
def pxn(h:PE X e (MR (Cz X.K g)<|tA X.K fs)):PX X e (iw g fs):=T9 h λd z j U O Q np i hv f G=>⟨O,d,z,np,i,hv,f,G⟩
def iP{K U}{O:SI}{i:Int}{v:V}(h:jT K U O (.int i) v):v=.int i:=h.elim (λh=>h.int) λ⟨_,_,h⟩=>h.elim
def Kr{K U}(h:jT K U O (.bl i) v):v=.bl i:=h.elim (λh=>h.bl) λ⟨_,_,h⟩=>h.elim
def A0{K U}(h:jT K U O (.str i) v):v=.str i:=h.elim (λh=>h.str) λ⟨_,_,h⟩=>h.elim
def ag9{K U}(h:jT K U O .T2 v):v=.T2:=h.elim (λh=>h.T2) λ⟨_,_,h⟩=>h.elim
def Gen.str{K U}(g:Gen K U O (.str i,Y) Q):Q (.str i) U:=g _ U (λ_ _ e=>e) Rep.mkStr
noncomputable def gI(f:Int->Int->Option D):D->D->Option (D×Bool)
 |.int i,.int j=>(f i j).map λz=>(z,Y)
 |_,_=>I
def Ar{f:Int->Int->Option D}{d e:D}{z:D×Bool}(h:gI f d e=J z):∃i j y,d=.int i/\e=.int j/\f i j=J y/\z=(y,Y):=by
 cases d with
 |int i=>
  cases e with
  |int j=>
   cases g:f i j with
   |none=>simp only[gI,g]at h;cases h
   |some y=>simp only[gI,g]at h;cases h;exact⟨i,j,y,rfl,rfl,g,rfl⟩
  |_=>cases h
 |_=>cases h
def Ao{f:zC}{U:Int->Int->Prop}[∀i j,Decidable<|U i j]{g:Int->Int->Int}(p:D0 X f (rI U λi j=>.int (g i j))):D0 X f (rD X.K (gI λi j=>if U i j then J (.int<|g i j)else I)):=by intro k s t T x y v u Q N q r h;obtain⟨O,d,e,z,np,h1,l,o,G⟩:=h;obtain⟨i,j,w,rfl,rfl,n,rfl⟩:=Ar o;obtain⟨m,rfl⟩:=iK n;exact p k s t T x y v u Q N q r ⟨i,j,iP h1,iP l,m,G.int⟩
def Qv{f:zC}{g:Int->Int->Int}(o:D0 X f (JK λi j=>.int (g i j))):D0 X f (rD X.K<|gI λi j=>J<|.int<|g i j):=by intro k s r U x y v u Q T p q h;obtain⟨O,d,e,z,np,h1,l,n,G⟩:=h;obtain⟨i,j,w,rfl,rfl,m,rfl⟩:=Ar n;cases m;exact o k s r U x y v u Q T p q ⟨i,j,iP h1,iP l,G.int⟩
instance(i j:Int):Decidable (CG i j):=by unfold CG;exact inferInstance
instance(i j:Int):Decidable (Nt i j):=by unfold Nt;exact inferInstance
instance(i j:Int):Decidable (FL i j):=by unfold FL;exact inferInstance
def CF:=gI λi j=>J<|.int<|i-j
def ox:=gI λi j=>if CG i j then J (.int<|i*j)else I
def RY:=gI λi j=>if Nt i j then J (.int<|i / j)else I
def CD:=gI λi j=>if 0<j then J (.int<|i%j)else I
def RQ:=gI λi j=>if FL i j then J (.int<|i^j.toNat)else I
def nZ:D0 X (bm .Sub) (rD X.K CF):=Qv XQ
def mJ:D0 X (bm .Mult) (rD X.K ox):=Ao XU
def K0:D0 X (bm .FloorDiv) (rD X.K RY):=Ao Ux
def uK:D0 X (bm .Mod) (rD X.K CD):=Ao XW
def KY:D0 X (bm .Pow) (rD X.K RQ):=Ao XR
noncomputable def lP:D->D->Option (D×Bool)
 |.int i,.int j=>J (.int<|i+j,Y)
 |.str i,.str j=>if i.length+j.length<=sizeLine then J (.str<|i++j,Y)else I
 |.tup l,.tup m=>if l.length+m.length<=sizeLine then J (.tup<|l++m,Y)else I
 |.lst l,.lst m=>if l.length+m.length<=sizeLine then J (.lst<|l++m,C)else I
 |_,_=>I
def jZ:D0 X (bm .Add) (rD X.K lP):=by
 intro k s σ H x y v u Q I T J h;obtain⟨O,d,e,z,np,h1,M,o,G⟩:=h
 cases d with
 |int i=>
  cases e with
  |int j=>cases o;exact XY k s σ H x y v u Q I T J ⟨i,j,iP h1,iP M,G.int⟩
  |_=>cases o
 |str i=>
  cases e with
  |str j=>obtain⟨Z,rfl⟩:=iK o;exact afW k s σ H x y v u Q I T J ⟨i,j,A0 h1,A0 M,Z,G.str⟩
  |_=>cases o
 |tup l=>
  cases e with
  |tup m=>
   obtain⟨Z,rfl⟩:=iK o;have k1:Rep X.K H O (.tup l) x:=h1.elim id λ⟨_,_,z⟩=>z.elim;have k2:Rep X.K H O (.tup m) y:=M.elim id λ⟨_,_,z⟩=>z.elim;obtain⟨N,xs,rfl,U,E⟩:=k1.tup;obtain⟨C,ys,rfl,Y,L⟩:=k2.tup;have l1:=E.length;have l2:=L.length;by_cases hx:xs=[]
   .subst hx;have:l=[]:=by simpa using l1.symm
    subst this;cases T;cases J;obtain⟨g,D,V,_⟩:=I.tuple U.sq;obtain⟨r,v2,W,_⟩:=I.tuple Y.sq;have e1:g=[]:=by have:=D.length;simpa using this.symm
    subst e1;obtain⟨⟨S,dd,t,sl⟩,w,A,n,hd⟩:=id V;obtain⟨⟨bh,R,data2,P⟩,q,B,n2,f⟩:=id W;simp only at A hd B f;subst A hd B f
    refine Es ⟨_,w,rfl⟩ ⟨_,q,rfl⟩ IK IJ II IH (IG _ _)
     (tuple_addW0 N C #[] r.toArray n n2 dd R sl P (by simp)) ⟨w,q,⟨.ref C,H,I,rfl,?_⟩⟩
    exact G _ H (λ_ _ e=>e) (by simpa using k2)
   refine Uy k s σ H _ _ v u Q I T J ⟨N,C,xs,ys,rfl,rfl,U.sq,Y.sq,hx,by lia,λhy=>?_,λhy p hp=>?_⟩
   .subst hy;have:m=[]:=by simpa using l2.symm
    subst this;exact G _ H (λ_ _ e=>e) (by simpa using k1)
   exact G.tup hp (np p<|MW hp) (E.append L)
  |_=>cases o
 |lst l=>
  cases e with
  |lst m=>
   obtain⟨Z,rfl⟩:=iK o;obtain⟨N,xs,rfl,U,E⟩:=kL h1;obtain⟨C,ys,rfl,Y,L⟩:=kL M;have l1:=E.length;have l2:=L.length;cases T;cases J;obtain⟨g,D,V,_⟩:=I.list U;obtain⟨r,v2,W,_⟩:=I.list Y;have e1:=D.length;have e2:=v2.length;obtain⟨⟨S,dd,t,sl⟩,w,A,n,hd⟩:=id V.isList;obtain⟨⟨bh,R,data2,P⟩,q,B,n2,f⟩:=id W.isList;simp only at A hd B f;subst A hd B f
   refine Es ⟨_,w,rfl⟩ ⟨_,q,rfl⟩ noFill_list_add seq_list_add PySem.F.slot_list_add PySem.F.entry_list_add (PySem.F.args_list_add_2 _ _)
    (list_addW N C g.toArray r.toArray n n2 dd R sl P<|by simp only[jG];lia) ⟨w,q,?_⟩
   rw[show g.toArray++r.toArray=(g++r).toArray by simp];exact⟨.ref _,_,I.M5 (t':=s.toks) (D.append v2)<|by rw[lA];lia,rfl,G.lst I.fresh<|E.append L⟩
  |_=>cases o
 |_=>cases o
def I8(d e:D):Option (D×Bool):=if d.dep<=50/\e.dep<=50 then J (.bl<|D.Q2 d e,Y)else I
def BP(d e:D):Option (D×Bool):=if d.dep<=50/\e.dep<=50 then J (.bl (!D.Q2 d e),Y)else I
def Gh(d e:D):Option (D×Bool):=(inD d e).map λb=>(.bl b,Y)
def mN(d e:D):Option (D×Bool):=(inD d e).map λb=>(.bl (!b),Y)
def jL(k:X.A.units+60<aS):D0 X (au .Eq) (rD X.K I8):=by intro f s n U x y v u Q T l m h;obtain⟨O,d,e,z,np,h1,g,j,G⟩:=h;obtain⟨i,rfl⟩:=iK j;exact XX k f s n U x y v u Q T l m ⟨O,d,e,h1,g,i,G.bl⟩
def nj(k:X.A.units+60<aS):D0 X (au .NotEq) (rD X.K BP):=by intro f s n U x y v u Q T l m h;obtain⟨O,d,e,z,np,h1,g,j,G⟩:=h;obtain⟨i,rfl⟩:=iK j;exact XT k f s n U x y v u Q T l m ⟨O,d,e,h1,g,i,G.bl⟩
def jy{d g:Type}{x:Option d}{f:d->g}{b:g}(h:x.map f=J b):∃a,x=J a/\f a=b:=by
 cases x with
 |none=>cases h
 |some a=>exact⟨a,rfl,kD h⟩
def yW(k:X.A.units+60<aS):D0 X (au .In) (rD X.K Gh):=by intro f s n U x y v u Q T l m h;obtain⟨O,d,e,z,np,h1,g,j,G⟩:=h;obtain⟨b,i,rfl⟩:=jy j;exact K6 Y k f s n U x y v u Q T l m ⟨O,d,e,b,h1,g,i,G.bl⟩
def mq(k:X.A.units+60<aS):D0 X (au .NotIn) (rD X.K mN):=by intro f s n U x y v u Q T l m h;obtain⟨O,d,e,z,np,h1,g,j,G⟩:=h;obtain⟨b,i,rfl⟩:=jy j;exact K6 C k f s n U x y v u Q T l m ⟨O,d,e,b,h1,g,i,G.bl⟩
noncomputable def xZ:D->Option (D×Bool)
 |.int i=>J (.int (-i),Y)
 |_=>I
def TH:Nm X (v6 .USub) (rD1 X.K xZ):=by
 intro f s k U x v Q T j h;obtain⟨O,d,z,np,h1,g,G⟩:=h
 cases d with
 |int i=>cases g;exact WS f s k U x v Q T j ⟨i,iP h1,G.int⟩
 |_=>cases g
def N2:D->D->Option (D×Bool)
 |.tup l,.int i=>(G5 l i).map λd=>(d,Y)
 |.lst l,.int i=>(G5 l i).map λd=>(d,Y)
 |_,_=>I
def L3{K U}{O:SI}{l:List D}{f:List V}{i:Int}{d:D}(r:YP K U O l f)(h:G5 l i=J d):∃v,G5 f i=J v/\Rep K U O d v:=by unfold G5 at h ⊢;rw[r.length];obtain⟨j,h1,g⟩:=gS h;rw[h1];exact r.get g
def abz:OW X (rD X.K N2):=by
 intro g f j s L T x y v u Q N U E h B;obtain⟨O,d,e,z,np,h1,A,k,G⟩:=h
 cases d with
 |tup l=>
  cases e with
  |int i=>obtain⟨w,n,rfl⟩:=jy k;obtain⟨p,t,rfl,q,r⟩:=lM h1;obtain⟨o,hv,m⟩:=L3 r n;exact Yk g f j s L T _ _ v u Q N U E ⟨p,t,i,o,rfl,iP A,q,hv,G _ T (λ_ _ e=>e) m⟩ B
  |_=>cases k
 |lst l=>
  cases e with
  |int i=>obtain⟨w,n,rfl⟩:=jy k;obtain⟨p,t,rfl,q,r⟩:=kL h1;obtain⟨o,hv,m⟩:=L3 r n;exact UT g f j s L T _ _ v u Q N U E ⟨p,t,i,o,rfl,iP A,q,hv,G _ T (λ_ _ e=>e) m⟩ B
  |_=>cases k
 |_=>cases k
end
noncomputable def qp:List F1->Option (List D)
 |[]=>J []
 |.val r::os=>(qp os).map (r.1:: ·)
 |.slot _::_=>I
def kH(fs:List F):F:=λδ=>(kd (fs.map hC) δ).bind λp=>(qp p.1).bind λa=>if (AC a)<=sizeLine then J ((.tup a,Y),p.2)else I
def qa(fs:List F):F:=λδ=>(kd (fs.map hC) δ).bind λp=>(qp p.1).bind λa=>if (AC a)<=sizeLine then J ((.lst a,C),p.2)else I
section
variable {K:iA}{T m:SI}{f:L2.St}{g e:Dn}{H H':Hp}{os:List F1}{c:List V}
def Ops.rep(E:ER K H T f g)(B:Ops K T f g H os c e H' m){j:Nat}{r:D×Bool}{v:V}(h1:os[j]?=J (.val r))(h:c[j]?=J v):Rep K H' (λa=>X0 f e a\/T a) r.1 v:=by
 obtain⟨d,b⟩:=r
 cases b
 .exact B.val j d v h1 h
 obtain⟨p,rfl,k,i,ok⟩:=B.tmp j d v h1 h;refine ok.rep (λz=>?_) λb _ z=>z;rcases z with z|z
 .exact B.er.nT p z k
 exact(E.dom p z).ne i
theorem wx{O:SI}:∀{os:List F1}{c:List V}{d:List D},qp os=J d->os.length=AC c->(∀(j:Nat)(r:D×Bool)(v:V),os[j]?=J (.val r)->c[j]?=J v->Rep K H' O r.1 v)->YP K H' O d c
 |[],c,d,h,n,_=>by
  cases h;have:c=[]:=by simpa using n.symm
  subst this;exact YP.nil
 |.slot i::os,c,d,h,_,_=>by cases h
 |.val r::os,c,d,h,n,k=>by
  obtain⟨l,h1,rfl⟩:=jy h
  cases c with
  |nil=>simp at n
  |cons v c=>exact YP.cons (k 0 r v At At)<|wx h1 (by simpa using n) λj o p a b=>k (j+1) o p (by simpa using a) (by simpa using b)
end
section
variable {X:Cx}{e a b:ig}{m:kb}{fa fb:FO}{fs:List F}{c:bp}
def Xj{x1}(h:PA X m (tA X.K<|fs.map hC)):PX X (.Tuple m x1 c) (kH fs):=PX.imp (XD h) λx U Q l=>by obtain⟨n,T,u,o,E,e,k⟩:=l;obtain⟨⟨os,d⟩,h1,e⟩:=gS e;obtain⟨t,g,e⟩:=gS e;obtain⟨i,e⟩:=iK e;obtain⟨rfl,rfl⟩:=vh e;refine⟨n,T,os,d,E,h1,λw q s B=>?_⟩;have r:=wx g B.len λj r v a b=>B.rep E a b;exact⟨by rw[r.length];exact i,λp f=>(B.done k).tup f (B.np<|MW f) r⟩
def Xp(h:PA X m (tA X.K<|fs.map hC)):PX X (.List m c) (qa fs):=PX.imp (XI h) λx U Q l=>by obtain⟨n,T,u,o,E,e,k⟩:=l;obtain⟨⟨os,d⟩,h1,e⟩:=gS e;obtain⟨t,f,e⟩:=gS e;obtain⟨g,e⟩:=iK e;obtain⟨rfl,rfl⟩:=vh e;refine⟨n,T,os,d,E,h1,λw q s B=>?_⟩;have r:=wx f B.len λj r v a b=>B.rep E a b;exact⟨by rw[r.length];exact g,λp i=>(B.done k).lst i r⟩
def K7{g:List D}{f:List V}{d:D}(h:(AC g)=AC f)(hd:g=[d]):∃v,f=[v]:=by
 subst hd
 cases f with
 |nil=>simp at h
 |cons v r=>
  cases r with
  |nil=>exact⟨v,rfl⟩
  |cons _ _=>simp at h
noncomputable def g1(g:D->Option (D×Bool)):List D->Option (D×Bool)
 |[d]=>g d
 |_=>I
noncomputable def g2(g:D->D->Option (D×Bool)):List D->Option (D×Bool)
 |[d,e]=>g d e
 |_=>I
def nC{f:il}{g:D->Option (D×Bool)}(h:∀(i:iO)(s:hJ)(j:L2.St)(U:Hp)(x:V)(u:il)(Q:VK)(O:SI)(d:D)(z:D×Bool),Inv X i j U s->RelV x u->(∀p,¬Ow (U p)->¬O p)->jT X.K U O d x->g d=J z->Gen X.K U O z Q->
  ae (ah X.prog X.w) X.A (call f [u]) (EP X i j Q) X.xe s):kg X f (Cz X.K<|g1 g):=by
 intro i s j U y t Q T r o;obtain⟨O,l,z,np,n,hv,k,G⟩:=o
 match l,k with
 |[d],k=>obtain⟨v,rfl⟩:=K7 n H;obtain⟨u,rfl,q⟩:=qC r;exact h i s j U v u Q O d z T q np (hv 0 d v H H) k G
def SF{f:il}{g:D->D->Option (D×Bool)}(h:∀(i:iO)(s:hJ)(k:L2.St)(U:Hp)(x y:V)(j:ju)(Q:VK)(O:SI)(d e:D)(z:D×Bool),Inv X i k U s->Vals [x,y] j->(∀p,¬Ow (U p)->¬O p)->jT X.K U O d x->jT X.K U O e y->g d e=J z->Gen X.K U O z Q->
  ae (ah X.prog X.w) X.A (call f j) (EP X i k Q) X.xe s):kg X f (Cz X.K<|g2 g):=by
 intro i s k U t j Q T r q;obtain⟨O,n,z,np,o,hv,l,G⟩:=q;rcases n with _|⟨d,_|⟨e,_|⟨_,_⟩⟩⟩<;>try cases l
 rcases t with _|⟨x,_|⟨y,_|⟨_,_⟩⟩⟩<;>try cases o
 exact h i s k U x y j Q O d e z T r np (hv 0 d x H H) (hv 1 e y H H) l G
noncomputable def ud:D->Option (D×Bool)
 |.tup l=>J (.int<|AC l,Y)
 |.lst l=>J (.int<|AC l,Y)
 |_=>I
def iN:kg X (.builtin "len") (Cz X.K<|g1 ud):=nC λf s j U x u Q O d z T i np hd g G=>by
 cases d with
 |tup l=>
  cases g;obtain⟨p,h,rfl,q,r⟩:=lM hd;refine yk f s j U [_] [u] Q T (.cons i .nil) ⟨p,h,rfl,.inr q,?_⟩;rw[r.length];exact G.int
 |lst l=>
  cases g;obtain⟨p,h,rfl,q,r⟩:=kL hd;refine yk f s j U [_] [u] Q T (.cons i .nil) ⟨p,h,rfl,.inl q,?_⟩;rw[r.length];exact G.int
 |_=>cases g
noncomputable def BL:D->Option (D×Bool)
 |.int i=>J (.int (if i<0 then -i else i),Y)
 |_=>I
def lU:kg X (.builtin "abs") (Cz X.K<|g1 BL):=nC λf s j U x u Q O d z T h np hd g G=>by
 cases d with
 |int i=>cases g;exact SH f s j U [x] [u] Q T (.cons h .nil) ⟨i,by rw[iP hd],G.int⟩
 |_=>cases g
noncomputable def MY:D->Option (D×Bool)
 |.int i=>J (.int i,Y)
 |.bl b=>J (.int (if b then 1 else 0),Y)
 |_=>I
def DM:kg X (.type "int") (Cz X.K<|g1 MY):=nC λf s j U x u Q O d z T h np hd g G=>by
 cases d with
 |int i=>cases g;exact DN f s j U [x] [u] Q T (.cons h .nil)<|.inl ⟨i,by rw[iP hd],G.int⟩
 |bl i=>
  cases g;refine DN f s j U [x] [u] Q T (.cons h .nil)<|.inr ⟨i,by rw[Kr hd],?_⟩;have:=G.int;cases i<;>exact this
 |_=>cases g
noncomputable def lV:D->Option (D×Bool)
 |.tup l=>J (.tup l,Y)
 |.lst l=>J (.tup l,Y)
 |_=>I
def jD:kg X (.type "tuple") (Cz X.K<|g1 lV):=nC λf s k U x u Q O d z T j np hd g G=>by
 cases d with
 |tup l=>
  cases g;have k1:Rep X.K U O (.tup l) x:=hd.elim id λ⟨_,_,z⟩=>z.elim;obtain⟨p,h,rfl,q,r⟩:=k1.tup;exact vL f s k U [_] [u] Q T (.cons j .nil) ⟨p,h,rfl,.inr ⟨q.sq,G _ U (λ_ _ e=>e) k1⟩⟩
 |lst l=>
  cases g;obtain⟨p,h,rfl,q,r⟩:=kL hd;exact vL f s k U [_] [u] Q T (.cons j .nil) ⟨p,h,rfl,.inl ⟨q,λt i=>G.tup i (np t<|MW i) r⟩⟩
 |_=>cases g
noncomputable def BI:D->Option (D×Bool)
 |.tup l=>J (.lst l,C)
 |.lst l=>J (.lst l,C)
 |_=>I
def afs:kg X (.type "list") (Cz X.K<|g1 BI):=nC λf s k U x u Q O d z T j np hd g G=>by
 cases d with
 |tup l=>
  cases g;obtain⟨p,i,rfl,q,r⟩:=lM hd;exact yj f s k U [_] [u] Q T (.cons j .nil) ⟨p,i,rfl,.inr q,λt h=>G.lst h r⟩
 |lst l=>
  cases g;obtain⟨p,i,rfl,q,r⟩:=kL hd;exact yj f s k U [_] [u] Q T (.cons j .nil) ⟨p,i,rfl,.inl q,λt h=>G.lst h r⟩
 |_=>cases g
end
abbrev FT:=Dn->Option (Bool×Dn)
def tT(K:iA)(f:FT):TT:=λe U Q=>∃d T b a,ER K U T e d/\f d=J (b,a)/\∀c,K2 e d U a c->ER K c T e a->Q b c
def PTX(X:Cx)(e:ig)(f:FT):Prop:=PT X e<|tT X.K f
def PWX(X:Cx)(e:ig)(f:FT):Prop:=PW X e<|tT X.K f
noncomputable def JY:(D×Bool)×Dn->Option (Bool×Dn)
 |((.bl b,_),a)=>J (b,a)
 |_=>I
def fT(f:F):FT:=λδ=>(f δ).bind JY
def yq(h:JY p=J q):∃o,p=((.bl q.1,o),q.2):=by
 obtain⟨⟨d,o⟩,a⟩:=p
 cases d with
 |bl b=>cases h;exact⟨o,rfl⟩
 |_=>cases h
def Pc{K:iA}{f:F}{a:L2.St}{U:Hp}{Q:Bool->Hp->Prop}(h:tT K (fT f) a U Q):tF K f a U λx i=>∃c,x=.bl c/\Q c i:=by obtain⟨l,T,b,m,E,e,k⟩:=h;obtain⟨p,h1,j⟩:=gS e;obtain⟨o,rfl⟩:=yq j;refine⟨l,T,_,_,E,h1,λv g P=>?_⟩;obtain⟨d,r⟩:=P.rep E;exact⟨b,r.bl,k g P.1 d⟩
section
variable {X:Cx}{e a b c:ig}{n:kb}{fa fb:FO}{f g:F}{m l:FT}{i:bp}
def PT.imp'(h:PT X e t)(k:∀j U Q,p j U Q->t j U Q):PT X e p:=λd s j U Q T o=>h d s j U Q T<|k j U Q o
def PW.imp'(h:PW X e t)(k:∀j U Q,p j U Q->t j U Q):PW X e p:=λwh d s j U Q T o=>h wh d s j U Q T<|k j U Q o
def UA{r:R2}{g:D->D->Option (D×Bool)}(G:Y1 X.K r g){t:L2.St}{H:Hp}{Q:VK}(J:tF X.K (hU g fa fb) t H Q):M0 r (tO X.K fa) (tO X.K fb) t H Q:=by obtain⟨N,T,F,U,E,e,k⟩:=J;obtain⟨⟨o,d⟩,h1,e⟩:=gS e;obtain⟨⟨M,q⟩,A,e⟩:=gS e;obtain⟨x,C,e⟩:=gS e;obtain⟨y,I,e⟩:=gS e;obtain⟨z,L,e⟩:=gS e;obtain⟨rfl,rfl⟩:=iG e;refine⟨N,T,o,d,E,h1,λv Y h=>⟨d,CQ T o v,M,q,h.er E,A,λu w s=>?_⟩⟩;have B:=Ops.cons E h<|Ops.cons (h.er E) s<|Ops.nil<|s.er<|h.er E;exact G x y z v u w _ Q (λp O=>B.np O) (B.view (j:=0) At At C) (B.view (j:=1) At At I) L (B.done k)
def aa0{K:iA}{g:D->D->Option (D×Bool)}:Y1 K (rD K g) g:=λx y z v u U O Q np h j d G=>⟨O,x,y,z,np,h,j,d,G⟩
noncomputable def mW(f g:FT):FT:=λδ=>(f δ).bind λp=>if p.1=C then g p.2 else J (Y,p.2)
noncomputable def uf(f g:FT):FT:=λδ=>(f δ).bind λp=>if p.1=C then J (C,p.2)else g p.2
noncomputable def lu(f:FT):FT:=λδ=>(f δ).bind λp=>J (!p.1,p.2)
def rK(f g:F):F:=λd=>(f d).bind λp=>(JY p).bind λq=>if q.1=C then g q.2 else J ((.bl Y,Y),q.2)
def M7(f g:F):F:=λδ=>(f δ).bind λp=>(JY p).bind λq=>if q.1=C then J ((.bl C,Y),q.2)else g q.2
def YH(f:F):F:=λd=>(f d).bind λp=>(JY p).bind λq=>J ((.bl (!q.1),Y),q.2)
def N1.pre{K:iA}{T:SI}{h:L2.St}{δ δ1 δ2:Dn}{U j q:Hp}{r:D×Bool}{v:V}(k:K2 h δ U δ1 j)(P:N1 K T h δ1 j r δ2 v q):N1 K T h δ U r δ2 v q:=by
 refine⟨k.trans P.1,?_⟩;obtain⟨d,o⟩:=r
 cases o
 .exact P.2
 obtain⟨p,h1,s,t⟩:=P.2;refine⟨p,h1,?_,t⟩
 cases u:U p with
 |none=>rfl
 |some w=>exact absurd s<|k.dm p (by rw[u];simp)
noncomputable def Jn(t:FT)(f g:F):F:=λd=>(t d).bind λp=>if p.1=C then f p.2 else g p.2
end
inductive Out where
 |nx(δ:Dn)|rt(r:D×Bool)(δ:Dn)|bk(δ:Dn)|ct(δ:Dn)
abbrev FS:=Dn->Option Out
structure SK(A:jX)(σ:L2.St)(δ:Dn)(H:Hp)(σ':L2.St)(δ':Dn)(H':Hp):Prop where
 kp:∀a o,H a=zx o->¬X0 σ δ a->H' a=zx o
 owi:∀i a,P1 σ' δ' i a->P1 σ δ i a\/H a=z7\/(A i/\∃j,A j/\P1 σ δ j a)
 dm:∀a,H a≠z7->H' a≠z7
 as:∀i,¬A i->σ'[i]?=σ[i]?
structure LL where
 p:Nat->Prop
 st:Option L2.St
structure FI(A:jX)(L:LL)(H0:Hp)(σ:L2.St)(δ:Dn)(H:Hp):Prop where
 ow:∀i a,P1 σ δ i a->L.p i\/H0 a=z7
 dm:∀a,H0 a≠z7->H a≠z7
 al:∀j,A j->¬L.p j
 gh:∀z,L.st=zx z->∀i,¬A i->σ[i]?=z[i]?
def RV(K:iA)(T:SI)(f:Hp)(r:D×Bool)(c:L2.St)(b:Dn)(v:V)(e:Hp):Prop:=
 match r with
 |(d,Y)=>ER K e T c b/\Rep K e (λa=>X0 c b a\/T a) d v
 |(d,C)=>∃p,v=.ref p/\f p=I/\ER K e (λa=>T a\/a=p) c b/\Ae K e (λa=>X0 c b a\/T a\/a=p) d p
section
variable {A:jX}{c b m:L2.St}{δ δ1 δ2:Dn}{H l g q:Hp}{L:LL}{K:iA}{T:SI}
def SK.refl:SK A c δ H c δ H:=⟨λ_ _ e _=>e,λ_ _ z=>.inl z,λ_ z=>z,λ_ _=>rfl⟩
def SK.ow(k:SK A c δ H b δ1 g)(a:gU)(h:X0 b δ1 a):X0 c δ a\/H a=I:=by
 obtain⟨i,d,h1,o⟩:=h;rcases k.owi i a ⟨d,h1,o⟩with⟨e,f,n⟩|z|⟨_,j,_,e,f,n⟩
 .exact .inl ⟨i,e,f,n⟩
 .exact .inr z
 exact .inl ⟨j,e,f,n⟩
def SK.trans(x:SK A c δ H b δ1 g)(y:SK A b δ1 g m δ2 q):SK A c δ H m δ2 q where
 kp:=λa o e n=>y.kp a o (x.kp a o e n) λz=>(x.ow a z).elim n λz=>by rw[z]at e;cases e
 owi:=λi a z=>(y.owi i a z).elim (x.owi i a) λz=>z.elim (λz=>.inr (.inl (by
  cases h:H a with
  |none=>rfl
  |some o=>exact absurd z<|x.dm a<|by rw[h];simp))) λ⟨d,j,f,z⟩=>(x.owi j a z).elim (λz=>.inr (.inr ⟨d,j,f,z⟩)) λz=>z.elim (λz=>.inr (.inl z)) λ⟨_,k,ak,z⟩=>.inr (.inr ⟨d,k,ak,z⟩)
 dm:=λa z=>y.dm a<|x.dm a z
 as:=λi h=>(y.as i h).trans<|x.as i h
def K2.sk(k:K2 c δ H δ1 g):SK A c δ H c δ1 g:=⟨k.kp,λi a z=>.inl (k.owi i a z),k.dm,λ_ _=>rfl⟩
def FI.step(f:FI A L l c δ H)(k:SK A c δ H b δ1 g):FI A L l b δ1 g where
 ow:=λi a z=>(k.owi i a z).elim (f.ow i a) λz=>.inr (z.elim (λz=>by
  cases h:l a with
  |none=>rfl
  |some o=>exact absurd z<|f.dm a<|by rw[h];simp) λU=>by obtain⟨_,j,d,z⟩:=U;exact (f.ow j a z).resolve_left<|f.al j d)
 dm:=λa z=>k.dm a<|f.dm a z
 al:=f.al
 gh:=λz e i n=>(k.as i n).trans<|f.gh z e i n
def FI.fresh(f:FI A L l c δ H)(a:H p=I):l p=I:=by
 cases h:l p with
 |none=>rfl
 |some o=>exact absurd a<|f.dm p (by rw[h];simp)
end
def tS(K:iA)(A:jX)(L:LL)(g:Hp)(f:FS):TS:=λD e U=>∃d T out,ER K U T e d/\FI A L g e d U/\f d=J out/\
 match out with
 |.nx b=>∀a c,SK A e d U a b c->ER K c T a b->D.nx a c
 |.bk b=>∀a c,SK A e d U a b c->ER K c T a b->D.bk a c
 |.ct b=>∀a c,SK A e d U a b c->ER K c T a b->D.ct a c
 |.rt r b=>∀v a c,SK A e d U a b c->RV K T g r a b v c->D.rt v c
def Mn(X:Cx)(A:jX)(L:LL)(a:Hp)(st:bG)(f:FS):Prop:=PS X st<|tS X.K A L a f
def Nr(X:Cx)(A:jX)(L:LL)(a:Hp)(st:List bG)(f:FS):Prop:=GQ X st<|tS X.K A L a f
noncomputable def ip:FS:=λδ=>J<|.nx δ
noncomputable def gZ(f g:FS):FS:=λδ=>(f δ).bind λo=>match o with
 |.nx δ1=>g δ1
 |o=>J o
noncomputable def lq(f:F):FS:=λδ=>(f δ).bind λp=>J<|.nx p.2
noncomputable def jH(f:F):FS:=λδ=>(f δ).bind λp=>J<|.rt p.1 p.2
noncomputable def KH:FS:=λδ=>J<|.rt (.T2,Y) δ
noncomputable def nY(i:Nat):FS:=λa=>match a[i]? with
 |some (J (d,C))=>J<|.rt (d,C)<|a.set i I
 |some (J (d,Y))=>J<|.rt (d,Y) a
 |_=>I
noncomputable def J4(t:FT)(f g:FS):FS:=λδ=>(t δ).bind λp=>if p.1=C then f p.2 else g p.2
noncomputable def jo(i:Nat)(f:F):FS:=λδ=>(f δ).bind λp=>if i<(AC p.2)then J (.nx<|p.2.set i<|J p.1)else I
section
variable {X:Cx}{A:jX}{L:LL}{d:Hp}{st:bG}{l:List bG}{f g:FS}{m:F}{j:FT}{e c:ig}{i:bp}
def PS.imp'(h:PS X st t)(k:∀D b U,o D b U->t D b U):PS X st o:=λa s b U D T n=>h a s b U D T<|k D b U n
def GQ.imp'(h:GQ X l t)(k:∀D b U,o D b U->t D b U):GQ X l o:=λa s b U D T n=>h a s b U D T<|k D b U n
def Xw(Q:PTX X c j)(I:Nr X A L d a f)(O:Nr X A L d b g):Mn X A L d (.If c a b i) (J4 j f g):=PS.imp' (aa4 Q I O) λD w M U=>by
 obtain⟨y,T,out,E,N,e,k⟩:=U;obtain⟨⟨c,o⟩,h1,e⟩:=gS e;refine⟨y,T,c,o,E,h1,λx B z=>?_⟩;have u:SK A w y M w o x:=B.sk
 have fin:∀(h:FS),h o=J out->tS X.K A L d h D w x:=λh G=>by
  refine⟨o,T,out,z,N.step u,G,?_⟩
  cases out with
  |nx s=>exact λn p q t=>k n p (u.trans q) t
  |bk s=>exact λn p q t=>k n p (u.trans q) t
  |ct s=>exact λn p q t=>k n p (u.trans q) t
  |rt r s=>exact λv n p q R2=>k v n p (u.trans q) R2
 cases c with
 |true=>rw[ie H]at e;exact(show(if C=C then tS X.K A L d f D w x else _)from by rw[ie H];exact fin f e)
 |false=>rw[iC kJ]at e;exact(show(if Y=C then _ else tS X.K A L d g D w x)from by rw[iC kJ];exact fin g e)
end
def nq{b:Type}{l:List b}{i j:Nat}{x y:b}(h:(l.set i x)[j]?=J y):(i=j/\i<AC l/\y=x)\/(i≠j/\l[j]?=J y):=by
 rw[Em]at h;split at h
 .rename_i a;split at h
  .rename_i c;exact .inl ⟨a,c,(kD h).symm⟩
  cases h
 rename_i a;exact .inr ⟨a,h⟩
section
variable {K:iA}{T:SI}{f:L2.St}{l c:Dn}{H g:Hp}{x:D×Bool}{v:V}{i:Nat}
def P1.store{j:Nat}{a:gU}(h:P1 (f.set i<|J v) (l.set i<|J x) j a):(i≠j/\P1 f l j a)\/(i=j/\x.2=C/\v=.ref a):=by
 obtain⟨d,h1,m⟩:=h;rcases nq h1 with⟨e,_,q⟩|⟨ne,q⟩
 .rcases nq m with⟨_,_,k⟩|⟨b,_⟩
  .right;cases q;exact⟨e,rfl,(kD k).symm⟩
  exact absurd e b
 rcases nq m with⟨n,_,_⟩|⟨_,k⟩
 .exact absurd n ne
 exact .inl ⟨ne,d,q,k⟩
def X0.store(h:X0 (f.set i<|J v) (l.set i<|J x) a):X0 f l a\/(x.2=C/\v=.ref a):=by
 obtain⟨j,d,h1,k⟩:=h;rcases P1.store ⟨d,h1,k⟩with⟨_,e,b,m⟩|⟨_,b⟩
 .exact .inl ⟨j,e,b,m⟩
 exact .inr b
def ER.store(h:ER K g (Kb T x v) f c)(E:i<AC c)(u:match x with|(d,Y)=>Rep K g (λa=>X0 f c a\/T a) d v|(d,C)=>∃p,v=.ref p/\¬T p/\Ae K g (λa=>X0 f c a\/T a\/a=p) d p):
  ER K g T (f.set i<|J v) (c.set i<|J x):=by
 have r:i<(AC f):=by rw[h.len];exact E
 have sub:∀b,g b≠I->(X0 (f.set i<|J v) (c.set i<|J x) b\/T b)->(X0 f c b\/Kb T x v b):=λb _ z=>by
  rcases z with z|z
  .rcases z.store with z|z
   .exact .inl z
   exact .inr (.inr z)
  exact .inr (.inl z)
 refine⟨by rw[tx,tx];exact h.len,λj d o=>?_,λj d o=>?_,λj k d e a o hk h1 n=>?_,λa z=>?_,λa z=>h.dom a<|.inl z⟩
 .rcases nq o with⟨rfl,_,q⟩|⟨ne,q⟩
  .have q:=kD q;subst q
   exact⟨v,vq r,Rep.mono (λ_ _ e _=>e) (λb U z=>by
    rcases z with z|z
    .rcases z.store with z|z
     .exact .inl z
     exact absurd z.1 (by simp)
    exact .inr z) u⟩
  obtain⟨w,h1,n⟩:=h.val j d q;exact⟨w,by rw[sJ ne];exact h1,Rep.mono (λ_ _ e _=>e) sub n⟩
 .rcases nq o with⟨rfl,_,q⟩|⟨ne,q⟩
  .have q:=kD q;subst q;obtain⟨p,rfl,np,ok⟩:=u;refine⟨p,vq r,ok.mono (λ_ _ e _=>e) (λb U z=>?_) λ_ e=>e⟩;rcases z with z|z
   .rcases z.store with z|z
    .exact .inl z
    have:=z.2;cases this;exact .inr<|.inr At
   exact .inr (.inl z)
  obtain⟨a,h1,n⟩:=h.own j d q;exact⟨a,by rw[sJ ne];exact h1,n.mono (λ_ _ e _=>e) sub λ_ e=>e⟩
 .rcases P1.store ⟨d,o,h1⟩with⟨L,y,g1,g2⟩|⟨B,g1,g2⟩
  .rcases P1.store ⟨e,hk,n⟩with⟨Q,s,g3,m⟩|⟨A,g3,m⟩
   .exact h.inj j k y s a g1 g3 g2 m
   exact absurd (bq ⟨g3,m⟩) (h.nT a ⟨j,y,g1,g2⟩)
  rcases P1.store ⟨e,hk,n⟩with⟨Q,s,g3,m⟩|⟨A,g3,m⟩
  .exact absurd (bq ⟨g1,g2⟩) (h.nT a ⟨k,s,g3,m⟩)
  exact B.symm.trans A
 rcases z.store with z|z
 .exact λt=>h.nT a z<|.inl t
 obtain⟨d,b⟩:=x
 cases b
 .exact absurd z.1 (by simp)
 obtain⟨p,rfl,np,_⟩:=u;have:=z.2;cases this;exact np
def SK.store(k:K2 f l H c g)(b:A i)(h:x.2=C->∀p,v=.ref p->H p=I):SK A f l H (f.set i<|J v) (c.set i<|J x) g where
 kp:=k.kp
 owi:=λj a z=>by
  rcases z.store with⟨_,z⟩|⟨_,m,n⟩
  .exact .inl (k.owi j a z)
  exact .inr (.inl<|h m a n)
 dm:=k.dm
 as:=λj d=>sJ λ(e:i=j)=>d (by subst e;exact b)
end
section
variable {X:Cx}{A:jX}{L:LL}{g:Hp}{f:F}{e c:ig}{b a:bp}
def A7{K:iA}{T:SI}{k:L2.St}{n j:Dn}{U l:Hp}{r:D×Bool}{v:V}{i:Nat}(E:ER K U T k n)(P:N1 K T k n U r j v l)(u:i<AC j)(t:A i):
  SK A k n U (k.set i<|J v) (j.set i<|J r) l/\ER K l T (k.set i<|J v) (j.set i<|J r):=by
 have w:r.2=C->∀p,v=.ref p->U p=I:=λh p hv=>by
  obtain⟨d,o⟩:=r
  cases o
  .cases h
  obtain⟨q,h1,m,_⟩:=P.2;rw[hv]at h1;cases h1;exact m
 refine⟨SK.store P.1 t w,ER.store (P.er E) u ?_⟩;obtain⟨d,o⟩:=r
 cases o
 .exact P.2.2
 obtain⟨p,rfl,m,x,s⟩:=P.2;exact⟨p,rfl,λz=>(E.dom p z).ne m,s⟩
end
abbrev Tg:=D->Dn->Option Dn
def tG(K:iA)(A:jX)(g:Tg):TG:=λv f U Q=>∃e T d b,ER K U T f e/\Rep K U (λa=>X0 f e a\/T a) d v/\g d e=J b/\∀c,SK A f e U c b U->ER K U T c b->Q c U
def Ju(X:Cx)(A:jX)(e:ig)(a:Tg):Prop:=PG X e<|tG X.K A a
noncomputable def hG(i:Nat):Tg:=λd δ=>if i<(AC δ)then J (δ.set i<|J (d,Y))else I
noncomputable def Kw:List Tg->List D->Dn->Option Dn
 |[],[],a=>J a
 |t::b,d::ds,a=>(t d a).bind<|Kw b ds
 |_,_,_=>I
def ng(a:List Tg):Tg
 |.tup ds,δ=>Kw a ds δ
 |_,_=>I
def Nb(K:iA)(A:jX)(g:List Tg):Js:=λh e U Q=>∃d T f b,ER K U T e d/\YP K U (λa=>X0 e d a\/T a) f h/\Kw g f d=J b/\∀c,SK A e d U c b U->ER K U T c b->Q c U
section
variable {X:Cx}{A:jX}{g:bp}{e:ig}{f:kb}{t:Tg}{c:List Tg}
def PG.imp'{t d:TG}(h:PG X e t)(k:∀v b U Q,d v b U Q->t v b U Q):PG X e d:=λa s b U v u Q T r i=>h a s b U v u Q T r<|k v b U Q i
def JC.imp'{t d:Js}(h:JC X f t)(k:∀v b U Q,d v b U Q->t v b U Q):JC X f d:=λa s b U v u Q T r i=>h a s b U v u Q T r<|k v b U Q i
def Bo:JC X [] (Nb X.K A []):=JC.imp' Um λv h U Q b=>by
 obtain⟨i,T,a,d,E,r,e,k⟩:=b
 cases a with
 |nil=>
  cases e;rw[YP]at r;exact⟨r,k h .refl E⟩
 |cons _ _=>cases e
def mn(h1:Ju X A e t)(p:JC X f (Nb X.K A c))(u:(ao (e::f) X.env).map (·.2)=bD e X.env::(ao f X.env).map (·.2)):JC X (e::f) (Nb X.K A (t::c)):=JC.imp' (Qh h1 p u) λv O N Q w=>by
 obtain⟨M,T,h,i,E,r,e,k⟩:=w
 cases h with
 |nil=>cases e
 |cons d h=>rw[YP]at r;obtain⟨B,U,rfl,x,y⟩:=r;obtain⟨a,q,e⟩:=gS e;refine⟨B,U,rfl,M,T,d,a,E,x,q,λL l m=>⟨a,T,h,i,m,?_,e,λj o n=>k j (l.trans o) n⟩⟩;exact YP.mono (λ_ _ e _=>e) (λb s z=>z.elim (λz=>(l.ow b z).elim bj λz=>absurd z s) bq) y
def EK{k:Nat}(o:X.calm=C)(h:JC X f (Nb X.K A c)){n:Nat}(s:(ao f X.env).length=n)(p:c.length=n)(x:(ao f X.env).findIdx? (·.1)=I):Ju X A (.Tuple f k g) (ng c):=PG.imp' (XC o h s x) λv z U Q u=>by
 obtain⟨i,T,d,j,E,r,e,k⟩:=u
 cases d with
 |tup b=>
  obtain⟨a,y,rfl,q,m⟩:=r.tup;refine⟨a,y,rfl,q.sq,?_,i,T,b,j,E,m,e,k⟩
  have:∀(c:List Tg)(b:List D)(i:Dn),Kw c b i=J j->b.length=c.length:=by
   intro c
   induction c with
   |nil=>intro b i h;cases b with|nil=>rfl|cons _ _=>cases h
   |cons t c w=>
    intro b i h
    cases b with
    |nil=>cases h
    |cons d b=>obtain⟨l,_,h⟩:=gS h;simp[w b l h]
  rw[m.length,this c b i e,p]
 |_=>cases e
end
abbrev SB:=Nat->Prop
def Kc(B:SB)(T:SI)(c:L2.St)(b:Dn):SI:=λa=>(∃i,¬B i/\P1 c b i a)\/T a
def Kc.own(h:Kc B T σ δ a):X0 σ δ a\/T a:=h.imp (λU=>by obtain⟨i,_,d,h1,b⟩:=U;exact ⟨i,d,h1,b⟩) id
structure JF(K:iA)(J:It)(ds:List D)(P O:SI)(H1:Hp):Prop where
 go:∀(i:Nat) d Hi,ds[i]?=zx d->(∀a o,H1 a=zx o->¬P a->Hi a=zx o)->J.go i Hi/\∀x H',J.yld i Hi x H'->(∀a o,Hi a=zx o->H' a=zx o)/\
  ∀O':SI,(∀b,H1 b≠z7->O' b->O b)->(∀b,Hi b=z7->¬O' b)->Rep K H' O' d x
 stop:∀(i:Nat) Hi,AC ds<=i->(∀a o,H1 a=zx o->¬P a->Hi a=zx o)->J.stop i Hi
abbrev B0:=Dn->Option (List D×Dn)
def tI(K:iA)(B:SB)(g:B0):TI:=λc Q R=>∃e T f b,ER K Q T c e/\g e=J (f,b)/\∀U d,K2 c e Q b d->ER K d T c b->JF K U f (Kc B T c b) (λa=>X0 c b a\/T a) d->R U d
def Jt(X:Cx)(B:SB)(tg iter:ig)(a:B0):Prop:=PI X tg iter<|tI X.K B a
noncomputable def tM:D->Option (List D)
 |.tup l=>J l
 |.lst l=>J l
 |_=>I
def JI(f:FO):B0:=λa=>(f a).bind λp=>(res p.2 p.1).bind λd=>(tM d).bind λl=>J (l,p.2)
noncomputable def jb(f:F):B0:=λδ=>(f δ).bind λp=>match p.1.1 with
 |.lst l=>J (l,p.2)
 |.tup l=>J (l,p.2)
 |_=>I
noncomputable def ja(lo:Int)(n:Nat):List D:=(am n).map λ(k:Nat)=>.int (lo+k)
def CC(f:FO):B0:=λa=>(kd [f] a).bind λp=>match uX p.2 p.1 with
 |some [.int j]=>if -(2^62)<=j/\j<2^62 then J (ja 0 j.toNat,p.2)else I
 |_=>I
def OR(B:SB)(f:FO):Prop:= ∀b i a,f b=J (.slot i,a)->B i
def EE:OR B (hC f):=λb i a h=>by obtain⟨p,_,h⟩:=gS h;cases h
noncomputable def Me:D->Bool
 |.lst _=>C
 |_=>Y
def G6(b:Bool)(K:iA)(U:Hp)(P:SI)(a:gU)(c:List V):Prop:=if b=C then FA K U P a c else EW K U P a c
def G6.mono{K U H'}{P P':SI}(q:G6 b K U P a xs)(k:∀b o,U b=J o->¬P b->H' b=J o)(c:∀b,P' b->P b):G6 b K H' P' a xs:=by
 cases b
 .exact EW.mono (K:=K) q k λb _=>c b
 exact FA.mono q k λb _=>c b
def G6.l{K U}(q:G6 C K U P a xs):CO K U a xs:=FA.sq q
def G6.t{K U}(q:G6 Y K U P a xs):FD K U a xs:=EW.sq (K:=K) q
def C8{K U}(h:tM d=J l)(r:Rep K U O d v):∃a b,v=.ref a/\G6 (Me d) K U O a b/\YP K U O l b:=by
 cases d with
 |tup m=>cases h;obtain⟨a,b,rfl,q,c⟩:=r.tup;exact⟨a,b,rfl,q,c⟩
 |lst m=>cases h;obtain⟨a,b,rfl,q,c⟩:=r.lst;exact⟨a,b,rfl,q,c⟩
 |_=>cases h
def Ops.seq{K:iA}{T U:SI}{h:L2.St}{A c:Dn}{N n:Hp}{os:List F1}{y:List V}(E:ER K N T h A)(W:Ops K T h A N os y c n U){j:Nat}(h1:os[j]?=J o)(x:y[j]?=J v)(s:res c o=J d)(t:tM d=J l)(L:∀i,o=.slot i->B i):
  ∃a g,v=.ref a/\G6 (Me d) K n (Kc B T h c) a g/\YP K n (λa=>X0 h c a\/T a) l g:=by
 have fin:Rep K n (λa=>X0 h c a\/T a) d v->∃a g,v=.ref a/\G6 (Me d) K n (Kc B T h c) a g/\YP K n (λa=>X0 h c a\/T a) l g:=λr=>by obtain⟨a,g,rfl,q,u⟩:=C8 t r;exact⟨a,g,rfl,q.mono (λ_ _ e _=>e) λa z=>z.own,u⟩
 cases o with
 |val r=>cases s;exact fin<|W.rep E h1 x
 |slot i=>
  have hk:=W.slt j i _ h1 x
  have hd:∃f,c[i]?=J (J (d,f)):=by
   unfold res at s;dsimp only at s;split at s<;>cases s
   exact⟨_,by assumption⟩
  obtain⟨f,hd⟩:=hd
  cases f
  .obtain⟨w,p,M⟩:=W.er.val i _ hd;rw[hk]at p;cases p;exact fin<|Rep.mono (λ_ _ e _=>e) (λb _ z=>z.imp id<|W.tt b) M
  obtain⟨a,p,ok⟩:=W.er.own i _ hd;rw[hk]at p;cases p
  cases d with
  |lst m=>
   cases t;obtain⟨g,e,u⟩:=ok;exact⟨a,g,rfl,.inl ⟨.inl e,λz=>z.elim (λG=>by obtain⟨k,O,Q,g1,g2⟩:=G;exact O<|W.er.inj i k _ _ a hd g1 hk g2▸L i H) λz=>W.er.nT a ⟨i,_,hd,hk⟩<|W.tt a z⟩,YP.mono (λ_ _ e _=>e) (λb _ z=>z.imp id<|W.tt b) u⟩
  |tup m=>exact ok.elim
  |_=>cases t
section
variable {X:Cx}{B:SB}{tg e:ig}{f:F}{c:FO}{g p:bp}
def PI.imp'(h:PI X tg e t)(k:∀b U R,i b U R->t b U R):PI X tg e i:=λa s b U R T d=>h a s b U R T<|k b U R d
def PI.or(h:PI X tg e t)(d:PI X tg e j):PI X tg e (λb U R=>t b U R\/j b U R):=λa s b U R T i=>i.elim (h a s b U R T)<|d a s b U R T
def ItS(b:Bool)(K:iA)(a:gU):It:=if b=C then Itl K a else Itt K a
def RE{K:iA}{P O:SI}{m:Hp}{a:gU}{k:List V}{l:List D}(q:G6 b K m P a k)(r:YP K m O l k)(v:∀a,P a->O a):JF K (ItS b K a) l P O m:=by
 cases b<;>(
  refine⟨λi d Hi hd j=>?_,λi Hi w j=>?_⟩
  .have h:=G6.mono q j λ_ z=>z
   first|replace h:=h.l|replace h:=h.t
   obtain⟨x,u,A⟩:=r.get hd;refine⟨⟨k,x,h,u⟩,λy U s=>?_⟩;obtain⟨rfl,s⟩:=s;have:=s k h;rw[u]at this;cases this;exact⟨λ_ _ e=>e,λE h1 T=>Rep.mono (λb o e n=>j b o e λz=>n<|v b z) h1 A⟩
  exact⟨k,by first|exact(G6.mono q j λ_ z=>z).l|exact(G6.mono q j λ_ z=>z).t,by rw[r.length];exact w⟩)
def BH{K:iA}{P O:SI}{b:Hp}(lo:Int)(n:Nat):JF K (Mr lo n) (ja lo n) P O b:=by
 refine⟨λi d Hi hd j=>?_,λi Hi a j=>?_⟩
 .unfold ja at hd;rw[jv]at hd;obtain⟨k,h1,h⟩:=jy hd;have a:i<n:=by have:=(qX.mp h1).1;simpa using this
  have hk:k=i:=by rw[N4 a]at h1;exact(kD h1).symm
  subst hk;refine⟨a,λy m l=>?_⟩;obtain⟨rfl,rfl⟩:=l;refine⟨λ_ _ e=>e,λo _ _=>?_⟩;rw[<-h];exact Rep.mkInt
 unfold ja at a;have:n<=i:=by simpa using a
 exact this
def Qe(h:PO X e c)(U:OR B c):Jt X B tg e (JI c):=PI.imp' (PI.or (Ul (tg:=tg) h)<|XB h) λy N R L=>by
 obtain⟨w,T,G,Q,E,e,k⟩:=L;obtain⟨⟨o,u⟩,h1,e⟩:=gS e;obtain⟨d,A,e⟩:=gS e;obtain⟨l,x,e⟩:=gS e;obtain⟨rfl,rfl⟩:=iG e
 have key:∀v n,Cp X.K T y w N o u v n->∃a s,v=.ref a/\G6 (Me d) X.K n (Kc B T y u) a s/\R (ItS (Me d) X.K a) n:=λv n P=>by have W:=Ops.cons E P<|Ops.nil<|P.er E;obtain⟨a,s,rfl,q,O⟩:=W.seq E (j:=0) H H A x λi M=>U _ _ _ (M▸h1);exact⟨a,s,rfl,q,k _ n W.keep (W.er.mono (λ_ _ e _=>e) (λb _ z=>W.tt b z) λa z=>W.er.dom a<|W.tt a z) (RE q O λa z=>z.own)⟩
 cases d with
 |lst m=>exact .inl ⟨w,T,_,_,E,h1,λv n P=>let⟨a,s,e,q,r⟩:=key v n P;⟨a,e,⟨s,q.l⟩,r⟩⟩
 |tup m=>exact .inr ⟨w,T,_,_,E,h1,λv n P=>let⟨a,s,e,q,r⟩:=key v n P;⟨a,e,⟨s,q.t⟩,r⟩⟩
 |_=>cases x
end
noncomputable def pZ(tg:Tg)(fb:FS):List D->FS
 |[],δ=>J<|.nx δ
 |d::ds,δ=>(tg d δ).bind λb=>(fb b).bind λo=>match o with
  |.nx a=>pZ tg fb ds a
  |.ct a=>pZ tg fb ds a
  |.bk a=>J<|.nx a
  |.rt r a=>J<|.rt r a
def qJ(b:B0)(c:Tg)(a:FS):FS:=λδ=>(b δ).bind λp=>pZ c a p.1 p.2
section
variable {X:Cx}{A:jX}{L:LL}{l:Hp}{g iter:ig}{c:List bG}{j:B0}{t:Tg}{f:FS}{h:bp}
def Ud(hp:d6 (ah X.prog X.w) X.A X.env X.xe)(hc:X.calm=C)(hi:Jt X (λ_=>False) g iter j)(hg:Ju X A g t)(G:Nr X A L l c f)(hs:∀x,aB iter X.env x=pure x):
  Mn X A L l (.For g iter c [] h) (qJ j t f):=PS.imp' (Xy hp hc hi hg G hs) λD M H hw=>by
 obtain⟨δ,T,out,E,gy,e,k⟩:=hw;obtain⟨⟨u,q⟩,h1,e⟩:=gS e;refine⟨δ,T,u,q,E,h1,λJ Y K1 E1 ok=>?_⟩;have S:SK A M δ H M q Y:=K1.sk;refine⟨λi m s C'=>m=AC u-i/\i<=AC u/\∃p,SK A M q Y s p C'/\ER X.K C' T s p/\pZ t f (u.drop i) p=zx out,⟨AC u,by simp,lz _,q,.refl,E1,by simpa using e⟩,?_⟩;rintro i m O H2 ⟨rfl,hle,I',S2,N,e2⟩;have Z:∀a o,Y a=zx o->¬Kc (λ_=>False) T M q a->H2 a=zx o:=λa o ea n=>S2.kp a o ea λ⟨i,d,z⟩=>n<|.inl ⟨i,id,d,z⟩;by_cases W:i<AC u
 .refine .inr ?_;have hd:u[i]?=zx u[i]:=jq W;obtain⟨go,yl⟩:=ok.go i _ H2 hd Z;rw[yM W]at e2;obtain⟨R,h3,e3⟩:=gS e2;obtain⟨o,h4,V⟩:=gS e3;refine⟨go,λs C'=>∃p,SK A M q Y s p C'/\ER X.K C' T s p/\pZ t f (u.drop<|i+1) p=zx out,λs C' ⟨p,q1,q2,q3⟩=>⟨AC u-(i+1),by omega,rfl,W,p,q1,q2,q3⟩,λx C' hy=>?_⟩;obtain⟨ext,rep⟩:=yl x C' hy;have eU:ER X.K C' T O I':=N.mono (λb ob eb _=>ext b ob eb) (λ_ _ z=>z) λa z=>(N.dom a z).up<|ext a;have gG:SK A M q Y O I' C':=S2.trans (K2.ext ext).sk;have rx:=rep (λa=>X0 O I' a\/T a) (λb G z=>z.elim (λz=>(S2.ow b z).elim bj λz=>absurd z G) bq) λb G z=>z.elim (λz=>N.GO z G) λz=>(N.dom b z).ne G;refine⟨I',T,u[i],R,eU,rx,h3,λσ3 S3 E3=>?_⟩;have P:=gG.trans S3;refine⟨R,T,o,E3,(gy.step S).step P,h4,?_⟩
  cases o with
  |nx y=>exact λB F Q U=>⟨y,P.trans Q,U,V⟩
  |ct y=>exact λB F Q U=>⟨y,P.trans Q,U,V⟩
  |bk y=>cases V;exact λB F Q U=>k B F (S.trans<|P.trans Q) U
  |rt r y=>cases V;exact λv B F Q R4=>k v B F (S.trans<|P.trans Q) R4
 refine .inl ⟨ok.stop i H2 (by omega) Z,?_⟩;rw[AH<|by omega]at e2;cases e2;exact k O H2 (S.trans S2) N
end
noncomputable def nQ(b:FT)(a:FS):Nat->FS
 |0,_=>I
 |n+1,c=>(b c).bind λp=>if p.1=C then(a p.2).bind λo=>(match o with
   |.nx δ2=>nQ b a n δ2
   |.ct δ2=>nQ b a n δ2
   |.bk δ2=>J<|.nx δ2
   |.rt r δ2=>J<|.rt r δ2)else J (.nx p.2)
def wO(f g:FO):B0:=λδ=>(kd [f,g] δ).bind λp=>match uX p.2 p.1 with
 |some [.int i,.int j]=>if -(2^62)<=i/\i<2^62/\ -(2^62)<=j/\j<2^62 then J (ja i (j-i).toNat,p.2)else I
 |_=>I
section
variable {X:Cx}{A:jX}{L:LL}{s:Hp}{B:SB}{t e c a b:ig}{d:List bG}{f:FT}{g:FS}{x u:FO}{l p:bp}
def agQ{n:Nat}(hp:d6 (ah X.prog X.w) X.A X.env X.xe)(hc:PTX X c f)(hb:Nr X A L s d g):Mn X A L s (.While c d [] l) (nQ f g n):=PS.imp' (P5 hp hc hb) λD F H hw=>by
 obtain⟨U,T,out,E,Z,e,k⟩:=hw;refine⟨λm i I=>∃h,SK A F U H i h I/\ER X.K I T i h/\nQ f g m h=J out,⟨n,U,.refl,E,e⟩,?_⟩;rintro m J' H2 ⟨Y',S2,E2,e2⟩
 cases m with
 |zero=>cases e2
 |succ m=>
  obtain⟨⟨S,C⟩,h3,M⟩:=gS e2;refine⟨Y',T,S,C,E2,h3,λR V P=>?_⟩;have O:SK A F U H J' C R:=S2.trans V.sk
  cases S with
  |false=>rw[iC kJ]at M;cases M;exact abB<|k J' R O P
  |true=>
   rw[ie At]at M;obtain⟨o,h4,N⟩:=gS M;refine abA ⟨λi I=>∃h,SK A F U H i h I/\ER X.K I T i h/\nQ f g m h=J out,λi I q=>⟨m,El _,q⟩,C,T,o,P,Z.step O,h4,?_⟩
   cases o with
   |nx j=>exact λy G z Q=>⟨j,O.trans z,Q,N⟩
   |ct j=>exact λy G z Q=>⟨j,O.trans z,Q,N⟩
   |bk j=>cases N;exact λy G z Q=>k y G (O.trans z) Q
   |rt r j=>cases N;exact λv y G z W=>k v y G (O.trans z) W
def uB{K:iA}{T v:SI}{E:L2.St}{U m:Dn}{Q r:Hp}{os:List F1}{k:List V}{n:List D}(B:Ops K T E U Q os k m r v)(h:uX m os=J n){j:Nat}{i:Int}(hd:n[j]?=J (.int i)):k[j]?=J (.int i):=by
 obtain⟨h1,w⟩:=pG h;obtain⟨o,q,y⟩:=w j _ hd;have z:j<(AC k):=by have:=(qX.mp q).1;have:=B.len;lia
 have hv:k[j]?=J k[j]:=jq z;have:=iP<|B.view q hv y;rw[hv,this]
end
abbrev OO:=List (D×Bool)->Option ((D×Bool)×Dn)
def Hu(K:iA)(e:OO):Sp:=λd U Q _=>∃T a r b,ER K U T (d.map J) (a.map J)/\e a=J (r,b)/\∀v c,N1 K T (d.map J) (a.map J) U r b v c->Q v c
noncomputable def iT(args:List (D×Bool))(δ:Dn):Dn:=args.zipIdx.map λp=>if p.1.2=C then(δ[p.2]?).join else J p.1
def Q1(n np:Nat)(asg:jM)(f:FS):OO:=λargs=>
 if (AC args)=np/\np<=n/\(args.zipIdx.all λp=>!(p.1.2&&asg.contains p.2))=C then
  match f (args.map J++ac (n-np) I)with
  |some (.rt r δ)=>J (r,iT args δ)
  |some (.nx δ)=>J ((.T2,Y),iT args δ)
  |_=>I
 else I
def Qs(a:List (D×Bool))(b:Dn)(i:Nat):(iT a b)[i]?=a[i]?.map λx=>if x.2=C then(b[i]?).join else J x:=by
 unfold iT;rw[jv,IB]
 cases a[i]? with
 |none=>rfl
 |some x=>simp
def qN(h:x.join=J p):x=J (J p):=by
 cases x with
 |none=>cases h
 |some y=>exact nc J h
section
variable {K:iA}{T:SI}{A:jX}{k:List V}{f:List (D×Bool)}{H q:Hp}{m:Nat}{l:L2.St}{g:Dn}{r:D×Bool}{v:V}
def FR{b:Type}{a:List b}{m i:Nat}{y:b}:(a.map J++ac m I)[i]?=J (J y)↔a[i]?=J y:=by
 by_cases h:i<AC a
 .rw[rV<|by simpa using h,jv];cases a[i]?<;>simp
 rw[qg<|by simpa using h];constructor
 .intro e;rw[cV]at e;split at e<;>cases e
 intro e;exact absurd (qX.mp e).1 h
def su{b:Type}{a:List b}{i:Nat}{y:b}:(a.map J)[i]?=J (J y)↔a[i]?=J y:=by rw[jv];cases a[i]?<;>simp
def Nx{i:Nat}{a:gU}:P1 (k.map J++ac m I) (f.map J++ac m I) i a↔P1 (k.map J) (f.map J) i a:=by unfold P1;simp only[FR,su]
def GK:X0 σ b a↔ ∃i,P1 σ b i a:=Iff.rfl
def Qr:X0 (k.map J++ac m I) (f.map J++ac m I) a↔X0 (k.map J) (f.map J) a:=by rw[GK,GK];exact exists_congr λi=>Nx
def ER.pad(E:ER K H T (k.map J) (f.map J)):ER K H T (k.map J++ac m I) (f.map J++ac m I):=by
 have len:(AC k)=(AC f):=by simpa using E.len
 refine⟨by simp[len],λi d h=>?_,λi d h=>?_,λi j d e a h1 o p s=>?_,λa z=>E.nT a<|Qr.mp z,E.dom⟩
 .obtain⟨w,c,n⟩:=E.val i d<|su.mpr<|FR.mp h;exact⟨w,FR.mpr<|su.mp c,Rep.mono (λ_ _ e _=>e) (λb _ z=>z.imp Qr.mp id) n⟩
 .obtain⟨w,c,n⟩:=E.own i d<|su.mpr<|FR.mp h;exact⟨w,FR.mpr<|su.mp c,n.mono (λ_ _ e _=>e) (λb _ z=>z.imp Qr.mp id) λ_ e=>e⟩
 exact E.inj i j d e a (su.mpr<|FR.mp h1) (su.mpr<|FR.mp o) (su.mpr<|FR.mp p) (su.mpr<|FR.mp s)
def KW{J:SI}(E:ER K H T (k.map zx) (f.map zx))(S:SK A (k.map zx++ac m z7) (f.map zx++ac m z7) H l g q)(hA:∀(i:Nat) d,f[i]?=zx (d,z8)->¬A i)
  (Q:ER K q J l g)(hT:∀b,H b≠z7->J b->T b):ER K q J (k.map zx) (iT f g)/\(∀b,X0 (k.map zx) (iT f g) b->X0 l g b)/\K2 (k.map zx) (f.map zx) H (iT f g) q:=by
 have len:(AC k)=(AC f):=by simpa using E.len
 have s:∀(i:Nat) d w,f[i]?=zx (d,z8)->k[i]?=zx w->l[i]?=zx (zx w):=λi d w h1 p=>by rw[S.as i<|hA i d h1];exact FR.mpr p
 have t:∀(i:Nat) d b,(iT f g)[i]?=zx (zx (d,b))->(∃e,f[i]?=zx (e,z8)/\g[i]?=zx (zx (d,b)))\/(b=z9/\f[i]?=zx (d,z9)):=λi d b h=>by
  rw[Qs]at h;obtain⟨⟨e,c⟩,h1,p⟩:=jy h
  cases c
  .right;have:zx (e,z9)=zx (d,b):=by simpa using p
   cases this;exact⟨rfl,h1⟩
  left;exact⟨e,h1,qN<|by simpa using p⟩
 have B:∀i a,P1 (k.map zx) (iT f g) i a->P1 l g i a/\P1 (k.map zx) (f.map zx) i a:=λi a a'=>by
  obtain⟨d,h1,p⟩:=a'
  rcases t i d z8 h1 with⟨e,u,x⟩|⟨z,_⟩
  .exact⟨⟨d,x,s i e _ u (su.mp p)⟩,⟨e,su.mpr u,p⟩⟩
  cases z
 have G:∀b,X0 (k.map zx) (iT f g) b->X0 l g b:=λb a'=>by
  obtain⟨i,d,h1,p⟩:=a'
  obtain⟨⟨e,I,L⟩,_⟩:=B i b ⟨d,h1,p⟩;exact⟨i,e,I,L⟩
 have C:∀b,X0 (k.map zx) (iT f g) b->X0 (k.map zx) (f.map zx) b:=λb a'=>by
  obtain⟨i,d,h1,p⟩:=a'
  obtain⟨_,⟨e,I,L⟩⟩:=B i b ⟨d,h1,p⟩;exact⟨i,e,I,L⟩
 have U:∀a o,H a=zx o->¬X0 (k.map zx) (f.map zx) a->q a=zx o:=λa o e n=>S.kp a o e λz=>n<|Qr.mp z;refine⟨⟨?_,λi d h=>?_,λi d h=>?_,λi j d e a h1 p u x=>?_,λa z=>Q.nT a<|G a z,Q.dom⟩,G,⟨U,λi a z=>(B i a z).2,S.dm⟩⟩
 .simp[iT,len]
 .have M:i<(AC k):=by
   have:=(qX.mp h).1;simp[iT]at this
   lia
  have hv:k[i]?=zx k[i]:=jq M;rcases t i d z9 h with⟨e,u,x⟩|⟨_,u⟩
  .obtain⟨w,y,O⟩:=Q.val i d x;rw[s i e _ u hv]at y;cases y;exact⟨_,su.mpr hv,Rep.mono (λ_ _ e _=>e) (λb _ z=>z.imp (G b) id) O⟩
  obtain⟨w,y,O⟩:=E.val i d<|su.mpr u;exact⟨w,y,Rep.mono (λb o e n=>U b o e λz=>n<|.inl z) (λb F z=>z.imp (C b)<|hT b F) O⟩
 .have M:i<(AC k):=by
   have:=(qX.mp h).1;simp[iT]at this
   lia
  have hv:k[i]?=zx k[i]:=jq M;rcases t i d z8 h with⟨e,u,x⟩|⟨z,_⟩
  .obtain⟨w,y,O⟩:=Q.own i d x;rw[s i e _ u hv]at y;have N:k[i]=V.ref w:=by simpa using y
   exact⟨w,by rw[<-N];exact su.mpr hv,O.mono (λ_ _ e _=>e) (λb _ z=>z.imp (G b) id) λ_ e=>e⟩
  cases z
 obtain⟨_,⟨Y,I,L⟩⟩:=B i a ⟨d,h1,u⟩;obtain⟨_,⟨D,P,R⟩⟩:=B j a ⟨e,p,x⟩;exact E.inj i j Y D a I P L R
def qR(E:ER K H T (k.map J) (f.map J))(S:SK A (k.map J++ac m I) (f.map J++ac m I) H l g q)(j:∀(i:Nat) d,f[i]?=J (d,C)->¬A i)
  (R:RV K T H r l g v q):N1 K T (k.map J) (f.map J) H r (iT f g) v q:=by
 obtain⟨d,b⟩:=r
 cases b
 .obtain⟨a,s⟩:=R;obtain⟨c,ow,h⟩:=KW E S j a λ_ _ z=>z;exact⟨h,c,Rep.mono (λ_ _ e _=>e) (λb _ z=>z.imp (ow b) id) s⟩
 obtain⟨p,rfl,n,a,ok⟩:=R;obtain⟨c,ow,h⟩:=KW E S j a (λb o z=>z.elim id λz=>by subst z;exact absurd n o);exact⟨h,p,rfl,n,c,ok.mono (λ_ _ e _=>e) (λb _ z=>z.imp (ow b) id) λ_ e=>e⟩
end
section
variable {P:iF}{w:iu}{K:iA}{g:mB}{base:iJ}{N:iX}{m:Nat}{b:jM}{fs:FS}{c:List V}{H:Hp}{Q:VK}{E:XK}
def TM(h:Hu K (Q1 (AC N) m b fs) c H Q E):(AC c)=m:=by
 obtain⟨T,a,r,d,E0,e,_⟩:=h;unfold Q1 at e;split at e
 .rename_i f;have:=E0.len;simp at this;rw[this];exact f.1
 cases e
def W2(h:Hu K (Q1 (AC N) m b fs) c H Q E):∃L:LL,(∀i,L.p i->i<m)/\tS K (λi=>i∈b) L H fs {nx:=λ_ l=>Q .T2 l,rt:=Q} (L2.qU N c) H:=by
 obtain⟨T,f,r,x,E0,e,u⟩:=h;unfold Q1 at e;split at e
 .rename_i I;obtain⟨h1,Y,C⟩:=I;have n:(AC c)=(AC f):=by simpa using E0.len
  refine⟨⟨λi=>∃d,f[i]?=zx (d,z8),z7⟩,λi ⟨d,hd⟩=>by have:=(qX.mp hd).1;lia,?_⟩;have M:L2.qU N c=c.map zx++ac (AC N-m) z7:=by unfold L2.qU;rw[n,h1]
  have q:∀(i:Nat) d,f[i]?=zx (d,z8)->¬(i∈b):=λi d hd G=>by
   have J:(f.zipIdx)[i]?=zx ((d,z8),i):=by rw[IB,hd];simp
   have:=ku.mp C _ (lK J);simp at this;exact this G
  rw[M]
  have B:FI (λi=>i∈b) ⟨λi=>∃d,f[i]?=zx (d,z8),z7⟩ H (c.map zx++ac (AC N-m) z7) (f.map zx++ac (AC N-m) z7) H:=⟨λi a z=>by obtain⟨d,U,_⟩:=Nx.mp z;exact .inl ⟨d,su.mp U⟩,λ_ z=>z,λj O ⟨d,hd⟩=>q j d hd O,λ_ h=>nomatch h⟩
  cases s:fs (f.map zx++ac (AC N-m) z7)with
  |none=>rw[s]at e;cases e
  |some out=>
   rw[s]at e;refine⟨_,T,out,E0.pad,B,s,?_⟩
   cases out with
   |rt r1 k=>obtain⟨rfl,rfl⟩:=iG e;exact λv t l o A=>u v l<|qR E0 o q A
   |nx k=>obtain⟨rfl,rfl⟩:=iG e;exact λt l o y=>u .T2 l<|qR (r:=(.T2,z9)) E0 o q ⟨y,Rep.ET⟩
   |bk k=>cases e
   |ct k=>cases e
 cases e
def Yu{x qual:aQ}{st:bG}{f:gU}{j:nI}{e:iX}{k:Nat}(F:Ja K x qual st f j)(S:VP N e (ir st))
  (o:∀(d:il)(A:iB)(a:List ek)(s:hJ)(H:Hp)(E:XK)(L:LL),(∀i,L.p i->i<AC e)->Ad k (A.deeper<|cr qual (ir st) s.heap.objs.size f d)->
   Nr (Fu Hz P w K g base N qual (ir st) f d A a s H E).MB (λi=>i∈b) L H (pj st) fs):Bs P w K g base Hz (k+1) f j e (Hu K<|Q1 (AC N) (AC e) b fs):=
 F.ok S (λc H Q E h=>TM h) λd A a s H c Q E n h=>let⟨L,h1,l⟩:=W2 h;⟨_,o d A a s H E L h1 n,l⟩
end
noncomputable def yt(a:Dn):F1->Option (D×Bool)
 |.val r=>J (r.1,Y)
 |.slot i=>(a[i]?).join
def jS(δ:Dn):List F1->Option (List<|D×Bool)
 |[]=>J []
 |o::os=>(yt δ o).bind λa=>(jS δ os).bind λl=>J (a::l)
@[simp] def abm(o:F1)(a:D×Bool):List Nat:=match o with
 |.slot i=>if a.2=C then[i]else[]
 |.val _=>[]
noncomputable def iD:List F1->List (D×Bool)->List Nat
 |[],_=>[]
 |_::_,[]=>[]
 |o::os,a::as=>abm o a++iD os as
@[simp] def wb1(o:F1)(a:D×Bool)(x:Sl)(b:Dn):Dn:=match o with
 |.slot i=>if a.2=C then b.set i x else b
 |.val _=>b
noncomputable def wb:List F1->List (D×Bool)->Dn->Dn->Dn
 |[],_,_,δ=>δ
 |_::_,[],_,δ=>δ
 |_::_,_::_,[],δ=>δ
 |o::os,a::as,x::outs,δ=>wb os as outs<|wb1 o a x δ
def hW(a:OO)(fs:List FO):F:=λδ=>(kd fs δ).bind λp=>(jS p.2 p.1).bind λargs=>if(iD p.1 args).Nodup then(a args).bind λq=>J (q.1,wb p.1 args q.2 p.2)else I
def pV{δ:Dn}:∀{os:List F1}{as:List (D×Bool)},jS δ os=J as->AC as=os.length/\∀(j:Nat) a,as[j]?=J a->∃o,os[j]?=J o/\yt δ o=J a:=by
 intro k
 induction k with
 |nil=>intro as h;cases h;exact⟨rfl,λj d h=>by simp at h⟩
 |cons o os i=>
  intro as h;unfold jS at h;obtain⟨d,h1,h⟩:=gS h;obtain⟨l,c,h⟩:=gS h;cases h;obtain⟨f,g⟩:=i c;refine⟨by simp[f],λj e b=>?_⟩
  cases j with
  |zero=>simp at b;subst b;exact⟨o,rfl,h1⟩
  |succ j=>obtain⟨m,n,p⟩:=g j e (by simpa using b);exact⟨m,by simpa using n,p⟩
theorem uP:∀{os:List F1}{as:List (D×Bool)}{j i:Nat}{d:D},os[j]?=J (.slot i)->as[j]?=J (d,C)->i∈iD os as
 |[],_,_,_,_,h,_=>by simp at h
 |_::_,[],_,_,_,_,h=>by simp at h
 |o::os,(e,b)::as,0,i,d,h1,a=>by simp at h1 a;obtain⟨rfl,rfl⟩:=a;subst h1;simp[iD]
 |o::os,(e,b)::as,j+1,i,d,h1,a=>by
  have c:=uP (os:=os) (as:=as) (j:=j) (i:=i) (d:=d) (by simpa using h1) (by simpa using a)
  cases o with
  |val r=>simpa[iD]using c
  |slot k=>
   cases b
   .simpa[iD]using c
   simp[iD,c]
theorem Dr:∀{os:List F1}{as:List (D×Bool)}{i:Nat},i∈iD os as->∃(j:Nat)(d:D),os[j]?=J (.slot i)/\as[j]?=J (d,C)
 |[],_,_,h=>by simp[iD]at h
 |o::_,[],_,h=>by cases o<;>simp[iD]at h
 |o::os,(e,b)::as,i,h=>by
  have a:i∈iD os as->∃(j:Nat)(d:D),(o::os)[j]?=J (.slot i)/\((e,b)::as)[j]?=J (d,C):=λh=>by obtain⟨j,d,h1,c⟩:=Dr h;exact⟨j+1,d,by simpa using h1,by simpa using c⟩
  cases o with
  |val r=>exact a (by simpa[iD]using h)
  |slot k=>
   cases b
   .exact a (by simpa[iD]using h)
   simp[iD]at h;rcases h with rfl|h
   .exact⟨0,e,rfl,rfl⟩
   exact a h
theorem Ds:∀{os:List F1}{as:List (D×Bool)}{j k i:Nat}{d e:D},(iD os as).Nodup->os[j]?=J (.slot i)->as[j]?=J (d,C)->os[k]?=J (.slot i)->as[k]?=J (e,C)->j=k
 |[],_,_,_,_,_,_,_,h,_,_,_=>by simp at h
 |_::_,[],_,_,_,_,_,_,_,h,_,_=>by simp at h
 |o::os,(n,b)::as,j,k,i,d,e,a,h1,c,f,g=>by
  cases j with
  |zero=>
   cases k with
   |zero=>rfl
   |succ k=>simp at h1 c;obtain⟨rfl,rfl⟩:=c;subst h1;have:=uP (os:=os) (as:=as) (j:=k) (by simpa using f) (by simpa using g);simp[iD]at a;exact absurd this a.1
  |succ j=>
   cases k with
   |zero=>simp at f g;obtain⟨rfl,rfl⟩:=g;subst f;have:=uP (os:=os) (as:=as) (j:=j) (by simpa using h1) (by simpa using c);simp[iD]at a;exact absurd this a.1
   |succ k=>
    have l:(iD os as).Nodup:=by
     cases o with
     |val r=>simpa[iD]using a
     |slot m=>
      cases b
      .simpa[iD]using a
      simp[iD]at a;exact a.2
    have:=Ds (os:=os) (as:=as) (j:=j) (k:=k) l (by simpa using h1) (by simpa using c) (by simpa using f) (by simpa using g)
    lia
theorem AX:∀{os:List F1}{as:List (D×Bool)}{a δ:Dn}{i:Nat},i∉iD os as->(wb os as a δ)[i]?=δ[i]?
 |[],_,_,_,_,_=>by simp[wb]
 |o::_,[],_,_,_,_=>by cases o<;>simp[wb]
 |o::os,(e,b)::as,[],_,_,_=>by cases o<;>cases b<;>simp[wb]
 |o::os,(e,b)::as,x::a,δ,i,h=>by
  cases o with
  |val r=>simp only[wb];exact AX (by simpa[iD]using h)
  |slot k=>
   cases b with
   |true=>simp[iD]at h;rw[wb,AX h.2];exact sJ<|vt h.1
   |false=>simp only[wb];exact AX (by simpa[iD]using h)
theorem AY:∀{os:List F1}{as:List (D×Bool)}{a δ:Dn},(wb os as a δ).length=AC δ
 |[],_,_,_=>by simp[wb]
 |o::_,[],_,_=>by cases o<;>simp[wb]
 |o::os,(e,b)::as,[],_=>by cases o<;>cases b<;>simp[wb]
 |o::os,(e,b)::as,x::a,δ=>by
  cases o with
  |val r=>simp only[wb];exact AY
  |slot k=>
   cases b with
   |true=>simp only[wb];rw[AY];exact tx
   |false=>simp only[wb];exact AY
theorem Kq:∀{os:List F1}{as:List (D×Bool)}{a δ:Dn}{i j:Nat}{d:D}{x:Sl},(iD os as).Nodup->os[j]?=J (.slot i)->as[j]?=J (d,C)->a[j]?=J x->i<AC δ->(wb os as a δ)[i]?=J x
 |[],_,_,_,_,_,_,_,_,h,_,_,_=>by simp at h
 |o::_,[],_,_,_,_,_,_,_,_,h,_,_=>by simp at h
 |o::os,(e,b)::as,[],_,_,_,_,_,_,_,_,h,_=>by simp at h
 |o::os,(e,b)::as,y::a,δ,i,0,d,x,c,h1,f,g,l=>by simp at h1 f g;obtain⟨rfl,rfl⟩:=f;subst h1;subst g;simp[iD]at c;rw[wb,AX c.1];exact vq l
 |o::os,(e,b)::as,y::a,δ,i,j+1,d,x,c,h1,f,g,l=>by
  have n:(iD os as).Nodup:=by
   cases o with
   |val r=>simpa[iD]using c
   |slot m=>
    cases b
    .simpa[iD]using c
    simp[iD]at c;exact c.2
  cases o with
  |val r=>simp only[wb];exact Kq n (by simpa using h1) (by simpa using f) (by simpa using g) l
  |slot k=>
   cases b with
   |true=>simp only[wb];exact Kq n (by simpa using h1) (by simpa using f) (by simpa using g) (by show i<(δ.set k y).length;rw[tx];exact l)
   |false=>simp only[wb];exact Kq n (by simpa using h1) (by simpa using f) (by simpa using g) l
section
variable {K:iA}{T y:SI}{m:L2.St}{δ f:Dn}{H s u:Hp}{os:List F1}{l:List V}{c:List (D×Bool)}{g:Dn}{r:D×Bool}{v:V}
noncomputable def Tc(T:SI)(m:L2.St)(f:Dn)(l:List V)(c:List (D×Bool)):SI:=λa=>T a\/(X0 m f a/\¬X0 (l.map J) (c.map J) a)
def xK(B:Ops K T m δ H os l f s y)(p:jS f os=J c){j:Nat}{d:D}(h:c[j]?=J (d,C)):∃(i:Nat)(a:gU),os[j]?=J (.slot i)/\f[i]?=J (J (d,C))/\l[j]?=J (.ref a)/\m[i]?=J (J<|.ref a):=by
 obtain⟨w,q⟩:=pV p;obtain⟨o,h1,b⟩:=q j _ h
 cases o with
 |val r=>cases b
 |slot i=>
  have e:f[i]?=J (J (d,C)):=qN b;have t:j<(AC l):=by have:=(qX.mp h1).1;have:=B.len;lia
  have hv:l[j]?=J l[j]:=jq t;have k:=B.slt j i _ h1 hv;obtain⟨a,n,_⟩:=B.er.own i d e;rw[k]at n;have:l[j]=V.ref a:=by simpa using n
  exact⟨i,a,h1,e,by rw[hv,this],by rw[k,this]⟩
def Hb(B:Ops K T m δ H os l f s y)(n:jS f os=J c){j:Nat}{a:gU}(h:P1 (l.map J) (c.map J) j a):∃(i:Nat)(d:D),os[j]?=J (.slot i)/\c[j]?=J (d,C)/\P1 m f i a:=by obtain⟨d,h1,k⟩:=h;have e:=su.mp h1;obtain⟨i,b,o,p,q,t⟩:=xK B n e;have:=su.mp k;rw[q]at this;cases this;exact⟨i,d,o,e,d,p,t⟩
def Lq(B:Ops K T m δ H os l f s y)(k:jS f os=J c)(h:X0 (l.map J) (c.map J) a):X0 m f a:=by obtain⟨j,d,h1,b⟩:=h;obtain⟨i,_,_,_,e,n,o⟩:=Hb B k ⟨d,h1,b⟩;exact⟨i,e,n,o⟩
def LS(E:ER K H T m δ)(B:Ops K T m δ H os l f s y)(n:jS f os=zx c)(nd:(iD os c).Nodup):ER K s (Tc T m f l c) (l.map zx) (c.map zx):=by
 obtain⟨P,D⟩:=pV n
 have sub:∀b,(X0 (l.map zx) (c.map zx) b\/Tc T m f l c b)->X0 m f b\/T b:=λb z=>by
  rcases z with z|z|z
  .exact .inl (Lq B n z)
  .exact .inr z
  exact .inl z.1
 refine⟨by simp[P,B.len],λj d h=>?_,λj d h=>?_,λj k d e a h1 p x A=>?_,λa z t=>?_,λa z=>?_⟩
 .have h:=su.mp h;obtain⟨o,h1,p⟩:=D j _ h;have F:j<(AC l):=by have:=(qX.mp h1).1;have:=B.len;lia
  have hv:l[j]?=zx l[j]:=jq F;refine⟨_,su.mpr hv,?_⟩
  cases o with
  |val q=>
   have:q.1=d:=by cases p;rfl
   subst this;exact Rep.mono (λ_ _ e _=>e) (λb _ z=>sub b z)<|B.rep E h1 hv
  |slot i=>
   have x:f[i]?=zx (zx (d,z9)):=qN p;have A:=B.slt j i _ h1 hv;obtain⟨w,G,S⟩:=B.er.val i d x;rw[A]at G;have:l[j]=w:=by simpa using G
   rw[this];exact Rep.mono (λ_ _ e _=>e) (λb _ z=>(sub b z).imp id<|B.tt b) S
 .obtain⟨i,a,Q,C,I,L⟩:=xK B n<|su.mp h;obtain⟨b,O,Y⟩:=B.er.own i d C;rw[L]at O;cases O;exact⟨a,su.mpr I,Y.mono (λ_ _ e _=>e) (λb _ z=>(sub b z).imp id<|B.tt b) λ_ e=>e⟩
 .obtain⟨i,V,Q,C,J,I,L⟩:=Hb B n ⟨d,h1,x⟩;obtain⟨R,W,g1,g2,M,N,U⟩:=Hb B n ⟨e,p,A⟩;have:=B.er.inj i R J M a I N L U;subst this;exact Ds nd Q C g1 g2
 .rcases t with t|t
  .exact B.er.nT a (Lq B n z) (B.tt a t)
  exact t.2 z
 rcases z with z|z
 .exact B.er.dom a (B.tt a z)
 exact B.er.GU z.1
def LU{T' Td:SI}(E:ER K H T m δ)(B:Ops K T m δ H os l f s y)(U:jS f os=zx c)(nd:(iD os c).Nodup)(kC:K2 (l.map zx) (c.map zx) s g u)
  (E':ER K u Td (l.map zx) g)(t1:∀b,Tc T m f l c b->Td b)(t2:∀b,T' b->Td b)(t3:∀b,s b≠I->T' b->T b):
  ER K u T' m (wb os c g f)/\(∀b,X0 m (wb os c g f) b->X0 (l.map zx) g b\/Tc T m f l c b)/\K2 m f s (wb os c g f) u:=by
 obtain⟨hl,hg⟩:=pV U;have ol:(AC g)=(AC c):=by have:=E'.len;have:=B.len;simp at*;lia
 have R:∀(i:Nat)(x:Sl),(wb os c g f)[i]?=zx x->(i∉iD os c/\f[i]?=zx x)\/∃(j:Nat)(d:D),os[j]?=zx (.slot i)/\c[j]?=zx (d,C)/\g[j]?=zx x:=λi x h=>by
  by_cases C':i∈iD os c
  .right;obtain⟨j,d,h1,p⟩:=Dr C';have hj:j<(AC g):=by have:=(qX.mp p).1;lia
   have Z:g[j]?=zx g[j]:=jq hj;have hi:i<(AC f):=by have:=(qX.mp h).1;rwa [AY]at this
   have:=Kq (δ:=f) nd h1 p Z hi;rw[h]at this;cases this;exact⟨j,d,h1,p,Z⟩
  left;rw[AX C']at h;exact⟨C',h⟩
 have L:∀{i:Nat}{a:gU},i∉iD os c->P1 m f i a->¬X0 (l.map zx) (c.map zx) a:=λ{i a} C' ⟨e,q,I'⟩ ⟨j,d,h1,p⟩=>by obtain⟨P,d2,g1,g2,S,J,g4⟩:=Hb B U ⟨d,h1,p⟩;have:=B.er.inj i P e S a q J I' g4;subst this;exact C'<|uP g1 g2
 have Y:∀i a,P1 m (wb os c g f) i a->P1 m f i a/\(X0 (l.map zx) g a\/Tc T m f l c a):=λi a a'=>by
  obtain⟨d,h1,p⟩:=a'
  rcases R i _ h1 with⟨C',A⟩|⟨j,e,g1,g2,J⟩
  .exact⟨⟨d,A,p⟩,.inr<|.inr ⟨⟨i,d,A,p⟩,L C' ⟨d,A,p⟩⟩⟩
  obtain⟨P,b,q,I',M,O⟩:=xK B U g2;rw[g1]at q;cases q;rw[p]at O;cases O;exact⟨⟨e,I',p⟩,.inl ⟨j,d,J,su.mpr M⟩⟩
 have X:∀b,X0 m (wb os c g f) b->X0 (l.map zx) g b\/Tc T m f l c b:=λb ⟨i,d,h1,p⟩=>(Y i b ⟨d,h1,p⟩).2
 have F:∀b,X0 m (wb os c g f) b->X0 m f b:=λb a'=>by
  obtain⟨i,d,h1,p⟩:=a'
  obtain⟨⟨e,q,I'⟩,_⟩:=Y i b ⟨d,h1,p⟩;exact⟨i,e,q,I'⟩
 have W:∀a o,s a=zx o->¬X0 m f a->u a=zx o:=λa o e n=>kC.kp a o e λz=>n<|Lq B U z
 have Q:∀b,(X0 m (wb os c g f) b\/T' b)->X0 (l.map zx) g b\/Td b:=λb z=>by
  rcases z with z|z
  .exact(X b z).imp id (t1 b)
  exact .inr (t2 b z)
 refine⟨⟨by rw[AY];exact B.er.len,λi d h=>?_,λi d h=>?_,λi k d e a h1 p A h4=>?_,λa z t=>?_,λa z=>E'.dom a<|t2 a z⟩,X,⟨W,λi a z=>(Y i a z).1,kC.dm⟩⟩
 .rcases R i _ h with⟨C',A⟩|⟨j,e,g1,g2,J⟩
  .obtain⟨w,G,N⟩:=B.er.val i d A;exact⟨w,G,Rep.mono (λb o e n=>W b o e λz=>n<|.inl z) (λb V z=>z.imp (F b) λz=>B.tt b<|t3 b V z) N⟩
  obtain⟨P,b,q,I',M,O⟩:=xK B U g2;rw[g1]at q;cases q;obtain⟨w,G,N⟩:=E'.val j d J;have:=su.mp G;rw[M]at this;cases this;exact⟨_,O,Rep.mono (λ_ _ e _=>e) (λb _ z=>Q b z) N⟩
 .rcases R i _ h with⟨C',A⟩|⟨j,e,g1,g2,J⟩
  .obtain⟨a,G,N⟩:=B.er.own i d A;exact⟨a,G,N.mono (λb o e n=>W b o e λz=>n<|.inl z) (λb V z=>z.imp (F b) λz=>B.tt b<|t3 b V z) λo e=>kC.kp a o e<|L C' ⟨d,A,G⟩⟩
  obtain⟨P,b,q,I',M,O⟩:=xK B U g2;rw[g1]at q;cases q;obtain⟨a,G,N⟩:=E'.own j d J;have:=su.mp G;rw[M]at this;cases this;exact⟨_,O,N.mono (λ_ _ e _=>e) (λb _ z=>Q b z) λ_ e=>e⟩
 .obtain⟨⟨e1,q,I'⟩,_⟩:=Y i a ⟨d,h1,A⟩;obtain⟨⟨S,M,O⟩,_⟩:=Y k a ⟨e,p,h4⟩;exact B.er.inj i k e1 S a q M I' O
 exact B.er.nT a (F a z) (B.tt a<|t3 a (B.er.GO<|F a z) t)
def yi(E:ER K H T m δ)(B:Ops K T m δ H os l f s y)(j:jS f os=J c)(n:(iD os c).Nodup)(P:N1 K (Tc T m f l c) (l.map J) (c.map J) s r g v u):
  N1 K T m δ H r (wb os c g f) v u:=by
 obtain⟨d,b⟩:=r
 cases b
 .obtain⟨kC,h,t⟩:=P;obtain⟨i,ow,k2⟩:=LU (T':=T) E B j n kC h (λ_ z=>z) (λ_ z=>.inl z) λ_ _ z=>z;refine⟨B.keep.trans k2,i,Rep.mono (λ_ _ e _=>e) (λb _ z=>?_) t⟩;rcases z with z|z
  .exact ow b z
  exact .inr (.inl z)
 obtain⟨kC,p,rfl,k,h,ok⟩:=P;obtain⟨i,ow,k2⟩:=LU (T':=λa=>T a\/a=p) E B j n kC h (λ_ z=>.inl z) (λb z=>z.elim (λz=>.inl (.inl z)) .inr) (λb q z=>z.elim id λz=>by subst z;exact absurd k q);refine⟨B.keep.trans k2,p,rfl,?_,i,ok.mono (λ_ _ e _=>e) (λb _ z=>?_) λ_ e=>e⟩
 .cases o:H p with
  |none=>rfl
  |some w=>exact absurd k<|B.keep.dm p (by rw[o];simp)
 rcases z with z|z|z
 .exact(ow b z).imp id .inl
 .exact .inr (.inl<|.inl z)
 exact .inr (.inr z)
end
section
variable {X:Cx}{e:ig}{b:kb}{fs:List FO}{a p:bp}{k:Nat}{f:gU}{g:nI}{d:iX}{c:OO}{x:aQ}
def T5(F:Bs X.prog X.w X.K X.mg X.base Hz k f g d (Hu X.K c))(L:Ad k X.A)(C:Gl X x)(I:X.mg x=zx (.ref f))(hk:bX X.K (.ref f)=z8)(y:Binds X.K g d [])
  (u:PA X (e::b) (tA X.K fs))(G:(x==("__debug__":aQ))=z9)(z:ai (e::b) X.env=(z9,aU e X.env)::ai b X.env)(s:(bg a<|ai b X.env).any (·.1)=z9):
  PX X (.Call (.Name x p) (e::b) [] a) (hW c fs):=PX.imp (KU F L C I hk y (.nil) V8 u G z s) λN H Q O=>by
 obtain⟨J,T,Y,M,E,e,k⟩:=O;obtain⟨⟨os,j⟩,h1,e⟩:=gS e;obtain⟨h,l,e⟩:=gS e;dsimp only at e;split at e
 .rename_i m;obtain⟨⟨r,i⟩,t,e⟩:=gS e;obtain⟨rfl,rfl⟩:=iG e;refine⟨J,T,os,j,E,h1,λn q U B=>?_⟩;show Hu X.K c (n++[]) q Q E0;rw[we];exact⟨Tc T N j n h,h,r,i,LS E B l m,t,λv o P=>k v o<|yi E B l m P⟩
 cases e
end
structure Hw(A:jX)(d:gU)(σ:L2.St)(δ:Dn)(H:Hp)(σ':L2.St)(δ':Dn)(H':Hp):Prop where
 kp:∀a o,H a=zx o->¬X0 σ δ a->a≠d->H' a=zx o
 owi:∀i a,P1 σ' δ' i a->P1 σ δ i a\/H a=z7\/(A i/\∃j,A j/\P1 σ δ j a)
 dm:∀a,H a≠z7->H' a≠z7
 as:∀i,¬A i->σ'[i]?=σ[i]?
section
variable {A:jX}{d:gU}{c b f:L2.St}{δ δ1 δ2:Dn}{H g l:Hp}
def SK.Jw(k:SK A c δ H b δ1 g):Hw A d c δ H b δ1 g:=⟨λa o e n _=>k.kp a o e n,k.owi,k.dm,k.as⟩
def Hw.ow(k:Hw A d c δ H b δ1 g)(a:gU)(h:X0 b δ1 a):X0 c δ a\/H a=I:=by
 obtain⟨i,e,h1,o⟩:=h;rcases k.owi i a ⟨e,h1,o⟩with⟨e,m,n⟩|z|⟨_,j,_,e,m,n⟩
 .exact .inl ⟨i,e,m,n⟩
 .exact .inr z
 exact .inl ⟨j,e,m,n⟩
def Hw.trans(x:Hw A d c δ H b δ1 g)(y:Hw A d b δ1 g f δ2 l):Hw A d c δ H f δ2 l where
 kp:=λa o e n p=>y.kp a o (x.kp a o e n p) (λz=>(x.ow a z).elim n λz=>by rw[z]at e;cases e) p
 owi:=λi a z=>(y.owi i a z).elim (x.owi i a) λz=>z.elim (λz=>.inr (.inl (by
  cases h:H a with
  |none=>rfl
  |some o=>exact absurd z<|x.dm a<|by rw[h];simp))) λ⟨m,j,q,z⟩=>(x.owi j a z).elim (λz=>.inr (.inr ⟨m,j,q,z⟩)) λz=>z.elim (λz=>.inr (.inl z)) λ⟨_,k,ak,z⟩=>.inr (.inr ⟨m,k,ak,z⟩)
 dm:=λa z=>y.dm a<|x.dm a z
 as:=λi h=>(y.as i h).trans<|x.as i h
end
noncomputable def xv(p:(Int->Bool)×Nat)(d:D):(Int->Bool)×Nat:=match d with
 |.int k=>(λa=>p.1 a||decide (a=k),if p.1 k then p.2 else p.2+1)
 |_=>p
def nM(l:List D):(Int->Bool)×Nat:=l.foldl xv (λ_=>Y,0)
def C7(l:List D)(k:Int):nM (l++[.int k])=((λa=>(nM l).1 a||decide (a=k)),if(nM l).1 k then(nM l).2 else(nM l).2+1):=by unfold nM;rw[IA];rfl
def TU:∀(l:List D)(p:(Int->Bool)×Nat),(l.foldl xv p).2<=p.2+(AC l):=by
 intro b
 induction b with
 |nil=>intro p;exact jw _
 |cons d l a=>
  intro p;have:=a<|xv p d
  have h:(xv p d).2<=p.2+1:=by
   unfold xv;split
   .dsimp only;split<;>lia
   lia
  simp only[oU,kG]
  lia
def AtD(S:Option Bool)(K:iA)(U:Hp)(O:SI)(d:gU)(a:List D):Prop:=match S with
 |some Y=>∃c,U d=J (.lst c)/\YP K U O a c
 |some C=>U d=J (.set (nM a).1 (nM a).2)
 |none=>∃b,Ah K (U d) .set [] a b/\YP K U O a b
structure BS(S:Option Bool)(K:iA)(d:gU)(T:SI)(σ:L2.St)(δ:Dn)(acc:List D)(H:Hp):Prop where
 er:ER K H T σ δ
 td:T d
 at':AtD S K H (λa=>X0 σ δ a\/T a) d acc
abbrev FB:=List D->Dn->Option (List D×Dn)
def GG(S:Option Bool)(K:iA)(A:jX)(d:gU)(f:FB):TB:=λh U N=>∃e T c g a,BS S K d T h e c U/\f c e=J (g,a)/\∀b H',Hw A d h e U b a H'->BS S K d T b a g H'->N b H'
noncomputable def jn(f:F):FB:=λa δ=>(f δ).bind λp=>if (AC a)<sizeLine then J (a++[p.1.1],p.2)else I
noncomputable def jK(b:Tg)(ti:FT)(a:FB):List D->FB
 |[],acc,δ=>J (acc,δ)
 |x::xs,acc,δ=>(b x δ).bind λδ1=>(ti δ1).bind λp=>(if p.1=C then a acc p.2 else J (acc,p.2)).bind λq=>jK b ti a xs q.1 q.2
def FC(c:B0)(d:Tg)(ti:FT)(b:FB):FB:=λa e=>(c e).bind λp=>jK d ti b p.1 a p.2
section
variable {K:iA}{A:jX}{d:gU}{T:SI}{f r:L2.St}{j s:Dn}{p:List D}{H q:Hp}
def BS.step(b:BS S K d T f j p H)(k:SK A f j H r s q)(t:ER K q T r s):BS S K d T r s p q:=by
 refine⟨t,b.td,?_⟩;have h:=b.at'
 have m:∀{l:List D}{i:List V},YP K H (λa=>X0 f j a\/T a) l i->YP K q (λa=>X0 r s a\/T a) l i:=λg=>by
  refine YP.mono (λb o e n=>k.kp b o e λz=>n<|.inl z) (λc u z=>?_) g;rcases z with z|z
  .exact(k.ow c z).elim bj λz=>absurd z u
  exact .inr z
 rcases S with _|_|_
 .obtain⟨v,h1,g⟩:=h;exact⟨v,h1.keep λo e=>k.kp d o e λz=>b.er.nT d z b.td,m g⟩
 .obtain⟨i,h1,g⟩:=h;exact⟨i,k.kp d _ h1 λz=>b.er.nT d z b.td,m g⟩
 exact k.kp d _ h λz=>b.er.nT d z b.td
def Lj(hg:∀v f H Q,tG K A tg v f H Q->g v f H Q)(hi:∀f H Q,tT K ft f H Q->ti f H Q)(hb:∀f H N,GG S K A d fb f H N->tb f H N)
  (b:BS S K d T f j p H)(P O:SI)(ok:JF K J' ds P O q)(s1:∀a o,q a=J o->¬P a->H a=J o)(s0:∀a,q a≠I->X0 f j a\/a=d->P a)(s2:∀a,q a≠I->(X0 f j a\/T a)->O a)(s3:∀a,q a≠I->H a≠I)(e:jK tg ft fb ds p j=J (j7,B))
  (k:∀E t,Hw A d f j H E B t->BS S K d T E B j7 t->N E t):Kx J' g ti tb f H N:=by
 refine⟨λi m l w=>m=AC ds-i/\i<=AC ds/\∃h G,Hw A d f j H l h w/\BS S K d T l h G w/\jK tg ft fb (ds.drop i) G h=J (j7,B),⟨AC ds,by simp,lz _,j,p,SK.refl.Jw,b,by simpa using e⟩,?_⟩;rintro i m l w ⟨rfl,hle,h,G,Y',I',e2⟩
 have hO:∀a,q a≠I->(X0 l h a\/T a)->O a:=λa W z=>by
  rcases z with z|z
  .exact(Y'.ow a z).elim (λz=>s2 a W<|.inl z) λz=>absurd z<|s3 a W
  exact s2 a W (.inr z)
 have aR:∀a o,q a=J o->¬P a->w a=J o:=λa o V n=>Y'.kp a o (s1 a o V n) (λz=>n<|s0 a (by rw[V];simp)<|.inl z) λz=>n<|s0 a (by rw[V];simp)<|.inr z;by_cases F:i<AC ds
 .refine .inr ?_;have hd:ds[i]?=J ds[i]:=jq F;obtain⟨go,yl⟩:=ok.go i _ w hd aR;rw[yM F]at e2;obtain⟨C,h3,e3⟩:=gS e2;obtain⟨⟨c,u⟩,h4,e4⟩:=gS e3;obtain⟨⟨y,M⟩,D,e5⟩:=gS e4;refine⟨go,λx t hy=>?_⟩;obtain⟨ext,rep⟩:=yl x t hy;have eU:ER K t T l h:=I'.er.mono (λb ob eb _=>ext b ob eb) (λ_ _ z=>z) λa z=>(I'.er.dom a z).up<|ext a;have SX:SK A l h w l h t:=(K2.ext ext).sk;have R:=I'.step SX eU;have gG:Hw A d f j H l h t:=Y'.trans SX.Jw;have rx:=rep (λa=>X0 l h a\/T a) hO λb hb z=>z.elim (λz=>I'.er.GO z hb) λz=>(I'.er.dom b z).ne hb;refine hg _ _ _ _ ⟨h,T,ds[i],C,eU,rx,h3,λU S3 Z=>?_⟩;have B3:=R.step S3 Z;have cI:=gG.trans S3.Jw;refine hi _ _ _ ⟨C,T,c,u,Z,h4,λH4 K4 E4=>?_⟩;have S4:SK A U C t U u H4:=K4.sk;have X:=B3.step S4 E4;have L:=cI.trans S4.Jw
  cases c with
  |false=>rw[iC kJ]at D;obtain⟨rfl,rfl⟩:=iG D;exact abB ⟨AC ds-(i+1),by lia,rfl,F,u,G,L,X,e5⟩
  |true=>rw[ie At]at D;exact abA<|hb _ _ _ ⟨u,T,G,y,M,X,D,λσ5 H5 S5 B5=>⟨AC ds-(i+1),by lia,rfl,F,M,y,L.trans S5,B5,e5⟩⟩
 refine .inl ⟨ok.stop i w (by lia) aR,?_⟩;rw[AH<|by lia]at e2;obtain⟨rfl,rfl⟩:=iG e2;exact k l w Y' I'
end
section
variable {X:Cx}{A:jX}{d:gU}{b:ig}{f:F}
def PB.imp'{code:cY Unit}{t e:TB}(h:PB X code t)(k:∀c U N,e c U N->t c U N):PB X code e:=λa s c U N T g=>h a s c U N T<|k c U N g
def Ur{S:Option Bool}{e:ig}{depth:Nat}{c:oQ}{r:B0}{u:Tg}{s:FT}{q:FB}(M:X.xe=λ_ _=>False)(hc:X.calm=z8)
  (hl:(∃b g l p,e=.ListComp b g l p)\/(∃b g l p,e=.SetComp b g l p))(hg:(bK e)[depth+1]?=zx c)(Y:c.is_async=0)(l4:∀t,(bK e)[depth+1+1]?=zx t->t.is_async=0)
  (hs:∀x,aB c.iter X.env x=pure x)(pi:Jt X (λ_=>False) c.target c.iter r)(pg:Ju X A c.target u)(G:JA X c.ifs (tT X.K s))(pb:PB X (jf e (depth+1) (.ref d) X.env) (GG S X.K A d q)):
  PB X (jf e depth (.ref d) X.env) (GG S X.K A d<|FC r u s q):=PB.imp' (XO M hc hl hg Y l4 hs pi pg G pb) λw H N D=>by
 obtain⟨v,T,Q,P,F,B,e,k⟩:=D;obtain⟨⟨U,j⟩,h1,e⟩:=gS e;refine⟨v,T,U,j,B.er,h1,λJ I L C ok=>?_⟩;have n:SK A w v H w j I:=L.sk;exact Lj (λ_ _ _ _ h=>h) (λ_ _ _ h=>h) (λ_ _ _ h=>h) (B.step n C) _ _ ok (λa o e _=>e) (λa _ z=>z.elim (λa'=>by obtain⟨i,x,z⟩:=a';exact .inl ⟨i,id,x,z⟩) λz=>.inr (z▸B.td)) (λa _ z=>z) (λa z=>z) e λm E O y=>k m E (n.Jw.trans O) y
end
def iL(caps:jM)(k:Nat)(fi:B0)(tg:Tg)(ti:FT)(a:FB):F:=λδ=>(fi δ).bind λp=>(jS p.2<|caps.map .slot).bind λargs=>if(iD (caps.map .slot) args).Nodup then(jK tg ti a p.1 []<|args.map J++ac k I).bind λq=>J ((.lst q.1,C),wb (caps.map .slot) args (iT args q.2) p.2)else I
noncomputable def Ct(a:jM)(k:Nat)(b:L2.St):L2.St:=(a.map λj=>(b[j]?).join)++ac k I
def o0(S:Option Bool):HO:=match S with
 |some Y=>.lst []
 |some C=>.set (λ_=>Y) 0
 |none=>.SS []
noncomputable def qS(S:Option Bool)(Q:VK):VK:=match S with
 |some Y|none=>Q
 |some C=>λx b=>∃S n,∃a,x=.ref a/\b a=J (.set S n)/\Q (.int n) b
def rS(S:Option Bool)(a:List D):D×Bool:=match S with
 |some Y=>(.lst a,C)
 |none=>(.R1 .set [] a,C)
 |some C=>(.int (nM a).2,Y)
def JS(S:Option Bool)(b:jM)(k:Nat)(d:B0)(e:Tg)(ti:FT)(c:FB):F:=λf=>(d f).bind λp=>(jS p.2<|b.map .slot).bind λa=>if(iD (b.map .slot) a).Nodup then(jK e ti c p.1 []<|a.map J++ac k I).bind λq=>J (rS S q.1,wb (b.map .slot) a (iT a q.2) p.2)else I
def zw{S:Option Bool}{K:iA}{f:jM}{k:Nat}{fi:B0}{tg:Tg}{ti:FT}{fb:FB}{p:L2.St}{H:Hp}{Q:VK}(h:tF K (JS S f k fi tg ti fb) p H Q):
  tI K (λi=>i∉f) fi p H λJ' q=>Gj (o0 S) J' (tG K (λi=>AC f<=i) tg) (tT K ti) (λd=>GG S K (λi=>AC f<=i) d fb) (Ct f k) p q (qS S Q):=by
 obtain⟨δ,T,rr,δr,E,e,kq⟩:=h;obtain⟨⟨ds,s⟩,h1,e⟩:=gS e;obtain⟨g,t,e⟩:=gS e;dsimp only at e t;split at e
 case isFalse=>cases e
 rename_i Y;obtain⟨⟨m,δ'⟩,h2,e⟩:=gS e;obtain⟨rfl,rfl⟩:=iG e;refine⟨δ,T,ds,s,E,h1,λJ' q D A ok d hd=>?_⟩;obtain⟨hl,hg⟩:=pV t;have fP:(AC g)=(AC f):=by simpa using hl
 let C:List V:=f.map λj=>((p[j]?).join).getD .T2
 have there:∀(i j:Nat),f[i]?=J j->∃v,p[j]?=J (J v):=λi j l=>by
  have hi:i<(AC g):=by have:=(qX.mp l).1;lia
  obtain⟨o,u,q2⟩:=hg i _ (jq hi);rw[jv,l]at u;cases u;have O:=qN q2;generalize g[i]=y at O;obtain⟨x,b⟩:=y
  cases b
  .obtain⟨v,h,_⟩:=A.val j x O;exact⟨v,h⟩
  obtain⟨a,h,_⟩:=A.own j x O;exact⟨_,h⟩
 have Z:∀(i j:Nat),f[i]?=J j->∃v,C[i]?=J v/\p[j]?=J (J v):=λi j l=>by obtain⟨v,hv⟩:=there i j l;refine⟨v,?_,hv⟩;show(f.map λj=>((p[j]?).join).getD .T2)[i]?=J v;rw[jv,l];simp[hv]
 have ay:Ct f k p=C.map J++ac k z7:=by
  unfold Ct
  congr 1
  apply AG;intro i;show _=((f.map λj=>((p[j]?).join).getD .T2).map J)[i]?;rw[jv,jv,jv]
  cases l:f[i]? with
  |none=>rfl
  |some j=>obtain⟨v,hv⟩:=there i j l;simp[hv]
 have I:Ops K T p s q (f.map F1.slot) C s q T:=by
  refine⟨by simp[C],.refl,A,λ_ z=>z,λj x v l=>?_,λj x v l=>?_,λj i v l hv=>?_⟩
  .rw[jv]at l;obtain⟨_,_,z⟩:=jy l;cases z
  .rw[jv]at l;obtain⟨_,_,z⟩:=jy l;cases z
  rw[jv]at l;obtain⟨c,X,z⟩:=jy l;cases z;obtain⟨v',u,q2⟩:=Z j i X;rw[hv]at u;cases u;exact q2
 have L:=LS A I t Y
 have W:∀(i:Nat) x,g[i]?=J (x,z8)->¬(AC f<=i):=λi x B=>by
  have:=(qX.mp B).1
  lia
 rw[ay];have B:=lW (o:=o0 S) hd
 have nz:∀a,q a≠z7->upd q d (o0 S) a≠z7:=λa z=>by
  cases U:q a with
  |none=>exact absurd U z
  |some o=>rw[B a o U];simp
 have b0:BS S K d (λa=>Tc T p s C g a\/a=d) (C.map J++ac k z7) (g.map J++ac k z7) [] (upd q d<|o0 S):=by
  refine⟨(L.pad).mono (λb o eb _=>B b o eb) (λb hb z=>z.elim id λz=>by subst z;exact absurd hd hb) λa z=>?_,.inr At,?_⟩
  .rcases z with z|z
   .exact(L.dom a z).up (B a)
   subst z;rw[iQ];rcases S with _|_|_<;>trivial
  rcases S with _|_|_
  .exact⟨[],⟨rfl,[],iQ,.nil⟩,YP.nil⟩
  .exact⟨[],iQ,YP.nil⟩
  exact iQ
 refine Lj (λ_ _ _ _ h=>h) (λ_ _ _ h=>h) (λ_ _ _ h=>h) b0 _ _ ok (λa o N _=>B a o N) (λa R z=>?_) (λa R z=>?_) nz h2 λσ' G M w=>?_
 .rcases z with z|z
  .obtain⟨j,x,g1,g2⟩:=Qr.mp z;obtain⟨i,_,u,_,O⟩:=Hb I t ⟨x,g1,g2⟩;refine .inl ⟨i,λn=>n ?_,O⟩;rw[jv]at u;obtain⟨c,X,e⟩:=jy u;cases e;exact lK X
  subst z;exact absurd hd R
 .rcases z with z|z|z
  .exact .inl (Lq I t<|Qr.mp z)
  .rcases z with z|z
   .exact .inr z
   exact .inl z.1
  subst z;exact absurd hd R
 have F:SK (λi=>AC f<=i) (C.map J++ac k z7) (g.map J++ac k z7) q σ' δ' G:=
  ⟨λa o N n=>M.kp a o (B a o N) n (by intro z;subst z;rw[N]at hd;cases hd),λi a z=>(M.owi i a z).imp id λz=>z.imp (λz=>by
   cases U:q a with
   |none=>rfl
   |some o=>exact absurd z<|nz a<|by rw[U];simp) id,λa z=>M.dm a<|nz a z,M.as⟩
 rcases S with _|_|_
 .obtain⟨us,hy,ry⟩:=w.at';have P:=qR (r:=(.R1 .set [] m,z8)) (v:=.ref d) L F W ⟨d,rfl,hd,w.er,us,hy,YP.mono (λ_ _ e _=>e) (λb _ z=>z) ry⟩;exact kq (.ref d) G<|(yi A I t Y P).pre D
 .obtain⟨ys,hy,ry⟩:=w.at';have P:=qR (r:=(.lst m,z8)) (v:=.ref d) L F W ⟨d,rfl,hd,w.er,ys,hy,YP.mono (λ_ _ e _=>e) (λb _ z=>z) ry⟩;exact kq (.ref d) G<|(yi A I t Y P).pre D
 have P:=qR (r:=(.int (nM m).2,z9)) (v:=.int (nM m).2) L F W ⟨w.er.mono (λ_ _ e _=>e) (λb _ z=>.inl z) λa z=>w.er.dom a<|.inl z,Rep.mkInt⟩;exact⟨_,_,d,rfl,w.at',kq (.int (nM m).2) G<|(yi A I t Y P).pre D⟩
def HG{K:iA}{a:jM}{k:Nat}{c:B0}{e:Tg}{ti:FT}{b:FB}{f:L2.St}{U:Hp}{Q:VK}(h:tF K (iL a k c e ti b) f U Q):
  VW (tI K (λi=>i∉a) c) (tG K (λi=>AC a<=i) e) (tT K ti) (λd=>GG Y K (λi=>AC a<=i) d b) (Ct a k) f U Q:=zw (S:=Y) h
section
variable {X:Cx}{elt:ig}{c:oQ}{rest:qb}{scope:jU}{pos g9 py:bp}{N':iX}{caps:jM}{k:Nat}{fi:B0}{tg:Tg}{ti:FT}{fb:FB}{A:jX}{L:LL}{H0:Hp}
structure CI(X:Cx)(N':iX)(scope:jU)(caps:jM)(k:Nat):Prop where
 cell:∀y∈scope.names,y.2=.cell->scope.names.lookup y.1=zx .cell
 kind:scope.kind=.function
 names:∀y∈scope.names,y.2=.local->scope.names.lookup y.1=zx .local
 free:∀y∈scope.names,y.2=.free->X.env.scope.names.lookup y.1=zx .cell\/X.env.scope.names.lookup y.1=zx .free
 len:(AC caps)+k=AC N'
 caps:∀(i j:Nat)(x:aQ),caps[i]?=zx j->N'[i]?=zx x->X.N[j]?=zx x/\scope.names.lookup x=zx .free
def CI.Nc(U:CI X N' scope caps k):B7 X N' scope (Ct caps k):=by
 refine⟨U.cell,U.kind,U.names,U.free,λd=>by simp[Ct,U.len],λd i v x h1 f=>?_⟩;unfold Ct at h1;by_cases b:i<AC caps
 .rw[rV<|by simpa using b,jv,jq b]at h1;obtain⟨g,h⟩:=U.caps i caps[i] x (jq b) f;refine⟨h,caps[i],g,?_⟩;have a:(d[caps[i]]?).join=J v:=by simpa using h1
  cases e:d[caps[i]]? with
  |none=>rw[e]at a;cases a
  |some y=>rw[e]at a;exact nc J a
 rw[qg<|by simpa using b,cV]at h1;split at h1<;>cases h1
def T8(U:CI X N' scope caps k)(l:X.calm=C)(j:c.is_async=0)(n:∀e,rest[0]?=J e->e.is_async=0)
  (m:∀x,aB c.iter X.env x=pure x)(q:Jt X (λi=>i∉caps) c.target c.iter fi)
  (p:∀(cl:lI)(U:gU)(r:hJ)(f:Hp)(fp:ki)(a:iO),let b:=X.comp N' scope cl U r f fp a
   Ju b (λi=>AC caps<=i) c.target tg/\JA b c.ifs (tT X.K ti)/\∀d,PB b (jf (.ListComp elt (c::rest) scope pos) 0 (.ref d) b.env)<|GG Y X.K (λi=>AC caps<=i) d fb):
  PX X (.ListComp elt (c::rest) scope pos) (iL caps k fi tg ti fb):=PX.imp (EL (o:=.lst []) (fp:=c.iter.pos) (new:=m4 []) (g:=tG X.K (λi=>AC caps<=i) tg) (ti:=tT X.K ti) (tb:=λd=>GG Y X.K (λi=>AC caps<=i) d fb) U.Nc l j n m q p (λ_ _ _ k=>oq<|k _ λ_=>⟨lz _,[],0,.nil,kc _ rfl⟩) (.inl ⟨_,_,_,_,rfl⟩) (hev:=by cases c;rfl)) λs T Q h=>HG h
def P0{y:aQ}{i:Nat}(m:de (.ListComp elt (c::rest) scope pos) (J<|.Name y py) g9.line X.env=pure C)
  (N:CI X N' scope caps k)(u:X.calm=C)(t:c.is_async=0)(I:∀h,rest[0]?=J h->h.is_async=0)
  (z:∀x,aB c.iter X.env x=pure x)(Q:Jt X (λi=>i∉caps) c.target c.iter fi)(n:PG X (.Name y py) (Ho i))(s:A i)
  (O:∀(cl:lI)(N:gU)(G:hJ)(l:Hp)(o:ki)(a:iO),let b:=X.comp N' scope cl N G l o a
   Ju b (λi=>AC caps<=i) c.target tg/\JA b c.ifs (tT X.K ti)/\∀d,PB b (jf (.ListComp elt (c::rest) scope pos) 0 (.ref d) b.env)<|GG Y X.K (λi=>AC caps<=i) d fb):
  Mn X A L H0 (.Assign [.Name y py] (.ListComp elt (c::rest) scope pos) g9) (jo i<|iL caps k fi tg ti fb):=PS.imp' (P7 (g:=tG X.K (λi=>AC caps<=i) tg) (ti:=tT X.K ti) (tb:=λd=>GG Y X.K (λi=>AC caps<=i) d fb) m N.Nc u t I z Q n O) λD M H B=>by
 obtain⟨U,T,out,E,fi,e,k⟩:=B;obtain⟨⟨r,f⟩,q,e⟩:=gS e;obtain⟨w,rfl⟩:=iK e;refine HG ⟨U,T,r,f,E,q,λv j P=>?_⟩;obtain⟨h1,p⟩:=A7 (A:=A) E P w s;exact k _ j h1 p
end
section
variable {K:iA}{T:SI}{d:L2.St}{c:Dn}{H:Hp}{i:Nat}{l m:List D}{a:gU}{g:List V}
def P1.CM{j:Nat}{b:gU}(hd:c[i]?=J (J (k,C)))(h:P1 d (c.set i<|J (d',C)) j b):P1 d c j b:=by
 obtain⟨e,h1,f⟩:=h;rcases nq h1 with⟨rfl,_,_⟩|⟨_,q⟩
 .exact⟨_,hd,f⟩
 exact⟨e,q,f⟩
def ER.CM(E:ER K H T d c)(hd:c[i]?=zx (zx (U,z8)))(t:d[i]?=zx (zx<|.ref a))(r:Ae K (upd H a o) (λb=>X0 d c b\/T b) d' a):
  ER K (upd H a o) T d (c.set i<|zx (d',z8))/\K2 d c H (c.set i<|zx (d',z8)) (upd H a o):=by
 have Y:i<(AC c):=(qX.mp hd).1;have v:X0 d c a:=⟨i,_,hd,t⟩
 have B:∀b,X0 d (c.set i<|zx (d',z8)) b->X0 d c b:=λb a'=>by
  obtain⟨j,e,h1,s⟩:=a'
  obtain⟨O,x,y⟩:=P1.CM hd ⟨e,h1,s⟩;exact⟨j,O,x,y⟩
 have I:∀b u,H b=zx u->¬(X0 d c b\/T b)->upd H a o b=zx u:=λb u e n=>by rw[iW<|by intro z;subst z;exact n<|.inl v];exact e
 have L:∀b,H b≠z7->upd H a o b≠z7:=λb z=>by
  by_cases C:b=a
  .subst C;rw[iQ];simp
  rw[iW C];exact z
 have sub:∀b,(X0 d (c.set i<|zx (d',z8)) b\/T b)->X0 d c b\/T b:=λb z=>z.imp (B b) id;refine⟨⟨by rw[tx];exact E.len,λj e h=>?_,λj e h=>?_,λj k e f b h hk h1 s=>?_,λb z=>E.nT b<|B b z,λb z=>by have ne:b≠a:=λe=>E.nT a v<|e▸z;rw[iW ne];exact E.dom b z⟩,⟨λb u e n=>by rw[iW<|by intro z;subst z;exact n v];exact e,λj b z=>P1.CM hd z,L⟩⟩
 .rcases nq h with⟨_,_,q⟩|⟨_,q⟩
  .cases q
  obtain⟨w,p,A⟩:=E.val j e q;exact⟨w,p,Rep.mono I (λb _ z=>sub b z) A⟩
 .rcases nq h with⟨rfl,_,q⟩|⟨ne,q⟩
  .cases q;exact⟨a,t,r.mono (λ_ _ e _=>e) (λb _ z=>sub b z) λ_ e=>e⟩
  obtain⟨b,p,A⟩:=E.own j e q;refine⟨b,p,A.mono I (λb _ z=>sub b z) λu J=>?_⟩;rw[iW]
  .exact J
  intro z;subst z;exact ne<|E.inj i j _ _ _ hd q t p
 obtain⟨Q,x,y⟩:=P1.CM hd ⟨e,h,h1⟩;obtain⟨G,M,N⟩:=P1.CM hd ⟨f,hk,s⟩;exact E.inj j k Q G b x M y N
def ER.write(E:ER K H T d c)(hd:c[i]?=J (J (.lst l,C)))(f:d[i]?=J (J<|.ref a))(r:YP K H (λb=>X0 d c b\/T b) m g):
  ER K (upd H a<|.lst g) T d (c.set i<|J (.lst m,C))/\K2 d c H (c.set i<|J (.lst m,C)) (upd H a<|.lst g):=
 E.CM hd f ⟨g,iQ,YP.mono (λb o e n=>by rw[iW<|by intro z;subst z;exact n<|.inl ⟨i,_,hd,f⟩];exact e) (λ_ _ z=>z) r⟩
end
noncomputable def kE(i:Nat)(f:F):F:=λδ=>match δ[i]? with
 |some (J (.lst _,C))=>(f δ).bind λp=>match p.2[i]? with
  |some (J (.lst l,C))=>if (AC l)<sizeLine then J ((.T2,Y),p.2.set i<|J (.lst<|l++[p.1.1],C))else I
  |_=>I
 |_=>I
def BW(i:Nat)(f:FO):F:=λa=>match a[i]? with
 |some (J (.lst _,C))=>(f a).bind λp=>match res p.2 p.1,p.2[i]? with
  |some (.int k),J (J (.lst l,C))=>if -(2^63)<=k/\k<2^63 then(EO (AC l) k).bind λj=>(l[j]?).bind λd=>J ((d,Y),p.2.set i<|J (.lst<|l.eraseIdx j,C))else I
  |_,_=>I
 |_=>I
def wD(i:Nat)(f:F)(g:FO):FS:=λa=>(f a).bind λp=>match p.2[i]? with
 |some (J _)=>(g p.2).bind λq=>match res q.2 q.1,q.2[i]? with
  |some (.int k),J (J (.lst l,C))=>(EO (AC l) k).bind λj=>J<|.nx<|q.2.set i<|J (.lst<|l.set j p.1.1,C)
  |_,_=>I
 |_=>I
section
variable {X:Cx}{e g:ig}{f:F}{k:FO}{b m a c:bp}{i:Nat}{x:aQ}{A:jX}{L:LL}{n:Hp}
theorem YP.erase{K U}{O:SI}:∀{l:List D}{o:List V}(j:Nat),YP K U O l o->YP K U O (l.eraseIdx j) (o.eraseIdx j)
 |[],o,j,h=>by rw[YP]at h;subst h;simp[YP]
 |d::l,o,0,h=>by rw[YP]at h;obtain⟨v,r,rfl,h1,p⟩:=h;exact p
 |d::l,o,j+1,h=>by rw[YP]at h;obtain⟨v,r,rfl,h1,p⟩:=h;exact YP.cons h1<|YP.erase j p
end
noncomputable def Jh(b:Tg)(f:F):FS:=λc=>(f c).bind λp=>(b p.1.1 p.2).bind λa=>J<|.nx a
section
variable {X:Cx}{A:jX}{L:LL}{m:Hp}{a b h e:ig}{fs:List F}{f:F}{t:Tg}{c l k pt d:bp}{x y:aQ}{i j:Nat}{kt k2}
def Ua{id:String}{p:bp}{n:kb}{o:List FO}{g:List D->Option (D×Bool)}{z:aQ}(s:kg X (.builtin id) (Cz X.K g))(v:Gl X z)(w:X.mg z=I)(hv:aI z=J (.builtin id))(r:PA X (e::n) (tA X.K o))(B:z≠"__name__")(U:(z==("__debug__":aQ))=Y)
  (u:ai (e::n) X.env=(Y,aU e X.env)::ai n X.env)(q:(bg c<|ai n X.env).any (·.1)=Y):PX X (.Call (.Name z p) (e::n) [] c) (iw g o):=pxn<|Bp s v w hv r B U u q
def T6{id:String}{p:bp}{n:kb}{o:List FO}{g:List D->Option (D×Bool)}{z:aQ}(s:kg X (.type id) (Cz X.K g))(v:Gl X z)(w:X.mg z=I)(hv:aI z=J (.type id))(r:PA X (e::n) (tA X.K o))(B:z≠"__name__")(U:(z==("__debug__":aQ))=Y)
  (u:ai (e::n) X.env=(Y,aU e X.env)::ai n X.env)(q:(bg c<|ai n X.env).any (·.1)=Y):PX X (.Call (.Name z p) (e::n) [] c) (iw g o):=pxn<|qK s v w hv r B U u q
end
def YS:aI "len"=J (.builtin "len"):=by decide+kernel
def YT:aI "abs"=J (.builtin "abs"):=by decide+kernel
noncomputable def Fw(N:iX)(c scope:jU)(b:iX)(a:jM)(k:Nat):Bool:=
 (scope.names.all λy=>y.2 != .cell||scope.names.lookup y.1==J .cell)&&decide (scope.kind=.function)&&(scope.names.all λy=>y.2 != .local||scope.names.lookup y.1==J .local)&&
 (scope.names.all λy=>y.2 != .free||(c.names.lookup y.1==J .cell||c.names.lookup y.1==J .free))&&decide (AC a+k=AC b)&&
 ((a.zip b).all λp=>N[p.1]?==J p.2&&scope.names.lookup p.2==J .free)
def Sz(m:X.N=N)(p:X.env.scope=sc)(h:Fw N sc scope N' a k=C):CI X N' scope a k:=by
 subst m;subst p;unfold Fw at h;simp only[la,ku,qw]at h;obtain⟨⟨⟨⟨⟨h1,c⟩,d⟩,f⟩,g⟩,l⟩:=h;refine⟨λy b e=>?_,c,λy b e=>?_,λy b e=>?_,g,λi j x n q=>?_⟩
 .have:=h1 y b;rw[e]at this;simpa using this
 .have:=d y b;rw[e]at this;simpa using this
 .have:=f y b;rw[e]at this;simpa using this
 have o:(j,x)∈a.zip N':=by
  have:(a.zip N')[i]?=J (j,x):=by rw[FP];exact⟨n,q⟩
  exact lK this
 have:=l _ o;simpa using this
noncomputable def je:FT:=λδ=>J (C,δ)
inductive Ty where
 |int|bool|str|tuple|list|dict
noncomputable def Ty.n:Ty->String
 |.int=>"int"|.bool=>"bool"|.str=>"str"|.tuple=>"tuple"|.list=>"list"|.dict=>"dict"
noncomputable def IV:D->Ty->Bool
 |.bl _,.bool=>C
 |.bl _,.int=>C
 |.int _,.int=>C
 |.str _,.str=>C
 |.tup _,.tuple=>C
 |.lst _,.list=>C
 |.R1 .dct _ _,.dict=>C
 |_,_=>Y
noncomputable def tyD:D->String
 |.T2=>"NoneType"|.bl _=>"bool"|.int _=>"int"|.str _=>"str"|.tup _=>"tuple"|.lst _=>"list"|.R1 .dct _ _=>"dict"|.R1 .set _ _=>"set"|.R1 _ _ _=>"NoneType"
section
variable {X:Cx}{b:iO}{c:L2.St}{H:Hp}{s:hJ}
def Hg(K:iA)(d:D)(t:Ty):c5 K (.type<|tyD d) (.type t.n)=J (IV d t):=by
 cases d with
 |R1 k _ _=>cases k<;>cases t<;>with_unfolding_all rfl
 |_=>cases t<;>with_unfolding_all rfl
def Jr(T:Inv X b c H s)(h:Ah X.K (H a) k l i us)(hk:k=.dct\/k=.set:=by first|exact .inl rfl|exact .inr At):s.TypeIs (.ref a) (tyD<|.R1 k l i):=by
 cases k with
 |dct=>
  rcases h with⟨d,e,_⟩|⟨d,e,_⟩
  .obtain⟨_,_,i,_,o,g,j,h1,f,_⟩:=(show S1 X.prog X.w H s.heap a (.dK d)from T.hok a _ e)
   exact⟨o,h1,f.1⟩
  obtain⟨_,_,p,_,o,g,j,h1,f,_⟩:=(show S1 X.prog X.w H s.heap a (.dT d)from T.hok a _ e)
  exact⟨o,h1,f.1⟩
 |set=>
  obtain⟨_,m,e,_⟩:=h;obtain⟨g,n,t,h1,_⟩:=(show S1 X.prog X.w H s.heap a (.SS m)from T.hok a _ e)
  exact⟨_,h1,rfl⟩
 |exc U=>rcases hk with z|z<;>cases z
 |_=>exact h.elim
def qB{K H}(h:jT K H O (.R1 k g f) v):∃a d,v=.ref a/\Ah K (H a) k g f d/\YP K H O f d:=by
 rcases h with h|⟨a,rfl,h⟩
 .obtain⟨a,d,e,q,r⟩:=h.R1;exact⟨a,d,e,q.2,r⟩
 obtain⟨d,e,r⟩:=h;exact⟨a,d,rfl,e,r⟩
end
def abW{K:iA}{U:Nat}(h:∀n∈["int","bool","str","tuple","list","dict"],c5 K (.ref U) (.type n)=J Y)(t:Ty){a b:List D}:c5 K (.ref U) (.type t.n)=J (IV (.R1 (.exc U) a b) t):=by
 cases t<;>exact h _ (by simp[Ty.n])
section
variable {X:Cx}{c:iO}{f:L2.St}{H:Hp}{s:hJ}
def adz(T:Inv X c f H s)(hd:jT X.K H O d x)(g:RelV x u)(h:∀m,Q (.bool<|IV d t) {s with toks:=m}):
  ae (ah X.prog X.w) A (call (.builtin "isinstance") [u,.type t.n]) Q E s:=by
 cases d with
 |T2=>have:=ag9 hd;subst this;cases g;exact qZ PySem.W.kitx_none T.Gv bB (Hg X.K .T2 t) (λz=>nomatch z) h
 |bl b=>have:=Kr hd;subst this;cases g;exact qZ PySem.W.kitx_bool T.Gv bB (Hg X.K (.bl b) t) (λz=>nomatch z) h
 |int b=>have:=iP hd;subst this;obtain⟨m,rfl⟩:=g;exact qZ PySem.W.kitx_int T.Gv bB (Hg X.K (.int b) t) (λz=>nomatch z) h
 |str b=>have:=A0 hd;subst this;obtain⟨m,rfl⟩:=g;exact qZ PySem.W.kitx_str T.Gv bB (Hg X.K (.str b) t) (λz=>nomatch z) h
 |tup l=>obtain⟨a,y,rfl,q,_⟩:=lM hd;cases g;obtain⟨j,_,⟨o,h1,i,_⟩,_⟩:=T.tuple q;exact qZ PySem.W.kitx_tuple T.Gv ⟨o,h1,i⟩ (Hg X.K (.tup l) t) (λz=>nomatch z) h
 |lst l=>obtain⟨a,y,rfl,q,_⟩:=kL hd;cases g;obtain⟨j,_,⟨o,n,h1,i,_⟩,_⟩:=T.list q;exact qZ PySem.W.kitx_list T.Gv ⟨o,h1,i⟩ (Hg X.K (.lst l) t) (λz=>nomatch z) h
 |R1 k p r=>
  obtain⟨a,B,rfl,q,_⟩:=qB hd;cases g
  cases k with
  |dct=>exact qZ PySem.W.kitx_dict T.Gv (Jr T q) (Hg X.K (.R1 .dct p r) t) (λz=>nomatch z) h
  |set=>exact qZ PySem.W.kitx_set T.Gv (Jr T q) (Hg X.K (.R1 .set p r) t) (λz=>nomatch z) h
  |exc U=>obtain⟨_,o,e,h1,i,v⟩:=q;exact qZ (i a) T.Gv (show S1 X.prog X.w H s.heap a (.Aj o<|.own 0)from T.hok a _ e).1 (abW v t) (λz=>nomatch z) h
  |_=>exact q.elim
end
def Ff(a:List Ty)(d:D):Option (D×Bool):=J (.bl<|a.any<|IV d,Y)
section
variable {X:Cx}{e:ig}{c:FO}{b p a:bp}{z:aQ}
def Xq{t:Ty}(G:PO X e c)(M:Gl X "isinstance")(N:X.mg "isinstance"=z7)(y:Gl X z)(f:X.mg z=z7)(hz:aI z=zx (.type t.n))(U:z≠"__name__")(l7:(z==("__debug__":aQ))=z9)(hv:aI "isinstance"=zx (.builtin "isinstance"))
  (s1:ai [e,.Name z a] X.env=(z9,aU e X.env)::ai [.Name z a] X.env)(s2:ai [.Name z a] X.env=(z9,aU (.Name z a) X.env)::ai [] X.env)(A:(bg b<|ai [.Name z a] X.env).any (·.1)=z9):
  PX X (.Call (.Name "isinstance" p) [e,.Name z a] [] b) (pe (Ff [t]) c):=by
 have J:kg X (.builtin "isinstance") (λm H Q=>∃(O:SI)(d:D)(x:V),m=[x,.ty t.n]/\jT X.K H O d x/\Q (.bl<|IV d t) H):=by intro l s S H m us Q I r h;obtain⟨O,d,x,rfl,hd,q⟩:=h;obtain⟨u,w',rfl,F,w⟩:=Ge r;cases w;exact adz I hd F λtk=>⟨.bl _,H,I.tok _,rfl,q⟩
 refine PX.imp (Bp J M N hv (qk G (qk (Uq (v:=.ty t.n) y f hz At U l7) wJ s2) s1) (by decide) (by decide) s1 A) λS H Q Y=>?_;obtain⟨P,T,Z,R,E,e,k⟩:=Y;obtain⟨⟨o,g⟩,h1,e⟩:=gS e;obtain⟨x,C,e⟩:=gS e;obtain⟨zz,L,e⟩:=gS e;cases L;obtain⟨rfl,rfl⟩:=iG e;refine⟨P,T,o,g,E,h1,λv W i=>?_⟩;have B:=Ops.cons E i<|Ops.nil<|i.er E;refine⟨_,x,v,rfl,B.view (j:=0) At At C,?_⟩;have:=(B.done k).bl;simpa using this
end
noncomputable def uV:List D->Option (List Bool)
 |[]=>J []
 |.bl b::l=>(uV l).map (b:: ·)
 |_::_=>I
def wQ:D->Option (D×Bool)
 |.lst l=>(uV l).map λbs=>(.bl<|bs.all id,Y)
 |_=>I
def Hs:D->Option (D×Bool)
 |.lst l=>(uV l).map λbs=>(.bl<|bs.any id,Y)
 |_=>I
theorem Ab{K U}{O:SI}:∀{l:List D}{bs:List Bool}{e:List V}{d:ju},uV l=J bs->YP K U O l e->Vals e d->LSm.BoolsAre d bs
 |[],bs,e,d,h,r,v=>by
  cases h;rw[YP]at r;subst r;cases v;exact .nil
 |.bl b::l,bs,e,d,h,r,v=>by
  obtain⟨f,h1,rfl⟩:=jy h;rw[YP]at r;obtain⟨x,j,rfl,g,i⟩:=r;have:=g.bl;subst this
  cases v with
  |cons a c=>cases a;exact .cons b<|Ab h1 i c
 |.T2::l,_,_,_,h,_,_=>by cases h
 |.int _::l,_,_,_,h,_,_=>by cases h
 |.str _::l,_,_,_,h,_,_=>by cases h
 |.tup _::l,_,_,_,h,_,_=>by cases h
 |.lst _::l,_,_,_,h,_,_=>by cases h
 |.R1 _ _ _::l,_,_,_,h,_,_=>by cases h
section
variable {X:Cx}
def aeD{h a:iJ}{o:dS}(hk:∀b x,b∉[h.objs.size]->(h.push o).get? b=J x->a.get? b=J x)(b:gU)(x:dS)(e:h.get? b=J x):a.get? b=J x:=
 hk b x (λz=>by have:=yw.mp z;subst this;exact absurd (jc e)<|pz _) (jJ _ e)
def LQ(q:Bool)(B:X.calm=C):kg X (.builtin (if q then "all" else "any")) (Cz X.K<|g1 (if q then wQ else Hs)):=nC λm s U M x u Q O d z I N np hd j G=>by
 cases d with
 |lst l=>
  cases q<;>(
   obtain⟨bs,y,rfl⟩:=jy j;obtain⟨p,T,rfl,q,r⟩:=kL hd;cases N;obtain⟨a,v,c,_⟩:=I.list q;have are:=Ab y r v;have k:X.A.in1.handled=z7:=I.ok.hd B;have f:p<s.heap.objs.size:=by obtain⟨_,e,_⟩:=c.isList;exact jc e
   first|refine call_all_walk (AQ c.isList ⟨s.heap.objs.size,[s.heap.objs.size,p],[s.heap.objs.size],a.toArray.size,_,_,λi=>(bs[i]?).getD C,rfl,Walks.list k _ p (jY f) a.toArray,⟨⟨_,kc _ rfl,rfl,rfl⟩,c.isList.push _⟩,λi w E o n h g=>?_,λt L hk=>?_⟩)|refine call_any_walk<|AQ c.isList ⟨s.heap.objs.size,[s.heap.objs.size,p],[s.heap.objs.size],a.toArray.size,_,_,λi=>(bs[i]?).getD Y,rfl,Walks.list k _ p (jY f) a.toArray,⟨⟨_,kc _ rfl,rfl,rfl⟩,c.isList.push _⟩,λi w E o n h g=>?_,λt L hk=>?_⟩
   .obtain⟨b,e,rfl⟩:=are.get i w (by simpa using h);dsimp only at g;rw[e]at g;exact vp g
   rw[jG,are.length];(first|rw[LSm.range_all]|rw[LSm.range_any]);exact⟨.bl _,M,I.kept<|aeD hk,rfl,G.bl⟩)
 |_=>cases q<;>cases j
def lT(a:X.calm=C):kg X (.builtin "all") (Cz X.K<|g1 wQ):=LQ C a
def DO(a:X.calm=C):kg X (.builtin "any") (Cz X.K<|g1 Hs):=LQ Y a
def RW:=gI λi j=>J<|.int (if j>i then j else i)
def RU:=gI λi j=>J<|.int (if j<i then j else i)
def afr(c:X.calm=C):kg X (.builtin "max") (Cz X.K<|g2 RW):=SF λa s k U x y h Q O d e z T r np h1 b g G=>by obtain⟨i,j,w,rfl,rfl,f,rfl⟩:=Ar g;cases f;exact ag1 c a s k U [x,y] h Q T r ⟨i,j,by rw[iP h1,iP b],G.int⟩
def afK(c:X.calm=C):kg X (.builtin "min") (Cz X.K<|g2 RU):=SF λa s k U x y h Q O d e z T r np h1 b g G=>by obtain⟨i,j,w,rfl,rfl,f,rfl⟩:=Ar g;cases f;exact ag0 c a s k U [x,y] h Q T r ⟨i,j,by rw[iP h1,iP b],G.int⟩
def Bi{lo:Int}{n:Nat}{a:oF}(h:gJ (λi v=>∃t,v=.int (lo+(i:Int)*1) t) a n):Vals ((am n).map λ(k:Nat)=>V.int<|lo+k) a.toList:=by
 have key:∀(l:ju)(m:Nat),(∀(j:Nat) v,l[j]?=J v->∃t,v=.int (lo+((m+j:Nat):Int)) t)->Vals ((bi m<|AC l).map λ(k:Nat)=>V.int<|lo+k) l:=by
  intro l
  induction l with
  |nil=>intro m _;exact .nil
  |cons v l d=>intro m hv;obtain⟨t,e⟩:=hv 0 v H;refine .cons ⟨t,by simpa using e⟩<|d (m+1) λj w c=>?_;obtain⟨f,b⟩:=hv (j+1) w (by simpa using c);exact⟨f,by rw[b];congr 2;first|done|lia⟩
 have:=key a.toList 0 λj v hv=>by obtain⟨t,e⟩:=h.2 j v (by simpa using hv);exact⟨t,by rw[e];congr 1⟩
 rw[kn,h.1,<-List.range_eq_range']at this;exact this
def afR{K U}(lo:Int)(n:Nat):YP K U O (ja lo n) ((am n).map λ(k:Nat)=>V.int<|lo+k):=by
 unfold ja
 induction(am n)with
 |nil=>exact YP.nil
 |cons k l a=>exact YP.cons Rep.mkInt a
end
def Cw(lo a:Int):Prop:= -(2^62)<=lo/\lo<2^62/\ -(2^62)<=a/\a<2^62/\(a-lo).toNat<=2^24
instance(lo hi:Int):Decidable (Cw lo hi):=by unfold Cw;infer_instance
noncomputable def JW(lo a:Int):List V:=(am (a-lo).toNat).map λ(k:Nat)=>V.int<|lo+k
def Cw.small{lo a:Int}(h:Cw lo a):n6 lo a 1=C:=small_one h.1 h.2.1 h.2.2.1 h.2.2.2.1
def KI(lo a:Int):d7 lo a 1=((a-lo).toNat:Nat):=by rw[u7];split<;>lia
section
variable {c:iF}{w:iu}{A:iB}{E:iU}{s:hJ}
def afJ{Q:List il->hJ->Prop}{r:gU}{lo n:Int}{t u v:m7}(T:A.handled=I)(x:wr s.heap r lo n 1 t u v)(ok:Cw lo n)
  (B:∀(g:iJ) k (d:oF),(∀b o,s.heap.get? b=J o->g.get? b=J o)->gJ (λi v=>∃t,v=.int (lo+(i:Int)*1) t) d (n-lo).toNat->Q d.toList {s with heap:=g,toks:=k}):
  ae (ah c w) A (eG<|.ref r) Q E s:=by
 unfold eG;refine gW<|Iz<|qY F.entry_proto_collect ?_;rw[sZ F.plain_proto_collect _];refine gW (m:=m4 [])<|oq ?_;refine ik ⟨yL F.plain_list_iadd _,qY F.entry_list_iadd ?_⟩;rw[sZ F.plain_list_iadd _];have z:=kc s.heap (o:=({cls:=.type "list",data:=.seq ([]:List il).toArray}:dS)) H
 let R:gF->hJ->Prop:=λr j=>∃(g:iJ)(k:Nat)(d:oF)(l:Nat),r=.ok (.ret<|.ref s.heap.objs.size)/\j={s with heap:=g,toks:=k}/\(∀b o,s.heap.get? b=J o->g.get? b=J o)/\
  g.get? s.heap.objs.size=J {cls:=.type "list",dict:=I,data:=.seq d l,slots:= #[]}/\gJ (λi v=>∃t,v=.int (lo+(i:Int)*1) t) d (n-lo).toNat
 have fin:∀{r j},R r j->∃v,r=.ok (.ret v)/\ae (ah c w) A (match v with
   |Value.ref a=>do
    match(<-load a).data with
     |Data.seq xs _=>pure xs.toList
     |_=>io "internal:collect"
   |_=>io "internal:collect") Q E j:=λ{r j} U=>by
  obtain⟨g,k,d,l,rfl,rfl,hk,p,y⟩:=U;exact⟨_,rfl,gW (m:=load s.heap.objs.size)<|Ew p<|ik<|B g k d hk y⟩
 refine qi (wpAny_extend_range (A:=A) (R:=R) (s:={s with heap:=s.heap.push {cls:=.type "list",data:=.seq ([]:List il).toArray}}) T (jJ _ x) ok.small (KI lo n) ok.2.2.2.2 _ _ 0 z λg k O l hk p y=>⟨g,k,O,l,rfl,rfl,λb o e=>hk b o (jY<|jc e)<|jJ _ e,p,y⟩) (λf j h=>?_) λe j h=>?_
 .cases f with
  |done f=>obtain⟨v,hv,q⟩:=fin h;cases hv;exact q
  |again l=>exact⟨h.1,tJ h.2 λr L x=>by obtain⟨v,rfl,q⟩:=fin x;exact q⟩
 obtain⟨v,hv,_⟩:=fin h;cases hv
def aeE{Q₁:iU}{r:gU}{lo g:Int}{t u v:m7}(p:A.handled=I)(l:wr s.heap r lo g 1 t u v)(ok:Cw lo g)
  (h:∀(d:iJ) k (a:oF),(∀b o,s.heap.get? b=J o->d.get? b=J o)->gJ (λi v=>∃t,v=.int (lo+(i:Int)*1) t) a (g-lo).toNat->Q₁ (.ref d.objs.size) {s with heap:=d.push {cls:=.type "tuple",data:=.seq a},toks:=k}):
  cj (ah c w) A (.call (.builtin "tuple.__new__") ⟨[.type "tuple",.ref r],[]⟩) (wants Q₁ E) s:=by
 refine AM ?_;refine gW (m:=nw "tuple.__new__" _)<|tq (F.newCall_tuple_1 _)<|ik ⟨yL F.plain_tuple_new _,qY F.entry_tuple_new ?_⟩;rw[sZ F.plain_tuple_new _];have z:=sub_tuple_self;have j:=init_tuple_lookup;have q:=madeHere_tuple;have y:s.TypeIs (.ref r) "range":=⟨_,l,rfl⟩
 have f:A.in1.handled=I:=p
 wp_walk using wc y,afJ f l ok
 intro d k a hk n;have x:a.size<=sizeLine:=by rw[n.1,jP];have:=ok.2.2.2.2;omega
 refine gW (m:=aY a.toList.toArray) ?_;unfold aY;refine oq ?_ (by show a.toList.toArray.size<=sizeLine;simpa using x);refine ik ?_;have e:a.toList.toArray=a:=by simp
 rw[e];exact h d k a hk n
def aeq{Q:iU}{r:gU}{lo g:Int}{t u v:m7}(k:A.handled=I)(m:wr s.heap r lo g 1 t u v)(ok:Cw lo g)
  (h:∀(f:iJ) j (e:oF),(∀b o,s.heap.get? b=J o->f.get? b=J o)->gJ (λi v=>∃t,v=.int (lo+(i:Int)*1) t) e (g-lo).toNat->Q (.ref f.objs.size) {s with heap:=f.push {cls:=.type "tuple",data:=.seq e},toks:=j}):
  ae (ah c w) A (call (.type "tuple") [.ref r]) Q E s:=by
 refine callType_codes (Q₁:=λobj a=>a.TypeIs obj "tuple"/\Q obj a) Tq (F.typeCall_tuple_1 _) F.entry_object_init
  (aeE k m ok λf j e l n=>⟨⟨_,kc _ rfl,rfl⟩,h f j e l n⟩) λobj a d=>?_
 exact⟨d.1,N3 obj _,object_init_meets Tq.init.lookup Tq.made (by decide) c w A.in1 _ a ⟨d.1,rfl,d.2⟩⟩
end
section
variable {X:Cx}
def DL:kg X (.type "range") (λc U Q=>∃i j,c=[.int i,.int j]/\∀r,U r=I->Q (.ref r) (upd U r<|.rng i j)):=by intro a s k U c g Q T r h;obtain⟨i,j,rfl,h⟩:=h;obtain⟨u,f,rfl,⟨t,rfl⟩,⟨d,rfl⟩⟩:=Ge r;exact wl ⟨.ref _,_,T.laid (o:=.rng i j) (λb o e=>jJ _ e) (jw _) ⟨_,_,_,kc _ rfl⟩,rfl,h _ T.fresh⟩
def aer(i:X.calm=C):kg X (.type "list") (λf U Q=>∃r lo a,f=[.ref r]/\U r=J (.rng lo a)/\Cw lo a/\∀l,U l=I->Q (.ref l) (upd U l<|.lst<|JW lo a)):=by intro d s x U f q Q T g h;obtain⟨r,lo,a,rfl,j,ok,h⟩:=h;obtain⟨u,rfl,m⟩:=qC g;cases m;obtain⟨t,u,v,er⟩:=T.hok r _ j;refine call_list_range (A:=X.A) (T.ok.hd i) er ok.small (KI lo a) ok.2.2.2.2 λo p b c k e items=>?_;have n:=Bi items;refine⟨.ref _,_,T.laid k (jw _) (show S1 X.prog X.w _ _ _ (.lst<|JW lo a)from⟨?_,b.toList,c,n,by simpa using e⟩),rfl,h _ T.fresh⟩;have:=ok.2.2.2.2;simp only[JW,jl,g7,jP];omega
def aet(k:X.calm=C):kg X (.type "tuple") (λi U Q=>∃r lo c,i=[.ref r]/\U r=J (.rng lo c)/\Cw lo c/\∀l,U l=I->Q (.ref l) (upd U l<|.tup<|JW lo c)):=by intro d s y U i z Q T j h;obtain⟨r,lo,c,rfl,m,ok,h⟩:=h;obtain⟨u,rfl,p⟩:=qC j;cases p;obtain⟨t,u,v,er⟩:=T.hok r _ m;refine aeq (A:=X.A) (T.ok.hd k) er ok λg x a n items=>?_;have q:=Bi items;have f:Inv X d y U {s with heap:=g,toks:=x}:=T.kept n;refine⟨.ref _,_,f.laid (λb o e=>jJ _ e) (jw _) (show S1 X.prog X.w _ _ _ (.tup<|JW lo c)from⟨?_,a.toList,q,by have:=Er g a;simpa using this⟩),rfl,h _ f.fresh⟩;have:=ok.2.2.2.2;simp only[JW,jl,g7,jP];omega
def ME(a:List D->D)(o:Bool):List D->Option (D×Bool)
 |[.int j]=>if Cw 0 j then J (a<|ja 0 j.toNat,o)else I
 |[.int i,.int j]=>if Cw i j then J (a<|ja i (j-i).toNat,o)else I
 |_=>I
def KJ{K U}(lo a:Int):YP K U O (ja lo (a-lo).toNat) (JW lo a):=afR lo _
variable {a b:ig}{n m:FO}{p g d f:bp}
def Gg(h:upd U r o l=I):U l=I:=by
 by_cases e:l=r
 .subst e;rw[iQ]at h;cases h
 rwa [iW e]at h
def DU{K:iA}{T q:SI}{s:L2.St}{r c:Dn}{U o:Hp}{os:List F1}{l:List V}{e:List D}(B:Ops K T s r U os l c o q)(h:uX c os=J e){is:gY}(hd:e=is.map .int):l=is.map .int:=by
 obtain⟨h1,t⟩:=pG h;apply AG;intro j;by_cases k:j<AC is
 .rw[uB B h (j:=j) (i:=is[j])<|by rw[hd];simp[k]];simp[k]
 have u:=B.len;subst hd;simp at h1;rw[fG<|by lia,fG<|by simp;lia]
def Xl{T:String}{z:aQ}{L:List D->D}{o:Bool}(hT:(T="list"/\L=.lst/\o=z8)\/(T="tuple"/\L=.tup/\o=z9))(U:X.calm=z8)(Y:Gl X z)(hm:X.mg z=z7)(hv:aI z=zx (.type T))(hn:z≠"__name__")(l7:(z==("__debug__":aQ))=z9)
  (J:Gl X "range")(p7:X.mg "range"=z7)(N:PA X [a,b] (tA X.K [n,m]))
  (s1:ai [.Call (.Name "range" g) [a,b] [] f] X.env=(z9,aU (.Call (.Name "range" g) [a,b] [] f) X.env)::ai [] X.env)(s2:ai [a,b] X.env=(z9,aU a X.env)::ai [b] X.env)
  (M:(bg d<|ai [] X.env).any (·.1)=z9)(G:(bg f<|ai [b] X.env).any (·.1)=z9):
  PX X (.Call (.Name z p) [.Call (.Name "range" g) [a,b] [] f] [] d) (iw (ME L o) [n,m]):=by
 have t:∀{w c:Dn}{os:List F1},kd [n,m] w=zx (os,c)->os.length=2:=λ{w c os} h1=>by unfold kd at h1;obtain⟨p,q1,h1⟩:=gS h1;obtain⟨q,v,h1⟩:=gS h1;unfold kd at v;obtain⟨p3,q3,v⟩:=gS v;obtain⟨q4,F,v⟩:=gS v;unfold kd at F;cases F;obtain⟨rfl,rfl⟩:=iG h1;cases v;rfl
 rcases hT with⟨rfl,rfl,rfl⟩|⟨rfl,rfl,rfl⟩
 .refine PX.imp (qK (aer U) Y hm hv (qk (qK DL J p7 Eu N (by decide) (by decide) s2 G) wJ s1) hn l7 s1 M) λZ H Q C=>?_;obtain⟨w,T,S,O,E,e,k⟩:=C;obtain⟨⟨os,c⟩,h1,e⟩:=gS e;obtain⟨R,y,e⟩:=gS e;obtain⟨W,h,e⟩:=gS e;obtain⟨rfl,rfl⟩:=iG e;refine⟨w,T,os,c,E,h1,λV x P B=>?_⟩;unfold ME at h;split at h
  .obtain⟨s,_⟩:=pG y;have:=t h1;simp at s;omega
  .rename_i i j;obtain⟨ok,rfl⟩:=iK h;refine⟨i,j,DU B y (is:=[i,j]) At,λr A=>⟨r,i,j,rfl,iQ,ok,λl s=>?_⟩⟩;have I:∀a u,x a=zx u->upd (upd x r<|.rng i j) l (.lst<|JW i j) a=zx u:=λa u e=>lW s a u<|lW A a u e;exact(B.done k) l _ (Gg s) I ⟨JW i j,iQ,KJ i j⟩
  cases h
 refine PX.imp (qK (aet U) Y hm hv (qk (qK DL J p7 Eu N (by decide) (by decide) s2 G) wJ s1) hn l7 s1 M) λZ H Q C=>?_;obtain⟨w,T,S,O,E,e,k⟩:=C;obtain⟨⟨os,c⟩,h1,e⟩:=gS e;obtain⟨R,y,e⟩:=gS e;obtain⟨W,h,e⟩:=gS e;obtain⟨rfl,rfl⟩:=iG e;refine⟨w,T,os,c,E,h1,λV x P B=>?_⟩;unfold ME at h;split at h
 .obtain⟨s,_⟩:=pG y;have:=t h1;simp at s;omega
 .rename_i i j;obtain⟨ok,rfl⟩:=iK h;refine⟨i,j,DU B y (is:=[i,j]) At,λr A=>⟨r,i,j,rfl,iQ,ok,λl s=>?_⟩⟩;have I:∀a u,x a=zx u->upd (upd x r<|.rng i j) l (.tup<|JW i j) a=zx u:=λa u e=>lW s a u<|lW A a u e;exact(B.done k) _ _ I (Rep.G4 ⟨iQ,B.np<|MW<|Gg s⟩<|KJ i j)
 cases h
end
def Src(h:iJ)(it l:gU)(i:Nat)(a:oF):Prop:=(h.IsListIter it l i/\h.IsList l a)\/(h.IsTupleIter it l i/\h.IsTuple l a)
section
variable {prog:iF}{w:iu}{A:iB}{E:iU}{s:hJ}{it l:gU}{i:Nat}{xs:oF}
def Src.ne(x:Src h it l i xs):l≠it:=by intro e;subst e;rcases x with⟨⟨o,h1,b,a⟩,c,g1,g2,n,g3⟩|⟨⟨o,h1,b,a⟩,c,g1,g2,n,g3⟩<;>(rw[h1]at g1;cases g1;rw[a]at g3;cases g3)
def Src.lt(x:Src h it l i xs):it<h.objs.size/\l<h.objs.size:=by rcases x with⟨⟨o,h1,_⟩,a,g1,_⟩|⟨⟨o,h1,_⟩,a,g1,_⟩<;>exact⟨jc h1,jc g1⟩
def Src.keep(x:Src h it l i xs)(k1:∀o,h.get? it=J o->h'.get? it=J o)(k2:∀o,h.get? l=J o->h'.get? l=J o):Src h' it l i xs:=by
 rcases x with⟨⟨o,h1,r⟩,a,g1,b⟩|⟨⟨o,h1,r⟩,a,g1,b⟩
 .exact .inl ⟨⟨o,k1 _ h1,r⟩,a,k2 _ g1,b⟩
 exact .inr ⟨⟨o,k1 _ h1,r⟩,a,k2 _ g1,b⟩
def C4{Q:iU}(c:s.heap.IsTupleIter it l i)(q:s.heap.IsTuple l xs)(n:∀x,xs[i]?=J x->∀b,b.IsTupleIter it l (i+1)->aF it s.heap b->Q x {s with heap:=b})
  (g:xs[i]?=I->A.handled=I/\∀b e,dh it s.heap b->(∃o,b.get? e=J o/\o.cls=.type "StopIteration")->E (.ref e) {s with heap:=b}):ae (ah prog w) A (aN<|.ref it) Q E s:=by
 obtain⟨o,d,p,hd⟩:=id c;obtain⟨t,k,_,r,j⟩:=q;unfold aN;refine gW<|tE (name:=bz "__next__") c.typeIs N0<|qf N0 c.typeIs F.entry_tuple_iterator_next ?_<|F.args_tuple_iterator_next_1 _;refine gW (m:=fZ (.ref it) 0)<|pv d hd (x:=.ref l) H ?_;show ae _ _ (if(bV l==aw)=C then _ else _) _ _ s;rw[iC (by show ¬(bV l==aw)=C;exact kJ)];refine gW (m:=fZ (.ref it) 1)<|pv d hd (x:=.int i 0) H ?_;refine gW (m:=seqItems?<|.ref l)<|sY k j ?_
 cases f:xs[i]? with
 |some x=>simp only[xj,f];refine gW<|vW d hd (by simp)<|ik ⟨x,rfl,ik<|n x f _ ⟨_,tD _ d (Ek<|vg hd _),(Ej ..).trans p,?_⟩ (qd ..)⟩;rw[vg hd];simp[cg]
 |none=>
  obtain⟨h,g⟩:=g f;simp only[xj,f];refine gW<|sG<|gW<|vW d hd (by simp) ?_;refine gW (m:=gr (.type "StopIteration") []) ?_;simp -iota only[gr,i7];refine gW<|oq (gW (m:=ci _ _)<|tq (a:=aw) (by first|rfl|(simp -iota only[ci];rfl)) ?_) (by size_fits);refine oq ?_ (by size_fits);simp -iota only[sB];refine gW<|Iy ?_
  first|rw[show A.in1.handled=I from h]|rw[h]
  exact gW<|ik<|Iw<|g _ _ (((qd ..).extBut.push _).push _) ⟨_,kc _ rfl,rfl⟩
def Src.item{x:il}{Q:iU}(st:Src s.heap it l i xs)(g:xs[i]?=J x)(h:∀c,Src c it l (i+1) xs->aF it s.heap c->Q x {s with heap:=c}):
  ae (ah prog w) A (aN<|.ref it) Q E s:=by
 have ne:=st.ne;rcases st with⟨a,b⟩|⟨a,b⟩
 .exact wpAny_nextOf_list_item a b g λc f d=>h c (.inl ⟨f,b.extBut d.extBut ne⟩) d
 exact C4 a b (λj e c f d=>by rw[g]at e;cases e;exact h c (.inr ⟨f,b.extBut d.extBut ne⟩) d) λe=>by rw[g]at e;cases e
def Src.stop{Q:iU}(f:A.handled=I)(st:Src s.heap it l i xs)(g:xs[i]?=I)
  (d:∀c e,dh it s.heap c->(∃o,c.get? e=J o/\o.cls=.type "StopIteration")->E (.ref e) {s with heap:=c}):ae (ah prog w) A (aN<|.ref it) Q E s:=by
 rcases st with⟨a,b⟩|⟨a,b⟩
 .exact wpAny_nextOf_list_end f a b g d
 exact C4 a b (λx e=>by rw[g]at e;cases e) λ_=>⟨f,d⟩
def Src.new(a:s.heap.IsList l xs\/s.heap.IsTuple l xs)(d:∀c,Src c s.heap.objs.size l 0 xs->c.objs.size=s.heap.objs.size+1->(∀b o,s.heap.get? b=J o->c.get? b=J o)->Q (.ref s.heap.objs.size) {s with heap:=c}):
  ae (ah prog w) A (cH<|.ref l) Q E s:=by
 rcases a with a|a
 .exact AQ a (d _ (.inl ⟨⟨_,kc _ rfl,rfl,rfl⟩,a.push _⟩) (qx ..) λb o e=>jJ _ e)
 exact IM a (d _ (.inr ⟨⟨_,kc _ rfl,rfl,rfl⟩,a.push _⟩) (qx ..) λb o e=>jJ _ e)
end
section
variable {f:iF}{w:iu}{A:iB}{E:iU}{s:hJ}{e it l:gU}{i:Nat}{c:Int}{h:oF}
def agd{x old:il}{Q:iU}(he:du s.heap e it c old)(st:Src s.heap it l i h)(hx:h[i]?=zx x)(U:e≠it)(dz:e≠l)
  (hQ:∀L,f8 L e it (c+1) x s.heap.objs.size->Src L it l (i+1) h->L.get? s.heap.objs.size=zx {cls:=.type "tuple",data:=.seq #[.int c s.toks,x]}->L.objs.size=s.heap.objs.size+1->
   (∀b o,b≠e->b≠it->s.heap.get? b=zx o->L.get? b=zx o)->Q (.ref s.heap.objs.size) {s with heap:=L,toks:=s.toks+1}):
  ae (ah f w) A (bo.«enumerate.__next__» ⟨[.ref e],[]⟩) (λfin s'=>∃v,fin=.done (.ret v)/\Q v s') E s:=by
 obtain⟨C,g,d,k,os⟩:=s;refine gW (m:=fZ (.ref e) 2)<|pv he At (x:=.ref it) At<|gW<|st.item hx λj I G=>?_;replace G:aF it C j:=G;have V:du j e it c old:=(G.2 e U).trans he;refine gW (m:=fZ (.ref e) 3)<|pv (s:=⟨j,g,d,k,os⟩) V At (x:=cg c) At ?_;refine gW (m:=fZ (.ref e) 4)<|pv (s:=⟨j,g,d,k,os⟩) V At (x:=.none) At ?_;refine gW (m:=mkInt c)<|wpAny_mkInt (s:=⟨j,g,d,k,os⟩) ?_;refine gW (m:=i5 (.ref e) 3<|cg<|c+1)<|vf (s:=⟨j,g,d,k+1,os⟩) V (by simp) λp S T=>?_;replace T:aF e j p:=T;replace S:du p e it (c+1) old:=S;refine gW (m:=i5 (.ref e) 4 .none)<|vf (s:=⟨p,g,d,k+1,os⟩) S (by simp) λa R O=>?_;replace O:aF e p a:=O;replace R:du a e it (c+1) old:=R;refine gW (m:=i7 [.int c k,x])<|Ei (s:=⟨a,g,d,k+1,os⟩) ?_;have H:a.objs.size=C.objs.size:=by rw[O.1,T.1,G.1]
 have N:du (a.push {cls:=.type "tuple",data:=.seq #[.int c k,x]}) e it (c+1) old:=jJ _ R;have X:e<C.objs.size:=jc he;have y:(a.push {cls:=.type "tuple",data:=.seq #[.int c k,x]}).get? C.objs.size=zx {cls:=.type "tuple",data:=.seq #[.int c k,x]}:=by rw[<-H];exact kc _ rfl
 have up:∀b o,b≠e->b≠it->C.get? b=zx o->(a.push {cls:=.type "tuple",data:=.seq #[.int c k,x]}).get? b=zx o:=λb o B D q=>jJ _ (O.extBut b o B<|T.extBut b o B<|G.extBut b o D q);have z:Src (a.push {cls:=.type "tuple",data:=.seq #[.int c k,x]}) it l (i+1) h:=I.keep (λo q=>jJ _ (O.extBut _ o U.symm (T.extBut _ o U.symm q))) λo q=>jJ _ (O.extBut _ o dz.symm (T.extBut _ o dz.symm q));have W:(a.push {cls:=.type "tuple",data:=.seq #[.int c k,x]}).objs.size=C.objs.size+1:=by rw[qx,H]
 rw[H];generalize (a.push {cls:=.type "tuple",data:=.seq #[.int c k,x]})=n at N y up z W;refine gW (m:=bc<|.ref e) ?_;unfold bc;refine gW<|pv (s:=⟨n,g,d,k+1,os⟩) N At (x:=.none) At<|ik ?_;simp -iota only[kz];refine gW<|sG<|gW<|pv (s:=⟨n,g,d,k+1,os⟩) N At (x:=old) At<|gW<|vf (s:=⟨n,g,d,k+1,os⟩) N (by simp) λr P Y=>?_;replace Y:aF e n r:=Y;replace P:du r e it (c+1) x:=P;refine gW (m:=bb (.ref e)<|.ref C.objs.size) ?_;unfold bb;refine gW<|vf (s:=⟨r,g,d,k+1,os⟩) P (by simp) λt K M=>?_;replace M:aF e r t:=M;replace K:f8 t e it (c+1) x C.objs.size:=K;refine vf (s:=⟨t,g,d,k+1,os⟩) K (by simp) λu F J=>?_;replace J:aF e t u:=J;replace F:f8 u e it (c+1) x C.objs.size:=F;have all:∀b o,b≠e->n.get? b=zx o->u.get? b=zx o:=λb o B q=>J.extBut b o B<|M.extBut b o B<|Y.extBut b o B q;refine gW<|Eh<|ik ⟨_,rfl,hQ u F (z.keep (λo q=>all _ o U.symm q) λo q=>all _ o dz.symm q) (all _ _ (qh X) y) ?_ λb o B D q=>all b o B<|up b o B D q⟩;rw[J.1,M.1,Y.1,W]
def yU{x old:il}{Q:FU}(m:du s.heap e it c old)(st:Src s.heap it l i h)(q:h[i]?=J x)(r:e≠it)(n:e≠l)
  (p:∀g,f8 g e it (c+1) x s.heap.objs.size->Src g it l (i+1) h->g.get? s.heap.objs.size=J {cls:=.type "tuple",data:=.seq #[.int c s.toks,x]}->g.objs.size=s.heap.objs.size+1->
   (∀b o,b≠e->b≠it->s.heap.get? b=J o->g.get? b=J o)->Q (J<|.ref s.heap.objs.size) {s with heap:=g,toks:=s.toks+1}):
  ae (ah f w) A (cw<|.ref e) Q E s:=by
 have j:s.TypeIs (.ref e) "enumerate":=⟨_,m,rfl⟩
 unfold cw
 exact gW (vV (tE (name:=bz "__next__") j Eg (qf Eg j NZ
  (agd m st q r n λg a b c d k=>ik<|p g a b c d k) (NY _))))
def aby{old:il}{Q:FU}(p:A.handled=I)(g:du s.heap e it c old)(st:Src s.heap it l i h)(r:h[i]?=I)
  (k:∀a,dh it s.heap a->Q I {s with heap:=a}):ae (ah f w) A (cw<|.ref e) Q E s:=by
 have d:s.TypeIs (.ref e) "enumerate":=⟨_,g,rfl⟩
 unfold cw;refine gW<|vV<|tE (name:=bz "__next__") d Eg<|qf Eg d NZ ?_<|NY _;refine gW (m:=fZ (.ref e) 2)<|pv g H (x:=.ref it) H<|gW<|st.stop p r λa x j U=>?_;obtain⟨o,q,n⟩:=U;exact gW<|yK (T:="StopIteration") (b:=C) ⟨o,q,n⟩ Ef<|ik<|k _ j
end
section
variable {X:Cx}{d:iO}{g:L2.St}{H:Hp}{s:hJ}{f:iJ}
def C2{t':Nat}{ch:ki}{a:gU}{o:HO}(N:Inv X d g H s)(j:∀b∈ch,ur X d H b)(k:∀b u,b∉ch->s.heap.get? b=J u->f.get? b=J u)(p:s.heap.objs.size<=a)(new:S1 X.prog X.w (upd H a o) f a o):
  Inv X d g (upd H a o) {s with heap:=f,toks:=t'}:=by
 have E:=N.hok.fresh p;have l:∀b u,H b=J u->b∉ch:=λb u e z=>by have:=(j b z).1;rw[this]at e;cases e
 have up:∀b u,H b=J u->upd H a o b=J u:=λb u e=>by rw[iW<|mM e E];exact e
 have fr:∀b u,s.heap.get? b=J u->H b=I->upd H a o b=I:=λb u e n=>by rw[iW λz=>by subst z;exact absurd (jc e)<|g0.mpr p];exact n
 refine N.step (g':=s.gens) (d':=s.drawn) (ch:=ch) (λb i=>?_) (λb u _ _ h e _=>k b u h e) (λb u _ _ h e _=>⟨u.slots,k b u h e⟩) (λb u _ e n=>fr b u e n)
  (λb u h e=>⟨u,k b u h e⟩) (λb O e=>up b _ e) (λb _ _ e=>up b _ e) (λb T e=>⟨#[],by rw[up b _ e];simp⟩) (λm U=>?_) (λb u e=>?_) N.bare
 .obtain⟨_,f1,Q,y,A,B⟩:=j b i;exact⟨y,f1,A,B⟩
 .obtain⟨u,x,t,L,r⟩:=U;exact⟨u,x,t,k _ u (λz=>(j _ z).2.1 At) L,r⟩
 by_cases i:b=a
 .subst i;rw[iQ]at e;cases e;exact new
 rw[iW i]at e;refine(N.hok b u e).I0 (λc v h q=>k c v ?_ q) (λc q=>up c _ q) (λc O q=>up c _ q) λc _ _ q=>up c _ q;rcases h with z|z
 .rw[z];exact l b u e
 exact l c _ z
def C3{t':Nat}{ch:ki}(T:Inv X d g H s)(h:∀b∈ch,ur X d H b)(k:∀b u,b∉ch->s.heap.get? b=J u->f.get? b=J u):Inv X d g H {s with heap:=f,toks:=t'}:=by
 have i:∀b u,H b=J u->b∉ch:=λb u e z=>by have:=(h b z).1;rw[this]at e;cases e
 refine T.step (g':=s.gens) (d':=s.drawn) (ch:=ch) (λb w=>?_) (λb u _ _ a e _=>k b u a e) (λb u _ _ a e _=>⟨u.slots,k b u a e⟩) (λb u _ e n=>n)
  (λb u a e=>⟨u,k b u a e⟩) (λb A e=>e) (λb _ _ e=>e) (λb U e=>⟨#[],by rw[e];simp⟩) (λm x=>?_) (λb u e=>?_) T.bare
 .obtain⟨_,f1,B,o,p,t⟩:=h b w;exact⟨o,f1,p,t⟩
 .obtain⟨u,l,j,y,r⟩:=x;exact⟨u,l,j,k _ u (λz=>(h _ z).2.1 At) y,r⟩
 refine(T.hok b u e).I0 (λc v a q=>k c v ?_ q) (λc q=>q) λc A q=>q;rcases a with z|z
 .rw[z];exact i b u e
 exact i c _ z
end
def EV(b:Bool)(K:iA)(U:Hp)(l:gU)(a:List V):Prop:=if b=C then CO K U l a else FD K U l a
def HB(b:Bool)(h:iJ)(it l:gU)(i:Nat):Prop:=if b=C then h.IsListIter it l i else h.IsTupleIter it l i
def HB.keep(x:HB b h it l i)(k:∀o,h.get? it=J o->h'.get? it=J o):HB b h' it l i:=by
 cases b
 .exact PySem.Heap.IsTupleIter.at (show h.IsTupleIter it l i from x) k
 exact PySem.Heap.IsListIter.at (show h.IsListIter it l i from x) k
def HB.obj(x:HB b h it l i):∃o,h.get? it=J o/\∀v,o.data≠ .cell v:=by
 cases b<;>(obtain⟨o,e,c,d⟩:=x;exact⟨o,e,λv z=>by rw[d]at z;cases z⟩)
section
variable {X:Cx}{d:iO}{e:L2.St}{H:Hp}{s:hJ}
def uE(U:Inv X d e H s)(q:EV b X.K H l xs)(t:HB b s.heap it l i):∃a,Vals xs a/\Src s.heap it l i a.toArray:=by
 cases b
 .obtain⟨a,v,p,_⟩:=U.tuple q;exact⟨a,v,.inr ⟨t,p⟩⟩
 obtain⟨a,v,p,_⟩:=U.list q;exact⟨a,v,.inl ⟨t,p.isList⟩⟩
def EB(U:Inv X d e H s)(q:EV b X.K H l xs)(a:EV b X.K H l c):xs=c:=by
 cases b
 .exact U.Bt q a
 exact U.Cc q a
def JG(t:HB b h it l i)(k:Src h it l i xs)(n:Src j it l p xs)(m:∀o,h.get? l=J o->j.get? l=J o):HB b j it l p:=by
 cases b
 .rcases n with⟨a,c⟩|⟨a,_⟩
  .rcases k with⟨⟨o,h1,f,_⟩,_⟩|⟨_,o,h1,f,_⟩
   .obtain⟨g,g1,g2,_⟩:=t;rw[h1]at g1;cases g1;rw[f]at g2;injection g2 with g2;exact absurd g2 (by decide)
   obtain⟨g,g1,g2,_⟩:=c;rw[m _ h1]at g1;cases g1;rw[f]at g2;injection g2 with g2;exact absurd g2 (by decide)
  exact a
 rcases n with⟨a,_⟩|⟨a,c⟩
 .exact a
 rcases k with⟨_,o,h1,f,_⟩|⟨⟨o,h1,f,_⟩,_⟩
 .obtain⟨g,g1,g2,_⟩:=c;rw[m _ h1]at g1;cases g1;rw[f]at g2;injection g2 with g2;exact absurd g2 (by decide)
 obtain⟨g,g1,g2,_⟩:=t;rw[h1]at g1;cases g1;rw[f]at g2;injection g2 with g2;exact absurd g2 (by decide)
end
def Mu(b:Bool)(K:iA)(l:gU)(c:Int):It:=⟨λi U=>∃a x,EV b K U l a/\a[i]?=J x,
 λi U x d=>∃(T:gU)(y:V),x=.ref T/\U T=I/\d=upd U T (.tup [.int<|c+i,y])/\∀a,EV b K U l a->a[i]?=J y,λi U=>∃a,EV b K U l a/\(AC a)<=i⟩
def agE{P:iF}{w:iu}{K:iA}{m:kb}{k1}{Y:bp}(b:Bool)(e it l:gU)(c:Int)(i4:e≠it):
  Turn P w K (.Tuple m k1 Y) (Mu b K l c) [e,it] e (λi h=>(∃old,du h e it (c+i) old)/\HB b h it l i) where
 mem:=by simp
 obj:=λi h st a B=>by
  obtain⟨⟨old,f⟩,st⟩:=st;have ag:a=e\/a=it:=by simpa using B
  rcases ag with rfl|rfl
  .exact⟨_,f,λv z=>by have z':fH _=ev v:=z;cases z'⟩
  exact st.obj
 keep:=λi h h' st k=>by obtain⟨⟨old,f⟩,st⟩:=st;exact⟨⟨old,k e (by simp) _ f⟩,st.keep λo q=>k it (by simp) o q⟩
 item:=by
  intro X G M T S i g s Z H E I r st J;subst G M T;obtain⟨⟨old,f⟩,st⟩:=st;obtain⟨xs,x,C,N⟩:=J;obtain⟨U,D,d⟩:=uE I C st;obtain⟨u,hu,ru⟩:=D.get N
  have Q:e≠l:=λz=>by subst z;have V:=(r e<|by simp).1;rcases d with⟨_,o,h1,A,_⟩|⟨_,o,h1,A,_⟩<;>(have F:s.heap.get? e=_:=f;rw[h1]at F;cases F;injection A with A;exact absurd A<|by decide)
  refine yU f d (x:=u) (by simpa using hu) i4 Q λh' ho t hT hsz kp=>⟨.ref s.heap.objs.size,rfl,?_⟩
  refine wpAny_letOwnedTupleGo_enum ho λj n O=>?_;have p:e<s.heap.objs.size:=jc f
  have R:∀a o,a∉[e,it]->s.heap.get? a=zx o->j.get? a=zx o:=λa o L q=>by have W:a≠e:=λz=>L (by simp[z]);have n2:a≠it:=λz=>L (by simp[z]);exact O.extBut a o W<|kp a o W n2 q
  have cG:j.get? s.heap.objs.size=zx {cls:=.type "tuple",data:=.seq #[.int (c+i) s.toks,u]}:=O.extBut _ _ (qh p) hT
  have I1:Inv X g Z (upd H s.heap.objs.size<|.tup [.int<|c+i,x]) {s with heap:=j,toks:=s.toks+1}:=
   C2 I r R (jw _) (show S1 X.prog X.w _ _ _ (.tup [.int<|c+i,x])from⟨by show 2<=sizeLine;decide,[.int (c+i) s.toks,u],.cons ⟨_,rfl⟩<|.cons ru .nil,_,cG,rfl,0,rfl⟩)
  have y:HB b j it l (i+1):=by refine JG st d (t.keep (λo q=>O.extBut _ o i4.symm q) λo q=>O.extBut _ o Q.symm q) λo q=>R l o ?_ q;have:=d.ne;simp only[kN,my,om,qW];exact⟨Q.symm,this⟩
  refine⟨.ref s.heap.objs.size,_,I1,rfl,⟨_,x,rfl,I.fresh,rfl,λys hy=>by rw[EB I hy C];exact N⟩,⟨⟨u,?_⟩,y⟩,λa B=>?_⟩
  .have e1:c+((i+1:Nat):Int)=c+i+1:=by lia
   show du j e it (c+((i+1:Nat):Int)) u;rw[e1];exact n
  have V:=(r a B).1;rw[iW]
  .exact V
  intro z;have l4:a=e\/a=it:=by simpa using B
  rcases l4 with rfl|rfl
  .exact absurd z (jY p)
  exact absurd z (jY d.lt.1)
 done:=by intro X G M T S i g s Z H E I r st J;subst G M T;obtain⟨⟨old,f⟩,st⟩:=st;obtain⟨xs,C,N⟩:=J;obtain⟨U,D,d⟩:=uE I C st;have hl:=D.length;exact aby (I.ok.hd S) f d (by simp;lia) λh' eb=>⟨rfl,C3 (t':=s.toks) I r λa o L q=>eb a o (λz=>L<|by simp[z]) q⟩
 self:=λ_ _ _ _ _ st h=>by obtain⟨⟨old,f⟩,_⟩:=st;exact ms f h
def A8{K U}(q:G6 b K U P a xs):EV b K U a xs:=by
 cases b
 .exact q.t
 exact q.l
def agv{K:iA}{P O:SI}{h:Hp}{a:gU}{g:List V}{l:List D}{b:Bool}{c:Int}(q:G6 b K h P a g)(r:YP K h O l g)(A:∀a,P a->O a):
  JF K (Mu b K a c) (l.zipIdx.map λp=>.tup [.int<|c+p.2,p.1]) P O h:=by
 have sq:∀Hi,(∀a o,h a=J o->¬P a->Hi a=J o)->EV b K Hi a g:=λHi f=>A8<|q.mono f λ_ z=>z;refine⟨λi d Hi hd f=>?_,λi Hi U f=>⟨g,sq Hi f,by rw[r.length];simpa using U⟩⟩;rw[jv]at hd;obtain⟨⟨Q,j⟩,h1,u⟩:=jy hd;rw[IB]at h1;obtain⟨G,v,w⟩:=jy h1;obtain⟨rfl,rfl⟩:=vh w;obtain⟨x,s,N⟩:=r.get v;refine⟨⟨g,x,sq Hi f,s⟩,λy M E=>?_⟩;obtain⟨T,z,rfl,m,rfl,k⟩:=E;have k:=k g<|sq Hi f;rw[s]at k;cases k;have ext:=lW (o:=.tup [.int<|c+i,x]) m;refine⟨ext,λL h1 t=>?_⟩;subst u;refine Rep.G4 ⟨iQ,t T m⟩<|YP.cons ?_<|YP.cons (Rep.mono (λb o e n=>ext b o<|f b o e λz=>n<|A b z) (λb B z=>h1 b B z) N) YP.nil;simp only[vU];exact Rep.mkInt
open AutoSeq1 (wpAny_loadPart')
section
variable {e:iF}{w:iu}{A:iB}{E:iU}{s:hJ}
noncomputable def uT(it:gU)(c:Int):Obj:={cls:=.type "enumerate",data:=.fields #[.none,.bool Y,.ref it,cg c,.none,.none]}
def agc(l:gU)(i:oF):tz (bo.«enumerate.__new__» ⟨[.type "enumerate",.ref l],[]⟩) (λ_ R s=>(s.heap.IsList l i\/s.heap.IsTuple l i)/\
  ∀f,Src f s.heap.objs.size l 0 i->f.objs.size=s.heap.objs.size+1->(∀b o,s.heap.get? b=J o->f.get? b=J o)->R (.ok<|.ret<|.ref f.objs.size) {s with heap:=f.push (uT s.heap.objs.size 0)}):=
 .of_wp λe w A R s h=>by
  obtain⟨k,g,d,m,os⟩:=s;obtain⟨j,h⟩:=h;have n:=sub_enumerate
  wp_walk
  refine wpAny_stack_any λst=>ik ?_;split
  .rename_i c _ _ _ _ _;cases(c==ca "enumerate")<;>(wp_walk using Src.new j;intro f a b c;wp_walk;exact⟨_,rfl,h f a b c⟩)
  wp_walk using Src.new j
  intro f a b c
  wp_walk
  exact⟨_,rfl,h f a b c⟩
def afu(f:s.heap.IsList l xs\/s.heap.IsTuple l xs)
  (h:∀d,Src d s.heap.objs.size l 0 xs->d.objs.size=s.heap.objs.size+1->(∀b o,s.heap.get? b=J o->d.get? b=J o)->Q (.ref d.objs.size) {s with heap:=d.push (uT s.heap.objs.size 0)}):
  ae (ah e w) A (call (.type "enumerate") [.ref l]) Q E s:=
 wn F.called_enumerate (by decide) (F.typeCall_enumerate_1 _) (F.newCall_enumerate_1 _) (λobj=>N3 obj _) F.entry_enumerate_new (agc l xs) ⟨f,λd a b c=>⟨⟨_,kc _ rfl,rfl⟩,h d a b c⟩⟩
end
section
variable {X:Cx}{g:iO}{i:L2.St}{H:Hp}{s:hJ}{m:kb}{k1:Nat}{n:bp}
def Vb{R:It->Hp->Prop}{E:iU}{b:Bool}{l:gU}{U:List V}{j:ju}{h':iJ}{c:Int}(T:Inv X g i H s)(t:EV b X.K H l U)(k:Src h' s.heap.objs.size l 0 j.toArray)(h:h'.objs.size=s.heap.objs.size+1)
  (y:∀b o,s.heap.get? b=J o->h'.get? b=J o)(r:R (Mu b X.K l c) H):ae (ah X.prog X.w) X.A (cH<|.ref h'.objs.size) (PIE X g i (.Tuple m k1 n) R) E {s with heap:=h'.push (uT s.heap.objs.size c)}:=by
 have q:du (h'.push<|uT s.heap.objs.size c) h'.objs.size s.heap.objs.size c .none:=kc _ rfl;refine ms q ?_;have d:Inv X g i H {s with heap:=h'.push (uT s.heap.objs.size c)}:=T.kept (t':=s.toks) λb o e=>jJ _ (y b o e);have x:h'.objs.size≠s.heap.objs.size:=by rw[h];exact Nat.succ_ne_self _
 refine⟨h'.objs.size,[h'.objs.size,s.heap.objs.size],_,_,H,rfl,d,agE b h'.objs.size s.heap.objs.size l c x,⟨⟨.none,by simpa using q⟩,?_⟩,λa v=>?_,r⟩
 .have u:=k.keep (h':=h'.push<|uT s.heap.objs.size c) (λo e=>jJ _ e) (λo e=>jJ _ e)
  cases b
  .rcases u with⟨_,o,h1,f,_⟩|⟨a,_⟩
   .obtain⟨_,_,p,_⟩:=d.tuple t;obtain⟨B,g1,g2,_⟩:=p;rw[h1]at g1;cases g1;rw[f]at g2;injection g2 with g2;exact absurd g2 (by decide)
   exact a
  rcases u with⟨a,_⟩|⟨_,o,h1,f,_⟩
  .exact a
  obtain⟨_,_,p,_⟩:=d.list t;obtain⟨B,g1,g2,_⟩:=p.isList;rw[h1]at g1;cases g1;rw[f]at g2;injection g2 with g2;exact absurd g2 (by decide)
 have z:a=h'.objs.size\/a=s.heap.objs.size:=by simpa using v
 rcases z with rfl|rfl
 .exact T.J3 (by rw[h];exact wa _) (T.hok.fresh<|by rw[h];exact wa _)
 exact T.J3 (jw _) (T.hok.fresh<|jw _)
def Wg(K:iA)(c:Int)(d:TA):TI:=λi H R=>d i H λe a=>∃b l f,e=[.ref l]/\EV b K a l f/\R (Mu b K l c) a
def I9(U:Inv X g i H s)(q:EV b X.K H l xs):∃a,Vals xs a/\(s.heap.IsList l a.toArray\/s.heap.IsTuple l a.toArray):=by
 cases b
 .obtain⟨a,v,p,_⟩:=U.tuple q;exact⟨a,v,.inr p⟩
 obtain⟨a,v,p,_⟩:=U.list q;exact⟨a,v,.inl p.isList⟩
def Vh:aI "enumerate"=J (.type "enumerate"):=by decide+kernel
def Qg{a:ig}{j:TA}{p c:bp}(o:Gl X "enumerate")(t:X.mg "enumerate"=I)(k:PA X [a] j)(v:ai [a] X.env=[(Y,aU a X.env)]):PI X (.Tuple m k1 n) (.Call (.Name "enumerate" p) [a] [] c) (Wg X.K 0 j):=by intro g s i H R T h;refine Call_<|rA T o t Vh<|AO (Pt (k c g s i H _ T h) λE s1 Q=>?_) v At;obtain⟨L,B,e,z,b,l,O,hv,f,q⟩:=Q;subst hv;obtain⟨u,rfl,A⟩:=qC z;cases A;obtain⟨x,_,r⟩:=I9 e f;exact afu r λU d w y=>Vb e f d w y q
noncomputable def E8(c:Int)(f:F):B0:=λa=>(f a).bind λp=>match p.1.1 with
 |.tup l=>J (l.zipIdx.map λq=>.tup [.int<|c+q.2,q.1],p.2)
 |.lst l=>J (l.zipIdx.map λq=>.tup [.int<|c+q.2,q.1],p.2)
 |_=>I
def Uv{K:iA}{T:SI}{i:L2.St}{d c:Dn}{H:Hp}{r:D×Bool}{f:F}{Q:List V->Hp->Prop}(E:ER K H T i d)(h:f d=J (r,c))(k:∀v l,K2 i d H c l->ER K l T i c->Rep K l (λa=>X0 i c a\/T a) r.1 v->Q [v] l):tA K [hC f] i H Q:=by
 refine⟨d,T,[.val r],c,E,?_,λu o w B=>?_⟩
 .show((hC f d).bind λp=>(kd [] p.2).bind λq=>J (p.1::q.1,q.2))=_;simp only[hC,h,fy,kd]
 have t:=B.len;rcases u with _|⟨v,_|⟨_,_⟩⟩<;>try cases t
 exact k v o B.keep (B.er.mono (λ_ _ e _=>e) (λb _ z=>B.tt b z) λa z=>B.er.dom a<|B.tt a z)<|B.rep E (j:=0) At At
def Sg{K:iA}{B:SB}{c:Int}{f:F}{i:L2.St}{H:Hp}{R:It->Hp->Prop}(y:tI K B (E8 c f) i H R):Wg K c (tA K [hC f]) i H R:=by
 obtain⟨Q,T,w,r,E,e,k⟩:=y;obtain⟨⟨⟨d,o⟩,h⟩,h1,e⟩:=gS e;refine Uv E h1 λv j u t U=>?_
 have key:∀{l},tM d=J l->J (l.zipIdx.map λq=>D.tup [.int<|c+q.2,q.1],h)=J (w,r)->∃b a p,[v]=[V.ref a]/\EV b K j a p/\R (Mu b K a c) j:=λx e=>by obtain⟨rfl,rfl⟩:=iG e;obtain⟨a,p,rfl,q,A⟩:=C8 x U;have q:=q.mono (λ_ _ e _=>e) (P':=Kc B T i h) λa z=>z.own;exact⟨_,a,p,rfl,A8 q,k _ j u t (agv q A λa z=>z.own)⟩
 cases d with
 |tup l=>exact key At e
 |lst l=>exact key At e
 |_=>cases e
end
section
variable {j:iF}{w:iu}{A:iB}{E:iU}{s:hJ}{z TI TO f d n l:gU}{k:Nat}{i g:oF}{x y a b:il}
def Wu{Q:iU}(D:jp z TI TO f d n l)(hz:dF s.heap z TI TO .none)(v7:bY s.heap TI (.ref f) (.ref d))(av:bY s.heap TO a b)(h1:Src s.heap f n k i)(h2:Src s.heap d l k g)
  (hQ:∀x y,i[k]?=zx x->g[k]?=zx y->∀G,dF G z TI TO (cg s.heap.objs.size)->bY G TO x y->Src G f n (k+1) i->Src G d l (k+1) g->bY G s.heap.objs.size x y->(∀c o,c≠z->c≠TO->c≠f->c≠d->s.heap.get? c=zx o->G.get? c=zx o)->Q (.ref s.heap.objs.size) {s with heap:=G})
  (hE:i[k]?=z7\/g[k]?=z7->A.handled=z7/\∀G e,(∀c o,c≠z->c≠TO->c≠f->c≠d->s.heap.get? c=zx o->G.get? c=zx o)->(∃o,G.get? e=zx o/\o.cls=.type "StopIteration")->E (.ref e) {s with heap:=G}):
  ae (ah j w) A (bo.«zip.__next__» ⟨[.ref z],[]⟩) (λfin s'=>∃v,fin=.done (.ret v)/\Q v s') E s:=by
 have L:∀{h:iJ}{e:gU}{oe:dS}{f0:il},dF h z TI TO f0->h.get? e=zx oe->oe.cls=.type "StopIteration"->e≠z:=λhzz cy bL q=>by subst q;have R:_=_:=hzz;rw[cy]at R;cases R;injection bL with bL;exact absurd bL (by decide)
 refine gW (m:=fZ (.ref z) 2)<|pv hz At (x:=.bool z9) At<|gW (m:=fZ (.ref z) 3)<|pv hz At (x:=.ref TI) At<|gW<|sY v7 At<|gW (m:=bc<|.ref z) ?_;unfold bc;refine gW<|pv hz At (x:=.none) At<|ik ?_;simp -iota only[kz];refine gW<|sG<|gW<|pv hz At (x:=.ref TO) At<|gW<|vf hz (by simp) λH dt K=>?_;replace dt:dF H z TI TO .ellipsis:=dt;refine gW ?_;simp -iota only[h8,List.zipIdx_nil,c7,lf];have c1:Src H f n k i:=h1.keep (λo e=>K.extBut _ o D.i1z e) λo e=>K.extBut _ o D.l1z e
 cases hx:i[k]? with
 |none=>obtain⟨hh,hE⟩:=hE<|.inl hx;refine gW<|gW<|Ee<|gW (m:=aN<|.ref f)<|c1.stop (s:={s with heap:=H}) hh hx λr e U a'=>?_;obtain⟨oe,cy,bL⟩:=a';have M:dF r z TI TO .ellipsis:=U _ _ D.i1z.symm dt;exact vf (s:={s with heap:=r}) M (by simp) λt _ T=>hE t e (λc o O _ d3 _ q=>T.extBut _ _ O (U _ _ d3 (K.extBut _ _ O q))) ⟨oe,T.extBut _ _ (L M cy bL) cy,bL⟩
 |some x=>
  refine gW<|gW<|Ee<|gW (m:=aN<|.ref f)<|c1.item (s:={s with heap:=H}) hx λr V U=>ik ?_;have B:bY r TO a b:=U.extBut _ _ D.TOi1 (K.extBut _ _ D.TOz av);refine gW<|sY (s:={s with heap:=r}) B At<|gW<|NX (s:={s with heap:=r}) B λt cF T=>gW<|Eh<|ik ?_;replace cF:bY t TO x b:=cF;have c2:Src t d l k g:=h2.keep (λo e=>T.extBut _ o D.TOi2.symm (U.extBut _ o D.i12.symm (K.extBut _ o D.i2z e))) λo e=>T.extBut _ o D.l2TO (U.extBut _ o D.l2i1 (K.extBut _ o D.l2z e))
  cases hy:g[k]? with
  |none=>obtain⟨hh,hE⟩:=hE<|.inr hy;refine gW<|gW<|Ee<|gW (m:=aN<|.ref d)<|c2.stop (s:={s with heap:=t}) hh hy λu e bA a'=>?_;obtain⟨oe,cy,bL⟩:=a';have dr:dF u z TI TO .ellipsis:=bA _ _ D.i2z.symm (T.extBut _ _ D.TOz.symm (U.extBut _ _ D.i1z.symm dt));exact vf (s:={s with heap:=u}) dr (by simp) λp _ F=>hE p e (λc o O d2 d3 d4 q=>F.extBut _ _ O (bA _ _ d4 (T.extBut _ _ d2 (U.extBut _ _ d3 (K.extBut _ _ O q))))) ⟨oe,F.extBut _ _ (L dr cy bL) cy,bL⟩
  |some y=>
   refine gW<|gW<|Ee<|gW (m:=aN<|.ref d)<|c2.item (s:={s with heap:=t}) hy λu X bA=>ik ?_;have C:bY u TO x b:=bA.extBut _ _ D.TOi2 cF;refine gW<|sY (s:={s with heap:=u}) C At<|gW<|NX (s:={s with heap:=u}) C λp bN F=>gW<|Eh<|ik<|ik ?_;replace bN:bY p TO x y:=bN;refine gW<|sY (s:={s with heap:=p}) bN At<|gW<|Ei (s:={s with heap:=p}) ?_;have hsz:p.objs.size=s.heap.objs.size:=by rw[F.1,bA.1,T.1,U.1,K.1]
   have N:dF p z TI TO .ellipsis:=F.extBut _ _ D.TOz.symm (bA.extBut _ _ D.i2z.symm (T.extBut _ _ D.TOz.symm (U.extBut _ _ D.i1z.symm dt)));have hk₅:∀c o,c≠z->c≠TO->c≠f->c≠d->s.heap.get? c=zx o->p.get? c=zx o:=λc o O d2 d3 d4 e=>F.extBut _ _ d2 (bA.extBut _ _ d4 (T.extBut _ _ d2 (U.extBut _ _ d3 (K.extBut _ _ O e))));have W:Src p f n (k+1) i:=V.keep (λo e=>F.extBut _ o D.TOi1.symm (bA.extBut _ o D.i12 (T.extBut _ o D.TOi1.symm e))) λo e=>F.extBut _ o D.l1TO (bA.extBut _ o D.l1i2 (T.extBut _ o D.l1TO e));have Z:Src p d l (k+1) g:=X.keep (λo e=>F.extBut _ o D.TOi2.symm e) λo e=>F.extBut _ o D.l2TO e;have P:z<p.objs.size:=jc N;refine gW (m:=bb (.ref z)<|.ref p.objs.size) ?_;unfold bb;have hz₆:dF (p.push {cls:=.type "tuple",data:=.seq #[x,y]}) z TI TO .ellipsis:=jJ _ N;refine gW<|vf (s:={s with heap:=p.push {cls:=.type "tuple",data:=.seq #[x,y]}}) hz₆ (by simp) λS fD cf=>?_;replace fD:dF S z TI TO (cg p.objs.size):=fD;refine vf (s:={s with heap:=S}) fD (by simp) λI en Y=>?_;replace en:dF I z TI TO (cg p.objs.size):=en;have up:∀c o,c≠z->p.get? c=zx o->I.get? c=zx o:=λc o O e=>Y.extBut _ _ O (cf.extBut _ _ O (jJ _ e));have J:bY I p.objs.size x y:=Y.extBut _ _ (qh P) (cf.extBut _ _ (qh P) (kc _ rfl));rw[hsz]at en J;refine ik ⟨_,rfl,?_⟩;show Q (.ref p.objs.size) _;rw[hsz];exact hQ x y hx hy I en (up _ _ D.TOz bN) (W.keep (λo e=>up _ o D.i1z e) λo e=>up _ o D.l1z e) (Z.keep (λo e=>up _ o D.i2z e) λo e=>up _ o D.l2z e) J λc o O d2 d3 d4 e=>up c o O<|hk₅ c o O d2 d3 d4 e
def Bk{Q:FU}(D:jp z TI TO f d n l)(t:dF s.heap z TI TO .none)(M:bY s.heap TI (.ref f) (.ref d))(I:bY s.heap TO a b)(h1:Src s.heap f n k i)(L:Src s.heap d l k g)
  (O:∀x y,i[k]?=J x->g[k]?=J y->∀h,dF h z TI TO (cg s.heap.objs.size)->bY h TO x y->Src h f n (k+1) i->Src h d l (k+1) g->bY h s.heap.objs.size x y->(∀c o,c≠z->c≠TO->c≠f->c≠d->s.heap.get? c=J o->h.get? c=J o)->Q (J<|.ref s.heap.objs.size) {s with heap:=h})
  (m:i[k]?=z7\/g[k]?=z7->A.handled=z7/\∀h,(∀c o,c≠z->c≠TO->c≠f->c≠d->s.heap.get? c=J o->h.get? c=J o)->Q z7 {s with heap:=h}):
  ae (ah j w) A (cw<|.ref z) Q E s:=by
 have p:s.TypeIs (.ref z) "zip":=⟨_,t,rfl⟩
 unfold cw
 exact gW (vV (tE (name:=bz "__next__") p F.slot_zip_next (qf F.slot_zip_next p F.entry_zip_next
  (Wu D t M I h1 L (λx y q r h a1 u v B N H=>ik<|O x y q r h a1 u v B N H) λq=>⟨(m q).1,λh e hk ⟨o,U,G⟩=>gW<|yK (T:="StopIteration") (b:=C) ⟨o,U,G⟩ Ef<|ik<|(m q).2 _ hk⟩) (F.args_zip_next_1 _))))
end
def Tr(j c:gU)(l i:oF):tz (bo.«zip.__new__» ⟨[.type "zip",.ref j,.ref c],[]⟩) (λ_ R s=>(s.heap.IsList j l\/s.heap.IsTuple j l)/\(s.heap.IsList c i\/s.heap.IsTuple c i)/\
  ∀h1 a,Src h1 s.heap.objs.size j 0 l->h1.objs.size=s.heap.objs.size+1->(∀b o,s.heap.get? b=J o->h1.get? b=J o)->Src a h1.objs.size c 0 i->a.objs.size=h1.objs.size+1->(∀b o,h1.get? b=J o->a.get? b=J o)->
   R (.ok<|.ret<|.ref ((a.push {cls:=.type "tuple",data:=.seq #[.ref s.heap.objs.size,.ref h1.objs.size]}).push {cls:=.type "tuple",data:=.seq #[.none,.none]}).objs.size)
    {s with heap:=((a.push {cls:=.type "tuple",data:=.seq #[.ref s.heap.objs.size,.ref h1.objs.size]}).push {cls:=.type "tuple",data:=.seq #[.none,.none]}).push {cls:=.type "zip",data:=.fields #[.none,.bool Y,.bool Y,.ref a.objs.size,.ref (a.push {cls:=.type "tuple",data:=.seq #[.ref s.heap.objs.size,.ref h1.objs.size]}).objs.size]}}):=
 .of_wp λm w A R s h=>by
  obtain⟨y,g,d,x,os⟩:=s;obtain⟨v,u,h⟩:=h;have z:=sub_zip
  wp_walk using Src.new v
  intro h1 a1 n k
  have f:h1.IsList c i\/h1.IsTuple c i:=by
   rcases u with⟨o,e,r⟩|⟨o,e,r⟩
   .exact .inl ⟨o,k _ _ e,r⟩
   exact .inr ⟨o,k _ _ e,r⟩
  wp_walk using Src.new (s:=⟨h1,g,d,x,os⟩) f
  intro a p q t
  wp_walk
  exact⟨_,rfl,h h1 a a1 n k p q t⟩
def ItZ(c d:Bool)(K:iA)(e f:gU):It:=⟨λi U=>∃a b x y,EV c K U e a/\EV d K U f b/\a[i]?=J x/\b[i]?=J y,
 λi U x g=>∃(T:gU)(u v:V),x=.ref T/\U T=I/\g=upd U T (.tup [u,v])/\∀a b,EV c K U e a->EV d K U f b->a[i]?=J u/\b[i]?=J v,
 λi U=>∃a b,EV c K U e a/\EV d K U f b/\(AC a<=i\/(AC b)<=i)⟩
structure ZA(z TI TO i1 i2:gU):Prop where
 a1:TI≠z
 a2:TO≠z
 a3:i1≠z
 a4:i2≠z
 a5:TI≠TO
 a6:TI≠i1
 a7:TI≠i2
 a8:TO≠i1
 a9:TO≠i2
 a10:i1≠i2
def xq{b:Bool}{K:iA}{U:Hp}{l:gU}{m:List V}{X:Cx}{c:iO}{p:L2.St}{s:hJ}(T:Inv X c p U s)(k:X.K=K)(q:EV b K U l m){h:ki}(i:∀a∈h,ur X c U a):l∉h:=by
 subst k;intro j;have d:=(i l j).1
 have base:∀o,X.K.lookup l=J o->False:=λo e=>by
  have g:=T.mod.kin l o e;rcases(i l j).2.2.2.1 with z|z
  .exact T.ok.noex l o g z
  have:=(T.ok.bs l o g).1;exact absurd (jc this)<|g0.mpr z
 cases b
 .rcases q with(q|⟨o,q⟩)|⟨o,f,n,e,_⟩
  .rw[d]at q;cases q
  .rw[d]at q;cases q
  exact base o e
 rcases q with(q|⟨o,q⟩)|⟨o,f,n,e,_⟩
 .rw[d]at q;cases q
 .rw[d]at q;cases q
 exact base o e
def Pa{P:iF}{w:iu}{K:iA}{Y:kb}{k1}{pos:bp}(b1 b2:Bool)(z TI TO m n J M:gU)(D:ZA z TI TO m n):
  Turn P w K (.Tuple Y k1 pos) (ItZ b1 b2 K J M) [z,TI,TO,m,n] z (λi h=>dF h z TI TO .none/\bY h TI (.ref m) (.ref n)/\(∃a b,bY h TO a b)/\HB b1 h m J i/\HB b2 h n M i) where
 mem:=by simp
 obj:=λi h st a G=>by
  obtain⟨l,p,⟨u,v,t⟩,s1,C⟩:=st;simp only[kN,my,om]at G;rcases G with rfl|rfl|rfl|rfl|rfl
  .exact⟨_,l,λv e=>by have U:fH _=ev v:=e;cases U⟩
  .exact⟨_,p,λv e=>by have U:k4 _ _=ev v:=e;cases U⟩
  .exact⟨_,t,λv e=>by have U:k4 _ _=ev v:=e;cases U⟩
  .exact s1.obj
  exact C.obj
 keep:=λi h h' st k=>by obtain⟨l,p,⟨u,v,t⟩,s1,C⟩:=st;exact⟨k z (by simp) _ l,k TI (by simp) _ p,⟨u,v,k TO (by simp) _ t⟩,s1.keep λo q=>k m (by simp) o q,C.keep λo q=>k n (by simp) o q⟩
 item:=by
  intro X hP hw L hc i B s σ H E I A st hg;obtain⟨l,p,⟨a0,b0,t⟩,s1,C⟩:=st;obtain⟨xs,ys,x,y,T,Q,hx,hy⟩:=hg;have d:=xq I L T A;have f:=xq I L Q A;simp only[kN,my,om,qW]at d f;subst hP hw L;obtain⟨cn,fj,S⟩:=uE I T s1;obtain⟨c9,Z,N⟩:=uE I Q C;obtain⟨u,hu,ru⟩:=fj.get hx;obtain⟨v,hv,rv⟩:=Z.get hy;have AP:jp z TI TO m n J M:=⟨D.a1,D.a2,D.a3,D.a4,D.a5,D.a6,D.a7,D.a8,D.a9,D.a10,d.1,d.2.2.1,d.2.2.2.1,d.2.2.2.2,f.1,f.2.2.1,f.2.2.2.1,f.2.2.2.2⟩
  refine Bk AP l p t S N (λx' y' q r h' z' t1 c1 c2 hT V=>?_) λq=>absurd q (by simp[hu,hv]);obtain rfl:u=x':=by simpa[hu]using q
  obtain rfl:v=y':=by simpa[hv]using r
  refine⟨.ref s.heap.objs.size,rfl,?_⟩;refine wpAny_letOwnedTupleGo_zip (s:={s with heap:=h'}) z' λO z'' j=>?_;replace j:aF z h' O:=j
  have W:∀a o,a∉[z,TI,TO,m,n]->s.heap.get? a=zx o->O.get? a=zx o:=λa o g q=>by simp only[kN,my,om,qW]at g;exact j.extBut a o g.1<|V a o g.1 g.2.2.1 g.2.2.2.1 g.2.2.2.2 q
  have lt:∀{c o},s.heap.get? c=zx o->s.heap.objs.size≠c:=λe=>qh<|jc e;have cG:bY O s.heap.objs.size u v:=j.extBut _ _ (lt l) hT
  have I1:Inv X B σ (upd H s.heap.objs.size<|.tup [x,y]) {s with heap:=O}:=
   C2 (t':=s.toks) I A W (jw _) (show S1 X.prog X.w _ _ _ (.tup [x,y])from⟨by show 2<=sizeLine;decide,[u,v],.cons ru<|.cons rv .nil,_,cG,rfl,0,rfl⟩)
  have F:HB b1 O m J (i+1):=JG s1 S (c1.keep (λo q=>j.extBut _ o D.a3 q) λo q=>j.extBut _ o d.1 q) λo q=>W J o (by simp only[kN,my,om,qW];exact d) q;have R:HB b2 O n M (i+1):=JG C N (c2.keep (λo q=>j.extBut _ o D.a4 q) λo q=>j.extBut _ o f.1 q) λo q=>W M o (by simp only[kN,my,om,qW];exact f) q;refine⟨.ref s.heap.objs.size,_,I1,rfl,⟨_,x,y,rfl,I.fresh,rfl,λcK ys' q1 q2=>by rw[EB I q1 T,EB I q2 Q];exact⟨hx,hy⟩⟩,⟨z'',j.extBut _ _ D.a1 (V _ _ D.a1 D.a5 D.a6 D.a7 p),⟨u,v,j.extBut _ _ D.a2 t1⟩,F,R⟩,λa G=>?_⟩;have n0:=(A a G).1;rw[iW]
  .exact n0
  intro e;simp only[kN,my,om]at G;rcases G with rfl|rfl|rfl|rfl|rfl
  .exact lt l e.symm
  .exact lt p e.symm
  .exact lt t e.symm
  .exact absurd e (jY S.lt.1)
  exact absurd e (jY N.lt.1)
 done:=by
  intro X hP hw L hc i B s σ H E I A st hg;obtain⟨l,p,⟨a0,b0,t⟩,s1,C⟩:=st;obtain⟨xs,ys,T,Q,hend⟩:=hg;have d:=xq I L T A;have f:=xq I L Q A;simp only[kN,my,om,qW]at d f;subst hP hw L;obtain⟨cn,fj,S⟩:=uE I T s1;obtain⟨c9,Z,N⟩:=uE I Q C;have e1:=fj.length;have e2:=Z.length;have AP:jp z TI TO m n J M:=⟨D.a1,D.a2,D.a3,D.a4,D.a5,D.a6,D.a7,D.a8,D.a9,D.a10,d.1,d.2.2.1,d.2.2.2.1,d.2.2.2.2,f.1,f.2.2.1,f.2.2.2.1,f.2.2.2.2⟩
  refine Bk AP l p t S N (λx y q r=>?_) λ_=>⟨I.ok.hd hc,λh' V=>⟨rfl,C3 (t':=s.toks) I A λa o g q=>?_⟩⟩
  .have z1:=(Nw.mp q).1;have z2:=(Nw.mp r).1;simp at z1 z2;omega
  simp only[kN,my,om,qW]at g;exact V a o g.1 g.2.2.1 g.2.2.2.1 g.2.2.2.2 q
 self:=λ_ _ _ _ _ st h=>na st.1 h
def RC{K:iA}{P O:SI}{g:Hp}{a1 m:gU}{f h:List V}{t A:List D}{r s:Bool}(k:G6 r K g P a1 f)(I:YP K g O t f)(l:G6 s K g P m h)(L:YP K g O A h)(B:∀a,P a->O a):
  JF K (ItZ r s K a1 m) ((t.zip A).map λp=>.tup [p.1,p.2]) P O g:=by
 have sq:∀{b:Bool}{a:gU}{f:List V},G6 b K g P a f->∀Hi,(∀a o,g a=zx o->¬P a->Hi a=zx o)->EV b K Hi a f:=λq Hi c=>A8<|q.mono c λ_ z=>z;refine⟨λi d Hi hd c=>?_,λi Hi U c=>⟨f,h,sq k Hi c,sq l Hi c,by rw[I.length,L.length];simp at U;lia⟩⟩;rw[jv]at hd;obtain⟨⟨X,Z⟩,h1,J⟩:=jy hd;obtain⟨M,N⟩:=FP.mp h1;obtain⟨x,E,F⟩:=I.get M;obtain⟨y,H,R⟩:=L.get N;refine⟨⟨f,h,x,y,sq k Hi c,sq l Hi c,E,H⟩,λv S G=>?_⟩;obtain⟨T,u,w,rfl,C,rfl,Y⟩:=G;obtain⟨g1,g2⟩:=Y f h (sq k Hi c)<|sq l Hi c;rw[E]at g1;cases g1;rw[H]at g2;cases g2;have ext:=lW (o:=.tup [x,y]) C;refine⟨ext,λW h1 Q=>?_⟩;subst J;exact Rep.G4 ⟨iQ,Q T C⟩<|YP.cons (Rep.mono (λb o e n=>ext b o<|c b o e λz=>n<|B b z) (λb j z=>h1 b j z) F)<|YP.cons (Rep.mono (λb o e n=>ext b o<|c b o e λz=>n<|B b z) (λb j z=>h1 b j z) R) YP.nil
section
variable {X:Cx}{d:kb}{k1:Nat}{n:bp}
def YR:aI "zip"=J (.type "zip"):=by decide+kernel
def adB(K:iA)(g:TA):TI:=λk U R=>g k U λh a=>∃e f b c i j,h=[.ref b,.ref c]/\EV e K a b i/\EV f K a c j/\R (ItZ e f K b c) a
def Lz(T:Inv X pins σ U s)(f:EV b X.K U l xs)(c:Src s.heap it l i g):HB b s.heap it l i:=by
 cases b
 .rcases c with⟨_,o,h1,e,_⟩|⟨a,_⟩
  .obtain⟨_,_,p,_⟩:=T.tuple f;obtain⟨h,g1,g2,_⟩:=p;rw[h1]at g1;cases g1;rw[e]at g2;injection g2 with g2;exact absurd g2 (by decide)
  exact a
 rcases c with⟨a,_⟩|⟨_,o,h1,e,_⟩
 .exact a
 obtain⟨_,_,p,_⟩:=T.list f;obtain⟨h,g1,g2,_⟩:=p.isList;rw[h1]at g1;cases g1;rw[e]at g2;injection g2 with g2;exact absurd g2 (by decide)
def XA{a b:ig}{E:TA}{p j:bp}(hg:Gl X "zip")(hm:X.mg "zip"=I)(t:PA X [a,b] E)(hs:ai [a,b] X.env=(z9,aU a X.env)::ai [b] X.env)(g8:(bg j<|ai [b] X.env).any (·.1)=z9):
  PI X (.Tuple d k1 n) (.Call (.Name "zip" p) [a,b] [] j) (adB X.K E):=by
 intro i s0 L O R y h;refine AN<|rA y hg hm YR<|AO (Pt (t j i s0 L O _ y h) λus s a'=>?_) hs g8;obtain⟨vs,H',I',r1,T,G,B,C',xs,ys,hv,A,z,q⟩:=a';subst hv;obtain⟨u,v,rfl,ru,rv⟩:=Ge r1;cases ru;cases rv;obtain⟨D,_,M⟩:=I9 I' A;obtain⟨Y,_,J⟩:=I9 I' z;refine wn F.called_zip (by decide) (F.typeCall_zip_2 _ _) (F.newCall_zip_2 _ _) (λobj=>F.args_object_init_3 obj _ _) F.entry_zip_new (Tr B C' D.toArray Y.toArray) ⟨M,J,λh1 f N z1 k1 U z2 k2=>?_⟩;generalize k:({cls:=.type "tuple",data:=.seq #[.ref s.heap.objs.size,.ref h1.objs.size]}:dS)=g;generalize l:({cls:=.type "tuple",data:=.seq #[.none,.none]}:dS)=o4;have z3:(f.push g).objs.size=f.objs.size+1:=qx ..;have z4:((f.push g).push o4).objs.size=f.objs.size+2:=by rw[qx,z3]
 generalize m:({cls:=.type "zip",data:=.fields #[.none,.bool z9,.bool z9,.ref f.objs.size,.ref (f.push g).objs.size]}:dS)=o5;have Z:(((f.push g).push o4).push o5).get? ((f.push g).push o4).objs.size=zx o5:=kc _ (by rw[<-m];rfl);have W:(((f.push g).push o4).push o5).get? (f.push g).objs.size=zx o4:=jJ _ (kc _ (by rw[<-l];rfl));have V:(((f.push g).push o4).push o5).get? f.objs.size=zx g:=jJ _ (jJ _ (kc _ (by rw[<-k];rfl)));have r:∀c o,f.get? c=zx o->(((f.push g).push o4).push o5).get? c=zx o:=λc o e=>jJ _ (jJ _ (jJ _ e));have x:dF (((f.push g).push o4).push o5) ((f.push g).push o4).objs.size f.objs.size (f.push g).objs.size .none:=by show _=_;rw[Z,<-m]
 have v7:bY (((f.push g).push o4).push o5) f.objs.size (.ref s.heap.objs.size) (.ref h1.objs.size):=by show _=_;rw[V,<-k]
 have Q:bY (((f.push g).push o4).push o5) (f.push g).objs.size .none .none:=by show _=_;rw[W,<-l]
 have w:Inv X i L H' {s with heap:=((f.push g).push o4).push o5}:=I'.kept (t':=s.toks) λc o e=>r c o<|k2 c o<|k1 c o e;have P:=N.keep (h':=((f.push g).push o4).push o5) (λo e=>r _ o (k2 _ o e)) λo e=>r _ o (k2 _ o e);have S:=U.keep (h':=((f.push g).push o4).push o5) (λo e=>r _ o e) λo e=>r _ o e;refine⟨⟨_,x,rfl⟩,na (s:={s with heap:=((f.push g).push o4).push o5}) x ?_⟩;refine⟨((f.push g).push o4).objs.size,[((f.push g).push o4).objs.size,f.objs.size,(f.push g).objs.size,s.heap.objs.size,h1.objs.size],_,_,H',rfl,w,Pa T G _ _ _ _ _ B C' ⟨?_,?_,?_,?_,?_,?_,?_,?_,?_,?_⟩,⟨x,v7,⟨_,_,Q⟩,Lz w A P,Lz w z S⟩,λa t=>?_,q⟩
 case refine_11=>
  have le:s.heap.objs.size<=a:=by simp only[kN,my,om]at t;rcases t with rfl|rfl|rfl|rfl|rfl<;>lia
  exact I'.J3 le<|I'.hok.fresh le
 all_goals lia
def JH(f g:FO):B0:=λa=>(f a).bind λp=>(g p.2).bind λq=>(res q.2 p.1).bind λx=>(res q.2 q.1).bind λy=>(tM x).bind λl=>(tM y).bind λm=>J ((l.zip m).map λp=>.tup [p.1,p.2],q.2)
def BG(f g:F):B0:=λδ=>(f δ).bind λp=>(g p.2).bind λq=>(tM p.1.1).bind λl=>(tM q.1.1).bind λm=>J ((l.zip m).map λp=>.tup [p.1,p.2],q.2)
def Qd{B:SB}{a b:ig}{f g:FO}{p c:bp}(hg:Gl X "zip")(hm:X.mg "zip"=z7)(Y:PO X a f)(hb:PO X b g)(C:OR B f)(I:OR B g)(t:ai [a,b] X.env=(z9,aU a X.env)::ai [b] X.env)(Q:ai [b] X.env=(z9,aU b X.env)::ai [] X.env)(G:(bg c<|ai [b] X.env).any (·.1)=z9):
  Jt X B (.Tuple d k1 n) (.Call (.Name "zip" p) [a,b] [] c) (JH f g):=PI.imp' (XA hg hm (tX Y (tX hb An Q) t) t G) λσ H R F=>by
 obtain⟨δ,T,ds,δ',E,e,k⟩:=F;obtain⟨⟨K,δ1⟩,h1,e⟩:=gS e;obtain⟨⟨P,s⟩,h,e⟩:=gS e;obtain⟨x,J,e⟩:=gS e;obtain⟨y,M,e⟩:=gS e;obtain⟨l,N,e⟩:=gS e;obtain⟨m,U,e⟩:=gS e;obtain⟨rfl,rfl⟩:=iG e;dsimp only at h;refine⟨δ,T,[K,P],s,E,?_,λS L T1 W=>?_⟩
 .simp only[kd,h1,h,fy]
 have D:=W.len;rcases S with _|⟨v,_|⟨u,_|⟨_,_⟩⟩⟩<;>try cases D
 obtain⟨a1,V,rfl,w,q⟩:=W.seq E (j:=0) At At J N λi o=>C _ _ _ (o▸h1);obtain⟨O,Z,rfl,A,r⟩:=W.seq E (j:=1) At At M U λi o=>I _ _ _ (o▸h);exact⟨_,_,a1,O,V,Z,rfl,A8 w,A8 A,k _ L W.keep (W.er.mono (λ_ _ e _=>e) (λb _ z=>W.tt b z) λa z=>W.er.dom a<|W.tt a z) (RC w q A r λa z=>z.own)⟩
end
end PX
namespace TS
def Ask(M:j0)(A:iB)(G:hJ->Prop)(it:Nat->dH)(d:j6)(N:Nat)(lt:Nat->Nat->Bool):Prop:= ∀i j,i<N->j<N->∀s,G s->∀a,ae M A (uu d (it i).1 (it j).1) (λb c=>G c/\b=lt i j) a s
structure Cs where
 M:j0
 A:iB
 E:il->hJ->Prop
 G:hJ->Prop
 it:Nat->dH
 lt:Nat->Nat->Bool
 κ:j6
 N:Nat
 as:∀i j,lt i j=z8->lt j i=z9
 tr:∀{i j k},lt j i=z9->lt k j=z9->lt k i=z9
 ask:Ask M A G it κ N lt
section
variable {X:Cs}{α β:Type}{f:α->StateT sy cY β}{Q:β->sy->Prop}{st:sy}
def wp(X:Cs){α:Type}(m:StateT sy cY α)(Q:α->sy->Prop)(st:sy):Prop:= ∀s,X.G s->ae X.M X.A (m.run st) (λr a=>X.G a/\Q r.1 r.2) X.E s
def hX{a:β}(h:Q a st):wp X (pure a) Q st:=λs g=>by rw[Iv];exact ik ⟨g,h⟩
def kf{m:StateT sy cY α}(h:wp X m (λa c=>wp X (f a) Q c) st):wp X (m>>=f) Q st:=λs g=>by rw[StateT.run_bind];exact gW<|qi (h s g) (λr d b=>b.2 d b.1) λ_ _ e=>e
def Kn{m:StateT sy cY α}{Q b:α->sy->Prop}(h:wp X m Q st)(i:∀a c,Q a c->b a c):wp X m b st:=λs g=>qi (h s g) (λr _ d=>⟨d.1,i _ _ d.2⟩) λ_ _ e=>e
def iR{c:Prop}[Decidable c]{t e:StateT sy cY β}(h1:c->wp X t Q st)(a: ¬c->wp X e Q st):wp X (if c then t else e) Q st:=by split<;>simp_all
def pD{f:sy->StateT sy cY β}(h:wp X (f st) Q st):wp X (get>>=f) Q st:=kf λs g=>by rw[StateT.run_get];exact ik ⟨g,h⟩
def wt{g:sy->sy}{f:PUnit->StateT sy cY β}(h:wp X (f ⟨⟩) Q (g st)):wp X (modify g>>=f) Q st:=kf λs g=>by rw[StateT.run_modify];exact ik ⟨g,h⟩
def Ko{m:cY α}(h:∀s,X.G s->ae X.M X.A m (λa b=>X.G b/\wp X (f a) Q st) X.E s):wp X (liftM m>>=f) Q st:=kf λs g=>by show ae X.M X.A ((StateT.lift m:StateT sy cY α).run st) _ X.E s;rw[StateT.run_lift];exact gW<|qi (h s g) (λa b c=>ik c) λ_ _ e=>e
def ux{x:String}{f:Unit->StateT sy cY β}(h:wp X (f ()) Q st):wp X (liftM (rule x)>>=f) Q st:=Ko λs g=>sG ⟨g,h⟩
def Tz{e:Nat}{g:Nat->α->StateT sy cY (ForInStep α)}{T:Nat->α->sy->Prop}{U:α->sy->Prop}
  (m:∀i c st,i<e->T i c st->wp X (g i c) (λr b=>match r with|.done d=>U d b|.yield d=>T (i+1) d b) st)(l:∀c st,T e c st->U c st):
  ∀(n a:Nat)(c:α)(st:sy),a+n=e->T a c st->wp X (forIn (bi a n 1) c g) U st:=by
 intro p
 induction p with
 |zero=>intro a c st rfl h;exact hX<|l _ _ h
 |succ n o=>
  intro a c st q h;rw[AF,c7];refine kf<|Kn (m a c st (by lia) h) λr b k=>?_
  cases r with
  |done j=>exact hX k
  |yield j=>exact o _ j b (by lia) k
def mz{g:Nat->α->StateT sy cY (ForInStep α)}(T:Nat->α->sy->Prop)(U:α->sy->Prop){a b:Nat}{c:α}(h:T a c st)
  (l:∀i c st,i<a+(b-a)->T i c st->wp X (g i c) (λr e=>match r with|.done d=>U d e|.yield d=>T (i+1) d e) st)
  (j:∀c st,T (a+(b-a)) c st->U c st)(k:∀c st,U c st->wp X (f c) Q st):wp X (forIn [a:b] c g>>=f) Q st:=by
 refine kf<|Kn ?_ k;rw[Std.Legacy.Range.forIn_eq_forIn_range'];exact Tz l j _ _ _ _ (by simp[Std.Legacy.Range.size]) h
noncomputable abbrev ar(X:Cs)(l:jM):Array Keyed:=(l.map X.it).toArray
def md{l:jM}{i x:Nat}{f:dH->StateT sy cY β}(e:l[i]?=J x)(h:wp X (f<|X.it x) Q st):wp X (elem' (ar X l) i>>=f) Q st:=kf (by rw[elem'_eq,show(ar X l)[i]?=J (X.it x) by simp[e]];exact hX h)
def F8{i j:Nat}{f:Option Bool->StateT sy cY β}(hk:kindOf st=X.κ)(k:i<X.N)(l:j<X.N)(h:∀b,X.lt i j=b->wp X (f<|J b) Q st):wp X (lt' (X.it i) (X.it j)>>=f) Q st:=kf (by rw[lt'_eq];refine pD ?_;rw[hk];refine Ko λs g=>vV<|qi (X.ask i j k l s g λ_ _=>False) (λb m c=>?_) λe m d=>d.elim;obtain⟨a,rfl⟩:=c;exact⟨a,hX<|h _ rfl⟩)
structure Rp(X:Cs)(q:Array (Nat×Nat×Nat))(L:jM)(st:sy):Prop where
 a:ew st=ar X L
 k:kindOf st=X.κ
 f:eO st=z7
 q:pendingOf st=q
 p:L.Perm (am X.N)
def Rp.n{q:Array (Nat×Nat×Nat)}{L:jM}(R:Rp X q L st){i x:Nat}(e:L[i]?=J x):x<X.N:=by simpa using R.p.mem_iff.mp<|lK e
def F9{q:Array (Nat×Nat×Nat)}{L:jM}(R:Rp X q L st){i j x y:Nat}{f:Option Bool->StateT sy cY β}(c:L[i]?=J x)(d:L[j]?=J y)(h:∀b,X.lt x y=b->wp X (f<|J b) Q st):wp X (ltAt' i j>>=f) Q st:=kf (by rw[ltAt'_eq];refine pD ?_;rw[R.a];exact md c<|md d<|by rw[<-bind_pure (lt' _ _)];exact F8 R.k (R.n c) (R.n d) λb e=>hX<|h b e)
def ae0{α:Type}(T A R:List α){d:Nat}(hd:d=(AC A) / 2):mirror (T++(A++R)).toArray (AC T) (AC T+AC A) d=(T++(A.reverse++R)).toArray:=by
 have hd:d=(AC T+AC A-AC T) / 2:=by lia
 subst hd;apply Array.ext_getElem?;intro k;rw[getElem?_mirror_all<|by simp];simp only[List.getElem?_toArray];by_cases h1:k<AC T
 .rw[iC<|by lia,rV h1,rV h1]
 obtain⟨k,rfl⟩:=Nat.exists_eq_add_of_le<|j8 h1;rw[qg (by lia) (l₂:=A.reverse++R),Iu];by_cases a:k<AC A
 .rw[ie<|by lia,qg<|by lia,rV<|by lia,rV<|by simpa using a,List.getElem?_reverse a]
  congr 1;lia
 rw[iC<|by lia,qg<|by lia,Iu,qg<|by lia,qg<|by simpa using a,NW]
def afh{α:Type}(R:List α)(x:α):∀(A T:List α){i:Nat},i=AC T+AC A->bubble (T++(A++x::R)).toArray i (AC A)=(T++(x::(A++R))).toArray:=by
 intro c
 induction c with
 |nil=>intro T i h;exact H
 |cons a A b=>
  intro T i h;have:=b (T++[a]) (i:=i) (by simp at h ⊢;lia);rw[kG,bubble_succ,show T++(a::A++x::R)=T++[a]++(A++x::R) by simp,this];have e:i-AC A=AC T+1:=by simp at h;lia
  rw[e,g6];simp[Array.swapIfInBounds]
variable {q:Array (Nat×Nat×Nat)}{T A R:jM}{i j x:Nat}
def ON{b:CS}{L a:jM}(S:Rp X q L st)(e:b=ar X a)(p:a.Perm L):Rp X q a (setArr st b):=⟨e,S.k,S.f,S.q,p.trans S.p⟩
def IU{f:Unit->StateT sy cY β}(S:Rp X q (T++(A++R)) st)(c:i=AC T)(e:j=AC T+AC A)(h:∀b,Rp X q (T++(A.reverse++R)) b->wp X (f ()) Q b):wp X (vv i j>>=f) Q st:=by rw[reverseSlice'_eq];subst c e;refine wt<|h _ (ON S ?_<|((AE A).append_right R).append_left T);have:=ae0 (T.map X.it) (A.map X.it) (R.map X.it) (d:=(AC T+AC A-AC T) / 2) (by simp);simpa[ar,S.a]using this
def WO{f:Unit->StateT sy cY β}(S:Rp X q (T++(A++x::R)) st)(c:i=AC T+AC A)(d:j=AC T)(h:∀b,Rp X q (T++(x::(A++R))) b->wp X (f ()) Q b):wp X (moveDown' i j>>=f) Q st:=by rw[moveDown'_eq];subst c d;refine wt<|h _ (ON S ?_<|Tn.symm.append_left T);have:=afh (R.map X.it) (X.it x) (A.map X.it) (T.map X.it) (i:=AC T+AC A) (by simp);simpa[ar,S.a]using this
end
abbrev Cs.le(X:Cs)(i j:Nat):Prop:=X.lt j i=Y
section
variable {X:Cs}{o:Type}{Q:o->sy->Prop}{st:sy}{q:Array (Nat×Nat×Nat)}{T A B D R L:jM}{i j x y:Nat}{r:Nat->Nat->Prop}
def Jz(h:i=AC T+AC A):(T++(A++x::R))[i]?=J x:=by subst h;simp
def ix1(h:i=AC T+AC A+1):(T++(A++x::y::R))[i]?=J y:=by subst h;rw[<-oo,qg<|by simp];simp
def Gr(u:D.Pairwise r)(h:∀z∈D,r z y):(D++[y]).Pairwise r:=uw.mpr ⟨u,NV _ _,λa c b d=>yw.mp d▸h a c⟩
def Hf(e:∀{a b c},r a b->r b c->r a c)(u:(D++[x]).Pairwise r)(h:r x y):∀z∈D++[x],r z y:=λz d=>by
 rcases oE.mp d with d|d
 .exact e ((uw.mp u).2.2 z d x jt) h
 rw[yw.mp d];exact h
def OS{g:Nat->Option (Option Nat)×Nat->StateT sy cY (ForInStep<|Option (Option Nat)×Nat)}{f:Option (Option Nat)×Nat->StateT sy cY o}{lo n m:Nat}
  (p:∀i n,g i (I,n)=(ltAt' (lo+n) (lo+n-1)>>=λx=>match x with|some b=>if b=C then pure (.done (I,n))else pure (.yield (I,n+1))|_=>pure<|.done (J I,n)))
  (S:Rp X q (T++(A++x::R)) st)(v:(AC T)=lo)(t:n=AC A+1)(a:m=n+R.length)(u:(A++[x]).Pairwise X.le)
  (h:∀A x R,Rp X q (T++(A++x::R)) st->m=AC A+1+R.length->(A++[x]).Pairwise X.le->(∀y l,R=y::l->X.lt y x=C)->wp X (f (I,AC A+1)) Q st):wp X (forIn [n:m] (I,n) g>>=f) Q st:=by
 refine mz (λi c s=>s=st/\c=(I,i)/\∃A x R,Rp X q (T++(A++x::R)) st/\i=AC A+1/\m=i+R.length/\(A++[x]).Pairwise X.le)
  (λc s=>s=st/\∃A x R,Rp X q (T++(A++x::R)) st/\c=(I,AC A+1)/\m=AC A+1+R.length/\(A++[x]).Pairwise X.le/\∀y l,R=y::l->X.lt y x=C) ⟨rfl,rfl,A,x,R,S,t,a,u⟩ ?_ ?_ ?_
 .rintro i c s d ⟨rfl,rfl,A,x,R,S,rfl,h1,u⟩;rw[p];obtain⟨y,l,rfl⟩:=sV (l:=R) (by lia);refine F9 S (ix1<|by lia) (Jz<|by lia) λb e=>?_
  cases b
  .exact hX ⟨rfl,rfl,A++[x],y,l,by simpa using S,by simp,by simp at h1;lia,Gr u<|Hf X.tr u e⟩
  exact hX ⟨rfl,A,x,_,S,rfl,h1,u,λ_ _ k=>by cases k;exact e⟩
 .rintro c s ⟨rfl,rfl,A,x,R,S,d,h1,u⟩;exact⟨rfl,A,x,R,S,by rw[d],by lia,u,λy l e=>by subst e;simp at h1;lia⟩
 rintro c s ⟨rfl,A,x,R,S,rfl,a,u,e⟩;exact h A x R S a u e
def OP{c:Prop}[Decidable c]{k:StateT sy cY o}(S:Rp X q (T++(A++R)) st)(e:i=AC T)(f:j=AC T+AC A)(d: ¬c->AC A=1)(h:∀b,Rp X q (T++(A.reverse++R)) b->wp X k Q b):wp X (if c then vv i j>>=λ_=>k else k) Q st:=iR (λ_=>IU S e f h) λz=>h _ (by obtain⟨a,rfl⟩:=List.length_eq_one_iff.mp<|d z;exact S)
def dnT(d:(A++B).Pairwise λa b=>X.le b a)(u:B.Pairwise X.le):(A++B.reverse).Pairwise λa b=>X.le b a:=by rw[uw]at d ⊢;exact⟨d.1,IT.mpr u,λa c b e=>d.2.2 a c b<|cP.mp e⟩
def Cs.rf(X:Cs)(i:Nat):X.le i i:=hF.mpr λh=>im<|h.symm.trans<|X.as i i h
def VT{k m:StateT sy cY o}(P:sy->Prop)(b:(∀a,P a->wp X k Q a)->wp X m Q st)(hk:∀a,P a->wp X k Q a):wp X m Q st:=b hk
def ag7{lo m:Nat}{Q:Option Nat->sy->Prop}(S:Rp X q (T++x::R) st)(p:(AC T)=lo)(f:m=1+R.length)(h:∀A R g,Rp X q (T++(A++R)) g->A≠[]->A.Pairwise X.le->m=AC A+R.length->Q (J<|AC A) g):wp X (countRun' lo m) Q st:=by
 have fin:∀A x R g,Rp X q (T++(A++x::R)) g->m=AC A+1+R.length->(A++[x]).Pairwise X.le->Q (J<|AC A+1) g:=λA x R g S f u=>by simpa using h (A++[x]) R g (by simpa using S) (by simp) u (by simpa using f)
 have ge:∀{a b c},X.le b a->X.le c b->X.le c a:=λh1 t=>X.tr t h1;rw[countRun'_eq];dsimp only;refine OS (λ_ _=>rfl) (A:=[]) S p H f (by simp) λA x R S f u M=>?_;refine iR (λ_=>hX<|fin A x R _ S f u) λO=>?_;obtain⟨y,l,rfl⟩:=sV (l:=R) (by simp at O;lia);apply VT λg=>Rp X q (T++((A++[x]).reverse++y::l)) g/\∀z∈A++[x],X.le y z
 .intro F;have w:=X.as _ _ (M y l H);refine iR (λh1=>?_) λh1=>F _ ?_
  .obtain⟨a,A,rfl⟩:=sV (l:=A)<|Nat.lt_of_succ_lt_succ h1;refine F9 S (x:=a) (y:=x) (Jz (A:=[])<|by simpa using p.symm) (Jz<|by simp;lia) λb e=>?_
   cases b
   .refine IU (A:=a::A++[x]) (by simpa using S) p.symm (by simp;lia) λg n=>F _ ⟨n,λz k=>X.tr (X.tr w e) ?_⟩;rcases kN.mp k with rfl|k
    .exact X.rf _
    exact(FN.mp u).1 z k
   exact hX<|fin _ x _ _ S f u
  obtain rfl:=AD (l:=A) (by simpa using h1);exact⟨S,by simpa using w⟩
 rintro st ⟨S,d⟩;have t:(AC A)+2<=m:=by simp at f;lia
 dsimp only
 refine ux (mz (λi c s=>∃U B x R,c=(I,i,AC B)/\Rp X q (T++(U++(B++x::R))) s/\i=AC U+AC B+1/\m=i+R.length/\(U++(B++[x])).Pairwise (λa b=>X.le b a)/\(B++[x]).Pairwise X.le)
  (λc s=>∃U B x R,c=(I,AC U+AC B+1,AC B)/\Rp X q (T++(U++(B++x::R))) s/\m=AC U+AC B+1+R.length/\(U++(B++[x])).Pairwise (λa b=>X.le b a)/\(B++[x]).Pairwise X.le) ⟨(A++[x]).reverse,[],y,l,rfl,S,by simp,by simp at f ⊢;lia,?_,by simp⟩ ?_ ?_ ?_)
 .exact Gr (IT.mpr u) λz k=>d z<|cP.mp k
 .rintro i c s v ⟨U,B,x,R,rfl,S,rfl,f,d,u⟩;obtain⟨y,l,rfl⟩:=sV (l:=R) (by lia);rw[<-oo]at S;refine F9 S (ix1<|by simp;lia) (Jz<|by simp;lia) λb e=>?_
  cases b
  .refine F9 S (Jz<|by simp;lia) (ix1<|by simp;lia) λb N=>?_
   cases b
   .refine hX ⟨U,B++[x],y,l,by simp,by simpa using S,by simp;lia,by simp at f;lia,?_,Gr u<|Hf X.tr u e⟩;rw[<-oo]at d ⊢;rw[<-oo];exact Gr d<|Hf (r:=λa b=>X.le b a) ge d N
   exact hX ⟨U,B,x,_,rfl,by simpa using S,f,d,u⟩
  refine OP (T:=T++U) (A:=B++[x]) (by simpa using S) (by simp;lia) (by simp;lia) (λz=>by simp at z ⊢;exact z) λg n=>hX ⟨U++(B++[x]).reverse,[],y,l,rfl,by simpa using n,by simp;lia,by simp at f;lia,Gr (dnT d u) λz k=>?_,by simp⟩;rw[<-oo]at d;exact Hf (r:=λa b=>X.le b a) ge d (X.as _ _ e) z (by simpa[or_comm]using k)
 .rintro c s ⟨U,B,x,R,rfl,S,v,f,d,u⟩;exact⟨U,B,x,R,by rw[v],S,by lia,d,u⟩
 rintro c s ⟨U,B,x,R,rfl,S,f,d,u⟩;refine OP (T:=T++U) (A:=B++[x]) (by simpa using S) (by simp;lia) (by simp;lia) (λz=>by simp at z ⊢;exact z) λg n=>?_;refine IU (T:=T) (A:=U++(B++[x]).reverse) (by simpa using n) p.symm (by simp;lia) λg n=>?_;have u:=IT.mpr<|dnT d u;rcases yJ (U++(B++[x]).reverse).reverse with e|⟨E,G,e⟩
 .simp at e
 rw[e,yI]at n u;have k:=nc ey e;simp at k;exact OS (λ_ _=>rfl) (A:=E) (x:=G) (R:=R) (by simpa using n) p (by dsimp only;lia) (by dsimp only;lia) u λA x R S f u _=>hX<|fin A x R _ S f u
end
section
variable {X:Cs}{g:Type}{Q:g->sy->Prop}{st:sy}{q:Array (Nat×Nat×Nat)}{T A B D R L:jM}{i j x y:Nat}{p:Nat->Bool}
abbrev Mo(X:Cs)(p:Nat->Bool):Prop:= ∀a b,X.le a b->p b=C->p a=C
abbrev Lo(p:Nat->Bool)(A:jM)(a:Nat):Prop:= ∀i,i<a->p (A.getD i 0)=C
abbrev Hi(p:Nat->Bool)(A:jM)(a:Nat):Prop:= ∀i,a<=i->i<AC A->p (A.getD i 0)=Y
def QZ:Mo X λz=>!X.lt x z:=λa b h c=>by simp only[AB]at c ⊢;exact X.tr h c
def abi:Mo X λz=>X.lt z x:=λa b h c=>by
 cases e:X.lt a x
 .exact im<|(X.tr e h).symm.trans c
 exact e
def upD(u:A.Pairwise X.le)(b:i<=j)(h:j<AC A):X.le (A.getD i 0) (A.getD j 0):=by
 have a:i<(AC A):=by lia
 simp only[lJ,jq h,jq a,ga];rcases g5 b with e|rfl
 .exact Tp.mp u i j a h e
 exact X.rf _
def G9(u:A.Pairwise X.le)(m:Mo X p)(h:i<AC A)(e:p (A.getD i 0)=C):Lo p A (i+1):=λj a=>m _ _ (upD u (by lia) h) e
def Hn(u:A.Pairwise X.le)(m:Mo X p)(e:p (A.getD i 0)=Y):Hi p A i:=λj a h=>by
 cases c:p (A.getD j 0)with
 |false=>rfl
 |true=>exact(m _ _ (upD u a h) c).symm.trans e
def Ll(h:Lo p A i):∀z∈A.take i,p z=C:=λz a=>by obtain⟨k,hk,rfl⟩:=Ir a;have hk:=vo▸hk;have:=h k (by lia);simpa[show k<(AC A) by lia]using this
def LB(h:Hi p A i):∀z∈A.drop i,p z=Y:=λz a=>by obtain⟨k,hk,rfl⟩:=Ir a;simp at hk;have:=h (i+k) (by lia) (by lia);simpa[show i+k<(AC A) by lia]using this
def ixD(a:(AC T)=j)(h:i<AC A):(T++(A++R))[j+i]?=J (A.getD i 0):=by subst a;rw[qg<|by lia,Iu,rV h];simp[h]
def adA(u:A.Pairwise X.le)(h1:∀z∈A.take i,(!X.lt y z)=C)(e:∀z∈A.drop i,(!X.lt y z)=Y):(A.take i++y::A.drop i).Pairwise X.le:=by
 rw[<-sU i A,uw]at u;refine uw.mpr ⟨u.1,FN.mpr ⟨λz f=>X.as _ _ (by simpa using e z f),u.2.1⟩,λa d b c=>?_⟩;rcases kN.mp c with rfl|c
 .simpa using h1 a d
 exact u.2.2 a d b c
def WQ{lo n k:Nat}{Q:Bool->sy->Prop}(S:Rp X q (T++(A++R)) st)(N:(AC T)=lo)(E:(AC A)=k)(O:0<k)(o:n<=k+R.length)(hk:k<=n)(u:A.Pairwise X.le)
  (h:∀A R w,Rp X q (T++(A++R)) w->AC A=n->A.Pairwise X.le->Q C w):wp X (binarySort' lo n k) Q st:=by
 rw[binarySort'_eq,show max k 1=k by lia];dsimp only;refine mz (λk c s=>c=(I,())/\∃A R,Rp X q (T++(A++R)) s/\(AC A)=k/\A.Pairwise X.le/\n<=k+R.length) (λc s=>c=(I,())/\∃A R,Rp X q (T++(A++R)) s/\(AC A)=n/\A.Pairwise X.le) ⟨rfl,A,R,S,E,u,o⟩ ?_ ?_ ?_
 .rintro k c s m ⟨rfl,A,R,S,rfl,u,o⟩;obtain⟨y,l,rfl⟩:=sV (l:=R) (by lia)
  refine mz (λi c r=>r=s/\∃a b,c=(I,a,b)/\a<=b/\b<=AC A/\b<=a+(AC A-i)/\Lo (λz=>!X.lt y z) A a/\Hi (λz=>!X.lt y z) A b)
   (λc r=>r=s/\∃a b,c=(I,a,b)/\a<=AC A/\Lo (λz=>!X.lt y z) A a/\Hi (λz=>!X.lt y z) A a) ⟨rfl,0,AC A,rfl,by lia,by lia,by lia,λi h=>by lia,λi h M=>by lia⟩ ?_ ?_ ?_
  .rintro i c _ m ⟨rfl,a,b,rfl,h1,t,v,d,f⟩;dsimp only;refine iR (λe=>hX ⟨rfl,a,b,rfl,by lia,d,(show a=b by lia)▸f⟩) λe=>?_;refine F9 S (Jz<|by lia) (ixD N<|by lia) λc e=>?_
   cases c
   .exact hX ⟨rfl,_,b,rfl,by lia,by lia,by lia,G9 u QZ (by lia)<|by rw[e];rfl,f⟩
   exact hX ⟨rfl,a,_,rfl,by lia,by lia,by lia,d,Hn u QZ<|by rw[e];rfl⟩
  .rintro c _ ⟨rfl,a,b,rfl,h1,t,v,d,f⟩;exact⟨rfl,a,b,rfl,by lia,d,(show a=b by lia)▸f⟩
  rintro c _ ⟨rfl,a,b,rfl,h1,t,v⟩;refine WO (T:=T++A.take a) (A:=A.drop a) (by rw[oo,<-oo (A.take a),sU];exact S) (by simp;lia) (by simp;lia) λr U=>hX ⟨rfl,A.take a++y::A.drop a,l,by simpa using U,by simp;lia,adA u (Ll t)<|LB v,by simp at o;lia⟩
 .rintro c s ⟨rfl,A,R,S,m,u,o⟩;exact⟨rfl,A,R,S,by lia,u⟩
 rintro c s ⟨rfl,A,R,S,m,u⟩;exact hX<|h A R s S m u
noncomputable def UZ:Bool->dH->Array dH->Nat->Nat->Nat->StateT sy cY (Option Nat):=sortPriv%PySem.Builtin.gallop
noncomputable def Q5:Array dH->Array dH->StateT sy cY (Array dH):=sortPriv%PySem.Builtin.mergeLo
noncomputable def Q6:Array dH->Array dH->StateT sy cY (Array dH):=sortPriv%PySem.Builtin.mergeHi
noncomputable def TQ:Nat->StateT sy cY Unit:=sortPriv%PySem.Builtin.setMinGallop
def aav{k:Nat->Nat->StateT sy cY g}{m:StateT sy cY g}(P:Nat->Nat->Prop)(c:(∀a b,P a b->wp X (k a b) Q st)->wp X m Q st)(hk:∀a b,P a b->wp X (k a b) Q st):wp X m Q st:=c hk
noncomputable abbrev gp(X:Cs)(left:Bool)(x z:Nat):Bool:=if left=C then X.lt z x else !X.lt x z
def Ez{left:Bool}{base:Nat}{f:Option Bool->StateT sy cY g}(hk:kindOf st=X.κ)(k:∀z∈A,z<X.N)(c:x<X.N)(l:(AC T)=base)(a:i<AC A)(h:∀b,gp X left x (A.getD i 0)=b->wp X (f<|J b) Q st):
  wp X ((elem' (ar X<|T++(A++R)) (base+i)>>=λz=>if left=C then lt' z (X.it x)else lt' (X.it x) z>>=λr=>pure<|eC (λx=>!x) r)>>=f) Q st:=by
 have d:A.getD i 0<X.N:=k _ (by simp[a]);refine kf<|md (ixD l a) ?_
 cases left
 .exact F8 hk c d λb e=>hX<|h (!b)<|nc not e
 rw[ie H,<-bind_pure (lt' _ _)];exact F8 hk d c λb e=>hX<|h b e
def yP{left:Bool}{base n hint:Nat}{Q:Option Nat->sy->Prop}(hk:kindOf st=X.κ)(t:∀z∈A,z<X.N)(w:x<X.N)(u:A.Pairwise X.le)(G:L=T++(A++R))(v:(AC T)=base)(H:(AC A)=n)(C:hint<n)
  (h:∀r,r<=n->(∀z∈A.take r,gp X left x z=z8)->(∀z∈A.drop r,gp X left x z=Y)->Q (J r) st):wp X (UZ left (X.it x) (ar X L) base n hint) Q st:=by
 subst G
 have m:Mo X (gp X left x):=by
  cases left
  .exact QZ
  exact abi
 apply aav λa b=>a<=b/\b<=n/\Lo (gp X left x) A a/\Hi (gp X left x) A b
 .intro F;refine Ez hk t w v (H▸C) λb e=>?_;refine iR (λz=>?_) λz=>?_
  .subst z
   refine mz (λi c s=>st=s/\∃a b,c=(z7,a,b)/\a<b/\i<b/\hint+a<n/\Lo (gp X left x) A (hint+a+1)) (λc s=>st=s/\∃a b,c=(z7,a,b)/\a<b/\hint+a<n/\Lo (gp X left x) A (hint+a+1)/\(n-hint<=b\/Hi (gp X left x) A (hint+b)))
    ⟨rfl,0,1,rfl,by lia,by lia,C,G9 u m (H▸C) e⟩ ?_ ?_ ?_
   .rintro i c _ E ⟨rfl,a,b,rfl,h1,o,l,f⟩;dsimp only;refine iR (λz=>hX ⟨rfl,a,b,rfl,h1,l,f,.inl z⟩) λz=>Ez hk t w v (by lia) λc e=>?_
    cases c
    .exact hX ⟨rfl,a,b,rfl,h1,l,f,.inr<|Hn u m e⟩
    exact hX ⟨rfl,_,_,rfl,by lia,by lia,by lia,G9 u m (by lia) e⟩
   .rintro c _ ⟨rfl,a,b,rfl,h1,o,l,f⟩;exact⟨rfl,a,b,rfl,h1,l,f,.inl<|by lia⟩
   rintro c _ ⟨rfl,a,b,rfl,h1,l,f,k⟩;dsimp only;generalize I:hint+a+1=c at*;generalize O:hint+min b (n-hint)=d;refine F c d ⟨by lia,by lia,f,λi U M=>?_⟩;rcases k with k|k
   .lia
   exact k i (by lia) M
  refine mz (λi c s=>st=s/\∃a b,c=(z7,a,b)/\a<b/\i<b/\a<=hint/\Hi (gp X left x) A (hint-a)) (λc s=>st=s/\∃a b,c=(z7,a,b)/\a<b/\a<=hint/\Hi (gp X left x) A (hint-a)/\(hint<b\/Lo (gp X left x) A (hint-b+1)))
   ⟨rfl,0,1,rfl,by lia,by lia,by lia,Hn u m<|by simpa[z]using e⟩ ?_ ?_ ?_
  .rintro i c _ E ⟨rfl,a,b,rfl,h1,o,l,f⟩;dsimp only;refine iR (λz=>hX ⟨rfl,a,b,rfl,h1,l,f,.inl z⟩) λz=>Ez hk t w v (by lia) λc e=>?_
   cases c
   .exact hX ⟨rfl,_,_,rfl,by lia,by lia,by lia,Hn u m e⟩
   exact hX ⟨rfl,a,b,rfl,h1,l,f,.inr<|G9 u m (by lia) e⟩
  .rintro c _ ⟨rfl,a,b,rfl,h1,o,l,f⟩;exact⟨rfl,a,b,rfl,h1,l,f,.inl<|by lia⟩
  rintro c _ ⟨rfl,a,b,rfl,h1,l,f,k⟩;dsimp only;generalize O:hint-a=d at*;generalize I:hint+1-min b (hint+1)=c;refine F c d ⟨by lia,by lia,λi U=>?_,f⟩;rcases k with k|k
  .lia
  exact k i (by lia)
 rintro a b ⟨h1,o,l,f⟩;refine mz (λi c s=>st=s/\∃a b,c=(z7,a,b)/\a<=b/\b<=n/\b<=a+(n-i)/\Lo (gp X left x) A a/\Hi (gp X left x) A b) (λc s=>st=s/\∃a,c=(z7,a,a)/\a<=n/\Lo (gp X left x) A a/\Hi (gp X left x) A a) ⟨rfl,a,b,rfl,h1,o,by lia,l,f⟩ ?_ ?_ ?_
 .rintro i c _ E ⟨rfl,a,b,rfl,h1,o,l,f,k⟩;refine iR (λz=>?_) λz=>Ez hk t w v (by dsimp only at z ⊢;lia) λc e=>?_
  .have:a=b:=by dsimp only at z;lia
   subst this;exact hX ⟨rfl,a,rfl,o,f,k⟩
  dsimp only at z
  cases c
  .exact hX ⟨rfl,a,_,rfl,by dsimp only;lia,by dsimp only;lia,by dsimp only;lia,f,Hn u m e⟩
  exact hX ⟨rfl,_,b,rfl,by dsimp only;lia,o,by dsimp only;lia,G9 u m (by dsimp only;lia) e,k⟩
 .rintro c _ ⟨rfl,a,b,rfl,h1,o,l,f,k⟩;have:a=b:=by lia
  subst this;exact⟨rfl,a,rfl,o,f,k⟩
 rintro c _ ⟨rfl,a,rfl,o,f,k⟩;exact hX<|h a o (Ll f)<|LB k
end
section
variable {X:Cs}{β:Type}{Q:β->sy->Prop}{st:sy}{pq:Array (Nat×Nat×Nat)}{q r L Z a b o k:jM}{i j x y:Nat}{le:Nat->Nat->Prop}{out:CS}
structure MG(le:Nat->Nat->Prop)(Z a b o:jM):Prop where
 s:o.Pairwise le
 c:∀x∈o,∀y∈a++b,le x y
 p:(o++(a++b)).Perm Z
 ua:a.Pairwise le
 ub:b.Pairwise le
def MG.put(m:MG le Z (k++a) b o)(h:∀x∈k,∀y∈b,le x y):MG le Z a b (o++k):=by
 have f:=uw.mp m.ua;refine⟨uw.mpr ⟨m.s,f.1,λx e y d=>m.c x e y<|by simp[d]⟩,λx e y d=>?_,by simpa using m.p,f.2.1,m.ub⟩;rcases oE.mp e with e|e
 .refine m.c x e y ?_;simp at d ⊢;exact .inr d
 rcases oE.mp d with d|d
 .exact f.2.2 x e y d
 exact h x e y d
def Mg(X:Cs)(le:Nat->Nat->Prop)(Z a b:jM)(out:CS):Prop:= ∃o,out=ar X o/\MG le Z a b o
def Rs(X:Cs)(Z:jM)(out:CS):Prop:= ∃o,out=ar X o/\o.Pairwise X.le/\o.Perm Z
def Mg.sw(m:Mg X le Z a b out):Mg X le Z b a out:=by obtain⟨o,e,m⟩:=m;exact⟨o,e,m.s,λx d y f=>m.c x d y<|by simpa[or_comm]using f,(Vt.append_left o).trans m.p,m.ub,m.ua⟩
def Mg.put(m:Mg X le Z a b out){a':jM}{c:CS}(e:a=k++a')(h:∀x∈k,∀y∈b,le x y)(d:c=out++ar X k):Mg X le Z a' b c:=by obtain⟨o,rfl,m⟩:=m;exact⟨o++k,by simpa[ar]using d,(e▸m).put h⟩
def Mg.a1(m:Mg X le Z (q.drop i) b out)(c:i<AC q)(h:∀y∈b,le q[i] y):Mg X le Z (q.drop<|i+1) b (out.push<|X.it q[i]):=m.put (k:=[q[i]]) (yM c) (by simpa using h) (by simp[ar])
def Mg.ak(m:Mg X le Z (q.drop i) b out)(h:∀x∈(q.drop i).take j,∀y∈b,le x y):Mg X le Z (q.drop<|i+j) b (out++(ar X q).extract i (i+j)):=m.put (by rw[<-List.drop_drop,sU]) h (by simp[ar,Ed])
def Mg.fin(m:Mg X X.le Z (q.drop i) (r.drop j) out)(h:∀x∈q.drop i,∀y∈r.drop j,X.le x y):Rs X Z (out++(ar X q).extract i (ar X q).size++(ar X r).extract j (ar X r).size):=by obtain⟨o,e,m⟩:=((m.put (k:=q.drop i) (a':=[]) (by simp) h H).sw).put (k:=r.drop j) (a':=[]) (by simp) (by simp) H;exact⟨o,by rw[<-e];simp[ar,Ed,AA],m.s,by simpa using m.p⟩
def Mg.end(m:Mg X X.le Z (q.drop i) (r.drop j) out)(h:(AC q)<=i\/(AC r)<=j):Rs X Z (out++(ar X q).extract i (ar X q).size++(ar X r).extract j (ar X r).size):=m.fin λx c y d=>by
 rcases h with h|h
 .rw[AH h]at c;cases c
 rw[AH h]at d;cases d
def Mg.hd(m:Mg X le Z (q.drop i) b out)(f:∀{a b c},le a b->le b c->le a c)(e:i<AC q)(h:le x q[i]):∀y∈q.drop i,le x y:=λy d=>by
 obtain⟨o,_,m⟩:=m;have:=m.ua;rw[yM e]at this d;rcases kN.mp d with rfl|d
 .exact h
 exact f h ((FN.mp this).1 y d)
def MJ{P:d->Prop}{f:α->β->d}{U:α->β->Prop}{c:d}(x:∃a b,c=f a b/\U a b)(h:∀a b,U a b->P (f a b)):P c:=by obtain⟨_,_,rfl,i⟩:=x;exact h _ _ i
def eX4{P:g->Prop}{f:α->β->l->ε->g}{U:α->β->l->ε->Prop}{c:g}(x:∃a b d e,c=f a b d e/\U a b d e)(h:∀a b c d,U a b c d->P (f a b c d)):P c:=by obtain⟨_,_,_,_,rfl,i⟩:=x;exact h _ _ _ _ i
def Nk{P:l->Prop}{f:α->β->m->ε->ζ->l}{U:α->β->m->ε->ζ->Prop}{c:l}(x:∃a b d e g,c=f a b d e g/\U a b d e g)(h:∀a b c d e,U a b c d e->P (f a b c d e)):P c:=by obtain⟨_,_,_,_,_,rfl,i⟩:=x;exact h _ _ _ _ _ i
def Nj{P:l->Prop}{f:α->β->m->ε->ζ->η->l}{U:α->β->m->ε->ζ->η->Prop}{c:l}(x:∃a b d e g k,c=f a b d e g k/\U a b d e g k)(h:∀a b c d e g,U a b c d e g->P (f a b c d e g)):P c:=by obtain⟨_,_,_,_,_,_,rfl,i⟩:=x;exact h _ _ _ _ _ _ i
def MN{a b c d e P:Prop}(h:a->b->c->d->e->P)(x:a/\b/\c/\d/\e):P:=h x.1 x.2.1 x.2.2.1 x.2.2.2.1 x.2.2.2.2
def Ey{f:Unit->StateT sy cY β}{n:Nat}(S:Rp X pq L st)(h:∀c,Rp X pq L c->wp X (f ()) Q c):wp X (TQ n>>=f) Q st:=wt (g:=λs=>SortSt.mk' (kindOf s) (ew s) (pendingOf s) n<|eO s)<|h _ ⟨S.a,S.k,S.f,S.q,S.p⟩
def Kp{e:Type}{k:e->Nat->StateT sy cY β}{m:StateT sy cY β}(P:e->Nat->sy->Prop)(f:(∀c n d,P c n d->wp X (k c n) Q d)->wp X m Q st)(hk:∀c n d,P c n d->wp X (k c n) Q d):wp X m Q st:=f hk
def OQ{k:Nat->StateT sy cY β}{m:StateT sy cY β}(P:Nat->sy->Prop)(d:(∀n c,P n c->wp X (k n) Q c)->wp X m Q st)(hk:∀n c,P n c->wp X (k n) Q c):wp X m Q st:=d hk
def aau{Q:Array dH->sy->Prop}(S:Rp X pq L st)(u1:q.Pairwise X.le)(u2:r.Pairwise X.le)(M:∀z∈q,z<X.N)(U:∀z∈r,z<X.N)(h1:0<AC q)(h2:0<AC r)(hd:∀y∈q,X.le r[0] y)(top:∀x∈r,X.le x q[AC q-1])
  (h:∀out s,Rp X pq L s->Rs X (q++r) out->Q out s):wp X (Q5 (ar X q)<|ar X r) Q st:=by
 have sq:(ar X q).size=(AC q):=by simp
 have sr:(ar X r).size=(AC r):=by simp
 have P:Mg X X.le (q++r) (q.drop 0) (r.drop 1) #[X.it r[0]]:=Mg.sw<|Mg.a1 (q:=r) (i:=0) (out:= #[]) ⟨[],rfl,.nil,by simp,by simpa using Vt,by simpa using u2,by simpa using u1⟩ h2 hd
 have last:∀{out i j},Mg X X.le (q++r) (q.drop i) (r.drop j) out->i+1=AC q->Rs X (q++r) (out++(ar X r).extract j (ar X r).size++(ar X q).extract i (ar X q).size):=λ{_ i j} m e=>m.sw.fin λx G y B=>by
  have hi:i<(AC q):=by lia
  rw[yM hi,AH<|by lia,yw]at B;have:=top x<|Eb G;simpa only[B,<-e,g6]using this
 refine ux<|md (x:=r[0]) (by simp[h2]) ?_;refine iR (λe=>hX<|h _ _ S (P.end<|.inr<|by simp at e;lia)) λe=>iR (λp=>hX<|h _ _ S (last P<|by simpa using p)) λp=>pD ?_
 let I:=λ(c:Nat) out d f s=>Rp X pq L s/\Mg X X.le (q++r) (q.drop d) (r.drop f) out/\d+1<AC q/\f<AC r/\c<=d+f
 refine mz (λi c s=>∃out d f E,c=(z7,out,d,f,E)/\I (i+1) out d f s) (λc s=>∃out t,c=(zx out,t)/\Rp X pq L s/\Rs X (q++r) out) ⟨_,0,1,_,rfl,S,P,by simp at p;lia,by simp at e;lia,by lia⟩ ?_ ?_ ?_
 .intro i c s _ h;apply eX4 h;clear h;intro out d f E K;refine mz (λj c s=>∃out d f v w,c=(z7,out,d,f,v,w)/\I (i+1+j) out d f s) (λc s=>(∃out t,c=(zx out,t)/\Rp X pq L s/\Rs X (q++r) out)\/∃out d f v w,c=(z7,out,d,f,v,w)/\I (i+1) out d f s) ⟨_,_,_,_,_,rfl,K⟩ ?_ ?_ ?_
  .intro j c s _ h;apply Nk h;clear h;refine λout d f v w=>MN λS m H l O=>?_;dsimp only;refine md (x:=r[f]) (by simp[l]) (md (x:=q[d]) (by simp)<|F8 S.k (U _ (by simp)) (M _ (by simp)) λb e=>?_)
   cases b
   .have n:=m.a1 (by lia)<|m.sw.hd X.tr l e;exact md (x:=q[d]) (by simp)<|iR (λe=>hX<|.inl ⟨_,_,rfl,S,last n<|by simpa using e⟩) λe=>iR (λ_=>hX<|.inr ⟨_,_,_,_,_,rfl,S,n,by simp at e;lia,l,by lia⟩) λ_=>hX ⟨_,_,_,_,_,rfl,S,n,by simp at e;lia,l,by lia⟩
   have n:=(m.sw.a1 l<|m.hd X.tr (by lia)<|X.as _ _ e).sw;exact md (x:=r[f]) (by simp[l])<|iR (λe=>hX<|.inl ⟨_,_,rfl,S,n.end<|.inr<|by simp at e;lia⟩) λe=>iR (λ_=>hX<|.inr ⟨_,_,_,_,_,rfl,S,n,H,by simp at e;lia,by lia⟩) λ_=>hX ⟨_,_,_,_,_,rfl,S,n,H,by simp at e;lia,by lia⟩
  .refine λc s h=>aT ?_;obtain⟨_,d,f,_,_,_,S,m,H,l,O⟩:=h;lia
  intro c s z;refine z.elim (λh=>?_) λh=>?_
  .apply MJ h;exact λout _ Y=>hX ⟨out,_,rfl,Y⟩
  apply Nk h;clear h z;refine λout d f v w K=>ux<|mz (λj c s=>∃out d f E v w,c=(z7,out,d,f,E,v,w)/\I (i+1+j) out d f s) (λc s=>(∃out t,c=(zx out,t)/\Rp X pq L s/\Rs X (q++r) out)\/∃out d f E v w,c=(z7,out,d,f,E,v,w)/\I (i+2) out d f s) ⟨_,_,_,_,_,_,rfl,K⟩ ?_ ?_ ?_
  .intro j c s _ h;apply Nj h;clear h;refine λout d f E v w=>MN λS m H l O=>?_;dsimp only;apply OQ λ_ s=>Rp X pq L s
   .intro F;refine iR (λ_=>?_) λ_=>?_
    .generalize E-1=g;exact F g s S
    exact F E s S
   intro g s S;refine Ey S λs S=>md (x:=r[f]) (by simp[l])<|kf<|yP (T:=q.take d) (A:=q.drop d) (R:=[]) S.k (λz D=>M z<|Eb D) (U _ (by simp)) (u1.sublist<|Iq _ _) (by simp) (by simp;lia) (by simp) (by simp;lia) λk _ V W=>?_;dsimp only;apply Kp λout d s=>Rp X pq L s/\Mg X X.le (q++r) (q.drop d) (r.drop f) out/\d+1<AC q/\i+1+j<=d+f/\∀y∈q.drop d,X.le r[f] y
   .intro F;have C:=m.ak (j:=k) λx G y B=>m.sw.hd (x:=x) X.tr l (by simpa using V x G) y B;have u:∀y∈q.drop (d+k),X.le r[f] y:=λy B=>X.as _ _ (by simpa using W y<|by simpa using B);refine iR (λe=>?_) λe=>?_
    .refine iR (λJ=>hX<|.inl ⟨_,_,rfl,S,last C<|by simpa using J⟩) λJ=>iR (λp=>hX<|.inl ⟨_,_,rfl,S,C.end<|.inl<|by simp at p;lia⟩) λp=>?_;generalize out++(ar X q).extract d (d+k)=out at C ⊢;generalize ea:d+k=ic at C u J p ⊢;exact F out ic s ⟨S,C,by simp at J p;lia,by lia,u⟩
    rw[show k=0 by lia]at u;exact F out d s ⟨S,m,H,O,u⟩
   refine λout d s=>MN λS m H O u=>?_;have n:=(m.sw.a1 l u).sw;refine md (x:=r[f]) (by simp[l])<|iR (λe=>hX<|.inl ⟨_,_,rfl,S,n.end<|.inr<|by simp at e;lia⟩) λe=>md (x:=q[d]) (by simp)<|kf<|yP (T:=r.take<|f+1) (A:=r.drop<|f+1) (R:=[]) S.k (λz D=>U z<|Eb D) (M _ (by simp)) (u2.sublist<|Iq _ _) (by simp) (by simp;lia) (by simp) (by simp at e ⊢;lia) λk2 _ V W=>?_;dsimp only;apply Kp λout f s=>Rp X pq L s/\Mg X X.le (q++r) (q.drop d) (r.drop f) out/\f<AC r/\i+1+j<d+f/\∀y∈r.drop f,X.le q[d] y
   .intro F;have C:=(n.sw.ak (j:=k2) λx G y B=>n.hd X.tr (by lia) (X.as _ _ (V x G)) y B).sw;have u:∀y∈r.drop (f+1+k2),X.le q[d] y:=λy B=>W y (by simpa using B);refine iR (λ_=>?_) λe3=>?_
    .refine iR (λp=>hX<|.inl ⟨_,_,rfl,S,C.end<|.inr<|by simp at p;lia⟩) λp=>?_;generalize out.push (X.it r[f])++(ar X r).extract (f+1) (f+1+k2)=out at C ⊢;generalize ea:f+1+k2=ic at C u p ⊢;exact F out ic s ⟨S,C,by simp at p;lia,by lia,u⟩
    rw[show k2=0 by lia]at u;exact F _ _ s ⟨S,n,by simp at e;lia,by lia,u⟩
   refine λout f s=>MN λS m l O u=>?_;have n:=m.a1 (by lia) u;exact md (x:=q[d]) (by simp)<|iR (λe=>hX<|.inl ⟨_,_,rfl,S,last n<|by simpa using e⟩) λe=>iR (λ_=>hX<|.inr ⟨_,_,_,_,_,_,rfl,S,n,by simp at e;lia,l,by lia⟩) λ_=>hX ⟨_,_,_,_,_,_,rfl,S,n,by simp at e;lia,l,by lia⟩
  .refine λc s h=>aT ?_;obtain⟨_,d,f,_,_,_,_,S,m,H,l,O⟩:=h;lia
  intro c s z;refine z.elim (λh=>?_) λh=>?_
  .apply MJ h;exact λout _ Y=>hX ⟨out,_,rfl,Y⟩
  apply Nj h;clear h z;exact λ_ _ _ _ _ _ h=>Ey h.1 λs S=>hX ⟨_,_,_,_,rfl,S,h.2⟩
 .refine λc s h=>aT ?_;obtain⟨_,d,f,_,_,S,m,H,l,O⟩:=h;lia
 intro c s x;apply MJ x;exact λ_ _ m=>hX<|h _ _ m.1 m.2
end
section
variable {X:Cs}{u:Type}{Q:u->sy->Prop}{st:sy}{l:Array (Nat×Nat×Nat)}{q r L Z a b o k:jM}{i j x y n:Nat}{out:CS}
theorem ss1(n:Nat):n+1-1=n:=rfl
abbrev Cs.ge(X:Cs)(i j:Nat):Prop:=X.le j i
def Mg.h1(m:Mg X X.ge Z (q.take<|n+1).reverse b out)(c:n<AC q)(h:∀y∈b,X.le y q[n]):Mg X X.ge Z (q.take n).reverse b (out.push<|X.it q[n]):=m.put (k:=[q[n]]) (by rw[Ip];simp[c]) (by simpa using h) (by simp[ar])
def Mg.hk(m:Mg X X.ge Z (q.take n).reverse b out)(c:i<=n)(h:∀x∈(q.take n).drop i,∀y∈b,X.le y x):Mg X X.ge Z (q.take i).reverse b (out++((ar X q).extract i n).reverse):=m.put (k:=((q.take n).drop i).reverse) (by rw[<-List.reverse_append,<-Az c,<-eS,Az c,sU]) (by simpa using h) (by simp[ar,List.extract_eq_drop_take'])
def Mg.Mh(m:Mg X X.ge Z (q.take i).reverse (r.take j).reverse out)(h:∀x∈q.take i,∀y∈r.take j,X.le x y):Rs X Z ((ar X q).extract 0 i++(ar X r).extract 0 j++out.reverse):=by obtain⟨o,e,m⟩:=(m.sw.put (k:=(r.take j).reverse) (a':=[]) (by simp) (by simpa using λx c y d=>h y d x c) H).sw.put (k:=(q.take i).reverse) (a':=[]) (by simp) (by simp) H;refine⟨o.reverse,?_,IT.mpr m.s,(AE o).trans<|by simpa using m.p⟩;have:=nc Array.reverse e;simpa[ar,Ed]using this
def Mg.JN(m:Mg X X.ge Z (q.take i).reverse (r.take j).reverse out)(h:i=0\/j=0):Rs X Z ((ar X q).extract 0 i++(ar X r).extract 0 j++out.reverse):=m.Mh λx c y d=>by
 rcases h with rfl|rfl
 .cases c
 cases d
def Mg.Nh(m:Mg X X.ge Z (q.take<|n+1).reverse b out)(d:n<AC q)(h:X.le q[n] x):∀y∈(q.take<|n+1).reverse,X.le y x:=λy c=>by
 obtain⟨o,_,m⟩:=m;have:=m.ua;rw[show(q.take<|n+1).reverse=q[n]::(q.take n).reverse by rw[Ip];simp[d]]at this c;rcases kN.mp c with rfl|c
 .exact h
 exact X.tr ((FN.mp this).1 y c) h
def aX7{a b c d e f g P:Prop}(h:a->b->c->d->e->f->g->P)(x:a/\b/\c/\d/\e/\f/\g):P:=MN (λa b c d e=>h a b c d e.1 e.2.1 e.2.2) x
def aX6{a b c d e f P:Prop}(h:a->b->c->d->e->f->P)(x:a/\b/\c/\d/\e/\f):P:=MN (λa b c d e=>h a b c d e.1 e.2) x
def aaw{Q:Array dH->sy->Prop}(S:Rp X l L st)(u1:q.Pairwise X.le)(u2:r.Pairwise X.le)(hq:∀z∈q,z<X.N)(hr:∀z∈r,z<X.N)(h1:0<AC q)(h2:0<AC r)(hd:∀y∈q,X.le r[0] y)(top:∀x∈r,X.le x q[AC q-1])
  (h:∀out s,Rp X l L s->Rs X (q++r) out->Q out s):wp X (Q6 (ar X q)<|ar X r) Q st:=by
 have sq:(ar X q).size=(AC q):=by simp
 have sr:(ar X r).size=(AC r):=by simp
 have W:Mg X X.ge (q++r) (q.take<|AC q-1).reverse (r.take<|AC r).reverse #[X.it q[AC q-1]]:=Mg.h1 (out:= #[]) ⟨[],rfl,.nil,by simp,by simpa[gV h1]using(AE q).append (AE r),by simpa[gV h1,IT]using u1,by simpa[IT]using u2⟩ (by lia) (by simpa using top)
 have last:∀{out i},Mg X X.ge (q++r) (q.take i).reverse (r.take 1).reverse out->Rs X (q++r) ((ar X r).extract 0 1++(ar X q).extract 0 i++out.reverse):=λm=>m.sw.Mh λx P y K=>by obtain⟨b,r,rfl⟩:=sV h2;simp at P;subst P;exact hd y<|yH K
 refine ux<|md (x:=q[AC q-1]) (by simp[h1]) ?_;rw[sq,sr];refine iR (λe=>hX<|h _ _ S (W.JN<|.inl<|by simpa using e)) λe=>iR (λC=>hX<|h _ _ S ?_) λC=>pD ?_
 .have C:(AC r)=1:=by simpa using C
  rw[C]at W ⊢;exact last W
 let I:=λ(c:Nat) out d f s=>Rp X l L s/\Mg X X.ge (q++r) (q.take d).reverse (r.take f).reverse out/\0<d/\d<=AC q/\1<f/\f<=AC r/\c+d+f<=AC q+AC r
 refine mz (λi c s=>∃d f out J,c=(z7,d,f,out,J)/\I (i+1) out d f s) (λc s=>∃out t,c=(zx out,t)/\Rp X l L s/\Rs X (q++r) out) ⟨_,_,_,_,rfl,S,W,by simp at e;lia,by lia,by simp at C;lia,by lia,by lia⟩ ?_ ?_ ?_
 .intro i c s _ h;apply eX4 h;clear h;intro d f out J i0;refine mz (λj c s=>∃d f out w B,c=(z7,d,f,out,w,B)/\I (i+1+j) out d f s) (λc s=>(∃out t,c=(zx out,t)/\Rp X l L s/\Rs X (q++r) out)\/∃d f out w B,c=(z7,d,f,out,w,B)/\I (i+1) out d f s) ⟨_,_,_,_,_,rfl,i0⟩ ?_ ?_ ?_
  .intro j c s _ h;apply Nk h;clear h;refine λd f out w B=>aX7 λS m M U H O Y=>?_;obtain⟨n,rfl⟩:∃n,d=n+1:=⟨d-1,by lia⟩
   obtain⟨p,rfl⟩:∃n,f=n+1:=⟨f-1,by lia⟩
   dsimp only[ss1];refine md (x:=r[p]) (by simp)<|md (x:=q[n]) (by simp)<|F8 S.k (hr _ (by simp)) (hq _ (by simp)) λb e=>?_
   cases b
   .have v:=(m.sw.h1 (by lia)<|m.Nh (by lia) e).sw;refine md (x:=r[p]) (by simp)<|iR (λe=>?_) λe=>iR (λ_=>hX<|.inr ⟨_,_,_,_,_,rfl,S,v,M,U,by simp at e;lia,by lia,by lia⟩) λ_=>hX ⟨_,_,_,_,_,rfl,S,v,M,U,by simp at e;lia,by lia,by lia⟩;obtain rfl:p=1:=by simpa using e
    exact hX<|.inl ⟨_,_,rfl,S,last v⟩
   have v:=m.h1 (by lia)<|m.sw.Nh (by lia)<|X.as _ _ e;exact md (x:=q[n]) (by simp)<|iR (λe=>hX<|.inl ⟨_,_,rfl,S,v.JN<|.inl<|by simpa using e⟩) λe=>iR (λ_=>hX<|.inr ⟨_,_,_,_,_,rfl,S,v,by simp at e;lia,by lia,H,O,by lia⟩) λ_=>hX ⟨_,_,_,_,_,rfl,S,v,by simp at e;lia,by lia,H,O,by lia⟩
  .refine λc s h=>aT ?_;obtain⟨_,_,_,_,_,_,S,m,M,U,H,O,Y⟩:=h;lia
  intro c s z;refine z.elim (λh=>?_) λh=>?_
  .apply MJ h;exact λout _ hs=>hX ⟨out,_,rfl,hs⟩
  apply Nk h;clear h z;refine λd f out w B i0=>ux<|mz (λj c s=>∃d f out J w B,c=(z7,d,f,out,J,w,B)/\I (i+1+j) out d f s) (λc s=>(∃out t,c=(zx out,t)/\Rp X l L s/\Rs X (q++r) out)\/∃d f out J w B,c=(z7,d,f,out,J,w,B)/\I (i+2) out d f s) ⟨_,_,_,_,_,_,rfl,i0⟩ ?_ ?_ ?_
  .intro j c s _ h;apply Nj h;clear h;refine λd f out J w B=>aX7 λS m M U H O Y=>?_;obtain⟨p,rfl⟩:∃n,f=n+1:=⟨f-1,by lia⟩
   dsimp only[ss1];apply OQ λ_ s=>Rp X l L s
   .intro F;refine iR (λ_=>?_) λ_=>?_
    .generalize J-1=g;exact F g s S
    exact F J s S
   intro g s S;refine Ey S λs S=>md (x:=r[p]) (by simp)<|kf<|yP (T:=[]) (A:=q.take d) (R:=q.drop d) S.k (λz hz=>hq z<|yH hz) (hr _ (by simp)) (u1.sublist<|yO _ _) (by simp) At (by simp;lia) (by lia) λk hk t1 t2=>?_;dsimp only;apply Kp λout d s=>Rp X l L s/\Mg X X.ge (q++r) (q.take d).reverse (r.take<|p+1).reverse out/\0<d/\d<=AC q/\i+1+j+d+p<AC q+AC r/\∀y∈q.take d,X.le y r[p]
   .intro F;have E:=m.hk hk λx P y K=>m.sw.Nh (x:=x) (by lia) (X.as _ _ (by simpa using t2 x P)) y K;have D:∀y∈q.take k,X.le y r[p]:=λy K=>by simpa using t1 y (by rwa [eS,Az hk])
    refine iR (λe=>?_) λe=>?_
    .refine iR (λG=>hX<|.inl ⟨_,_,rfl,S,E.JN<|.inl<|by simpa using G⟩) λG=>?_;generalize out++((ar X q).extract k d).reverse=out at E ⊢;generalize ea:k=ic at E D G ⊢;exact F out ic s ⟨S,E,by simp at G;lia,by lia,by lia,D⟩
    obtain rfl:k=d:=by lia
    exact F out _ s ⟨S,m,M,U,by lia,D⟩
   refine λout V s=>aX6 λS m M U Y D=>?_;have v:=(m.sw.h1 (by lia)<|by simpa using D).sw;obtain⟨n,rfl⟩:∃n,V=n+1:=⟨V-1,by lia⟩
   dsimp only[ss1];refine md (x:=r[p]) (by simp)<|iR (λe=>?_) λe=>md (x:=q[n]) (by simp)<|kf<|yP (T:=[]) (A:=r.take p) (R:=r.drop p) S.k (λz hz=>hr z<|yH hz) (hq _ (by simp)) (u2.sublist<|yO _ _) (by simp) At (by simp;lia) (by lia) λk2 aA t1 t2=>?_
   .obtain rfl:p=1:=by simpa using e
    exact hX<|.inl ⟨_,_,rfl,S,last v⟩
   dsimp only;apply Kp λout f s=>Rp X l L s/\Mg X X.ge (q++r) (q.take<|n+1).reverse (r.take f).reverse out/\1<f/\f<=AC r/\i+1+j+(n+1)+f<AC q+AC r/\∀y∈r.take f,X.le y q[n]
   .intro F;have E:=(v.sw.hk aA λx P y K=>v.Nh (x:=x) (by lia) (t2 x P) y K).sw;have hc:∀y∈r.take k2,X.le y q[n]:=λy K=>X.as _ _ (t1 y<|by rwa [eS,Az aA]);refine iR (λ_=>?_) λe3=>?_
    .refine iR (λG=>?_) λG=>iR (λC=>hX<|.inl ⟨_,_,rfl,S,E.JN<|.inr<|by simpa using C⟩) λC=>?_
     .obtain rfl:k2=1:=by simpa using G
      exact hX<|.inl ⟨_,_,rfl,S,last E⟩
     generalize out.push (X.it r[p])++((ar X r).extract k2 p).reverse=out at E ⊢;generalize ea:k2=ic at E hc G C ⊢;exact F out ic s ⟨S,E,by simp at G C;lia,by lia,by lia,hc⟩
    obtain rfl:k2=p:=by lia
    exact F _ _ s ⟨S,v,by simp at e;lia,by lia,Y,hc⟩
   refine λout f s=>aX6 λS m H O Y D=>?_;have v:=m.h1 (by lia) (by simpa using D);exact md (x:=q[n]) (by simp)<|iR (λe=>hX<|.inl ⟨_,_,rfl,S,v.JN<|.inl<|by simpa using e⟩) λe=>iR (λ_=>hX<|.inr ⟨_,_,_,_,_,_,rfl,S,v,by simp at e;lia,by lia,H,O,by lia⟩) λ_=>hX ⟨_,_,_,_,_,_,rfl,S,v,by simp at e;lia,by lia,H,O,by lia⟩
  .refine λc s h=>aT ?_;obtain⟨_,_,_,_,_,_,_,S,m,M,U,H,O,Y⟩:=h;lia
  intro c s z;refine z.elim (λh=>?_) λh=>?_
  .apply MJ h;exact λout _ hs=>hX ⟨out,_,rfl,hs⟩
  apply Nj h;exact λ_ _ _ _ _ _ h=>Ey h.1 λs S=>hX ⟨_,_,_,_,rfl,S,h.2⟩
 .refine λc s h=>aT ?_;obtain⟨_,_,_,_,_,S,m,M,U,H,O,Y⟩:=h;lia
 intro c s x;apply MJ x;exact λ_ _ m=>hX<|h _ _ m.1 m.2
end
section
variable {X:Cs}{t:Type}{Q:t->sy->Prop}{st:sy}{d:Array (Nat×Nat×Nat)}{T A B R L:jM}{i j x y n s:Nat}{o C:List (List Nat)}{r w:List (Nat×Nat×Nat)}
def R3{c:Type}:∀(m K T R:List c)(j a:Nat),a+j=AC T->K.length=AC m->(m.zipIdx j).foldl (λ(x:Array c) (p:c×Nat)=>x.setIfInBounds (a+p.2) p.1) (T++(K++R)).toArray=(T++(m++R)).toArray:=by
 intro f
 induction f with
 |nil=>intro K T R j a h b;rw[AD b];rfl
 |cons y m e=>intro K T R j a h b;obtain⟨k,K,rfl⟩:=sV (l:=K) (by simp[b]);rw[h8,oU];have:=e K (T++[y]) R (j+1) a (by simp;lia) (by simpa using b);simpa[h]using this
def Rn(X:Cs):Nat->List (List Nat)->List (Nat×Nat×Nat)->Prop
 |_,[],[]=>True
 |s,A::o,p::r=>p.1=s/\p.2.1=AC A/\A≠[]/\A.Pairwise X.le/\Rn X (s+AC A) o r
 |_,_,_=>False
theorem Rn.cut:∀{r:List (Nat×Nat×Nat)}{s:Nat}{o:List (List Nat)},Rn X s o (r++w)->∃a L2,o=a++L2/\Rn X (s+AC a.flatten) L2 w/\∀M q,Rn X (s+AC a.flatten) M q->Rn X s (a++M) (r++q)
 |[],s,o,h=>⟨[],o,rfl,h,λ_ _ h=>h⟩
 |p::r,s,[],h=>h.elim
 |p::r,s,A::o,h=>by
  obtain⟨h1,b,c,f,g⟩:=h;obtain⟨a,L2,rfl,k,l⟩:=Rn.cut g;have e:s+(A::a).flatten.length=s+AC A+(AC a.flatten):=by simp;lia
  exact⟨A::a,L2,rfl,e▸k,λM q h=>⟨h1,b,c,f,l M q<|e▸h⟩⟩
def WN{s:sy}{f:PUnit->StateT sy cY t}(h:wp X (f ⟨⟩) Q s):wp X (set s>>=f) Q st:=kf λ_ g=>by rw[StateT.run_set];exact ik ⟨g,h⟩
def upA(u:A.Pairwise X.le)(v:B.Pairwise X.le)(h:∀a∈A,∀b∈B,X.le a b):(A++B).Pairwise X.le:=uw.mpr ⟨u,v,h⟩
def Ws(a:L=T++(A++R))(b:i=AC T)(c:j=AC T+AC A):(ar X L).extract i j=ar X A:=by subst a b c;simp[ar,Ed]
def VS{Q:Bool->sy->Prop}(S:Rp X d (o.flatten++R) st)(hr:Rn X 0 o d.toList)(hi:i+1<d.size)(h:∀c8 ck gP,Rp X ck (gP.flatten++R) c8->Rn X 0 gP ck.toList->ck.size+1=d.size->AC gP.flatten=AC o.flatten->Q z8 c8):wp X (mergeAt' i) Q st:=by
 obtain⟨d⟩:=d
 obtain⟨H,⟨Y,D,K⟩,⟨sb,F,dQ⟩,U,rfl,rfl⟩:∃H x y U,d=H++x::y::U/\(AC H)=i:=by have hi:i+1<(AC d):=hi;exact⟨d.take i,d[i],d[i+1],d.drop<|i+2,by simp,by simp;lia⟩
 obtain⟨L1,L2,rfl,h2,h3⟩:=Rn.cut hr
 obtain⟨A,B,L2,rfl⟩:∃A B L,L2=A::B::L:=by
  match L2,h2 with
  |A::B::L,_=>exact⟨A,B,L,rfl⟩
  |[A],h=>exact h.2.2.2.2.elim
  |[],h=>exact h.elim
 obtain⟨O,Z,a1,P,hb,dB,b1,V,h4⟩:=h2;dsimp only at O Z hb dB;obtain⟨κ',a',p',g,f'⟩:=st;have e1:a'=_:=S.a;have e2:p'=_:=S.q;subst e1 e2;rw[show(L1++A::B::L2).flatten++R=L1.flatten++(A++(B++(L2.flatten++R))) by simp]at S ⊢
 have fin:∀c8 M,Rp X (H++(Y,D+F,K)::U).toArray (L1.flatten++(M++(L2.flatten++R))) c8->M.Perm (A++B)->M.Pairwise X.le->Q z8 c8:=λc8 M J em u=>by have em:=em.length_eq;rw[lA,<-Z,<-dB]at em;refine h _ (H++(Y,D+F,K)::U).toArray (L1++M::L2) (by simpa using J) (h3 _ _ ⟨O,em.symm,λe=>a1 ?_,u,by rwa [em,Z,dB,<-yG]⟩) (by simp;lia) (by simp;lia);exact AD (by rw[e]at em;simp at em;lia)
 have ep:∀z,((H++(Y,D,K)::(sb,F,dQ)::U).toArray.setIfInBounds (AC H) z).eraseIdxIfInBounds (AC H+1)=(H++z::U).toArray:=λz=>by simp[kl,List.eraseIdx_append];intro;lia
 clear h h3 h4 hr;generalize L1.flatten=T at*;generalize L2.flatten++R=R at*;have hN:∀z,z∈A\/z∈B->z<X.N:=λz l=>by simpa using S.p.mem_iff.mp<|qy _ (by rcases l with h|h<;>simp[h])
 obtain⟨y,B',eB⟩:=List.exists_cons_of_ne_nil b1
 have hy:∀z∈B,X.le y z:=λz l=>by
  rw[eB]at V l;rcases kN.mp l with rfl|l
  .exact X.rf _
  exact(FN.mp V).1 z l
 refine pD ?_;dsimp only;rw[show(H++(Y,D,K)::(sb,F,dQ)::U).toArray[AC H]?=zx (Y,D,K) by simp,show(H++(Y,D,K)::(sb,F,dQ)::U).toArray[AC H+1]?=zx (sb,F,dQ) by simp];dsimp only;rw[ep];refine WN<|md (x:=y) (by rw[eB];exact Jz<|by lia)<|kf<|yP S.k (λz h=>hN z<|.inl h) (hN y<|.inr<|by simp[eB]) P At (by lia) Z.symm (by have:=Ke.mpr a1;lia) λk hk t1 t2=>?_;have S2:Rp X (H++(Y,D+F,K)::U).toArray (T++(A++(B++R))) (SortSt.mk' κ' (ar X<|T++(A++(B++R))) (H++(Y,D+F,K)::U).toArray g f'):=⟨rfl,S.k,S.f,rfl,S.p⟩
 have done:(∀a∈A,X.le a y)->Q z8 (SortSt.mk' κ' (ar X<|T++(A++(B++R))) (H++(Y,D+F,K)::U).toArray g f'):=λz=>fin _ (A++B) (by simpa using S2) (.refl _) (upA P V λa O b hb=>X.tr (z a O)<|hy b hb);rw[Z]at hk;obtain⟨v,E,rfl,rfl⟩:∃v E,A=v++E/\(AC v)=k:=⟨A.take k,A.drop k,by simp,by simp;lia⟩
 have t1:∀z∈v,X.le z y:=λz l=>by simpa using t1 z (by simpa using l)
 have t2:∀z∈E,X.le y z:=λz l=>X.as _ _ (by simpa using t2 z<|by simpa using l);rw[lA]at Z hb;dsimp only;rcases yJ E with e|⟨A3,x,e⟩
 .subst e;rw[ie<|by simp[Z]];exact hX<|done (by simpa using t1)
 rw[yI]at e;have l1:0<(AC E):=by simp[e]
 rw[iC<|by simp;lia];refine md (x:=x) (by rw[e,show T++(v++(A3++[x])++(B++R))=T++((v++A3)++x::(B++R)) by simp];exact Jz (by have:=nc ey e;simp at this ⊢;lia))<|kf<|yP (T:=T++(v++E)) (R:=R) S.k (λz h=>hN z<|.inr h) (hN x<|.inl<|by simp[e]) V (by rw[<-oo]) (by simp;lia) dB.symm (by have:=Ke.mpr b1;lia) λk2 aA t3 t4=>?_;rw[dB]at aA;obtain⟨I',G,rfl,rfl⟩:∃I' G,B=I'++G/\(AC I')=k2:=⟨B.take k2,B.drop k2,by simp,by simp;lia⟩
 have v3:∀z∈I',X.le z x:=λz l=>X.as _ _ (by simpa using t3 z<|by simpa using l);have v4:∀z∈G,X.le x z:=λz l=>by simpa using t4 z (by simpa using l)
 have lx:∀a∈v++E,X.le a x:=by rw[e,<-oo]at P ⊢;exact Hf X.tr P<|X.rf x
 cases I' with
 |nil=>exact hX<|done λa O=>X.tr (lx a O)<|v4 y (by simp[show G=y::B' from eB])
 |cons b I'=>
  obtain rfl:b=y:=(ve eB).1;refine iR (λc=>by simp at c) λ_=>?_;rw[Ws (A:=E) (T:=T++v) (R:=b::I'++G++R) (by simp) (by simp;lia)<|by simp;lia,Ws (A:=b::I') (T:=T++(v++E)) (R:=G++R) (by simp) (by simp;lia)<|by simp;lia]
  have W:∀out s,Rp X (H++(Y,D+F,K)::U).toArray (T++(v++E++(b::I'++G++R))) s->Rs X (E++b::I') out->Q (eO s).isNone (setArr s<|out.toList.zipIdx.foldl (λa x=>a.setIfInBounds (Y+AC v+x.2) x.1)<|ew s):=λout s J ho=>by
   obtain⟨M,rfl,u,hp⟩:=ho;rw[J.f,J.a];refine fin _ (v++(M++G)) ⟨?_,J.k,J.f,J.q,fJ ?_ J.p⟩ ?_ ?_
   .have:=R3 (M.map X.it) ((E++b::I').map X.it) ((T++v).map X.it) ((G++R).map X.it) 0 (Y+AC v) (by simp;lia) (by simpa using hp.length_eq.symm);simpa[ar]using this
   .simpa using(((hp.append_right<|G++R).append_left v).append_left T)
   .simpa using((hp.append_right G).append_left v)
   rw[uw]at P V;refine upA P.1 (upA u V.2.1 λa O c m=>?_) λa O c m=>?_
   .rcases oE.mp (hp.mem_iff.mp O)with O|O
    .exact X.tr (lx a<|by simp[O]) (v4 c m)
    exact V.2.2 a O c m
   have m:c∈E\/c∈b::I'++G:=by
    rcases oE.mp m with m|m
    .rcases oE.mp (hp.mem_iff.mp m)with m|m
     .exact .inl m
     exact .inr (AS _ m)
    exact .inr (qy _ m)
   rcases m with m|m
   .exact P.2.2 a O c m
   exact X.tr (t1 a O) (hy c m)
  have hd:∀z∈E,X.le (b::I')[0] z:=t2;have top:∀z∈b::I',X.le z E[AC E-1]:=λz l=>by subst e;simpa using v3 z l
  have l2:0<(b::I').length:=by simp
  have h3:∀z∈E,z<X.N:=λz l=>hN z<|.inl (by simp[l]);have h4:∀z∈b::I',z<X.N:=λz l=>hN z<|.inr<|AS _ l;have u1:=(uw.mp P).2.1;have u2:=(uw.mp V).1;exact iR (λc=>kf<|aau S2 u1 u2 h3 h4 l1 l2 hd top λout s J ho=>wt<|pD<|hX<|W out s J ho) λc=>kf<|aaw S2 u1 u2 h3 h4 l1 l2 hd top λout s J ho=>wt<|pD<|hX<|W out s J ho
end
section
variable {X:Cs}{st:sy}{b:Array (Nat×Nat×Nat)}{A L:jM}
theorem Rn.mod{w:Nat}:∀{c:List (Nat×Nat×Nat)}{s:Nat}{a:List (List Nat)}(i:Nat),Rn X s a c->Rn X s a (c.modify i λx=>(x.1,x.2.1,w))
 |[],s,a,i,h=>by cases i<;>exact h
 |p::c,s,[],i,h=>h.elim
 |p::c,s,A::a,0,h=>h
 |p::c,s,A::a,i+1,h=>⟨h.1,h.2.1,h.2.2.1,h.2.2.2.1,Rn.mod i h.2.2.2.2⟩
theorem Rn.le:∀{c:List (Nat×Nat×Nat)}{s:Nat}{a:List (List Nat)},Rn X s a c->AC c<=AC a.flatten
 |[],s,a,h=>lz _
 |p::c,s,[],h=>h.elim
 |p::c,s,A::a,h=>by have:=Rn.le h.2.2.2.2;have:=Ke.mpr h.2.2.1;simp at*;omega
theorem Rn.push{A:jM}{w:Nat}:∀{d:List (Nat×Nat×Nat)}{s:Nat}{c:List (List Nat)},Rn X s c d->A≠[]->A.Pairwise X.le->Rn X s (c++[A]) (d++[(s+AC c.flatten,AC A,w)])
 |[],s,[],h,a,u=>⟨rfl,rfl,a,u,trivial⟩
 |[],s,A::c,h,a,u=>h.elim
 |p::d,s,[],h,a,u=>h.elim
 |p::d,s,B::c,h,a,u=>⟨h.1,h.2.1,h.2.2.1,h.2.2.2.1,by simpa[yG]using Rn.push (w:=w) h.2.2.2.2 a u⟩
def Tw{Q:Unit->sy->Prop}(S:Rp X #[] L st)(h:∀E b L,Rp X b L E->L.Pairwise X.le->Q () E):wp X sortRuns' Q st:=by
 have I:(ew st).size=X.N:=by rw[S.a];simpa using S.p.length_eq
 have y:∀{b L st},Rp X b L st->AC L=X.N:=λS=>by simpa using S.p.length_eq
 rw[sortRuns'_eq];refine pD ?_;rw[I];dsimp only;refine mz (λi c s=>∃b,∃g:List (List Nat),∃R,c=(z7,AC g.flatten)/\Rp X b (g.flatten++R) s/\Rn X 0 g b.toList/\i<=AC g.flatten) (λc s=>c.1=z7/\∃b g,Rp X b g.flatten s/\Rn X 0 g b.toList) ⟨#[],[],L,rfl,S,trivial,lz _⟩ ?_ ?_ ?_
 .rintro i c s t ⟨b,g,R,rfl,S,d,o⟩;have r:=y S;dsimp only;refine iR (λe=>?_) λe=>?_
  .obtain rfl:R=[]:=AD (by simp at r e;omega);exact hX ⟨rfl,b,g,by simpa using S,d⟩
  obtain⟨x,R,rfl⟩:=sV (l:=R) (by simp at r e;omega);refine kf<|ag7 S At (by simp at r ⊢;omega) λA R s S a1 u M=>?_;apply OQ λn s=>∃A R,n=AC A/\Rp X b (g.flatten++(A++R)) s/\A≠[]/\A.Pairwise X.le
  .intro F;have T:=Ke.mpr a1;refine iR (λe=>?_) λe=>?_
   .refine ux (kf<|WQ S At At T (by simp at r;omega) (by omega) u λA R s S o u=>iR (λc=>by simp at c) λ_=>?_);generalize J:min (X.N-AC g.flatten) (minRun' X.N X.N 0)=n at o ⊢;exact F n s ⟨A,R,o.symm,S,by intro z;subst z;simp at o e;omega,u⟩
   exact F (AC A) s ⟨A,R,rfl,S,a1,u⟩
  rintro _ s ⟨A,R,rfl,S,a1,u⟩;refine pD ?_;apply VT λs=>∃b m,Rp X b (m.flatten++(A++R)) s/\Rn X 0 m b.toList/\(AC m.flatten)=AC g.flatten
  .intro F;rw[S.q]
   cases b.back? with
   |none=>exact F s ⟨b,g,S,d,rfl⟩
   |some z=>
    refine mz (λ_ c s=>c=(z7,())/\∃b m,Rp X b (m.flatten++(A++R)) s/\Rn X 0 m b.toList/\(AC m.flatten)=AC g.flatten) (λc s=>c=(z7,())/\∃b m,Rp X b (m.flatten++(A++R)) s/\Rn X 0 m b.toList/\(AC m.flatten)=AC g.flatten) ⟨rfl,b,g,S,d,rfl⟩ ?_ (λ_ _ h=>h) ?_
    .rintro j c s _ ⟨rfl,b,m,S,d,o⟩;refine pD ?_;rw[S.q]
     cases H:(if b.size>1 then b[b.size-2]? else z7)with
     |none=>exact hX ⟨rfl,b,m,S,d,o⟩
     |some z=>
      refine iR (λ_=>hX ⟨rfl,b,m,S,d,o⟩) λ_=>kf<|VS S d ?_ λs v w S d _ O=>iR (λc=>by simp at c) λ_=>hX ⟨rfl,v,w,S,d,O.trans o⟩;split at H
      .omega
      cases H
    rintro c s ⟨rfl,b,m,S,d,o⟩;exact wt<|F _ ⟨_,m,⟨S.a,S.k,S.f,rfl,S.p⟩,by rw[S.q,Array.toList_modify];exact d.mod _,o⟩
  rintro s ⟨b,m,S,d,o⟩;refine wt<|hX ⟨_,m++[A],R,?_,⟨by simpa using S.a,S.k,S.f,rfl,by simpa using S.p⟩,?_,?_⟩
  .rw[List.flatten_append,lA,o];simp
  .rw[S.q,d0,<-o,<-vU (AC m.flatten)];exact d.push a1 u
  have:=Ke.mpr a1;simp at*;omega
 .rintro c s ⟨b,g,R,rfl,S,d,o⟩;have r:=y S;obtain rfl:R=[]:=AD (by simp at r o;omega);exact⟨rfl,b,g,by simpa using S,d⟩
 rintro⟨_,c⟩ s ⟨rfl,b,g,S,d⟩;have r:=y S;have G:=d.le;refine mz (λi c s=>c=(z7,())/\∃b g,Rp X b g.flatten s/\Rn X 0 g b.toList/\(b.size<=1\/b.size+i<=X.N)) (λc s=>c=(z7,())/\∃b g,Rp X b g.flatten s/\Rn X 0 g b.toList/\b.size<=1) ⟨rfl,b,g,S,d,.inr<|by rw[kn]at G;omega⟩ ?_ ?_ ?_
 .rintro i c s _ ⟨rfl,b,g,S,d,t⟩;refine pD ?_;rw[S.q];refine iR (λe=>hX ⟨rfl,b,g,S,d,e⟩) λe=>kf<|VS (R:=[]) (by simpa using S) d ((λc:Bool=>show(if c=C then b.size-2-1 else b.size-2)+1<b.size by split<;>omega) _) λs v w S d I _=>iR (λc=>by simp at c) λ_=>hX ⟨rfl,v,w,by simpa using S,d,.inr<|by omega⟩
 .rintro c s ⟨rfl,b,g,S,d,t⟩;exact⟨rfl,b,g,S,d,by omega⟩
 rintro c s ⟨rfl,b,g,S,d,t⟩;refine hX<|h s b _ S ?_;obtain⟨C'⟩:=b
 match C',g,d,t with
 |[],[],_,_=>exact .nil
 |[p],[A],d,_=>simpa using d.2.2.2.1
 |p::[],A::B::g,d,_=>exact d.2.2.2.2.elim
 |[],A::g,d,_=>exact d.elim
 |p::C',[],d,_=>exact d.elim
 |p::U::C',g,d,t=>simp at t
end
end TS
namespace PX
open L2 PySem.SeqAt
open PySem.AutoSeq1 (wpAny_loadPart')
open PySem.MeetsSeq PySem.MeetsSeq2 PySem.MeetsSeq3
noncomputable def lE(op:bZ)(i j:Int):Bool:=match op with
 |.Lt=>decide (i<j)|.LtE=>decide (i<=j)|.Gt=>decide (i>j)|_=>decide<|i>=j
def zT(a:bZ):Prop:=a=.Lt\/a=.LtE\/a=.Gt\/a=.GtE
def Vr(op:bZ)(A:iB)(s:hJ)(y x:il)(b:Bool):Prop:= ∀(a:iF)(w:iu)(E:iU)(Q:iU),Q (.bool b) s->ae (ah a w) A (richCompare op y x) Q E s
def Tj(op:bZ)(A:iB)(s:hJ)(fin:Bool):List (il×il)->Bool->Prop
 |[],r=>r=fin
 |(y,x)::rest,r=>∃e,EqAt A s y x e/\(if e=C then Tj op A s fin rest r else Vr op A s y x r)
def Pb(l b:gU)(items i:oF)(n B:Nat)(dd t:Option gU)(U q:CT)(r:Bool):
  tz (bo.«tuple.__lt__» ⟨[.ref l,.ref b],[]⟩) (λA R s=>s.heap.get? l=J {cls:=.type "tuple",dict:=dd,data:=.seq items n,slots:=U}/\s.heap.get? b=J {cls:=.type "tuple",dict:=t,data:=.seq i B,slots:=q}/\
   Tj .Lt A.in1 s (lE .Lt items.size i.size) (items.toList.zip i.toList) r/\R (.ok<|.ret<|.bool r) s):=
 .of_wp λc w A R s h=>by
  obtain⟨o,g,d,p,os⟩:=s;obtain⟨z,u,a,h⟩:=h;have Q:=AutoSeq1.sub_tuple_tuple
  wp_walk using b5 z,b5 u,yF _ (λf b m=>b.1=I/\m=⟨o,g,d,p,os⟩/\Tj .Lt A.in1 ⟨o,g,d,p,os⟩ (lE .Lt items.size i.size) f r) _
  case turn=>
   rintro⟨y,x⟩ f b m ⟨j,rfl,e,v,a⟩;refine gW<|v c w _ _ ?_
   cases e with
   |true=>
    simp only[kz]at a
    wp_walk
    exact⟨rfl,rfl,a⟩
   |false=>
    simp only[jF,km]at a;have k:=a c w
    wp_walk using k
    exact⟨_,rfl,by simpa using h⟩
  case fin=>
   rintro⟨E,T⟩ m ⟨j,rfl,a⟩;simp only at j;subst j;have a:r=lE .Lt items.size i.size:=a;rw[a]at h
   wp_walk
   exact⟨_,rfl,by simpa[n1,lE]using h⟩
  case h=>exact⟨rfl,rfl,a⟩
section
variable {A:iB}{s:hJ}{l b:gU}{items a:oF}{r:Bool}
def PJ(q:s.heap.IsTuple l items)(p:s.heap.IsTuple b a)(t:A.units<aS)(u:Tj .Lt A.in1 s (lE .Lt items.size a.size) (items.toList.zip a.toList) r):Vr .Lt A s (.ref l) (.ref b) r:=λj w E Q h=>by obtain⟨⟨o,dd,f,y⟩,i,g,n,hd⟩:=id q;obtain⟨⟨z,m,data2,k⟩,d,e,v,c⟩:=id p;simp only at g hd e c;subst g hd e c;exact richCompare_meets_room (op:=.Lt) ⟨_,i,rfl⟩ ⟨_,d,rfl⟩ PySem.F.slot_tuple_lt PySem.F.entry_tuple_lt (PySem.F.args_tuple_lt_2 _ _) (Pb l b items a n v dd m y k r) ⟨i,d,u,show fM r≠Value.notImplemented/\Q (.bool r) s from⟨(λx=>nomatch x),h⟩⟩ t
end
mutual
noncomputable def nG(a:bZ):D->D->Option Bool
 |.int i,.int j=>J<|lE a i j
 |.tup l,.tup m=>if a=.Lt then rM a l m else I
 |_,_=>I
noncomputable def rM(a:bZ):List D->List D->Option Bool
 |[],m=>J<|lE a 0<|AC m
 |x::l,[]=>J<|lE a ((x::l).length) 0
 |x::l,y::m=>if D.Q2 x y=C then rM a l m else nG a x y
end
def rC(c:bZ)(a b k:Int):lE c (a+k) (b+k)=lE c a b:=by
 cases c<;>simp[lE]
section
variable {X:Cx}{c:iO}{f:L2.St}{H:Hp}{s:hJ}
def GC(b:zT op):Vr op A s (.int i t) (.int j u) (lE op i j):=λa w E Q h=>by
 rcases b with rfl|rfl|rfl|rfl
 .exact(q7 h:ae (ah a w) A (au .Lt _ _) Q E s)
 .exact(q9 h:ae (ah a w) A (au .LtE _ _) Q E s)
 .exact(rc h:ae (ah a w) A (au .Gt _ _) Q E s)
 exact(re h:ae (ah a w) A (au .GtE _ _) Q E s)
def PK(ho:zT op)(I:Inv X c f H s):∀(n:Nat)(d e:D)(v u:V)(a b:il)(O B:SI)(A:iB)(r:Bool),jT X.K H O d v->jT X.K H B e u->RelV v a->RelV u b->d.dep<=n->e.dep<20000->A.units+n<aS->nG op d e=zx r->Vr op A s a b r:=by
 intro n
 induction n with
 |zero=>
  intro d e v u a b O B A r hd T G J M Z hA g
  cases d with
  |int i=>
   cases e with
   |int j=>have:=iP hd;subst this;have:=iP T;subst this;obtain⟨t,rfl⟩:=G;obtain⟨t',rfl⟩:=J;rw[nG]at g;rw[<-kD g];exact GC ho
   |_=>rw[nG]at g<;>first|cases g|(intros;simp_all)
  |tup l=>rw[D.dep]at M;lia
  |_=>rw[nG]at g<;>first|cases g|(intros;simp_all)
 |succ n ih=>
  intro d e v u a b O B A r hd T G J M Z hA g
  cases d with
  |int i=>
   cases e with
   |int j=>have:=iP hd;subst this;have:=iP T;subst this;obtain⟨t,rfl⟩:=G;obtain⟨t',rfl⟩:=J;rw[nG]at g;rw[<-kD g];exact GC ho
   |_=>rw[nG]at g<;>first|cases g|(intros;simp_all)
  |tup l=>
   cases e with
   |tup m=>
    rw[nG]at g;split at g
    case isFalse=>cases g
    rename_i N;subst N;rw[D.dep]at M Z;obtain⟨p,E,rfl,q,z⟩:=lM hd;obtain⟨p2,L,rfl,q2,o⟩:=lM T;cases G;cases J;obtain⟨h,Q,pl,_⟩:=I.tuple q;obtain⟨w,C,h9,_⟩:=I.tuple q2;have R:A.in1.units=A.units+1:=rfl
    have key:∀(l m:List D)(E L:List V)(h w:ju)(k:Int),D.P2 l+1<=n+1->D.P2 m<20000->YP X.K H O l E->YP X.K H B m L->Vals E h->Vals L w->rM .Lt l m=zx r->Tj .Lt A.in1 s (lE .Lt (h.length+k)<|w.length+k) (h.zip w) r:=by
     intro l
     induction l with
     |nil=>
      intro m E L h w k P F z o Q C g;rw[YP]at z;subst z;cases Q;rw[rM]at g;have e1:=o.length;have e2:=C.length;show r=_;rw[rC,<-kD g]
      congr 1
      lia
     |cons x l U=>
      intro m E L h w k P F z o Q C g;rw[YP]at z;obtain⟨vx,xr,rfl,g1,g2⟩:=z
      cases Q with
      |cons a1 Y'=>
       cases m with
       |nil=>
        rw[YP]at o;subst o;cases C;rw[rM]at g;have e1:=g2.length;have e2:=Y'.length;rw[gc];show r=_;rw[rC,<-kD g]
        congr 1
        simp only[kG];lia
       |cons y m=>
        rw[YP]at o;obtain⟨vy,yr,rfl,S,g4⟩:=o
        cases C with
        |cons b1 b2=>
         rw[rM]at g;rw[D.P2]at P F;rw[sQ];refine⟨D.Q2 x y,B6 I n x y vx vy _ _ O B A.in1 (.inl g1) (.inl S) a1 b1 (by lia) (by lia) (by rw[R];lia),?_⟩
         cases W:D.Q2 x y with
         |true=>
          rw[W,ie At]at g;rw[ie At];have:=U m xr yr _ _ (k+1) (by lia) (by lia) g2 g4 Y' b2 g;simp only[kG];have e:∀a:Nat,(((a+1:Nat):Int)+k)=(a:Int)+(k+1):=λa=>by lia
          rw[e,e];exact this
         |false=>rw[W,iC kJ]at g;rw[iC kJ];exact ih x y vx vy _ _ O B A.in1 r (.inl g1) (.inl S) a1 b1 (by lia) (by lia) (by rw[R];lia) g
    have:=key l m E L h w 0 (by lia) (by lia) z o Q C g;refine PJ pl h9 (by lia) ?_;simpa using this
   |_=>rw[nG]at g<;>first|cases g|(intros;simp_all)
  |_=>rw[nG]at g<;>first|cases g|(intros;simp_all)
def pP(a:bZ)(d e:D):Option (D×Bool):=if d.dep<=50/\e.dep<=50 then(nG a d e).map λb=>(.bl b,Y)else I
def og(b:zT op)(l:X.A.units+60<aS):D0 X (au op) (rD X.K<|pP op):=by
 intro c s f H x y v u Q U j k h;obtain⟨O,d,e,z,np,h1,g,a,G⟩:=h;unfold pP at a;split at a
 .rename_i hd;obtain⟨r,i,rfl⟩:=jy a;have:=PK b U 50 d e x y v u O O X.A r h1 g j k hd.1 (by lia) (by lia) i X.prog X.w X.xe (EP X c f Q) ⟨.bl r,H,U,rfl,G.bl⟩;rcases b with rfl|rfl|rfl|rfl<;>exact this
 cases a
end
open TS
section
variable {b:iF}{w:iu}{A:iB}{E:iU}{s:hJ}
noncomputable def qj(h:iJ)(a:gU)(c:ju):Heap:=((h.update a<|aM λ_=> #[]).push<|aZ "tuple" c.toArray 0).push<|aZ "list" #[] 0
noncomputable def RF(a:ju)(i:Nat):Keyed:=(a.getD i aw,a.getD i aw)
def vJ{a:gU}{c:ju}{n:Nat}{P:p6->hJ->Prop}{κ:j6}{lt:Nat->Nat->Bool}(r:s.heap.get? a=J (aZ "list" c.toArray n))(z:(AC c)<=sizeLine)(as:∀i j,lt i j=z8->lt j i=Y)(G:∀{i j k},lt j i=Y->lt k j=Y->lt k i=Y)
  (hk:2<=AC c->ae (ah b w) A (keyKind' c.toArray) (λg d=>d={s with heap:=qj s.heap a c}/\g=κ) (λ_ _=>False) {s with heap:=qj s.heap a c})
  (ask:2<=AC c->Ask (ah b w) A (λd=>d={s with heap:=qj s.heap a c}) (RF c) κ (AC c) lt)
  (h:∀p:List Nat,p.Perm (am<|AC c)->p.Pairwise (λi j=>lt j i=Y)->P (.done<|.ret .none) {s with heap:=(qj s.heap a c).update a (aM λ_=>(p.map λi=>c.getD i aw).toArray)}):
  ae (ah b w) A (bo.«list.sort» ⟨[.ref a],[]⟩) P E s:=by
 rw[list_sort_plain];have M:a<s.heap.objs.size:=jc r;refine gW<|Io r At<|gW<|vT r At ?_ (by rw[jG];exact z)<|lz _;obtain⟨u,B⟩:∃u,(s.heap.update a<|aM λ_=>(#[]:Array il)).get? a=J (aZ "list" #[] u):=⟨_,yE r λ_=> #[]⟩
 refine gW<|Ay B At<|gW<|Ei ?_ (by show (AC c)<=_;exact z);refine gW<|Ea ?_<|lz _;refine mU ?_;have q:(qj s.heap a c).get? a=J (aZ "list" #[] u):=jJ _ (jJ _ B);show ae (ah b w) A _ P E {s with heap:=qj s.heap a c};dsimp only;by_cases l:c.toArray.size<2
 .rw[ie l,ie l];refine gW<|ik ?_;rw[Iv];refine gW<|ik ?_;dsimp only;refine gW<|Ay q At<|gW<|vT q At ?_ (lz _) ?_
  .simp only[xi,jF,km];refine ik ?_;have t:(AC c)<2:=by simpa using l
   have:=h (am<|AC c) (vS _) (by rw[Tp];intro i j m O N;simp at m O;lia)
   have e:((c.toArray.zip c.toArray).map (·.2))=((am<|AC c).map λi=>c.getD i aw).toArray:=by
    apply sm
    .simp
    intro i h1 I;have m:i<(AC c):=by simpa using h1
    simp[m]
   rw[e];exact this
  rw[kA,kw];simp;lia
 rw[iC l,iC l];have t:2<=(AC c):=by simpa using l
 refine gW<|qi (hk t) (λg d y=>?_) λ_ _ x=>x.elim;obtain⟨rfl,rfl⟩:=y;refine gW (qi (Tw (X:=⟨_,A,E,λd=>d={s with heap:=qj s.heap a c},RF c,lt,g,AC c,as,G,ask t⟩) (L:=am<|AC c) ⟨?_,rfl,rfl,rfl,.refl _⟩ (Q:=λ_ o=>∃p,(ew o).map (·.2)=(p.map λi=>c.getD i aw).toArray/\eO o=z7/\p.Perm (am<|AC c)/\p.Pairwise λi j=>lt j i=Y) (λo _ p R v=>⟨p,?_,R.f,R.p,v⟩) _ rfl) ?_ λ_ _ e=>e)
 .show c.toArray.zip c.toArray=_;apply sm
  .simp
  intro i h1 I;have m:i<(AC c):=by simpa using h1
  simp[RF,m]
 .rw[R.a];simp[RF]
 rintro⟨⟨⟩,o⟩ d ⟨rfl,C,out,U,H,v⟩;dsimp only;have T:(AC C)=(AC c):=by simpa using H.length_eq
 refine gW<|Ay q At<|gW<|vT q At ?_ (lz _) ?_
 .rw[U];simp only[xi,jF,km];rw[out];exact ik<|h C H v
 rw[out,jG,jl,T];lia
end
mutual
noncomputable def cT:D->D->Ordering
 |.int i,.int j=>if i<j then .lt else if i=j then .eq else .gt
 |.int _,_=>.lt
 |.tup _,.int _=>.gt
 |.tup l,.tup m=>cL l m
 |.tup _,_=>.lt
 |_,.int _=>.gt
 |_,.tup _=>.gt
 |_,_=>.eq
noncomputable def cL:List D->List D->Ordering
 |[],[]=>.eq
 |[],_::_=>.lt
 |_::_,[]=>.gt
 |x::l,y::m=>match cT x y with
  |.lt=>.lt
  |.gt=>.gt
  |.eq=>cL l m
end
mutual
theorem LW:∀x:D,cT x x=.eq
 |.int i=>by simp[cT]
 |.tup l=>by rw[cT];exact LZ l
 |.T2=>by simp[cT]
 |.bl _=>by simp[cT]
 |.str _=>by simp[cT]
 |.lst _=>by simp[cT]
 |.R1 _ _ _=>by simp[cT]
theorem LZ:∀l:List D,cL l l=.eq
 |[]=>by simp[cL]
 |x::l=>by rw[cL,LW x];exact LZ l
end
mutual
theorem yn:∀x y:D,cT y x=(cT x y).swap
 |.int i,.int j=>by
  rw[cT,cT];by_cases h1:i<j
  .rw[ie h1,iC<|by lia,iC<|by lia];rfl
  rw[iC h1];by_cases a:i=j
  .rw[ie a,iC<|by lia,ie a.symm];rfl
  rw[iC a,ie<|by lia];rfl
 |.tup l,.tup m=>by rw[cT,cT];exact LY l m
 |.int _,.tup _=>by simp[cT]
 |.int _,.T2=>by simp[cT]
 |.int _,.bl _=>by simp[cT]
 |.int _,.str _=>by simp[cT]
 |.int _,.lst _=>by simp[cT]
 |.int _,.R1 _ _ _=>by simp[cT]
 |.tup _,.int _=>by simp[cT]
 |.tup _,.T2=>by simp[cT]
 |.tup _,.bl _=>by simp[cT]
 |.tup _,.str _=>by simp[cT]
 |.tup _,.lst _=>by simp[cT]
 |.tup _,.R1 _ _ _=>by simp[cT]
 |.T2,y=>by cases y<;>simp[cT]
 |.bl _,y=>by cases y<;>simp[cT]
 |.str _,y=>by cases y<;>simp[cT]
 |.lst _,y=>by cases y<;>simp[cT]
 |.R1 _ _ _,y=>by cases y<;>simp[cT]
theorem LY:∀l m:List D,cL m l=(cL l m).swap
 |[],[]=>by simp[cL]
 |[],_::_=>by simp[cL]
 |_::_,[]=>by simp[cL]
 |x::l,y::m=>by
  rw[cL,cL,yn x y];cases h:cT x y<;>simp[eA]
  exact LY l m
end
def Rj(h1:cT x y≠ .gt)(a:cT y x≠ .gt):cT x y=.eq:=by
 rw[yn x y]at a
 cases h:cT x y with
 |lt=>rw[h]at a;exact absurd H a
 |eq=>rfl
 |gt=>exact absurd h h1
mutual
theorem ym:∀x y z:D,cT x y≠ .gt->cT y z≠ .gt->cT x z≠ .gt
 |.int i,y,z,h1,d=>by
  cases z with
  |int k=>
   cases y with
   |int j=>
    rw[cT]at h1 d ⊢
    have a:i<=j:=by
     by_cases a:i<j
     .lia
     rw[iC a]at h1;by_cases b:i=j
     .lia
     rw[iC b]at h1;exact absurd H h1
    have b:j<=k:=by
     by_cases a:j<k
     .lia
     rw[iC a]at d;by_cases b:j=k
     .lia
     rw[iC b]at d;exact absurd H d
    by_cases c:i<k
    .rw[ie c];simp
    rw[iC c,ie<|by lia];simp
   |_=>simp[cT]at d
  |_=>simp[cT]
 |.tup l,y,z,h1,d=>by
  cases y with
  |int j=>simp[cT]at h1
  |tup m=>
   cases z with
   |int k=>simp[cT]at d
   |tup n=>rw[cT]at h1 d ⊢;exact HJ l m n h1 d
   |_=>simp[cT]
  |_=>cases z<;>simp_all [cT]
 |.T2,y,z,h1,d=>by cases y<;>cases z<;>simp_all [cT]
 |.bl _,y,z,h1,d=>by cases y<;>cases z<;>simp_all [cT]
 |.str _,y,z,h1,d=>by cases y<;>cases z<;>simp_all [cT]
 |.lst _,y,z,h1,d=>by cases y<;>cases z<;>simp_all [cT]
 |.R1 _ _ _,y,z,h1,d=>by cases y<;>cases z<;>simp_all [cT]
 termination_by x y z=>sizeOf x+sizeOf y+sizeOf z
theorem HJ:∀l m n:List D,cL l m≠ .gt->cL m n≠ .gt->cL l n≠ .gt
 |[],m,n,_,_=>by cases n<;>simp[cL]
 |x::l,[],n,h1,_=>by simp[cL]at h1
 |x::l,y::m,[],_,a=>by simp[cL]at a
 |x::l,y::m,z::n,h1,a=>by
  have a1:cT x y≠ .gt:=λh=>by rw[cL,h]at h1;exact h1 H
  have c:cT y z≠ .gt:=λh=>by rw[cL,h]at a;exact a H
  have g:=ym x y z a1 c;rw[cL]
  cases b:cT x z with
  |lt=>simp
  |gt=>exact absurd b g
  |eq=>
   have f:cT z x≠ .gt:=by rw[yn x z,b];simp[eA]
   have d:cT x y=.eq:=Rj a1<|ym y z x c f;have e:cT y z=.eq:=Rj c<|ym z x y f a1;rw[cL,d]at h1;rw[cL,e]at a;exact HJ l m n h1 a
 termination_by l m n=>sizeOf l+sizeOf m+sizeOf n
end
def A1(x y:D):Bool:=cT x y== .lt
def abl:A1 x y=C↔cT x y=.lt:=by simp[A1]
def ze:A1 x y=Y↔cT x y≠ .lt:=by simp[A1]
def Wb:A1 y x=Y↔cT x y≠ .gt:=by rw[ze,yn x y];cases cT x y<;>simp[eA]
def ab4(x y:D)(h:A1 x y=C):A1 y x=Y:=by rw[Wb,abl.mp h];simp
def aaA(h1:A1 y x=Y)(a:A1 z y=Y):A1 z x=Y:=Wb.mpr<|ym _ _ _ (Wb.mp h1) (Wb.mp a)
mutual
noncomputable def D.pr:D->Bool
 |.int _=>C
 |.tup l=>D.GS l
 |_=>Y
noncomputable def D.GS:List D->Bool
 |[]=>C
 |x::l=>D.pr x&&D.GS l
end
mutual
theorem JV:∀x y:D,D.pr x=C->D.pr y=C->D.Q2 x y=(cT x y== .eq)
 |.int i,.int j,_,_=>by
  rw[D.Q2,cT];by_cases h:i=j
  .subst h;simp
  rw[iC h];by_cases a:i<j<;>simp[h,a]
 |.int _,.tup _,_,_=>by simp[D.Q2,cT]
 |.tup _,.int _,_,_=>by simp[D.Q2,cT]
 |.tup l,.tup m,h1,a=>by rw[D.Q2,cT];rw[D.pr]at h1 a;exact LJ l m h1 a
 |.T2,_,h,_=>by simp[D.pr]at h
 |.bl _,_,h,_=>by simp[D.pr]at h
 |.str _,_,h,_=>by simp[D.pr]at h
 |.lst _,_,h,_=>by simp[D.pr]at h
 |.R1 _ _ _,_,h,_=>by simp[D.pr]at h
 |_,.T2,_,h=>by simp[D.pr]at h
 |_,.bl _,_,h=>by simp[D.pr]at h
 |_,.str _,_,h=>by simp[D.pr]at h
 |_,.lst _,_,h=>by simp[D.pr]at h
 |_,.R1 _ _ _,_,h=>by simp[D.pr]at h
theorem LJ:∀l m:List D,D.GS l=C->D.GS m=C->D.K3 l m=(cL l m== .eq)
 |[],[],_,_=>by simp[D.K3,cL]
 |[],_::_,_,_=>by simp[D.K3,cL]
 |_::_,[],_,_=>by simp[D.K3,cL]
 |x::l,y::m,h1,a=>by rw[D.GS,la]at h1 a;rw[D.K3,cL,JV x y h1.1 a.1,LJ l m h1.2 a.2];cases cT x y<;>simp
end
mutual
theorem yo:∀x y:D,D.pr x=C->D.pr y=C->cT x y=.eq->x=y
 |.int i,.int j,_,_,h=>by
  rw[cT]at h;by_cases h1:i<j
  .rw[ie h1]at h;cases h
  rw[iC h1]at h;by_cases c:i=j
  .rw[c]
  rw[iC c]at h;cases h
 |.tup l,.tup m,a,b,h=>by rw[cT]at h;rw[D.pr]at a b;rw[HK l m a b h]
 |.int _,.tup _,_,_,h=>by simp[cT]at h
 |.tup _,.int _,_,_,h=>by simp[cT]at h
 |.T2,_,a,_,_=>by simp[D.pr]at a
 |.bl _,_,a,_,_=>by simp[D.pr]at a
 |.str _,_,a,_,_=>by simp[D.pr]at a
 |.lst _,_,a,_,_=>by simp[D.pr]at a
 |.R1 _ _ _,_,a,_,_=>by simp[D.pr]at a
 |_,.T2,_,a,_=>by simp[D.pr]at a
 |_,.bl _,_,a,_=>by simp[D.pr]at a
 |_,.str _,_,a,_=>by simp[D.pr]at a
 |_,.lst _,_,a,_=>by simp[D.pr]at a
 |_,.R1 _ _ _,_,a,_=>by simp[D.pr]at a
theorem HK:∀l m:List D,D.GS l=C->D.GS m=C->cL l m=.eq->l=m
 |[],[],_,_,_=>rfl
 |[],_::_,_,_,h=>by simp[cL]at h
 |_::_,[],_,_,h=>by simp[cL]at h
 |x::l,y::m,a,b,h=>by
  rw[D.GS,la]at a b;rw[cL]at h
  cases e:cT x y with
  |eq=>rw[e]at h;rw[yo x y a.1 b.1 e,HK l m a.2 b.2 h]
  |lt=>rw[e]at h;cases h
  |gt=>rw[e]at h;cases h
end
mutual
theorem Fx:∀x y:D,D.pr x=C->D.pr y=C->∀b,nG .Lt x y=J b->b=A1 x y
 |.int i,.int j,_,_,b,h=>by
  rw[nG]at h;rw[<-kD h,A1,cT,lE];by_cases h1:i<j
  .simp[h1]
  rw[iC h1];by_cases a:i=j<;>simp[h1,a]
 |.int _,.tup _,_,_,b,h=>by simp[nG]at h
 |.tup _,.int _,_,_,b,h=>by simp[nG]at h
 |.tup l,.tup m,h1,a,b,h=>by rw[nG,ie H]at h;rw[D.pr]at h1 a;rw[A1,cT];exact LO l m h1 a b h
 |.T2,_,h,_,_,_=>by simp[D.pr]at h
 |.bl _,_,h,_,_,_=>by simp[D.pr]at h
 |.str _,_,h,_,_,_=>by simp[D.pr]at h
 |.lst _,_,h,_,_,_=>by simp[D.pr]at h
 |_,.T2,_,h,_,_=>by simp[D.pr]at h
 |_,.bl _,_,h,_,_=>by simp[D.pr]at h
 |_,.str _,_,h,_,_=>by simp[D.pr]at h
 |_,.lst _,_,h,_,_=>by simp[D.pr]at h
theorem LO:∀l m:List D,D.GS l=C->D.GS m=C->∀b,rM .Lt l m=J b->b=(cL l m== .lt)
 |[],[],_,_,b,h=>by rw[rM]at h;rw[<-kD h];simp[lE,cL]
 |[],_::_,_,_,b,h=>by rw[rM]at h;rw[<-kD h];simp[lE,cL]<;>lia
 |_::_,[],_,_,b,h=>by rw[rM]at h;rw[<-kD h];simp[lE,cL]<;>lia
 |x::l,y::m,h1,a,b,h=>by
  rw[D.GS,la]at h1 a;rw[rM,JV x y h1.1 a.1]at h;rw[cL]
  cases c:cT x y with
  |eq=>rw[c]at h;simp at h;exact LO l m h1.2 a.2 b h
  |lt=>rw[c]at h;simp at h;have:=Fx x y h1.1 a.1 b h;rw[this,A1,c]
  |gt=>rw[c]at h;simp at h;have:=Fx x y h1.1 a.1 b h;rw[this,A1,c]
end
section
variable {a:Type}(lt:a->a->Bool)
noncomputable def E9(x:a):List a->List a
 |[]=>[x]
 |y::l=>if lt y x=C then y::E9 x l else x::y::l
def lC:List a->List a
 |[]=>[]
 |x::l=>E9 lt x<|lC l
theorem uQ(x:a):∀l:List a,(E9 lt x l).Perm (x::l)
 |[]=>vS _
 |y::l=>by
  rw[E9];split
  .exact((uQ x l).cons y).trans (fO x y l)
  exact vS _
theorem jA:∀l:List a,(lC lt l).Perm l
 |[]=>vS _
 |x::l=>(uQ lt x _).trans<|(jA l).cons x
end
def RG{x:D}:∀{l:List D},(l.Pairwise λx y=>A1 y x=Y)->(E9 A1 x l).Pairwise λx y=>A1 y x=Y:=by
 intro d
 induction d with
 |nil=>intro _;exact NV _ _
 |cons y l c=>
  intro h;have h:=FN.mp h;rw[E9]
  cases b:A1 y x
  .refine FN.mpr ⟨λz a=>?_,FN.mpr h⟩;rcases kN.mp a with rfl|a
   .exact b
   exact aaA b (h.1 z a)
  refine FN.mpr ⟨λz a=>?_,c h.2⟩;rcases kN.mp ((uQ A1 x l).mem_iff.mp a)with rfl|a
  .exact ab4 _ _ b
  exact h.1 z a
theorem qF:∀l:List D,(lC A1 l).Pairwise λx y=>A1 y x=Y
 |[]=>aV
 |x::l=>RG<|qF l
def Pj{l m:List D}(h:∀x∈m,D.pr x=C)(a:l.Perm m)(c:l.Pairwise λx y=>A1 y x=Y):l=lC A1 m:=
 wS (λx y d e h1 b=>yo x y (h x<|a.mem_iff.mp d) (h y<|(jA A1 m).mem_iff.mp e)<|Rj (Wb.mp h1)<|Wb.mp b) c (qF m) (a.trans (jA A1 m).symm)
def agG{a:List D}{p:jM}(pr:∀x∈a,D.pr x=C)(d:p.Perm (am<|AC a))(f:p.Pairwise λi j=>A1 (a.getD j .T2) (a.getD i .T2)=Y):p.map (λi=>a.getD i .T2)=lC A1 a:=by
 have e:(am<|AC a).map (λi=>a.getD i .T2)=a:=by apply AG;intro i;by_cases c:i<AC a<;>simp[c]
 have b:=d.map λi=>a.getD i .T2;rw[e]at b;exact Pj pr b<|kP.mpr f
noncomputable def lr:D->Option Nat
 |.int _=>J 0
 |.tup (.int _::_)=>J 1
 |.tup (.tup _::_)=>J 2
 |_=>I
noncomputable def Lx:Nat->j6
 |0=>ut
 |1=>wv C
 |_=>wv Y
structure ES(k:Nat)(l:List D):Prop where
 hd:∀x∈l,lr x=zx k
 pr:∀x∈l,D.pr x=z8
 dp:∀x∈l,x.dep<=50
 cm:∀x∈l,∀y∈l,(nG .Lt x y).isSome=z8
def nL(l:List D):Bool:=AC l<=1||match l with
 |[]=>C
 |x::_=>(lr x).isSome&&(l.all λy=>lr y==lr x&&D.pr y&&decide (y.dep<=50))&&l.all λy=>l.all λz=>(nG .Lt y z).isSome
def C6(h:nL l=C):(AC l)<=1\/∃k,ES k l:=by
 unfold nL at h;rw[yD]at h;rcases h with h|h
 .left;simpa using h
 right
 cases l with
 |nil=>exact⟨0,λx a=>absurd a my,λx a=>absurd a my,λx a=>absurd a my,λx a=>absurd a my⟩
 |cons x m=>simp only[la,ku,qw]at h;obtain⟨⟨h1,c⟩,d⟩:=h;obtain⟨k,hk⟩:=Og.mp h1;refine⟨k,λy b=>?_,λy b=>(c y b).1.2,λy b=>(c y b).2,λy b z e=>d y b z e⟩;have:=(c y b).1.1;rw[hk]at this;simpa using this
section
variable {X:Cx}{d:iO}{f:L2.St}{H:Hp}{s:hJ}
def uC(v:Vals xs a)(b:i<a.length):RelV (xs.getD i .T2) (a.getD i aw):=by
 have e:=v.length;have h:xs[i]?=J xs[i]:=jq (by omega);obtain⟨w,c,j⟩:=v.get h;have h1:xs.getD i .T2=xs[i]:=by simp[show i<xs.length by omega]
 have g:a.getD i aw=w:=by rw[jq b]at c;have:=kD c;simp[b,this]
 rw[h1,g];exact j
def uH(r:YP X.K H O ds xs)(a:i<ds.length):Rep X.K H O (ds.getD i .T2) (xs.getD i .T2):=by
 have e:=r.length;have hd:ds[i]?=J ds[i]:=jq a;obtain⟨v,b,g⟩:=r.get hd;have h1:ds.getD i .T2=ds[i]:=by simp[a]
 have c:xs.getD i .T2=v:=by rw[jq<|by lia]at b;have:=kD b;simp[show i<xs.length by lia,this]
 rw[h1,c];exact g
def BC{ds:List D}{i:Nat}(a:i<AC ds):ds.getD i .T2∈ds:=by simp[a]
theorem Hl(I:Inv X d f H s){A:iB}{b:Bool}{O z:SI}(hA:A.units+60<aS){r:Bool}{Q:rN}(n:Q r s):∀(l m:List D)(u v:List V)(g o:ju)(k:Int)(i:Nat),D.P2 l<=50->D.P2 m<=50->
  ((b&&i==0)=z8->∀x y l' m',l=x::l'->m=y::m'->(∃a,x=.int a)/\∃c,y=.int c)->YP X.K H O l u->YP X.K H z m v->Vals u g->Vals v o->rM .Lt l m=J r->
  ∀fin:Bool,fin=lE .Lt (g.length+k) (o.length+k)->PySem.W.KatLex X.prog X.w A b fin Q (g.zip o) i s
 |[],m,u,v,g,o,k,i,_,_,_,p,q,v1,v2,j,fin,hf=>by
  rw[YP]at p;subst p;cases v1;rw[rM]at j;have Y':=q.length;have F:=v2.length;show Q fin s;rw[hf,rC];rw[<-kD j]at n;have:lE .Lt ((([]:List il).length:Nat):Int) (o.length:Int)=lE .Lt 0 (m.length:Int):=by congr 1;lia
  rw[this];exact n
 |x::l,[],u,v,g,o,k,i,_,_,_,p,q,v1,v2,j,fin,hf=>by
  rw[YP]at q;subst q;cases v2;rw[rM]at j;have Y':=p.length;have F:=v1.length;rw[gc];show Q fin s;rw[hf,rC];rw[<-kD j]at n;have:lE .Lt (g.length:Int) ((([]:List il).length:Nat):Int)=lE .Lt (((x::l).length:Nat):Int) 0:=by congr 1;lia
  rw[this];exact n
 |x::l,y::m,u,v,g,o,k,i,U,N,hb,p,q,v1,v2,j,fin,hf=>by
  rw[YP]at p q;obtain⟨T,R,rfl,g1,g2⟩:=p;obtain⟨G,S,rfl,C,P⟩:=q
  cases v1 with
  |cons a1 J'=>
   cases v2 with
   |cons B M=>
    rw[rM]at j;rw[D.P2]at U N;rw[sQ];refine PySem.W.kat_cons<|B6 I 50 x y T G _ _ O z A (.inl g1) (.inl C) a1 B (by lia) (by lia) (by lia) X.prog X.w _ _ ?_
    cases L:D.Q2 x y with
    |true=>
     rw[L,ie At]at j;refine PySem.W.kat_yes<|Hl I hA n l m R S _ _ (k+1) (i+1) (by lia) (by lia) (λh=>by simp at h) g2 P J' M j fin ?_;rw[hf];simp only[kG];have e:∀a:Nat,(((a+1:Nat):Int)+k)=(a:Int)+(k+1):=λa=>by lia
     rw[e,e]
    |false=>
     rw[L,iC kJ]at j;refine PySem.W.kat_no ?_
     cases E:(b&&i==0)with
     |true=>obtain⟨⟨a,rfl⟩,c,rfl⟩:=hb E x y l m At At;have:=g1.int;subst this;have:=C.int;subst this;obtain⟨t,rfl⟩:=a1;obtain⟨Z,rfl⟩:=B;rw[nG]at j;rw[<-kD j]at n;exact oneLt_int n
     |false=>exact PySem.W.kat_one _ _ (PK (.inl At) I 50 x y T G _ _ O z A r (.inl g1) (.inl C) a1 B (by lia) (by lia) (by lia) j X.prog X.w _ _ n)
def ab3(I:Inv X d f H s){O:SI}{u:List D}{N:List V}{e:ju}{A:iB}(hA:A.units+60<aS)(rr:YP X.K H O u N)(v:Vals N e){k:Nat}(B:ES k u):
  Ask (ah X.prog X.w) A (λT=>T=s) (RF e) (Lx k) e.length (λi j=>A1 (u.getD i .T2)<|u.getD j .T2):=by
 intro i j hi hj T u4 E';subst u4;have e1:=rr.length;have e2:=v.length;have J:u.getD i .T2∈u:=BC (by lia);have M:u.getD j .T2∈u:=BC (by lia);have ri:=uH rr (i:=i) (by lia);have rj:=uH rr (i:=j) (by lia);have vi:=uC v hi;have vj:=uC v hj;obtain⟨b,E⟩:=Og.mp<|B.cm _ J _ M;have i6:=Fx _ _ (B.pr _ J) (B.pr _ M) b E;have r:=B.hd _ J;have g:=B.hd _ M;have di:=B.dp _ J;have dj:=B.dp _ M;show ae _ _ (uu (Lx k) (e.getD i aw)<|e.getD j aw) _ _ _;dsimp only;rw[<-i6];generalize u.getD i .T2=x at*;generalize u.getD j .T2=y at*;generalize N.getD i .T2=vx at*;generalize N.getD j .T2=vy at*;generalize e.getD i aw=a at*;generalize e.getD j aw=c at*
 have C:∀(l m:List D)(G:Bool),x=.tup l->y=.tup m->(G=z8->∀x y Z m',l=x::Z->m=y::m'->(∃a,x=.int a)/\∃c,y=.int c)->ae (ah X.prog X.w) A (uu (wv G) a c) (λU Y=>Y=T/\U=b) E' T:=λl m G P R hh=>by subst P R;obtain⟨p,us,rfl,q,r1⟩:=ri.tup;obtain⟨p2,ws,rfl,q2,r2⟩:=rj.tup;cases vi;cases vj;obtain⟨S,w1,⟨o,ho,hc,n,hd⟩,_⟩:=I.tuple q.sq;obtain⟨L,w2,⟨o2,aa,af,n2,F⟩,_⟩:=I.tuple q2.sq;rw[nG,ie At]at E;rw[D.dep]at di dj;refine PySem.W.kat_lt ho hd aa F ?_;have:=Hl I (b:=G) hA (Q:=λU Y=>Y=T/\U=b) ⟨rfl,rfl⟩ l m us ws S L 0 0 (by lia) (by lia) (λh=>hh<|by simpa using h) r1 r2 w1 w2 E (decide<|S.toArray.size<L.toArray.size) (by simp[lE]);simpa using this
 match k,r,g with
 |0,r,g=>
  cases x with
  |int ix=>
   cases y with
   |int iy=>have:=ri.int;subst this;have:=rj.int;subst this;obtain⟨t,rfl⟩:=vi;obtain⟨t',rfl⟩:=vj;rw[nG]at E;rw[<-kD E];show ae _ _ (uu ut _ _) _ _ _;rw[keyLt'_oneType];exact oneLt_int ⟨rfl,rfl⟩
   |tup m=>cases m with
    |nil=>simp[lr]at g
    |cons z m=>cases z<;>simp[lr]at g
   |_=>simp[lr]at g
  |tup m=>cases m with
   |nil=>simp[lr]at r
   |cons z m=>cases z<;>simp[lr]at r
  |_=>simp[lr]at r
 |1,r,g=>
  cases x with
  |tup l=>
   cases y with
   |tup m=>
    refine C l m z8 At At λ_ x y Z m' P R=>?_;subst P R;refine⟨?_,?_⟩
    .cases x with
     |int a=>exact⟨a,rfl⟩
     |_=>simp[lr]at r
    cases y with
    |int a=>exact⟨a,rfl⟩
    |_=>simp[lr]at g
   |_=>simp[lr]at g
  |_=>simp[lr]at r
 |(n+2),r,g=>
  cases x with
  |tup l=>
   cases y with
   |tup m=>exact C l m z9 At At λh=>absurd h kJ
   |_=>simp[lr]at g
  |_=>simp[lr]at r
end
open PySem.W
section
variable {X:Cx}{c:iO}{y:L2.St}{H:Hp}{s:hJ}
def HD(I:Inv X c y H s){O:SI}{T:il}(P:D->Prop)(t:∀x v u,P x->Rep X.K H O x v->RelV v u->Looks (ah X.prog X.w) s.heap (lv u) T):∀{ds:List D}{b:List V}{a:ju},YP X.K H O ds b->Vals b a->
  (∀d∈ds,∃x l,d=.tup (x::l)/\P x)->∃fs,KatTups s.heap a fs/\(AC fs)=AC a/\∀f∈fs,Looks (ah X.prog X.w) s.heap (lv f) T:=by
 intro E
 induction E with
 |nil=>intro b a r v _;rw[YP]at r;subst r;cases v;exact⟨[],KatTups.nil,rfl,λf A=>absurd A my⟩
 |cons d ds C'=>
  intro b a r v h;rw[YP]at r;obtain⟨F,R,rfl,g1,g2⟩:=r
  cases v with
  |cons a1 j=>
   obtain⟨fs,k1,k2,L⟩:=C' g2 j λd hd=>h d<|jx _ hd;obtain⟨x,l,rfl,Q⟩:=h d jt;obtain⟨p,Y,rfl,q,i⟩:=g1.tup;cases a1;obtain⟨N,J,⟨o,B,z,n,hd⟩,_⟩:=I.tuple q.sq;rw[YP]at i;obtain⟨G,S,rfl,m,U⟩:=i
   cases J with
   |cons k M=>
    rename_i f fr;refine⟨f::fs,KatTups.cons B z hd (by simp) k1,by simp[k2],λg e=>?_⟩;rcases kN.mp e with rfl|e
    .exact t x G _ Q m k
    exact L g e
def Yh(I:Inv X c y H s){O:SI}{ds:List D}{J:List V}{b:ju}{A:iB}(f:YP X.K H O ds J)(v:Vals J b){k:Nat}(B:ES k ds)(N:2<=b.length):
  ae (ah X.prog X.w) A (keyKind' b.toArray) (λL s'=>s'=s/\L=Lx k) (λ_ _=>False) s:=by
 have R:=f.length;have S:=v.length
 match k,B with
 |0,B=>
  refine kas_kind (T:=.type "int") N (λu F=>?_) At At ⟨rfl,rfl⟩;obtain⟨i,Q,e⟩:=Ir F;have G:=uH f (i:=i) (by lia);have E:=uC v Q;have hd:=B.hd _ (BC (ds:=ds) (i:=i)<|by lia);have:b.getD i aw=u:=by simp[Q,e]
  rw[this]at E
  cases h:ds.getD i .T2 with
  |int a=>rw[h]at G;have:=G.int;rw[this]at E;obtain⟨t,rfl⟩:=E;exact Looks.of_pure At
  |tup l=>
   rw[h]at hd
   cases l with
   |nil=>simp[lr]at hd
   |cons z m=>cases z<;>simp[lr]at hd
  |_=>rw[h]at hd;simp[lr]at hd
 |1,B=>
  obtain⟨fs,f1,M,g⟩:=HD I (T:=.type "int") (λx=>∃a,x=.int a) (λx P u j C r=>by
   obtain⟨a,rfl⟩:=j;have:=C.int;subst this;obtain⟨t,rfl⟩:=r
   exact Looks.of_pure At) f v λd hd=>by
    have:=B.hd d hd
    cases d with
    |tup l=>
     cases l with
     |nil=>simp[lr]at this
     |cons z m=>
      cases z with
      |int a=>exact⟨_,m,rfl,a,rfl⟩
      |_=>simp[lr]at this
    |_=>simp[lr]at this
  exact kat_kind f1 (by lia) g At ⟨rfl,rfl⟩
 |(n+2),B=>
  obtain⟨fs,f1,M,g⟩:=HD I (T:=.type "tuple") (λx=>∃a,x=.tup a) (λx P u j C r=>by
   obtain⟨a,rfl⟩:=j;obtain⟨p,us,rfl,q,Z⟩:=C.tup;cases r;obtain⟨W,w1,⟨o,Y,U,n,hd⟩,_⟩:=I.tuple q.sq;have:Looks (ah X.prog X.w) s.heap (lv<|.ref p) o.cls:=(Looks.ld Y).andThen .now
   rw[U]at this;exact this) f v λd hd=>by
    have:=B.hd d hd
    cases d with
    |tup l=>
     cases l with
     |nil=>simp[lr]at this
     |cons z m=>
      cases z with
      |tup a=>exact⟨_,m,rfl,a,rfl⟩
      |_=>simp[lr]at this
    |_=>simp[lr]at this
  exact kat_kind f1 (by lia) g At ⟨rfl,rfl⟩
def jz(l:List D):Option (D×Bool):=if nL l=C/\(AC l)<=sizeLine then J (.lst<|lC A1 l,C)else I
def ma(d:D):Option (D×Bool):=(tM d).bind jz
def OX{b:List V}{a:ju}(v:Vals b a):∀(p:jM),(∀i∈p,i<AC a)->Vals (p.map λi=>b.getD i .T2) (p.map λi=>a.getD i aw):=by
 intro f
 induction f with
 |nil=>intro _;exact .nil
 |cons i p e=>intro h;exact .cons (uC v<|h i jt)<|e λj d=>h j<|jx _ d
def Pz{O:SI}{a:List D}{b:List V}(r:YP X.K H O a b):∀(p:jM),(∀i∈p,i<AC a)->YP X.K H O (p.map λi=>a.getD i .T2) (p.map λi=>b.getD i .T2):=by
 intro f
 induction f with
 |nil=>intro _;exact YP.nil
 |cons i p e=>intro h;exact YP.cons (uH r<|h i jt)<|e λj d=>h j<|jx _ d
def afM{b:List D}{n:Nat}(e:n=AC b)(h1:(AC b)<=1){p:jM}(a:p.Perm (am n)):p.map (λi=>b.getD i .T2)=lC A1 b:=by
 subst e
 match b,h1,a with
 |[],_,a=>
  have:p=[]:=by simpa using a.length_eq
  subst this;rfl
 |[d],_,a=>
  have e:(AC p)=1:=by simpa using a.length_eq
  match p,e,a with
  |[i],_,a=>
   have:i=0:=by have:=a.mem_iff.mp<|yw.mpr At;simpa using this
   subst this;rfl
def qE(hu:X.A.units+62<aS)(I:Inv X c y H s){O:SI}{f:List D}{M:List V}{a:ju}{x:il}{Q:VK}{z:D×Bool}(u:YP X.K H O f M)(v:Vals M a)(hg:jz f=zx z)(G:Gen X.K H O z Q)
  (hc:∀(Y:List il->hJ->Prop)(E':iU)(N:iB),N.handled=X.A.handled->(∀(h':iJ)(d:Nat),(∀b o,s.heap.get? b=zx o->h'.get? b=zx o)->Y a {s with heap:=h',toks:=d})->ae (ah X.prog X.w) N (eG x) Y E' s):
  ae (ah X.prog X.w) X.A (call (.builtin "sorted") [x]) (EP X c y Q) X.xe s:=by
 unfold jz at hg;obtain⟨⟨L,hz⟩,rfl⟩:=iK hg;have r:=u.length;have Z:=v.length;refine Calls.call_function_entry zn ww wE (args_sorted1 _) ?_;unfold bo.«sorted»;refine gW (m:=checkCount "sorted" 1 1 _)<|ik ?_;refine gW<|hc _ _ _ rfl λh1 d k1=>?_;refine gW<|Ea ?_ (by lia);have t:(h1.push<|aZ "list" a.toArray 0).get? h1.objs.size=zx (aZ "list" a.toArray 0):=kc _ rfl;have C:Inv X c y H {s with heap:=h1,toks:=d}:=I.kept k1
 have keep:∀b o,h1.get? b=zx o->(qj (h1.push<|aZ "list" a.toArray 0) h1.objs.size a).get? b=zx o:=λb o l=>by have R:b≠h1.objs.size:=jY<|jc l;refine jJ _ (jJ _ ?_);rw[Im _ _ _ _ R];exact jJ _ l
 have U:Inv X c y H {s with heap:=qj (h1.push<|aZ "list" a.toArray 0) h1.objs.size a,toks:=d}:=C.kept keep;have W:∀i∈am a.length,i<a.length:=λi q=>by simpa using q
 refine gW<|mU<|qf (s:={s with heap:=h1.push<|aZ "list" a.toArray 0,toks:=d}) t9 ⟨_,t,rfl⟩ ro ?body<|args_list_sort _
 case body=>
  have fin:∀p:List Nat,p.Perm (am a.length)->p.map (λi=>f.getD i .T2)=lC A1 f->EP X c y Q (.ref h1.objs.size) {s with heap:=(qj (h1.push<|aZ "list" a.toArray 0) h1.objs.size a).update h1.objs.size<|aM λ_=>(p.map λi=>a.getD i aw).toArray,toks:=d}:=λp e T=>by
   have F:∀i∈p,i<a.length:=λi q=>by simpa using e.mem_iff.mp q
   have J:∃n,(qj (h1.push<|aZ "list" a.toArray 0) h1.objs.size a).get? h1.objs.size=zx (aZ "list" #[] n):=by
    obtain⟨r,S⟩:∃r,((h1.push<|aZ "list" a.toArray 0).update h1.objs.size<|aM λ_=>(#[]:Array il)).get? h1.objs.size=zx (aZ "list" #[] r):=⟨_,yE t λ_=> #[]⟩
    exact⟨r,jJ _ (jJ _ S)⟩
   obtain⟨n,J⟩:=J;obtain⟨E,P⟩:∃E,((qj (h1.push<|aZ "list" a.toArray 0) h1.objs.size a).update h1.objs.size<|aM λ_=>(p.map λi=>a.getD i aw).toArray).get? h1.objs.size=zx (aZ "list" (p.map λi=>a.getD i aw).toArray E):=⟨_,yE J λ_=>(p.map λi=>a.getD i aw).toArray⟩
   have g:∀b o,h1.get? b=zx o->((qj (h1.push<|aZ "list" a.toArray 0) h1.objs.size a).update h1.objs.size<|aM λ_=>(p.map λi=>a.getD i aw).toArray).get? b=zx o:=λb o l=>by rw[Im _ _ _ _ (jY<|jc l)];exact keep b o l
   have pl:p.length=a.length:=by simpa using e.length_eq
   refine⟨.ref h1.objs.size,_,C.laid (t':=d) g (jw _) (show S1 X.prog X.w _ _ _ (.lst<|p.map λi=>M.getD i .T2)from⟨by rw[jl];lia,_,E,OX v p F,P⟩),rfl,?_⟩;refine G.lst C.fresh ?_;rw[<-T];exact Pz u p λi q=>by have:=F i q;lia
  rcases C6 L with hlen|⟨k,B⟩
  .refine vJ (κ:=general') (lt:=λ_ _=>z9) (s:={s with heap:=h1.push<|aZ "list" a.toArray 0,toks:=d}) t (by lia) (λ_ _ _=>rfl) (λ_ _=>rfl) (λh=>by lia) (λh=>by lia) λp e _=>⟨_,rfl,ik ⟨_,rfl,fin p e ?_⟩⟩
   exact afM (by lia) hlen e
  refine vJ (κ:=Lx k) (lt:=λi j=>A1 (f.getD i .T2)<|f.getD j .T2) (s:={s with heap:=h1.push<|aZ "list" a.toArray 0,toks:=d}) t (by lia) (λ_ _=>ab4 _ _) aaA (λh=>Yh U u v B h) (λ_=>ab3 (A:=X.A.in1.in1) U (by show X.A.units+1+1+60<aS;lia) u v B) λp e T=>⟨_,rfl,ik ⟨_,rfl,fin p e<|agG B.pr (by rw[show f.length=a.length by lia];exact e) T⟩⟩
def nD(j:X.A.units+62<aS):kg X (.builtin "sorted") (Cz X.K<|g1 ma):=nC λc s y H x u Q O d z I t np hd a G=>by
 obtain⟨l,g,a⟩:=gS a
 have M:l.length<=sizeLine:=by unfold jz at a;exact(iK a).1.2
 cases d with
 |lst m=>
  cases g;obtain⟨p,U,rfl,q,r⟩:=kL hd;cases t;obtain⟨i,v,T,_⟩:=I.list q;have E:=r.length;have L:=v.length;obtain⟨o,h,f,n,hd⟩:=T.isList;refine qE j I r v a G λN B w _ e=>Il p (.inl At) h f hd (λb k=>by simpa using e b s.toks k) (by rw[jG];lia)
 |tup m=>
  cases g;obtain⟨p,U,rfl,q,r⟩:=lM hd;cases t;obtain⟨i,v,⟨o,h,f,n,hd⟩,_⟩:=I.tuple q;have E:=r.length;have L:=v.length;refine qE j I r v a G λN B w _ e=>Il p (.inr At) h f hd (λb k=>by simpa using e b s.toks k) (by rw[jG];lia)
 |_=>cases g
def ag4:aI "sorted"=J (.builtin "sorted"):=by decide+kernel
end
def aes:aI "isinstance"=J (.builtin "isinstance"):=by decide+kernel
structure Tx(mg:mB):Prop where
 n_len:mg "len"=z7
 n_abs:mg "abs"=z7
 n_int:mg "int"=z7
 n_tuple:mg "tuple"=z7
 n_list:mg "list"=z7
 n_range:mg "range"=z7
 n_isinstance:mg "isinstance"=z7
 n_bool:mg "bool"=z7
 n_max:mg "max"=z7
 n_min:mg "min"=z7
 n_all:mg "all"=z7
 n_any:mg "any"=z7
 n_sorted:mg "sorted"=z7
 n_enumerate:mg "enumerate"=z7
 n_zip:mg "zip"=z7
 n_set:mg "set"=z7
def U3{P:iF}{w:iu}{K:iA}{g:mB}{base:iJ}{f:gU}{d:nI}{i:iX}{k:Nat}:Bs P w K g base Hz k f d i (Hu K λ_=>I) where
 len:=λj U Q E h=>by obtain⟨T,a,r,b,_,e,_⟩:=h;cases e
 run:=λA c s U a l j Q E _ _ _ _ h=>by obtain⟨T,a,r,b,_,e,_⟩:=h;cases e
def agM{K:iA}{U:Hp}{O:SI}:∀a:List Int,YP K U O (a.map .int) (a.map V.int):=by
 intro c
 induction c with
 |nil=>exact YP.nil
 |cons n a b=>exact YP.cons Rep.mkInt<|b
def Yg{K:iA}{g:OO}{U:Hp}{a:gU}{f:gY}(k:CO K U a (f.map V.int)){o:Bool}{c:Dn}(h:g [(.lst<|f.map .int,Y)]=J ((.bl C,o),c)):Hu K g [.ref a] U (λv _=>v=.bl C) λ_ _ _=>False:=by
 have no:∀b,¬X0 [J<|V.ref a] [J (D.lst<|f.map .int,Y)] b:=λb T=>by
  obtain⟨i,d,h1,m⟩:=T
  cases i with
  |zero=>simp at h1
  |succ i=>simp at h1
 refine⟨λ_=>False,[(.lst<|f.map .int,Y)],_,c,⟨rfl,λi d hd=>?_,λi d hd=>?_,λi j d e b h1=>?_,λb z=>absurd z<|no b,λb z=>z.elim⟩,h,λv l P=>?_⟩
 .cases i with
  |zero=>simp at hd;subst hd;refine⟨_,rfl,Rep.MZ (a:=a) (xs:=f.map V.int) ?_<|agM f⟩;exact k.imp (λz=>⟨z,λz=>z.elim (no a) id⟩) id
  |succ i=>simp at hd
 .cases i with
  |zero=>simp at hd
  |succ i=>simp at hd
 .cases i with
  |zero=>simp at h1
  |succ i=>simp at h1
 cases o
 .exact P.2.2.bl
 obtain⟨p,_,_,_,ok⟩:=P.2;exact ok.elim
def oN(e a:bZ)(b c d:FO):F:=λδ=>(b δ).bind λp=>(c p.2).bind λq=>match res q.2 p.1,res q.2 q.1 with
 |some (.int i),J (.int j)=>if lE e i j=C then(d q.2).bind λr=>match res r.2 r.1 with
   |some (.int k)=>J ((.bl<|lE a j k,Y),r.2)
   |_=>I
  else J ((.bl Y,Y),q.2)
 |_,_=>I
section
variable {X:Cx}{a b c:ig}{m l g:FO}{n:bp}{d f:bZ}
def Ap(h:zT d):D0 X (au d) (JK λi j=>.bl (lE d i j)):=by
 rcases h with rfl|rfl|rfl|rfl
 .exact aba
 .exact abb
 .exact abc
 exact abd
def DK(A:tF X.K (oN d f m l g) σ H' Q):IZ (JK λi j=>.bl (lE d i j)) (JK λi j=>.bl (lE f i j)) (tO X.K m) (tO X.K l) (tO X.K g) σ H' Q:=by
 obtain⟨M,T,F,N,E,e,k⟩:=A;unfold oN at e;obtain⟨⟨x,p⟩,h1,e⟩:=gS e;obtain⟨⟨G,q⟩,y,e⟩:=gS e;refine⟨M,T,x,p,E,h1,λv U h=>⟨p,CQ T x v,G,q,h.er E,y,λu Y o=>?_⟩⟩;have B:=Ops.cons E h<|Ops.cons (h.er E) o<|Ops.nil<|o.er<|h.er E;dsimp only at e;split at e
 .rename_i i j C I;have hv:=iP<|B.view (j:=0) H H C;have t:=iP<|B.view (j:=1) H H I;refine⟨i,j,hv,t,lE d i j,rfl,?_⟩;by_cases c:lE d i j=z8
  .rw[ie c]at e ⊢;obtain⟨⟨J,r⟩,z,e⟩:=gS e;dsimp only at e;split at e
   .rename_i O L;obtain⟨rfl,rfl⟩:=iG e;refine⟨q,_,J,r,o.er<|h.er E,z,λw D P3=>?_⟩;have s:=Ops.cons E h<|Ops.cons (h.er E) o<|Ops.cons (o.er<|h.er E) P3<|Ops.nil<|P3.er<|o.er<|h.er E;exact⟨j,O,t,iP<|s.view (j:=2) H H L,(s.done k).bl⟩
   cases e
  rw[iC c]at e ⊢;obtain⟨rfl,rfl⟩:=iG e;exact(B.done k).bl
 cases e
end
noncomputable def Mw(x:V)(c:Bool):Bool:=match x with
 |.bl b=>b==c
 |_=>Y
noncomputable def KL:D->D->Option (D×Bool)
 |.bl b,.bl c=>J (.bl<|b==c,Y)
 |_,.bl _=>J (.bl Y,Y)
 |.T2,.T2=>J (.bl C,Y)
 |_,.T2=>J (.bl Y,Y)
 |_,_=>I
def BJ:D->D->Option (D×Bool)
 |.bl b,.bl c=>J (.bl (!(b==c)),Y)
 |_,.bl _=>J (.bl C,Y)
 |.T2,.T2=>J (.bl Y,Y)
 |_,.T2=>J (.bl C,Y)
 |_,_=>I
section
variable {X:Cx}
def Ks(a:RelV x v)(c:Bool):plainIs v (.bool c)=C/\(v== .bool c)=Mw x c:=by
 cases x<;>first
  |(cases a;exact⟨rfl,rfl⟩)
  |(obtain⟨t,rfl⟩:=a;exact⟨rfl,rfl⟩)
  |(rename_i b;cases a;refine⟨rfl,?_⟩;cases b<;>cases c<;>rfl)
def Qx:D0 X (au .Is) (λx y U Q=>∃c,y=.bl c/\Q (.bl<|Mw x c) U):=by intro a s f U x y v u Q T d e h;obtain⟨c,rfl,q⟩:=h;cases e;obtain⟨h1,b⟩:=Ks d c;exact wpAny_is_plain h1<|Fm T q (by rw[b])
def Dj:D0 X (au .IsNot) (λx y U Q=>∃c,y=.bl c/\Q (.bl (!Mw x c)) U):=by intro a s f U x y v u Q T d e h;obtain⟨c,rfl,q⟩:=h;cases e;obtain⟨h1,b⟩:=Ks d c;exact wpAny_isNot_plain h1<|Fm T q (by rw[b])
def A4{K U}(h:jT K U O (.bl b) v):v=.bl b:=h.elim (λh=>h.bl) λ⟨_,_,h⟩=>h.elim
def yQ{K U}(h:jT K U O .T2 v):v=.T2:=h.elim (λh=>h.T2) λ⟨_,_,h⟩=>h.elim
def ag8{K U}(h:jT K U O d v)(f:∀b,d≠ .bl b)(c:Bool):Mw v c=Y:=by
 cases d with
 |bl b=>exact absurd H<|f b
 |T2=>rw[yQ h];rfl
 |int i=>rw[iP h];rfl
 |str x=>
   rcases h with h|⟨a,_,h⟩
   .rw[h.str];rfl
   exact h.elim
 |tup l=>
   rcases h with h|⟨a,_,h⟩
   .rw[Rep]at h;obtain⟨a,e,rfl,_⟩:=h;rfl
   exact h.elim
 |lst l=>
   rcases h with h|⟨a,rfl,h⟩
   .rw[Rep]at h;obtain⟨a,e,rfl,_⟩:=h;rfl
   rfl
 |R1 _ _ _=>
   rcases h with h|⟨a,rfl,h⟩
   .rw[Rep]at h;obtain⟨a,e,rfl,_⟩:=h;rfl
   rfl
def afb{K U}(h:jT K U O d v)(e:d≠ .T2):v≠ .T2:=by
 cases d with
 |bl b=>rw[A4 h];intro z;cases z
 |T2=>exact absurd H e
 |int i=>rw[iP h];intro z;cases z
 |str x=>
   rcases h with h|⟨a,_,h⟩
   .rw[h.str];intro z;cases z
   exact h.elim
 |tup l=>
   rcases h with h|⟨a,_,h⟩
   .rw[Rep]at h;obtain⟨a,c,rfl,_⟩:=h;intro z;cases z
   exact h.elim
 |lst l=>
   rcases h with h|⟨a,rfl,h⟩
   .rw[Rep]at h;obtain⟨a,c,rfl,_⟩:=h;intro z;cases z
   intro z;cases z
 |R1 _ _ _=>
   rcases h with h|⟨a,rfl,h⟩
   .rw[Rep]at h;obtain⟨a,c,rfl,_⟩:=h;intro z;cases z
   intro z;cases z
def KZ(n:Bool):D0 X (au (if n then .IsNot else .Is)) (rD X.K (if n then BJ else KL)):=by
 intro a s j U x y v u Q T g i h;obtain⟨O,d,e,z,np,h1,o,l,G⟩:=h
 cases e with
 |bl c=>
  have f:=A4 o;by_cases k:∃b,d=.bl b
  .obtain⟨b,rfl⟩:=k;cases n<;>cases l<;>(first|refine Qx a s j U x y v u Q T g i ⟨c,f,?_⟩|refine Dj a s j U x y v u Q T g i ⟨c,f,?_⟩)<;>(rw[A4 h1];exact G.bl)
  have p:∀b,d≠ .bl b:=λb z=>k ⟨b,z⟩;have m:z=(.bl n,Y):=by cases n<;>cases d<;>first|exact absurd H (p _)|(cases l;rfl)
  subst m;cases n<;>(first|refine Qx a s j U x y v u Q T g i ⟨c,f,?_⟩|refine Dj a s j U x y v u Q T g i ⟨c,f,?_⟩)<;>(rw[ag8 h1 p c];exact G.bl)
 |T2=>
  have f:=yQ o;by_cases k:d=.T2
  .subst k;cases n<;>cases l<;>(first|refine Qw a s j U x y v u Q T g i ⟨f,?_⟩|refine K5 a s j U x y v u Q T g i ⟨f,?_⟩)<;>(rw[yQ h1];exact G.bl)
  have m:z=(.bl n,Y):=by cases n<;>cases d<;>first|exact absurd H k|(cases l;rfl)
  subst m;cases n<;>(first|refine Qw a s j U x y v u Q T g i ⟨f,?_⟩|refine K5 a s j U x y v u Q T g i ⟨f,?_⟩)<;>(rw[kr<|afb h1 k];exact G.bl)
 |_=>cases n<;>cases d<;>cases l
def yV:D0 X (au .Is) (rD X.K KL):=KZ Y
def Di:D0 X (au .IsNot) (rD X.K BJ):=KZ C
end
end PX
namespace HT
open L2
section
variable {a:iF}{w:iu}{A:iB}{E:iU}{s:hJ}
def afA{t c:gU}{items:oF}{g i:il}{lo d:Option Int}{Q:iU}(b:f9 s.heap t items)(e:s.heap.IsSliceOf c g i .none)(n:c6 g lo)(o:c6 i d)
  (f:J0 items.size 0 lo=0/\J0 items.size items.size d=items.size)(h:Q (.ref t) s):ae (ah a w) A (d1 (.ref t)<|.ref c) Q E s:=by
 obtain⟨os,k,j,p⟩:=id e;have l:s.TypeIs (.ref c) "slice":=⟨os,k,j⟩
 unfold d1
 try with_reducible refine mU ?_
 first|refine gW (ik ?_)|skip
 refine gW<|mo b.typeIs (by decide) ?_
 refine gW (tE (name:=bz "__getitem__") b.typeIs Ck
  (qf Ck b.typeIs Ob ?_<|l9 _ _))
 show ae _ _ (cb (.ref t)>>=_) _ _ s;refine gW<|vr b ?_;refine gW<|wc l ?_;rw[ie<|by decide];refine gW<|qI e n o ?_;rw[f.1,f.2];show ae _ _ (if((((0:Nat):Int)==0&&(1:Int)==1&&(items.size-0)==items.size)=C)then _ else _) _ _ s;rw[ie<|by simp];refine gW (m:=dL _) ?_;unfold dL;refine gW<|wc b.typeIs ?_;refine ik ?_;rw[ie<|by decide];refine gW<|sG ?_
 first
  |exact gW<|ik ⟨_,rfl,ik h⟩
  |exact ik ⟨_,rfl,ik h⟩
  |exact gW<|ik<|ik ⟨_,rfl,ik h⟩
  |(refine gW ?_;trace_state;done)
end
end HT
namespace PX
open L2 PySem.SeqAt
def DH(l:List D)(lo a:Option Int):List D:=(l.drop<|HT.J0 (AC l) 0 lo).take<|HT.J0 (AC l) (AC l) a-HT.J0 (AC l) 0 lo
def Ni(lo a:Option Int):D->Option (D×Bool)
 |.tup l=>J (.tup<|DH l lo a,Y)
 |.lst l=>J (.lst<|DH l lo a,C)
 |_=>I
def ado(K:iA):V->Option Int->Option Int->Hp->VK->Prop:=λx lo a U Q=>∃(O:SI)(d:D)(z:D×Bool),(∀p,¬Ow (U p)->¬O p)/\jT K U O d x/\Ni lo a d=J z/\Gen K U O z Q
def YP.cut{K U}(r:YP K U O l xs)(lo a:Option Int):YP K U O (DH l lo a) (HE xs lo a):=by unfold DH HE;rw[r.length];exact(r.drop _).take _
section
variable {X:Cx}
def Gs{b:iO}{s:hJ}{h:L2.St}{U:Hp}{a:gU}{v e f:il}{lo c:Option Int}{d:gU}{Q:VK}{O:SI}{l:List D}{g:List V}(N:Inv X b h U s)(n:RelV (.ref a) v)(j:s.heap.IsSliceOf d e f .none)(k:c6 e lo)(m:c6 f c)
  (q:CO X.K U a g)(r:YP X.K U O l g)(G:Gen X.K U O (.lst<|DH l lo c,C) Q):∃T id,typeLookup (.type T) "__getitem__"=pure (J<|.builtin id)/\s.TypeIs v T/\ae (ah X.prog X.w) X.A (d1 v<|.ref d) (EP X b h Q) X.xe s:=
 TN b s h U (.ref a) v e f lo c d Q N n j k m ⟨a,g,rfl,q,λp i=>G.lst i<|r.cut lo c⟩
def aaQ:Nn X (ado X.K):=by
 intro f s E T x v B U lo g A Q N n i k m h;obtain⟨O,d,z,np,hd,o,G⟩:=h
 cases d with
 |tup l=>
  cases o;rcases hd with hd|⟨a,_,h⟩
  .obtain⟨a,b,rfl,q,r⟩:=hd.tup;by_cases j:HT.J0 b.length 0 lo=0/\HT.J0 b.length b.length g=b.length
   .cases n;obtain⟨t,y,w,L⟩:=N.tuple q.sq;have c:t.toArray.size=b.length:=by rw[jG];exact y.length.symm
    refine⟨"tuple",_,Ck.lookup,w.typeIs,?_⟩;refine HT.afA w i k m (by rw[c];exact j) ⟨.ref a,T,N,rfl,?_⟩
    have e:DH l lo g=l:=by unfold DH;rw[<-r.length,j.1,j.2];simp[r.length]
    rw[e]at G;exact G (.ref a) T (λ_ _ e=>e) hd
   exact W3 f s E T (.ref a) v B U lo g A Q N n i k m ⟨a,b,rfl,q.sq,j,λp u=>G.tup u (np p<|MW u)<|r.cut lo g⟩
  exact h.elim
 |lst l=>
  cases o;rcases hd with hd|⟨a,rfl,h⟩
  .obtain⟨a,b,rfl,q,r⟩:=hd.lst;exact Gs N n i k m q.sq r G
  obtain⟨b,e,r⟩:=h;exact Gs N n i k m (.inl<|.inl e) r G
 |_=>cases o
end
def DE(a b:FO):F:=λδ=>(a δ).bind λp=>(b p.2).bind λq=>match res q.2 q.1 with
 |some (.int i)=>(res q.2 p.1).bind λx=>(Ni (J i) I x).bind λz=>J (z,q.2)
 |_=>I
def LG(a b:FO):F:=λδ=>(a δ).bind λp=>(b p.2).bind λq=>match res q.2 q.1 with
 |some (.int i)=>(res q.2 p.1).bind λx=>(Ni I (J i) x).bind λz=>J (z,q.2)
 |_=>I
section
variable {X:Cx}{a lo d:ig}{g e f:FO}{b c:bp}
end
end PX
namespace L2
section
variable {X:Cx}
def aaL(U:It)(g:TG)(b:TT)(a:gU->TB)(pre:St->St)(c:St)(T:Hp)(Q:VK):Prop:=Gj (.set (λ_=>Y) 0) U g b a pre c T Q
def IY(c:TI)(g:TG)(ti:TT)(tb:gU->TB)(pre:St->St):TE:=λa T Q=>c a T λU b=>aaL U g ti tb pre a b Q
def WV(d:gU)(e:TE):TB:=λc U N=>e c U λy a=>∃k S n,y=.int k/\a d=J (.set S n)/\n+1<fU/\N c (upd a d<|.set (λb=>S b||decide (b=k)) (if S k then n else n+1))
def Qo{a:ig}{c:qb}{j:jU}{p:bp}{depth:Nat}{d:gU}{l:TE}(L:c[depth+1]?=z7)(E:PE X a l):PB X (jf (.SetComp a c j p) depth (.ref d) X.env) (WV d l):=by
 intro f s m H N I h
 have z:jf (.SetComp a c j p) depth (.ref d) X.env=(do let v <-aU a X.env;ce a.pos;let _ <-call (.builtin "set.add") [.ref d,v]):=by unfold jf;simp -iota only[clausesOf.eq_def];rw[L]
 rw[z];refine gW<|Pt (E f s m H _ I h) λu s1 a'=>?_;obtain⟨y,U,g,G,k,S,n,A,hd,T,q⟩:=a';subst A;obtain⟨t,rfl⟩:=G;have B:s1.heap.SetOf (bH X.prog X.w) d S n:=g.hok d _ hd;refine gW<|wk<|gW<|call_set_add (knd:=bH X.prog X.w) (k:=k) (yC _ _ k t) At B T λM r i=>ik ⟨m,_,?_,q⟩;refine g.write (x:=d) (e:=d) (by rw[hd];exact trivial) (.inl At) (λb u C Q=>by rw[r.2 b C];exact Q) ?_ i;obtain⟨o,_,_,_,O,_⟩:=i;exact⟨o,O⟩
end
end L2
namespace PX
open L2 PySem.SeqAt
noncomputable def Cf(f:F):FB:=λa b=>(f b).bind λp=>match p.1.1 with
 |.int k=>if (AC a)+1<fU then J (a++[.int k],p.2)else I
 |_=>I
section
variable {X:Cx}{A:jX}{d:gU}{c:ig}{f:F}
def agf{j:qb}{J:jU}{p:bp}{depth:Nat}(E:j[depth+1]?=z7)(y:PX X c f):PB X (jf (.SetComp c j J p) depth (.ref d) X.env) (GG z8 X.K A d<|Cf f):=PB.imp' (Qo E y) λm H N I=>by
 obtain⟨w,T,g,Y,M,B,e,k⟩:=I;obtain⟨⟨r,h⟩,h1,e⟩:=gS e;obtain⟨O,Q⟩:=r
 cases O with
 |int i=>
  obtain⟨U,e⟩:=iK e;obtain⟨rfl,rfl⟩:=vh e;refine⟨w,T,(.int i,Q),h,B.er,h1,λv s P=>?_⟩;obtain⟨q,G⟩:=P.rep B.er;have hv:v=.int i:=G.int;have t:SK A m w H m h s:=P.1.sk;have x:=B.step t q;have C:=TU g (λ_=>z9,0);refine⟨i,_,_,hv,x.at',by unfold nM;lia,k m _ ?_ ?_⟩
  .have:Hw A d m h s m h (upd s d<|.set (λu=>(nM g).1 u||decide (u=i)) (if(nM g).1 i then(nM g).2 else(nM g).2+1)):=⟨λa o e n L=>by rw[iW L];exact e,λi a z=>.inl z,λa z=>by
    by_cases l:a=d
    .subst l;rw[iQ];simp
    rw[iW l];exact z,λ_ _=>rfl⟩
   exact t.Jw.trans this
  refine⟨q.mono (λb o e n=>by rw[iW<|by intro z;subst z;exact n B.td];exact e) (λ_ _ z=>z) λa z=>?_,B.td,?_⟩
  .by_cases l:a=d
   .subst l;rw[iQ];trivial
   rw[iW l];exact q.dom a z
  show upd _ _ _ _=_;rw[iQ,C7]
 |_=>cases e
end
def uR(b:jM)(k:Nat)(d:B0)(e:Tg)(ti:FT)(c:FB):F:=λf=>(d f).bind λp=>(jS p.2<|b.map .slot).bind λa=>if(iD (b.map .slot) a).Nodup then(jK e ti c p.1 []<|a.map J++ac k I).bind λq=>J ((.int (nM q.1).2,Y),wb (b.map .slot) a (iT a q.2) p.2)else I
def agW{K:iA}{b:jM}{k:Nat}{f:B0}{g:Tg}{ti:FT}{e:FB}{j:L2.St}{U:Hp}{Q:VK}(h:tF K (uR b k f g ti e) j U Q):
  IY (tI K (λi=>i∉b) f) (tG K (λi=>AC b<=i) g) (tT K ti) (λd=>GG C K (λi=>AC b<=i) d e) (Ct b k) j U (λx c=>∃S n,∃a,x=.ref a/\c a=J (.set S n)/\Q (.int n) c):=zw (S:=C) h
section
variable {X:Cx}{l:ig}{c:oQ}{f:qb}{scope:jU}{j y p:bp}{O:iX}{b:jM}{k:Nat}{L:B0}{A:Tg}{ti:FT}{B:FB}
def ag2:kg X (.builtin "len") (λi M Q=>∃S n,∃a,i=[.ref a]/\M a=J (.set S n)/\Q (.int n) M):=by
 intro g s U M i G Q I r h;obtain⟨S,n,a,rfl,e,q⟩:=h;obtain⟨u,rfl,N⟩:=qC r;cases N;obtain⟨o,m,E,t,z,hex,hd,_,_,T,v,x⟩:=(show s.heap.SetOf (bH X.prog X.w) a S n from I.hok a _ e)
 have d:(m.size:Int)<2^63:=by
  have:fU=4096:=rfl
  lia
 refine call_len_set z hex hd v d ⟨.int n,M,?_,⟨_,by rw[x]⟩,q⟩;exact(I.tok _)
def agP{z:aQ}(C:CI X O scope b k)(hc:X.calm=z8)(ha:c.is_async=0)(l4:∀U,f[0]?=zx U->U.is_async=0)
  (hs:∀x,aB c.iter X.env x=pure x)(pi:Jt X (λi=>i∉b) c.target c.iter L)
  (o6:∀(cl:lI)(C:gU)(s3:hJ)(H3:Hp)(fp:ki)(r:iO),let t:=X.comp O scope cl C s3 H3 fp r
   Ju t (λi=>AC b<=i) c.target A/\JA t c.ifs (tT X.K ti)/\∀d,PB t (jf (.SetComp l (c::f) scope j) 0 (.ref d) t.env)<|GG z8 X.K (λi=>AC b<=i) d B)
  (hg:Gl X z)(hm:X.mg z=z7)(hv:aI z=zx (.builtin "len"))(hn:z≠"__name__")(l7:(z==("__debug__":aQ))=z9)
  (h1:ai [.SetComp l (c::f) scope j] X.env=(z9,aU (.SetComp l (c::f) scope j) X.env)::ai [] X.env)(g8:(bg y<|ai [] X.env).any (·.1)=z9):
  PX X (.Call (.Name z p) [.SetComp l (c::f) scope j] [] y) (uR b k L A ti B):=
 PX.imp (Bp ag2 hg hm hv (qk (EL (fp:=c.iter.pos) (new:=sK<|.type "set") (o:=.set (λ_=>z9) 0) (g:=tG X.K (λi=>AC b<=i) A) (ti:=tT X.K ti) (tb:=λd=>GG z8 X.K (λi=>AC b<=i) d B) C.Nc hc ha l4 hs pi o6 (λ_ _ _ k=>wpAny_newSet_of (knd:=bH X.prog X.w) λ_ R=>k _ λ_=>R) (.inr ⟨_,_,_,_,rfl⟩) (hev:=by cases c;rfl)) wJ h1) hn l7 h1 g8) λY H Q h=>by
  have q:=agW h
  have mono:∀{u I:VK},(∀v H,u v H->I v H)->IY (tI X.K (λi=>i∉b) L) (tG X.K (λi=>AC b<=i) A) (tT X.K ti) (λd=>GG z8 X.K (λi=>AC b<=i) d B) (Ct b k) Y H u->IY (tI X.K (λi=>i∉b) L) (tG X.K (λi=>AC b<=i) A) (tT X.K ti) (λd=>GG z8 X.K (λi=>AC b<=i) d B) (Ct b k) Y H I:=by
   rintro u I hq ⟨δ,T,ds,G,E,h1,kk⟩;refine⟨δ,T,ds,G,E,h1,λJ N P D ok d hd=>?_⟩;obtain⟨W,V,step⟩:=kk J N P D ok d hd;refine⟨W,V,λi m M F w=>?_⟩;rcases step i m M F w with⟨s1,s2⟩|s
   .exact .inl ⟨s1,hq _ _ s2⟩
   exact .inr s
  exact mono (λv N a'=>by obtain⟨S,n,a,e,h2,h3⟩:=a';exact ⟨S,n,a,by rw[e],h2,h3⟩) q
end
end PX
namespace HT
open L2
section
variable {a:iF}{w:iu}{A:iB}{E:iU}{s:hJ}
end
end HT
namespace L2
section
variable {X:Cx}{e st:ig}{c b:TE}{a d:bp}
end
end L2
namespace PX
open L2 PySem.SeqAt
section
variable {X:Cx}{a st:ig}{d fs:FO}{b c:bp}
end
section
variable {b:kb}{a:ek}
end
end PX
namespace TT
noncomputable def S:Nat->Nat
 |0=>0
 |n+1=>5*S n+1
theorem Ma(m:Nat):∀n:Nat,S (m+n)=5^n*S m+S n
 |0=>by simp[S]
 |n+1=>by rw[<-yG,S,Ma m n,S,vd,sP,<-vc,vR 5 (5^n)];lia
theorem BV:∀n:Nat,∃c,5^n=4*c+1
 |0=>⟨0,rfl⟩
 |n+1=>by obtain⟨c,e⟩:=BV n;exact⟨5*c+1,by rw[vd,e];lia⟩
theorem Th:∀k:Nat,∃c,S (2^k)=2^k*(2*c+1)
 |0=>⟨0,rfl⟩
 |k+1=>by
  obtain⟨c,e⟩:=Th k;obtain⟨d,f⟩:=BV (2^k)
  have h:S (2^(k+1))=(5^2^k+1)*S (2^k):=by rw[vd,Nat.mul_two,Ma,eE,Ik]
  refine⟨2*(d*c)+d+c,?_⟩;rw[h,f,e,vd];have:4*d+1+1=2*(2*d+1):=by lia
  rw[this,vc 2,vR (2*d+1),vc (2^k),vc (2^k),<-vc 2 (2^k),vR 2 (2^k),vc (2^k) 2]
  congr 2
  rw[eE,sP,Ik,vQ,vc 2 c,D9 c 2 d,vR c d]
  lia
def Ti(k n:Nat):S (2^k+n)%2^k=S n%2^k:=by obtain⟨c,e⟩:=Th k;rw[Ma,e,D9,k5]
def L9:∀(k e:Nat),e<2^k->∃n,n<2^k/\S n%2^k=e:=by
 intro v
 induction v with
 |zero=>intro e h;exact⟨0,by simp,by simp at h;subst h;rfl⟩
 |succ k u=>
  intro e h;have l:0<2^k:=Ij k;obtain⟨n,A,t⟩:=u (e%2^k)<|yB _ l;obtain⟨c,o⟩:=Th k;obtain⟨d,p⟩:=BV n
  have b:S (2^k+n)=2^(k+1)*(4*d*c+2*d+c)+2^k+S n:=by
   rw[Ma,o,p,vd,D9,vc (2^k) 2]
   have:(4*d+1)*(2*c+1)=2*(4*d*c+2*d+c)+1:=by rw[eE,sP,Ik,vQ,D9 (4*d) 2 c];lia
   rw[this,sP,vQ]
  rw[vd]at h b ⊢;generalize 2^k=P at*;have j:=k6 (S n) P;have i:=k6 e P;rw[t]at j;have B:e / P<2:=Nat.div_lt_of_lt_mul (by rw[vR]at h;lia)
  have m:∀a q x,a=P*2*q+x->x<P*2->a%(P*2)=x:=λa q x h1 b=>by rw[h1,k5,Nat.mod_eq_of_lt b]
  have z:=yB e l;have w:S n / P=2*(S n / P / 2)+S n / P%2:=by lia
  have g:S n=P*2*(S n / P / 2)+(P*(S n / P%2)+e%P):=by rw[vc,<-yG,<-sP,<-w];exact j.symm
  generalize S n / P / 2=q at g;have y:S n / P%2<2:=yB _ (by decide);generalize S n / P%2=r at g y;generalize e / P=f at*;by_cases s:r=f
  .exact⟨n,by lia,m _ q _ (by rw[g,s,i]) h⟩
  refine⟨P+n,by lia,m _ (4*d*c+2*d+c+q+r) _ ?_ h⟩;rw[b,g,sP (P*2) _ r,sP (P*2) _ q];rcases(show r=0\/r=1 by lia)with rfl|rfl
  .have:f=1:=by lia
   subst this;rw[Ii,Ii];rw[vQ]at i;lia
  have:f=0:=by lia
  subst this;rw[vQ,vQ];rw[Ii]at i;lia
noncomputable def ls(mask:Nat)(h:Int):Nat->Nat×Nat
 |0=>(aK h%(mask+1),aK h)
 |k+1=>b8 mask (ls mask h k).1 (ls mask h k).2
def Vi(h:Int):aK h<2^64:=by
 unfold aK;have:=Ih h (show(0:Int)<2^64 by decide);have:=Ig h (show(2^64:Int)≠0 by decide)
 lia
def Lh(mask:Nat)(h:Int):∀k,(ls mask h k).1<=mask
 |0=>by have:=yB (aK h) (show 0<mask+1 by lia);show _%(mask+1)<=_;lia
 |k+1=>by show(_%(mask+1))<=_;have:=yB ((ls mask h k).1*5+1+(ls mask h k).2 / 32) (show 0<mask+1 by lia);lia
theorem Lg(mask:Nat)(h:Int):∀k,(ls mask h k).2=aK h / 32^k
 |0=>by simp[ls]
 |k+1=>by show(ls mask h k).2 / 32=_;rw[Lg mask h k,vd,Nat.div_div_eq_div_mul]
def UJ(mask:Nat)(h:Int)(k:Nat)(hk:13<=k):(ls mask h k).2=0:=by rw[Lg];refine Nat.div_eq_of_lt<|oV (Vi h) ?_;exact kK (show 2^64<=32^13 by decide)<|yA (by decide) hk
theorem Q8(mask:Nat)(h:Int)(m:Nat)(a:(ls mask h 13).1=S m%(mask+1)):∀n,(ls mask h (13+n)).1=S (m+n)%(mask+1)
 |0=>a
 |n+1=>by show(((ls mask h (13+n)).1*5+1+(ls mask h (13+n)).2 / 32)%(mask+1))=_;rw[UJ mask h _ (by lia),Q8 mask h m a n,Nat.zero_div,o8,<-yG m n 1,S,r3,Nat.mod_mul_mod,<-r3,vR 5]
def G8(hk:mask+1=2^k)(h:Int)(i:e<=mask):∃n,n<mask+14/\(ls mask h n).1=e:=by
 have j:=Lh mask h 13;obtain⟨m,d,c⟩:=L9 k (ls mask h 13).1 (by lia);obtain⟨q,f,b⟩:=L9 k e (by lia);rw[<-hk]at c b d f;have a:=Q8 mask h m c.symm;by_cases g:m<=q
 .exact⟨13+(q-m),by lia,by rw[a,show m+(q-m)=q by lia];exact b⟩
 refine⟨13+(q+(mask+1)-m),by lia,?_⟩;rw[a,show m+(q+(mask+1)-m)=2^k+q by lia,hk,Ti,<-hk];exact b
def Ji(mask i:Nat)(h:i<=mask):i<=aG mask i/\aG mask i<=mask/\aG mask i<=i+9:=by unfold aG;split<;>lia
def tm(mask:Nat)(h:Int):Nat->Nat
 |0=>0
 |k+1=>tm mask h k+(aG mask (ls mask h k).1-(ls mask h k).1)+1
theorem VU(mask:Nat)(h:Int):∀k,tm mask h k<=10*k
 |0=>jw _
 |k+1=>by have:=VU mask h k;have:=Ji mask _ (Lh mask h k);unfold tm;lia
def at_(mask:Nat)(h:Int)(k t:Nat):SetTable.Probe:=⟨(ls mask h k).1+t,aG mask (ls mask h k).1-(ls mask h k).1-t,(ls mask h k).1,(ls mask h k).2,I⟩
theorem wH(mask:Nat)(h:Int):∀k t,t<=aG mask (ls mask h k).1-(ls mask h k).1->pr mask h (tm mask h k+t)=at_ mask h k t
 |0,0,_=>rfl
 |k+1,0,_=>by have e:=wH mask h k (aG mask (ls mask h k).1-(ls mask h k).1)<|jw _;show Jq mask (pr mask h<|tm mask h k+(aG mask (ls mask h k).1-(ls mask h k).1))=_;rw[e];unfold Jq at_;simp only[Nat.sub_self,pz,km,gt_iff_lt];rfl
 |k,t+1,a=>by
  have e:=wH mask h k t (by lia);show Jq mask (pr mask h<|tm mask h k+t)=_;rw[e];unfold Jq at_;rw[ie (show aG mask (ls mask h k).1-(ls mask h k).1-t>0 by lia)];simp only[SetTable.Probe.mk.injEq,and_true,true_and]
  lia
def Qc(hk:mask+1=2^k)(h:Int)(a:e<=mask):∃n,n<10*(mask+14)/\(pr mask h n).j=e:=by obtain⟨r,b,er⟩:=G8 hk h a;have:=VU mask h r;refine⟨tm mask h r,by lia,?_⟩;have:=wH mask h r 0<|lz _;rw[o8]at this;rw[this];exact er
theorem Qb(mask:Nat)(h:Int):∀n,(pr mask h n).dummy=I
 |0=>rfl
 |n+1=>by show(Jq mask<|pr mask h n).dummy=I;unfold Jq;split<;>exact Qb mask h n
theorem GH(mask:Nat)(h:Int):∀n,∃k t,n=tm mask h k+t/\t<=aG mask (ls mask h k).1-(ls mask h k).1
 |0=>⟨0,0,rfl,lz _⟩
 |n+1=>by
  obtain⟨k,t,e,b⟩:=GH mask h n;by_cases a:t+1<=aG mask (ls mask h k).1-(ls mask h k).1
  .exact⟨k,t+1,by lia,a⟩
  exact⟨k+1,0,by unfold tm;lia,lz _⟩
def Qa(mask:Nat)(h:Int)(n:Nat):(pr mask h n).j<=mask:=by obtain⟨k,t,e,a⟩:=GH mask h n;rw[e,wH mask h k t a];have:=Ji mask _ (Lh mask h k);show(ls mask h k).1+t<=mask;lia
def EH{c:Array Nat}(g:c.toList.Pairwise (· < ·)){i j:Nat}{a b:Nat}(h:i<j)(h1:c[i]?=J a)(d:c[j]?=J b):a<b:=by rw[<-kR]at h1 d;obtain⟨e,rfl⟩:=qX.mp h1;obtain⟨f,rfl⟩:=qX.mp d;exact Tp.mp g i j e f h
def SU{c:Array Nat}(o:c.toList.Pairwise (· < ·))(j:Nat):∀(d lo b:Nat),lo<=b->b<=c.size->b-lo<=d->
  (∀i a,i<lo->c[i]?=J a->a<j)->(∀i a,b<=i->c[i]?=J a->j<=a)->
  let p:=SetTable.below.go c j d lo b
  p<=c.size/\(∀i a,i<p->c[i]?=J a->a<j)/\(∀i a,p<=i->c[i]?=J a->j<=a):=by
 intro u
 induction u with
 |zero=>
  intro lo b h1 g t h k;have:lo=b:=by lia
  subst this;exact⟨g,h,k⟩
 |succ d r=>
  intro lo b h1 g t h k;unfold SetTable.below.go;by_cases q:lo<b
  .rw[ie q];have n:(lo+b) / 2<c.size:=by lia
   have m:c[(lo+b) / 2]?=J c[(lo+b) / 2]:=qc n;have hd:c.getD ((lo+b) / 2) j=c[(lo+b) / 2]:=by simp[eR,n]
   dsimp only;rw[hd];by_cases l:c[(lo+b) / 2]<j
   .rw[ie l];refine r ((lo+b) / 2+1) b (by lia) g (by lia) (λi a s f=>?_) k;by_cases e:i=(lo+b) / 2
    .subst e;rw[m]at f;cases f;exact l
    exact En (EH o (by lia) f m) l
   rw[iC l];refine r lo ((lo+b) / 2) (by lia) (by lia) (by lia) h λi a s f=>?_;by_cases e:i=(lo+b) / 2
   .subst e;rw[m]at f;cases f;lia
   have:=EH o (show(lo+b) / 2<i by lia) m f;lia
  rw[iC q];have:lo=b:=by lia
  subst this;exact⟨g,h,k⟩
def pU{b:Array Nat}(d:b.toList.Pairwise (· < ·))(j:Nat):aj b j<=b.size/\(∀i a,i<aj b j->b[i]?=J a->a<j)/\(∀i a,aj b j<=i->b[i]?=J a->j<=a):=
 SU d j b.size 0 b.size (lz _) (jw _) (by lia) (λi a h=>by lia) (λi a h1 c=>by have:=(Nw.mp c).1;lia)
def Ce{a:Array Nat}(c:a.toList.Pairwise (· < ·)){i j:Nat}(h:a[i]?=J j):aj a j=i:=by
 obtain⟨h1,d,e⟩:=pU c j;by_cases g:i<aj a j
 .exact absurd (d i j g h) (pz _)
 by_cases f:aj a j<i
 .have k:=(Nw.mp h).1;have b:a[aj a j]?=J a[aj a j]:=qc (by omega);have:=e _ _ (jw _) b;have:=EH c f b h;omega
 omega
theorem Fc(j:Nat):xz #[] j=Y:=rfl
def qH{t:lH}(a:t.place.toList.Pairwise (· < ·)){i j:Nat}(h:t.place[i]?=J j):t.slot j=.live i:=by unfold gz;dsimp only;rw[Ce a h,h];simp
def afN{t:lH}(hd:t.dummies= #[]){j:Nat}(h:j∉t.place.toList):t.slot j=.empty:=by
 unfold gz;dsimp only
 have:(t.place[aj t.place j]?==J j)=Y:=by rw[Cm];intro e;rw[<-kR]at e;exact h<|lK e
 rw[this,hd,Fc];rfl
def S9(t:lH)(p:cu):t.advance p=Jq t.mask p:=by unfold y2 Jq;split<;>rfl
def P8{l:gY}{t:lH}(ok:O1 l t)(hashAt:Nat->Int)(h:Int):∀(a n:Nat),(∃M,n<=M/\M<n+a/\(pr t.mask h M).j∉t.place.toList)->
    ∃m,n<=m/\(∀q,n<=q->q<m->∃i,t.place[i]?=J (pr t.mask h q).j/\hashAt i≠h)/\
      (((pr t.mask h m).j∉t.place.toList/\c3 t hashAt h a (pr t.mask h n)=J (.empty (pr t.mask h m).j I))\/
       (∃i,t.place[i]?=J (pr t.mask h m).j/\hashAt i=h/\c3 t hashAt h a (pr t.mask h n)=J (.candidate (pr t.mask h m).j i<|pr t.mask h<|m+1))):=by
  intro p
  induction p with
  |zero=>
    rintro n ⟨M,h1,f,g⟩
    lia
  |succ a o=>
    rintro n ⟨M,h1,f,g⟩;unfold c3;by_cases d:(pr t.mask h n).j∈t.place.toList
    · obtain⟨i,c⟩:=pk d
      rw[kR]at c;rw[qH ok.ris c];dsimp only;by_cases b:hashAt i=h
      · refine⟨n,jw _,λq h1 f=>by lia,.inr ⟨i,c,b,?_⟩⟩
        rw[ie<|by simpa using b,S9];rfl
      · rw[iC<|by simpa using b,S9]
        have r:M≠n:=λe=>g<|e▸d;obtain⟨m,g1,g2,k⟩:=o (n+1) ⟨M,by lia,by lia,g⟩;refine⟨m,by lia,λq k1 k2=>?_,k⟩;by_cases e:q=n
        · subst e;exact⟨i,c,b⟩
        · exact g2 q (by lia) k2
    · rw[afN ok.dum d]
      dsimp only;rw[Qb];exact⟨n,jw _,λq h1 f=>by lia,.inl ⟨d,rfl⟩⟩
def Hc:∀(n:Nat)(l:jM),AC l<=n->∃e,e<=n/\e∉l:=by
 intro d
 induction d with
 |zero=>intro l h;exact⟨0,jw _,by cases l with|nil=>simp|cons _ _=>simp at h⟩
 |succ n c=>
  intro l h;by_cases a:n+1∈l
  .obtain⟨e,h1,b⟩:=c (l.erase<|n+1) (by rw[NU a];lia);exact⟨e,by lia,λz=>b<|(D8<|by lia).mpr z⟩
  exact⟨n+1,jw _,a⟩
def O1.free(ok:O1 f t)(h:Int):∃M,M<10*(t.mask+14)/\(pr t.mask h M).j∉t.place.toList:=by
 obtain⟨k,_,_,hk⟩:=ok.pow
 have h1:(AC t.place.toList)<=t.mask:=by have:=ok.len;have:=ok.room;rw[kn];lia
 obtain⟨e,c,d⟩:=Hc t.mask _ h1;obtain⟨n,a,b⟩:=Qc hk h c;exact⟨n,a,by rw[b];exact d⟩
def mh{b:Type}(a:Array b)(p:Nat)(x:b):(aE a p x).toList=a.toList.take p++x::a.toList.drop p:=by unfold aE;simp[Array.toList_extract,List.extract];rw[AA<|by simp]
def afP(h:xs.toList.Pairwise (· < ·))(n:j∉xs.toList):(aE xs (aj xs j) j).toList.Pairwise (· < ·):=by
 obtain⟨h1,l,k⟩:=pU h j;rw[mh,uw];refine⟨h.sublist<|yO _ _,?_,?_⟩
 .rw[FN];refine⟨λa d=>?_,h.sublist<|Iq _ _⟩;obtain⟨i,c⟩:=pk d;rw[dW]at c;have m:=k _ _ (show aj xs j<=aj xs j+i by lia) (by rw[<-kR];exact c);have:a≠j:=λe=>n (e▸lK c)
  lia
 intro a d b g
 have f:a<j:=by
  obtain⟨i,c⟩:=pk d;rw[List.getElem?_take]at c;split at c
  .rename_i o;exact l i a o (by rw[<-kR];exact c)
  cases c
 rcases kN.mp g with rfl|g
 .exact f
 obtain⟨i,c⟩:=pk g;rw[dW]at c;have m:=k _ _ (show aj xs j<=aj xs j+i by lia) (by rw[<-kR];exact c)
 lia
def O1.fresh(finger moves:Nat)(led:Bool):O1 [] (f7 finger moves led) where
 pow:=⟨3,by lia,by lia,rfl⟩
 dum:=rfl
 len:=rfl
 room:=by show 5*0<3*7;lia
 ris:=.nil
 bd:=λj h=>by simp[f7]at h
 road:=λi h j h1=>by simp at h1
def O1.put(ok:O1 f t)(z:(pr t.mask h n).j∉t.place.toList)(y:∀m,m<n->(pr t.mask h m).j∈t.place.toList)(T:5*(AC f+1)<3*t.mask)(B:j=(pr t.mask h n).j)(U:p=aj t.place j):
  O1 (f.take p++h::f.drop p) (t.put j).1/\(t.put j).2=p:=by
 subst B;subst U
 have u:(t.put (pr t.mask h n).j).1={t with place:=aE t.place (aj t.place (pr t.mask h n).j) (pr t.mask h n).j,dummies:= #[]}:=by unfold h6;dsimp only;rw[ok.dum,Fc];rfl
 obtain⟨h1,_,_⟩:=pU ok.ris (pr t.mask h n).j;have E:=ok.len
 have c:∀x,x∈t.place.toList->x∈(aE t.place (aj t.place (pr t.mask h n).j) (pr t.mask h n).j).toList:=λx a=>by
  rw[mh];rw[<-sU (aj t.place (pr t.mask h n).j) t.place.toList]at a;rcases oE.mp a with a|a
  .exact oE.mpr (.inl a)
  exact oE.mpr (.inr<|jx _ a)
 refine⟨?_,rfl⟩;rw[u];generalize w:aj t.place (pr t.mask h n).j=P at*;refine⟨ok.pow,rfl,?_,?_,?_,λx a=>?_,λi h' g g1 g2=>?_⟩
 .show(aE t.place P (pr t.mask h n).j).size=_;rw[<-kn,mh];simp only[lA,kG,vo,cQ,kn];lia
 .show 5*_<3*t.mask;simp only[lA,kG,vo,cQ];lia
 .have:=afP ok.ris z;rw[w]at this;exact this
 .have r:x∈(aE t.place P (pr t.mask h n).j).toList:=a;rw[mh]at r;show x<=t.mask;rcases oE.mp r with a|a
  .exact ok.bd x (yH a)
  rcases kN.mp a with rfl|a
  .exact Qa _ _ _
  exact ok.bd x (Eb a)
 have b:(aE t.place P (pr t.mask h n).j).toList[i]?=J g:=by rw[kR];exact g2
 rw[mh]at b;show ∃s,(pr t.mask h' s).j=g/\∀m,m<s->(pr t.mask h' m).j∈(aE t.place P (pr t.mask h n).j).toList;have v:(t.place.toList.take P).length=P:=by rw[vo,kn];lia
 have k:(f.take P).length=P:=by rw[vo];lia
 by_cases A:i<P
 .rw[rV<|by lia,Oc A]at g1 b;rw[kR]at b;obtain⟨q,l,o⟩:=ok.road i h' g g1 b;exact⟨q,l,λm e=>c _ (o m e)⟩
 rw[qg<|by lia,v]at b;rw[qg<|by lia,k]at g1
 cases hd:i-P with
 |zero=>rw[hd]at g1 b;simp at g1 b;subst g1;subst b;exact⟨n,rfl,λm e=>c _ (y m e)⟩
 |succ d=>rw[hd]at g1 b;simp only[D7,dW]at g1 b;rw[kR]at b;obtain⟨q,l,o⟩:=ok.road _ h' g g1 b;exact⟨q,l,λm e=>c _ (o m e)⟩
def Gq(ow:xg)(j:Nat):Prop:= ∃i,ow.getD j I=J i
def Fd{ow:xg}{j:Nat}{d:Option Nat}(h:j<ow.size):ow.getD j d=ow.getD j I:=by simp[eR,h]
def af8{mask:Nat}{ow:xg}(U:ow.size=mask+1)(h:Int):∀(a k:Nat),(∃r,k<=r/\r<k+a/\¬Gq ow (ls mask h r).1)->(∀m,m<tm mask h k->Gq ow (pr mask h m).j)->
  ∃n,bw mask ow a (ls mask h k).1 (ls mask h k).2=J (pr mask h n).j/\¬Gq ow (pr mask h n).j/\∀m,m<n->Gq ow (pr mask h m).j:=by
 intro A
 induction A with
 |zero=>
  rintro k ⟨r,h1,v,_⟩ _
  lia
 |succ a z=>
  rintro k ⟨r,h1,v,g⟩ l;unfold bw;have x:=Lh mask h k;have y:=Ji mask _ x
  cases c:(am<|aG mask (ls mask h k).1+1-(ls mask h k).1).find? λt=>(ow.getD ((ls mask h k).1+t)<|J 0).isNone with
  |some t=>
   rw[List.find?_range_eq_some]at c;obtain⟨a1,q,s⟩:=c;rw[yv]at q;have p:t<=aG mask (ls mask h k).1-(ls mask h k).1:=by lia
   have e:=wH mask h k t p;refine⟨tm mask h k+t,by rw[e];rfl,?_,λm o=>?_⟩
   .rw[e];rintro⟨i,w⟩;rw[Fd (by show(ls mask h k).1+t<_;lia)]at a1;have u:ow.getD ((ls mask h k).1+t) I=J i:=w;rw[u]at a1;simp at a1
   by_cases f:m<tm mask h k
   .exact l m f
   have b:=wH mask h k (m-tm mask h k) (by lia);rw[show tm mask h k+(m-tm mask h k)=m by lia]at b;rw[b];have:=s (m-tm mask h k) (by lia);rw[Fd (by show(ls mask h k).1+(m-tm mask h k)<_;lia)]at this;show Gq ow ((ls mask h k).1+(m-tm mask h k));unfold Gq
   cases d:ow.getD ((ls mask h k).1+(m-tm mask h k)) I with
   |none=>rw[d]at this;simp at this
   |some i=>exact⟨i,rfl⟩
  |none=>
   rw[List.find?_range_eq_none]at c
   have all:∀t,t<=aG mask (ls mask h k).1-(ls mask h k).1->Gq ow ((ls mask h k).1+t):=λt p=>by
    have:=c t (by lia);rw[Fd<|by lia]at this;unfold Gq
    cases d:ow.getD ((ls mask h k).1+t) I with
    |none=>rw[d]at this;simp at this
    |some i=>exact⟨i,rfl⟩
   have B:r≠k:=λe=>g (by subst e;have:=all 0<|lz _;simpa using this)
   have:=z (k+1) ⟨r,by lia,by lia,g⟩ (λm o=>by
    by_cases f:m<tm mask h k
    .exact l m f
    unfold tm at o;have b:=wH mask h k (m-tm mask h k) (by lia);rw[show tm mask h k+(m-tm mask h k)=m by lia]at b;rw[b];exact all _ (by lia))
   exact this
def HC{a e:Type}{f g:a->Option e}:∀{l:List a},(∀x∈l,f x=g x)->l.filterMap f=l.filterMap g:=by
 intro d
 induction d with
 |nil=>intro _;exact H
 |cons x l c=>intro h;rw[xk,xk,h x jt,c λy b=>h y<|jx _ b]
noncomputable def pO(mask:Nat)(ow:xg):List (Nat×Nat):=(am<|mask+1).filterMap λj=>(ow.getD j I).map (j,·)
def To:(j,i)∈pO mask ow↔j<=mask/\ow.getD j I=J i:=by
 unfold pO;simp only[dU,yv,cO,Prod.mk.injEq];constructor
 .rintro⟨a,h1,b,c,rfl,rfl⟩;exact⟨by lia,c⟩
 rintro⟨h1,c⟩;exact⟨j,by lia,i,c,rfl,rfl⟩
def Rc(mask:Nat)(ow:xg):((pO mask ow).map (·.1)).Pairwise (· < ·):=by unfold pO;rw[List.map_filterMap,List.pairwise_filterMap];refine Zg.imp λ{a b} e x c y d=>?_;simp only[Option.mem_def,Option.map_map,cO,aW]at c d;obtain⟨_,_,rfl⟩:=c;obtain⟨_,_,rfl⟩:=d;exact e
def Rb{mask:Nat}{ow:xg}(f:ow.size=mask+1){j k:Nat}(d:j<=mask)(c:ow.getD j I=I):(pO mask<|ow.setIfInBounds j<|J k).Perm ((j,k)::pO mask ow):=by
 have g:∀i,(ow.setIfInBounds j<|J k).getD i I=if i=j then J k else ow.getD i I:=λi=>by
  simp only[vP,D6];by_cases e:i=j
  .subst e;simp[show i<ow.size by lia]
  rw[iC λz=>e z.symm,iC e]
 have split:am (mask+1)=am j++j::(am<|mask-j).map (λx=>j+1+x):=by rw[show mask+1=j+(mask-j+1) by lia,List.range_add,c4];simp[rR,yG,o9 1]
 unfold pO;rw[split,NT,NT,xk,xk];simp only[g,c,ie H,Option.map_none,gO]
 have a1:(am j).filterMap (λi=>(if i=j then J k else ow.getD i I).map (i,·))=(am j).filterMap (λi=>(ow.getD i I).map (i,·)):=
  HC λi a=>by rw[yv]at a;rw[iC<|by lia]
 have b:((am<|mask-j).map λx=>j+1+x).filterMap (λi=>(if i=j then J k else ow.getD i I).map (i,·))=((am<|mask-j).map λx=>j+1+x).filterMap (λi=>(ow.getD i I).map (i,·)):=
  HC λi a=>by obtain⟨x,_,rfl⟩:=kO.mp a;rw[iC<|by lia]
 rw[a1,b];exact Tn
structure Cq(mask:Nat)(hs:gY)(ow:xg):Prop where
 size:ow.size=mask+1
 perm:((pO mask ow).map (·.2)).Perm (am<|AC hs)
 road:∀j i h,ow.getD j z7=zx i->hs[i]?=zx h->∃n,(pr mask h n).j=j/\∀m,m<n->Gq ow (pr mask h m).j
def K8(h:Gq ow x):Gq (ow.setIfInBounds j<|J k) x:=by
 obtain⟨i,a⟩:=h;unfold Gq;simp only[vP,D6]at a ⊢;by_cases e:j=x
 .subst e;rw[ie H];split
  .exact⟨k,rfl⟩
  rename_i b;rw[D5<|by lia]at a;simp at a
 rw[iC e];exact⟨i,a⟩
def Cq.step{mask k:Nat}(hk:mask+1=2^k){a:gY}{ow:xg}(ok:Cq mask a ow)(h:Int)(T:(AC a)<=mask):
  ∃j,bw mask ow (bP mask) (aK h%(mask+1)) (aK h)=J j/\Cq mask (a++[h]) (ow.setIfInBounds j<|J<|AC a):=by
 have p:(pO mask ow).length=(AC a):=by have:=ok.perm.length_eq;simpa using this
 obtain⟨e,o,w⟩:=Hc mask ((pO mask ow).map (·.1)) (by rw[jl];lia)
 have U: ¬Gq ow e:=by rintro⟨i,f⟩;exact w<|kO.mpr ⟨(e,i),To.mpr ⟨o,f⟩,rfl⟩
 obtain⟨r,y,l⟩:=G8 hk h o;obtain⟨n,f1,s,t⟩:=af8 ok.size h (bP mask) 0 ⟨r,lz _,by unfold bP;lia,by rw[l];exact U⟩ (λm c=>by simp[tm]at c);have v:=Qa mask h n
 have E:ow.getD (pr mask h n).j I=I:=by
  cases x:ow.getD (pr mask h n).j I with
  |none=>rfl
  |some i=>exact absurd ⟨i,x⟩ s
 refine⟨_,f1,⟨by rw[Array.size_setIfInBounds];exact ok.size,?_,λj i u g1 g2=>?_⟩⟩
 .refine((Rb ok.size v E).map _).trans ?_;rw[jI,lA,vm,List.range_succ];exact(fS _ ok.perm).trans (NS _ _).symm
 by_cases b:j=(pr mask h n).j
 .subst b
  have:i=(AC a):=by simp only[vP,D6,ie H]at g1;rw[ie bB,ie<|by rw[ok.size];lia]at g1;exact(kD g1).symm
  subst this;rw[qg<|jw _]at g2;simp at g2;subst g2;exact⟨n,rfl,λm c=>K8<|t m c⟩
 have d:ow.getD j I=J i:=by simp only[vP,D6]at g1 ⊢;rw[iC λz=>b z.symm]at g1;exact g1
 have f:i<(AC a):=by
  have g:j<=mask:=by
   by_cases q:j<ow.size
   .have:=ok.size;lia
   rw[vP,D5<|by lia]at d;simp at d
  have:=ok.perm.mem_iff.mp<|kO.mpr ⟨(j,i),To.mpr ⟨g,d⟩,rfl⟩;exact yv.mp this
 rw[rV f]at g2;obtain⟨q,A,B⟩:=ok.road j i u d g2;exact⟨q,A,λm c=>K8<|B m c⟩
def Cq.start(mask:Nat):Cq mask [] (ez (mask+1) I) where
 size:=by simp
 perm:=by
  have:pO mask (ez (mask+1) I)=[]:=by unfold pO;refine List.filterMap_eq_nil_iff.mpr λj a=>?_;rw[vP,NQ];split<;>rfl
  rw[this];exact vS _
 road:=λj i h h1=>by rw[vP,NQ]at h1;split at h1<;>cases h1
noncomputable def xN(mask:Nat)(a:Option (Array (Option Nat)×Nat))(h:Int):Option (Array (Option Nat)×Nat):=do
 let(owner,k) <-a
 let j <-bw mask owner (bP mask) (aK h%(mask+1)) (aK h)
 pure (owner.setIfInBounds j<|J k,k+1)
def Rk{mask k:Nat}(hk:mask+1=2^k):∀(l a:gY)(ow:xg),Cq mask a ow->AC a+AC l<=mask+1->
  ∃c,l.foldl (xN mask) (J (ow,AC a))=J (c,AC a+AC l)/\Cq mask (a++l) c:=by
 intro m
 induction m with
 |nil=>intro a ow ok _;exact⟨ow,rfl,by rw[we];exact ok⟩
 |cons h l i=>
  intro a ow ok g;rw[kG]at g;obtain⟨j,e,d⟩:=ok.step hk h (by lia);obtain⟨c,f,b⟩:=i (a++[h]) _ d (by rw[lA,vm];lia);refine⟨c,?_,by rw[oo]at b;exact b⟩;rw[oU]
  have:xN mask (J (ow,AC a)) h=J (ow.setIfInBounds j<|J<|AC a,AC a+1):=by unfold xN;show(bw mask ow (bP mask) (aK h%(mask+1)) (aK h)>>=_)=_;rw[e];rfl
  rw[this];rw[lA,vm]at f;rw[f,kG]
  congr 2;lia
def afj(hk:mask+1=2^k)(a:gY)(c:(AC a)<=mask):∃ow,fF mask a.toArray=J ow/\Cq mask a ow:=by
 obtain⟨ow,e,ok⟩:=Rk hk a [] _ (Cq.start mask) (by simp;lia);refine⟨ow,?_,by simpa using ok⟩;unfold fF;rw[<-Array.foldl_toList];show eC _ (dX (xN mask) _ a)=_;have b:dX (xN mask) (J (ez (mask+1) I,0)) a=J (ow,AC a):=by simpa using e
 rw[b];rfl
def Lw(hk:mask+1=2^k)(w:3<=k)(o:k<=11)(finger moves:Nat)(led plain:Bool)(d:gY)(E:5*(AC d)<3*mask):
  ∃t c,gB mask finger moves led plain d.toArray=J (t,c)/\c.toList.Perm (am<|AC d)/\O1 (c.toList.map λi=>d.getD i 0) t/\t.plain=plain/\t.led=led:=by
 obtain⟨ow,e,ok⟩:=afj hk d (by lia);refine⟨{mask,place:=((pO mask ow).map (·.1)).toArray,dummies:= #[],finger,led,moves,plain},((pO mask ow).map (·.2)).toArray,?_,by simpa using ok.perm,?_,rfl,rfl⟩
 .unfold gB;rw[e];rfl
 have g:(pO mask ow).length=(AC d):=by have:=ok.perm.length_eq;simpa using this
 refine⟨⟨k,w,o,hk⟩,rfl,by simp,by simp[g];lia,by simpa using Rc mask ow,λj z=>?_,λi h j g1 g2=>?_⟩
 .have v:j∈(pO mask ow).map (·.1):=by simpa using z
  obtain⟨⟨a,b⟩,q,rfl⟩:=kO.mp v;exact(To.mp q).1
 have s:((pO mask ow).map (·.2)).map (λi=>d.getD i 0)=(((pO mask ow).map (·.2)).toArray).toList.map λi=>d.getD i 0:=by simp
 rw[<-s,jv,jv]at g1;have f:((pO mask ow).map (·.1))[i]?=J j:=by simpa using g2
 rw[jv]at f
 cases l:(pO mask ow)[i]? with
 |none=>rw[l]at f;cases f
 |some p=>
  obtain⟨a,b⟩:=p;rw[l]at g1 f;simp at g1 f;subst f;have q:=To.mp<|lK l
  have x:b<(AC d):=by have:=ok.perm.mem_iff.mp<|kO.mpr ⟨(a,b),lK l,rfl⟩;exact yv.mp this
  have y:d[b]?=J h:=by rw[jq x]at g1 ⊢;simpa using g1
  obtain⟨n,B,U⟩:=ok.road a b h q.2 y;refine⟨n,B,λm r=>?_⟩;obtain⟨A,u⟩:=U m r;show(pr mask h m).j∈(((pO mask ow).map (·.1)).toArray).toList;have:(pr mask h m).j∈(pO mask ow).map (·.1):=kO.mpr ⟨(_,A),To.mpr ⟨Qa mask h m,u⟩,rfl⟩;simpa using this
def xu:∀n,n<2048->∃k,3<=k/\k<=11/\bR n=2^k/\n<2^k:=by
 intro n h
 have step:∀(f k:Nat),3<=k->k<=11->11<k+f->∃b,3<=b/\b<=11/\SetTable.sizeAbove.go n f (2^k)=2^b/\n<2^b:=by
  intro f
  induction f with
  |zero=>intro k h1 c d;lia
  |succ f g=>
   intro k h1 c d;unfold SetTable.sizeAbove.go;by_cases a:2^k<=n
   .rw[ie a,<-vd];have:k≠11:=λe=>by subst e;lia
    exact g (k+1) (by lia) (by lia) (by lia)
   rw[iC a];exact⟨k,h1,c,rfl,by lia⟩
 exact step 64 3 (by lia) (by lia) (by lia)
open PyProof.Rows PySem.SeqAt
def Dh{k:gY}{t:lH}(ok:O1 k t){hashAt:Nat->Int}{h:Int}{p:cu}{n:Nat}(g:p=pr t.mask h n)(f:∀m,m<n->(pr t.mask h m).j∈t.place.toList):
    ∃m,n<=m/\m<10*(t.mask+14)/\(∀q,n<=q->q<m->∃i,t.place[i]?=J (pr t.mask h q).j/\hashAt i≠h)/\
      (((pr t.mask h m).j∉t.place.toList/\t.probe hashAt h p=J (.empty (pr t.mask h m).j I))\/
       (∃i,t.place[i]?=J (pr t.mask h m).j/\hashAt i=h/\t.probe hashAt h p=J (.candidate (pr t.mask h m).j i<|pr t.mask h<|m+1))):=by
  subst g;obtain⟨M,h1,a⟩:=ok.free h
  have c:n<=M:=by
    by_cases b:M<n
    · exact absurd (f M b) a
    · lia
  obtain⟨m,g1,g2,e⟩:=P8 ok hashAt h (10*bP t.mask) n ⟨M,c,by unfold bP;lia,a⟩
  have l:m<=M:=by
    by_cases b:M<m
    · obtain⟨i,d,_⟩:=g2 M c b
      rw[<-kR]at d;exact absurd (lK d) a
    · lia
  exact⟨m,g1,by lia,g2,e⟩
section
variable {prog:iF}{w:iu}{A:iB}{E:iU}{s:hJ}
structure JQ(A:iB)(s:hJ)(a:gU)(es:qV)(n:Nat)(t:lH)(x:il)(h:Int)(eqs:Nat->Bool):Prop where
 at_:∃o,s.heap.get? a=zx o/\o.data=.set es n t
 tab:O1 (es.toList.map (·.1)) t
 refs:∀(i:Nat)(e:Int×il),es[i]?=zx e->∃b,e.2=.ref b
 eq:∀(i:Nat)(e:Int×il),es[i]?=zx e->EqAt A s e.2 x (eqs i)
 hash:∀(i:Nat)(e:Int×il),es[i]?=zx e->eqs i=z8->e.1=h
 quiet:∀(l:ju)(prog:iF)(w:iu)(E:iU)(Q:rN),(∀v∈l,∃e∈es.toList,e.2=v)->Q z9 s->ae (ah prog w) A (mL x l) Q E s
def QJ(ok:O1 c t):t.gaveWay=Y:=by
 obtain⟨k,h1,_,b⟩:=ok.pow;obtain⟨a,rfl⟩:∃a,k=a+1:=⟨k-1,by lia⟩
 rw[vd]at b;unfold x0;rw[Cm];lia
def As(ok:O1 a t)(h:(AC a)=n):t.fits n=C:=by have:=ok.len;have:=ok.room;unfold gD gE;rw[ok.dum];simp only[la,beq_iff_eq,qw];exact⟨by lia,by show _+0<=_;lia⟩
def JQ.fits{a es n t x h eqs}(S:JQ A s a es n t x h eqs):t.fits es.size=C:=As S.tab (by simp)
def afe{a:gU}{k:qV}{nn:Nat}{t:lH}{x:il}{h:Int}{c:Nat->Bool}{adding:Bool}(S:JQ A s a k nn t x h c){Q:SetFound->hJ->Prop}
  (H:∀i r,c i=z8->i<k.size->(r=z7\/r=zx i)->(adding=z9->r=zx i)->Q (.there r) s)
  (m9:(∀i,i<k.size->c i=z9)->∀n,(pr t.mask h n).j∉t.place.toList->(∀m,m<n->(pr t.mask h m).j∈t.place.toList)->Q (.free (pr t.mask h n).j z9) s):
  ∀(l n:Nat)(u:Option cu),u.getD (t.probeStart h)=pr t.mask h n->(∀q,q<n->∃i,t.place[i]?=zx (pr t.mask h q).j/\c i=z9)->10*(t.mask+14)<n+l->n<=10*(t.mask+14)->
   ae (ah prog w) A (u6 a x h adding l u) Q E s:=by
 intro iV
 induction iV with
 |zero=>
  intro n u _ _ W Z
  lia
 |succ l iH=>
  intro n u o7 U W Z;obtain⟨o,T,hd⟩:=S.at_
  have Gq:∀m,m<n->(pr t.mask h m).j∈t.place.toList:=λm X=>by obtain⟨i,g,_⟩:=U m X;rw[<-kR]at g;exact lK g
  unfold u6;refine gW<|sA T hd S.fits ?_;dsimp only;rw[QJ S.tab];simp only[jF,↓reduceIte];generalize V:t.probe _ h _=P;obtain⟨m,m1,m2,m3,F⟩:=Dh S.tab o7 Gq (hashAt:=λi=>(k[i]?.map (·.1)).getD 0);have O:t.probe (λi=>(k[i]?.map (·.1)).getD 0) h (u.getD<|t.probeStart h)=P:=V;rw[O]at F
  have N:∀(i:Nat)(j:Nat),t.place[i]?=zx j->∃e,k[i]?=zx e/\(k[i]?.map (·.1)).getD 0=e.1:=λi j g=>by have h1:=(Nw.mp g).1;have L:=S.tab.len;rw[jl,kn]at L;exact⟨k[i],qc<|by lia,by rw[qc<|by lia];rfl⟩
  have ne:∀(i:Nat)(j:Nat),t.place[i]?=zx j->(k[i]?.map (·.1)).getD 0≠h->c i=z9:=λi j g J=>by
   obtain⟨e,f,Y⟩:=N i j g
   cases d:c i
   .rfl
   exact absurd (Y.trans<|S.hash i e f d) J
  have seen:∀q,q<m->∃i,t.place[i]?=zx (pr t.mask h q).j/\c i=z9:=λq d=>by
   by_cases p:q<n
   .exact U q p
   obtain⟨i,g,J⟩:=m3 q (by lia) d;exact⟨i,g,ne i _ g J⟩
  rcases F with⟨a1,a2⟩|⟨i,a1,a2,a3⟩
  .subst a2;dsimp only;refine ik<|m9 (λi g=>?_) m a1 λq d=>?_
   .cases d:c i
    .rfl
    exfalso;have f:k[i]?=zx k[i]:=qc g;have h1:=S.hash i _ f d;have L:=S.tab.len;rw[jl,kn]at L;have C:t.place[i]?=zx t.place[i]:=qc (by lia);obtain⟨M,K,r2⟩:=S.tab.road i h t.place[i] (by rw[jv,kR,f];exact nc zx h1) C
    have:M<m:=by
     by_cases p:M<m
     .exact p
     exfalso;rcases g5 (g0.mp p)with p|heq
     .exact a1 (r2 m p)
     subst heq;rw[<-kR]at C;rw[K]at a1;exact a1<|lK C
    obtain⟨i',g1,g2⟩:=seen M this;rw[K]at g1;have:i'=i:=by rw[<-Ce S.tab.ris g1,Ce S.tab.ris C]
    rw[this,d]at g2;cases g2
   obtain⟨i,g,_⟩:=seen q d;rw[<-kR]at g;exact lK g
  subst a3;dsimp only;obtain⟨e,f,Y⟩:=N i _ a1;obtain⟨h',y⟩:=e;obtain⟨b,D⟩:=S.refs i _ f;dsimp only at D;subst D;have I:t.sameMemory t.moves t.mask=zx z8:=by simp[xn]
  have B:i<k.size:=(Nw.mp f).1;cases hl:t.led
  .simp only[Ax,↓reduceIte];refine gW<|S.quiet _ _ _ _ _ (λv hv=>?_) ?_
   .obtain⟨e,R,rfl⟩:=kO.mp hv;exact⟨e,(Zf.mp (by simpa using(Array.mem_filter.mp<|Zf.mp R).1) |> λz=>by simpa using z),rfl⟩
   simp only[jF,↓reduceIte];rw[f];dsimp only;refine gW<|mU<|S.eq i _ f _ _ _ _ ?_;refine gW<|sA T hd S.fits ?_;dsimp only
   cases d:c i with
   |true=>
    cases adding with
    |true=>simp only[dP,↓reduceIte];exact ik<|H i z7 d B (.inl At) (λz=>by cases z)
    |false=>simp only[dk,jF,↓reduceIte,I,qH S.tab.ris a1,f];refine gW<|D4 ?_;simp only[↓reduceIte];exact gW<|ik<|ik<|H i _ d B (.inr At) λ_=>rfl
   |false=>
    simp only[dn,jF,↓reduceIte,I,qH S.tab.ris a1,f];refine gW<|D4 ?_;simp only[↓reduceIte];refine gW<|ik ?_
    exact iH (m+1) _ rfl (λq G=>by
     by_cases e:q=m
     .subst e;exact⟨i,a1,d⟩
     exact seen q (by lia)) (by lia) (by lia)
  simp only[rQ,jF,↓reduceIte];rw[f];dsimp only;refine gW<|mU<|S.eq i _ f _ _ _ _ ?_;refine gW<|sA T hd S.fits ?_;dsimp only
  cases d:c i with
  |true=>
   cases adding with
   |true=>simp only[dP,↓reduceIte];exact ik<|H i z7 d B (.inl At) (λz=>by cases z)
   |false=>simp only[dk,jF,↓reduceIte,I,qH S.tab.ris a1,f];refine gW<|D4 ?_;simp only[↓reduceIte];exact gW<|ik<|ik<|H i _ d B (.inr At) λ_=>rfl
  |false=>
   simp only[dn,jF,↓reduceIte,I,qH S.tab.ris a1,f];refine gW<|D4 ?_;simp only[↓reduceIte];refine gW<|ik ?_
   exact iH (m+1) _ rfl (λq G=>by
    by_cases e:q=m
    .subst e;exact⟨i,a1,d⟩
    exact seen q (by lia)) (by lia) (by lia)
end
noncomputable abbrev ke(es:qV)(n:Nat)(t:lH):Obj:={cls:=.type "set",data:=.set es n t}
section
variable {c:iF}{w:iu}{A:iB}{E:iU}{s:hJ}
def xp{h:iJ}{a:gU}{es es':qV}{n:Nat}{t t':lH}(b:h.get? a=J (ke es n t)):(h.update a<|e6 es' t').get? a=J (ke es' (n+1) t'):=by have:=tD (e6 es' t') b (by rw[putSet_of es' t' H];rfl);rw[putSet_of es' t' H]at this;exact this
def GF{b:Type}(a:Array b):(am a.size).filterMap (λi=>a[i]?)=a.toList:=by
 have:∀(l:List b),(am<|AC l).filterMap (λi=>l[i]?)=l:=by
  intro l
  induction l with
  |nil=>rfl
  |cons x l d=>rw[kG,c4,xk];simp only[cW,gj,rR,D7,d]
 have h:=this a.toList;simpa using h
def LF{a:qV}:∀(l:jM),(∀i∈l,i<a.size)->(l.filterMap λi=>a[i]?).map (·.1)=l.map λi=>(a.toList.map (·.1)).getD i 0:=by
 intro f
 induction f with
 |nil=>intro _;exact H
 |cons i l e=>
  intro h;have b:=h i jt;rw[xk,qc b];simp only[jI];rw[e λj d=>h j<|jx _ d]
  congr 1
  simp[b]
def PH{a:gU}{d:qV}{n:Nat}{t:lH}(j:s.heap.get? a=J (ke d n t))(x:t.fits d.size=C)(N:5<=d.size)(O:d.size<=500){Q:Unit->hJ->Prop}
  (h:∀g es' T t',aF a s.heap g->g.get? a=J (ke es' T t')->es'.toList.Perm d.toList->O1 (es'.toList.map (·.1)) t'->t'.plain=t.plain->t'.led=t.led->Q () {s with heap:=g}):
  ae (ah c w) A (setRelay a<|bW d.size) Q E s:=by
 have y:bW d.size=d.size*4:=by unfold bW;rw[iC<|by lia]
 obtain⟨k,U,l,v,lk⟩:=xu (d.size*4) (by lia);have B:bR (d.size*4)-1+1=2^k:=by have:=Ij k;lia
 obtain⟨t',b,p,f,q,r,u⟩:=Lw B U l t.finger (t.movedTo<|bR (d.size*4)-1) t.led t.plain (d.toList.map (·.1)) (by rw[jl,kn];lia);rw[jl,kn]at f
 have er:t.relaid (d.map (·.1)) (d.size*4)=J (t',b):=by unfold fN;rw[<-p,<-hH]
 have o:∀i∈b.toList,i<d.size:=λi z=>yv.mp<|f.mem_iff.mp z;have m:(b.filterMap (d[·]?)).toList=b.toList.filterMap (λi=>d[i]?):=by simp
 have e:(b.filterMap (d[·]?)).toList.Perm d.toList:=by rw[m];refine(f.filterMap _).trans ?_;rw[GF]
 have sz:(b.filterMap (d[·]?)).size=d.size:=by rw[<-kn,e.length_eq,kn]
 rw[y];unfold setRelay;refine gW<|sA j H x ?_;dsimp only
 have L:2^k<=sizeLine:=by have:2^k<=2^11:=yA (by decide) l;rw[jP];lia
 rw[iC<|by rw[v];lia,er];refine gW ?_;change ae _ _ (if((b.filterMap (d[·]?)).size !=d.size)=C then _ else _) _ _ _;rw[iC<|by rw[sz];simp];refine ik ?_;dsimp only;refine D3 j H ?_ (by rw[sz,jP];lia);refine h _ (b.filterMap (d[·]?)) (n+1) t' (qd s.heap a _) (xp j) e ?_ r u;rw[m,LF _ o];exact q
def uc{b:Type}(a:Array b)(p:Nat)(x:b):(aE a p x).toList.Perm (x::a.toList):=by rw[mh];refine Tn.trans ?_;rw[sU]
def PY{es:qV}{t:lH}{h:Int}{m:Nat}(x:il)(e:O1 (es.toList.map (·.1)) t)(u:t.plain=C)(h1:(pr t.mask h m).j∉t.place.toList)(v:∀i,i<m->(pr t.mask h i).j∈t.place.toList):
  ∃o n,aE es (t.put (pr t.mask h m).j).2 (h,x)=o/\(t.put (pr t.mask h m).j).1=n/\o.size=es.size+1/\n.plain=C/\n.led=t.led/\o.toList.Perm ((h,x)::es.toList)/\n.fits o.size=C/\(n.tooFull=C->5<=o.size)/\(n.tooFull=Y->O1 (o.toList.map (·.1)) n):=by
 have p:(t.put (pr t.mask h m).j).1={t with place:=aE t.place (aj t.place (pr t.mask h m).j) (pr t.mask h m).j,dummies:= #[]}:=by unfold h6;dsimp only;rw[e.dum,Fc];rfl
 have q:(aE es (t.put (pr t.mask h m).j).2 (h,x)).size=es.size+1:=by rw[<-kn,(uc es _ _).length_eq,kG,kn]
 have b:es.toList.length=es.size:=kn;have g:=e.len;rw[jl,b]at g
 have f:(t.put (pr t.mask h m).j).1.place.size=es.size+1:=by rw[p];show(aE t.place _ _).size=_;rw[<-kn,(uc t.place _ _).length_eq,kG,kn,g]
 have a:(t.put (pr t.mask h m).j).1.fill=es.size+1:=by unfold gE;rw[f,p];rfl
 have d:(t.put (pr t.mask h m).j).1.mask=t.mask:=by rw[p]
 have l:=e.room;rw[jl,b]at l
 have T:7<=t.mask:=by
  obtain⟨k,y,_,U⟩:=e.pow;have:2^3<=2^k:=yA (by decide) y
  lia
 have r:(t.put (pr t.mask h m).j).1.tooFull=decide ((es.size+1)*5>=t.mask*3):=by unfold xf;rw[a,d]
 refine⟨_,_,rfl,rfl,q,by rw[p];exact u,by rw[p],uc es _ _,?_,λz=>?_,λz=>?_⟩
 .unfold gD;rw[f,q,a,d];simp only[BEq.rfl,yz,qw];lia
 .rw[r]at z;have:=D2 z;rw[q];lia
 rw[r]at z;have:=of_decide_eq_false z;obtain⟨B,Q⟩:=e.put h1 v (by rw[jl,b];lia) H H;rw[mh,kQ,jI,me,List.map_drop];exact B
def acq{a b:gU}{e:qV}{n:Nat}{t:lH}{h:Int}{d:Nat->Bool}(S:JQ A s a e n t (.ref b) h d)(f:s.heap.get? a=zx (ke e n t))(g8:t.plain=z8)(hz:e.size+1<=500)
  (o:∀(x:rN),x z8 s->ae (ah c w) A (fg 8<|.ref b) x E s){Q:rN}
  (hold:(∃i,i<e.size/\d i=z8)->Q z9 s)
  (H:(∀i,i<e.size->d i=z9)->∀h' es' p t',aF a s.heap h'->h'.get? a=zx (ke es' p t')->es'.toList.Perm ((h,.ref b)::e.toList)->O1 (es'.toList.map (·.1)) t'->t'.plain=z8->t'.led=t.led->Q z8 {s with heap:=h'}):
  ae (ah c w) A (eF a (.ref b) h) Q E s:=by
 unfold eF sx;refine mU<|gW<|sA f At S.fits ?_;dsimp only;have l:byScan (.ref b) e=z9:=rfl;rw[l];simp only[jF,↓reduceIte]
 have R:t.mask+1<=2048:=by
  obtain⟨k,_,J,P⟩:=S.tab.pow;have:2^k<=2^11:=yA (by decide) J
  lia
 refine gW<|afe S (adding:=z8) (λi r h1 j _ _=>?_) (λO m h1 j=>?_) 100000 0 z7 At (λq V=>by lia) (by lia) (by lia)
 .dsimp only;exact ik<|hold ⟨i,j,h1⟩
 dsimp only;refine gW<|sA f At S.fits ?_;dsimp only;obtain⟨z,u,F,K,g,v,y,L,T,M,G⟩:=PY (.ref b) S.tab g8 h1 j;rw[F,K,ie v];refine gW<|o _ ?_;simp only[↓reduceIte];refine gW<|D3 f At ?_ (by rw[g,jP];lia);have I:=xp (es':=z) (t':=u) f;have B:=qd s.heap a (e6 z u)
 cases C:u.tooFull with
 |true=>simp only[Ax,dP,↓reduceIte];rw[<-g];refine gW<|PH I T (M C) (by rw[g];lia) λh' es' p t' g1 g2 N U Y D=>?_;exact ik<|H O h' es' p t' (B.trans g1) g2 (N.trans L) U (by rw[Y];exact v) (by rw[D];exact y)
 |false=>simp only[dn,jF,↓reduceIte];exact ik<|H O _ _ _ _ B I L (G C) v y
end
end TT
namespace PX
open L2 PySem.SeqAt TS
def D.IW:∀l:List D,D.Cg l=l.map D.hash:=by
 intro b
 induction b with
 |nil=>rw[D.Cg];rfl
 |cons d l a=>rw[D.Cg,a];rfl
def P9:∀{l:List D}{d:D},D.GS l=C->d∈l->D.pr d=C:=by
 intro c
 induction c with
 |nil=>intro d _ h;simp at h
 |cons e l b=>
  intro d a h;rw[D.GS,la]at a;rcases kN.mp h with rfl|h
  .exact a.1
  exact b a.2 h
def B8:∀{l:List D}{d:D},d∈l->d.dep<=D.P2 l:=λ{l d} h=>by obtain⟨j,a⟩:=pk h;exact D.Bu a
section
variable {X:Cx}{f:iO}{g:L2.St}{H:Hp}{s:hJ}
def Gb(X:Cx)(H:Hp)(O:SI)(c:List D)(a:ju):Prop:= ∃b,YP X.K H O c b/\Vals b a
def Gb.cons(h:Gb X H O (d::ds) (v::c)):(∃x,Rep X.K H O d x/\RelV x v)/\Gb X H O ds c:=by
 obtain⟨l,r,j⟩:=h;rw[YP]at r;obtain⟨x,k,rfl,e,i⟩:=r
 cases j with
 |cons a b=>exact⟨⟨x,e,a⟩,k,i,b⟩
def Gb.nil_of{O:SI}{a:List D}(h:Gb X H O a []):a=[]:=by
 obtain⟨c,r,b⟩:=h;cases b
 cases a with
 |nil=>rfl
 |cons d a=>rw[YP]at r;obtain⟨_,_,e,_⟩:=r;cases e
def Gb.cons_of(h:Gb X H O a (v::c)):∃d b,a=d::b:=by
 cases a with
 |nil=>obtain⟨i,r,e⟩:=h;rw[YP]at r;subst r;cases e
 |cons d a=>exact⟨d,a,rfl⟩
def Yp:∀(n:Nat){s:hJ}(I:Inv X f g H s)(d:D)(v:V)(u:il)(O:SI)(A:iB)(E:iU)(Q:Int->hJ->Prop),Rep X.K H O d v->RelV v u->D.pr d=z8->d.dep<=n->A.units+n<aS->(∀j,s.toks<=j->Q d.hash {s with toks:=j})->
  ae (ah X.prog X.w) A (pyHash u) Q E s:=by
 intro n
 induction n with
 |zero=>
  intro s I d v u O A E Q c G p hd S B
  cases d with
  |int i=>have:=c.int;subst this;obtain⟨t,rfl⟩:=G;have:=B (s.toks+1)<|wa _;rw[D.hash]at this;exact IS this
  |tup l=>rw[D.dep]at hd;lia
  |_=>simp[D.pr]at p
 |succ n ih=>
  intro s I d v u O A E Q c G p hd S B
  cases d with
  |int i=>have:=c.int;subst this;obtain⟨t,rfl⟩:=G;have:=B (s.toks+1)<|wa _;rw[D.hash]at this;exact IS this
  |tup l=>
   rw[D.pr]at p;rw[D.dep]at hd;obtain⟨a,xs,rfl,q,r⟩:=c.tup;cases G;obtain⟨its,vs,⟨o,Y,W,nn,P⟩,_⟩:=I.tuple q.sq;have C:s.TypeIs (.ref a) "tuple":=⟨o,Y,W⟩
   have Z:A.units<cLine:=by lia
   unfold pyHash;unfold pyHashByItsType;refine gW<|wpAny_cRoomFor_or (.inr Z) ?_;refine gW<|Aw C Kf.lookup ?_;show ae _ _ (if(J (Value.builtin "tuple.__hash__")==J aw)=z8 then _ else _) Q E s;rw[iC<|by rw[beq_builtin_none];exact kJ];refine gW<|Aw C Kf.lookup ?_;show ae _ _ (callSpecialIfBoundUnlessNone? (.ref a) "__hash__" _>>=_) Q E s;refine gW<|wpAny_callSpecialIfBoundUnlessNone?_slot C Kf<|qf Kf C PySem.F.entry_tuple_hash ?_<|PySem.F.args_tuple_hash_1 _;show ae _ _ (cb (.ref a)>>=_) _ _ s;refine gW<|wpAny_tupleItemsOf Y P ?_;refine gW ?_;rw[<-D1]
   refine yF _
    (λm (b:Array Int) J'=>∃done left,l=done++left/\Gb X H (λa=>O a) left m/\b.toList=done.map D.hash/\∃j,s.toks<=j/\J'={s with toks:=j})
    _ ?_ ?_ _ _ ⟨[],l,rfl,⟨xs,r,by simpa using vs⟩,rfl,s.toks,jw _,rfl⟩
   .rintro x m b J' ⟨done,left,rfl,T,L,j,z,rfl⟩;obtain⟨d,left,rfl⟩:=T.cons_of;obtain⟨⟨y,h1,R⟩,N⟩:=T.cons;have U:d∈done++d::left:=by simp
    have eP:=B8 U;refine gW<|ih (I.kept (h':=s.heap) (t':=j) λ_ _ e=>e) d y x O A.in1 E _ h1 R (P9 p U) (by lia) (by show A.units+1+n<aS;lia) λM k=>?_
    first
     |exact ik ⟨done++[d],left,by simp,N,by simp[L],M,kK z k,rfl⟩
     |exact gW<|ik<|ik ⟨done++[d],left,by simp,N,by simp[L],M,kK z k,rfl⟩
   rintro b J' ⟨done,left,rfl,T,L,j,z,rfl⟩;have:=T.nil_of;subst this;have h:=B (j+1)<|h7 z;rw[D.hash,D.IW,we]at h;show ae _ _ (retInt<|aX b.toList) _ _ _;rw[L];refine wpAny_ret_mkInt ?_;show ae _ _ (if(decide (-(2:Int)^63<=aX (done.map D.hash))&&decide (aX (done.map D.hash)<2^63))=z8 then _ else _) Q E _;unfold reduceHash at h;by_cases c:(decide (-(2:Int)^63<=aX (done.map D.hash))&&decide (aX (done.map D.hash)<2^63))=z8
   .rw[ie c];rw[ie c]at h;exact ik h
   rw[iC c];rw[iC c]at h;exact gW<|sG<|ik h
  |_=>simp[D.pr]at p
def RI{P:iF}{W:iu}{F:Nat->il->cY Bool}{c:Bool}(I:Inv X f g H s)(p:∀n i t,F n (.int i t)=pure c)
  (U:∀(n:Nat)(a:gU)(o:dS)(b:ju)(m:Nat)(A:iB)(E:iU)(Q:rN),s.heap.get? a=zx o->s.TypeIs (.ref a) "tuple"->o.data=.seq b.toArray m->
   (∀u∈b,∀Q:Bool->hJ->Prop,Q c s->ae (ah P W) A (F n u) Q E s)->Q c s->ae (ah P W) A (F (n+1)<|.ref a) Q E s):∀(n:Nat)(d:D)(v:V)(u:il)(O:SI)(A:iB)(E:iU)(Q:rN),Rep X.K H O d v->RelV v u->D.pr d=z8->d.dep<=n->Q c s->ae (ah P W) A (F n u) Q E s:=by
 intro n
 induction n with
 |zero=>
  intro d v u O A E Q j k e hd h
  cases d with
  |int i=>have:=j.int;subst this;obtain⟨t,rfl⟩:=k;exact tq (p _ _ _) h
  |tup l=>rw[D.dep]at hd;omega
  |_=>simp[D.pr]at e
 |succ n ih=>
  intro d v u O A E Q j k e hd h
  cases d with
  |int i=>have:=j.int;subst this;obtain⟨t,rfl⟩:=k;exact tq (p _ _ _) h
  |tup l=>rw[D.pr]at e;rw[D.dep]at hd;obtain⟨a,T,rfl,q,r⟩:=j.tup;cases k;obtain⟨b,C,⟨o,z,J,m,G⟩,_⟩:=I.tuple q.sq;refine U n a o b m A E Q z ⟨o,z,J⟩ G (λu Y Q N=>?_) h;obtain⟨i,x⟩:=pk Y;have l1:=C.length;have l2:=r.length;have S:=(qX.mp x).1;have B:T[i]?=zx T[i]:=jq (by omega);have M:l[i]?=zx l[i]:=jq (by omega);obtain⟨w,L,R⟩:=C.get B;rw[x]at L;cases L;have y:l[i]∈l:=vO _;have Z:=B8 y;exact ih _ _ _ O A E Q (r.views M B) R (P9 e y) (by omega) N
  |_=>simp[D.pr]at e
def abG(U:Inv X f g H s):=RI (P:=X.prog) (W:=X.w) (F:=fg) (c:=C) U (λn i t=>by simp[fg]) λn a o d v A E Q q p l r m=>by
 unfold fg;refine gW<|Aw p Kf.lookup ?_;dsimp only;refine gW<|sY q l ?_;refine gW ?_;show ae _ _ (forIn d.toArray _ _) _ _ s;rw[<-D1];refine yF _ (λb k j=>k.1=I/\j=s/\∀u∈b,u∈d) _ ?_ ?_ _ _ ⟨rfl,rfl,by simp⟩
 .rintro x b k j ⟨e,rfl,hm⟩;refine gW<|r x (hm x jt) _ ?_;simp -iota only[rQ,jF,km];exact ik ⟨rfl,rfl,λu h=>hm u<|jx _ h⟩
 rintro⟨y,z⟩ j ⟨e,rfl,_⟩;simp only at e;subst e;exact ik m
def T4{P:iF}{W:iu}(U:Inv X f g H s):=RI (P:=P) (W:=W) (F:=nm) (c:=C) U (λn i t=>eqIsQuiet_byValue n At) λn a o d v A E Q q k m r p=>by
 unfold nm;refine gW<|Aw k PySem.F.slot_tuple_eq.lookup ?_;show ae _ _ (isInstance (.ref a) (.type "tuple")>>=_) _ _ s;refine gW<|yK k isSubtype_tuple_tuple ?_;simp -iota only[rQ,jF,km];refine gW<|sY q m ?_;refine gW ?_;show ae _ _ (forIn d.toArray _ _) _ _ s;rw[<-D1];refine yF _ (λb l j=>l.1=I/\j=s/\∀u∈b,u∈d) _ ?_ ?_ _ _ ⟨rfl,rfl,by simp⟩
 .rintro x b l j ⟨e,rfl,hm⟩;refine gW<|r x (hm x jt) _ ?_;simp -iota only[rQ,jF,km];exact ik ⟨rfl,rfl,λu h=>hm u<|jx _ h⟩
 rintro⟨w,y⟩ j ⟨e,rfl,_⟩;simp only at e;subst e;exact ik p
def agm{P:iF}{W:iu}(U:Inv X f g H s):=RI (P:=P) (W:=W) (F:=c0) (c:=Y) U (λn i t=>by simp[c0]) λn a o d v A E Q q p l r m=>by
 unfold c0;refine gW<|wc p ?_;dsimp only;rw[ie<|by decide];refine gW<|ik ?_;simp -iota only[rQ,jF,km];refine gW<|sY q l ?_;dsimp only;refine gW ?_;show ae _ _ (forIn d.toArray _ _) _ _ s;rw[<-D1];refine yF _ (λb k j=>k.1=I/\j=s/\∀u∈b,u∈d) _ ?_ ?_ _ _ ⟨rfl,rfl,by simp⟩
 .rintro x b k j ⟨e,rfl,hm⟩;refine gW<|r x (hm x jt) _ ?_;simp -iota only[jF,km];exact ik ⟨rfl,rfl,λu h=>hm u<|jx _ h⟩
 rintro⟨w,y⟩ j ⟨e,rfl,_⟩;simp only at e;subst e;exact ik m
end
end PX
namespace TT
open PySem.SeqAt
def ad9:te w4 "set.__iter__"=J bo.«frozenset.__iter__»:=tc (id':="frozenset.__iter__") (by kernel_rfl) H (by decide+kernel) (by kernel_rfl)
def wz:Slot "set_iterator" "__next__" "set_iterator.__next__":=.of (owner:="set_iterator") (n:="__next__") (by rw[pC,NP];kernel_rfl) (by decide+kernel) (by decide+kernel) (by decide+kernel) (by first|exact .inl (by decide+kernel)|exact .inr<|by decide+kernel) (by rw[Ie];kernel_rfl)
def xt:Slot "set_iterator" "__iter__" "set_iterator.__iter__":=.of (owner:="set_iterator") (n:="__iter__") (by rw[pC,NP];kernel_rfl) (by decide+kernel) (by decide+kernel) (by decide+kernel) (by first|exact .inl (by decide+kernel)|exact .inr<|by decide+kernel) (by rw[Ie];kernel_rfl)
def aen:te w4 "set_iterator.__next__"=J bo.«set_iterator.__next__»:=entryFor_of_fast (by kernel_rfl)
def aeo:te w4 "set_iterator.__iter__"=J bo.«dict_keyiterator.__iter__»:=tc (id':="dict_keyiterator.__iter__") (by kernel_rfl) H (by decide+kernel) (by kernel_rfl)
def aeP(a:il):ts "set_iterator.__next__" ⟨[a],[]⟩:=by unfold ts;kernel_rfl
def aeQ(a:il):ts "set_iterator.__iter__" ⟨[a],[]⟩:=by unfold ts;kernel_rfl
theorem sh{a:Type}:∀(l:List a){i:Nat}(h:i<AC l),(l[i]::l.eraseIdx i).Perm l
 |x::l,0,_=>by simp
 |x::l,i+1,h=>by have:=sh l (i:=i) (by simpa using h);simp only[List.getElem_cons_succ,fv];exact(fO x _ _).trans (fS x this)
def aeG{c:Type}(next:Nat->Nat):∀(a k:Nat)(left:List c)(out:Array c),AC left<=a->(pickOrder.go next a k left out).toList.Perm (out.toList++left):=by
 intro e
 induction e with
 |zero=>intro k left out h;have:left=[]:=Of.mp (by lia);subst this;unfold pickOrder.go;simp
 |succ a d=>
  intro k left out h;unfold pickOrder.go
  cases left with
  |nil=>simp
  |cons y l=>have b:next k%(y::l).length<(y::l).length:=yB _ (by simp);rw[jq b];dsimp only;refine(d (k+1) _ _ (by rw[DZ,ie b];simp at h ⊢;lia)).trans ?_;rw[d0,oo];refine NO _ ?_;exact sh _ b
def aee{b:Type}(next:Nat->Nat)(a:Array b):(eY next a).toList.Perm a.toList:=by unfold eY;have:=aeG next a.size 0 a.toList #[] (by simp);simpa using this
noncomputable def qT(w:iu)(a:gU)(n:Nat)(b:qV):Array (Int×il):=if w.params.followText "set-order"=C then eY (w.params.setOrder a n) b else b
def HP(w:iu)(a:gU)(n:Nat)(b:qV):(qT w a n b).toList.Perm b.toList:=by
 unfold qT;split
 .exact aee _ _
 exact vS _
def wu(w:iu)(a:gU)(n:Nat)(b:qV):(qT w a n b).size=b.size:=by rw[<-kn,(HP w a n b).length_eq,kn]
noncomputable def Kz(t:lH):Nat->Nat
 |0=>0
 |i+1=>t.place.getD i 0+1
def nh(w:iu)(t:lH)(i:Nat):Nat:=if w.params.followText "set-order"=C then 0 else Kz t i
structure B4(w:iu)(h:iJ)(a:gU)(es:qV)(n:Nat)(t:lH):Prop where
 at_:h.get? a=zx (ke es n t)
 tab:O1 (es.toList.map (·.1)) t
 plain:t.plain=z8
 led:t.led=!w.params.followText "set-order"
def BM(w:iu)(h:iJ)(it a:gU)(t:lH)(size n i:Nat):Prop:= ∃o,h.get? it=J o/\o.cls=.type "set_iterator"/\o.data=.fields #[.int (nh w t i) 0,.int i 0,.ref a,.int size 0,.int n 0]
section
variable {c:iF}{w:iu}{A:iB}{E:iU}{s:hJ}
def B4.fits{h a es n t}(S:B4 w h a es n t):t.fits es.size=C:=As S.tab (by simp)
def afv(d:t.place.toList.Pairwise (· < ·))(l:i<=t.place.size):aj t.place (Kz t i)=i:=by
 cases i with
 |zero=>
  obtain⟨h1,a,_⟩:=pU d 0
  cases h:aj t.place 0 with
  |zero=>exact h
  |succ k=>
   have j:0<t.place.size:=by lia
   have:=a 0 _ (by lia) (qc j)
   lia
 |succ i=>
  have hd:t.place.getD i 0=t.place[i]:=by simp[eR,show i<t.place.size by lia]
  show aj t.place (t.place.getD i 0+1)=i+1;rw[hd];have f:t.place[i]?=J t.place[i]:=qc (by lia);obtain⟨h1,a,g⟩:=pU d<|t.place[i]+1;by_cases m:aj t.place (t.place[i]+1)<i+1
  .have:=g i _ (by lia) f;lia
  by_cases b:i+1<aj t.place (t.place[i]+1)
  .have e:t.place[i+1]?=J t.place[i+1]:=qc (by lia);have:=a (i+1) _ b e;have:=EH d (El i) f e
   lia
  lia
def afO{a:gU}{b:qV}{n:Nat}{t:lH}(S:B4 w s.heap a b n t){i:Nat}(r:i<=b.size){Q:Option (il×Nat)->hJ->Prop}
  (h1:∀e,(qT w a n b)[i]?=J e->Q (J (e.2,nh w t<|i+1)) s)(j:i=b.size->Q I s):ae (ah c w) A (setNext a (nh w t i) i n) Q E s:=by
 have q:=S.tab.len;rw[jl,kn]at q;unfold setNext;refine gW<|sA S.at_ H S.fits ?_;dsimp only;unfold fA;refine gW<|gW<|vY<|ik ?_;by_cases d:w.params.followText "set-order"=C
 .have g:(ah c w).w.params.followText "set-order"=C:=d;rw[ie g,iC<|by simp];unfold setWalk fA;refine gW<|gW<|sA S.at_ H S.fits ?_;dsimp only;refine gW<|gW<|vY<|ik ?_;rw[ie g];refine gW<|vY<|ik<|ik ?_;have h:qT w a n b=eY (w.params.setOrder a n) b:=by unfold qT;rw[ie d]
  have f:∀k,nh w t k=0:=λk=>by unfold nh;rw[ie d]
  show Q (((eY (w.params.setOrder a n) b)[i]?).map λe=>(e.2,nh w t i)) s;rw[<-h];rw[f]at h1;rw[f]
  cases l:(qT w a n b)[i]? with
  |some e=>exact h1 e l
  |none=>have:=Wt.mp l;rw[wu]at this;exact j (by lia)
 have g: ¬(ah c w).w.params.followText "set-order"=C:=d;rw[iC g];change ae _ _ (if(!t.plain&&decide (b.size>1))=C then _ else _) _ _ _;rw[iC<|by rw[S.plain];simp];have o:t.led=C:=by rw[S.led];simpa using d
 refine gW ?_;change ae _ _ (if(!t.led&&!b.isEmpty)=C then _ else _) _ _ _;rw[iC<|by rw[o];simp];refine ik ?_;have h:qT w a n b=b:=by unfold qT;rw[iC d]
 have f:∀k,nh w t k=Kz t k:=λk=>by unfold nh;rw[iC d]
 have m:aj t.place (nh w t i)=i:=by rw[f];exact afv S.tab.ris (by lia)
 rw[m];rw[h]at h1;by_cases p:i<b.size
 .have g1:b[i]?=J b[i]:=qc p;have g2:t.place[i]?=J t.place[i]:=qc (by lia);rw[g1,g2];have:=h1 b[i] g1;rw[f]at this;rw[show Kz t (i+1)=t.place.getD i 0+1 from H]at this;have hd:t.place.getD i 0=t.place[i]:=by simp[eR,show i<t.place.size by lia]
  rw[hd]at this;exact ik this
 rw[D5<|by lia];exact ik<|j (by lia)
def B4.typeIs{a b n t}(S:B4 w s.heap a b n t):s.TypeIs (.ref a) "set":=⟨_,S.at_,rfl⟩
def BM.typeIs{it a t z n i}(S:BM w s.heap it a t z n i):s.TypeIs (.ref it) "set_iterator":=let⟨o,d,b,_⟩:=S;⟨o,d,b⟩
def RB(S:B4 w s.heap a f n t)
  (g:∀d,BM w d s.heap.objs.size a t f.size n 0->(∀b o,s.heap.get? b=J o->d.get? b=J o)->d.objs.size=s.heap.objs.size+1->Q (.ref s.heap.objs.size) {s with heap:=d}):
  ae (ah c w) A (cH<|.ref a) Q E s:=by
 refine Ic S.typeIs NN<|qf NN S.typeIs ad9 ?_<|PySem.F.args_set_iter_1 _;unfold bo.«frozenset.__iter__» j2 ss;simp -iota only[cR,rQ,jF,↓reduceIte,vZ,vN,xi];unfold dv j3;refine gW<|ik ?_;dsimp only;refine gW<|ik ?_;refine gW<|gW<|NM S.at_ H S.fits<|ik ?_;unfold setDrawn fA;refine gW<|gW<|sA S.at_ H S.fits ?_;dsimp only;refine gW<|gW<|vY<|ik ?_;refine ik ?_;change ae _ _ (if(!w.params.followText "set-order"&&(!t.plain&&decide (f.size>1)))=C then _ else _) _ _ _;rw[iC<|by rw[S.plain];simp];refine gW<|ik ?_;unfold setEpoch;refine gW<|gW<|sA S.at_ H S.fits<|ik ?_;refine gW<|oq<|ik ⟨_,rfl,"set_iterator",_,⟨_,kc _ rfl,rfl⟩,wz.lookup,?_⟩;refine g _ ⟨_,kc _ rfl,rfl,?_⟩ (λb o e=>jJ _ e) (qx _ _);have:nh w t 0=0:=by unfold nh;split<;>rfl
 rw[this];rfl
def G2(v:A.handled=I){it a:gU}{d:qV}{n:Nat}{t:lH}(S:B4 w s.heap a d n t){i:Nat}(h:BM w s.heap it a t d.size n i)(x:i<=d.size){Q:FU}
  (r:∀e,(qT w a n d)[i]?=J e->∀f,BM w f it a t d.size n (i+1)->aF it s.heap f->Q (J e.2) {s with heap:=f})
  (q:i=d.size->∀f,dh it s.heap f->Q I {s with heap:=f}):ae (ah c w) A (cw<|.ref it) Q E s:=by
 obtain⟨o,g,u,hd⟩:=id h;unfold cw;refine gW<|vV<|tE (name:=bz "__next__") h.typeIs wz<|qf wz h.typeIs aen ?_<|aeP _;unfold bo.«set_iterator.__next__» ss;simp only[cR,rQ,jF,↓reduceIte,vZ,vN,xi];refine gW<|ik ?_;unfold fieldsOf;simp only[vZ];refine gW<|Ew g ?_;rw[hd];refine gW<|ik ?_;dsimp only;refine gW<|NM S.at_ H S.fits ?_;rw[iC<|by simp];have h1:((nh w t i:Nat):Int).toNat=nh w t i:=xj _;have l:((i:Nat):Int).toNat=i:=xj _;have p:((n:Nat):Int).toNat=n:=xj _;rw[h1,l,p];refine gW<|afO S x (λB k=>?_) λz=>?_
 .dsimp only;refine gW<|vW g hd (by simp) ?_;have j:=tD (fq λy=>y.setIfInBounds 0<|cg<|nh w t<|i+1) g<|Ek<|vg hd _;refine gW<|vW j (vg hd _) (by simp)<|ik ⟨_,rfl,ik<|r _ k _ ?_ ((qd ..).trans (qd ..))⟩;refine⟨_,tD _ j (Ek<|vg (vg hd _) _),?_,?_⟩
  .rw[Ej,Ej];exact u
  rw[vg<|vg hd _];simp[cg]
 dsimp only;refine gW<|vW g hd (by simp) ?_;show ae _ _ (gr (.type "StopIteration") []>>=_) _ _ _;refine gW ?_;simp -iota only[gr,i7];refine gW<|oq ?_ (by size_fits);refine gW (m:=ci _ _)<|tq (a:=aw) (by first|rfl|(simp -iota only[ci];rfl)) ?_;refine oq ?_ (by size_fits);simp -iota only[sB];refine gW<|Iy ?_;rw[show A.in1.handled=I from v];refine gW<|ik<|Iw ?_;refine gW<|yK (T:="StopIteration") (b:=C) ⟨_,kc _ rfl,rfl⟩ Ef ?_;exact ik<|q z _ (((qd ..).extBut.push _).push _)
def agu(b:BM w s.heap it a t z n i)(d:Q (.ref it) s):ae (ah c w) A (cH<|.ref it) Q E s:=by refine Ic b.typeIs xt<|qf xt b.typeIs aeo ?_<|aeQ _;unfold bo.«dict_keyiterator.__iter__» ss;simp -iota only[cR,rQ,jF,↓reduceIte,vZ,vN,xi];exact gW<|ik<|ik ⟨_,rfl,"set_iterator",_,b.typeIs,wz.lookup,d⟩
def B4.I0{a b n t}(S:B4 w h a b n t)(k:∀o,h.get? a=J o->d.get? a=J o):B4 w d a b n t:=⟨k _ S.at_,S.tab,S.plain,S.led⟩
def agI(k:A.handled=I)(U a:gU)(y:U≠a)(g:qV)(n:Nat)(t:lH):
  xc c w A U [U,a] [U] g.size (λi v=>∃e,(qT w a n g)[i]?=J e/\v=e.2) (λi h=>BM w h U a t g.size n i/\B4 w h a g n t) where
 sub:=λb d=>by simp at d;simp[d]
 frame:=λ_ _ _ st hk=>⟨(by obtain⟨o,h1,r⟩:=st.1;exact⟨o,hk U (by simp) o h1,r⟩),st.2.I0 λo e=>hk a (by simp) o e⟩
 item:=λi s Q E l st f=>by refine G2 k st.2 st.1 (wm l) (λe x j p m=>?_) λz=>absurd z<|jY l;exact f _ j s.toks ⟨_,x,rfl⟩ ⟨p,st.2.I0 λo e=>m.extBut a o (λh=>y h.symm) e⟩ λb o d e=>m.extBut b o (λh=>d<|by simp[h]) e
 done:=λs Q E st f=>G2 k st.2 st.1 (jw _) (λe u=>absurd (Nw.mp u).1<|by rw[wu];exact pz _) λ_ j q=>f j s.toks λb o d e=>q b o (λh=>d<|by simp[h]) e
 self:=λ_ _ _ _ st f=>agu st.1 f
def Aa{T id:String}{N:Nat}{B:ju}{J:Nat->il->Prop}{ST:Nat->iJ->Prop}(n:T="set"/\id="set.__len__"\/T="dict"/\id="dict.__len__")(Y:a<s.heap.objs.size)(ty:∀k:hJ,(∀o,s.heap.get? a=zx o->k.heap.get? a=zx o)->k.TypeIs (.ref a) T)
  (W:xc c w A.in1 (s.heap.objs.size+1) [s.heap.objs.size+1,a] [s.heap.objs.size+1] N J ST)(hn:N<=sizeLine)(hv:∀i v,J i v->B[i]?=zx v)(hl:(AC B)=N)
  (I:∀(l:dS)(G:iU),(∀q,ST 0 q->(∀b o,(s.heap.push l).get? b=zx o->q.get? b=zx o)->G (.ref<|s.heap.objs.size+1) {s with heap:=q})->ae (ah c w) A.in1 (cH<|.ref a) G E {s with heap:=s.heap.push l})
  (hQ:∀x tk,(∀b o,s.heap.get? b=zx o->x.get? b=zx o)->Q B {s with heap:=x,toks:=tk}):ae (ah c w) A (eG<|.ref a) Q E s:=by
 have C':a≠s.heap.objs.size:=jY Y;have u:s.heap.objs.size≠s.heap.objs.size+1:=jY<|El _;unfold eG;refine gW<|Iz<|qY PySem.F.entry_proto_collect ?_;rw[sZ PySem.F.plain_proto_collect _];show ae _ A.in1 (m4 []>>=λl=>again<|.builtin "list.__iadd__" ⟨[l,.ref a],[]⟩) _ _ s;refine gW<|oq ?_;refine ik ⟨yL NL _,qY PySem.F.entry_list_iadd ?_⟩;rw[sZ NL _];show ae _ A.in1 (dO (.ref s.heap.objs.size) (.ref a)<|.ref s.heap.objs.size) _ _ _;generalize t:({cls:=.type "list",data:=.seq ([]:List il).toArray}:dS)=O;unfold dO;refine gW<|wc (T:=T) (s:={s with heap:=s.heap.push O}) (ty _ λo e=>jJ _ e) ?_;have h1:d8 (.ref s.heap.objs.size) (.ref a)=z9:=by simp only[d8,Cm];exact C'.symm
 have q:(ca T==ca "list")=z9:=by rcases n with⟨rfl,_⟩|⟨rfl,_⟩<;>decide
 have h3:(ca T==ca "tuple")=z9:=by rcases n with⟨rfl,_⟩|⟨rfl,_⟩<;>decide
 simp -iota only[h1,q,h3,mi,jF,km];refine gW<|I O _ λh V k2=>?_;have H:Shared.TypeIs {s with heap:=h} (.ref a) T:=ty _ λo e=>k2 _ _ (jJ _ e);refine gW<|mU<|qi (Q:=λr k=>r=z9/\k={s with heap:=h}) ?_ (λr k ⟨e1,e2⟩=>?_) λ_ _ z=>z
 .unfold p9;refine gW<|Aw (s:={s with heap:=h}) H (r:=zx<|.builtin id) (by rcases n with⟨rfl,rfl⟩|⟨rfl,rfl⟩<;>first|exact PySem.F.slot_set_len.lookup|exact PySem.F.slot_dict_len.lookup) ?_;dsimp only;rw[show splitId id=zx (T,"__len__")from by rcases n with⟨rfl,rfl⟩|⟨rfl,rfl⟩<;>decide+kernel];dsimp only;refine gW<|yK (s:={s with heap:=h}) (b:=C) H (by rw[Ie];rcases n with⟨rfl,_⟩|⟨rfl,_⟩<;>kernel_rfl) ?_;simp -iota only[rQ,jF,km];change ae _ _ (if _=C then _ else _) _ _ _;rw[ie (by rcases n with⟨_,rfl⟩|⟨_,rfl⟩<;>decide+kernel)];refine gW<|wc (s:={s with heap:=h}) H ?_;dsimp only;exact ik ⟨rfl,rfl⟩
 subst e1 e2;change ae _ _ (if _=C then _ else _) _ _ _;rw[ie (by rcases n with⟨rfl,_⟩|⟨rfl,_⟩<;>decide+kernel)];refine gW<|sG ?_;have d:h.get? s.heap.objs.size=zx O:=k2 _ _ (kc _ (by subst t;rfl));subst t;refine gW ?_;show ae _ A.in1 (updateSeq s.heap.objs.size (·.push .none)>>=λ_=>updateSeq s.heap.objs.size (·.pop)) _ _ _;refine gW<|px (s:={s with heap:=h}) d At ?_;have f:=tD (aM (·.push aw)) d At;refine px f At ?_;have m:=tD (aM (·.pop)) f At
 have R1:∀b o,b≠s.heap.objs.size->h.get? b=zx o->((h.update s.heap.objs.size (aM (·.push aw))).update s.heap.objs.size (aM (·.pop))).get? b=zx o:=
  λb o g e=>(Ep _ _ (vt g)).trans<|(Ep _ _ (vt g)).trans e
 refine ik ⟨yL PySem.F.plain_extend_loop _,?_⟩;refine codeAny_extend_loopS W.toS hn s.heap.objs.size (by simp -iota only[kN,my,om,qW];exact⟨u,C'.symm⟩) _ N 0 _ _ _ rfl (lz _) (W.frame _ _ _ V λb g o e=>R1 b o (by simp at g;rcases g with rfl|rfl<;>first|exact u.symm|exact C') e) m (ItemsOf.nil _) λk L c' y U n9=>?_;show ae _ A (load s.heap.objs.size>>=_) _ _ k;refine gW<|Ew U ?_;obtain⟨x,Z,K,D,P⟩:=k;have S:Z=s.gens:=y.gens;have R:K=s.drawn:=y.drawn;have X:P=s.os:=y.os;subst S;subst R;subst X
 have p:L.toList=B:=by
  obtain⟨a1,M⟩:=n9;refine AG λj=>?_;rw[kR]
  cases e:L[j]? with
  |some v=>exact(hv j v<|M j v e).symm
  |none=>rw[List.getElem?_eq_none_iff.mpr];rw[hl,<-a1];exact Wt.mp e
 refine ik ?_;show Q L.toList _;rw[p];refine hQ x D λb o e=>?_;have g:=jc e;exact y.heap b o (by simp -iota only[kN,my,om,qW];exact⟨jY g,jY<|xh g⟩)<|R1 b o (jY g)<|k2 _ _ (jJ _ e)
def Ve(r:A.handled=I)(S:B4 w s.heap a d n t)(u:d.size<=sizeLine)
  (p:∀j x,(∀b o,s.heap.get? b=J o->j.get? b=J o)->Q ((qT w a n d).toList.map (·.2)) {s with heap:=j,toks:=x}):ae (ah c w) A (eG<|.ref a) Q E s:=by
 have g:a<s.heap.objs.size:=jc S.at_;refine Aa (.inl ⟨rfl,rfl⟩) g (λz k=>(S.I0 k).typeIs) (agI (by show A.handled=I;exact r) (s.heap.objs.size+1) a (qh<|xh g) d n t) u (λi v ⟨e,q,hv⟩=>?_) (by rw[jl,kn,wu]) (λl y k=>?_) p
 .rw[jv,kR,q,hv];rfl
 have f:B4 w (s.heap.push l) a d n t:=S.I0 λo e=>jJ _ e;refine RB (s:={s with heap:=s.heap.push l}) f λm h k2 _=>?_;rw[show(s.heap.push l).objs.size=s.heap.objs.size+1 from qx _ _]at h ⊢;exact k m ⟨h,f.I0 λo e=>k2 _ _ e⟩ k2
end
section
variable {a:iF}{w:iu}{A:iB}{R:gF->hJ->Prop}{I:gU}{d c:ki}{G:Array eM->Array eM->Prop}{n:Nat}{P:Nat->il->Prop}{St:Nat->hJ->Prop}
def OY(W:WalksS a w A.in1 I d c G n P St)(S:gU)(J:S∉d)(s0:hJ)(j:Nat->iJ->Prop)(I0:∀i h g,j i h->(∀o,h.get? S=zx o->g.get? S=zx o)->j i g)
  (step:∀i v (f:hJ) (Q:rN) (E:iU),i<n->P i v->j i f.heap->y3 (S::c) G s0 f->(∀r g H',f.toks<=H'->aF S f.heap g->j (i+1) g->Q r {f with heap:=g,toks:=H'})->ae (ah a w) A.in1 (eX S v) Q E f):
  ∀(k i:Nat)(s:hJ),n-i=k->i<=n->St i s->j i s.heap->y3 (S::c) G s0 s->(∀f,y3 (S::c) G s0 f->j n f.heap->R (.ok<|.ret .none) f)->
   cj (ah a w) A (.builtin "set.update.loop" ⟨[.ref S,.ref I],[]⟩) R s:=by
 have l:S∉c:=λh=>J<|W.sub _ h;have M:∀b∈c,b∈S::c:=λb m=>jx _ m;intro k
 induction k with
 |zero=>
  intro i s hk U C x t u;have z:i=n:=by lia
  subst z;refine qY NK ?_;rw[sZ Ib _];show ae _ A.in1 (cw (.ref I)>>=_) _ _ s;refine gW<|W.done s _ _ C λf p=>?_;show ae _ A.in1 (ret aw) _ _ f;exact ik<|u f (Moved.trans W.gtrans t<|p.mono M)<|I0 _ _ _ x λo e=>p.heap S o l e
 |succ k Y'=>
  intro i s hk U C x t u;have B:i<n:=by lia
  refine qY NK ?_;rw[sZ Ib _];show ae _ A.in1 (cw (.ref I)>>=_) _ _ s;refine gW<|W.item i s _ _ B C λv f N q p=>?_;have T:=Moved.trans W.gtrans t<|p.mono M;show ae _ A.in1 (b6 [v] (eX S v)>>=_) _ _ f;refine gW<|mU<|step i v f _ _ B N (I0 _ _ _ x λo e=>p.heap S o l e) T λr g H' L O y=>?_;refine ik ⟨yL Ib _,Y' (i+1) _ (by lia) B (W.frame _ f _ _ q L λb m o e=>?_) y (T.then_heap L λb o m e=>?_) u⟩
  .rw[O.2 b λh:b=S=>J<|by rw[<-h];exact m];exact e
  rw[O.2 b λh:b=S=>m<|by rw[h];exact jt];exact e
end
section
variable {f:iF}{w:iu}{A:iB}{E:iU}{s:hJ}
def UD(a:il)(h:Q₁ (.ref s.heap.objs.size) {s with heap:=s.heap.push (ke #[] 0 (.fresh 0 0 (!w.params.followText "set-order")))}):
  cj (ah f w) A (.call (.builtin "set.__new__") ⟨[.type "set",a],[]⟩) (wants Q₁ E) s:=by
 refine AM ?_;show ae _ A.in1 (do nw "set.__new__" ⟨[.type "set",a],[]⟩;again (.builtin "set.__new__" ⟨[.type "set",a],[]⟩)) _ _ s;refine gW<|tq (PySem.F.newCall_set_1 a)<|ik ⟨yL NJ _,qY PySem.F.entry_set_new ?_⟩;rw[sZ NJ _];unfold bo.«set.__new__» j5;have e:=sub_set_self;obtain⟨b,g,d,c,os⟩:=s;dsimp only
 wp_walk
 refine vY<|ik ?_;dsimp only;simp only[newObj];refine gW<|Eo<|ik ?_;exact ik h
noncomputable abbrev lF(w:iu):SetTable:=.fresh 0 0 (!w.params.followText "set-order")
def Y8{h:iJ}{a:gU}(e:h.get? a=J (ke #[] 0 (lF w))):B4 w h a #[] 0 (lF w):=⟨e,O1.fresh _ _ _,rfl,rfl⟩
set_option maxHeartbeats 8000000 in
def Y9{l:gU}{items:oF}{Q:iU}(hh:A.handled=z7)(m:s.heap.IsList l items\/s.heap.IsTuple l items)(k:Nat->iJ->Prop)
  (I0:∀i h a,k i h->(∀o,h.get? s.heap.objs.size=zx o->a.get? s.heap.objs.size=zx o)->k i a)
  (qU:∀a,a.get? s.heap.objs.size=zx (ke #[] 0 (lF w))->k 0 a)
  (step:∀i v (d:hJ) (B:iB) (Q:rN) (E:iU),B.units<=A.units+20->items[i]?=zx v->k i d.heap->(∀b o,s.heap.get? b=zx o->d.heap.get? b=zx o)->d.gens=s.gens->d.drawn=s.drawn->d.os=s.os->
   (∀r a y,d.toks<=y->aF s.heap.objs.size d.heap a->k (i+1) a->Q r {d with heap:=a,toks:=y})->ae (ah f w) B (eX s.heap.objs.size v) Q E d)
  (h:∀(a:iJ)(y:Nat),k items.size a->(∀b o,s.heap.get? b=zx o->a.get? b=zx o)->Q (.ref s.heap.objs.size) {s with heap:=a,toks:=y}):
  ae (ah f w) A (call (.type "set") [.ref l]) Q E s:=by
 obtain⟨c,tl,P⟩:=Oe.mro;have M:=Oe.made;have w9:=Oe.sub;refine wpAny_call<|AM ?_;show ae _ _ (callAny (.type "set") _) _ _ _;refine ik ⟨Code.quiet_builtin _ (by decide+kernel),qY PySem.F.entry_type_call ?_⟩;rw[Around.under_plain (weight_type_call_type "set" [.ref l] []) At];have h1:=Oe.notType;have h2:=Oe.canCreate;have hct:=PySem.F.typeCall_set_1<|.ref l
 repeat (any_goals (first|assumption|wp_step))
 refine tJ (UD (.ref l) (E:=E) (Q₁:=λobj q=>obj=.ref s.heap.objs.size/\q={s with heap:=s.heap.push (ke #[] 0 (lF w))}) ⟨rfl,rfl⟩) λr q N=>?_
 cases r with
 |error e=>exact N
 |ok fl=>
  cases fl with
  |ret obj=>
   obtain⟨rfl,rfl⟩:=N;have K:(s.heap.push<|ke #[] 0 (lF w)).get? s.heap.objs.size=zx (ke #[] 0 (lF w)):=kc _ rfl;have hT:Shared.TypeIs {s with heap:=s.heap.push (ke #[] 0 (lF w))} (.ref s.heap.objs.size) "set":=⟨_,K,rfl⟩
   have hli:=Oe.init.lookup;have hbi:=Oe.init.bind<|.ref s.heap.objs.size
   repeat (any_goals (first|assumption|wp_step))
   refine tJ (codeAny_call_builtin (R:=wants (λr t=>r=.none/\∃a y,t={s with heap:=a,toks:=y}/\k items.size a/\(∀b o,s.heap.get? b=zx o->a.get? b=zx o)) E) Oe.init.plain PySem.F.entry_set_init<|check_set_init_1 hT ?_) λI t O=>?_
   .obtain⟨c,hc,ol,D,Z,nl,Y⟩:∃c,(c="list"\/c="tuple")/\∃o,s.heap.get? l=zx o/\o.cls=.type c/\∃n,o.data=.seq items n:=m.elim (λh=>⟨_,.inl At,h⟩) (λh=>⟨_,.inr At,h⟩)
    obtain⟨X,V,i4⟩:isSubtype (.type c) (.type "set")=pure z9/\isSubtype (.type c) (.type "frozenset")=pure z9/\(ca c==ca "dict")=z9:=by
     rcases hc with rfl|rfl
     .exact⟨PySem.F.sub_list_set,PySem.F.sub_list_frozenset,by decide⟩
     exact⟨PySem.F.sub_tuple_set,PySem.F.sub_tuple_frozenset,by decide⟩
    obtain⟨ocls,x,U,j⟩:=ol;simp only at Z Y;subst Z;subst Y;have S:(s.heap.push<|ke #[] 0 (lF w)).get? l=zx {cls:=.type c,dict:=x,data:=.seq items nl,slots:=j}:=jJ _ D;have H:l<s.heap.objs.size:=jc D;have C:A.in1.in1.in1.handled=z7:=by simp[hh]
    have sz:(s.heap.push<|ke #[] 0 (lF w)).objs.size=s.heap.objs.size+1:=qx _ _;have p:l≠(s.heap.push<|ke #[] 0 (lF w)).objs.size:=by rw[sz];exact jY<|xh H
    have eQ:s.heap.objs.size∉[(s.heap.push<|ke #[] 0 (lF w)).objs.size,l]:=by rw[sz];simp only[kN,my,om,qW];exact⟨jY<|El _,qh H⟩
    obtain⟨St,W,o0,h0,T⟩:∃St,xc f w A.in1.in1.in1 (s.heap.push<|ke #[] 0 (lF w)).objs.size [(s.heap.push<|ke #[] 0 (lF w)).objs.size,l] [(s.heap.push<|ke #[] 0 (lF w)).objs.size] items.size (λi v=>items[i]?=zx v) St/\∃o0,St 0 ((s.heap.push<|ke #[] 0 (lF w)).push o0)/\
      ∀{A':iB}{Q:iU}{E},Q (.ref (s.heap.push<|ke #[] 0 (lF w)).objs.size) {s with heap:=(s.heap.push<|ke #[] 0 (lF w)).push o0}->ae (ah f w) A' (cH<|.ref l) Q E {s with heap:=s.heap.push (ke #[] 0 (lF w))}:=by
     rcases m with m|m
     .exact⟨_,Walks.list C _ l p items,_,⟨⟨_,kc _ rfl,rfl,rfl⟩,(m.push _).push _⟩,λh=>AQ (m.push _) h⟩
     exact⟨_,Walks.tuple C _ l p items,_,⟨⟨_,kc _ rfl,rfl,rfl⟩,(m.push _).push _⟩,λh=>IM (m.push _) h⟩
    unfold bo.«set.__init__» noKeywords j1;generalize G:cH=PI
    wp_walk
    subst G;refine T ?_;refine gW<|Iz ?_;refine OY W.toS s.heap.objs.size eQ _ k I0 (λi v d Q' E' hi hP J g hk=>?_) (items.size-0) 0 _ (by lia) (lz _) h0 (qU _ (jJ _ K)) (y3.refl λ_=>rfl) ?hR
    .refine step i v d _ Q' E' ?_ hP J (λb o e=>?_) g.gens g.drawn g.os hk
     .show A.units+1+1+1<=A.units+20;lia
     have z:=jc e;exact g.heap b o (by rw[sz];simp only[kN,my,om,qW];exact⟨jY z,jY<|xh z⟩)<|jJ _ (jJ _ e)
    case hR=>intro d g L;obtain⟨a,g',d',cN,dg⟩:=d;have eg:g'=s.gens:=g.gens;have ed:d'=s.drawn:=g.drawn;have eo:dg=s.os:=g.os;subst eg;subst ed;subst eo;show ae _ _ _ _ _ _;refine ik ?_;show ae _ _ (ret aw) _ _ _;refine ik ⟨rfl,a,cN,rfl,L,λb o e=>?_⟩;have z:=jc e;exact g.heap b o (by rw[sz];simp only[kN,my,om,qW];exact⟨jY z,jY<|xh z⟩)<|jJ _ (jJ _ e)
   cases I with
   |error e=>exact O
   |ok u=>
    cases u with
    |ret r=>
     obtain⟨rfl,a,y,rfl,L,fQ⟩:=O
     repeat (any_goals (first|assumption|wp_step))
     exact h _ _ L fQ
    |_=>exact O.elim
  |_=>exact N.elim
end
end TT
namespace PX
open L2 PySem.SeqAt TS
def Fi:D->Bool
 |.tup l=>D.GS l&&decide (D.P2 l<=6)
 |_=>Y
def rm(h:Fi d=C):∃l,d=.tup l:=by cases d<;>first|exact⟨_,rfl⟩|(simp[Fi]at h)
def wL(h:Fi d=C):D.pr d=C:=by obtain⟨l,rfl⟩:=rm h;simp only[Fi,la]at h;rw[D.pr];exact h.1
def uL(h:Fi d=C):d.dep<=7:=by obtain⟨l,rfl⟩:=rm h;simp -iota only[Fi,la,qw]at h;rw[D.dep];lia
def wZ(h1:D.pr x=C)(a:D.pr y=C):D.Q2 x y=C↔x=y:=by
 rw[JV x y h1 a];constructor
 .intro h;exact yo x y h1 a (by simpa using h)
 rintro rfl;rw[LW];rfl
def nE(a:List D)(d:D):List D:=if a.any (D.Q2 · d)=C then a else a++[d]
def ly(l:List D):List D:=l.foldl nE []
def Vm{p:D->Bool}(h1:b.all p=C)(a:p d=C):(nE b d).all p=C:=by
 unfold nE;split
 .exact h1
 rw[Ia,h1];simp[a]
def Ta(a:List D)(d:D):(nE a d).length<=AC a+1:=by unfold nE;split<;>simp
def mE{d i:Type}(f:d->i){g m:List i}(h:g.Perm m):∀l:List d,m=l.map f->∃c:List d,c.Perm l/\g=c.map f:=by
 induction h with
 |nil=>
  intro l e;have:l=[]:=by simpa using e.symm
  subst this;exact⟨[],.refl _,rfl⟩
 |cons x _ n=>
  intro l e
  cases l with
  |nil=>simp at e
  |cons y l=>simp -iota only[jI,cJ]at e;obtain⟨c,p,q⟩:=n l e.2;exact⟨y::c,p.cons y,by rw[q,e.1];rfl⟩
 |swap x y w=>
  intro l e
  cases l with
  |nil=>simp at e
  |cons a l=>
   cases l with
   |nil=>simp at e
   |cons b l=>simp -iota only[jI,cJ]at e;exact⟨b::a::l,.swap a b l,by rw[e.1,e.2.1,e.2.2];rfl⟩
 |trans _ _ j k=>intro l e;obtain⟨o,s,u⟩:=k l e;obtain⟨r,t,v⟩:=j o u;exact⟨r,t.trans s,v⟩
def zK{b d:Type}{F:b->d->Prop}{c m:List d}(h:c.Perm m):∀{z:List b},Paired F z m->∃a:List b,Paired F a c/\a.Perm z:=by
 induction h with
 |nil=>intro z p;exact⟨z,p,.refl _⟩
 |cons x _ i=>
  intro z p
  cases p with
  |cons r t=>obtain⟨a,h1,g⟩:=i t;exact⟨_::a,.cons r h1,g.cons _⟩
 |swap x y s=>
  intro z p
  cases p with
  |cons r t=>
   cases t with
   |cons o t=>exact⟨_,.cons o<|.cons r t,.swap _ _ _⟩
 |trans _ _ e f=>intro z p;obtain⟨u,j,l⟩:=f p;obtain⟨q,k,n⟩:=e j;exact⟨q,k,n.trans l⟩
def YP.zip{K U}{O:SI}:∀{l:List D}{b:List V},YP K U O l b->∀p∈l.zip b,Rep K U O p.1 p.2:=by
 intro f
 induction f with
 |nil=>intro b h p a;simp at a
 |cons d l e=>
  intro b h p a;rw[YP]at h;obtain⟨v,r,rfl,h1,c⟩:=h;rw[sQ]at a;rcases kN.mp a with rfl|a
  .exact h1
  exact e c p a
def YP.Jx{K U}{O:SI}:∀{l:List (D×V)},(∀p∈l,Rep K U O p.1 p.2)->YP K U O (l.map (·.1)) (l.map (·.2)):=by
 intro c
 induction c with
 |nil=>intro _;exact YP.nil
 |cons p l b=>intro h;exact YP.cons (h p jt)<|b λq a=>h q<|jx _ a
abbrev hv(p:D×V):Int×V:=(D.hash p.1,p.2)
theorem AU:∀(b:List D)(a:List V),(D.Cg b).zip a=(b.zip a).map hv
 |[],a=>by simp[D.Cg]
 |d::b,[]=>by simp
 |d::b,u::a=>by rw[D.Cg,sQ,sQ,jI,AU b a]
section
variable {X:Cx}{pins:iO}{σ:L2.St}{H:Hp}{s:hJ}
structure MM(X:Cx)(H:Hp)(O:SI)(h:iJ)(a:gU)(vs:List D)(es:qV)(n:Nat)(t:lH)(l:List (D×V)):Prop where
 is:TT.B4 X.w h a es n t
 perm:(l.map (·.1)).Perm vs
 rep:∀p∈l,Rep X.K H O p.1 p.2
 par:Paired (λ(z:Int×V) (e:Int×il)=>z.1=e.1/\RelV z.2 e.2) (l.map hv) es.toList
def MM.I0{a c b n t l}(S:MM X H O h a c b n t l)(k:∀o,h.get? a=J o->d.get? a=J o):MM X H O d a c b n t l:=⟨S.is.I0 k,S.perm,S.rep,S.par⟩
def wI{d c:Type}{F:d->c->Prop}{l:List d}{m:List c}(h:Paired F l m):∀{i:Nat}{b:c},m[i]?=J b->∃a,l[i]?=J a/\F a b:=by
 induction h with
 |nil=>intro i b h;simp at h
 |cons r t f=>
  intro i b h
  cases i with
  |zero=>simp at h;subst h;exact⟨_,rfl,r⟩
  |succ i=>obtain⟨a,h1,e⟩:=f (i:=i) (b:=b) (by simpa using h);exact⟨a,by simpa using h1,e⟩
def afT{a b:Type}{F:a->b->Prop}:∀{l:List a}{m:List b},Paired F l m->AC l=(AC m):=wo
def Bq{l:List (Int×V)}{m:List (Int×il)}(h:Paired (λ(z:Int×V) (e:Int×il)=>z.1=e.1/\RelV z.2 e.2) l m):l.map (·.1)=m.map (·.1):=by
 induction h with
 |nil=>rfl
 |cons r t a=>rw[jI,jI,r.1,a]
def MM.srch(I:Inv X pins σ H s){O Y:SI}{a:gU}{vs:List D}{M n t l}(S:MM X H O s.heap a vs M n t l)(hok:vs.all Fi=z8){d:D}{v:V}{u:il}(hd:jT X.K H Y d v)(ru:RelV v u)(J:Fi d=z8){A:iB}(hA:A.units+60<aS):
  ∃b,u=.ref b/\TT.JQ A s a M n t u d.hash (λi=>match l[i]? with|some p=>D.Q2 p.1 d|none=>z9):=by
 obtain⟨ld,rfl⟩:=rm J;obtain⟨b,xs,rfl,q,r⟩:=lM hd;cases ru;have hdp:=uL J;have fK:=wL J;have h:∀p∈l,Fi p.1=z8:=λp N=>ku.mp hok _ (S.perm.mem_iff.mp<|rP N)
 have at_:∀(i:Nat)(e:Int×il),M[i]?=zx e->∃p,l[i]?=zx p/\p∈l/\D.hash p.1=e.1/\RelV p.2 e.2:=λi e o=>by
  obtain⟨z,h1,f,L⟩:=wI S.par (i:=i) (b:=e) (by rw[kR];exact o);rw[jv]at h1
  cases hl:l[i]? with
  |none=>rw[hl]at h1;cases h1
  |some p=>rw[hl]at h1;cases h1;exact⟨p,rfl,lK hl,f,L⟩
 have U:∀(e:D)(y:V)(G:il)(C:SI)(B:iB)(P:iF)(W:iu)(Q:rN)(E:iU),Fi e=z8->jT X.K H C e y->RelV y G->Q z8 s->ae (ah P W) B (nm 8 G) Q E s:=λe y G C B P W Q E T hv hr x=>by
  obtain⟨le,rfl⟩:=rm T;rcases hv with hv|⟨_,_,hv⟩
  .exact T4 I 8 _ _ _ C B E Q hv hr (wL T) (by have:=uL T;lia) x
  exact hv.elim
 have l8:∀(e:D)(y:V)(G:il)(C:SI)(B:iB)(P:iF)(W:iu)(Q:rN)(E:iU),Fi e=z8->jT X.K H C e y->RelV y G->Q z9 s->ae (ah P W) B (c0 8 G) Q E s:=λe y G C B P W Q E T hv hr x=>by
  obtain⟨le,rfl⟩:=rm T;rcases hv with hv|⟨_,_,hv⟩
  .exact agm I 8 _ _ _ C B E Q hv hr (wL T) (by have:=uL T;lia) x
  exact hv.elim
 refine⟨b,rfl,⟨_,S.is.at_,rfl⟩,S.is.tab,λi e o=>?_,λi e o=>?_,λi e o x=>?_,λls g w E Q hls x=>?_⟩
 .obtain⟨p,h1,f,L,j⟩:=at_ i e o;obtain⟨lp,N⟩:=rm<|h p f;have:=S.rep p f;rw[N]at this;obtain⟨c,xs,R,_⟩:=this.tup;rw[R]at j;exact⟨c,j⟩
 .obtain⟨p,h1,f,L,j⟩:=at_ i e o;rw[h1];have:=uL<|h p f;exact B6 I 50 p.1 (.tup ld) p.2 (.ref b) _ _ O Y A (.inl<|S.rep p f) hd j rfl (by lia) (by lia) (by lia)
 .obtain⟨p,h1,f,L,j⟩:=at_ i e o;rw[h1]at x;rw[(wZ (wL<|h p f) fK).mp x]at L;exact L.symm
 unfold mL;refine gW ?_;refine yF _ (λm rr s'=>rr.1=z7/\s'=s/\∀v∈m,∃e∈M.toList,e.2=v) _ ?_ ?_ _ _ ⟨rfl,rfl,hls⟩
 .rintro y m rr s' ⟨Z,rfl,hm⟩;have k:∀v∈m,∃e∈M.toList,e.2=v:=λv hv=>hm v<|jx _ hv;obtain⟨e,o,rfl⟩:=hm y jt;obtain⟨i,hi⟩:=pk o;rw[kR]at hi;obtain⟨p,h1,f,L,j⟩:=at_ i e hi;obtain⟨lp,N⟩:=rm<|h p f;have F:=S.rep p f
  obtain⟨c,ec⟩:∃c,e.2=.ref c:=by rw[N]at F;obtain⟨c,xs,R,_⟩:=F.tup;rw[R]at j;exact⟨c,j⟩
  rw[ec]at j ⊢;dsimp only;split
  .exact ik ⟨rfl,rfl,k⟩
  refine gW (U _ _ _ Y A g w _ _ J hd rfl ?_);simp -iota only[rQ,jF,km];refine gW<|U _ _ _ O A g w _ _ (h p f) (.inl F) j ?_;simp -iota only[rQ,jF,km];refine gW<|l8 _ _ _ Y A g w _ _ J hd rfl ?_;simp -iota only[jF,km];refine gW<|l8 _ _ _ O A g w _ _ (h p f) (.inl F) j ?_;simp -iota only[jF,km];exact ik ⟨rfl,rfl,k⟩
 rintro⟨r1,r2⟩ s' ⟨Z,rfl,_⟩;simp only at Z;subst Z;exact ik x
def Ah.MS(U:Inv X pins σ H s)(h:Ah X.K (H a) .set o f us)(r:YP X.K H O f us):∃b n t l,MM X H O s.heap a f b n t l:=by
 obtain⟨_,m,e,p⟩:=h;obtain⟨b,n,t,h1,c,g,i,j⟩:=(show S1 X.prog X.w H s.heap a (.SS m)from U.hok a _ e)
 rw[AU]at p;obtain⟨l,d,rfl⟩:=mE hv p _ rfl;refine⟨b,n,t,l,⟨h1,by rw[<-Bq c];exact g,i,j⟩,?_,λq k=>r.zip q<|d.mem_iff.mp k,c⟩;have:=d.map (·.1);rw[ia<|by rw[r.length];exact jw _]at this;exact this
def MM.Jy{b n t l}(S:MM X H O h a c b n t l):S1 X.prog X.w H' h a (.SS<|l.map hv):=
 ⟨b,n,t,S.is.at_,S.par,by rw[Bq S.par];exact S.is.tab,S.is.plain,S.is.led⟩
def MM.Jk{b n t l}(S:MM X H O h a c b n t l):b.size=AC c/\(AC l)=(AC c):=by
 have h1:=afT S.par;have d:=S.perm.length_eq;simp only[jl,kn]at h1 d
 lia
def MM.R1{O:SI}{h:iJ}{a:gU}{e:List D}{g n t l}(S:MM X H O h a e g n t l){K H'}{O':SI}(k:∀p∈l,Rep K H' O' p.1 p.2)(i:H' a=J (.SS<|l.map hv)):∃f,Ah K (H' a) .set [] e f/\YP K H' O' e f:=by
 obtain⟨b,c,d⟩:=mE (·.1) S.perm.symm l At;refine⟨b.map (·.2),⟨rfl,l.map hv,i,?_⟩,?_⟩
 .rw[d,AU]
  have:(b.map (·.1)).zip (b.map (·.2))=b:=by
   clear c d
   induction b with
   |nil=>rfl
   |cons x l m=>rw[jI,jI,sQ,m]
  rw[this];exact(c.map hv).symm
 rw[d];exact YP.Jx λp j=>k p<|c.mem_iff.mp j
def MM.put{m h':iJ}{es n t l es' h t'}(S:MM X H O m a b es n t l)(q:b.any (D.Q2 · d)=Y)(j:Rep X.K H O d v)(y:RelV v u)(o:TT.B4 X.w h' a es' h t')(k:es'.toList.Perm ((d.hash,u)::es.toList)):∃f,MM X H O h' a (nE b d) es' h t' f:=by
 have g:Paired (λ(z:Int×V) (e:Int×il)=>z.1=e.1/\RelV z.2 e.2) (((d,v)::l).map hv) ((d.hash,u)::es.toList):=.cons ⟨rfl,y⟩ S.par;obtain⟨A,r,x⟩:=zK k g;obtain⟨f,i,rfl⟩:=mE hv x _ rfl;refine⟨f,o,?_,λp c=>?_,r⟩
 .rw[show nE b d=b++[d] by unfold nE;rw[q,iC kJ]];refine(i.map (·.1)).trans ?_;rw[jI];exact(S.perm.cons d).trans (NS d b).symm
 rcases kN.mp (i.mem_iff.mp c)with rfl|c
 .exact j
 exact S.rep p c
def MM.add(I:Inv X pins σ H s){N n t l}(S:MM X H O s.heap a g N n t l)(B:g.all Fi=z8)(hd:jT X.K H O' d v)(o:Rep X.K H O d v)(m:RelV v u)(k:Fi d=z8)(hz:(AC g)<500)
  (hA:A.units+60<aS)
  (h:∀r h' c f G t' L,s.toks<=c->aF a s.heap h'->MM X H O h' a (nE g d) f G t' L->Q r {s with heap:=h',toks:=c}):ae (ah X.prog X.w) A (eX a u) Q E s:=by
 obtain⟨bT,bJ⟩:=S.Jk;unfold eX;refine mU<|gW<|Yp 50 I d v u O A E _ o m (wL k) (by have:=uL k;lia) (by lia) λc M=>?_;have J:Inv X pins σ H {s with toks:=c}:=I.kept (h':=s.heap) (t':=c) λ_ _ e=>e;obtain⟨b,rfl,Y⟩:=MM.srch (s:={s with toks:=c}) J S B hd m k hA;have T:∀p∈l,p.1∈g:=λp C=>S.perm.mem_iff.mp<|rP C;refine TT.acq Y S.is.at_ S.is.plain (by lia) (λU j=>abG J 8 d v _ O A E U o m (wL k) (by have:=uL k;lia) j) (λ⟨i,y,j⟩=>?_) λr0 h' f G t' g1 g2 P R V W=>?_
 .have:nE g d=g:=by
   unfold nE
   cases z:l[i]? with
   |none=>rw[z]at j;cases j
   |some p=>rw[z]at j;rw[ie<|Cn.mpr ⟨p.1,T p<|lK z,j⟩]
  exact h z9 s.heap c N n t l M (AL a s.heap) (by rw[this];exact S)
 have v5:g.any (D.Q2 · d)=z9:=by rw[Mc];intro x Z;have F:=S.perm.mem_iff.mpr Z;obtain⟨p,C,rfl⟩:=kO.mp F;obtain⟨i,y⟩:=pk C;have:=r0 i (by have:=(qX.mp y).1;lia);rw[y]at this;simpa using this
 obtain⟨L,q⟩:=S.put v5 o m ⟨g2,R,V,W.trans S.is.led⟩ P;exact h z8 h' c f G t' L M g1 q
def U0:D->Option (D×Bool)
 |.lst l|.tup l=>if l.all Fi=C/\(AC l)<500 then J (.R1 .set []<|ly l,C)else I
 |_=>I
def afI{l:List D}{i:Nat}{d:D}(h:l[i]?=J d):ly (l.take<|i+1)=nE (ly<|l.take i) d:=by unfold ly;rw[Ip,h,IA];rfl
def Sx{p:D->Bool}:∀(l a:List D),l.all p=C->a.all p=C->(l.foldl nE a).all p=C:=by
 intro e
 induction e with
 |nil=>intro a _ h;exact h
 |cons d l c=>intro a h1 b;rw[vX,la]at h1;exact c _ h1.2 (Vm b h1.1)
def zt:∀(l a:List D),(l.foldl nE a).length<=AC a+(AC l):=by
 intro c
 induction c with
 |nil=>intro a;simp
 |cons d l b=>intro a;have:=b<|nE a d;have:=Ta a d;simp only[oU,kG];lia
def S0{p:D->Bool}{l:List D}(h:l.all p=C)(i:Nat):(l.take i).all p=C:=by rw[ku]at h ⊢;exact λx a=>h x<|yH a
def Sw:∀(l a:List D),AC a<=(l.foldl nE a).length:=by
 intro l
 induction l with
 |nil=>intro a;exact jw _
 |cons d l b=>intro a;refine kK ?_<|b<|nE a d;unfold nE;split<;>simp
def Jf{ok:D->Bool}{pins:iO}{s:hJ}{σ:L2.St}{H:Hp}{x:V}{u:il}{Q:VK}{O:SI}{d:D}{l:List D}(hc:X.calm=C)(I:Inv X pins σ H s)(ru:RelV x u)(hd:jT X.K H O d x)(hl:d=.lst l\/d=.tup l)(T:l.all ok=C)(hz:(ly l).length<500)(G:Gen X.K H O (.R1 .set []<|ly l,C) Q)
  (add:∀{j:hJ}{B:iB}{E':iU}{Q':rN}{Y:List D}{d:D}{x:V}{w:il}{a:gU}{m n t g},Inv X pins σ H j->MM X H O j.heap a Y m n t g->Y.all ok=C->Rep X.K H O d x->RelV x w->ok d=C->Y.length<500->(X.A.units+90<aS->B.units+60<aS)->
   (∀r C' tk y n' t' fx,j.toks<=tk->aF a j.heap C'->MM X H O C' a (nE Y d) y n' t' fx->Q' r {j with heap:=C',toks:=tk})->ae (ah X.prog X.w) B (eX a w) Q' E' j):
  ae (ah X.prog X.w) X.A (call (.type "set") [u]) (EP X pins σ Q) X.xe s:=by
 obtain⟨p,f,c,rfl,r,v,N⟩:∃p f c,x=.ref p/\YP X.K H O l f/\Vals f c/\(s.heap.IsList p c.toArray\/s.heap.IsTuple p c.toArray):=by
  rcases hl with rfl|rfl
  .obtain⟨p,f,rfl,q,r⟩:=kL hd;obtain⟨c,v,N,_⟩:=I.list q;exact⟨p,f,c,rfl,r,v,.inl N.isList⟩
  obtain⟨p,f,rfl,q,r⟩:=lM hd;obtain⟨c,v,N,_⟩:=I.tuple q;exact⟨p,f,c,rfl,r,v,.inr N⟩
 cases ru;have e1:=r.length;have e2:=v.length;have hh:X.A.handled=z7:=I.ok.hd hc;have U:=I.fresh
 refine TT.Y9 hh N (λi h=>∃m n t g,MM X H O h s.heap.objs.size (ly<|l.take i) m n t g) (λi h C' ⟨m,n,t,g,S⟩ k=>⟨m,n,t,g,S.I0 k⟩)
  (λC' e=>⟨#[],0,_,[],⟨TT.Y8 e,by simp[ly],λp P=>by simp at P,.nil⟩⟩) (λi w j B Q' E' hB hi F hk hg L bt E=>?_) (λC' tk F hk=>?_)
 .obtain⟨m,n,t,g,S⟩:=F
  have hil:i<c.length:=by have:=(Nw.mp hi).1;simpa using this
  have hw:c[i]?=zx w:=by simpa using hi
  have M:f[i]?=zx f[i]:=jq (by omega);have gk:l[i]?=zx l[i]:=jq (by omega);obtain⟨w',w1,w2⟩:=v.get M;rw[hw]at w1;cases w1;have J:Rep X.K H O l[i] f[i]:=r.views gk M;have aC:ok l[i]=C:=ku.mp T _ (vO _);obtain⟨h1,g1,dr1,W,os1⟩:=j;dsimp only at hk hg L bt E S;subst hg;subst L;subst bt;have I':Inv X pins σ H {s with heap:=h1,toks:=W}:=I.kept hk;refine add I' S (Sx _ _ (S0 T i) rfl) J w2 aC ?_ (λ_=>by omega) λrr h2 eZ y n' t' fx a1 a2 Z=>?_
  .have:=Sw (l.drop i)<|ly<|l.take i;unfold ly at this hz ⊢;rw[<-IA,sU]at this;omega
  rw[<-afI gk]at Z;exact E rr h2 eZ a1 a2 ⟨y,n',t',fx,Z⟩
 obtain⟨m,n,t,g,S⟩:=F;have R:c.toArray.size=l.length:=by simp;omega
 rw[R,List.take_length]at S;refine⟨.ref s.heap.objs.size,upd H s.heap.objs.size<|.SS<|g.map hv,I.laid hk (jw _) S.Jy,rfl,?_⟩;refine G s.heap.objs.size _ U (lW U) ?_;exact S.R1 (λp P=>Rep.mono (λb o e _=>lW U b o e) (λb hb z=>z.elim id λz=>absurd (z▸U) hb)<|S.rep p P) iQ
def agY(j:X.calm=C)(m:X.A.units+90<aS):kg X (.type "set") (Cz X.K<|g1 U0):=nC λpins s σ H x u Q O d z U n np hd f G=>by
 cases d with
 |lst l=>obtain⟨⟨a,b⟩,rfl⟩:=iK f;exact Jf j U n hd (.inl At) a (DY (by have:=zt l [];simpa[ly]using this) b) G λU S g c rw i h e k=>MM.add U S g (.inl c) c rw i h (e m) k
 |tup l=>obtain⟨⟨a,b⟩,rfl⟩:=iK f;exact Jf j U n hd (.inr At) a (DY (by have:=zt l [];simpa[ly]using this) b) G λU S g c rw i h e k=>MM.add U S g (.inl c) c rw i h (e m) k
 |_=>cases f
end
def Pm(a:l.Perm m)(b:∀x∈l,D.pr x=C):lC A1 l=lC A1 m:=Pj (λx c=>b x<|a.mem_iff.mpr c) ((jA A1 l).trans a)<|qF l
def agH{k:Nat}{l:List D}(h:ES k l):nL l=C:=by
 unfold nL;rw[yD];right
 cases l with
 |nil=>rfl
 |cons x m=>simp only[la,ku,qw];refine⟨⟨by rw[h.hd x jt];rfl,λy a=>⟨⟨?_,h.pr y a⟩,h.dp y a⟩⟩,λy a z b=>h.cm y a z b⟩;rw[h.hd x jt,h.hd y a];simp
def afd(b:l.Perm m)(h:nL m=C):nL l=C:=by
 rcases C6 h with c|⟨k,B⟩
 .unfold nL;rw[yD];left;rw[b.length_eq];simpa using c
 exact agH (k:=k) ⟨λx a=>B.hd x<|b.mem_iff.mp a,λx a=>B.pr x<|b.mem_iff.mp a,λx a=>B.dp x<|b.mem_iff.mp a,λx a y d=>B.cm x (b.mem_iff.mp a) y<|b.mem_iff.mp d⟩
def qO(d:D):Option (D×Bool):=match d with
 |.R1 .set [] a=>if a.all Fi=C then jz a else I
 |_=>ma d
section
variable {X:Cx}
def Dx{d:Type}{c:Prop}[Decidable c]{a:Option d}{b:d}(h:(if c then a else I)=J b):c/\a=J b:=by
 split at h
 .exact⟨‹_›,h⟩
 cases h
def C5{c:iO}{s:hJ}{B:L2.St}{H:Hp}{x:V}{u:il}{Q:VK}{O:SI}{i:List D}{z:D×Bool}(N:X.calm=z8)(Y:X.A.units+62<aS)(I:Inv X c B H s)(ru:RelV x u)(np:∀p,¬Ow (H p)->¬O p)(hd:jT X.K H O (.R1 .set [] i) x)(j:∀x∈i,D.pr x=z8)(h:jz i=zx z)(G:Gen X.K H O z Q):
  ae (ah X.prog X.w) X.A (call (.builtin "sorted") [u]) (EP X c B Q) X.xe s:=by
 obtain⟨a,us,rfl,q,r⟩:=qB hd;cases ru;obtain⟨f,n,t,l,S⟩:=q.MS I r;obtain⟨C,bJ⟩:=S.Jk;have wp:=TT.HP X.w a n f;obtain⟨z',g,v⟩:=zK wp S.par;obtain⟨b,o,rfl⟩:=mE hv v _ rfl;have y:YP X.K H O (b.map (·.1)) (b.map (·.2)):=YP.Jx λp j=>S.rep p<|o.mem_iff.mp j
 have R:Vals (b.map (·.2)) ((TT.qT X.w a n f).toList.map (·.2)):=by
  clear v o y wp;generalize (TT.qT X.w a n f).toList=m at g;revert g;generalize d:b.map hv=zz;intro g
  induction g generalizing b with
  |nil=>
    have:b=[]:=by simpa using d
    subst this;exact .nil
  |cons r t ih=>
   cases b with
   |nil=>simp at d
   |cons p b=>simp only[jI,cJ]at d;rw[jI,jI];refine .cons ?_<|ih b d.2;have:=r.2;rw[<-d.1]at this;exact this
 have e:(b.map (·.1)).Perm i:=(o.map (·.1)).trans S.perm
 have E:jz (b.map (·.1))=zx z:=by unfold jz at h ⊢;obtain⟨⟨h1,J⟩,rfl⟩:=iK h;rw[ie ⟨afd e h1,by rw[e.length_eq];exact J⟩,Pm e λx F=>j x<|e.mem_iff.mp F]
 have U:X.A.handled=z7:=I.ok.hd N
 have d:f.size<=sizeLine:=by unfold jz at h;rw[C];exact(iK h).1.2
 exact qE Y I y R E G λQ' Z W L M=>TT.Ve (by rw[L];exact U) S.is d λT P k=>M T P k
def aeW(m:X.calm=C)(k:X.A.units+62<aS):kg X (.builtin "sorted") (Cz X.K<|g1 qO):=nC λc s o U x u Q O d z T l np hd h G=>by
 by_cases i:∃e,d=.R1 .set [] e
 .obtain⟨e,rfl⟩:=i;obtain⟨f,g⟩:=Dx (show(if e.all Fi=C then jz e else I)=J z from h);exact C5 m k T l np hd (λx n=>wL<|ku.mp f x n) g G
 have g:g1 ma [d]=J z:=by
  have:qO d=ma d:=by
   unfold qO;split
   .exact absurd ⟨_,rfl⟩ i
   rfl
  show ma d=J z;rw[<-this];exact h
 exact nD k c s o U [x] [u] Q T (.cons l .nil) ⟨O,[d],z,np,rfl,(λj p q a b=>by
  cases j with
  |zero=>simp at a b;subst a;subst b;exact hd
  |succ j=>simp at a),g,G⟩
end
end PX
namespace L2
section
variable {κ:Type}[DecidableEq κ]
def uW(a:List (κ×V))(k:κ):Option V:=(a.find? λb=>decide<|b.1=k).map (·.2)
def si(a:List (κ×V))(k:κ)(v:V):List (κ×V):=
 if(a.any λb=>decide<|b.1=k)=C then a.map (λb=>if b.1=k then(b.1,v)else b)else a++[(k,v)]
theorem xo{p:κ×V}{r:List (κ×V)}{k:κ}(e:p.1=k):uW (p::r) k=J p.2:=by simp[uW,yy,e]
theorem tK{p:κ×V}{r:List (κ×V)}{k:κ}(e: ¬p.1=k):uW (p::r) k=uW r k:=by simp[uW,yy,e]
theorem Gf(k:κ):∀a:List (κ×V),(a.any λb=>decide<|b.1=k)=(uW a k).isSome
 |[]=>rfl
 |p::r=>by
  rw[sO];by_cases e:p.1=k
  .simp only[xo e,kj e,m8,fI]
  rw[tK e,kr e,mj];exact Gf k r
theorem zR(a:List (κ×V))(k:κ)(v:V):(si a k v).length<=AC a+1:=by
 unfold si;split
 .rw[jl];lia
 rw[lA,kG,vN];lia
theorem J7.Ai{o:Option V}{u:Option il}(r:J7 o u):o.isSome=u.isSome:=by
 cases o with
 |none=>cases u with
  |none=>rfl
  |some _=>exact(show False from r).elim
 |some _=>cases u with
  |none=>exact(show False from r).elim
  |some _=>rfl
theorem KV.val{kvs:List (κ×V)}{d:List (κ×il)}(r:KV kvs d)(k:κ):J7 (uW kvs k) (fw d k):=by
 unfold KV at r
 induction r with
 |nil=>exact bB
 | @cons p q i c h t g=>
  obtain⟨h1,f⟩:=h;by_cases e:p.1=k
  .have a:q.1=k:=h1.symm.trans e;have b:fw (q::c) k=J q.2:=by simp[fw,yy,a]
   rw[xo e,b];exact f
  have a: ¬q.1=k:=λz=>e<|h1.trans z;have b:fw (q::c) k=fw c k:=by simp[fw,yy,a]
  rw[tK e,b];exact g
theorem KV.any{a:List (κ×V)}{c:List (κ×il)}(r:KV a c)(k:κ):(a.any λb=>decide<|b.1=k)=c.any λb=>decide (b.1=k):=by
 unfold KV at r
 induction r with
 |nil=>rfl
 |cons h t d=>rw[sO,sO,d,h.1]
theorem KV.M3{b:List (κ×V)}{c:List (κ×il)}(r:KV b c)(k:κ){y:V}{u:il}(g:RelV y u):
  KV (b.map λa=>if a.1=k then(a.1,y)else a) (c.map λa=>if a.1=k then(a.1,u)else a):=by
 unfold KV at r ⊢
 induction r with
 |nil=>exact .nil
 | @cons p q i j h t f=>
  rw[jI,jI];refine .cons ?_ f;obtain⟨h1,d⟩:=h;by_cases e:p.1=k
  .rw[ie e,ie<|h1.symm.trans e];exact⟨h1,g⟩
  rw[iC e,iC λz=>e<|h1.trans z];exact⟨h1,d⟩
theorem KV.put{a:List (κ×V)}{b:List (κ×il)}(r:KV a b)(k:κ){y:V}{u:il}(c:RelV y u):KV (si a k y) (stored b k u):=by
 unfold si stored;rw[r.any k];by_cases e:(b.any λd=>decide<|d.1=k)=C
 .rw[ie e,ie e];exact r.M3 k c
 rw[iC e,iC e];exact Paired.snoc r ⟨rfl,c⟩
theorem KV.length{a:List (κ×V)}{b:List (κ×il)}(r:KV a b):(AC a)=(AC b):=wo r
end
def Dv{P:iF}{w:iu}{k:Key}{u:il}(r:RelV (kV k) u):(lb P w).is k u=C:=by
 cases k with
 |inl i=>obtain⟨t,e⟩:=(show ∃t,u=fk i t from r);subst e;exact aeZ P w i t
 |inr x=>obtain⟨t,e⟩:=(show ∃t,u=gu x t from r);subst e;exact aeY P w x t
theorem Dw{P:iF}{w:iu}:∀{a:List Key}{b:ju},Vals (a.map kV) b->ItemsAre (lb P w) a b
 |[],_,r=>by rw[sH]at r;cases r;exact .nil
 |k::a,_,r=>by
  rw[jI]at r
  cases r with
  |cons h t=>exact .cons (Dv h)<|Dw t
abbrev KT(U:Hp):List (List Key×V)->List (List Key×gU×il)->Prop:=Paired λp q=>p.1=q.1/\U q.2.1=J (.tup<|p.1.map kV)/\RelV p.2 q.2.2
def KT.val{U:Hp}{kvs:List (List Key×V)}{d:List (List Key×gU×il)}(r:KT U kvs d)(k:List Key):J7 (uW kvs k) ((f6 d k).map (·.2)):=by
 induction r with
 |nil=>exact bB
 | @cons p q i c h t g=>
  obtain⟨h1,_,f⟩:=h;by_cases e:p.1=k
  .have a:q.1=k:=h1.symm.trans e;have b:f6 (q::c) k=J q.2:=by simp[f6,yy,a]
   rw[xo e,b];exact f
  have a: ¬q.1=k:=λz=>e<|h1.trans z;have b:f6 (q::c) k=f6 c k:=by simp[f6,yy,a]
  rw[tK e,b];exact g
def KT.M3{U:Hp}{a:List (List Key×V)}{d:List (List Key×gU×il)}(r:KT U a d)(k:List Key){y:V}{u:il}(i:RelV y u):
  KT U (a.map λb=>if b.1=k then(b.1,y)else b) (d.map<|putAt k u):=by
 induction r with
 |nil=>exact .nil
 | @cons p q j l h t g=>
  rw[jI,jI];refine .cons ?_ g;obtain⟨h1,c,f⟩:=h;unfold putAt;by_cases e:p.1=k
  .rw[ie e,ie<|h1.symm.trans e];exact⟨h1,c,i⟩
  rw[iC e,iC λz=>e<|h1.trans z];exact⟨h1,c,f⟩
def KT.put{U:Hp}{a:List (List Key×V)}{c:List (List Key×gU×il)}(r:KT U a c)(k:List Key){b:gU}{y:V}{u:il}(f:U b=J (.tup<|k.map kV))(d:RelV y u):
  KT U (si a k y) (storedH c k b u):=by
 have e:(a.any λg=>decide<|g.1=k)=(f6 c k).isSome:=by rw[Gf,(r.val k).Ai,H9]
 unfold si storedH;rw[e];by_cases q:(f6 c k).isSome=C
 .rw[ie q,ie q];exact r.M3 k d
 rw[iC q,iC q];exact Paired.snoc r ⟨rfl,f,d⟩
def KT.keeps{U c:Hp}{a:List (List Key×V)}{d:List (List Key×gU×il)}(r:KT U a d)(f:∀b e,U b=J (.tup e)->c b=J (.tup e)):KT c a d:=
 Paired.Md r λ_ _ z=>⟨z.1,f _ _ z.2.1,z.2.2⟩
section
variable {P:iF}{w:iu}{H:Hp}{h:iJ}{a:gU}
def V1{u:HO}(ok:Cr P w H h)(e:Rd H a u):S1 P w H h a u:=e.ok ok
def Sm{b:List (Key×V)}(ok:Cr P w H h)(e:Rd H a (.dK b)):(AC b)<=sizeLine/\(a==bx)=Y/\∃c,KV b c/\h.DictOf (lb P w) a c:=
 show S1 P w H h a (.dK b)from V1 ok e
def Sn{b:List (Key×V)}(ok:Cr P w H h)(e:H a=J (.dK b)):(AC b)<=sizeLine/\(a==bx)=Y/\∃c,KV b c/\h.DictOf (lb P w) a c:=Sm ok<|.inl e
def zf{c:List Key}(ok:Cr P w H h)(e:H a=J (.tup<|c.map kV)):(db<|lb P w).is h c a:=by
 obtain⟨_,b,r,o,h1,d,n,f⟩:=(show S1 P w H h a (.tup<|c.map kV)from ok a _ e)
 exact⟨o,b.toArray,n,h1,d,f,by simpa using Dw r⟩
def Sj{b:List (List Key×V)}(ok:Cr P w H h)(e:Rd H a (.dT b)):(AC b)<=sizeLine/\(a==bx)=Y/\
  ∃d,KT H b d/\h.DictOfH (db<|lb P w) a d:=by
 obtain⟨z,y,d,r,o,i,g,h1,j,k,n,s⟩:=(show S1 P w H h a (.dT b)from V1 ok e)
 refine⟨z,y,d,r,o,i,g,h1,j,k,n,λx c=>?_,s⟩
 have all:∀{l:List (List Key×V)}{m:List (List Key×gU×il)},KT H l m->∀x∈m,(db<|lb P w).is h x.1 x.2.1:=by
  intro l m q
  induction q with
  |nil=>intro x c;exact nomatch c
  | @cons p q v A f t u=>
   intro x c;rcases kN.mp c with e|c
   .subst e;exact zf ok (by rw[<-f.1];exact f.2.1)
   exact u x c
 exact all r x c
def Sk{b:List (List Key×V)}(ok:Cr P w H h)(e:H a=J (.dT b)):(AC b)<=sizeLine/\(a==bx)=Y/\
  ∃c,KT H b c/\h.DictOfH (db<|lb P w) a c:=Sj ok<|.inl e
end
def Fy(U:Hp)(a:gU)(y:V)(r:Option V):Prop:=
 (∃c k,Rd U a (.dK c)/\y=kV k/\r=uW c k)\/∃c k b,Rd U a (.dT c)/\y=.ref b/\U b=J (.tup<|k.map kV)/\r=uW c k
def Fv(U:Hp)(a:gU)(y v:V)(c:Hp):Prop:=
 (∃kvs k,U a=J (.dK kvs)/\y=kV k/\(AC kvs)<sizeLine/\c=upd U a (.dK<|si kvs k v))\/
 ∃kvs k b,U a=J (.dT kvs)/\y=.ref b/\U b=J (.tup<|k.map kV)/\(AC kvs)<sizeLine/\c=upd U a (.dT<|si kvs k v)
def Fy.k{U:Hp}{a:gU}{kvs:List (Key×V)}{k:Key}(e:U a=J (.dK kvs)):Fy U a (kV k) (uW kvs k):=.inl ⟨kvs,k,.inl e,rfl,rfl⟩
def Fy.t{U:Hp}{a b:gU}{kvs:List (List Key×V)}{k:List Key}(e:U a=J (.dT kvs))(c:U b=J (.tup<|k.map kV)):Fy U a (.ref b) (uW kvs k):=.inr ⟨kvs,k,b,.inl e,rfl,c,rfl⟩
def Fv.k{U:Hp}{a:gU}{kvs:List (Key×V)}{k:Key}{v:V}(e:U a=J (.dK kvs))(b:(AC kvs)<sizeLine):Fv U a (kV k) v (upd U a<|.dK<|si kvs k v):=.inl ⟨kvs,k,e,rfl,b,rfl⟩
def Fv.t{U:Hp}{a b:gU}{kvs:List (List Key×V)}{k:List Key}{v:V}(e:U a=J (.dT kvs))(c:U b=J (.tup<|k.map kV))(d:(AC kvs)<sizeLine):
  Fv U a (.ref b) v (upd U a<|.dT<|si kvs k v):=.inr ⟨kvs,k,b,e,rfl,c,d,rfl⟩
section
variable {X:Cx}{d:iO}{f:St}{H:Hp}{s:hJ}{a:gU}{y v:V}{u r:il}{o:Option V}{A:iB}{E:iU}
def Inv.big(U:Inv X d f H s):bx<s.heap.objs.size:=by have h:ap<s.heap.objs.size:=(U.mod.glob.keeps U.bk).lt;exact En (by decide) h
def abZ{Q:iU}(t:A.units+1<aS)(U:Inv X d f H s)(g:Fy H a y o)(m:RelV y u)(h:∀n,Inv X d f H n->Q (.bool o.isSome) n):
  ae (ah X.prog X.w) A (au .In u<|.ref a) Q E s:=by
 rcases g with⟨j,k,e,i,l⟩|⟨j,k,b,e,i,p,l⟩
 .subst i;obtain⟨z,hd,x,c,dd⟩:=Sm U.hok e;refine wT (Dv m) hd dd.mapOf ?_;rw[<-(c.val k).Ai,<-l];exact h _ (U.tok _)
 subst i;cases(show u=bV b from m);obtain⟨z,hd,B,c,dd⟩:=Sj U.hok e;refine u5 (Av t) (zf U.hok p) hd dd ?_;have q:=(c.val k).Ai;rw[H9]at q;rw[<-q,<-l];exact h _ (U.tok _)
def LN{Q:iU}(t:A.units+1<aS)(U:Inv X d f H s)(g:Fy H a y o)(m:RelV y u)(h:∀n,Inv X d f H n->Q (.bool (!o.isSome)) n):
  ae (ah X.prog X.w) A (au .NotIn u<|.ref a) Q E s:=by
 rcases g with⟨j,k,e,i,l⟩|⟨j,k,b,e,i,p,l⟩
 .subst i;obtain⟨z,hd,x,c,dd⟩:=Sm U.hok e;refine sn (Dv m) hd dd.mapOf ?_;rw[<-(c.val k).Ai,<-l];exact h _ (U.tok _)
 subst i;cases(show u=bV b from m);obtain⟨z,hd,B,c,dd⟩:=Sj U.hok e;refine n7 (Av t) (zf U.hok p) hd dd ?_;have q:=(c.val k).Ai;rw[H9]at q;rw[<-q,<-l];exact h _ (U.tok _)
def yg{h':iJ}{t':Nat}{c:HO}(U:Inv X d f H s)(j:Mp (H a))(i:aF a s.heap h')(h:∃q,h'.get? a=J q)(new:S1 X.prog X.w (upd H a c) h' a c):
  Inv X d f (upd H a c) {s with heap:=h',toks:=t'}:=
 U.write (x:=a) (e:=a) j (.inl At) (λb q g z=>(i.2 b g).trans z) h new
def YL{P:iF}{w:iu}{h:Hp}{g:iJ}{b:List (Key×V)}{e:List (Key×il)}(z:(AC b)<=sizeLine)(hd:(a==bx)=Y)(c:KV b e)(dd:g.DictOf (lb P w) a e):
  S1 P w h g a (.dK b):=⟨z,hd,e,c,dd⟩
def zu{L:Hp}{Q:Unit->hJ->Prop}(hu:A.units+1<aS)(I:Inv X d f H s)(g:Fv H a y v L)(M:RelV y u)(J:RelV v r)(h:∀N,Inv X d f L N->Q () N):
  ae (ah X.prog X.w) A (gm (.ref a) u r) Q E s:=by
 rcases g with⟨i,k,e,t,l,p⟩|⟨i,k,b,e,t,O,l,p⟩
 .subst t p;obtain⟨z,hd,S,j,dd⟩:=Sn I.hok e;have C:S.length<=sizeLine:=by rw[<-j.length];exact z
  have x:(si i k v).length<=sizeLine:=by have:=zR i k v;lia
  refine wpAny_setItem_pairs (hsz:=C) (Dv M) dd λG m B=>h _ ?_;have R:∃q,G.get? a=zx q:=let⟨q,_,_,n,_⟩:=m;⟨q,n⟩
  exact yg I (by rw[e];exact bB) B R<|YL x hd (j.put k J) m
 subst t p;cases(show u=bV b from M);obtain⟨z,hd,V,j,dd⟩:=Sk I.hok e;have C:V.length<=sizeLine:=by rw[<-wo j];exact z
 have x:(si i k v).length<=sizeLine:=by have:=zR i k v;lia
 refine wpAny_setItem_heap (hsz:=C) (Av hu) (zf I.hok O) dd λG m B=>h _ ?_;obtain⟨q,Y,U,n,D,F,K,_,P⟩:=m;refine yg I (by rw[e];exact bB) B ⟨q,n⟩ ⟨x,hd,_,(j.put k O J).keeps λc W T=>?_,q,Y,U,n,D,F,K,P⟩;rw[iW<|Wa T e (λz=>nomatch z)];exact T
end
def So{P:iF}{w:iu}{U:Hp}(h:iJ)(a:bx<h.objs.size):S1 P w U (h.push {cls:=.type "dict",data:=.dict #[]}) h.objs.size (.dK []):=
 ⟨lz _,Cm.mpr<|vt<|jY a,[],.nil,Heap.DictOf.new h⟩
def WW:TE:=λ_ U Q=>∀p,U p=I->Q (.ref p) (upd U p<|.dK [])
section
variable {X:Cx}{b:bp}
def Qm:PE X (.Dict [] [] b) WW:=λc s d U Q T h=>wpAny_Dict_empty ⟨.ref s.heap.objs.size,_,T.laid (a:=s.heap.objs.size) (o:=.dK []) (t':=s.toks) (λ_ _ q=>jJ _ q) (jw _)<|So s.heap T.big,rfl,h _ (T.hok.fresh<|jw _)⟩
end
end L2
namespace PX
open L2 PySem.SeqAt TS
noncomputable def BE:D->Option Key
 |.int i=>J<|.inl i
 |.str x=>J<|.inr x
 |_=>I
def Hj:List D->Option (List Key)
 |[]=>J []
 |d::l=>(BE d).bind λk=>(Hj l).map (k:: ·)
def EZ:D->Option (List Key)
 |.tup l=>Hj l
 |_=>I
def qM(h:BE d=J k):d=ky k:=by
 cases d<;>simp[BE]at h<;>subst h<;>rfl
def Rt:∀{l:List D}{a:List Key},Hj l=J a->l=a.map ky:=by
 intro e
 induction e with
 |nil=>intro a h;cases h;rfl
 |cons d l c=>intro a h;rw[Hj]at h;obtain⟨k,h1,h⟩:=gS h;obtain⟨m,b,rfl⟩:=jy h;rw[qM h1,c b];rfl
def xP(h:EZ d=J a):d=.tup (a.map ky):=by
 cases d with
 |tup l=>rw[Rt (show Hj l=J a from h)]
 |_=>cases h
def yf(a b:Key):D.Q2 (ky a) (ky b)=decide (a=b):=by
 cases a with
 |inl i=>cases b with
  |inl j=>simp only[ky,D.Q2,Rr]
  |inr y=>simp only[ky,D.Q2,Rq]
 |inr x=>cases b with
  |inl j=>simp only[ky,D.Q2,Ro]
  |inr y=>simp only[ky,D.Q2,Rm];rfl
theorem uS:∀a b:List Key,D.K3 (a.map ky) (b.map ky)=decide (a=b)
 |[],[]=>by simp[D.K3]
 |[],_::_=>by simp[D.K3]
 |_::_,[]=>by simp[D.K3]
 |x::a,y::b=>by simp only[jI];rw[D.K3,yf,uS a b];simp only[cJ,kv]
def oX:List D->List D->D->Option D
 |a::b,v::c,k=>if D.Q2 a k=C then J v else oX b c k
 |_,_,_=>I
def vD:List D->List D->D->D->List D
 |b::c,v::a,k,w=>(if D.Q2 b k=C then w else v)::vD c a k w
 |_,a,_,_=>a
def uY(a b:List D)(k w:D):List D×List D:=if a.any (D.Q2 · k)=C then(a,vD a b k w)else(a++[k],b++[w])
def xR(a:List D)(k:D):Bool:=((BE k).isSome&&a.all λx=>(BE x).isSome)||((EZ k).isSome&&a.all λx=>(EZ x).isSome)
section
variable {K:iA}{H:Hp}{O:SI}
def GB(h:Rep K H O (ky k) v):v=kV k:=by
 cases k with
 |inl i=>exact Rep.int h
 |inr x=>exact Rep.str h
def agN:∀{b:List Key}{a:List V},YP K H O (b.map ky) a->a=b.map kV:=by
 intro e
 induction e with
 |nil=>intro a h;rw[sH,YP]at h;exact h
 |cons k b d=>intro a h;rw[jI,YP]at h;obtain⟨v,r,rfl,h1,c⟩:=h;rw[GB h1,d c];rfl
def uz(hk:BE d=J k)(h:jT K H O d v):v=kV k:=by
 rw[qM hk]at h;rcases h with h|⟨a,rfl,h⟩
 .exact GB h
 cases k<;>exact h.elim
def uy(hk:EZ d=J c)(h:jT K H O d v):∃b,v=.ref b/\H b=J (.tup<|c.map kV):=by
 rw[xP hk]at h;rcases h with h|⟨a,rfl,h⟩
 .obtain⟨b,e,rfl,q,r⟩:=h.tup;rw[agN r]at q;exact⟨b,rfl,q.1⟩
 exact h.elim
def acB(a b:List Key):D.Q2 (.tup<|a.map ky) (.tup<|b.map ky)=decide (a=b):=by rw[D.Q2,uS]
theorem JD{j:Type}[DecidableEq j]{f:j->D}{k:j}(l:∀a b,D.Q2 (f a) (f b)=decide (a=b)):∀{c:List (j×V)}{g:List D},YP K H O g (c.map (·.2))->(∀d,oX (c.map λp=>f p.1) g (f k)=J d->∃v,uW c k=J v/\Rep K H O d v)/\(oX (c.map λp=>f p.1) g (f k)=I->uW c k=I)
 |[],g,_=>⟨λd h=>by cases g<;>simp[oX]at h,λ_=>rfl⟩
 |(i,v)::c,[],h=>by rw[jI,YP]at h;cases h
 |(i,v)::c,t::g,h=>by
  rw[jI,YP]at h;obtain⟨w,r,e,h1,m⟩:=h;obtain⟨rfl,rfl⟩:=ve e;obtain⟨q,s⟩:=JD l m;simp only[jI,oX,l];by_cases hk:i=k
  .simp only[hk,decide_true,kz];exact⟨λd h=>by cases h;exact⟨v,xo (p:=(k,v)) At,h1⟩,λh=>by cases h⟩
  simp only[hk,decide_false,jF,km];refine⟨λd h=>?_,λh=>?_⟩
  .obtain⟨u,n,o⟩:=q d h;exact⟨u,by rw[tK (p:=(i,v)) hk];exact n,o⟩
  rw[tK (p:=(i,v)) hk];exact s h
end
section
variable {P:iF}{w:iu}{H H':Hp}{h:iJ}{a:gU}
def Wn(x:S1 P w H h a (.dT [])):S1 P w H' h a (.dK []):=by
 obtain⟨z,y,k,r,o,b,c,h1,d,f,g,j⟩:=x;cases r
 have:b= #[]:=by
  have:b.toList=[]:=by simpa using g
  exact Ze.mp this
 subst this;refine⟨z,y,[],.nil,o,#[],c,h1,d,f,?_,?_,mT⟩
 .first|exact λe i=>by simp at i|(intro;simp)
 first|exact .nil|trivial|simp[Pairs]
def Wo(x:S1 P w H h a (.dK [])):S1 P w H' h a (.dT []):=by
 obtain⟨z,y,n,r,o,c,d,h1,f,g,k,b,m⟩:=x;cases r
 have:c= #[]:=by
  have j:(AC c.toList)=0:=by
   first
    |simpa using (AC b)
    |simpa using(wo b)
    |(
      cases i:c.toList with
      |nil=>rfl
      |cons e l=>rw[i]at b;cases b)
  exact Ze.mp<|Of.mp j
 subst this;exact⟨z,y,[],.nil,o,#[],d,h1,f,g,rfl,mT⟩
end
section
variable {X:Cx}{g:iO}{i:L2.St}{H:Hp}{s:hJ}
def agz{A:iB}{E:iU}(U:Inv X g i H s){H':Hp}{a:gU}{k:Key}{u:il}{Q:iU}(x:S1 X.prog X.w H' s.heap a (.dK []))(d:RelV (kV k) u)(b:Bool)(h:∀e,Inv X g i H e->Q (.bool b) e):
  ae (ah X.prog X.w) A (au (if b=C then .NotIn else .In) u<|.ref a) Q E s:=by
 obtain⟨z,hd,f,c,dd⟩:=x;cases c
 cases b
 .exact wT (Dv d) hd dd.mapOf<|h _ (U.tok _)
 exact sn (Dv d) hd dd.mapOf<|h _ (U.tok _)
def agy{A:iB}{E:iU}(e:A.units+1<aS)(U:Inv X g i H s){H':Hp}{a b:gU}{k:List Key}{Q:iU}(x:S1 X.prog X.w H' s.heap a (.dT []))(d:H b=J (.tup<|k.map kV))(c:Bool)(h:∀f,Inv X g i H f->Q (.bool c) f):
  ae (ah X.prog X.w) A (au (if c=C then .NotIn else .In) (.ref b)<|.ref a) Q E s:=by
 obtain⟨z,hd,u,r,o,l,j,h1,m,n,p,q⟩:=x;cases r;have dd:s.heap.DictOfH (db<|lb X.prog X.w) a []:=⟨o,l,j,h1,m,n,p,(λx (t:x∈[])=>by simp at t),q⟩
 cases c
 .exact u5 (Av e) (zf U.hok d) hd dd<|h _ (U.tok _)
 exact n7 (Av e) (zf U.hok d) hd dd<|h _ (U.tok _)
def xQ(h:xR d k=C):(∃e,BE k=J e/\∀x∈d,∃c,BE x=J c)\/(∃f,EZ k=J f/\∀x∈d,∃c,EZ x=J c):=by
 unfold xR at h;rw[yD,la,la,ku,ku]at h;rcases h with⟨h1,a⟩|⟨h1,a⟩
 .exact .inl ⟨_,(Og.mp h1).choose_spec,λx b=>Og.mp<|a x b⟩
 exact .inr ⟨_,(Og.mp h1).choose_spec,λx b=>Og.mp<|a x b⟩
def Kv{a:List Key}{c:Key}(h:BE (.tup<|a.map ky)=J c):False:=by cases h
def Hk(h:EZ (ky k)=J c):False:=by cases k<;>cases h
def abX(B:A.units+1<aS)(I:Inv X g i H s)(q:Ah X.K (H a) .dct ks o us)(r:YP X.K H O o us)(hk:xR ks k=C)(G:jT X.K H O k y)(x:RelV y u)(m:Bool)
  (h:∀l,Inv X g i H l->Q (.bool<|xor m (oX ks o k).isSome) l):ae (ah X.prog X.w) A (au (if m=C then .NotIn else .In) u<|.ref a) Q E s:=by
 have nil:∀o:List D,oX [] o k=z7:=λo=>by cases o<;>rfl
 rcases q with⟨j,e,rfl,rfl⟩|⟨j,e,rfl,rfl⟩
 .rcases xQ hk with⟨C',h1,_⟩|⟨L,h1,N⟩
  .have:=uz h1 G;subst this;have J:=qM h1;subst J;obtain⟨P,R⟩:=JD (f:=ky) (k:=C') yf r
   have F:(uW j C').isSome=(oX (j.map λp=>ky p.1) o<|ky C').isSome:=by
    cases z:oX (j.map λp=>ky p.1) o (ky C')with
    |none=>rw[R z];rfl
    |some d=>obtain⟨v,U,_⟩:=P d z;rw[U];rfl
   rw[<-F]at h
   cases m
   .exact abZ B I (Fy.k e) x λl n=>by simpa using h l n
   exact LN B I (Fy.k e) x λl n=>by simpa using h l n
  have M:j=[]:=by
   cases j with
   |nil=>rfl
   |cons p j=>obtain⟨c,Y⟩:=N (ky p.1) (by simp);exact(Hk Y).elim
  subst M;obtain⟨b,rfl,T⟩:=uy h1 G;cases x;rw[sH,nil]at h;exact agy B I (Wo (H':=H)<|I.hok a _ e) T m λl n=>by simpa using h l n
 rcases xQ hk with⟨C',h1,N⟩|⟨L,h1,_⟩
 .have M:j=[]:=by
   cases j with
   |nil=>rfl
   |cons p j=>obtain⟨c,Y⟩:=N (.tup<|p.1.map ky) (by simp);exact(Kv Y).elim
  subst M;have:=uz h1 G;subst this;rw[sH,nil]at h;exact agz I (Wn (H':=H)<|I.hok a _ e) x m λl n=>by simpa using h l n
 obtain⟨b,rfl,T⟩:=uy h1 G;have J:=xP h1;subst J;obtain⟨P,R⟩:=JD (f:=λk:List Key=>D.tup<|k.map ky) (k:=L) acB r
 have F:(uW j L).isSome=(oX (j.map λp=>.tup (p.1.map ky)) o<|.tup<|L.map ky).isSome:=by
  cases z:oX (j.map λp=>.tup (p.1.map ky)) o (.tup<|L.map ky)with
  |none=>rw[R z];rfl
  |some d=>obtain⟨v,U,_⟩:=P d z;rw[U];rfl
 rw[<-F]at h
 cases m
 .exact abZ B I (Fy.t e T) x λl n=>by simpa using h l n
 exact LN B I (Fy.t e T) x λl n=>by simpa using h l n
end
section
variable {X:Cx}
noncomputable def Wl:F:=λa=>J ((.R1 .dct [] [],C),a)
end
section
variable {K:iA}{T:SI}{b:L2.St}{c:Dn}{H:Hp}{i:Nat}{d e:D}{a:gU}{o:HO}
end
section
variable {X:Cx}{c:iO}{d:L2.St}{H:Hp}{s:hJ}{a:gU}
def Xc(U:Inv X c d H s)(e:H a=J (.dT [])):Inv X c d (upd H a<|.dK []) s:=by have:=yg (t':=s.toks) (h':=s.heap) U (by rw[e];exact bB) (AL a s.heap) (by obtain⟨z,y,g,r,o,f,b,h1,_⟩:=(show S1 X.prog X.w H s.heap a (.dT [])from U.hok a _ e);exact⟨o,h1⟩)<|Wn (H':=upd H a<|.dK [])<|U.hok a _ e;exact this
def Xb(U:Inv X c d H s)(e:H a=J (.dK [])):Inv X c d (upd H a<|.dT []) s:=by have:=yg (t':=s.toks) (h':=s.heap) U (by rw[e];exact bB) (AL a s.heap) (by obtain⟨z,y,g,r,o,f,b,h1,_⟩:=(show S1 X.prog X.w H s.heap a (.dK [])from U.hok a _ e);exact⟨o,h1⟩)<|Wo (H':=upd H a<|.dT [])<|U.hok a _ e;exact this
def aaZ:Vq:=λo i v H Q=>∃a,o=.ref a/\((∃e,Fv H a i v e/\Q e)\/(∃f,H a=J (.dT [])/\i=kV f/\Q (upd H a<|.dK [(f,v)]))\/
 (∃g b,H a=J (.dK [])/\i=.ref b/\H b=J (.tup<|g.map kV)/\Q (upd H a<|.dT [(g,v)])))
def Pu(j:X.A.units+1<aS):Y2 X aaZ:=by
 intro c s d H o i v E U u Q T x l m h;obtain⟨a,rfl,h⟩:=h;cases x;rcases h with⟨r,g,q⟩|⟨y,e,rfl,q⟩|⟨B,b,e,rfl,n,q⟩
 .exact zu j T g l m λp f=>⟨r,f,q⟩
 .refine zu j (Xc T e) (Fv.k (k:=y) (v:=v) iQ<|by rw[jP];decide) l m λp f=>⟨_,f,?_⟩
  rw[Kt];exact q
 have w:b≠a:=Wa n e (λz=>nomatch z);refine zu j (Xb T e) (Fv.t (k:=B) (v:=v) (b:=b) iQ (by rw[iW w];exact n)<|by rw[jP];decide) l m λp f=>⟨_,f,?_⟩
 rw[Kt];exact q
end
section
variable {K:iA}{H:Hp}{O:SI}
theorem PF{k:Key}{w:D}{v:V}(d:Rep K H O w v):∀{a:List (Key×V)}{b:List D},YP K H O b (a.map (·.2))->YP K H O (vD (a.map λp=>ky p.1) b (ky k) w) ((a.map λc=>if c.1=k then(c.1,v)else c).map (·.2))
 |[],b,h=>by cases b<;>simpa[vD]using h
 |(f,u)::a,[],h=>by rw[jI,YP]at h;cases h
 |(f,u)::a,i::b,h=>by
  rw[jI,YP]at h;obtain⟨x,r,e,h1,g⟩:=h;obtain⟨rfl,rfl⟩:=ve e;simp only[jI,vD,yf];refine YP.cons ?_<|PF d g;by_cases hk:f=k
  .simp only[hk,decide_true,kz];exact d
  simp only[hk,decide_false,jF,km];exact h1
theorem PD{k:List Key}{w:D}{v:V}(d:Rep K H O w v):∀{a:List (List Key×V)}{b:List D},YP K H O b (a.map (·.2))->YP K H O (vD (a.map λp=>.tup (p.1.map ky)) b (.tup<|k.map ky) w) ((a.map λc=>if c.1=k then(c.1,v)else c).map (·.2))
 |[],b,h=>by cases b<;>simpa[vD]using h
 |(f,u)::a,[],h=>by rw[jI,YP]at h;cases h
 |(f,u)::a,i::b,h=>by
  rw[jI,YP]at h;obtain⟨x,r,e,h1,g⟩:=h;obtain⟨rfl,rfl⟩:=ve e;simp only[jI,vD,D.Q2,uS];refine YP.cons ?_<|PD d g;by_cases hk:f=k
  .simp only[hk,decide_true,kz];exact d
  simp only[hk,decide_false,jF,km];exact h1
def V5(a:Rep K H O w v)(h:YP K H O b (kvs.map (·.2))):
  (uY (kvs.map λp=>ky p.1) b (ky k) w).1=(si kvs k v).map (λp=>ky p.1)/\YP K H O (uY (kvs.map λp=>ky p.1) b (ky k) w).2 ((si kvs k v).map (·.2)):=by
 have c:(kvs.map λp=>ky p.1).any (D.Q2 · (ky k))=kvs.any λd=>decide (d.1=k):=by rw[tj];congr 1;funext p;exact yf _ _
 unfold uY si;rw[c];split
 .refine⟨?_,PF a h⟩;rw[ji];apply oT;intro p _;simp only[aW];split<;>rfl
 exact⟨by simp,by rw[kQ];exact h.append<|YP.one a⟩
def V4{k:List Key}{w:D}{v:V}(b:Rep K H O w v){kvs:List (List Key×V)}{a:List D}(h:YP K H O a (kvs.map (·.2))):
  (uY (kvs.map λp=>.tup (p.1.map ky)) a (.tup<|k.map ky) w).1=(si kvs k v).map (λp=>.tup (p.1.map ky))/\YP K H O (uY (kvs.map λp=>.tup (p.1.map ky)) a (.tup<|k.map ky) w).2 ((si kvs k v).map (·.2)):=by
 have c:(kvs.map λp=>D.tup<|p.1.map ky).any (D.Q2 · (.tup<|k.map ky))=kvs.any λd=>decide (d.1=k):=by rw[tj];congr 1;funext p;simp only[aW,D.Q2,uS]
 unfold uY si;rw[c];split
 .refine⟨?_,PD b h⟩;rw[ji];apply oT;intro p _;simp only[aW];split<;>rfl
 exact⟨by simp,by rw[kQ];exact h.append<|YP.one b⟩
end
def GA(i:Nat)(f:F)(g:FO):FS:=λc=>(f c).bind λp=>match p.2[i]? with
 |some (J _)=>(g p.2).bind λq=>match res q.2 q.1,q.2[i]? with
  |some k,J (J (.R1 .dct a b,C))=>if xR a k=C/\(AC a)<10000 then J (.nx<|q.2.set i<|J (.R1 .dct (uY a b k p.1.1).1 (uY a b k p.1.1).2,C))else I
  |_,_=>I
 |_=>I
section
variable {X:Cx}{e d:ig}{f:F}{g:FO}{b h a c:bp}{i:Nat}{x:aQ}{A:jX}{L:LL}{j:Hp}
end
end PX
namespace TT
open PySem.SeqAt
structure EA(h:iJ)(d:gU)(es:Array df)(ep:Nat):Prop where
 at_:∃o,h.get? d=zx o/\o.ExactDict/\o.data=.dict es ep
def EA.I0{d b a}(x:EA h d b a)(k:∀o,h.get? d=J o->c.get? d=J o):EA c d b a:=let⟨o,h1,r⟩:=x.at_;⟨o,k _ h1,r⟩
section
variable {c:iF}{w:iu}{A:iB}{E:iU}{s:hJ}
def EA.typeIs{d b a}(x:EA s.heap d b a):s.TypeIs (.ref d) "dict":=let⟨o,h1,r,_⟩:=x.at_;⟨o,h1,r.1⟩
def LA(hd:(d==bx)=Y)(e:EA s.heap d h g)
  (i:Q (.ref s.heap.objs.size) {s with heap:=s.heap.push {cls:=.type "dict_keyiterator",data:=.fields #[.ref d,.int 0 0,.int h.size 0,.int g 0]}}):ae (ah c w) A (cH<|.ref d) Q E s:=by
 have b:=e.typeIs;obtain⟨o,f,j,a⟩:=e.at_;refine Ic b NI<|qf NI b PySem.F.entry_dict_iter ?_<|PySem.F.args_dict_iter_1 _;unfold bo.«dict.__iter__»;refine gW ?_;unfold Builtin.Dict.dictSlotNone;refine gW<|wpAny_notOrdered_dict b ?_;change ae _ _ (pure<|bV d) _ _ s;refine ik ?_;change ae _ _ (Builtin.Dict.showsAll d>>=_) _ _ s;unfold Builtin.Dict.showsAll;rw[iC<|by rw[hd];exact kJ];refine gW<|ik ?_;refine gW<|mu f a ?_;refine gW<|pB f a ?_;refine gW<|oq<|ik ⟨_,rfl,"dict_keyiterator",_,⟨_,kc _ rfl,rfl⟩,Nv.lookup,?_⟩;simpa[cg]using i
def Dq(x:A.handled=I){it d:gU}{i l:Nat}{g:Array df}{Q:FU}(f:s.heap.IsKeyIter it d i g.size l)(z:EA s.heap d g l)(U:i<=g.size)
  (u:∀e,g[i]?=J e->∀h,h.IsKeyIter it d (i+1) g.size l->aF it s.heap h->Q (J e.key) {s with heap:=h})
  (t:i=g.size->∀h,dh it s.heap h->Q I {s with heap:=h}):ae (ah c w) A (cw<|.ref it) Q E s:=by
 obtain⟨o,n,v,hd⟩:=id f;obtain⟨O,j,B,q⟩:=z.at_;unfold cw;refine gW<|vV<|tE (name:=bz "__next__") f.typeIs Nv<|qf Nv f.typeIs PySem.F.entry_dict_keyiterator_next ?_<|PySem.F.args_dict_keyiterator_next_1 _;refine gW<|ik ?_;refine gW ?_;refine gW ?_;refine gW<|HZ f.typeIs<|ik ?_;refine gW<|wpAny_fieldsOf n hd ?_;have k:Builtin.Dict_items.ownsTuple "dict_keyiterator"=Y:=by decide
 simp only[k,jF,km];change ae _ _ (if(bV d==aw)=C then _ else _) _ _ s;rw[iC (show ¬((bV d==aw)=C)from kJ)];refine gW<|ik ?_;refine gW<|mu j q ?_;rw[iC<|by simp];refine gW<|ik ?_;refine gW<|pB j q ?_;rw[iC<|by simp];refine ik ?_;simp only[show ¬((i:Int)<0)from by lia,km,xj];by_cases y:i<g.size
 .have r:g[i]?=J g[i]:=qc y;simp only[r];refine gW ?_;refine gW<|HZ f.typeIs<|ik ?_;refine gW<|NH f.typeIs ?_;change ae _ _ (i5 (.ref it) 1 (cg<|(i:Int)+1)>>=_) _ _ s;refine gW (vW n hd (by simp) ?_)
  have p:(s.heap.update it (fq (·.setIfInBounds 1 (cg<|(i:Int)+1)))).IsKeyIter it d (i+1) g.size l:=
   ⟨_,tD _ n (Ek<|vg hd _),(Ej ..).trans v,by rw[vg hd];simp[cg]⟩
  refine gW<|mU ?_;refine gW (NH (s:={s with heap:=s.heap.update it (fq (·.setIfInBounds 1 (cg<|(i:Int)+1)))}) p.typeIs ?_);change ae _ _ (pure g[i].key) _ _ _;exact ik<|ik ⟨_,rfl,ik<|u _ r _ p (qd ..)⟩
 obtain rfl:i=g.size:=by lia
 simp only[D5<|jw g.size];refine gW ?_;refine gW<|HZ f.typeIs<|ik ?_;change ae _ _ (i5 (.ref it) 0 .none>>=_) _ _ s;refine gW<|vW n hd (by simp) ?_;change ae _ _ (gr (.type "StopIteration") []>>=_) _ _ _;refine gW ?_;simp -iota only[gr,i7];refine gW<|oq ?_ (by size_fits);refine gW (m:=ci _ _)<|tq (a:=aw) (by first|rfl|(simp -iota only[ci];rfl)) ?_;refine oq ?_ (by size_fits);simp -iota only[sB];refine gW<|Iy ?_;rw[show A.in1.handled=I from x];refine gW<|ik<|Iw ?_;refine gW<|yK (T:="StopIteration") (b:=C) ⟨_,kc _ rfl,rfl⟩ Ef ?_;exact ik<|t H _ (((qd ..).extBut.push _).push _)
def HQ(l:A.handled=I)(U d:gU)(u:U≠d)(g:Array df)(k:Nat):xc c w A U [U,d] [U] g.size (λi v=>∃e,g[i]?=J e/\v=e.key) (λi h=>h.IsKeyIter U d i g.size k/\EA h d g k) where
 sub:=λb a=>by simp at a;simp[a]
 frame:=λ_ _ _ st hk=>⟨st.1.at λo e=>hk U (by simp) o e,st.2.I0 λo e=>hk d (by simp) o e⟩
 item:=λi s Q E m st f=>by refine Dq l st.1 st.2 (wm m) (λe t j p n=>?_) λz=>absurd z<|jY m;exact f _ j s.toks ⟨_,t,rfl⟩ ⟨p,st.2.I0 λo e=>n.extBut d o (λh=>u h.symm) e⟩ λb o a e=>n.extBut b o (λh=>a<|by simp[h]) e
 done:=λs Q E st f=>Dq l st.1 st.2 (jw _) (λe r=>absurd (Nw.mp r).1<|pz _) λ_ j q=>f j s.toks λb o a e=>q b o (λh=>a<|by simp[h]) e
 self:=λ_ _ _ _ st f=>wpAny_pyIter_keyiter st.1 f
def SA(hd:(a==bx)=Y)(p:A.handled=I)(S:EA s.heap a d n)(q:d.size<=sizeLine)
  (j:∀h r,(∀b o,s.heap.get? b=J o->h.get? b=J o)->Q (d.toList.map (·.key)) {s with heap:=h,toks:=r}):ae (ah c w) A (eG<|.ref a) Q E s:=by
 have g:a<s.heap.objs.size:=let⟨_,h1,_⟩:=S.at_;jc h1;refine Aa (.inr ⟨rfl,rfl⟩) g (λx k=>(S.I0 k).typeIs) (HQ (by show A.handled=I;exact p) (s.heap.objs.size+1) a (qh<|xh g) d n) q (λi v ⟨e,m,hv⟩=>?_) (by rw[jl,kn]) (λl t k=>?_) j
 .rw[jv,kR,m,hv];rfl
 have f:EA (s.heap.push l) a d n:=S.I0 λo e=>jJ _ e;have ext:∀(u:dS) b o,(s.heap.push l).get? b=J o->((s.heap.push l).push u).get? b=J o:=λu b o e=>jJ _ e;refine LA (s:={s with heap:=s.heap.push l}) hd f ?_;have z:(s.heap.push l).objs.size=s.heap.objs.size+1:=qx _ _;have:=k _ ⟨show((s.heap.push l).push {cls:=.type "dict_keyiterator",data:=.fields #[.ref a,.int 0 0,.int d.size 0,.int n 0]}).IsKeyIter (s.heap.objs.size+1) a 0 d.size n from⟨_,by rw[<-z];exact kc _ rfl,rfl,rfl⟩,f.I0 λo e=>ext _ _ _ e⟩ (ext _);rw[<-z]at this;exact this
end
end TT
namespace PX
open L2 PySem.SeqAt TS
def RO(d:D):Option (D×Bool):=match d with
 |.R1 .dct a b=>if(a.all λk=>(BE k).isSome)=C/\a≠[]then jz a else I
 |_=>qO d
section
variable {X:Cx}
def C1{P:iF}{w:iu}{e:List df}{f:List (Key×il)}{a:List (Key×V)}(h:Pairs (lb P w) e f)(q:KV a f):Vals (a.map λp=>kV p.1) (e.map (·.key)):=by
 induction h generalizing a with
 |nil=>cases q;exact .nil
 |cons h1 j t g=>
  obtain _|⟨r,q⟩:=q;refine .cons ?_<|g q;dsimp only;rw[r.1];rcases kI (show BF _ _=C from h1)with⟨i,d,b,c⟩|⟨x,d,b,c⟩
  .rw[b,c];exact⟨d,rfl⟩
  rw[b,c];exact⟨d,rfl⟩
theorem yT{K:iA}{U:Hp}{O:SI}:∀(a:List (Key×V)),YP K U O (a.map λp=>ky p.1)<|a.map λp=>kV p.1
 |[]=>YP.nil
 |(k,v)::a=>by
  refine YP.cons ?_<|yT a
  cases k with
  |inl i=>exact Rep.mkInt
  |inr x=>exact Rep.mkStr
def T7(a:Gl X x)(b:X.mg x=J (.int i t))(hd:(x==("__debug__":aQ))=Y):PX X (.Name x pos) (fC<|.int i):=PX.imp (Uo (v:=.int i) a b ⟨t,rfl⟩ hd) λf U Q h=>by obtain⟨d,T,r,c,E,e,k⟩:=h;cases e;exact k _ _ (N1.val .refl E Rep.mkInt)
noncomputable def EG:FS:=λ_=>I
end
section
variable {X:Cx}{e:ig}{f:F}{b d a c:bp}{i:Nat}{x:aQ}
end
structure PXs(X:Cx)(es:kb)(fs:List F):Prop where
 pa:PA X es (tA X.K<|fs.map hC)
section
variable {X:Cx}{e:ig}{b:kb}{f:F}{fs:List F}{a:bp}
end
structure QX(X:Cx)(e:ig)(f:F):Prop where
 h:PX X e f
structure QO(X:Cx)(e:ig)(f:FO):Prop where
 h:PX.PO X e f
structure QA(X:Cx)(es:kb)(fs:List FO):Prop where
 h:PA X es (tA X.K fs)
structure QL(X:Cx)(es:kb)(fs:List F):Prop where
 h:PXs X es fs
structure QT(X:Cx)(e:ig)(f:FT):Prop where
 h:PTX X e f
structure QW(X:Cx)(e:ig)(f:FT):Prop where
 h:PWX X e f
structure QG(X:Cx)(A:jX)(e:ig)(t:Tg):Prop where
 h:Ju X A e t
structure QI(X:Cx)(B:SB)(tg e:ig)(f:B0):Prop where
 h:Jt X B tg e f
structure QF(X:Cx)(es:kb)(f:FT):Prop where
 h:JA X es (tT X.K f)
structure QB(X:Cx)(A:jX)(d:gU)(e:ig)(n:Nat)(f:FB):Prop where
 h:PB X (jf e n (.ref d) X.env) (GG z9 X.K A d f)
structure QS(X:Cx)(A:jX)(L:LL)(H0:Hp)(st:bG)(f:FS):Prop where
 h:Mn X A L H0 st f
structure QQ(X:Cx)(A:jX)(L:LL)(H0:Hp)(st:List bG)(f:FS):Prop where
 h:Nr X A L H0 st f
structure QC(X:Cx)(v:il)(g:List D->Option (D×Bool)):Prop where
 h:kg X v (Cz X.K g)
structure QP(X:Cx)(o:zC)(g:D->D->Option (D×Bool)):Prop where
 h:D0 X o (rD X.K g)
abbrev SE(X:Cx)(e:ig)(a:kb):Prop:=ai (e::a) X.env=(Y,aU e X.env)::ai a X.env
abbrev BA(X:Cx)(p:bp)(a:kb):Prop:=(bg p<|ai a X.env).any (·.1)=Y
abbrev DB(x:aQ):Prop:=(x==("__debug__":aQ))=Y
abbrev un(A:iB)(n:Nat):Prop:=A.units+n<aS
structure ZZ where
 P:iF
 w:iu
 K:iA
 mg:aQ->Option il
 base:iJ
def Oz(Z:ZZ)(k:Nat)(x:aQ)(b:iX)(c:OO):Prop:= ∃f a,Bs Z.P Z.w Z.K Z.mg Z.base Hz k f a b (Hu Z.K c)/\Z.mg x=J (.ref f)/\bX Z.K (.ref f)=C/\Binds Z.K a b []
def Oz.up{Z:ZZ}{k j:Nat}{x:aQ}{d:iX}{c:OO}(o:Oz Z k x d c)(h:k<=j:=by decide):Oz Z j x d c:=let⟨f,e,a,b⟩:=o;⟨f,e,a.mono h,b⟩
noncomputable abbrev zX(X:Cx):ZZ:=⟨X.prog,X.w,X.K,X.mg,X.base⟩
noncomputable def JP:List (aQ×il):=[("len",.builtin "len"),("abs",.builtin "abs"),("int",.type "int"),("tuple",.type "tuple"),("list",.type "list"),("bool",.type "bool"),("max",.builtin "max"),("min",.builtin "min"),("all",.builtin "all"),("any",.builtin "any"),("sorted",.builtin "sorted"),("set",.type "set")]
def btA{c:mB}(T:Tx c):∀p∈JP,c p.1=I/\aI p.1=J p.2:=by
 have h:∀p∈JP,aI p.1=J p.2:=by decide+kernel
 intro p b;refine⟨?_,h p b⟩;have a:p∈JP:=b;unfold JP at a;simp only[kN,my,om]at a;rcases a with rfl|rfl|rfl|rfl|rfl|rfl|rfl|rfl|rfl|rfl|rfl|rfl
 .exact T.n_len
 .exact T.n_abs
 .exact T.n_int
 .exact T.n_tuple
 .exact T.n_list
 .exact T.n_bool
 .exact T.n_max
 .exact T.n_min
 .exact T.n_all
 .exact T.n_any
 .exact T.n_sorted
 exact T.n_set
theorem JE{z:aQ}{v:il}:∀{l:List (aQ×il)},l.lookup z=J v->(z,v)∈l
 |[],h=>by cases h
 |(y,u)::l,h=>by
  rw[qe]at h;split at h
  .rename_i q;cases h;rw[rT q];exact .head _
  exact .tail _ (JE h)
def ML{a:mB}{z:aQ}{v:il}(T:Tx a)(h:JP.lookup z=J v):a z=I:=(btA T _ (JE h)).1
def Nl{z:aQ}{v:il}(h:JP.lookup z=J v):aI z=J v:=(show ∀p∈JP,aI p.1=J p.2 from by decide+kernel) _ (JE h)
section
variable {X:Cx}{x z:aQ}{e a b c st lo G:ig}{J:kb}{fa fb fc fo fl fh:FO}{f g:F}{U fu:FT}{p p2 p3 m M apos:bp}{A:jX}{L:LL}{B:SB}{Y:Hp}{fs:List FO}{da:List F}{i j k:Nat}{tg:ig}{S:bG}{Ss Ts:List bG}{u v:FS}
def xV(h1:X.N[i]?=zx x:=by rfl)(l:Mm X.env.scope x:=by first|exact bj rfl|exact bq (bj H)|exact bq<|bq H)(n:DB x:=by decide)(r:(x==("__classdict__":aQ))=z9:=by decide):QO X (.Name x m) (gR i):=⟨PE.imp' (Jo h1 l n r) λy O Q h=>by
 obtain⟨s,T,o,t,E,e,k⟩:=h;unfold gR at e
 cases G:s[i]? with
 |none=>rw[G]at e;cases e
 |some q=>
  cases q with
  |none=>rw[G]at e;cases e
  |some p=>obtain⟨d,b⟩:=p;rw[G]at e;obtain⟨rfl,rfl⟩:=iG e;obtain⟨w,v,h1,l⟩:=E.freeze G;exact⟨v,h1,k v O ⟨.refl,E,h1⟩⟩⟩
def xW(h1:X.N[i]?=zx x:=by rfl)(l:Mm X.env.scope x:=by first|exact bj rfl|exact bq (bj H)|exact bq<|bq H)(q:DB x:=by decide)(s:(x==("__classdict__":aQ))=z9:=by decide):QX X (.Name x m) (iM i):=⟨PX.imp (Jo h1 l q s) λy O Q h=>by
 obtain⟨t,T,r,w,E,e,k⟩:=h;unfold iM at e
 cases G:t[i]? with
 |none=>rw[G]at e;cases e
 |some o=>
  cases o with
  |none=>rw[G]at e;cases e
  |some p=>obtain⟨d,b⟩:=p;rw[G]at e;cases e;obtain⟨n,v,h1,l⟩:=E.freeze G;exact⟨v,h1,k v O<|N1.val .set n l⟩⟩
def xO(h:QX X e f):QO X e (hC f):=⟨PX.po h.h⟩
def x1{j}:QX X (.Constant .none j m) (fC .T2):=⟨PX.imp XH λl O Q h=>by obtain⟨δ,T,r,d,E,e,k⟩:=h;cases e;exact k _ _ (N1.val .refl E (by first|exact Rep.mkInt|exact Rep.GV|exact Rep.ET|exact Rep.mkStr))⟩
def x2{i j}:QX X (.Constant (.bool i) j m) (fC<|.bl i):=⟨aa2⟩
def x3{i j}:QX X (.Constant (.int i) j m) (fC<|.int i):=⟨PX.imp XJ λl O Q h=>by obtain⟨δ,T,r,d,E,e,k⟩:=h;cases e;exact k _ _ (N1.val .refl E (by first|exact Rep.mkInt|exact Rep.GV|exact Rep.ET|exact Rep.mkStr))⟩
def x4{i j}:QX X (.Constant (.str i) j m) (fC<|.str i):=⟨PX.imp XE λn O Q h=>by obtain⟨l,T,r,d,E,e,k⟩:=h;cases e;exact k _ _ (N1.val .refl E (by first|exact Rep.mkInt|exact Rep.GV|exact Rep.ET|exact Rep.mkStr))⟩
def x5{i:Int}(h:∃t,X.mg x=zx (.int i t))(g:Gl X x:=by rfl)(d:DB x:=by decide):QX X (.Name x m) (fC<|.int i):=let⟨_,h⟩:=h;⟨T7 g h d⟩
def x7:QX X (.Dict [] [] m) Wl:=⟨PX.imp Qm λo O Q h=>by obtain⟨δ,T,n,l,E,e,k⟩:=h;cases e;intro p d;have B:=Ops.nil E;exact(B.done k) p _ d (lW d) ⟨[],.inl ⟨[],iQ,rfl,rfl⟩,YP.nil⟩⟩
def kh{d:Operator}{g:D->D->Option (D×Bool)}(o:QP X (bm d) g)(l:QO X a fa)(n:QO X b fb):QX X (.BinOp a d b m) (hU g fa fb):=⟨px2<|aa7 o.h l.h n.h⟩
def pA(d:QO X a fa):QX X (.UnaryOp .USub a m) (pe xZ fa):=⟨px1<|aa5 TH d.h⟩
def acA(s:QX X a f):QX X (.UnaryOp .Not a m) (YH f):=⟨PX.imp (XG s.h) λO H Q t=>by obtain⟨y,T,r,N,E,e,k⟩:=t;obtain⟨p,h1,e⟩:=gS e;obtain⟨⟨c,I⟩,q,n⟩:=gS e;obtain⟨o,rfl⟩:=yq q;obtain⟨rfl,rfl⟩:=iG n;refine⟨y,T,_,_,E,h1,λv l P=>?_⟩;obtain⟨d,w⟩:=P.rep E;exact⟨c,w.bl,k _ l (N1.val P.1 d Rep.GV)⟩⟩
def oG{d:bZ}{g:D->D->Option (D×Bool)}(o:QP X (au d) g)(l:QO X a fa)(n:QO X b fb)(q:cz d b=z9:=by first|exact QR _|with_unfolding_all rfl):QX X (.Compare a [d] [b] m) (hU g fa fb):=⟨px2<|Up o.h l.h n.h q⟩
def kx{d:bZ}{g:D->D->Option (D×Bool)}(o:QP X (au d) g)(l:QO X a fa)(n:QO X b fb)(q:cz d b=z9:=by first|exact QR _|with_unfolding_all rfl):QT X (.Compare a [d] [b] m) (fT<|hU g fa fb):=⟨
 PT.imp' (Uc o.h l.h n.h q) λs T Q r=>UA aa0<|Pc r⟩
def xCh{l d:bZ}(n:QO X a fa)(o:QO X b fb)(q:QO X c fc)(t:zT l:=by first|exact .inl rfl|exact .inr (.inl H)|exact .inr (.inr<|.inl H)|exact .inr<|.inr<|.inr H)(w:zT d:=by first|exact .inl rfl|exact .inr (.inl H)|exact .inr (.inr<|.inl H)|exact .inr<|.inr<|.inr H)(r:fY [l,d] [b,c]=z9:=by with_unfolding_all rfl):QX X (.Compare a [l,d] [b,c] m) (oN l d fa fb fc):=⟨
 PX.imp (Qn (Ap t) (Ap w) n.h o.h q.h r) λy T Q s=>DK s⟩
def tCh{l d:bZ}(n:QO X a fa)(o:QO X b fb)(q:QO X c fc)(t:zT l:=by first|exact .inl rfl|exact .inr (.inl H)|exact .inr (.inr<|.inl H)|exact .inr<|.inr<|.inr H)(w:zT d:=by first|exact .inl rfl|exact .inr (.inl H)|exact .inr (.inr<|.inl H)|exact .inr<|.inr<|.inr H)(r:fY [l,d] [b,c]=z9:=by with_unfolding_all rfl):QT X (.Compare a [l,d] [b,c] m) (fT<|oN l d fa fb fc):=⟨
 PT.imp' (PZ (Ap t) (Ap w) n.h o.h q.h r) λy T Q s=>DK<|Pc s⟩
def HL{op}(d:QX X a f):QX X (.BoolOp op [a] m) f:=⟨XF d.h⟩
def wq(I:QX X a f)(O:QX X (.BoolOp .And (b::J) m) g):QX X (.BoolOp .And (a::b::J) m) (rK f g):=⟨PX.imp (XN I.h O.h) λK H Q N=>by
 obtain⟨F,T,r,l,E,e,k⟩:=N;obtain⟨p,h1,e⟩:=gS e;obtain⟨⟨c,n⟩,C,d⟩:=gS e;obtain⟨o,rfl⟩:=yq C;refine⟨F,T,_,_,E,h1,λv s P=>?_⟩;obtain⟨q,D⟩:=P.rep E;refine⟨c,D.bl,?_⟩
 cases c with
 |true=>rw[ie At]at d;rw[ie At];exact⟨n,T,r,l,q,d,λw t y=>k w t<|y.pre P.1⟩
 |false=>rw[iC kJ]at d;rw[iC kJ];obtain⟨rfl,rfl⟩:=iG d;exact k _ s (N1.val P.1 q Rep.GV)⟩
def xOr(I:QX X a f)(O:QX X (.BoolOp .Or (b::J) m) g):QX X (.BoolOp .Or (a::b::J) m) (M7 f g):=⟨PX.imp (aa6 I.h O.h) λK H Q N=>by
 obtain⟨F,T,r,l,E,e,k⟩:=N;obtain⟨p,h1,e⟩:=gS e;obtain⟨⟨c,n⟩,C,d⟩:=gS e;obtain⟨o,rfl⟩:=yq C;refine⟨F,T,_,_,E,h1,λv s P=>?_⟩;obtain⟨q,D⟩:=P.rep E;refine⟨c,D.bl,?_⟩
 cases c with
 |true=>rw[ie At]at d;rw[ie At];obtain⟨rfl,rfl⟩:=iG d;exact k _ s (N1.val P.1 q Rep.GV)
 |false=>rw[iC kJ]at d;rw[iC kJ];exact⟨n,T,r,l,q,d,λw t y=>k w t<|y.pre P.1⟩⟩
def Co(y:QT X a U)(C:QW X (.BoolOp .And (b::J) m) fu):QW X (.BoolOp .And (a::b::J) m) (mW U fu):=⟨PW.imp' (Xs y.h C.h) λN H Q I=>by
 obtain⟨O,T,c,l,E,e,k⟩:=I;obtain⟨⟨q,d⟩,h1,e⟩:=gS e;refine⟨O,T,q,d,E,h1,λs o n=>?_⟩
 cases q with
 |true=>rw[ie At]at e;rw[ie At];exact⟨d,T,c,l,n,e,λt w r=>k t (o.trans w) r⟩
 |false=>rw[iC kJ]at e;rw[iC kJ];obtain⟨rfl,rfl⟩:=iG e;exact k s o n⟩
def Jb(y:QT X a U)(C:QW X (.BoolOp .Or (b::J) m) fu):QW X (.BoolOp .Or (a::b::J) m) (uf U fu):=⟨PW.imp' (aa3 y.h C.h) λN H Q I=>by
 obtain⟨O,T,c,l,E,e,k⟩:=I;obtain⟨⟨q,d⟩,h1,e⟩:=gS e;refine⟨O,T,q,d,E,h1,λs o n=>?_⟩
 cases q with
 |true=>rw[ie At]at e;rw[ie At];obtain⟨rfl,rfl⟩:=iG e;exact k s o n
 |false=>rw[iC kJ]at e;rw[iC kJ];exact⟨d,T,c,l,n,e,λt w r=>k t (o.trans w) r⟩⟩
def vw(d:QT X a U):QW X (.BoolOp .And [a] m) U:=⟨Ub d.h⟩
def Ga(d:QT X a U):QW X (.BoolOp .Or [a] m) U:=⟨Xr d.h⟩
def tW{op}(h:QW X (.BoolOp op J m) U):QT X (.BoolOp op J m) U:=⟨PW.pt h.h⟩
def A2(n:QT X a U):QT X (.UnaryOp .Not a m) (lu U):=⟨PT.imp' (Xv n.h) λs O Q o=>by obtain⟨q,T,c,r,E,e,k⟩:=o;obtain⟨⟨l,d⟩,h1,e⟩:=gS e;obtain⟨rfl,rfl⟩:=iG e;exact⟨q,T,l,d,E,h1,k⟩⟩
def pY(h:QX X e f)(l:∀d,isTrue e X.env d=(do let v <-d;ce e.pos;b6 [v] (truthy v)):=by intro _;rfl):QT X e (fT f):=⟨PT.imp' (Xu h.h l) λo T Q n=>Pc n⟩
def xIf(C:QT X c U)(t:QX X a f)(y:QX X b g):QX X (.IfExp c a b m) (Jn U f g):=⟨PX.imp (Ql C.h t.h y.h) λD H Q I=>by
 obtain⟨O,T,r,l,E,e,k⟩:=I;obtain⟨⟨c,d⟩,h1,e⟩:=gS e;refine⟨O,T,c,d,E,h1,λN s q=>?_⟩
 cases c with
 |true=>rw[ie At]at e;rw[ie At];exact⟨d,T,r,l,q,e,λw n o=>k w n<|o.pre s⟩
 |false=>rw[iC kJ]at e;rw[iC kJ];exact⟨d,T,r,l,q,e,λw n o=>k w n<|o.pre s⟩⟩
def NR(d:QO X a fa)(l:QO X b fb)(n:Mb b:=by exact λ_ _=>rfl):QX X (.Subscript a b m) (hU N2 fa fb):=⟨px2<|aa8 abz d.h l.h n⟩
def acv(s:QO X a fa)(t:QO X lo fl):QX X (.Subscript a (.Slice (zx lo) z7 z7 p2) m) (DE fa fl):=⟨
 PX.imp (GJ aaQ s.h (KP t.h) KQ) λR H Q y=>by
  obtain⟨N,T,P,D,E,e,k⟩:=y;unfold DE at e;obtain⟨⟨q,d⟩,h1,e⟩:=gS e;obtain⟨⟨O,n⟩,r,e⟩:=gS e;dsimp only at e;split at e
  .rename_i i G;obtain⟨x,C,e⟩:=gS e;obtain⟨z,I,e⟩:=gS e;obtain⟨rfl,rfl⟩:=iG e;refine⟨N,T,q,d,E,h1,λv F l=>⟨d,CQ T q v,O,n,l.er E,r,λu K o=>?_⟩⟩;have B:=Ops.cons E l<|Ops.cons (l.er E) o<|Ops.nil<|o.er<|l.er E;exact⟨i,iP<|B.view (j:=1) At At G,_,x,z,λp w=>B.np w,B.view (j:=0) At At C,I,B.done k⟩
  cases e⟩
def acw(s:QO X a fa)(t:QO X G fh):QX X (.Subscript a (.Slice z7 (zx G) z7 p2) m) (LG fa fh):=⟨
 PX.imp (GJ aaQ s.h KQ<|KP t.h) λR H Q y=>by
  obtain⟨N,T,P,D,E,e,k⟩:=y;unfold LG at e;obtain⟨⟨q,d⟩,h1,e⟩:=gS e;obtain⟨⟨O,n⟩,r,e⟩:=gS e;dsimp only at e;split at e
  .rename_i i G;obtain⟨x,C,e⟩:=gS e;obtain⟨z,I,e⟩:=gS e;obtain⟨rfl,rfl⟩:=iG e;refine⟨N,T,q,d,E,h1,λv F l=>⟨d,CQ T q v,O,n,l.er E,r,λu K o=>?_⟩⟩;have B:=Ops.cons E l<|Ops.cons (l.er E) o<|Ops.nil<|o.er<|l.er E;exact⟨i,iP<|B.view (j:=1) At At G,_,x,z,λp w=>B.np w,B.view (j:=0) At At C,I,B.done k⟩
  cases e⟩
def Ms:QL X [] []:=⟨⟨An⟩⟩
def xL(d:QX X e f)(l:QL X J da)(n:SE X e J:=by rfl):QL X (e::J) (f::da):=⟨⟨tX (PX.po d.h) l.h.pa n⟩⟩
def XP:QA X [] []:=⟨An⟩
def xA(d:QO X e fa)(l:QA X J fs)(n:SE X e J:=by rfl):QA X (e::J) (fa::fs):=⟨tX d.h l.h n⟩
def lD{k}(h:QL X J da):QX X (.Tuple J k m) (kH da):=⟨Xj h.h.pa⟩
def nF(h:QL X J da):QX X (.List J m) (qa da):=⟨Xp h.h.pa⟩
def xB{id:String}{g:List D->Option (D×Bool)}(T:Tx X.mg)(hv:JP.lookup z=zx (.builtin id))(n:QC X (.builtin id) g)(l:QA X (e::J) fs)(q:Gl X z:=by rfl)(r:z≠"__name__":=by decide)(s:DB z:=by decide)(o:SE X e J:=by rfl)(d:BA X m J:=by rfl):QX X (.Call (.Name z p) (e::J) [] m) (iw g fs):=⟨Ua n.h q (ML T hv) (Nl hv) l.h r s o d⟩
def xT{id:String}{g:List D->Option (D×Bool)}(T:Tx X.mg)(hv:JP.lookup z=zx (.type id))(n:QC X (.type id) g)(l:QA X (e::J) fs)(q:Gl X z:=by rfl)(r:z≠"__name__":=by decide)(s:DB z:=by decide)(o:SE X e J:=by rfl)(d:BA X m J:=by rfl):QX X (.Call (.Name z p) (e::J) [] m) (iw g fs):=⟨T6 n.h q (ML T hv) (Nl hv) l.h r s o d⟩
def xI{t:Ty}(T:Tx X.mg)(d:JP.lookup z=zx (.type t.n))(q:QO X e fa)(r:Gl X "isinstance":=by rfl)(l:Gl X z:=by rfl)(s:z≠"__name__":=by decide)(w:DB z:=by decide)
  (s1:SE X e [.Name z p2]:=by rfl)(y:SE X (.Name z p2) []:=by rfl)(o:BA X m [.Name z p2]:=by rfl):
  QX X (.Call (.Name "isinstance" p) [e,.Name z p2] [] m) (pe (Ff [t]) fa):=⟨Xq q.h r T.n_isinstance l (ML T d) (Nl d) s w aes s1 y o⟩
def xU{k:Nat}{T:iX}{d:OO}(O:Oz (zX X) k x T d)(t:Ad k X.A)(o:QA X (e::J) fs)(r:Gl X x:=by rfl)(y:DB x:=by decide)
  (q:SE X e J:=by rfl)(n:BA X m J:=by rfl):QX X (.Call (.Name x p) (e::J) [] m) (hW d fs):=
 let⟨_,_,ok,s,w,l⟩:=O;⟨T5 ok t r s w l o.h y q n⟩
def acy{T:String}{d:List D->D}{o:Bool}(l:Tx X.mg)(hv:JP.lookup z=zx (.type T))(t:QA X [a,b] [fa,fb])(s:(T="list"/\d=.lst/\o=C)\/(T="tuple"/\d=.tup/\o=z9):=by first|exact .inl ⟨rfl,rfl,rfl⟩|exact .inr ⟨rfl,rfl,rfl⟩)(w:X.calm=C:=by rfl)(y:Gl X z:=by rfl)(Q:z≠"__name__":=by decide)(E:DB z:=by decide)(q:Gl X "range":=by rfl)
  (s1:SE X (.Call (.Name "range" p2) [a,b] [] p3) []:=by rfl)(O:SE X a [b]:=by rfl)
  (r:BA X m []:=by rfl)(n:BA X p3 [b]:=by rfl):
  QX X (.Call (.Name z p) [.Call (.Name "range" p2) [a,b] [] p3] [] m) (iw (ME d o) [fa,fb]):=⟨Xl s w y (ML l hv) (Nl hv) Q E q l.n_range t.h s1 O r n⟩
def AW(hv:QO X (.Name x M) (gR i))(he:QX X e f)(l3:cB (.Name x M) "append" X.env (aU (.Name x M) X.env)=aU (.Name x M) X.env:=by rfl)
  (ba:((bg m<|ai [e] X.env).all (λx=>!x.1)&&(tp m<|i8 [] X.env).all (λx=>x.1.isSome)&&decide ([e].length+([]:List eJ).length+(if([]:List eJ).isEmpty then 0 else 1)<30))=z8:=by rfl)
  (k9:(apos.endLine==m.line)=z8:=by rfl)(I:SE X e []:=by rfl)(j9:BA X m []:=by rfl):QX X (.Call (.Attribute (.Name x M) "append" apos) [e] [] m) (kE i f):=⟨
 PX.imp (V7 HY PySem.F.slot_list_append PySem.F.type_list_append agp hv.h (qk he.h wJ I) l3 ba k9 I j9) λσ H Q W=>by
 obtain⟨o,T,rr,δ',E,e,k⟩:=W;unfold kE at e;split at e
 .rename_i l0 w;obtain⟨⟨r,q⟩,h1,e⟩:=gS e;dsimp only at e;split at e
  .rename_i l C;obtain⟨Z,e⟩:=iK e;obtain⟨rfl,rfl⟩:=vh e;refine⟨o,T,.slot i,o,E,by unfold gR;rw[w],λv H1 P=>?_⟩;obtain⟨K,n,d⟩:=P;obtain⟨a,g1,V,g2,g3⟩:=n.own i _ w;rw[d]at g1;cases g1;refine⟨.inl ⟨rfl,V,CO.of g2⟩,o,T,r,q,n,h1,λy H2 t=>?_⟩;obtain⟨s,ry⟩:=t.rep n;obtain⟨a',O,xs,q2,N⟩:=s.own i _ C;rw[d]at O;cases O;refine⟨_,xs,y,rfl,rfl,q2,by rw[N.length];exact Z,?_⟩;obtain⟨D,R⟩:=s.write C d<|N.append<|YP.one ry;exact k _ _ (N1.val ((K.trans t.1).trans R) D Rep.ET)
  cases e
 cases e⟩
def acz(hv:QO X (.Name x M) (gR i))(he:QO X e fo)(l3:cB (.Name x M) "pop" X.env (aU (.Name x M) X.env)=aU (.Name x M) X.env:=by rfl)
  (ba:((bg m<|ai [e] X.env).all (λx=>!x.1)&&(tp m<|i8 [] X.env).all (λx=>x.1.isSome)&&decide ([e].length+([]:List eJ).length+(if([]:List eJ).isEmpty then 0 else 1)<30))=z8:=by rfl)
  (k9:(apos.endLine==m.line)=z8:=by rfl)(hs:SE X e []:=by rfl)(j9:BA X m []:=by rfl):QX X (.Call (.Attribute (.Name x M) "pop" apos) [e] [] m) (BW i fo):=⟨
 PX.imp (V7 HY NG NF QY hv.h (qk he.h wJ hs) l3 ba k9 hs j9) λσ H Q hw=>by
 obtain⟨I,T,rr,δ',E,e,k⟩:=hw;unfold BW at e;split at e
 .rename_i l0 D;obtain⟨⟨o,r⟩,h1,e⟩:=gS e;dsimp only at e;split at e
  .rename_i V l hk F;split at e
   case isFalse=>cases e
   rename_i R;obtain⟨j,hj,e⟩:=gS e;obtain⟨d,hd,e⟩:=gS e;obtain⟨rfl,rfl⟩:=iG e;refine⟨I,T,.slot i,I,E,by unfold gR;rw[D],λv H1 P=>?_⟩;obtain⟨K1,s,q⟩:=P;obtain⟨a,g1,eW,g2,g3⟩:=s.own i _ D;rw[q]at g1;cases g1;refine⟨.inl ⟨rfl,eW,CO.of g2⟩,I,T,o,r,s,h1,λy H2 N=>?_⟩;have B:=Ops.cons s N<|Ops.nil<|N.er s;have vy:=iP<|B.view (j:=0) At At hk;have O:ER X.K H2 T σ r:=B.er.mono (λ_ _ e _=>e) (λb _ z=>B.tt b z) λa z=>B.er.dom a<|B.tt a z;obtain⟨a',W,Z,q2,C⟩:=O.own i _ F;rw[q]at W;cases W;obtain⟨w,w1,w2⟩:=C.get hd;have hl:=C.length;have fR:EO Z.length V=zx j:=by rw[hl];exact hj
   obtain⟨s1,s2,s3,s4⟩:=E6 fR;obtain⟨E3,t⟩:=O.write F q<|YP.erase j C;refine⟨_,Z,V,j,w,rfl,by rw[vy],q2,R.1,R.2,s1,w1,?_⟩;exact k _ _ (N1.val ((K1.trans B.keep).trans t) E3<|Rep.mono (λb o e n=>t.kp b o e λz=>n<|.inl z) (λb _ z=>z.imp (t.ow b) id) w2)
  cases e
 cases e⟩
def MD(T:Tx X.mg)(w:QA X [a] [fa])(y:Gl X "range":=by rfl)(I:ai [a] X.env=[(z9,aU a X.env)]:=by rfl):QI X B tg (.Call (.Name "range" p) [a] [] m) (CC fa):=⟨PI.imp' (agT y T.n_range w.h I) λK H R O=>by
 obtain⟨Q,T,F,N,E,e,k⟩:=O;obtain⟨⟨os,l⟩,h1,e⟩:=gS e;refine⟨Q,T,os,l,E,h1,λo q D B=>?_⟩;dsimp only at e;split at e
 .rename_i j n;obtain⟨⟨s,t⟩,e⟩:=iK e;obtain⟨rfl,rfl⟩:=vh e;have hv:=uB B n (j:=0) At;obtain⟨C,_⟩:=pG n
  have:o=[.int j]:=by
   have d:=B.len
   cases o with
   |nil=>simp at hv
   |cons v r=>
    cases r with
    |nil=>simp at hv;rw[hv]
    |cons _ _=>simp at C d;lia
  exact⟨j,this,s,t,k _ q B.keep (B.er.mono (λ_ _ e _=>e) (λb _ z=>B.tt b z) λa z=>B.er.dom a<|B.tt a z) (BH 0 j.toNat)⟩
 cases e⟩
def Mf(T:Tx X.mg)(C:QA X [a,b] [fa,fb])(I:Gl X "range":=by rfl)(Q:ai [a,b] X.env=[(z9,aU a X.env),(z9,aU b X.env)]:=by rfl)(t:ai [b] X.env=[(z9,aU b X.env)]:=by rfl):QI X B tg (.Call (.Name "range" p) [a,b] [] m) (wO fa fb):=⟨PI.imp' (agS I T.n_range C.h Q t) λV H R N=>by
 obtain⟨D,T,P,F,E,e,k⟩:=N;obtain⟨⟨os,o⟩,h1,e⟩:=gS e;refine⟨D,T,os,o,E,h1,λq s K B=>?_⟩;dsimp only at e;split at e
 .rename_i i j n;obtain⟨w,e⟩:=iK e;obtain⟨rfl,rfl⟩:=vh e;have hv:=uB B n (j:=0) At;have l:=uB B n (j:=1) At;obtain⟨O,_⟩:=pG n
  have:q=[.int i,.int j]:=by
   have d:=B.len
   match q,hv,l with
   |[x,y],hv,l=>simp at hv l;rw[hv,l]
   |x::y::z::r,_,_=>simp at O d;lia
  exact⟨i,j,this,w,k _ s B.keep (B.er.mono (λ_ _ e _=>e) (λb _ z=>B.tt b z) λa z=>B.er.dom a<|B.tt a z) (BH i (j-i).toNat)⟩
 cases e⟩
def iZ{d:kb}{k1:Nat}{w:bp}(T:Tx X.mg)(o:QX X a f)(q:QX X b g)(r:Gl X "zip":=by rfl)(s:SE X a [b]:=by rfl)(l:SE X b []:=by rfl)(n:BA X m [b]:=by rfl):
  QI X B (.Tuple d k1 w) (.Call (.Name "zip" p) [a,b] [] m) (BG f g):=⟨PI.imp' (Qd (B:=B) r T.n_zip (PX.po o.h) (PX.po q.h) EE EE s l n) λQ O R t=>by
 have:BG f g=JH (hC f) (hC g):=funext λy=>by
  unfold BG JH hC
  cases f y with
  |none=>rfl
  |some p=>simp only[fy];cases g p.2<;>rfl
 rwa [this]at t⟩
def iE{d:kb}{k1:Nat}{r:bp}(T:Tx X.mg)(l:QX X a f)(n:Gl X "enumerate":=by rfl)(o:ai [a] X.env=[(z9,aU a X.env)]:=by rfl)(s0:SE X a []:=by rfl):QI X B (.Tuple d k1 r) (.Call (.Name "enumerate" p) [a] [] m) (E8 0 f):=⟨PI.imp' (Qg n T.n_enumerate (tX (PX.po l.h) An s0) o) λs Q R q=>Sg q⟩
def iS(h:QX X e f):QI X B tg e (jb f):=⟨PI.imp' (Qe (B:=B) (PX.po h.h) EE) λr T R l=>by
 have:jb f=JI (hC f):=funext λn=>by
  unfold jb JI hC
  cases f n with
  |none=>rfl
  |some p=>obtain⟨⟨d,o⟩,q⟩:=p;cases d<;>rfl
 rwa [this]at l⟩
def gN(l:X.N.Nodup)(G:X.N[i]?=zx x:=by rfl)(s:Loc X.env.scope x:=by first|exact bj rfl|exact bq H)(o:X.fn x=C\/X.env.scope.names.lookup x=zx .local:=by first|exact bj rfl|exact bq H)(n:A i:=by decide):QG X A (.Name x m) (hG i):=⟨PG.imp' (KR l G s o) λv y O Q q=>by obtain⟨w,T,d,t,E,r,e,k⟩:=q;obtain⟨G,rfl⟩:=iK e;obtain⟨h1,h⟩:=A7 (A:=A) (r:=(d,z9)) (v:=v) E (N1.val .refl E r) G n;exact k _ h1 h⟩
def gT{d l:Tg}{k:Nat}(h1:QG X A a d)(n:QG X A b l)(o:X.calm=C:=by rfl)(s:(ao [a,b] X.env).map (·.2)=bD a X.env::(ao [b] X.env).map (·.2):=by rfl)(t:(ao [b] X.env).map (·.2)=bD b X.env::(ao [] X.env).map (·.2):=by rfl)
  (q:(ao [a,b] X.env).length=2:=by rfl)(r:(ao [a,b] X.env).findIdx? (·.1)=I:=by rfl):QG X A (.Tuple [a,b] k m) (ng [d,l]):=⟨EK o (mn h1.h (mn n.h Bo t) s) q H r⟩
def f0:QF X [] je:=⟨λd s n O Q N h=>by obtain⟨δ,T,b,l,E,e,k⟩:=h;cases e;exact Uk d s n O Q N<|k O .refl E⟩
def f1(h:QT X e U):QF X [e] U:=⟨Uj h.h⟩
def bE{q:qb}{sc:jU}{d:gU}{n:Nat}(he:QX X e f)(hn:q[n+1]?=z7:=by rfl):QB X A d (.ListComp e q sc p) n (jn f):=⟨PB.imp' (Us hn he.h) λy H N F=>by
 obtain⟨O,T,D,j7,Z,B,e,k⟩:=F;obtain⟨⟨r,l⟩,h1,e⟩:=gS e;obtain⟨R,e⟩:=iK e;obtain⟨rfl,rfl⟩:=vh e;refine⟨O,T,r,l,B.er,h1,λv s P=>?_⟩;obtain⟨C,W⟩:=P.rep B.er;have E:SK A y O H y l s:=P.1.sk;have Q:=B.step E C;obtain⟨w,K,I⟩:=Q.at';refine⟨w,K,by rw[I.length];exact R,k y _ ?_ ?_⟩
 .have:Hw A d y l s y l (upd s d<|.lst<|w++[v]):=⟨λa o e n V=>by rw[iW V];exact e,λi a z=>.inl z,λa z=>by
   by_cases t:a=d
   .subst t;rw[iQ];simp
   rw[iW t];exact z,λ_ _=>rfl⟩
  exact E.Jw.trans this
 have hk:∀b o,s b=zx o->¬T b->upd s d (.lst<|w++[v]) b=zx o:=λb o e n=>by rw[iW<|by intro z;subst z;exact n B.td];exact e
 have hd:∀a,T a->Ow (upd s d (.lst<|w++[v]) a):=λa z=>by
  by_cases t:a=d
  .subst t;rw[iQ];trivial
  rw[iW t];exact C.dom a z
 refine⟨C.mono hk (λ_ _ z=>z) hd,B.td,w++[v],iQ,?_⟩;exact YP.mono (λb o e n=>hk b o e λz=>n<|.inr z) (λ_ _ z=>z)<|I.append<|YP.one W⟩
def bF{l:qb}{r:jU}{d:gU}{n:Nat}{c:oQ}{q:B0}{tt:Tg}{fb:FB}(T:l[n+1]?=zx c)(Q:QI X (λ_=>False) c.target c.iter q)(O:QG X A c.target tt)(s:QF X c.ifs U)(I:QB X A d (.ListComp e l r p) (n+1) fb)(t:X.xe=λ_ _=>False:=by rfl)(y:X.calm=C:=by rfl)
  (w:c.is_async=0:=by rfl)(N:∀o,l[n+1+1]?=zx o->o.is_async=0:=by intro o h;cases h;try rfl)(E:∀x,aB c.iter X.env x=pure x:=by intro _;rfl):QB X A d (.ListComp e l r p) n (FC q tt U fb):=⟨Ur t y (bj ⟨_,_,_,_,rfl⟩) T w N E Q.h O.h s.h I.h⟩
def BQ{N P:iX}{l scope:jU}{N':iX}{d:jM}(S:VP N P l)(h:Fw N l scope N' d k=C:=by decide+kernel)(n:X.N=N:=by rfl)(o:X.env.scope=l:=by rfl):CI X N' scope d k:=Sz n o h
def xC{c:oQ}{o:qb}{t:ig}{scope:jU}{y:B0}{tt:Tg}{E:FT}{fb:FB}{n:jM}{N':iX}(C:CI X N' scope n k)(T:N'.Nodup)(pi:QI X (λi=>i∉n) c.target c.iter y)
  (o6:∀(cl:lI)(C:gU)(s:hJ)(q:Hp)(r:ki)(l:iO),(X.comp N' scope cl C s q r l).N.Nodup->
   QG (X.comp N' scope cl C s q r l) (λi=>AC n<=i) c.target tt/\QF (X.comp N' scope cl C s q r l) c.ifs E/\∀d,QB (X.comp N' scope cl C s q r l) (λi=>AC n<=i) d (.ListComp t (c::o) scope m) 0 fb)
  (I:X.calm=z8:=by rfl)(H:c.is_async=0:=by rfl)(Q:∀w,o[0]?=zx w->w.is_async=0:=by intro w h;cases h;try rfl)(O:∀x,aB c.iter X.env x=pure x:=by intro _;rfl):QX X (.ListComp t (c::o) scope m) (iL n k y tt E fb):=⟨T8 C I H Q O pi.h λcl C s q r l=>let⟨a,b,c⟩:=o6 cl C s q r l T;⟨a.h,b.h,λd=>(c d).h⟩⟩
def sC{c:oQ}{o:qb}{q:ig}{scope:jU}{y:B0}{tt:Tg}{I:FT}{fb:FB}{n:jM}{N':iX}{H E:bp}(T:X.N.Nodup)(C:CI X N' scope n k)(nd:N'.Nodup)(pi:QI X (λi=>i∉n) c.target c.iter y)
  (o6:∀(cl:lI)(C:gU)(t:hJ)(r:Hp)(s:ki)(l:iO),(X.comp N' scope cl C t r s l).N.Nodup->
   QG (X.comp N' scope cl C t r s l) (λi=>AC n<=i) c.target tt/\QF (X.comp N' scope cl C t r s l) c.ifs I/\∀d,QB (X.comp N' scope cl C t r s l) (λi=>AC n<=i) d (.ListComp q (c::o) scope m) 0 fb)
  (O:de (.ListComp q (c::o) scope m) (zx<|.Name x H) E.line X.env=pure z8:=by rfl)(G:X.N[i]?=zx x:=by rfl)(hx:X.env.scope.names.lookup x=zx .local:=by rfl)(hf:X.fn x=z8:=by rfl)(Q:A i:=by decide)
  (hc:X.calm=z8:=by rfl)(ha:c.is_async=0:=by rfl)(l4:∀w,o[0]?=zx w->w.is_async=0:=by intro w h;cases h;try rfl)(hs:∀x,aB c.iter X.env x=pure x:=by intro _;rfl):QS X A L Y (.Assign [.Name x H] (.ListComp q (c::o) scope m) E) (jo i<|iL n k y tt I fb):=⟨P0 O C hc ha l4 hs pi.h (KR T G (bj hx)<|bj hf) Q λcl C t r s l=>let⟨a,b,c⟩:=o6 cl C t r s l nd;⟨a.h,b.h,λd=>(c d).h⟩⟩
def s0:QQ X A L Y [] ip:=⟨GQ.imp' Ue λD h Q d=>by obtain⟨δ,T,out,E,l,e,k⟩:=d;cases e;exact k h Q .refl E⟩
def s1(h:QS X A L Y S u)(C:QQ X A L Y Ss v):QQ X A L Y (S::Ss) (gZ u v):=⟨GQ.imp' (P4 h.h C.h) λD N H I=>by
 obtain⟨δ,T,out,E,t,e,k⟩:=I;obtain⟨o,y,e⟩:=gS e;refine⟨δ,T,o,E,t,y,?_⟩
 cases o with
 |nx δ1=>
  intro O Q s w;refine⟨δ1,T,out,w,t.step s,e,?_⟩
  cases out with
  |nx δ2=>exact λd l n q=>k d l (s.trans n) q
  |bk δ2=>exact λd l n q=>k d l (s.trans n) q
  |ct δ2=>exact λd l n q=>k d l (s.trans n) q
  |rt r δ2=>exact λv d l n R2=>k v d l (s.trans n) R2
 |rt r δ1=>cases e;exact k
 |bk δ1=>cases e;exact k
 |ct δ1=>cases e;exact k⟩
def sX:QS X A L Y S EG:=⟨λd s o Q D O h=>by obtain⟨n,T,out,E,l,e,k⟩:=h;cases e⟩
def sR(h:QX X e f):QS X A L Y (.Return (zx e) m) (jH f):=⟨PS.imp' (P6 h.h) λD Q O t=>by
 obtain⟨w,T,out,E,r,e,k⟩:=t;obtain⟨p,l,e⟩:=gS e;cases e;refine⟨w,T,p.1,p.2,E,l,λv n P=>k v Q n P.1.sk ?_⟩;obtain⟨⟨d,o⟩,y⟩:=p
 cases o
 .exact P.2
 obtain⟨q,h1,s,l⟩:=P.2;exact⟨q,h1,r.fresh s,l⟩⟩
def sRN:QS X A L Y (.Return I m) KH:=⟨PS.imp' Ug λD h Q d=>by obtain⟨n,T,out,E,l,e,k⟩:=d;cases e;exact k .T2 h Q .refl ⟨E,Rep.ET⟩⟩
def MT(hl: ¬L.p i)(h1:X.N[i]?=zx x:=by rfl)(s:Mm X.env.scope x:=by first|exact bj rfl|exact bq (bj At)|exact bq<|bq At)(h3:DB x:=by decide)(h4:(x==("__classdict__":aQ))=z9:=by decide):QS X A L Y (.Return (zx<|.Name x p) m) (nY i):=⟨PS.imp' (P6<|Jo h1 s h3 h4) λD r H Z=>by
 obtain⟨o,T,out,E,V,e,k⟩:=Z;unfold nY at e
 cases G:o[i]? with
 |none=>rw[G]at e;cases e
 |some q=>
  cases q with
  |none=>rw[G]at e;cases e
  |some p=>
   obtain⟨d,b⟩:=p;have W:i<(AC o):=(qX.mp G).1
   cases b with
   |false=>rw[G]at e;cases e;obtain⟨v,h1,s⟩:=E.val i d G;exact⟨v,h1,k v r H .refl ⟨E,s⟩⟩
   |true=>
    rw[G]at e;cases e;obtain⟨a,h1,s⟩:=E.own i d G
    have h:∀j b,P1 r (o.set i z7) j b->i≠j/\P1 r o j b:=λj b a'=>by
     obtain⟨n,g1,g2⟩:=a'
     rcases nq g1 with⟨_,_,q⟩|⟨ne,q⟩
     .cases q
     exact⟨ne,n,q,g2⟩
    have l:∀b,X0 r (o.set i z7) b->X0 r o b/\b≠a:=λb a'=>by
     obtain⟨j,n,g1,g2⟩:=a'
     obtain⟨ne,C,Q,F⟩:=h j b ⟨n,g1,g2⟩;exact⟨⟨j,C,Q,F⟩,λz=>ne<|by subst z;exact E.inj i j d C _ G Q h1 F⟩
    have K:X0 r o a:=⟨i,d,G,h1⟩
    have sub:∀b,H b≠z7->(X0 r (o.set i z7) b\/(T b\/b=a))->(X0 r o b\/T b):=λb _ z=>by
     rcases z with z|z|z
     .exact .inl (l b z).1
     .exact .inr z
     subst z;exact .inl K
    refine⟨.ref a,h1,k (.ref a) r H ⟨λ_ _ e _=>e,λj b z=>.inl (h j b z).2,λ_ z=>z,λ_ _=>rfl⟩ ⟨a,rfl,?_,?_,s.mono (λ_ _ e _=>e) sub λ_ e=>e⟩⟩
    .rcases V.ow i a ⟨d,G,h1⟩with z|z
     .exact absurd z hl
     exact z
    refine⟨by rw[tx];exact E.len,λj n y=>?_,λj n y=>?_,λj k n R b y hk g1 g2=>?_,λb z t=>?_,λb z=>?_⟩
    .rcases nq y with⟨_,_,q⟩|⟨ne,q⟩
     .cases q
     obtain⟨w,I,O⟩:=E.val j n q;exact⟨w,I,Rep.mono (λ_ _ e _=>e) sub O⟩
    .rcases nq y with⟨_,_,q⟩|⟨ne,q⟩
     .cases q
     obtain⟨w,I,O⟩:=E.own j n q;exact⟨w,I,O.mono (λ_ _ e _=>e) sub λ_ e=>e⟩
    .obtain⟨_,C,q1,q2⟩:=h j b ⟨n,y,g1⟩;obtain⟨_,P,q3,q4⟩:=h k b ⟨R,hk,g2⟩;exact E.inj j k C P b q1 q3 q2 q4
    .obtain⟨z1,z2⟩:=l b z;rcases t with t|t
     .exact E.nT b z1 t
     exact z2 t
    rcases z with z|z
    .exact E.dom b z
    subst z;exact E.GU K⟩
def sE(h:QX X e f)(n:de e I m.line X.env=pure z9:=by rfl):QS X A L Y (.Expr e m) (lq f):=⟨PS.imp' (Uh h.h n) λD r Q o=>by obtain⟨q,T,out,E,s,e,k⟩:=o;obtain⟨p,l,e⟩:=gS e;cases e;exact⟨q,T,p.1,p.2,E,l,λv d P=>k r d P.1.sk (P.rep E).1⟩⟩
def sI(n:QT X c U)(d:QQ X A L Y Ss u)(l:QQ X A L Y Ts v):QS X A L Y (.If c Ss Ts m) (J4 U u v):=⟨Xw n.h d.h l.h⟩
def sW{n:Nat}(l:QT X c U)(d:QQ X A L Y Ss u)(o:d6 (ah X.prog X.w) X.A X.env X.xe:=by exact PassesOwn.never):QS X A L Y (.While c Ss [] m) (nQ U u n):=⟨agQ o l.h d.h⟩
def sF{d:B0}{t:Tg}(G:QI X (λ_=>False) tg e d)(o:QG X A tg t)(l:QQ X A L Y Ss u)(q:d6 (ah X.prog X.w) X.A X.env X.xe:=by exact PassesOwn.never)(n:X.calm=C:=by rfl)(r:∀x,aB e X.env x=pure x:=by intro _;rfl):QS X A L Y (.For tg e Ss [] m) (qJ d t u):=⟨Ud q n G.h o.h l.h r⟩
def sS(q:X.N.Nodup)(t:QX X e f)(G:X.N[i]?=zx x:=by rfl)(I:Loc X.env.scope x:=by first|exact bj rfl|exact bq At)(w:X.fn x=z8\/X.env.scope.names.lookup x=zx .local:=by first|exact bj rfl|exact bq At)(s:A i:=by decide)(y:de e (zx<|.Name x p) m.line X.env=pure z9:=by rfl):QS X A L Y (.Assign [.Name x p] e m) (jo i f):=⟨PS.imp' (Xx q G I t.h y w) λD F H C=>by obtain⟨O,T,out,E,Q,e,k⟩:=C;obtain⟨⟨r,d⟩,o,e⟩:=gS e;obtain⟨G,rfl⟩:=iK e;refine⟨O,T,r,d,E,o,λv l P=>?_⟩;obtain⟨h1,n⟩:=A7 (A:=A) E P G s;exact k _ l h1 n⟩
def sT{t:Tg}{pt:bp}(I:QX X e f)(O:QG X A (.Tuple J k pt) t)(Q:el [.Tuple J k pt] e m.line X.env=pure z9:=by rfl)(l:eu [.Tuple J k pt] e X.env=pure z7:=by rfl)(h1:(ao [.Tuple J k pt] X.env).map (·.2)=[bD (.Tuple J k pt) X.env]:=by rfl):QS X A L Y (.Assign [.Tuple J k pt] e m) (Jh t f):=⟨PS.imp' (Jm I.h O.h Q l h1) λD R H l=>by obtain⟨F,T,out,E,K,e,k⟩:=l;obtain⟨⟨r,d⟩,h1,e⟩:=gS e;obtain⟨n,C,e⟩:=gS e;cases e;refine⟨F,T,r,d,E,h1,λv w P=>?_⟩;obtain⟨s,N⟩:=P.rep E;exact⟨d,T,r.1,n,s,N,C,λo y q=>k o w (P.1.sk.trans y) q⟩⟩
def J0{n:bp}(hv:QO X (.Name x M) (gR i))(he:QX X e f)(G:QO X a fo)
  (ha:∀v,bD (.Subscript (.Name x M) a n) X.env v=(do
   let y <-b6 [v] (aU (.Name x M) X.env)
   let I' <-b6 [v,y] (aU a X.env)
   ce n
   b6 [v,y,I'] (gm y I' v)
   v8 [v,y,I'] []):=by intro _;rfl)
  (hs:el [.Subscript (.Name x M) a n] e m.line X.env=pure z9:=by rfl)(C:eu [.Subscript (.Name x M) a n] e X.env=pure I:=by rfl)
  (h1:(ao [.Subscript (.Name x M) a n] X.env).map (·.2)=[bD (.Subscript (.Name x M) a n) X.env]:=by rfl):QS X A L Y (.Assign [.Subscript (.Name x M) a n] e m) (wD i f fo):=⟨PS.imp' (Jm he.h (Qi hv.h G.h Pr ha) hs C h1) λD O H C=>by
 obtain⟨R,T,out,E,fi,e,k⟩:=C;obtain⟨⟨r,d⟩,h1,e⟩:=gS e;dsimp only at e;split at e
 case h_2=>cases e
 rename_i y0 h0;obtain⟨⟨o,w⟩,h2,e⟩:=gS e;dsimp only at e;split at e
 .rename_i kk l hk N;obtain⟨j,hj,e⟩:=gS e;cases e;refine⟨R,T,r,d,E,h1,λv W q=>⟨d,Kb T r v,.slot i,d,q.er E,by unfold gR;rw[h0],λv2 H2 s=>⟨d,Kb T r v,o,w,s.er<|q.er E,h2,λv3 Z P3=>?_⟩⟩⟩;have gH:Cp X.K T O R H (.val r) d v W:=q;have B:=Ops.cons E gH<|Ops.cons (q.er E) s<|Ops.cons (s.er<|q.er E) P3<|Ops.nil<|P3.er<|s.er<|q.er E;have Q:ER X.K Z T O w:=B.er.mono (λ_ _ e _=>e) (λb _ z=>B.tt b z) λa z=>B.er.dom a<|B.tt a z;have t:O[i]?=zx (zx v2):=s.2.2;obtain⟨a,F,xs,q2,P⟩:=Q.own i _ N;rw[t]at F;cases F;have vk:=iP<|B.view (j:=2) At At hk;have rv:=B.rep E (j:=0) (r:=r) At At;refine⟨a,xs,kk,j,rfl,vk,q2,by rw[P.length];exact hj,?_⟩;obtain⟨V,K4⟩:=Q.write N t<|YP.set rv j P;exact k _ _ (B.keep.trans K4).sk V
 cases e⟩
def sDP{y:bp}(hu:un X.A 1)(hv:QO X (.Name x M) (gR i))(he:QX X e f)(G:QO X a fo)
  (ha:∀v,bD (.Subscript (.Name x M) a y) X.env v=(do
   let ov <-b6 [v] (aU (.Name x M) X.env)
   let iv <-b6 [v,ov] (aU a X.env)
   ce y
   b6 [v,ov,iv] (gm ov iv v)
   v8 [v,ov,iv] []):=by intro _;rfl)
  (hs:el [.Subscript (.Name x M) a y] e m.line X.env=pure z9:=by rfl)(hw:eu [.Subscript (.Name x M) a y] e X.env=pure z7:=by rfl)
  (h1:(ao [.Subscript (.Name x M) a y] X.env).map (·.2)=[bD (.Subscript (.Name x M) a y) X.env]:=by rfl):QS X A L Y (.Assign [.Subscript (.Name x M) a y] e m) (GA i f fo):=⟨PS.imp' (Jm he.h (Qi hv.h G.h (Pu hu) ha) hs hw h1) λD Q H hw=>by
 obtain⟨δ,T,out,E,fi,e,k⟩:=hw;obtain⟨⟨r,d⟩,h1,e⟩:=gS e;dsimp only at e;split at e
 case h_2=>cases e
 rename_i y0 h0;obtain⟨⟨o,l⟩,h2,e⟩:=gS e;dsimp only at e;split at e
 .rename_i V W Z hk h3;obtain⟨⟨R,q⟩,e⟩:=iK e;cases e;refine⟨δ,T,r,d,E,h1,λv H1 N=>⟨d,Kb T r v,.slot i,d,N.er E,by unfold gR;rw[h0],λv2 H2 P=>⟨d,Kb T r v,o,l,P.er<|N.er E,h2,λv3 F P3=>?_⟩⟩⟩;have gH:Cp X.K T Q δ H (.val r) d v H1:=N;have B:=Ops.cons E gH<|Ops.cons (N.er E) P<|Ops.cons (P.er<|N.er E) P3<|Ops.nil<|P3.er<|P.er<|N.er E;have E3:ER X.K F T Q l:=B.er.mono (λ_ _ e _=>e) (λb _ z=>B.tt b z) λa z=>B.er.dom a<|B.tt a z;have I:Q[i]?=zx (zx v2):=P.2.2;obtain⟨a,q1,us,q2,q3⟩:=E3.own i _ h3;rw[I]at q1;cases q1;have vk:=B.view (j:=2) At At hk;have rv:=B.rep E (j:=0) (r:=r) At At;have oa:X0 Q l a:=⟨i,_,h3,I⟩
  have kp:∀(s:HO) b u,F b=zx u->¬(X0 Q l b\/T b)->upd F a s b=zx u:=λs b u e n=>by rw[iW<|by intro z;subst z;exact n<|.inl oa];exact e
  have ks10:10000<sizeLine:=by rw[jP];decide
  have fin:∀s cM,Ah X.K (zx s) .dct (uY W Z V r.1).1 (uY W Z V r.1).2 cM->YP X.K F (λa=>X0 Q l a\/T a) (uY W Z V r.1).2 cM->D.nx Q (upd F a s):=λs cM g1 g2=>by obtain⟨E4,K4⟩:=E3.CM (o:=s) (d':=.R1 .dct (uY W Z V r.1).1 (uY W Z V r.1).2) h3 I ⟨cM,by rw[iQ];exact g1,YP.mono (kp s) (λ_ _ z=>z) g2⟩;exact k _ _ (B.keep.trans K4).sk E4
  refine⟨a,rfl,?_⟩;rcases q2 with⟨kvs,eH,rfl,rfl⟩|⟨kvs,eH,rfl,rfl⟩
  .rw[jl]at q;rcases xQ R with⟨κ,g1,_⟩|⟨τ,g1,g2⟩
   .have C:=uz g1 vk;have w:=qM g1;subst w;obtain⟨O,p2⟩:=V5 (k:=κ) rv q3;refine .inl ⟨_,by rw[C];exact Fv.k eH<|by lia,fin _ _ (.inl ⟨_,rfl,O,rfl⟩) p2⟩
   have cA:kvs=[]:=by
    cases kvs with
    |nil=>rfl
    |cons p kvs=>obtain⟨c,hc⟩:=g2 (ky p.1) (by simp);exact(Hk hc).elim
   subst cA;obtain⟨b,C,eb⟩:=uy g1 vk;have w:=xP g1;subst w;obtain⟨O,p2⟩:=V4 (k:=τ) (kvs:=[]) rv q3;exact .inr<|.inr ⟨τ,b,eH,C,eb,fin _ _ (.inr ⟨[(τ,v)],rfl,O,rfl⟩) p2⟩
  rw[jl]at q;rcases xQ R with⟨κ,g1,g2⟩|⟨τ,g1,_⟩
  .have cA:kvs=[]:=by
    cases kvs with
    |nil=>rfl
    |cons p kvs=>obtain⟨c,hc⟩:=g2 (.tup<|p.1.map ky) (by simp);exact(Kv hc).elim
   subst cA;have C:=uz g1 vk;have w:=qM g1;subst w;obtain⟨O,p2⟩:=V5 (k:=κ) (kvs:=[]) rv q3;exact .inr<|.inl ⟨κ,eH,C,fin _ _ (.inl ⟨[(κ,v)],rfl,O,rfl⟩) p2⟩
  obtain⟨b,C,eb⟩:=uy g1 vk;have w:=xP g1;subst w;obtain⟨O,p2⟩:=V4 (k:=τ) rv q3;refine .inl ⟨_,by rw[C];exact Fv.t eH eb<|by lia,fin _ _ (.inr ⟨_,rfl,O,rfl⟩) p2⟩
 cases e⟩
end
def Fz(K:iA)(b:mB)(x:aQ)(st:bG):Prop:= ∃f a,b x=J (.ref f)/\Ja K x x st f a
def fz{K:iA}{h:iJ}{e:mB}{x:aQ}{st:bG}{f:gU}{i:il}{j an:Option gU}{g:CT}{kV b m d ct:il}(X:K.In h)(G:h.Ns ap e)(a:aP K ap x=J (J<|.ref f))
  (l:K.lookup f=J ⟨i,j,.func<|bv x x (uU st) (pj st) (ir st) .none kV b m an d ct,g⟩)(c:cx K d x=C)(k:bX K (.ref f)=C):Fz K e x st:=⟨f,_,hL X G a,Yv l c k⟩
def MO(x:aQ)(st:bG)(c:iX):Prop:= ∀(kV a e:il)(an:Option gU)(d ct:il)(b:ju),AC b=AC c->th (bv x x (uU st) (pj st) (ir st) .none kV a e an d ct) ⟨b,[]⟩=pure (c.zip b)
def Ec{N P:iX}{a:jU}(h1:a.kind=.function:=by rfl)(b:a.isCoroutine=Y:=by rfl)(c:a.isGenerator=Y:=by rfl)(d:N.Nodup:=by decide+kernel)(e:N.take P.length=P:=by rfl)(f:∀x∈P,a.names.lookup x=J .local\/a.names.lookup x=J .cell:=by decide+kernel)(g:∀y∈a.names,y.2≠ .free:=by decide+kernel):VP N P a:=⟨h1,b,c,d,e,f,g⟩
def Bd(Z:ZZ)(k:Nat)(x:aQ)(st:bG)(N d:iX)(c:jM)(fs:FS):Prop:= ∀(f:gU)(b:il)(A:iB)(a:List ek)(s:hJ)(U:Hp)(E:XK)(L:LL),(∀i,L.p i->i<AC d)->Ad k (A.deeper<|cr x (ir st) s.heap.objs.size f b)->
 un (A.deeper<|cr x (ir st) s.heap.objs.size f b) 60->un (A.deeper<|cr x (ir st) s.heap.objs.size f b) 1->un (A.deeper<|cr x (ir st) s.heap.objs.size f b) 62->un (A.deeper<|cr x (ir st) s.heap.objs.size f b) 90->N.Nodup->
 QQ (Fu Hz Z.P Z.w Z.K Z.mg Z.base N x (ir st) f b A a s U E).MB (λi=>i∈c) L U (pj st) fs
def fnB{Z:ZZ}{k:Nat}{x:aQ}{st:bG}{N b:iX}{asg:jM}{fs:FS}{f:gU}{c:nI}(F:Ja Z.K x x st f c)(S:VP N b (ir st))(i:Bd Z k x st N b asg fs):Bs Z.P Z.w Z.K Z.mg Z.base Hz (k+1) f c b (Hu Z.K<|Q1 (AC N) (AC b) asg fs):=
 Yu F S λe A a s U E L g d=>by have:=d.un;exact(i f e A a s U E L g d (by unfold un;omega) (by unfold un;omega) (by unfold un;omega) (by unfold un;omega) S.nd).h
def ozB{Z:ZZ}{k:Nat}{x:aQ}{st:bG}{N c:iX}{asg:jM}{fs:FS}(a:Fz Z.K Z.mg x st)(S:VP N c (ir st))(b:MO x st c)(e:Bd Z k x st N c asg fs):Oz Z (k+1) x c (Q1 (AC N) (AC c) asg fs):=
 let⟨f,d,m,F⟩:=a;⟨f,d,fnB F S e,m,F.kp,F.binds b⟩
def us0{P:List il->Prop}(h:P []):∀b:List il,AC b=0->P b:=λb e=>by cases b with|nil=>exact h|cons a l=>cases e
def MP{P:List il->Prop}{n:Nat}(h:∀a,∀b:List il,AC b=n->P (a::b)):∀b:List il,AC b=n+1->P b:=λb e=>by cases b with|nil=>cases e|cons a l=>exact h a l<|Nat.succ.inj e
def oz0{Z:ZZ}{x:aQ}{st:bG}{c:iX}(a:Fz Z.K Z.mg x st)(b:MO x st c):Oz Z 0 x c (λ_=>I):=
 let⟨f,d,m,F⟩:=a;⟨f,d,U3,m,F.kp,F.binds b⟩
def J1{K:iA}{h:mB}{x y:aQ}{st:bG}{g:gU}(a:Fz K h x st)(j:h x=J (.ref g))(b:MO x st [y]):∃c,Ja K x x st g c/\∀(s:hJ)(v:il),d9 s c ⟨[v],[]⟩ [(y,v)]:=by obtain⟨f,c,m,F⟩:=a;have e:=j.symm.trans m;cases e;obtain⟨n,o,kV,d,k,an,i,ct,l,e,_⟩:=F.ex;exact⟨c,F,λs v=>by subst e;exact .of_eq<|b kV d k an i ct [v] H⟩
def mgI{K:iA}{h:iJ}{b:mB}{x:aQ}{i:Int}{t:m7}(X:K.In h)(G:h.Ns ap b)(a:aP K ap x=J (J<|.int i t)):∃t,b x=J (.int i t):=⟨t,hL X G a⟩
def txK{K:iA}{h:iJ}{g:mB}(X:K.In h)(G:h.Ns ap g)(i:aP K ap "len"=J I)(j:aP K ap "abs"=J I)(k:aP K ap "int"=J I)(l:aP K ap "tuple"=J I)(m:aP K ap "list"=J I)(n:aP K ap "range"=J I)(o:aP K ap "isinstance"=J I)(p:aP K ap "bool"=J I)(q:aP K ap "max"=J I)(r:aP K ap "min"=J I)(a:aP K ap "all"=J I)(b:aP K ap "any"=J I)(c:aP K ap "sorted"=J I)(d:aP K ap "enumerate"=J I)(e:aP K ap "zip"=J I)(f:aP K ap "set"=J I):Tx g:=⟨oS X G i,oS X G j,oS X G k,oS X G l,oS X G m,oS X G n,oS X G o,oS X G p,oS X G q,oS X G r,oS X G a,oS X G b,oS X G c,oS X G d,oS X G e,oS X G f⟩
def walkG{l:ej}{q:iF}{c:iX}{t:(aQ->Option il)->iJ->Prop}{m:iu->iJ->Prop}{d:DefRec}{K:tv->iA}{LV:Nat}{x:aQ}{j:OO}(hk:Ad LV d5)(U:l.most=J 63)(v:d.params.defaults=[])(A:∀(w:iu)(h:iJ),m w h->(K w.params).In h)
  (F:∀(w:iu)(g:mB)(p:gU)(h:iJ),(K w.params).In h->h.Ns ap g->g d.name=J (.ref p)->∃r:nI,(∀(s:hJ)(u:il),d9 s r ⟨[u],[]⟩ [(x,u)])/\∀base:iJ,(K w.params).In base->base.Ns ap g->Bs l.prog w (K w.params) g base Hz LV p r [x] (Hu (K w.params) j))
  (M:∀i:List Int,AC i<=63->∃o b,j [(.lst<|i.map .int,Y)]=J ((.bl C,o),b)):hZ q c t m l.row.toRowW d [] (λf E=>fL f E):=
 L2.aay (n:=63) (k:=LV) (x:=x) (CX:=λ_=>Hz) (sp:=λw=>Hu (K w.params) j) U (by decide) v hk A F (λ_ _ a i B _ y=>by obtain⟨o,b,e⟩:=M i B;exact Yg y e) λ_ _ _ _ _ z=>z
open AutoSeq1 (wpAny_loadPart')
def aep(a l:gU)(b c:dS)(f:b.cls=.type "dict")(i:c.cls=.type "tuple"):tz (bo.«dict.__eq__» ⟨[.ref a,.ref l],[]⟩) (λ_ R s=>s.heap.get? a=J b/\s.heap.get? l=J c/\R (.ok<|.ret .notImplemented) s):=
 .of_wp λj w A R s h=>by
  obtain⟨q,g,d,t,os⟩:=s;obtain⟨h1,m,h⟩:=h;obtain⟨k,dd,e,r⟩:=b;obtain⟨p,o,data2,n⟩:=c;simp only at f i;subst f i;have f1:=F.sub_tuple_dict
  wp_walk using b5 h1,b5 m
  exact⟨_,rfl,h⟩
def aev(a l:gU)(c b:dS)(f:c.cls=.type "dict")(i:b.cls=.type "tuple"){items:oF}{n:Nat}(hd:b.data=.seq items n):tz (bo.«tuple.__eq__» ⟨[.ref l,.ref a],[]⟩) (λ_ R s=>s.heap.get? l=J b/\s.heap.get? a=J c/\R (.ok<|.ret .notImplemented) s):=
 .of_wp λj w A R s h=>by
  obtain⟨r,g,d,u,os⟩:=s;obtain⟨h1,m,h⟩:=h;obtain⟨k,dd,e,t⟩:=c;obtain⟨q,p,data2,o⟩:=b;simp only at f i hd;subst f i hd;have f1:=F.sub_dict_tuple
  wp_walk using b5 h1,b5 m
  exact⟨_,rfl,h⟩
def aex{A:iB}{s:hJ}{a l:gU}{g:dS}{items:oF}(h1:s.heap.get? a=J g)(d:g.cls=.type "dict")(m:s.heap.IsTuple l items)(o:A.units<aS):RcAt A s (.ref a) (.ref l) Y:=λj w E Q h=>by
 obtain⟨i,c,b,n,hd⟩:=id m;have p:a≠l:=λe=>by subst e;rw[h1]at c;cases c;rw[d]at b;injection b with b;exact absurd b (by decide)
 exact rc_eq_decline_or (k:=Y) ⟨_,h1,d⟩ ⟨_,c,b⟩ (by decide) F.sub_tuple_dict F.slot_dict_eq ND
  (λ_ f=>tu F.slot_dict_eq ⟨_,h1,d⟩ F.entry_dict_eq (F.args_dict_eq_2 _ _) (aep a l g i d b) ⟨h1,c,f⟩)
  (λ_ f=>tu ND ⟨_,c,b⟩ F.entry_tuple_eq (F.args_tuple_eq_2 _ _) (aev a l g i d b hd) ⟨c,h1,f⟩)
  (λ_ f=>wpAny_isSame_ref_other p h1 c (by rw[d];simp) f) (.inr o) h
def RX(d e:D):Option (D×Bool):=match d,e with
 |.R1 .dct _ _,.tup _=>J (.bl Y,Y)
 |_,_=>I8 d e
section
variable {X:Cx}
def Uw(n:X.A.units+60<aS):D0 X (au .Eq) (rD X.K RX):=by
 intro b s N M x y v u Q I j k h;obtain⟨O,d,e,z,np,h1,f,c,G⟩:=h;by_cases g:∃i m l,d=.R1 .dct i m/\e=.tup l
 .obtain⟨i,m,l,rfl,rfl⟩:=g;cases c;obtain⟨a,L,rfl,q,r⟩:=qB h1;obtain⟨p,U,rfl,B,E⟩:=lM f;cases j;cases k;obtain⟨t,T,w,_⟩:=I.tuple B;obtain⟨o,g1,g2⟩:=Jr I q;exact(aex g1 g2 w<|by lia) _ _ _ _ ⟨.bl _,M,I,rfl,G.bl⟩
 refine jL n b s N M x y v u Q I j k ⟨O,d,e,z,np,h1,f,?_,G⟩;unfold RX at c;split at c
 .exact absurd ⟨_,_,_,rfl,rfl⟩ g
 exact c
end
noncomputable abbrev MA(i:Int):Int:=if i<0 then -i else i
section
variable {d:iF}{w:iu}{A:iB}{E:iU}{s:hJ}
def Pl{a:gU}{f:ju}{r:gY}{n:Nat}{P:p6->hJ->Prop}(J:s.heap.get? a=zx (aZ "list" f.toArray n))(hi:dy f r)(U:f.length<64)
  (h:∀g y out c,(∀b o,b≠a->s.heap.get? b=zx o->g.get? b=zx o)->g.get? a=zx (aZ "list" out c)->KskOut z9 (r.map MA) f out.toList->P (.done<|.ret .none) {s with heap:=g,toks:=y}):
  ae (ah d w) A (ksk_tree a (.builtin "abs") z9) P E s:=by
 have ha:a<s.heap.objs.size:=jc J;have S:=hi.length;have T:∀k,k<=f.length->k<=sizeLine:=λk hk=>by rw[jP];omega
 unfold ksk_tree;refine gW<|Io J At<|gW<|vT J At ?_ (T _ (by simp))<|lz _;obtain⟨C,X⟩:∃C,(s.heap.update a<|aM λ_=>(#[]:Array il)).get? a=zx (aZ "list" #[] C):=⟨_,yE J λ_=> #[]⟩
 refine gW<|Ay X At<|gW<|Ei ?_<|T _ (by simp);refine gW<|Ea ?_<|lz _;refine mU ?_
 let h1:=qj s.heap a f
 let m:Addr:=((s.heap.update a<|aM λ_=>(#[]:Array il)).push<|aZ "tuple" f.toArray 0).objs.size
 have hk:m=s.heap.objs.size+1:=by show _=_;simp -iota only[m];rw[size_push',Heap.size_update]
 have L:a≠m:=by rw[hk];exact jY<|xh ha
 have old:∀b o,b≠a->s.heap.get? b=zx o->h1.get? b=zx o:=λb o z e=>jJ _ (jJ _ (by rw[Im _ _ _ _ z];exact e));have D:h1.get? a=zx (aZ "list" #[] C):=jJ _ (jJ _ X);have bU:h1.get? m=zx (aZ "list" #[] 0):=kc _ rfl;show ae (ah d w) A (ksk_rest a (.builtin "abs") z9 f.toArray C<|.ref m) P E {s with heap:=h1};unfold ksk_rest;refine gW<|sG ?_;rw[List.forIn_toArray];refine gW<|ksk_fold (λi M=>∃g y l e,M={s with heap:=g,toks:=y}/\(∀b o,b≠m->h1.get? b=zx o->g.get? b=zx o)/\g.get? m=zx (aZ "list" l e)/\dy l.toList ((r.map MA).take i)) f 0 _ ⟨h1,s.toks,#[],0,rfl,λ_ _ _ e=>e,bU,.nil⟩ (λj x M W Y=>?_) λM Y=>?_
 .obtain⟨g,y,l,e,rfl,k1,k2,p⟩:=Y;have R:j<f.length:=(qX.mp W).1;obtain⟨t,V⟩:=hi.get j r[j]<|jq (by omega);rw[W]at V;cases V
  have q:l.size<=f.length:=by have:=p.length;rw[kn,vo]at this;omega
  refine gW<|vV<|wP λu eZ=>?_;dsimp only;have s1:=qd g m (aM (·.push (.int (MA r[j]) u)));refine gW<|vT (s:={s with heap:=g,toks:=eZ}) k2 At ?_ (T _ q)<|kK (oO (Array.size_push ..)) (by rw[jP];omega);refine ik ⟨rfl,_,_,l.push<|.int (MA r[j]) u,_,rfl,λb o z e=>(s1.2 b z).trans<|k1 b o z e,yE k2 _,?_⟩;rw[vU,List.take_add_one,jv,jq (show j<r.length by omega),d0];rw[vU]at p;exact p.append<|.cons _ _ .nil
 obtain⟨g,y,l,e,rfl,k1,k2,p⟩:=Y;have p:dy l.toList (r.map MA):=by rwa [vU,AA<|by simp;omega]at p
 have q:l.size=f.length:=by have:=p.length;rw[kn,jl]at this;omega
 have G:(l.zip f.toArray).size=f.length:=by rw[kw,q,jG,Nat.min_self]
 refine gW<|Io (s:={s with heap:=g,toks:=y}) k2 At ?_
 have v:∀st:sy,(ew st).Perm (l.zip f.toArray)->SortedTo (ew st) (ew st).size->eO st=z7->ae (ah d w) A (ksk_tail a z9 C (.ref m) st) P E {s with heap:=g,toks:=y}:=λst O K F=>by
  have s1:=qd g m<|aM λ_=>(#[]:Array il);have N:(g.update m<|aM λ_=>(#[]:Array il)).get? a=zx (aZ "list" #[] C):=(s1.2 a L).trans<|k1 a _ L D;have s2:=qd (g.update m<|aM λ_=>(#[]:Array il)) a (aM λ_=>(ew st).map (·.2));unfold ksk_tail;simp -iota only[jF,km];refine gW<|vT (s:={s with heap:=g,toks:=y}) k2 At ?_ (T _ (by omega))<|lz _;refine gW (Eh (gW (Ay N At (gW (vT N At ?_ (lz _) (h7 (show((ew st).map (·.2)).size<=sizeLine from T _ (by rw[kA,O.size_eq,G];exact jw _))))))));rw[F];simp -iota only[xi,jF,km];refine ik<|h _ _ _ _ (λb o z e=>?_) (yE N _) (ksk_out (b:=z9) p O K);have I:b≠m:=by rw[hk];exact jY<|xh<|jc e
  exact(s2.2 b z).trans ((s1.2 b I).trans<|k1 b o I<|old b o z e)
 unfold ksk_end;simp -iota only[jF,km];by_cases H:f.toArray.size<2
 .rw[ie H,ie H];refine gW<|ik ?_;rw[Iv];refine gW<|ik<|v _ (Array.Perm.refl _) (λi j p8 R=>?_) rfl;have cU:j<(l.zip f.toArray).size:=R;rw[G]at cU;rw[jG]at H;have:i=j:=by omega
  subst this;exact sa _
 rw[iC H,iC H];rw[jG]at H;rw[ksk_kind p<|by rw[q];omega];refine gW (ik ?_)
 refine gW (qi (wpS_sortRuns (a₀:=l.zip f.toArray) (st:=SortSt.mk' ut (l.zip f.toArray) #[] 7 z7) (Q:=λ_ B=>(ew B).Perm (l.zip f.toArray)/\eO B=z7/\SortedTo (ew B) (l.zip f.toArray).size)
  (ksk_intKeys p) ⟨Array.Perm.refl _,rfl,rfl,rfl⟩ (by rw[G];omega) (by rw[G];exact U) λB a1 Z a3=>⟨a1,Z,a3⟩) ?_ λ_ _ e=>e)
 rintro⟨⟨⟩,B⟩ M ⟨rfl,O,F,K⟩;exact v B O (by rw[O.size_eq];exact K) F
end
def aD:D->Int
 |.int i=>MA i
 |_=>0
noncomputable def Jl:D->Bool
 |.int _=>C
 |_=>Y
def ED(x y:D):Bool:=decide<|aD x<aD y
def rE:D->Option (D×Bool)
 |.lst l=>if l.all Jl=C/\(l.map aD).Nodup/\(AC l)<64 then J (.lst<|lC ED l,C)else I
 |_=>I
def RH{x:D}:∀{l:List D},l.Pairwise (λa b=>aD a<=aD b)->(E9 ED x l).Pairwise λa b=>aD a<=aD b:=by
 intro g
 induction g with
 |nil=>intro _;simp[E9]
 |cons y l f=>
  intro h;obtain⟨h1,e⟩:=FN.mp h;unfold E9;by_cases d:aD y<aD x
  .rw[ie<|by simpa[ED]using d];refine FN.mpr ⟨λz c=>?_,f e⟩;rcases kN.mp ((uQ ED x l).mem_iff.mp c)with rfl|c
   .omega
   exact h1 z c
  rw[iC<|by simpa[ED]using d];refine FN.mpr ⟨λz c=>?_,h⟩;rcases kN.mp c with rfl|c
  .omega
  have:=h1 z c;omega
def uF:∀l:List D,(lC ED l).Pairwise λa b=>aD a<=aD b:=by
 intro d
 induction d with
 |nil=>exact .nil
 |cons _ l c=>exact RH<|c
theorem Dp:∀{l:List D},(l.map aD).Nodup->∀a∈l,∀b∈l,aD a=aD b->a=b
 |x::l,h,a,d,b,f,e=>by
  rw[jI,Cj]at h;rcases kN.mp d with h1|h1<;>rcases kN.mp f with c|c
  .rw[h1,c]
  .exact absurd (h1▸e▸rP c) h.1
  .exact absurd (c▸e▸rP h1) h.1
  exact Dp h.2 a h1 b c e
def Po{l m:List D}(c:m.Perm l)(g:m.Pairwise λa b=>aD a<=aD b)(f:(l.map aD).Nodup):m=lC ED l:=by refine(c.trans (jA ED l).symm).eq_of_pairwise (le:=λa b=>aD a<=aD b) (λa b d e x y=>Dp f a (c.mem_iff.mp d) b ((jA ED l).mem_iff.mp e)<|by omega) g (uF l)
section
variable {X:Cx}{f:iO}{g:L2.St}{H:Hp}{s:hJ}
def acQ{O:SI}:∀{l:List D}{j:List V}{c:ju},l.all Jl=C->YP X.K H O l j->Vals j c->∃e:List Int,l=e.map .int/\dy c e:=by
 intro n
 induction n with
 |nil=>intro j c _ r v;rw[YP]at r;subst r;cases v;exact⟨[],rfl,.nil⟩
 |cons d l m=>
  intro j c h r v;rw[YP]at r;obtain⟨x,q,rfl,o,p⟩:=r;rw[vX,la]at h
  cases d with
  |int i=>
   cases v with
   |cons a b=>obtain⟨e,rfl,k⟩:=m h.2 p b;rw[iP<|.inl o]at a;obtain⟨t,rfl⟩:=a;exact⟨i::e,rfl,.cons _ _ k⟩
  |_=>exact absurd h.1 (by simp[Jl])
theorem Zh:∀{l:List D}{a:gY}{xs:List V}{its:ju},l=a.map .int->AC xs=AC l->AC its=AC l->(a.map MA).zip its=(l.zip<|xs.zip its).map λt=>(aD t.1,t.2.2)
 |[],[],_,_,_,_,_=>by simp
 |d::l,i::a,x::xs,u::its,h,h1,b=>by obtain⟨rfl,c⟩:=ve h;have:=Zh (xs:=xs) (its:=its) c (by simpa using h1) (by simpa using b);simp -iota only[jI,sQ,this];rfl
def afL{u:il}{Q:VK}{O:SI}{d:D}{z:D×Bool}{x:V}(I:Inv X f g H s)(ru:RelV x u)(np:∀p,¬Ow (H p)->¬O p)(hd:jT X.K H O d x)(M:rE d=zx z)(G:Gen X.K H O z Q):
  ae (ah X.prog X.w) X.A (call (.builtin "sorted") [u] [(bz "key",.builtin "abs")]) (EP X f g Q) X.xe s:=by
 cases d with
 |lst l=>
  obtain⟨⟨hI,hn,hz⟩,rfl⟩:=iK M;obtain⟨p,xs,rfl,q,E⟩:=kL hd;cases ru;obtain⟨j,v,pl,_⟩:=I.list q;have e1:=E.length;have e2:=v.length;obtain⟨ns,W,r⟩:=acQ hI E v;have hl:j.length<=sizeLine:=by rw[jP];omega
  obtain⟨o,ho,hc,n,S⟩:=pl.isList;refine call_function_entry_kw zn ww wE (ksk_s1 _ _) ?_;unfold bo.«sorted»;refine gW (m:=checkCount "sorted" 1 1 _)<|ik ?_;refine gW<|Il p (.inl At) ho hc S (λh1 k1=>?_) (by rw[jG];omega);rw[List.toList_toArray];refine gW<|Ea ?_ hl;have T:(h1.push<|aZ "list" j.toArray 0).get? h1.objs.size=zx (aZ "list" j.toArray 0):=kc _ rfl;have L:Inv X f g H {s with heap:=h1}:=I.kept k1;refine gW<|mU<|wpAny_call_entry_kw (s:={s with heap:=h1.push (aZ "list" j.toArray 0)}) t9 ⟨_,T,rfl⟩ ro ?body<|ksk_l1 _ _
  case body=>
   show ae _ _ (bo.«list.sort» ⟨[.ref h1.objs.size],[(bz "key",.builtin "abs")]⟩) _ _ _;rw[ksk_t4];refine Pl (s:={s with heap:=h1.push (aZ "list" j.toArray 0)}) T r (by omega) λh' tk out c k2 k3 ko=>⟨_,rfl,ik ⟨_,rfl,?_⟩⟩
   obtain⟨ps,U,k,Y⟩:=ko;rw[Zh W (by omega)<|by omega]at U;obtain⟨a,F,rfl⟩:=mE _ U _ rfl;rw[ji]at k
   have R:∀t∈a,Rep X.K H O t.1 t.2.1/\RelV t.2.1 t.2.2:=λt hm=>by obtain⟨i,hi⟩:=pk<|F.mem_iff.mp hm;obtain⟨B,Z⟩:=FP.mp hi;obtain⟨y,C⟩:=FP.mp Z;obtain⟨w,P,w2⟩:=v.get y;rw[C]at P;cases P;exact⟨E.views B y,w2⟩
   have J:a.map (·.1)=lC ED l:=by
    refine Po ?_ (by rw[kP]at Y ⊢;exact Y.imp λh=>by simpa using h) hn;have:=F.map (·.1)
    rwa [ia<|by simp;omega]at this
   have hR:∀a:List (D×V×il),(∀t∈a,Rep X.K H O t.1 t.2.1/\RelV t.2.1 t.2.2)->YP X.K H O (a.map (·.1)) (a.map (·.2.1))/\Vals (a.map (·.2.1)) (a.map (·.2.2)):=λa=>by
    induction a with
    |nil=>exact λ_=>⟨.nil,.nil⟩
    |cons t a ih=>intro h;obtain⟨i1,i2⟩:=ih λx hx=>h x<|jx _ hx;exact⟨.cons (h t jt).1 i1,.cons (h t jt).2 i2⟩
   obtain⟨r1,r2⟩:=hR a R;have keep:∀b o,h1.get? b=zx o->h'.get? b=zx o:=λb o e=>k2 b o (jY<|jc e)<|jJ _ e;have N:a.length=l.length:=by have:=nc ey J;rw[(jA ED l).length_eq,jl]at this;exact this
   refine⟨.ref h1.objs.size,_,L.laid (t':=tk) keep (jw _) (show S1 X.prog X.w _ _ _ (.lst (a.map (·.2.1)))from⟨by rw[jl,jP];omega,out.toList,c,?_,?_⟩),rfl,?_⟩
   .rw[k];exact r2
   .rw[NC];exact k3
   refine G.lst L.fresh ?_;rw[<-J];exact r1
 |_=>cases M
def Qk{a:ig}{i:TA}{p b w v:bp}(c:Gl X "sorted")(q:X.mg "sorted"=I)(j:Gl X "abs")(l:X.mg "abs"=I)(m:PA X [a] i)
  (n:bg b (ai [a] X.env)=(Y,aU a X.env)::bg b (ai [] X.env))(t:(bg b<|ai [a] X.env).any (·.1)=Y):
  PE X (.Call (.Name "sorted" p) [a] [⟨J "key",.Name "abs" w,v⟩] b) (MR (Cz X.K<|g1 rE) i):=by
 intro f s g H Q T h;refine AN<|rA T c q ag4<|callWith_kw (Pt (m b f s g H _ T h) λU s1 ⟨E,B,e,y,r⟩=>kws_cons<|rA e j l YT<|kws_nil ?_) n t At At;obtain⟨O,k,z,np,o,hv,c,G⟩:=r
 match k,c with
 |[d],c=>obtain⟨x,rfl⟩:=K7 o At;obtain⟨u,rfl,A⟩:=qC y;exact afL e A np (hv 0 d x At At) c G
def PU{a:ig}{c:FO}{p b n m:bp}(j:Gl X "sorted")(k:X.mg "sorted"=I)(d:Gl X "abs")(e:X.mg "abs"=I)(h:PA X [a] (tA X.K [c]))
  (i:bg b (ai [a] X.env)=(Y,aU a X.env)::bg b (ai [] X.env))(l:(bg b<|ai [a] X.env).any (·.1)=Y):
  PX X (.Call (.Name "sorted" p) [a] [⟨J "key",.Name "abs" n,m⟩] b) (iw (g1 rE) [c]):=pxn<|Qk j k d e h i l
end
noncomputable def Fj(i:Nat):F:=λa=>match a[i]? with
 |some (J (.lst l,C))=>(l[AC l-1]?).bind λd=>J ((d,Y),a.set i<|J (.lst l.dropLast,C))
 |_=>I
def YP.dropLast{K U}{O:SI}{l:List D}{a:List V}(r:YP K U O l a):YP K U O l.dropLast a.dropLast:=by rw[NB,NB,r.length];exact r.take _
section
variable {X:Cx}{x:aQ}{i:Nat}{f c g:bp}
def Xm(hv:PO X (.Name x f) (gR i))(N:cB (.Name x f) "pop" X.env (aU (.Name x f) X.env)=aU (.Name x f) X.env)(B:(c.endLine==g.line)=C):
  PX X (.Call (.Attribute (.Name x f) "pop" c) [] [] g) (Fj i):=
 PX.imp (XM HY NG NF X7 hv N B) λM H Q A=>by
 obtain⟨s,T,U,O,E,e,k⟩:=A;unfold Fj at e;split at e
 .rename_i l p;obtain⟨d,hd,e⟩:=gS e;obtain⟨rfl,rfl⟩:=iG e;refine⟨s,T,.slot i,s,E,by unfold gR;rw[p],λv G P=>?_⟩;obtain⟨u,q,h⟩:=P;obtain⟨a,g1,r,g2,m⟩:=q.own i _ p;rw[h]at g1;cases g1;obtain⟨w,I,L⟩:=m.get hd;have y:=m.length;obtain⟨t,j⟩:=q.write p h<|YP.dropLast m;refine⟨.inl ⟨rfl,r,CO.of g2⟩,_,r,w,rfl,rfl,g2,by rw[y];exact I,?_⟩;exact k _ _ (N1.val (u.trans j) t<|Rep.mono (λb o e n=>j.kp b o e λz=>n<|.inl z) (λb _ z=>z.imp (j.ow b) id) L)
 cases e
end
section
variable {X:Cx}
variable {a:ig}{e:FO}{p b f g d c:bp}{x:aQ}{i:Nat}
def xSA(T:Tx X.mg)(l:QA X [a] [e])(n:Gl X "sorted":=by rfl)(j:Gl X "abs":=by rfl)(m:bg b (ai [a] X.env)=(Y,aU a X.env)::bg b (ai [] X.env):=by rfl)(k:BA X b [a]:=by rfl):
  QX X (.Call (.Name "sorted" p) [a] [⟨J "key",.Name "abs" f,g⟩] b) (iw (g1 rE) [e]):=⟨PU n (ML T (z:="sorted") H) j (ML T (z:="abs") H) l.h m k⟩
def aat(hv:QO X (.Name x d) (gR i))(k:cB (.Name x d) "pop" X.env (aU (.Name x d) X.env)=aU (.Name x d) X.env:=by rfl)(j:(c.endLine==b.line)=C:=by rfl):
  QX X (.Call (.Attribute (.Name x d) "pop" c) [] [] b) (Fj i):=⟨Xm hv.h k j⟩
end
section
variable {X:Cx}{a:iO}{b:L2.St}{H:Hp}{s:hJ}
theorem KN{K:iA}{O:SI}:∀(c:List Key),YP K H O (c.map ky)<|c.map kV
 |[]=>YP.nil
 |k::c=>by
  refine YP.cons ?_<|KN c
  cases k with
  |inl i=>exact Rep.mkInt
  |inr x=>exact Rep.mkStr
theorem wF{K:iA}{O:SI}(np:∀p,¬Ow (H p)->¬O p):∀{c:List (List Key×V)}{d:List (List Key×gU×il)},L2.KT H c d->YP K H O (c.map λp=>.tup (p.1.map ky)) (d.map λx=>V.ref x.2.1)
 |_,_,.nil=>YP.nil
 |_,_,.cons h t=>by refine YP.cons (Rep.G4 ⟨h.2.1,np _ λz=>z.nt _ h.2.1⟩<|KN _)<|wF np t
def A5{P:iF}{w:iu}(c:List (List Key×gU×il)):Vals (c.map λx=>V.ref x.2.1) ((c.map<|entryOfKey<|db<|lb P w).map (·.key)):=by
 induction c with
 |nil=>exact .nil
 |cons x c d=>exact .cons At d
end
def Fe(d:D):Option (D×Bool):=match d with
 |.R1 .dct a _=>J (.lst a,C)
 |_=>BI d
def Pk{b:iF}{w:iu}{a:gU}{c:Array df}{d:Nat}(hd:(a==bx)=Y):PySem.W.KdlSrc b w "dict" a a c.size (λi v=>∃e,c[i]?=J e/\v=e.key) (λh=>TT.EA h a c d) where
 type:=λs x=>x.typeIs
 there:=λh x=>let⟨_,h1,_⟩:=x.at_;⟨jc h1,jc h1⟩
 keep:=λh j x k=>x.I0 λo e=>k a (.inl H) o e
 notList:=by decide
 notTuple:=by decide
 hint:=λA E s Q x h=>PySem.W.kdl_hint_dict x.typeIs h
 iter:=λA s g x=>by have f:a<s.heap.objs.size:=let⟨_,h1,_⟩:=x.at_;jc h1;exact⟨_,_,λE Q h=>TT.LA hd x h,TT.HQ g s.heap.objs.size a (qh f) c d,⟨⟨_,kc _ rfl,rfl,rfl⟩,x.I0 λo e=>jJ _ e⟩⟩
section
variable {X:Cx}{b:iO}{f:L2.St}{H:Hp}{s:hJ}
def xJ(o:X.A.handled=I)(U:Inv X b f H s){a:gU}{g:Array df}{m:Nat}{O:SI}{k:List D}{j:List V}{Q:VK}(hd:(a==bx)=Y)(S:TT.EA s.heap a g m)(l:g.size<=sizeLine)
  (t:YP X.K H O k j)(v:Vals j (g.toList.map (·.key)))(G:Gen X.K H O (.lst k,C) Q):ae (ah X.prog X.w) X.A (call (.type "list") [.ref a]) (EP X b f Q) X.xe s:=by
 refine PySem.W.kdl_call (Pk hd) o S l λy x d c r q it=>?_
 have n:d.toList=g.toList.map (·.key):=by
  apply AG;intro i;rw[kR,jv,kR]
  cases h:d[i]? with
  |some u=>obtain⟨e,h1,rfl⟩:=it.2 i u h;rw[h1];rfl
  |none=>have:=Wt.mp h;rw[Wt.mpr<|by rw[<-it.1];exact this];rfl
 have p:=v.length;refine⟨.ref s.heap.objs.size,_,U.laid (t':=x) r (jw _) (show S1 X.prog X.w _ _ _ (.lst j)from⟨by rw[p,jl,kn];exact l,d.toList,c,by rw[n];exact v,by rw[NC];exact q⟩),rfl,?_⟩;exact G.lst U.fresh t
def aft(M:X.calm=z8):kg X (.type "list") (Cz X.K<|g1 Fe):=nC λb s f H x u Q O d z I B np hd t G=>by
 by_cases y:∃m C,d=.R1 .dct m C
 .obtain⟨m,C,rfl⟩:=y;cases(show zx (D.lst m,z8)=zx z from t);obtain⟨a,P,rfl,q,r⟩:=qB hd;cases B;have v:X.A.handled=z7:=I.ok.hd M;rcases q with⟨h,e,rfl,rfl⟩|⟨h,e,rfl,rfl⟩
  .obtain⟨U,i,N,c,o,n,T,h1,g,k,l,p,J⟩:=Sn I.hok e;have E:=C1 p c;have w:=E.length;simp only[jl,kn]at w;exact xJ v I i ⟨o,h1,g,k⟩ (by lia) (yT h) E G
  obtain⟨U,i,L,c,o,n,T,h1,g,k,l,p,J⟩:=Sk I.hok e;have w:=wo c;have F:n.size=L.length:=p4 l;exact xJ v I i ⟨o,h1,g,k⟩ (by lia) (wF np c) (by rw[l];exact A5 L) G
 have:Fe d=BI d:=by
  unfold Fe;split
  .exact absurd ⟨_,_,rfl⟩ y
  rfl
 exact afs b s f H [x] [u] Q I (.cons B .nil) ⟨O,[d],z,np,rfl,λj Y R h1 g=>by
  cases j with
  |zero=>cases h1;cases g;exact hd
  |succ j=>simp at h1,by show BI d=zx z;rw[<-this];exact t,G⟩
end
def Hq(d e:D):Option (D×Bool):=match d,e with
 |.lst l,.int k=>if 0<=k/\k<1000/\(AC l)*k.toNat<=sizeLine then J (.lst (ac k.toNat l).flatten,C)else I
 |_,_=>ox d e
theorem YP.rep{K U}{O:SI}{l:List D}{a:List V}(r:YP K U O l a):∀n:Nat,YP K U O (ac n l).flatten (ac n a).flatten
 |0=>YP.nil
 |n+1=>by rw[tw,tw,yN,yN];exact r.append<|YP.rep r n
section
variable {X:Cx}
def Qu:D0 X (bm .Mult) (rD X.K Hq):=by
 intro i s σ H x y v u Q I N j h;obtain⟨O,d,e,z,np,h1,B,C,G⟩:=h;by_cases E:∃l k,d=.lst l/\e=.int k
 .obtain⟨l,k,rfl,rfl⟩:=E;obtain⟨⟨eI,bU,L⟩,rfl⟩:=iK (show(if 0<=k/\k<1000/\l.length*k.toNat<=sizeLine then zx (D.lst (ac k.toNat l).flatten,z8)else z7)=zx z from C);obtain⟨p,xs,rfl,q,r⟩:=kL h1;cases N;rw[iP B]at j;obtain⟨t,rfl⟩:=j;obtain⟨b,M,W,_⟩:=I.list q;obtain⟨⟨R,dd,w,Y⟩,n,e,J,_,o⟩:=W;simp only at J o;subst J o;have A:=r.length;have S:=M.length;have g:b.toArray.size*k.toNat<=sizeLine:=by rw[jG,<-S,A];exact L
  have f: ¬b.toArray.size*k.toNat>(2^63-1) / 8:=by
   have:(sizeLine:Nat)<=(2^63-1) / 8:=by decide
   lia
  have P: ¬(!qs k)=z8:=by rw[ta (by lia)<|by lia];exact kJ
  have c: ¬cv (b.toArray.size*k.toNat)=z8:=by rw[QM g];exact kJ
  have V:dX (λx1 x2=>x1++x2) #[] (ac (if b.toArray.isEmpty=z8 then 0 else k.toNat) b.toArray)=(ac k.toNat b).flatten.toArray:=by
   have f0:∀m:Nat,dX (λx1 x2=>x1++x2) #[] (ac m b.toArray)=(ac m b).flatten.toArray:=λm=>by
    have:=DA b m []
    rwa [sN]at this
   rw[f0]
   cases b with
   |nil=>simp
   |cons a r'=>rw[iC<|by simp]
  refine wpAny_binaryOp_repeat_ref (T:="list") (U:="int") (by decide) ⟨_,e,rfl⟩ (λZ=>lw Z k t) noFill_list_mul F.fills_int_mul F.slot_int_rmul repeat_list F.slot_int_index.lookup
   (tu F.slot_int_rmul (lw s k t) F.entry_int_rmul (F.args_int_rmul_2 _ _) (lm_int_rmul_list_any k t p b.toArray n dd Y)
    ⟨e,rfl,⟨_,e,rfl⟩,tu F.slot_list_mul ⟨_,e,rfl⟩ F.entry_list_mul (F.args_list_mul_2 _ _) (lm_list_mul_any p b.toArray n dd Y k t P f c) ⟨e,?_⟩⟩)
  rw[V];exact⟨.ref _,_,I.M5 (t':=s.toks) (M.rep k.toNat)<|by rw[UL,vR,A];exact L,rfl,G.lst I.fresh<|r.rep k.toNat⟩
 have:Hq d e=ox d e:=by
  unfold Hq;split
  .exact absurd ⟨_,_,rfl,rfl⟩ E
  rfl
 exact mJ i s σ H x y v u Q I N j ⟨O,d,e,z,np,h1,B,by rw[<-this];exact C,G⟩
end
section
variable {a:iF}{w:iu}{A:iB}{E:iU}{I:gU}{c b:ki}{n:Nat}{P:Nat->il->Prop}{St:Nat->iJ->Prop}
end
section
variable {X:Cx}{A:jX}{a:bp}{c:kb}{b:List Tg}
end
section
variable {X:Cx}{A:jX}{a b:ig}{j:bp}
variable {e g:ig}{f:F}{x z:aQ}{p n l m:bp}{i k:Nat}{L:LL}{o:Hp}
def xLS{c:oQ}{scope:jU}{w:B0}{tt:Tg}{y:FT}{r:jM}{N':iX}{s:bp}(T:Tx X.mg)(C:CI X N' scope r k)(Q:N'.Nodup)(U:QI X (λi=>i∉r) c.target c.iter w)
  (G:∀(cl:lI)(C:gU)(v:hJ)(t:Hp)(u:ki)(q:iO),(X.comp N' scope cl C v t u q).N.Nodup->
   QG (X.comp N' scope cl C v t u q) (λi=>AC r<=i) c.target tt/\QF (X.comp N' scope cl C v t u q) c.ifs y/\QX (X.comp N' scope cl C v t u q) g f)
  (H:X.calm=z8:=by rfl)(E:c.is_async=0:=by rfl)(O:∀x,aB c.iter X.env x=pure x:=by intro _;rfl)(I:Gl X "len":=by rfl)
  (h1:ai [.SetComp g [c] scope j] X.env=(Y,aU (.SetComp g [c] scope j) X.env)::ai [] X.env:=by rfl)(B:(bg s<|ai [] X.env).any (·.1)=Y:=by rfl):
  QX X (.Call (.Name "len" p) [.SetComp g [c] scope j] [] s) (uR r k w tt y<|Cf f):=
 ⟨agP C H E (by intro M h;cases h) O U.h (λcl C v t u q=>let⟨a,b,c⟩:=G cl C v t u q Q;⟨a.h,b.h,λd=>agf At c.h⟩) I T.n_len YS (by decide) (by decide) h1 B⟩
end
def xX(d:D):Option (D×Bool):=match d with
 |.R1 .dct a _=>jz a
 |_=>I
def xY(d e:D):Option (D×Bool):=match e with
 |.R1 .dct a b=>if xR a d=C then J (.bl (!(oX a b d).isSome),Y)else I
 |_=>I
section
variable {X:Cx}{b:iO}{c:L2.St}{H:Hp}{s:hJ}
def afV(o:X.A.units+62<aS):D0 X (au .NotIn) (rD X.K xY):=by
 intro b s c H x y v u Q U m n h;obtain⟨O,d,e,z,np,h1,l,f,G⟩:=h;by_cases j:∃g i,e=.R1 .dct g i
 .obtain⟨g,i,rfl⟩:=j;obtain⟨hk,rfl⟩:=iK (show(if xR g d=C then J (D.bl (!(oX g i d).isSome),Y)else I)=J z from f);obtain⟨a,t,rfl,q,r⟩:=qB l;cases n;exact abX (by lia) U q r hk h1 m C λp k=>⟨.bl _,H,k,by simp[L2.RelV],G.bl⟩
 unfold xY at f;split at f
 .exact absurd ⟨_,_,rfl⟩ j
 cases f
def aeO(hc:X.calm=z8)(J:X.A.units+62<aS):kg X (.builtin "sorted") (Cz X.K<|g1 xX):=nC λb s c H x u Q O d z I W np hd h G=>by
 by_cases T:∃v N,d=.R1 .dct v N
 .obtain⟨v,N,rfl⟩:=T;have M:jz v=zx z:=h;obtain⟨a,us,rfl,q,r⟩:=qB hd;cases W;have E:X.A.handled=z7:=I.ok.hd hc;rcases q with⟨g,e,rfl,rfl⟩|⟨g,e,rfl,rfl⟩
  .obtain⟨zl,i,Z,f,o,B,S,h1,m,n,p,C,V⟩:=Sn I.hok e;have U:=C1 C f;have L:=U.length;simp only[jl,kn]at L;exact qE J I (yT (O:=O) g) U M G λR F D j t=>TT.SA i (by rw[j];exact E) ⟨o,h1,m,n⟩ (by lia) λl y k=>t l y k
  obtain⟨zl,i,Y,f,o,B,S,h1,m,n,p,C,V⟩:=Sk I.hok e;have L:=wo f;have hz:B.size=Y.length:=p4 p;refine qE J I (wF np f) (A5 (P:=X.prog) (w:=X.w) Y) M G λR F D j t=>TT.SA i (by rw[j];exact E) ⟨o,h1,m,n⟩ (by lia) λl y k=>?_;rw[p];exact t l y k
 unfold xX at h;split at h
 .exact absurd ⟨_,_,rfl⟩ T
 cases h
end
end PX
namespace TT
open PySem.SeqAt
section
variable {a:iF}{w:iu}{A:iB}{R:gF->hJ->Prop}{I:gU}{c b:ki}{G:Array eM->Array eM->Prop}{n:Nat}{P:Nat->il->Prop}{St:Nat->hJ->Prop}
end
end TT
namespace PX
open L2 PySem.SeqAt TS
section
variable {a:iF}{w:iu}{A:iB}{E:iU}{s:hJ}
end
end PX
namespace TT
open PySem.SeqAt
section
variable {a:iF}{w:iu}{A:iB}{E:iU}{s:hJ}
end
end TT
namespace PX
open L2 PySem.SeqAt
section
variable {X:Cx}
variable {a:ig}{c:FO}{p b:bp}
end
open PySem.Builtin.Str
section
variable {X:Cx}
end
section
variable {X:Cx}{o e a:ig}{k l:FO}{b v:aQ}{d p c i h g f:bp}{j:Nat}
end
section
variable {K:iA}{T:SI}{b:L2.St}{c:Dn}{H:Hp}{A:jX}{i j:Nat}{d:D}{a:gU}
end
section
variable {X:Cx}{A:jX}{L:LL}{g:Hp}{d e f:bp}{i j:Nat}{x y:aQ}
def gT3{a b c:ig}{l m n:Tg}{k:Nat}(h1:QG X A a l)(o:QG X A b m)(p:QG X A c n)(q:X.calm=C:=by rfl)(t:(ao [a,b,c] X.env).map (·.2)=bD a X.env::(ao [b,c] X.env).map (·.2):=by rfl)(u:(ao [b,c] X.env).map (·.2)=bD b X.env::(ao [c] X.env).map (·.2):=by rfl)(v:(ao [c] X.env).map (·.2)=bD c X.env::(ao [] X.env).map (·.2):=by rfl)
  (r:(ao [a,b,c] X.env).length=3:=by rfl)(s:(ao [a,b,c] X.env).findIdx? (·.1)=I:=by rfl):QG X A (.Tuple [a,b,c] k d) (ng [l,m,n]):=⟨EK q (mn h1.h (mn o.h (mn p.h Bo v) u) t) r H s⟩
end
end PX
namespace TT
open PySem.SeqAt
def af9{c:gY}{t:lH}(ok:O1 c t)(h:Int):∃m,(pr t.mask h m).j∉t.place.toList/\(∀q,q<m->(pr t.mask h q).j∈t.place.toList)/\t.freeSlot h=J ((pr t.mask h m).j,Y):=by
 obtain⟨m,_,_,d,e⟩:=Dh ok (p:=t.probeStart h) (n:=0) (h:=h) (hashAt:=λ_=>h+1) H (λq b=>by lia);rcases e with⟨a1,a2⟩|⟨i,_,a2,_⟩
 .refine⟨m,a1,λq b=>?_,?_⟩
  .obtain⟨i,a,_⟩:=d q (lz _) b;rw[<-kR]at a;exact lK a
  unfold y1;rw[a2];rfl
 lia
def agO{es:qV}(t:lH)(u:5<=es.size)(v:es.size<=500):∃t' es',relayAll t es (bW es.size)=(es',t',Y)/\es'.toList.Perm es.toList/\O1 (es'.toList.map (·.1)) t'/\t'.plain=t.plain/\t'.led=t.led:=by
 have o:bW es.size=es.size*4:=by unfold bW;rw[iC<|by lia]
 obtain⟨k,r,g,s,lk⟩:=xu (es.size*4) (by lia);have q:bR (es.size*4)-1+1=2^k:=by have:=Ij k;lia
 obtain⟨t',a,h,c,j,l,m⟩:=Lw q r g t.finger (t.movedTo<|bR (es.size*4)-1) t.led t.plain (es.toList.map (·.1)) (by rw[jl,kn];lia);rw[jl,kn]at c
 have er:t.relaid (es.map (·.1)) (es.size*4)=J (t',a):=by unfold fN;rw[<-h,<-hH]
 have f:∀i∈a.toList,i<es.size:=λi p=>yv.mp<|c.mem_iff.mp p;have d:(a.filterMap (es[·]?)).toList=a.toList.filterMap (λi=>es[i]?):=by simp
 have b:(a.filterMap (es[·]?)).toList.Perm es.toList:=by rw[d];refine(c.filterMap _).trans ?_;rw[GF]
 have e:O1 ((a.filterMap (es[·]?)).toList.map (·.1)) t':=by rw[d,LF _ f];exact j
 refine⟨t',a.filterMap (es[·]?),?_,b,e,l,m⟩;unfold relayAll;rw[o,er];have h1:coversAll a es.size=C:=by unfold coversAll;exact List.isPerm_iff.mpr c
 have n:t'.fits (a.filterMap (es[·]?)).size=C:=As e (by rw[jl,kn]);dsimp only;rw[h1,n];rfl
section
variable {b:iF}{w:iu}{A:iB}{E:iU}{s:hJ}
def Za{a:gU}{es:qV}{n:Nat}{t:lH}{k:Int}{x:il}(d:(bH b w).is k x=z8)(I:x.scannable=z8)(r:plainKind x=z8)(l:s.heap.get? a=zx (ke es n t))(c:O1 (es.toList.map (·.1)) t)(g8:t.plain=z8)(hz:es.size+1<=500)
  (L:ElemsOf (bH b w) es.toList){Q:rN}
  (hold:(∃e∈es.toList,(bH b w).is k e.2=z8)->Q z9 s)
  (u:(∀e∈es.toList,(bH b w).is k e.2=z9)->∀p es' n' t',aF a s.heap p->p.get? a=zx (ke es' n' t')->es'.toList.Perm (((bH b w).hash k,x)::es.toList)->O1 (es'.toList.map (·.1)) t'->t'.plain=z8->t'.led=t.led->Q z8 {s with heap:=p}):
  ae (ah b w) A (eF a x<|(bH b w).hash k) Q E s:=by
 have O:t.fits es.size=z8:=As c (by simp);have K:es.size<scanBound:=by show es.size<4096;lia
 unfold eF sx;refine mU<|gW<|sA l At O ?_;dsimp only;rw[byScan_of I K L];simp only[↓reduceIte];unfold setAddByScan;refine gW ?_;refine gW<|sG ?_;refine gW<|wpAny_setScan_of d l At O L ?_
 cases T:List.findIdx? (λe=>(bH b w).is k e.2) es.toList with
 |some j=>dsimp only;obtain⟨R,q,_⟩:=Zd.mp T;exact ik<|ik<|hold ⟨es.toList[j],vO R,q⟩
 |none=>
  dsimp only;have J:∀e∈es.toList,(bH b w).is k e.2=z9:=λe P=>by simpa using Zc.mp T e P
  generalize hh:(bH b w).hash k=h at u ⊢;obtain⟨m,h1,F,Y⟩:=af9 c h;obtain⟨i,g,S,V,o,z,B,G,N,D,U⟩:=PY x c g8 h1 F
  have f:layNew t es h x=(i,g,z9,z9):=by unfold layNew;rw[Y];show(aE es (t.put (pr t.mask h m).j).2 (h,x),(t.put (pr t.mask h m).j).1.orStandIn (aE es (t.put (pr t.mask h m).j).2 (h,x)).size,z9,!(t.put (pr t.mask h m).j).1.fits (aE es (t.put (pr t.mask h m).j).2 (h,x)).size)=_;rw[S,V];unfold xx;rw[N];rfl
  rw[f];dsimp only;refine gW<|ik ?_;rw[ie z,hashByValue_scannable 8 I,r];refine gW<|ik ?_;simp only[↓reduceIte];refine gW<|D3 l At ?_ (by rw[o,jP];lia);have v:=xp (es':=i) (t':=g) l;have C:=qd s.heap a<|e6 i g
  cases H:g.tooFull with
  |true=>
   simp only[Ax,dP,↓reduceIte];obtain⟨t',es',W,M,X,Z,r5⟩:=agO (es:=i) g (D H) (by rw[o];lia);rw[W];dsimp only;refine gW<|ik ?_;have y:es'.size=es.size+1:=by rw[<-kn,M.length_eq,kn,o]
   refine gW<|D3 v At ?_ (by rw[y,jP];lia);exact ik<|ik<|u J _ es' _ t' (C.trans<|qd _ a _) (xp v) (M.trans G) X (by rw[Z];exact z) (by rw[r5];exact B)
  |false=>simp only[dn,jF,↓reduceIte];exact ik<|ik<|u J _ _ _ _ C v G (U H) z B
end
end TT
namespace PX
open L2 PySem.SeqAt TS
def G0:D->Bool
 |.int _=>C
 |_=>Y
def xF(h:G0 d=C):∃k,d=.int k:=by cases d<;>first|exact⟨_,rfl⟩|cases h
def QH(h:G0 d=C):D.pr d=C:=by obtain⟨k,rfl⟩:=xF h;rw[D.pr]
section
variable {X:Cx}{c:iO}{f:L2.St}{H:Hp}{s:hJ}
def MM.ints{a:gU}{j:List D}{u n t l}(S:MM X H O h a j u n t l)(q:j.all G0=C):∀(i:Nat)(e:Int×il),u[i]?=J e->∃k r,e=(wf k,.int k r)/\ .int k∈j:=λi e x=>by
 obtain⟨z,h1,m,d⟩:=wI S.par (i:=i) (b:=e) (by rw[kR];exact x);rw[jv]at h1
 cases o:l[i]? with
 |none=>rw[o]at h1;cases h1
 |some p=>rw[o]at h1;cases h1;have v:=lK o;have g:p.1∈j:=S.perm.mem_iff.mp<|rP v;obtain⟨k,hk⟩:=xF<|ku.mp q _ g;have w:=S.rep p v;rw[hk]at w;have:=w.int;rw[this]at d;obtain⟨r,d⟩:=d;obtain⟨y,A⟩:=e;dsimp only at m d;subst d;rw[hk,D.hash]at m;exact⟨k,r,by rw[m],hk▸g⟩
def MM.elems{a:gU}{g:List D}{d n t l}(S:MM X H O h a g d n t l)(b:g.all G0=C):ElemsOf (bH X.prog X.w) d.toList:=λe j=>by obtain⟨i,m⟩:=pk j;obtain⟨k,o,rfl,_⟩:=S.ints b i e (by rw[<-kR];exact m);exact⟨⟨k,yC _ _ k o,rfl⟩,rfl⟩
def MM.there{a:gU}{u:List D}{d n t l}(S:MM X H O h a u d n t l)(q:u.all G0=C)(k:Int):(∃e∈d.toList,(bH X.prog X.w).is k e.2=C)↔ .int k∈u:=by
 constructor
 .rintro⟨e,g,hk⟩;obtain⟨i,m⟩:=pk g;obtain⟨y,r,rfl,o⟩:=S.ints q i e (by rw[<-kR];exact m);rw[(bH X.prog X.w).inj _ k y hk (yC _ _ y r)];exact o
 intro o;obtain⟨p,v,e⟩:=kO.mp<|S.perm.mem_iff.mpr o;obtain⟨i,m⟩:=pk v
 have A:i<d.size:=by
  have:=(qX.mp m).1;have:=S.Jk
  lia
 have g:d[i]?=J d[i]:=qc A;obtain⟨z,h1,B,j⟩:=wI S.par (i:=i) (b:=d[i]) (by rw[kR];exact g);rw[jv,m]at h1;cases h1;have x:=S.rep p v;rw[e]at x;rw[x.int]at j;obtain⟨r,j⟩:=j;refine⟨d[i],by rw[<-kR]at g;exact lK g,?_⟩;rw[j];exact yC _ _ k r
def Bv{d:List D}(a:d.all G0=C)(k:Int):d.any (D.Q2 · (.int k))=C↔ .int k∈d:=by
 rw[Cn];constructor
 .rintro⟨x,b,e⟩;rw[(wZ (QH<|ku.mp a x b)<|by rw[D.pr]).mp e]at b;exact b
 intro h;exact⟨_,h,(wZ (by rw[D.pr])<|by rw[D.pr]).mpr At⟩
def MM.Ml(S:MM X H O s.heap a i u n t l)(b:i.all G0=z8)(N:(AC i)<500)
  (h:∀r j p g o t' m,s.toks<=p->aF a s.heap j->MM X H O j a (nE i<|.int k) g o t' m->Q r {s with heap:=j,toks:=p}):ae (ah X.prog X.w) A (eX a<|.int k tk0) Q E s:=by
 obtain⟨M,U⟩:=S.Jk;unfold eX;refine mU<|gW<|(bH X.prog X.w).pyHash (k:=k) (yC _ _ _ _) ?_;refine TT.Za (s:={s with toks:=s.toks+1}) (yC _ _ k tk0) At At S.is.at_ S.is.tab S.is.plain (by lia) (S.elems b) (λL=>?_) λT j g o t' g1 g2 x y B C=>?_
 .have:nE i (.int k)=i:=by unfold nE;rw[ie<|(Bv b k).mpr<|(S.there b k).mp L]
  exact h Y s.heap (s.toks+1) u n t l (wa _) (AL a s.heap) (by rw[this];exact S)
 have G: ¬i.any (D.Q2 · (.int k))=z8:=λz=>by obtain⟨e,I,hk⟩:=(S.there b k).mpr<|(Bv b k).mp z;rw[T e I]at hk;cases hk
 obtain⟨m,q⟩:=S.put (d:=.int k) (v:=.int k) (by simpa using G) Rep.mkInt ⟨tk0,rfl⟩ ⟨g2,y,B,C.trans S.is.led⟩ (by rw[D.hash];exact x);exact h z8 j (s.toks+1) g o t' m (wa _) g1 q
def RP:D->Option (D×Bool)
 |.lst l|.tup l=>if l.all G0=C/\(AC l)<500 then J (.R1 .set []<|ly l,C)else I
 |_=>I
def agX(h:X.calm=C):kg X (.type "set") (Cz X.K<|g1 RP):=nC λc s f H x u Q O d z U q np hd g G=>by
 obtain⟨l,j,a,b,rfl⟩:∃l,(d=.lst l\/d=.tup l)/\l.all G0=C/\l.length<500/\(D.R1 .set []<|ly l,C)=z:=by
  cases d with
  |lst l=>obtain⟨⟨a,b⟩,e⟩:=iK g;exact⟨l,.inl At,a,b,e⟩
  |tup l=>obtain⟨⟨a,b⟩,e⟩:=iK g;exact⟨l,.inr At,a,b,e⟩
  |_=>cases g
 refine Jf h U q hd j a (DY (by have:=zt l [];simpa[ly]using this) b) G λU S m n rw p o r k=>?_;obtain⟨i,rfl⟩:=xF p;have e:=n.int;subst e;obtain⟨t,rfl⟩:=rw;exact MM.Ml S m o k
end
def ou(d:D):Option (D×Bool):=match d with
 |.R1 .set [] a=>if a.all G0=C then jz a else I
 |_=>I
section
variable {X:Cx}
def yh(e:X.calm=C)(f:X.A.units+62<aS):kg X (.builtin "sorted") (Cz X.K<|g1 ou):=nC λc s j U x u Q O d z T h np hd a G=>by
 change ou d=J z at a;unfold ou at a;split at a
 .obtain⟨b,i⟩:=Dx a;exact C5 e f T h np hd (λx g=>QH<|ku.mp b x g) i G
 cases a
end
def MU:D->Int
 |.int k=>k
 |_=>0
def qt(l:gY):Int:=l.foldl min<|l.headD 0
def RT:D->Option (D×Bool)
 |.lst l=>if l.all G0=C/\l≠[]then J (.int<|qt<|l.map MU,Y)else I
 |_=>I
def afG:∀(l:gY)(a:Int),l.foldl min a<=a/\∀x∈l,l.foldl min a<=x:=by
 intro l
 induction l with
 |nil=>intro a;exact⟨sa _,λx b=>by simp at b⟩
 |cons y l d=>
  intro a;obtain⟨h1,c⟩:=d<|min a y;have:=Int.min_le_left a y;have:=Int.min_le_right a y;refine⟨by rw[oU];lia,λx b=>?_⟩;rw[oU];rcases kN.mp b with rfl|b
  .lia
  exact c x b
def afg:∀(l:gY)(a:Int),l.foldl min a=a\/l.foldl min a∈l:=by
 intro l
 induction l with
 |nil=>intro a;exact .inl H
 |cons y l b=>
  intro a;rw[oU];rcases b (min a y)with h|h
  .rw[h];rcases Int.le_total a y with z|z
   .exact .inl (Int.min_eq_left z)
   rw[Int.min_eq_right z];exact .inr jt
  exact .inr (jx _ h)
def zS{l:gY}(h:l≠[]):qt l∈l/\∀x∈l,qt l<=x:=by
 unfold qt
 cases l with
 |nil=>exact absurd H h
 |cons y l=>
  refine⟨?_,(afG (y::l) y).2⟩;rcases afg (y::l) y with z|z
  .rw[show(y::l).headD 0=y from H,z];exact jt
  exact z
def afi{l:gY}{m:Int}(h1:m∈l)(a:∀x∈l,m<=x):qt l=m:=by obtain⟨g1,g2⟩:=zS (l:=l)<|List.ne_nil_of_mem h1;exact Int.le_antisymm (g2 m h1)<|a _ g1
section
variable {X:Cx}
def UY{K U}{O:SI}:∀{l:List D}{e:List V}{c:ju},l.all G0=C->YP K U O l e->Vals e c->∃f:List (Int×m7),c=f.map (λp=>.int p.1 p.2)/\f.map (·.1)=l.map MU:=by
 intro l
 induction l with
 |nil=>intro e c _ r v;rw[YP]at r;subst r;cases v;exact⟨[],rfl,rfl⟩
 |cons d l j=>
  intro e c h r v;rw[vX,la]at h;rw[YP]at r;obtain⟨x,o,rfl,m,n⟩:=r
  cases v with
  |cons a b=>obtain⟨k,rfl⟩:=xF h.1;rw[m.int]at a;obtain⟨t,rfl⟩:=a;obtain⟨f,g,i⟩:=j h.2 n b;exact⟨(k,t)::f,by rw[g];rfl,by rw[jI,jI,i];rfl⟩
def agZ(o:X.calm=z8):kg X (.builtin "min") (Cz X.K<|g1 RT):=nC λm s F H x u Q O d z I J np hd h G=>by
 cases d with
 |lst l=>
  obtain⟨⟨f,C⟩,rfl⟩:=iK (show(if l.all G0=z8/\l≠[]then zx (D.int<|qt<|l.map MU,z9)else z7)=zx z from h);obtain⟨p,Y,rfl,q,r⟩:=kL hd;cases J;obtain⟨L,v,T,_⟩:=I.list q;obtain⟨a,rfl,c⟩:=UY f r v;have w:X.A.handled=z7:=I.ok.hd o
  have y:s.heap.IsList p (s8 a.toArray):=by
   have:(a.map λp=>fk p.1 p.2).toArray=s8 a.toArray:=by simp[s8]
   rw[<-this];exact T.isList
  have g:0<a.toArray.size:=by
   cases a with
   |nil=>rw[sH]at c;cases l with
    |nil=>exact absurd At C
    |cons _ _=>simp at c
   |cons _ _=>simp
  refine min_intList w y g λv M U hv hk=>?_;obtain⟨t,rfl⟩:=intItems_at hv;obtain⟨h1,n⟩:=argBest_lt (fV a.toArray)<|a.toArray.size-1
  have e:qt (l.map MU)=fV a.toArray (argBest (λi j=>decide<|fV a.toArray i<fV a.toArray j)<|a.toArray.size-1):=by
   rw[<-c]
   have k:∀j,j<AC a->fV a.toArray j=(a.map (·.1))[j]!/\(a.map (·.1))[j]?=zx (fV a.toArray j):=λj b=>by
    have:(a.map (·.1))[j]?=zx (fV a.toArray j):=by rw[jv,jq b];simp[fV,b]
    exact⟨by rw[List.getElem!_eq_getElem?_getD,this];rfl,this⟩
   have N:a.toArray.size=(AC a):=by simp
   refine afi ?_ λx B=>?_
   .exact lK (k _ (by omega)).2
   obtain⟨j,b⟩:=pk B;have E:j<(AC a):=by have:=(qX.mp b).1;simpa using this
   rw[(k j E).2]at b;have:=n j (by omega);cases b;exact this
  exact⟨.int _,H,I.kept hk,⟨t,by rw[e]⟩,G.int⟩
 |_=>cases h
end
end PX
namespace TT
def Y6{a:iF}{w:iu}{A:iB}{E:iU}{s:hJ}{Q:iU}(h:Q (.ref s.heap.objs.size) {s with heap:=s.heap.push (ke #[] 0 (lF w))}):ae (ah a w) A (sK<|.type "set") Q E s:=by
 unfold sK fA;obtain⟨b,g,d,c,os⟩:=s;dsimp only;refine gW<|gW<|vY<|ik ?_;dsimp only;simp only[newObj]
 first
  |exact gW<|Eo<|ik h
  |exact gW<|ik<|gW<|Eo<|ik h
end TT
namespace PX
open L2 PySem.SeqAt
def zy(f:F):FB:=λa b=>(f b).bind λp=>if a.all G0=C/\G0 p.1.1=C/\(AC a)<500 then J (nE a p.1.1,p.2)else I
def Sa(a:jM)(k:Nat)(c:B0)(d:Tg)(ti:FT)(b:FB):F:=JS I a k c d ti b
section
variable {X:Cx}{A:jX}{d:gU}{q:ig}{f:F}
def agg{g:qb}{sc:jU}{p:bp}{depth:Nat}(hn:g[depth+1]?=z7)(he:PX X q f):PB X (jf (.SetComp q g sc p) depth (.ref d) X.env) (GG z7 X.K A d<|zy f):=by
 intro x s m H N I hw;obtain⟨J,T,W,j7,δ',B,e,k⟩:=hw;obtain⟨⟨r,c⟩,h1,e⟩:=gS e;obtain⟨⟨o1,D,o3⟩,e⟩:=iK e;obtain⟨rfl,rfl⟩:=vh e
 have e1:jf (.SetComp q g sc p) depth (.ref d) X.env=(do let v <-aU q X.env;ce q.pos;let _ <-call (.builtin "set.add") [.ref d,v]):=by unfold jf;simp -iota only[clausesOf.eq_def];rw[hn]
 rw[e1];refine gW<|Pt (he x s m H (λy h=>N1 X.K T m J H r c y h) I ⟨J,T,r,c,B.er,h1,λv h P=>P⟩) λu s1 a'=>?_;obtain⟨y,h,M,ru,P⟩:=a';obtain⟨L,Q⟩:=P.rep B.er;have U:SK A m J H m c h:=P.1.sk;have V:=B.step U L;obtain⟨j,E⟩:=xF D;dsimp only at E D Q;rw[E]at Q;rw[Q.int]at ru;obtain⟨t0,rfl⟩:=ru;obtain⟨us,R,q3⟩:=V.at';obtain⟨es,n,t,l,S⟩:=Ah.MS M R q3;refine gW<|wk<|gW ?_;refine qf PySem.F.slot_set_add ⟨_,S.is.at_,rfl⟩ PySem.F.entry_set_add ?_<|PySem.F.args_set_add_2 _ _;unfold bo.«set.add» j4;simp only[cR,vZ];unfold dv;refine gW<|ik ?_
 try dsimp only
 refine gW<|ik ?_
 try dsimp only
 refine gW<|MM.Ml S o1 o3 λb h' tk es' n' t' O ht Z C=>?_;show ae _ _ (ret aw) _ _ _;have G:T d:=B.td;have kp:∀(Y:HO) b u,h b=zx u->¬(X0 m c b\/T b)->upd h d Y b=zx u:=λY b u e n=>by rw[iW<|by intro z;subst z;exact n<|.inr G];exact e
 obtain⟨cM,z1,z2⟩:=C.R1 (K:=X.K) (H':=upd h d<|.SS<|O.map hv) (O':=λa=>X0 m c a\/T a) (λp hp=>Rep.mono (kp _) (λ_ _ z=>z)<|C.rep p hp) iQ;refine ik ⟨_,rfl,ik ⟨m,upd h d<|.SS<|O.map hv,?_,k m _ ?_ ?_⟩⟩
 .obtain⟨us2,zs2,g4,_⟩:=R;exact yg (t':=tk) M (by rw[g4];exact bB) Z ⟨_,C.is.at_⟩ C.Jy
 .have:Hw A d m c h m c (upd h d<|.SS<|O.map hv):=⟨λa o e n nd=>by rw[iW nd];exact e,λi a z=>.inl z,λa z=>by
   by_cases w:a=d
   .subst w;rw[iQ];simp
   rw[iW w];exact z,λ_ _=>rfl⟩
  exact U.Jw.trans this
 refine⟨L.mono (λb o e n=>by rw[iW<|by intro z;subst z;exact n G];exact e) (λ_ _ z=>z) λa z=>?_,G,cM,?_,?_⟩
 .by_cases w:a=d
  .subst w;rw[iQ];trivial
  rw[iW w];exact L.dom a z
 .rw[E];exact z1
 rw[E];exact z2
variable {c:oQ}{w:qb}{scope:jU}{E:bp}{J:iX}{m:jM}{k:Nat}{G:B0}{L:Tg}{ti:FT}{O:FB}
def Xk(U:CI X J scope m k)(n:X.calm=C)(l:c.is_async=0)(r:∀e,w[0]?=zx e->e.is_async=0)
  (p:∀x,aB c.iter X.env x=pure x)(t:Jt X (λi=>i∉m) c.target c.iter G)
  (s:∀(cl:lI)(U:gU)(u:hJ)(j:Hp)(fp:ki)(a:iO),let b:=X.comp J scope cl U u j fp a
   Ju b (λi=>AC m<=i) c.target L/\JA b c.ifs (tT X.K ti)/\∀d,PB b (jf (.SetComp q (c::w) scope E) 0 (.ref d) b.env)<|GG I X.K (λi=>AC m<=i) d O):
  PX X (.SetComp q (c::w) scope E) (Sa m k G L ti O):=PX.imp (EL (fp:=c.iter.pos) (new:=sK<|.type "set") (o:=.SS []) (g:=tG X.K (λi=>AC m<=i) L) (ti:=tT X.K ti) (tb:=λd=>GG I X.K (λi=>AC m<=i) d O) U.Nc n l r p t s (λ_ _ _ k=>TT.Y6<|k _ λ_=>⟨#[],0,_,kc _ rfl,.nil,TT.O1.fresh _ _ _,rfl,rfl⟩) (.inr ⟨_,_,_,_,rfl⟩) (hev:=by cases c;rfl)) λv T Q h=>zw (S:=I) h
end
def acx{X:Cx}{n:ig}{f:F}{k:Nat}{o:bp}{c:oQ}{scope:jU}{p:B0}{tt:Tg}{q:FT}{g:jM}{N':iX}(U:CI X N' scope g k)(u:N'.Nodup)(w:QI X (λi=>i∉g) c.target c.iter p)
  (v:∀(cl:lI)(U:gU)(m:hJ)(j:Hp)(l:ki)(e:iO),(X.comp N' scope cl U m j l e).N.Nodup->
   QG (X.comp N' scope cl U m j l e) (λi=>AC g<=i) c.target tt/\QF (X.comp N' scope cl U m j l e) c.ifs q/\QX (X.comp N' scope cl U m j l e) n f)
  (s:X.calm=C:=by rfl)(r:c.is_async=0:=by rfl)(t:∀x,aB c.iter X.env x=pure x:=by intro _;rfl):
  QX X (.SetComp n [c] scope o) (Sa g k p tt q<|zy f):=
 ⟨Xk U s r (by intro y h;cases h) t w.h λcl U m j l e=>let⟨a,b,c⟩:=v cl U m j l e u;⟨a.h,b.h,λd=>agg H c.h⟩⟩
section
variable {X:Cx}{A:jX}{L:LL}{g:Hp}{f:bp}
def sCt:FS:=λa=>J<|.ct a
def sCn:QS X A L g (.Continue f) sCt:=⟨PS.imp' ae1 λD b U a=>by obtain⟨d,T,out,E,c,e,k⟩:=a;cases e;exact k b U .refl E⟩
def gT4{a b c d:ig}{e i j l:Tg}{k:Nat}(h1:QG X A a e)(m:QG X A b i)(n:QG X A c j)(o:QG X A d l)(p:X.calm=C:=by rfl)(s:(ao [a,b,c,d] X.env).map (·.2)=bD a X.env::(ao [b,c,d] X.env).map (·.2):=by rfl)(t:(ao [b,c,d] X.env).map (·.2)=bD b X.env::(ao [c,d] X.env).map (·.2):=by rfl)(u:(ao [c,d] X.env).map (·.2)=bD c X.env::(ao [d] X.env).map (·.2):=by rfl)(v:(ao [d] X.env).map (·.2)=bD d X.env::(ao [] X.env).map (·.2):=by rfl)
  (q:(ao [a,b,c,d] X.env).length=4:=by rfl)(r:(ao [a,b,c,d] X.env).findIdx? (·.1)=I:=by rfl):QG X A (.Tuple [a,b,c,d] k f) (ng [e,i,j,l]):=⟨EK p (mn h1.h (mn m.h (mn n.h (mn o.h Bo v) u) t) s) q H r⟩
end
mutual
def D.fz:D->Bool
 |.lst _=>Y
 |.R1 _ _ _=>Y
 |.tup l=>D.J1 l
 |_=>C
def D.J1:List D->Bool
 |[]=>C
 |x::l=>D.fz x&&D.J1 l
end
def Ht:∀l:List Int,D.J1 (l.map .int)=C:=by
 intro l
 induction l with
 |nil=>simp[D.J1]
 |cons x l a=>simp[D.J1,D.fz,a]
mutual
theorem Rep.fr{K U}{O c:SI}(h:∀b,c b->Ow (U b)):∀{d:D}{v:V},D.fz d=C->Rep K U O d v->Rep K U c d v
 |.int _,_,_,r=>by rw[Rep]at r ⊢;exact r
 |.tup l,_,p,r=>by rw[D.fz]at p;obtain⟨a,f,rfl,s,e⟩:=r.tup;exact Rep.G4 ⟨s.1,λz=>(h a z).nt f s.1⟩<|YP.fr h p e
 |.T2,_,_,r=>by rw[Rep]at r ⊢;exact r
 |.bl _,_,_,r=>by rw[Rep]at r ⊢;exact r
 |.str _,_,_,r=>by rw[Rep]at r ⊢;exact r
 |.lst _,_,p,_=>by simp[D.fz]at p
 |.R1 _ _ _,_,p,_=>by simp[D.fz]at p
theorem YP.fr{K U}{O a:SI}(h:∀b,a b->Ow (U b)):∀{l:List D}{c:List V},D.J1 l=C->YP K U O l c->YP K U a l c
 |[],_,_,r=>r
 |d::l,_,p,r=>by rw[D.J1,la]at p;rw[YP]at r ⊢;obtain⟨v,q,e,h1,f⟩:=r;exact⟨v,q,e,Rep.fr h p.1 h1,YP.fr h p.2 f⟩
end
def okR:D×Bool->Bool
 |(.lst l,C)=>D.J1 l
 |(d,Y)=>D.fz d
 |_=>Y
def Fn(c:OO)(fs:List FO):F:=λd=>(kd fs d).bind λp=>(jS p.2 p.1).bind λb=>(c<|b.map λa=>(a.1,Y)).bind λq=>if okR q.1=C then J (q.1,p.2)else I
section
variable {K:iA}{T x:SI}{m:L2.St}{t c:Dn}{H s n:Hp}{os:List F1}{g:List V}{f:List (D×Bool)}{u:Dn}{r:D×Bool}{v:V}
def UC{g:List V}{a:gU}: ¬X0 (g.map J) ((f.map λa=>(a.1,Y)).map J) a:=λ⟨j,d,h,_⟩=>by simp at h
def SM(E:ER K H T m t)(B:Ops K T m t H os g c s x)(Q:jS c os=J f):ER K s (λ_=>False) (g.map J) ((f.map λa=>(a.1,Y)).map J):=by
 obtain⟨M,G⟩:=pV Q;refine⟨by simp[M,B.len],λj d h=>?_,λj d h=>by simp at h,λj k d e a h=>by simp at h,λa z=>absurd z UC,λa z=>z.elim⟩;have h:=su.mp h;rw[jv]at h;obtain⟨⟨l,b⟩,L,h⟩:=jy h;obtain rfl:l=d:=by cases h;rfl
 obtain⟨o,h1,A⟩:=G j _ L;have U:j<(AC g):=by have:=(qX.mp h1).1;have:=B.len;lia
 have hv:g[j]?=J g[j]:=jq U;refine⟨_,su.mpr hv,?_⟩;have sub:∀{O:SI}(b:gU),s b≠z7->(X0 (g.map J) ((f.map λa=>(a.1,Y)).map J) b\/False)->O b:=λb _ z=>z.elim (λz=>absurd z UC) aT
 cases o with
 |val q=>
  have:q.1=l:=by cases A;rfl
  subst this;exact Rep.mono (λ_ _ e _=>e) sub<|B.rep E h1 hv
 |slot i=>
  have N:c[i]?=J (J (l,b)):=qN A;have I:=B.slt j i _ h1 hv
  cases b
  .obtain⟨w,p,y⟩:=B.er.val i l N;rw[I]at p;have:g[j]=w:=by simpa using p
   rw[this];exact Rep.mono (λ_ _ e _=>e) sub y
  obtain⟨w,p,y⟩:=B.er.own i l N;rw[I]at p;have:g[j]=.ref w:=by simpa using p
  rw[this];exact y.rep (λz=>z.elim (λz=>absurd z UC) aT) sub
def ag3(E:ER K H T m t)(B:Ops K T m t H os g c s x)(P:N1 K (λ_=>False) (g.map J) ((f.map λa=>(a.1,Y)).map J) s r u v n)(ok:okR r=C):
  N1 K T m t H r c v n:=by
 have up:∀a o,s a=J o->n a=J o:=λa o e=>P.1.kp a o e UC;have h:∀a,x a->Ow (n a):=λa z=>(B.er.dom a z).up<|up a;have j:ER K n x m c:=B.er.mono (λb o e _=>up b o e) (λ_ _ z=>z) h;have i:∀b,(X0 m c b\/T b)->Ow (n b):=λb z=>z.elim j.GU λz=>h b<|B.tt b z;have w:ER K n T m c:=j.mono (λ_ _ e _=>e) (λb _ z=>B.tt b z) λa z=>h a<|B.tt a z;have k2:=B.keep.trans<|K2.ext up;obtain⟨d,b⟩:=r
 cases b
 .refine⟨k2,w,?_⟩;exact Rep.fr i (by cases d<;>exact ok) P.2.2
 cases d with
 |lst l=>
  obtain⟨p,rfl,k,L,Q,e,U⟩:=P.2;have q:Ow (n p):=by rw[e];trivial
  refine⟨k2,p,rfl,?_,B.er.mono (λb o e _=>up b o e) (λb A z=>z.elim (B.tt b) λz=>absurd (z▸k) A) λa z=>z.elim (λz=>h a<|B.tt a z) λz=>z▸q,Q,e,YP.fr (λb z=>?_) ok U⟩
  .cases y:H p with
   |none=>rfl
   |some O=>exact absurd k<|B.keep.dm p (by rw[y];simp)
  rcases z with z|z|z
  .exact i b (.inl z)
  .exact i b (.inr z)
  exact z▸q
 |_=>cases ok
end
section
variable {X:Cx}{e:ig}{b:kb}{fs:List FO}{a p:bp}{k:Nat}{d:iX}{c:OO}{x:aQ}
def xUB(O:Oz (zX X) k x d c)(y:Ad k X.A)(s:QA X (e::b) fs)(u:Gl X x:=by rfl)(I:DB x:=by decide)
  (t:SE X e b:=by rfl)(n:BA X a b:=by rfl):QX X (.Call (.Name x p) (e::b) [] a) (Fn c fs):=
 let⟨_,_,ok,w,C',m⟩:=O;⟨PX.imp (KU ok y u w C' m (.nil) V8 s.h I t n) λU H Q z=>by
 obtain⟨G,T,N,J,E,e,k⟩:=z;obtain⟨⟨os,g⟩,h1,e⟩:=gS e;obtain⟨i,o,e⟩:=gS e;obtain⟨⟨r,f⟩,q,e⟩:=gS e;obtain⟨ok,e⟩:=iK e;obtain⟨rfl,rfl⟩:=vh e;refine⟨G,T,os,g,E,h1,λL l M B=>?_⟩;show Hu X.K c (L++[]) l Q L2.E0;rw[we];exact⟨_,_,r,f,SM E B o,q,λv j P=>k v j<|ag3 E B P ok⟩⟩
end
def CL{Z:ZZ}{k:Nat}{x:aQ}{st:bG}{N d:iX}{c:jM}{fs:FS}(a:Fz Z.K Z.mg x st)(S:VP N d (ir st))(e:Bd Z k x st N d c fs)(b:MO x st d:=by intro _ _ _ _ _ _;repeat' (first|exact us0 rfl|refine MP λ_=>?_)):Oz Z (k+1) x d (Q1 (AC N) (AC d) c fs):=ozB a S b e
end PX
set_option backward.eqns.nonrecursive true
namespace PV
open L2 PX
noncomputable abbrev ab7:Nat:=100000
abbrev RD:Nat:=6
def zV:FS:=gZ (jH<|rK (pe (Ff [.int])<|gR 0)<|YH<|pe (Ff [.bool])<|gR 0) ip
def oB:OO:=Q1 1 1 [] zV
def rH:FS:=gZ (jH<|rK (hW oB [gR 0])<|oN .LtE .LtE (gR 1) (gR 0)<|gR 2) ip
def kX:OO:=Q1 3 3 [] rH
abbrev jB:=hC<|fC<|.int 1
def BO:FS:=gZ (jH<|hW kX [gR 1,jB,gR 0]) ip
def nV:OO:=Q1 2 2 [] BO
abbrev Ou:=hC<|iw (g1 BL) [gR 1]
def wR:FS:=gZ (jH<|rK (hW oB [gR 1])<|hW nV [gR 0,Ou]) ip
def mQ:OO:=Q1 2 2 [] wR
abbrev rW:=jb<|iM 1
abbrev Ol:=iw (g1 BL) [gR 0]
abbrev F6:=hC<|iw (g1 ud) [gR 1]
abbrev nK:=gZ (jH<|fC<|.bl Y) ip
abbrev OD:=lu<|fT<|pe (Ff [.tuple])<|gR 1
abbrev aan:=J4 (lu<|fT<|iw (g1 wQ) [hC<|iL [0] 1 rW (hG 1) je<|jn<|hW mQ [gR 0,gR 1]]) nK ip
def mF:FS:=gZ (J4 (uf OD<|fT<|hU BP F6<|gR 0) nK ip)<|gZ aan<|gZ (jH<|hU I8 (hC<|uR [] 1 rW (hG 0) je<|Cf Ol)<|gR 0) ip
def jW:OO:=Q1 2 2 [] mF
abbrev lL:=hC<|fC<|.int 0
abbrev F3:=hC<|pe xZ<|gR 1
abbrev aap:=hU (pP .Gt) (gR 1) lL
abbrev Tt:=fT aap
def zU:FS:=gZ (jH<|Jn Tt (hU N2 (gR 0)<|hC<|hU CF (gR 1) jB)<|pe xZ<|hC<|hU N2 (gR 0)<|hC<|hU CF F3 jB) ip
def oA:OO:=Q1 2 2 [] zU
abbrev F5:=hC<|iw (g1 ud) [gR 0]
def pQ:FS:=gZ (J4 (fT<|hU (pP .Lt) (gR 1) F5) (gZ (jH<|hU N2 (gR 0)<|gR 1) ip) ip)<|gZ (jH<|fC<|.int 0) ip
def ml:OO:=Q1 2 2 [] pQ
abbrev CU:=fC<|.bl C
abbrev Zr:=hC<|hU RQ (hC<|fC<|.int 10)<|hC<|fC<|.int 18
def rG:FS:=gZ (jo 2<|hW ml [gR 0,gR 1])<|gZ (J4 (fT<|hU (pP .GtE) (gR 2) Zr) (gZ (jH<|qa [hU CF (gR 2) Zr,CU]) ip) ip)<|gZ (jH<|qa [hU CD (gR 2)<|hC<|fC<|.int 2147483647,fC<|.bl Y]) ip
def nv:OO:=Q1 3 2 [2] rG
abbrev OC:=hU N2 (gR 0) jB
abbrev qA:=hC<|hU N2 (gR 0) lL
def ue:FS:=gZ (J4 (fT OC) (gZ (jo 2<|hU CD qA<|gR 1)<|gZ (wD 0 (hU RY qA<|gR 1) lL)<|gZ (nY 2) ip) ip)<|gZ (wD 0 (hU CD (hC<|hU lP (hC<|hU ox qA<|hC<|fC<|.int 48271)<|hC<|fC<|.int 29)<|hC<|fC<|.int 2147483647) lL)<|gZ (jo 3<|hU CD (hC<|hU lP (hC<|hU lP (hC<|hU ox qA qA)<|hC<|hU ox (hC<|fC<|.int 39373) qA)<|hC<|fC<|.int 7)<|hC<|fC<|.int 2147483629)<|gZ (jo 3<|hU CD (hC<|hU lP (hC<|hU ox (gR 3)<|gR 3)<|hC<|hU ox (hC<|fC<|.int 16807)<|gR 3)<|hC<|fC<|.int 2147483587)<|gZ (jH<|hU CD (hC<|hU RY (gR 3)<|hC<|fC<|.int 8)<|gR 1) ip
def jd:OO:=Q1 4 2 [2,3] ue
abbrev FZ:=hC<|fC<|.int 2
abbrev Oo:=pe xZ jB
abbrev Ot:=hC<|iw (g1 ud) [gR 2]
abbrev CZ:=hC<|hU lP (gR 1) jB
abbrev Wz:=hC<|hW jd [gR 0,FZ]
abbrev Zs:=hC<|qa [fC<|.int 1,Oo]
abbrev ZE:=hC<|hW jd [gR 0,Ot]
abbrev ZK:=BW 2 ZE
abbrev WJ:=hU N2 Zs Wz
abbrev Tv:=hC WJ
def aea:FS:=gZ (jo 2<|iw (ME .lst C) [jB,CZ])<|gZ (jo 3<|qa [])<|gZ (qJ (CC<|gR 1) (hG 4)<|gZ (lq<|kE 3<|hU ox (hC ZK) Tv) ip)<|gZ (jH<|iw (g1 lV) [gR 3]) ip
def nu:OO:=Q1 5 2 [2,3,4] aea
abbrev ZT:=hC<|hU N2 (gR 0)<|hC<|hU CF Ou jB
def oY:FS:=gZ (jH<|hU ox ZT<|hC<|hU N2 Zs<|hC<|iw (g1 MY) [hC<|hU (pP .Lt) (gR 1) lL]) ip
def lh:OO:=Q1 2 2 [] oY
def afD:FS:=gZ (jH<|rK (pe (Ff [.tuple])<|gR 0)<|hU I8 F5 FZ) ip
def BX:OO:=Q1 1 1 [] afD
abbrev zE:=ng [hG 0,hG 1]
def aeS:FS:=gZ (jH<|iw (g1 wQ) [hC<|iL [] 2 (BG (iM 0)<|DE (gR 0) jB) zE je<|jn<|hU (pP .Lt) (gR 0)<|gR 1]) ip
def rL:OO:=Q1 1 1 [] aeS
abbrev aah:=uf OD<|lu<|fT<|oN .LtE .LtE jB F6<|hC<|fC<|.int 5
def aeT:FS:=gZ (J4 aah nK ip)<|gZ aan<|gZ (jH<|hW rL [hC<|iL [] 1 rW (hG 0) je<|jn Ol]) ip
def nA:OO:=Q1 2 2 [] aeT
def Dz:FS:=gZ (jH<|hW kX [gR 0,lL,jB]) ip
def qP:OO:=Q1 1 1 [] Dz
def yb:FS:=gZ (jH<|rK (pe (Ff [.tuple])<|gR 1)<|rK (hU I8 F6<|gR 0)<|iw (g1 wQ) [hC<|iL [] 1 rW (hG 0) je<|jn<|hW qP [gR 0]]) ip
def nB:OO:=Q1 2 2 [] yb
def Hx:FS:=gZ (jH<|hU I8 ZT<|hC<|Jn Tt (fC<|.int 1)<|fC<|.int 0) ip
def ye:OO:=Q1 2 2 [] Hx
def ad8:FS:=gZ (jH<|iw (g1 Hs) [hC<|iL [0] 1 rW (hG 1) je<|jn<|hW ye [gR 0,gR 1]]) ip
def lR:OO:=Q1 2 2 [] ad8
abbrev zD:=jb<|iM 3
abbrev F4:=ng [hG 2,hG 3]
abbrev OI:=Jh F4<|iM 0
def RZ:FS:=gZ OI<|gZ (jH<|rK (hW nB [gR 2,gR 1])<|iw (g1 wQ) [hC<|iL [1] 1 zD (hG 1) je<|jn<|hW lR [gR 0,gR 1]]) ip
def yd:OO:=Q1 4 2 [2,3] RZ
abbrev Ki:=qa [kH []]
abbrev Oi:=hC<|kH [iM 1]
abbrev Ox:=kH [fC<|.int 0,fC<|.int 1]
abbrev zC8:=gZ (jo 1<|iL [] 2 rW (hG 0) je<|FC (jb Ox) (hG 1) je<|jn<|hU lP (gR 0) Oi) ip
def aed:FS:=gZ (jo 1 Ki)<|gZ (qJ (CC<|gR 0) (hG 2) zC8)<|gZ (nY 1) ip
def pT:OO:=Q1 3 1 [1,2] aed
abbrev nJ:=jn<|iM 1
abbrev WD:=hW pT [qA]
def afF:FS:=gZ (jH<|iL [0] 1 (jb WD) (hG 1) (fT<|hW yd [gR 0,gR 1]) nJ) ip
def mS:OO:=Q1 1 1 [] afF
abbrev Zp:=lu<|fT<|hW jW [gR 0,gR 1]
def nP:FS:=gZ (J4 Zp (gZ EG ip) ip) ip
def mx:OO:=Q1 2 2 [] nP
def aem:FS:=gZ (jH<|iw (g1 lV) [hC<|iw (g1 rE) [hC<|iL [1] 1 (jb<|iM 0) (hG 1) je<|jn<|hW oA [gR 0,gR 1]]]) ip
def kZ:OO:=Q1 2 2 [] aem
def Yx:FS:=gZ OI<|gZ (lq<|hW mx [gR 2,gR 1])<|gZ (jH<|kH [iM 2,iw (g1 lV) [hC<|iw (g1 ma) [hC<|iL [1] 1 zD (hG 1) je<|jn<|hW kZ [(gR 1),(gR 0)]]]]) ip
def Fo:OO:=Q1 4 2 [2,3] Yx
abbrev VE:=hU (pP .Gt) (gR 3) lL
abbrev Zv:=hU CF (hC<|iw (g1 BL) [gR 3]) jB
abbrev aas:=gZ (wD 1 (Jn (fT VE) (iM 2)<|pe xZ<|gR 2)<|hC Zv) ip
def U2:FS:=gZ (jo 1<|iw (g1 BI) [gR 0])<|gZ (qJ (E8 1<|iM 0) F4 aas)<|gZ (jH<|iw (g1 lV) [gR 1]) ip
def U9:OO:=Q1 4 1 [1,2,3] U2
abbrev qz:=hC<|qa []
abbrev VN:=gZ (jH<|iw (g1 lV) [gR 2]) ip
abbrev ZR:=fT<|hU I8 Wz lL
def ya:FS:=gZ (jo 2<|iL [0] 1 (wO jB CZ) (hG 1) ZR<|jn<|hU ox (gR 1) Tv)<|gZ (J4 (fT<|hU I8 (gR 2) qz) (gZ (jo 2<|qa [hU ox (hC<|hU lP jB<|hC<|hW jd [gR 0,gR 1]) Tv]) ip) ip) VN
def kU:OO:=Q1 3 2 [2] ya
abbrev OH:=hW lh [gR 0,gR 1]
abbrev aab:=jn<|kH [iw (g1 BL) [hC OH],OH]
def sj:FS:=gZ (jo 2<|iL [1] 1 (jb<|iM 0) (hG 1) je aab)<|gZ (jH<|iw (g1 lV) [hC<|iL [] 2 (jb<|iw (g1 ma) [gR 2]) zE je nJ]) ip
def jh:OO:=Q1 3 2 [2] sj
abbrev Vz:=hW kU [gR 0,gR 1]
abbrev VI:=hC<|hU lP (gR 2) jB
abbrev ZO:=gZ (GA 3 CU<|hC Vz) ip
abbrev aac:=gZ (J4 (fT<|hU xY (gR 7)<|gR 3) (gZ (GA 3 CU<|gR 7)<|gZ (lq<|kE 6<|iM 7) ip) ip) ip
def zj:FS:=gZ (J4 (fT<|hU I8 (gR 1) lL) (gZ (jH<|kH [fC<|.int 0,kH []]) ip) ip)<|gZ (jo 2<|hU N2 (hC<|qa [fC<|.int 3,fC<|.int 5,fC<|.int 12])<|hC<|hW jd [gR 0,hC<|fC<|.int 3])<|gZ (jo 3 Wl)<|gZ (qJ (CC<|hC<|hW jd [gR 0,VI]) (hG 4) ZO)<|gZ (jo 5<|hW nu [gR 0,gR 1])<|gZ (jo 6<|hU Hq (hC<|iw (g1 Fe) [gR 3])<|hC<|hU N2 (hC<|qa [fC<|.int 1,fC<|.int 0]) Wz)<|gZ (nQ (fT<|hU BP (gR 6) qz) (gZ (jo 7<|hW jh [hC<|Fj 6,gR 5]) aac) ab7)<|gZ (jH<|kH [iM 1,iw (g1 lV) [hC<|LG (hC<|iw (g1 xX) [gR 3])<|hC<|fC<|.int 30]]) ip
def mw:OO:=Q1 8 2 [2,3,4,5,6,7] zj
def aeb:FS:=gZ (jH<|rK (hW jW [qA,gR 1])<|hU I8 (hC<|hW Fo [gR 0,gR 1])<|gR 0) ip
def ny:OO:=Q1 2 2 [] aeb
abbrev CV:=pe xZ<|gR 0
abbrev Oj:=hC CV
abbrev VH:=hC<|hU lP (gR 0) jB
def aeU:FS:=gZ (jH<|iL [] 1 (wO Oj VH) (hG 0) (fT<|hU BP (gR 0) lL)<|jn<|iM 0) ip
def ph:OO:=Q1 1 1 [] aeU
abbrev Om:=hU mN (gR 2)<|gR 1
abbrev Vy:=hU lP (gR 1)<|hC<|kH [iM 2]
abbrev aar:=hU mN (hC<|pe xZ<|gR 2)<|gR 1
abbrev Ww:=fT aar
def zg:FS:=gZ (jH<|iL [0] 2 rW (hG 1) je<|FC (jb<|hW ph [gR 0]) (hG 2) (mW (fT Om) Ww)<|jn Vy) ip
def nR:OO:=Q1 2 2 [] zg
abbrev Oy:=hC Oo
abbrev VM:=hC<|hW kZ [gR 2,gR 1]
abbrev Wv:=jb<|hW nR [gR 2,gR 4]
abbrev Z1:=hU I8 (hC<|iw (g1 BL) [hC<|hU N2 (gR 1) Oy])<|gR 0
abbrev aaf:=fT<|iw (g1 wQ) [hC<|iL [0,2] 1 rW (hG 2) je<|jn<|hU Gh VM<|gR 0]
abbrev aaq:=jo 6<|iL [5] 1 zD (hG 1) (fT Z1) nJ
def zh:FS:=gZ OI<|gZ (jo 4 Ki)<|gZ (qJ (wO jB VI) (hG 5)<|gZ aaq<|gZ (jo 4<|iL [1,6] 1 Wv (hG 2) aaf<|jn<|iM 2) ip)<|gZ (nY 4) ip
def nS:OO:=Q1 7 2 [2,3,4,5,6] zh
abbrev CY:=hC<|hU N2 (gR 1) jB
abbrev ZD:=hC<|iw (g1 ud) [CY]
def aec:FS:=gZ (jH<|Jn (fT<|hU I8 (hC<|iw (g1 ud) [hC OC]) ZD) (hW nS [gR 0,CY])<|qa []) ip
def uj:OO:=Q1 2 2 [] aec
def ael:FS:=gZ (jH<|hW uj [gR 0,gR 0]) ip
def oi:OO:=Q1 1 1 [] ael
abbrev VL:=fT<|hW lR [gR 1,gR 0]
def wU:FS:=gZ (jH<|iL [1] 1 (jb<|hW mS [gR 0]) (hG 1) (lu VL) nJ) ip
def mR:OO:=Q1 2 2 [] wU
abbrev AV:=hC<|kH []
def ad7:FS:=gZ (jH<|M7 (hU RX (gR 1) AV)<|hW nA [gR 0,gR 1]) ip
def lQ:OO:=Q1 2 2 [] ad7
def Yw:FS:=gZ (jH<|iw (g1 lV) [hC<|iw (g1 rE) [hC<|iw (g1 ou) [hC<|Sa [2] 1 (jb<|hU lP (gR 0)<|gR 1) (hG 1) (fT<|hU BP Ou<|gR 0)<|zy<|iM 1]]]) ip
def zm:OO:=Q1 3 3 [] Yw
abbrev Zn:=hC<|hW mR [gR 0,gR 1]
abbrev ZN:=fT<|hW lQ [qA,gR 1]
def afE:FS:=gZ (J4 (lu ZN) (gZ EG ip) ip)<|gZ (jH<|hU I8 Zn qz) ip
def lG:OO:=Q1 2 2 [] afE
abbrev FY:=E8 0<|iM 0
abbrev OF:=hU Gh F3<|gR 0
abbrev Zo:=jn OF
abbrev Z8:=iw (g1 wQ) [hC<|iL [1] 1 zD (hG 1) je Zo]
def zk:FS:=gZ (qJ FY F4<|gZ (J4 (fT Z8) (gZ (nY 2) ip) ip) ip)<|gZ (jH<|fC .T2) ip
def nW:OO:=Q1 4 2 [2,3] zk
abbrev Kg:=fC<|.str "met"
abbrev Kj:=fC<|.str "given"
abbrev Kl:=ng [hG 3,hG 4]
abbrev VG:=Jh Kl<|iM 0
abbrev VR:=hU mN F3<|gR 0
abbrev Zi:=hC<|hU lP (gR 1)<|hC<|kH [iM 6]
abbrev Zm:=jo 5<|hW nW [gR 4,gR 1]
abbrev Wx:=kH [Kg,iM 7,iM 8,iM 6]
abbrev Zt:=hC<|hU lP (gR 1)<|hC<|kH [pe xZ<|gR 6]
abbrev WB:=hU CF Ot jB
abbrev ZC:=hC<|hU N2 (hC<|hU N2 (gR 2)<|gR 7) lL
abbrev Zz:=hC<|hU N2 (hC<|hU N2 (gR 2)<|gR 8) lL
abbrev ZG:=wO jB<|hC<|hU lP (gR 3) jB
abbrev WG:=mW (fT<|hU mN (gR 1)<|gR 0)<|fT VR
abbrev aal:=J4 (fT<|hU BJ (gR 5)<|hC<|fC .T2) (gZ (lq<|kE 2<|kH [hU N2 (gR 4)<|gR 5,kH [Kj,iM 5]])<|gZ KH ip) ip
def pd(a:OO):FS:=gZ VG<|gZ Zm<|gZ aal<|gZ (jo 6<|iw (g1 RT) [hC<|iL [1] 1 ZG (hG 1) WG nJ])<|gZ (lq<|hW a [gR 0,Zt,gR 2])<|gZ (jo 7 WB)<|gZ (J4 (fT<|hU mN (gR 6) ZC) (gZ KH ip) ip)<|gZ (lq<|hW a [gR 0,Zi,gR 2])<|gZ (jo 8 WB)<|gZ (J4 (fT<|hU Gh (hC<|pe xZ<|gR 6) Zz) (gZ (lq<|kE 2<|kH [hW zm [ZC,Zz,gR 6],Wx]) ip) ip) ip
def kY:Nat->OO
 |0=>λ_=>I
 |m+1=>Q1 9 3 [3,4,5,6,7,8]<|pd<|kY m
abbrev Kh:=fC<|.str "wide"
abbrev Vv:=fT<|hW lG [gR 0,gR 1]
abbrev ZP:=J4 (lu Vv) (gZ (jH<|fC .T2) ip) ip
abbrev Z6:=hU BP (hC<|hU N2 (hC<|hU N2 (gR 2) Oy) lL)<|gR 1
abbrev acu:=hW (kY RD) [gR 0,hC<|iw (g1 lV) [hC<|iL [] 1 rW (hG 0) je<|jn CV],gR 2]
abbrev WL:=lq acu
def afk:FS:=gZ ZP<|gZ (jo 2<|qa [])<|gZ WL<|gZ (J4 (fT Z6) (gZ (lq<|kE 2<|kH [iM 1,kH [Kh,WB]]) ip) ip) VN
def oz:OO:=Q1 3 2 [2] afk
def afn:FS:=gZ (jH<|hW kX [gR 1,lL,hC<|hU CF F5 jB]) ip
def kW:OO:=Q1 2 2 [] afn
def aff:FS:=gZ (jo 3 OC)<|gZ (jH<|rK (hW kW [gR 3,gR 2])<|hU I8 (hC<|hU N2 (gR 3)<|gR 2)<|gR 1) ip
def ui:OO:=Q1 4 3 [3] aff
abbrev Oq:=hC<|hU N2 (gR 1)<|gR 5
abbrev Zq:=hU mN (gR 7) Oq
abbrev ZH:=hU mN (hC<|pe xZ<|gR 7)<|hC<|hU N2 (gR 1)<|gR 6
abbrev ZW:=hC<|hW zm [Oq,hC<|hU N2 (gR 1)<|gR 6,gR 7]
def af6:FS:=gZ (Jh (ng [hG 4,hG 5,hG 6,hG 7])<|iM 3)<|gZ (J4 (uf (lu<|fT<|hW kW [gR 1,gR 5])<|uf (lu<|fT<|hW kW [gR 1,gR 6])<|lu<|fT<|hW nV [gR 0,gR 7]) nK ip)<|gZ (J4 (uf (fT Zq)<|fT ZH) nK ip)<|gZ (jH<|hU I8 ZW<|gR 2) ip
def zp:OO:=Q1 8 4 [4,5,6,7] af6
abbrev ZF:=hC<|hW kZ [Oq,gR 6]
def af7:FS:=gZ (Jh (ng [hG 4,hG 5,hG 6])<|iM 3)<|gZ (jH<|rK (hW kW [gR 1,gR 5])<|rK (hW ny [gR 0,gR 6])<|hU I8 ZF<|gR 2) ip
def zq:OO:=Q1 7 4 [4,5,6] af7
def afB:FS:=gZ (jH<|rK (hW kW [gR 0,gR 2])<|iw (g1 wQ) [hC<|iL [1] 1 (jb<|hU N2 (gR 0)<|gR 2) (hG 1) je<|jn<|hU Gh (gR 1)<|gR 0]) ip
def wX:OO:=Q1 3 3 [] afB
abbrev FX:=fC<|.str "led"
abbrev Kk:=hC<|fC<|.int 4
abbrev CW:=hC<|iw (g1 ud) [gR 3]
abbrev OB:=hU N2 (gR 3) lL
abbrev VD:=hC<|hU N2 (gR 3) jB
abbrev VJ:=jo 4 OB
abbrev Zw:=fT<|hU I8 CW FZ
abbrev aag:=uf (lu<|fT<|pe (Ff [.tuple])<|gR 3)<|lu<|fT<|oN .LtE .LtE FZ CW Kk
def agB:FS:=gZ (J4 aag nK ip)<|gZ VJ<|gZ (J4 (mW Zw<|fT<|hU I8 (gR 4)<|hC Kj) (gZ (jH<|hW ui [gR 0,gR 2,VD]) ip) ip)<|gZ (J4 (mW Zw<|fT<|hU I8 (gR 4)<|hC Kh) (gZ (jH<|hW wX [gR 1,gR 2,VD]) ip) ip)<|gZ (J4 (mW (fT<|hU I8 CW<|hC<|fC<|.int 3)<|fT<|hU I8 (gR 4)<|hC FX) (gZ (jH<|hW zq [gR 0,gR 1,gR 2,gR 3]) ip) ip)<|gZ (J4 (mW (fT<|hU I8 CW Kk)<|fT<|hU I8 (gR 4)<|hC Kg) (gZ (jH<|hW zp [qA,gR 1,gR 2,gR 3]) ip) ip) nK
def zo:OO:=Q1 5 4 [4] agB
def afC:FS:=gZ (J4 (lu<|fT<|hW BX [gR 2]) nK ip)<|gZ (Jh Kl<|iM 2)<|gZ (jH<|rK (hW lQ [qA,gR 3])<|hW zo [gR 0,gR 1,gR 3,gR 4]) ip
def wY:OO:=Q1 5 3 [3,4] afC
abbrev zC9:=gZ (J4 (lu<|fT<|hW wY [gR 0,gR 2,gR 3]) nK ip)<|gZ (lq<|kE 2 OB) ip
def afo:FS:=gZ (J4 (uf OD<|lu<|fT<|oN .LtE .LtE jB F6<|hC<|fC<|.int 200) nK ip)<|gZ (jo 2<|qa [])<|gZ (qJ rW (hG 3) zC9)<|gZ (jH CU) ip
def mX:OO:=Q1 4 2 [2,3] afo
abbrev Zl:=ng [hG 5,ng [hG 6,hG 7]]
abbrev Oh:=jn<|kH [Ol,iM 0]
abbrev WH:=jo 9<|iL [8] 1 zD (hG 1) (fT<|hU BP (gR 1)<|gR 0) nJ
abbrev ZX:=gZ (lq<|kE 1<|kH [iM 10,kH [Kg,iM 2,iM 5,iM 8]]) ip
abbrev Z0:=mW Tt<|fT OF
abbrev Z4:=hC<|iL [8] 1 (jb<|iM 6) (hG 1) (fT<|hU BP (gR 1) Oj) nJ
abbrev Z7:=iw (g1 Hs) [hC<|iL [9] 1 (jb<|iM 9) (hG 1) je Zo]
abbrev aaj:=iL [6] 1 zD (hG 1) Z0 nJ
abbrev aak:=hC<|iw (g1 RP) [hC<|hU lP (gR 9) Z4]
abbrev zC7:=jo 9<|iw (g1 ou) [aak]
def afm:FS:=gZ (jo 1<|qa [])<|gZ (qJ FY (ng [hG 2,Kl])<|gZ (qJ FY Zl<|gZ (qJ (jb aaj) (hG 8)<|gZ WH<|gZ zC7<|gZ (J4 (lu<|fT Z7) (gZ (jo 10<|iw (g1 lV) [hC<|iL [] 2 (jb<|iw (g1 ma) [hC<|iL [] 1 (jb<|iM 9) (hG 0) je Oh]) zE je nJ]) ZX) ip) ip) ip) ip)<|gZ (nY 1) ip
def uh:OO:=Q1 11 1 [1,2,3,4,5,6,7,8,9,10] afm
abbrev Vx:=hU lP (gR 2)<|hC<|kH [iM 4]
abbrev ZS:=hC<|hU N2 (gR 3)<|hC<|hW jd [gR 0,CW]
def afl:FS:=gZ (jo 3<|iL [2] 1 (wO jB CZ) (hG 1) WG nJ)<|gZ (J4 (fT<|hU I8 (gR 3) qz) (gZ (jH<|iM 2) ip) ip)<|gZ (jo 4<|hU ox ZS Tv)<|gZ (jH<|iw (g1 lV) [hC<|iL [] 2 (jb<|iw (g1 ma) [hC<|iL [] 1 (jb Vx) (hG 0) je Oh]) zE je nJ]) ip
def ug:OO:=Q1 5 3 [3,4] afl
abbrev Ov:=hU I8 (gR 4) qz
abbrev OA:=jo 7<|Fn uh [gR 4]
abbrev Vu:=hU N2 (gR 1) lL
abbrev Vw:=fT<|hU I8 (gR 6) lL
abbrev VC:=hC<|hW jd [gR 0,gR 3]
abbrev VB:=kH [FX,iM 9,iM 10]
abbrev OE:=hC Vu
abbrev WA:=jo 6<|hW jd [gR 0,hC<|fC<|.int 5]
abbrev Zu:=hU N2 CY<|gR 8
abbrev Zy:=hC<|hU N2 (hC<|hU N2 (gR 4)<|gR 9) lL
abbrev Zx:=hC<|hW jd [gR 0,hC<|iw (g1 ud) [gR 7]]
abbrev WE:=jo 9<|hW jd [gR 0,hC<|iw (g1 ud) [gR 4]]
abbrev ZJ:=hC<|hU BP CY AV
abbrev Tu:=hU N2 (gR 2) ZE
abbrev ZV:=hW jd [gR 0,ZD]
abbrev Z3:=hW jh [Zy,gR 10]
abbrev aad:=hW ug [gR 0,OE,Zy]
abbrev zC6:=CC<|hC<|hU ox (hC<|hU lP jB VC)<|hC<|iw (g1 MY) [ZJ]
abbrev zC2:=J4 (uf (fT Ov) Vw) (gZ (jo 8 ZV)<|gZ (lq<|kE 4<|kH [Zu,kH [Kj,iM 8]])<|gZ sCt ip) ip
abbrev zC1:=J4 (fT<|hU I8 (gR 6) FZ) (gZ (lq<|kE 4<|kH [aad,kH [Kh,iM 9]]) ip)<|gZ (J4 (fT<|hU BP (gR 7) qz) (gZ (lq<|kE 4<|hU N2 (gR 7) Zx) ip) ip) ip
abbrev zC0:=J4 (fT<|hU I8 (gR 6) jB) (gZ (jo 10 Tu)<|gZ (lq<|kE 4<|kH [Z3,VB]) ip)<|gZ zC1 ip
def zi:FS:=gZ (jo 4<|qa [])<|gZ (qJ zC6 (hG 5)<|gZ WA<|gZ OA<|gZ zC2<|gZ WE<|gZ zC0 ip)<|gZ (jH<|iw (g1 lV) [gR 4]) ip
def nU:OO:=Q1 11 4 [4,5,6,7,8,9,10] zi
abbrev F0:=hC CU
abbrev Km:=hC<|iw (g1 ud) [gR 5]
abbrev F7:=hU KL (gR 5)<|hC<|fC .T2
abbrev aam:=hW nu [gR 0,gR 6]
abbrev VA:=hC<|hW mX [gR 1,gR 5]
abbrev OG:=jo 4<|hW lG [gR 1,gR 3]
abbrev VF:=hC<|hW mX [gR 1,gR 10]
abbrev OL:=jo 5<|hW oz [gR 1,gR 3]
abbrev OJ:=jo 6 Vu
abbrev VQ:=hW jh [gR 3,gR 9]
abbrev OM:=jo 8 aam
abbrev ZI:=fT<|hU (pP .Gt) Km<|hC<|fC<|.int 199
abbrev acr:=hU BP (hC F7)<|hC<|hU KL (gR 4)<|hC<|fC<|.bl Y
abbrev ZU:=hC<|hU N2 (hC<|hU N2 (gR 5) Oy) lL
abbrev WI:=fT acr
abbrev Z2:=hU (pP .Lt) (hC<|iw (g1 ud) [hC<|hU N2 (gR 7) jB])<|hC<|fC<|.int 31
abbrev Z5:=hC<|iw (g1 lV) [hC<|iL [] 1 zD (hG 0) je<|jn<|kH [CV]]
abbrev acs:=hU BP (hC<|hW lG [hC<|hW Fo [gR 1,gR 8],hC<|hW jh [gR 3,gR 8]])<|gR 4
abbrev WK:=fT acs
abbrev zC5:=mW (fT Z2)<|fT<|hU BP (hC<|hU I8 (hC<|hW mS [gR 7]) qz)<|gR 4
abbrev zC4:=kH [iM 6,iw (g1 lV) [hC<|iw (g1 qO) [hC<|iw (g1 U0) [hC<|hU lP CY Z5]]]]
def vb:FS:=gZ OG<|gZ OL<|gZ (J4 WI nK ip)<|gZ OJ<|gZ (jo 7 zC4)<|gZ (J4 zC5 nK ip)<|gZ OM<|gZ (J4 WK nK ip)<|gZ (J4 (uf (fT F7) ZI) (gZ (jH<|M7 F7<|hW mX [gR 1,gR 5]) ip) ip)<|gZ (jo 9 Tu)<|gZ (jo 10<|hU lP (gR 5)<|hC (kH [kH [VQ,kH [FX,hU CF Km jB,iM 9]]]))<|gZ (jH<|rK (hU KL VA F0) (rK (hU I8 ZU (gR 3)) (hU KL VF F0))) ip
def lj:OO:=Q1 11 4 [4,5,6,7,8,9,10] vb
abbrev VO:=jo 2<|hW nv [gR 0,gR 1]
abbrev ZM:=jo 5<|hW nU [gR 2,gR 3,gR 4,hC<|fC<|.int 8]
abbrev ZL:=hU (pP .Gt) (hC OB) lL
abbrev ZQ:=jn<|hW kU [gR 0,OE]
abbrev Z9:=mW (fT<|hU BP (gR 5) AV)<|fT<|hU BJ (hC<|hW mX [gR 3,gR 5]) F0
abbrev aaa:=fT<|hU BP (hC<|hW lG [gR 3,AV])<|hC<|hU I8 (hC<|hW mS [gR 3]) qz
abbrev aae:=lu<|fT<|iw (g1 wQ) [hC<|iL [3] 2 (jb<|iM 5) (ng [hG 1,hG 2]) je<|jn<|hW lG [gR 0,gR 1]]
abbrev aai:=lu<|fT<|iw (g1 wQ) [hC<|iL [2,3,4] 1 (jb<|iM 6) (hG 3) je<|jn<|hW lj [gR 0,gR 1,gR 2,gR 3]]
abbrev aao:=hU N2 (hC<|qa [hW jd [gR 2,hC<|fC<|.int 5],fC<|.int 2,fC<|.int 3,fC<|.int 4])<|hC<|hW jd [gR 2,Kk]
abbrev zC3:=J4 (fT ZL) (gZ (jo 6<|hU lP (gR 6)<|hC<|iL [2,3] 1 (CC<|hC<|fC<|.int 3) (hG 2) je ZQ) ip) ip
def BN:FS:=gZ (qJ (CC<|hC<|iw (g2 RW) [jB,hC<|iw (g2 RU) [F5,Kk]]) (hG 1)<|gZ VO<|gZ (jo 3<|hW mw [gR 2,hC aao])<|gZ (jo 4<|hW oi [gR 3])<|gZ ZM<|gZ (J4 Z9 nK ip)<|gZ (J4 aae nK ip)<|gZ (J4 aaa nK ip)<|gZ (jo 6 Ki)<|gZ zC3<|gZ (J4 aai nK ip) ip)<|gZ (jH CU) ip
def vK:OO:=Q1 7 1 [1,2,3,4,5,6] BN
end PV
namespace K64
open L2 PX PV
noncomputable def top(i:Nat):Stmt:=PySem.Challenge.pw_twinriddles_k64_whole_papers.main.body.getD i<|.Pass ⟨0,0,0,0⟩
abbrev AZ(Z:ZZ)(x:aQ)(s:bG):Prop:=Fz Z.K Z.mg x s
section
variable(Z:ZZ)(k:Nat)
abbrev Be:Stmt:=top 6
abbrev wM(Z:ZZ)(k:Nat):Prop:=Oz Z k "is_whole" ["thing"] oB
theorem ae7(a:AZ Z "is_whole" Be)(T:Tx Z.mg):wM Z (k+1):=by refine CL (N:=["thing"]) a Ec λf c A b s U E L h i j e d g l=>?_;exact(s1 (sR<|wq (xI T H xV)<|HL<|acA<|xI T H xV) s0)
abbrev zI:Stmt:=top 7
abbrev ql(Z:ZZ)(k:Nat):Prop:=Oz Z k "is_number" ["thing","least","most"] kX
theorem aeK(a:AZ Z "is_number" zI)(T:Tx Z.mg)(d:wM Z k):ql Z (k+1):=by refine CL (N:=["thing","least","most"]) a Ec λf e A b s U E L j c l h g i m=>?_;exact(s1 (sR<|wq (xU d c<|xA xV XP)<|HL<|xCh xV xV xV) s0)
abbrev Gz:Stmt:=top 8
abbrev GZ(Z:ZZ)(k:Nat):Prop:=Oz Z k "is_bit" ["thing"] qP
theorem agk(a:AZ Z "is_bit" Gz)(T:Tx Z.mg)(c:ql Z k):GZ Z (k+1):=by refine CL (N:=["thing"]) a Ec λf e A b s U E L j d l h g i m=>?_;exact(s1 (sR<|xU c d<|xA xV<|xA (xO x3)<|xA (xO x3) XP) s0)
abbrev De:Stmt:=top 9
abbrev zd(Z:ZZ)(k:Nat):Prop:=Oz Z k "is_name" ["names","thing"] nV
theorem af1(a:AZ Z "is_name" De)(T:Tx Z.mg)(c:ql Z k):zd Z (k+1):=by refine CL (N:=["names","thing"]) a Ec λf e A b s U E L j d l h g i m=>?_;exact(s1 (sR<|xU c d<|xA xV<|xA (xO x3)<|xA xV XP) s0)
abbrev Dc:Stmt:=top 10
abbrev zc(Z:ZZ)(k:Nat):Prop:=Oz Z k "is_sign" ["names","thing"] mQ
theorem afZ(a:AZ Z "is_sign" Dc)(T:Tx Z.mg)(d:wM Z k)(e:zd Z k):zc Z (k+1):=by refine CL (N:=["names","thing"]) a Ec λf g A b s U E L l c m i h j n=>?_;exact(s1 (sR<|wq (xU d c<|xA xV XP)<|HL<|xU e c<|xA xV<|xA (xO<|xB T H ⟨lU⟩<|xA xV XP) XP) s0)
abbrev Dd:Stmt:=top 11
abbrev Dm(Z:ZZ)(k:Nat):Prop:=Oz Z k "is_pair" ["thing"] BX
theorem af0(a:AZ Z "is_pair" Dd)(T:Tx Z.mg):Dm Z (k+1):=by refine CL (N:=["thing"]) a Ec λf d A b s U E L i j c g e h l=>?_;exact(s1 (sR<|wq (xI T H xV)<|HL<|oG ⟨jL c⟩ (xO<|xB T H ⟨iN⟩<|xA xV XP)<|xO x3) s0)
abbrev tQ:Stmt:=top 12
abbrev zN(Z:ZZ)(k:Nat):Prop:=Oz Z k "is_rising" ["things"] rL
theorem aeJ(a:AZ Z "is_rising" tQ)(T:Tx Z.mg):zN Z (k+1):=by have S:VP ["things"] ["things"] (ir tQ):=Ec;refine CL a S λf e A c s U E L j l d h g i b=>?_;exact(s1 (sR<|xB T H ⟨lT H⟩<|xA (xO<|by exact xC (N':=["one","other"]) (BQ S) (by decide+kernel) (iZ T xW<|acv xV<|xO x3) λ_ _ _ _ _ _ b=>⟨gT (gN b)<|gN b,f0,λ_=>bE<|oG ⟨og (.inl H) d⟩ xV xV⟩) XP) s0)
abbrev tR:Stmt:=top 13
abbrev zO(Z:ZZ)(k:Nat):Prop:=Oz Z k "is_clause" ["names","thing"] nA
theorem aeL(a:AZ Z "is_clause" tR)(T:Tx Z.mg)(g:∃t,Z.mg "MOST_SIGNS"=J (.int 5 t))(h:zc Z k)(b:zN Z k):zO Z (k+1):=by have S:VP ["names","thing"] ["names","thing"] (ir tR):=Ec;refine CL a S λf i A d s U E L n e o l j m c=>?_;exact(s1 (sI (tW<|Jb (A2<|pY<|xI T H xV)<|Ga<|A2<|tCh (xO x3) (xO<|xB T H ⟨iN⟩<|xA xV XP)<|xO<|x5 g) (s1 (sR x2) s0) s0)<|s1 (sI (A2<|pY<|xB T H ⟨lT H⟩<|xA (xO<|by exact xC (N':=["names","sign"]) (BQ S) (by decide+kernel) (iS xW) λ_ _ _ _ _ _ c=>⟨gN c,f0,λ_=>bE<|xU h e<|xA xV<|xA xV XP⟩) XP) (s1 (sR x2) s0) s0)<|s1 (sR<|xU b e<|xA (xO<|by exact xC (N':=["sign"]) (BQ S) (by decide+kernel) (iS xW) λ_ _ _ _ _ _ c=>⟨gN c,f0,λ_=>bE<|xB T H ⟨lU⟩<|xA xV XP⟩) XP) s0)
abbrev tU:Stmt:=top 14
abbrev zP(Z:ZZ)(k:Nat):Prop:=Oz Z k "is_answer" ["names","thing"] nB
theorem aeM(a:AZ Z "is_answer" tU)(T:Tx Z.mg)(b:GZ Z k):zP Z (k+1):=by have S:VP ["names","thing"] ["names","thing"] (ir tU):=Ec;refine CL a S λf h A c s U E L m e g j i l d=>?_;exact(s1 (sR<|wq (xI T H xV)<|wq (oG ⟨jL g⟩ (xO<|xB T H ⟨iN⟩<|xA xV XP) xV)<|HL<|xB T H ⟨lT H⟩<|xA (xO<|by exact xC (N':=["bit"]) (BQ S) (by decide+kernel) (iS xW) λ_ _ _ _ _ _ d=>⟨gN d,f0,λ_=>bE<|xU b e<|xA xV XP⟩) XP) s0)
abbrev KG:Stmt:=top 15
abbrev Lb(Z:ZZ)(k:Nat):Prop:=Oz Z k "is_so" ["answer","sign"] ye
theorem Qz(a:AZ Z "is_so" KG)(T:Tx Z.mg):Lb Z (k+1):=by refine CL (N:=["answer","sign"]) a Ec λf d A b s U E L i j c g e h l=>?_;exact(s1 (sR<|oG ⟨jL c⟩ (xO<|NR xV<|xO<|kh ⟨nZ⟩ (xO<|xB T H ⟨lU⟩<|xA xV XP)<|xO x3)<|xO<|xIf (kx ⟨og (.inr<|.inr<|.inl H) c⟩ xV<|xO x3) x3 x3) s0)
abbrev pE:Stmt:=top 16
abbrev pL(Z:ZZ)(k:Nat):Prop:=Oz Z k "keeps_clause" ["answer","clause"] lR
theorem ad5(a:AZ Z "keeps_clause" pE)(T:Tx Z.mg)(b:Lb Z k):pL Z (k+1):=by have S:VP ["answer","clause"] ["answer","clause"] (ir pE):=Ec;refine CL a S λf g A c s U E L l e m i h j d=>?_;exact(s1 (sR<|xB T H ⟨DO H⟩<|xA (xO<|by exact xC (N':=["answer","sign"]) (BQ S) (by decide+kernel) (iS xW) λ_ _ _ _ _ _ d=>⟨gN d,f0,λ_=>bE<|xU b e<|xA xV<|xA xV XP⟩) XP) s0)
abbrev EF:Stmt:=top 17
abbrev La(Z:ZZ)(k:Nat):Prop:=Oz Z k "keeps" ["riddle","thing"] yd
theorem Qy(a:AZ Z "keeps" EF)(T:Tx Z.mg)(b:zP Z k)(g:pL Z k):La Z (k+1):=by have S:VP ["riddle","thing","names","clauses"] ["riddle","thing"] (ir EF):=Ec;refine CL a S λf h A d s U E L m e n j i l c=>?_;exact(s1 (sT xW<|gT (gN c)<|gN c)<|s1 (sR<|wq (xU b e<|xA xV<|xA xV XP)<|HL<|xB T H ⟨lT H⟩<|xA (xO<|by exact xC (N':=["thing","clause"]) (BQ S) (by decide+kernel) (iS xW) λ_ _ _ _ _ _ c=>⟨gN c,f0,λ_=>bE<|xU g e<|xA xV<|xA xV XP⟩) XP) s0)
abbrev qq:Stmt:=top 18
abbrev vI(Z:ZZ)(k:Nat):Prop:=Oz Z k "all_answers" ["names"] pT
theorem aej(a:AZ Z "all_answers" qq)(T:Tx Z.mg):vI Z (k+1):=by have S:VP ["names","begun","place"] ["names"] (ir qq):=Ec;refine CL a S λf e A c s U E L d l m i g j b=>?_;exact(s1 (sS b<|nF<|xL (lD Ms) Ms)<|s1 (sF (MD T<|xA xV XP) (gN b)<|s1 (sC (N':=["begin","bit"]) b (BQ S) (by decide+kernel) (iS xW) λ_ _ _ _ _ _ b=>⟨gN b,f0,λ_=>bF H (iS<|lD<|xL x3<|xL x3 Ms) (gN b) f0<|bE<|kh ⟨jZ⟩ xV<|xO<|lD<|xL xW Ms⟩) s0)<|s1 (MT λh=>absurd (d _ h)<|by decide) s0)
abbrev yS:Stmt:=top 19
abbrev uN(Z:ZZ)(k:Nat):Prop:=Oz Z k "answers" ["riddle"] mS
theorem afw(a:AZ Z "answers" yS)(T:Tx Z.mg)(b:vI Z k)(c:La Z k):uN Z (k+1):=by have S:VP ["riddle"] ["riddle"] (ir yS):=Ec;refine CL a S λf h A d s U E L m e n j i l g=>?_;exact(s1 (sR<|by exact xC (N':=["riddle","answer"]) (BQ S) (by decide+kernel) (iS<|xU b e<|xA (xO<|NR xV<|xO x3) XP) λ_ _ _ _ _ _ g=>⟨gN g,f1<|pY<|xU c e<|xA xV<|xA xV XP,λ_=>bE xW⟩) s0)
abbrev ni:Stmt:=top 20
abbrev qm(Z:ZZ)(k:Nat):Prop:=Oz Z k "answers_against" ["riddle","clause"] mR
theorem wK(a:AZ Z "answers_against" ni)(T:Tx Z.mg)(g:uN Z k)(e:pL Z k):qm Z (k+1):=by have S:VP ["riddle","clause"] ["riddle","clause"] (ir ni):=Ec;refine CL a S λf h A b s U E L m c n j i l d=>?_;exact(s1 (sR<|by exact xC (N':=["clause","answer"]) (BQ S) (by decide+kernel) (iS<|xU g c<|xA xV XP) λ_ _ _ _ _ _ d=>⟨gN d,f1<|A2<|pY<|xU e c<|xA xV<|xA xV XP,λ_=>bE xW⟩) s0)
abbrev rl:Stmt:=top 22
abbrev rp(Z:ZZ)(k:Nat):Prop:=Oz Z k "is_turning" ["names","thing"] jW
theorem aeC(a:AZ Z "is_turning" rl)(T:Tx Z.mg)(g:zc Z k):rp Z (k+1):=by have S:VP ["names","thing"] ["names","thing"] (ir rl):=Ec;refine CL a S λf h A c s U E L m e d j i l b=>?_;exact(s1 (sI (tW<|Jb (A2<|pY<|xI T H xV)<|Ga<|kx ⟨nj d⟩ (xO<|xB T H ⟨iN⟩<|xA xV XP) xV) (s1 (sR x2) s0) s0)<|s1 (sI (A2<|pY<|xB T H ⟨lT H⟩<|xA (xO<|by exact xC (N':=["names","sign"]) (BQ S) (by decide+kernel) (iS xW) λ_ _ _ _ _ _ b=>⟨gN b,f0,λ_=>bE<|xU g e<|xA xV<|xA xV XP⟩) XP) (s1 (sR x2) s0) s0)<|s1 (sR<|oG ⟨jL d⟩ (xO<|by exact xLS (N':=["sign"]) T (BQ S) (by decide+kernel) (iS xW) λ_ _ _ _ _ _ b=>⟨gN b,f0,xB T H ⟨lU⟩<|xA xV XP⟩) xV) s0)
abbrev rY:Stmt:=top 23
abbrev sf(Z:ZZ)(k:Nat):Prop:=Oz Z k "check_turning" ["names","thing"] mx
theorem zb(a:AZ Z "check_turning" rY)(T:Tx Z.mg)(d:rp Z k):sf Z (k+1):=by refine CL (N:=["names","thing"]) a Ec λf e A b s U E L j c l h g i m=>?_;exact(s1 (sI (A2<|pY<|xU d c<|xA xV<|xA xV XP) (s1 sX s0) s0) s0)
abbrev Bb:Stmt:=top 24
abbrev Bx(Z:ZZ)(k:Nat):Prop:=Oz Z k "led_sign" ["turning","sign"] oA
theorem ae3(a:AZ Z "led_sign" Bb)(T:Tx Z.mg):Bx Z (k+1):=by refine CL (N:=["turning","sign"]) a Ec λf d A b s U E L i j c g e h l=>?_;exact(s1 (sR<|xIf (kx ⟨og (.inr<|.inr<|.inl H) c⟩ xV<|xO x3) (NR xV<|xO<|kh ⟨nZ⟩ xV<|xO x3)<|pA<|xO<|NR xV<|xO<|kh ⟨nZ⟩ (xO<|pA xV)<|xO x3) s0)
abbrev rh:Stmt:=top 25
abbrev oZ(Z:ZZ)(k:Nat):Prop:=Oz Z k "led_clause" ["clause","turning"] kZ
theorem aeA(a:AZ Z "led_clause" rh)(T:Tx Z.mg)(b:Bx Z k):oZ Z (k+1):=by have S:VP ["clause","turning"] ["clause","turning"] (ir rh):=Ec;refine CL a S λf g A c s U E L l e m i h j d=>?_;exact(s1 (sR<|xT T H ⟨jD⟩<|xA (xO<|xSA T<|xA (xO<|by exact xC (N':=["turning","sign"]) (BQ S) (by decide+kernel) (iS xW) λ_ _ _ _ _ _ d=>⟨gN d,f0,λ_=>bE<|xU b e<|xA xV<|xA xV XP⟩) XP) XP) s0)
abbrev Py:Stmt:=top 26
abbrev QK(Z:ZZ)(k:Nat):Prop:=Oz Z k "led" ["riddle","turning"] Fo
theorem X1(a:AZ Z "led" Py)(T:Tx Z.mg)(b:sf Z k)(h:oZ Z k):QK Z (k+1):=by have S:VP ["riddle","turning","names","clauses"] ["riddle","turning"] (ir Py):=Ec;refine CL a S λf i A d s U E L m e n j g l c=>?_;exact(s1 (sT xW<|gT (gN c)<|gN c)<|s1 (sE<|xU b e<|xA xV<|xA xV XP)<|s1 (sR<|lD<|xL xW<|xL (xT T H ⟨jD⟩<|xA (xO<|xB T H ⟨nD g⟩<|xA (xO<|by exact xC (N':=["turning","clause"]) (BQ S) (by decide+kernel) (iS xW) λ_ _ _ _ _ _ c=>⟨gN c,f0,λ_=>bE<|xU h e<|xA xV<|xA xV XP⟩) XP) XP) Ms) s0)
abbrev vB:Stmt:=top 28
abbrev vG(Z:ZZ)(k:Nat):Prop:=Oz Z k "is_likeness" ["riddle","thing"] ny
theorem aeh(a:AZ Z "is_likeness" vB)(T:Tx Z.mg)(g:rp Z k)(d:QK Z k):vG Z (k+1):=by refine CL (N:=["riddle","thing"]) a Ec λf h A b s U E L m c e j i l n=>?_;exact(s1 (sR<|wq (xU g c<|xA (xO<|NR xV<|xO x3)<|xA xV XP)<|HL<|oG ⟨jL e⟩ (xO<|xU d c<|xA xV<|xA xV XP) xV) s0)
abbrev tV:Stmt:=top 29
abbrev zQ(Z:ZZ)(k:Nat):Prop:=Oz Z k "all_signs" ["names"] ph
theorem aeN(a:AZ Z "all_signs" tV)(T:Tx Z.mg):zQ Z (k+1):=by have S:VP ["names"] ["names"] (ir tV):=Ec;refine CL a S λf e A b s U E L j l d h g i c=>?_;exact(s1 (sR<|by exact xC (N':=["sign"]) (BQ S) (by decide+kernel) (Mf T<|xA (xO<|pA xV)<|xA (xO<|kh ⟨jZ⟩ xV<|xO x3) XP) λ_ _ _ _ _ _ c=>⟨gN c,f1<|kx ⟨nj d⟩ xV<|xO x3,λ_=>bE xW⟩) s0)
abbrev oI:Stmt:=top 30
abbrev rZ(Z:ZZ)(k:Nat):Prop:=Oz Z k "longer_by_one" ["names","begun"] nR
theorem yX(a:AZ Z "longer_by_one" oI)(T:Tx Z.mg)(b:zQ Z k):rZ Z (k+1):=by have S:VP ["names","begun"] ["names","begun"] (ir oI):=Ec;refine CL a S λf h A d s U E L m g e j i l c=>?_;exact(s1 (sR<|by exact xC (N':=["names","begin","sign"]) (BQ S) (by decide+kernel) (iS xW) λ_ _ _ _ _ _ c=>⟨gN c,f0,λ_=>bF H (iS<|xU b g<|xA xV XP) (gN c) (f1<|tW<|Co (kx ⟨mq e⟩ xV xV)<|vw<|kx ⟨mq e⟩ (xO<|pA xV) xV)<|bE<|kh ⟨jZ⟩ xV<|xO<|lD<|xL xW Ms⟩) s0)
abbrev oJ:Stmt:=top 31
abbrev sd(Z:ZZ)(k:Nat):Prop:=Oz Z k "leading_among" ["riddle","others"] nS
theorem yY(a:AZ Z "leading_among" oJ)(T:Tx Z.mg)(b:rZ Z k)(i:oZ Z k):sd Z (k+1):=by have S:VP ["riddle","others","names","clauses","begun","name","ready"] ["riddle","others"] (ir oJ):=Ec;refine CL a S λf l A d s U E L j e g n m o c=>?_;exact(s1 (sT xW<|gT (gN c)<|gN c)<|s1 (sS c<|nF<|xL (lD Ms) Ms)<|s1 (sF (Mf T<|xA (xO x3)<|xA (xO<|kh ⟨jZ⟩ xV<|xO x3) XP) (gN c)<|s1 (sS c<|by exact xC (N':=["name","clause"]) (BQ S) (by decide+kernel) (iS xW) λ_ _ _ _ _ _ c=>⟨gN c,f1<|kx ⟨jL g⟩ (xO<|xB T H ⟨lU⟩<|xA (xO<|NR xV<|xO<|pA<|xO x3) XP) xV,λ_=>bE xW⟩)<|s1 (sC (N':=["others","ready","begin"]) c (BQ S) (by decide+kernel) (iS<|xU b e<|xA xV<|xA xV XP) λ_ _ _ _ _ _ c=>⟨gN c,f1<|pY<|xB T H ⟨lT H⟩<|xA (xO<|by exact xC (N':=["others","begin","clause"]) (Sz H H<|by with_unfolding_all rfl) (by decide+kernel) (iS xW) λ_ _ _ _ _ _ c=>⟨gN c,f0,λ_=>bE<|oG ⟨yW g⟩ (xO<|xU i e<|xA xV<|xA xV XP) xV⟩) XP,λ_=>bE xW⟩) s0)<|s1 (MT λh=>absurd (j _ h)<|by decide) s0)
abbrev vC:Stmt:=top 32
abbrev vH(Z:ZZ)(k:Nat):Prop:=Oz Z k "all_leading" ["one","other"] uj
theorem aei(a:AZ Z "all_leading" vC)(T:Tx Z.mg)(b:sd Z k):vH Z (k+1):=by refine CL (N:=["one","other"]) a Ec λf g A c s U E L l d e i h j m=>?_;exact(s1 (sR<|xIf (kx ⟨jL e⟩ (xO<|xB T H ⟨iN⟩<|xA (xO<|NR xV<|xO x3) XP)<|xO<|xB T H ⟨iN⟩<|xA (xO<|NR xV<|xO x3) XP) (xU b d<|xA xV<|xA (xO<|NR xV<|xO x3) XP)<|nF Ms) s0)
abbrev xw:Stmt:=top 33
abbrev xG(Z:ZZ)(k:Nat):Prop:=Oz Z k "likenesses" ["riddle"] oi
theorem aez(a:AZ Z "likenesses" xw)(T:Tx Z.mg)(b:vH Z k):xG Z (k+1):=by refine CL (N:=["riddle"]) a Ec λf e A c s U E L j d l h g i m=>?_;exact(s1 (sR<|xU b d<|xA xV<|xA xV XP) s0)
abbrev tN:Stmt:=top 36
abbrev pJ(Z:ZZ)(k:Nat):Prop:=Oz Z k "may_be_shown" ["names","thing"] lQ
theorem ad3(a:AZ Z "may_be_shown" tN)(T:Tx Z.mg)(b:zO Z k):pJ Z (k+1):=by refine CL (N:=["names","thing"]) a Ec λf g A c s U E L l d e i h j m=>?_;exact(s1 (sR<|xOr (oG ⟨Uw e⟩ xV<|xO<|lD Ms)<|HL<|xU b d<|xA xV<|xA xV XP) s0)
abbrev Bf:Stmt:=top 37
abbrev pN(Z:ZZ)(k:Nat):Prop:=Oz Z k "is_place" ["things","thing"] kW
theorem ae8(a:AZ Z "is_place" Bf)(T:Tx Z.mg)(c:ql Z k):pN Z (k+1):=by refine CL (N:=["things","thing"]) a Ec λf e A b s U E L j d l h g i m=>?_;exact(s1 (sR<|xU c d<|xA xV<|xA (xO x3)<|xA (xO<|kh ⟨nZ⟩ (xO<|xB T H ⟨iN⟩<|xA xV XP)<|xO x3) XP) s0)
abbrev Px:Stmt:=top 38
abbrev K9(Z:ZZ)(k:Nat):Prop:=Oz Z k "met" ["one","other","name"] zm
theorem XZ(a:AZ Z "met" Px)(T:Tx Z.mg):K9 Z (k+1):=by have S:VP ["one","other","name"] ["one","other","name"] (ir Px):=Ec;refine CL a S λf g A b s U E L j l e h d i c=>?_;exact(s1 (sR<|xT T H ⟨jD⟩<|xA (xO<|xSA T<|xA (xO<|xB T H ⟨yh H d⟩<|xA (xO<|by exact acx (N':=["name","sign"]) (BQ S) (by decide+kernel) (iS<|kh ⟨jZ⟩ xV xV) λ_ _ _ _ _ _ c=>⟨gN c,f1<|kx ⟨nj e⟩ (xO<|xB T H ⟨lU⟩<|xA xV XP) xV,xW⟩) XP) XP) XP) s0)
abbrev Bh:Stmt:=top 39
abbrev BB(Z:ZZ)(k:Nat):Prop:=Oz Z k "is_given" ["riddle","clause","at"] ui
theorem afa(a:AZ Z "is_given" Bh)(T:Tx Z.mg)(c:pN Z k):BB Z (k+1):=by refine CL (N:=["riddle","clause","at","clauses"]) a Ec λf h A b s U E L m d e j i l g=>?_;exact(s1 (sS g<|NR xV<|xO x3)<|s1 (sR<|wq (xU c d<|xA xV<|xA xV XP)<|HL<|oG ⟨jL e⟩ (xO<|NR xV xV) xV) s0)
abbrev Gx:Stmt:=top 40
abbrev GX(Z:ZZ)(k:Nat):Prop:=Oz Z k "is_met" ["names","shown","clause","why"] zp
theorem agi(a:AZ Z "is_met" Gx)(T:Tx Z.mg)(g:pN Z k)(h:zd Z k)(i:K9 Z k):GX Z (k+1):=by refine CL (N:=["names","shown","clause","why","word","one","other","name"]) a Ec λf j A e s U E L o b d m l n c=>?_;exact(s1 (sT xW<|gT4 (gN c) (gN c) (gN c)<|gN c)<|s1 (sI (tW<|Jb (A2<|pY<|xU g b<|xA xV<|xA xV XP)<|Jb (A2<|pY<|xU g b<|xA xV<|xA xV XP)<|Ga<|A2<|pY<|xU h b<|xA xV<|xA xV XP) (s1 (sR x2) s0) s0)<|s1 (sI (tW<|Jb (kx ⟨mq d⟩ xV<|xO<|NR xV xV)<|Ga<|kx ⟨mq d⟩ (xO<|pA xV)<|xO<|NR xV xV) (s1 (sR x2) s0) s0)<|s1 (sR<|oG ⟨jL d⟩ (xO<|xU i b<|xA (xO<|NR xV xV)<|xA (xO<|NR xV xV)<|xA xV XP) xV) s0)
abbrev Gy:Stmt:=top 41
abbrev GY(Z:ZZ)(k:Nat):Prop:=Oz Z k "is_led" ["riddle","shown","clause","why"] zq
theorem agj(a:AZ Z "is_led" Gy)(T:Tx Z.mg)(g:pN Z k)(b:vG Z k)(h:oZ Z k):GY Z (k+1):=by refine CL (N:=["riddle","shown","clause","why","word","at","turning"]) a Ec λf j A e s U E L o c i m l n d=>?_;exact(s1 (sT xW<|gT3 (gN d) (gN d)<|gN d)<|s1 (sR<|wq (xU g c<|xA xV<|xA xV XP)<|wq (xU b c<|xA xV<|xA xV XP)<|HL<|oG ⟨jL i⟩ (xO<|xU h c<|xA (xO<|NR xV xV)<|xA xV XP) xV) s0)
abbrev yR:Stmt:=top 42
abbrev Dk(Z:ZZ)(k:Nat):Prop:=Oz Z k "is_wide" ["shown","clause","at"] wX
theorem afX(a:AZ Z "is_wide" yR)(T:Tx Z.mg)(d:pN Z k):Dk Z (k+1):=by have S:VP ["shown","clause","at"] ["shown","clause","at"] (ir yR):=Ec;refine CL a S λf h A b s U E L m e g j i l c=>?_;exact(s1 (sR<|wq (xU d e<|xA xV<|xA xV XP)<|HL<|xB T H ⟨lT H⟩<|xA (xO<|by exact xC (N':=["clause","sign"]) (BQ S) (by decide+kernel) (iS<|NR xV xV) λ_ _ _ _ _ _ c=>⟨gN c,f0,λ_=>bE<|oG ⟨yW g⟩ xV xV⟩) XP) s0)
abbrev Gw:Stmt:=top 43
abbrev GW(Z:ZZ)(k:Nat):Prop:=Oz Z k "is_why" ["riddle","shown","clause","why"] zo
theorem agh(a:AZ Z "is_why" Gw)(T:Tx Z.mg)(b:BB Z k)(c:Dk Z k)(d:GY Z k)(e:GX Z k):GW Z (k+1):=by refine CL (N:=["riddle","shown","clause","why","word"]) a Ec λf l A i s U E L p h g n m o j=>?_;exact(s1 (sI (tW<|Jb (A2<|pY<|xI T H xV)<|Ga<|A2<|tCh (xO x3) (xO<|xB T H ⟨iN⟩<|xA xV XP)<|xO x3) (s1 (sR x2) s0) s0)<|s1 (sS j<|NR xV<|xO x3)<|s1 (sI (tW<|Co (kx ⟨jL g⟩ (xO<|xB T H ⟨iN⟩<|xA xV XP)<|xO x3)<|vw<|kx ⟨jL g⟩ xV<|xO x4) (s1 (sR<|xU b h<|xA xV<|xA xV<|xA (xO<|NR xV<|xO x3) XP) s0) s0)<|s1 (sI (tW<|Co (kx ⟨jL g⟩ (xO<|xB T H ⟨iN⟩<|xA xV XP)<|xO x3)<|vw<|kx ⟨jL g⟩ xV<|xO x4) (s1 (sR<|xU c h<|xA xV<|xA xV<|xA (xO<|NR xV<|xO x3) XP) s0) s0)<|s1 (sI (tW<|Co (kx ⟨jL g⟩ (xO<|xB T H ⟨iN⟩<|xA xV XP)<|xO x3)<|vw<|kx ⟨jL g⟩ xV<|xO x4) (s1 (sR<|xU d h<|xA xV<|xA xV<|xA xV<|xA xV XP) s0) s0)<|s1 (sI (tW<|Co (kx ⟨jL g⟩ (xO<|xB T H ⟨iN⟩<|xA xV XP)<|xO x3)<|vw<|kx ⟨jL g⟩ xV<|xO x4) (s1 (sR<|xU e h<|xA (xO<|NR xV<|xO x3)<|xA xV<|xA xV<|xA xV XP) s0) s0)<|s1 (sR x2) s0)
abbrev C9:Stmt:=top 44
abbrev Dl(Z:ZZ)(k:Nat):Prop:=Oz Z k "is_step" ["riddle","shown","thing"] wY
theorem afY(a:AZ Z "is_step" C9)(T:Tx Z.mg)(b:Dm Z k)(h:pJ Z k)(c:GW Z k):Dl Z (k+1):=by refine CL (N:=["riddle","shown","thing","clause","why"]) a Ec λf i A e s U E L n d o l j m g=>?_;exact(s1 (sI (A2<|pY<|xU b d<|xA xV XP) (s1 (sR x2) s0) s0)<|s1 (sT xW<|gT (gN g)<|gN g)<|s1 (sR<|wq (xU h d<|xA (xO<|NR xV<|xO x3)<|xA xV XP)<|HL<|xU c d<|xA xV<|xA xV<|xA xV<|xA xV XP) s0)
abbrev Bg:Stmt:=top 45
abbrev wN(Z:ZZ)(k:Nat):Prop:=Oz Z k "is_paper" ["riddle","thing"] mX
theorem ae9(a:AZ Z "is_paper" Bg)(T:Tx Z.mg)(g:∃t,Z.mg "MOST_STEPS"=J (.int 200 t))(b:Dl Z k):wN Z (k+1):=by refine CL (N:=["riddle","thing","shown","step"]) a Ec λf h A c s U E L m e n j i l d=>?_;exact(s1 (sI (tW<|Jb (A2<|pY<|xI T H xV)<|Ga<|A2<|tCh (xO x3) (xO<|xB T H ⟨iN⟩<|xA xV XP)<|xO<|x5 g) (s1 (sR x2) s0) s0)<|s1 (sS d<|nF Ms)<|s1 (sF (iS xW) (gN d)<|s1 (sI (A2<|pY<|xU b e<|xA xV<|xA xV<|xA xV XP) (s1 (sR x2) s0) s0)<|s1 (sE<|AW xV<|NR xV<|xO x3) s0)<|s1 (sR x2) s0)
abbrev Df:Stmt:=top 46
abbrev uM(Z:ZZ)(k:Nat):Prop:=Oz Z k "follows" ["riddle","clause"] lG
theorem af2(a:AZ Z "follows" Df)(T:Tx Z.mg)(g:pJ Z k)(b:qm Z k):uM Z (k+1):=by refine CL (N:=["riddle","clause"]) a Ec λf h A c s U E L m d e j i l n=>?_;exact(s1 (sI (A2<|pY<|xU g d<|xA (xO<|NR xV<|xO x3)<|xA xV XP) (s1 sX s0) s0)<|s1 (sR<|oG ⟨jL e⟩ (xO<|xU b d<|xA xV<|xA xV XP)<|xO<|nF Ms) s0)
abbrev oK:Stmt:=top 47
abbrev oM(Z:ZZ)(k:Nat):Prop:=Oz Z k "first_against" ["clauses","so"] nW
theorem za(a:AZ Z "first_against" oK)(T:Tx Z.mg):oM Z (k+1):=by have S:VP ["clauses","so","at","clause"] ["clauses","so"] (ir oK):=Ec;refine CL a S λf g A c s U E L d m e j i l b=>?_;exact(s1 (sF (iE T xW) (gT (gN b)<|gN b)<|s1 (sI (pY<|xB T H ⟨lT H⟩<|xA (xO<|by exact xC (N':=["so","sign"]) (BQ S) (by decide+kernel) (iS xW) λ_ _ _ _ _ _ b=>⟨gN b,f0,λ_=>bE<|oG ⟨yW e⟩ (xO<|pA xV) xV⟩) XP) (s1 (MT λh=>absurd (d _ h)<|by decide) s0) s0) s0)<|s1 (sR x1) s0)
abbrev ot:Stmt:=top 48
abbrev aeX(Z:ZZ)(k:Nat):Prop:=Oz Z k "add_steps" ["riddle","so","steps"] (kY RD)
theorem yp:MO "add_steps" ot ["riddle","so","steps"]:=λ_ _ _ _ _ _=>MP λ_=>MP λ_=>MP λ_=>us0 H
theorem aey{e:OO}(a:AZ Z "add_steps" ot)(T:Tx Z.mg)(i:oM Z k)(j:K9 Z k)(h:Oz Z k "add_steps" ["riddle","so","steps"] e):Oz Z (k+1) "add_steps" ["riddle","so","steps"] (Q1 9 3 [3,4,5,6,7,8]<|pd e):=by have S:VP ["riddle","so","steps","names","clauses","at","name","one","other"] ["riddle","so","steps"] (ir ot):=Ec;refine ozB (asg:=[3,4,5,6,7,8]) (fs:=pd e) a S yp λf l A g s U E L p c d n m o b=>?_;exact(s1 (sT xW<|gT (gN b)<|gN b)<|s1 (sS b<|xU i c<|xA xV<|xA xV XP)<|s1 (sI (kx ⟨Di⟩ xV<|xO x1) (s1 (sE<|AW xV<|lD<|xL (NR xV xV)<|xL (lD<|xL x4<|xL xW Ms) Ms)<|s1 sRN s0) s0)<|s1 (sS b<|xB T H ⟨agZ H⟩<|xA (xO<|by exact xC (N':=["so","free"]) (BQ S) (by decide+kernel) (Mf T<|xA (xO x3)<|xA (xO<|kh ⟨jZ⟩ xV<|xO x3) XP) λ_ _ _ _ _ _ b=>⟨gN b,f1<|tW<|Co (kx ⟨mq d⟩ xV xV)<|vw<|kx ⟨mq d⟩ (xO<|pA xV) xV,λ_=>bE xW⟩) XP)<|s1 (sE<|xU h c<|xA xV<|xA (xO<|kh ⟨jZ⟩ xV<|xO<|lD<|xL (pA xV) Ms)<|xA xV XP)<|s1 (sS b<|kh ⟨nZ⟩ (xO<|xB T H ⟨iN⟩<|xA xV XP)<|xO x3)<|s1 (sI (kx ⟨mq d⟩ xV<|xO<|NR (xO<|NR xV xV)<|xO x3) (s1 sRN s0) s0)<|s1 (sE<|xU h c<|xA xV<|xA (xO<|kh ⟨jZ⟩ xV<|xO (lD (xL xW Ms)))<|xA xV XP)<|s1 (sS b<|kh ⟨nZ⟩ (xO<|xB T H ⟨iN⟩<|xA xV XP)<|xO x3)<|s1 (sI (kx ⟨yW d⟩ (xO<|pA xV)<|xO<|NR (xO<|NR xV xV)<|xO x3) (s1 (sE<|AW xV<|lD<|xL (xU j c (xA (xO (NR (xO (NR xV xV)) (xO x3))) (xA (xO (NR (xO (NR xV xV)) (xO x3))) (xA xV XP)))) (xL (lD (xL x4 (xL xW (xL xW (xL xW Ms))))) Ms)) s0) s0) s0)
theorem xE(a:AZ Z "add_steps" ot)(T:Tx Z.mg)(b:oM Z k)(c:K9 Z k):∀m,Oz Z (k+m) "add_steps" ["riddle","so","steps"] (kY m)
 |0=>(oz0 a yp).up (by omega)
 |m+1=>aey Z _ a T (b.up<|ka k m) (c.up<|ka k m) (xE a T b c m)
abbrev wA:Stmt:=top 49
abbrev Bw(Z:ZZ)(k:Nat):Prop:=Oz Z k "paper_of" ["riddle","clause"] oz
theorem ae2(a:AZ Z "paper_of" wA)(T:Tx Z.mg)(e:uM Z k)(h:aeX Z k):Bw Z (k+1):=by have S:VP ["riddle","clause","steps"] ["riddle","clause"] (ir wA):=Ec;refine CL a S λf i A c s U E L n d g l j m b=>?_;exact(s1 (sI (A2<|pY<|xU e d<|xA xV<|xA xV XP) (s1 (sR x1) s0) s0)<|s1 (sS b<|nF Ms)<|s1 (sE<|xU h d<|xA xV<|xA (xO<|xT T H ⟨jD⟩<|xA (xO<|by exact xC (N':=["sign"]) (BQ S) (by decide+kernel) (iS xW) λ_ _ _ _ _ _ b=>⟨gN b,f0,λ_=>bE<|pA xV⟩) XP)<|xA xV XP)<|s1 (sI (kx ⟨nj g⟩ (xO<|NR (xO<|NR xV<|xO<|pA<|xO x3)<|xO x3) xV) (s1 (sE<|AW xV<|lD<|xL xW<|xL (lD<|xL x4<|xL (kh ⟨nZ⟩ (xO<|xB T H ⟨iN⟩<|xA xV XP)<|xO x3) Ms) Ms) s0) s0)<|s1 (sR<|xT T H ⟨jD⟩<|xA xV XP) s0)
abbrev vA:Stmt:=top 51
abbrev vF(Z:ZZ)(k:Nat):Prop:=Oz Z k "_law_cell_at" ["_law_script","_law_k"] ml
theorem aeg(a:AZ Z "_law_cell_at" vA)(T:Tx Z.mg):vF Z (k+1):=by refine CL (N:=["_law_script","_law_k"]) a Ec λf d A b s U E L i j c g e h l=>?_;exact(s1 (sI (kx ⟨og (.inl H) c⟩ xV<|xO<|xB T H ⟨iN⟩<|xA xV XP) (s1 (sR<|NR xV xV) s0) s0)<|s1 (sR x3) s0)
abbrev zH:Stmt:=top 52
abbrev zM(Z:ZZ)(k:Nat):Prop:=Oz Z k "_law_state" ["_law_script","_law_k"] nv
theorem aeI(a:AZ Z "_law_state" zH)(T:Tx Z.mg)(b:vF Z k):zM Z (k+1):=by refine CL (N:=["_law_script","_law_k","_law_cell"]) a Ec λf h A c s U E L m d e j i l g=>?_;exact(s1 (sS g<|xU b d<|xA xV<|xA xV XP)<|s1 (sI (kx ⟨og (.inr<|.inr<|.inr H) e⟩ xV<|xO<|kh ⟨KY⟩ (xO x3)<|xO x3) (s1 (sR<|nF<|xL (kh ⟨nZ⟩ xV<|xO<|kh ⟨KY⟩ (xO x3)<|xO x3)<|xL x2 Ms) s0) s0)<|s1 (sR<|nF<|xL (kh ⟨uK⟩ xV<|xO x3)<|xL x2 Ms) s0)
abbrev Bc:Stmt:=top 53
abbrev mf(Z:ZZ)(k:Nat):Prop:=Oz Z k "_law_take" ["_law_state_here","_law_many"] jd
theorem ae4(a:AZ Z "_law_take" Bc)(T:Tx Z.mg):mf Z (k+1):=by refine CL (N:=["_law_state_here","_law_many","_law_found","_law_mixed"]) a Ec λf e A c s U E L d l m i g j b=>?_;exact(s1 (sI (pY<|NR xV<|xO x3) (s1 (sS b<|kh ⟨uK⟩ (xO<|NR xV<|xO x3) xV)<|s1 (J0 xV (kh ⟨K0⟩ (xO<|NR xV<|xO x3) xV)<|xO x3)<|s1 (MT λh=>absurd (d _ h)<|by decide) s0) s0)<|s1 (J0 xV (kh ⟨uK⟩ (xO<|kh ⟨jZ⟩ (xO<|kh ⟨mJ⟩ (xO<|NR xV<|xO x3)<|xO x3)<|xO x3)<|xO x3)<|xO x3)<|s1 (sS b<|kh ⟨uK⟩ (xO<|kh ⟨jZ⟩ (xO<|kh ⟨jZ⟩ (xO<|kh ⟨mJ⟩ (xO<|NR xV<|xO x3)<|xO<|NR xV<|xO x3)<|xO<|kh ⟨mJ⟩ (xO x3)<|xO<|NR xV<|xO x3)<|xO x3)<|xO x3)<|s1 (sS b<|kh ⟨uK⟩ (xO<|kh ⟨jZ⟩ (xO<|kh ⟨mJ⟩ xV xV)<|xO<|kh ⟨mJ⟩ (xO x3) xV)<|xO x3)<|s1 (sR<|kh ⟨uK⟩ (xO<|kh ⟨K0⟩ xV<|xO x3) xV) s0)
abbrev vz:Stmt:=top 54
abbrev qr(Z:ZZ)(k:Nat):Prop:=Oz Z k "_law_turning" ["_law_state_here","_law_names"] nu
theorem aef(a:AZ Z "_law_turning" vz)(T:Tx Z.mg)(d:mf Z k):qr Z (k+1):=by refine CL (N:=["_law_state_here","_law_names","_law_rest","_law_found","_law_turn"]) a Ec λf g A c s U E L l e m i h j b=>?_;exact(s1 (sS b<|acy T H<|xA (xO x3)<|xA (xO<|kh ⟨jZ⟩ xV<|xO x3) XP)<|s1 (sS b<|nF Ms)<|s1 (sF (MD T<|xA xV XP) (gN b)<|s1 (sE<|AW xV<|kh ⟨mJ⟩ (xO<|acz xV<|xO<|xU d e<|xA xV<|xA (xO<|xB T H ⟨iN⟩<|xA xV XP) XP)<|xO<|NR (xO<|nF<|xL x3<|xL (pA<|xO x3) Ms)<|xO<|xU d e<|xA xV<|xA (xO x3) XP) s0)<|s1 (sR<|xT T H ⟨jD⟩<|xA xV XP) s0)
abbrev tP:Stmt:=top 55
abbrev tY(Z:ZZ)(k:Nat):Prop:=Oz Z k "_law_led_sign" ["_law_turning_here","_law_sign"] lh
theorem ad4(a:AZ Z "_law_led_sign" tP)(T:Tx Z.mg):tY Z (k+1):=by refine CL (N:=["_law_turning_here","_law_sign"]) a Ec λf d A b s U E L i j c g e h l=>?_;exact(s1 (sR<|kh ⟨mJ⟩ (xO<|NR xV<|xO<|kh ⟨nZ⟩ (xO<|xB T H ⟨lU⟩<|xA xV XP)<|xO x3)<|xO<|NR (xO<|nF<|xL x3<|xL (pA<|xO x3) Ms)<|xO<|xT T H ⟨DM⟩<|xA (xO<|oG ⟨og (.inl H) c⟩ xV<|xO x3) XP) s0)
abbrev rk:Stmt:=top 56
abbrev rn(Z:ZZ)(k:Nat):Prop:=Oz Z k "_law_clause" ["_law_state_here","_law_names"] kU
theorem aeB(a:AZ Z "_law_clause" rk)(T:Tx Z.mg)(b:mf Z k):rn Z (k+1):=by have S:VP ["_law_state_here","_law_names","_law_signs"] ["_law_state_here","_law_names"] (ir rk):=Ec;refine CL a S λf h A e s U E L m c g j i l d=>?_;exact(s1 (sC (N':=["_law_state_here","_law_name"]) d (BQ S) (by decide+kernel) (Mf T<|xA (xO x3)<|xA (xO<|kh ⟨jZ⟩ xV<|xO x3) XP) λ_ _ _ _ _ _ d=>⟨gN d,f1<|kx ⟨jL g⟩ (xO<|xU b c<|xA xV<|xA (xO x3) XP)<|xO x3,λ_=>bE<|kh ⟨mJ⟩ xV<|xO<|NR (xO<|nF<|xL x3<|xL (pA<|xO x3) Ms)<|xO<|xU b c<|xA xV<|xA (xO x3) XP⟩)<|s1 (sI (kx ⟨jL g⟩ xV<|xO<|nF Ms) (s1 (sS d<|nF<|xL (kh ⟨mJ⟩ (xO<|kh ⟨jZ⟩ (xO x3)<|xO<|xU b c<|xA xV<|xA xV XP)<|xO<|NR (xO<|nF<|xL x3<|xL (pA<|xO x3) Ms)<|xO<|xU b c<|xA xV<|xA (xO x3) XP) Ms) s0) s0)<|s1 (sR<|xT T H ⟨jD⟩<|xA xV XP) s0)
abbrev nN:Stmt:=top 57
abbrev mr(Z:ZZ)(k:Nat):Prop:=Oz Z k "_law_led_clause" ["_law_clause_here","_law_turning_here"] jh
theorem xD(a:AZ Z "_law_led_clause" nN)(T:Tx Z.mg)(b:tY Z k):mr Z (k+1):=by have S:VP ["_law_clause_here","_law_turning_here","_law_row"] ["_law_clause_here","_law_turning_here"] (ir nN):=Ec;refine CL a S λf h A d s U E L l e m i g j c=>?_;exact(s1 (sC (N':=["_law_turning_here","_law_sign"]) c (BQ S) (by decide+kernel) (iS xW) λ_ _ _ _ _ _ c=>⟨gN c,f0,λ_=>bE<|lD<|xL (xB T H ⟨lU⟩<|xA (xO<|xU b e<|xA xV<|xA xV XP) XP)<|xL (xU b e<|xA xV<|xA xV XP) Ms⟩)<|s1 (sR<|xT T H ⟨jD⟩<|xA (xO<|by exact xC (N':=["_law_name","_law_sign"]) (BQ S) (by decide+kernel) (iS<|xB T H ⟨nD g⟩<|xA xV XP) λ_ _ _ _ _ _ c=>⟨gT (gN c)<|gN c,f0,λ_=>bE xW⟩) XP) s0)
abbrev rX:Stmt:=top 59
abbrev se(Z:ZZ)(k:Nat):Prop:=Oz Z k "_law_riddle_of" ["_law_state_here","_law_names"] mw
theorem yZ(a:AZ Z "_law_riddle_of" rX)(T:Tx Z.mg)(d:mf Z k)(m:rn Z k)(l:qr Z k)(j:mr Z k):se Z (k+1):=by refine CL (N:=["_law_state_here","_law_names","_law_most","_law_some","_law_turn","_law_turning_here","_law_fresh","_law_clause_here"]) a Ec λf n A e s U E L p b i h g o c=>?_;exact(s1 (sI (kx ⟨jL i⟩ xV<|xO x3) (s1 (sR<|lD<|xL x3<|xL (lD Ms) Ms) s0) s0)<|s1 (sS c<|NR (xO<|nF<|xL x3<|xL x3<|xL x3 Ms)<|xO<|xU d b<|xA xV<|xA (xO x3) XP)<|s1 (sS c x7)<|s1 (sF (MD T<|xA (xO<|xU d b<|xA xV<|xA (xO<|kh ⟨jZ⟩ xV<|xO x3) XP) XP) (gN c)<|s1 (sDP h xV x2<|xO<|xU m b<|xA xV<|xA xV XP) s0)<|s1 (sS c<|xU l b<|xA xV<|xA xV XP)<|s1 (sS c<|kh ⟨Qu⟩ (xO<|xT T H ⟨aft H⟩<|xA xV XP)<|xO<|NR (xO<|nF<|xL x3<|xL x3 Ms)<|xO<|xU d b<|xA xV<|xA (xO x3) XP)<|s1 (sW (kx ⟨nj i⟩ xV<|xO<|nF Ms)<|s1 (sS c<|xU j b<|xA (xO<|aat xV)<|xA xV XP)<|s1 (sI (kx ⟨afV g⟩ xV xV) (s1 (sDP h xV x2 xV)<|s1 (sE<|AW xV xW) s0) s0) s0)<|s1 (sR<|lD<|xL xW<|xL (xT T H ⟨jD⟩<|xA (xO<|acw (xO (xB T H ⟨aeO H g⟩ (xA xV XP))) (xO x3)) XP) Ms) s0)
abbrev wC:Stmt:=top 60
abbrev Bz(Z:ZZ)(k:Nat):Prop:=Oz Z k "_law_mets" ["_law_steps_here"] uh
theorem ae6(a:AZ Z "_law_mets" wC)(T:Tx Z.mg):Bz Z (k+1):=by have S:VP ["_law_steps_here","_law_found","_law_i","_law_one","_law_why","_law_j","_law_other","_law_reason","_law_name","_law_both","_law_clause_here"] ["_law_steps_here"] (ir wC):=Ec;refine CL a S λf i A d s U E L g m c j e l b=>?_;exact(s1 (sS b<|nF Ms)<|s1 (sF (iE T xW) (gT (gN b)<|gT (gN b)<|gN b)<|s1 (sF (iE T xW) (gT (gN b)<|gT (gN b)<|gN b)<|s1 (sF (iS<|by exact xC (N':=["_law_other","_law_sign"]) (BQ S) (by decide+kernel) (iS xW) λ_ _ _ _ _ _ b=>⟨gN b,f1<|tW<|Co (kx ⟨og (.inr<|.inr<|.inl H) c⟩ xV<|xO x3)<|vw<|kx ⟨yW c⟩ (xO<|pA xV) xV,λ_=>bE xW⟩) (gN b)<|s1 (sS b<|by exact xC (N':=["_law_name","_law_sign"]) (BQ S) (by decide+kernel) (iS xW) λ_ _ _ _ _ _ b=>⟨gN b,f1<|kx ⟨nj c⟩ xV xV,λ_=>bE xW⟩)<|s1 (sS b<|xB T H ⟨yh H e⟩<|xA (xO<|xT T H ⟨agX H⟩<|xA (xO<|kh ⟨jZ⟩ xV<|xO<|by exact xC (N':=["_law_name","_law_sign"]) (BQ S) (by decide+kernel) (iS xW) λ_ _ _ _ _ _ b=>⟨gN b,f1 (kx ⟨nj c⟩ xV (xO (pA xV))),λ_=>bE xW⟩) XP) XP)<|s1 (sI (A2<|pY<|xB T H ⟨DO H⟩<|xA (xO<|by exact xC (N':=["_law_both","_law_sign"]) (BQ S) (by decide+kernel) (iS xW) λ_ _ _ _ _ _ b=>⟨gN b,f0,λ_=>bE<|oG ⟨yW c⟩ (xO<|pA xV) xV⟩) XP) (s1 (sS b<|xT T H ⟨jD⟩<|xA (xO<|by exact xC (N':=["_law_far","_law_sign"]) (BQ S) (by decide+kernel) (iS<|xB T H ⟨nD e⟩<|xA (xO<|by exact xC (N':=["_law_sign"]) (BQ S) (by decide+kernel) (iS xW) λ_ _ _ _ _ _ b=>⟨gN b,f0,λ_=>bE (lD (xL (xB T H ⟨lU⟩ (xA xV XP)) (xL xW Ms)))⟩) XP) λ_ _ _ _ _ _ b=>⟨gT (gN b)<|gN b,f0,λ_=>bE xW⟩) XP)<|s1 (sE<|AW xV<|lD<|xL xW<|xL (lD<|xL x4 (xL xW (xL xW (xL xW Ms)))) Ms) s0) s0) s0) s0) s0)<|s1 (MT λh=>absurd (g _ h)<|by decide) s0)
abbrev wB:Stmt:=top 61
abbrev By(Z:ZZ)(k:Nat):Prop:=Oz Z k "_law_more" ["_law_state_here","_law_names","_law_clause_here"] ug
theorem ae5(a:AZ Z "_law_more" wB)(T:Tx Z.mg)(e:mf Z k):By Z (k+1):=by have S:VP ["_law_state_here","_law_names","_law_clause_here","_law_rest","_law_sign"] ["_law_state_here","_law_names","_law_clause_here"] (ir wB):=Ec;refine CL a S λf i A d s U E L m g c j h l b=>?_;exact(s1 (sC (N':=["_law_clause_here","_law_name"]) b (BQ S) (by decide+kernel) (Mf T<|xA (xO x3)<|xA (xO<|kh ⟨jZ⟩ xV<|xO x3) XP) λ_ _ _ _ _ _ b=>⟨gN b,f1<|tW<|Co (kx ⟨mq c⟩ xV xV)<|vw<|kx ⟨mq c⟩ (xO<|pA xV) xV,λ_=>bE xW⟩)<|s1 (sI (kx ⟨jL c⟩ xV<|xO<|nF Ms) (s1 (sR xW) s0) s0)<|s1 (sS b<|kh ⟨mJ⟩ (xO<|NR xV<|xO<|xU e g<|xA xV<|xA (xO<|xB T H ⟨iN⟩<|xA xV XP) XP)<|xO<|NR (xO<|nF<|xL x3<|xL (pA<|xO x3) Ms)<|xO<|xU e g<|xA xV<|xA (xO x3) XP)<|s1 (sR<|xT T H ⟨jD⟩<|xA (xO<|by exact xC (N':=["_law_far","_law_one"]) (BQ S) (by decide+kernel) (iS<|xB T H ⟨nD h⟩<|xA (xO<|by exact xC (N':=["_law_one"]) (BQ S) (by decide+kernel) (iS<|kh ⟨jZ⟩ xV<|xO<|lD (xL xW Ms)) λ_ _ _ _ _ _ b=>⟨gN b,f0,λ_=>bE<|lD<|xL (xB T H ⟨lU⟩<|xA xV XP)<|xL xW Ms⟩) XP) λ_ _ _ _ _ _ b=>⟨gT (gN b)<|gN b,f0,λ_=>bE xW⟩) XP) s0)
abbrev zG:Stmt:=top 62
abbrev zL(Z:ZZ)(k:Nat):Prop:=Oz Z k "_law_steps" ["_law_state_here","_law_riddle","_law_likes","_law_most"] nU
theorem aeH(a:AZ Z "_law_steps" zG)(T:Tx Z.mg)(g:mf Z k)(b:Bz Z k)(j:mr Z k)(c:By Z k):zL Z (k+1):=by refine CL (N:=["_law_state_here","_law_riddle","_law_likes","_law_most","_law_steps_here","_law_turn","_law_kind","_law_mets_here","_law_number","_law_at","_law_like"]) a Ec λf l A i s U E L p d h n m o e=>?_;exact(s1 (sS e<|nF Ms)<|s1 (sF (MD T<|xA (xO<|kh ⟨mJ⟩ (xO<|kh ⟨jZ⟩ (xO x3)<|xO<|xU g d<|xA xV<|xA xV XP)<|xO<|xT T H ⟨DM⟩<|xA (xO<|oG ⟨nj h⟩ (xO<|NR xV<|xO x3)<|xO<|lD Ms) XP) XP) (gN e)<|s1 (sS e<|xU g d<|xA xV<|xA (xO x3) XP)<|s1 (sS e<|xUB b d<|xA xV XP)<|s1 (sI (tW<|Jb (kx ⟨jL h⟩ xV<|xO<|nF Ms)<|Ga<|kx ⟨jL h⟩ xV<|xO x3) (s1 (sS e<|xU g d<|xA xV<|xA (xO<|xB T H ⟨iN⟩<|xA (xO<|NR xV<|xO x3) XP) XP)<|s1 (sE<|AW xV<|lD<|xL (NR (xO<|NR xV<|xO x3) xV)<|xL (lD<|xL x4<|xL xW Ms) Ms)<|s1 sCn s0) s0)<|s1 (sS e<|xU g d<|xA xV<|xA (xO<|xB T H ⟨iN⟩<|xA xV XP) XP)<|s1 (sI (kx ⟨jL h⟩ xV<|xO x3) (s1 (sS e<|NR xV<|xO<|xU g d<|xA xV<|xA (xO<|xB T H ⟨iN⟩ (xA xV XP)) XP)<|s1 (sE<|AW xV<|lD<|xL (xU j d<|xA (xO<|NR (xO (NR xV xV)) (xO x3))<|xA xV XP)<|xL (lD<|xL x4 (xL xW (xL xW Ms))) Ms) s0)<|s1 (sI (kx ⟨jL h⟩ xV<|xO x3) (s1 (sE<|AW xV<|lD<|xL (xU c d<|xA xV<|xA (xO (NR xV (xO x3))) (xA (xO (NR (xO (NR xV xV)) (xO x3))) XP))<|xL (lD<|xL x4 (xL xW Ms)) Ms) s0)<|s1 (sI (kx ⟨nj h⟩ xV<|xO<|nF Ms) (s1 (sE<|AW xV<|NR xV<|xO<|xU g d (xA xV (xA (xO (xB T H ⟨iN⟩ (xA xV XP))) XP))) s0) s0) s0) s0) s0)<|s1 (sR<|xT T H ⟨jD⟩<|xA xV XP) s0)
abbrev mK:Stmt:=top 63
abbrev pK(Z:ZZ)(k:Nat):Prop:=Oz Z k "_law_clause_right" ["_law_state_here","_law_riddle","_law_likes","_law_clause_here"] lj
theorem uZ(a:AZ Z "_law_clause_right" mK)(T:Tx Z.mg)(j:uM Z k)(b:Bw Z k)(q:uN Z k)(p:qr Z k)(m:QK Z k)(i:mr Z k)(g:wN Z k)(l:mf Z k):pK Z (k+1):=by have S:VP ["_law_state_here","_law_riddle","_law_likes","_law_clause_here","_law_found","_law_paper","_law_names","_law_barred","_law_turning_here","_law_like","_law_more_here"] ["_law_state_here","_law_riddle","_law_likes","_law_clause_here"] (ir mK):=Ec;refine CL a S λf r A h s U E L u c e t n o d=>?_;exact(s1 (sS d<|xU j c<|xA xV<|xA xV XP)<|s1 (sS d<|xU b c<|xA xV<|xA xV XP)<|s1 (sI (kx ⟨nj e⟩ (xO<|oG ⟨yV⟩ xV<|xO x1)<|xO<|oG ⟨yV⟩ xV<|xO x2) (s1 (sR x2) s0) s0)<|s1 (sS d<|NR xV<|xO x3)<|s1 (sS d<|lD<|xL xW<|xL (xT T H ⟨jD⟩<|xA (xO<|xB T H ⟨aeW H n⟩<|xA (xO<|xT T H ⟨agY H o⟩<|xA (xO (kh ⟨jZ⟩ (xO (NR xV (xO x3))) (xO (xT T H ⟨jD⟩ (xA (xO (by exact xC (N':=["_law_sign"]) (BQ S) (by decide+kernel) (iS xW) λ_ _ _ _ _ _ d=>⟨gN d,f0,λ_=>bE (lD (xL (pA xV) Ms))⟩)) XP))))) XP) XP) XP) Ms)<|s1 (sI (tW<|Co (kx ⟨og (.inl H) e⟩ (xO<|xB T H ⟨iN⟩<|xA (xO<|NR xV<|xO x3) XP)<|xO x3)<|vw<|kx ⟨nj e⟩ (xO<|oG ⟨jL e⟩ (xO<|xU q c<|xA xV XP)<|xO<|nF Ms) xV) (s1 (sR x2) s0) s0)<|s1 (sS d<|xU p c<|xA xV<|xA xV XP)<|s1 (sI (kx ⟨nj e⟩ (xO<|xU j c<|xA (xO<|xU m c<|xA xV<|xA xV XP)<|xA (xO<|xU i c<|xA xV (xA xV XP)) XP) xV) (s1 (sR x2) s0) s0)<|s1 (sI (tW<|Jb (kx ⟨yV⟩ xV<|xO x1)<|Ga<|kx ⟨og (.inr<|.inr (.inl H)) e⟩ (xO<|xB T H ⟨iN⟩ (xA xV XP))<|xO x3) (s1 (sR<|xOr (oG ⟨yV⟩ xV<|xO x1)<|HL<|xU g c<|xA xV (xA xV XP)) s0) s0)<|s1 (sS d<|NR xV<|xO<|xU l c (xA xV (xA (xO (xB T H ⟨iN⟩ (xA xV XP))) XP)))<|s1 (sS d<|kh ⟨jZ⟩ xV<|xO (lD (xL (lD (xL (xU i c (xA xV (xA xV XP))) (xL (lD (xL x4 (xL (kh ⟨nZ⟩ (xO (xB T H ⟨iN⟩ (xA xV XP))) (xO x3)) (xL xW Ms)))) Ms))) Ms)))<|s1 (sR<|wq (oG ⟨yV⟩ (xO (xU g c (xA xV (xA xV XP)))) (xO x2)) (wq (oG ⟨jL e⟩ (xO (NR (xO (NR xV (xO (pA (xO x3))))) (xO x3))) xV) (HL (oG ⟨yV⟩ (xO (xU g c (xA xV (xA xV XP)))) (xO x2))))) s0)
abbrev KD:Stmt:=top 64
theorem YX:MO "law" KD ["_law_script"]:=λ_ _ _ _ _ _=>MP λ_=>us0 H
theorem X2{f:gU}{n:nI}(F:Ja Z.K "law" "law" KD f n)(T:Tx Z.mg)(d:zM Z k)(l:mf Z k)(b:se Z k)(c:xG Z k)(e:zL Z k)(o:wN Z k)(m:uM Z k)(p:uN Z k)(q:rn Z k)(a:pK Z k):Bs Z.P Z.w Z.K Z.mg Z.base Hz (k+1) f n ["_law_script"] (Hu Z.K vK):=by have S:VP ["_law_script","_law_k","_law_state_here","_law_riddle","_law_likes","_law_steps_here","_law_clauses"] ["_law_script"] (ir KD):=Ec;refine fnB (asg:=[1,2,3,4,5,6]) (fs:=BN) F S λf r A j s U E L x h i u t v g=>?_;exact(s1 (sF (MD T<|xA (xO<|xB T H ⟨afr H⟩<|xA (xO x3)<|xA (xO<|xB T H ⟨afK H⟩<|xA (xO<|xB T H ⟨iN⟩<|xA xV XP)<|xA (xO x3) XP) XP) XP) (gN g)<|s1 (sS g<|xU d h<|xA xV<|xA xV XP)<|s1 (sS g<|xU b h<|xA xV<|xA (xO<|NR (xO<|nF<|xL (xU l h<|xA xV<|xA (xO x3) XP)<|xL x3<|xL x3<|xL x3 Ms)<|xO<|xU l h<|xA xV<|xA (xO x3) XP) XP)<|s1 (sS g<|xU c h<|xA xV XP)<|s1 (sS g<|xU e h<|xA xV<|xA xV<|xA xV<|xA (xO x3) XP)<|s1 (sI (tW<|Co (kx ⟨nj i⟩ xV<|xO<|lD Ms)<|vw<|kx ⟨Di⟩ (xO<|xU o h<|xA xV<|xA xV XP)<|xO x2) (s1 (sR x2) s0) s0)<|s1 (sI (A2<|pY<|xB T H ⟨lT H⟩<|xA (xO<|by exact xC (N':=["_law_riddle","_law_clause_here","_law_why"]) (BQ S) (by decide+kernel) (iS xW) λ_ _ _ _ _ _ g=>⟨gT (gN g)<|gN g,f0,λ_=>bE<|xU m h<|xA xV (xA xV XP)⟩) XP) (s1 (sR x2) s0) s0)<|s1 (sI (kx ⟨nj i⟩ (xO<|xU m h<|xA xV<|xA (xO<|lD Ms) XP)<|xO<|oG ⟨jL i⟩ (xO<|xU p h<|xA xV XP)<|xO<|nF Ms) (s1 (sR x2) s0) s0)<|s1 (sS g<|nF<|xL (lD Ms) Ms)<|s1 (sI (kx ⟨og (.inr<|.inr<|.inl H) i⟩ (xO<|NR xV<|xO x3)<|xO x3) (s1 (sS g<|kh ⟨jZ⟩ xV<|xO<|by exact xC (N':=["_law_state_here","_law_riddle","_law_turn"]) (BQ S) (by decide+kernel) (MD T (xA (xO x3) XP)) λ_ _ _ _ _ _ g=>⟨gN g,f0,λ_=>bE (xU q h (xA xV (xA (xO (NR xV (xO x3))) XP)))⟩) s0) s0)<|s1 (sI (A2<|pY<|xB T H ⟨lT H⟩ (xA (xO (by exact xC (N':=["_law_state_here","_law_riddle","_law_likes","_law_clause_here"]) (BQ S) (by decide+kernel) (iS xW) λ_ _ _ _ _ _ g=>⟨gN g,f0,λ_=>bE (xU a h (xA xV (xA xV (xA xV (xA xV XP)))))⟩)) XP)) (s1 (sR x2) s0) s0) s0)<|s1 (sR x2) s0)
end
def all_mk{l:ej}{w:iu}{K:iA}{a:mB}{fa:gU}(fX:a "law"=zx (.ref fa))(T:Tx a)
  (a0:Fz K a "is_whole" Be)
  (a1:Fz K a "is_number" zI)
  (a2:Fz K a "is_bit" Gz)
  (a3:Fz K a "is_name" De)
  (a4:Fz K a "is_sign" Dc)
  (a5:Fz K a "is_pair" Dd)
  (a6:Fz K a "is_rising" tQ)
  (a7:Fz K a "is_clause" tR)
  (a8:Fz K a "is_answer" tU)
  (a9:Fz K a "is_so" KG)
  (a10:Fz K a "keeps_clause" pE)
  (a11:Fz K a "keeps" EF)
  (a12:Fz K a "all_answers" qq)
  (a13:Fz K a "answers" yS)
  (a14:Fz K a "answers_against" ni)
  (a15:Fz K a "is_turning" rl)
  (a16:Fz K a "check_turning" rY)
  (a17:Fz K a "led_sign" Bb)
  (a18:Fz K a "led_clause" rh)
  (a19:Fz K a "led" Py)
  (a20:Fz K a "is_likeness" vB)
  (a21:Fz K a "all_signs" tV)
  (a22:Fz K a "longer_by_one" oI)
  (a23:Fz K a "leading_among" oJ)
  (a24:Fz K a "all_leading" vC)
  (a25:Fz K a "likenesses" xw)
  (a26:Fz K a "may_be_shown" tN)
  (a27:Fz K a "is_place" Bf)
  (a28:Fz K a "met" Px)
  (a29:Fz K a "is_given" Bh)
  (a30:Fz K a "is_met" Gx)
  (a31:Fz K a "is_led" Gy)
  (a32:Fz K a "is_wide" yR)
  (a33:Fz K a "is_why" Gw)
  (a34:Fz K a "is_step" C9)
  (a35:Fz K a "is_paper" Bg)
  (a36:Fz K a "follows" Df)
  (a37:Fz K a "first_against" oK)
  (a38:Fz K a "add_steps" ot)
  (a39:Fz K a "paper_of" wA)
  (a40:Fz K a "_law_cell_at" vA)
  (a41:Fz K a "_law_state" zH)
  (a42:Fz K a "_law_take" Bc)
  (a43:Fz K a "_law_turning" vz)
  (a44:Fz K a "_law_led_sign" tP)
  (a45:Fz K a "_law_clause" rk)
  (a46:Fz K a "_law_led_clause" nN)
  (a47:Fz K a "_law_riddle_of" rX)
  (a48:Fz K a "_law_mets" wC)
  (a49:Fz K a "_law_more" wB)
  (a50:Fz K a "_law_steps" zG)
  (a51:Fz K a "_law_clause_right" mK)
  (a52:Fz K a "law" KD)
  (k8:∃t,a "MOST_SIGNS"=zx (.int 5 t))
  (k7:∃t,a "MOST_STEPS"=zx (.int 200 t))
  :∃m:nI,(∀(s:hJ)(v:il),d9 s m ⟨[v],[]⟩ [("_law_script",v)])/\∀base:iJ,K.In base->base.Ns ap a->Bs l.prog w K a base Hz 14 fa m ["_law_script"] (Hu K vK):=by
 obtain⟨m,F,hb⟩:=J1 a52 fX YX;refine⟨m,hb,λbase KB _=>?_⟩
 let z:ZZ:=⟨l.prog,w,K,a,base⟩
 have O0:=ae7 z 0 a0 T;have n:=aeK z 1 a1 T O0.up;have O2:=agk z 2 a2 T n.up;have O3:=af1 z 2 a3 T n.up;have O4:=afZ z 3 a4 T O0.up O3.up;have O5:=af0 z 0 a5 T;have O6:=aeJ z 0 a6 T;have O7:=aeL z 4 a7 T k8 O4.up O6.up;have O8:=aeM z 3 a8 T O2.up;have O9:=Qz z 0 a9 T;have c:=ad5 z 1 a10 T O9.up;have o:=Qy z 4 a11 T O8.up c.up;have p:=aej z 0 a12 T;have gM:=afw z 5 a13 T p.up o.up;have q:=wK z 6 a14 T gM.up c.up;have d:=aeC z 4 a15 T O4.up;have r:=zb z 5 a16 T d.up;have u:=ae3 z 0 a17 T;have gL:=aeA z 1 a18 T u.up;have e:=X1 z 6 a19 T r.up gL.up;have x:=aeh z 7 a20 T d.up e.up;have y:=aeN z 0 a21 T;have A:=yX z 1 a22 T y.up;have B:=yY z 2 a23 T A.up gL.up;have C:=aei z 3 a24 T B.up;have E:=aez z 4 a25 T C.up;have f:=ad3 z 5 a26 T O7.up;have k:=ae8 z 2 a27 T n.up;have g:=XZ z 0 a28 T;have H:=afa z 3 a29 T k.up;have I:=agi z 3 a30 T k.up O3.up g.up;have L:=agj z 8 a31 T k.up x.up gL.up;have O:=afX z 3 a32 T k.up;have Q:=agh z 9 a33 T H.up O.up L.up I.up;have G:=afY z 10 a34 T O5.up f.up Q.up;have h:=ae9 z 11 a35 T k7 G.up;have gK:=af2 z 7 a36 T f.up q.up;have J:=za z 0 a37 T;have M:=xE z 1 a38 T J.up g.up RD;have N:=ae2 z 9 a39 T gK.up M.up;have U:=aeg z 0 a40 T;have Y:=aeI z 1 a41 T U.up;have b:=ae4 z 0 a42 T;have i:=aef z 1 a43 T b.up;have D:=ad4 z 0 a44 T;have j:=aeB z 1 a45 T b.up;have Z:=xD z 1 a46 T D.up;have P:=yZ z 2 a47 T b.up j.up i.up Z.up;have R:=ae6 z 0 a48 T;have S:=ae5 z 1 a49 T b.up;have V:=aeH z 2 a50 T b.up R.up Z.up S.up;have X:=uZ z 12 a51 T gK.up N.up gM.up i.up e.up Z.up h.up b.up;exact X2 z 13 F T Y.up b.up P.up E.up V.up h.up gK.up gM.up j.up X.up
end K64
namespace PV
open L2 PX
@[simp] theorem adj(d:D)(δ:Dn):fC d δ=J ((d,Y),δ):=rfl
@[simp] theorem Xf(f:F)(δ:Dn):hC f δ=(f δ).bind λp=>J (.val p.1,p.2):=rfl
@[simp] theorem acj(x:D×Bool)(a:Dn):gR 0 (J x::a)=J (.slot 0,J x::a):=rfl
@[simp] theorem aci(a:Sl)(x:D×Bool)(b:Dn):gR 1 (a::J x::b)=J (.slot 1,a::J x::b):=rfl
@[simp] theorem ach(a b:Sl)(x:D×Bool)(c:Dn):gR 2 (a::b::J x::c)=J (.slot 2,a::b::J x::c):=rfl
@[simp] theorem acg(a b c:Sl)(x:D×Bool)(d:Dn):gR 3 (a::b::c::J x::d)=J (.slot 3,a::b::c::J x::d):=rfl
@[simp] theorem acf(a b c d:Sl)(x:D×Bool)(e:Dn):gR 4 (a::b::c::d::J x::e)=J (.slot 4,a::b::c::d::J x::e):=rfl
@[simp] theorem ace(a b c d e:Sl)(x:D×Bool)(f:Dn):gR 5 (a::b::c::d::e::J x::f)=J (.slot 5,a::b::c::d::e::J x::f):=rfl
@[simp] theorem acd(a b c d e f:Sl)(x:D×Bool)(g:Dn):gR 6 (a::b::c::d::e::f::J x::g)=J (.slot 6,a::b::c::d::e::f::J x::g):=rfl
@[simp] theorem acb(a b c d e f g:Sl)(x:D×Bool)(h:Dn):gR 7 (a::b::c::d::e::f::g::J x::h)=J (.slot 7,a::b::c::d::e::f::g::J x::h):=rfl
@[simp] theorem aca(a b c d e f g h:Sl)(x:D×Bool)(i:Dn):gR 8 (a::b::c::d::e::f::g::h::J x::i)=J (.slot 8,a::b::c::d::e::f::g::h::J x::i):=rfl
@[simp] theorem PN(δ:Dn)(r:D×Bool):res δ (.val r)=J r.1:=rfl
@[simp] theorem ac7(x:D×Bool)(a:Dn):res (J x::a) (.slot 0)=J x.1:=rfl
@[simp] theorem ac6(a:Sl)(x:D×Bool)(b:Dn):res (a::J x::b) (.slot 1)=J x.1:=rfl
@[simp] theorem ac5(a b:Sl)(x:D×Bool)(c:Dn):res (a::b::J x::c) (.slot 2)=J x.1:=rfl
@[simp] theorem ac4(a b c:Sl)(x:D×Bool)(d:Dn):res (a::b::c::J x::d) (.slot 3)=J x.1:=rfl
@[simp] theorem ac3(a b c d:Sl)(x:D×Bool)(e:Dn):res (a::b::c::d::J x::e) (.slot 4)=J x.1:=rfl
@[simp] theorem ac2(a b c d e:Sl)(x:D×Bool)(f:Dn):res (a::b::c::d::e::J x::f) (.slot 5)=J x.1:=rfl
@[simp] theorem ac1(a b c d e f:Sl)(x:D×Bool)(g:Dn):res (a::b::c::d::e::f::J x::g) (.slot 6)=J x.1:=rfl
@[simp] theorem ac0(a b c d e f g:Sl)(x:D×Bool)(h:Dn):res (a::b::c::d::e::f::g::J x::h) (.slot 7)=J x.1:=rfl
@[simp] theorem acZ(a b c d e f g h:Sl)(x:D×Bool)(i:Dn):res (a::b::c::d::e::f::g::h::J x::i) (.slot 8)=J x.1:=rfl
@[simp] theorem Xh(g:D->Option (D×Bool))(a:FO)(b:Dn):pe g a b=(a b).bind λp=>(res p.2 p.1).bind λx=>(g x).bind λz=>J (z,p.2):=rfl
@[simp] theorem adg(g:D->D->Option (D×Bool))(a b:FO)(c:Dn):hU g a b c=(a c).bind λp=>(b p.2).bind λq=>(res q.2 p.1).bind λx=>(res q.2 q.1).bind λy=>(g x y).bind λz=>J (z,q.2):=rfl
@[simp] theorem aaV(a:Dn):kd [] a=J ([],a):=rfl
@[simp] theorem aco(f:FO)(fs:List FO)(a:Dn):kd (f::fs) a=(f a).bind λp=>(kd fs p.2).bind λq=>J (p.1::q.1,q.2):=rfl
@[simp] theorem TX(a:Dn):uX a []=J []:=rfl
@[simp] theorem Xe(a:Dn)(o:F1)(os:List F1):uX a (o::os)=(res a o).bind λd=>(uX a os).bind λl=>J (d::l):=rfl
@[simp] theorem acn(g:List D->Option (D×Bool))(fs:List FO)(a:Dn):iw g fs a=(kd fs a).bind λp=>(uX p.2 p.1).bind λb=>(g b).bind λz=>J (z,p.2):=rfl
@[simp] theorem ab8:qp []=J []:=rfl
@[simp] theorem acR(r:D×Bool)(os:List F1):qp (.val r::os)=(qp os).map (r.1:: ·):=rfl
@[simp] theorem EI(fs:List F)(δ:Dn):kH fs δ=(kd (fs.map hC) δ).bind λp=>(qp p.1).bind λa=>if (AC a)<=sizeLine then J ((.tup a,Y),p.2)else I:=rfl
@[simp] theorem adi(fs:List F)(b:Dn):qa fs b=(kd (fs.map hC) b).bind λp=>(qp p.1).bind λa=>if (AC a)<=sizeLine then J ((.lst a,C),p.2)else I:=rfl
@[simp] theorem adX(b o:Bool)(a:Dn):JY ((.bl b,o),a)=J (b,a):=rfl
@[simp] theorem ad2(f:F)(a:Dn):fT f a=(f a).bind JY:=rfl
@[simp] theorem acp(f g:FT)(a:Dn):mW f g a=(f a).bind λp=>if p.1=C then g p.2 else J (Y,p.2):=rfl
@[simp] theorem adf(f g:FT)(a:Dn):uf f g a=(f a).bind λp=>if p.1=C then J (C,p.2)else g p.2:=rfl
@[simp] theorem acm(f:FT)(a:Dn):lu f a=(f a).bind λp=>J (!p.1,p.2):=rfl
@[simp] theorem PQ(f g:F)(a:Dn):rK f g a=(f a).bind λp=>(JY p).bind λq=>if q.1=C then g q.2 else J ((.bl Y,Y),q.2):=rfl
@[simp] theorem adV(f g:F)(a:Dn):M7 f g a=(f a).bind λp=>(JY p).bind λq=>if q.1=C then J ((.bl C,Y),q.2)else g q.2:=rfl
@[simp] theorem adh(f:F)(a:Dn):YH f a=(f a).bind λp=>(JY p).bind λq=>J ((.bl (!q.1),Y),q.2):=rfl
@[simp] theorem aaU(t:FT)(f g:F)(a:Dn):Jn t f g a=(t a).bind λp=>if p.1=C then f p.2 else g p.2:=rfl
@[simp] theorem acX(a:Dn):ip a=J (.nx a):=rfl
noncomputable def nxt(g:FS):Out->Option Out
 |.nx a=>g a
 |o=>J o
@[simp] theorem ac9(g:FS)(a:Dn):nxt g (.nx a)=g a:=rfl
@[simp] theorem ac8(g:FS)(r:D×Bool)(a:Dn):nxt g (.rt r a)=J (.rt r a):=rfl
@[simp] theorem Xd(f g:FS)(δ:Dn):gZ f g δ=(f δ).bind (nxt g):=by
 unfold gZ
 cases f δ with
 |none=>rfl
 |some o=>cases o<;>rfl
@[simp] theorem ab9(f:F)(a:Dn):lq f a=(f a).bind λp=>J (.nx p.2):=rfl
@[simp] theorem acW(f:F)(a:Dn):jH f a=(f a).bind λp=>J (.rt p.1 p.2):=rfl
@[simp] theorem adQ(t:FT)(f g:FS)(a:Dn):J4 t f g a=(t a).bind λp=>if p.1=C then f p.2 else g p.2:=rfl
@[simp] theorem acV(i:Nat)(f:F)(a:Dn):jo i f a=(f a).bind λp=>if i<(AC p.2)then J (.nx<|p.2.set i<|J p.1)else I:=rfl
@[simp] theorem acU(b:Tg)(f:F)(c:Dn):Jh b f c=(f c).bind λp=>(b p.1.1 p.2).bind λa=>J (.nx a):=rfl
@[simp] theorem ad1(g:D->Option (D×Bool))(d:D):g1 g [d]=g d:=rfl
@[simp] theorem ad0(g:D->D->Option (D×Bool))(d e:D):g2 g [d,e]=g d e:=rfl
@[simp] theorem aaX(i j:Int):lP (.int i) (.int j)=J (.int<|i+j,Y):=rfl
@[simp] theorem PM(i j:Int):PX.CF (.int i) (.int j)=J (.int<|i-j,Y):=rfl
@[simp] theorem adR(i:Int):xZ (.int i)=J (.int (-i),Y):=rfl
@[simp] theorem V3(i:Int):BL (.int i)=J (.int (if i<0 then -i else i),Y):=rfl
@[simp] theorem Bj(l:List D):ud (.tup l)=J (.int<|AC l,Y):=rfl
@[simp] theorem wG(l:List D):ud (.lst l)=J (.int<|AC l,Y):=rfl
@[simp] theorem acT(l:List D):lV (.lst l)=J (.tup l,Y):=rfl
@[simp] theorem acS(l:List D):lV (.tup l)=J (.tup l,Y):=rfl
@[simp] theorem ada(l:List D):BI (.tup l)=J (.lst l,C):=rfl
@[simp] theorem adb(l:List D):BI (.lst l)=J (.lst l,C):=rfl
@[simp] theorem Xg(b:Bool):MY (.bl b)=J (.int (if b then 1 else 0),Y):=rfl
@[simp] theorem ade(b:Int):MY (.int b)=J (.int b,Y):=rfl
@[simp] theorem adT(i j:Int):RW (.int i) (.int j)=J (.int (if j>i then j else i),Y):=rfl
@[simp] theorem adS(i j:Int):RU (.int i) (.int j)=J (.int (if j<i then j else i),Y):=rfl
@[simp] theorem adU(a:List Ty)(d:D):Ff a d=J (.bl<|a.any<|IV d,Y):=rfl
@[simp] theorem PR(i j:Int):I8 (.int i) (.int j)=J (.bl<|i==j,Y):=by unfold I8;rw[ie<|by simp[D.dep]];simp[D.Q2]
@[simp] theorem aaS(i j:Int):BP (.int i) (.int j)=J (.bl (!(i==j)),Y):=by unfold BP;rw[ie<|by simp[D.dep]];simp[D.Q2]
@[simp] theorem adW(i j:Bool):I8 (.bl i) (.bl j)=J (.bl<|i==j,Y):=by unfold I8;rw[ie<|by simp[D.dep]];simp[D.Q2]
@[simp] theorem KO(i j:Bool):BP (.bl i) (.bl j)=J (.bl (!(i==j)),Y):=by unfold BP;rw[ie<|by simp[D.dep]];simp[D.Q2]
@[simp] theorem aaT(i j:Int):pP .Lt (.int i) (.int j)=J (.bl<|decide<|i<j,Y):=by simp[pP,nG,lE,D.dep]
@[simp] theorem adY(i j:Int):pP .LtE (.int i) (.int j)=J (.bl<|decide<|i<=j,Y):=by simp[pP,nG,lE,D.dep]
@[simp] theorem TZ(i j:Int):pP .Gt (.int i) (.int j)=J (.bl<|decide<|i>j,Y):=by simp[pP,nG,lE,D.dep]
@[simp] theorem adZ(i j:Int):pP .GtE (.int i) (.int j)=J (.bl<|decide<|i>=j,Y):=by simp[pP,nG,lE,D.dep]
@[simp] theorem TY(f:F)(δ:Dn):jb f δ=(f δ).bind λp=>match p.1.1 with|.lst l=>J (l,p.2)|.tup l=>J (l,p.2)|_=>I:=rfl
@[simp] theorem acY(b:B0)(c:Tg)(a:FS)(d:Dn):qJ b c a d=(b d).bind λp=>pZ c a p.1 p.2:=rfl
@[simp] theorem uI(a:Dn):je a=J (C,a):=rfl
@[simp] theorem uJ(f:F)(a:List D)(b:Dn):jn f a b=(f b).bind λp=>if (AC a)<sizeLine then J (a++[p.1.1],p.2)else I:=rfl
def nX(h:n<=10000):n<=sizeLine:=by rw[jP];lia
def uG(h:n<=10000):n<sizeLine:=by rw[jP];lia
noncomputable abbrev enc(t:gY):D×Bool:=(.tup<|t.map .int,Y)
noncomputable abbrev ii(n:Int):Sl:=J (.int n,Y)
abbrev eN(t:gY):Sl:=J<|enc t
noncomputable abbrev pI(n:Int):D×Bool:=(.int n,Y)
noncomputable abbrev pS(a:Int)(b:Bool):D×Bool:=(.lst [.int a,.bl b],C)
def Jc(i:Nat):([i]:List Nat).Nodup:=by simp
noncomputable abbrev SS(a:Int)(b:Bool):Sl:=J (.lst [.int a,.bl b],C)
noncomputable abbrev IX(l:gY):Sl:=J (.lst<|l.map .int,C)
@[simp] theorem ack(b:OO)(fs:List FO)(c:Dn):hW b fs c=(kd fs c).bind λp=>(jS p.2 p.1).bind λa=>if(iD p.1 a).Nodup then(b a).bind λq=>J (q.1,wb p.1 a q.2 p.2)else I:=rfl
@[simp] theorem Mt(a:Dn):jS a []=J []:=rfl
@[simp] theorem aaW(b:Dn)(o:F1)(os:List F1):jS b (o::os)=(yt b o).bind λa=>(jS b os).bind λl=>J (a::l):=rfl
@[simp] theorem adk(a:Dn)(r:D×Bool):yt a (.val r)=J (r.1,Y):=rfl
@[simp] theorem adl(a:Dn)(i:Nat):yt a (.slot i)=(a[i]?).join:=rfl
def uD(a:Int)(b:Bool)(m:Int)(c:0<m)(d:m<1073741824):
  ∃v e,0<=v/\v<m/\jd [pS a b,pI m]=J ((.int v,Y),[J (.lst [.int e,.bl b],C),ii m]):=by
 cases b
 .have h1:∀x:Int, -18446744073709551616<x%2147483647/\x%2147483647<18446744073709551616:=λx=>by lia
  have f:∀x:Int, -18446744073709551616<x%2147483629/\x%2147483629<18446744073709551616:=λx=>by lia
  simp only[jd,ue];simp[Q1,N2,G5,EO,CD,gI,RY,ox,RQ,wD,nY,iT,iD,wb,Nt,FL,CG,c,d,h1,f];exact⟨Ig _ (by lia),Ih _ c⟩
 simp only[jd,ue];simp[Q1,N2,G5,EO,CD,gI,RY,ox,RQ,wD,nY,iT,iD,wb,Nt,FL,CG,c,d];exact⟨Ig _ (by lia),Ih _ c⟩
theorem oj(x y:Int):(x==y)=decide (x=y):=rfl
def mG{g:List D->Option (D×Bool)}{fs:List FO}{δ a:Dn}{os:List F1}{ds:List D}{z:D×Bool}(h1:kd fs δ=J (os,a))(b:uX a os=J ds)(c:g ds=J z):iw g fs δ=J (z,a):=by unfold iw;rw[h1];simp only[jj];rw[b];simp only[jj];rw[c];rfl
def jg(h1:(AC args)=np/\np<=n/\(args.zipIdx.all λp=>!(p.1.2&&asg.contains p.2))=C)(a:f (args.map J++ac (n-np) I)=J (.rt r δ)):Q1 n np asg f args=J (r,iT args δ):=by unfold Q1;rw[ie h1,a]
def gX(h:f δ=J (.nx δ1)):gZ f g δ=g δ1:=by unfold gZ;rw[h];rfl
def iz{r}(h:f δ=J (.rt r δ1)):gZ f g δ=J (.rt r δ1):=by unfold gZ;rw[h];rfl
def jm{r}(h:f δ=J (r,δ1)):jH f δ=J (.rt r δ1):=by unfold jH;rw[h];rfl
def iY{r}(h:f δ=J (r,δ1))(a:i<AC δ1):jo i f δ=J (.nx<|δ1.set i<|J r):=by unfold jo;rw[h];simp only[jj];rw[ie a]
def jk(h:f δ=J ((.bl b,o),δ1)):fT f δ=J (b,δ1):=by unfold fT;rw[h];rfl
def iq{r}(h:f δ=J (r,δ1)):hC f δ=J (.val r,δ1):=by unfold hC;rw[h];rfl
def jQ(h1:fa δ=J (o1,δ1))(a:fb δ1=J (o2,δ2))(b:res δ2 o1=J x)(c:res δ2 o2=J y)(d:g x y=J z):hU g fa fb δ=J (z,δ2):=by unfold hU;rw[h1];simp only[jj];rw[a];simp only[jj];rw[b,c];simp only[jj];rw[d];rfl
def jr{b:OO}{fs:List FO}{δ δ1:Dn}{os:List F1}{args:List (D×Bool)}{r:D×Bool}{a:Dn}(h1:kd fs δ=J (os,δ1))(c:jS δ1 os=J args)(d:(iD os args).Nodup)(e:b args=J (r,a)):hW b fs δ=J (r,wb os args a δ1):=by unfold hW;rw[h1];simp only[jj];rw[c];simp only[jj];rw[ie d,e];rfl
def wV(h:f δ=J (Y,δ1)):uf f g δ=g δ1:=by unfold uf;rw[h];rfl
def Sb(h:f δ=J (C,δ1)):uf f g δ=J (C,δ1):=by unfold uf;rw[h];rfl
def kM(h:f δ=J (b,δ1)):lu f δ=J (!b,δ1):=by unfold lu;rw[h];rfl
def lY(h:t δ=J (Y,δ1)):J4 t f g δ=g δ1:=by unfold J4;rw[h];rfl
def mD(h:t δ=J (C,δ1)):J4 t f g δ=f δ1:=by unfold J4;rw[h];rfl
def mP{fa fb:FO}{δ δ1 δ2:Dn}{o1 o2:F1}(h1:fa δ=J (o1,δ1))(a:fb δ1=J (o2,δ2)):kd [fa,fb] δ=J ([o1,o2],δ2):=by simp only[kd];rw[h1];simp only[jj];rw[a];rfl
def oP{fa:FO}{δ δ1:Dn}{o1:F1}(h1:fa δ=J (o1,δ1)):kd [fa] δ=J ([o1],δ1):=by simp only[kd];rw[h1];rfl
def mI(h:fi δ=J (ds,δ1)):qJ fi tg fb δ=pZ tg fb ds δ1:=by unfold qJ;rw[h];rfl
def mO{os}(h1:fa δ=J (o1,δ1))(a:kd fs δ1=J (os,δ2)):kd (fa::fs) δ=J (o1::os,δ2):=by simp only[kd];rw[h1];simp only[jj];rw[a];rfl
def LH{fs:List F}{δ δ1:Dn}{os:List F1}{ds:List D}(h1:kd (fs.map hC) δ=J (os,δ1))(a:qp os=J ds)(b:(AC ds)<=sizeLine):qa fs δ=J ((.lst ds,C),δ1):=by unfold qa;rw[h1];simp only[jj];rw[a];simp only[jj];rw[ie b]
def Vg(a:gY)(k:Nat):∃c,ml [(.lst<|a.map .int,Y),pI k]=J ((.int c,Y),[J (.lst<|a.map .int,Y),ii k]):=by
 by_cases hk:k<AC a
 .refine⟨a[k],?_⟩;simp[ml,pQ,Q1,N2,G5,EO,iT,hk]
 refine⟨0,?_⟩;simp[ml,pQ,Q1,iT,hk]
def V6:RQ (.int 10) (.int 18)=ii 1000000000000000000:=by
 have:FL 10 18:=by unfold FL;decide+kernel
 show((if FL 10 18 then J (D.int (10^(18:Int).toNat))else I).map λz=>(z,Y))=_;rw[ie this];rfl
def Pg(d:gY)(k:Nat):∃a b,nv [(.lst<|d.map .int,Y),pI k]=J ((.lst [.int a,.bl b],C),[J (.lst<|d.map .int,Y),ii k]):=by
 obtain⟨c,e⟩:=Vg d k;by_cases h:c>=1000000000000000000
 .refine⟨c-1000000000000000000,C,?_⟩;simp[nv,rG,Q1,e,iD,wb,V6,h,jP,iT]
 refine⟨c%2147483647,Y,?_⟩;simp[nv,rG,Q1,e,iD,wb,V6,h,jP,iT,CD,gI]
noncomputable def st(n:Nat):List Int:=(am n).map λ(k:Nat)=>(1+(k:Int))
def WZ(n:Nat):(st n).map D.int=ja 1 n:=by simp[st,ja]
noncomputable def vE:Nat->List Int->List Int->List (List Int)
 |0,_,f=>[f]
 |k+1,r,f=>(am<|AC r).flatMap λv=>vE k (r.eraseIdx v) (f++[r.getD v 0*1])++vE k (r.eraseIdx v) (f++[r.getD v 0* -1])
theorem DF(f:Int->D):∀(l:gY)(k:Nat),(l.map f).eraseIdx k=(l.eraseIdx k).map f
 |[],k=>by simp
 |x::l,0=>by simp
 |x::l,k+1=>by simp[DF f l k]
def agb{i:Nat}{f:FO}{a δ1:Dn}{o:F1}{n l:List D}{k:Int}{j:Nat}{d:D}(b:a[i]?=J (J (.lst n,C)))(h1:f a=J (o,δ1))(c:res δ1 o=J (.int k))(e:δ1[i]?=J (J (.lst l,C)))(g: -(2^63)<=k/\k<2^63)(h:EO (AC l) k=J j)(m:l[j]?=J d):
  BW i f a=J ((d,Y),δ1.set i<|J (.lst<|l.eraseIdx j,C)):=by
 unfold BW;rw[b];simp only[];rw[h1];simp only[jj];rw[c,e];simp only[];rw[ie g,h];simp only[jj];rw[m];rfl
def rJ{i:Nat}{f:F}{δ a:Dn}{r:D×Bool}{l0 l:List D}(b:δ[i]?=J (J (.lst l0,C)))(h1:f δ=J (r,a))(c:a[i]?=J (J (.lst l,C)))(d:(AC l)<sizeLine):
  kE i f δ=J ((.T2,Y),a.set i<|J (.lst<|l++[r.1],C)):=by
 unfold kE;rw[b];simp only[];rw[h1];simp only[jj];rw[c];simp only[];rw[ie d]
def pF{r}(h:f δ=J (r,δ1)):lq f δ=J (.nx δ1):=by unfold lq;rw[h];rfl
abbrev Fj:F:=ZK
abbrev abU:F:=WJ
abbrev fbT:FS:=gZ (lq<|kE 3<|hU ox (hC Fj)<|hC abU) ip
def Xz(a:Int)(b:Bool)(n:Sl)(r f:gY)(x:Sl)(i:0<AC r)(l:(AC r)<=5):∃v c,v<AC r/\Fj [SS a b,n,IX r,IX f,x]=J ((.int<|r.getD v 0,Y),[SS c b,n,IX<|r.eraseIdx v,IX f,x]):=by
 obtain⟨v,c,d,hv,e⟩:=uD a b (AC r) (by lia) (by lia);have g:v.toNat<(AC r):=by lia
 refine⟨v.toNat,c,g,?_⟩;have h:(IX (r.eraseIdx v.toNat):Sl)=J (.lst<|(r.map D.int).eraseIdx v.toNat,C):=by rw[DF]
 rw[h];refine agb (k:=v) (δ1:=[SS c b,n,IX r,IX f,x]) H (iq (r:=(.int v,Y))<|jr (δ1:=[SS a b,n,IX r,IX f,x]) (os:=[.slot 0,.val (.int<|AC r,Y)]) (args:=[pS a b,pI<|AC r]) ?_ H (show([0]:List Nat).Nodup from by decide) e) H H ⟨by lia,by lia⟩ (j:=v.toNat) ?_ ?_
 .show J ([F1.slot 0,F1.val (D.int ((r.map D.int).length:Nat),Y)],_)=_;rw[jl]
 .unfold EO;rw[ie d,ie<|by simpa using hv]
 simp[g]
def W4(a:Int)(b:Bool)(n y z x:Sl):∃s c,(s=1\/s= -1)/\abU [SS a b,n,y,z,x]=J ((.int s,Y),[SS c b,n,y,z,x]):=by obtain⟨v,c,f,hv,e⟩:=uD a b 2 (by lia) (by lia);have d:∀δ:Dn,qa [fC<|.int 1,Oo] δ=J ((.lst [.int 1,.int (-1)],C),δ):=λδ=>rfl;refine⟨if v=0 then 1 else -1,c,by split<;>simp,?_⟩;refine jQ (δ1:=[SS a b,n,y,z,x]) (iq<|d _) (iq (δ1:=[SS c b,n,y,z,x])<|jr (δ1:=[SS a b,n,y,z,x]) (os:=[.slot 0,.val (.int 2,Y)]) (args:=[pS a b,pI 2]) H H (show([0]:List Nat).Nodup from by decide) e) H H ?_;rcases(show v=0\/v=1 by lia)with rfl|rfl<;>rfl
def Yy(a:Int)(b:Bool)(n:Sl)(r f:gY)(x:Sl)(j:0<AC r)(k:(AC r)<=5)(m:(AC f)<=5):∃v s c,v<AC r/\(s=1\/s= -1)/\fbT [SS a b,n,IX r,IX f,x]=J (.nx [SS c b,n,IX<|r.eraseIdx v,IX<|f++[r.getD v 0*s],x]):=by
 obtain⟨v,a1,hv,e⟩:=Xz a b n r f x j k;obtain⟨s,d,q,g⟩:=W4 a1 b n (IX<|r.eraseIdx v) (IX f) x;refine⟨v,s,d,hv,q,?_⟩
 have p:ox (.int<|r.getD v 0) (.int s)=ii (r.getD v 0*s):=by have:CG (r.getD v 0) s:=.inr (by lia);show((if CG (r.getD v 0) s then J (D.int<|r.getD v 0*s)else I).map λz=>(z,Y))=_;rw[ie this];rfl
 have o:(f.map D.int).length<sizeLine:=by rw[jl];exact DY m (by decide)
 have h:=rJ (i:=3) (δ:=[SS a b,n,IX r,IX f,x]) (l0:=f.map .int) H (jQ (iq e) (iq g) H H p) (l:=f.map .int) H o;refine(gX<|pF h).trans ?_;simp[ip,IX]
def abM(b:Bool)(n:Sl):∀(c:List D)(a:Int)(r f:gY)(x:Sl),AC c=AC r->AC f+AC r<=5->
  ∃g t i j,t∈vE (AC c) r f/\pZ (hG 4) fbT c [SS a b,n,IX r,IX f,x]=J (.nx [SS g b,n,IX i,IX t,j]):=by
 intro p
 induction p with
 |nil=>intro a r f x _ _;exact⟨a,f,r,x,by simp[vE],rfl⟩
 |cons d c o=>
  intro a r f x h q;simp only[kG]at h;obtain⟨v,s,a1,hv,m,e⟩:=Yy a b n r f (J (d,Y)) (by lia) (by lia) (by lia);obtain⟨g,t,i,j,k,l⟩:=o a1 (r.eraseIdx v) (f++[r.getD v 0*s]) (J (d,Y)) (by rw[DZ,ie hv];lia) (by rw[DZ,ie hv,lA];simp only[kG,vN];lia);refine⟨g,t,i,j,?_,?_⟩
  .simp only[kG,vE,Ac,oE,yv];refine⟨v,hv,?_⟩;rcases m with rfl|rfl
   .exact .inl k
   exact .inr k
  unfold pZ;rw[show hG 4 d [SS a b,n,IX r,IX f,x]=J [SS a b,n,IX r,IX f,J (d,Y)]from H];simp only[jj];rw[e];simp only[jj];exact l
def Xa(n:Nat)(b:n<=5):ME .lst C [.int 1,.int<|(n:Int)+1]=J (.lst<|(st n).map .int,C):=by
 have:n=0\/n=1\/n=2\/n=3\/n=4\/n=5:=by lia
 have h1:Cw 1 ((n:Int)+1):=by rcases this with rfl|rfl|rfl|rfl|rfl|rfl<;>decide+kernel
 have a:((n:Int)+1-1).toNat=n:=by lia
 show(if Cw 1 ((n:Int)+1)then J (D.lst<|ja 1 ((n:Int)+1-1).toNat,C)else I)=_;rw[ie h1,a,<-WZ]
def rB{f:FO}{δ δ1:Dn}{o:F1}{n:Nat}(h1:f δ=J (o,δ1))(a:res δ1 o=J (.int n))(e:n<=63):CC f δ=J (ja 0 n,δ1):=by
 have d:(-(2^62)<=(n:Int)/\(n:Int)<2^62):=⟨by lia,by lia⟩
 have b:kd [f] δ=J ([o],δ1):=by simp[kd,h1]
 have c:uX δ1 [o]=J [.int n]:=by simp[uX,a]
 unfold CC;rw[b];simp only[jj];rw[c];simp only[];rw[ie d];rfl
def A6(a:Int)(b:Bool)(n:Nat)(f:n<=5):∃d t,t∈vE n (st n) []/\nu [pS a b,pI n]=J (enc t,[SS d b,ii n]):=by
 have c:(ja 0 n).length=n:=by simp[ja]
 have h:(st n).length=n:=by simp[st]
 obtain⟨d,t,j,k,g,e⟩:=abM b (ii n) (ja 0 n) a (st n) [] I (by rw[c,h]) (by rw[h];simpa using f);rw[c]at g;refine⟨d,t,g,?_⟩;refine jg (δ:=[SS d b,ii n,IX j,IX t,k]) ⟨rfl,by decide,rfl⟩ ?_;refine(gX (δ1:=[SS a b,ii n,IX<|st n,I,I])<|iY (i:=2) (δ1:=[SS a b,ii n,I,I,I]) (mG (os:=[.val (.int 1,Y),.val (.int<|(n:Int)+1,Y)]) H H<|Xa n f) (show 2<5 by decide)).trans ?_;refine(gX (δ1:=[SS a b,ii n,IX<|st n,IX [],I]) H).trans ?_;refine(gX<|(mI<|rB (o:=.slot 1) H H<|by lia).trans e).trans ?_;exact iz<|jm<|mG (os:=[.slot 3]) H H H
def uk:∀t:List Int,D.P2 (t.map .int)=0:=by
 intro b
 induction b with
 |nil=>simp[D.P2]
 |cons s t a=>simp[D.P2,D.dep,a]
theorem BY:∀a b:List Int,D.K3 (a.map .int) (b.map .int)=decide (a=b)
 |[],[]=>by simp[D.K3]
 |[],_::_=>by simp[D.K3]
 |_::_,[]=>by simp[D.K3]
 |x::a,y::b=>by simp[D.K3,D.Q2,BY a b,kv,oj]
@[simp] theorem Dy(a b:gY):I8 (.lst<|a.map .int) (.lst<|b.map .int)=J (.bl<|decide<|a=b,Y):=by unfold I8;rw[ie<|by simp[D.dep,uk]];simp[D.Q2,BY]
def Lc:∀(l m:gY),l.Nodup->(∀x∈l,x∈m)->AC m<=AC l->l.Perm m:=by
 intro k
 induction k with
 |nil=>intro m _ _ h;have:m=[]:=Of.mp (by simpa using h);subst this;exact vS _
 |cons x l j=>
  intro m a c h;rw[Cj]at a;have g:=c x jt;have b:=HX g;refine((j (m.erase x) a.2 (λy d=>?_) ?_).cons x).trans b.symm
  .have f:=c y<|jx _ d;have i:y≠x:=λe=>a.1<|e▸d;exact(D8 i).mpr f
  have:=b.length_eq;simp only[kG]at this h
  lia
def Mi:x∈st n↔1<=x/\x<=n:=by
 simp only[st,kO,yv];constructor
 .rintro⟨k,h,rfl⟩;lia
 rintro⟨h1,a⟩;exact⟨(x-1).toNat,by lia,by lia⟩
def aaN(n:Nat):(st n).Pairwise (· < ·):=by simp only[st];rw[kP];exact Zg.imp λh=>by lia
def VX(n:Nat):(st n).Nodup:=(aaN n).imp λh=>by lia
def KS{n:Nat}{l:gY}:l.Perm (st n)↔(AC l)=n/\(∀x∈l,1<=x/\x<=n)/\l.Nodup:=by
 constructor
 .intro h;refine⟨by rw[h.length_eq];simp[st],λx a=>Mi.mp<|h.mem_iff.mp a,h.symm.nodup<|VX n⟩
 rintro⟨h1,b,c⟩;exact Lc l (st n) c (λx a=>Mi.mpr<|b x a) (by simp[st,h1])
def xS{l:gY}{m:List D}(h:m.Perm (l.map D.int)):∃k:List Int,m=k.map .int:=by
 refine⟨m.map λd=>match d with|D.int i=>i|_=>0,?_⟩;rw[ji]
 symm
 rw[oT (g:=id),rO];intro d hd;obtain⟨i,_,rfl⟩:=kO.mp<|h.mem_iff.mp hd;rfl
def zF(l:gY):nL (l.map .int)=C:=by
 unfold nL
 cases l with
 |nil=>rfl
 |cons x l=>rw[yD];right;simp only[jI];simp[lr,D.pr,D.dep,show ∀i j:Int,nG .Lt (.int i) (.int j)=J (lE .Lt i j)from λ_ _=>rfl]
def agJ:∀l:List Int,(∀k,(nM<|l.reverse.map .int).1 k=decide (k∈l.reverse))/\(nM<|l.reverse.map .int).2<=AC l/\((nM<|l.reverse.map .int).2=(AC l)↔l.Nodup):=by
 intro e
 induction e with
 |nil=>exact⟨λk=>by simp[nM],by simp[nM],by simp[nM]⟩
 |cons x l d=>
  obtain⟨h1,f,c⟩:=d;rw[List.reverse_cons,kQ,jI,sH,C7];refine⟨λk=>?_,?_,?_⟩
  .dsimp only;rw[h1 k];by_cases a:k∈l.reverse<;>by_cases b:k=x<;>simp_all
  .dsimp only;rw[kG];split<;>lia
  dsimp only;rw[h1 x,Cj];by_cases a:x∈l
  .simp only[cP,a,decide_true,kz,not_true_eq_false,false_and,iff_false,kG];lia
  simp only[cP,a,decide_false,jF,km,not_false_eq_true,true_and,kG];rw[<-c];lia
def TR(l:gY):(nM<|l.map .int).2=(AC l)↔l.Nodup:=by have:=(agJ l.reverse).2.2;rw[List.reverse_reverse,NW,AE l |>.nodup_iff]at this;exact this
def Al(pre:Dn)(x:Sl)(d:D):hG (AC pre) d (pre++[x])=J (pre++[J (d,Y)]):=by unfold hG;rw[ie<|by simp];simp[kl]
def SO(f:F)(g:D->D)(pre:Dn):∀(l a:List D)(x:Sl),(∀d∈l,∃o,f (pre++[J (d,Y)])=J ((g d,o),pre++[J (d,Y)]))->AC a+AC l<=sizeLine->
  ∃b,jK (hG<|AC pre) je (jn f) l a (pre++[x])=J (a++l.map g,pre++[b]):=by
 intro n
 induction n with
 |nil=>intro a x _ _;exact⟨x,by simp[jK]⟩
 |cons d l m=>
  intro a x h c;obtain⟨o,hd⟩:=h d jt;obtain⟨b,e⟩:=m (a++[g d]) (J (d,Y)) (λi j=>h i<|jx _ j) (by simp at c ⊢;lia);refine⟨b,?_⟩;have k:(AC a)<sizeLine:=by simp at c;lia
  rw[jK,Al];simp only[jj,uI,kz,uJ];rw[hd];simp only[jj];rw[ie k];simp only[jj];rw[e];simp
def YU(f:F)(g:D->Int)(pre:Dn):∀(l a:List D)(x:Sl),(∀d∈l,∃o,f (pre++[J (d,Y)])=J ((.int<|g d,o),pre++[J (d,Y)]))->AC a+AC l<=1000->
  ∃b,jK (hG<|AC pre) je (Cf f) l a (pre++[x])=J (a++l.map λd=>.int (g d),pre++[b]):=by
 intro n
 induction n with
 |nil=>intro a x _ _;exact⟨x,by simp[jK]⟩
 |cons d l m=>
  intro a x h c;obtain⟨o,hd⟩:=h d jt;obtain⟨b,e⟩:=m (a++[.int<|g d]) (J (d,Y)) (λi j=>h i<|jx _ j) (by simp at c ⊢;lia);refine⟨b,?_⟩;have p:fU=4096:=rfl;have k:(AC a)+1<scanBound:=by simp at c;lia
  rw[jK,Al];simp only[jj,uI,kz,Cf];rw[hd];simp only[jj];rw[ie k];simp only[jj];rw[e];simp
def DP(p:D->Bool):∀l:List D,uV (l.map λd=>.bl (p d))=J (l.map p):=by
 intro b
 induction b with
 |nil=>exact H
 |cons d l a=>simp[uV,a]
def sv(p:D->Bool)(l:List D):wQ (.lst<|l.map λd=>.bl (p d))=J (.bl<|l.all p,Y):=by simp[wQ,DP,rg,rR]
def SW(p:D->Bool)(l:List D):Hs (.lst<|l.map λd=>.bl (p d))=J (.bl<|l.any p,Y):=by simp[Hs,DP,tj,rR]
noncomputable def ab(s:Int):Int:=if s<0 then -s else s
noncomputable def wh:D->Bool
 |.int _=>C
 |_=>Y
def sg(n:Int):D->Bool
 |.int s=>decide (1<=ab s)&&decide (ab s<=n)
 |_=>Y
noncomputable def Ls:D->Int
 |.int s=>s
 |_=>0
def xm(d:D):oB [(d,Y)]=J ((.bl<|wh d,Y),[J (d,Y)]):=by
 cases d<;>simp[oB,zV,Q1,iT,wh,IV]
def uO(d:D)(lo a:Int):kX [(d,Y),(.int lo,Y),(.int a,Y)]=J ((.bl (match d with|.int s=>decide (lo<=s)&&decide (s<=a)|_=>Y),Y),[J (d,Y),J (.int lo,Y),J (.int a,Y)]):=by
 cases d with
 |int s=>by_cases h:lo<=s<;>simp[kX,rH,Q1,iT,xm,wh,iD,wb,oN,lE,h]
 |_=>simp[kX,rH,Q1,iT,xm,wh,iD,wb]
def Ld(d:D)(n:Int):nV [(.int n,Y),(d,Y)]=J ((.bl (match d with|.int s=>decide (1<=s)&&decide (s<=n)|_=>Y),Y),[J (.int n,Y),J (d,Y)]):=by simp[nV,BO,Q1,iT,uO,iD,wb]
def KA(n:Int)(d:D):mQ [pI n,(d,Y)]=J ((.bl<|sg n d,Y),[ii n,J (d,Y)]):=by
 cases d with
 |int s=>simp[mQ,wR,Q1,iT,xm,Ld,wh,iD,wb,sg,ab];rfl
 |_=>simp[mQ,wR,Q1,iT,xm,Ld,wh,iD,wb,sg,ab]
def Je(h:sg n d=C):d=.int (Ls d):=by cases d<;>simp_all [sg,Ls]
def OU(h:wh d=C):d=.int (Ls d):=by cases d<;>simp_all [wh,Ls]
def tB(n:Nat):D->Bool
 |.tup l=>decide (AC l=n)&&(l.all (sg n)&&decide ((l.map λd=>ab<|Ls d).Nodup))
 |_=>Y
def lB(n:Nat):D->Bool
 |.tup l=>l.all wh&&decide ((l.map λd=>ab<|Ls d).Perm<|st n)
 |_=>Y
def Pe(n:Nat)(d:D):tB n d=lB n d:=by
 cases d with
 |tup l=>
  rw[tB,lB,sM];simp only[la,qw,ku,KS,jl,kO];constructor
  .rintro⟨h1,a,b⟩;refine⟨λd hd=>?_,h1,?_,b⟩
   .rw[Je<|a d hd];rfl
   rintro x ⟨d,hd,rfl⟩;have:=a d hd;rw[Je this]at this;simpa[sg]using this
  rintro⟨h1,a,b,c⟩;refine⟨a,λd hd=>?_,c⟩;have:=b _ ⟨d,hd,rfl⟩;rw[OU<|h1 d hd];simpa[sg]using this
 |_=>rfl
def tL(n:Nat)(d:D)(hd:∀l,d=.tup l->AC l<=60):jW [pI n,(d,Y)]=J ((.bl<|tB n d,Y),[ii n,J (d,Y)]):=by
 cases d with
 |tup l=>
  have i:=hd l H;by_cases h1:(AC l)=n
  .obtain⟨x1,b⟩:=SO (hW mQ [gR 0,gR 1]) (λd=>.bl (sg n d)) [ii n] l [] I (λd _=>⟨Y,by simp[KA,iD,wb]⟩) (by rw[jP];simp;lia);simp only[cX,sN,kG,vN,vU]at b;by_cases a:l.all (sg n)=C
   .have h:∀d∈l,∃o,iw (g1 BL) [gR 0] ([]++[J (d,Y)])=J ((.int<|ab<|Ls d,o),([]++[J (d,Y)]:Dn)):=λd hd=>⟨Y,by rw[ku]at a;rw[Je<|a d hd];rfl⟩
    obtain⟨x2,c⟩:=YU (iw (g1 BL) [gR 0]) (λd=>ab<|Ls d) [] l [] I h (by simp;lia);simp only[cX,sN,kG,vN]at c
    have e:(nM<|l.map λd=>D.int<|ab<|Ls d).2=(AC l)↔(l.map λd=>ab<|Ls d).Nodup:=by have:=TR<|l.map λd=>ab<|Ls d;rw[ji,jl]at this;exact this
    have g:(((nM<|l.map λd=>D.int<|ab<|Ls d).2:Int)==(n:Int))=decide ((l.map λd=>ab<|Ls d).Nodup):=by
     rw[oj,<-h1];by_cases q:(l.map λd=>ab<|Ls d).Nodup
     .rw[kj q,e.mpr q];simp
     rw[kr q];simp only[decide_eq_false_iff_not,li];exact λz=>q<|e.mp z
    simp[jW,mF,Q1,IV,h1,iL,uR,iM,b,c,sv,a,iT,iD,wb,tB,g]
   have f:l.all (sg n)=Y:=by simpa using a
   simp[jW,mF,Q1,IV,h1,iL,uR,iM,b,sv,f,iT,iD,wb,tB]
  have: ¬(((AC l):Int)=(n:Int)):=by lia
  simp[jW,mF,Q1,IV,this,h1,iT,iD,wb,tB]
 |_=>simp[jW,mF,Q1,IV,iT,tB]
def OV(d:D):Prop:= ∀l,d=.tup l->AC l<=60
def ixl(a:0<=v)(h:v<L.length):N2 (.lst L) (.int v)=J (L.getD v.toNat .T2,Y):=by
 have h1:v.toNat<L.length:=by lia
 simp[N2,G5,EO,a,h,h1]
def ixt(a:0<=v)(h:v<L.length):N2 (.tup L) (.int v)=J (L.getD v.toNat .T2,Y):=by
 have h1:v.toNat<L.length:=by lia
 simp[N2,G5,EO,a,h,h1]
def Ng{t:gY}{v:Int}(a:0<=v)(h:v<AC t):N2 (.tup<|t.map .int) (.int v)=ii (t.getD v.toNat 0):=by
 have h1:v.toNat<(AC t):=by lia
 simp[N2,G5,EO,a,h,h1]
def adw{t:gY}{v:Int}(a:0<=v)(h:v<AC t):N2 (.lst<|t.map .int) (.int v)=ii (t.getD v.toNat 0):=by
 have h1:v.toNat<(AC t):=by lia
 simp[N2,G5,EO,a,h,h1]
def Np(h1:(AC l)<=1000)(a:(AC m)<=1000):lP (.tup l) (.tup m)=J (.tup<|l++m,Y):=by simp only[lP];rw[ie<|by rw[jP];lia]
def ab6(h1:(AC l)<=1000)(a:(AC m)<=1000):lP (.lst l) (.lst m)=J (.lst<|l++m,C):=by simp only[lP];rw[ie<|by rw[jP];lia]
def lX(a:Int)(b:Bool)(m:Int)(i:0<m)(j:m<1073741824):∃v c,0<=v/\v<m/\∀(d:FO)(δ:Dn)(o:F1),d (SS a b::δ)=J (o,SS a b::δ)->yt (SS a b::δ) o=ii m->hW jd [gR 0,d] (SS a b::δ)=J ((.int v,Y),SS c b::δ):=by
 obtain⟨v,c,f,h1,e⟩:=uD a b m i j;refine⟨v,c,f,h1,λd δ o g h=>?_⟩;refine(jr (os:=[.slot 0,o]) (args:=[pS a b,pI m]) (mP H g) ?_ ?_ e).trans ?_
 .simp[h]
 .cases o<;>simp[iD]
 cases o<;>simp[wb]
noncomputable def led(u:gY)(s:Int):Int:=if 0<s then u.getD (s-1).toNat 0 else -(u.getD (-s-1).toNat 0)
def Yc(u:gY)(s:Int)(a:s≠0)(h1: -((AC u):Int)<=s)(b:s<=AC u):
  oA [enc u,pI s]=J ((.int<|led u s,Y),[eN u,ii s]):=by
 simp only[oA,zU];by_cases h:0<s
 .have:=Ng (t:=u) (v:=s-1) (by lia) (by lia);simp only[Q1];simp[h,led,this,iT]
 have:=Ng (t:=u) (v:= -s-1) (by lia) (by lia);simp only[Q1];simp[h,led,this,iT]
def X6(x:Int):ox (.int x) (.int 1)=ii x:=by have:CG x 1:=.inr (by lia);show((if CG x 1 then J (D.int<|x*1)else I).map λz=>(z,Y))=_;rw[ie this,AR];rfl
def abh(x:Int):ox (.int x) (.int (-1))=ii (-x):=by have:CG x (-1):=.inr (by lia);show((if CG x (-1)then J (D.int<|x*(-1))else I).map λz=>(z,Y))=_;rw[ie this,r9,AR];rfl
theorem pm0:N2 (.lst [.int 1,.int (-1)]) (.int 0)=ii 1:=rfl
theorem pm1:N2 (.lst [.int 1,.int (-1)]) (.int 1)=ii (-1):=rfl
def UK(u:gY)(s:Int)(b:s≠0)(h1: -((AC u):Int)<=s)(c:s<=AC u):
  lh [enc u,pI s]=J ((.int<|led u s,Y),[eN u,ii s]):=by
 simp only[lh,oY];by_cases h:0<s
 .have:=Ng (t:=u) (v:=s-1) (by lia) (by lia);have a: ¬s<0:=by lia
  simp only[Q1];simp[h,a,led,this,iT,jP,pm0,X6]
 have:=Ng (t:=u) (v:= -s-1) (by lia) (by lia);have a:s<0:=by lia
 simp only[Q1];simp[h,a,led,this,iT,jP,pm1,abh]
def Gi(a:Int)(b:Bool)(m:Int)(k:0<m)(l:m<1073741824):∃v f,0<=v/\v<m/\∀(g:FO)(c d:Sl)(δ:Dn)(o:F1),g (c::d::SS a b::δ)=J (o,c::d::SS a b::δ)->yt (c::d::SS a b::δ) o=ii m->hW jd [gR 2,g] (c::d::SS a b::δ)=J ((.int v,Y),c::d::SS f b::δ):=by
 obtain⟨v,f,h,h1,e⟩:=uD a b m k l;refine⟨v,f,h,h1,λg c d δ o i j=>?_⟩;refine(jr (os:=[.slot 2,o]) (args:=[pS a b,pI m]) (mP H i) ?_ ?_ e).trans ?_
 .simp[j]
 .cases o<;>simp[iD]
 cases o<;>simp[wb]
def Sr(n:Nat)(c:gY):Prop:=c≠[]/\(c.map ab).Pairwise (· < ·)/\∀s∈c,1<=ab s/\ab s<=n
def CA(j:Int)(c:gY):Prop:=(c.map ab).Pairwise (· < ·)/\∀s∈c,1<=ab s/\ab s<j
def pX(h:0<=i):ab i=i:=by unfold ab;rw[iC<|by lia]
def FG(h:0<=i):ab (-i)=i:=by unfold ab;split<;>lia
def CA.snoc{j s:Int}{c:gY}(h:CA j c)(h1:ab s=j)(e:1<=j):CA (j+1) (c++[s]):=by
 refine⟨?_,λx a=>?_⟩
 .rw[kQ,uw];refine⟨h.1,by simp,λx a y b=>?_⟩;obtain⟨z,d,rfl⟩:=kO.mp a;simp at b;subst b;have:=h.2 z d;lia
 rcases oE.mp a with a|a
 .have:=h.2 x a;lia
 simp at a;subst a;lia
def CA.up(h:CA j c):CA (j+1) c:=⟨h.1,λx a=>by have:=h.2 x a;lia⟩
def wW{i:Nat}{f:F}{δ δ1:Dn}{r:D×Bool}{l0 l:List D}(a:δ[i]?=J (J (.lst l0,C)))(h1:f δ=J (r,δ1))(b:δ1[i]?=J (J (.lst l,C)))(c:(AC l)<=10000):
  gZ (lq<|kE i f) ip δ=J (.nx<|δ1.set i<|J (.lst<|l++[r.1],C)):=
 (gX<|pF<|rJ a h1 b<|uG c).trans rfl
def E7(h1:f δ=J (o1,δ1))(a:g δ1=J (o2,δ2))(b:res δ2 o1=J (.int i))(c:res δ2 o2=J (.int j))(d:0<=i/\i<=1000)(e:0<=j/\j<=1000):wO f g δ=J (ja i (j-i).toNat,δ2):=by unfold wO;rw[mP h1 a];simp only[jj,Xe,TX,b,c];rw[ie ⟨by lia,by lia,by lia,by lia⟩]
def nO(h:f δ=J ((.lst l,o),δ1)):jb f δ=J (l,δ1):=by unfold jb;rw[h];rfl
def JB{b:Type}[BEq b][LawfulBEq b]:∀(l m:List b),l.Nodup->(∀x∈l,x∈m)->AC l<=(AC m):=by
 intro n
 induction n with
 |nil=>intro m _ _;exact lz _
 |cons x l k=>
  intro m a c;rw[Cj]at a;have i:=c x jt;have h:=HX i
  have:=k (m.erase x) a.2 (λy d=>by have f:=c y<|jx _ d;have j:y≠x:=λe=>a.1<|e▸d;exact(D8 j).mpr f)
  have g:=h.length_eq;simp only[kG]at g ⊢
  lia
def zJ{l:gY}(h:l.Pairwise (· < ·)):l.Nodup:=h.imp λh=>by lia
def Sr.len{n:Nat}{c:gY}(h:Sr n c):(AC c)<=n:=by
 have:=JB (c.map ab) (st n) (zJ h.2.1) (λx b=>by obtain⟨s,a,rfl⟩:=kO.mp b;exact Mi.mpr<|h.2.2 s a)
 simpa[st]using this
def TOk(n:Nat)(t:gY):Prop:=AC t=n/\∀x∈t,1<=ab x/\ab x<=n
def kF(i:Int):ab (-i)=ab i:=by unfold ab;split<;>split<;>lia
def lS{l:gY}{k:Nat}(h:k<AC l):l.getD k 0∈l:=by rw[lJ,jq h];exact vO h
def Yd{n:Nat}{t:gY}(b:TOk n t){s:Int}(h1:1<=ab s)(a:ab s<=n):1<=ab (led t s)/\ab (led t s)<=n:=by
 unfold led;unfold ab at h1 a;have c:=b.1;split
 .rename_i h;rw[iC<|by omega]at h1 a;exact b.2 _ (lS<|by omega)
 rename_i h;rw[kF];split at h1
 .rw[ie<|by assumption]at a;exact b.2 _ (lS<|by omega)
 omega
noncomputable abbrev cD(c:gY):D:=.tup (c.map .int)
def qu(c:gY):D.dep (cD c)=1:=by simp[D.dep,uk]
def Fq:∀a:List (List Int),D.P2 (a.map cD)<=1:=by
 intro d
 induction d with
 |nil=>simp[D.P2]
 |cons c a b=>have:=b;simp only[jI,D.P2,qu];lia
def BZ(a b:gY):D.Q2 (cD a) (cD b)=decide (a=b):=by simp[D.Q2,BY]
def J8(c:gY):∀a:List (List Int),(a.map cD).any (λd=>D.Q2 d<|cD c)=decide (c∈a):=by
 intro f
 induction f with
 |nil=>simp
 |cons x a b=>
  simp only[jI,sO,b,BZ,kN];by_cases h:x=c
  .simp[h]
  have: ¬c=x:=λe=>h e.symm;simp[h,this]
def QN(c:gY)(a:iI):mN (cD c) (.lst<|a.map cD)=J (.bl (!decide (c∈a)),Y):=by
 have:inD (cD c) (.lst<|a.map cD)=J (decide<|c∈a):=by have hd:=Fq a;show(if D.P2 (a.map cD)<=50/\(cD c).dep<=50 then J ((a.map cD).any λd=>D.Q2 d<|cD c)else I)=_;rw[ie ⟨by lia,by rw[qu];lia⟩,J8]
 unfold mN;rw[this];rfl
noncomputable def Ci:Nat->List (List Int)
 |0=>[[]]
 |k+1=>Ci k++((Ci k).map λc=>c++[(k:Int)+1])++((Ci k).map λc=>c++[-((k:Int)+1)])
def S7:∀(k:Nat)(c:gY),(c.map ab).Pairwise (· < ·)->(∀s∈c,1<=ab s/\ab s<=k)->c∈Ci k:=by
 intro j
 induction j with
 |zero=>
  intro c _ h
  cases c with
  |nil=>simp[Ci]
  |cons s c=>have:=h s jt;lia
 |succ k f=>
  intro c b h;simp only[Ci,oE,kO];by_cases d:c=[]
  .subst d;exact .inl<|.inl<|f [] (by simp) (by simp)
  have hd:=HW d;generalize c.dropLast=i at hd;generalize c.getLast d=s at hd;subst hd;rw[kQ,uw]at b;have l:=h s (by simp);have g:∀x∈i,1<=ab x/\ab x<ab s:=λx a=>⟨(h x<|by simp[a]).1,b.2.2 (ab x) (rP a) (ab s)<|by simp⟩
  by_cases q:ab s<=k
  .refine .inl (.inl<|f _ ?_ λx a=>?_)
   .rw[kQ,uw];exact b
   rcases oE.mp a with a|a
   .have:=g x a;lia
   simp at a;subst a;lia
  have e:ab s=(k:Int)+1:=by lia
  have hk:=f i b.1 λx a=>by have:=g x a;lia
  unfold ab at e;split at e
  .exact .inr ⟨i,hk,by rw[show s= -((k:Int)+1) by lia]⟩
  exact .inl (.inr ⟨i,hk,by rw[show s=((k:Int)+1) by lia]⟩)
def ag6:∀(k:Nat)(n:Nat),n<=k->(Ci n).length<=(Ci k).length:=by
 intro b
 induction b with
 |zero=>intro n h;rw[show n=0 by lia];exact jw _
 |succ k a=>
  intro n h;by_cases e:n=k+1
  .subst e;exact jw _
  have:=a n (by lia);simp only[Ci,lA,jl];lia
def Af(n:Nat)(cs:iI):Prop:=cs.Nodup/\∀c∈cs,Sr n c
def Af.len(b:n<=5)(h:Af n cs):(AC cs)<=243:=by
 have h1:=JB cs (Ci n) h.1 λc a=>S7 n c (h.2 c a).2.1 (h.2 c a).2.2;have d:=ag6 5 n b;have e:(Ci 5).length=243:=by decide
 lia
def Af.snoc{n:Nat}{b:iI}{c:gY}(h:Af n b)(f:Sr n c)(g:c∉b):Af n (b++[c]):=by
 refine⟨?_,λx a=>?_⟩
 .rw[FV];exact⟨h.1,by simp,λx a y d e=>by simp at d;subst d;subst e;exact g a⟩
 rcases oE.mp a with a|a
 .exact h.2 x a
 simp at a;subst a;exact f
abbrev B2(cs:iI):Sl:=J (.lst<|cs.map cD,C)
noncomputable def pW(a:iI)(c:gY):List (List Int):=if c∈a then a else a++[c]
def dd(a:iI):List (List Int):=a.foldl pW []
def Vn(a:iI)(c:gY):nE (a.map cD) (cD c)=(pW a c).map cD:=by unfold nE pW;rw[show(a.map cD).any (D.Q2 · (cD c))=decide (c∈a)from J8 c a];by_cases h:c∈a<;>simp[h]
def Sy:∀(b a:iI),(b.map cD).foldl nE (a.map cD)=(b.foldl pW a).map cD:=by
 intro e
 induction e with
 |nil=>intro a;exact H
 |cons c b d=>intro a;rw[jI,oU,oU,Vn,d]
def Tb:x∈pW a c↔x∈a\/x=c:=by
 unfold pW;by_cases h:c∈a
 .rw[ie h];constructor
  .exact .inl
  rintro(h1|rfl)
  .exact h1
  exact h
 rw[iC h];simp
def aga:∀(b a:iI)(x:gY),x∈b.foldl pW a↔x∈a\/x∈b:=by
 intro e
 induction e with
 |nil=>intro a x;simp
 |cons c b d=>intro a x;rw[oU,d,Tb,kN,or_assoc]
def Vo(h:f.Nodup):(pW f c).Nodup:=by
 unfold pW;split
 .exact h
 rename_i b;rw[FV];exact⟨h,by simp,λx d y a e=>by simp at a;subst a;subst e;exact b d⟩
def R5:∀(b a:iI),a.Nodup->(b.foldl pW a).Nodup:=by
 intro e
 induction e with
 |nil=>intro a h;exact h
 |cons c b d=>intro a h;rw[oU];exact d _ (Vo h)
def Bl:∀l:List Int,D.GS (l.map .int)=C:=by
 intro b
 induction b with
 |nil=>simp[D.GS]
 |cons x l a=>simp[D.GS,D.pr,a]
def X3(c:gY):Fi (cD c)=C:=by simp[Fi,Bl,uk]
def QD(a:iI):(a.map cD).all Fi=C:=by rw[ku];intro d hd;obtain⟨c,_,rfl⟩:=kO.mp hd;exact X3 c
theorem DJ(c:bZ):∀a b:List Int,(rM c (a.map .int)<|b.map .int).isSome=C
 |[],b=>by simp[rM]
 |x::a,[]=>by simp[rM]
 |x::a,y::b=>by
  simp only[jI,rM];split
  .exact DJ c a b
  simp[nG]
def qG(cs:iI)(h:∀c∈cs,c≠[]):nL (cs.map cD)=C:=by
 have hk:∀c:List Int,c≠[]->lr (cD c)=J 1:=λc g=>by
  cases c with
  |nil=>exact absurd H g
  |cons=>rfl
 unfold nL
 cases cs with
 |nil=>rfl
 |cons c cs=>
  rw[yD];right;simp only[jI];rw[la,la,hk c<|h c jt];refine⟨⟨rfl,?_⟩,?_⟩
  .rw[ku];intro d hd;rw[<-jI (f:=cD)]at hd;obtain⟨x,b,rfl⟩:=kO.mp hd;rw[hk x<|h x b,qu];simp[D.pr,Bl]
  rw[ku];intro d hd;rw[ku];intro e a;rw[<-jI (f:=cD)]at hd a;obtain⟨x,b,rfl⟩:=kO.mp hd;obtain⟨y,i,rfl⟩:=kO.mp a;rw[nG,ie H];exact DJ _ _ _
def Hd:D->List Int
 |.tup l=>l.map Ls
 |_=>[]
def oH(c:gY):Hd (cD c)=c:=by simp only[Hd,ji];rw[oT (g:=id),rO];intro x _;rfl
def B9(h:m.Perm (cs.map cD)):∃a:List (List Int),m=a.map cD/\a.Perm cs:=by
 refine⟨m.map Hd,?_,?_⟩
 .rw[ji]
  symm
  rw[oT (g:=id),rO];intro d hd;obtain⟨c,_,rfl⟩:=kO.mp<|h.mem_iff.mp hd;simp only[aW,oH];rfl
 have:=h.map Hd;rw[ji]at this;rw[show ef (Hd∘cD) cs=ef id cs from oT λc _=>oH c,rO]at this;exact this
def Fl(c:iI):Prop:=c.Pairwise λa b=>A1 (cD b) (cD a)=Y
def acP{n:Nat}{a:iI}(j:∀c∈a,Sr n c)(l:(AC a)<500):∃k b:List (List Int),Af n b/\Fl b/\(∀c,c∈b↔c∈a)/\(AC b)<=AC a/\U0 (.lst<|a.map cD)=J (.R1 .set []<|k.map cD,C)/\RO (.R1 .set []<|k.map cD)=J (.lst<|b.map cD,C):=by
 have f:∀c,c∈dd a↔c∈a:=λc=>by unfold dd;rw[aga];simp
 have i:(dd a).Nodup:=R5 a [] (by simp);obtain⟨b,e,g⟩:=B9<|jA A1<|(dd a).map cD;have d:(dd a).length<=(AC a):=JB _ _ i λc h=>(f c).mp h;refine⟨dd a,b,⟨g.symm.nodup i,λc h=>j c<|(f c).mp<|g.mem_iff.mp h⟩,?_,λc=>g.mem_iff.trans<|f c,by rw[g.length_eq];exact d,?_,?_⟩
 .have:=qF<|(dd a).map cD;rw[e,kP]at this;exact this
 .show(if(a.map cD).all Fi=C/\(a.map cD).length<500 then J (D.R1 .set []<|ly<|a.map cD,C)else I)=_;rw[ie ⟨QD a,by simpa using l⟩];unfold ly;rw[show([]:List D)=([]:List (List Int)).map cD from H,Sy];rfl
 show(if((dd a).map cD).all Fi=C then jz ((dd a).map cD)else I)=_;rw[ie<|QD _];unfold jz;rw[ie ⟨qG _ λc h=>(j c<|(f c).mp h).1,by rw[jP];simp;lia⟩,e]
def Fl.take(h:Fl a)(m:Nat):Fl (a.take m):=pc (yO m a) h
def Af.take(h:Af n a)(m:Nat):Af n (a.take m):=⟨List.Nodup.sublist (yO m a) h.1,λc b=>h.2 c<|yH b⟩
def mZ(n:Nat)(ks:iI):Prop:=n<=5/\Af n ks/\Fl ks/\(AC ks)<=30
abbrev Ag(n:Nat)(ks:iI):D:=.tup [.int n,.tup<|ks.map cD]
abbrev rS(n:Nat)(ks:iI):Sl:=J (Ag n ks,Y)
noncomputable abbrev Aj(a:List D):Dn:=a.map λd=>J (d,Y)
theorem qL:∀(os:List F1)(a:List D),iD os (a.map λd=>(d,Y))=[]
 |[],_=>by simp[iD]
 |_::_,[]=>by simp[iD]
 |o::os,d::a=>by cases o<;>simp[iD,qL os a]
theorem C0:∀(os:List F1)(b:List D)(a c:Dn),wb os (b.map λd=>(d,Y)) a c=c
 |[],_,_,_=>by simp[wb]
 |_::_,[],_,_=>by simp[wb]
 |_::_,_::_,[],_=>by simp[wb]
 |o::os,d::b,x::xs,c=>by cases o<;>simp[wb,C0 os b xs]
def ab1{f:F}{ti:FT}{g:D->D}{p:D->Bool}{pre:Dn}:∀(l a:List D)(x:Sl),(∀d∈l,ti (pre++[J (d,Y)])=J (p d,pre++[J (d,Y)])/\(p d=C->∃o,f (pre++[J (d,Y)])=J ((g d,o),pre++[J (d,Y)])))->AC a+AC l<=sizeLine->
  ∃b,jK (hG<|AC pre) ti (jn f) l a (pre++[x])=J (a++(l.filter p).map g,pre++[b]):=by
 intro r
 induction r with
 |nil=>intro a x _ _;exact⟨x,by simp[jK]⟩
 |cons d l m=>
  intro a x h j;obtain⟨h1,n⟩:=h d jt;have q:(AC a)<sizeLine:=by simp at j;lia
  rw[jK,Al];simp only[jj];rw[h1]
  cases k:p d
  .obtain⟨b,e⟩:=m a (J (d,Y)) (λc i=>h c<|jx _ i) (by simp at j ⊢;lia);exact⟨b,by simp[e,k]⟩
  obtain⟨o,hd⟩:=n k;obtain⟨b,e⟩:=m (a++[g d]) (J (d,Y)) (λc i=>h c<|jx _ i) (by simp at j ⊢;lia);refine⟨b,?_⟩;simp only[jj,kz,uJ];rw[hd];simp only[jj];rw[ie q];simp only[jj];rw[e];simp[k]
def uo{caps:jM}{fi:B0}{f:F}{ti:FT}{δ δ1:Dn}{l args:List D}(g:D->D)(p:D->Bool)(h1:fi δ=J (l,δ1))(a:jS δ1 (caps.map .slot)=J (args.map λd=>(d,Y)))(b:(AC args)=AC caps)
  (h:∀d∈l,ti (Aj args++[J (d,Y)])=J (p d,Aj args++[J (d,Y)])/\(p d=C->∃o,f (Aj args++[J (d,Y)])=J ((g d,o),Aj args++[J (d,Y)])))(c:(AC l)<=10000):
  iL caps 1 fi (hG<|AC caps) ti (jn f) δ=J ((.lst<|(l.filter p).map g,C),δ1):=by
 obtain⟨i,e⟩:=ab1 (f:=f) (ti:=ti) (g:=g) (p:=p) (pre:=Aj args) l [] I h (by rw[jP];simp;lia);unfold iL;rw[h1];simp only[jj];rw[a];simp only[jj,qL,mT,kz,ji,C0];rw[show hG (AC caps)=hG (Aj args).length from by rw[jl,b]];rw[show((args.map<|J∘λd=>(d,Y))++ac 1 I:Dn)=Aj args++[I]from H,e];simp
def um{caps:jM}{fi:B0}{f:F}{δ δ1:Dn}{l args:List D}(g:D->D)(h1:fi δ=J (l,δ1))(a:jS δ1 (caps.map .slot)=J (args.map λd=>(d,Y)))(b:(AC args)=AC caps)
  (h:∀d∈l,∃o,f (Aj args++[J (d,Y)])=J ((g d,o),Aj args++[J (d,Y)]))(c:(AC l)<=10000):
  iL caps 1 fi (hG<|AC caps) je (jn f) δ=J ((.lst<|l.map g,C),δ1):=by
 rw[uo g (λ_=>C) h1 a b (λd hd=>⟨rfl,λ_=>h d hd⟩) c,Y4.mpr λ_ _=>rfl]
def qQ{caps:jM}{fi:B0}{f:F}{δ δ1:Dn}{l args:List D}(p:D->Bool)(h1:fi δ=J (l,δ1))(a:jS δ1 (caps.map .slot)=J (args.map λd=>(d,Y)))(b:(AC args)=AC caps)
  (h:∀d∈l,∃o,f (Aj args++[J (d,Y)])=J ((.bl<|p d,o),Aj args++[J (d,Y)]))(c:(AC l)<=10000):
  iw (g1 wQ) [hC<|iL caps 1 fi (hG<|AC caps) je<|jn f] δ=J ((.bl<|l.all p,Y),δ1):=
 mG (oP<|iq<|um (λd=>.bl (p d)) h1 a b h c) rfl (sv p l)
def HH{caps:jM}{fi:B0}{f:F}{δ δ1:Dn}{l args:List D}(p:D->Bool)(h1:fi δ=J (l,δ1))(a:jS δ1 (caps.map .slot)=J (args.map λd=>(d,Y)))(b:(AC args)=AC caps)
  (h:∀d∈l,∃o,f (Aj args++[J (d,Y)])=J ((.bl<|p d,o),Aj args++[J (d,Y)]))(c:(AC l)<=10000):
  iw (g1 Hs) [hC<|iL caps 1 fi (hG<|AC caps) je<|jn f] δ=J ((.bl<|l.any p,Y),δ1):=
 mG (oP<|iq<|um (λd=>.bl (p d)) h1 a b h c) rfl (SW p l)
def adK{f:F}{c:B0}{g:D->D->D}{m:List D}(r:∀d y,c [J (d,Y),y]=J (m,[J (d,Y),y])):∀(l a:List D)(x y:Sl),(∀d∈l,∀e∈m,∃o,f [J (d,Y),J (e,Y)]=J ((g d e,o),[J (d,Y),J (e,Y)]))->AC a+(AC l)*(AC m)<=sizeLine->
  ∃v b,jK (hG 0) je (FC c (hG 1) je<|jn f) l a [x,y]=J (a++l.flatMap λd=>m.map<|g d,[v,b]):=by
 intro u
 induction u with
 |nil=>intro a x y _ _;exact⟨x,y,by simp[jK]⟩
 |cons d l t=>
  intro a x y h s;have A:(AC a)+AC m+(AC l)*(AC m)<=sizeLine:=by simp[eE]at s;omega
  obtain⟨b,j⟩:=SO f (g d) [J (d,Y)] m a y (λe q=>h d jt e q) (by omega);obtain⟨x2,w,k⟩:=t (a++m.map (g d)) (J (d,Y)) b (λi n=>h i<|jx _ n) (by simp;omega);refine⟨x2,w,?_⟩;rw[jK];rw[show hG 0 d [x,y]=J [J (d,Y),y]from H];simp only[jj,uI,kz];unfold FC;rw[r];simp only[jj];rw[show jK (hG 1) je (jn f) m a [J (d,Y),y]=_ from j];simp only[jj];rw[show jK (hG 0) je (λa z=>(c z).bind λp=>jK (hG 1) je (jn f) p.1 a p.2) l (a++m.map (g d)) ([J (d,Y)]++[b])=_ from k];simp
def YO{fi fi2:B0}{f:F}{δ δ1:Dn}{l m:List D}(g:D->D->D)(h1:fi δ=J (l,δ1))(a:∀d y,fi2 [J (d,Y),y]=J (m,[J (d,Y),y]))(h:∀d∈l,∀e∈m,∃o,f [J (d,Y),J (e,Y)]=J ((g d e,o),[J (d,Y),J (e,Y)]))(b:(AC l)*(AC m)<=10000):
  iL [] 2 fi (hG 0) je (FC fi2 (hG 1) je<|jn f) δ=J ((.lst<|l.flatMap λd=>m.map<|g d,C),δ1):=by
 obtain⟨c,i,e⟩:=adK (f:=f) (g:=g) a l [] I I h (by rw[jP];simp;lia);unfold iL;rw[h1];simp only[jj,sH,Mt,iD,mT,kz,sN,tw,List.replicate_zero];rw[e];simp[wb]
def qo{tg:Tg}{fb:FS}(U:List D->Dn->Prop)(step:∀d ds δ,U (d::ds) δ->∃δ1 δ2,tg d δ=J δ1/\fb δ1=J (.nx δ2)/\U ds δ2):∀(ds:List D)(δ:Dn),U ds δ->∃a,U [] a/\pZ tg fb ds δ=J (.nx a):=by
 intro i
 induction i with
 |nil=>intro δ h;exact⟨δ,h,rfl⟩
 |cons d ds g=>intro δ h;obtain⟨δ1,δ2,h1,b,c⟩:=step d ds δ h;obtain⟨a,e,f⟩:=g δ2 c;refine⟨a,e,?_⟩;unfold pZ;rw[h1];simp only[jj];rw[b];exact f
theorem Cd{tg:Tg}{f:F}(U:List D->List D->Dn->Prop)(step:∀d e a δ,U (d::e) a δ->∃δ1 r o c,tg d δ=J δ1/\f δ1=J ((r,o),c)/\(AC a)<=10000/\U e (a++[r]) c):∀(e a:List D)(δ:Dn),U e a δ->∃g b,U [] g b/\jK tg je (jn f) e a δ=J (g,b)
 |[],a,δ,h=>⟨a,δ,h,rfl⟩
 |d::e,a,δ,h=>by obtain⟨δ1,r,o,c,h1,i,m,j⟩:=step d e a δ h;obtain⟨g,b,k,l⟩:=Cd U step e _ c j;refine⟨g,b,k,?_⟩;unfold jK;rw[h1];simp only[jj,uI,kz,uJ];rw[i];simp only[jj];rw[ie<|uG m];exact l
def nr{caps:jM}{k:Nat}{fi:B0}{tg:Tg}{ti:FT}{c:FB}{δ δ1 b:Dn}{l a:List D}{args:List (D×Bool)}(h1:fi δ=J (l,δ1))(d:jS δ1 (caps.map .slot)=J args)(e:(iD (caps.map .slot) args).Nodup)(f:jK tg ti c l [] (args.map J++ac k I)=J (a,b)):
  iL caps k fi tg ti c δ=J ((.lst a,C),wb (caps.map .slot) args (iT args b) δ1):=by
 unfold iL;rw[h1];simp only[jj];rw[d];simp only[jj];rw[ie e,f];rfl
def GR(l:gY):List Int:=l.foldl (λa k=>if k∈a then a else a++[k]) []
def pH(l:gY):(l.map D.int).all G0=C:=by rw[ku];intro x a;obtain⟨k,_,rfl⟩:=kO.mp a;rfl
def HN(a:gY)(k:Int):nE (a.map D.int) (.int k)=(if k∈a then a else a++[k]).map D.int:=by
 unfold nE
 have:(a.map D.int).any (D.Q2 · (.int k))=C↔k∈a:=by
  rw[Bv (pH a) k,kO];constructor
  .rintro⟨j,b,e⟩;cases e;exact b
  exact λh=>⟨k,h,rfl⟩
 by_cases h:k∈a
 .rw[ie<|this.mpr h,ie h]
 rw[iC λz=>h<|this.mp z,iC h,kQ];rfl
def age(l:gY):ly (l.map D.int)=(GR l).map D.int:=by
 unfold ly GR
 have:∀(l a:gY),(l.map D.int).foldl nE (a.map D.int)=(l.foldl (λa k=>if k∈a then a else a++[k]) a).map D.int:=by
  intro l
  induction l with
  |nil=>intro a;rfl
  |cons k l b=>intro a;rw[jI,oU,oU,HN,b]
 exact this l []
def JX:∀(l c:gY),c.Nodup->(l.foldl (λc k=>if k∈c then c else c++[k]) c).Nodup/\(∀x,x∈l.foldl (λc k=>if k∈c then c else c++[k]) c↔x∈c\/x∈l)/\(l.foldl (λc k=>if k∈c then c else c++[k]) c).length<=AC c+(AC l):=by
 intro l
 induction l with
 |nil=>intro c h;exact⟨h,λx=>by simp,by simp⟩
 |cons k l i=>
  intro c h;rw[oU];by_cases hk:k∈c
  .rw[ie hk];obtain⟨h1,d,f⟩:=i c h;refine⟨h1,λx=>?_,by simp at f ⊢;lia⟩;rw[d x,kN];constructor
   .rintro(z|z)
    .exact .inl z
    exact .inr (.inr z)
   rintro(z|rfl|z)
   .exact .inl z
   .exact .inl hk
   exact .inr z
  rw[iC hk];obtain⟨h1,d,f⟩:=i (c++[k])<|FV.mpr ⟨h,by simp,λa j b g e=>hk<|by simp at g;subst g;subst e;exact j⟩;refine⟨h1,λx=>?_,by simp at f ⊢;lia⟩;rw[d x,oE,yw,kN];constructor
  .rintro((z|z)|z)
   .exact .inl z
   .exact .inr (.inl z)
   exact .inr (.inr z)
  rintro(z|z|z)
  .exact .inl (.inl z)
  .exact .inl (.inr z)
  exact .inr z
def Fs(l:gY):(GR l).Nodup:=(JX l [] mT).1
def Lf{l:gY}{x:Int}:x∈GR l↔x∈l:=by have:=(JX l [] mT).2.1 x;unfold GR;simpa using this
def Ft(l:gY):(GR l).length<=(AC l):=by unfold GR;simpa using(JX l [] mT).2.2
def adJ{ti:FT}{p:Int->Bool}{pre:Dn}:∀(l a:gY)(x:Sl),(∀k∈l,ti (pre++[J (.int k,Y)])=J (p k,pre++[J (.int k,Y)]))->AC a+AC l<500->
  ∃c,jK (hG<|AC pre) ti (zy<|iM<|AC pre) (l.map .int) (a.map .int) (pre++[x])=J (((l.filter p).foldl (λa k=>if k∈a then a else a++[k]) a).map .int,pre++[c]):=by
 intro l
 induction l with
 |nil=>intro a x _ _;exact⟨x,by simp[jK]⟩
 |cons k l j=>
  intro a x h g;have h1:=h k jt;rw[jI,jK,Al];simp only[jj];rw[h1]
  cases i:p k
  .obtain⟨c,e⟩:=j a (J (.int k,Y)) (λd f=>h d<|jx _ f) (by simp at g ⊢;lia);exact⟨c,by simp[e,i]⟩
  have b:(if k∈a then a else a++[k]).length+AC l<500:=by
   rw[kG]at g;split
   .lia
   rw[lA,vm];lia
  obtain⟨c,e⟩:=j (if k∈a then a else a++[k]) (J (.int k,Y)) (λd f=>h d<|jx _ f) b;refine⟨c,?_⟩;simp only[jj,kz,zy]
  have hv:iM (AC pre) (pre++[J (.int k,Y)])=J ((.int k,Y),pre++[J (.int k,Y)]):=by unfold iM;simp
  rw[hv];simp only[jj];rw[ie ⟨pH a,rfl,by simp at g ⊢;lia⟩];simp only[jj];rw[HN,e,DX i,oU]
def YN{a:jM}{c:B0}{ti:FT}{δ b:Dn}{l:gY}{args:List D}(p:Int->Bool)(h1:c δ=J (l.map .int,b))(f:jS b (a.map .slot)=J (args.map λd=>(d,Y)))(g:(AC args)=AC a)
  (h:∀k∈l,ti (Aj args++[J (.int k,Y)])=J (p k,Aj args++[J (.int k,Y)]))(i:(AC l)<500):
  Sa a 1 c (hG<|AC a) ti (zy<|iM<|AC a) δ=J ((.R1 .set []<|(GR<|l.filter p).map .int,C),b):=by
 obtain⟨j,e⟩:=adJ (ti:=ti) (p:=p) (pre:=Aj args) l [] I h (by simpa using i);unfold Sa JS;rw[h1];simp only[jj];rw[f];simp only[jj,qL,mT,kz,ji,C0];rw[show (AC a)=(Aj args).length from by rw[jl,g]];rw[show((args.map<|J∘λd=>(d,Y))++ac 1 I:Dn)=Aj args++[I]from H];rw[sH]at e;rw[e];rfl
noncomputable def SR:D->Bool
 |.int i=>decide (0<=i)&&decide (i<=1)
 |_=>Y
def YV(d:D):qP [(d,Y)]=J ((.bl<|SR d,Y),[J (d,Y)]):=by
 cases d<;>simp[qP,Dz,Q1,iT,uO,iD,wb,SR]
def isA(n:Nat):D->Bool
 |.tup l=>decide (AC l=n)&&l.all SR
 |_=>Y
def pR(h:f δ=J ((.bl C,o),δ1)):rK f g δ=g δ1:=by rw[PQ,h];rfl
def JT(h:f δ=J ((.bl Y,o),δ1)):rK f g δ=J ((.bl Y,Y),δ1):=by rw[PQ,h];rfl
def ag5(n:Nat)(d:D)(hd:OV d):nB [pI n,(d,Y)]=J ((.bl<|isA n d,Y),[ii n,J (d,Y)]):=by
 cases d with
 |tup l=>
  have c:=qQ (caps:=[]) (fi:=jb<|iM 1) (f:=hW qP [gR 0]) (δ:=[ii n,J (.tup l,Y)]) (l:=l) (args:=[]) SR H H H (λd _=>⟨Y,by simp[YV,iD,wb]⟩) (by have:=hd l H;lia)
  have e:hU I8 F6 (gR 0) [ii n,J (.tup l,Y)]=J ((.bl<|decide<|AC l=n,Y),[ii n,J (.tup l,Y)]):=by simp[oj,li]
  refine jg (δ:=[ii n,J (.tup l,Y)]) ⟨rfl,by decide,rfl⟩<|iz<|jm<|(pR H).trans ?_;rw[isA];by_cases h:(AC l)=n
  .rw[kj h]at e ⊢;exact(pR e).trans c
  rw[kr h]at e ⊢;exact JT e
 |_=>simp[nB,yb,Q1,iT,IV,isA]
noncomputable def Ba:D->List D
 |.tup l=>l
 |.lst l=>l
 |_=>[]
def CJ(t:gY)(s:Int):Bool:=t.getD ((ab s).toNat-1) 0==(if s>0 then 1 else 0)
def adx(t:gY)(s:Int)(h:1<=ab s/\ab s<=AC t):N2 (.tup<|t.map .int) (.int<|ab s-1)=ii (t.getD ((ab s).toNat-1) 0):=by
 have h1:0<=ab s-1:=by lia
 have b:ab s-1<((t.map D.int).length:Int):=by simp;lia
 have c:(ab s-1).toNat=(ab s).toNat-1:=by lia
 have d:(ab s).toNat-1<(AC t):=by lia
 have a:EO (t.map D.int).length (ab s-1)=J ((ab s).toNat-1):=by unfold EO;rw[ie h1,ie b,c]
 rw[jl]at a;simp[N2,G5,a,d]
def aaP(t:gY)(s:Int)(h:1<=ab s/\ab s<=AC t):ye [enc t,pI s]=J ((.bl<|CJ t s,Y),[eN t,ii s]):=by have:=adx t s h;unfold ab at this;by_cases a:s>0<;>simp[ye,Hx,Q1,iT,this,a,CJ,ab]
def kC(t c:gY):Bool:=c.any<|CJ t
def Bv(p:Int->Bool)(c:gY):(c.map D.int).any (λd=>p<|Ls d)=c.any p:=by simp[tj,rR,Ls]
def abx(n:Nat)(i:n<=5)(t c:gY)(j:(AC t)=n)(g:Sr n c)(a:OO)(b:∀s,1<=ab s/\ab s<=AC t->a [enc t,pI s]=J ((.bl<|CJ t s,Y),[eN t,ii s])):
  Q1 2 2 [] (gZ (jH<|iw (g1 Hs) [hC<|iL [0] 1 rW (hG 1) je<|jn<|hW a [gR 0,gR 1]]) ip) [enc t,enc c]=J ((.bl<|kC t c,Y),[eN t,eN c]):=by
 have e:=HH (caps:=[0]) (fi:=jb<|iM 1) (f:=hW a [gR 0,gR 1]) (δ:=[eN t,eN c]) (l:=c.map .int) (args:=[cD t]) (λd=>CJ t<|Ls d) H H H (λd hd=>⟨Y,by obtain⟨s,h,rfl⟩:=kO.mp hd;have:=g.2.2 s h;simp[b s<|by lia,iD,wb,Ls]⟩) (by have:=Sr.len g;simp;lia)
 rw[Bv]at e;exact jg ⟨rfl,by decide,rfl⟩<|iz<|jm e
def Rw{n:Nat}(b:n<=5){t c:gY}(d:(AC t)=n)(a:Sr n c):lR [enc t,enc c]=J ((.bl<|kC t c,Y),[eN t,eN c]):=abx n b t c d a _ λs h=>aaP t s h
def kB(n:Nat)(a:iI)(d:D):Bool:=isA n d&&a.all (kC<|(Ba d).map Ls)
def UW(h:isA n d=C):∃t:List Int,d=cD t/\(AC t)=n:=by
 cases d with
 |tup l=>
  rw[isA,la,qw,ku]at h;refine⟨l.map Ls,?_,by simp[h.1]⟩;rw[cD,ji]
  congr 1
  rw[oT (g:=id),rO];intro x a;have:=h.2 x a;cases x<;>simp[SR,Ls]at this ⊢
 |_=>cases h
def Vl{n:Nat}(k:n<=5){a:iI}(hk:∀c∈a,Sr n c)(j:(AC a)<=30){t:gY}(m:(AC t)=n){b:OO}(e:∀c,Sr n c->b [enc t,enc c]=J ((.bl<|kC t c,Y),[eN t,eN c])){fi:B0}{δ:Dn}{i:Nat}(h:δ[i]?=J (eN t))(h1:fi δ=J (a.map cD,δ)):
  iw (g1 wQ) [hC<|iL [i] 1 fi (hG 1) je<|jn<|hW b [gR 0,gR 1]] δ=J ((.bl<|a.all<|kC t,Y),δ):=by
 have:=qQ (caps:=[i]) (fi:=fi) (f:=hW b [gR 0,gR 1]) (δ:=δ) (l:=a.map cD) (args:=[cD t]) (λd=>kC t<|(Ba d).map Ls) h1 (by simp[h]) H (λd hd=>⟨Y,by obtain⟨c,g,rfl⟩:=kO.mp hd;simp[e c<|hk c g,iD,wb,Ba,rR,Ls]⟩) (by simp;lia)
 refine this.trans ?_;simp[rg,rR,Ba,Ls]
def Ru{n:Nat}{a:iI}(h:mZ n a)(d:D)(hd:OV d):yd [(Ag n a,Y),(d,Y)]=J ((.bl<|kB n a d,Y),[rS n a,J (d,Y)]):=by
 let δ:Dn:=[rS n a,J (d,Y),ii n,J (.tup<|a.map cD,Y)]
 have e:hW nB [gR 2,gR 1] δ=J ((.bl<|isA n d,Y),δ):=jr (os:=[.slot 2,.slot 1]) (args:=[pI n,(d,Y)]) H H mT<|ag5 n d hd;refine jg (δ:=δ) ⟨rfl,by decide,rfl⟩<|(gX (δ1:=δ) H).trans<|iz<|jm ?_;rw[kB]
 cases b:isA n d with
 |false=>rw[b]at e;exact JT e
 |true=>rw[b]at e;refine(pR e).trans ?_;obtain⟨t,rfl,f⟩:=UW b;refine(Vl h.1 h.2.1.2 h.2.2.2 f (λc g=>Rw h.1 f g) (i:=1) H H).trans ?_;simp[Ba,rR,Ls]
noncomputable def mY:Nat->List (List Int)
 |0=>[[]]
 |n+1=>(mY n).flatMap λt=>[t++[0],t++[1]]
theorem zA:∀n:Nat,(mY n).length=2^n
 |0=>rfl
 |n+1=>by
  rw[mY,List.length_flatMap,vd,<-zA n];generalize mY n=L
  induction L with
  |nil=>rfl
  |cons t L a=>simp at a ⊢;lia
def uq:∀{n:Nat}{t:gY},t∈mY n->AC t=n/\∀x∈t,x=0\/x=1:=by
  intro e
  induction e with
  |zero=>intro t h;simp[mY]at h;simp[h]
  |succ n d=>
    intro t h;rw[mY,Ac]at h;obtain⟨u,c,h⟩:=h;obtain⟨h1,b⟩:=d c;simp only[kN,my,om]at h
    rcases h with rfl|rfl<;>
      (refine⟨by simp[h1],λx a=>?_⟩
       rcases oE.mp a with a|a
       · exact b x a
       · simp at a;simp[a])
def Ka{n:Nat}(a:n<=5):(mY n).length<=32:=by rw[zA];exact yA (n:=2) (by decide) a
noncomputable abbrev Vj:List D:=[.int 0,.int 1]
def Tf(d e:D):D:=.tup (Ba d++[e])
def Te(L:iI):(L.map cD).flatMap (λd=>Vj.map<|Tf d)=(L.flatMap λt=>[t++[0],t++[1]]).map cD:=by simp[List.flatMap_map,List.map_flatMap,Tf,Ba,cD]
def Vp(t:gY)(a:(AC t)<=100)(e:D):hU lP (gR 0) Oi [J (cD t,Y),J (e,Y)]=J ((Tf (cD t) e,Y),[J (cD t,Y),J (e,Y)]):=by
 have:=jP;have h:(AC t)<=16777215:=by lia
 simp[iM,this,lP,Tf,Ba,h]
def agV(δ:Dn):jb Ox δ=J (Vj,δ):=by simp[jP]
abbrev fbA:FS:=zC8
def aeu{n:Nat}(k:n<=5):pT [pI n]=J ((.lst<|(mY n).map cD,C),[ii n]):=by
 let z:Sl:=ii n
 obtain⟨i,⟨j,x,a,rfl⟩,e⟩:=qo (tg:=hG 2) (fb:=fbA) (λb δ=>∃j x,j+AC b=n/\δ=[z,J (.lst<|(mY j).map cD,C),x]) (λd b δ g=>by
  obtain⟨j,x,a,e⟩:=g;subst e
  have c:=YO (fi:=jb<|iM 1) (fi2:=jb Ox) (f:=hU lP (gR 0) Oi) (δ:=[z,J (.lst<|(mY j).map cD,C),J (d,Y)]) (δ1:=[z,J (.lst<|(mY j).map cD,Y),J (d,Y)]) (l:=(mY j).map cD) (m:=Vj) Tf H (λd y=>agV _) (λd hd e _=>by obtain⟨t,h,rfl⟩:=kO.mp hd;exact⟨Y,Vp t (by have:=(uq h).1;simp at a;lia) e⟩) (by have:=Ka (n:=j) (by lia);simp;lia)
  rw[Te]at c;exact⟨_,_,rfl,(gX<|iY c (show 1<3 by decide)).trans H,j+1,_,by simp at a;lia,rfl⟩) (ja 0 n) [z,J (.lst<|(mY 0).map cD,C),I] ⟨0,I,by simp[ja],rfl⟩
 have:j=n:=by simpa using a
 subst this;exact jg (δ:=[z,I,x]) ⟨rfl,by decide,rfl⟩<|(gX (δ1:=[z,J (.lst<|(mY 0).map cD,C),I]) H).trans<|(gX<|(mI<|rB (o:=.slot 0) H H<|by lia).trans e).trans<|iz H
def lZ(n:Nat)(a:iI):List (List Int):=(mY n).filter λt=>a.all<|kC t
def UX{n:Nat}{t:gY}(h:t∈mY n):isA n (cD t)=C:=by obtain⟨h1,a⟩:=uq h;simp only[isA,jl,h1,decide_true,yz,rg,ku,aW];intro x b;rcases a x b with rfl|rfl<;>rfl
def Yj{n:Nat}{a:iI}{t:gY}(h:t∈mY n):kB n a (cD t)=a.all (kC t):=by rw[kB,UX h];simp[Ba,rR,Ls]
def V9{t:gY}(h:(AC t)<=60):OV (cD t):=λl e=>by cases e;simpa using h
def DD(p:D->Bool)(L:iI):((L.map cD).filter p).map (λd=>d)=(L.filter λt=>p<|cD t).map cD:=by rw[yx,vM];rfl
def xb{n:Nat}{a:iI}(h:mZ n a):mS [(Ag n a,Y)]=J ((.lst<|(lZ n a).map cD,C),[rS n a]):=by
 have h1:jb WD [rS n a]=J ((mY n).map cD,[rS n a]):=
  nO (jr (os:=[.val (.int n,Y)]) (args:=[pI n]) H H mT<|aeu h.1)
 have c:=uo (caps:=[0]) (fi:=jb WD) (f:=iM 1) (ti:=fT<|hW yd [gR 0,gR 1]) (δ:=[rS n a]) (l:=(mY n).map cD) (args:=[Ag n a]) (λd=>d) (kB n a) h1 H H (λd hd=>by obtain⟨t,b,rfl⟩:=kO.mp hd;have:=(uq b).1;have e:=h.1;exact⟨jk<|jr (os:=[.slot 0,.slot 1]) (args:=[(Ag n a,Y),(cD t,Y)]) H H mT<|Ru h _ (V9<|by lia),λ_=>⟨Y,rfl⟩⟩) (by have:=Ka h.1;simp;lia)
 rw[DD,HV λt b=>Yj b]at c;exact jg ⟨rfl,by decide,rfl⟩<|iz<|jm c
def L6{p:List Int->Bool}{k l:iI}(h:∀c,c∈k↔c∈l):k.all p=l.all p:=by rw[sM,ku,ku];exact⟨λa c b=>a c<|(h c).mpr b,λa c b=>a c<|(h c).mp b⟩
def ab5(x:Int)(c:gY):(c.map D.int).any (λd=>D.Q2 d<|.int x)=c.contains x:=by
 induction c with
 |nil=>rfl
 |cons y c a=>rw[jI,sO,a,List.contains_cons];simp[D.Q2,oj,eq_comm]
def rq(x:Int)(c:gY):mN (.int x) (cD c)=J (.bl (!c.contains x),Y):=by
 have:inD (.int x) (cD c)=J (c.contains x):=by show(if D.P2 (c.map .int)<=50/\(D.int x).dep<=50 then J ((c.map D.int).any λd=>D.Q2 d<|.int x)else I)=_;rw[ie ⟨by rw[uk];lia,by simp[D.dep]⟩,ab5]
 unfold mN;rw[this];rfl
def abC(c:gY)(a:iI):Gh (cD c) (.lst<|a.map cD)=J (.bl<|decide<|c∈a,Y):=by
 have h:=QN c a;unfold mN at h;unfold Gh
 cases d:inD (cD c) (.lst<|a.map cD)with
 |none=>rw[d]at h;cases h
 |some b=>rw[d]at h;simp at h ⊢;cases b<;>simp at h ⊢ <;>exact h
theorem FW{a:Type}{R:a->a->Prop}:∀{l:List a},l.Pairwise R->∀p∈l.zip l.tail,R p.1 p.2
 |[],_,p,h=>by simp at h
 |[_],_,p,h=>by simp at h
 |x::y::l,c,p,h=>by
  simp only[List.tail_cons,sQ]at h;obtain⟨h1,b⟩:=FN.mp c;rcases kN.mp h with rfl|h
  .exact h1 y jt
  exact FW b p h
def Wq(l:List D):PX.DH l (J 1) I=l.tail:=by
 unfold PX.DH;rw[show(J (1:Int))=J ((1:Nat):Int)from H,HT.Y5,HT.W7]
 cases l with
 |nil=>rfl
 |cons x l=>rw[show min 1 (x::l).length=1 from by simp];simp
def TV(l:List D)(d:D)(hd:d=.lst l\/d=.tup l)(h:∀p∈l.zip l.tail,pP .Lt p.1 p.2=J (.bl C,Y))(x:(AC l)<=1000):rL [(d,Y)]=J ((.bl C,Y),[J (d,Y)]):=by
 have t:BG (iM 0) (DE (gR 0) jB) [J (d,Y)]=J ((l.zip l.tail).map λp=>.tup [p.1,p.2],[J (d,Y)]):=by
  rcases hd with rfl|rfl
  .have:DE (gR 0) jB [J (.lst l,Y)]=J ((.lst l.tail,C),[J (.lst l,Y)]):=by rw[<-Wq l];rfl
   simp[BG,iM,this,tM]
  have:DE (gR 0) jB [J (.tup l,Y)]=J ((.tup l.tail,Y),[J (.tup l,Y)]):=by rw[<-Wq l];rfl
  simp[BG,iM,this,tM]
 have j:(l.zip l.tail).length<=1000:=by rw[List.length_zip];lia
 obtain⟨a,w,⟨b,c,u,v,h1,g,i,n,rfl⟩,e⟩:=Cd (tg:=ng [hG 0,hG 1]) (f:=hU (pP .Lt) (gR 0)<|gR 1) (λm a δ=>∃(b:List (D×D))(c:List D)(u v:Sl),m=b.map (λp=>.tup [p.1,p.2])/\(∀p∈b,pP .Lt p.1 p.2=J (.bl C,Y))/\a=c.map (λ_=>.bl C)/\(AC a)+AC b<=1000/\δ=[u,v]) (λd m a δ r=>by
  obtain⟨b,c,u,v,h1,g,i,n,o⟩:=r;subst o
  cases b with
  |nil=>cases h1
  |cons p b=>obtain⟨rfl,rfl⟩:=ve h1;exact⟨[J (p.1,Y),J (p.2,Y)],.bl C,Y,[J (p.1,Y),J (p.2,Y)],rfl,jQ (o1:=.slot 0) (o2:=.slot 1) H H H H<|g p jt,by lia,b,c++[.T2],_,_,rfl,λq s=>g q<|jx _ s,by simp[i],by simp at n ⊢;lia,rfl⟩) ((l.zip l.tail).map λp=>.tup [p.1,p.2]) [] [I,I] ⟨l.zip l.tail,[],I,I,rfl,h,rfl,by simpa using j,rfl⟩
 refine jg (δ:=[J (d,Y)]) ⟨rfl,by decide,rfl⟩<|iz<|jm<|mG (oP<|iq<|nr (caps:=[]) (k:=2) (args:=[]) t H mT e) H ?_;subst i;refine(sv (λ_=>C) c).trans ?_;simp
def Yn{n:Nat}(q:n<=5){c:gY}(h:Sr n c):nA [pI n,enc c]=J ((.bl C,Y),[ii n,eN c]):=by
 have o:=Sr.len h;have h1:1<=(AC c):=Ke.mpr h.1;have k1:(1:Int)<=(AC c):=by lia
 have k2:((AC c):Int)<=5:=by lia
 have j:aah [ii n,eN c]=J (Y,[ii n,eN c]):=by simp[IV,oN,lE,k1,k2]
 have e:=qQ (caps:=[0]) (fi:=jb<|iM 1) (f:=hW mQ [gR 0,gR 1]) (δ:=[ii n,eN c]) (δ1:=[ii n,eN c]) (l:=c.map .int) (args:=[.int n]) (λ_=>C) H H H (λd hd=>⟨Y,by obtain⟨s,i,rfl⟩:=kO.mp hd;have:=h.2.2 s i;refine(jr (δ1:=[ii n,ii s]) (os:=[.slot 0,.slot 1]) (args:=[pI n,pI s]) H H mT<|KA n<|.int s).trans ?_;rw[sg,kj this.1,kj this.2];rfl⟩) (by simp;lia)
 rw[show(c.map D.int).all (λ_=>C)=C by simp]at e
 have g:=um (caps:=[]) (fi:=jb<|iM 1) (f:=iw (g1 BL) [gR 0]) (δ:=[ii n,eN c]) (δ1:=[ii n,eN c]) (l:=c.map .int) (args:=[]) (λd=>.int (ab<|Ls d)) H H H (λd hd=>⟨Y,by obtain⟨s,i,rfl⟩:=kO.mp hd;rfl⟩) (by simp;lia)
 rw[show(c.map D.int).map (λd=>D.int<|ab<|Ls d)=(c.map ab).map D.int by rw[ji,ji];rfl]at g
 have r:=TV ((c.map ab).map .int) (.lst<|(c.map ab).map .int) (.inl H) (λp k=>by have:=FW (R:=λa b:D=>pP .Lt a b=J (.bl C,Y)) (l:=(c.map ab).map .int) (kP.mpr<|h.2.1.imp λ{a b} m=>by rw[aaT,kj m]) p k;exact this) (by simp;lia)
 refine jg (δ:=[ii n,eN c]) ⟨rfl,by decide,rfl⟩<|(gX<|(lY j).trans H).trans<|(gX<|(lY<|kM<|jk e).trans H).trans ?_;exact iz<|jm<|jr (δ1:=[ii n,eN c]) (args:=[(.lst<|(c.map ab).map .int,Y)]) (oP<|iq g) H mT r
def Hr{d:D}(h:d.dep<=50):I8 d d=J (.bl C,Y):=by unfold I8;rw[ie ⟨h,h⟩,D.Br]
def Fp(L:iI):(D.lst<|L.map cD).dep<=50:=by have:=Fq L;rw[D.dep];lia
def Sq(n:Nat)(a:iI):(Ag n a).dep<=50:=by have:=Fq a;simp only[D.dep,D.P2];lia
def YM(l:List D)(v:Nat):PX.DH l I (J (v:Int))=l.take v:=by
 unfold PX.DH;rw[HT.W7,HT.Y5,List.drop_zero,Nat.sub_zero];by_cases h:v<=AC l
 .rw[Az h]
 rw[Nat.min_eq_right<|by omega,AA<|jw _,AA<|by omega]
def TT(n:Nat)(t:gY):Prop:=(t.map ab).Perm<|st n
def SG(n:Nat)(s:Int):Prop:=1<=ab s/\ab s<=n
def Hv(t u:gY):List Int:=t.map<|led u
def TT.len{n:Nat}{t:gY}(h:TT n t):(AC t)=n:=by simpa using(KS.mp h).1
def TT.sg{n:Nat}{t:gY}(h:TT n t){x:Int}(a:x∈t):SG n x:=(KS.mp h).2.1 _ (rP a)
def TT.tok{n:Nat}{t:gY}(h:TT n t):TOk n t:=⟨h.len,λx a=>h.sg a⟩
def VY{n:Nat}{s:Int}(h:SG n s):s≠0:=by rintro rfl;have:=h.1;simp[ab]at this
def W5{n:Nat}{s:Int}(h:SG n s):SG n (-s):=by unfold SG;rw[kF];exact h
def mC{n:Nat}{s:Int}(h:SG n s):∃k:Nat,k<n/\(s=(k:Int)+1\/s= -((k:Int)+1)):=by
 have:=h;unfold SG ab at this;split at this
 .exact⟨(-s-1).toNat,by omega,.inr<|by omega⟩
 exact⟨(s-1).toNat,by omega,.inl<|by omega⟩
def KC{n k:Nat}(h:k<n):SG n ((k:Int)+1):=by unfold SG;rw[pX<|by lia];lia
def kT(t:gY)(k:Nat):led t ((k:Int)+1)=t.getD k 0:=by unfold led;rw[ie<|by lia,show((k:Int)+1-1).toNat=k by lia]
def lO(t:gY)(k:Nat):led t (-((k:Int)+1))= -t.getD k 0:=by unfold led;rw[iC<|by lia,show(- -((k:Int)+1)-1).toNat=k by lia]
def xM{n:Nat}(t:gY){s:Int}(h:SG n s):led t (-s)= -led t s:=by
 obtain⟨k,_,rfl|rfl⟩:=mC h
 .rw[kT,lO]
 rw[sL,kT,lO,sL]
def FH{n:Nat}{t:gY}(a:(AC t)=n){s:Int}(h:SG n s):ab (led t s)=(t.map ab).getD ((ab s).toNat-1) 0:=by
 obtain⟨k,hk,rfl|rfl⟩:=mC h
 .rw[kT,pX (i:=(k:Int)+1)<|by lia,show(((k:Int)+1).toNat-1)=k by lia];simp[lJ,a,hk]
 rw[lO,kF,FG<|by lia,show(((k:Int)+1).toNat-1)=k by lia];simp[lJ,a,hk]
def TT.led{n:Nat}{t:gY}(h:TT n t){s:Int}(a:SG n s):SG n (led t s):=Yd h.tok a.1 a.2
def Lu{n:Nat}{t:gY}(h:TT n t)(u:gY){s:Int}(b:SG n s):PV.led (Hv t u) s=PV.led u (PV.led t s):=by
 obtain⟨k,hk,rfl|rfl⟩:=mC b
 .rw[kT,kT];simp[Hv,lJ,h.len,hk]
 have a:t.getD k 0∈t:=lS (by rw[h.len];exact hk);rw[lO,lO,xM u<|h.sg a];simp[Hv,lJ,h.len,hk]
def TT.Hv{n:Nat}{t u:gY}(h:TT n t)(a:TT n u):TT n (Hv t u):=by
 unfold TT
 have e:(PV.Hv t u).map ab=(t.map ab).map λj=>(u.map ab).getD (j.toNat-1) 0:=by unfold PV.Hv;rw[ji,ji];refine oT λx d=>?_;exact FH a.len<|h.sg d
 rw[e];refine(h.map _).trans (fJ (DW ?_) a);apply AK
 .simp[st,a.len]
 intro i h1 f;have c:i<n:=by simpa[st]using h1
 have b:((1:Int)+(i:Int)).toNat-1=i:=by lia
 simp only[st,ji,AI,gf,aW,b];simp[lJ,a.len,c]
def Aq{n:Nat}{t:gY}(h:TT n t){s r:Int}(g:SG n s)(f:SG n r)(e:PV.led t s=PV.led t r):s=r:=by
 have k:=(KS.mp h).2.2
 have c:∀{i j:Nat},i<n->j<n->ab (t.getD i 0)=ab (t.getD j 0)->i=j:=λ{i j} a b e=>by
  have l:=h.len
  have:=(Ex (xs:=t.map ab) (i:=i) (j:=j) (h₀:=by simpa[l]using a) (h₁:=by simpa[l]using b) k).mp (by simp only[AI];simpa[lJ,l,a,b]using e)
  exact this
 have d:∀{i:Nat},i<n->t.getD i 0≠0:=λ{i} a=>VY<|h.sg<|lS (by rw[h.len];exact a);obtain⟨i,a,rfl|rfl⟩:=mC g<;>obtain⟨j,b,rfl|rfl⟩:=mC f
 .rw[kT,kT]at e;rw[c a b<|by rw[e]]
 .rw[kT,lO]at e;have:=c a b (by rw[e,kF]);subst this;exact absurd (show t.getD i 0=0 by lia)<|d a
 .rw[kT,lO]at e;have:=c a b (by rw[<-e,kF]);subst this;exact absurd (show t.getD i 0=0 by lia)<|d a
 rw[lO,lO]at e;rw[c a b<|by rw[show t.getD i 0=t.getD j 0 by lia]]
def UN{n:Nat}{t u:gY}(h1:(AC t)=n)(a:(AC u)=n)(h:∀s,SG n s->PV.led t s=PV.led u s):t=u:=by apply AK (by rw[h1,a]);intro i b c;have:=h _ (KC (n:=n) (k:=i)<|by lia);rw[kT,kT]at this;simpa[lJ,b,c]using this
def wy(n:Nat):(st n).length=n:=by simp[st]
def aaO(n:Nat):TT n (st n):=by
 have:(st n).map ab=st n:=by
  conv=>rhs;rw[<-rO (st n)]
  refine oT λx a=>?_;have:=Mi.mp a;exact pX (by lia)
 unfold TT;rw[this]
def Rh{n:Nat}{s:Int}(h:SG n s):PV.led (st n) s=s:=by
 obtain⟨k,hk,rfl|rfl⟩:=mC h
 .rw[kT];simp[st,lJ,hk];lia
 rw[lO];simp[st,lJ,hk];lia
def BK(n:Nat)(t w:gY):Prop:=AC w=n/\∀s,SG n s->PV.led w (PV.led t s)=s
def BK.tt{n:Nat}{t w:gY}(h:BK n t w)(f:TT n t):TT n w:=by
 refine(Lc (st n) (w.map ab) (VX n) (λx g=>?_)<|by simp[wy,h.1]).symm;have i:=Mi.mp g;have c:SG n x:=by unfold SG;rw[pX<|by lia];lia
 have e:=h.2 x c;have a:=f.led c;have b:ab (PV.led w<|PV.led t x)=x:=by rw[e,pX<|by lia]
 rw[FH h.1 a]at b;rw[<-b];have d:(ab<|PV.led t x).toNat-1<(w.map ab).length:=by have:=a.2;have:=a.1;rw[jl,h.1];lia
 exact lS d
def BK.sym{n:Nat}{t w:gY}(h:BK n t w)(b:TT n t):BK n w t:=by refine⟨b.len,λs a=>?_⟩;have c:=h.tt b;exact Aq c (b.led<|c.led a) a<|h.2 _ (c.led a)
def BK.JM{n:Nat}{t w:gY}(h:BK n t w)(b:TT n t):Hv t w=st n:=
 UN (n:=n) (by simp[Hv,b.len]) (wy n) λs a=>by rw[Lu b w a,h.2 s a,Rh a]
def afU:∀(k:Nat)(r f t:gY),AC r=k->(∀x∈r,0<=x)->t∈vE k r f->(t.map ab).Perm (f.map ab++r):=by
 intro m
 induction m with
 |zero=>intro r f t d _ h;simp[vE]at h;subst h;rw[Of.mp d];simp
 |succ k i=>
  intro r f t d b h;simp only[vE,Ac,oE,yv]at h;obtain⟨v,hv,h⟩:=h;have c:(r.eraseIdx v).length=k:=by rw[DZ,ie hv];lia
  have g:∀x∈r.eraseIdx v,0<=x:=λx a=>b x<|List.mem_of_mem_eraseIdx a;have a:=b _ (lS hv)
  have fin:∀y:Int,ab y=r.getD v 0->(ef ab (f++[y])++r.eraseIdx v).Perm (f.map ab++r):=λy l=>by
   rw[kQ,oo];refine NO _ ?_;simp only[jI,sH,cX,sN,l];have e:r.getD v 0=r[v]:=by simp[lJ,hv]
   rw[e];rw[List.eraseIdx_eq_take_drop_succ];have j:r=r.take v++r[v]::r.drop (v+1):=by rw[<-yM hv,sU]
   conv=>rhs;rw[j]
   exact Tn.symm
  rcases h with h|h
  .exact(i _ _ t c g h).trans (fin _ (by rw[AR];exact pX a))
  exact(i _ _ t c g h).trans (fin _ (by rw[r9,AR];exact FG a))
def Ku{n:Nat}{t:gY}(h:t∈vE n (st n) []):TT n t:=by have:=afU n (st n) [] t (wy n) (λx a=>by have:=Mi.mp a;lia) h;unfold TT;simpa using this
def lc(t c:gY):List Int:=(lC ED<|(c.map<|led t).map D.int).map Ls
def Jv(t c d:gY):Prop:=d.Perm (c.map<|led t)/\(d.map ab).Pairwise (· < ·)
def tZ{m:List D}{l:gY}(h:m.Perm (l.map D.int)):m=(m.map Ls).map D.int/\(m.map Ls).Perm l:=by
 obtain⟨k,rfl⟩:=xS h;have e:(k.map D.int).map Ls=k:=by rw[ji];exact rO k
 rw[e];refine⟨rfl,?_⟩;have:=h.map Ls
 rwa [e,ji,show ef (Ls∘D.int) l=l from rO l]at this
def zB{n:Nat}{t c:gY}(g:TT n t)(h1:(c.map ab).Nodup)(f:∀s∈c,SG n s):((c.map<|led t).map ab).Nodup:=by
 rw[ji,bI,kP];rw[bI,kP]at h1;refine h1.imp_of_mem λ{a b} i j k e=>k ?_;have e:ab (led t a)=ab (led t b):=e;have h:=f a i;have d:=f b j;by_cases q:led t a=led t b
 .rw[Aq g h d q]
 have:led t a=led t (-b):=by rw[xM t d];unfold ab at e;split at e<;>split at e<;>lia
 rw[Aq g h (W5 d) this,kF]
def oh{n:Nat}{t c:gY}(j:TT n t)(g:Sr n c):Jv t c (lc t c)/\(lC ED<|(c.map<|led t).map D.int)=(lc t c).map D.int:=by
 obtain⟨e,i⟩:=tZ<|jA ED<|(c.map<|led t).map D.int;refine⟨⟨i,?_⟩,e⟩;have k:=zB j (zJ g.2.1) λs d=>g.2.2 s d;have f:((lc t c).map ab).Nodup:=(i.map ab).symm.nodup k;have d:=uF<|(c.map<|led t).map D.int;rw[e,kP]at d;rw[kP];rw[bI,kP]at f;refine(d.and f).imp λ{a b} h=>?_;have h1:ab a<=ab b:=h.1;have l:ab a≠ab b:=h.2
 lia
def Jv.uniq{n:Nat}{t c d e:gY}(h1:Jv t c d)(f:Jv t c e):d=e:=by have g:=h1.2;have h:=f.2;rw[kP]at g h;refine(h1.1.trans f.1.symm).eq_of_pairwise (le:=λa b=>ab a<ab b) (λa b _ _ x y=>absurd x<|by lia) g h
def Jv.cl{n:Nat}{t c d:gY}(h:Jv t c d)(f:TT n t)(a:Sr n c):Sr n d:=by
 refine⟨λe=>a.1 ?_,h.2,λs b=>?_⟩
 .have:=h.1.length_eq;rw[e]at this;simp at this;exact Of.mp this.symm
 obtain⟨x,g,rfl⟩:=kO.mp<|h.1.mem_iff.mp b;exact f.led<|a.2.2 x g
def BD{n:Nat}{t c:gY}(b:TT n t)(a:Sr n c):Sr n (lc t c):=(oh b a).1.cl b a
def abq{n:Nat}{t u c:gY}(b:TT n t)(e:TT n u)(a:Sr n c):lc u (lc t c)=lc (Hv t u) c:=by have h1:=(oh b a).1;have d:=(oh e<|BD b a).1;refine Jv.uniq (n:=n) (t:=Hv t u) (c:=c) ⟨d.1.trans ?_,d.2⟩ (oh (b.Hv e) a).1;refine(h1.1.map _).trans (DW ?_);rw[ji];exact oT λs f=>(Lu b u<|a.2.2 s f).symm
def Wc{n:Nat}{c:gY}(a:Sr n c):lc (st n) c=c:=by
 refine Jv.uniq (n:=n) (t:=st n) (c:=c) (oh (aaO n) a).1 ⟨DW ?_,a.2.1⟩
 conv=>lhs;rw[<-rO c]
 exact oT λs b=>(Rh<|a.2.2 s b).symm
def Wd{n:Nat}{t w c:gY}(a:TT n t)(d:BK n t w)(b:Sr n c):lc w (lc t c)=c:=by rw[abq a (d.tt a) b,d.JM a,Wc b]
def LR(t:gY)(cs a:iI):Prop:=a.Perm (cs.map<|lc t)/\Fl a
def LR.rd{n:Nat}{t w:gY}{i j:iI}(h:LR t i j)(g:TT n t)(k:BK n t w)(f:mZ n i):mZ n j:=by
 refine⟨f.1,⟨h.1.symm.nodup ?_,λd hd=>?_⟩,h.2,by rw[h.1.length_eq,jl];exact f.2.2.2⟩
 .have p:=f.2.1.1;rw[bI,kP];refine p.imp_of_mem λ{a b} m o q e=>q ?_;rw[<-Wd g k (f.2.1.2 a m),e,Wd g k<|f.2.1.2 b o]
 obtain⟨c,l,rfl⟩:=kO.mp<|h.1.mem_iff.mp hd;exact BD g<|f.2.1.2 c l
def uv(n:Nat)(a:gY):Prop:=AC a=n/\∀x∈a,x=0\/x=1
def J9:∀{n:Nat}{a:gY},a∈mY n↔uv n a:=λ{n a}=>by
 constructor
 .exact λh=>uq h
 intro h
 induction n generalizing a with
 |zero=>rw[Of.mp h.1];simp[mY]
 |succ n f=>
  have b:a≠[]:=λe=>by have:=h.1;rw[e]at this;simp at this
  have e:=HW b;have c:=h.2 _ (ib b);have:=f (a:=a.dropLast) ⟨by rw[ID,h.1];rfl,λx d=>h.2 x<|NA _ d⟩;simp only[mY,Ac];refine⟨a.dropLast,this,?_⟩;rcases c with z|z
  .rw[z]at e;rw[e];simp
  rw[z]at e;rw[e];simp
def EN(w a:gY):List Int:=w.map λs=>if CJ a s=C then 1 else 0
def EC{n:Nat}{a:gY}(c:uv n a){s:Int}(b:SG n s):CJ a (-s)=!CJ a s:=by
 have d:a.getD ((ab s).toNat-1) 0=0\/a.getD ((ab s).toNat-1) 0=1:=c.2 _ (lS (by have:=b.1;have:=b.2;rw[c.1];omega));have f:=VY b;unfold CJ;rw[kF];by_cases h:0<s
 .rw[iC<|by omega,ie<|by omega];rcases d with e|e<;>rw[e]<;>rfl
 rw[ie<|by omega,iC<|by omega];rcases d with e|e<;>rw[e]<;>rfl
def EY{n:Nat}{w:gY}(b:TT n w)(a:gY):uv n (EN w a):=by refine⟨by simp[EN,b.len],λx c=>?_⟩;obtain⟨s,_,rfl⟩:=kO.mp c;split<;>simp
def Pq{n:Nat}{w a:gY}(c:TT n w)(d:uv n a){s:Int}(f:SG n s):CJ (EN w a) s=CJ a (led w s):=by
 have b:∀k:Nat,k<n->CJ (EN w a) ((k:Int)+1)=CJ a (led w<|(k:Int)+1):=λk hk=>by
  rw[kT];have e:(EN w a).getD k 0=if CJ a (w.getD k 0)=C then 1 else 0:=by simp[EN,lJ,c.len,hk]
  conv=>lhs;unfold CJ
  rw[pX<|by lia,show(((k:Int)+1).toNat-1)=k by lia,e,ie (show(k:Int)+1>0 by lia)];cases CJ a (w.getD k 0)<;>rfl
 obtain⟨k,hk,rfl|rfl⟩:=mC f
 .exact b k hk
 have h1:=KC hk;rw[EC (EY c a) h1,b k hk,xM w h1,EC d<|c.led h1]
def Qj{l m:gY}(p:Int->Bool)(h:l.Perm m):l.any p=m.any p:=by rw[sM,Cn,Cn];exact⟨λ⟨x,a,e⟩=>⟨x,h.mem_iff.mp a,e⟩,λ⟨x,a,e⟩=>⟨x,h.mem_iff.mpr a,e⟩⟩
def SY{a:Type}{l:List a}{p q:a->Bool}(h:∀x∈l,p x=q x):l.any p=l.any q:=by
 induction l with
 |nil=>rfl
 |cons x l c=>rw[sO,sO,h x jt,c λy b=>h y<|jx _ b]
def Ry{n:Nat}{t w a c:gY}(b:TT n t)(e:BK n t w)(f:uv n a)(d:Sr n c):kC (EN w a) (lc t c)=kC a c:=by unfold kC;rw[Qj _ (oh b d).1.1,tj];refine SY λs g=>?_;have h:=d.2.2 s g;show CJ (EN w a) (led t s)=CJ a s;rw[Pq (e.tt b) f<|b.led h,e.2 s h]
def S6{n:Nat}{t w a:gY}{d f:iI}(j:TT n t)(k:BK n t w)(g:uv n a)(i:mZ n d)(h:LR t d f):f.all (kC<|EN w a)=d.all (kC a):=by
 rw[L6 λc=>h.1.mem_iff,rg,sM,ku,ku];refine Au λc=>?_;constructor
 .intro e b;rw[<-Ry j k g (i.2.1.2 c b)];exact e b
 intro e b;exact(Ry j k g<|i.2.1.2 c b).trans (e b)
def Wf{n:Nat}{b c a:gY}(h1:TT n b)(d:TT n c)(e:uv n a):EN c (EN b a)=EN (Hv c b) a:=by unfold Hv EN;rw[ji];refine oT λs f=>?_;have:=Pq h1 e<|d.sg f;unfold EN at this;simp only[aW,this]
def We{n:Nat}{a:gY}(c:uv n a):EN (st n) a=a:=by
 apply AK (by simp[EN,st,c.1]);intro i h1 b;have f:i<n:=by rw[<-c.1];exact b
 have d:=c.2 _ (vO b)
 have e:CJ a ((i:Int)+1)=(a[i]==1):=by unfold CJ;rw[pX<|by lia,show(((i:Int)+1).toNat-1)=i by lia,ie<|by lia];simp[lJ,b]
 simp only[EN,st,AI,gf,pw 1 (i:Int),e];rcases d with z|z<;>rw[z]<;>rfl
def L7:∀n:Nat,n<6->(mY n).Nodup:=by decide+kernel
def US{n:Nat}(z:n<=5){t w:gY}{j p:iI}(d:TT n t)(i:BK n t w)(q:mZ n j)(h:LR t j p):((lZ n j).map<|EN w).Perm (lZ n p):=by
 have k:=i.tt d
 have f:∀{a:gY},uv n a->EN t (EN w a)=a:=λ{a} g=>by rw[Wf k d g,i.JM d,We g]
 have c:∀{a:gY},uv n a->EN w (EN t a)=a:=λ{a} g=>by rw[Wf d k g,(i.sym d).JM k,We g]
 refine(Nz ?_<|(L7 n<|by lia).filter _).mpr λb=>?_
 .have v:(lZ n j).Nodup:=(L7 n<|by lia).filter _;rw[bI,kP];refine v.imp_of_mem λ{x y} s u m e=>m ?_;rw[<-f (J9.mp (oD.mp s).1),e,f<|J9.mp (oD.mp u).1]
 rw[kO];constructor
 .rintro⟨a,g,rfl⟩;obtain⟨h1,l⟩:=oD.mp g;exact oD.mpr ⟨J9.mpr<|EY k a,(S6 d i (J9.mp h1) q h).trans l⟩
 intro r;obtain⟨h1,l⟩:=oD.mp r;have o:=J9.mp h1;refine⟨EN t b,oD.mpr ⟨J9.mpr<|EY d b,?_⟩,c o⟩;have:=S6 d i (EY d b) q h;rw[c o]at this;exact this.symm.trans l
def RJ(b:FO)(a:Dn)(d:D):Prop:= ∃o,b a=J (o,a)/\res a o=J d
def FJ(b:FO)(a:Dn)(d:D):Prop:= ∃o,b a=J (o,a)/\res a o=J d/\yt a o=J (d,Y)
def FJ.r{fo:FO}{δ:Dn}{d:D}(h:FJ fo δ d):RJ fo δ d:=let⟨o,a,b,_⟩:=h;⟨o,a,b⟩
def jV{i:Nat}{δ:Dn}{d:D}(h:δ[i]?=J (J (d,Y))):FJ (gR i) δ d:=⟨.slot i,by unfold gR;rw[h],by unfold res;simp[h],by simp[h]⟩
def jR{i:Nat}{δ:Dn}{d:D}{b:Bool}(h:δ[i]?=J (J (d,b))):RJ (gR i) δ d:=⟨.slot i,by unfold gR;rw[h],by unfold res;simp[h]⟩
def jE{f:F}{δ:Dn}{d:D}{b:Bool}(h:f δ=J ((d,b),δ)):FJ (hC f) δ d:=⟨.val (d,b),iq h,rfl,rfl⟩
def MC{b:OO}{fa:FO}{δ:Dn}{a:D}{r:D×Bool}{outs:Dn}(h:b [(a,Y)]=J (r,outs))(e:FJ fa δ a):hW b [fa] δ=J (r,δ):=by obtain⟨o,h1,_,c⟩:=e;refine(jr (oP h1) (args:=[a].map λd=>(d,Y)) (by simp[c]) (by rw[qL];exact mT) h).trans ?_;rw[C0]
def CK{c:OO}{fa fb:FO}{δ:Dn}{a b:D}{r:D×Bool}{outs:Dn}(h:c [(a,Y),(b,Y)]=J (r,outs))(f:FJ fa δ a)(g:FJ fb δ b):hW c [fa,fb] δ=J (r,δ):=by obtain⟨o,h1,_,e⟩:=f;obtain⟨j,k1,_,i⟩:=g;refine(jr (mP h1 k1) (args:=[a,b].map λd=>(d,Y)) (by simp[e,i]) (by rw[qL];exact mT) h).trans ?_;rw[C0]
def jO{g:D->D->Option (D×Bool)}{fa fb:FO}{δ:Dn}{a b:D}{r:D×Bool}(h:g a b=J r)(d:RJ fa δ a)(e:RJ fb δ b):hU g fa fb δ=J (r,δ):=by obtain⟨o,h1,c⟩:=d;obtain⟨f,k1,k2⟩:=e;exact jQ h1 k1 c k2 h
def jN{g:D->Option (D×Bool)}{fa:FO}{δ:Dn}{a:D}{r:D×Bool}(h:g a=J r)(c:RJ fa δ a):pe g fa δ=J (r,δ):=by obtain⟨o,h1,b⟩:=c;rw[Xh,h1];simp only[jj];rw[b];simp only[jj];rw[h];rfl
def jC{g:D->Option (D×Bool)}{fa:FO}{δ:Dn}{a:D}{r:D×Bool}(h:g a=J r)(c:RJ fa δ a):iw (g1 g) [fa] δ=J (r,δ):=by obtain⟨o,h1,b⟩:=c;exact mG (ds:=[a]) (oP h1) (by simp[b]) h
def xy{f:F}{np:Nat}{args:List (D×Bool)}{r:D×Bool}{δ:Dn}(h1:(AC args)=np/\np<=np/\(args.zipIdx.all λp=>!(p.1.2&&([]:List Nat).contains p.2))=C)(a:f (args.map J++ac (np-np) I)=J (r,δ)):Q1 np np [] (gZ (jH f) ip) args=J (r,iT args δ):=
 jg h1 (iz<|jm a)
def VZ{n:Nat}{s:Int}(h:SG n s):s≠0/\ -(n:Int)<=s/\s<=n:=by obtain⟨k,hk,rfl|rfl⟩:=mC h<;>lia
def abp{n:Nat}{u:gY}(d:(AC u)=n){s:Int}(h:SG n s):oA [enc u,pI s]=J ((.int<|led u s,Y),[eN u,ii s]):=by obtain⟨a,b,c⟩:=VZ h;exact Yc u s a (by rw[d];exact b) (by rw[d];exact c)
def Q7(f:Int->Int)(l:gY):(l.map D.int).map (λd=>D.int<|f<|Ls d)=(l.map f).map D.int:=by rw[ji,ji];rfl
def zv{caps:jM}{a:B0}{f:F}{δ δ1:Dn}{l:gY}{args:List D}(g:Int->Int)(h1:a δ=J (l.map D.int,δ1))(b:jS δ1 (caps.map .slot)=J (args.map λd=>(d,Y)))(c:(AC args)=AC caps)
  (h:∀x∈l,∃o,f (Aj args++[ii x])=J ((.int<|g x,o),Aj args++[ii x]))(e:(AC l)<=10000):
  iL caps 1 a (hG<|AC caps) je (jn f) δ=J ((.lst<|(l.map g).map D.int,C),δ1):=by
 rw[um (λd=>.int (g<|Ls d)) h1 b c (λd hd=>by obtain⟨x,i,rfl⟩:=kO.mp hd;exact h x i)<|by simpa using e,Q7]
def afc{n:Nat}(b:n<=5){t:gY}(a:TT n t):jW [pI n,enc t]=J ((.bl C,Y),[ii n,eN t]):=by
 have h:tB n (cD t)=C:=by rw[Pe];simp only[lB,la,ku,qw,ji];refine⟨λd hd=>?_,a⟩;obtain⟨x,_,rfl⟩:=kO.mp hd;rfl
 rw[tL n (cD t) (λl e=>by cases e;rw[jl,a.len];lia),h]
def SD{n:Nat}(a:n<=5){t:gY}(b:TT n t):mx [pI n,enc t]=J ((.T2,Y),[ii n,eN t]):=by
 have:J4 Zp (gZ EG ip) ip [ii n,eN t]=J (.nx [ii n,eN t]):=
  (lY<|kM<|jk<|CK (afc a b) (jV H)<|jV H).trans rfl
 have e:nP [ii n,eN t]=J (.nx [ii n,eN t]):=(gX this).trans H;simp only[mx,Q1];rw[ie ⟨rfl,by decide,rfl⟩];show(match nP [ii n,J<|enc t]with|some (.rt r δ)=>J (r,iT _ δ)|some (.nx δ)=>J ((D.T2,Y),iT _ δ)|_=>I)=_;rw[e];rfl
noncomputable def M1(t:gY)(j:Nat):Int:=if t.getD j 0>0 then(j:Int)+1 else -((j:Int)+1)
def Mq(n:Nat)(t:gY)(k:Nat)(w:gY):Prop:=AC w=n/\∀j,j<k->w.getD ((ab<|t.getD j 0).toNat-1) 0=M1 t j
def Yl{n:Nat}{t w:gY}(a:TT n t)(h:Mq n t n w):BK n t w:=by
 refine⟨h.1,λs g=>?_⟩
 have one:∀j,j<n->led w (t.getD j 0)=(j:Int)+1:=λj b=>by
  have c:=a.sg<|lS (l:=t) (k:=j) (by rw[a.len];exact b);have e:=h.2 j b;unfold M1 at e;unfold led;unfold SG at c;by_cases d:t.getD j 0>0
  .rw[ie d]at e ⊢;rw[pX<|by lia]at e;rw[show(t.getD j 0-1).toNat=(t.getD j 0).toNat-1 by lia,e]
  have f:ab (t.getD j 0)= -t.getD j 0:=by unfold ab;split<;>lia
  rw[iC d]at e ⊢;rw[f]at e c;rw[show(-t.getD j 0-1).toNat=(-t.getD j 0).toNat-1 by lia,e]
  lia
 obtain⟨k,hk,rfl|rfl⟩:=mC g
 .rw[kT];exact one k hk
 rw[xM t<|KC hk,xM w<|a.led<|KC hk,kT,one k hk]
def RA{n:Nat}{t w:gY}(a:TT n t){k:Nat}(hk:k<n)(h:Mq n t k w):Mq n t (k+1) (w.set ((ab<|t.getD k 0).toNat-1)<|M1 t k):=by
 have b:∀j,j<n->1<=ab (t.getD j 0)/\ab (t.getD j 0)<=n:=λj c=>a.sg<|lS (l:=t) (k:=j) (by rw[a.len];exact c);refine⟨by simp[h.1],λj c=>?_⟩;have d:=b k hk;have f:=b j (by lia);by_cases e:j=k
 .subst e;rw[lJ,vq<|by rw[h.1];lia];rfl
 have ne:ab (t.getD j 0)≠ab (t.getD k 0):=λq=>e (by
  have l:=a.len
  have:=(Ex (xs:=t.map ab) (i:=j) (j:=k) (h₀:=by simp[l];lia) (h₁:=by simp[l];lia) (KS.mp a).2.2).mp (by simp only[AI];simpa[lJ,l,hk,show j<n by lia]using q)
  exact this)
 rw[lJ,sJ<|by lia,<-lJ];exact h.2 j (by lia)
abbrev fbB:FS:=aas
def YE{n:Nat}{t w:gY}(c:TT n t){k:Nat}(hk:k<n)(f:(AC w)=n):fbB [eN t,IX w,ii<|(k:Int)+1,ii<|t.getD k 0]=J (.nx [eN t,IX<|w.set ((ab<|t.getD k 0).toNat-1)<|M1 t k,ii<|(k:Int)+1,ii<|t.getD k 0]):=by
 have b:=c.sg<|lS (l:=t) (k:=k) (by rw[c.len];exact hk)
 have d:Jn (fT VE) (iM 2) (pe xZ<|gR 2) [eN t,IX w,ii<|(k:Int)+1,ii<|t.getD k 0]=J ((.int<|M1 t k,Y),[eN t,IX w,ii<|(k:Int)+1,ii<|t.getD k 0]):=by
  rw[aaU,jk (o:=Y)<|jO (TZ _ _) (jV H).r (jE H).r];simp only[jj];unfold M1;by_cases a:t.getD k 0>0
  .rw[ie<|by simpa using a,ie a];rfl
  rw[iC<|by simpa using a,iC a];rfl
 have e:hC Zv [eN t,IX w,ii<|(k:Int)+1,ii<|t.getD k 0]=J (.val (.int<|ab (t.getD k 0)-1,Y),[eN t,IX w,ii<|(k:Int)+1,ii<|t.getD k 0]):=rfl
 have g:EO (w.map D.int).length (ab (t.getD k 0)-1)=J ((ab<|t.getD k 0).toNat-1):=by
  have:=b.1;have:=b.2;unfold EO;rw[jl,f,ie<|by lia,ie<|by lia]
  congr 1;lia
 refine(gX (δ1:=[eN t,IX<|w.set ((ab<|t.getD k 0).toNat-1)<|M1 t k,ii<|(k:Int)+1,ii<|t.getD k 0]) ?_).trans rfl;unfold wD;rw[d];simp only[jj,D7,cW];rw[e];simp only[jj,PN,D7,cW];rw[g];simp[IX,List.map_set]
def adH{n:Nat}{t:gY}(f:TT n t):∀(m k:Nat)(w:gY)(x y:Sl),k+m=n->Mq n t k w->∃b c d,Mq n t n b/\pZ F4 fbB ((bi k m).map λ(j:Nat)=>.tup [.int<|(j:Int)+1,.int<|t.getD j 0]) [eN t,IX w,x,y]=J (.nx [eN t,IX b,c,d]):=by
 intro i
 induction i with
 |zero=>intro k w x y h a;exact⟨w,x,y,by rw[show k=n by lia]at a;exact a,rfl⟩
 |succ m g=>intro k w x y h a;obtain⟨b,c,d,h1,e⟩:=g (k+1) _ (ii<|(k:Int)+1) (ii<|t.getD k 0) (by lia) (RA f (by lia) a);refine⟨b,c,d,h1,?_⟩;rw[AF,jI];unfold pZ;rw[show F4 (.tup [.int<|(k:Int)+1,.int<|t.getD k 0]) [eN t,IX w,x,y]=J [eN t,IX w,ii<|(k:Int)+1,ii<|t.getD k 0]from H];simp only[jj];rw[YE f (by lia) a.1];exact e
def YK(t:gY):(((t.map D.int).zipIdx).map λq=>D.tup [.int (1+q.2),q.1])=(bi 0<|AC t).map λ(j:Nat)=>.tup [.int<|(j:Int)+1,.int<|t.getD j 0]:=by
 apply AK
 .simp
 intro i h1 b;have a:i<(AC t):=by simpa using h1
 simp[lJ,a,pw]
def L0{n:Nat}{t:gY}(b:TT n t):∃w,BK n t w/\U9 [enc t]=J (enc w,[eN t]):=by
 obtain⟨w,x,y,h,e⟩:=adH b n 0 t I I (by lia) ⟨b.len,λj c=>absurd c<|by lia⟩;refine⟨w,Yl b h,?_⟩;refine jg (δ:=[eN t,IX w,x,y]) ⟨rfl,by decide,rfl⟩ ?_;refine(gX (δ1:=[eN t,IX t,I,I]) H).trans ((gX<|(mI (δ1:=[eN t,IX t,I,I]) (ds:=(bi 0 n).map λ(j:Nat)=>.tup [.int<|(j:Int)+1,.int<|t.getD j 0]) ?_).trans e).trans ?_)
 .show J (((t.map D.int).zipIdx).map λq=>D.tup [.int (1+q.2),q.1],([eN t,IX t,I,I]:Dn))=_;rw[YK,b.len]
 exact iz (jm<|jC (a:=.lst (w.map D.int)) H<|jR H)
def Ys(a b:gY):BP (cD a) (cD b)=J (.bl (!decide (a=b)),Y):=by unfold BP;rw[ie<|by rw[qu,qu];decide,BZ]
def Fh(a b:gY):I8 (cD a) (cD b)=J (.bl<|decide<|a=b,Y):=by unfold I8;rw[ie<|by rw[qu,qu];decide,BZ]
def TC{c:FT}{b:FS}{k:Nat}{d a δ2:Dn}(h:c d=J (C,a))(e:b a=J (.nx δ2)):nQ c b (k+1) d=nQ c b k δ2:=by rw[nQ,h];simp only[jj,kz];rw[e];rfl
def TF{b:FT}{d:FS}{k:Nat}{c a:Dn}(h:b c=J (Y,a)):nQ b d (k+1) c=J (.nx a):=by rw[nQ,h];rfl
def Pn{n:Nat}{t c:gY}(h:n<=5)(b:TT n t)(a:Sr n c):rE (.lst<|(c.map<|led t).map D.int)=J (.lst<|(lc t c).map D.int,C):=by
 have:=a.len;show(if((c.map<|led t).map D.int).all Jl=C/\(((c.map<|led t).map D.int).map aD).Nodup/\((c.map<|led t).map D.int).length<64 then J (D.lst<|lC ED<|(c.map<|led t).map D.int,C)else I)=_
 have e:((c.map<|led t).map D.int).all Jl=C:=by rw[ku];intro d hd;obtain⟨x,_,rfl⟩:=kO.mp hd;rfl
 have f:(((c.map<|led t).map D.int).map aD).Nodup:=by rw[ji];exact zB b (zJ a.2.1) λs g=>a.2.2 s g
 rw[ie ⟨e,f,by simp;lia⟩,(oh b a).2]
def Lr{n:Nat}(f:n<=5){t c:gY}(e:TT n t)(d:Sr n c):kZ [enc c,enc t]=J (enc<|lc t c,[eN c,eN t]):=by have:=d.len;refine xy ⟨rfl,by decide,rfl⟩<|jC (a:=.lst ((lc t c).map D.int)) H (jE (b:=C)<|jC (Pn f e d) (jE (b:=C)<|zv (args:=[cD t]) (led t) H H H (λx g=>⟨Y,?_⟩)<|by lia).r).r;exact CK (abp e.len<|d.2.2 x g) (jV H)<|jV H
def Vd{a:jM}{b:B0}{f:F}{δ δ1:Dn}{l:iI}{args:List D}(g:List Int->List Int)(h1:b δ=J (l.map cD,δ1))(c:jS δ1 (a.map .slot)=J (args.map λd=>(d,Y)))(e:(AC args)=AC a)
  (h:∀x∈l,∃o,f (Aj args++[J (cD x,Y)])=J ((cD<|g x,o),Aj args++[J (cD x,Y)]))(i:(AC l)<=10000):
  iL a 1 b (hG<|AC a) je (jn f) δ=J ((.lst<|(l.map g).map cD,C),δ1):=by
 rw[um (λd=>cD<|g<|Hd d) h1 c e (λd hd=>by obtain⟨x,j,rfl⟩:=kO.mp hd;rw[oH];exact h x j)<|by simpa using i];rw[ji,ji,oT (g:=cD∘g) λx _=>by simp only[aW,oH]]
def Am{cs:iI}(h:nL (cs.map cD)=C)(b:(AC cs)<=10000):∃a:List (List Int),a.Perm cs/\Fl a/\jz (cs.map cD)=J (.lst<|a.map cD,C):=by
 obtain⟨a,e,c⟩:=B9<|jA A1<|cs.map cD;refine⟨a,c,?_,?_⟩
 .have:=qF<|cs.map cD;rw[e,kP]at this;exact this
 unfold jz;rw[ie ⟨h,by rw[jl];exact nX b⟩,e]
def oy{f g:F}{δ:Dn}{a b:D×Bool}(h1:f δ=J (a,δ))(c:g δ=J (b,δ)):kH [f,g] δ=J ((.tup [a.1,b.1],Y),δ):=by rw[EI,show[f,g].map hC=[hC f,hC g]from H,mP (iq h1)<|iq c];simp[jP]
def Ri{n:Nat}{t:gY}{cs:iI}(g:TT n t)(f:mZ n cs):∃d,LR t cs d/\Fo [(Ag n cs,Y),enc t]=J ((Ag n d,Y),[rS n cs,eN t]):=by
 have i:=f.1;have j:=f.2.2.2
 obtain⟨d,m,o,e⟩:=Am (cs:=cs.map<|lc t) (qG _ λc k=>by obtain⟨x,h,rfl⟩:=kO.mp k;exact(BD g<|f.2.1.2 x h).1) (by simp;lia)
 refine⟨d,⟨m,o⟩,?_⟩;refine jg (δ:=[rS n cs,eN t,ii n,J (.tup<|cs.map cD,Y)]) ⟨rfl,by decide,rfl⟩ ?_;refine(gX (δ1:=[rS n cs,eN t,ii n,J (.tup<|cs.map cD,Y)]) H).trans ?_;refine(gX<|pF<|CK (SD i g) (jV H)<|jV H).trans (iz<|jm<|oy (a:=(.int n,Y)) (b:=(.tup<|d.map cD,Y)) H<|jC (a:=.lst (d.map cD)) H (jE (b:=C)<|jC e (jE (b:=C)<|Vd (l:=cs) (args:=[cD t]) (lc t) H H H (λx h=>⟨Y,?_⟩)<|by lia).r).r);exact CK (Lr i g<|f.2.1.2 x h) (jV H)<|jV H
theorem J6:∀(l:iI)(a:List D)(x y:Sl),(∀p∈l,∃i j,p=[i,j])->AC a+AC l<=1000->∃b c,jK zE je nJ (l.map cD) a [x,y]=J (a++l.map λp=>D.int<|p.getD 1 0,[b,c])
 |[],a,x,y,_,_=>⟨x,y,by simp[jK]⟩
 |p::l,a,x,y,h,d=>by obtain⟨i,j,rfl⟩:=h p jt;obtain⟨b,c,e⟩:=J6 l (a++[.int j]) (ii i) (ii j) (λq f=>h q<|jx _ f) (by simp at d ⊢;lia);refine⟨b,c,?_⟩;rw[jI,jK];rw[show zE (cD [i,j]) [x,y]=J [ii i,ii j]from H];simp only[jj,uI,kz,uJ];rw[show iM 1 [ii i,ii j]=J ((.int j,Y),[ii i,ii j])from H];simp only[jj];rw[ie<|uG<|by simp at d;lia];simp only[jj];rw[e];simp
def LX{a s b r:Int}(h:A1 (cD [b,r]) (cD [a,s])=Y):a<=b:=by
 rw[ze]at h;by_cases q:b<a
 .exact absurd (by simp[cT,cL,q]) h
 lia
def Q9{n:Nat}(N:n<=5){t c:gY}(m:TT n t)(j:Sr n c):∃L,jh [enc c,enc t]=J (enc<|lc t c,[eN c,L])/\L=eN t:=by
 have M:=j.len
 let pr:Int->List Int:=λs=>[ab<|led t s,led t s]
 obtain⟨f,k,B,e⟩:=Am (cs:=c.map pr) (qG _ λx C=>by obtain⟨y,_,rfl⟩:=kO.mp C;simp[pr]) (by simp;lia)
 have w:iL [1] 1 (jb<|iM 0) (hG 1) je aab [eN c,eN t,z7]=J ((.lst<|(c.map pr).map cD,z8),[eN c,eN t,z7]):=by
  refine(um (caps:=[1]) (args:=[cD t]) (l:=c.map D.int) (δ1:=[eN c,eN t,z7]) (λd=>cD<|pr<|Ls d) At At At (λd hd=>?_)<|by simp;lia).trans ?_
  rotate_left
  .rw[ji,ji];rfl
  obtain⟨x,C,rfl⟩:=kO.mp hd;obtain⟨a1,O,w⟩:=VZ<|j.2.2 x C;have g:OH (Aj [cD t]++[ii x])=J ((.int<|led t x,Y),Aj [cD t]++[ii x]):=CK (UK t x a1 (by rw[m.len];exact O)<|by rw[m.len];exact w) (jV At)<|jV At;exact⟨Y,oy (jC (V3 _) (jE g).r) g⟩
 have z:∀v:Sl,∃o u,jK zE je nJ (f.map cD) [] [z7,z7]=J (f.map λp=>D.int<|p.getD 1 0,[o,u]):=λv=>by
  obtain⟨o,u,e⟩:=J6 f [] z7 z7 (λp A=>by obtain⟨y,_,rfl⟩:=kO.mp<|k.mem_iff.mp A;exact⟨_,_,rfl⟩) (by rw[k.length_eq];simp;lia)
  exact⟨o,u,by simpa using e⟩
 obtain⟨o,u,z⟩:=z z7
 have T:(f.map λp=>p.getD 1 0)=lc t c:=by
  have g:(f.map λp=>p.getD 1 0).Perm (c.map<|led t):=by
   have:=k.map λp=>p.getD 1 0
   rwa [ji]at this
  have E:∀p∈f,p=[ab<|p.getD 1 0,p.getD 1 0]:=λp A=>by obtain⟨y,_,rfl⟩:=kO.mp<|k.mem_iff.mp A;rfl
  refine Jv.uniq (n:=n) (t:=t) (c:=c) ⟨g,?_⟩ (oh m j).1;have I:((f.map λp=>p.getD 1 0).map ab).Nodup:=(g.map ab).symm.nodup<|zB m (zJ j.2.1) λs B=>j.2.2 s B;rw[ji,kP];rw[ji,bI,kP]at I;refine(eT B I).imp_of_mem λ{p q} h1 G h=>?_;have H:=h.1;rw[E p h1,E q G]at H;have:=LX H;have U:=h.2;simp only[aW]at U ⊢
  lia
 refine⟨_,?_,rfl⟩;refine jg (δ:=[eN c,eN t,J (.lst<|(c.map pr).map cD,z8)]) ⟨rfl,by decide,rfl⟩ ?_;refine(gX<|iY (i:=2) w (show 2<3 by decide)).trans (iz<|jm<|jC (a:=.lst ((lc t c).map D.int)) At (jE (b:=z8) ?_).r);rw[nr (l:=f.map cD) (δ1:=[eN c,eN t,J (.lst<|(c.map pr).map cD,z8)]) (args:=[]) (fi:=jb<|iw (g1 ma) [gR 2]) ?_ At (by simp[iD]) z]
 .have Q:(f.map λp=>D.int<|p.getD 1 0)=(lc t c).map D.int:=by rw[<-T,ji];rfl
  rw[Q];rfl
 rw[TY,jC (show ma (.lst<|(c.map pr).map cD)=J (.lst<|f.map cD,z8)from e)<|jR At];rfl
def va(one a:gY)(j:Int):List Int:=GR<|(one++a).filter λk=>!(ab k==j)
def xH(one a:gY)(j:Int):List Int:=(lC A1<|(va one a j).map D.int).map Ls
def lN(one a:gY)(j:Int):List Int:=(lC ED<|(xH one a j).map D.int).map Ls
def mv(one a:gY)(j:Int):lC A1 ((va one a j).map D.int)=(xH one a j).map D.int/\(xH one a j).Perm (va one a j):=tZ<|jA A1 _
def mV(one a:gY)(j:Int):lC ED ((xH one a j).map D.int)=(lN one a j).map D.int/\(lN one a j).Perm (xH one a j):=tZ<|jA ED _
def FQ{one a:gY}{j x:Int}:x∈lN one a j↔(x∈one\/x∈a)/\ab x≠j:=by rw[(mV one a j).2.mem_iff,(mv one a j).2.mem_iff];unfold va;rw[Lf,oD,oE];simp
def UI(one a:gY)(j:Int):(lN one a j).Nodup:=((mV one a j).2.trans (mv one a j).2).nodup_iff.mpr<|Fs _
def Q3(one a:gY)(j:Int):(va one a j).length<=AC one+(AC a):=by
 unfold va;have h1:=Ft<|(one++a).filter λk=>!(ab k==j);have b:=oR (λk=>!(ab k==j))<|one++a;rw[lA]at b
 lia
def RS(i j:Int):BP (.int i) (.int j)=J (.bl (!decide (i=j)),Y):=by unfold BP;rw[ie<|by simp[D.dep]];simp[D.Q2];rfl
abbrev Zk:=hU BP (hC<|iw (g1 BL) [gR 1])<|gR 0
def Q0{one c:gY}{j:Int}(h1:(AC one)<=5)(p:(AC c)<=5)(h:((va one c j).map ab).Nodup):zm [enc one,enc c,(.int j,Y)]=J (enc<|lN one c j,[eN one,eN c,ii j]):=by
 have f:=Q3 one c j
 have a1:ou (.R1 .set []<|(va one c j).map D.int)=J (.lst<|(xH one c j).map D.int,C):=by show(if((va one c j).map D.int).all G0=C then jz ((va one c j).map D.int)else I)=_;rw[ie<|pH _];unfold jz;rw[ie ⟨zF _,by rw[jP,jl];lia⟩,(mv one c j).1]
 have g:rE (.lst<|(xH one c j).map D.int)=J (.lst<|(lN one c j).map D.int,C):=by
  show(if((xH one c j).map D.int).all Jl=C/\(((xH one c j).map D.int).map aD).Nodup/\((xH one c j).map D.int).length<64 then J (D.lst<|lC ED<|(xH one c j).map D.int,C)else I)=_
  have i:((xH one c j).map D.int).all Jl=C:=by rw[ku];intro d hd;obtain⟨x,_,rfl⟩:=kO.mp hd;rfl
  have n:(((xH one c j).map D.int).map aD).Nodup:=by rw[ji];exact((mv one c j).2.map ab).nodup_iff.mpr h
  rw[ie ⟨i,n,by have:=(mv one c j).2.length_eq;simp;lia⟩,(mV one c j).1]
 refine xy ⟨rfl,by decide,rfl⟩<|jC (a:=.lst ((lN one c j).map D.int)) H (jE (b:=C)<|jC g (jE (b:=C)<|jC a1 (jE (b:=C)<|YN (l:=one++c) (args:=[.int j]) (λk=>!(ab k==j)) ?_ H H (λk hk=>?_)<|by simp;lia).r).r).r
 .have e:=jO (fa:=gR 0) (fb:=gR 1) (δ:=[eN one,eN c,ii j]) (Np (l:=one.map D.int) (m:=c.map D.int) (by rw[jl];lia)<|by rw[jl];lia) (jV H).r (jV H).r;show jb (hU lP (gR 0)<|gR 1) [eN one,eN c,ii j]=_;unfold jb;rw[e,kQ];rfl
 have e:fT Zk [ii j,ii k]=J (!decide (ab k=j),[ii j,ii k]):=jk (o:=Y)<|jO (RS (ab k) j) (jE (b:=Y)<|jC (a:=.int k) H (jV H).r).r (jV H).r;show fT Zk [ii j,ii k]=J (!(ab k==j),[ii j,ii k]);rw[e];rfl
def Hm(x:Int)(c:gY):Gh (.int x) (cD c)=J (.bl<|c.contains x,Y):=by
 have h:(c.map D.int).any (λd=>D.Q2 d<|.int x)=c.contains x:=by
  rw[sM,PX.Bv (pH c) x,List.contains_iff_mem,kO];constructor
  .rintro⟨j,a,e⟩;cases e;exact a
  exact λh=>⟨x,h,rfl⟩
 have:inD (.int x) (cD c)=J (c.contains x):=by show(if D.P2 (c.map .int)<=50/\(D.int x).dep<=50 then J ((c.map D.int).any λd=>D.Q2 d<|.int x)else I)=_;rw[ie ⟨by rw[uk];lia,by simp[D.dep]⟩,h]
 unfold Gh;rw[this];rfl
def JZ(so c:gY):Bool:=c.all λs=>so.contains (-s)
abbrev fAg:F:=Z8
def YZ{so c:gY}{a x:Sl}(g:(AC c)<=5):fT fAg [a,eN so,x,eN c]=J (JZ so c,[a,eN so,x,eN c]):=by
 have e:=qQ (caps:=[1]) (fi:=jb<|iM 3) (f:=hU Gh F3<|gR 0) (δ:=[a,eN so,x,eN c]) (l:=c.map D.int) (args:=[cD so]) (λd=>so.contains (-(Ls d))) H H H (λd hd=>by obtain⟨s,_,rfl⟩:=kO.mp hd;exact⟨Y,jO (Hm (-s) so) (jE (b:=Y)<|jN (a:=.int s) H (jV H).r).r (jV H).r⟩) (by simp;lia)
 refine(jk (o:=Y) e).trans ?_;unfold JZ;rw[rg];rfl
abbrev CH:FS:=gZ (J4 (fT fAg) (gZ (nY 2) ip) ip) ip
abbrev MK(i:Nat)(l:iI):List D:=((l.map cD).zipIdx i).map λq=>.tup [.int (0+(q.2:Int)),q.1]
abbrev xl:=ng [hG 2,hG 3]
def adI{so:gY}{a:Sl}:∀(l:iI)(i:Nat)(x y:Sl),(∀c∈l,AC c<=5)->
  match l.findIdx? (JZ so)with
  |some m=>∃d,pZ xl CH (MK i l) [a,eN so,x,y]=J (.rt (.int ((i+m:Nat):Int),Y) [a,eN so,ii ((i+m:Nat):Int),d])
  |none=>∃k d,pZ xl CH (MK i l) [a,eN so,x,y]=J (.nx [a,eN so,k,d]):=by
 intro l
 induction l with
 |nil=>intro i x y _;exact⟨x,y,rfl⟩
 |cons c l u=>
  intro i x y h;have t:(0+(i:Int))=i:=by lia
  have v:xl (.tup [.int (0+(i:Int)),cD c]) [a,eN so,x,y]=J [a,eN so,ii (i:Int),eN c]:=by rw[t];rfl
  have e:=YZ (so:=so) (c:=c) (a:=a) (x:=ii (i:Int))<|h c jt
  have f:pZ xl CH (MK i (c::l)) [a,eN so,x,y]=(CH [a,eN so,ii (i:Int),eN c]).bind λo=>match o with
    |.nx b=>pZ xl CH (MK (i+1) l) b
    |.ct b=>pZ xl CH (MK (i+1) l) b
    |.bk b=>J<|.nx b
    |.rt r b=>J (.rt r b):=by
   show(xl (.tup [.int (0+(i:Int)),cD c]) [a,eN so,x,y]).bind _=_;rw[v];rfl
  rw[List.findIdx?_cons]
  cases n:JZ so c with
  |true=>rw[n]at e;have j:CH [a,eN so,ii (i:Int),eN c]=J (.rt (.int (i:Int),Y) [a,eN so,ii (i:Int),eN c]):=iz<|(mD e).trans H;rw[j]at f;exact⟨eN c,f⟩
  |false=>
   rw[n]at e;have j:CH [a,eN so,ii (i:Int),eN c]=J (.nx [a,eN so,ii (i:Int),eN c]):=(gX<|(lY e).trans H).trans H;rw[j]at f;have g:=u (i+1) (ii (i:Int)) (eN c) λs q=>h s<|jx _ q
   cases p:l.findIdx? (JZ so)with
   |none=>rw[p]at g;obtain⟨k,d,g⟩:=g;exact⟨k,d,f.trans g⟩
   |some m=>rw[p]at g;obtain⟨d,g⟩:=g;refine⟨d,f.trans ?_⟩;rw[show i+(m+1)=i+1+m by lia];exact g
def JL(so:gY)(a:iI):D:=match a.findIdx? (JZ so)with
 |some m=>.int m
 |none=>.T2
def R7{b:iI}{so:gY}(h:∀c∈b,AC c<=5):nW [(.tup<|b.map cD,Y),enc so]=J ((JL so b,Y),[J (.tup<|b.map cD,Y),eN so]):=by
 have g:=adI (so:=so) (a:=J (.tup<|b.map cD,Y)) b 0 I I h;have f0:qJ FY xl CH [J (.tup<|b.map cD,Y),eN so,I,I]=pZ xl CH (MK 0 b) [J (.tup<|b.map cD,Y),eN so,I,I]:=mI H;unfold JL
 cases e:b.findIdx? (JZ so)with
 |some m=>rw[e]at g;obtain⟨d,g⟩:=g;rw[vU]at g;exact jg (δ:=[J (.tup<|b.map cD,Y),eN so,ii (m:Int),d]) ⟨rfl,by decide,rfl⟩<|iz<|f0.trans g
 |none=>rw[e]at g;obtain⟨f,d,g⟩:=g;exact jg (δ:=[J (.tup<|b.map cD,Y),eN so,f,d]) ⟨rfl,by decide,rfl⟩<|(gX<|f0.trans g).trans<|iz H
def Yi{n:Nat}(b:n<=5){t c:gY}(d:(AC t)=n)(a:c=[]\/Sr n c):lR [enc t,enc c]=J ((.bl<|kC t c,Y),[eN t,eN c]):=by
 rcases a with rfl|a
 .rfl
 exact Rw b d a
def Cy(n:Nat)(a:iI)(c:gY):List (List Int):=(lZ n a).filter λt=>!kC t c
def agt{n:Nat}{a:iI}{t:gY}(h:t∈lZ n a):(AC t)=n:=(uq (oD.mp (show t∈(mY n).filter _ from h)).1).1
def af4{n:Nat}{a:iI}{c:gY}(h:mZ n a)(b:c=[]\/Sr n c)(g:(lZ n a).length<=10000):mR [(Ag n a,Y),enc c]=J ((.lst<|(Cy n a c).map cD,C),[rS n a,eN c]):=by
 have h1:jb (hW mS [gR 0]) [rS n a,eN c]=J ((lZ n a).map cD,[rS n a,eN c]):=by unfold jb;rw[MC (xb h)<|jV H];rfl
 have e:=uo (caps:=[1]) (fi:=jb<|hW mS [gR 0]) (f:=iM 1) (ti:=lu VL) (δ:=[rS n a,eN c]) (l:=(lZ n a).map cD) (args:=[cD c]) (λd=>d) (λd=>!kC (Hd d) c) h1 H H (λd hd=>by obtain⟨t,i,rfl⟩:=kO.mp hd;refine⟨?_,λ_=>⟨Y,rfl⟩⟩;rw[oH];exact kM<|jk<|CK (Yi h.1 (agt i) b) (jV H)<|jV H) (by simpa using g)
 have r:(((lZ n a).map cD).filter λd=>!kC (Hd d) c).map (λd=>d)=(Cy n a c).map cD:=by rw[yx,vM];unfold Cy;rw[show((λd=>!kC (Hd d) c)∘cD)=λt=>!kC t c from funext λt=>by simp[oH]]
 rw[r]at e;exact xy ⟨rfl,by decide,rfl⟩ e
def Gu{n:Nat}(g:n<=5){c:gY}(a:c=[]\/Sr n c):lQ [pI n,enc c]=J ((.bl C,Y),[ii n,eN c]):=by
 rcases a with rfl|a
 .refine xy (δ:=[ii n,eN []]) ⟨rfl,by decide,rfl⟩ ?_;rfl
 refine xy (δ:=[ii n,eN c]) ⟨rfl,by decide,rfl⟩ ?_
 have e:hU RX (gR 1) AV [ii n,eN c]=J ((.bl Y,Y),[ii n,eN c]):=by refine jO ?_ (jV H).r (jE (b:=Y) (d:=cD []) H).r;exact(Fh c []).trans (by rw[kr a.1])
 have f:hW nA [gR 0,gR 1] [ii n,eN c]=J ((.bl C,Y),[ii n,eN c]):=CK (Yn g a) (jV H)<|jV H;show M7 (hU RX (gR 1) AV) (hW nA [gR 0,gR 1]) [ii n,eN c]=_;unfold M7;rw[e];exact f
def Fg(fs:iI):I8 (.lst<|fs.map cD) (.lst [])=J (.bl<|decide<|fs=[],Y):=by unfold I8;rw[ie ⟨Fp fs,by decide⟩];cases fs<;>simp[D.Q2,D.K3]
def BU{n:Nat}{a:iI}{c:gY}(h:mZ n a)(d:c=[]\/Sr n c)(g:(lZ n a).length<=10000):lG [(Ag n a,Y),enc c]=J ((.bl<|decide<|Cy n a c=[],Y),[rS n a,eN c]):=by have e:lu ZN [rS n a,eN c]=J (Y,[rS n a,eN c]):=kM<|jk<|CK (Gu h.1 d) (jE (b:=Y) H)<|jV H;have f:hU I8 Zn qz [rS n a,eN c]=J ((.bl<|decide<|Cy n a c=[],Y),[rS n a,eN c]):=jO (Fg _) (jE (b:=C)<|CK (af4 h d g) (jV H)<|jV H).r (jE (b:=C) H).r;exact jg (δ:=[rS n a,eN c]) ⟨rfl,by decide,rfl⟩<|(gX (δ1:=[rS n a,eN c])<|(lY e).trans H).trans<|iz<|jm f
inductive Wy where
 |gv(m:Nat)
 |mt(i j:Nat)(v:Int)
 |wd(i:Nat)
 |ld(i:Nat)(t:gY)
def CB:Wy->D
 |.gv m=>.tup [.str "given",.int m]
 |.mt i j v=>.tup [.str "met",.int i,.int j,.int v]
 |.wd i=>.tup [.str "wide",.int i]
 |.ld i t=>.tup [.str "led",.int i,cD t]
abbrev B1:=List Int×Wy
abbrev sD(s:B1):D:=.tup [cD s.1,CB s.2]
abbrev EJ(S:List B1):Sl:=J (.lst<|S.map sD,C)
def F2(n:Nat)(c:gY):Prop:=(c.map ab).Pairwise (· < ·)/\∀s∈c,1<=ab s/\ab s<=n
def Nq(G:Prop)(n:Nat)(d A:iI)(c:gY):Wy->Prop
 |.gv m=>d[m]?=J c
 |.mt i j v=>∃a b,A[i]?=J a/\A[j]?=J b/\v∈a/\ -v∈b/\1<=v/\v<=n/\F2 n a/\F2 n b/\c=lN a b v
 |.wd i=>∃a,A[i]?=J a/\∀s∈a,s∈c
 |.ld i t=>G/\∃a,A[i]?=J a/\F2 n a/\TT n t/\(∀k∈d,lc t k∈d)/\c=lc t a
def Gd(G:Prop)(n:Nat)(ks:iI)(S:List B1):Prop:= ∀P s R,S=P++s::R->F2 n s.1/\Nq G n ks (P.map (·.1)) s.1 s.2
def Gd.snoc{G:Prop}{n:Nat}{ks:iI}{S:List B1}{s:B1}(h:Gd G n ks S)(h1:F2 n s.1)(b:Nq G n ks (S.map (·.1)) s.1 s.2):Gd G n ks (S++[s]):=by
 intro P c R e;rcases yJ R with rfl|⟨R',x,rfl⟩
 .obtain⟨rfl,a⟩:=ij e H;cases a;exact⟨h1,b⟩
 rw[yI,<-cX,<-oo]at e;obtain⟨rfl,_⟩:=ij e H;exact h P c R' H
def Gd.last{G:Prop}{n:Nat}{ks:iI}{S:List B1}{s:B1}(h:Gd G n ks (S++[s])):F2 n s.1:=(h S s [] H).1
def F2.len{n:Nat}{c:gY}(h:F2 n c):(AC c)<=n:=by
 by_cases e:c=[]
 .rw[e];exact lz _
 exact Sr.len (n:=n) ⟨e,h⟩
def HA(n:Nat)(so:gY):Prop:= ∀s∈so,(1<=ab s/\ab s<=n)/\ -s∉so
def CN(n:Nat)(so:gY):List Int:=(st n).filter λv=>!so.contains v&&!so.contains (-v)
def Wi{n:Nat}{so:gY}{v:Int}:v∈CN n so↔(1<=v/\v<=n)/\v∉so/\ -v∉so:=by unfold CN;rw[oD,Mi];simp
def HA.add{n:Nat}{so:gY}(h:HA n so){v w:Int}(hv:v∈CN n so)(a:w=v\/w= -v):HA n (so++[w]):=by
 obtain⟨h1,e,c⟩:=Wi.mp hv
 have f:ab w=v:=by unfold ab;rcases a with rfl|rfl<;>split<;>lia
 have a1:w∉so:=by rcases a with rfl|rfl<;>assumption
 have b: -w∉so:=by
  rcases a with rfl|rfl
  .exact c
  rwa [sL]
 intro s d;rcases oE.mp d with z|z
 .refine⟨(h s z).1,λq=>?_⟩;rcases oE.mp q with q|q
  .exact(h s z).2 q
  have:=yw.mp q;rw[<-this,sL]at b;exact b z
 cases yw.mp z;refine⟨by lia,λq=>?_⟩;rcases oE.mp q with q|q
 .exact b q
 have:=yw.mp q;rcases a with rfl|rfl<;>lia
def Wh{n:Nat}{so:gY}{v w:Int}(hv:v∈CN n so)(a:w=v\/w= -v):(CN n<|so++[w]).length<(CN n so).length:=by
 have e:CN n (so++[w])=(CN n so).filter λx=>!([w].contains x)&&!([w].contains (-x)):=by
  unfold CN;rw[List.filter_filter];refine nc (λp=>(st n).filter p)<|funext λx=>?_
  have c:∀y:Int,(so++[w]).contains y=(so.contains y||[w].contains y):=λy=>by rw[sM];simp
  rw[c,c];cases so.contains x<;>cases so.contains (-x)<;>cases[w].contains x<;>cases[w].contains (-x)<;>rfl
 rw[e];refine List.length_filter_lt_length_iff_exists.mpr ⟨v,hv,?_⟩;rcases a with rfl|rfl<;>simp
def abL{n:Nat}{ks:iI}{so:gY}(hk:∀c∈ks,Sr n c)(p:HA n so)(w:∀t∈mY n,so.all (CJ t)=C->ks.all (kC t)=Y)(k:∀c∈ks,JZ so c=Y):CN n so≠[]:=by
 intro e
 let t:List Int:=(st n).map λv=>if so.contains v=C then 1 else 0
 have r:t∈mY n:=by
  refine J9.mpr ⟨by rw[jl,wy],λx u=>?_⟩;obtain⟨v,_,rfl⟩:=kO.mp u;split
  .exact .inr H
  exact .inl H
 have a:∀s,1<=ab s/\ab s<=n->s∈so\/ -s∈so:=λs h=>by
  by_cases h1:s∈so
  .exact .inl h1
  by_cases b: -s∈so
  .exact .inr b
  have:ab s∈CN n so:=Wi.mpr ⟨h,by unfold ab;split<;>assumption,by
   unfold ab;split
   .rwa [sL]
   assumption⟩
  rw[e]at this;cases this
 have i:∀s,s∈so->CJ t s=C:=λs h=>by
  obtain⟨h1,b⟩:=p s h;have m:(ab s).toNat-1<n:=by lia
  have g:t.getD ((ab s).toNat-1) 0=if so.contains (ab s)=C then 1 else 0:=by
   have:t[(ab s).toNat-1]?=J (if so.contains (ab s)=C then 1 else 0):=by show(ef _ (ef _ (am n)))[_]?=_;rw[jv,jv,N4 m];simp only[gO];rw[show(1+(((ab s).toNat-1:Nat):Int))=ab s by lia]
   rw[lJ,this];rfl
  unfold CJ;rw[g];unfold ab at*;by_cases q:s<0
  .rw[ie q]at*;have:so.contains (-s)=Y:=by simpa using b
   rw[this,iC (show ¬s>0 by lia)];rfl
  rw[iC q]at*;have:so.contains s=C:=by simpa using h
  rw[this,ie (show s>0 by lia)];rfl
 have h1:=w t r<|ku.mpr λs h=>i s h;obtain⟨c,f,l⟩:=hD.mp h1;obtain⟨s,d,o⟩:=hD.mp<|k c f;have j: -s∉so:=by simpa using o
 have:=(a s<|(hk c f).2.2 s d).resolve_right j;exact l<|Cn.mpr ⟨s,d,i s this⟩
def Le{n:Nat}{a b:gY}{v:Int}(e:F2 n a)(f:F2 n b)(g:((va a b v).map ab).Nodup):F2 n (lN a b v):=by
 have i:=(mV a b v).2.trans (mv a b v).2;refine⟨?_,λs h=>?_⟩
 .have c:((lN a b v).map ab).Nodup:=(i.map ab).symm.nodup g;have d:=uF<|(xH a b v).map D.int;rw[(mV a b v).1,kP]at d;rw[kP];rw[bI,kP]at c;refine(d.and c).imp λ{a b} h=>?_;have h1:ab a<=ab b:=h.1;have j:ab a≠ab b:=h.2
  lia
 rcases(FQ.mp h).1 with z|z
 .exact e.2 s z
 exact f.2 s z
def X9{n:Nat}{so a b:gY}{v:Int}(o:HA n so)(l:F2 n a)(m:F2 n b)(h1:∀s∈a,s=v\/ -s∈so)(k:∀s∈b,s= -v\/ -s∈so)(hv:1<=v):((va a b v).map ab).Nodup/\F2 n (lN a b v)/\∀s∈lN a b v, -s∈so:=by
 have f:∀s,(s∈a\/s∈b)->ab s≠v-> -s∈so:=λs h q=>by
  have t:ab v=v:=by unfold ab;split<;>lia
  have u:ab (-v)=v:=by unfold ab;split<;>lia
  rcases h with h|h
  .rcases h1 s h with rfl|z
   .exact absurd t q
   exact z
  rcases k s h with rfl|z
  .exact absurd u q
  exact z
 have i:=(mV a b v).2.trans (mv a b v).2
 have g:((va a b v).map ab).Nodup:=by
  have j:(va a b v).Nodup:=Fs _;rw[bI,kP];refine DV (λ{x y} c d p e=>p ?_) j;have c:=FQ.mp<|i.mem_iff.mpr c;have d:=FQ.mp<|i.mem_iff.mpr d;have s1:=f x c.1 c.2;have r:=f y d.1 d.2;by_cases q:x=y
  .exact q
  have: -x=y:=by unfold ab at e;split at e<;>split at e<;>lia
  exact absurd s1 (by rw[this];have:=(o _ r).2;rwa [sL]at this)
 exact⟨g,Le l m g,λs h=>f s (FQ.mp h).1 (FQ.mp h).2⟩
def Se{n np:Nat}{b:jM}{f:FS}{a:List (D×Bool)}{δ:Dn}(h1:(AC a)=np/\np<=n/\(a.zipIdx.all λp=>!(p.1.2&&b.contains p.2))=C)(c:f (a.map J++ac (n-np) I)=J (.nx δ)):Q1 n np b f a=J ((.T2,Y),iT a δ):=by unfold Q1;rw[ie h1,c]
def ixT{l:List D}{m:Nat}{d:D}(h:l[m]?=J d):N2 (.tup l) (.int m)=J (d,Y):=by have:=(qX.mp h).1;rw[ixt (by lia)<|by lia,lJ,xj,h];rfl
def M6{l:List D}{m:Nat}{d:D}(h:l[m]?=J d):N2 (.lst l) (.int m)=J (d,Y):=by have:=(qX.mp h).1;rw[ixl (by lia)<|by lia,lJ,xj,h];rfl
def Rz{e:OO}{f g i:FO}{δ:Dn}{a b c:D}{r:D×Bool}{outs:Dn}(h:e [(a,Y),(b,Y),(c,Y)]=J (r,outs))(k:FJ f δ a)(l:FJ g δ b)(m:FJ i δ c):hW e [f,g,i] δ=J (r,δ):=by obtain⟨o,h1,_,j⟩:=k;obtain⟨s,k1,_,n⟩:=l;obtain⟨t,p,_,q⟩:=m;refine(jr (mO h1<|mP k1 p) (args:=[a,b,c].map λd=>(d,Y)) (by simp[j,n,q]) (by rw[qL];exact mT) h).trans ?_;rw[C0]
abbrev dA(n:Nat)(ks:iI)(so:gY)(S:List B1)(a r4 r5 r6 r7 r8:Sl):Dn:=[rS n ks,eN so,EJ S,a,r4,r5,r6,r7,r8]
abbrev Jp(i:Nat):F:=hU N2 (hC<|hU N2 (gR 2)<|gR i) lL
abbrev fLn:F:=hU PX.CF Ot jB
section
variable {n:Nat}{ks:iI}{so:gY}{S:List B1}{c r4 r5 r6 r7 r8:Sl}{δ:Dn}
def Rg{s:B1}(h:δ[2]?=J (EJ<|S++[s])):fLn δ=J ((.int S.length,Y),δ):=by have e:=jO (δ:=δ) (PM _ 1) (jE (b:=Y)<|jC (wG<|(S++[s]).map sD)<|jR h).r (jE (b:=Y) (f:=fC<|.int 1) H).r;rw[jl,lA,vm,show(((S.length+1:Nat):Int)-1)=S.length by lia]at e;exact e
def YY{i k:Nat}{s:B1}(h:δ[2]?=J (EJ S))(a:δ[i]?=J (ii k))(hk:S[k]?=J s):Jp i δ=J (enc s.1,δ):=
 jO rfl (jE (b:=Y) (d:=sD s)<|jO (M6<|by rw[jv,hk];rfl) (jR h) (jV a).r).r (jE H).r
def SJ{d:OO}{b:List B1}{a:gY}{e:FO}(h:d [(Ag n ks,Y),enc a,(.lst<|S.map sD,C)]=J ((.T2,Y),[rS n ks,eN a,EJ b]))(f:hU lP (gR 1) e (dA n ks so S c r4 r5 r6 r7 r8)=J (enc a,dA n ks so S c r4 r5 r6 r7 r8)):
  lq (hW d [gR 0,hC<|hU lP (gR 1) e,gR 2]) (dA n ks so S c r4 r5 r6 r7 r8)=J (.nx<|dA n ks so b c r4 r5 r6 r7 r8):=
 pF ((jr (os:=[.slot 0,.val<|enc a,.slot 2]) (args:=[(Ag n ks,Y),enc a,(.lst<|S.map sD,C)]) (mO H<|mP (iq f) H) H (by simp[iD]) h).trans H)
def SV{f:F}{s:B1}(a:δ[2]?=J (EJ S))(h:f δ=J ((sD s,Y),δ))(b:S.length<=10000):lq (kE 2 f) δ=J (.nx<|δ.set 2<|EJ<|S++[s]):=by refine pF (r:=(.T2,Y))<|(rJ a h a<|by rw[jl];exact uG b).trans ?_;rw[show S.map sD++[(sD s,Y).1]=(S++[s]).map sD by rw[kQ];rfl]
abbrev Mz:FT:=WG
def V0{a:FO}(b:n<=5)(h:a δ=J (.val (.int<|(n:Int)+1,Y),δ)):wO jB a δ=J ((st n).map D.int,δ):=by rw[E7 (o1:=.val (.int 1,Y)) (o2:=.val (.int<|(n:Int)+1,Y)) (i:=1) (j:=(n:Int)+1) (δ2:=δ) H h H H (by lia)<|by lia,show((n:Int)+1-1).toNat=n by lia];unfold ja st;rw[ji];rfl
def LC{k:Nat}{g:B0}(j:n<=5)(i:g δ=J ((st n).map D.int,δ))(hk:δ[k]?=J (eN so)):iL [k] 1 g (hG 1) Mz nJ δ=J ((.lst<|(CN n so).map D.int,C),δ):=by
 have e:=uo (caps:=[k]) (f:=iM 1) (ti:=Mz) (args:=[cD so]) (λd=>d) (λd=>!so.contains (Ls d)&&!so.contains (-(Ls d))) i (by simp[hk]) H (λd hd=>by
  obtain⟨s,_,rfl⟩:=kO.mp hd;refine⟨?_,λ_=>⟨Y,rfl⟩⟩;have h1:fT (hU mN (gR 1)<|gR 0) [eN so,ii s]=J (!so.contains s,[eN so,ii s]):=jk<|jO (rq s so) (jV H).r (jV H).r;have h:fT VR [eN so,ii s]=J (!so.contains (-s),[eN so,ii s]):=jk<|jO (rq (-s) so) (jE (b:=Y)<|jN (a:=.int s) H (jV H).r).r (jV H).r;show mW _ _ [eN so,ii s]=J (!so.contains s&&!so.contains (-s),[eN so,ii s]);unfold mW;rw[h1];simp only[jj];cases so.contains s
  .exact h
  rfl) (by rw[jl,wy];lia)
 refine e.trans ?_;rw[yx,vM];rfl
abbrev fMn:F:=iw (g1 RT) [hC<|iL [1] 1 ZG (hG 1) Mz nJ]
def abj(a:n<=5)(h:CN n so≠[]):fMn (dA n ks so S (ii n) r4 r5 r6 r7 r8)=J ((.int<|qt<|CN n so,Y),dA n ks so S (ii n) r4 r5 r6 r7 r8):=by refine jC ?_ (jE<|LC (so:=so) a (V0 a H) H).r;show(if((CN n so).map D.int).all G0=C/\(CN n so).map D.int≠[]then J (D.int<|qt<|((CN n so).map D.int).map MU,Y)else I)=_;rw[ie ⟨pH _,by simpa using h⟩,ji,show(MU∘D.int)=id from H,rO]
end
abbrev Zj:=hU Gh (hC<|pe xZ<|gR 6)<|hC<|Jp 8
def Y0{G:Prop}{n:Nat}{ks:iI}(h:mZ n ks):∀(m:Nat)(so:gY)(S:List B1),HA n so->(∀t∈mY n,so.all (CJ t)=z8->ks.all (kC t)=z9)->(CN n so).length<m->Gd G n ks S->S.length+2^m<=10000->AC so+m<=100->
  ∃N c w,Gd G n ks (S++N++[(c,w)])/\(∀s∈c, -s∈so)/\(AC N)+2<=2^m/\kY m [(Ag n ks,z9),enc so,(.lst<|S.map sD,z8)]=zx ((.T2,z9),[rS n ks,eN so,EJ<|S++N++[(c,w)]]):=by
 have J:=h.1;have h5:∀c∈ks,AC c<=5:=λc V=>kK (h.2.1.2 c V).len J;intro m
 induction m with
 |zero=>intro so S _ _ hf;lia
 |succ m ih=>
  intro so S y r0 hf hg hl hso;have r2:2^(m+1)=2*2^m:=Nat.pow_succ';have p1:1<=2^m:=Nat.one_le_two_pow
  let T:Sl:=zx (.tup<|ks.map cD,z9)
  have I:∀g,gZ VG (gZ Zm g) (dA n ks so S z7 z7 z7 z7 z7 z7)=g (dA n ks so S (ii n) T (zx (JL so ks,z9)) z7 z7 z7):=λg=>(gX (δ1:=dA n ks so S (ii n) T z7 z7 z7 z7) At).trans<|gX<|iY (i:=5) (δ1:=dA n ks so S (ii n) T z7 z7 z7 z7) (CK (R7 h5) (jV At)<|jV At) (show 5<9 by decide)
  have Q:([(Ag n ks,z9),enc so,(.lst<|S.map sD,z8)]:List (D×Bool)).length=3/\3<=9/\(([(Ag n ks,z9),enc so,(.lst<|S.map sD,z8)]:List (D×Bool)).zipIdx.all λp=>!(p.1.2&&([3,4,5,6,7,8]:List Nat).contains p.2))=z8:=⟨rfl,by decide,rfl⟩
  cases hk:ks.findIdx? (JZ so)with
  |some k=>
   obtain⟨W,ha,_⟩:=Zd.mp hk;have F:JL so ks=.int k:=by unfold JL;rw[hk]
   rw[F]at I;have V:=h.2.1.2 ks[k]<|vO W;refine⟨[],ks[k],.gv k,?_,λs y=>?_,by simp;lia,?_⟩
   .rw[we];exact hg.snoc V.2<|jq W
   .simpa using ku.mp ha s y
   rw[we];have ix:hU N2 (gR 4) (gR 5) (dA n ks so S (ii n) T (ii k) z7 z7 z7)=zx (enc ks[k],dA n ks so S (ii n) T (ii k) z7 z7 z7):=jO (ixT<|by rw[jv,jq W];rfl) (jV At).r (jV At).r;exact jg (δ:=dA n ks so (S++[(ks[k],.gv k)]) (ii n) T (ii k) z7 z7 z7) Q<|(I _).trans<|iz<|(mD (t:=fT<|hU BJ (gR 5)<|hC<|fC .T2) (δ1:=dA n ks so S (ii n) T (ii k) z7 z7 z7) At).trans<|(gX<|SV (S:=S) (s:=(ks[k],.gv k)) At (oy ix<|oy (f:=fC<|.str "given") (g:=iM 5) (a:=(.str "given",z9)) (b:=pI k) At At)<|by lia).trans<|iz (f:=KH) (r:=(.T2,z9)) At
  |none=>
   have gn:∀c∈ks,JZ so c=z9:=Zc.mp hk;have F:JL so ks=.T2:=by unfold JL;rw[hk]
   rw[F]at I;have eK:=abL h.2.1.2 y r0 gn;obtain⟨hv,_⟩:=zS eK;generalize hV:qt (CN n so)=v at hv;obtain⟨X,v2,v3⟩:=Wi.mp hv;have sub:∀w,∀t∈mY n,(so++[w]).all (CJ t)=z8->ks.all (kC t)=z9:=λw t ht q=>r0 t ht (by rw[Ia,la]at q;exact q.1);obtain⟨A,e,B,g1,L,l1,K⟩:=ih (so++[-v]) S (y.add hv<|.inr At) (sub _) (by have:=Wh hv<|.inr At;lia) hg (by lia) (by rw[lA,vm];lia)
   let o:=S++A++[(e,B)]
   have hS1:(AC o)=S.length+AC A+1:=by simp[o];lia
   let k1:=(S++A).length
   let u:Sl:=zx (.T2,z9)
   have z1:∀g,gZ (lq<|hW (kY m) [gR 0,Zt,gR 2]) (gZ (jo 7 fLn) g) (dA n ks so S (ii n) T u (ii v) z7 z7)=g (dA n ks so o (ii n) T u (ii v) (ii k1) z7):=λg=>by refine(gX<|SJ K ?_).trans (gX<|iY (i:=7) (Rg (S:=S++A) (s:=(e,B)) At) (show 7<9 by decide));rw[jO (Np (l:=so.map D.int) (m:=[.int (-v)]) (by rw[jl];lia)<|by simp) (jV At).r (jE (b:=z9) At).r];rw[show so.map D.int++[.int (-v)]=(so++[-v]).map D.int by rw[kQ];rfl]
   have H:fT (hU mN (gR 6)<|hC<|Jp 7) (dA n ks so o (ii n) T u (ii v) (ii k1) z7)=zx (!e.contains v,dA n ks so o (ii n) T u (ii v) (ii k1) z7):=jk<|jO (rq v e) (jV At).r (jE<|YY (S:=o) (k:=k1) (s:=(e,B)) At At Ny).r
   have e2:∀g,gZ aal (gZ (jo 6 fMn) g) (dA n ks so S (ii n) T u z7 z7 z7)=g (dA n ks so S (ii n) T u (ii v) z7 z7):=λg=>(gX<|(lY (δ1:=dA n ks so S (ii n) T u z7 z7 z7) At).trans At).trans<|gX<|iY (i:=6) (δ1:=dA n ks so S (ii n) T u z7 z7 z7) (by have:=abj (so:=so) (S:=S) (ks:=ks) (r4:=T) (r5:=u) (r6:=z7) (r7:=z7) (r8:=z7) J eK;rw[hV]at this;exact this) (show 6<9 by decide)
   have t6:∀{c:gY}{w:Int},(∀s∈c, -s∈so++[w])->∀s∈c,s= -w\/ -s∈so:=λhq s y=>by
    rcases oE.mp (hq s y)with z|z
    .exact .inr z
    have:=yw.mp z;exact .inl (by lia)
   have L:=t6 L;rw[sL]at L;by_cases O:v∈e
   .have H:=H.trans (by rw[show e.contains v=z8 by simpa using O];rfl:_=zx (z9,dA n ks so o (ii n) T u (ii v) (ii k1) z7));obtain⟨C,j,E,g2,U,l2,P⟩:=ih (so++[v]) o (y.add hv<|.inl At) (sub _) (by have:=Wh hv<|.inl At;lia) g1 (by lia) (by rw[lA,vm];lia);have U:=t6 U
    let x:=o++C++[(j,E)]
    have hS2:(AC x)=AC o+AC C+1:=by simp[x];lia
    let k2:=(o++C).length
    have z2:∀g,gZ (lq<|hW (kY m) [gR 0,Zi,gR 2]) (gZ (jo 8 fLn) g) (dA n ks so o (ii n) T u (ii v) (ii k1) z7)=g (dA n ks so x (ii n) T u (ii v) (ii k1)<|ii k2):=λg=>by refine(gX<|SJ P ?_).trans (gX<|iY (i:=8) (Rg (S:=o++C) (s:=(j,E)) At) (show 8<9 by decide));rw[jO (Np (l:=so.map D.int) (m:=[.int v]) (by rw[jl];lia)<|by simp) (jV At).r (jE (b:=z9) At).r];rw[show so.map D.int++[.int v]=(so++[v]).map D.int by rw[kQ];rfl]
    let d:Dn:=dA n ks so x (ii n) T u (ii v) (ii k1)<|ii k2
    have bU:x[k1]?=zx (e,B):=by show(S++A++[(e,B)]++C++[(j,E)])[k1]?=_;rw[oo,oo,qg<|jw _];simp[k1]
    have aA:x[k2]?=zx (j,E):=Ny;have a1:Jp 7 d=zx (enc e,d):=YY (S:=x) At At bU;have Z:Jp 8 d=zx (enc j,d):=YY (S:=x) At At aA;have t2:fT Zj d=zx (j.contains (-v),d):=jk<|jO (Hm (-v) j) (jE (b:=z9)<|jN (a:=.int v) At (jV At).r).r (jE Z).r
    have run:pd (kY m) (dA n ks so S z7 z7 z7 z7 z7 z7)=gZ (J4 (fT Zj) (gZ (lq<|kE 2<|kH [hW zm [hC<|Jp 7,hC<|Jp 8,gR 6],Wx]) ip) ip) ip d:=
     (I _).trans ((e2 _).trans<|(z1 _).trans<|(gX<|(lY H).trans At).trans<|z2 _)
    by_cases M: -v∈j
    .have R:=g1.last;have Y:=g2.last;obtain⟨m1,m2,m3⟩:=X9 y R Y L U X.1;refine⟨A++[(e,B)]++C++[(j,E)],lN e j v,Wy.mt k1 k2 v,?_,m3,by simp;lia,?_⟩
     .have:=g2.snoc (s:=(lN e j v,Wy.mt k1 k2 v)) m2 ⟨e,j,by rw[jv];exact nc (eC (·.1)) bU,by rw[jv];exact nc (eC (·.1)) aA,O,M,X.1,X.2,R,Y,rfl⟩;simpa[x,o]using this
     have em:hW zm [hC<|Jp 7,hC<|Jp 8,gR 6] d=zx (enc<|lN e j v,d):=Rz (Q0 (kK R.len J) (kK Y.len J) m1) (jE a1) (jE Z) (jV At)
     have et:Wx d=zx ((CB<|Wy.mt k1 k2 v,z9),d):=by show(if 4<=sizeLine then zx ((CB<|Wy.mt k1 k2 v,z9),d)else z7)=_;rw[ie<|nX<|by decide]
     refine(Se (δ:=dA n ks so (x++[(lN e j v,Wy.mt k1 k2 v)]) (ii n) T u (ii v) (ii k1)<|ii k2) Q<|run.trans<|(gX<|(mD<|t2.trans<|by rw[show j.contains (-v)=z8 by simpa using M]).trans<|(gX<|SV (S:=x) (s:=(lN e j v,Wy.mt k1 k2 v)) At (oy em et)<|by lia).trans At).trans At).trans ?_;rw[show S++(A++[(e,B)]++C++[(j,E)])++[(lN e j v,Wy.mt k1 k2 v)]=x++[(lN e j v,Wy.mt k1 k2 v)] by simp[x,o]];rfl
    refine⟨A++[(e,B)]++C,j,E,?_,λs y=>(U s y).resolve_left λz=>M<|z▸y,by simp;lia,?_⟩
    .have:=g2;simpa[o]using this
    refine(Se (δ:=d) Q<|run.trans<|(gX<|(lY<|t2.trans<|by rw[show j.contains (-v)=z9 by simpa using M]).trans At).trans At).trans ?_;rw[show S++(A++[(e,B)]++C)++[(j,E)]=x by simp[x,o]];rfl
   have H:=H.trans (by rw[show e.contains v=z9 by simpa using O];rfl:_=zx (z8,dA n ks so o (ii n) T u (ii v) (ii k1) z7));refine⟨A,e,B,g1,λs y=>(L s y).resolve_left λz=>O<|z▸y,by lia,?_⟩;exact jg (δ:=dA n ks so o (ii n) T u (ii v) (ii k1) z7) Q<|(I _).trans<|(e2 _).trans<|(z1 _).trans<|iz<|(mD H).trans<|iz At
def ixM{l:List D}{d:D}:N2 (.lst<|l++[d]) (.int (-1))=J (d,Y):=by
 have e:EO (l++[d]).length (-1)=J (AC l):=by
  unfold EO;rw[lA,vm,iC<|by decide,ie<|by lia]
  congr 1;lia
 show(G5 (l++[d]) (-1)).map _=_;unfold G5;rw[e];simp
def ady{l:List D}{d:D}:N2 (.tup<|l++[d]) (.int (-1))=J (d,Y):=ixM
def Pp{t:gY}{s:Int}(h:1<=ab s)(a:CJ t (-s)=C):CJ t s=Y:=by
 have e:ab (-s)=ab s:=kF s;unfold CJ at*;rw[e]at a;have:=rT a;rw[this];unfold ab at h;by_cases q:s>0
 .rw[ie q,iC (show ¬ -s>0 by lia)];rfl
 rw[iC q,ie (show -s>0 by split at h<;>lia)];rfl
def FK{c:gY}(h:(c.map ab).Pairwise (· < ·)){x y:Int}(b:x∈c)(g:y∈c)(e:ab x=ab y):x=y:=by
 rw[kP]at h
 induction h with
 |nil=>cases b
 |cons a _ i=>
  rcases kN.mp b with rfl|d<;>rcases kN.mp g with rfl|f
  .rfl
  .have:=a _ f;lia
  .have:=a _ d;lia
  exact i d f
def X4{n:Nat}{c:gY}(h:F2 n c):HA n (c.map (- ·)):=by intro s b;obtain⟨x,a,rfl⟩:=kO.mp b;have h1:=h.2 x a;refine⟨by rw[kF];exact h1,λq=>?_⟩;obtain⟨y,d,e⟩:=kO.mp q;have f:=FK h.1 d a (by rw[show y= -x by lia,kF]);unfold ab at h1;split at h1<;>lia
abbrev cl0(n:Nat)(c:gY)(h:F2 n c):c=[]\/Sr n c:=by
 by_cases e:c=[]
 .exact .inl e
 exact .inr ⟨e,h⟩
section
variable {n:Nat}{j:iI}{c:gY}(h:mZ n j)(k:F2 n c)
include h k
theorem Wj:lu Vv [rS n j,eN c,I]=J (!decide (Cy n j c=[]),[rS n j,eN c,I]):=
 kM (jk (CK (BU h (cl0 n c k) (by
  have h1:(lZ n j).length<=(mY n).length:=oR _ _;have a:=zA n;have b:2^n<=2^5:=yA (by decide) h.1
  lia)) (jV H)<|jV H))
theorem Qp(a:Cy n j c≠[]):oz [(Ag n j,Y),enc c]=J ((.T2,Y),[rS n j,eN c]):=
 jg (δ:=[rS n j,eN c,I]) ⟨rfl,by decide,rfl⟩ (iz<|(mD<|(Wj h k).trans<|by rw[kr a];rfl).trans<|iz H)
theorem Qq{G:Prop}(u:Cy n j c=[]):∃S w,Gd G n j (S++[(c,w)])/\S.length<=64/\oz [(Ag n j,Y),enc c]=J ((.tup<|(S++[(c,w)]).map sD,Y),[rS n j,eN c]):=by
 have T:=h.1;have E:=k.len
 obtain⟨N,d,w,g,q,v,p⟩:=Y0 (G:=G) h RD (c.map (- ·)) [] (X4 k) (λt B o=>by
  refine hF.mpr λhk=>?_;have:t∉Cy n j c:=by rw[u];simp
  refine this<|oD.mpr ⟨oD.mpr ⟨B,hk⟩,?_⟩;rw[AB];refine Mc.mpr λs z=>?_;rw[Pp (k.2 s z).1<|ku.mp o (-s)<|rP z]
  decide) (by
   have:(CN n (c.map (- ·))).length<=(st n).length:=oR _ _;rw[wy]at this;show _<6
   lia) (λP s R e=>by simp at e) (by decide) (by rw[jl];show _+6<=100;lia)
 rw[sN]at g p;have v:(AC N)+2<=64:=v
 have sub:∀s∈d,s∈c:=λs o=>by
  obtain⟨x,Q,e⟩:=kO.mp<|q s o
  rwa [show s=x by lia]
 let m:=N++[(d,w)]
 have A:iL [] 1 rW (hG 0) je (jn CV) [rS n j,eN c,EJ []]=J ((.lst ((c.map (- ·)).map D.int),C),[rS n j,eN c,EJ []]):=zv (caps:=[]) (args:=[]) (l:=c) (- ·) H H H (λx _=>⟨Y,jN (a:=.int x) H (jV H).r⟩) (by lia)
 have U:WL [rS n j,eN c,EJ []]=J (.nx [rS n j,eN c,EJ m]):=
  pF ((jr (os:=[.slot 0,.val (enc (c.map (- ·))),.slot 2]) (args:=[(Ag n j,Y),enc (c.map (- ·)),(.lst [],C)]) (mO H (mP (iq (jC (a:=.lst ((c.map (- ·)).map D.int)) H (jE A).r)) H)) H (by simp[iD]) p).trans H)
 have y:fT Z6 [rS n j,eN c,EJ m]=J (!decide (d=c),[rS n j,eN c,EJ m]):=by refine jk<|jO (Ys d c) (jE (b:=Y)<|jO (a:=sD (d,w)) H (jE (b:=Y)<|jO ?_ (jR H) (jE (b:=Y)<|jN (a:=.int 1) H (jE H).r).r).r (jE H).r).r (jV H).r;show N2 (.lst<|(N++[(d,w)]).map sD) (.int (-1))=_;rw[kQ];exact ixM
 have pre:∀g,gZ ZP (gZ (jo 2<|qa [])<|gZ WL g) [rS n j,eN c,I]=g [rS n j,eN c,EJ m]:=λg=>(gX<|(lY<|(Wj h k).trans<|by rw[kj u];rfl).trans H).trans<|(gX (δ1:=[rS n j,eN c,EJ []]) H).trans<|gX U
 by_cases hd:d=c
 .subst hd;exact⟨N,w,g,by lia,jg (δ:=[rS n j,eN d,EJ m]) ⟨rfl,by decide,rfl⟩<|(pre _).trans<|(gX<|(lY<|y.trans<|by rw[kj H];rfl).trans H).trans<|iz<|jm<|jC H<|jR (i:=2) H⟩
 refine⟨m,.wd<|AC N,g.snoc k ⟨d,by rw[jv];simp,sub⟩,by simp[m];lia,jg (δ:=[rS n j,eN c,EJ<|m++[(c,.wd<|AC N)]]) ⟨rfl,by decide,rfl⟩<|(pre _).trans<|(gX<|(mD<|y.trans<|by rw[kr hd];rfl).trans<|(gX<|SV (S:=m) (s:=(c,.wd<|AC N)) H (oy (f:=iM 1) (a:=enc c) H<|oy (f:=fC<|.str "wide") (a:=(.str "wide",Y)) H<|Rg (S:=N) (s:=(d,w)) H)<|by simp[m];lia).trans H).trans<|iz<|jm<|jC H<|jR (i:=2) H⟩
end
section
variable {n:Nat}{a A:iI}{c:gY}
abbrev rF:FS:=gZ (jH<|fC<|.bl Y) ip
end
def R6{c:gY}{v:Int}(h:(c.map ab).Pairwise (· < ·))(hv:v∈c){x:Int}:(x∈c/\x≠v)↔(x∈c/\ab x≠ab v):=
 ⟨λ⟨a,b⟩=>⟨a,λe=>b<|FK h a hv e⟩,λ⟨a,b⟩=>⟨a,λe=>b<|by rw[e]⟩⟩
def Vf{op op':bZ}{a fb c:FO}{δ:Dn}{i j k:Int}(m:RJ a δ (.int i))(n:RJ fb δ (.int j))(p:RJ c δ (.int k))(h1:lE op i j=C)(l:lE op' j k=C):lu (fT<|oN op op' a fb c) δ=J (Y,δ):=by obtain⟨o,a1,d⟩:=m;obtain⟨q,e,f⟩:=n;obtain⟨r,g,h⟩:=p;refine kM (b:=C)<|jk (o:=Y) ?_;unfold oN;rw[a1];simp only[jj];rw[e];simp only[jj];rw[d,f];simp only[];rw[ie h1,g];simp only[jj];rw[h];simp only[];rw[l]
section
variable {n:Nat}{c A:iI}
def abP{δ:Dn}{k:Nat}{fi:B0}{a:gY}{v u:Int}{fo:FO}(e:fi δ=J (a.map D.int,δ))(hv:δ[k]?=J (ii v))(h:(AC a)<=5)(g:∀s,FJ fo [ii v,ii s]<|.int u):
  iL [k] 1 fi (hG 1) (fT<|hU BP (gR 1) fo) nJ δ=J ((.lst<|(a.filter λs=>!(s==u)).map D.int,C),δ):=by
 have b:=uo (caps:=[k]) (f:=iM 1) (ti:=fT<|hU BP (gR 1) fo) (args:=[.int v]) (λd=>d) (λd=>!(Ls d==u)) e (by simp[hv]) H (λd hd=>by obtain⟨s,_,rfl⟩:=kO.mp hd;exact⟨jk<|jO (aaS s u) (jV H).r (g s).r,λ_=>⟨Y,rfl⟩⟩) (by simp;lia)
 refine b.trans ?_;rw[yx,vM];rfl
abbrev G7(a b:gY)(v:Int):List Int:=a.filter (λs=>!(s==v))++b.filter (λs=>!(s== -v))
def Q4{a b:gY}{v:Int}(h1:(AC a)<=5)(d:(AC b)<=5):(G7 a b v).length<=10:=by have h1:=oR (λs=>!(s==v)) a;have d:=oR (λs=>!(s== -v)) b;rw[lA];omega
def X8{a b:gY}{v:Int}(h:F2 n a)(i:F2 n b)(g:v∈a)(f: -v∈b)(k:1<=v):(GR<|G7 a b v).Perm (lN a b v):=by
 have e:ab v=v:=by unfold ab;split<;>lia
 have j:ab (-v)=v:=by rw[kF,e]
 refine(Nz (Fs _)<|UI a b v).mpr λx=>?_;have f1:=R6 (x:=x) h.1 g;have d:=R6 (x:=x) i.1 f;rw[e]at f1;rw[j]at d;rw[Lf,FQ,oE,oD,oD];simp only[AB,Cm];rw[f1,d];exact⟨λz=>z.elim (λq=>⟨.inl q.1,q.2⟩) λq=>⟨.inr q.1,q.2⟩,λ⟨p,q⟩=>p.elim (λz=>.inl ⟨z,q⟩) λz=>.inr ⟨z,q⟩⟩
def Yr{F:gY}(a:F.length<=10):RP (.lst<|F.map D.int)=J (.R1 .set []<|(GR F).map D.int,C):=by show(if(F.map D.int).all G0=C/\(F.map D.int).length<500 then J (D.R1 .set []<|ly<|F.map D.int,C)else I)=_;rw[ie ⟨pH _,by rw[jl];lia⟩,age]
def Yq{F:gY}(a:F.length<=10):ou (.R1 .set []<|(GR F).map D.int)=J (.lst<|lC A1<|(GR F).map D.int,C):=by have ld:=Ft F;show(if((GR F).map D.int).all G0=C then jz ((GR F).map D.int)else I)=_;rw[ie<|pH _];unfold jz;rw[ie ⟨zF _,by rw[jP,jl];lia⟩]
end
abbrev MF:F:=WJ
def Jd(a:Int)(b:Bool):∃(s c:Int),(s=1\/s= -1)/\∀δ:Dn,MF (SS a b::δ)=J ((.int s,Y),SS c b::δ):=by obtain⟨v,c,d,f,e⟩:=lX a b 2 (by lia) (by lia);refine⟨if v=0 then 1 else -1,c,by split<;>simp,λδ=>?_⟩;refine jQ (o1:=.val (.lst [.int 1,.int (-1)],C)) (δ1:=SS a b::δ) H (iq<|e _ δ _ rfl rfl) H H ?_;rcases(show v=0\/v=1 by lia)with rfl|rfl<;>rfl
def QV{x s:Int}(h:s=1\/s= -1):∃y,(y=x\/y= -x)/\ox (.int x) (.int s)=ii y:=by
 rcases h with rfl|rfl
 .exact⟨x,.inl H,X6 x⟩
 exact⟨-x,.inr H,abh x⟩
abbrev Na:FT:=ZR
theorem Wr(b:Bool):∀(m j:Nat)(a:Int)(c:gY)(x:Sl),1<=j->CA j c->AC c+m<=10->∃f d i,CA (j+m:Nat) d/\(AC d)<=10/\jK (hG 1) Na (jn<|hU ox (gR 1)<|hC MF) ((bi j m).map λ(k:Nat)=>D.int (k:Int)) (c.map .int) [SS a b,x]=J (d.map .int,[SS f b,i])
 |0,j,a,c,x,_,l,t=>⟨a,c,x,by simpa using l,by lia,rfl⟩
 |m+1,j,a,c,x,B,l,t=>by
  obtain⟨v,a1,U,E,n⟩:=lX a b 2 (by lia) (by lia)
  have A:Na [SS a b,ii j]=J (v==0,[SS a1 b,ii j]):=
   jk (o:=Y) (jQ (o1:=.val (.int v,Y)) (δ1:=[SS a1 b,ii j]) (o2:=.val (.int 0,Y)) (iq<|n _ [ii j] _ rfl rfl) H H H<|PR _ _)
  rw[AF,jI]
  have st:∀(g:Int)(h:gY),CA (j+1:Nat) h->AC h+m<=10->(if(v==0)=C then jn (hU ox (gR 1)<|hC MF) (c.map .int) [SS a1 b,ii j]else J (c.map .int,[SS a1 b,ii j]))=J (h.map .int,[SS g b,ii j])->
    ∃f d i,CA (j+(m+1):Nat) d/\(AC d)<=10/\jK (hG 1) Na (jn<|hU ox (gR 1)<|hC MF) (D.int j::(bi (j+1) m).map λ(k:Nat)=>D.int (k:Int)) (c.map .int) [SS a b,x]=J (d.map .int,[SS f b,i]):=λg h h1 r e=>by
   obtain⟨f,d,i,k1,k2,z⟩:=Wr b m (j+1) g h (ii j) (by lia) h1 r;refine⟨f,d,i,by rw[show j+(m+1)=j+1+m by lia];exact k1,k2,?_⟩;rw[jK,show hG 1 (.int j) [SS a b,x]=J [SS a b,ii j]from H];simp only[jj];rw[A];simp only[jj];rw[e];exact z
  by_cases hv:v=0
  .obtain⟨s,g,u,p⟩:=Jd a1 b;obtain⟨y,w,q⟩:=QV (x:=j) u;refine st g (c++[y]) (by have:=l.snoc (s:=y) (by rcases w with rfl|rfl;exact pX (by lia);exact FG<|by lia) (by lia);simpa using this) (by simp;lia) ?_;rw[hv,ie (show((0:Int)==0)=C from H),uJ,jQ (o1:=.slot 1) (δ1:=[SS a1 b,ii j]) H (iq<|p [ii j]) H H q];simp only[jj];rw[ie<|uG<|by simp;lia];simp
  refine st a1 c (by simpa using l.up) (by lia) ?_;rw[iC<|by simpa using hv]
def Dg(n:Nat):ja 1 n=(bi 1 n).map λ(k:Nat)=>D.int (k:Int):=by unfold ja;rw[List.range'_eq_map_range,ji];exact oT λk _=>by simp
def Cb(a:Int)(b:Bool)(n:Nat)(h1:1<=n)(E:n<=5):∃t c,Sr n c/\kU [pS a b,pI n]=J (enc c,[SS t b,ii n]):=by
 obtain⟨a1,c,x,p,T,u⟩:=Wr b n 1 a [] I (by lia) ⟨by simp,by simp⟩ (by simp;lia)
 have U:wO jB CZ [SS a b,ii n,I]=J ((bi 1 n).map λ(k:Nat)=>D.int (k:Int),[SS a b,ii n,I]):=by rw[E7 (o1:=.val (.int 1,Y)) (o2:=.val (.int<|(n:Int)+1,Y)) (i:=1) (j:=(n:Int)+1) H H H H (by lia)<|by lia,show((n:Int)+1-1).toNat=n by lia,Dg]
 have pre:∀g,gZ (jo 2<|iL [0] 1 (wO jB CZ) (hG 1) Na<|jn<|hU ox (gR 1)<|hC MF) g [SS a b,ii n,I]=g [SS a1 b,ii n,IX c]:=λg=>gX<|iY (i:=2) (δ1:=[SS a1 b,ii n,I]) ((nr (caps:=[0]) (args:=[pS a b]) U H (Jc 0) u).trans H) (show 2<3 by decide)
 have f:fT (hU I8 (gR 2) qz) [SS a1 b,ii n,IX c]=J (decide<|c=[],[SS a1 b,ii n,IX c]):=
  jk (o:=Y) (jQ (o1:=.slot 2) (o2:=.val (.lst [],C)) (δ2:=[SS a1 b,ii n,IX c]) H (iq<|by simp[jP]) H H<|Dy c [])
 by_cases e:c=[]
 .obtain⟨i,m,Q,L,v⟩:=lX a1 b n (by lia) (by lia);obtain⟨s,d,l,w⟩:=Jd m b;obtain⟨y,B,A⟩:=QV (x:=1+i) l;have h:ab y=1+i:=by rcases B with rfl|rfl;exact pX (by lia);exact FG (by lia)
  refine⟨d,[y],⟨by simp,by simp,λz q=>by simp at q;subst q;rw[h];lia⟩,?_⟩;refine jg (δ:=[SS d b,ii n,IX [y]]) ⟨rfl,by decide,rfl⟩<|(pre _).trans ?_;rw[e]at f;rw[e];refine(gX<|(mD f).trans<|(gX (δ1:=[SS d b,ii n,IX [y]])<|iY (i:=2) (δ1:=[SS d b,ii n,IX []]) (r:=(.lst [.int y],C)) ?_ (show 2<3 by decide)).trans H).trans (iz<|jm<|jC (a:=.lst [.int y]) H<|jR H);refine LH (os:=[.val (.int y,Y)]) (oP<|iq<|jQ (o1:=.val (.int (1+i),Y)) (δ1:=[SS m b,ii n,IX []]) (iq<|jQ (o1:=.val (.int 1,Y)) (δ1:=[SS a1 b,ii n,IX []]) H (iq<|v _ [ii n,IX []] (.slot 1) rfl rfl) H H<|aaX _ _) (iq<|w [ii n,IX []]) H H A) H<|nX (by simp)
 refine⟨a1,c,⟨e,p.1,λs l=>by have:=p.2 s l;lia⟩,?_⟩;refine jg (δ:=[SS a1 b,ii n,IX c]) ⟨rfl,by decide,rfl⟩<|(pre _).trans ?_;rw[kr e]at f;exact(gX<|(lY f).trans H).trans (iz<|jm<|jC (a:=.lst (c.map D.int)) H<|jR H)
def dC(cs:iI):D:=.R1 .dct (cs.map cD) (cs.map λ_=>.bl C)
theorem Du:∀l:List Int,(Hj<|l.map .int).isSome=C
 |[]=>rfl
 |x::l=>by
  have:=Du l;simp only[jI,Hj,BE]
  cases h:Hj (l.map D.int)with
  |none=>rw[h]at this;cases this
  |some k=>rfl
def Ly(c:gY):(EZ<|cD c).isSome=C:=Du c
def UQ(a:iI):((a.map cD).all λk=>(EZ k).isSome)=C:=by rw[ku];intro d hd;obtain⟨c,_,rfl⟩:=kO.mp hd;exact Ly c
def Hh(a:iI)(c:gY):xR (a.map cD) (cD c)=C:=by unfold xR;rw[Ly,UQ];simp
theorem PC(c:gY):∀a:List (List Int),vD (a.map cD) (a.map λ_=>.bl C) (cD c) (.bl C)=a.map λ_=>.bl C
 |[]=>rfl
 |x::a=>by simp[vD,PC c a]
def Xt(a:iI)(c:gY):D.R1 .dct (uY (a.map cD) (a.map λ_=>.bl C) (cD c)<|.bl C).1 (uY (a.map cD) (a.map λ_=>.bl C) (cD c)<|.bl C).2=dC (pW a c):=by
 unfold uY pW dC;rw[J8];by_cases h:c∈a
 .rw[ie<|by simpa using h,ie h,PC]
 rw[iC<|by simpa using h,iC h];simp
theorem Lk(c:gY):∀a:List (List Int),(oX (a.map cD) (a.map λ_=>.bl C)<|cD c).isSome=decide (c∈a)
 |[]=>rfl
 |x::a=>by
  simp only[jI,oX,BZ];by_cases h:x=c
  .simp[h]
  have: ¬c=x:=λe=>h e.symm;simp[h,this,Lk c a]
def ago(c:gY)(cs:iI):xY (cD c) (dC cs)=J (.bl (!decide (c∈cs)),Y):=by show(if xR (cs.map cD) (cD c)=C then J (D.bl (!(oX (cs.map cD) (cs.map λ_=>D.bl C)<|cD c).isSome),Y)else I)=_;rw[ie<|Hh cs c,Lk]
def Af.add{n:Nat}{a:iI}{c:gY}(h:Af n a)(b:Sr n c):Af n (pW a c):=by
 unfold pW;split
 .exact h
 exact h.snoc b (by assumption)
def LM{i:Nat}{f:F}{g:FO}{a δ1 δ2:Dn}{o:F1}{x:D×Bool}{b:Bool}{cs:iI}{c:gY}(h1:f a=J ((.bl C,b),δ1))(d:δ1[i]?=J (J x))(e:g δ1=J (o,δ2))(h:res δ2 o=J (cD c))(j:δ2[i]?=J (J (dC cs,C)))(k:(AC cs)<10000):GA i f g a=J (.nx<|δ2.set i<|J (dC<|pW cs c,C)):=by unfold GA;rw[h1];simp only[jj];rw[d];simp only[];rw[e];simp only[jj];rw[h,j];unfold dC;simp only[];rw[ie ⟨Hh cs c,by simpa using k⟩,Xt];rfl
abbrev fbD:FS:=ZO
def YD(a:Int)(b:Bool){n:Nat}(h1:1<=n)(k:n<=5){d:iI}(l:Af n d)(f g:Sl):∃h j,Af n j/\fbD [SS a b,ii n,f,J (dC d,C),g,I,I,I]=J (.nx [SS h b,ii n,f,J (dC j,C),g,I,I,I]):=by
 obtain⟨h,c,o,e⟩:=Cb a b n h1 k;refine⟨h,pW d c,l.add o,(gX (δ1:=[SS h b,ii n,f,J (dC<|pW d c,C),g,I,I,I]) ?_).trans H⟩
 have m:hC Vz [SS a b,ii n,f,J (dC d,C),g,I,I,I]=J (.val<|enc c,[SS h b,ii n,f,J (dC d,C),g,I,I,I]):=
  iq (jr (δ1:=[SS a b,ii n,f,J (dC d,C),g,I,I,I]) (os:=[.slot 0,.slot 1]) (args:=[pS a b,pI n]) H H (Jc 0) e)
 exact LM (i:=3) (b:=Y) H H m H H (by have:=l.len k;lia)
def adG(b:Bool){n:Nat}(h1:1<=n)(q:n<=5)(g:Sl)(l:List D)(a:Int)(cs:iI)(c:Sl)(o:Af n cs):∃i f m,Af n f/\pZ (hG 4) fbD l [SS a b,ii n,g,J (dC cs,C),c,I,I,I]=J (.nx [SS i b,ii n,g,J (dC f,C),m,I,I,I]):=by
 obtain⟨r,⟨i,f,m,k,rfl⟩,e⟩:=qo (fb:=fbD) (tg:=hG 4) (λ_ δ=>∃a cs c,Af n cs/\δ=[SS a b,ii n,g,J (dC cs,C),c,I,I,I]) (λd l δ h=>by obtain⟨a,cs,c,o,rfl⟩:=h;obtain⟨a1,j,k1,p⟩:=YD a b h1 q o g<|J (d,Y);exact⟨_,_,rfl,p,a1,j,_,k1,rfl⟩) l _ ⟨a,cs,c,o,rfl⟩
 exact⟨i,f,m,k,e⟩
abbrev ftF:FT:=fT<|hU BP (gR 6) qz
abbrev fbF:FS:=gZ (jo 7<|hW jh [hC<|PX.Fj 6,gR 5]) aac
def U1(fs:iI):BP (.lst<|fs.map cD) (.lst [])=J (.bl (!decide (fs=[])),Y):=by unfold BP;rw[ie ⟨Fp fs,by decide⟩];cases fs<;>simp[D.Q2,D.K3]
def YC{n:Nat}(m:n<=5){t:gY}(q:TT n t){cs fs:iI}{c:gY}(p:Af n cs)(v:(AC fs)<=1000)(s:Sr n c)(a d f g j:Sl):
  fbF [a,d,f,J (dC cs,C),g,eN t,B2<|fs++[c],j]=J (.nx [a,d,f,J (dC<|pW cs<|lc t c,C),g,eN t,B2 (if lc t c∈cs then fs else fs++[lc t c]),eN<|lc t c]):=by
 obtain⟨_,e,rfl⟩:=Q9 m q s
 have u:hC (PX.Fj 6) [a,d,f,J (dC cs,C),g,eN t,B2<|fs++[c],j]=J (.val<|enc c,[a,d,f,J (dC cs,C),g,eN t,B2 fs,j]):=by refine iq ?_;unfold PX.Fj;simp[B2]
 refine(gX (δ1:=[a,d,f,J (dC cs,C),g,eN t,B2 fs,eN<|lc t c])<|iY (i:=7) (δ1:=[a,d,f,J (dC cs,C),g,eN t,B2 fs,j]) (jr (δ1:=[a,d,f,J (dC cs,C),g,eN t,B2 fs,j]) (os:=[.val<|enc c,.slot 5]) (args:=[enc c,enc t]) (mP u H) H (by simp[iD]) e) (show 7<8 by decide)).trans ?_
 have k:fT (hU xY (gR 7)<|gR 3) [a,d,f,J (dC cs,C),g,eN t,B2 fs,eN<|lc t c]=J (!decide (lc t c∈cs),[a,d,f,J (dC cs,C),g,eN t,B2 fs,eN<|lc t c]):=
  jk (jO (ago _ _) (jV H).r<|jR H)
 by_cases h:lc t c∈cs
 .rw[kj h]at k;refine(gX<|(lY k).trans H).trans ?_;rw[ie h,show pW cs (lc t c)=cs from ie h];rfl
 rw[kr h]at k;refine(gX (δ1:=[a,d,f,J (dC<|pW cs<|lc t c,C),g,eN t,B2<|fs++[lc t c],eN<|lc t c])<|(mD k).trans<|(gX (δ1:=[a,d,f,J (dC<|pW cs<|lc t c,C),g,eN t,B2 fs,eN<|lc t c]) ?_).trans<|(wW (i:=6) (l0:=fs.map cD) (l:=fs.map cD) (r:=enc<|lc t c) (δ1:=[a,d,f,J (dC<|pW cs<|lc t c,C),g,eN t,B2 fs,eN<|lc t c]) H H H<|by simp;lia).trans ?_).trans ?_
 .exact LM (i:=3) (b:=Y) (o:=.slot 7) (cs:=cs) (δ1:=[a,d,f,J (dC cs,C),g,eN t,B2 fs,eN<|lc t c]) (δ2:=[a,d,f,J (dC cs,C),g,eN t,B2 fs,eN<|lc t c]) H H H H H (by have:=p.len m;lia)
 .simp[B2]
 rw[iC h];rfl
theorem OT{n:Nat}(v:n<=5){t:gY}(w:TT n t)(d f g i:Sl):∀(a:Nat)(cs fs:iI)(j:Sl),Af n cs->(∀c∈fs,Sr n c)->AC fs<=500->2*(243-AC cs)+AC fs<a->∃m s r,Af n m/\nQ ftF fbF a [d,f,g,J (dC cs,C),i,eN t,B2 fs,j]=J (.nx [d,f,g,J (dC m,C),i,eN t,s,r])
 |0,_,_,_,_,_,_,h=>by lia
 |a+1,cs,fs,j,u,hf,E,h=>by
  have p:ftF [d,f,g,J (dC cs,C),i,eN t,B2 fs,j]=J (!decide (fs=[]),[d,f,g,J (dC cs,C),i,eN t,B2 fs,j]):=
   jk (o:=Y) (jQ (o1:=.slot 6) (o2:=.val (.lst [],C)) (δ2:=[d,f,g,J (dC cs,C),i,eN t,B2 fs,j]) H (iq<|by simp[jP]) H H<|U1 fs)
  by_cases b:fs=[]
  .rw[kj b]at p;exact⟨cs,_,j,u,TF p⟩
  rw[kr b]at p;have e:=HW b;have B:(AC fs.dropLast)+1=(AC fs):=by rw[ID];have:=Ke.mpr b;lia
  have U:=hf _ (ib b);have y:=YC v w u (fs:=fs.dropLast) (by lia) U d f g i j;rw[e]at y;have A:=BD w U;have x:=u.add A;have l:=x.len v
  obtain⟨m,s,r,k1,k2⟩:=OT v w d f g i a _ (if lc t (fs.getLast b)∈cs then fs.dropLast else fs.dropLast++[lc t<|fs.getLast b]) (eN<|lc t<|fs.getLast b) x (λc k=>by
   have dl:∀c∈fs.dropLast,Sr n c:=λc k=>hf c<|NA _ k;split at k
   .exact dl c k
   rcases oE.mp k with z|z
   .exact dl c z
   cases yw.mp z;exact A) (by split<;>simp<;>lia) (by
   unfold pW at l ⊢;split
   .rename_i q;simp only[q,kz]at l ⊢;lia
   rename_i q;simp only[q,km]at l ⊢;simp at l ⊢;lia)
  exact⟨m,s,r,k1,(TC p y).trans k2⟩
def adt(cs:iI)(a:(AC cs)<=243){k:Int}(h:k=0\/k=1):∃fs:List (List Int),(∀c∈fs,c∈cs)/\(AC fs)<=243/\Hq (.lst<|cs.map cD) (.int k)=J (.lst<|fs.map cD,C):=by
 have b:=nX (n:=243) (by decide);rcases h with rfl|rfl
 .refine⟨[],by simp,by simp,?_⟩;show(if(0:Int)<=0/\(0:Int)<1000/\(cs.map cD).length*0<=sizeLine then J (D.lst (ac 0<|cs.map cD).flatten,C)else I)=_;rw[ie ⟨by decide,by decide,by simp⟩];rfl
 refine⟨cs,λ_ h=>h,a,?_⟩;show(if(0:Int)<=1/\(1:Int)<1000/\(cs.map cD).length*1<=sizeLine then J (D.lst (ac 1<|cs.map cD).flatten,C)else I)=_;rw[ie ⟨by decide,by decide,by simp;exact kK a b⟩];simp
def afQ(a:Int)(b:Bool)(n:Nat)(f:n<=5):∃I' d,mZ n d/\mw [pS a b,pI n]=zx ((Ag n d,z9),[SS I' b,ii n]):=by
 have E:∀δ:Dn,fT (hU I8 (gR 1) lL) (SS a b::ii n::δ)=zx (decide<|(n:Int)=0,SS a b::ii n::δ):=λδ=>jk (o:=z9)<|jO ((PR _ _).trans<|by rw[oj]) (jV At).r (jE At).r
 by_cases V:n=0
 .subst V;refine⟨a,[],⟨by lia,⟨by simp,by simp⟩,aV,by simp⟩,?_⟩;refine jg (δ:=[SS a b,ii (0:Nat),I,I,I,I,I,I]) ⟨rfl,by decide,rfl⟩<|iz<|(mD<|E _).trans<|iz<|jm ?_;exact oy (a:=(.int 0,z9)) (b:=(.tup [],z9)) At (by simp)
 have W:1<=n:=by lia
 obtain⟨u,a1,X,Z,T⟩:=lX a b 3 (by lia) (by lia)
 let p:List Int:=[3,5,12]
 let m:=p.getD u.toNat 0
 have hm:0<m/\m<=12:=by rcases(show u=0\/u=1\/u=2 by lia)with rfl|rfl|rfl<;>decide
 obtain⟨q,B,q0,q1,G⟩:=lX a1 b (m+1) (by lia) (by lia);obtain⟨s,rfl⟩:∃s:Nat,q=s:=⟨q.toNat,by lia⟩
 obtain⟨w,cs,e,x,J⟩:=adG b W f (ii m) (ja 0 s) B [] I ⟨by simp,by simp⟩;obtain⟨g,t,A,M⟩:=A6 w b n f;have A:=Ku A;obtain⟨v,j,v0,v1,N⟩:=lX g b 2 (by lia) (by lia);have L:=x.len f;obtain⟨fs,K,R,U⟩:=adt cs L (k:=if v=0 then 1 else 0) (by split<;>simp);obtain⟨y,O,Q,l,Y⟩:=OT f A (SS j b) (ii n) (ii m) e ab7 cs fs I x (λc h=>x.2 c<|K c h) (by lia) (by show _<100000;lia);have z:=l.len f;obtain⟨d,C,S,D⟩:=Am (cs:=y) (qG _ λc P=>(l.2 c P).1) (by lia);have hk:Af n d:=⟨C.symm.nodup l.1,λc h=>l.2 c<|C.mem_iff.mp h⟩
 refine⟨j,d.take 30,⟨f,hk.take 30,S.take 30,by rw[vo];lia⟩,?_⟩;refine jg (δ:=[SS j b,ii n,ii m,zx (dC y,z8),e,eN t,O,Q]) ⟨rfl,by decide,rfl⟩ ?_;have H:=E [I,I,I,I,I,I];rw[kr (show ¬(n:Int)=0 by lia)]at H;refine(gX<|(lY H).trans At).trans ?_;refine(gX<|iY (i:=2) (δ1:=[SS a1 b,ii n,I,I,I,I,I,I]) (jQ (o1:=.val (.lst<|p.map .int,z8)) (o2:=.val (.int u,z9)) (iq (δ1:=[SS a b,ii n,I,I,I,I,I,I])<|by simp[p,jP]) (iq<|T _ [ii n,I,I,I,I,I,I] _ rfl rfl) At At<|adw X<|by simpa[p]using Z) (show 2<8 by decide)).trans ?_;refine(gX (δ1:=[SS a1 b,ii n,ii m,zx (dC [],z8),I,I,I,I]) At).trans ?_;refine(gX<|(mI<|rB (o:=.val (.int s,z9)) (δ1:=[SS B b,ii n,ii m,zx (dC [],z8),I,I,I,I]) (iq<|G _ [ii n,ii m,zx (dC [],z8),I,I,I,I] (.val (.int<|m+1,z9)) rfl rfl) At<|by lia).trans J).trans ?_;refine(gX<|iY (i:=5) (δ1:=[SS g b,ii n,ii m,zx (dC cs,z8),e,I,I,I]) (jr (δ1:=[SS w b,ii n,ii m,zx (dC cs,z8),e,I,I,I]) (os:=[.slot 0,.slot 1]) (args:=[pS w b,pI n]) At At (Jc 0) M) (show 5<8 by decide)).trans ?_;refine(gX<|iY (i:=6) (δ1:=[SS j b,ii n,ii m,zx (dC cs,z8),e,eN t,I,I]) (jQ (o1:=.val (.lst<|cs.map cD,z8)) (o2:=.val (.int (if v=0 then 1 else 0),z9)) (δ1:=[SS g b,ii n,ii m,zx (dC cs,z8),e,eN t,I,I]) At (iq<|jQ (o1:=.val (.lst [.int 1,.int 0],z8)) (δ1:=[SS g b,ii n,ii m,zx (dC cs,z8),e,eN t,I,I]) At (iq<|N _ [ii n,ii m,zx (dC cs,z8),e,eN t,I,I] _ rfl rfl) At At ?_) At At U) (show 6<8 by decide)).trans ?_
 .rcases(show v=0\/v=1 by lia)with rfl|rfl<;>rfl
 refine(gX Y).trans (iz<|jm<|oy (a:=(.int n,z9)) (b:=(.tup<|(d.take 30).map cD,z9)) At<|jC (a:=.lst ((d.take 30).map cD)) At (jE (b:=z8) ?_).r);have F:xX (dC y)=zx (.lst<|d.map cD,z8):=D;unfold LG;rw[iq<|jC F<|jR At];simp only[jj,Xf,adj,PN];rw[show Ni I (zx 30) (.lst<|d.map cD)=zx (.lst<|PX.DH (d.map cD) I<|zx ((30:Nat):Int),z8)from At,YM,me];rfl
def abY(c:gY):(cD c).dep<=50:=by rw[qu];decide
def no{t:FT}{f:FS}{δ:Dn}(g:FS)(h:t δ=J (Y,δ)):gZ (J4 t f ip) g δ=g δ:=gX<|(lY h).trans H
def Ph{k l:iI}(g:k.Perm l)(h1:Fl k)(f:Fl l):k=l:=by
 refine g.eq_of_pairwise (le:=λa b=>A1 (cD b) (cD a)=Y) (λa b _ _ x y=>?_) h1 f;rw[ze]at x y;have d:∀x:List Int,D.pr (cD x)=C:=λx=>by simp[D.pr,Bl]
 have e:cT (cD a) (cD b)=.eq:=by
  rw[yn]at x
  cases c:cT (cD a) (cD b)with
  |lt=>exact absurd c y
  |gt=>rw[c]at x;exact absurd H x
  |eq=>rfl
 have:=yo _ _ (d a) (d b) e;simpa[oH]using nc Hd this
end PV
namespace L2
open PySem.W
section
variable {P:iF}{w:iu}{a:List ek}{H f:Hp}{s b:hJ}{C e:gU}{c B d:iJ}{F:ki}
end
section
variable {X:Cx}{b:iO}{c:St}{H:Hp}{s d:hJ}{C e:gU}
variable {P:iF}{w:iu}{a:List ek}{f:Hp}{s0:hJ}{E:XK}
end
section
variable {X:Cx}{P:iF}{w:iu}{b:List ek}{f:Hp}{s0:hJ}{E:XK}{x:aQ}{C:gU}{a:ig}{d:TE}{np e c:bp}
end
end L2
namespace PX
open L2
end PX
namespace L2
open PySem.W
section
variable {X:Cx}{b:iO}{f:St}{H:Hp}{s:hJ}{P c:gU}{a:ee}{d:ig}{scope:jU}{g:lI}{e:bp}
end
section
variable {g:Hy}{P:iF}{w:iu}{K:Frag}{c:mB}{base:iJ}{N:iX}{q:aQ}{scope:jU}{d:gU}{e:il}{f:lI}{A:iB}{a:List ek}{s:hJ}{H:Hp}{E:XK}{b:St}
end
open PySem.Calls Builtin Builtin.ObjectAttr Builtin.Getset_descriptor
section
variable {K:Frag}{C x:gU}{o:dS}
end
section
variable {X:Cx}{b:iO}{d c:St}{H:Hp}{s:hJ}{a:gU}{o:dS}{e:iJ}
end
section
variable {X:Cx}{a:iO}{b:St}{H h:Hp}{s c:hJ}{C f:gU}{d B e:iJ}{F:ki}{g:il}
end
end L2
namespace PX
open L2 PySem.SeqAt PySem.W
section
variable {X:Cx}{P:iF}{w:iu}{c:List ek}{m:Hp}{s0:hJ}{E:XK}{A:jX}{st:bG}{l a b:List bG}{x y:XS}{e:ig}{d:bp}
variable {k:Nat}{f:gU}{i:nI}{h:iX}{g:List D->Option aQ}{j:kb}{fs:List FO}{z:aQ}{p:bp}
end
end PX
namespace L2
open PySem.W
section
variable {fs:ki}{N:iX}{scope:jU}{f:lI}{c:St}{H g:Hp}{h d:iJ}{q:aQ}{a:ee}{b:ig}{e:gU}
end
section
variable {X:Cx}{N:iX}{scope:jU}{e:lI}{c:St}{q:aQ}{a:ee}{b:ig}{d:gU}{k:Nat}{t:XK->TE}
end
end L2
namespace PX
open L2 PySem.SeqAt PySem.W
section
variable {X:Cx}
end
section
variable {X:Cx}{t c:gU}{a:ee}{e:ig}{scope:jU}{f b r:bp}{d:jM}{v u:iX}{s:F}{xB:XS}{g:FS}{w:aQ->Option Nat}{l:jM}{st:bG}{fr:gU}{h:nI}{p q n m o:aQ}{CR:gU}{i j k:Nat}
end
section
variable {X:Cx}
variable {b f a e c:bp}{i:Nat}{x:aQ}{d:Nat}
end
section
variable {X:Cx}{e:ig}{h:FO}{c p d:bp}{z:aQ}{l:jM}{k:Nat}
variable {x:aQ}{i g:Nat}{j b:bp}{a:ig}{f:F}
end
section
variable {X:Cx}{P:iF}{w:iu}{d:List ek}{q:Hp}{s0:hJ}{E:XK}{A:jX}{st:bG}{o b:List bG}{x y:XS}{e:ig}{g p j:bp}{f:FS}{z:aQ}{a:ig}{m:F}{k:Nat}{i:iX}{h:List D->Option aQ}{n:kb}{fs:List FO}{l:FT}{c:ig}
end
section
variable {X:Cx}{k:Nat}{f:gU}{d:nI}{c:iX}{x:aQ}{p b:bp}{e a:ig}{i:kb}{h:OO}{fs:List FO}{g:FO}{TB:List (gU×aQ)}
end
section
variable {Z:ZZ}{ct a:List (aQ×Nat)}{CR:Nat}
end
end PX
namespace PV
open L2 PX
def PT(n m:Nat)(p:gY):Prop:=AC p=m/\(∀x∈p,SG n x)/\(p.map ab).Nodup
def PT.tt{n:Nat}{t:gY}(h:PT n n t):TT n t:=KS.mpr ⟨by simp[h.1],λx a=>by obtain⟨y,b,rfl⟩:=kO.mp a;exact h.2.1 y b,h.2.2⟩
def X5{n m:Nat}{p c:gY}(h:PT n m p)(d:Sr m c):((c.map<|led p).map ab).Nodup:=by
 rw[ji];have f:=zJ d.2.1;rw[Nu]at f ⊢;rw[kP]at f ⊢;refine DV ?_ f;intro a b g i o e;simp only[aW]at e;rw[FH h.1<|d.2.2 a g,FH h.1<|d.2.2 b i]at e;have h1:=d.2.2 a g;have l:=d.2.2 b i;have j:(ab a).toNat-1<(p.map ab).length:=by simp[h.1];lia
 have k:(ab b).toNat-1<(p.map ab).length:=by simp[h.1];lia
 simp only[lJ,jq j,jq k,ga]at e;have:=(Ex h.2.2).mp e
 lia
def UO(p c:gY):lC ED ((c.map<|led p).map D.int)=(lc p c).map D.int:=(tZ<|jA ED _).1
def Yb{n m:Nat}(l:m<=5){p c:gY}(h:PT n m p)(e:Sr m c):kZ [enc c,enc p]=J (enc<|lc p c,[eN c,eN p]):=by
 have k:=e.len
 have i:rE (.lst<|(c.map<|led p).map D.int)=J (.lst<|(lc p c).map D.int,C):=by
  show(if((c.map<|led p).map D.int).all Jl=C/\(((c.map<|led p).map D.int).map aD).Nodup/\((c.map<|led p).map D.int).length<64 then J (D.lst<|lC ED<|(c.map<|led p).map D.int,C)else I)=_
  have f:((c.map<|led p).map D.int).all Jl=C:=by rw[ku];intro d hd;obtain⟨x,_,rfl⟩:=kO.mp hd;rfl
  have g:(((c.map<|led p).map D.int).map aD).Nodup:=by rw[ji];exact X5 h e
  rw[ie ⟨f,g,by simp;lia⟩,UO]
 refine xy ⟨rfl,by decide,rfl⟩<|jC (a:=.lst ((lc p c).map D.int)) H (jE (b:=C)<|jC i (jE (b:=C)<|zv (args:=[cD p]) (led p) H H H (λx j=>⟨Y,?_⟩)<|by lia).r).r;exact CK (abp h.1<|e.2.2 x j) (jV H)<|jV H
def UM{m:Nat}{p:gY}(a:(AC p)=m)(r:gY){s:Int}(h:SG m s):led (p++r) s=led p s:=by
 obtain⟨k,hk,rfl|rfl⟩:=mC h
 .rw[kT,kT];simp[lJ,rV (show k<(AC p) by lia)]
 rw[lO,lO];simp[lJ,rV (show k<(AC p) by lia)]
def Ye{m:Nat}{p c:gY}(b:(AC p)=m)(r:gY)(a:Sr m c):lc (p++r) c=lc p c:=by unfold lc;rw[oT λs d=>UM b r<|a.2.2 s d]
noncomputable def JU(n:Nat):List Int:=((am (2*n+1)).map λ(k:Nat)=> -(n:Int)+k).filter λs=>!(s==0)
def MH(n:Nat)(t:gY):List Int:=(JU n).filter λs=>!t.contains s&&!t.contains (-s)
def J5(n:Nat)(L:iI):List (List Int):=L.flatMap λt=>(MH n t).map λs=>t++[s]
def nH(n:Nat):Nat->List (List Int)
 |0=>[[]]
 |m+1=>J5 n<|nH n m
def aaR{n:Nat}{s:Int}:s∈JU n↔SG n s:=by
 unfold JU SG;simp only[oD,kO,yv];constructor
 .rintro⟨⟨k,hk,rfl⟩,b⟩;unfold ab;simp at b;split<;>lia
 rintro⟨h1,a⟩;unfold ab at h1 a;refine⟨⟨(s+n).toNat,by split at a<;>lia,by split at a<;>lia⟩,by simp;split at h1<;>lia⟩
def yu{n:Nat}:∀{m:Nat}{t:gY},t∈nH n m->PT n m t:=by
 intro r
 induction r with
 |zero=>intro t h;simp[nH]at h;subst h;exact⟨rfl,λx c=>by simp at c,mT⟩
 |succ m q=>
  intro t h;simp only[nH,J5,Ac,kO]at h;obtain⟨p,o,s,d,rfl⟩:=h;obtain⟨h1,j,k⟩:=q o;unfold MH at d;simp only[oD,la,AB,List.contains_eq_mem,decide_eq_false_iff_not]at d;obtain⟨d,f,i⟩:=d;have sg:=aaR.mp d;refine⟨by simp[h1],λx c=>?_,?_⟩
  .rcases oE.mp c with c|c
   .exact j x c
   simp at c;subst c;exact sg
  rw[kQ,FV];refine⟨k,by simp,λa l b g e=>?_⟩;simp at g;subst g;subst e;obtain⟨x,c,e⟩:=kO.mp l;unfold ab at e;have:x=s\/x= -s:=by split at e<;>split at e<;>lia
  rcases this with rfl|rfl
  .exact f c
  exact i c
def HM:∀n,n<6->∀m,m<6->(nH n m).length<=3840:=by decide+kernel
def W0:∀n,n<6->st n∈nH n n:=by decide+kernel
def Ym{f g:FO}{δ δ1 δ2:Dn}{o1 o2:F1}{i j:Int}(h1:f δ=J (o1,δ1))(a:g δ1=J (o2,δ2))(b:res δ2 o1=J (.int i))(c:res δ2 o2=J (.int j))(d: -1000<=i/\i<=1000)(e: -1000<=j/\j<=1000):wO f g δ=J (ja i (j-i).toNat,δ2):=by unfold wO;rw[mP h1 a];simp only[jj,uX,b,c];rw[ie<|by lia]
def aeR{n:Nat}(b:n<=5):ph [pI n]=J ((.lst<|(JU n).map .int,C),[ii n]):=by
 have e:=uo (caps:=[]) (fi:=wO Oj VH) (f:=iM 0) (ti:=fT<|hU BP (gR 0) lL) (δ:=[ii n]) (δ1:=[ii n]) (l:=ja (-(n:Int)) (2*n+1)) (args:=[]) (λd=>d) (λd=>!(Ls d==0)) ?_ H H (λd hd=>?_) (by simp[ja];lia)
 .have a:((ja (-(n:Int)) (2*n+1)).filter λd=>!(Ls d==0)).map (λd=>d)=(JU n).map .int:=by rw[yx];unfold ja JU;rw[show(λ(k:Nat)=>D.int (-(n:Int)+k))=D.int∘(λ(k:Nat)=> -(n:Int)+k)from H,<-ji,vM];rfl
  rw[a]at e;exact xy ⟨rfl,by decide,rfl⟩ e
 .rw[Ym (o1:=.val (.int (-n),Y)) (o2:=.val (.int<|n+1,Y)) (δ1:=[ii n]) (δ2:=[ii n]) H H H H (by lia)<|by lia,show((n:Int)+1- -n).toNat=2*n+1 by lia]
 obtain⟨k,_,rfl⟩:=kO.mp hd;exact⟨by simp[Ls],λ_=>⟨Y,rfl⟩⟩
abbrev MQ:FT:=mW (fT Om) Ww
abbrev fE:F:=Vy
def WT(n:Nat)(t:gY)(s:Int):MQ [ii n,eN t,ii s]=J (!t.contains s&&!t.contains (-s),[ii n,eN t,ii s]):=by
 have h1:fT Om [ii n,eN t,ii s]=J (!t.contains s,[ii n,eN t,ii s]):=jk<|jO (rq s t) (jV H).r (jV H).r;have a:Ww [ii n,eN t,ii s]=J (!t.contains (-s),[ii n,eN t,ii s]):=jk<|jO (rq (-s) t) (jE (b:=Y) H).r (jV H).r;unfold MQ mW;rw[h1];simp only[jj];cases t.contains s
 .simp only[Ax,kz,yz];exact a
 rfl
def abV(n:Nat)(t:gY)(a:(AC t)<=100)(s:Int):fE [ii n,eN t,ii s]=J ((cD<|t++[s],Y),[ii n,eN t,ii s]):=by refine jO (b:=.tup [.int s]) ?_ (jV H).r (jE (b:=Y)<|by simp[jP,iM]).r;show lP (.tup<|t.map .int) (.tup [.int s])=_;simp only[lP];rw[ie<|nX<|by simp;lia,<-List.map_singleton,<-kQ]
theorem SQ{n:Nat}(e:n<=5):∀(L:iI)(a:List D)(x y:Sl),(∀t∈L,AC t<=100)->AC a+10*(AC L)<=sizeLine->
  ∃u b,jK (hG 1) je (FC (jb<|hW ph [gR 0]) (hG 2) MQ<|jn fE) (L.map cD) a [ii n,x,y]=J (a++(J5 n L).map cD,[ii n,u,b])
 |[],a,x,y,_,_=>⟨x,y,by simp[jK,J5]⟩
 |t::L,a,x,y,h,o=>by
  have q:(JU n).length<=10:=by have:=oR (λs:Int=>!(s==0))<|(am (2*n+1)).map λ(k:Nat)=> -(n:Int)+k;rcases(show n=0\/n=1\/n=2\/n=3\/n=4\/n=5 by lia)with rfl|rfl|rfl|rfl|rfl|rfl<;>decide
  simp only[kG]at o
  obtain⟨b,c⟩:=ab1 (f:=fE) (ti:=MQ) (g:=λd=>cD<|t++[Ls d]) (p:=λd=>!t.contains (Ls d)&&!t.contains (-(Ls d))) (pre:=[ii n,eN t]) ((JU n).map .int) a y (λd hd=>by obtain⟨s,_,rfl⟩:=kO.mp hd;exact⟨WT n t s,λ_=>⟨Y,abV n t (h t jt) s⟩⟩) (by simp;lia)
  have j:(((JU n).map D.int).filter λd=>!t.contains (Ls d)&&!t.contains (-(Ls d))).map (λd=>cD<|t++[Ls d])=((MH n t).map λs=>t++[s]).map cD:=by rw[vM,ji,ji];rfl
  rw[j]at c
  have m:((MH n t).map λs=>t++[s]).length<=10:=by rw[jl];exact kK (oR _ _) q
  obtain⟨x2,v,i⟩:=SQ e L (a++((MH n t).map λs=>t++[s]).map cD) (eN t) b (λr l=>h r<|jx _ l) (by rw[lA,jl];lia);refine⟨x2,v,?_⟩;rw[jI,jK];rw[show hG 1 (cD t) [ii n,x,y]=J [ii n,eN t,y]from H];simp only[jj,uI,kz];unfold FC;rw[nO<|MC (aeR e)<|jV H];simp only[jj];rw[show jK (hG 2) MQ (jn fE) ((JU n).map .int) a [ii n,eN t,y]=_ from c];simp only[jj];refine(show _=_ from i).trans ?_;simp[J5]
def agq{n:Nat}(a:n<=5)(L:iI)(h:∀t∈L,AC t<=100)(b:(AC L)<=4000):nR [pI n,(.lst<|L.map cD,C)]=J ((.lst<|(J5 n L).map cD,C),[ii n,J (.lst<|L.map cD,Y)]):=by obtain⟨c,d,e⟩:=SQ a L [] I I h (by rw[jP];simp;lia);refine jg (δ:=[ii n,J (.lst<|L.map cD,Y)]) ⟨rfl,by decide,rfl⟩<|iz<|jm ?_;exact(nr (caps:=[0]) (l:=L.map cD) (δ1:=[ii n,J (.lst<|L.map cD,Y)]) (args:=[pI n]) (nO (o:=Y) H) H mT e).trans H
def ln(c:gY):Nat:=(ab<|c.getLastD 0).toNat
def Lm{n:Nat}{c:gY}(h:Sr n c):1<=ln c/\ln c<=n/\Sr (ln c) c:=by
 obtain⟨b,h1,d⟩:=h;rcases yJ c with rfl|⟨l,x,rfl⟩
 .exact absurd H b
 rw[yI]at b h1 d ⊢;have e:ln (l++[x])=(ab x).toNat:=by simp[ln,fe]
 have f:=d x (by simp);rw[e];refine⟨by lia,by lia,b,h1,λs a=>⟨(d s a).1,?_⟩⟩;rcases oE.mp a with a|a
 .rw[kQ,uw]at h1;have:=h1.2.2 (ab s) (rP a) (ab x) (by simp)
  lia
 simp at a;subst a;lia
def Sr.up{n m:Nat}{c:gY}(h:Sr n c)(b:n<=m):Sr m c:=⟨h.1,h.2.1,λs a=>by have:=h.2.2 s a;lia⟩
def UP{n:Nat}{c:gY}(h:Sr n c):N2 (cD c) (.int (-1))=ii (c.getLastD 0):=by
 rcases yJ c with rfl|⟨l,x,rfl⟩
 .exact absurd H h.1
 simp only[yI];simp[N2,G5,EO,fe];rw[ie<|by lia,show(-1+(((AC l):Int)+1)).toNat=(AC l) by lia];simp
def Yo(c:gY)(a:iI):Gh (cD c) (.tup<|a.map cD)=J (.bl<|decide<|c∈a,Y):=abC c a
def E5(js a:iI)(m:Nat)(t:gY):Bool:=a.all λc=>!decide (ln c<=m)||decide (lc t c∈js)
def JJ(a:iI)(m:Nat):List (List Int):=a.filter λc=>ln c==m
theorem DC{d e:Type}{P:d->Bool}{Q R:e->Bool}{f:d->List e}:∀L:List d,(∀t∈L,∀u∈f t,R u=(P t&&Q u))->((L.filter P).flatMap f).filter Q=(L.flatMap f).filter R
 |[],_=>rfl
 |t::L,h=>by
  have g:=DC L λt b=>h t<|jx _ b;have b:=h t jt;rw[HU,gi,<-g]
  cases a:P t with
  |true=>
   rw[DX a,HU,gi]
   congr 1
   exact HV λu c=>by rw[b u c,a];rfl
  |false=>
   rw[HS<|by rw[a];decide];have:(f t).filter R=[]:=Vs.mpr λu c=>by rw[b u c,a,dk];exact kJ
   rw[this];rfl
def QE{n m:Nat}{b a:iI}(hk:∀c∈a,Sr n c){t:gY}(f:(AC t)=m)(s:Int):E5 b a (m+1) (t++[s])=(E5 b a m t&&(JJ a<|m+1).all λc=>decide<|lc (t++[s]) c∈b):=by
 unfold E5 JJ
 induction a with
 |nil=>rfl
 |cons c a g=>
  have e:=Lm<|hk c jt;rw[vX,vX,g λc h=>hk c<|jx _ h];by_cases h1:ln c=m+1
  .rw[DX<|by simp[h1],vX,kj (show ln c<=m+1 by lia),kr (show ¬ln c<=m by lia)];simp only[rQ,mj,Ax,m8,yz];cases decide (lc (t++[s]) c∈b)<;>cases(a.all λc=>!decide (ln c<=m)||decide (lc t c∈b))<;>rfl
  rw[HS<|by simpa using h1];by_cases d:ln c<=m
  .rw[kj (show ln c<=m+1 by lia),kj d,Ye f [s]<|e.2.2.up d,eV]
  rw[kr (show ¬ln c<=m+1 by lia),kr d,eV];rfl
def Sd{n m:Nat}{js a:iI}(hk:∀c∈a,Sr n c):(J5 n<|(nH n m).filter<|E5 js a m).filter (λu=>(JJ a<|m+1).all λc=>decide<|lc u c∈js)=(nH n<|m+1).filter (E5 js a<|m+1):=by refine DC _ λt b u d=>?_;obtain⟨s,_,rfl⟩:=kO.mp d;exact QE hk (yu b).1 s
def abg{n:Nat}{js a:iI}(hk:∀c∈a,Sr n c)(t:gY):E5 js a 0 t=C:=ku.mpr λc b=>by rw[kr (by have:=(Lm<|hk c b).1;lia)];rfl
def abf{n:Nat}{js a:iI}(hk:∀c∈a,Sr n c)(t:gY):E5 js a n t=a.all λc=>decide (lc t c∈js):=by unfold E5;rw[sM,ku,ku];refine Au λc=>Au λb=>?_;rw[kj (Lm<|hk c b).2.1];rfl
abbrev TK:FT:=aaf
abbrev abS:FS:=gZ aaq<|gZ (jo 4<|iL [1,6] 1 Wv (hG 2) TK<|jn<|iM 2) ip
abbrev CP(L:iI)(o:Bool):Sl:=J (.lst<|L.map cD,o)
abbrev FF(L:iI):Sl:=J (.tup<|L.map cD,Y)
def TJ{n m:Nat}(e:m<=5){js rd:iI}(g:∀c∈rd,Sr m c)(i:(AC rd)<=30){t:gY}(h:PT n m t)(o:Bool):TK [FF js,CP rd o,eN t]=J (rd.all λc=>decide<|lc t c∈js,[FF js,CP rd Y,eN t]):=by
 have c:=qQ (caps:=[0,2]) (fi:=jb<|iM 1) (f:=hU Gh VM<|gR 0) (δ:=[FF js,CP rd o,eN t]) (δ1:=[FF js,CP rd Y,eN t]) (l:=rd.map cD) (args:=[.tup<|js.map cD,cD t]) (λd=>decide<|lc t (Hd d)∈js) (by cases o<;>exact nO (o:=Y) H) H H (λd hd=>by obtain⟨c,a,rfl⟩:=kO.mp hd;rw[oH];exact⟨Y,jO (b:=.tup (js.map cD)) (Yo _ _) (jE (b:=Y)<|CK (Yb e h<|g c a) (jV H)<|jV H).r (jV H).r⟩) (by simp;lia)
 rw[show(rd.map cD).all (λd=>decide<|lc t (Hd d)∈js)=rd.all λc=>decide (lc t c∈js) by rw[rg];simp only[rR,oH]]at c;exact jk c
theorem SN{n m:Nat}(g:m<=5){js rd:iI}(i:∀c∈rd,Sr m c)(f:(AC rd)<=30):∀(L:iI)(a:List D)(o:Bool)(x:Sl),(∀t∈L,PT n m t)->AC a+AC L<=sizeLine->
  ∃b d,jK (hG 2) TK (jn<|iM 2) (L.map cD) a [FF js,CP rd o,x]=J (a++(L.filter λt=>rd.all λc=>decide<|lc t c∈js).map cD,[FF js,CP rd b,d])
 |[],a,o,x,_,_=>⟨o,x,by simp[jK]⟩
 |t::L,a,o,x,h,q=>by
  have l:=TJ g i f (h t jt) (js:=js) o;have j:∀t∈L,PT n m t:=λt r=>h t<|jx _ r;simp only[kG]at q;rw[jI,jK,show hG 2 (cD t) [FF js,CP rd o,x]=J [FF js,CP rd o,eN t]from H];simp only[jj];rw[l];simp only[jj]
  cases k:rd.all λc=>decide (lc t c∈js)with
  |false=>obtain⟨b,d,e⟩:=SN g i f L a Y (eN t) j (by lia);exact⟨b,d,by rw[iC kJ,HS (p:=λt=>rd.all λc=>decide<|lc t c∈js)<|by rw[k];exact kJ];exact e⟩
  |true=>obtain⟨b,d,e⟩:=SN g i f L (a++[cD t]) Y (eN t) j (by simp;lia);refine⟨b,d,?_⟩;rw[ie H,DX (p:=λt=>rd.all λc=>decide<|lc t c∈js) k];simp only[uJ];rw[show iM 2 [FF js,CP rd Y,eN t]=J ((cD t,Y),[FF js,CP rd Y,eN t])from H];simp only[jj];rw[ie<|by lia];simp only[jj];rw[e];simp
def YI{t:FT}{f g:F}{δ δ1:Dn}{b:Bool}(h:t δ=J (b,δ1)):Jn t f g δ=if b=C then f δ1 else g δ1:=by unfold Jn;rw[h];rfl
theorem LI{n:Nat}(a:n<=5):∀L:List (List Int),(J5 n L).length<=10*(AC L)
 |[]=>by simp[J5]
 |t::L=>by
  have:=LI a L
  have b:((MH n t).map λs=>t++[s]).length<=10:=by rw[jl];refine kK (oR _ _) ?_;rcases(show n=0\/n=1\/n=2\/n=3\/n=4\/n=5 by lia)with rfl|rfl|rfl|rfl|rfl|rfl<;>decide
  unfold J5 at*;rw[HU,lA,kG]
  lia
section
variable {n:Nat}{g js:iI}(j:n<=5)(hk:∀c∈g,Sr n c)(q:g.length<=30)
include j hk q
abbrev JO(n:Nat)(g js L:iI)(x y:Sl):Dn:=[J (Ag n g,Y),FF js,ii n,FF g,CP L C,x,y]
theorem U8{m:Nat}(G:m+1<=n)(y:Sl):∃Q,abS (JO n g js ((nH n m).filter<|E5 js g m) (ii<|(m:Int)+1) y)=J (.nx<|JO n g js ((nH n<|m+1).filter<|E5 js g<|m+1) (ii<|(m:Int)+1) Q):=by
 have s:=uo (caps:=[5]) (fi:=jb<|iM 3) (f:=iM 1) (ti:=fT Z1) (δ:=JO n g js ((nH n m).filter<|E5 js g m) (ii<|(m:Int)+1) y) (δ1:=JO n g js ((nH n m).filter<|E5 js g m) (ii<|(m:Int)+1) y) (l:=g.map cD) (args:=[.int<|(m:Int)+1]) (λd=>d) (λd=>ln (Hd d)==m+1) H H H (λd hd=>by
  obtain⟨c,u,rfl⟩:=kO.mp hd;rw[oH];refine⟨jk (o:=Y)<|jO (a:=.int (ab<|c.getLastD 0)) ?_ (jE (b:=Y)<|jC H (jE (b:=Y)<|jO (UP<|hk c u) (jV H).r (jE (b:=Y) H).r).r).r (jV H).r,λ_=>⟨Y,rfl⟩⟩;have T:0<=ab (c.getLastD 0):=by unfold ab;split<;>lia
  have:(ln c==m+1)=decide (ab (c.getLastD 0)=(m:Int)+1):=by
   unfold ln;generalize ab (c.getLastD 0)=x at*;by_cases h:x=(m:Int)+1
   .rw[kj h,h];simp
   rw[kr h];simp;lia
  rw[this];generalize ab (c.getLastD 0)=x;simp[I8,D.Q2,D.dep,oj]) (by simp;lia)
 rw[DD]at s;have er:(g.filter λt=>ln (Hd<|cD t)==m+1)=JJ g (m+1):=by simp only[oH];rfl
 rw[er]at s
 have O:∀c∈JJ g (m+1),Sr (m+1) c:=λc u=>by obtain⟨h1,z⟩:=oD.mp u;have:=Lm<|hk c h1;rw[beq_iff_eq]at z;rw[<-z];exact this.2.2
 have v:(JJ g<|m+1).length<=30:=kK (oR _ _) q;have B:∀t∈(nH n m).filter (E5 js g m),PT n m t:=λt k=>yu (oD.mp k).1;have N:((nH n m).filter<|E5 js g m).length<=3840:=kK (oR _ _)<|HM n (by lia) m (by lia)
 have E:∀t∈J5 n ((nH n m).filter<|E5 js g m),PT n (m+1) t:=λt k=>by refine yu (m:=m+1) ?_;obtain⟨p,I,L⟩:=Ac.mp k;exact Ac.mpr ⟨p,(oD.mp I).1,L⟩
 have M:(J5 n<|(nH n m).filter<|E5 js g m).length<=38400:=by
  have:=LI j<|(nH n m).filter<|E5 js g m
  lia
 obtain⟨w,U,e⟩:=SN (n:=n) (m:=m+1) (by lia) (js:=js) O v (J5 n<|(nH n m).filter<|E5 js g m) [] C z7 E (by rw[jP];simp;lia);rw[sN,Sd hk]at e;refine⟨CP (JJ g<|m+1) w,?_⟩
 have A:iL [1,6] 1 Wv (hG 2) TK (jn<|iM 2) (JO n g js ((nH n m).filter<|E5 js g m) (ii<|(m:Int)+1)<|CP (JJ g<|m+1) C)=J ((.lst<|((nH n<|m+1).filter<|E5 js g<|m+1).map cD,C),[rS n g,FF js,ii n,FF g,CP ((nH n m).filter<|E5 js g m) Y,ii<|(m:Int)+1,CP (JJ g<|m+1) w]):=by
  refine(nr (caps:=[1,6]) (args:=[(.tup<|js.map cD,Y),(.lst<|(JJ g<|m+1).map cD,C)]) (δ1:=[rS n g,FF js,ii n,FF g,CP ((nH n m).filter<|E5 js g m) Y,ii<|(m:Int)+1,CP (JJ g<|m+1) C]) (nO (o:=C) ?_) H (Jc 6) e).trans ?_
  .exact jr (δ1:=JO n g js ((nH n m).filter<|E5 js g m) (ii<|(m:Int)+1)<|CP (JJ g<|m+1) C) (os:=[.slot 2,.slot 4]) (args:=[pI n,(.lst<|((nH n m).filter<|E5 js g m).map cD,C)]) H H (Jc 4) (agq j _ (λt k=>by have:=(B t k).1;lia) (by lia))
  cases w<;>rfl
 exact(gX<|iY s (show 6<7 by decide)).trans ((gX<|iY (i:=4) A (show 4<7 by decide)).trans H)
theorem afy:nS [(Ag n g,Y),(.tup<|js.map cD,Y)]=J ((.lst<|((nH n n).filter λt=>g.all λc=>decide<|lc t c∈js).map cD,C),[rS n g,FF js]):=by
 obtain⟨_,⟨m,x,y,i,rfl⟩,e⟩:=qo (tg:=hG 5) (fb:=abS) (λds δ=>∃(m:Nat)(x y:Sl),(m<=n/\ds=(bi (m+1)<|n-m).map λ(k:Nat)=>D.int (k:Int))/\δ=JO n g js ((nH n m).filter<|E5 js g m) x y) (λd ds δ U=>by
  obtain⟨m,x,y,⟨h1,a⟩,h⟩:=U
  subst h
  have l:m<n:=by
   rcases oC m n with h|h
   .exact h
   rw[show n-m=0 by lia]at a;cases a
  rw[show n-m=(n-(m+1))+1 by lia,AF,jI]at a;obtain⟨rfl,rfl⟩:=ve a;obtain⟨o,e⟩:=U8 (js:=js) j hk q (m:=m) (by lia) y
  exact⟨_,_,rfl,e,m+1,_,o,⟨l,rfl⟩,rfl⟩) ((bi 1 n).map λ(k:Nat)=>D.int (k:Int)) (JO n g js [[]] I I) ⟨0,I,I,⟨lz _,rfl⟩,by rw[Y4.mpr λt _=>abg hk t];rfl⟩
 obtain⟨p,f⟩:=i
 have b:m=n:=by
  rcases oC m n with h|h
  .rw[show n-m=(n-(m+1))+1 by lia,AF]at f;cases f
  lia
 subst b;rw[HV λt _=>abf hk t]at e;refine jg (δ:=[rS m g,FF js,ii m,FF g,I,x,y]) ⟨rfl,by decide,rfl⟩ ?_;refine(gX (δ1:=[rS m g,FF js,ii m,FF g,I,I,I]) H).trans ((gX (δ1:=JO m g js [[]] I I)<|by simp[jP]).trans ?_);refine(gX<|(mI (ds:=(bi 1 m).map λ(k:Nat)=>D.int (k:Int)) (δ1:=JO m g js [[]] I I) ?_).trans e).trans (iz ?_)
 .rw[E7 (o1:=.val (.int 1,Y)) (o2:=.val (.int<|(m:Int)+1,Y)) (δ2:=JO m g js [[]] I I) H H H H (by lia)<|by lia,show((m:Int)+1-1).toNat=m by lia,Dg]
 rfl
theorem aek:oi [(Ag n g,Y)]=J ((.lst<|((nH n n).filter λt=>g.all λc=>decide<|lc t c∈g).map cD,C),[rS n g]):=by
 refine xy ⟨rfl,by decide,rfl⟩<|CK (b:=Ag n g) (outs:=[rS n g,rS n g]) ?_ (jV H)<|jV H;refine xy ⟨rfl,by decide,rfl⟩ (δ:=[rS n g,rS n g])<|(YI (b:=C) (δ1:=[rS n g,rS n g])<|jk (o:=Y)<|jO (a:=.int (AC g)) (Hr<|by simp[D.dep]) (jE (b:=Y)<|jC ?_ (jE (b:=Y)<|jO H (jV H).r (jE H).r).r).r (jE (b:=Y)<|jC ?_ (jE (b:=Y)<|jO H (jV H).r (jE H).r).r).r).trans ?_
 .simp[ud]
 .simp[ud]
 exact CK (afy j hk q) (jV H) (jE (b:=Y)<|jO H (jV H).r (jE H).r)
end
def QU{l:gY}(h:(l.map ab).Nodup):l.Nodup:=pf ab (λ_ _ h e=>h<|nc ab e) h
def G3{f:Type}[DecidableEq f]:∀(l m:List f),l.Nodup->(∀x∈l,x∈m)->AC m<=AC l->l.Perm m:=by
 intro j
 induction j with
 |nil=>intro m _ _ h;rw[Of.mp<|Nat.le_zero.mp h]
 |cons x l i=>intro m a b g;rw[Cj]at a;have c:=b x jt;have k:=i (m.erase x) a.2 (λy d=>(D8 (show y≠x from λe=>a.1<|e▸d)).mpr<|b y<|jx _ d) (by rw[NU c];simp at g;omega);exact(k.cons x).trans (HX c).symm
def Yf{n:Nat}{t a b:gY}(f:TT n t)(c:Sr n a)(d:Sr n b)(e:lc t a=lc t b):a=b:=by
 have i:=(oh f c).1.1;have m:=(oh f d).1.1;rw[e]at i;have j:=i.symm.trans m;have k:=j.length_eq;simp only[jl]at k
 have l:a.Perm b:=G3 _ _ (QU<|zJ c.2.1) (λs h=>by obtain⟨r,g,e⟩:=kO.mp<|j.mem_iff.mp<|rP h;rw[<-Aq f (d.2.2 r g) (c.2.2 s h) e];exact g) (by lia)
 have o:=kP.mp c.2.1;have p:=kP.mp d.2.1;exact l.eq_of_pairwise (λx y _ _ h1 q=>by lia) o p
def Ha{n:Nat}{t:gY}{d g:iI}(o:TT n t)(f:mZ n d)(h:LR t d g):(g=d)↔ ∀c∈d,lc t c∈d:=by
 constructor
 .rintro rfl c i;exact h.1.mem_iff.mpr<|rP i
 intro j
 have q:(d.map<|lc t).Nodup:=by rw[Nu,kP];refine DV ?_<|Nu.mp f.2.1.1;intro a b k l r e;exact r<|Yf o (f.2.1.2 a k) (f.2.1.2 b l) e
 have m:g.Perm d:=by refine h.1.trans<|G3 _ _ q (λx p=>?_) (by simp);obtain⟨c,i,rfl⟩:=kO.mp p;exact j c i
 exact Ph m h.2 f.2.2.1
def acM{n:Nat}{d:D}(h:tB n d=C):∃t,d=cD t/\TT n t:=by
 rw[Pe]at h
 cases d with
 |tup l=>
  simp only[lB,la,ku,qw]at h;refine⟨l.map Ls,?_,?_⟩
  .have:l=(l.map Ls).map D.int:=by
    rw[ji]
    conv=>lhs;rw[<-rO l]
    exact oT λd hd=>OU<|h.1 d hd
   exact nc D.tup this
  unfold TT;rw[ji];exact h.2
 |_=>cases h
def Nf(n:Nat)(a:iI)(d:D):Bool:=tB n d&&a.all λc=>decide<|lc ((Ba d).map Ls) c∈a
def Pw(t:gY):(Ba<|cD t).map Ls=t:=oH t
theorem LK:∀a b:List (List Int),D.K3 (a.map cD) (b.map cD)=decide (a=b)
 |[],[]=>rfl
 |[],_::_=>rfl
 |_::_,[]=>rfl
 |x::a,y::b=>by rw[jI,jI,D.K3,BZ,LK a b];simp
def Yt(n:Nat)(a b:iI):I8 (Ag n a) (Ag n b)=J (.bl<|decide<|a=b,Y):=by unfold I8;rw[ie ⟨Sq n a,Sq n b⟩];simp only[D.Q2,D.K3];rw[LK];simp
section
variable {n:Nat}{a:iI}(h:mZ n a){d:D}(hd:OV d)
include h hd
theorem agw:ny [(Ag n a,Y),(d,Y)]=J ((.bl<|Nf n a d,Y),[rS n a,J (d,Y)]):=by
 have c:hW jW [qA,gR 1] [rS n a,J (d,Y)]=J ((.bl<|tB n d,Y),[rS n a,J (d,Y)]):=CK (tL n d hd) (jE (b:=Y)<|jO H (jV H).r (jE H).r)<|jV H;refine xy ⟨rfl,by decide,rfl⟩ (δ:=[rS n a,J (d,Y)]) ?_;unfold Nf
 cases e:tB n d with
 |false=>rw[e]at c;exact JT c
 |true=>
  rw[e]at c;obtain⟨t,rfl,f⟩:=acM e;obtain⟨j,i,g⟩:=Ri f h;refine(pR c).trans (jO ?_ (jE (b:=Y)<|CK g (jV H)<|jV H).r (jV H).r);rw[Yt,Pw,yz]
  congr 3
  rw[sM,qw,ku,Ha f h i];simp only[qw]
end
end PV
namespace PX
open L2 PySem.SeqAt PySem.W
section
variable {X:Cx}{x y a b c d:ig}{u v z:aQ}{t s r q:FO}{f l k j i h:bp}{p o n:Nat}{m g e:bZ}
end
end PX
namespace PV
open L2 PX
section
variable {d:D}{lo a:Int}
end
end PV
namespace TT
section
variable {a:iF}{w:iu}{A:iB}{E:iU}{s:hJ}
end
end TT
namespace PX
open L2 PySem.SeqAt
section
variable {X:Cx}{e:ig}{f:F}{d:FO}{b g a c p:bp}{i:Nat}{x:aQ}
end
open PySem.W
section
variable {X:Cx}{E:XK}{A:jX}{c iter:ig}{a:List bG}{d:B0}{t:Tg}{e:FS}{x:XS}{b:bp}
end
end PX
namespace PV
open L2 PX
section
variable {n m:Nat}{V R:iI}{d:D}
end
section
variable {a b c:D}
end
def aaz{n:Nat}{t:gY}(a:TT n t):tB n (cD t)=C:=by rw[Pe];simp only[lB,la,ku,qw,ji];refine⟨λd hd=>?_,a⟩;obtain⟨x,_,rfl⟩:=kO.mp hd;rfl
section
variable {n:Nat}{d:D}
end
def AJ(c:FO)(b:Dn)(a:D×Bool):Prop:= ∃o,c b=J (o,b)/\yt b o=J a/\(a.2=C->∃i,o=.slot i/\b[i]?=J (J a))
def AJs:List FO->Dn->List (D×Bool)->Prop
 |[],_,[]=>True
 |f::fs,b,a::as=>AJ f b a/\AJs fs b as
 |_,_,_=>False
def FJ.a{fo:FO}{δ:Dn}{d:D}(h:FJ fo δ d):AJ fo δ (d,Y):=by obtain⟨o,h1,_,b⟩:=h;exact⟨o,h1,b,λz=>by cases z⟩
def aL{i:Nat}{δ:Dn}{a:D×Bool}(h:δ[i]?=J (J a)):AJ (gR i) δ a:=⟨.slot i,by unfold gR;rw[h],by simp[h],λ_=>⟨i,rfl,h⟩⟩
def W6{a:Dn}{i:Nat}{x:Sl}(h:a[i]?=J x):a.set i x=a:=by obtain⟨h1,rfl⟩:=qX.mp h;exact List.set_getElem_self h1
def uA{j:OO}{δ:Dn}{r:D×Bool}{fs:List FO}{as:List (D×Bool)}(h:j as=J (r,as.map J))(c:AJs fs δ as)(p:(as.filter (·.2)).length<=1):hW j fs δ=J (r,δ):=by
 have key:∀(fs:List FO)(as:List (D×Bool)),AJs fs δ as->∃os,kd fs δ=J (os,δ)/\jS δ os=J as/\wb os as (as.map J) δ=δ/\(iD os as).length<=(as.filter (·.2)).length:=by
  intro fs
  induction fs with
  |nil=>
   intro as c
   cases as with
   |nil=>exact⟨[],rfl,rfl,rfl,jw _⟩
   |cons _ _=>exact c.elim
  |cons f fs s=>
   intro as c
   cases as with
   |nil=>exact c.elim
   |cons a as=>
    obtain⟨⟨o,h1,m,k⟩,q⟩:=c;obtain⟨os,k1,k2,e,g⟩:=s as q;refine⟨o::os,mO h1 k1,by simp[m,k2],?_,?_⟩
    .obtain⟨d,b⟩:=a
     cases b with
     |true=>obtain⟨i,rfl,n⟩:=k H;rw[jI,wb];show wb os as _ (δ.set i _)=δ;rw[W6 n];exact e
     |false=>rw[jI];cases o<;>simpa[wb]using e
    obtain⟨d,b⟩:=a
    cases b
    .cases o<;>simpa[iD]using g
    obtain⟨i,rfl,_⟩:=k H;simpa[iD]using g
 obtain⟨os,k1,k2,e,g⟩:=key fs as c;refine(jr k1 k2 ?_ h).trans (by rw[e]);have:(iD os as).length<=1:=kK g p;revert this;rcases iD os as with _|⟨x,_|⟨y,l⟩⟩<;>simp
section
variable {n:Nat}{ks A:iI}{c:gY}
def GI{d:D}{b:Bool}{m N:Nat}(hd:ud d=J (.int N,Y))(h:m<N):kW [(d,b),pI m]=J ((.bl C,Y),[J (d,b),ii m]):=by
 have e:hW kX [gR 1,lL,hC<|hU PX.CF F5 jB] [J (d,b),ii m]=J ((.bl C,Y),[J (d,b),ii m]):=by refine(Rz (uO (.int m) 0<|(N:Int)-1) (jV H) (jE (b:=Y) H)<|jE (b:=Y)<|jO (PM _ 1) (jE (b:=Y)<|jC hd<|jR H).r (jE (b:=Y) H).r).trans ?_;show J ((D.bl<|decide ((0:Int)<=m)&&decide ((m:Int)<=(N:Int)-1),Y),_)=_;rw[kj (show(0:Int)<=m by lia),kj (show(m:Int)<=(N:Int)-1 by lia)];rfl
 cases b
 .exact xy (δ:=[J (d,Y),ii m]) ⟨rfl,by decide,rfl⟩ e
 exact xy (δ:=[J (d,C),ii m]) ⟨rfl,by decide,rfl⟩ e
def Ui{δ:Dn}{i p k:Nat}(b:δ[i]?=J (B2 A))(d:FJ (gR p) δ (.int k))(hk:k<AC A):hW kW [gR i,gR p] δ=J ((.bl C,Y),δ):=
 uA (as:=[(.lst<|A.map cD,C),pI k]) (GI (N:=AC A) (by rw[wG,jl]) hk) ⟨aL b,d.a,trivial⟩ (jw 1)
def RN{m:Nat}(h:ks[m]?=J c):ui [(Ag n ks,Y),enc c,pI m]=J ((.bl C,Y),[rS n ks,eN c,ii m]):=by
 have e:=(qX.mp h).1
 let δ:Dn:=[rS n ks,eN c,ii m,J (.tup<|ks.map cD,Y)]
 have a:hW kW [gR 3,gR 2] δ=J ((.bl C,Y),δ):=CK (GI (N:=AC ks) (by rw[Bj,jl]) e) (jV H)<|jV H
 have d:hU I8 (hC<|hU N2 (gR 3)<|gR 2) (gR 1) δ=J ((.bl C,Y),δ):=by refine(jO (Fh c c) (jE (b:=Y)<|jO (ixT<|by rw[jv,h];rfl) (jV H).r (jV H).r).r (jV H).r).trans ?_;rw[kj H]
 exact jg (δ:=δ) ⟨rfl,by decide,rfl⟩<|(gX (δ1:=δ) H).trans<|iz<|jm<|(pR a).trans d
def UU{δ:Dn}{i p k:Nat}{a:gY}(b:δ[i]?=J (B2 A))(d:RJ (gR p) δ (.int k))(h:A[k]?=J a):hU N2 (gR i) (gR p) δ=J (enc a,δ):=jO (M6 (l:=A.map cD)<|by rw[jv,h];rfl) (jR b) d
def abk{i j:Nat}{v:Int}{a b:gY}(g:n<=5)(e:A[i]?=J a)(f:A[j]?=J b)(l:v∈a)(h: -v∈b)(m:1<=v)(k:v<=n)(p:F2 n a)(q:F2 n b)(s:F2 n (lN a b v)):
  zp [pI n,(.lst<|A.map cD,C),enc<|lN a b v,(CB<|.mt i j v,Y)]=J ((.bl C,Y),[ii n,B2 A,eN<|lN a b v,J (CB<|.mt i j v,Y)]):=by
 have t:=(qX.mp e).1;have u:=(qX.mp f).1
 let c:=lN a b v
 let δ:Dn:=[ii n,B2 A,eN c,J (CB<|.mt i j v,Y),J (.str "met",Y),ii i,ii j,ii v]
 have a1:hU N2 (gR 1) (gR 5) δ=J (enc a,δ):=UU H (jV H).r e;have d:hU N2 (gR 1) (gR 6) δ=J (enc b,δ):=UU H (jV H).r f
 have x:hW nV [gR 0,gR 7] δ=J ((.bl C,Y),δ):=by refine CK (outs:=[ii n,ii v]) ?_ (jV H)<|jV H;refine xy (δ:=[ii n,ii v]) ⟨rfl,by decide,rfl⟩<|(Rz (uO (.int v) 1 n) (jV H) (jE (b:=Y) H)<|jV H).trans ?_;show J ((D.bl<|decide ((1:Int)<=v)&&decide (v<=n),Y),_)=_;rw[kj m,kj k];rfl
 have y:fT Zq δ=J (Y,δ):=(jk<|jO (rq v a) (jV H).r (jE a1).r).trans (by rw[show a.contains v=C by simpa using l];rfl);have z:fT ZH δ=J (Y,δ):=(jk<|jO (rq (-v) b) (jE (b:=Y)<|jN (a:=.int v) H (jV H).r).r (jE d).r).trans (by rw[show b.contains (-v)=C by simpa using h];rfl);have w:((va a b v).map ab).Nodup:=(((mV a b v).2.trans (mv a b v).2).map ab).nodup_iff.mp<|zJ s.1
 have o:hU I8 ZW (gR 2) δ=J ((.bl C,Y),δ):=by refine(jO (Fh c c) (jE<|Rz (Q0 (kK p.len g) (kK q.len g) w) (jE a1) (jE d)<|jV H).r (jV H).r).trans ?_;rw[kj H]
 refine jg (δ:=δ) ⟨rfl,by decide,rfl⟩<|(gX (δ1:=δ) H).trans ?_;refine(gX<|(lY<|(wV<|kM (b:=C)<|jk<|Ui H (jV H) t).trans<|(wV<|kM (b:=C)<|jk<|Ui H (jV H) u).trans<|kM (b:=C)<|jk x).trans H).trans ?_;exact(gX<|(lY<|(wV y).trans z).trans H).trans (iz<|jm o)
def abn{t a:gY}(d:n<=5)(f:TT n t)(b:F2 n a):kZ [enc a,enc t]=J (enc<|lc t a,[eN a,eN t]):=by
 by_cases e:a=[]
 .subst e;rfl
 exact Lr d f ⟨e,b⟩
def abo{i:Nat}{t a:gY}(h:mZ n ks)(d:A[i]?=J a)(g:F2 n a)(b:TT n t)(j:∀k∈ks,lc t k∈ks):
  zq [(Ag n ks,Y),(.lst<|A.map cD,C),enc<|lc t a,(CB<|.ld i t,Y)]=J ((.bl C,Y),[rS n ks,B2 A,eN<|lc t a,J (CB<|.ld i t,Y)]):=by
 have l:=h.1;have m:=(qX.mp d).1
 let δ:Dn:=[rS n ks,B2 A,eN<|lc t a,J (CB<|.ld i t,Y),J (.str "led",Y),ii i,eN t]
 have e:hW ny [gR 0,gR 6] δ=J ((.bl C,Y),δ):=by
  refine(CK (agw h<|V9<|by rw[b.len];lia) (jV H)<|jV H).trans ?_
  rw[show Nf n ks (cD t)=C by unfold Nf;rw[aaz b,Pw,yz];exact ku.mpr λk hk=>kj<|j k hk]
 have f:hU I8 ZF (gR 2) δ=J ((.bl C,Y),δ):=by refine(jO (Fh _ _) (jE<|CK (abn l b g) (jE<|UU H (jV H).r d)<|jV H).r (jV H).r).trans ?_;rw[kj H]
 exact jg (δ:=δ) ⟨rfl,by decide,rfl⟩<|(gX (δ1:=δ) H).trans<|iz<|jm<|(pR<|Ui H (jV H) m).trans<|(pR e).trans f
def WR{m:Nat}{a:gY}(h:A[m]?=J a)(k:(AC a)<=5)(g:∀s∈a,s∈c):wX [(.lst<|A.map cD,C),enc c,pI m]=J ((.bl C,Y),[B2 A,eN c,ii m]):=by
 have i:=(qX.mp h).1
 let δ:Dn:=[B2 A,eN c,ii m]
 have e:jb (hU N2 (gR 0)<|gR 2) δ=J (a.map D.int,δ):=by unfold jb;rw[UU (δ:=δ) H (jV H).r h];rfl
 have b:=qQ (caps:=[1]) (f:=hU Gh (gR 1)<|gR 0) (args:=[cD c]) (λd=>c.contains<|Ls d) e H H (λd hd=>by obtain⟨s,_,rfl⟩:=kO.mp hd;exact⟨Y,jO (Hm s c) (jV H).r (jV H).r⟩) (by simp;lia)
 rw[show(a.map D.int).all (λd=>c.contains<|Ls d)=C by rw[rg];exact ku.mpr λs j=>by simpa[Ls]using g s j]at b
 exact xy (δ:=δ) ⟨rfl,by decide,rfl⟩<|(pR<|Ui H (jV H) i).trans b
abbrev dY(n:Nat)(ks A:iI)(c:gY)(w:Wy)(x:Sl):Dn:=[rS n ks,B2 A,eN c,J (CB w,Y),x]
abbrev fK1:FT:=aag
abbrev MI(k:Int)(z:aQ):FT:=mW (fT<|hU I8 CW<|hC<|fC<|.int k)<|fT<|hU I8 (gR 4)<|hC<|fC<|.str z
abbrev zW:Wy->Sl
 |.gv _=>J (.str "given",Y)
 |.mt _ _ _=>J (.str "met",Y)
 |.wd _=>J (.str "wide",Y)
 |.ld _ _=>J (.str "led",Y)
def k1(w:Wy):∀g,gZ (J4 fK1 nK ip) (gZ VJ g) (dY n ks A c w I)=g (dY n ks A c w<|zW w):=by
 cases w<;>exact λg=>rfl
def k2{w:Wy}{k:Int}{z:aQ}{f:FS}(h:MI k z (dY n ks A c w<|zW w)=J (Y,dY n ks A c w<|zW w)):∀g,gZ (J4 (MI k z) f ip) g (dY n ks A c w<|zW w)=g (dY n ks A c w<|zW w):=λg=>no g h
def aax{w:Wy}(h:mZ n ks)(f:Nq True n ks A c w)(u:F2 n c)(s:∀a∈A,F2 n a):zo [(Ag n ks,Y),(.lst<|A.map cD,C),enc c,(CB w,Y)]=J ((.bl C,Y),[rS n ks,B2 A,eN c,J (CB w,Y)]):=by
 have l:=h.1;have len:∀{m:Nat}{a:gY},A[m]?=J a->AC a<=5:=λe=>kK (s _ (lK e)).len l
 cases w with
 |gv m=>
  let δ:=dY n ks A c (.gv m)<|zW<|.gv m
  exact jg (δ:=δ) ⟨rfl,by decide,rfl⟩<|(k1 _ _).trans<|iz<|(mD (t:=MI 2 "given") (δ1:=δ) H).trans<|iz<|jm<|Rz (RN f) (jV H) (jV H)<|jE (b:=Y) H
 |wd m=>
  obtain⟨a,h1,d⟩:=f
  let δ:=dY n ks A c (.wd m)<|zW<|.wd m
  exact jg (δ:=δ) ⟨rfl,by decide,rfl⟩<|(k1 _ _).trans<|(k2 (w:=.wd m) H _).trans<|iz<|(mD (t:=MI 2 "wide") (δ1:=δ) H).trans<|iz<|jm<|uA (as:=[(.lst<|A.map cD,C),enc c,pI m]) (WR h1 (len h1) d) ⟨aL H,(jV H).a,(jE (b:=Y) H).a,trivial⟩<|jw 1
 |ld m t=>
  obtain⟨_,a,h1,d,g,k,rfl⟩:=f
  let δ:=dY n ks A (lc t a) (.ld m t)<|zW<|.ld m t
  exact jg (δ:=δ) ⟨rfl,by decide,rfl⟩<|(k1 _ _).trans<|(k2 (w:=.ld m t) H _).trans<|(k2 (w:=.ld m t) H _).trans<|iz<|(mD (t:=MI 3 "led") (δ1:=δ) H).trans<|iz<|jm<|uA (as:=[(Ag n ks,Y),(.lst<|A.map cD,C),enc<|lc t a,(CB<|.ld m t,Y)]) (abo h h1 d g k) ⟨(jV H).a,aL H,(jV H).a,(jV H).a,trivial⟩<|jw 1
 |mt i j v=>
  obtain⟨a,b,h1,d,g,k,o,p,q,r,rfl⟩:=f
  let δ:=dY n ks A (lN a b v) (.mt i j v)<|zW<|.mt i j v
  exact jg (δ:=δ) ⟨rfl,by decide,rfl⟩<|(k1 _ _).trans<|(k2 (w:=.mt i j v) H _).trans<|(k2 (w:=.mt i j v) H _).trans<|(k2 (w:=.mt i j v) H _).trans<|iz<|(mD (t:=MI 4 "met") (δ1:=δ) H).trans<|iz<|jm<|uA (as:=[pI n,(.lst<|A.map cD,C),enc<|lN a b v,(CB<|.mt i j v,Y)]) (abk l h1 d g k o p q r u) ⟨(jE (b:=Y) H).a,aL H,(jV H).a,(jV H).a,trivial⟩<|jw 1
def WY{w:Wy}(h:mZ n ks)(g:Nq True n ks A c w)(d:F2 n c)(f:∀a∈A,F2 n a):wY [(Ag n ks,Y),(.lst<|A.map cD,C),(sD (c,w),Y)]=J ((.bl C,Y),[rS n ks,B2 A,J (sD (c,w),Y)]):=by
 let δ:Dn:=[rS n ks,B2 A,J (sD (c,w),Y),eN c,J (CB w,Y)]
 have e:hW lQ [qA,gR 3] δ=J ((.bl C,Y),δ):=CK (Gu h.1<|cl0 n c d) (jE (b:=Y)<|jO H (jV H).r (jE H).r)<|jV H;exact jg (δ:=δ) ⟨rfl,by decide,rfl⟩<|(no (δ:=[rS n ks,B2 A,J (sD (c,w),Y),I,I]) _ (kM (b:=C)<|jk (o:=Y)<|MC (outs:=[J (sD (c,w),Y)]) H<|jV H)).trans<|(gX (δ1:=δ) H).trans<|iz<|jm<|(pR e).trans<|uA (as:=[(Ag n ks,Y),(.lst<|A.map cD,C),enc c,(CB w,Y)]) (aax h g d f) ⟨(jV H).a,aL H,(jV H).a,(jV H).a,trivial⟩<|jw 1
abbrev abQ:FS:=zC9
def U4{w:Wy}{T:Sl}(h:mZ n ks)(f:Nq True n ks A c w)(e:F2 n c)(d:∀a∈A,F2 n a)(g:(AC A)<=1000):abQ [rS n ks,T,B2 A,J (sD (c,w),Y)]=J (.nx [rS n ks,T,B2<|A++[c],J (sD (c,w),Y)]):=by
 let δ:Dn:=[rS n ks,T,B2 A,J (sD (c,w),Y)]
 refine(no (δ:=δ) _ (kM (b:=C)<|jk<|uA (fs:=[gR 0,gR 2,gR 3]) (as:=[(Ag n ks,Y),(.lst<|A.map cD,C),(sD (c,w),Y)]) (WY h f e d) ⟨(jV H).a,aL H,(jV H).a,trivial⟩<|jw 1)).trans ?_;refine(wW (i:=2) (l0:=A.map cD) (l:=A.map cD) (r:=enc c) (δ1:=δ) H (jO H (jV H).r (jE H).r) H<|by rw[jl];lia).trans ?_;rw[show A.map cD++[(enc c).1]=(A++[c]).map cD by rw[kQ];rfl];rfl
def EM{S:List B1}(h:mZ n ks)(g:Gd True n ks S)(h1:1<=S.length)(o:S.length<=200):mX [(Ag n ks,Y),(.tup<|S.map sD,Y)]=J ((.bl C,Y),[rS n ks,J (.tup<|S.map sD,Y)]):=by
 let T:Sl:=J (.tup<|S.map sD,Y)
 obtain⟨_,⟨P,R,x,e,f,j,rfl⟩,t⟩:=qo (tg:=hG 3) (fb:=abQ) (λl δ=>∃P R x,S=P++R/\l=R.map sD/\(∀s∈P,F2 n s.1)/\δ=[rS n ks,T,B2 (P.map (·.1)),x]) (λd l δ U=>by
  obtain⟨P,R,x,e,f,j,p⟩:=U
  subst p
  cases R with
  |nil=>cases f
  |cons s R=>
   obtain⟨rfl,rfl⟩:=ve f;obtain⟨k1,k2⟩:=g P s R e;refine⟨_,_,rfl,U4 (T:=T) h k2 k1 (λa u=>?_)<|by rw[e]at o;simp at o ⊢;lia,P++[s],R,_,by simp[e],rfl,λq m=>?_,by rw[kQ];rfl⟩
   .obtain⟨q,m,rfl⟩:=kO.mp u;exact j q m
   rcases oE.mp m with z|z
   .exact j q z
   cases yw.mp z;exact k1) (S.map sD) [rS n ks,T,B2 [],I] ⟨[],S,I,rfl,rfl,by simp,rfl⟩
 refine jg (δ:=[rS n ks,T,B2 (P.map (·.1)),x]) ⟨rfl,by decide,rfl⟩<|(no (δ:=[rS n ks,T,I,I]) _ ((wV (δ1:=[rS n ks,T,I,I]) H).trans<|Vf (op:=.LtE) (op':=.LtE) (i:=1) (k:=200) (jE (b:=Y) H).r (jE (b:=Y)<|jC (Bj<|S.map sD) (jV H).r).r (jE (b:=Y) H).r (kj<|by rw[jl];lia)<|kj<|by rw[jl];lia)).trans ?_;exact(gX (δ1:=[rS n ks,T,B2 [],I]) H).trans ((gX<|(mI H).trans t).trans<|iz H)
end
section
variable {n:Nat}{d:iI}{c:gY}
def HR:Cy n d c=[]↔ ∀t∈lZ n d,kC t c=C:=by unfold Cy;rw[Vs];simp
def Rx{t w a:gY}(g:TT n t)(h:BK n t w)(b:uv n a)(f:F2 n c):kC (EN w a) (lc t c)=kC a c:=by
 by_cases e:c=[]
 .subst e;rfl
 exact Ry g h b ⟨e,f⟩
def S8{t w:gY}{i:iI}(h:mZ n d)(f:TT n t)(g:BK n t w)(l:LR t d i)(j:F2 n c):Cy n i (lc t c)=[]↔Cy n d c=[]:=by
 rw[HR,HR];have k:=US h.1 f g h l;constructor
 .intro q a e;have:=q _ (k.mem_iff.mp<|rP e)
  rwa [Rx f g (J9.mp (oD.mp e).1) j]at this
 intro q b m;obtain⟨a,e,rfl⟩:=kO.mp<|k.mem_iff.mpr m;rw[Rx f g (J9.mp (oD.mp e).1) j];exact q a e
def Ya{t:gY}(h:mZ n d)(b:TT n t)(e:∀k∈d,lc t k∈d):LR t d d:=by
 obtain⟨f,a,_⟩:=Ri b h;have:=(Ha b h a).mpr e
 rwa [this]at a
def Gd.sound(h:mZ n d):∀(m:Nat)(S:List B1),S.length=m->Gd True n d S->∀s∈S,Cy n d s.1=[]:=by
 intro m
 induction m with
 |zero=>intro S p _ s u;rw[Of.mp p]at u;cases u
 |succ m A=>
  intro S p g;rcases yJ S with rfl|⟨S,s,rfl⟩
  .cases p
  rw[yI]at p g ⊢;have O:Gd True n d S:=λP q R e=>g P q (R++[s]) (by rw[e];simp);have A:=A S (by simpa using p) O;intro q C;rcases oE.mp C with z|z
  .exact A q z
  cases yw.mp z;obtain⟨g1,g2⟩:=g S s [] At
  have f:∀{i:Nat}{a:gY},(S.map (·.1))[i]?=zx a->Cy n d a=[]:=λe=>by obtain⟨q,C,rfl⟩:=kO.mp<|lK e;exact A q C
  obtain⟨c,w⟩:=s
  cases w with
  |gv m=>exact HR.mpr λt r=>ku.mp (oD.mp r).2 c<|lK g2
  |wd m=>obtain⟨a,h1,l⟩:=g2;refine HR.mpr λt r=>?_;obtain⟨s,u,q⟩:=Cn.mp<|HR.mp (f h1) t r;exact Cn.mpr ⟨s,l s u,q⟩
  |ld m t=>obtain⟨_,a,h1,l,o,B,rfl⟩:=g2;obtain⟨w,J,_⟩:=L0 o;exact(S8 h o J (Ya h o B) l).mpr (f h1)
  |mt i j v=>
   obtain⟨a,b,h1,l,o,B,M,N,E,H,rfl⟩:=g2;refine HR.mpr λt r=>?_;have L:ab v=v:=by unfold ab;split<;>lia
   have hv:1<=ab v:=by lia
   have keep:∀{x:gY}{s:Int},F2 n x->(∀y,y∈x->y=s\/y∈lN a b v)->Cy n d x=[]->CJ t s=Y->kC t (lN a b v)=z8:=λU G T Q=>by
    obtain⟨y,k,q⟩:=Cn.mp<|HR.mp T t r;rcases G y k with rfl|z
    .rw[Q]at q;cases q
    exact Cn.mpr ⟨y,z,q⟩
   cases I:CJ t v
   .refine keep E (s:=v) (λy k=>?_) (f h1) I;by_cases e:ab y=v
    .exact .inl (FK E.1 k o<|by rw[e,L])
    exact .inr (FQ.mpr ⟨.inl k,e⟩)
   refine keep H (s:= -v) (λy k=>?_) (f l) ?_
   .by_cases e:ab y=v
    .exact .inl (FK H.1 k B<|by rw[e,kF,L])
    exact .inr (FQ.mpr ⟨.inr k,e⟩)
   have:=Pp (t:=t) (s:= -v) (by rw[kF];exact hv);rw[sL]at this;exact this I
end
abbrev YG(fi:B0):F:=iw (g1 lV) [hC<|iL [] 2 (jb<|iw (g1 ma) [hC<|iL [] 1 fi (hG 0) je Oh]) zE je nJ]
abbrev Wm:F:=Z7
abbrev fM6:F:=aaj
abbrev Yz:FS:=gZ WH<|gZ zC7<|gZ (J4 (lu<|fT Wm) (gZ (jo 10<|YG<|jb<|iM 9) ZX) ip) ip
abbrev YA:FS:=gZ (qJ (jb fM6) (hG 8) Yz) ip
abbrev abR:FS:=gZ (qJ FY Zl YA) ip
def Gn(l:gY):List Int:=(lC ED<|l.map D.int).map Ls
def qD{l:gY}(g:(l.map ab).Nodup):(Gn l).Perm l/\((Gn l).map ab).Pairwise (· < ·):=by
 obtain⟨e,d⟩:=tZ<|jA ED<|l.map D.int;refine⟨d,?_⟩;have c:((Gn l).map ab).Nodup:=(d.map ab).symm.nodup g;have f:=uF<|l.map D.int;rw[e,kP]at f;rw[kP];rw[bI,kP]at c;refine(f.and c).imp λ{a b} h=>?_;have h1:ab a<=ab b:=h.1;have i:ab a≠ab b:=h.2
 lia
def L8{l m:gY}(h:l.Perm m)(h1:(l.map ab).Pairwise (· < ·))(c:(m.map ab).Pairwise (· < ·)):l=m:=by rw[kP]at h1 c;exact h.eq_of_pairwise (le:=λa b=>ab a<ab b) (λa b _ _ x y=>absurd x<|by lia) h1 c
def Ky{fi:B0}{δ δ1:Dn}{l:gY}(E:fi δ=J (l.map D.int,δ1))(i:(l.map ab).Nodup)(Q:(AC l)<=60):YG fi δ=J (enc<|Gn l,δ1):=by
 let pr:Int->List Int:=λs=>[ab s,s]
 obtain⟨c,f,T,e⟩:=Am (cs:=l.map pr) (qG _ λx t=>by obtain⟨y,_,rfl⟩:=kO.mp t;simp[pr]) (by simp;lia)
 have v:iL [] 1 fi (hG 0) je Oh δ=J ((.lst<|(l.map pr).map cD,C),δ1):=by
  refine(um (caps:=[]) (args:=[]) (λd=>cD<|pr<|Ls d) E H H (λd hd=>?_)<|by simp;lia).trans ?_
  .obtain⟨x,t,rfl⟩:=kO.mp hd;exact⟨Y,oy (a:=pI<|ab x) (b:=pI x) (jC (V3 _) (jV H).r) H⟩
  rw[ji,ji];rfl
 obtain⟨L,O,w⟩:=J6 c [] I I (λp g=>by obtain⟨y,_,rfl⟩:=kO.mp<|f.mem_iff.mp g;exact⟨_,_,rfl⟩) (by rw[f.length_eq];simp;lia)
 have A:(c.map λp=>p.getD 1 0)=Gn l:=by
  have n:(c.map λp=>p.getD 1 0).Perm l:=by have:=f.map λp=>p.getD 1 0;rw[ji]at this;exact this.trans<|DW<|rO l
  have m:∀p∈c,p=[ab<|p.getD 1 0,p.getD 1 0]:=λp g=>by obtain⟨y,_,rfl⟩:=kO.mp<|f.mem_iff.mp g;rfl
  refine L8 (n.trans (qD i).1.symm) ?_ (qD i).2;have u:((c.map λp=>p.getD 1 0).map ab).Nodup:=(n.map ab).symm.nodup i;rw[ji,kP];rw[ji,bI,kP]at u;refine(eT T u).imp_of_mem λ{p q} h1 B h=>?_;have o:=h.1;rw[m p h1,m q B]at o;have:=LX o;have U:=h.2;simp only[aW]at U ⊢
  lia
 have z:jb (iw (g1 ma) [hC<|iL [] 1 fi (hG 0) je Oh]) δ=J (c.map cD,δ1):=nO<|mG (oP<|iq v) H (show ma (.lst<|(l.map pr).map cD)=J (.lst<|c.map cD,C)from e);have j:=nr (caps:=[]) (k:=2) (args:=[]) z H mT w;rw[sN,show(c.map λp=>D.int<|p.getD 1 0)=(Gn l).map D.int by rw[<-A,ji];rfl]at j;exact mG (oP<|iq j) H H
section
variable {n:Nat}{ks A:iI}
def GM(n:Nat)(ks A:iI)(M:List B1):Prop:= ∀m∈M,F2 n m.1/\Nq True n ks A m.1 m.2
abbrev dM(T:Sl)(M:List B1)(i:Nat)(a:gY)(wi:Sl)(j:Nat)(b:gY)(wj c x9 x10:Sl):Dn:=[T,EJ M,ii i,eN a,wi,ii j,eN b,wj,c,x9,x10]
def U5{T wi wj x9 x10:Sl}{M:List B1}{i j:Nat}{v:Int}{a b:gY}(hn:n<=5)(hA:A[i]?=zx a)(hB:A[j]?=zx b)(I:v∈a)(O: -v∈b)(Q:1<=v)(q:F2 n a)(w:F2 n b)(N:GM n ks A M)(hl:(AC M)<=5000):
  ∃(H:List B1)(y9 l5:Sl),GM n ks A H/\(AC H)<=AC M+1/\Yz (dM T M i a wi j b wj (ii v) x9 x10)=zx (.nx<|dM T H i a wi j b wj (ii v) y9 l5):=by
 have l1:=q.len;have l2:=w.len;have J:(G7 a b v).length<=10:=Q4 (by lia) (by lia);have Y:=X8 q w I O Q;obtain⟨B,G⟩:=xS<|jA A1<|(GR<|G7 a b v).map D.int
 have C:B.Perm (GR<|G7 a b v):=by have:=(jA A1<|(GR<|G7 a b v).map D.int).map Ls;rw[G,ji,ji]at this;simpa[rR,Ls]using this
 have lB:(AC B)<=10:=by have:=C.length_eq;have:=Ft<|G7 a b v;lia
 let δ:Sl->Sl->Dn:=λx y=>dM T M i a wi j b wj (ii v) x y
 have q1:=abP (δ:=δ x9 x10) (k:=8) (fi:=jb<|iM 3) (a:=a) (fo:=gR 0) (u:=v) At At (by lia) λs=>jV At
 let p:Sl:=zx (.lst<|(a.filter λs=>!(s==v)).map D.int,z8)
 have q2:=abP (δ:=δ p x10) (k:=8) (fi:=jb<|iM 6) (a:=b) (fo:=hC CV) (u:= -v) At At (by lia) λs=>jE (b:=z9)<|jN (a:=.int v) At (jV At).r
 have q3:hU lP (gR 9) Z4 (δ p x10)=zx ((.lst<|(G7 a b v).map D.int,z8),δ p x10):=by refine(jO (ab6 (l:=(a.filter λs=>!(s==v)).map D.int) (by rw[jl];have:=oR (λs=>!(s==v)) a;lia) (by rw[jl];have:=oR (λs=>!(s== -v)) b;lia)) (jR At) (jE q2).r).trans ?_;rw[<-kQ]
 let c:Bool->Sl:=λo=>zx (.lst<|B.map D.int,o)
 have q4:iw (g1 ou) [aak] (δ p x10)=zx ((.lst<|B.map D.int,z8),δ p x10):=by rw[<-G];exact jC (Yq J) (jE<|jC (Yr J) (jE q3).r).r
 have pre:∀g,gZ WH (gZ zC7 g) (δ x9 x10)=g (δ (c z8) x10):=λg=>(gX<|iY (i:=9) q1 (show 9<11 by decide)).trans<|gX<|iY (i:=9) q4 (show 9<11 by decide)
 have E:fT Wm (δ (c z8) x10)=zx (B.any λs=>B.contains (-s),δ (c z9) x10):=by
  have e:=HH (caps:=[9]) (fi:=jb<|iM 9) (f:=hU Gh F3<|gR 0) (δ:=δ (c z8) x10) (δ1:=δ (c z9) x10) (l:=B.map D.int) (args:=[.lst<|B.map D.int]) (λd=>B.contains (-(Ls d))) At At At (λd hd=>by obtain⟨s,_,rfl⟩:=kO.mp hd;exact⟨z9,jO (show Gh (.int (-s)) (.lst<|B.map D.int)=_ from Hm (-s) B) (jE (b:=z9)<|jN (a:=.int s) At (jV At).r).r (jV At).r⟩) (by simp;lia)
  refine(jk e).trans ?_;rw[tj];rfl
 cases L:B.any λs=>B.contains (-s)with
 |true=>rw[L]at E;exact⟨M,c z9,x10,N,by lia,(pre _).trans<|(gX<|(lY<|kM E).trans At).trans At⟩
 |false=>
  rw[L]at E;have Z:∀s∈B, -s∉B:=λs V=>by simpa using Mc.mp L s V
  have t:(B.map ab).Nodup:=by
   have R:B.Nodup:=C.nodup_iff.mpr<|Fs _;rw[bI,kP];refine DV (λ{x y} W X i4 e=>?_) R;have: -x=y:=by unfold ab at e;split at e<;>split at e<;>lia
   exact Z x W<|this▸X
  have pM:B.Perm (va a b v):=C.trans<|Y.trans<|(mV a b v).2.trans (mv a b v).2;have U:F2 n (lN a b v):=Le q w<|(pM.map ab).nodup_iff.mp t;have F:Gn B=lN a b v:=L8 ((qD t).1.trans<|C.trans Y) (qD t).2 U.1
  have P:YG (jb<|iM 9) (δ (c z9) x10)=zx (enc<|lN a b v,δ (c z9) x10):=by rw[<-F];exact Ky At t (by lia)
  let h:=δ (c z9)<|eN<|lN a b v
  have K:kH [Kg,iM 2,iM 5,iM 8] h=zx ((CB<|.mt i j v,z9),h):=by show(if 4<=sizeLine then zx ((CB<|.mt i j v,z9),h)else z7)=_;rw[ie<|nX<|by decide]
  refine⟨M++[(lN a b v,.mt i j v)],c z9,eN<|lN a b v,λm S=>?_,by simp,(pre _).trans<|(gX<|(mD<|kM E).trans<|(gX<|iY (i:=10) P (show 10<11 by decide)).trans<|(wW (i:=1) (l0:=M.map sD) (l:=M.map sD) (r:=(sD (lN a b v,.mt i j v),z9)) (δ1:=h) At (oy (f:=iM 10) (a:=enc<|lN a b v) At K) At<|by rw[jl];lia).trans ?_).trans At⟩
  .rcases oE.mp S with z|z
   .exact N m z
   cases yw.mp z;exact⟨U,a,b,hA,hB,I,O,Q,by have:=(q.2 v I).2;unfold ab at this;split at this<;>lia,q,w,rfl⟩
  rw[show M.map sD++[(sD (lN a b v,Wy.mt i j v),z9).1]=(M++[(lN a b v,Wy.mt i j v)]).map sD by rw[kQ];rfl];rfl
def U6{T wi wj x8 x9 x10:Sl}{M:List B1}{i j:Nat}{a b:gY}(H:n<=5)(z:A[i]?=zx a)(B:A[j]?=zx b)(t:F2 n a)(E:F2 n b)(C:GM n ks A M)(U:(AC M)<=4000):
  ∃(c:List B1)(k h g:Sl),GM n ks A c/\(AC c)<=AC M+5/\YA (dM T M i a wi j b wj x8 x9 x10)=zx (.nx<|dM T c i a wi j b wj k h g):=by
 have Y:=t.len
 let p:Int->Bool:=λs=>decide (s>0)&&b.contains (-s)
 have o:=uo (caps:=[6]) (fi:=jb<|iM 3) (f:=iM 1) (ti:=Z0) (δ:=dM T M i a wi j b wj x8 x9 x10) (δ1:=dM T M i a wi j b wj x8 x9 x10) (l:=a.map D.int) (args:=[cD b]) (λd=>d) (λd=>p<|Ls d) At At At (λd hd=>by
  obtain⟨s,_,rfl⟩:=kO.mp hd;refine⟨?_,λ_=>⟨z9,rfl⟩⟩;have h1:Tt [eN b,ii s]=zx (decide<|s>0,[eN b,ii s]):=jk<|jO (TZ s 0) (jV At).r (jE At).r;have y:fT OF [eN b,ii s]=zx (b.contains (-s),[eN b,ii s]):=jk<|jO (Hm (-s) b) (jE (b:=z9)<|jN (a:=.int s) At (jV At).r).r (jV At).r;show mW _ _ [eN b,ii s]=zx (decide (s>0)&&b.contains (-s),[eN b,ii s]);unfold mW;rw[h1];simp only[jj];cases decide (s>0)
  .rfl
  exact y) (by simp;lia)
 rw[yx,vM]at o;have N:=oR p a
 obtain⟨_,⟨c,k,h,g,_,k2,m,rfl⟩,x⟩:=qo (tg:=hG 8) (fb:=Yz) (λl δ=>∃c k h g,(∀d∈l,∃v∈a,p v=z8/\d=.int v)/\GM n ks A c/\(AC c)+AC l<=AC M+5/\δ=dM T c i a wi j b wj k h g) (λd l δ a'=>by
  obtain⟨c,k,h,g,k1,k2,m,O⟩:=a'
  subst O;obtain⟨v,hv,I,rfl⟩:=k1 d jt;obtain⟨Q,G⟩:=Bool.and_eq_true_iff.mp I;rw[kG]at m;obtain⟨u,J,w,g1,g2,e⟩:=U5 (T:=T) (wi:=wi) (wj:=wj) (x9:=h) (x10:=g) H z B hv (by simpa using G) (by have:=D2 Q;lia) t E k2 (by lia)
  exact⟨_,_,rfl,e,u,_,J,w,λq L=>k1 q<|jx _ L,g1,by lia,rfl⟩) ((a.filter p).map D.int) (dM T M i a wi j b wj x8 x9 x10) ⟨M,x8,x9,x10,λd hd=>by obtain⟨v,hv,rfl⟩:=kO.mp hd;exact⟨v,(oD.mp hv).1,(oD.mp hv).2,rfl⟩,C,by simp;lia,rfl⟩
 exact⟨c,k,h,g,k2,by simpa using m,(gX<|(mI<|nO o).trans x).trans At⟩
def Si{S:List B1}{d:D}(h:d∈((S.map sD).zipIdx).map λq=>D.tup [.int (0+(q.2:Int)),q.1]):∃(j:Nat)(s:B1),S[j]?=J s/\d=.tup [.int j,sD s]:=by obtain⟨⟨x,j⟩,a,rfl⟩:=kO.mp h;have:=List.mk_mem_zipIdx_iff_getElem?.mp a;rw[jv]at this;obtain⟨s,b,rfl⟩:=cO.mp this;refine⟨j,s,b,?_⟩;show D.tup [.int (0+(j:Int)),_]=_;rw[Int.zero_add]
abbrev T0(S:List B1):Sl:=J (.lst<|S.map sD,Y)
abbrev M8(S M:List B1)(x2 x3 x4 x5 x6 x7 x8 x9 x10:Sl):Dn:=[T0 S,EJ M,x2,x3,x4,x5,x6,x7,x8,x9,x10]
def U7{S M:List B1}{i:Nat}{s:B1}{x5 x6 x7 x8 x9 x10:Sl}(y:n<=5)(p:∀s∈S,F2 n s.1)(r:S[i]?=J s)(x:GM n ks (S.map (·.1)) M)(Q:(AC M)+5*S.length<=4000):
  ∃(a:List B1)(g h k c f b:Sl),GM n ks (S.map (·.1)) a/\(AC a)<=AC M+5*S.length/\abR (M8 S M (ii i) (eN s.1) (J (CB s.2,Y)) x5 x6 x7 x8 x9 x10)=J (.nx<|M8 S a (ii i) (eN s.1) (J (CB s.2,Y)) g h k c f b):=by
 have m:∀{j:Nat}{q:B1},S[j]?=J q->(S.map (·.1))[j]?=J q.1:=λe=>by rw[jv,e];rfl
 obtain⟨_,⟨a,g,h,k,c,f,b,_,k2,o,rfl⟩,w⟩:=qo (tg:=ng [hG 5,ng [hG 6,hG 7]]) (fb:=YA) (λl δ=>∃a g h k c f b,(∀d∈l,∃(j:Nat)(q:B1),S[j]?=J q/\d=.tup [.int j,sD q])/\GM n ks (S.map (·.1)) a/\(AC a)+5*(AC l)<=AC M+5*S.length/\δ=M8 S a (ii i) (eN s.1) (J (CB s.2,Y)) g h k c f b) (λd l δ O=>by
  obtain⟨a,g,h,k,c,f,b,k1,k2,o,B⟩:=O
  subst B;obtain⟨j,q,t,rfl⟩:=k1 d jt;rw[kG]at o;obtain⟨u,U,E,v,g1,g2,e⟩:=U6 (T:=T0 S) (wi:=J (CB s.2,Y)) (wj:=J (CB q.2,Y)) (x8:=c) (x9:=f) (x10:=b) y (m r) (m t) (p s<|lK r) (p q<|lK t) k2 (by lia);exact⟨_,_,rfl,e,u,_,_,_,U,E,v,λq z=>k1 q<|jx _ z,g1,by lia,rfl⟩) (((S.map sD).zipIdx).map λq=>D.tup [.int (0+(q.2:Int)),q.1]) (M8 S M (ii i) (eN s.1) (J (CB s.2,Y)) x5 x6 x7 x8 x9 x10) ⟨M,x5,x6,x7,x8,x9,x10,λd hd=>Si hd,x,by simp,rfl⟩
 exact⟨a,g,h,k,c,f,b,k2,by simpa using o,(gX<|(mI H).trans w).trans H⟩
def UH{S:List B1}(B:n<=5)(x:∀s∈S,F2 n s.1)(t:S.length<=20):∃M:List B1,GM n ks (S.map (·.1)) M/\(AC M)<=4000/\uh [(.lst<|S.map sD,Y)]=J ((.lst<|M.map sD,C),[T0 S]):=by
 have T:S.length*S.length<=20*20:=Nat.mul_le_mul t t
 obtain⟨_,⟨a,k,o,p,c,f,g,h,i,b,_,k2,r,rfl⟩,w⟩:=qo (tg:=ng [hG 2,Kl]) (fb:=abR) (λl δ=>∃a k o p c f g h i b,(∀d∈l,∃(j:Nat)(q:B1),S[j]?=J q/\d=.tup [.int j,sD q])/\GM n ks (S.map (·.1)) a/\(AC a)+5*S.length*(AC l)<=5*(S.length*S.length)/\δ=M8 S a k o p c f g h i b) (λd l δ a'=>by
  obtain⟨a,k,o,p,c,f,g,h,i,b,k1,k2,r,E⟩:=a'
  subst E;obtain⟨j,q,y,rfl⟩:=k1 d jt;rw[kG,sP,vQ]at r;obtain⟨u,N,G,L,O,Q,v,g1,g2,e⟩:=U7 (x5:=c) (x6:=f) (x7:=g) (x8:=h) (x9:=i) (x10:=b) B x y k2 (by lia);exact⟨_,_,rfl,e,u,_,_,_,N,G,L,O,Q,v,λq U=>k1 q<|jx _ U,g1,by lia,rfl⟩) (((S.map sD).zipIdx).map λq=>D.tup [.int (0+(q.2:Int)),q.1]) (M8 S [] I I I I I I I I I) ⟨[],_,_,_,_,_,_,_,_,_,λd hd=>Si hd,(λm z=>nomatch z),(by simp[vc]),rfl⟩
 refine⟨a,k2,by simp at r;lia,jg (δ:=[T0 S,I,k,o,p,c,f,g,h,i,b]) ⟨rfl,by decide,rfl⟩<|(gX (δ1:=M8 S [] I I I I I I I I I) H).trans<|(gX<|(mI H).trans w).trans<|iz H⟩
end
section
variable {n:Nat}{a:iI}{c:gY}
def Su(S:List B1):(D.tup<|S.map sD).dep<=50:=by
 have:D.P2 (S.map sD)<=3:=by
  induction S with
  |nil=>simp[D.P2]
  |cons s S d=>
   have h1:(cD s.1).dep<=1:=by rw[qu];decide
   have b:(CB s.2).dep<=2:=by
    cases s.2 with
    |ld i t=>have:=qu t;simp[CB,D.dep,D.P2]at this ⊢;lia
    |_=>simp[CB,D.dep,D.P2]
   rw[jI,D.P2,D.dep,D.P2,D.P2,D.P2]
   lia
 rw[D.dep];lia
end
section
variable {n:Nat}{ks:iI}(h:mZ n ks)
include h
abbrev Cu(n:Nat)(ks:iI):List (List Int):=(nH n n).filter λt=>ks.all λc=>decide<|lc t c∈ks
theorem Lp:(Cu n ks).length<=3840:=kK (oR _ _)<|HM n (by have:=h.1;lia) n (by have:=h.1;lia)
theorem Rf{t:gY}(a:t∈Cu n ks):TT n t:=(yu (oD.mp a).1).tt
theorem Ln:0<(Cu n ks).length:=by refine List.length_pos_of_mem (a:=st n)<|oD.mpr ⟨W0 n (by have:=h.1;lia),ku.mpr λc b=>?_⟩;rw[Wc<|h.2.1.2 c b,kj b]
end
abbrev fG1:FS:=zC2
abbrev fG2:FS:=zC0
abbrev Mj:FS:=gZ WA<|gZ OA<|gZ fG1<|gZ WE<|gZ fG2 ip
abbrev fiG:B0:=zC6
def R0{tg:Tg}{fb:FS}(U:List D->Dn->Prop)(step:∀d c δ,U (d::c) δ->∃δ1 a,tg d δ=J δ1/\(fb δ1=J (.nx a)\/fb δ1=J (.ct a))/\U c a):∀(c:List D)(δ:Dn),U c δ->∃b,U [] b/\pZ tg fb c δ=J (.nx b):=by
 intro k
 induction k with
 |nil=>intro δ h;exact⟨δ,h,rfl⟩
 |cons d c j=>intro δ h;obtain⟨δ1,a,h1,e,f⟩:=step d c δ h;obtain⟨b,g,i⟩:=j a f;refine⟨b,g,?_⟩;unfold pZ;rw[h1];simp only[jj];rcases e with e|e<;>(rw[e];exact i)
def R9{c:OO}{fs:List FO}{δ δ1:Dn}{os:List F1}{args:List (D×Bool)}{r:D×Bool}{b:Dn}(h1:kd fs δ=J (os,δ1))(d:jS δ1 os=J args)(e:c (args.map λa=>(a.1,Y))=J (r,b))(f:okR r=C):Fn c fs δ=J (r,δ1):=by unfold Fn;rw[h1];simp only[jj];rw[d];simp only[jj];rw[e];simp only[jj];rw[ie f]
def adF:∀M:List B1,D.J1 (M.map sD)=C:=by
 intro M
 induction M with
 |nil=>rfl
 |cons m M a=>
  have h:D.fz (CB m.2)=C:=by cases m.2<;>simp[CB,D.fz,D.J1,Ht]
  simp[D.J1,D.fz,Ht,h,a]
def abJ(S:List B1):I8 (.lst<|S.map sD) (.lst [])=J (.bl<|decide<|S=[],Y):=by unfold I8;rw[ie ⟨Su S,by decide⟩];cases S<;>simp[D.Q2,D.K3]
def abH(S:List B1):BP (.lst<|S.map sD) (.lst [])=J (.bl (!decide (S=[])),Y):=by unfold BP;rw[ie ⟨Su S,by decide⟩];cases S<;>simp[D.Q2,D.K3]
def Mx{a:Type}{L:List a}{v:Int}(b:0<=v)(h1:v<AC L):∃x,L[v.toNat]?=J x/\x∈L/\v=(v.toNat:Nat):=by
 have hv:v.toNat<(AC L):=by lia
 exact⟨L[v.toNat],jq hv,vO hv,by lia⟩
def Ra{n:Nat}{t a:gY}(c:n<=5)(d:TT n t)(b:F2 n a):jh [enc a,enc t]=J (enc<|lc t a,[eN a,eN t]):=by
 by_cases e:a=[]
 .subst e;kernel_rfl
 obtain⟨f,e,rfl⟩:=Q9 c d ⟨e,b⟩;exact e
def YF{f g:F}{δ δ1 c:Dn}{a b:D×Bool}(h1:f δ=J (a,δ1))(d:g δ1=J (b,c)):kH [f,g] δ=J ((.tup [a.1,b.1],Y),c):=by rw[EI,show[f,g].map hC=[hC f,hC g]from H,mP (iq h1)<|iq d];simp[jP]
def UG{n:Nat}{c:gY}(w:n<=5)(g:F2 n c)(a:Int)(b:Bool):∃(E:Int)(k:gY),F2 n k/\(∀s∈c,s∈k)/\ug [pS a b,pI n,enc c]=zx (enc k,[SS E b,ii n,eN c]):=by
 have P:=g.len
 let δ:Int->Sl->Sl->Dn:=λa x y=>[SS a b,ii n,eN c,x,y]
 have K:(CN n c).length<=5:=by have:(CN n c).length<=(st n).length:=oR _ _;rw[wy]at this;lia
 let R:Sl:=zx (.lst<|(CN n c).map D.int,z8)
 have u:jo 3 (iL [2] 1 (wO jB CZ) (hG 1) Mz nJ) (δ a z7 z7)=zx (.nx<|δ a R z7):=iY (i:=3) (δ1:=δ a z7 z7) (LC (so:=c) w (V0 w At) At) (show 3<5 by decide);have C:fT (hU I8 (gR 3) qz) (δ a R z7)=zx (decide<|CN n c=[],δ a R z7):=jk<|jO (Dy (CN n c) []) (jR At) (jE (b:=z8) At).r;by_cases o:CN n c=[]
 .exact⟨a,c,g,λ_ h=>h,jg (δ:=δ a R z7) ⟨rfl,by decide,rfl⟩<|(gX u).trans<|iz<|(mD<|C.trans<|by rw[kj o]).trans<|iz At⟩
 have A:0<(CN n c).length:=Ke.mpr o;obtain⟨v,a1,Y,F,O⟩:=lX a b (CN n c).length (by lia) (by lia);obtain⟨x,N,G,hv⟩:=Mx (L:=CN n c) Y F;obtain⟨s,d,M,I⟩:=Jd a1 b;obtain⟨y,U,Q⟩:=QV (x:=x) M;obtain⟨x1,x2,x3⟩:=Wi.mp G;have j:ab y=x:=by unfold ab;rcases U with rfl|rfl<;>split<;>lia
 have H:jo 4 (hU ox ZS<|hC MF) (δ a R z7)=zx (.nx<|δ d R<|ii y):=by refine iY (i:=4) (δ1:=δ d R z7) (jQ (o1:=.val (.int x,z9)) (o2:=.val (.int s,z9)) (δ1:=δ a1 R z7) (iq<|jQ (o1:=.slot 3) (o2:=.val (.int v,z9)) (δ1:=δ a R z7) At (iq<|O _ [ii n,eN c,R,z7] (.val (.int (CN n c).length,z9)) (iq<|(jC (wG<|(CN n c).map D.int)<|jR At).trans<|by rw[jl]) rfl) At At ?_) (iq<|I _) At At Q) (show 4<5 by decide);rw[hv];exact M6 (by rw[jv,N];rfl)
 have B:((c++[y]).map ab).Nodup:=by
  rw[kQ];refine FV.mpr ⟨zJ g.1,by simp,λp A q J e=>?_⟩;obtain⟨z,f,rfl⟩:=kO.mp A;have:q=ab y:=by simpa using J
  rw[this,j]at e;by_cases q:z=x
  .exact x2 (q▸f)
  exact x3 ((show z= -x by unfold ab at e;split at e<;>lia)▸f)
 have t:=qD B
 have T:jb Vx (δ d R<|ii y)=zx ((c++[y]).map D.int,δ d R<|ii y):=by unfold jb Vx;rw[jO (Np (l:=c.map D.int) (m:=[.int y]) (by rw[jl];lia)<|by simp) (jV At).r (jE (b:=z9) At).r,kQ];rfl
 refine⟨d,Gn<|c++[y],⟨t.2,λz f=>?_⟩,λz f=>t.1.mem_iff.mpr<|AS _ f,jg (δ:=δ d R<|ii y) ⟨rfl,by decide,rfl⟩<|(gX u).trans<|(gX<|(lY<|C.trans<|by rw[kr o]).trans At).trans<|(gX H).trans<|iz<|jm<|Ky T B<|by simp;lia⟩;rcases oE.mp (t.1.mem_iff.mp f)with z|z
 .exact g.2 _ z
 cases yw.mp z;lia
section
variable {n:Nat}{ks:iI}(h:mZ n ks){b:Bool}
abbrev dG(n:Nat)(ks:iI)(b:Bool)(a:Int)(S:List B1)(x5 d x7 e f c:Sl):Dn:=[SS a b,rS n ks,CP (Cu n ks) C,ii 8,EJ S,x5,d,x7,e,f,c]
theorem L5{f:F}{s:B1}{S:List B1}{δ δ1:Dn}(a:δ[4]?=J (EJ S))(h:f δ=J ((sD s,Y),δ1))(h1:δ1[4]?=J (EJ S))(c:S.length<=10000):lq (kE 4 f) δ=J (.nx<|δ1.set 4<|EJ<|S++[s]):=by refine pF (r:=(.T2,Y))<|(rJ a h h1<|by rw[jl];exact uG c).trans ?_;rw[show S.map sD++[(sD s,Y).1]=(S++[s]).map sD by rw[kQ];rfl]
include h
theorem YB(hk:ks≠[])(a:Int){S:List B1}(g:Gd True n ks S)(hl:S.length<=20)(x5 H x7 o p l:Sl):∃(a':Int)(N:List B1)(y6 y7 y8 y9 l5:Sl),Gd True n ks N/\(AC N)<=S.length+1/\(Mj (dG n ks b a S x5 H x7 o p l)=zx (.nx<|dG n ks b a' N x5 y6 y7 y8 y9 l5)\/Mj (dG n ks b a S x5 H x7 o p l)=zx (.ct<|dG n ks b a' N x5 y6 y7 y8 y9 l5)):=by
 have Z:=h.1
 have hS:∀s∈S,F2 n s.1:=λs hs=>by obtain⟨P,R,e⟩:=gl hs;exact(g P s R e).1
 obtain⟨k,a1,k0,k1,e1⟩:=lX a b 5 (by lia) (by lia);obtain⟨M,m1,m2,e2⟩:=UH (ks:=ks) Z hS hl
 let E:Sl:=EJ M
 let δ:Int->Sl->Sl->Sl->Dn:=λa x y z=>dG n ks b a S x5 (ii k) E x y z
 have pre:∀f,gZ WA (gZ OA f) (dG n ks b a S x5 H x7 o p l)=f (δ a1 o p l):=λf=>(gX<|iY (i:=6) (δ1:=dG n ks b a1 S x5 H x7 o p l) (e1 _ _ (.val (.int 5,z9)) rfl rfl) (show 6<11 by decide)).trans<|gX<|iY (i:=7) (δ1:=dG n ks b a1 S x5 (ii k) x7 o p l) (R9 (os:=[.slot 4]) (args:=[(.lst<|S.map sD,z8)]) At At e2<|adF M) (show 7<11 by decide)
 have t1:fT Ov (δ a1 o p l)=zx (decide<|S=[],δ a1 o p l):=jk<|jO (abJ S) (jR At) (jE (b:=z8) At).r;have C:∀(j:Int)(a:Int)(x y z:Sl),fT (hU I8 (gR 6)<|hC<|fC<|.int j) (δ a x y z)=zx (k==j,δ a x y z):=λj a x y z=>jk<|jO (PR k j) (jV At).r (jE At).r;by_cases h0:S=[]\/k=0
 .have tt:uf (fT Ov) Vw (δ a1 o p l)=zx (z8,δ a1 o p l):=by
   by_cases q:S=[]
   .exact Sb (t1.trans<|by rw[kj q])
   exact(wV<|t1.trans<|by rw[kr q]).trans ((C 0 _ _ _ _).trans<|by rw[h0.resolve_left q];rfl)
  have kp:0<(AC ks):=Ke.mpr hk;have h30:=h.2.2.2;obtain⟨v,w,v0,v1,K⟩:=lX a1 b (AC ks) (by lia) (by lia);obtain⟨c,G,X,hv⟩:=Mx (L:=ks) v0 v1;have r1:hU N2 (gR 1) jB (δ a1 o p l)=zx ((.tup<|ks.map cD,z9),δ a1 o p l):=jO At (jV At).r (jE At).r;have V:jo 8 ZV (δ a1 o p l)=zx (.nx<|δ w (ii v) p l):=iY (i:=8) (δ1:=δ w o p l) (K _ _ (.val (.int<|AC ks,z9)) (iq<|(jC (Bj<|ks.map cD) (jE r1).r).trans<|by rw[jl]) rfl) (show 8<11 by decide)
  have B:kH [Zu,kH [Kj,iM 8]] (δ w (ii v) p l)=zx ((sD (c,.gv v.toNat),z9),δ w (ii v) p l):=by
   refine(oy (a:=enc c) (b:=(.tup [.str "given",.int v],z9)) (jO ?_ (jE (b:=z9) (d:=.tup (ks.map cD))<|jO At (jV At).r (jE At).r).r (jV At).r)<|oy (f:=fC<|.str "given") (g:=iM 8) (a:=(.str "given",z9)) (b:=pI v) At At).trans ?_
   .rw[hv];exact ixT (by rw[jv,G];rfl)
   show zx ((D.tup [cD c,.tup [.str "given",.int v]],z9),_)=zx ((D.tup [cD c,.tup [.str "given",.int (v.toNat:Nat)]],z9),_);rw[<-hv]
  exact⟨w,S++[(c,.gv v.toNat)],ii k,E,ii v,p,l,g.snoc (s:=(c,.gv v.toNat)) (h.2.1.2 c X).2 G,by simp,.inr<|(pre _).trans<|(Xd _ _ _).trans (by show((J4 _ _ ip (δ a1 o p l)).bind _)=_;rw[mD tt,gX V,gX<|L5 At B At<|by lia];rfl)⟩
 obtain⟨Q,eI⟩:=qW.mp h0;have gg:∀f,gZ fG1 f (δ a1 o p l)=f (δ a1 o p l):=λf=>no (δ:=δ a1 o p l) _ ((wV<|t1.trans<|by rw[kr Q]).trans<|(C 0 _ _ _ _).trans<|by rw[oj,kr eI]);have sp:0<S.length:=Ke.mpr Q;obtain⟨v,w,v0,v1,K⟩:=lX a1 b S.length (by lia) (by lia);obtain⟨q,G,X,hv⟩:=Mx (L:=S) v0 v1;have Y:=hS q X;have I:(S.map (·.1))[v.toNat]?=zx q.1:=by rw[jv,G];rfl
 have V:∀f,gZ WE f (δ a1 o p l)=f (δ w o (ii v) l):=λf=>gX<|iY (i:=9) (δ1:=δ w o p l) (K _ _ (.val (.int S.length,z9)) (iq<|(jC (wG<|S.map sD)<|jR At).trans<|by rw[jl]) rfl) (show 9<11 by decide);have aq:∀(a:Int)(z:Sl),hU N2 (hC<|hU N2 (gR 4)<|gR 9) lL (δ a o (ii v) z)=zx (enc q.1,δ a o (ii v) z):=λa z=>jO At (jE (b:=z9) (d:=sD q)<|jO (by rw[hv];exact M6<|by rw[jv,G];rfl) (jR At) (jV At).r).r (jE At).r;have run:Mj (dG n ks b a S x5 H x7 o p l)=gZ fG2 ip (δ w o (ii v) l):=(pre _).trans<|(gg _).trans<|V _;by_cases bU:k=1
 .have lp:=Ln h;have ll:=Lp h;obtain⟨u,A,u0,u1,B⟩:=lX w b (Cu n ks).length (by lia) (by lia);obtain⟨t,ht,T,hu⟩:=Mx (L:=Cu n ks) u0 u1;have tt:=Rf h T
  have O:jo 10 Tu (δ w o (ii v) l)=zx (.nx<|δ A o (ii v)<|eN t):=by refine iY (i:=10) (δ1:=δ A o (ii v) l) (jQ (o1:=.slot 2) (o2:=.val (.int u,z9)) (δ1:=δ w o (ii v) l) At (iq<|B _ _ (.val (.int (Cu n ks).length,z9)) (iq<|(jC (wG<|(Cu n ks).map cD)<|jR At).trans<|by rw[jl]) rfl) At At ?_) (show 10<11 by decide);rw[hu];exact M6 (by rw[jv,ht];rfl)
  have e7:kH [Z3,VB] (δ A o (ii v)<|eN t)=zx ((sD (lc t q.1,.ld v.toNat t),z9),δ A o (ii v)<|eN t):=by
   refine(oy (a:=enc<|lc t q.1) (b:=(.tup [.str "led",.int v,cD t],z9)) (CK (Ra Z tt Y) (jE<|aq _ _)<|jV At) ?_).trans ?_
   .show(if 3<=sizeLine then zx ((D.tup [.str "led",.int v,cD t],z9),δ A o (ii v)<|eN t)else z7)=_;rw[ie<|nX<|by decide]
   show zx ((D.tup [cD _,.tup [.str "led",.int v,cD t]],z9),_)=zx ((D.tup [cD _,.tup [.str "led",.int (v.toNat:Nat),cD t]],z9),_);rw[<-hv]
  refine⟨A,S++[(lc t q.1,.ld v.toNat t)],ii k,E,o,ii v,eN t,g.snoc (s:=(lc t q.1,.ld v.toNat t)) ?_ ⟨trivial,q.1,I,Y,tt,λk hk=>D2<|ku.mp (oD.mp T).2 k hk,rfl⟩,by simp,.inl<|run.trans<|(gX<|(mD<|(C 1 _ _ _ _).trans<|by rw[bU];rfl).trans<|(gX O).trans<|(gX<|L5 At e7 At<|by lia).trans At).trans At⟩;by_cases e:q.1=[]
  .rw[e];exact⟨aV,λs hs=>nomatch hs⟩
  exact(BD tt ⟨e,Y⟩).2
 have out:∀{J:Dn},zC1 (δ w o (ii v) l)=zx (.nx J)->Mj (dG n ks b a S x5 H x7 o p l)=zx (.nx J):=λe=>run.trans<|(gX<|(lY<|(C 1 _ _ _ _).trans<|by rw[oj,kr bU]).trans<|(gX e).trans At).trans At
 by_cases F:k=2
 .obtain⟨A,U,c1,c2,B⟩:=UG Z Y w b
  have O:kH [aad,kH [Kh,iM 9]] (δ w o (ii v) l)=zx ((sD (U,.wd v.toNat),z9),δ A o (ii v) l):=by refine(YF (a:=enc U) (b:=(.tup [.str "wide",.int v],z9)) (δ1:=δ A o (ii v) l) ((jr (os:=[.slot 0,.val<|pI n,.val<|enc q.1]) (args:=[pS w b,pI n,enc q.1]) (δ1:=δ w o (ii v) l) (mO At<|mP (iq<|jO At (jV At).r (jE At).r)<|iq<|aq _ _) At (Jc 0) B).trans At)<|oy (f:=fC<|.str "wide") (g:=iM 9) (a:=(.str "wide",z9)) (b:=pI v) At At).trans ?_;show zx ((D.tup [cD _,.tup [.str "wide",.int v]],z9),_)=zx ((D.tup [cD _,.tup [.str "wide",.int (v.toNat:Nat)]],z9),_);rw[<-hv]
  exact⟨A,S++[(U,.wd v.toNat)],ii k,E,o,ii v,l,g.snoc (s:=(U,.wd v.toNat)) c1 ⟨q.1,I,c2⟩,by simp,.inl<|out<|(mD<|(C 2 _ _ _ _).trans<|by rw[F];rfl).trans<|(gX<|L5 At O At<|by lia).trans At⟩
 have t3:fT (hU BP (gR 7) qz) (δ w o (ii v) l)=zx (!decide (M=[]),δ w o (ii v) l):=jk<|jO (abH M) (jR At) (jE (b:=z8) At).r;by_cases W:M=[]
 .exact⟨w,S,ii k,E,o,ii v,l,g,by lia,.inl<|out<|(lY<|(C 2 _ _ _ _).trans<|by rw[oj,kr F]).trans<|(gX<|(lY<|t3.trans<|by rw[kj W];rfl).trans At).trans At⟩
 have mp:0<(AC M):=Ke.mpr W;obtain⟨u,A,u0,u1,B⟩:=lX w b (AC M) (by lia) (by lia);obtain⟨m,bu,p7,hu⟩:=Mx (L:=M) u0 u1;obtain⟨w1,w2⟩:=m1 m p7
 have O:hU N2 (gR 7) Zx (δ w o (ii v) l)=zx ((sD m,z9),δ A o (ii v) l):=by refine jQ (o1:=.slot 7) (o2:=.val (.int u,z9)) (δ1:=δ w o (ii v) l) At (iq<|B _ _ (.val (.int<|AC M,z9)) (iq<|(jC (wG<|M.map sD)<|jR At).trans<|by rw[jl]) rfl) At At ?_;rw[hu];exact M6 (by rw[jv,bu];rfl)
 exact⟨A,S++[m],ii k,E,o,ii v,l,g.snoc w1 w2,by simp,.inl<|out<|(lY<|(C 2 _ _ _ _).trans<|by rw[oj,kr F]).trans<|(gX<|(mD<|t3.trans<|by rw[kr W];rfl).trans<|(gX<|L5 At O At<|by lia).trans At).trans At⟩
theorem Pf(a:Int):∃(c:Int)(S:List B1),Gd True n ks S/\S.length<=8/\nU [pS a b,(Ag n ks,Y),(.lst<|(Cu n ks).map cD,z8),pI 8]=J ((.tup<|S.map sD,Y),[SS c b,rS n ks,CP (Cu n ks) z8,ii 8]):=by
 obtain⟨v,a1,U,M,B⟩:=lX a b 8 (by lia) (by lia)
 let δ:Int->Dn:=λa=>dG n ks b a [] z7 z7 z7 z7 z7 z7
 have I:∀a,hU N2 (gR 1) jB (δ a)=J ((.tup<|ks.map cD,Y),δ a):=λa=>jO At (jV At).r (jE At).r
 have H:BP (.tup<|ks.map cD) (.tup [])=J (.bl (!decide (ks=[])),Y):=by
  have A:(D.tup<|ks.map cD).dep<=50:=by have:=Fp ks;simp only[D.dep]at this ⊢;exact this
  unfold BP;rw[ie ⟨A,by decide⟩];cases ks<;>simp[D.Q2,D.K3]
 obtain⟨N,G,q⟩:∃N:Nat,N<=8/\(ks=[]->N=0)/\fiG (δ a)=J (ja 0 N,δ a1):=by
  have t:hU lP jB VC (δ a)=J ((.int (1+v),Y),δ a1):=jQ (o1:=.val (.int 1,Y)) (o2:=.val (.int v,Y)) (δ1:=δ a) At (iq<|B _ _ (.slot 3) rfl rfl) At At At;have u:iw (g1 MY) [ZJ] (δ a1)=J ((.int (if(!decide (ks=[]))=z8 then 1 else 0),Y),δ a1):=jC (Xg _) (jE<|jO H (jE<|I a1).r (jE (b:=Y) At).r).r;by_cases hk:ks=[]
  .refine⟨0,by decide,λ_=>rfl,rB (n:=0) (o:=.val (.int 0,Y)) (iq<|jQ (o1:=.val (.int (1+v),Y)) (o2:=.val (.int 0,Y)) (iq t) (iq<|u.trans<|by rw[kj hk];rfl) At At ?_) At<|by decide⟩;have:CG (1+v) 0:=.inr (by lia);show((if CG (1+v) 0 then J (D.int<|(1+v)*0)else z7).map λz=>(z,Y))=_;rw[ie this,Int.mul_zero];rfl
  refine⟨(1+v).toNat,by lia,λz=>absurd z hk,rB (n:=(1+v).toNat) (o:=.val (.int (1+v),Y)) (iq<|jQ (o1:=.val (.int (1+v),Y)) (o2:=.val (.int 1,Y)) (iq t) (iq<|u.trans<|by rw[kr hk];rfl) At At<|X6 _) (show J (D.int (1+v))=J (.int ((1+v).toNat:Nat)) by congr 2;lia)<|by lia⟩
 obtain⟨hk,q⟩:=q
 obtain⟨_,⟨c,S,p,g,j,k,m,f,k1,k2,rfl⟩,C⟩:=R0 (tg:=hG 5) (fb:=Mj) (λl δ=>∃c S p g j k m f,Gd True n ks S/\S.length+AC l<=N/\δ=dG n ks b c S p g j k m f) (λd l δ a'=>by
  obtain⟨c,S,p,g,j,k,m,f,k1,k2,E⟩:=a'
  subst E;rw[kG]at k2;obtain⟨x,w,L,O,Q,T,y,g1,g2,e⟩:=YB h (b:=b) (λz=>by have:=hk z;lia) c k1 (by lia) (J (d,Y)) g j k m f;exact⟨_,_,rfl,e,x,w,_,L,O,Q,T,y,g1,by lia,rfl⟩) (ja 0 N) (δ a1) ⟨a1,[],_,_,_,_,_,_,(λP s R e=>by simp at e),(by simp[ja]),rfl⟩
 refine⟨c,S,k1,by simp at k2;lia,jg (δ:=dG n ks b c S p g j k m f) ⟨rfl,by decide,rfl⟩ ?_⟩;exact(gX (δ1:=δ a) At).trans ((gX<|(mI q).trans C).trans<|iz<|jm<|jC At<|jR (i:=4) At)
end
section
variable {n:Nat}{g:iI}(h:mZ n g){j i s p l:Sl}
include h
theorem YQ{m:Nat}{δ:Dn}(M:1<=n)(T:m<=50)(a:Int)(b:Bool)(w:δ[2]?=J (SS a b))(v:δ[3]?=J (rS n g)):∃(t:Int)(L:iI),AC L=m/\(∀c∈L,F2 n c)/\iL [2,3] 1 (CC<|hC<|fC<|.int m) (hG 2) je ZQ δ=J ((.lst<|L.map cD,C),δ.set 2<|SS t b):=by
 obtain⟨u,Q,⟨t,L,x,h1,U,y,rfl⟩,e⟩:=Cd (tg:=hG 2) (f:=hW kU [gR 0,OE]) (λB u δ=>∃(t:Int)(L:iI)(x:Sl),u=L.map cD/\(∀c∈L,F2 n c)/\(AC L)+AC B=m/\δ=[SS t b,rS n g,x]) (λd B u δ G=>by
  obtain⟨t,L,x,h1,w,v,E⟩:=G
  subst E;subst h1;obtain⟨A,c,N,e⟩:=Cb t b n M h.1;refine⟨[SS t b,rS n g,J (d,Y)],cD c,Y,[SS A b,rS n g,J (d,Y)],rfl,(jr (δ1:=[SS t b,rS n g,J (d,Y)]) (os:=[.slot 0,.val (.int n,Y)]) (args:=[pS t b,pI n]) (mP H<|iq<|jO H (jV H).r (jE H).r) H (Jc 0) e).trans H,by simp at v ⊢;lia,A,L++[c],J (d,Y),by rw[kQ];rfl,λq O=>?_,by simp at v ⊢;lia,rfl⟩;rcases oE.mp O with z|z
  .exact w q z
  cases yw.mp z;exact N.2) (ja 0 m) [] [SS a b,rS n g,I] ⟨a,[],I,rfl,by simp,by simp[ja],rfl⟩
 subst h1;exact⟨t,L,by simpa using y,U,(nr (caps:=[2,3]) (k:=1) (args:=[pS a b,(Ag n g,Y)]) (δ1:=δ) (rB (n:=m) (o:=.val (.int m,Y)) H H<|by lia) (by simp[w,v]) (by simp[iD]) e).trans H⟩
end
section
variable {n:Nat}{j:iI}{c:gY}
def Rv{bs:iI}(g:F2 n c)(f:∀d,d∈bs↔d∈j++c.map λs=>[-s]):lZ n bs=[]↔Cy n j c=[]:=by
 have key:∀t,t∈lZ n bs↔t∈Cy n j c:=λt=>by unfold Cy;rw[oD];unfold lZ;rw[oD,oD,and_assoc];refine and_congr_right λb=>?_;have b:=J9.mp b;rw[L6 f,Ia,la];refine and_congr_right λ_=>?_;rw[AB,rg,ku];unfold kC;rw[Mc];refine Au λs=>Au λh=>?_;show([-s].any<|CJ t)=C↔_;rw[sO,List.any_nil,mi,EC b<|g.2 s h];cases CJ t s<;>simp
 constructor
 .intro e;exact Zb.mpr λt a=>by rw[<-key t,e]at a;cases a
 intro e;exact Zb.mpr λt a=>by rw[key t,e]at a;cases a
def UR(a:n<=5):(lZ n j).length<=10000:=kK (oR _ _)<|kK (Ka a) (by decide)
def LD{fa fb:FO}{δ:Dn}(h:mZ n j)(d:F2 n c)(a:FJ fa δ (Ag n j))(b:FJ fb δ (cD c)):hW lG [fa,fb] δ=J ((.bl<|decide<|Cy n j c=[],Y),δ):=CK (BU h (cl0 n c d)<|UR h.1) a b
abbrev dR(n:Nat)(j:iI)(b:Bool)(a:Int)(c:gY)(x4 x5 e x7 f g d:Sl):Dn:=[SS a b,rS n j,CP (Cu n j) C,eN c,x4,x5,e,x7,f,g,d]
abbrev YJ:F:=zC4
def ab2(h:mZ n j)(k:F2 n c)(b:Bool)(a:Int)(x4 x5 x7 g i e:Sl):∃bs:List (List Int),Af n bs/\Fl bs/\(AC bs)<=40/\(∀d,d∈bs↔d∈j++c.map λs=>[-s])/\YJ (dR n j b a c x4 x5 (ii n) x7 g i e)=J ((Ag n bs,Y),dR n j b a c x4 x5 (ii n) x7 g i e):=by
 have Q:=k.len;have L:=h.1;have B:=h.2.2.2
 let δ:=dR n j b a c x4 x5 (ii n) x7 g i e
 have T:∀d∈j++c.map (λs=>[-s]),Sr n d:=λd hd=>by
  rcases oE.mp hd with z|z
  .exact h.2.1.2 d z
  obtain⟨s,U,rfl⟩:=kO.mp z;refine⟨by simp,by simp,λx E=>?_⟩;cases yw.mp E;rw[kF];exact k.2 s U
 obtain⟨o,bs,p,q,t,u,y,A⟩:=acP T (by simp;lia)
 have v:iL [] 1 zD (hG 0) je (jn<|kH [CV]) δ=J ((.lst<|(c.map λs=>[-s]).map cD,C),δ):=by
  refine(um (caps:=[]) (args:=[]) (l:=c.map D.int) (λd=>cD [-(Ls d)]) H H H (λd hd=>?_)<|by simp;lia).trans ?_
  .obtain⟨s,_,rfl⟩:=kO.mp hd;exact⟨Y,rfl⟩
  rw[ji,ji];rfl
 have w:hU lP CY Z5 δ=J ((.tup<|(j++c.map λs=>[-s]).map cD,Y),δ):=by refine(jO (Np (l:=j.map cD) (m:=(c.map λs=>[-s]).map cD) (by simp;lia)<|by simp;lia) (jE (b:=Y)<|jO H (jV H).r (jE H).r).r (jE (b:=Y)<|jC (a:=.lst ((c.map λs=>[-s]).map cD)) H (jE v).r).r).trans ?_;rw[<-kQ]
 refine⟨bs,p,q,by simp at u;lia,t,oy (f:=iM 6) (a:=pI n) (b:=(.tup<|bs.map cD,Y)) H<|jC (a:=.lst (bs.map cD)) H (jE<|jC (show qO (.R1 .set []<|o.map cD)=J (.lst<|bs.map cD,C)from A) (jE<|jC (show U0 (.tup<|(j++c.map λs=>[-s]).map cD)=J (.R1 .set []<|o.map cD,C)from y) (jE w).r).r).r⟩
abbrev fC5:FT:=zC5
abbrev WC:=hU PX.CF Km jB
abbrev ZY:=kH [FX,WC,iM 9]
abbrev WM:=kH [VQ,ZY]
def agU(h:mZ n j)(q:F2 n c)(a:Int)(b:Bool):∃a':Int,lj [pS a b,(Ag n j,z9),(.lst<|(Cu n j).map cD,z8),enc c]=zx ((.bl z8,z9),[SS a' b,rS n j,CP (Cu n j) z8,eN c]):=by
 have N:=h.1;generalize T:decide (Cy n j c=[])=f
 let F:Sl:=zx (.bl f,z9)
 obtain⟨O,e5,hd⟩:∃O:D,oz [(Ag n j,z9),enc c]=zx ((O,z9),[rS n j,eN c])/\((f=z9/\O=.T2)\/(f=z8/\∃S w,Gd True n j (S++[(c,w)])/\S.length<=64/\O=.tup ((S++[(c,w)]).map sD))):=by
  by_cases M:Cy n j c=[]
  .obtain⟨S,w,g,l,e⟩:=Qq (G:=True) h q M;exact⟨_,e,.inr ⟨by rw[<-T,kj M],S,w,g,l,rfl⟩⟩
  exact⟨_,Qp h q M,.inl ⟨by rw[<-T,kr M],rfl⟩⟩
 let P:Sl:=zx (O,z9)
 obtain⟨bs,b1,b2,b3,b4,e7⟩:=ab2 h q b a F P z7 z7 z7 z7
 let B:Sl:=rS n bs
 obtain⟨a1,t,E,e8⟩:=A6 a b n N;have E:=Ku E;obtain⟨w,hw,_⟩:=L0 E;obtain⟨ds,W,eL⟩:=Ri E h
 let δ:Int->Sl->Sl->Sl->Sl->Sl->Dn:=λa z x7 A C p=>dR n j b a c F P z x7 A C p
 have s0:OG (dR n j b a c z7 z7 z7 z7 z7 z7 z7)=zx (.nx<|dR n j b a c F z7 z7 z7 z7 z7 z7):=by have:=LD (fa:=gR 1) (fb:=gR 3) (δ:=dR n j b a c z7 z7 z7 z7 z7 z7 z7) h q (jV At)<|jV At;rw[T]at this;exact iY (i:=4) this (show 4<11 by decide)
 have s1:OL (dR n j b a c F z7 z7 z7 z7 z7 z7)=zx (.nx<|δ a z7 z7 z7 z7 z7):=iY (i:=5) (δ1:=dR n j b a c F z7 z7 z7 z7 z7 z7) (CK e5 (jV At)<|jV At) (show 5<11 by decide)
 have U:∀a z x7 A C p,F7 (δ a z x7 A C p)=zx ((.bl (!f),z9),δ a z x7 A C p):=λa z x7 A C p=>by refine jO (a:=O) (b:=.T2) ?_ (jV At).r (jE At).r;rcases hd with⟨rfl,rfl⟩|⟨rfl,S,w,_,_,rfl⟩<;>rfl
 have t2:WI (δ a z7 z7 z7 z7 z7)=zx (z9,δ a z7 z7 z7 z7 z7):=by refine(jk (o:=z9)<|jO (KO (!f)<|f==z9) (jE<|U _ _ _ _ _ _).r (jE (b:=z9)<|jO (a:=.bl f) (b:=.bl z9) At (jV At).r (jE At).r).r).trans ?_;cases f<;>rfl
 have s3:OJ (δ a z7 z7 z7 z7 z7)=zx (.nx<|δ a (ii n) z7 z7 z7 z7):=rfl;have s4:jo 7 YJ (δ a (ii n) z7 z7 z7 z7)=zx (.nx<|δ a (ii n) B z7 z7 z7):=iY (i:=7) e7 (show 7<11 by decide)
 have t5:fC5 (δ a (ii n) B z7 z7 z7)=zx (z9,δ a (ii n) B z7 z7 z7):=by
  have q1:fT Z2 (δ a (ii n) B z7 z7 z7)=zx (decide<|((AC bs):Int)<31,δ a (ii n) B z7 z7 z7):=by refine(jk<|jO (aaT _ 31) (jE (b:=z9)<|jC (Bj<|bs.map cD) (jE (b:=z9)<|jO At (jV At).r (jE At).r).r).r (jE At).r).trans ?_;rw[jl]
  unfold fC5 zC5 mW;rw[q1];simp only[jj];by_cases Z:((AC bs):Int)<31
  .rw[kj Z];have rb:mZ n bs:=⟨N,b1,b2,by lia⟩
   refine(jk (o:=z9)<|jO (KO (decide<|lZ n bs=[]) f) (jE<|jO (Fg<|lZ n bs) (jE<|MC (xb rb)<|jV At).r (jE (b:=z8) At).r).r (jV At).r).trans ?_;rw[show decide (lZ n bs=[])=f by rw[<-T];exact decide_eq_decide.mpr<|Rv q b4];cases f<;>rfl
  rw[kr Z];rfl
 have s6:OM (δ a (ii n) B z7 z7 z7)=zx (.nx<|δ a1 (ii n) B (eN t) z7 z7):=iY (i:=8) (δ1:=δ a1 (ii n) B z7 z7 z7) ((jr (δ1:=δ a (ii n) B z7 z7 z7) (os:=[.slot 0,.slot 6]) (args:=[pS a b,pI n]) At At (Jc 0) e8).trans At) (show 8<11 by decide)
 let δ2:=δ a1 (ii n) B (eN t) z7 z7
 have R:F2 n (lc t c):=by
  by_cases e:c=[]
  .rw[e];exact⟨aV,λs K=>nomatch K⟩
  exact(BD E ⟨e,q⟩).2
 have t7:WK δ2=zx (z9,δ2):=by refine(jk (o:=z9)<|jO (KO _ f) (jE<|LD (W.rd E hw h) R (jE<|CK eL (jV At)<|jV At)<|jE<|CK (Ra N E q) (jV At)<|jV At).r (jV At).r).trans ?_;rw[show decide (Cy n ds (lc t c)=[])=f by rw[<-T];exact decide_eq_decide.mpr<|S8 h E hw W q];cases f<;>rfl
 have run:∀g,gZ OG (gZ OL<|gZ (J4 WI rF ip)<|gZ OJ<|gZ (jo 7 YJ)<|gZ (J4 fC5 rF ip)<|gZ OM<|gZ (J4 WK rF ip) g) (dR n j b a c z7 z7 z7 z7 z7 z7 z7)=g δ2:=λg=>(gX s0).trans<|(gX s1).trans<|(no (δ:=δ a z7 z7 z7 z7 z7) _ t2).trans<|(gX s3).trans<|(gX s4).trans<|(no (δ:=δ a (ii n) B z7 z7 z7) _ t5).trans<|(gX s6).trans<|no (δ:=δ2) _ t7
 rcases hd with⟨rfl,rfl⟩|⟨rfl,S,w,g,hl,rfl⟩
 .exact⟨a1,jg (δ:=δ2) ⟨rfl,by decide,rfl⟩<|(run _).trans<|iz<|(mD<|Sb<|jk<|U _ _ _ _ _ _).trans<|iz<|jm<|by unfold M7;rw[U];rfl⟩
 have lp:=Ln h;have ll:=Lp h;obtain⟨u,Y,u0,u1,e9⟩:=lX a1 b (Cu n j).length (by lia) (by lia);obtain⟨y,hy,J,hu⟩:=Mx (L:=Cu n j) u0 u1;have ty:=Rf h J;have X:((S++[(c,w)]).map sD).length=S.length+1:=by simp
 have H:∀a z x7 A C p,iw (g1 ud) [gR 5] (δ a z x7 A C p)=zx ((.int<|(S.length:Int)+1,z9),δ a z x7 A C p):=λa z x7 A C p=>(jC (Bj<|(S++[(c,w)]).map sD) (jV At).r).trans (by rw[X];rfl)
 have t8:uf (fT F7) ZI δ2=zx (z9,δ2):=by refine(wV<|jk<|U _ _ _ _ _ _).trans ((jk (o:=z9)<|jO (TZ _ 199) (jE<|H _ _ _ _ _ _).r (jE At).r).trans ?_);rw[kr<|by lia]
 let d:Sl->Dn:=λx=>δ Y (ii n) B (eN t) (eN y) x
 have s9:jo 9 Tu δ2=zx (.nx<|d z7):=by refine iY (i:=9) (δ1:=δ Y (ii n) B (eN t) z7 z7) (jQ (o1:=.slot 2) (o2:=.val (.int u,z9)) (δ1:=δ2) At (iq<|e9 _ _ (.val (.int (Cu n j).length,z9)) (iq<|(jC (wG<|(Cu n j).map cD)<|jR At).trans<|by rw[jl]) rfl) At At ?_) (show 9<11 by decide);rw[hu];exact M6 (by rw[jv,hy];rfl)
 let v:B1:=(lc y c,.ld S.length y)
 let I:=S++[(c,w)]++[v]
 let Q:Sl:=zx (.tup<|I.map sD,z9)
 have gA:kH [WM] (d z7)=zx ((.tup [sD v],z9),d z7):=by
  have i1:WC (d z7)=zx (pI S.length,d z7):=(jO (PM _ 1) (jE<|H _ _ _ _ _ _).r (jE At).r).trans (by rw[show((S.length:Int)+1-1)=S.length by lia])
  have i2:ZY (d z7)=zx ((CB v.2,z9),d z7):=by unfold ZY;rw[EI,show[fC<|.str "led",hU PX.CF Km jB,iM 9].map hC=[hC FX,hC WC,hC<|iM 9]from At,mO (o1:=.val (.str "led",z9)) (δ1:=d z7) At<|mP (iq i1) (o2:=.val (enc y)) (δ2:=d z7) At];show(if 3<=sizeLine then zx ((CB v.2,z9),d z7)else z7)=_;rw[ie<|nX<|by decide]
  have i3:WM (d z7)=zx ((sD v,z9),d z7):=oy (a:=enc<|lc y c) (CK (Ra N ty q) (jV At)<|jV At) i2;rw[EI,jI,sH,oP<|iq i3];show(if 1<=sizeLine then zx ((D.tup [sD v],z9),d z7)else z7)=_;rw[ie<|nX<|by decide]
 have V:jo 10 (hU lP (gR 5)<|hC<|kH [WM]) (d z7)=zx (.nx<|d Q):=by have:=iY (i:=10) (jO (fa:=gR 5) (δ:=d z7) (Np (l:=(S++[(c,w)]).map sD) (m:=[sD v]) (by rw[X];lia)<|by simp) (jV At).r (jE gA).r) (show 10<11 by decide);rw[show(S++[(c,w)]).map sD++[sD v]=I.map sD by simp only[I,kQ];rfl]at this;exact this
 have g2:Gd True n j I:=g.snoc (s:=v) (by
  by_cases e:c=[]
  .show F2 n (lc y c);rw[e];exact⟨aV,λs K=>nomatch K⟩
  exact(BD ty ⟨e,q⟩).2) ⟨trivial,c,by rw[jv];simp,q,ty,λk hk=>D2<|ku.mp (oD.mp J).2 k hk,rfl⟩
 have p1:hU KL VA F0 (d Q)=zx ((.bl z8,z9),d Q):=jO (a:=.bl z8) At (jE<|CK (EM h g (by simp)<|by simp;lia) (jV At)<|jV At).r (jE At).r
 have p2:hU I8 ZU (gR 3) (d Q)=zx ((.bl z8,z9),d Q):=by refine(jO (Hr<|abY c) (jE (b:=z9)<|jO (a:=sD (c,w)) At (jE (b:=z9)<|jO (a:=.tup ((S++[(c,w)]).map sD)) ?_ (jV At).r (jE (b:=z9)<|jN (a:=.int 1) At (jE At).r).r).r (jE At).r).r (jV At).r);rw[kQ];exact ady
 have p3:hU KL VF F0 (d Q)=zx ((.bl z8,z9),d Q):=jO (a:=.bl z8) At (jE<|CK (EM h g2 (by simp[I])<|by simp[I];lia) (jV At)<|jV At).r (jE At).r;exact⟨Y,jg (δ:=d Q) ⟨rfl,by decide,rfl⟩<|(run _).trans<|(no (δ:=δ2) _ t8).trans<|(gX s9).trans<|(gX V).trans<|iz<|jm<|(pR p1).trans<|(pR p2).trans p3⟩
end
abbrev abT:F:=aao
abbrev gL4:FT:=Z9
abbrev gL5:FT:=aae
abbrev gL6:FT:=aaa
abbrev gL8:FS:=zC3
abbrev gL9:FT:=aai
abbrev Wk:FS:=gZ VO<|gZ (jo 3<|hW mw [gR 2,hC abT])<|gZ (jo 4<|hW oi [gR 3])<|gZ ZM<|gZ (J4 gL4 rF ip)<|gZ (J4 gL5 rF ip)<|gZ (J4 gL6 rF ip)<|gZ (jo 6 Ki)<|gZ gL8<|gZ (J4 gL9 rF ip) ip
section
variable {n:Nat}{j:iI}(h:mZ n j){z0 z1:Sl}{b:Bool}
abbrev dZ(z0 z1:Sl)(b:Bool)(n:Nat)(j:iI)(a:Int)(x5 c:Sl):Dn:=[z0,z1,SS a b,rS n j,CP (Cu n j) C,x5,c]
include h
theorem abw(a:Int){S:List B1}(g:Gd True n j S)(f:S.length<=8)(d:Sl):gL4 (dZ z0 z1 b n j a (J (.tup<|S.map sD,Y)) d)=J (Y,dZ z0 z1 b n j a (J (.tup<|S.map sD,Y)) d):=by
 let δ:=dZ z0 z1 b n j a (J (.tup<|S.map sD,Y)) d
 have q:BP (.tup<|S.map sD) (.tup [])=J (.bl (!decide (S=[])),Y):=by unfold BP;rw[ie ⟨Su S,by decide⟩];cases S<;>simp[D.Q2,D.K3]
 have e:fT (hU BP (gR 5) AV) δ=J (!decide (S=[]),δ):=jk<|jO q (jV H).r (jE (b:=Y) H).r;unfold gL4 Z9 mW;rw[e];simp only[jj];by_cases c:S=[]
 .rw[kj c];rfl
 rw[kr c];exact jk (o:=Y)<|jO (a:=.bl C) H (jE<|CK (EM h g (Ke.mpr c)<|by lia) (jV H)<|jV H).r (jE H).r
theorem abv(a:Int){S:List B1}(g:Gd True n j S)(y:S.length<=8)(r:Sl):gL5 (dZ z0 z1 b n j a (J (.tup<|S.map sD,Y)) r)=J (Y,dZ z0 z1 b n j a (J (.tup<|S.map sD,Y)) r):=by
 let δ:=dZ z0 z1 b n j a (J (.tup<|S.map sD,Y)) r
 obtain⟨c,A,⟨R,i,u,v,h1,m,p,t,rfl⟩,e⟩:=Cd (tg:=ng [hG 1,hG 2]) (f:=hW lG [gR 0,gR 1]) (λds c δ=>∃(R:List B1)(i:List D)(u v:Sl),ds=R.map sD/\(∀s∈R,F2 n s.1/\Cy n j s.1=[])/\c=i.map (λ_=>.bl C)/\(AC c)+R.length<=8/\δ=[rS n j,u,v]) (λd ds c δ U=>by
  obtain⟨R,i,u,v,h1,m,p,t,x⟩:=U
  subst x
  cases R with
  |nil=>cases h1
  |cons s R=>
   obtain⟨rfl,rfl⟩:=ve h1;obtain⟨k1,k2⟩:=m s jt
   refine⟨[rS n j,eN s.1,J (CB s.2,Y)],.bl C,Y,[rS n j,eN s.1,J (CB s.2,Y)],rfl,(LD h k1 (jV H)<|jV H).trans<|by rw[kj k2],by lia,R,i++[.T2],_,_,rfl,λq z=>m q<|jx _ z,by simp[p],by simp at t ⊢;lia,rfl⟩) (S.map sD) [] [rS n j,I,I] ⟨S,[],I,I,rfl,λs w=>by obtain⟨P,R,e⟩:=gl w;exact⟨(g P s R e).1,Gd.sound h S.length S H g s w⟩,rfl,by simpa using y,rfl⟩
 refine kM (b:=C)<|jk (o:=Y)<|mG (oP<|iq<|nr (caps:=[3]) (k:=2) (args:=[(Ag n j,Y)]) (δ1:=δ) (l:=S.map sD) H H (by simp[iD]) e) H ?_;subst p;refine(sv (λ_=>C) i).trans ?_;simp
theorem abu(a:Int)(x5 d:Sl):gL6 (dZ z0 z1 b n j a x5 d)=J (Y,dZ z0 z1 b n j a x5 d):=by refine(jk (o:=Y)<|jO (KO (decide<|Cy n j []=[])<|decide<|lZ n j=[]) (jE<|LD (c:=[]) h ⟨aV,λs e=>nomatch e⟩ (jV H)<|jE (b:=Y) H).r (jE<|jO (Fg<|lZ n j) (jE<|MC (xb h)<|jV H).r (jE (b:=C) H).r).r).trans ?_;rw[show Cy n j []=lZ n j from Y4.mpr λ_ _=>rfl];cases decide (lZ n j=[])<;>rfl
theorem abt(a:Int)(x5:Sl):∃(d:Int)(L:iI),(∀c∈L,F2 n c)/\(AC L)<=4/\gL8 (dZ z0 z1 b n j a x5<|B2 [[]])=J (.nx<|dZ z0 z1 b n j d x5<|B2 L):=by
 have k:F2 n []:=⟨aV,λs o=>nomatch o⟩
 have t:fT ZL (dZ z0 z1 b n j a x5<|B2 [[]])=J (decide (0<n),dZ z0 z1 b n j a x5<|B2 [[]]):=by
  refine(jk<|jO (TZ (n:Int) 0) (jE (b:=Y)<|jO H (jV H).r (jE H).r).r (jE H).r).trans ?_
  congr 3
  simp
 by_cases g:0<n
 .obtain⟨d,M,q,p,e⟩:=YQ h (m:=3) (δ:=dZ z0 z1 b n j a x5<|B2 [[]]) g (by decide) a b H H;refine⟨d,[[]]++M,λc f=>?_,by simp;lia,(mD<|t.trans<|by rw[kj g]).trans<|(gX<|iY (i:=6) (δ1:=dZ z0 z1 b n j d x5<|B2 [[]]) (jQ (o1:=.slot 6) H (iq e) H H<|ab6 (l:=[[]].map cD) (m:=M.map cD) (by simp)<|by simp;lia) (show 6<7 by decide)).trans ?_⟩
  .rcases oE.mp f with z|z
   .cases yw.mp z;exact k
   exact p c z
  rw[<-kQ];rfl
 exact⟨a,[[]],λc f=>by cases yw.mp f;exact k,by simp,(lY<|t.trans<|by rw[kr g]).trans H⟩
theorem abr(a:Int){L:iI}(w:∀c∈L,F2 n c)(y:(AC L)<=4)(x5:Sl):∃g:Int,gL9 (dZ z0 z1 b n j a x5<|B2 L)=J (Y,dZ z0 z1 b n j g x5<|J (.lst<|L.map cD,Y)):=by
 obtain⟨i,B,⟨m,p,g,x,h1,r,s,u,rfl⟩,e⟩:=Cd (tg:=hG 3) (f:=hW lj [gR 0,gR 1,gR 2,gR 3]) (λds i δ=>∃(m:iI)(p:List D)(g:Int)(x:Sl),ds=m.map cD/\(∀c∈m,F2 n c)/\i=p.map (λ_=>.bl C)/\(AC i)+AC m<=4/\δ=[SS g b,rS n j,CP (Cu n j) C,x]) (λd ds i δ U=>by
  obtain⟨m,p,g,x,h1,r,s,u,v⟩:=U
  subst v
  cases m with
  |nil=>cases h1
  |cons c m=>obtain⟨rfl,rfl⟩:=ve h1;obtain⟨t,e⟩:=agU h (r c jt) g b;exact⟨[SS g b,rS n j,CP (Cu n j) C,eN c],.bl C,Y,[SS t b,rS n j,CP (Cu n j) C,eN c],rfl,(jr (δ1:=[SS g b,rS n j,CP (Cu n j) C,eN c]) (os:=[.slot 0,.slot 1,.slot 2,.slot 3]) (args:=[pS g b,(Ag n j,Y),(.lst<|(Cu n j).map cD,C),enc c]) H H (by simp[iD]) e).trans H,by lia,m,p++[.T2],t,eN c,rfl,λq A=>r q<|jx _ A,by simp[s],by simp at u ⊢;lia,rfl⟩) (L.map cD) [] [SS a b,rS n j,CP (Cu n j) C,I] ⟨L,[],a,I,rfl,w,rfl,by simpa using y,rfl⟩
 refine⟨g,kM (b:=C)<|jk (o:=Y)<|(mG (oP<|iq<|nr (caps:=[2,3,4]) (k:=1) (args:=[pS a b,(Ag n j,Y),(.lst<|(Cu n j).map cD,C)]) (δ1:=dZ z0 z1 b n j a x5<|J (.lst<|L.map cD,Y)) (l:=L.map cD) H H (by simp[iD]) e) H (z:=(.bl C,Y)) ?_).trans H⟩;subst s;refine(sv (λ_=>C) p).trans ?_;simp
end
def R8(p:gY)(k:Nat)(q h f l c:Sl):∃A B C' E H',Wk [zx (.lst<|p.map .int,z9),ii k,q,h,f,l,c]=zx (.nx [zx (.lst<|p.map .int,z9),ii k,A,B,C',E,H']):=by
 let z0:Sl:=zx (.lst<|p.map .int,z9)
 obtain⟨a,b,I⟩:=Pg p k;obtain⟨v,a1,K,P,O⟩:=Gi a b 5 (by lia) (by lia);obtain⟨w,o,R,V,Q⟩:=Gi a1 b 4 (by lia) (by lia);obtain⟨n,r⟩:∃n:Nat,(if w=0 then v else w+1)=n:=⟨(if w=0 then v else w+1).toNat,by split<;>lia⟩
 have U:n<=5:=by split at r<;>lia
 obtain⟨m,d,j,G⟩:=afQ o b n U
 let δ:Int->Sl->Sl->Dn:=λa x y=>[z0,ii k,SS a b,x,y,l,c]
 have Y:abT (δ a h f)=zx ((.int n,z9),δ o h f):=by refine jQ (o1:=.val (.lst [.int v,.int 2,.int 3,.int 4],C)) (o2:=.val (.int w,z9)) (δ1:=δ a1 h f) (iq<|LH (os:=[.val (.int v,z9),.val (.int 2,z9),.val (.int 3,z9),.val (.int 4,z9)]) (ds:=[.int v,.int 2,.int 3,.int 4]) (mO (iq<|O _ z0 (ii k) [h,f,l,c] (.val (.int 5,z9)) rfl rfl) H) H<|nX (by show 4<=10000;decide)) (iq<|Q _ z0 (ii k) [h,f,l,c] (.val (.int 4,z9)) rfl rfl) H H (z:=(.int n,z9)) ?_;rw[<-r];rcases(show w=0\/w=1\/w=2\/w=3 by lia)with rfl|rfl|rfl|rfl<;>rfl
 obtain⟨e,S,g,s,J⟩:=Pf j (b:=b) m
 let T:Sl:=zx (.tup<|S.map sD,z9)
 obtain⟨t,L,D,F,M⟩:=abt j (z0:=z0) (z1:=ii k) (b:=b) e T;obtain⟨u,N⟩:=abr j (z0:=z0) (z1:=ii k) (b:=b) t D F T;refine⟨SS u b,rS n d,CP (Cu n d) C,T,zx (.lst<|L.map cD,z9),(gX<|iY (i:=2) (δ1:=[z0,ii k,q,h,f,l,c]) (CK I (jV H)<|jV H) (show 2<7 by decide)).trans ?_⟩;refine(gX<|iY (i:=3) (δ1:=δ m h f) ((jr (δ1:=δ o h f) (os:=[.slot 2,.val (.int n,z9)]) (args:=[pS o b,pI n]) (mP H<|iq Y) H (Jc 2) G).trans H) (show 3<7 by decide)).trans ?_;refine(gX (δ1:=dZ z0 (ii k) b n d m l c)<|iY (i:=4) (δ1:=δ m (rS n d) f) (MC (aek j.1 j.2.1.2 j.2.2.2)<|jV H) (show 4<7 by decide)).trans ?_;refine(gX (δ1:=dZ z0 (ii k) b n d e T c)<|iY (i:=5) (δ1:=dZ z0 (ii k) b n d e l c) ((jr (δ1:=dZ z0 (ii k) b n d m l c) (os:=[.slot 2,.slot 3,.slot 4,.val (.int 8,z9)]) (args:=[pS m b,(Ag n d,z9),(.lst<|(Cu n d).map cD,C),pI 8]) H H (by simp[iD]) J).trans H) (show 5<7 by decide)).trans ?_;refine(no (δ:=dZ z0 (ii k) b n d e T c) _ (abw j e g s c)).trans ((no (δ:=dZ z0 (ii k) b n d e T c) _ (abv j e g s c)).trans<|(no (δ:=dZ z0 (ii k) b n d e T c) _ (abu j e T c)).trans ?_);exact(gX (δ1:=dZ z0 (ii k) b n d e T<|B2 [[]]) H).trans ((gX M).trans<|(gX<|(lY N).trans H).trans H)
abbrev δ64(a:Sl):Dn:=[a,I,I,I,I,I,I]
def Y7(a:gY)(u:(AC a)<=63):∃o j,vK [(.lst<|a.map .int,Y)]=J ((.bl C,o),j):=by
 let l:Sl:=J (.lst<|a.map .int,Y)
 let N:Nat:=if 1<min (AC a) 4 then min (AC a) 4 else 1
 obtain⟨_,⟨m,b,c,f,g,i,_,rfl⟩,e⟩:=qo (tg:=hG 1) (fb:=Wk) (λds δ=>∃m b c f g i,(∀d∈ds,∃k:Nat,d=.int k)/\δ=[l,m,b,c,f,g,i]) (λd ds δ U=>by
  obtain⟨m,b,c,f,g,i,h1,h⟩:=U
  subst h;obtain⟨k,rfl⟩:=h1 d jt;obtain⟨g2,q,r,s,t,e⟩:=R8 a k b c f g i
  exact⟨_,_,rfl,e,_,_,_,_,_,_,λx p=>h1 x<|jx _ p,rfl⟩) (ja 0 N) (δ64 l) ⟨I,I,I,I,I,I,λd hd=>by obtain⟨k,_,rfl⟩:=kO.mp hd;exact⟨k,by simp⟩,rfl⟩
 refine⟨Y,_,jg (δ:=[l,m,b,c,f,g,i]) ⟨rfl,by decide,rfl⟩ ?_⟩;refine(gX<|(mI (ds:=ja 0 N) (δ1:=δ64 l) ?_).trans e).trans (iz H);refine rB (o:=.val (.int N,Y)) (iq ?_) H (by simp only[N];split<;>lia)
 have n:(N:Int)=if(if(4:Int)<(AC a)then 4 else((AC a):Int))>1 then(if(4:Int)<(AC a)then 4 else((AC a):Int))else 1:=by simp only[N];split<;>split<;>split<;>lia
 rw[n];simp[l,δ64]
end PV
def K64.main(b:gY)(c:(AC b)<=63):∃o a,PV.vK [(.lst<|b.map .int,Y)]=J ((.bl C,o),a):=PV.Y7 b c
structure PySem.W.Fast:Prop where(tw2063657039367650875 tw971207079810560205 tw15956780665864792968 tw8910100326087893860 tw4391241054056585265 tw829147423326901120 tw192397012959502447 tw13528104688076833844 tw11574136245314055844 tw3641719251035847479 tw8806028488326551672 tw13268204023926017499 tw16415425032210531329 tw9866159510910578374 tw1875298419030393664 tw9916877728032199525 tw6378786064935874936 tw2253993879559553617 tw6868151857166234655 tw10008331255209942471 tw6525604910251467894 tw18369718939625935552 tw1642333063085529866 tw303763267023562270 tw8368217436080838554 tw18160867646502721099 tw14383823796391720843 tw2377033458944214413 tw4866125807221073892 tw167634340884013883 tw18186395565295287847 tw12196964953352788540 tw16315485261702228044 tw11330240191994359296 tw15688946805070297074 tw16159761164162951502 tw12575880882605736337 tw17366435273349456373 tw7667772676068216841 tw15589643715387133641 tw13711241680820711581 tw6312787505013724620 tw6689754815133037014 tw17889911926677808973 tw15919906873478823350 tw2087375287101139557 tw1123214696193575968 tw6923436578774884172 tw82628539986739071 tw10765273061931762726 tw15150807494736472092 tw11721791982626879778 tw18213864503685745865 tw5992774739660740729 tw14721000017496028737 tw11362829928425313114 tw3164411760892015850 tw17649762513125365261 tw17140124505447832341 tw902029905932656423 tw6201931073841014996 tw5229082970068517708 tw14293398218259516142 tw12179786612711214542 tw12590823511749700231 tw11871900180792815486 tw11163310423697341822 tw9533298026806352536 tw3169185346629647543 tw13822861274152222546 tw2360844651987000275 tw615554633470086627 tw17575451499092186357 tw3279639842961655372 tw7203271812682350417 tw17733970099370579256 tw3861399341524438238 tw14446096888983156945 tw9397394428550682275 tw7815998777775448869 tw10323378549218680369 tw7126132970499639820 tw17769580322093096093 tw10951805636964160548 tw2350809255571114406 tw3639094565300196464 tw15943678026951134911 tw282701896475622374 tw4939557213006407980 tw9898917374118631761 tw13886672774850803286 tw173088658108712848 tw17167374864583282904 tw3618266459960740929 tw2316261957700207303 tw16359980161740738902 tw17978925500508400978 tw15067665746964932015 tw11984998116892300957 tw17782233884941652336 tw7008411865768355993 tw12616662691132827721 tw9494858184864921138 tw10271398566890691000 tw14607055940531634284 tw1283740133132810507 tw3956215697282745623 tw10975354539601939119 tw1685389685812130090 tw17790424163147437482 tw4120412109156366957 tw1838367721735320364 tw1330307400137081376 tw15848112979033658918 tw12883519808883902776 tw7442592055990308906 tw14355935913708029158 tw6677882693310337218 tw12592141555962347426 tw13291906211263587288 tw7153330851215683095 tw12144769640215830401 tw10778735074637713181 tw309059850222042257 tw17872811006748646884 tw1247987717433548846 tw5695566418323221830 tw15299896954148712049 tw13461447017660580425 tw15251130061098091216 tw2743107515780125857 tw1529046444439785491 tw3522664829533738597 tw539004864638232112 tw13155547007956156409 tw3149219952117019968 tw12326199494030089389 tw1730832673508264697 tw1525558530564494118 tw16629724721579843924 tw6771707794394529256 tw420418931088289596 tw15923038488078168505 tw14632958431879366262 tw17277564452437741646 tw15985848825058742919 tw1549555373776129320 tw1838065419064247948 tw1958625432622275664 tw11891346457489273458 tw616377020517614168 tw1670830801452011308 tw134666691596097457 tw6474377824818000690 tw18379280325850319178 tw14178912595663627192 tw6711347839857054940 tw8096535495923581918 tw6348258165969816890 tw4910553987050476231 tw3881962967200066731 tw8913908643261320044 tw8321016359777726941 tw6808444172408189876 tw2893599066188310333 tw2765005385908341835 tw4471528790799812282 tw17967748202725212620 tw17035638741871051763 tw12487175020146381176 tw16923370133445051133 tw8605767258730372798 tw7900016417293701820 tw8776961528239315994 tw1959967580099169259 tw4993247679666436738 tw4722564903122467769 tw14894455207133601360 tw905231289436131208 tw16589406989712866151 tw15949992018740532542 tw15926738666677766937 tw75282445821492120 tw7477069119831531902 tw18207327125123878203 tw16800784053513649859 tw6901278823405337618 tw7245905276772564075 tw4029538070033384737 tw15780115388395448552 tw15716014970731484774 tw2769244811430700510 tw2488711288298253204 tw17348229952621501376 tw15601907349533535052 tw8710679032429063172 tw9599550387289873784 tw17853329569056103035 tw12509037729628483282 tw6579180557743258309 tw758270237267660108 tw2397410891005931914 tw10734446581242091487 tw4246151816343612314 tw1238695512641258073 tw71795571968703380 tw2117116147315119456 tw14049737781713843594 tw97877281086895126 tw4358670007245758003 tw5966437991161539433 tw15323507688119599782 tw2154056669175862462 tw18051712367155947613 tw16025881985837612449 tw4264710279864488853 tw16511737164373169254 tw6943489376831630976 tw4687613572809318159 tw3501710021451673848 tw9032428015055900360 tw5511952237723743270 tw8395466966819778757 tw4368723299294590016 tw18192160757108018571 tw11532397141978342019 tw16704467669580648907 tw11096765855393125509 tw10457993231191915608 tw8637583135211988749 tw15174331022610746783 tw4863781721013506350 tw5544106635929272013 tw10134886322326583255 tw18122666815838821855 tw5167400824923328356 tw3554540940171306729 tw2609579243300253859 tw7639546022753811491 tw3433188449301215195 tw12941410599731894376 tw12731241277372198723:True)
open PySem PySem.W PyProof.Rows PX
set_option maxRecDepth 100000 in
set_option maxHeartbeats 0 in
theorem PySem.Challenge.cw_twinriddles_k64_whole_papers_holds : PySem.Challenge.rw_twinriddles_k64_whole_papers.Holds := by
  w_on; o_law; k_head; (case hw => w_witness2)
  k_fill
  refine walkG (l:=Challenge.rw_twinriddles_k64_whole_papers) (LV:=14) (x:="_law_script") ⟨rfl,by decide,by decide,rfl⟩ rfl rfl (fun w h Y=>kIn_of Y) ?F K64.main
  case F =>
   intro w mg fa h KX G hmg
   refine' K64.all_mk hmg (txK KX G ?_ ?_ ?_ ?_ ?_ ?_ ?_ ?_ ?_ ?_ ?_ ?_ ?_ ?_ ?_ ?_) ?_ ?_ ?_ ?_ ?_ ?_ ?_ ?_ ?_ ?_ ?_ ?_ ?_ ?_ ?_ ?_ ?_ ?_ ?_ ?_ ?_ ?_ ?_ ?_ ?_ ?_ ?_ ?_ ?_ ?_ ?_ ?_ ?_ ?_ ?_ ?_ ?_ ?_ ?_ ?_ ?_ ?_ ?_ ?_ ?_ ?_ ?_ ?_ ?_ ?_ ?_ ?_ ?_ (mgI KX G ?_) (mgI KX G ?_)<;>try first|refine' fz KX G ?_ ?_ ?_ ?_<;>try k_is|k_is|kernel_rfl
