import PyProof.Rows.All
import Wide.All
import OpenK.AllK
import Wide.FinOn
import PyProof.EqAt
import PyProof.EqKinds
import PyProof.TupleCall
import Lean
import PySem.Challenge.RW_twinriddles_k41_spans
set_option Elab.async false
set_option linter.all false
set_option maxRecDepth 100000
set_option maxHeartbeats 8000000
noncomputable section
section
open PySem PySem.Spec PyProof.Rows
abbrev gD:=Value->Shared->Prop
abbrev gG:=List (Addr×Obj)
abbrev gu:=PySem.W.Frag
abbrev iZ:=List (List Int)
abbrev gO:=List Int
abbrev hJ:=List Value
abbrev ke:=Str->Option Value
abbrev gX:=List Nat
abbrev kn:=Nat->Nat->Bool
abbrev iY:=Array Nat
abbrev lq:=Array (Int×Value)
abbrev jy:=Array Value
abbrev gJ:=List Str
abbrev iF:=List Expr
abbrev qU:=Bool->Shared->Prop
abbrev Eb:=Option Value->Shared->Prop
abbrev ub:=Value->Value->Sem Value
abbrev qT:=Array (Option Nat)
abbrev qS:=Array (Option Value)
abbrev jx:=List (Str×Addr)
abbrev nM:=List Comprehension
abbrev lM:=Array Keyed
abbrev lL:=Nat->Keyed
abbrev xt:=Option Nat->SortSt->Prop
abbrev hZ:=Nat->Prop
abbrev iI:=List Addr
abbrev gb:=Shared
abbrev gw:=Program
abbrev gv:=Around
abbrev gm:=World
abbrev hX:=SortSt
abbrev jX:=SetTable
abbrev gi:=Value
abbrev oi:=Comprehension
abbrev kI:=FuncData
abbrev iC:=Scope
abbrev gf:=Expr
abbrev gz:=Heap
abbrev fV:=Addr
end
section
open PySem PySem.Spec PyProof.Rows PySem.SeqAt
def fW:=@wpAny_bind
def gg:=@wpAny_pure
theorem gh:type_of% @if_pos:=@if_pos
theorem gk:type_of% @if_neg:=@if_neg
theorem gQ:type_of% @Nat.le_refl:=@Nat.le_refl
theorem hC:type_of% @Bool.false_eq_true:=@Bool.false_eq_true
theorem ik:type_of% @if_false:=@if_false
theorem il:type_of% @List.getElem?_eq_getElem:=@List.getElem?_eq_getElem
theorem iw:type_of% @List.map_cons:=@List.map_cons
def iM:=@Heap.lt_size
theorem gU:type_of% @List.size_toArray:=@List.size_toArray
theorem gS:type_of% @if_true:=@if_true
def gY:=@Heap.get?_push_of_some
theorem jt:type_of% @List.mem_cons:=@List.mem_cons
def hV:=@Option.some.inj
def hU:=@List.mem_cons_of_mem
def ic:=@List.mem_cons_self
def ie:=@Nat.ne_of_lt
theorem iq:type_of% @List.length_map:=@List.length_map
theorem ip:type_of% @Option.bind_some:=@Option.bind_some
def iB:=@Bool.false_ne_true
theorem iG:type_of% @Array.length_toList:=@Array.length_toList
theorem iJ:type_of% @List.length_cons:=@List.length_cons
theorem iN:type_of% @List.getElem?_map:=@List.getElem?_map
theorem nS:type_of% @List.mem_append:=@List.mem_append
def iU:=@Heap.get?_push_size
theorem oA:type_of% @List.mem_map:=@List.mem_map
def qR:=@List.getElem?_eq_some_iff
theorem jd:type_of% @sizeLine_eq:=@sizeLine_eq
theorem jc:type_of% @List.append_assoc:=@List.append_assoc
def lZ:=@List.pairwise_append
def mN:=@List.mem_singleton
def jA:=@List.getElem_mem
def jS:=@Array.getElem?_toList
theorem jY:type_of% @List.not_mem_nil:=@List.not_mem_nil
theorem ki:type_of% @Bool.and_eq_true:=@Bool.and_eq_true
def kx:=@Nat.le_trans
def ku:=@Nat.zero_le
def kr:=@List.mem_of_mem_drop
def ko:=@List.take_append_drop
def kL:=@wpAny_holding
def kK:=@List.mem_of_getElem?
theorem lC:type_of% @List.all_eq_true:=@List.all_eq_true
theorem kJ:type_of% @Bool.not_true:=@Bool.not_true
def kX:=@wpAny_call_entry
def kW:=@wpAny_newObj_type
def lA:=@Nat.lt_of_lt_of_le
def ly:=@List.mem_of_mem_take
def lx:=@Array.getElem?_eq_getElem
theorem lu:type_of% @List.map_map:=@List.map_map
def lr:=@PySem.W.mg_none_of
theorem lO:type_of% @List.length_append:=@List.length_append
def lN:=@wpAny_field
def nX:=@List.pairwise_cons
def mf:=@List.take_sublist
theorem md:type_of% @List.lookup_cons:=@List.lookup_cons
theorem ma:type_of% @or_false:=@or_false
def mM:=@Ne.symm
theorem mL:type_of% @List.drop_drop:=@List.drop_drop
def mK:=@List.drop_sublist
def nR:=@decide_eq_false
def nQ:=@congrArg
def nP:=@Nat.ne_of_gt
def nO:=@List.mem_append_right
def nN:=@Heap.size_push
theorem oz:type_of% @Nat.lt_irrefl:=@Nat.lt_irrefl
theorem uv:type_of% @List.mem_range:=@List.mem_range
def oy:=@List.getElem?_set_self
def ox:=@wpAny_mono
theorem ou:type_of% @List.length_take:=@List.length_take
theorem ot:type_of% @Int.toNat_natCast:=@Int.toNat_natCast
def oq:=@wpAny_of_eq
def oo:=@wpAny_seqItems
def oj:=@wpAny_setState_of
def qg:=@List.getElem?_set_ne
def qf:=@wpAny_callSpecial?_slot
def qe:=@eq_of_beq
def qd:=@Heap.get?_update_self
theorem qc:type_of% @List.length_set:=@List.length_set
theorem qb:type_of% @decide_eq_true:=@decide_eq_true
theorem qa:type_of% @bind_assoc:=@bind_assoc
def pZ:=@List.getElem?_of_mem
theorem pY:type_of% @decide_eq_true_eq:=@decide_eq_true_eq
def pX:=@Obj.data_mapFields
def pW:=@List.Perm.append_left
def rB:=@List.filterMap_cons
def GH:=@Option.isSome_iff_exists
def rA:=@wpAny_typeOf
theorem rq:type_of% @bne_self_eq_false:=@bne_self_eq_false
def rp:=@wpAny_rule
theorem rm:type_of% @List.length_nil:=@List.length_nil
theorem rk:type_of% @List.nodup_nil:=@List.nodup_nil
def rh:=@List.drop_eq_getElem_cons
def rf:=@PySem.W.kia_one
def rd:=@PySem.W.kia_tup
def qZ:=@codeAny_builtin
def qY:=@Heap.SameBut.update
def qX:=@List.take_of_length_le
def qW:=@Nat.min_eq_left
theorem qV:type_of% @List.map_append:=@List.map_append
def ng:=@wpAny_forIn_list
def nc:=@Nat.pow_succ
def mZ:=@Nat.mul_assoc
def oK:=@wpAny_truthy_bool
def oJ:=@codeAny_mono
def oI:=@PySem.mem_of_lookup
theorem oH:type_of% @List.map_nil:=@List.map_nil
def oG:=@Prod.mk.inj
def oF:=@Nat.lt_succ_self
def oE:=@Around.under_plainId
theorem oD:type_of% @Array.getD_eq_getD_getElem?:=@Array.getD_eq_getD_getElem?
def oC:=@List.Perm.refl
def Hr:=@PySem.F.called_set
def oB:=@List.map_congr_left
theorem wX:type_of% @beq_eq_false_iff_ne:=@beq_eq_false_iff_ne
def qC:=@wpAny_passesOwn
def qB:=@List.append_nil
theorem ze:type_of% @List.nodup_cons:=@List.nodup_cons
def qA:=@plainId_quiet
def qz:=@wpAny_setField
def qy:=@wpAny_attempt
theorem qx:type_of% @List.nil_append:=@List.nil_append
theorem qw:type_of% @List.take_take:=@List.take_take
theorem qv:type_of% @List.zip_cons_cons:=@List.zip_cons_cons
def qu:=@Nat.mul_add
def qt:=@wpAny_specialOf
def qr:=@List.mem_map_of_mem
def tJ:=@Paired.length
def tH:=@Nat.le_of_lt
def tE:=@wpAny_load
def tD:=@List.getElem?_append_right
theorem tx:type_of% @List.length_drop:=@List.length_drop
def wY:=@PyProof.Rows.slot_tuple_getitem
def tw:=@Heap.get?_update_other
def tu:=@Nat.le_succ
theorem tq:type_of% @List.forIn_cons:=@List.forIn_cons
def tj:=@wpAny_askSetting
def tf:=@Nat.lt_succ_of_lt
theorem sZ:type_of% @List.find?_cons:=@List.find?_cons
theorem sY:type_of% @List.any_cons:=@List.any_cons
def sV:=@List.drop_eq_nil_of_le
def sU:=@wpAny_setField_rec
def sT:=@wpAny_isInstance
def sQ:=@List.Perm.append_right
def sP:=@List.getElem_of_mem
theorem sO:type_of% @List.extract_toArray:=@List.extract_toArray
theorem sN:type_of% @List.extract_eq_take_drop:=@List.extract_eq_take_drop
theorem sM:type_of% @List.getElem?_drop:=@List.getElem?_drop
def sL:=@Nat.mul_comm
def sJ:=@Nat.mul_one
def sH:=@Nat.mod_lt
def Kn:=@Array.getElem?_eq_some_iff
theorem sG:type_of% @List.isEmpty_nil:=@List.isEmpty_nil
theorem sD:type_of% @List.getD_eq_getElem?_getD:=@List.getD_eq_getElem?_getD
def vp:=@List.mem_append_left
def vo:=@wpAny_standAt
def vn:=@Int.mul_one
def vm:=@wpAny_Call_Name_kw
def vh:=@List.getElem?_append_left
def vg:=@List.length_singleton
theorem vf:type_of% @List.forIn_nil:=@List.forIn_nil
def ve:=@codeAny_of_tree
def vd:=@Nat.lt_trans
def vc:=@tupleKind_room_in1
def vb:=@List.ext_getElem?
def va:=@wpAny_onRaise
def uZ:=@List.cons.inj
def Me:=@Array.perm_iff_toList_perm
def Ar:=@List.perm_middle
def Ee:=@List.pairwise_iff_getElem
def uY:=@List.Perm.of_eq
def uX:=@List.drop_zero
def uW:=@Bool.or_eq_true
def uV:=@Nat.add_mul
def uU:=@Nat.pow_le_pow_right
def Md:=@List.length_eq_zero_iff
def xu:=@PySem.F.slot_dict_keyiterator_next
def Ed:=@PySem.F.slot_tuple_hash
def uT:=@List.map_id
def uS:=@PySem.strLen_append
def zd:=@PySem.W.cellsFrom_some
def zc:=@concat_meets
def zb:=@IsTup.new
def za:=@call_meets
def yZ:=@List.getElem?_set
theorem BU:type_of% @List.getElem?_zip_eq_some:=@List.getElem?_zip_eq_some
def yY:=@List.ext_getElem
def yX:=@List.any_map
theorem yW:type_of% @List.getElem?_eq_none:=@List.getElem?_eq_none
def yV:=@F.slot_tuple_iterator_next
def yU:=@Obj.isFreed_of_fields
def yT:=@Obj.cls_mapFields
def yS:=@F.slot_zip_next
def yR:=@Nat.lt_or_ge
def yQ:=@List.pairwise_singleton
def yP:=@List.perm_append_comm
def yO:=@AutoSeq1.sub_tuple_tuple
def yN:=@richCompare_meets_room
def yM:=@Nat.mul_left_comm
theorem yL:type_of% @Array.getElem?_setIfInBounds:=@Array.getElem?_setIfInBounds
theorem yK:type_of% @Array.getElem?_eq_none:=@Array.getElem?_eq_none
def yJ:=@wpAny_isSame_ref_self
def yI:=@isSubtype_type
def yH:=@List.length_eraseIdx
def yG:=@PySem.F.plain_list_iadd
def yF:=@wpAny_updateSeq
def yE:=@wpAny_typeNameOfWhole_keyiter
def yD:=@Array.forIn_toList
def CM:=@wpAny_pyHash_int
def CK:=@wpAny_execs_nil
def CJ:=@wpAny_pyIter_list
def CH:=@PyProof.Rows.callWith_type1
def CG:=@List.of_mem_zip
def CF:=@noFill_tuple_add
def CD:=@seq_tuple_add
def CC:=@PySem.F.slot_tuple_add
def CB:=@PySem.F.entry_tuple_add
def CA:=@PySem.F.args_tuple_add_2
def Cz:=@seqIndex_of
def Cy:=@seqIndex_neg
def Cw:=@Calls.callWith_builtin
def Cv:=@wpAny_alloc
def Cu:=@Nat.lt_asymm
def Ct:=@Option.isSome_map
def Cs:=@PySem.F.plainAttrs_list
def Cr:=@wpAny_runValue
def Km:=@F.called_tuple
def Cq:=@wpAny_handled
def Cp:=@wpAny_throw
def Co:=@wpAny_updateSeq_pair
def Cn:=@wpAny_letGo
def Cm:=@isSubtype_stop
def OE:=@Array.mem_toList_iff
def Ck:=@List.take_succ
def Cj:=@List.singleton_append
def Ci:=@List.drop_left
def Cg:=@Nat.add_zero
def Cf:=@Nat.lt_of_le_of_lt
def Ce:=@listUpdate_at
def Cd:=@get?_update_seq
def Cc:=@seqEpoch_at
def Kl:=@List.pairwise_lt_range
def Cb:=@Nat.one_mul
def Ca:=@Nat.mul_zero
def B9:=@Int.emod_lt_of_pos
def B8:=@Int.emod_nonneg
def B7:=@List.mem_erase_of_ne
def B6:=@wpAny_pyIter_slot
def BZ:=@wpAny_setEntries_of
def BY:=@wpAny_dictEntries
def BX:=@wpAny_dictEpoch
def BW:=@Heap.SameBut.refl
def GF:=@PySem.F.slot_set_contains
def Hq:=@Calls.Name_function_global
def Ho:=@List.getElem?_take_of_lt
def Hn:=@entry_tuple_getitem
def Hm:=@subscriptTail_builtinR
def Hl:=@wpAny_Call_method_late
def Hk:=@Calls.evalArgs_plain
def Hj:=@F.entry_list_append
def Hh:=@F.args_list_append_2
def Hg:=@List.eraseIdxIfInBounds_toArray
def Hf:=@List.length_dropLast
def He:=@wpAny_comprehension_free
def Hd:=@List.getElem?_zipIdx
def Hc:=@PySem.F.slot_list_pop
def Hb:=@PySem.F.type_list_pop
def Ha:=@F.entry_tuple_iterator_next
def G9:=@F.args_tuple_iterator_next_1
def G8:=@PySem.W.kas_swaps_map
def G7:=@List.take_set_of_le
def G6:=@List.drop_set_of_lt
def G5:=@List.take_succ_cons
def G4:=@List.eraseIdx_eq_take_drop_succ
def G3:=@List.Perm.eq_of_pairwise
def G2:=@Heap.get?_update_ne
def G1:=@List.filterMap_append
def G0:=@List.perm_append_singleton
def GZ:=@Array.getElem?_replicate
def GY:=@builtinLookup_eq_fast
def GX:=@PySem.F.slot_set_iter
def GW:=@PySem.F.entry_proto_collect
def GV:=@PySem.F.plain_proto_collect
def GU:=@PySem.F.entry_list_iadd
def GS:=@PySem.F.plain_extend_loop
def GR:=@codeAny_extend_loopS
def GQ:=@PySem.F.slot_dict_iter
def GP:=@PySem.F.entry_dict_keyiterator_next
def GO:=@PySem.F.args_dict_keyiterator_next_1
def GN:=@wpAny_isOneOf_keyiter
def GL:=@PySem.F.plain_set_new
def OJ:=@Array.toList_eq_nil_iff
def GK:=@List.dropLast_eq_take
def GJ:=@PySem.F.slot_set_add
def GI:=@List.perm_cons_erase
def OI:=@List.length_pos_iff
end
namespace TT
open PySem
noncomputable def adv(mask:Nat)(p:SetTable.Probe):SetTable.Probe:=
 if p.more>0 then {p with j:=p.j+1,more:=p.more-1} else
 {p with j:=(SetTable.leap mask p.i p.perturb).1,more:=SetTable.runEnd mask (SetTable.leap mask p.i p.perturb).1-(SetTable.leap mask p.i p.perturb).1,i:=(SetTable.leap mask p.i p.perturb).1,perturb:=(SetTable.leap mask p.i p.perturb).2}
noncomputable def stt(mask:Nat)(h:Int):SetTable.Probe:={j:=SetTable.bits h%(mask+1),more:=SetTable.runEnd mask (SetTable.bits h%(mask+1))-SetTable.bits h%(mask+1),i:=SetTable.bits h%(mask+1),perturb:=SetTable.bits h,dummy:=none}
noncomputable def pr(mask:Nat)(h:Int):Nat->SetTable.Probe
 |0=>stt mask h
 |n+1=>adv mask (pr mask h n)
structure TabOk(hs:gO)(t:jX):Prop where
 pow: ∃k,3<=k/\k<=11/\t.mask+1=2^k
 dum:t.dummies= #[]
 len:t.place.size=hs.length
 room:5*hs.length<3*t.mask
 ris:t.place.toList.Pairwise (· < ·)
 bd: ∀j∈t.place.toList,j<=t.mask
 road: ∀(i:Nat) (h:Int) (j:Nat),hs[i]?=some h->t.place[i]?=some j-> ∃n,(pr t.mask h n).j=j/\ ∀m,m<n->(pr t.mask h m).j∈t.place.toList
end TT
namespace L2
open PySem PySem.Spec PyProof.Rows
abbrev Key:=Sum Int Str
noncomputable def wq:Key->Value->Bool
 | .inl k,v=>Value.isInt k v
 | .inr x,v=>Value.isStrOf x v
noncomputable def R0(w:gm):Key->Int
 | .inl k=>hashInt k
 | .inr x=>hashStr w x
theorem iK: ∀{k:Key} {v:gi},wq k v=true->(∃i t,k=Sum.inl i/\v=Value.int i t)\/(∃x t,k=Sum.inr x/\v=Value.str x t)
 | .inl i,v,h=>by
  obtain⟨t,e⟩:=Value.isInt_shape (k:=i) (v:=v) h;exact .inl ⟨i,t,rfl,e⟩
 | .inr x,v,h=>by
  obtain⟨t,e⟩:=Value.isStrOf_shape (x:=x) (v:=v) h;exact .inr ⟨x,t,rfl,e⟩
theorem Gd(i:Int)(t:Tok):wq (.inl i) (.int i t)=true:=by simp[wq,Value.isInt]
theorem Gb(x:Str)(t:Tok):wq (.inr x) (.str x t)=true:=by simp[wq,Value.isStrOf]
theorem Jz(a b:Int):decide ((Sum.inl a:Key)=Sum.inl b)=(a==b):=by
 by_cases e:a=b
 ·subst e;simp
 ·have h: ¬(Sum.inl a:Key)=Sum.inl b:=fun q=>e (Sum.inl.inj q);rw[nR h];exact(wX.mpr e).symm
theorem Jw(a b:Str):decide ((Sum.inr a:Key)=Sum.inr b)=decide (a=b):=by
 by_cases e:a=b
 ·subst e;simp
 ·have h: ¬(Sum.inr a:Key)=Sum.inr b:=fun q=>e (Sum.inr.inj q);rw[nR h,nR e]
theorem Jy(a:Int)(b:Str):decide ((Sum.inl a:Key)=Sum.inr b)=false:=nR (fun q=>nomatch q)
theorem Jx(a:Str)(b:Int):decide ((Sum.inr a:Key)=Sum.inl b)=false:=nR (fun q=>nomatch q)
noncomputable def iT(prog:gw)(w:gm):PySem.KeyKind prog w Key where
 is:=wq
 hash:=R0 w
 inj:=fun v a b ha hb=>by
  rcases iK ha with⟨i,t,rfl,rfl⟩|⟨x,t,rfl,rfl⟩
  ·rcases iK hb with⟨j,u,rfl,e⟩|⟨y,u,rfl,e⟩
   ·injection e with e1 _;rw[e1]
   ·exact nomatch e
  ·rcases iK hb with⟨j,u,rfl,e⟩|⟨y,u,rfl,e⟩
   ·exact nomatch e
   ·injection e with e1 _;rw[e1]
 byValue:=fun k v h=>by
  rcases iK h with⟨i,t,rfl,rfl⟩|⟨x,t,rfl,rfl⟩<;>rfl
 pyHash:=fun hv h=>by
  rcases iK hv with⟨i,t,rfl,rfl⟩|⟨x,t,rfl,rfl⟩
  ·exact CM h
  ·exact wpAny_pyHash_str h
 eqBool:=fun hu hv h=>by
  rcases iK hu with⟨i,t,rfl,rfl⟩|⟨x,t,rfl,rfl⟩
  ·rcases iK hv with⟨j,u,rfl,rfl⟩|⟨y,u,rfl,rfl⟩
   ·rw[Jz] at h;exact wpAny_eqBool_int h
   ·rw[Jy] at h;exact SeqAt.EqAt.int_str i t y u _ _ _ _ h
  ·rcases iK hv with⟨j,u,rfl,rfl⟩|⟨y,u,rfl,rfl⟩
   ·rw[Jx] at h;exact SeqAt.EqAt.str_int x t j u _ _ _ _ h
   ·rw[Jw] at h;exact wpAny_eqBool_str h
 «strs»:=fun k x t v h=>by
  rcases iK h with⟨i,u,rfl,e⟩|⟨y,u,rfl,e⟩
  ·exact nomatch e
  ·injection e with e1 _
   subst e1;cases v<;>rfl
theorem Bj(prog:gw)(w:gm)(i:Int)(t:Tok):(iT prog w).is (.inl i) (.int i t)=true:=Gd i t
theorem Bi(prog:gw)(w:gm)(x:Str)(t:Tok):(iT prog w).is (.inr x) (.str x t)=true:=Gb x t
inductive V where
 |non|bl(b:Bool)|int(i:Int)|str(x:Str)|byt(b:Array UInt8)|flt(b:UInt64)|ref(a:fV)|ty(n:String)
 deriving DecidableEq
def RelV:V->Value->Prop
 | .non,u=>u=Value.none
 | .bl b,u=>u=Value.bool b
 | .int i,u=> ∃t,u=Value.int i t
 | .str x,u=> ∃t,u=Value.str x t
 | .byt b,u=> ∃t,u=Value.bytes b t
 | .flt b,u=> ∃t,u=Value.float b t
 | .ref a,u=>u=Value.ref a
 | .ty n,u=>u=Value.type n
abbrev Vals:List V->List Value->Prop:=Paired RelV
theorem Vals.length{xs:List V}{us:hJ}(r:Vals xs us):xs.length=us.length:=tJ r
theorem Vals.get: ∀{xs:List V} {us:hJ} {i:Nat} {x:V},Vals xs us->xs[i]?=some x-> ∃u,us[i]?=some u/\RelV x u
 |_,_,_,_,.nil,e=>by simp at e
 |_,_,0,_,.cons r _,e=>by simp at e;subst e;exact⟨_,rfl,r⟩
 |_,_,i+1,x,.cons _ t,e=>by
  obtain⟨u,h1,h2⟩:=Vals.get (i:=i) (x:=x) t (by simpa using e);exact⟨u,by simpa using h1,h2⟩
theorem Vals.set{x:V}{u:gi}(r:RelV x u): ∀{xs:List V} {us:hJ} (i:Nat),Vals xs us->Vals (xs.set i x) (us.set i u)
 |_,_,_,.nil=> .nil
 |_,_,0,.cons _ t=> .cons r t
 |_,_,i+1,.cons q t=> .cons q (Vals.set r i t)
theorem Vals.append: ∀{xs ys:List V} {us ws:hJ},Vals xs us->Vals ys ws->Vals (xs++ys) (us++ws)
 |_,_,_,_,.nil,s=>s
 |_,_,_,_,.cons r t,s=> .cons r (Vals.append t s)
theorem Vals.take: ∀{xs:List V} {us:hJ} (n:Nat),Vals xs us->Vals (xs.take n) (us.take n)
 |_,_,0,_=> .nil
 |_,_,_+1,.nil=> .nil
 |_,_,n+1,.cons r t=> .cons r (Vals.take n t)
theorem Vals.drop: ∀{xs:List V} {us:hJ} (n:Nat),Vals xs us->Vals (xs.drop n) (us.drop n)
 |_,_,0,r=>r
 |_,_,_+1,.nil=> .nil
 |_,_,n+1,.cons _ t=>Vals.drop n t
def RelO:Option V->Option Value->Prop
 |some v,some u=>RelV v u
 |none,none=>True
 |_,_=>False
def KV{κ:Type}:List (κ×V)->List (κ×Value)->Prop:=Paired fun(p:κ×V) (q:κ×Value)=>p.1=q.1/\RelV p.2 q.2
noncomputable def kV:Key->V
 | .inl i=> .int i
 | .inr x=> .str x
inductive HO where
 /-- a list -/
 |lst(xs:List V)
 /-- a tuple(never changes) -/
 |tup(xs:List V)
 /-- a dict whose keys are ints and texts;one whose keys are tuples of ints and texts(the empty one is both) -/
 |dK(kvs:List (Key×V))|dT(kvs:List (List Key×V))
 /-- a set of ints:b6 members,b6 size -/
 |set (S:Int->Bool) (n:Nat)
 |stt (zs:List (Int×V))
 /-- an instance of the class at C,b6 dict at dx,b6 attributes -/
 |ins (C dx:fV) (fs:List (Str×V))
 /-- the dict of the instance at x -/
 |own (x:fV)
 /-- the dict of an exception -/
 |xd (fs:List (Str×V))
 /-- a bound method,f of x -/
 |met (f x:fV)
 /-- a range object lo,lo+1,.. below hi -/
 |rng (lo hi:Int)
 /-- a thing that is known to the object (the script;a dict while a loop walks it):read,never written while it is so -/
 |frz (o:Obj) (u:HO)
 /-- a code object's table -/
 |tbl (ps:jy)
 /-- any other thing,by what is true of b6 one object (a def of one's own:SetO a S n:=HO.ext fun h=> ..) -/
 |ext (φ:Heap->Prop)
abbrev Hp:=Addr->Option HO
noncomputable def upd(H:Hp)(a:fV)(o:HO):Hp:=fun b=>if b=a then some o else H b
theorem gy{H:Hp}{a:fV}{o:HO}:upd H a o a=some o:=by unfold upd;rw[gh rfl]
theorem gA{H:Hp}{a b:fV}{o:HO}(h:b≠a):upd H a o b=H b:=by unfold upd;rw[gk h]
theorem Ej{H:Hp}{a:fV}{o u:HO}:upd (upd H a o) a u=upd H a u:=by
 funext b;unfold upd;split<;>rfl
theorem Ji{H:Hp}{a b:fV}{o u:HO}(h:H a=some o)(h':H b=some u)(d:o≠u):a≠b:=by
 intro e;subst e;rw[h] at h';exact d (hV h')
theorem kf{H:Hp}{a b:fV}{o:HO}(h:H a=some o)(h':H b=none):a≠b:=by
 intro e;subst e;rw[h] at h';cases h'
section
variable(P:gw)(w:gm)
def ObjOk(H:Hp)(h:gz)(a:fV):HO->Prop
 | .lst xs=>xs.length<=sizeLine/\ ∃(b6:hJ) (n:Nat),Vals xs b6/\h.get? a=some {cls:= .type "list",data:= .seq b6.toArray n}
 | .tup xs=>xs.length<=sizeLine/\ ∃b6:List Value,Vals xs b6/\IsTup h a b6.toArray
 | .dK kvs=>kvs.length<=sizeLine/\(a==sysModules)=false/\ ∃vs,KV kvs vs/\h.DictOf (iT P w) a vs
 | .dT kvs=>kvs.length<=sizeLine/\(a==sysModules)=false/\ ∃xs:List (List Key×Addr×Value),
   Paired (fun(p:List Key×V) (q:List Key×Addr×Value)=>p.1=q.1/\H q.2.1=some (.tup (p.1.map kV))/\RelV p.2 q.2.2) kvs xs/\
   ∃o es ep,h.get? a=some o/\o.ExactDict/\o.data= .dict es ep/\es.toList=xs.map (entryOfKey (tupleKind (iT P w)))/\(xs.map (·.1)).Nodup
 | .set S n=>h.SetOf (intKind P w) a S n
 | .stt zs=> ∃(es:lq) (n:Nat) (t:jX),h.get? a=some {cls:= .type "set",data:= .set es n t}/\Paired (fun(z:Int×V) (e:Int×Value)=>z.1=e.1/\RelV z.2 e.2) zs es.toList/\
   TT.TabOk (zs.map (·.1)) t/\t.plain=true/\t.led=!w.params.followText "set-order"
 | .ins C dx fs=>H dx=some (.own a)/\fs.length<=1000/\dx≠a/\h.get? a=some (PySem.W.instObj C dx)/\
   ∃mA,h.Ns1 dx mA/\(∀f,RelO (fs.lookup f) (mA f))/\PySem.Within mA (fs.map (·.1))
 | .own _=> ∃o,h.get? a=some o
 | .xd fs=> ∃mA,h.Ns1 a mA/\ ∀f,RelO (fs.lookup f) (mA f)
 | .rng lo hi=> ∃t u v,h.get? a=some {cls:= .type "range",data:= .fields #[.int lo t,.int hi u,.int 1 v]}
 | .frz o u=>h.get? a=some o/\ObjOk H h a u
 | .tbl ps=> ∃q t qs,ps[0]?=some (.str q t)/\h.get? a=some {cls:= .none,data:= .fields qs}/\TriplesOk qs.toList/\ ∀pos cv,codeAmong pos qs.toList=some cv-> ∃c ob u vs t,cv= .ref c/\H c=some (.frz ob u)/\ob.data= .fields vs/\vs[1]?=some (.str q t)
 | .met f x=>h.get? a=some (PySem.W.methodObj (.ref f) (.ref x))
 | .ext φ=>φ h/\(∃o,h.get? a=some o)/\ ∀h1 h2:Heap,φ h1->(∀o,h1.get? a=some o->h2.get? a=some o)->φ h2
def HOk(H:Hp)(h:gz):Prop:= ∀a o,H a=some o->ObjOk P w H h a o
end
section
variable {P:gw}{w:gm}{H H':Hp}{h h':gz}{a:fV}{o:HO}
theorem ObjOk.lt(x:ObjOk P w H h a o):a<h.objs.size:=by
 cases o with
 |lst xs=>obtain⟨_,_,_,_,e⟩:=x;exact iM e
 |tup xs=>obtain⟨_,_,_,p⟩:=x;exact p.lt
 |dK kvs=>obtain⟨_,_,_,_,o,_,_,e,_⟩:=x;exact iM e
 |dT kvs=>obtain⟨_,_,_,_,o,_,_,e,_⟩:=x;exact iM e
 |set S n=>obtain⟨o,_,_,_,e,_⟩:=x;exact iM e
 |stt zs=>obtain⟨_,_,_,e,_⟩:=x;exact iM e
 |ins C dx fs=>obtain⟨_,_,_,e,_⟩:=x;exact iM e
 |own y=>obtain⟨_,e⟩:=x;exact iM e
 |xd fs=>obtain⟨_,⟨_,_,_,e,_⟩,_⟩:=x;exact iM e
 |rng lo hi=>obtain⟨_,_,_,e⟩:=x;exact iM e
 |frz ob u=>obtain⟨e,_⟩:=x;exact iM e
 |tbl ps=>obtain⟨_,_,_,_,e,_⟩:=x;exact iM e
 |met f y=>exact iM (show h.get? a=some _ from x)
 |ext φ=>obtain⟨_,⟨_,e⟩,_⟩:=x;exact iM e
theorem Paired.mapP{α β:Type}{F G:α->β->Prop}: ∀{l₁:List α} {l₂:List β},Paired F l₁ l₂->(∀a b,F a b->G a b)->Paired G l₁ l₂
 |_,_,.nil,_=> .nil
 |_,_,.cons r t,f=> .cons (f _ _ r) (Paired.mapP t f)
theorem ObjOk.stay(x:ObjOk P w H h a o)(k: ∀b u,(b=a\/H b=some (.own a))->h.get? b=some u->h'.get? b=some u)
  (ho: ∀b,H b=some (.own a)->H' b=some (.own a))(ht: ∀b xs,H b=some (.tup xs)->H' b=some (.tup xs))(hz: ∀b ob u,H b=some (.frz ob u)->H' b=some (.frz ob u):=by exact fun _ _ _ q=>q):ObjOk P w H' h' a o:=by
 induction o with
 |lst xs=>obtain⟨z,b6,n,r,e⟩:=x;exact⟨z,b6,n,r,k _ _ (.inl rfl) e⟩
 |tup xs=>obtain⟨z,b6,r,ob,e,c⟩:=x;exact⟨z,b6,r,ob,k _ _ (.inl rfl) e,c⟩
 |dK kvs=>obtain⟨z,y,vs,r,ob,es,ep,e,c⟩:=x;exact⟨z,y,vs,r,ob,es,ep,k _ _ (.inl rfl) e,c⟩
 |dT kvs=>
  obtain⟨z,y,xs,r,ob,es,ep,e,c⟩:=x;exact⟨z,y,xs,Paired.mapP r fun p q z=>⟨z.1,ht _ _ z.2.1,z.2.2⟩,ob,es,ep,k _ _ (.inl rfl) e,c⟩
 |set S n=>obtain⟨ob,es,ep,t,e,c⟩:=x;exact⟨ob,es,ep,t,k _ _ (.inl rfl) e,c⟩
 |stt zs=>obtain⟨es,n,t,e,c⟩:=x;exact⟨es,n,t,k _ _ (.inl rfl) e,c⟩
 |ins C dx fs=>
  obtain⟨d,z,ne,e,mA,⟨od,es,ep,e2,c⟩,r⟩:=x;exact⟨ho _ d,z,ne,k _ _ (.inl rfl) e,mA,⟨od,es,ep,k _ _ (.inr d) e2,c⟩,r⟩
 |own y=>obtain⟨ob,e⟩:=x;exact⟨ob,k _ _ (.inl rfl) e⟩
 |xd fs=>obtain⟨mA,⟨od,es,ep,e,c⟩,r⟩:=x;exact⟨mA,⟨od,es,ep,k _ _ (.inl rfl) e,c⟩,r⟩
 |rng lo hi=>obtain⟨t,u,v,e⟩:=x;exact⟨t,u,v,k _ _ (.inl rfl) e⟩
 |frz ob u ih=>obtain⟨e,q⟩:=x;exact⟨k _ _ (.inl rfl) e,ih q⟩
 |tbl ps=>obtain⟨q,t,qs,e0,e,tr,m⟩:=x;exact⟨q,t,qs,e0,k _ _ (.inl rfl) e,tr,fun pos cv z=>let⟨c,ob,u,vs,t,h1,h2,h3⟩:=m pos cv z;⟨c,ob,u,vs,t,h1,hz _ _ _ h2,h3⟩⟩
 |met f y=>
  have e:h.get? a=some (PySem.W.methodObj (.ref f) (.ref y)):=x;show h'.get? a=some (PySem.W.methodObj (.ref f) (.ref y));exact k a _ (.inl rfl) e
 |ext φ=>obtain⟨p,⟨o,e⟩,st⟩:=x;exact⟨st _ _ p fun o q=>k _ _ (.inl rfl) q,⟨o,k _ _ (.inl rfl) e⟩,st⟩
theorem HOk.lt(x:HOk P w H h)(e:H a=some o):a<h.objs.size:=(x a o e).lt
theorem HOk.fresh(x:HOk P w H h)(e:h.objs.size<=a):H a=none:=by
 cases q:H a with
 |none=>rfl
 |some u=>exact absurd (lA (x.lt q) e) (oz _)
theorem HOk.kept(x:HOk P w H h)(k: ∀b u,h.get? b=some u->h'.get? b=some u):HOk P w H h':=fun a o e=>
 (x a o e).stay (fun b u _ q=>k b u q) (fun _ q=>q) fun _ _ q=>q
theorem HOk.laid(x:HOk P w H h)(k: ∀b u,h.get? b=some u->h'.get? b=some u)(hp:h.objs.size<=a)(new:ObjOk P w (upd H a o) h' a o):HOk P w (upd H a o) h':=fun b u e=>by
 have hn:=x.fresh hp;by_cases hb:b=a
 ·subst hb;rw[gy] at e;cases e;exact new
 ·rw[gA hb] at e;exact(x b u e).stay (fun c v _ q=>k c v q) (fun c q=>by rw[gA (kf q hn)];exact q) (fun c xs q=>by rw[gA (kf q hn)];exact q) fun c _ _ q=>by rw[gA (kf q hn)];exact q
end
def Rd(H:Hp)(a:fV)(u:HO):Prop:=H a=some u\/ ∃o,H a=some (.frz o u)
theorem Rd.ok{P:gw}{w:gm}{H:Hp}{h:gz}{a:fV}{u:HO}(r:Rd H a u)(x:HOk P w H h):ObjOk P w H h a u:=by
 rcases r with r|⟨o,r⟩
 ·exact x a u r
 ·obtain⟨_,q⟩:=x a _ r;exact q
def Mut:Option HO->Prop
 |some (.lst _)=>True
 |some (.dK _)=>True
 |some (.dT _)=>True
 |some (.set _ _)=>True
 |some (.stt _)=>True
 |some (.ins _ _ _)=>True
 |some (.ext _)=>True
 |_=>False
section
variable {P:gw}{w:gm}{H:Hp}{h h':gz}{x e:fV}{o':HO}
theorem HOk.write(ok:HOk P w H h)(mu:Mut (H x))(he:e=x\/H e=some (.own x))(k: ∀b u,b≠e->h.get? b=some u->h'.get? b=some u)(cR: ∃u,h'.get? e=some u)
  (new:ObjOk P w (upd H x o') h' x o'):HOk P w (upd H x o') h':=fun b u q=>by
 have nown: ∀c y,H c=some (.own y)->c≠x:=fun c y r z=>by subst z;rw[r] at mu;exact mu
 have ntup: ∀c xs,H c=some (.tup xs)->c≠x:=fun c xs r z=>by subst z;rw[r] at mu;exact mu
 by_cases hb:b=x
 ·subst hb;rw[gy] at q;cases q;exact new
 ·rw[gA hb] at q;by_cases cw:b=e
  ·have q':H b=some (.own x):=by
    rcases he with z|z
    ·exact absurd (cw.trans z) hb
    ·rw[cw];exact z
   rw[q] at q';cases q';obtain⟨v,hv⟩:=cR;exact⟨v,by rw[cw];exact hv⟩
  ·refine(ok b u q).stay (fun c v hc r=>k c v ?_ r) (fun c r=>by rw[gA (nown c b r)];exact r) (fun c xs r=>by rw[gA (ntup c xs r)];exact r) fun c _ _ r=>by rw[gA (fun z=>by subst z;rw[r] at mu;exact mu)];exact r
   rcases hc with rfl|hc
   ·exact cw
   ·rintro rfl;rcases he with z|z
    ·exact nown c b hc z
    ·rw[hc] at z;cases z;exact hb rfl
end
structure Un(fs ex:iI)(H H':Hp)(h h':gz):Prop where
 keep: ∀b o,h.get? b=some o->H b=none->b∉fs->b∉ex->h'.get? b=some o
 slot: ∀b o,h.get? b=some o->H b=none->b∈fs->b∉ex-> ∃sl,h'.get? b=some {o with slots:=sl}
 free: ∀b o,h.get? b=some o->H b=none->b∉ex->H' b=none
 there: ∀b o,h.get? b=some o->b∉ex-> ∃o',h'.get? b=some o'
 tups: ∀b xs,H b=some (.tup xs)->H' b=some (.tup xs)
 frzs: ∀b o u,H b=some (.frz o u)->H' b=some (.frz o u)
 tbls: ∀b ps,H b=some (.tbl ps)-> ∃more,H' b=some (.tbl (ps++more))
section
variable {fs fs' ex ex':iI}{H H1 H2:Hp}{h h1 h2 h':gz}{a x e:fV}{o:HO}
theorem Un.any(u:Un fs ex H H1 h h1){b:fV}{ob:Obj}(q:h.get? b=some ob)(n:H b=none)(hx:b∉ex): ∃sl,h1.get? b=some {ob with slots:=sl}:=by
 by_cases hb:b∈fs
 ·exact u.slot b ob q n hb hx
 ·exact⟨ob.slots,u.keep b ob q n hb hx⟩
theorem Un.kept(k: ∀b u,h.get? b=some u->h'.get? b=some u):Un fs ex H H h h':=
 ⟨fun b ob q _ _ _=>k b ob q,fun b ob q _ _ _=>⟨ob.slots,k b ob q⟩,fun _ _ _ n _=>n,fun b ob q _=>⟨ob,k b ob q⟩,fun _ _ q=>q,fun _ _ _ q=>q,fun _ ps q=>⟨#[],by rw[q];simp⟩⟩
theorem Un.refl:Un fs ex H H h h:=Un.kept fun _ _ q=>q
theorem Un.laid(k: ∀b u,h.get? b=some u->h'.get? b=some u)(hp:h.objs.size<=a)(hn:H a=none):Un fs ex H (upd H a o) h h' where
 keep:=fun b u q _ _ _=>k b u q
 slot:=fun b u q _ _ _=>⟨u.slots,k b u q⟩
 free:=fun b u q n _=>by rw[gA (ie (lA (iM q) hp))];exact n
 there:=fun b u q _=>⟨u,k b u q⟩
 tups:=fun b xs q=>by rw[gA (kf q hn)];exact q
 frzs:=fun b u xs q=>by rw[gA (kf q hn)];exact q
 tbls:=fun b ps q=>⟨#[],by rw[gA (kf q hn),q];simp⟩
theorem Un.write(mu:Mut (H x))(he:e=x\/H e=some (.own x))(k: ∀b u,b≠e->h.get? b=some u->h'.get? b=some u)(cR: ∃u,h'.get? e=some u):Un fs ex H (upd H x o) h h':=by
 have hx: ∀b,H b=none->b≠x:=fun b n z=>by subst z;rw[n] at mu;exact mu
 have hb: ∀b,H b=none->b≠e:=fun b n z=>by
  subst z;rcases he with r|r
  ·exact hx b n r
  ·rw[n] at r;cases r
 have hm: ∀b u,H b=some u-> ¬Mut (some u)->b≠x:=fun b u q nm z=>by subst z;rw[q] at mu;exact nm mu
 refine⟨fun b u q n _ _=>k b u (hb b n) q,fun b u q n _ _=>⟨u.slots,k b u (hb b n) q⟩,fun b u q n _=>by rw[gA (hx b n)];exact n,fun b u q _=>?_,
  fun b xs q=>by rw[gA (hm b _ q fun z=>z)];exact q,fun b u xs q=>by rw[gA (hm b _ q fun z=>z)];exact q,fun b ps q=>⟨#[],by rw[gA (hm b _ q fun z=>z),q];simp⟩⟩
 by_cases cw:b=e
 ·subst cw;exact cR
 ·exact⟨u,k b u cw q⟩
end
noncomputable def trk(h:gz)(H:Hp):List Addr:=(List.range h.objs.size).filter fun a=>(H a).isSome
noncomputable def zN(h:gz)(H:Hp):Heap:=PySem.W.hideAll h (trk h H)
theorem Gk(h:gz)(H:Hp):(zN h H).objs.size=h.objs.size:=PySem.W.hideAll_size _ _
theorem JG{h:gz}{H:Hp}{b:fV}{o:Obj}(e:h.get? b=some o)(n:H b=none):(zN h H).get? b=some o:=
 PySem.W.hideAll_get _ e fun hm=>by
  have q:(H b).isSome=true:=(List.mem_filter.mp hm).2;rw[n] at q;simp at q
theorem LH{h:gz}{H:Hp}{b:fV}{o:Obj}(e:(zN h H).get? b=some o):h.get? b=some o/\H b=none:=by
 have e':h.get? b=some o:=PySem.W.of_hideAll (trk h H) e;refine⟨e',?_⟩
 cases q:H b with
 |none=>rfl
 |some x=>
  have hm:b∈trk h H:=List.mem_filter.mpr ⟨uv.mpr (iM e'),by simp[q]⟩;have z:(zN h H).get? b=none:=PySem.W.hideAll_none (trk h H) hm;rw[z] at e;cases e
noncomputable def L8(g h:gz)(L:fV):List (Addr×Obj):=(List.range h.objs.size).filterMap fun a=>if a=L\/(g.get? a).isSome=true then none else(h.get? a).map fun o=>(a,o)
noncomputable def gP(g h:gz)(L d:fV):List (Addr×Obj):=(L8 g h L).filter fun p=>decide (p.1≠d)
structure Mod(K:gu)(mg:ke)(base:gz):Prop where
 kin:K.In base
 glob:base.Ns mainGlobals mg
 blt: ∃mb,base.Ns builtinsNs mb/\ ∀x:Str,x≠"__name__"->mb x=bootBuiltins x
 nolimit:base.NoLimit
structure Cx where
 prog:Program
 w:World
 K:PySem.W.Frag
 mg:Str->Option Value
 base:Heap
 A:Around
 N:List Str
 s₀:Shared
 H₀:Hp
 env:Env
 outer:List Env
 stack:List Env
 ex:List Addr
 fn:Str->Bool
 calm:Bool
 pn:List (Addr×Obj)
 xe:Value->Shared->Prop
noncomputable def frs(l:List Env):List Addr:=l.filterMap (·.frame)
abbrev Cx.fs(X:Cx):List Addr:=frs X.outer
def Vis(sc:iC)(x:Str):Prop:=sc.names.lookup x=some .local\/sc.names.lookup x=some .cell\/sc.names.lookup x=some .free
def Loc(sc:iC)(x:Str):Prop:=sc.names.lookup x=some .local\/sc.names.lookup x=some .cell
def Si(env:Env)(h:gz)(m:ke)(x:Str)(u:gi):Prop:=
 (env.kindOf x=some .local/\m x=some u)\/((env.kindOf x=some .cell\/env.kindOf x=some .free)/\ ∃c,env.cells.lookup x=some c/\h.IsCell c (some u))
structure Cx.Ok(X:Cx):Prop where
 mod:Mod X.K X.mg X.base
 kind:X.env.scope.kind= .function
 glob:X.env.globals=mainGlobals
 blt:X.env.builtins=builtinsNs
 above:X.s₀.heap.objs.size<=X.env.locals
 inj: ∀x y c,X.env.cells.lookup x=some c->X.env.cells.lookup y=some c->x=y
 has: ∀x,(X.env.kindOf x=some .cell\/X.env.kindOf x=some .free)-> ∃c,X.env.cells.lookup x=some c
 cab: ∀x c,X.fn x=true->X.env.cells.lookup x=some c->X.s₀.heap.objs.size<=c
 hd:X.calm=true->X.A.handled=none
 frames:X.A.frames=some X.stack
 stk:X.stack=X.outer\/(X.stack=X.env::X.outer/\X.env.frame=some X.env.locals)
 exf: ∀b∈X.ex,b≠X.env.locals/\ ∀x c,X.env.cells.lookup x=some c->c≠b
 bs: ∀b o,X.base.get? b=some o->X.s₀.heap.get? b=some o/\X.H₀ b=none
 bsz:X.base.objs.size<=X.s₀.heap.objs.size
 noex: ∀b o,X.base.get? b=some o->b∉X.ex
 exfs: ∀b∈X.ex,b∉X.fs
 funs:X.s₀.heap.FunFrames X.base X.outer
 frf: ∀b∈X.fs,X.H₀ b=none
structure Inv(X:Cx)(pins:gG)(σ:List (Option V))(H:Hp)(s:gb):Prop where
 ok:X.Ok
 os:s.os=X.s₀.os
 bare:AllBare s.gens
 base:Un X.fs X.ex X.H₀ H X.s₀.heap s.heap
 loc: ∃m,s.heap.Ns X.env.locals m/\ ∀(i:Nat) (x:Str) (v:V),X.N[i]?=some x->σ[i]?=some (some v)->Vis X.env.scope x-> ∃u,RelV v u/\Si X.env s.heap m x u
 cell: ∀x c,X.env.cells.lookup x=some c-> ∃v,s.heap.IsCell c v
 free:H X.env.locals=none
 freeC: ∀x c,X.env.cells.lookup x=some c->H c=none
 pin: ∀p∈X.pn++pins,s.heap.get? p.1=some p.2/\H p.1=none/\p.1≠X.env.locals/\p.1∉X.fs/\ ∀v,p.2.data≠ .cell v
 hok:HOk X.prog X.w H s.heap
 len:σ.length=X.N.length
section
variable {X:Cx}{pins:gG}{σ:List (Option V)}{H H':Hp}{s:gb}{h':gz}
theorem Cx.Ok.nofr(ok:X.Ok){b:fV}{o:Obj}(e:X.base.get? b=some o):b∉X.fs:=fun hb=>by
 have:=(ok.funs.mem hb).1;rw[e] at this;cases this
theorem Inv.bs(I:Inv X pins σ H s): ∀b o,X.base.get? b=some o->s.heap.get? b=some o/\H b=none:=fun b o e=>
 ⟨I.base.keep b o (I.ok.bs b o e).1 (I.ok.bs b o e).2 (I.ok.nofr e) (I.ok.noex b o e),I.base.free b o (I.ok.bs b o e).1 (I.ok.bs b o e).2 (I.ok.noex b o e)⟩
theorem Inv.bk(I:Inv X pins σ H s): ∀b o,X.base.get? b=some o->s.heap.get? b=some o:=fun b o e=>(I.bs b o e).1
theorem Inv.mod(I:Inv X pins σ H s):Mod X.K X.mg X.base:=I.ok.mod
theorem Inv.kIn(I:Inv X pins σ H s):X.K.In s.heap:=I.ok.mod.kin.keeps I.bk
theorem Inv.lt(I:Inv X pins σ H s):X.env.locals<s.heap.objs.size:=let⟨_,hn,_⟩:=I.loc;hn.lt
theorem Inv.sz(I:Inv X pins σ H s):X.s₀.heap.objs.size<=s.heap.objs.size:=kx I.ok.above (tH I.lt)
theorem Inv.nofs(I:Inv X pins σ H s){a:fV}(h:s.heap.objs.size<=a):a∉X.fs:=fun hb=>by
 obtain⟨_,o,ho,_⟩:=I.ok.funs.mem hb;exact absurd (lA (iM ho) (kx I.sz h)) (oz _)
theorem Inv.cne(I:Inv X pins σ H s): ∀x c,X.env.cells.lookup x=some c->c≠X.env.locals:=fun x c e z=>by
 obtain⟨v,o,ho,hd⟩:=I.cell x c e;obtain⟨m,⟨o',es,ep,aw,aE,_⟩,_⟩:=I.loc;rw[z,aw] at ho;cases ho;rw[aE] at hd;cases hd
theorem Inv.funs(I:Inv X pins σ H s):s.heap.FunFrames X.base X.outer:=by
 have all: ∀(l:List Env),(∀b∈frs l,b∈X.fs)->X.s₀.heap.FunFrames X.base l->s.heap.FunFrames X.base l:=by
  intro l
  induction l with
  |nil=>intro _ _;trivial
  |cons env r ih=>
   intro hs hl;obtain⟨hk,⟨L,o,hf,hn,ho,hd⟩,hr⟩:=hl;have hL:L∈X.fs:=hs L (by unfold frs;rw[rB,hf];exact ic);obtain⟨sl,e⟩:=I.base.slot L o ho (I.ok.frf L hL) hL fun z=>I.ok.exfs L z hL;exact⟨hk,⟨L,_,hf,hn,e,hd⟩,ih (fun b hb=>hs b (by unfold frs;rw[rB,hf];exact hU _ hb)) hr⟩
 exact all X.outer (fun _ hb=>hb) I.ok.funs
theorem Inv.stack(I:Inv X pins σ H s):s.heap.FunFrames X.base X.stack:=by
 rcases I.ok.stk with e|⟨e,hf⟩
 ·rw[e];exact I.funs
 ·rw[e];obtain⟨m,hn,_⟩:=I.loc;refine .cons (by rw[I.ok.kind];decide) hf hn ?_ I.funs;exact Heap.get?_none_of_le (kx I.ok.bsz I.ok.above)
theorem Inv.stkSub(I:Inv X pins σ H s): ∀b∈frs X.stack,b∈X.env.locals::X.fs:=fun b hb=>by
 rcases I.ok.stk with e|⟨e,hf⟩
 ·rw[e] at hb;exact hU _ hb
 ·rw[e] at hb;unfold frs at hb;rw[rB,hf] at hb;exact hb
theorem Inv.stkFree(I:Inv X pins σ H s): ∀b∈frs X.stack,H b=none:=fun b hb=>by
 rcases jt.mp (I.stkSub b hb) with e|hb
 ·rw[e];exact I.free
 ·obtain⟨_,o,ho,_⟩:=I.ok.funs.mem hb;exact I.base.free b o ho (I.ok.frf b hb) fun z=>I.ok.exfs b z hb
theorem Inv.step{g':Array GenState}{t':Nat}{d':Drawn}{ch:iI}(I:Inv X pins σ H s)
  (aR: ∀b∈ch,(b∈X.ex\/X.s₀.heap.objs.size<=b)/\b≠X.env.locals/\(∀x c,X.env.cells.lookup x=some c->c≠b)/\ ∀p∈X.pn++pins,p.1≠b)
  (keep: ∀b o,b≠X.env.locals->b∉X.fs->b∉ch->s.heap.get? b=some o->H b=none->h'.get? b=some o)
  (slot: ∀b o,b≠X.env.locals->b∈X.fs->b∉ch->s.heap.get? b=some o->H b=none-> ∃sl,h'.get? b=some {o with slots:=sl})(free: ∀b o,b∉ch->s.heap.get? b=some o->H b=none->H' b=none)
  (there: ∀b o,b∉ch->s.heap.get? b=some o-> ∃o',h'.get? b=some o')
  (tups: ∀b xs,H b=some (.tup xs)->H' b=some (.tup xs))(frzs: ∀b o u,H b=some (.frz o u)->H' b=some (.frz o u))(tbls: ∀b ps,H b=some (.tbl ps)-> ∃more,H' b=some (.tbl (ps++more)))
  (ns: ∀m,s.heap.Ns X.env.locals m->h'.Ns X.env.locals m)(hok:HOk X.prog X.w H' h')(hg:AllBare g'):
  Inv X pins σ H' {s with heap:=h',gens:=g',drawn:=d',toks:=t'}:=by
 have neL: ∀b o,X.s₀.heap.get? b=some o->b≠X.env.locals:=fun b o e=>ie (lA (iM e) I.ok.above)
 have dR: ∀b o,X.s₀.heap.get? b=some o->b∉X.ex->b∉ch:=fun b o e hx hb=>by
  rcases(aR b hb).1 with z|z
  ·exact hx z
  ·exact absurd (lA (iM e) z) (oz _)
 have cellK: ∀x c,X.env.cells.lookup x=some c-> ∀v,s.heap.IsCell c v->h'.IsCell c v:=fun x c e v ⟨o,ho,hd⟩=>by
  have au:c∉ch:=fun z=>(aR c z).2.2.1 x c e rfl;by_cases hc:c∈X.fs
  ·obtain⟨sl,q⟩:=slot c o (I.cne x c e) hc au ho (I.freeC x c e);exact⟨_,q,hd⟩
  ·exact⟨o,keep c o (I.cne x c e) hc au ho (I.freeC x c e),hd⟩
 refine⟨I.ok,I.os,hg,⟨fun b o e n hb hx=>?_,fun b o e n hb hx=>?_,fun b o e n hx=>?_,fun b o e hx=>?_,fun b xs e=>tups b xs (I.base.tups b xs e),fun b o xs e=>frzs b o xs (I.base.frzs b o xs e),fun b ps e=>?_⟩,?_,fun x c e=>?_,?_,fun x c e=>?_,fun p hp=>?_,hok,I.len⟩
 ·exact keep b o (neL b o e) hb (dR b o e hx) (I.base.keep b o e n hb hx) (I.base.free b o e n hx)
 ·obtain⟨sl,e1⟩:=I.base.slot b o e n hb hx;obtain⟨sl',e2⟩:=slot b _ (neL b o e) hb (dR b o e hx) e1 (I.base.free b o e n hx);exact⟨sl',e2⟩
 ·obtain⟨o',e1⟩:=I.base.there b o e hx;exact free b o' (dR b o e hx) e1 (I.base.free b o e n hx)
 ·obtain⟨o',e1⟩:=I.base.there b o e hx;exact there b o' (dR b o e hx) e1
 ·obtain⟨m1,e1⟩:=I.base.tbls b ps e;obtain⟨m2,e2⟩:=tbls b _ e1;exact⟨m1++m2,by rw[e2,Array.append_assoc]⟩
 ·obtain⟨m,hn,hl⟩:=I.loc;refine⟨m,ns m hn,fun i x v e1 e2 e3=>?_⟩;obtain⟨u,r,l⟩:=hl i x v e1 e2 e3;refine⟨u,r,?_⟩;rcases l with l|⟨k,c,e,z⟩
  ·exact .inl l
  ·exact .inr ⟨k,c,e,cellK x c e _ z⟩
 ·obtain⟨v,z⟩:=I.cell x c e;exact⟨v,cellK x c e v z⟩
 ·obtain⟨m,⟨o,_,_,ho,_⟩,_⟩:=I.loc;exact free _ o (fun z=>(aR _ z).2.1 rfl) ho I.free
 ·obtain⟨v,o,ho,hd⟩:=I.cell x c e;exact free c o (fun z=>(aR c z).2.2.1 x c e rfl) ho (I.freeC x c e)
 ·obtain⟨e,n,ne,nf,d⟩:=I.pin p hp;have au:p.1∉ch:=fun z=>(aR p.1 z).2.2.2 p hp rfl;exact⟨keep p.1 p.2 ne nf au e n,free p.1 p.2 au e n,ne,nf,d⟩
theorem Inv.un{t':Nat}(I:Inv X pins σ H s)(u:Un X.fs [] H H' s.heap h')(hok:HOk X.prog X.w H' h'):Inv X pins σ H' {s with heap:=h',toks:=t'}:=by
 obtain⟨m,⟨o,es,ep,ho,r⟩,_⟩:=id I.loc;obtain⟨sl,hL⟩:=u.any ho I.free (by simp)
 exact I.step (g':=s.gens) (d':=s.drawn) (ch:=[]) (fun _ z=>nomatch z) (fun b o _ hb _ e n=>u.keep b o e n hb (by simp)) (fun b o _ hb _ e n=>u.slot b o e n hb (by simp)) (fun b o _ e n=>u.free b o e n (by simp)) (fun b o _ e=>u.there b o e (by simp)) u.tups u.frzs u.tbls (fun m' hm=>by
  obtain⟨o',es',fN,aw,r'⟩:=hm;rw[ho] at aw;cases aw;exact⟨_,es',fN,hL,r'⟩) hok I.bare
theorem Inv.call{g':Array GenState}{t':Nat}{d':Drawn}{ch:iI}(I:Inv X pins σ H s)(u:Un (frs X.stack) ch H H' s.heap h')(hok:HOk X.prog X.w H' h')(hg:AllBare g')
  (aR: ∀b∈ch,(b∈X.ex\/X.s₀.heap.objs.size<=b)/\b≠X.env.locals/\(∀x c,X.env.cells.lookup x=some c->c≠b)/\ ∀p∈X.pn++pins,p.1≠b):
  Inv X pins σ H' {s with heap:=h',gens:=g',drawn:=d',toks:=t'}:=by
 obtain⟨m,⟨o,es,ep,ho,r⟩,_⟩:=id I.loc;obtain⟨sl,hL⟩:=u.any ho I.free fun z=>(aR _ z).2.1 rfl
 exact I.step (ch:=ch) aR (fun b o hL hb hc e n=>u.keep b o e n (fun z=>(jt.mp (I.stkSub b z)).elim hL hb) hc) (fun b o _ _ hc e n=>u.any e n hc) (fun b o hc e n=>u.free b o e n hc) (fun b o hc e=>u.there b o e hc) u.tups u.frzs u.tbls (fun m' hm=>by
  obtain⟨o',es',fN,aw,r'⟩:=hm;rw[ho] at aw;cases aw;exact⟨_,es',fN,hL,r'⟩) hok hg
theorem Inv.turned{t':Nat}{it:fV}(I:Inv X pins σ H s)(k: ∀b o,b≠it->s.heap.get? b=some o->h'.get? b=some o)(hn:H it=none)(hL:it≠X.env.locals)
  (h1:it∈X.ex\/X.s₀.heap.objs.size<=it)(h2: ∀x c,X.env.cells.lookup x=some c->c≠it)(h3: ∀p∈X.pn++pins,p.1≠it):Inv X pins σ H {s with heap:=h',toks:=t'}:=by
 have nit: ∀b u,H b=some u->b≠it:=fun b u e z=>by rw[z,hn] at e;cases e
 refine I.step (g':=s.gens) (d':=s.drawn) (ch:=[it]) (fun b hb=>?_) (fun b o _ _ hc e _=>k b o (fun z=>hc (by simp[z])) e) (fun b o _ _ hc e _=>⟨o.slots,k b o (fun z=>hc (by simp[z])) e⟩) (fun _ _ _ _ n=>n)
  (fun b o hc e=>⟨o,k b o (fun z=>hc (by simp[z])) e⟩) (fun _ _ e=>e) (fun _ _ _ e=>e) (fun b ps e=>⟨#[],by rw[e];simp⟩) (fun m hm=>?_) (fun b u e=>?_) I.bare
 ·have e:b=it:=by simpa using hb
  subst e;exact⟨h1,hL,h2,h3⟩
 ·obtain⟨o,es,ep,ho,r⟩:=hm;exact⟨o,es,ep,k _ o (mM hL) ho,r⟩
 ·refine(I.hok b u e).stay (fun c v hc q=>k c v ?_ q) (fun _ q=>q) fun _ _ q=>q;rcases hc with z|z
  ·rw[z];exact nit b u e
  ·exact nit c _ z
theorem Inv.tok(I:Inv X pins σ H s)(t:Nat):Inv X pins σ H {s with toks:=t}:=I.un (h':=s.heap) (t':=t) Un.refl I.hok
theorem Inv.kept{t':Nat}(I:Inv X pins σ H s)(k: ∀b u,s.heap.get? b=some u->h'.get? b=some u):Inv X pins σ H {s with heap:=h',toks:=t'}:=I.un (Un.kept k) (I.hok.kept k)
theorem Inv.laid{a:fV}{o:HO}{t':Nat}(I:Inv X pins σ H s)(k: ∀b u,s.heap.get? b=some u->h'.get? b=some u)(hp:s.heap.objs.size<=a)(new:ObjOk X.prog X.w (upd H a o) h' a o):
  Inv X pins σ (upd H a o) {s with heap:=h',toks:=t'}:=I.un (Un.laid k hp (I.hok.fresh hp)) (I.hok.laid k hp new)
theorem Inv.write{x e:fV}{o:HO}{t':Nat}(I:Inv X pins σ H s)(mu:Mut (H x))(he:e=x\/H e=some (.own x))(k: ∀b u,b≠e->s.heap.get? b=some u->h'.get? b=some u)(cR: ∃u,h'.get? e=some u)
  (new:ObjOk X.prog X.w (upd H x o) h' x o):Inv X pins σ (upd H x o) {s with heap:=h',toks:=t'}:=I.un (Un.write mu he k cR) (I.hok.write mu he k cR new)
theorem Inv.pins_of{pins':gG}(I:Inv X pins σ H s)(h: ∀p∈pins',s.heap.get? p.1=some p.2/\H p.1=none/\p.1≠X.env.locals/\p.1∉X.fs/\ ∀v,p.2.data≠ .cell v):Inv X pins' σ H s:=
 ⟨I.ok,I.os,I.bare,I.base,I.loc,I.cell,I.free,I.freeC,fun p hp=>(nS.mp hp).elim (fun z=>I.pin p (vp _ z)) (h p),I.hok,I.len⟩
theorem Bh{N:gJ}(hN:N.Nodup){i j:Nat}{x:Str}(a:N[i]?=some x)(b:N[j]?=some x):i=j:=by
 obtain⟨h1,e1⟩:=qR.mp a;obtain⟨h2,e2⟩:=qR.mp b;exact(List.getElem_inj hN).mp (e1.trans e2.symm)
theorem FA{M:Model}{A:gv}{E:gD}{i:Nat}{x:Str}{v:V}{u:gi}{Q:Unit->Shared->Prop}(I:Inv X pins σ H s)(hN:X.N.Nodup)(hi:X.N[i]?=some x)(hx:Loc X.env.scope x)(r:RelV v u)
  (h: ∀s',Inv X pins (σ.set i (some v)) H s'->(∃a,Heap.SameBut a s.heap s'.heap/\(a=X.env.locals\/X.env.cells.lookup x=some a))->Q () s')(hf:X.fn x=true\/X.env.scope.names.lookup x=some .local:=by first|exact .inl rfl|exact .inr rfl|assumption):wpAny M A (storeName X.env x u) Q E s:=by
 obtain⟨m,hn,hl⟩:=id I.loc;have hcls:(X.env.scope.kind== .class||(X.env.scope.kind== .module&&X.env.locals !=X.env.globals))=false:=by rw[I.ok.kind];rfl
 have hiσ:i<σ.length:=by rw[I.len];exact(qR.mp hi).1
 have cne:=I.cne
 have tracked: ∀{a:fV} {h':gz},(∃o,s.heap.get? a=some o/\H a=none)->Heap.SameBut a s.heap h'->HOk X.prog X.w H h':=fun {a h'} ha hs b ob e=>by
  obtain⟨_,_,k8⟩:=ha;refine(I.hok b ob e).stay (fun c w' hc q=>(hs.2 c ?_).trans q) (fun _ q=>q) fun _ _ q=>q;rintro rfl;rcases hc with rfl|hc
  ·rw[k8] at e;cases e
  ·rw[k8] at hc;cases hc
 rcases hx with hk|hk
 ·refine wpAny_storeName_local hk hn (fun h' bG hs=>?_) hcls;obtain⟨oL,_,_,hoL,_⟩:=id hn;refine h _ ⟨I.ok,I.os,I.bare,⟨fun b o e n hb hx=>?_,fun b o e n hb hx=>?_,I.base.free,fun b o e hx=>?_,I.base.tups,I.base.frzs,I.base.tbls⟩,⟨_,bG,fun j y v' e1 e2 e3=>?_⟩,fun y c e=>?_,I.free,I.freeC,fun p hp=>?_,tracked ⟨oL,hoL,I.free⟩ hs,by simpa using I.len⟩ ⟨_,hs,.inl rfl⟩
  ·exact(hs.2 b (ie (lA (iM e) I.ok.above))).trans (I.base.keep b o e n hb hx)
  ·obtain⟨sl,e1⟩:=I.base.slot b o e n hb hx;exact⟨sl,(hs.2 b (ie (lA (iM e) I.ok.above))).trans e1⟩
  ·obtain⟨o',e1⟩:=I.base.there b o e hx;exact⟨o',(hs.2 b (ie (lA (iM e) I.ok.above))).trans e1⟩
  ·by_cases hj:j=i
   ·subst hj;rw[hi] at e1;cases e1;rw[oy hiσ] at e2;cases e2;exact⟨u,r,.inl ⟨hk,by simp⟩⟩
   ·rw[qg (mM hj)] at e2;obtain⟨u',r',q⟩:=hl j y v' e1 e2 e3;refine⟨u',r',?_⟩;rcases q with⟨k,e⟩|⟨k,c,e,z⟩
    ·refine .inl ⟨k,?_⟩;have:y≠x:=fun e=>hj (Bh hN e1 (e▸hi));simp[this,e]
    ·exact .inr ⟨k,c,e,z.sameBut hs (cne y c e)⟩
  ·obtain⟨w',z⟩:=I.cell y c e;exact⟨w',z.sameBut hs (cne y c e)⟩
  ·obtain⟨e,n,ne,nf,d⟩:=I.pin p hp;exact⟨(hs.2 p.1 ne).trans e,n,ne,nf,d⟩
 ·have fw:X.fn x=true:=by
   rcases hf with z|z
   ·exact z
   ·rw[z] at hk;cases hk
  obtain⟨c,hc⟩:=I.ok.has x (.inl hk);obtain⟨w',z⟩:=I.cell x c hc;refine wpAny_storeName_cell I.ok.kind hk hc z (fun h' dB hs=>?_);obtain⟨oc,hoc,hocd⟩:=id z;refine h {s with heap:=h'} ⟨I.ok,I.os,I.bare,⟨fun b o e n hb hx=>?_,fun b o e n hb hx=>?_,I.base.free,fun b o e hx=>?_,I.base.tups,I.base.frzs,I.base.tbls⟩,⟨m,hn.sameBut hs (mM (cne x c hc)),fun j y v' e1 e2 e3=>?_⟩,fun y c' e=>?_,I.free,I.freeC,fun p hp=>?_,tracked ⟨oc,hoc,I.freeC x c hc⟩ hs,by simpa using I.len⟩ ⟨c,hs,.inr hc⟩
  ·exact(hs.2 b (ie (lA (iM e) (I.ok.cab x c fw hc)))).trans (I.base.keep b o e n hb hx)
  ·obtain⟨sl,e1⟩:=I.base.slot b o e n hb hx;exact⟨sl,(hs.2 b (ie (lA (iM e) (I.ok.cab x c fw hc)))).trans e1⟩
  ·obtain⟨o',e1⟩:=I.base.there b o e hx;exact⟨o',(hs.2 b (ie (lA (iM e) (I.ok.cab x c fw hc)))).trans e1⟩
  ·by_cases hj:j=i
   ·subst hj;rw[hi] at e1;cases e1;rw[oy hiσ] at e2;cases e2;exact⟨u,r,.inr ⟨.inl hk,c,hc,dB⟩⟩
   ·rw[qg (mM hj)] at e2;obtain⟨u',r',q⟩:=hl j y v' e1 e2 e3;refine⟨u',r',?_⟩;rcases q with q|⟨k,c',e,z'⟩
    ·exact .inl q
    ·refine .inr ⟨k,c',e,z'.sameBut hs ?_⟩;rintro rfl;exact hj (Bh hN e1 (I.ok.inj _ _ _ e hc▸hi))
  ·by_cases hcc:c'=c
   ·subst hcc;exact⟨_,dB⟩
   ·obtain⟨w2,z2⟩:=I.cell y c' e;exact⟨w2,z2.sameBut hs hcc⟩
  ·obtain⟨e,n,ne,nf,d⟩:=I.pin p hp;refine⟨(hs.2 p.1 ?_).trans e,n,ne,nf,d⟩;intro q;rw[q,hoc] at e;have q':oc=p.2:=hV e;exact d w' (by rw[<-q'];exact hocd)
theorem AH{M:Model}{A:gv}{E:gD}{i:Nat}{x:Str}{v:V}{u:gi}{Q:Unit->Shared->Prop}(I:Inv X pins σ H s)(hN:X.N.Nodup)(hi:X.N[i]?=some x)(hx:Loc X.env.scope x)(r:RelV v u)
  (h: ∀s',Inv X pins (σ.set i (some v)) H s'->Q () s')(hf:X.fn x=true\/X.env.scope.names.lookup x=some .local:=by first|exact .inl rfl|exact .inr rfl|assumption):wpAny M A (storeName X.env x u) Q E s:=
 FA I hN hi hx r (fun s' I' _=>h s' I') hf
theorem Inv.call'{s':gb}{ch:iI}(I:Inv X pins σ H s)(ho:s'.os=s.os)(u:Un (frs X.stack) ch H H' s.heap s'.heap)(hok:HOk X.prog X.w H' s'.heap)(hg:AllBare s'.gens)
  (aR: ∀b∈ch,(b∈X.ex\/X.s₀.heap.objs.size<=b)/\b≠X.env.locals/\(∀x c,X.env.cells.lookup x=some c->c≠b)/\ ∀p∈X.pn++pins,p.1≠b):Inv X pins σ H' s':=by
 obtain⟨h',g',d',t',o'⟩:=s';have e:o'=s.os:=ho;subst e;exact I.call (g':=g') (t':=t') (d':=d') u hok hg aR
end
abbrev XK:=Value->Option Addr->Hp->Prop
abbrev St:=List (Option V)
abbrev VK:=V->Hp->Prop
abbrev TE:=St->Hp->VK->Prop
abbrev TT:=St->Hp->(Bool->Hp->Prop)->Prop
abbrev TA:=St->Hp->(List V->Hp->Prop)->Prop
structure Ends where
 nx:St->Hp->Prop
 rt:VK
 bk:St->Hp->Prop:=fun _ _=>False
 ct:St->Hp->Prop:=fun _ _=>False
abbrev TS:=Ends->St->Hp->Prop
def EP(X:Cx)(pins:gG)(σ:St)(Q:VK)(u:gi)(s':gb):Prop:= ∃v H',Inv X pins σ H' s'/\RelV v u/\Q v H'
def TP(X:Cx)(pins:gG)(σ:St)(Q:Bool->Hp->Prop)(b:Bool)(s':gb):Prop:= ∃H',Inv X pins σ H' s'/\Q b H'
def AP(X:Cx)(pins:gG)(σ:St)(Q:List V->Hp->Prop)(us:hJ)(s':gb):Prop:= ∃vs H',Inv X pins σ H' s'/\Vals vs us/\Q vs H'
def SP(X:Cx)(pins:gG)(D:Ends)(f:Flow)(s':gb):Prop:=
 match f with
 | .next=> ∃σ' H',Inv X pins σ' H' s'/\D.nx σ' H'
 | .brk=> ∃σ' H',Inv X pins σ' H' s'/\D.bk σ' H'
 | .cont=> ∃σ' H',Inv X pins σ' H' s'/\D.ct σ' H'
 | .ret u=> ∃v σ' H',Inv X pins σ' H' s'/\RelV v u/\D.rt v H'
def PE(X:Cx)(e:gf)(t:TE):Prop:=
 ∀(pins:gG) (s:gb) (σ:St) (H:Hp) (Q:VK),Inv X pins σ H s->t σ H Q->wpAny (model X.prog X.w) X.A (eval e X.env) (EP X pins σ Q) X.xe s
def PT(X:Cx)(e:gf)(t:TT):Prop:=
 ∀(pins:gG) (s:gb) (σ:St) (H:Hp) (Q:Bool->Hp->Prop),Inv X pins σ H s->t σ H Q->wpAny (model X.prog X.w) X.A (isTrue e X.env (eval e X.env)) (TP X pins σ Q) X.xe s
def PW(X:Cx)(e:gf)(t:TT):Prop:=
 ∀(whole:Sem Value) (pins:gG) (s:gb) (σ:St) (H:Hp) (Q:Bool->Hp->Prop),Inv X pins σ H s->t σ H Q->wpAny (model X.prog X.w) X.A (isTrue e X.env whole) (TP X pins σ Q) X.xe s
theorem PW.pt{X:Cx}{e:gf}{t:TT}(h:PW X e t):PT X e t:=h _
def PA(X:Cx)(es:iF)(t:TA):Prop:=
 ∀(pos:Pos) (pins:gG) (s:gb) (σ:St) (H:Hp) (Q:List V->Hp->Prop),Inv X pins σ H s->t σ H Q->wpAny (model X.prog X.w) X.A (spliced (backTo pos (starEach es X.env))) (AP X pins σ Q) X.xe s
def PS(X:Cx)(st:Stmt)(t:TS):Prop:=
 ∀(pins:gG) (s:gb) (σ:St) (H:Hp) (D:Ends),Inv X pins σ H s->t D σ H->wpAny (model X.prog X.w) X.A (exec st X.env) (SP X pins D) X.xe s
def PSs(X:Cx)(st:List Stmt)(t:TS):Prop:=
 ∀(pins:gG) (s:gb) (σ:St) (H:Hp) (D:Ends),Inv X pins σ H s->t D σ H->wpAny (model X.prog X.w) X.A (execs st X.env) (SP X pins D) X.xe s
theorem thn{α:Type}{t:Sem α}{Q Q':α->Shared->Prop}{M:Model}{A:gv}{E:gD}{s:gb}(h:wpAny M A t Q E s)(hQ: ∀a s,Q a s->Q' a s):wpAny M A t Q' E s:=ox h hQ fun _ _ x=>x
section
variable {X:Cx}
def QM(i:Nat):TE:=fun σ H Q=> ∃v,σ[i]?=some (some v)/\Q v H
noncomputable def tC(v:V):TE:=fun _ H Q=>Q v H
theorem Dh{i:Nat}{x:Str}{pos:Pos}(hN:X.N[i]?=some x)(hv:Vis X.env.scope x)(hd:(x==("__debug__":Str))=false:=by decide)(u7:(x==("__classdict__":Str))=false:=by decide):PE X (.Name x pos) (QM i):=by
 intro pins s σ H Q I h;obtain⟨v,e,h⟩:=h;obtain⟨m,hn,hl⟩:=I.loc;obtain⟨u,r,l⟩:=hl i x v hN e hv;have fin:EP X pins σ Q u s:=⟨v,H,I,r,h⟩
 rcases l with⟨hk,hm⟩|⟨hk,c,hc,n5⟩
 ·exact wpAny_Name (wpAny_loadName_local I.ok.kind hk hn hm fin) hd
 ·rcases hk with hk|hk
  ·exact wpAny_Name (wpAny_loadName_cell I.ok.kind hk hc n5 fin) hd
  ·exact wpAny_Name (wpAny_loadName_free I.ok.kind hk hc n5 fin u7) hd
theorem NO{i j pos}:PE X (.Constant (.int i) j pos) (tC (.int i)):=fun _ _ _ H _ I h=>wpAny_Constant_int ⟨.int i,H,I.tok _,⟨_,rfl⟩,h⟩
theorem PF{b j pos}:PE X (.Constant (.bool b) j pos) (tC (.bl b)):=fun _ _ _ H _ I h=>Constant_bool ⟨.bl b,H,I,rfl,h⟩
theorem NM{j pos}:PE X (.Constant .none j pos) (tC .non):=fun _ _ _ H _ I h=>Constant_none ⟨.non,H,I,rfl,h⟩
theorem NJ{x j pos}:PE X (.Constant (.str x) j pos) (tC (.str x)):=fun _ _ _ H _ I h=>Calls.Constant_str ⟨.str x,H,I.tok _,⟨_,rfl⟩,h⟩
def Gl(X:Cx)(x:Str):Prop:=X.env.kindOf x=some .globalImplicit
theorem EU{E:gD}{pins:gG}{s:gb}{σ:St}{H:Hp}{x:Str}{u:gi}{pos:Pos}{Q:gD}(I:Inv X pins σ H s)(hg:Gl X x)(hm:X.mg x=some u)(h:Q u s)
  (hd:(x==("__debug__":Str))=false:=by decide):wpAny (model X.prog X.w) X.A (eval (.Name x pos) X.env) Q E s:=
 Hq I.ok.kind hg (Calls.loadGlobal_global (by rw[I.ok.glob];exact I.mod.glob.keeps I.bk) hm h) hd
theorem tP{E:gD}{pins:gG}{s:gb}{σ:St}{H:Hp}{x:Str}{u:gi}{pos:Pos}{Q:gD}(I:Inv X pins σ H s)(hg:Gl X x)(hm:X.mg x=none)(hv:bootBuiltins x=some u)(h:Q u s)
  (hn:x≠"__name__":=by decide)(hd:(x==("__debug__":Str))=false:=by decide):wpAny (model X.prog X.w) X.A (eval (.Name x pos) X.env) Q E s:=by
 obtain⟨mb,h1,h2⟩:=I.mod.blt;exact Hq I.ok.kind hg (Calls.loadGlobal_builtin (by rw[I.ok.glob];exact I.mod.glob.keeps I.bk) hm (by rw[I.ok.blt];exact h1.keeps I.bk) ((h2 x hn).trans hv) h) hd
theorem EC{x:Str}{v:V}{u:gi}{pos:Pos}(hg:Gl X x)(hm:X.mg x=some u)(r:RelV v u)(hd:(x==("__debug__":Str))=false:=by decide):PE X (.Name x pos) (tC v):=
 fun _ _ _ H _ I h=>EU I hg hm ⟨v,H,I,r,h⟩ hd
theorem zB{x:Str}{v:V}{u:gi}{pos:Pos}(hg:Gl X x)(hm:X.mg x=none)(hv:bootBuiltins x=some u)(r:RelV v u)(hn:x≠"__name__":=by decide)(hd:(x==("__debug__":Str))=false:=by decide):PE X (.Name x pos) (tC v):=
 fun _ _ _ H _ I h=>tP I hg hm hv ⟨v,H,I,r,h⟩ hn hd
def t2I(ta tb:TE)(k:Int->Int->Hp->Prop):St->Hp->Prop:=fun σ H=>ta σ H fun x H1=>tb σ H1 fun y H2=> ∃i j,x= .int i/\y= .int j/\k i j H2
variable {a b:gf}{ta tb:TE}{pos:Pos}
noncomputable def tCmp(p:Int->Int->Bool)(ta tb:TE):TE:=fun σ H Q=>t2I ta tb (fun i j H2=>Q (.bl (p i j)) H2) σ H
def tB(t:TE):TT:=fun σ H Q=>t σ H fun x H1=> ∃c,x= .bl c/\Q c H1
theorem Ny{e:gf}{t:TE}(h:PE X e t)(he: ∀whole,isTrue e X.env whole=(do let v <-whole;standAt e.pos;holding [v] (truthy v)):=by intro _;rfl):PT X e (tB t):=by
 intro pins s σ H Q I hw;refine isTrue_plain (thn (h pins s σ H _ I hw) fun v s1 ⟨x,H1,I1,r1,q1⟩=>?_) (he _);obtain⟨d,rfl,q⟩:=q1;cases r1;exact oK ⟨H1,I1,q⟩
variable {tA dN:TT}{gP:iF}
noncomputable def Q4(t u:TT):TT:=fun σ H Q=>t σ H fun c H1=>if c=true then u σ H1 Q else Q false H1
noncomputable def tOr(t u:TT):TT:=fun σ H Q=>t σ H fun c H1=>if c=true then Q true H1 else u σ H1 Q
noncomputable def tNot(t:TT):TT:=fun σ H Q=>t σ H fun c H1=>Q (!c) H1
theorem Lc(ha:PT X a tA):PW X (.BoolOp .And [a] pos) tA:=by
 intro wh pins s σ H Q I h;refine isTrue_and (thn (ha pins s σ H Q I h) fun c s1 e=>?_)
 cases c with
 |true=>exact isTrue_and_nil e
 |false=>exact e
theorem Nv(ha:PT X a tA):PW X (.BoolOp .Or [a] pos) tA:=by
 intro wh pins s σ H Q I h;refine isTrue_or (thn (ha pins s σ H Q I h) fun c s1 e=>?_)
 cases c with
 |false=>exact isTrue_or_nil e
 |true=>exact e
theorem Nw(ha:PT X a tA)(hb:PW X (.BoolOp .And (b::gP) pos) dN):PW X (.BoolOp .And (a::b::gP) pos) (Q4 tA dN):=by
 intro wh pins s σ H Q I h;refine isTrue_and (thn (ha pins s σ H _ I h) fun c s1 ⟨H1,I1,q1⟩=>?_)
 cases c with
 |true=>exact hb wh pins s1 σ H1 Q I1 q1
 |false=>exact⟨H1,I1,q1⟩
theorem Px(ha:PT X a tA)(hb:PW X (.BoolOp .Or (b::gP) pos) dN):PW X (.BoolOp .Or (a::b::gP) pos) (tOr tA dN):=by
 intro wh pins s σ H Q I h;refine isTrue_or (thn (ha pins s σ H _ I h) fun c s1 ⟨H1,I1,q1⟩=>?_)
 cases c with
 |true=>exact⟨H1,I1,q1⟩
 |false=>exact hb wh pins s1 σ H1 Q I1 q1
theorem Nz(ha:PT X a tA):PT X (.UnaryOp .Not a pos) (tNot tA):=by
 intro pins s σ H Q I h;exact isTrue_not (ha pins s σ H (fun c H1=>Q (!c) H1) I h)
def Pd(ta tb:TE):TE:=fun σ H Q=>ta σ H fun x H1=> ∃c,x= .bl c/\if c=true then tb σ H1 Q else Q (.bl false) H1
def OU(ta:TE):TE:=fun σ H Q=>ta σ H fun x H1=> ∃c,x= .bl c/\Q (.bl (!c)) H1
theorem NK{op}{t:TE}(h:PE X a t):PE X (.BoolOp op [a] pos) t:=fun pins s σ H Q I hw=>BoolOp_one (h pins s σ H Q I hw)
theorem NQ(ha:PE X a ta)(hb:PE X (.BoolOp .And (b::gP) pos) tb):PE X (.BoolOp .And (a::b::gP) pos) (Pd ta tb):=by
 intro pins s σ H Q I h;refine BoolOp_and (thn (ha pins s σ H _ I h) fun v s1 ⟨x,H1,I1,r1,q1⟩=>?_);obtain⟨c,rfl,q1⟩:=q1;cases r1;refine oK ?_
 cases c with
 |true=>exact hb pins s1 σ H1 Q I1 q1
 |false=>exact⟨.bl false,H1,I1,rfl,q1⟩
theorem NL(ha:PE X a ta):PE X (.UnaryOp .Not a pos) (OU ta):=by
 intro pins s σ H Q I h;refine UnaryOp_ (thn (ha pins s σ H _ I h) fun v s1 ⟨x,H1,I1,r1,q1⟩=>?_);obtain⟨c,rfl,q1⟩:=q1;cases r1;exact not_of (oK ⟨.bl (!c),H1,I1,rfl,q1⟩)
noncomputable def tIf(t:TT)(ta tb:TE):TE:=fun σ H Q=>t σ H fun c H1=>if c=true then ta σ H1 Q else tb σ H1 Q
theorem IX{c:gf}(hc:PT X c tA)(ha:PE X a ta)(hb:PE X b tb):PE X (.IfExp c a b pos) (tIf tA ta tb):=by
 intro pins s σ H Q I h;refine wpAny_IfExp (thn (hc pins s σ H _ I h) fun d s1 ⟨H1,I1,q1⟩=>?_)
 cases d with
 |true=>exact ha pins s1 σ H1 Q I1 q1
 |false=>exact hb pins s1 σ H1 Q I1 q1
end
def SqL(K:gu)(H:Hp)(a:fV)(xs:List V):Prop:=
 Rd H a (.lst xs)\/
  ∃(o:Obj) (b6:jy) (n:Nat),K.lookup a=some o/\o.cls= .type "list"/\o.dict=none/\o.data= .seq b6 n/\b6.size<=sizeLine/\Vals xs b6.toList
def SqT(K:gu)(H:Hp)(a:fV)(xs:List V):Prop:=
 Rd H a (.tup xs)\/
  ∃(o:Obj) (b6:jy) (n:Nat),K.lookup a=some o/\o.cls= .type "tuple"/\o.data= .seq b6 n/\b6.size<=sizeLine/\Vals xs b6.toList
noncomputable def Sd:Value->Option V
 | .none=>some .non
 | .bool b=>some (.bl b)
 | .int i _=>some (.int i)
 | .str x _=>some (.str x)
 | .bytes b _=>some (.byt b)
 | .float b _=>some (.flt b)
 | .ref a=>some (.ref a)
 | .type n=>some (.ty n)
 |_=>none
theorem RelV.abs{x:V}{u:gi}(r:RelV x u):Sd u=some x:=by
 cases x with
 |non=>cases r;rfl
 |bl _=>cases r;rfl
 |int _=>obtain⟨t,rfl⟩:=r;rfl
 |str _=>obtain⟨t,rfl⟩:=r;rfl
 |byt _=>obtain⟨t,rfl⟩:=r;rfl
 |flt _=>obtain⟨t,rfl⟩:=r;rfl
 |ref _=>cases r;rfl
 |ty _=>cases r;rfl
theorem RelV.inj{x y:V}{u:gi}(r:RelV x u)(q:RelV y u):x=y:=hV (r.abs.symm.trans q.abs)
theorem Vals.inj: ∀{xs ys:List V} {us:hJ},Vals xs us->Vals ys us->xs=ys
 |_,_,_,.nil,.nil=>rfl
 |_,_,_,.cons r t,.cons r' t'=>by rw[r.inj r',Vals.inj t t']
section
variable {X:Cx}{pins:gG}{σ:St}{H:Hp}{s:gb}{a:fV}{xs ys:List V}
theorem SqL.of{K:gu}(h:H a=some (.lst xs)):SqL K H a xs:= .inl (.inl h)
theorem Inv.list(I:Inv X pins σ H s)(h:SqL X.K H a xs): ∃b6:List Value,Vals xs b6/\PlainL s.heap a b6.toArray/\xs.length<=sizeLine:=by
 rcases h with h|⟨o,b6,n,hk,hc,hd,hs,hz,r⟩
 ·obtain⟨z,b6,n,r,e⟩:=h.ok I.hok;exact⟨b6,r,⟨_,n,e,rfl,rfl,rfl⟩,z⟩
 ·refine⟨b6.toList,r,⟨o,n,I.kIn a o hk,hc,hd,by simpa using hs⟩,?_⟩;have e:=r.length;simp only[iG] at e;omega
theorem Inv.tuple(I:Inv X pins σ H s)(h:SqT X.K H a xs): ∃b6:List Value,Vals xs b6/\IsTup s.heap a b6.toArray/\xs.length<=sizeLine:=by
 rcases h with h|⟨o,b6,n,hk,hc,hs,hz,r⟩
 ·obtain⟨z,b6,r,p⟩:=h.ok I.hok;exact⟨b6,r,p,z⟩
 ·refine⟨b6.toList,r,⟨o,I.kIn a o hk,hc,n,by simpa using hs⟩,?_⟩;have e:=r.length;simp only[iG] at e;omega
theorem Inv.list_inj(I:Inv X pins σ H s)(h:SqL X.K H a xs)(h':SqL X.K H a ys):xs=ys:=by
 obtain⟨b6,r,⟨o,n,e,_,_,d⟩,_⟩:=I.list h;obtain⟨its',r',⟨o',n',e',_,_,d'⟩,_⟩:=I.list h';rw[e] at e';cases e';rw[d] at d';injection d' with d1 _
 have:b6=its':=by simpa using nQ Array.toList d1
 subst this;exact r.inj r'
theorem Inv.tuple_inj(I:Inv X pins σ H s)(h:SqT X.K H a xs)(h':SqT X.K H a ys):xs=ys:=by
 obtain⟨b6,r,⟨o,e,_,n,d⟩,_⟩:=I.tuple h;obtain⟨its',r',⟨o',e',_,n',d'⟩,_⟩:=I.tuple h';rw[e] at e';cases e';rw[d] at d';injection d' with d1 _
 have:b6=its':=by simpa using nQ Array.toList d1
 subst this;exact r.inj r'
end
abbrev Cx.wish(X:Cx)(E:gD):Cx:={X with xe:=E}
abbrev Cx.nox(X:Cx):Cx:=X.wish fun _ _=>False
theorem Cx.Ok.wish{X:Cx}(ok:X.Ok)(E:gD):(X.wish E).Ok:=
 ⟨ok.mod,ok.kind,ok.glob,ok.blt,ok.above,ok.inj,ok.has,ok.cab,ok.hd,ok.frames,ok.stk,ok.exf,ok.bs,ok.bsz,ok.noex,ok.exfs,ok.funs,ok.frf⟩
theorem Cx.Ok.unwish{X:Cx}{E:gD}(ok:(X.wish E).Ok):X.Ok:=
 ⟨ok.mod,ok.kind,ok.glob,ok.blt,ok.above,ok.inj,ok.has,ok.cab,ok.hd,ok.frames,ok.stk,ok.exf,ok.bs,ok.bsz,ok.noex,ok.exfs,ok.funs,ok.frf⟩
section
variable {X:Cx}{pins:gG}{σ:St}{H:Hp}{s:gb}{E:gD}
theorem Inv.wish(I:Inv X pins σ H s)(E:gD):Inv (X.wish E) pins σ H s:=⟨I.ok.wish E,I.os,I.bare,I.base,I.loc,I.cell,I.free,I.freeC,I.pin,I.hok,I.len⟩
theorem Inv.unwish(I:Inv (X.wish E) pins σ H s):Inv X pins σ H s:=⟨I.ok.unwish,I.os,I.bare,I.base,I.loc,I.cell,I.free,I.freeC,I.pin,I.hok,I.len⟩
theorem SP.unwish{D:Ends}{f:Flow}{s':gb}(h:SP (X.wish E) pins D f s'):SP X pins D f s':=by
 cases f with
 |next=>obtain⟨σ',H',I,q⟩:=h;exact⟨σ',H',I.unwish,q⟩
 |brk=>obtain⟨σ',H',I,q⟩:=h;exact⟨σ',H',I.unwish,q⟩
 |cont=>obtain⟨σ',H',I,q⟩:=h;exact⟨σ',H',I.unwish,q⟩
 |ret u=>obtain⟨v,σ',H',I,r,q⟩:=h;exact⟨v,σ',H',I.unwish,r,q⟩
theorem PSs.nox{st:List Stmt}{t:TS}(h:PSs X.nox st t):PSs X st t:=fun pins s σ H D I hw=>
 ox (h pins s σ H D (I.wish _) hw) (fun _ _ q=>q.unwish) fun _ _ z=>False.elim z
end
section
variable {X:Cx}{st:Stmt}{gP:List Stmt}{t u:TS}{e:gf}{te:TE}{pos:Pos}
noncomputable def OV:TS:=fun D σ H=>D.nx σ H
noncomputable def QR(t u:TS):TS:=fun D σ H=>t {D with nx:=u D} σ H
theorem Ll:PSs X [] OV:=fun _ _ σ H _ I h=>CK ⟨σ,H,I,h⟩
theorem Iz(h1:PS X st t)(h2:PSs X gP u):PSs X (st::gP) (QR t u):=by
 intro pins s σ H D I h;refine wpAny_execs_cons (thn (h1 pins s σ H {D with nx:=u D} I h) fun f s1 q=>?_)
 cases f with
 |next=>
  obtain⟨σ',H',I',q⟩:=q;exact h2 pins s1 σ' H' D I' q
 |ret v=>exact q
 |brk=>exact q
 |cont=>exact q
theorem Inv.quiet{pins:gG}{σ:St}{H:Hp}{s:gb}(I:Inv X pins σ H s):interactive X.env=false:=by simp[interactive,I.ok.kind]
noncomputable def OX(te:TE):TS:=fun D σ H=>te σ H fun _ H1=>D.nx σ H1
theorem Lm(he:PE X e te)(hs:swapsWith e none pos.line X.env=pure false:=by rfl):PS X (.Expr e pos) (OX te):=by
 intro pins s σ H D I h;exact wpAny_Expr_any (thn (he pins s σ H _ I h) fun v s1 ⟨x,H1,I1,r1,q1⟩=>⟨σ,H1,I1,q1⟩) I.quiet hs
noncomputable def QU(te:TE):TS:=fun D σ H=>te σ H D.rt
theorem IB(he:PE X e te):PS X (.Return (some e) pos) (QU te):=by
 intro pins s σ H D I h;exact wpAny_Return_some (thn (he pins s σ H _ I h) fun v s1 ⟨x,H1,I1,r1,q1⟩=>⟨x,σ,H1,I1,r1,q1⟩)
noncomputable def QZ(c:TT)(t u:TS):TS:=fun D σ H=>c σ H fun b H1=>if b=true then t D σ H1 else u D σ H1
theorem Py{c:gf}{a b:List Stmt}{tc:TT}(hc:PT X c tc)(ha:PSs X a t)(hb:PSs X b u):PS X (.If c a b pos) (QZ tc t u):=by
 intro pins s σ H D I h;refine wpAny_If (thn (hc pins s σ H _ I h) fun d s1 ⟨H1,I1,q1⟩=>?_)
 cases d with
 |true=>exact ha pins s1 σ H1 D I1 q1
 |false=>exact hb pins s1 σ H1 D I1 q1
end
abbrev TG:=V->St->Hp->(St->Hp->Prop)->Prop
abbrev TGs:=List V->St->Hp->(St->Hp->Prop)->Prop
def PG(X:Cx)(target:gf)(t:TG):Prop:=
 ∀(pins:gG) (s:gb) (σ:St) (H:Hp) (v:V) (u:gi) (Q:St->Hp->Prop),Inv X pins σ H s->RelV v u->t v σ H Q->
  wpAny (model X.prog X.w) X.A (assign target X.env u) (fun _ s'=> ∃σ' H',Inv X pins σ' H' s'/\Q σ' H') X.xe s
def PGs(X:Cx)(ts:iF)(t:TGs):Prop:=
 ∀(pins:gG) (s:gb) (σ:St) (H:Hp) (vs:List V) (us:hJ) (Q:St->Hp->Prop),Inv X pins σ H s->Vals vs us->t vs σ H Q->
  wpAny (model X.prog X.w) X.A (assignInOrder ((assignEach ts X.env).map (·.2)) us) (fun _ s'=> ∃σ' H',Inv X pins σ' H' s'/\Q σ' H') X.xe s
abbrev Ma:=V->V->V->Hp->(Hp->Prop)->Prop
def OC(X:Cx)(t:Ma):Prop:=
 ∀(pins:gG) (s:gb) (σ:St) (H:Hp) (o i v:V) (ov iv u:gi) (Q:Hp->Prop),Inv X pins σ H s->RelV o ov->RelV i iv->RelV v u->t o i v H Q->
  wpAny (model X.prog X.w) X.A (setItem ov iv u) (fun _ s'=> ∃H',Inv X pins σ H' s'/\Q H') X.xe s
section
variable {X:Cx}{pos:Pos}
noncomputable def Ms(i:Nat):TG:=fun v σ H Q=>Q (σ.set i (some v)) H
theorem Lv{i:Nat}{x:Str}(hN:X.N.Nodup)(hi:X.N[i]?=some x)(hx:Loc X.env.scope x)(hf:X.fn x=true\/X.env.scope.names.lookup x=some .local:=by first|exact .inl rfl|exact .inr rfl|assumption):PG X (.Name x pos) (Ms i):=by
 intro pins s σ H v u Q I r h;exact wpAny_assign_Name (AH I hN hi hx r (fun s' I'=>⟨_,H,I',h⟩) hf)
noncomputable def Sb:TGs:=fun vs σ H Q=>vs=[]/\Q σ H
def PZ(t:TG)(u:TGs):TGs:=fun vs σ H Q=> ∃v r,vs=v::r/\t v σ H fun σ' H'=>u r σ' H' Q
theorem Lu:PGs X [] Sb:=by
 intro pins s σ H vs us Q I r h;obtain⟨e,h⟩:=h;subst e;cases r;exact assignInOrder_nil ⟨σ,H,I,h⟩
theorem IP{e:gf}{es:iF}{t:TG}{u:TGs}(h1:PG X e t)(h2:PGs X es u)
  (hs:(assignEach (e::es) X.env).map (·.2)=assign e X.env::(assignEach es X.env).map (·.2):=by rfl):PGs X (e::es) (PZ t u):=by
 intro pins s σ H vs us Q I r h;obtain⟨v,vr,e1,h⟩:=h;subst e1
 cases r with
 |cons r rr=>
  rw[hs];refine assignInOrder_cons (thn (h1 pins s σ H _ _ _ I r h) fun _ s1 ⟨σ1,H1,I1,q1⟩=>?_);exact h2 pins s1 σ1 H1 _ _ Q I1 rr q1
def Sa(K:gu)(n:Nat)(t:TGs):TG:=fun v σ H Q=> ∃a xs,v= .ref a/\SqT K H a xs/\xs.length=n/\t xs σ H Q
theorem NI{es:iF}{k:Nat}{t:TGs}{n:Nat}(hc:X.calm=true)(h:PGs X es t)
  (hn:(assignEach es X.env).length=n:=by rfl)(q0:(assignEach es X.env).findIdx? (·.1)=none:=by rfl):PG X (.Tuple es k pos) (Sa X.K n t):=by
 intro pins s σ H v u Q I r hw;obtain⟨a,xs,e1,hq,hl,hw⟩:=hw;subst e1;cases r;obtain⟨b6,rv,ht,hz⟩:=I.tuple hq;refine assign_Tuple_tuple (I.ok.hd hc) ht (by simp[hn,<-hl,rv.length]) q0 fun h' hx=>?_;have I1:Inv X pins σ H {s with heap:=h'}:=I.kept (t':=s.toks) fun b o e=>hx b o (ie (iM e)) e;exact h pins _ σ H xs _ Q I1 (by simpa using rv) hw
noncomputable def gSub(to ti:TE)(t:Ma):TG:=fun v σ H Q=>to σ H fun o H1=>ti σ H1 fun i H2=>t o i v H2 fun H3=>Q σ H3
theorem IQ{o i:gf}{to ti:TE}{t:Ma}(ho:PE X o to)(hi:PE X i ti)(hs:OC X t)
  (ha: ∀v,assign (.Subscript o i pos) X.env v=(do
   let ov <-holding [v] (eval o X.env)
   let iv <-holding [v,ov] (eval i X.env)
   standAt pos
   holding [v,ov,iv] (setItem ov iv v)
   release [v,ov,iv] []):=by intro _;rfl):PG X (.Subscript o i pos) (gSub to ti t):=by
 intro pins s σ H v u Q I r h;rw[ha];refine fW (kL (thn (ho pins s σ H _ I h) fun ov s1 ⟨x,H1,I1,r1,q1⟩=>?_));refine fW (kL (thn (hi pins s1 σ H1 _ I1 q1) fun iv s2 ⟨y,H2,I2,r2,q2⟩=>?_));refine fW (vo (fW (kL (thn (hs pins s2 σ H2 x y v ov iv u _ I2 r1 r2 r q2) fun _ s3 ⟨H3,I3,q3⟩=>?_))));exact wpAny_release ⟨σ,H3,I3,q3⟩
noncomputable def Pc(te:TE)(g:TG):TS:=fun D σ H=>te σ H fun x H1=>g x σ H1 D.nx
theorem IC{tg e:gf}{te:TE}{g:TG}(he:PE X e te)(hg:PG X tg g)(hs:swapsWithSole [tg] e pos.line X.env=pure false:=by rfl)(hw:swappedStores [tg] e X.env=pure none:=by rfl)
  (h1:(assignEach [tg] X.env).map (·.2)=[assign tg X.env]:=by rfl):PS X (.Assign [tg] e pos) (Pc te g):=by
 intro pins s σ H D I h;refine wpAny_Assign_stores (thn (he pins s σ H _ I h) fun v s1 ⟨x,H1,I1,r1,q1⟩=>?_) hs hw;rw[h1];exact thn (hg pins s1 σ H1 x v _ I1 r1 q1) fun _ s2 q=>q
theorem NB{i:Nat}{x:Str}{e:gf}{te:TE}{pos':Pos}(hN:X.N.Nodup)(hi:X.N[i]?=some x)(hx:Loc X.env.scope x)(he:PE X e te)(hs:swapsWith e (some (.Name x pos')) pos.line X.env=pure false:=by rfl)(hf:X.fn x=true\/X.env.scope.names.lookup x=some .local:=by first|exact .inl rfl|exact .inr rfl|assumption):
  PS X (.Assign [.Name x pos'] e pos) (Pc te (Ms i)):=by
 intro pins s σ H D I h;refine wpAny_Assign_Name (thn (he pins s σ H _ I h) fun v s1 ⟨y,H1,I1,r1,q1⟩=>?_) hs;exact AH I1 hN hi hx r1 (fun s2 I2=>⟨_,H1,I2,q1⟩) hf
def MN(c:TT)(tb:TS):TS:=fun D σ H=> ∃W:Nat->St->Hp->Prop,(∃m,W m σ H)/\ ∀m σ H,W m σ H->
 c σ H fun b H1=>if b=true then ∃N:St->Hp->Prop,(∀σ' H',N σ' H'-> ∃m',m'<m/\W m' σ' H')/\tb {D with nx:=N,ct:=N,bk:=D.nx} σ H1 else D.nx σ H1
theorem IA{c:gf}{body:List Stmt}{tc:TT}{tb:TS}(hp:PassesOwn (model X.prog X.w) X.A X.env X.xe)(hc:PT X c tc)(hb:PSs X body tb):PS X (.While c body [] pos) (MN tc tb):=by
 intro pins s σ H D I h;obtain⟨W,⟨m0,w0⟩,turn⟩:=h;refine wpAny_While (codeAny_whileLoop (fun n s'=> ∃σ' H',Inv X pins σ' H' s'/\W n σ' H') ?_ m0 ⟨σ,H,I,w0⟩);rintro n s1 ⟨σ1,H1,I1,w1⟩;refine qC hp (thn (hc pins s1 σ1 H1 _ I1 (turn n σ1 H1 w1)) fun b s2 ⟨H2,I2,q2⟩=>?_)
 cases b with
 |true=>
  obtain⟨N,hN,q2⟩:=q2;rw[gh rfl];refine qC hp (thn (hb pins s2 σ1 H2 _ I2 q2) fun f s3 q3=>?_)
  cases f with
  |next=>
   obtain⟨σ3,H3,I3,n3⟩:=q3;obtain⟨m',hm,w3⟩:=hN σ3 H3 n3;exact⟨m',hm,σ3,H3,I3,w3⟩
  |cont=>
   obtain⟨σ3,H3,I3,n3⟩:=q3;obtain⟨m',hm,w3⟩:=hN σ3 H3 n3;exact⟨m',hm,σ3,H3,I3,w3⟩
  |brk=>exact q3
  |ret v=>exact q3
 |false=>
  rw[gk iB];exact CK ⟨σ1,H2,I2,q2⟩
end
structure It where
 go:Nat->Hp->Prop
 yld:Nat->Hp->V->Hp->Prop
 stop:Nat->Hp->Prop
def mJ(X:Cx)(pins:gG)(H:Hp)(b:fV):Prop:=
 H b=none/\b≠X.env.locals/\b∉X.fs/\(b∈X.ex\/X.s₀.heap.objs.size<=b)/\(∀x c,X.env.cells.lookup x=some c->c≠b)/\ ∀p∈X.pn++pins,p.1≠b
theorem Inv.fpOk{X:Cx}{pins:gG}{σ:St}{H H':Hp}{s:gb}{b:fV}(I:Inv X pins σ H s)(hb:s.heap.objs.size<=b)(hn:H' b=none):mJ X pins H' b:=by
 refine⟨hn,nP (lA I.lt hb),I.nofs hb,.inr (kx I.sz hb),fun x c e z=>?_,fun p hp z=>?_⟩
 ·obtain⟨v,q⟩:=I.cell x c e;exact absurd (lA q.lt (by rw[z];exact hb)) (oz _)
 ·exact absurd (lA (iM (I.pin p hp).1) (by rw[z];exact hb)) (oz _)
structure Turn(P:gw)(w:gm)(K:gu)(tg:gf)(J:It)(fp:iI)(it:fV)(tn:Nat->Heap->Prop):Prop where
 mem:it∈fp
 obj: ∀i h,tn i h-> ∀b∈fp,∃o,h.get? b=some o/\ ∀v,o.data≠ .cell v
 keep: ∀i h h',tn i h->(∀b∈fp,∀o,h.get? b=some o->h'.get? b=some o)->tn i h'
 item: ∀(X:Cx),X.prog=P->X.w=w->X.K=K->X.calm=true-> ∀(i:Nat) (pins:gG) (s:gb) (σ:St) (H:Hp) (E:gD),Inv X pins σ H s->(∀b∈fp,mJ X pins H b)->tn i s.heap->J.go i H->
  wpAny (model P w) X.A (pyNext (.ref it)) (fun r s1=> ∃u,r=some u/\
   wpAny (model P w) X.A (letOwnedTupleGo tg (.ref it) u) (fun _ s2=> ∃x H',Inv X pins σ H' s2/\RelV x u/\J.yld i H x H'/\tn (i+1) s2.heap/\ ∀b∈fp,H' b=none) E s1) E s
 done: ∀(X:Cx),X.prog=P->X.w=w->X.K=K->X.calm=true-> ∀(i:Nat) (pins:gG) (s:gb) (σ:St) (H:Hp) (E:gD),Inv X pins σ H s->(∀b∈fp,mJ X pins H b)->tn i s.heap->J.stop i H->
  wpAny (model P w) X.A (pyNext (.ref it)) (fun r s1=>r=none/\Inv X pins σ H s1) E s
 self: ∀(A:gv) (i:Nat) (s:gb) (Q:gD) (E:gD),tn i s.heap->Q (.ref it) s->wpAny (model P w) A (pyIter (.ref it)) Q E s
abbrev TI:=St->Hp->(It->Hp->Prop)->Prop
def PIE(X:Cx)(pins:gG)(σ:St)(tg:gf)(R:It->Hp->Prop)(dS:gi)(s2:gb):Prop:=
 ∃(it:fV) (fp:iI) (tn:Nat->Heap->Prop) (J:It) (H':Hp),dS= .ref it/\Inv X pins σ H' s2/\Turn X.prog X.w X.K tg J fp it tn/\tn 0 s2.heap/\(∀b∈fp,mJ X pins H' b)/\R J H'
def PI(X:Cx)(tg iter:gf)(wi:TI):Prop:=
 ∀(pins:gG) (s:gb) (σ:St) (H:Hp) (R:It->Hp->Prop),Inv X pins σ H s->wi σ H R->
  wpAny (model X.prog X.w) X.A (eval iter X.env) (fun v s1=>wpAny (model X.prog X.w) X.A (pyIter v) (PIE X pins σ tg R) X.xe s1) X.xe s
theorem JI{M:Model}{A:gv}{E:gD}{s:gb}{tg:gf}{it:fV}{u:gi}{o:Obj}{n:String}{vs:jy}{Q:Unit->Shared->Prop}(ho:s.heap.get? it=some o)(hc:o.cls= .type n)(hd:o.data= .fields vs)
  (hn:["enumerate","zip","dict_itemiterator","dict_reverseitemiterator","odict_iterator","itertools.zip_longest","itertools.pairwise"].contains n=false)(hQ:Q () s):wpAny M A (letOwnedTupleGo tg (.ref it) u) Q E s:=by
 unfold letOwnedTupleGo
 cases tg<;>first
  |exact gg hQ
  |(cases u<;>first
    |exact gg hQ
    |(
      refine fW (tE ho ?_);rw[hc,hd];show wpAny M A (if(["enumerate","zip","dict_itemiterator","dict_reverseitemiterator","odict_iterator","itertools.zip_longest","itertools.pairwise"].contains n&&vs[0]?==some (rawInt _))=true then _ else _) Q E s;rw[gk (by intro h;rw[hn,Bool.false_and] at h;cases h)];exact gg hQ))
noncomputable def Itl(K:gu)(a:fV):It:=
 ⟨fun i H=> ∃xs x,SqL K H a xs/\xs[i]?=some x,fun i H x H'=>H'=H/\ ∀xs,SqL K H a xs->xs[i]?=some x,fun i H=> ∃xs,SqL K H a xs/\xs.length<=i⟩
noncomputable def Itt(K:gu)(a:fV):It:=
 ⟨fun i H=> ∃xs x,SqT K H a xs/\xs[i]?=some x,fun i H x H'=>H'=H/\ ∀xs,SqT K H a xs->xs[i]?=some x,fun i H=> ∃xs,SqT K H a xs/\xs.length<=i⟩
noncomputable def Itr(lo:Int)(n:Nat):It:=⟨fun i _=>i<n,fun i H x H'=>H'=H/\x= .int (lo+i),fun i _=>n<=i⟩
theorem Fx{P:gw}{w:gm}{K:gu}{tg:gf}(a it:fV):Turn P w K tg (Itl K a) [it] it (fun i h=>h.IsListIter it a i) where
 mem:=by simp
 obj:=fun i h st b hb=>by
  have e:b=it:=by simpa using hb
  subst e;obtain⟨o,e,c,d⟩:=st;exact⟨o,e,fun v z=>by rw[d] at z;cases z⟩
 keep:=fun i h h' st k=>st.at fun o e=>k it (by simp) o e
 item:=by
  intro X hP hw hK hc i pins s σ H E I hf st hg;subst hP hw hK;obtain⟨xs,x,hq,hx⟩:=hg;obtain⟨b6,rv,p,hz⟩:=I.list hq;obtain⟨u,hu,ru⟩:=rv.get hx;obtain⟨f0,f1,f2,f3,f4,f5⟩:=hf it (by simp);refine wpAny_pyNext_list_item st p.isList (x:=u) (by simpa using hu) fun h' b8 sb=>?_;have I1:Inv X pins σ H {s with heap:=h'}:=I.turned (t':=s.toks) (fun b o hb e=>(sb.2 b hb).trans e) f0 f1 f3 f4 f5;obtain⟨o,e,c,d⟩:=id b8;exact⟨u,rfl,JI (s:={s with heap:=h'}) e c d (by decide) ⟨x,H,I1,ru,⟨rfl,fun ys hy=>by rw[I.list_inj hy hq];exact hx⟩,b8,fun b hb=>(hf b hb).1⟩⟩
 done:=by
  intro X hP hw hK hc i pins s σ H E I hf st hg;subst hP hw hK;obtain⟨xs,hq,hx⟩:=hg;obtain⟨b6,rv,p,hz⟩:=I.list hq;obtain⟨f0,f1,f2,f3,f4,f5⟩:=hf it (by simp);have hl:=rv.length;exact wpAny_pyNext_list_end (I.ok.hd hc) st p.isList (by simp;omega) fun h' eb=>⟨rfl,I.turned (t':=s.toks) (fun b o hb e=>eb b o hb e) f0 f1 f3 f4 f5⟩
 self:=fun _ _ _ _ _ st h=>wpAny_pyIter_listiter st h
theorem CT{P:gw}{w:gm}{K:gu}{tg:gf}(a it:fV):Turn P w K tg (Itt K a) [it] it (fun i h=>h.IsTupleIter it a i) where
 mem:=by simp
 obj:=fun i h st b hb=>by
  have e:b=it:=by simpa using hb
  subst e;obtain⟨o,e,c,d⟩:=st;exact⟨o,e,fun v z=>by rw[d] at z;cases z⟩
 keep:=fun i h h' st k=>st.at fun o e=>k it (by simp) o e
 item:=by
  intro X hP hw hK hc i pins s σ H E I hf st hg;subst hP hw hK;obtain⟨xs,x,hq,hx⟩:=hg;obtain⟨b6,rv,p,hz⟩:=I.tuple hq;obtain⟨u,hu,ru⟩:=rv.get hx;obtain⟨f0,f1,f2,f3,f4,f5⟩:=hf it (by simp);refine wpAny_pyNext_tuple_item st (show s.heap.IsTuple a b6.toArray from p) (x:=u) (by simpa using hu) fun h' b8 sb=>?_;have I1:Inv X pins σ H {s with heap:=h'}:=I.turned (t':=s.toks) (fun b o hb e=>(sb.2 b hb).trans e) f0 f1 f3 f4 f5;obtain⟨o,e,c,d⟩:=id b8;exact⟨u,rfl,JI (s:={s with heap:=h'}) e c d (by decide) ⟨x,H,I1,ru,⟨rfl,fun ys hy=>by rw[I.tuple_inj hy hq];exact hx⟩,b8,fun b hb=>(hf b hb).1⟩⟩
 done:=by
  intro X hP hw hK hc i pins s σ H E I hf st hg;subst hP hw hK;obtain⟨xs,hq,hx⟩:=hg;obtain⟨b6,rv,p,hz⟩:=I.tuple hq;obtain⟨f0,f1,f2,f3,f4,f5⟩:=hf it (by simp);have hl:=rv.length;exact wpAny_pyNext_tuple_end (I.ok.hd hc) st (show s.heap.IsTuple a b6.toArray from p) (by simp;omega) fun h' eb=>⟨rfl,I.turned (t':=s.toks) (fun b o hb e=>eb b o hb e) f0 f1 f3 f4 f5⟩
 self:=fun _ _ _ _ _ st h=>wpAny_pyIter_tupleiter st h
theorem CU{P:gw}{w:gm}{K:gu}{tg:gf}(it:fV)(lo:Int)(n:Nat):Turn P w K tg (Itr lo n) [it] it (fun i h=>IsRangeIter h it (lo+(i:Nat)*1) ((n:Int)-(i:Nat)) 1) where
 mem:=by simp
 obj:=fun i h st b hb=>by
  have e:b=it:=by simpa using hb
  subst e
  exact⟨_,st,fun v z=>by
   have z':Data.fields _=Data.cell v:=z;cases z'⟩
 keep:=fun i h h' st k=>k it (by simp) _ st
 item:=by
  intro X hP hw hK hc i pins s σ H E I hf st hg;subst hP hw hK;obtain⟨f0,f1,f2,f3,f4,f5⟩:=hf it (by simp);have W:=Walks.range (prog:=X.prog) (w:=X.w) (I.ok.hd hc) it lo 1 n;refine W.item i s _ _ hg st fun v h' tk hv b8 kk=>?_;obtain⟨t,rfl⟩:=hv;have I1:Inv X pins σ H {s with heap:=h',toks:=tk}:=I.turned (fun b o hb e=>kk b o (by simpa using hb) e) f0 f1 f3 f4 f5;refine⟨_,rfl,JI (s:={s with heap:=h',toks:=tk}) (n:="range_iterator") b8 rfl rfl (by decide) ⟨.int (lo+i),H,I1,⟨t,?_⟩,⟨rfl,rfl⟩,b8,fun b hb=>(hf b hb).1⟩⟩;rw[vn]
 done:=by
  intro X hP hw hK hc i pins s σ H E I hf st hg;subst hP hw hK;obtain⟨f0,f1,f2,f3,f4,f5⟩:=hf it (by simp);exact wpAny_pyNext_range_end (I.ok.hd hc) st (by have:n<=i:=hg;omega) fun h' eb=>⟨rfl,I.turned (t':=s.toks) (fun b o hb e=>eb b o hb e) f0 f1 f3 f4 f5⟩
 self:=fun _ _ _ _ _ st h=>wpAny_pyIter_rangeiter st h
section
variable {X:Cx}{tg:gf}
def PU(K:gu)(tl:TE):TI:=fun σ H R=>tl σ H fun x H1=> ∃a,x= .ref a/\(∃xs,SqL K H1 a xs)/\R (Itl K a) H1
def R9(K:gu)(tl:TE):TI:=fun σ H R=>tl σ H fun x H1=> ∃a,x= .ref a/\(∃xs,SqT K H1 a xs)/\R (Itt K a) H1
theorem Lr{l:gf}{tl:TE}(hl:PE X l tl):PI X tg l (PU X.K tl):=by
 intro pins s σ H R I h;refine thn (hl pins s σ H _ I h) fun v s1 ⟨x,H1,I1,r1,q1⟩=>?_;obtain⟨a,e,⟨xs,hq⟩,q⟩:=q1;subst e;cases r1;obtain⟨b6,rv,p,hz⟩:=I1.list hq;refine CJ p.isList ?_;refine⟨s1.heap.objs.size,[s1.heap.objs.size],_,_,H1,rfl,I1.kept (t':=s1.toks) fun b o e=>gY _ e,Fx a _,⟨_,iU _ rfl,rfl,rfl⟩,fun b hb=>?_,q⟩;have e:b=s1.heap.objs.size:=by simpa using hb
 subst e;exact I1.fpOk (gQ _) (I1.hok.fresh (gQ _))
theorem NH{l:gf}{tl:TE}(hl:PE X l tl):PI X tg l (R9 X.K tl):=by
 intro pins s σ H R I h;refine thn (hl pins s σ H _ I h) fun v s1 ⟨x,H1,I1,r1,q1⟩=>?_;obtain⟨a,e,⟨xs,hq⟩,q⟩:=q1;subst e;cases r1;obtain⟨b6,rv,p,hz⟩:=I1.tuple hq;refine wpAny_pyIter_tuple (show s1.heap.IsTuple a b6.toArray from p) ?_;refine⟨s1.heap.objs.size,[s1.heap.objs.size],_,_,H1,rfl,I1.kept (t':=s1.toks) fun b o e=>gY _ e,CT a _,⟨_,iU _ rfl,rfl,rfl⟩,fun b hb=>?_,q⟩;have e:b=s1.heap.objs.size:=by simpa using hb
 subst e;exact I1.fpOk (gQ _) (I1.hok.fresh (gQ _))
theorem Ij{pins:gG}{σ:St}{H:Hp}{s:gb}{R:It->Hp->Prop}{E:gD}{lo hi:Int}{t u v:Tok}{tk:Nat}(I:Inv X pins σ H s)(h1: -(2^62)<=lo)(h2:lo<2^62)(h3: -(2^62)<=hi)(h4:hi<2^62)
  (q:R (Itr lo (hi-lo).toNat) H):wpAny (model X.prog X.w) X.A (pyIter (.ref s.heap.objs.size)) (PIE X pins σ tg R) E {s with heap:=s.heap.push {cls:= .type "range",data:= .fields #[.int lo t,.int hi u,.int 1 v]},toks:=tk}:=by
 refine wpAny_pyIter_range (IsRange.new ..) (small_one h1 h2 h3 h4) ?_;have I1:Inv X pins σ H {s with heap:=s.heap.push {cls:= .type "range",data:= .fields #[.int lo t,.int hi u,.int 1 v]},toks:=tk}:=I.kept fun b o e=>gY _ e
 refine⟨(s.heap.push {cls:= .type "range",data:= .fields #[.int lo t,.int hi u,.int 1 v]}).objs.size,[(s.heap.push {cls:= .type "range",data:= .fields #[.int lo t,.int hi u,.int 1 v]}).objs.size],_,_,H,rfl,
  I1.kept (t':=tk) fun b o e=>gY _ e,CU _ lo (hi-lo).toNat,?_,fun b hb=>?_,q⟩
 ·have e1:lo+((0:Nat):Int)*1=lo:=by simp
  have e2:(((hi-lo).toNat:Nat):Int)-((0:Nat):Int)=Builtin.Range.rangeSize lo hi 1:=by rw[rangeSize_one];split<;>omega
  show IsRangeIter _ _ (lo+((0:Nat):Int)*1) ((((hi-lo).toNat:Nat):Int)-((0:Nat):Int)) 1;rw[e1,e2];exact iU _ rfl
 ·have e:b=(s.heap.push {cls:= .type "range",data:= .fields #[.int lo t,.int hi u,.int 1 v]}).objs.size:=by simpa using hb
  subst e;exact I1.fpOk (gQ _) (I1.hok.fresh (gQ _))
def PR(ta:TA):TI:=fun σ H R=>ta σ H fun vs H1=> ∃j:Int,vs=[.int j]/\ -(2^62)<=j/\j<2^62/\R (Itr 0 j.toNat) H1
theorem FY{a:gf}{ta:TA}{p pos:Pos}(hg:Gl X "range")(hm:X.mg "range"=none)(ha:PA X [a] ta)(hs:starEach [a] X.env=[(false,eval a X.env)]:=by rfl):PI X tg (.Call (.Name "range" p) [a] [] pos) (PR ta):=by
 intro pins s σ H R I h;refine Call_ (tP I hg hm boot_range (CH (thn (ha pos pins s σ H _ I h) fun us s1 ⟨vs,H1,I1,r1,q1⟩=>?_) hs rfl));obtain⟨j,e,q1,q2,q⟩:=q1;subst e
 cases r1 with
 |cons r rr=>
  cases rr;obtain⟨t,rfl⟩:=r;exact call_range_1 (Ij I1 (by omega) (by omega) q1 q2 (by simpa using q))
def Q0(wi:TI)(g:TG)(tb:TS):TS:=fun D σ H=>wi σ H fun J H1=> ∃W:Nat->Nat->St->Hp->Prop,(∃m,W 0 m σ H1)/\ ∀i m σ H,W i m σ H->
 (J.stop i H/\D.nx σ H)\/(J.go i H/\ ∃N:St->Hp->Prop,(∀σ' H',N σ' H'-> ∃m',m'<m/\W (i+1) m' σ' H')/\ ∀x H',J.yld i H x H'->g x σ H' fun σ2 H2=>tb {D with nx:=N,ct:=N,bk:=D.nx} σ2 H2)
noncomputable def vS(fp:iI)(h:gz):List (Addr×Obj):=fp.filterMap fun b=>(h.get? b).map fun o=>(b,o)
theorem nE{fp:iI}{h:gz}{b:fV}{o:Obj}(hb:b∈fp)(e:h.get? b=some o):(b,o)∈vS fp h:=List.mem_filterMap.mpr ⟨b,hb,by rw[e];rfl⟩
theorem F6{fp:iI}{h:gz}{p:Addr×Obj}(hp:p∈vS fp h):p.1∈fp/\h.get? p.1=some p.2:=by
 obtain⟨b,hb,e⟩:=List.mem_filterMap.mp hp
 cases q:h.get? b with
 |none=>rw[q] at e;cases e
 |some o=>
  rw[q] at e;have e':(b,o)=p:=hV e;subst e';exact⟨hb,q⟩
theorem Inv.pinned{pins:gG}{σ:St}{H:Hp}{s:gb}{fp:iI}(I:Inv X pins σ H s)(hf: ∀b∈fp,mJ X pins H b)(ho: ∀b∈fp,∃o,s.heap.get? b=some o/\ ∀v,o.data≠ .cell v):Inv X (pins++vS fp s.heap) σ H s:=
 I.pins_of fun p hp=>(nS.mp hp).elim (fun z=>I.pin p (nO _ z)) fun z=>by
  obtain⟨hb,e⟩:=F6 z;obtain⟨f0,f1,f2,_⟩:=hf p.1 hb;obtain⟨o,e',d⟩:=ho p.1 hb;rw[e] at e';cases e';exact⟨e,f0,f1,f2,d⟩
theorem Inv.unpinned{pins pl:gG}{σ:St}{H:Hp}{s:gb}(I:Inv X (pins++pl) σ H s):Inv X pins σ H s:=I.pins_of fun p hp=>I.pin p (nO _ (vp _ hp))
theorem NC{iter:gf}{body:List Stmt}{wi:TI}{g:TG}{tb:TS}{pos:Pos}(hp:PassesOwn (model X.prog X.w) X.A X.env X.xe)(hc:X.calm=true)(hi:PI X tg iter wi)(hg:PG X tg g)(hb:PSs X body tb)
  (hs: ∀x,foldedSetIterable iter X.env x=pure x:=by intro _;rfl):PS X (.For tg iter body [] pos) (Q0 wi g tb):=by
 intro pins s σ H D I h;refine wpAny_For (thn (hi pins s σ H _ I h) fun v s1 h1=>thn h1 fun dS s2 h2=>?_) hs;obtain⟨it,fp,tn,J,H2,e,I2,T,g9,f2,W,⟨m0,w0⟩,turn⟩:=h2;subst e;have v7: ∀{H':Hp},(∀b∈fp,H' b=none)-> ∀b∈fp,mJ X pins H' b:=fun hn b hb=>⟨hn b hb,(f2 b hb).2⟩
 refine codeAny_forLoop_any (fun n s'=> ∃i σ' H',Inv X pins σ' H' s'/\tn i s'.heap/\(∀b∈fp,H' b=none)/\W i n σ' H') ?_ m0 ⟨0,σ,H2,I2,g9,fun b hb=>(f2 b hb).1,w0⟩;rintro n s3 ⟨i,σ3,H3,I3,j4,cW,w3⟩;rcases turn i n σ3 H3 w3 with⟨stop,qn⟩|⟨go,N,hN,step⟩
 ·refine qC hp (thn (T.done X rfl rfl rfl hc i pins s3 σ3 H3 X.xe I3 (v7 cW) j4 stop) fun r s4 ⟨hr,I4⟩=>?_);subst hr;exact CK ⟨σ3,H3,I4,qn⟩
 ·refine qC hp (thn (T.item X rfl rfl rfl hc i pins s3 σ3 H3 X.xe I3 (v7 cW) j4 go) fun r s4 ⟨u,hr,h4⟩=>?_);subst hr;refine qC hp (thn h4 fun _ s5 ⟨x,H5,I5,r5,y5,aV,fK⟩=>?_);have fR:=I5.pinned (v7 fK) (T.obj _ _ aV);refine qC hp (thn (hg _ s5 σ3 H5 x u _ fR r5 (step x H5 y5)) fun _ s6 ⟨σ6,H6,I6,q6⟩=>?_);refine qC hp (thn (hb _ s6 σ6 H6 _ I6 q6) fun f s7 q7=>?_)
  have again: ∀{σ7:St} {H7:Hp},Inv X (pins++vS fp s5.heap) σ7 H7 s7->N σ7 H7-> ∃m,m<n/\ ∃i σ' H',Inv X pins σ' H' s7/\tn i s7.heap/\(∀b∈fp,H' b=none)/\W i m σ' H':=fun {σ7 H7} I7 n7=>by
   obtain⟨m',hm,w7⟩:=hN σ7 H7 n7;refine⟨m',hm,i+1,σ7,H7,I7.unpinned,T.keep _ _ _ aV fun b hb o e=>(I7.pin (b,o) (nO _ (nO _ (nE hb e)))).1,fun b hb=>?_,w7⟩;obtain⟨o,e,d⟩:=T.obj _ _ aV b hb;exact(I7.pin (b,o) (nO _ (nO _ (nE hb e)))).2.1
  cases f with
  |next=>obtain⟨σ7,H7,I7,n7⟩:=q7;exact again I7 n7
  |cont=>obtain⟨σ7,H7,I7,n7⟩:=q7;exact again I7 n7
  |brk=>obtain⟨σ7,H7,I7,q7⟩:=q7;exact⟨σ7,H7,I7.unpinned,q7⟩
  |ret v=>obtain⟨x7,σ7,H7,I7,r7,q7⟩:=q7;exact⟨x7,σ7,H7,I7.unpinned,r7,q7⟩
end
abbrev R2:=V->V->Hp->VK->Prop
def OpR(X:Cx)(f:ub)(r:R2):Prop:=
 ∀(pins:gG) (s:gb) (σ:St) (H:Hp) (x y:V) (v u:gi) (Q:VK),Inv X pins σ H s->RelV x v->RelV y u->r x y H Q->
  wpAny (model X.prog X.w) X.A (f v u) (EP X pins σ Q) X.xe s
def UnR(X:Cx)(f:Value->Sem Value)(r:V->Hp->VK->Prop):Prop:=
 ∀(pins:gG) (s:gb) (σ:St) (H:Hp) (x:V) (v:gi) (Q:VK),Inv X pins σ H s->RelV x v->r x H Q->
  wpAny (model X.prog X.w) X.A (f v) (EP X pins σ Q) X.xe s
def iV(X:Cx)(f:gi)(r:List V->Hp->VK->Prop):Prop:=
 ∀(pins:gG) (s:gb) (σ:St) (H:Hp) (xs:List V) (us:hJ) (Q:VK),Inv X pins σ H s->Vals xs us->r xs H Q->
  wpAny (model X.prog X.w) X.A (call f us) (EP X pins σ Q) X.xe s
def Se(X:Cx)(r:V->Hp->(Bool->Hp->Prop)->Prop):Prop:=
 ∀(pins:gG) (s:gb) (σ:St) (H:Hp) (x:V) (v:gi) (Q:Bool->Hp->Prop),Inv X pins σ H s->RelV x v->r x H Q->
  wpAny (model X.prog X.w) X.A (truthy v) (TP X pins σ Q) X.xe s
noncomputable def tOp(r:R2)(ta tb:TE):TE:=fun σ H Q=>ta σ H fun x H1=>tb σ H1 fun y H2=>r x y H2 Q
def tUn(r:V->Hp->VK->Prop)(ta:TE):TE:=fun σ H Q=>ta σ H fun x H1=>r x H1 Q
def rI(C:Int->Int->Prop)(g:Int->Int->V):R2:=fun x y H Q=> ∃i j,x= .int i/\y= .int j/\C i j/\Q (g i j) H
def rI0(g:Int->Int->V):R2:=fun x y H Q=> ∃i j,x= .int i/\y= .int j/\Q (g i j) H
def rU(g:Int->V):V->Hp->VK->Prop:=fun x H Q=> ∃i,x= .int i/\Q (g i) H
section
variable {X:Cx}{a b c:gf}{ta tb tc:TE}{pos:Pos}
theorem Ox(ha:PE X a ta)(hb:PE X b tb){pins:gG}{s:gb}{σ:St}{H:Hp}{R:V->V->Hp->Prop}(I:Inv X pins σ H s)
  (h:ta σ H fun x H1=>tb σ H1 fun y H2=>R x y H2){Q:gD}{f:ub}
  (hf: ∀v u s2 x y H2,Inv X pins σ H2 s2->RelV x v->RelV y u->R x y H2->wpAny (model X.prog X.w) X.A (f v u) Q X.xe s2):
  wpAny (model X.prog X.w) X.A (eval a X.env) (fun v s₁=>wpAny (model X.prog X.w) X.A (eval b X.env) (fun u s₂=>wpAny (model X.prog X.w) X.A (f v u) Q X.xe s₂) X.xe s₁) X.xe s:=by
 refine thn (ha pins s σ H _ I h) fun v s1 ⟨x,H1,I1,r1,q1⟩=>?_;refine thn (hb pins s1 σ H1 _ I1 q1) fun u s2 ⟨y,H2,I2,r2,q2⟩=>?_;exact hf v u s2 x y H2 I2 r1 r2 q2
theorem PC{op:Operator}{r:R2}(ho:OpR X (binaryOp op) r)(ha:PE X a ta)(hb:PE X b tb):PE X (.BinOp a op b pos) (tOp r ta tb):=by
 intro pins s σ H Q I h;exact wpAny_BinOp (Ox ha hb I h fun v u s2 x y H2 I2 rx ry q=>ho pins s2 σ H2 x y v u Q I2 rx ry q)
theorem Pz{op:UnaryOp}{r:V->Hp->VK->Prop}(ho:UnR X (unaryOp op) r)(ha:PE X a ta):PE X (.UnaryOp op a pos) (tUn r ta):=by
 intro pins s σ H Q I h;exact UnaryOp_ (thn (ha pins s σ H _ I h) fun v s1 ⟨x,H1,I1,r1,q1⟩=>ho pins s1 σ H1 x v Q I1 r1 q1)
theorem opI{f:ub}{C:Int->Int->Prop}{g:Int->Int->Int}
  (rule: ∀(i j:Int) (t u:Tok) (s:gb) (Q:gD) (E:gD),C i j->Q (.int (g i j) s.toks) {s with toks:=s.toks+1}->wpAny (model X.prog X.w) X.A (f (.int i t) (.int j u)) Q E s):
  OpR X f (rI C fun i j=> .int (g i j)):=by
 intro pins s σ H x y v u Q I rx ry h;obtain⟨i,j,rfl,rfl,hc,q⟩:=h;obtain⟨t,rfl⟩:=rx;obtain⟨t',rfl⟩:=ry;exact rule i j t t' s _ _ hc ⟨.int (g i j),H,I.tok _,⟨_,rfl⟩,q⟩
theorem PN{f:ub}{g:Int->Int->Int}
  (rule: ∀(i j:Int) (t u:Tok) (s:gb) (Q:gD) (E:gD),Q (.int (g i j) s.toks) {s with toks:=s.toks+1}->wpAny (model X.prog X.w) X.A (f (.int i t) (.int j u)) Q E s):
  OpR X f (rI0 fun i j=> .int (g i j)):=by
 intro pins s σ H x y v u Q I rx ry h;obtain⟨i,j,rfl,rfl,q⟩:=h;obtain⟨t,rfl⟩:=rx;obtain⟨t',rfl⟩:=ry;exact rule i j t t' s _ _ ⟨.int (g i j),H,I.tok _,⟨_,rfl⟩,q⟩
theorem LD{f:ub}{g:Int->Int->Bool}
  (rule: ∀(i j:Int) (t u:Tok) (s:gb) (Q:gD) (E:gD),Q (.bool (g i j)) s->wpAny (model X.prog X.w) X.A (f (.int i t) (.int j u)) Q E s):
  OpR X f (rI0 fun i j=> .bl (g i j)):=by
 intro pins s σ H x y v u Q I rx ry h;obtain⟨i,j,rfl,rfl,q⟩:=h;obtain⟨t,rfl⟩:=rx;obtain⟨t',rfl⟩:=ry;exact rule i j t t' s _ _ ⟨.bl (g i j),H,I,rfl,q⟩
def GD(i j:Int):Prop:=0<j/\j<1073741824
def Ao(i j:Int):Prop:=0<=j/\j<=1000000/\i.natAbs<2^64
def CMul(i j:Int):Prop:=(-(2^64)<i/\i<2^64)\/(-(2^64)<j/\j<2^64)
theorem CMul.ok{i j:Int}(h:CMul i j):IntMulOk i j:=by
 rcases h with⟨h1,h2⟩|⟨h1,h2⟩
 ·exact .of_left (intBits_le_64 h1 h2)
 ·exact .of_right (intBits_le_64 h1 h2)
theorem NY:OpR X (binaryOp .Add) (rI0 fun i j=> .int (i+j)):=PN fun _ _ _ _ _ _ _ q=>add_int q
theorem NS:OpR X (binaryOp .Sub) (rI0 fun i j=> .int (i-j)):=PN fun _ _ _ _ _ _ _ q=>sub_int q
theorem NV:OpR X (binaryOp .Mult) (rI CMul fun i j=> .int (i*j)):=opI fun _ _ _ _ _ _ _ hc q=>mul_int q hc.ok
theorem LB:OpR X (binaryOp .FloorDiv) (rI GD fun i j=> .int (i / j)):=opI fun i j _ _ _ _ _ hc q=>by
 have h1:(0:Int)<j:=hc.1;have h2:j<1073741824:=hc.2;exact floordiv_int (by omega) (by rw[Int.fdiv_eq_ediv_of_nonneg i (by omega)];exact q) (.inl (PyProof.noPylong_small (by omega)))
theorem NW:OpR X (binaryOp .Mod) (rI (fun _ j=>0<j) fun i j=> .int (i%j)):=opI fun i j _ _ _ _ _ hc q=>by
 have h1:(0:Int)<j:=hc;exact mod_int' (by omega) (by rw[Int.fmod_eq_emod_of_nonneg i (by omega)];exact q)
theorem NT:OpR X (binaryOp .Pow) (rI Ao fun i j=> .int (i^j.toNat)):=opI fun _ _ _ _ _ _ _ hc q=>pow_int_small hc.1 hc.2.1 hc.2.2 q
theorem unI{f:Value->Sem Value}{g:Int->Int}
  (rule: ∀(i:Int) (t:Tok) (s:gb) (Q:gD) (E:gD),Q (.int (g i) s.toks) {s with toks:=s.toks+1}->wpAny (model X.prog X.w) X.A (f (.int i t)) Q E s):
  UnR X f (rU fun i=> .int (g i)):=by
 intro pins s σ H x v Q I rx h;obtain⟨i,rfl,q⟩:=h;obtain⟨t,rfl⟩:=rx;exact rule i t s _ _ ⟨.int (g i),H,I.tok _,⟨_,rfl⟩,q⟩
theorem ML:UnR X (unaryOp .USub) (rU fun i=> .int (-i)):=unI fun _ _ _ _ _ q=>neg_int q
theorem PJ:OpR X (compareOp .Lt) (rI0 fun i j=> .bl (decide (i<j))):=LD fun _ _ _ _ _ _ _ q=>lt_int q
theorem PK:OpR X (compareOp .LtE) (rI0 fun i j=> .bl (decide (i<=j))):=LD fun _ _ _ _ _ _ _ q=>le_int q
theorem PL:OpR X (compareOp .Gt) (rI0 fun i j=> .bl (decide (j<i))):=LD fun _ _ _ _ _ _ _ q=>gt_int q
theorem PM:OpR X (compareOp .GtE) (rI0 fun i j=> .bl (decide (j<=i))):=LD fun _ _ _ _ _ _ _ q=>ge_int q
theorem Jg(b:gf){op:CmpOp}(h:op≠ .In:=by decide)(h2:op≠ .NotIn:=by decide):behindInMarks op b=false:=by
 have e1:(op==CmpOp.In)=false:=by cases op<;>first|rfl|exact absurd rfl h
 have e2:(op==CmpOp.NotIn)=false:=by cases op<;>first|rfl|exact absurd rfl h2
 cases b<;>simp[behindInMarks,e1,e2]
theorem Lw{op:CmpOp}{r:R2}(ho:OpR X (compareOp op) r)(ha:PE X a ta)(hb:PE X b tb)(hm:behindInMarks op b=false):PE X (.Compare a [op] [b] pos) (tOp r ta tb):=by
 intro pins s σ H Q I h;exact wpAny_Compare1 (Ox ha hb I h fun v u s2 x y H2 I2 rx ry q=>ho pins s2 σ H2 x y v u Q I2 rx ry q) hm
def OS(t:TE):TT:=fun σ H Q=>t σ H fun x H'=> ∃k,x= .bl k/\Q k H'
theorem Lh{op:CmpOp}{r:R2}(ho:OpR X (compareOp op) r)(ha:PE X a ta)(hb:PE X b tb)(hm:behindInMarks op b=false):PT X (.Compare a [op] [b] pos) (OS (tOp r ta tb)):=by
 intro pins s σ H Q I h
 refine wpAny_isTrue_Compare1 (thn (ha pins s σ H _ I h) fun v s1 ⟨x,H1,I1,r1,q1⟩=>thn (hb pins s1 σ H1 _ I1 q1) fun u s2 ⟨y,H2,I2,r2,q2⟩=>
  thn (ho pins s2 σ H2 x y v u _ I2 r1 r2 q2) fun c s3 ⟨z,H3,I3,r3,k,e,q3⟩=>?_) hm
 subst e;cases r3;exact oK ⟨H3,I3,q3⟩
def HM(r r':R2)(ta tb tc:TE):TE:=fun σ H Q=>ta σ H fun x H1=>tb σ H1 fun y H2=>r x y H2 fun z H3=> ∃k,z= .bl k/\
 (if k=true then tc σ H3 fun w' H4=>r' y w' H4 Q else Q (.bl false) H3)
theorem IZ{op t5:CmpOp}{r r':R2}(ho:OpR X (compareOp op) r)(aw:OpR X (compareOp t5) r')(ha:PE X a ta)(hb:PE X b tb)(hc:PE X c tc)
  (hm:lastMarks [op,t5] [b,c]=false:=by with_unfolding_all rfl):PE X (.Compare a [op,t5] [b,c] pos) (HM r r' ta tb tc):=by
 intro pins s σ H Q I h
 refine Compare_chain (thn (ha pins s σ H _ I h) fun v s1 ⟨x,H1,I1,r1,q1⟩=>chain_link (thn (hb pins s1 σ H1 _ I1 q1) fun u s2 ⟨y,H2,I2,r2,q2⟩=>
  thn (ho pins s2 σ H2 x y v u _ I2 r1 r2 q2) fun d s3 ⟨z,H3,I3,r3,k,e,q3⟩=>?_)) hm
 subst e;cases r3;refine oK ?_
 cases k with
 |false=>exact ite_ff ⟨.bl false,H3,I3,rfl,q3⟩
 |true=>exact ite_tt (chain_last (thn (hc pins s3 σ H3 _ I3 q3) fun w' s4 ⟨z',H4,I4,r4,q4⟩=>aw pins s4 σ H4 y z' u w' Q I4 r2 r4 q4))
def Qj(K:gu)(x:V)(H:Hp)(k:Bool):Prop:=
 match x with
 | .non=>k=false
 | .bl b=>k=b
 | .int i=>k=(i !=0)
 | .str y=>y.length<=sizeLine/\k=((y.length:Int) !=0)
 | .byt y=>y.size<=sizeLine/\k=((y.size:Int) !=0)
 | .ref p=>(∃xs,SqL K H p xs/\k=!xs.isEmpty)\/(∃xs,SqT K H p xs/\k=!xs.isEmpty)\/ ∃kvs,H p=some (.dK kvs)/\k=!kvs.isEmpty
 |_=>False
theorem DF{κ:Type}{kvs:List (κ×V)}{vs:List (κ×Value)}(r:KV kvs vs):(!vs.isEmpty)=!kvs.isEmpty:=by
 cases r<;>rfl
theorem wt{xs:List V}{b6:hJ}(r:Vals xs b6):(!b6.toArray.isEmpty)=!xs.isEmpty:=by
 cases r<;>simp
theorem wk:(sizeLine:Nat)<2^63:=by rw[jd];decide
theorem MM:Se X (fun x H Q=> ∃k,Qj X.K x H k/\Q k H):=by
 intro pins s σ H x v Q I rx h;obtain⟨k,e,q⟩:=h;have hl:=wk;have hs:sizeLine=16777216:=jd
 cases x with
 |non=>
  cases rx;have e':k=false:=e;subst e';exact truthy_none ⟨H,I,q⟩
 |bl b=>
  cases rx;have e':k=b:=e;subst e';exact oK ⟨H,I,q⟩
 |int i=>
  obtain⟨t,rfl⟩:=rx;have e':k=(i !=0):=e;subst e';exact PySem.P.truthy_int ⟨H,I,q⟩
 |str y=>
  obtain⟨t,rfl⟩:=rx;obtain⟨hy,e'⟩:y.length<=sizeLine/\k=((y.length:Int) !=0):=e;subst e';exact PySem.P.truthy_str (by omega) ⟨H,I.tok _,q⟩
 |byt y=>
  obtain⟨t,rfl⟩:=rx;obtain⟨hy,e'⟩:y.size<=sizeLine/\k=((y.size:Int) !=0):=e;subst e';exact PySem.W.truthy_bytes (by omega) ⟨H,I.tok _,q⟩
 |ref p=>
  cases rx;have e':(∃xs,SqL X.K H p xs/\k=!xs.isEmpty)\/(∃xs,SqT X.K H p xs/\k=!xs.isEmpty)\/ ∃kvs,H p=some (.dK kvs)/\k=!kvs.isEmpty:=e;rcases e' with⟨xs,hx,e'⟩|⟨xs,hx,e'⟩|⟨kvs,hx,e'⟩
  ·subst e';obtain⟨b6,r,pl,hz⟩:=I.list hx;have hlen:=r.length;exact wpAny_truthy_list pl.isList (by simp only[gU];omega) ⟨H,I.tok _,by rw[wt r];exact q⟩
  ·subst e';obtain⟨b6,r,pl,hz⟩:=I.tuple hx;have hlen:=r.length;exact truthy_tuple pl (by simp only[gU];omega) ⟨H,I.tok _,by rw[wt r];exact q⟩
  ·subst e';obtain⟨hz,hS,vs,r,m⟩:kvs.length<=sizeLine/\(p==sysModules)=false/\ ∃vs,KV kvs vs/\s.heap.DictOf (iT X.prog X.w) p vs:=I.hok p _ hx;have hlen:kvs.length=vs.length:=tJ r;exact wpAny_truthy_dict hS m (by omega) ⟨H,I.tok _,by rw[DF r];exact q⟩
 |_=>exact(show False from e).elim
theorem Iu(ha:PE X a ta)(he: ∀whole,isTrue a X.env whole=(do let v <-whole;standAt a.pos;holding [v] (truthy v))):
  PT X a (fun σ H Q=>ta σ H fun x H'=> ∃k,Qj X.K x H' k/\Q k H'):=by
 intro pins s σ H Q I h;exact isTrue_plain (thn (ha pins s σ H _ I h) fun v s1 ⟨x,H1,I1,r1,q1⟩=>MM pins s1 σ H1 x v Q I1 r1 q1) (he _)
theorem Dk:OpR X (binaryOp .Add) (fun x y H Q=> ∃i j,x= .str i/\y= .str j/\i.length+j.length<=sizeLine/\Q (.str (i++j)) H):=by
 intro pins s σ H x y v u Q I rx ry h;obtain⟨i,j,rfl,rfl,hz,q⟩:=h;obtain⟨t,rfl⟩:=rx;obtain⟨t',rfl⟩:=ry;exact add_str (fun t' tk=>⟨.str (i++j),H,I.tok _,⟨_,rfl⟩,q⟩) hz
theorem rF{x:V}{us:hJ}(r:Vals [x] us): ∃u,us=[u]/\RelV x u:=by
 cases r with
 |cons r1 r2=>cases r2;exact⟨_,rfl,r1⟩
theorem vC{x y:V}{us:hJ}(r:Vals [x,y] us): ∃u w',us=[u,w']/\RelV x u/\RelV y w':=by
 cases r with
 |cons r1 r2=>
  cases r2 with
  |cons r3 r4=>cases r4;exact⟨_,_,rfl,r1,r3⟩
theorem J8:iV X (.builtin "abs") (fun xs H Q=> ∃i,xs=[.int i]/\Q (.int (if i<0 then -i else i)) H):=by
 intro pins s σ H xs us Q I r h;obtain⟨i,rfl,q⟩:=h;obtain⟨u,rfl,t,rfl⟩:=rF r;exact call_abs_int fun u tk=>⟨.int (if i<0 then -i else i),H,I.tok _,⟨_,rfl⟩,q⟩
theorem Gx(hc:X.calm=true):iV X (.builtin "max") (fun xs H Q=> ∃i j,xs=[.int i,.int j]/\Q (.int (if j>i then j else i)) H):=by
 intro pins s σ H xs us Q I r h;obtain⟨i,j,rfl,q⟩:=h;obtain⟨u,w',rfl,⟨t,rfl⟩,⟨t',rfl⟩⟩:=vC r;refine max_two_ints (I.ok.hd hc) fun h' tk k=>⟨_,H,I.kept k,?_,q⟩
 by_cases hj:j>i
 ·rw[gh hj,gh hj];exact⟨_,rfl⟩
 ·rw[gk hj,gk hj];exact⟨_,rfl⟩
theorem Gw(hc:X.calm=true):iV X (.builtin "min") (fun xs H Q=> ∃i j,xs=[.int i,.int j]/\Q (.int (if j<i then j else i)) H):=by
 intro pins s σ H xs us Q I r h;obtain⟨i,j,rfl,q⟩:=h;obtain⟨u,w',rfl,⟨t,rfl⟩,⟨t',rfl⟩⟩:=vC r;refine min_two_ints (I.ok.hd hc) fun h' tk k=>⟨_,H,I.kept k,?_,q⟩
 by_cases hj:j<i
 ·rw[gh hj,gh hj];exact⟨_,rfl⟩
 ·rw[gk hj,gk hj];exact⟨_,rfl⟩
theorem yu:iV X (.type "int") (fun xs H Q=>(∃i,xs=[.int i]/\Q (.int i) H)\/ ∃k,xs=[.bl k]/\Q (.int (if k then 1 else 0)) H):=by
 intro pins s σ H xs us Q I r h;rcases h with⟨i,rfl,q⟩|⟨k,rfl,q⟩
 ·obtain⟨u,rfl,t,rfl⟩:=rF r;exact call_int_int ⟨.int i,H,I,⟨_,rfl⟩,q⟩
 ·obtain⟨u,rfl,r1⟩:=rF r;cases r1;exact call_int_bool ⟨.int (if k then 1 else 0),H,I.tok _,⟨_,rfl⟩,q⟩
end
section
variable {prog:gw}{w:gm}{A:gv}{E:gD}{s:gb}{K:gu}{x dx C f:fV}{mA:ke}{name:Str}{v:gi}
end
section
variable {P:gw}{w:gm}{H H':Hp}{h h':gz}{a C dx:fV}{fs fs':List (Str×V)}
end
section
variable {X:Cx}{pins:gG}{σ:St}{H:Hp}{s:gb}{a C dx:fV}{fs:List (Str×V)}{f:Str}{v:V}{A:gv}{E:gD}
end
section
variable {X:Cx}{o e value:gf}{f:Str}{pos pos' y6:Pos}{ta tv:TE}
end
section
variable {X:Cx}{pins:gG}{σ:St}{H:Hp}{s:gb}{A:gv}{E:gD}{Q:gD}{c:gi}{b:Bool}
end
structure Room(k:Nat)(A:gv):Prop where
 hd:A.handled=none
 dp:A.depth+3*k+5<recursionLimit
 un:A.units+16*k+200<cLine
 gd:A.guards=some []:=by rfl
theorem Room.mono{j k:Nat}{A:gv}(r:Room k A)(h:j<=k):Room j A:=⟨r.hd,by have:=r.dp;omega,by have:=r.un;omega,r.gd⟩
theorem Room.deeper{k:Nat}{A:gv}(r:Room (k+1) A)(env:Env):Room k (A.deeper env):=
 ⟨r.hd,by have:=r.dp;show A.depth+1+3*k+5<_;omega,by have:=r.un;show A.units+3+16*k+200<_;omega,r.gd⟩
theorem Room.depth{k:Nat}{A:gv}(r:Room k A):A.depth<recursionLimit:=by have:=r.dp;omega
noncomputable def QV:TA:=fun _ H Q=>Q [] H
noncomputable def OY(ta:TE)(tr:TA):TA:=fun σ H Q=>ta σ H fun x H1=>tr σ H1 fun xs H2=>Q (x::xs) H2
section
variable {X:Cx}{e:gf}{es:iF}{te:TE}{t:TA}{pos:Pos}
theorem mH:PA X [] QV:=fun _ _ _ _ H Q I h=>Calls.spliced_nil ⟨[],H,I,.nil,h⟩
theorem jK(ha:PE X e te)(hr:PA X es t)(hs:starEach (e::es) X.env=(false,eval e X.env)::starEach es X.env:=by rfl):PA X (e::es) (OY te t):=by
 intro pos pins s σ H Q I h;rw[hs];show wpAny _ _ (spliced ((false,eval e X.env)::backTo pos (starEach es X.env))) _ _ s;refine Calls.spliced_cons (thn (ha pins s σ H _ I h) fun u s1 ⟨x,H1,I1,r1,q1⟩=>?_);exact thn (hr pos pins s1 σ H1 _ I1 q1) fun us s2 ⟨xs,H2,I2,r2,q2⟩=>⟨x::xs,H2,I2,.cons r1 r2,q2⟩
noncomputable def QN(t:TA):TE:=fun σ H Q=>t σ H fun xs H1=>xs.length<=sizeLine/\ ∀p,H1 p=none->Q (.ref p) (upd H1 p (.tup xs))
noncomputable def QY(t:TA):TE:=fun σ H Q=>t σ H fun xs H1=>xs.length<=sizeLine/\ ∀p,H1 p=none->Q (.ref p) (upd H1 p (.lst xs))
theorem IT{x1}(h:PA X es t):PE X (.Tuple es x1 pos) (QN t):=by
 intro pins s σ H Q I hq;refine wpAny_Tuple_spliced (thn (h pos pins s σ H _ I hq) fun us s1 ⟨xs,H1,I1,r,z,q⟩=>⟨by rw[<-r.length];exact z,?_⟩);have hf:H1 s1.heap.objs.size=none:=I1.hok.fresh (gQ _);refine⟨.ref s1.heap.objs.size,upd H1 s1.heap.objs.size (.tup xs),I1.laid (t':=s1.toks) (fun b u e=>gY _ e) (gQ _) ?_,rfl,q _ hf⟩;exact⟨z,us,r,⟨_,iU _ rfl,rfl,_,rfl⟩⟩
theorem NN(h:PA X es t):PE X (.List es pos) (QY t):=by
 intro pins s σ H Q I hq;refine wpAny_List_spliced (thn (h pos pins s σ H _ I hq) fun us s1 ⟨xs,H1,I1,r,z,q⟩=>⟨by rw[<-r.length];exact z,?_⟩);have hf:H1 s1.heap.objs.size=none:=I1.hok.fresh (gQ _);refine⟨.ref s1.heap.objs.size,upd H1 s1.heap.objs.size (.lst xs),I1.laid (t':=s1.toks) (fun b u e=>gY _ e) (gQ _) ?_,rfl,q _ hf⟩;exact⟨z,us,0,r,iU _ rfl⟩
end
abbrev Sp:=List V->Hp->VK->XK->Prop
abbrev CXT:=List Env->Hp->Shared->XK->Value->Shared->Prop
structure Env0(P:gw)(w:gm)(K:gu)(mg:ke)(base:gz)(A:gv)(outer:List Env)(s:gb)(H:Hp):Prop where
 frames:A.frames=some outer
 mod:Mod K mg base
 bs: ∀b o,base.get? b=some o->s.heap.get? b=some o/\H b=none
 bsz:base.objs.size<=s.heap.objs.size
 funs:s.heap.FunFrames base outer
 frf: ∀b∈frs outer,H b=none
 hok:HOk P w H s.heap
 bare:AllBare s.gens
def CE(outer:List Env)(P:gw)(w:gm)(H:Hp)(s:gb)(Q:VK)(u:gi)(s':gb):Prop:=
 ∃v H',s'.os=s.os/\AllBare s'.gens/\Un (frs outer) [] H H' s.heap s'.heap/\HOk P w H' s'.heap/\RelV v u/\Q v H'
def CR(CX:CXT)(outer:List Env)(P:gw)(w:gm)(H:Hp)(s:gb)(Q:VK)(E:XK)(r:Result)(s':gb):Prop:=
 match r with
 | .ok (.ret u)=>CE outer P w H s Q u s'
 | .ok _=>False
 | .error e=>CX outer H s E e s'
structure FnOk(P:gw)(w:gm)(K:gu)(mg:ke)(base:gz)(CX:CXT)(k:Nat)(f:fV)(fd:kI)(ps:gJ)(sp:Sp):Prop where
 len: ∀vs H Q E,sp vs H Q E->vs.length=ps.length
 run: ∀(A:gv) (outer:List Env) (s:gb) (H:Hp) (args:Args) (us:hJ) (vs:List V) (Q:VK) (E:XK),Room k A->Env0 P w K mg base A outer s H->BindsTo s fd args (ps.zip us)->Vals vs us->sp vs H Q E->
  codeAny (model P w) A (.call (.ref f) args) (CR CX outer P w H s Q E) s
theorem FnOk.mono{P:gw}{w:gm}{K:gu}{mg:ke}{base:gz}{CX:CXT}{j k:Nat}{f:fV}{fd:kI}{ps:gJ}{sp:Sp}(F:FnOk P w K mg base CX j f fd ps sp)(h:j<=k):
  FnOk P w K mg base CX k f fd ps sp:=⟨F.len,fun A outer s H args us vs Q E hr=>F.run A outer s H args us vs Q E (hr.mono h)⟩
section
variable {X:Cx}{pins:gG}{σ:St}{H:Hp}{s s':gb}
theorem Inv.env0(I:Inv X pins σ H s):Env0 X.prog X.w X.K X.mg X.base X.A X.stack s H:=
 ⟨I.ok.frames,I.ok.mod,I.bs,kx I.ok.bsz I.sz,I.stack,I.stkFree,I.hok,I.bare⟩
theorem Inv.after{Q:VK}{u:gi}(I:Inv X pins σ H s)(h:CE X.stack X.prog X.w H s Q u s'):EP X pins σ Q u s':=by
 obtain⟨v,H',os,bare,un,hok,r,q⟩:=h;obtain⟨hh,g,d,t,dg⟩:=s';obtain rfl:dg=s.os:=os;exact⟨v,H',I.call (h':=hh) (g':=g) (d':=d) (t':=t) (ch:=[]) un hok bare (fun b z=>absurd z (by simp)),r,q⟩
end
noncomputable def OZ(sp:Sp)(bL:List V)(E:XK)(t:TA):TE:=fun σ H Q=>t σ H fun vs H1=>sp (vs++bL) H1 Q E
def Binds(K:gu)(fd:kI)(ps:gJ)(ds:hJ):Prop:=
 ∀(s:gb) (us:hJ),K.In s.heap->(us++ds).length=ps.length->BindsTo s fd ⟨us,[]⟩ (ps.zip (us++ds))
theorem Binds.all{K:gu}{fd:kI}{ps:gJ}(h: ∀us:List Value,us.length=ps.length->bindArgs fd ⟨us,[]⟩=pure (ps.zip us)):Binds K fd ps []:=fun s us _ hl=>by
 rw[qB] at hl ⊢;exact .of_eq (h us hl)
def Ea(CX:CXT)(X:Cx)(E:XK):Prop:= ∀(pins:gG) (σ:St) (H:Hp) (s:gb) (e:gi) (s':gb),Inv X pins σ H s->CX X.stack H s E e s'->X.xe e s'
section
variable {X:Cx}{CX:CXT}{k:Nat}{f C:fV}{fd:kI}{ps:gJ}{sp:Sp}{bL:List V}{ds:hJ}{E:XK}{x m:Str}{p pos apos:Pos}{e o:gf}{es:iF}{ta:TE}{t:TA}
theorem M0{pins:gG}{σ:St}{H:Hp}{s:gb}{Q:VK}{us:hJ}{vs:List V}(F:FnOk X.prog X.w X.K X.mg X.base CX k f fd ps sp)(hr:Room k X.A)(hb:Binds X.K fd ps ds)(hd:Vals bL ds)(hx:Ea CX X E)
  (I:Inv X pins σ H s)(r:Vals vs us)(h:sp (vs++bL) H Q E):wpAny (model X.prog X.w) X.A (call (.ref f) us) (EP X pins σ Q) X.xe s:=by
 have r2:Vals (vs++bL) (us++ds):=r.append hd;have hl:(us++ds).length=ps.length:=by rw[<-r2.length];exact F.len _ _ _ _ h
 refine wpAny_call (oJ (F.run X.A X.stack s H ⟨us,[]⟩ (us++ds) (vs++bL) Q E hr I.env0 (hb s us I.kIn hl) r2 h) fun r s' hq=>?_)
 cases r with
 |error e=>exact hx pins σ H s e s' I hq
 |ok fl=>
  cases fl with
  |ret u=>exact I.after hq
  |next=>exact False.elim hq
  |brk=>exact False.elim hq
  |cont=>exact False.elim hq
theorem Lx(F:FnOk X.prog X.w X.K X.mg X.base CX k f fd ps sp)(hr:Room k X.A)(hg:Gl X x)(hm:X.mg x=some (.ref f))(hk:PySem.W.keepIn X.K (.ref f)=true)(hb:Binds X.K fd ps ds)(hd:Vals bL ds)(hx:Ea CX X E)
  (ha:PA X (e::es) t)(j8:(x==("__debug__":Str))=false:=by decide)(he:starEach (e::es) X.env=(false,eval e X.env)::starEach es X.env:=by rfl)(i4:(backTo pos (starEach es X.env)).any (·.1)=false:=by rfl):
  PE X (.Call (.Name x p) (e::es) [] pos) (OZ sp bL E t):=by
 intro pins s σ H Q I h;refine vm (EU I hg hm ?_ j8);refine PySem.W.callWith_K (h₀:=X.base) I.ok.mod.kin hk (thn (ha pos pins s σ H _ I h) fun us s1 ⟨vs,H1,I1,r,q⟩=>⟨I1.kIn,?_⟩) he i4;exact M0 F hr hb hd hx I1 r q
end
section
variable {X:Cx}{CX:CXT}{k:Nat}{f C:fV}{fd:kI}{ps ks:gJ}{sp:Sp}{E:XK}{x m:Str}{p pos apos kpos:Pos}{e o:gf}{es:iF}{kws:List Keyword}{te ta:TE}{t tk:TA}{nm:Option Str}
variable {g:List Value->List Value->List Value}{gV:List V->List V->List V}
end
structure FnScope(N P:gJ)(sc:iC):Prop where
 kind:sc.kind= .function
 co:sc.isCoroutine=false
 gen:sc.isGenerator=false
 nd:N.Nodup
 pre:N.take P.length=P
 par: ∀x∈P,sc.names.lookup x=some .local\/sc.names.lookup x=some .cell
 nofree: ∀y∈sc.names,y.2≠ .free
theorem yy{kindOf:Str->Option NameKind}{x:Str}: ∀{binds:List (Str×Value)} {m:ke},(∀v,(x,v)∉binds)->bindL kindOf binds m x=m x
 |[],_,_=>rfl
 |(n,v)::r,m,h=>by
  unfold bindL;rw[yy fun w hw=>h w (hU _ hw)];split
  ·have:x≠n:=by rintro rfl;exact h v ic
   simp[this]
  ·rfl
theorem yA{kindOf:Str->Option NameKind}{x:Str}: ∀{binds:List (Str×Value)} {m:ke},(∀v,(x,v)∉binds)->bindC kindOf binds m x=m x
 |[],_,_=>rfl
 |(n,v)::r,m,h=>by
  unfold bindC;rw[yA fun w hw=>h w (hU _ hw)];split
  ·rfl
  ·have:x≠n:=by rintro rfl;exact h v ic
   simp[this]
theorem yz{kindOf:Str->Option NameKind}{x:Str}{v:gi}: ∀{P:gJ} {vs:hJ} {i:Nat} {m:ke},P.Nodup->P[i]?=some x->vs[i]?=some v->kindOf x=some .local->
  bindL kindOf (P.zip vs) m x=some v
 |[],_,_,_,_,h,_,_=>by simp at h
 |_::_,[],_,_,_,_,h,_=>by simp at h
 |p::P,w::vs,0,m,nd,h1,h2,hk=>by
  simp at h1 h2;subst h1;subst h2;show bindL kindOf ((p,w)::P.zip vs) m p=_;unfold bindL;rw[yy fun v hv=>(ze.mp nd).1 (CG hv).1,gh hk];simp
 |p::P,w::vs,i+1,m,nd,h1,h2,hk=>by
  show bindL kindOf ((p,w)::P.zip vs) m x=_;unfold bindL;exact yz (i:=i) (ze.mp nd).2 (by simpa using h1) (by simpa using h2) hk
theorem yB{kindOf:Str->Option NameKind}{x:Str}{v:gi}: ∀{P:gJ} {vs:hJ} {i:Nat} {m:ke},P.Nodup->P[i]?=some x->vs[i]?=some v->kindOf x≠some .local->
  bindC kindOf (P.zip vs) m x=some v
 |[],_,_,_,_,h,_,_=>by simp at h
 |_::_,[],_,_,_,_,h,_=>by simp at h
 |p::P,w::vs,0,m,nd,h1,h2,hk=>by
  simp at h1 h2;subst h1;subst h2;show bindC kindOf ((p,w)::P.zip vs) m p=_;unfold bindC;rw[yA fun v hv=>(ze.mp nd).1 (CG hv).1,gk hk];simp
 |p::P,w::vs,i+1,m,nd,h1,h2,hk=>by
  show bindC kindOf ((p,w)::P.zip vs) m x=_;unfold bindC;exact yB (i:=i) (ze.mp nd).2 (by simpa using h1) (by simpa using h2) hk
noncomputable def qE(N:gJ)(vs:List V):St:=vs.map some++List.replicate (N.length-vs.length) none
noncomputable def BC(CX:CXT)(P:gw)(w:gm)(K:gu)(mg:ke)(base:gz)(N:gJ)(qual:Str)(scope:iC)(f:fV)(cd:gi)(A:gv)(outer:List Env)(s:gb)(H:Hp)(E:XK):Cx where
 prog:=P
 w:=w
 K:=K
 mg:=mg
 base:=base
 A:=A.deeper (envOfC qual scope s.heap.objs.size f cd)
 N:=N
 s₀:=s
 H₀:=H
 env:=envOfC qual scope s.heap.objs.size f cd
 outer:=outer
 stack:=envOfC qual scope s.heap.objs.size f cd::outer
 ex:=[]
 calm:=true
 fn:=fun _=>true
 pn:=[]
 xe:=fun e s'=>wpAny (model P w) (A.deeper (envOfC qual scope s.heap.objs.size f cd)) (leaving (envOfC qual scope s.heap.objs.size f cd) e) (fun _ bx=>CX outer H s E e bx) (fun e' bx=>CX outer H s E e' bx) s'
theorem BH{sc:iC}{n:Nat}{x:Str}(h:sc.names.lookup x=some .cell): ∃c,(cellsFrom n sc.names []).lookup x=some c:=by
 have q:=zd sc.names n [] (.inl h);exact GH.mp q
theorem Gh{CX:CXT}{P:gw}{w:gm}{K:gu}{mg:ke}{base:gz}{N ps:gJ}{qual:Str}{scope:iC}{f:fV}{cd:gi}{A:gv}{outer:List Env}{s s1:gb}{H:Hp}{E:XK}{us:hJ}{vs:List V}
  (S:FnScope N ps scope)(hd:A.handled=none)(e0:Env0 P w K mg base A outer s H)(hl:vs.length=ps.length)(r:Vals vs us)
  (x:InCallC s s.heap.objs.size (bindL (envOfC qual scope s.heap.objs.size f cd).kindOf (ps.zip us) fun _=>none) (cellsFrom (s.heap.objs.size+1) scope.names []) (bindC (envOfC qual scope s.heap.objs.size f cd).kindOf (ps.zip us) fun _=>none) s1):
  Inv (BC CX P w K mg base N qual scope f cd A outer s H E) [] (qE N vs) H s1:=by
 have i4:ps.length<=N.length:=by have:=nQ List.length S.pre;rw[ou] at this;omega
 obtain⟨h1,tk,rfl,hk⟩:=x.done;have dh: ∀b:Addr,b∉(BC CX P w K mg base N qual scope f cd A outer s H E).ex:=fun b z=>absurd (show b∈([]:List Addr) from z) (by simp)
 refine⟨⟨e0.mod,S.kind,rfl,rfl,gQ _,fun y z c h1 h2=>?_,fun y hy=>?_,fun y c _ h=>?_,fun _=>hd,Around.frames_deeper e0.frames,.inr ⟨rfl,rfl⟩,fun b z=>absurd z (dh b),e0.bs,e0.bsz,fun b _ _=>dh b,fun b z=>absurd z (dh b),e0.funs,e0.frf⟩,
  rfl,e0.bare,Un.kept hk,⟨_,x.toInCall.ns,fun i y v h1 h2 h3=>?_⟩,fun y c h=>⟨_,x.cell y c h⟩,e0.hok.fresh (gQ _),fun y c h=>?_,fun p hp=>absurd (show p∈([]:List (Addr×Obj)) from hp) (by simp),e0.hok.kept hk,?_⟩
 ·exact name_of_addr x.apart (oI h1) (oI h2)
 ·have hy:scope.names.lookup y=some .cell\/scope.names.lookup y=some .free:=hy;rcases hy with hy|hy
  ·exact BH hy
  ·exact absurd rfl (S.nofree _ (oI hy))
 ·exact tH (x.above y c (oI h))
 ·have hi:i<vs.length:=by
   unfold qE at h2;by_cases hi:i<vs.length
   ·exact hi
   ·rw[tD (by simpa using hi)] at h2;rw[List.getElem?_replicate] at h2;split at h2<;>cases h2
  have ha:vs[i]?=some v:=by
   unfold qE at h2;rw[vh (by simpa using hi),iN] at h2
   cases e:vs[i]? with
   |none=>rw[e] at h2;cases h2
   |some a=>rw[e] at h2;cases h2;rfl
  obtain⟨u,hu,rv⟩:=r.get ha
  have hp:ps[i]?=some y:=by
   rw[<-S.pre,Ho (by omega)];exact h1
  have ndP:ps.Nodup:=by rw[<-S.pre];exact S.nd.sublist (mf _ _)
  refine⟨u,rv,?_⟩;rcases S.par y (kK hp) with k|k
  ·exact .inl ⟨k,yz ndP hp hu k⟩
  ·obtain⟨c,e⟩:=BH (n:=s.heap.objs.size+1) k;refine .inr ⟨.inl k,c,e,?_⟩;have q:=x.cell y c e;rw[yB ndP hp hu (by show scope.names.lookup y≠_;rw[k];decide)] at q;exact q
 ·exact e0.hok.fresh (tH (x.above y c (oI h)))
 ·unfold qE;show _=N.length;rw[lO,iq,List.length_replicate];omega
theorem P6{CX:CXT}{P:gw}{w:gm}{K:gu}{mg:ke}{base:gz}{k:Nat}{f:fV}{name qual:Str}{params:Arguments}{body:List Stmt}{scope:iC}{dV kV doc pm f6 ct oc:gi}{an od:Option Addr}
  {aq:qS}{N ps:gJ}{sp:Sp}(lk:K.lookup f=some ⟨oc,od,.func (PySem.W.fnOf name qual params body scope dV kV doc pm an f6 ct),aq⟩)(u7:PySem.W.codeIn K f6 qual=true)(S:FnScope N ps scope)
  (len: ∀vs H Q E,sp vs H Q E->vs.length=ps.length)
  (u9: ∀(A:gv) (outer:List Env) (s:gb) (H:Hp) (vs:List V) (Q:VK) (E:XK),Room k (A.deeper (envOfC qual scope s.heap.objs.size f f6))->sp vs H Q E->
   ∃t,PSs (BC CX P w K mg base N qual scope f f6 A outer s H E) body t/\t {nx:=fun _ H'=>Q .non H',rt:=Q} (qE N vs) H):
  FnOk P w K mg base CX (k+1) f (PySem.W.fnOf name qual params body scope dV kV doc pm an f6 ct) ps sp:=by
 refine⟨len,fun A outer s H args us vs Q E hr e0 hb r bD=>?_⟩;have hl:=len _ _ _ _ bD;have KX:K.In s.heap:=e0.mod.kin.keeps fun b o e=>(e0.bs b o e).1;have lim:s.heap.NoLimit:=e0.mod.nolimit.keeps fun b o e=>(e0.bs b o e).1
 have hkind: ∀y∈ps.zip us,scope.names.lookup y.1=some .local\/(scope.names.lookup y.1=some .cell/\((cellsFrom (s.heap.objs.size+1) scope.names []).lookup y.1).isSome=true):=fun⟨n,v⟩ hy=>by
  rcases S.par n (CG hy).1 with q|q
  ·exact .inl q
  ·exact .inr ⟨q,zd _ _ _ (.inl q)⟩
 refine codeAny_call_function hr.depth (KX _ _ lk) rfl S.co S.gen rfl (PySem.W.codeRec_of KX u7) (hb _ _ _ _ ?_);refine wpAny_newFunctionEnv_cells S.kind hkind fun env he s1 x=>?_;subst he;refine⟨lim.keeps x.toInCall.keep,codeAny_func ?_⟩;obtain⟨t,ht,hq⟩:=u9 A outer s H vs Q E (hr.deeper _) bD;have I:Inv (BC CX P w K mg base N qual scope f f6 A outer s H E) [] (qE N vs) H s1:=Gh S hr.hd e0 hl r x;refine ox (ht [] s1 (qE N vs) H _ I hq) (fun fl s' hs=>?_) fun e s' hs=>hs
 have fin: ∀{σ':St} {H':Hp} {v:V} {u:gi},Inv (BC CX P w K mg base N qual scope f f6 A outer s H E) [] σ' H' s'->RelV v u->Q v H'->CE outer P w H s Q u s':=
  fun {σ' H' v u} J rv q=>⟨v,H',J.os,J.bare,J.base,J.hok,rv,q⟩
 cases fl with
 |ret u=>
  obtain⟨v,σ',H',J,rv,q⟩:=hs;exact fin J rv q
 |next=>
  obtain⟨σ',H',J,q⟩:=hs;exact fin (v:=V.non) (u:=Value.none) J rfl q
 |brk=>
  obtain⟨_,_,_,q⟩:=hs;exact False.elim q
 |cont=>
  obtain⟨_,_,_,q⟩:=hs;exact False.elim q
section
variable {X:Cx}{x:Str}{p pos:Pos}{e:gf}{es:iF}{t:TA}{id T:String}{r:List V->Hp->VK->Prop}
def tCB(r:List V->Hp->VK->Prop)(t:TA):TE:=fun σ H Q=>t σ H fun vs H1=>r vs H1 Q
theorem rQ(hc:iV X (.builtin id) r)(hg:Gl X x)(hm:X.mg x=none)(hv:bootBuiltins x=some (.builtin id))(ha:PA X (e::es) t)(hn:x≠"__name__":=by decide)(j8:(x==("__debug__":Str))=false:=by decide)
  (he:starEach (e::es) X.env=(false,eval e X.env)::starEach es X.env:=by rfl)(i4:(backTo pos (starEach es X.env)).any (·.1)=false:=by rfl):PE X (.Call (.Name x p) (e::es) [] pos) (tCB r t):=by
 intro pins s σ H Q I h;refine vm (tP I hg hm hv ?_ hn j8);exact PyProof.Rows.callWith_builtin1 (thn (ha pos pins s σ H _ I h) fun us s1 ⟨vs,H1,I1,r1,q1⟩=>hc pins s1 σ H1 vs us Q I1 r1 q1) he i4
theorem mV(hc:iV X (.type T) r)(hg:Gl X x)(hm:X.mg x=none)(hv:bootBuiltins x=some (.type T))(ha:PA X (e::es) t)(hn:x≠"__name__":=by decide)(j8:(x==("__debug__":Str))=false:=by decide)
  (he:starEach (e::es) X.env=(false,eval e X.env)::starEach es X.env:=by rfl)(i4:(backTo pos (starEach es X.env)).any (·.1)=false:=by rfl):PE X (.Call (.Name x p) (e::es) [] pos) (tCB r t):=by
 intro pins s σ H Q I h;refine vm (tP I hg hm hv ?_ hn j8);exact CH (thn (ha pos pins s σ H _ I h) fun us s1 ⟨vs,H1,I1,r1,q1⟩=>hc pins s1 σ H1 vs us Q I1 r1 q1) he i4
end
end L2
namespace HT
open PySem PyProof.Rows
section
open PySem.SeqAt
open PySem.AutoSeq1 (wpAny_loadPart')
open PySem.MeetsSeq PySem.MeetsSeq2 PySem.MeetsSeq3
end
section
variable {prog:gw}{w:gm}{A:gv}{E:gD}{s:gb}
theorem Qh{t b:fV}{vs ws:hJ}{Q:gD}(ht:IsTup s.heap t vs.toArray)(hb:IsTup s.heap b ws.toArray)(hv:vs≠[])
  (h1:ws=[]->Q (.ref t) s)(h2:ws≠[]->Q (.ref s.heap.objs.size) {s with heap:=s.heap.push {cls:= .type "tuple",data:= .seq (vs++ws).toArray}})
  (hsz:vs.length+ws.length<=sizeLine):wpAny (model prog w) A (binaryOp .Add (.ref t) (.ref b)) Q E s:=by
 obtain⟨⟨cls,dd,data,sl⟩,ho,hc,n,hd⟩:=id ht;obtain⟨⟨cB,s9,data2,r6⟩,o8,bK,n2,hd2⟩:=id hb;simp only at hc hd bK hd2;subst hc hd bK hd2;have e:vs.toArray++ws.toArray=(vs++ws).toArray:=by simp
 by_cases hw:ws=[]
 ·exact zc ⟨_,ho,rfl⟩ ⟨_,o8,rfl⟩ CF CD CC CB (CA _ _)
   (tuple_addW1 t b vs.toArray ws.toArray n n2 dd s9 sl r6 (by simpa using hv) (by simp[hw])) ⟨ho,o8,h1 hw⟩
 ·refine zc ⟨_,ho,rfl⟩ ⟨_,o8,rfl⟩ CF CD CC CB (CA _ _)
   (tuple_addW2 t b vs.toArray ws.toArray n n2 dd s9 sl r6 (by simpa using hv) (by simpa using hw) (by rw[gU,gU];exact hsz)) ⟨ho,o8,?_⟩
  rw[e];exact h2 hw
noncomputable def sIx(n d:Nat):Option Int->Nat
 |none=>d
 |some v=>if v<0 then(v+(n:Int)).toNat else min v.toNat n
theorem OF(n d:Nat):sIx n d none=d:=rfl
theorem Ph(n d k:Nat):sIx n d (some (k:Int))=min k n:=by
 show(if(k:Int)<0 then((k:Int)+(n:Int)).toNat else min (k:Int).toNat n)=min k n;rw[gk (by omega),ot]
theorem MZ(n d:Nat)(hd:d<=n)(o:Option Int):sIx n d o<=n:=by
 cases o with
 |none=>exact hd
 |some v=>
  show(if v<0 then(v+(n:Int)).toNat else min v.toNat n)<=n;by_cases hv:v<0
  ·rw[gh hv];omega
  ·rw[gk hv];exact Nat.min_le_right _ _
theorem Fg(v:Int)(n d:Nat):(if v<0 then max (v+(n:Int)) 0 else min v (n:Int))=((sIx n d (some v):Nat):Int):=by
 show(if v<0 then max (v+(n:Int)) 0 else min v (n:Int))=(((if v<0 then(v+(n:Int)).toNat else min v.toNat n):Nat):Int)
 by_cases hv:v<0
 ·simp only[gh hv];omega
 ·simp only[gk hv];omega
theorem D7(lo hi:Option Int)(n:Nat):Builtin.Slice.sliceAdjust lo hi 1 (n:Int)=(((sIx n 0 lo:Nat):Int),((sIx n n hi:Nat):Int)):=by
 have h1: ¬((1:Int)<0):=by omega
 unfold Builtin.Slice.sliceAdjust;simp only[h1,ik];refine Prod.ext ?_ ?_
 ·cases lo with
  |none=>rfl
  |some v=>exact Fg v n 0
 ·cases hi with
  |none=>rfl
  |some v=>exact Fg v n n
theorem Df(i j:Nat):Builtin.Slice.slicePlaces (i:Int) (j:Int) 1=j-i:=by
 unfold Builtin.Slice.slicePlaces;have h1:(1:Int)>0:=by omega
 simp only[h1,gS,Int.ediv_one];split<;>omega
theorem vH{v:gi}{o:Option Int}{Q:Option Int->Shared->Prop}(p:IsPart v o)(h:Q o s):wpAny (model prog w) A (Builtin.Slice.slicePartIndex v) Q E s:=by
 cases p with
 |none=>exact slicePart_none h
 |int i t=>exact slicePart_int h
theorem mT{sl:fV}{vl vu:gi}{lo hi:Option Int}{n:Nat}{Q:Int×Int×Nat->Shared->Prop}(hs:s.heap.IsSliceOf sl vl vu .none)(pl:IsPart vl lo)(pu:IsPart vu hi)
  (h:Q (((sIx n 0 lo:Nat):Int),1,sIx n n hi-sIx n 0 lo) s):wpAny (model prog w) A (Builtin.Slice.sliceApplied (.ref sl) (pure (n:Int))) Q E s:=by
 obtain⟨os,bX,ez,dz⟩:=id hs;unfold Builtin.Slice.sliceApplied Builtin.Slice.sliceFields;refine fW (fW (lN bX dz (x:=vl) rfl (fW (lN bX dz (x:=vu) rfl (fW (lN bX dz (x:= .none) rfl (gg ?_)))))));refine fW (slicePart_none ?_);show wpAny _ _ (if((1:Int)==0)=true then _ else _) _ _ s;rw[gk (by decide)];refine fW (vH pl (fW (vH pu (fW (gg ?_)))));show wpAny _ _ (match Builtin.Slice.sliceAdjust lo hi 1 (n:Int) with|(lo,hi)=>pure (lo,(1:Int),Builtin.Slice.slicePlaces lo hi 1)) _ _ s;rw[D7 lo hi n];show wpAny _ _ (pure (((sIx n 0 lo:Nat):Int),(1:Int),Builtin.Slice.slicePlaces ((sIx n 0 lo:Nat):Int) ((sIx n n hi:Nat):Int) 1)) _ _ s;rw[Df];exact gg h
theorem IK(xs:jy)(i k:Nat):((List.range k).filterMap fun(m:Nat)=>xs[((i:Int)+(m:Int)*1).toNat]?).toArray=((xs.toList.drop i).take k).toArray:=by
 have e:(fun(m:Nat)=>xs[((i:Int)+(m:Int)*1).toNat]?)=fun m=>xs[i+m]?:=by
  funext m;have:((i:Int)+(m:Int)*1).toNat=i+m:=by omega
  rw[this]
 rw[e];have:=pick_run xs i k;rw[List.filterMap_map] at this;have e2:((fun x=>xs[x]?)∘fun x=>i+x)=fun m=>xs[i+m]?:=rfl;rw[e2] at this;rw[this]
theorem DH{t sl:fV}{items:jy}{vl vu:gi}{lo hi:Option Int}{Q:gD}(ht:IsTup s.heap t items)(hs:s.heap.IsSliceOf sl vl vu .none)(pl:IsPart vl lo)(pu:IsPart vu hi)
  (hw: ¬(sIx items.size 0 lo=0/\sIx items.size items.size hi=items.size))
  (h:Q (.ref s.heap.objs.size) {s with heap:=s.heap.push {cls:= .type "tuple",data:= .seq ((items.toList.drop (sIx items.size 0 lo)).take (sIx items.size items.size hi-sIx items.size 0 lo)).toArray}})
  (hsz:items.size<=sizeLine):wpAny (model prog w) A (getItem (.ref t) (.ref sl)) Q E s:=by
 have y2:sizeOk (.seq ((items.toList.drop (sIx items.size 0 lo)).take (sIx items.size items.size hi-sIx items.size 0 lo)).toArray):=by
  show((items.toList.drop (sIx items.size 0 lo)).take (sIx items.size items.size hi-sIx items.size 0 lo)).toArray.size<=sizeLine;rw[gU,ou,tx,iG];omega
 have hj:sIx items.size items.size hi<=items.size:=MZ _ _ (gQ _) hi;obtain⟨os,bX,ez,dz⟩:=id hs;have fG:s.TypeIs (.ref sl) "slice":=⟨os,bX,ez⟩
 unfold getItem
 try with_reducible refine kL ?_
 first|refine fW (gg ?_)|skip
 refine fW (wpAny_sequenceKey ht.typeIs (by decide) ?_)
 refine fW (qf (name:=Str.ofString "__getitem__") ht.typeIs wY
  (kX wY ht.typeIs Hn ?_ (args_tuple_getitem _ _)))
 show wpAny _ _ (Builtin.Tuple.tupleItemsOf (.ref t)>>=_) _ _ s;refine fW (tupleItemsOf_ ht ?_);refine fW (rA fG ?_);rw[gh (by decide)];refine fW (mT hs pl pu ?_)
 have af: ¬((((sIx items.size 0 lo:Nat):Int)==0&&(1:Int)==1&&(sIx items.size items.size hi-sIx items.size 0 lo)==items.size)=true):=by
  intro q;rw[ki,ki] at q;have q1:((sIx items.size 0 lo:Nat):Int)=0:=qe q.1.1;have q2:sIx items.size items.size hi-sIx items.size 0 lo=items.size:=qe q.2;exact hw ⟨by omega,by omega⟩
 show wpAny _ _ (if(((sIx items.size 0 lo:Nat):Int)==0&&(1:Int)==1&&(sIx items.size items.size hi-sIx items.size 0 lo)==items.size)=true then _ else _) _ _ s;rw[gk af,IK]
 first
  |exact fW (m:=Builtin.Tuple.tupleExact _) (kW (gg ⟨_,rfl,gg h⟩) y2)
  |exact fW (m:=Builtin.Tuple.tupleExact _) (kW (fW (gg (gg ⟨_,rfl,gg h⟩))) y2)
  |exact fW (fW (m:=Builtin.Tuple.tupleExact _) (kW (gg (gg ⟨_,rfl,gg h⟩)) y2))
  |exact fW (fW (m:=Builtin.Tuple.tupleExact _) (kW (gg ⟨_,rfl,gg h⟩) y2))
end
end HT
namespace L2
open PySem PySem.Spec PyProof.Rows
abbrev TO:=St->Hp->(Option Int->Hp->Prop)->Prop
def PO(X:Cx)(e:Option Expr)(t:TO):Prop:=
 ∀(pins:gG) (s:gb) (σ:St) (H:Hp) (Q:Option Int->Hp->Prop),Inv X pins σ H s->t σ H Q->
  wpAny (model X.prog X.w) X.A (evalPart e X.env) (fun u s'=> ∃o H',Inv X pins σ H' s'/\IsPart u o/\Q o H') X.xe s
noncomputable def Ku:TO:=fun _ H Q=>Q none H
def OT(t:TE):TO:=fun σ H Q=>t σ H fun x H1=> ∃i,x= .int i/\Q (some i) H1
section
variable {X:Cx}{e:gf}{te:TE}{lo hi:Option Expr}{tl th:TO}{pos p2:Pos}
theorem Lo:PO X none Ku:=by
 intro pins s σ H Q I h;rw[evalPart_none];exact gg ⟨none,H,I,.none,h⟩
theorem Ln(h:PE X e te):PO X (some e) (OT te):=by
 intro pins s σ H Q I hw;rw[evalPart_some];refine thn (h pins s σ H _ I hw) fun u s1 ⟨x,H1,I1,r1,q1⟩=>?_;obtain⟨i,rfl,q⟩:=q1;obtain⟨t,rfl⟩:=r1;exact⟨some i,H1,I1,.int i t,q⟩
def SlR(X:Cx)(r:V->Option Int->Option Int->Hp->VK->Prop):Prop:=
 ∀(pins:gG) (s:gb) (σ:St) (H:Hp) (x:V) (v vl vu:gi) (lo hi:Option Int) (sl:fV) (Q:VK),Inv X pins σ H s->RelV x v->s.heap.IsSliceOf sl vl vu .none->IsPart vl lo->IsPart vu hi->r x lo hi H Q->
  ∃T id,typeLookup (.type T) "__getitem__"=pure (some (.builtin id))/\s.TypeIs v T/\wpAny (model X.prog X.w) X.A (getItem v (.ref sl)) (EP X pins σ Q) X.xe s
def tSl(r:V->Option Int->Option Int->Hp->VK->Prop)(te:TE)(tl th:TO):TE:=fun σ H Q=>te σ H fun x H1=>tl σ H1 fun l H2=>th σ H2 fun u H3=>r x l u H3 Q
theorem IU{r:V->Option Int->Option Int->Hp->VK->Prop}(hr:SlR X r)(he:PE X e te)(hl:PO X lo tl)(hu:PO X hi th):PE X (.Subscript e (.Slice lo hi none p2) pos) (tSl r te tl th):=by
 intro pins s σ H Q I h;refine Subscript_ (thn (he pins s σ H _ I h) fun v s1 ⟨x,H1,I1,r1,q1⟩=>?_);refine wpAny_Slice (thn (hl pins s1 σ H1 _ I1 q1) fun vl s2 ⟨l,H2,I2,pl,q2⟩=>thn (hu pins s2 σ H2 _ I2 q2) fun vu s3 ⟨u,H3,I3,pu,q3⟩=>?_);rw[evalPart_none];refine gg ?_;have I4:Inv X pins σ H3 {s3 with heap:=s3.heap.push {cls:= .type "slice",data:= .fields #[vl,vu,.none]}}:=I3.kept (t':=s3.toks) fun b ob q=>gY _ q;obtain⟨T,id,hT,ht,hg⟩:=hr pins {s3 with heap:=s3.heap.push {cls:= .type "slice",data:= .fields #[vl,vu,.none]}} σ H3 x v vl vu l u s3.heap.objs.size Q I4 r1 (Heap.IsSliceOf.new ..) pl pu q3;show wpAny (model X.prog X.w) X.A (subscriptTail e (.Slice lo hi none p2) v (.ref s3.heap.objs.size)) (EP X pins σ Q) X.xe {s3 with heap:=s3.heap.push {cls:= .type "slice",data:= .fields #[vl,vu,.none]}};exact tail_any (ops:=[.ref s3.heap.objs.size,v]) ht hT hg (by with_unfolding_all rfl)
noncomputable def BD(xs:List V)(lo hi:Option Int):List V:=(xs.drop (HT.sIx xs.length 0 lo)).take (HT.sIx xs.length xs.length hi-HT.sIx xs.length 0 lo)
theorem uk(xs:List V)(lo hi:Option Int):(BD xs lo hi).length<=xs.length:=by
 unfold BD;rw[ou,tx];omega
def RO(K:gu):V->Option Int->Option Int->Hp->VK->Prop:=fun x lo hi H Q=> ∃a xs,x= .ref a/\SqT K H a xs/\
 ¬(HT.sIx xs.length 0 lo=0/\HT.sIx xs.length xs.length hi=xs.length)/\ ∀p,H p=none->Q (.ref p) (upd H p (.tup (BD xs lo hi)))
theorem MU:SlR X (RO X.K):=by
 intro pins s σ H x v vl vu lo hi sl Q I rx hs pl pu h;obtain⟨a,xs,rfl,hx,hw,q⟩:=h;cases rx;obtain⟨b6,r,ht,hz⟩:=I.tuple hx;have hlen:b6.toArray.size=xs.length:=by rw[gU];exact r.length.symm
 refine⟨"tuple",_,wY.lookup,ht.typeIs,?_⟩;refine HT.DH ht hs pl pu (by rw[hlen];exact hw) ?_ (by rw[hlen];exact hz);rw[hlen];refine⟨.ref s.heap.objs.size,_,I.laid (t':=s.toks) (o:= .tup (BD xs lo hi)) (fun b ob q=>gY _ q) (gQ _) ?_,rfl,q _ (I.hok.fresh (gQ _))⟩;exact⟨kx (uk xs lo hi) hz,_,(r.drop (HT.sIx xs.length 0 lo)).take (HT.sIx xs.length xs.length hi-HT.sIx xs.length 0 lo),zb _ _⟩
def Pq(K:gu):R2:=fun x y H Q=> ∃a b xs ys,x= .ref a/\y= .ref b/\SqT K H a xs/\SqT K H b ys/\xs≠[]/\xs.length+ys.length<=sizeLine/\
 (ys=[]->Q (.ref a) H)/\(ys≠[]-> ∀p,H p=none->Q (.ref p) (upd H p (.tup (xs++ys))))
theorem Vals.nil_iff{xs:List V}{us:hJ}(r:Vals xs us):us=[]↔xs=[]:=by
 cases r with
 |nil=>simp
 |cons _ _=>simp
theorem LC:OpR X (binaryOp .Add) (Pq X.K):=by
 intro pins s σ H x y v u Q I rx ry h;obtain⟨a,b,xs,ys,rfl,rfl,ha,hb,hx,hz,q1,q2⟩:=h;cases rx;cases ry;obtain⟨b6,r1,p1,_⟩:=I.tuple ha;obtain⟨c9,r2,p2,_⟩:=I.tuple hb;refine HT.Qh p1 p2 (fun z=>hx (r1.nil_iff.mp z)) (fun z=>⟨.ref a,H,I,rfl,q1 (r2.nil_iff.mp z)⟩) (fun z=>?_) (by rw[<-r1.length,<-r2.length];exact hz);refine⟨.ref s.heap.objs.size,_,I.laid (t':=s.toks) (o:= .tup (xs++ys)) (fun b ob q=>gY _ q) (gQ _) ?_,rfl,q2 (fun w=>z (r2.nil_iff.mpr w)) _ (I.hok.fresh (gQ _))⟩;exact⟨by rw[lO];exact hz,_,r1.append r2,zb _ _⟩
end
noncomputable def ixN(n:Nat)(i:Int):Option Nat:=if 0<=i then(if i<n then some i.toNat else none) else if -(n:Int)<=i then some (i+n).toNat else none
noncomputable def atI{α:Type}(xs:List α)(i:Int):Option α:=(ixN xs.length i).bind fun j=>xs[j]?
theorem zL{n:Nat}{i:Int}{j:Nat}(h:ixN n i=some j):seqIndex? i n=some j/\j<n/\ -(n:Int)<=i/\i<n:=by
 unfold ixN at h;by_cases h0:0<=i
 ·rw[gh h0] at h;by_cases h1:i<n
  ·rw[gh h1] at h;have e:i.toNat=j:=hV h;exact⟨by rw[Cz h0 h1,e],by omega,by omega,h1⟩
  ·rw[gk h1] at h;cases h
 ·rw[gk h0] at h;by_cases h1: -(n:Int)<=i
  ·rw[gh h1] at h;have e:(i+n).toNat=j:=hV h;exact⟨by rw[Cy (by omega) h1,e],by omega,h1,by omega⟩
  ·rw[gk h1] at h;cases h
theorem Fn{α:Type}{xs:List α}{i:Int}{v:α}(h:atI xs i=some v): ∃j,seqIndex? i xs.length=some j/\xs[j]?=some v/\j<xs.length/\ -(xs.length:Int)<=i/\i<xs.length:=by
 unfold atI at h
 cases e:ixN xs.length i with
 |none=>rw[e] at h;cases h
 |some j=>
  rw[e] at h;obtain⟨h1,h2,h3,h4⟩:=zL e;exact⟨j,h1,h,h2,h3,h4⟩
def Am(b:gf):Prop:= ∀o i,subscripted b false o i=operate [o,i] (getItem o i)
def IxR(X:Cx)(r:R2):Prop:=
 ∀(value slice:gf) (pins:gG) (s:gb) (σ:St) (H:Hp) (x y:V) (v u:gi) (Q:VK),Inv X pins σ H s->RelV x v->RelV y u->r x y H Q->
  subscripted slice false v u=operate [v,u] (getItem v u)->wpAny (model X.prog X.w) X.A (subscriptTail value slice v u) (EP X pins σ Q) X.xe s
def MtR(X:Cx)(id:String)(r:V->List V->Hp->VK->Prop):Prop:=
 ∀(pins:gG) (s:gb) (σ:St) (H:Hp) (x:V) (xs:List V) (v:gi) (us:hJ) (Q:VK),Inv X pins σ H s->RelV x v->Vals xs us->r x xs H Q->
  wpAny (model X.prog X.w) X.A (call (.builtin id) (v::us)) (EP X pins σ Q) X.xe s
section
variable {X:Cx}{a b:gf}{ta tb:TE}{pos:Pos}
theorem PD{r:R2}(hr:IxR X r)(ha:PE X a ta)(hb:PE X b tb)(hs:Am b):PE X (.Subscript a b pos) (tOp r ta tb):=by
 intro pins s σ H Q I h;exact Subscript_ (Ox ha hb I h fun v u s2 x y H2 I2 rx ry q=>hr a b pins s2 σ H2 x y v u Q I2 rx ry q (hs _ _))
def RU(K:gu):R2:=fun x y H Q=> ∃p xs i v,x= .ref p/\y= .int i/\SqL K H p xs/\atI xs i=some v/\Q v H
def RT(K:gu):R2:=fun x y H Q=> ∃p xs i v,x= .ref p/\y= .int i/\SqT K H p xs/\atI xs i=some v/\Q v H
theorem LQ:IxR X (RU X.K):=by
 intro value slice pins s σ H x y v u Q I rx ry h hs;obtain⟨p,xs,i,z,rfl,rfl,hq,he,q⟩:=h;cases rx;obtain⟨t,rfl⟩:=ry;obtain⟨b6,r,pl,hz⟩:=I.list hq;obtain⟨j,h1,h2,h3,h4,h5⟩:=Fn he;obtain⟨w,ew,aX⟩:=r.get h2;have hl:=r.length;have hn:=wk;have fin:EP X pins σ Q w s:=⟨z,H,I,aX,q⟩
 by_cases h0:0<=i
 ·have hj:i.toNat=j:=by
   rw[Cz h0 h5] at h1;exact hV h1
  exact item_listR pl.isList h0 (by omega) (by rw[hj];simpa using ew) fin hs
 ·have hj:(i+(b6.toArray.size:Int)).toNat=j:=by
   rw[Cy (by omega) h4] at h1;rw[gU,<-hl];exact hV h1
  exact Hm (x:=w) pl.isList.typeIs slot_list_getitem.lookup
   (wpAny_getItem_list_neg (Q:=fun r s'=>r=w/\EP X pins σ Q r s') pl.isList (by omega) (by rw[gU]<;>omega) (by omega) (by rw[hj];simpa using ew) ⟨rfl,fin⟩) hs
theorem N5:IxR X (RT X.K):=by
 intro value slice pins s σ H x y v u Q I rx ry h hs;obtain⟨p,xs,i,z,rfl,rfl,hq,he,q⟩:=h;cases rx;obtain⟨t,rfl⟩:=ry;obtain⟨b6,r,pl,hz⟩:=I.tuple hq;obtain⟨j,h1,h2,h3,h4,h5⟩:=Fn he;obtain⟨w,ew,aX⟩:=r.get h2;have hl:=r.length;have hn:=wk;have fin:EP X pins σ Q w s:=⟨z,H,I,aX,q⟩
 exact Hm (x:=w) pl.typeIs slot_tuple_getitem.lookup
  (getItem_tuple (j:=j) (Q:=fun r s'=>r=w/\EP X pins σ Q r s') pl (by omega) (by omega) (by rw[gU,<-hl];exact h1) (by simpa using ew) ⟨rfl,fin⟩) hs
theorem Dz(b6:hJ)(n j:Nat)(u:gi):Obj.mapSeq (·.setIfInBounds j u) {cls:= .type "list",data:= .seq b6.toArray n}={cls:= .type "list",data:= .seq (b6.set j u).toArray n}:=by
 simp[Obj.mapSeq]
theorem Inv.lst{pins:gG}{σ:St}{H:Hp}{s:gb}{p:fV}{xs:List V}(I:Inv X pins σ H s)(h:H p=some (.lst xs)):
  ∃(b6:hJ) (n:Nat),Vals xs b6/\s.heap.get? p=some {cls:= .type "list",data:= .seq b6.toArray n}/\xs.length<=sizeLine:=by
 obtain⟨z,b6,n,r,e⟩:=I.hok p _ h;exact⟨b6,n,r,e,z⟩
theorem Inv.lstUpd{pins:gG}{σ:St}{H:Hp}{s:gb}{p:fV}{xs ys:List V}{b6 its':hJ}{n n':Nat}{f:Obj->Obj}(I:Inv X pins σ H s)(h:H p=some (.lst xs))
  (ho:s.heap.get? p=some {cls:= .type "list",data:= .seq b6.toArray n})(hf:f {cls:= .type "list",data:= .seq b6.toArray n}={cls:= .type "list",data:= .seq its'.toArray n'})(r:Vals ys its')(hz:ys.length<=sizeLine)(t:Nat):
  Inv X pins σ (upd H p (.lst ys)) {s with heap:=s.heap.update p f,toks:=t}:=by
 have e:(s.heap.update p f).get? p=some {cls:= .type "list",data:= .seq its'.toArray n'}:=by
  rw[qd f ho (by rw[hf]<;>rfl),hf]
 refine I.write (x:=p) (e:=p) (by rw[h];trivial) (.inl rfl) (fun b u hb q=>(tw _ _ (mM hb)).trans q) ⟨_,e⟩ ?_;exact⟨hz,its',n',r,e⟩
def Pn:V->V->V->Hp->(Hp->Prop)->Prop:=fun o i v H Q=> ∃p xs k j,o= .ref p/\i= .int k/\H p=some (.lst xs)/\ixN xs.length k=some j/\Q (upd H p (.lst (xs.set j v)))
theorem HW:OC X Pn:=by
 intro pins s σ H o i v ov iv u Q I ro ri rv h;obtain⟨p,xs,k,j,rfl,rfl,hp,hj,q⟩:=h;cases ro;obtain⟨t,rfl⟩:=ri;obtain⟨b6,n,r,ho,hz⟩:=I.lst hp;obtain⟨h1,h2,h3,h4⟩:=zL hj;have hl:=r.length;have hn:=wk
 have I':Inv X pins σ (upd H p (.lst (xs.set j v))) {s with heap:=s.heap.update p (Obj.mapSeq (·.setIfInBounds j u))}:=
  I.lstUpd hp ho (Dz b6 n j u) (r.set rv j) (by rw[qc];exact hz) s.toks
 by_cases h0:0<=k
 ·have hk:k.toNat=j:=by
   rw[Cz h0 h4] at h1;exact hV h1
  exact PySem.W.ki_setAt ho h0 (by omega) (by rw[gU,<-hl];exact h4) (by rw[hk];exact⟨_,I',q⟩)
 ·have hk:(k+(b6.toArray.size:Int)).toNat=j:=by
   rw[Cy (by omega) h3] at h1;rw[gU,<-hl];exact hV h1
  exact PySem.W.ki_setBack ho (by omega) (by rw[gU,<-hl];exact h3) (by omega) (by rw[hk];exact⟨_,I',q⟩)
theorem zo(lo hi:Option Int)(n:Nat):(sliceBounds lo hi none n).1=((HT.sIx n 0 lo:Nat):Int)/\(sliceBounds lo hi none n).2.1=((HT.sIx n n hi:Nat):Int)/\(sliceBounds lo hi none n).2.2=1:=by
 refine⟨?_,?_,rfl⟩
 ·cases lo with
  |none=>simp[sliceBounds,HT.sIx]
  |some i=>
   simp only[sliceBounds,HT.sIx,Option.getD_none,show(1:Int)>0 by decide,gS];by_cases h:i<0
   ·simp only[h,gS]<;>omega
   ·simp only[h,ik]<;>omega
 ·cases hi with
  |none=>simp[sliceBounds,HT.sIx]
  |some i=>
   simp only[sliceBounds,HT.sIx,Option.getD_none,show(1:Int)>0 by decide,gS];by_cases h:i<0
   ·simp only[h,gS]<;>omega
   ·simp only[h,ik]<;>omega
theorem xa(b6:hJ)(lo hi:Option Int):slicePick b6.toArray lo hi none=((b6.drop (HT.sIx b6.length 0 lo)).take (HT.sIx b6.length b6.length hi-HT.sIx b6.length 0 lo)).toArray:=by
 obtain⟨h1,h2,h3⟩:=zo lo hi b6.toArray.size;unfold slicePick;rw[h1,h2,h3];simp only[sliceRange_one,pick_run,gU]<;>rfl
def RP(K:gu):V->Option Int->Option Int->Hp->VK->Prop:=fun x lo hi H Q=> ∃a xs,x= .ref a/\SqL K H a xs/\ ∀p,H p=none->Q (.ref p) (upd H p (.lst (BD xs lo hi)))
theorem Kx:SlR X (RP X.K):=by
 intro pins s σ H x v vl vu lo hi sl Q I rx hs pl pu h;obtain⟨a,xs,rfl,hx,q⟩:=h;cases rx;obtain⟨b6,r,ht,hz⟩:=I.list hx;have hlen:=r.length;refine⟨"list",_,slot_list_getitem.lookup,ht.isList.typeIs,?_⟩;refine wpAny_getItem_list_slice ht.isList hs pl pu .none (by simp) ?_ (by rw[gU]<;>omega);rw[xa,<-hlen];refine⟨.ref s.heap.objs.size,_,I.laid (t':=s.toks) (o:= .lst (BD xs lo hi)) (fun b ob q=>gY _ q) (gQ _) ?_,rfl,q _ (I.hok.fresh (gQ _))⟩;exact⟨kx (uk xs lo hi) hz,_,0,(r.drop (HT.sIx xs.length 0 lo)).take (HT.sIx xs.length xs.length hi-HT.sIx xs.length 0 lo),iU _ rfl⟩
noncomputable def Mv:V->Bool
 | .non=>true
 | .bl _=>true
 | .int _=>true
 | .str _=>true
 |_=>false
noncomputable def eqV:V->V->Bool
 | .non,.non=>true
 | .bl a,.bl b=>a==b
 | .bl a,.int b=>(if a then 1 else 0)==b
 | .int a,.bl b=>a==(if b then 1 else 0)
 | .int a,.int b=>a==b
 | .str a,.str b=>a==b
 |_,_=>false
theorem jW{A:gv}{s:gb}{y x:V}{u v:gi}(ry:RelV y u)(rx:RelV x v)(fy:Mv y=true)(fx:Mv x=true):SeqAt.EqAt A s u v (eqV y x):=by
 cases y with
 |non=>
  cases ry
  cases x with
  |non=>cases rx;exact SeqAt.EqAt.same _
  |bl b=>cases rx;exact SeqAt.EqAt.none_bool b
  |int b=>obtain⟨t,rfl⟩:=rx;exact SeqAt.EqAt.none_int b t
  |str b=>obtain⟨t,rfl⟩:=rx;exact SeqAt.EqAt.none_str b t
  |_=>exact absurd (show false=true from fx) iB
 |bl a=>
  cases ry
  cases x with
  |non=>cases rx;exact SeqAt.EqAt.bool_none a
  |bl b=>cases rx;exact SeqAt.EqAt.bool_bool a b
  |int b=>obtain⟨t,rfl⟩:=rx;exact SeqAt.EqAt.bool_int a b t
  |str b=>obtain⟨t,rfl⟩:=rx;exact SeqAt.EqAt.bool_str a b t
  |_=>exact absurd (show false=true from fx) iB
 |int a=>
  obtain⟨t',rfl⟩:=ry
  cases x with
  |non=>cases rx;exact SeqAt.EqAt.int_none a t'
  |bl b=>cases rx;exact SeqAt.EqAt.int_bool a t' b
  |int b=>obtain⟨t,rfl⟩:=rx;exact SeqAt.EqAt.int_int a t' b t
  |str b=>obtain⟨t,rfl⟩:=rx;exact SeqAt.EqAt.int_str a t' b t
  |_=>exact absurd (show false=true from fx) iB
 |str a=>
  obtain⟨t',rfl⟩:=ry
  cases x with
  |non=>cases rx;exact SeqAt.EqAt.str_none a t'
  |bl b=>cases rx;exact SeqAt.EqAt.str_bool a t' b
  |int b=>obtain⟨t,rfl⟩:=rx;exact SeqAt.EqAt.str_int a t' b t
  |str b=>obtain⟨t,rfl⟩:=rx;exact SeqAt.EqAt.str_str a t' b t
  |_=>exact absurd (show false=true from fx) iB
 |_=>exact absurd (show false=true from fy) iB
theorem sv:iV X (.builtin "len") (fun xs H Q=> ∃p ys,xs=[.ref p]/\(SqL X.K H p ys\/SqT X.K H p ys)/\Q (.int ys.length) H):=by
 intro pins s σ H xs us Q I r h;obtain⟨p,ys,rfl,hq,q⟩:=h;obtain⟨u,rfl,rx⟩:=rF r;cases rx;have hn:=wk;rcases hq with hq|hq
 ·obtain⟨b6,r',pl,hz⟩:=I.list hq;have hlen:=r'.length;exact Calls.call_len_list pl.isList (by simp only[gU]<;>omega) ⟨.int ys.length,H,I.tok _,⟨s.toks+1,by rw[gU,hlen]⟩,q⟩
 ·obtain⟨b6,r',pl,hz⟩:=I.tuple hq;have hlen:=r'.length;exact len_tuple pl (by simp only[gU]<;>omega) ⟨.int ys.length,H,I.tok _,⟨s.toks+1,by rw[gU,hlen]⟩,q⟩
theorem qp:iV X (.type "tuple") (fun xs H Q=> ∃p ys,xs=[.ref p]/\((SqL X.K H p ys/\ ∀l,H l=none->Q (.ref l) (upd H l (.tup ys)))\/(SqT X.K H p ys/\Q (.ref p) H))):=by
 intro pins s σ H xs us Q I r h;obtain⟨p,ys,rfl,h⟩:=h;obtain⟨u,rfl,rx⟩:=rF r;cases rx;rcases h with⟨hq,q⟩|⟨hq,q⟩
 ·obtain⟨b6,r',pl,hz⟩:=I.list hq;have hlen:=r'.length;refine call_tuple_list pl.isList (fun h' kp=>?_) (by simp only[gU]<;>omega);have I1:Inv X pins σ H {s with heap:=h'}:=I.kept (t':=s.toks) kp
  have I2:Inv X pins σ (upd H h'.objs.size (.tup ys)) {s with heap:=h'.push {cls:= .type "tuple",data:= .seq b6.toArray}}:=
   I1.laid (t':=s.toks) (fun b o e=>gY _ e) (gQ _) (show ObjOk X.prog X.w _ _ _ (.tup ys) from⟨hz,b6,r',zb _ _⟩)
  exact⟨.ref h'.objs.size,_,I2,rfl,q _ (I1.hok.fresh (gQ _))⟩
 ·obtain⟨b6,r',pl,hz⟩:=I.tuple hq;exact call_tuple_same pl ⟨.ref p,H,I,rfl,q⟩
def tyV(K:gu)(T:String)(x:V)(H:Hp):Prop:=match x with
 | .str _=>T="str"
 | .int _=>T="int"
 | .ref p=>(T="list"/\ ∃xs,SqL K H p xs)\/(T="tuple"/\ ∃o,K.lookup p=some o/\o.cls= .type "tuple"/\o.dict=none)\/
   (T="dict"/\((∃kvs,H p=some (.dK kvs))\/ ∃kvs,H p=some (.dT kvs)))\/(T="set"/\ ∃S n,H p=some (.set S n))
 |_=>False
theorem HE{pins:gG}{σ:St}{H:Hp}{s:gb}{T:String}{x:V}{v:gi}(I:Inv X pins σ H s)(r:RelV x v)(ty:tyV X.K T x H):
  s.TypeIs v T/\ ∀a,v= .ref a-> ∃ob,s.heap.get? a=some ob/\ob.dict=none:=by
 cases x with
 |str z=>
  obtain⟨t,rfl⟩:=r;cases(show T="str" from ty);exact⟨typeIs_str s z t,fun _ e=>nomatch e⟩
 |int i=>
  obtain⟨t,rfl⟩:=r;cases(show T="int" from ty);exact⟨typeIs_int s i t,fun _ e=>nomatch e⟩
 |ref p=>
  cases r;rcases ty with⟨rfl,xs,hq⟩|⟨rfl,o,hk,hc,hd⟩|⟨rfl,hk⟩|⟨rfl,S,n,hk⟩
  ·obtain⟨b6,_,pl,_⟩:=I.list hq;refine⟨pl.isList.typeIs,fun a e=>?_⟩;cases e;obtain⟨o,n,e,c,hd,_⟩:=pl;exact⟨o,e,hd⟩
  ·refine⟨⟨o,I.kIn p o hk,hc⟩,fun a e=>?_⟩;cases e;exact⟨o,I.kIn _ o hk,hd⟩
  ·have z: ∃o,s.heap.get? p=some o/\o.ExactDict:=by
    rcases hk with⟨kvs,hk⟩|⟨kvs,hk⟩
    ·obtain⟨_,_,_,_,o,_,_,e,ex,_⟩:=I.hok p _ hk;exact⟨o,e,ex⟩
    ·obtain⟨_,_,_,_,o,_,_,e,ex,_⟩:=I.hok p _ hk;exact⟨o,e,ex⟩
   obtain⟨o,e,ex⟩:=z;refine⟨⟨o,e,ex.1⟩,fun a e2=>?_⟩;cases e2;exact⟨o,e,ex.2.1⟩
  ·obtain⟨o,_,_,_,e,ex,_⟩:=I.hok p _ hk;refine⟨⟨o,e,ex.1⟩,fun a e2=>?_⟩;cases e2;exact⟨o,e,ex.2.1⟩
 |_=>exact False.elim ty
def Q3(K:gu)(T:String)(r:V->List V->Hp->VK->Prop)(to:TE):TE:=fun σ H Q=>to σ H fun x H1=>tyV K T x H1/\r x [] H1 Q
def tBM(K:gu)(T:String)(r:V->List V->Hp->VK->Prop)(to:TE)(t:TA):TE:=fun σ H Q=>to σ H fun x H1=>tyV K T x H1/\t σ H1 fun xs H2=>r x xs H2 Q
variable {o e:gf}{es:iF}{to:TE}{t:TA}{name:Str}{apos e9:Pos}{T id:String}{r:V->List V->Hp->VK->Prop}
theorem NP(pa:PlainAttrs T)(slot:Slot T name id)(eV:typeOf (.builtin id)=pure (.type "method_descriptor"))(hm:MtR X id r)(ho:PE X o to)
  (g0:attributeBase o name X.env (eval o X.env)=eval o X.env:=by rfl)(f9:(apos.endLine==e9.line)=true:=by rfl):PE X (.Call (.Attribute o name apos) [] [] e9) (Q3 X.K T r to):=by
 intro pins s σ H Q I h;refine wpAny_Call_method0_late g0 f9 (thn (ho pins s σ H _ I h) fun v s1 ⟨x,H1,I1,r1,ty,q1⟩=>?_);obtain⟨h1,h2⟩:=HE I1 r1 ty;exact⟨T,id,pa,slot,eV,h1,h2,Cw rfl (PySem.evalArgs_none (hm pins s1 σ H1 x [] v [] Q I1 r1 .nil q1))⟩
theorem Mq(pa:PlainAttrs T)(slot:Slot T name id)(eV:typeOf (.builtin id)=pure (.type "method_descriptor"))(hm:MtR X id r)(ho:PE X o to)(ha:PA X (e::es) t)
  (g0:attributeBase o name X.env (eval o X.env)=eval o X.env:=by rfl)
  (l7:((backTo e9 (starEach (e::es) X.env)).all (fun x=>!x.1)&&(backToKw e9 (keywordEach [] X.env)).all (fun x=>x.1.isSome)
   &&decide ((e::es).length+([]:List Keyword).length+(if([]:List Keyword).isEmpty then 0 else 1)<30))=true:=by rfl)
  (f9:(apos.endLine==e9.line)=true:=by rfl)(hs:starEach (e::es) X.env=(false,eval e X.env)::starEach es X.env:=by rfl)(i0:(backTo e9 (starEach es X.env)).any (·.1)=false:=by rfl):
  PE X (.Call (.Attribute o name apos) (e::es) [] e9) (tBM X.K T r to t):=by
 intro pins s σ H Q I h;refine Hl g0 l7 f9 rfl (thn (ho pins s σ H _ I h) fun v s1 ⟨x,H1,I1,r1,ty,q1⟩=>?_);obtain⟨h1,h2⟩:=HE I1 r1 ty;refine⟨T,id,pa,slot,eV,h1,h2,?_⟩;have hA:=ha e9 pins s1 σ H1 _ I1 q1;rw[hs] at hA ⊢;refine Cw (by show(false||(backTo e9 (starEach es X.env)).any (·.1))=false;rw[i0]<;>rfl) (Hk ?_);exact thn hA fun us s2 ⟨vs,H2,I2,r2,q2⟩=>hm pins s2 σ H2 x vs v us Q I2 r1 r2 q2
end
def MtM(X:Cx)(id:String)(r:V->List V->Hp->VK->Prop):Prop:=
 ∀(pins:gG) (s:gb) (σ:St) (H:Hp) (x:V) (xs:List V) (v:gi) (us:hJ) (Q:VK),Inv X pins σ H s->RelV x v->Vals xs us->r x xs H Q->
  wpAny (model X.prog X.w) X.A (call (.builtin id) (v::us)) (EP X pins σ Q) X.xe s
theorem Vals.one: ∀{x:V} {us:hJ},Vals [x] us-> ∃u,us=[u]/\RelV x u
 |_,_,.cons r .nil=>⟨_,rfl,r⟩
theorem Vals.zero: ∀{us:hJ},Vals [] us->us=[]
 |_,.nil=>rfl
theorem Vals.dropLast{xs:List V}{us:hJ}(h:Vals xs us):Vals xs.dropLast us.dropLast:=by
 induction h with
 |nil=>exact .nil
 |cons r t ih=>
  cases t with
  |nil=>exact .nil
  |cons q t'=>exact .cons r ih
theorem Vals.eraseIdx: ∀{xs:List V} {us:hJ} (i:Nat),Vals xs us->Vals (xs.eraseIdx i) (us.eraseIdx i)
 |_,_,_,.nil=> .nil
 |_,_,0,.cons _ t=>t
 |_,_,i+1,.cons r t=> .cons r (Vals.eraseIdx i t)
theorem DO{α:Type}(l:List α):l.eraseIdx (l.length-1)=l.dropLast:=by
 induction l with
 |nil=>rfl
 |cons a r ih=>
  cases r with
  |nil=>rfl
  |cons b r=>
   have e:(a::b::r).length-1=((b::r).length-1)+1:=by
    have h1:(a::b::r).length=r.length+2:=rfl;have h2:(b::r).length=r.length+1:=rfl;omega
   rw[e,List.eraseIdx_cons_succ,ih]
   all_goals rfl
theorem ye{α:Type}: ∀(l:List α) (i:Nat),(l.eraseIdx i).length<=l.length
 |[],_=>gQ _
 |_::_,0=>tu _
 |_::r,i+1=>Nat.succ_le_succ (ye r i)
section
variable {X:Cx}{pins:gG}{σ:St}{H:Hp}{s:gb}{l b:fV}{xs ys zs:List V}
theorem Inv.lset{b6 its':hJ}{n:Nat}{f:Array Value->Array Value}{t':Nat}(I:Inv X pins σ H s)(hH:H l=some (.lst xs))
  (e:s.heap.get? l=some {cls:= .type "list",data:= .seq b6.toArray n})(hf:f b6.toArray=its'.toArray)(hv:Vals ys its')(hz:ys.length<=sizeLine):
  Inv X pins σ (upd H l (.lst ys)) {s with heap:=s.heap.update l (Obj.mapSeq f),toks:=t'}:=by
 have q:=PySem.IsL.update e f;rw[hf] at q;refine I.write (x:=l) (e:=l) (by rw[hH];exact trivial) (.inl rfl) (fun b' u hb hu=>(tw s.heap (Obj.mapSeq f) (mM hb)).trans hu) ⟨_,q⟩ ?_;exact⟨hz,its',_,hv,q⟩
theorem Inv.lnew{b6:hJ}{t':Nat}(I:Inv X pins σ H s)(hv:Vals ys b6)(hz:ys.length<=sizeLine):
  Inv X pins σ (upd H s.heap.objs.size (.lst ys)) {s with heap:=s.heap.push {cls:= .type "list",data:= .seq b6.toArray},toks:=t'}:=
 I.laid (fun _ _ q=>gY _ q) (gQ _) ⟨hz,b6,0,hv,iU _ rfl⟩
theorem Inv.fresh(I:Inv X pins σ H s):H s.heap.objs.size=none:=I.hok.fresh (gQ _)
theorem Inv.lstM(I:Inv X pins σ H s)(hH:H l=some (.lst xs)):xs.length<=sizeLine/\ ∃(b6:hJ) (n:Nat),Vals xs b6/\xs.length=b6.length/\s.heap.get? l=some {cls:= .type "list",data:= .seq b6.toArray n}:=by
 obtain⟨z,b6,n,r,e⟩:=I.hok l _ hH;exact⟨z,b6,n,r,r.length,e⟩
end
section
variable {X:Cx}
def KI:V->List V->Hp->VK->Prop:=fun x vs H Q=> ∃l xs y,x= .ref l/\vs=[y]/\H l=some (.lst xs)/\xs.length<sizeLine/\Q .non (upd H l (.lst (xs++[y])))
theorem Ga:MtM X "list.append" KI:=by
 intro pins s σ H x vs v us Q I rx rv h;obtain⟨l,xs,y,rfl,rfl,hH,hz,q⟩:=h;cases rx;obtain⟨u,rfl,ru⟩:=rv.one;obtain⟨z,b6,n,r,hl,e⟩:=I.lstM hH;refine za F.slot_list_append ⟨_,e,rfl⟩ Hj (Hh _ _) (PySem.list_append l b6.toArray n u (by rw[gU];omega)) ⟨e,?_⟩;refine⟨.non,_,I.lset (its':=b6++[u]) hH e (by simp) (r.append (.cons ru .nil)) ?_,rfl,q⟩;rw[lO,vg];omega
def RS:V->List V->Hp->VK->Prop:=fun x vs H Q=> ∃l xs y,x= .ref l/\vs=[]/\H l=some (.lst xs)/\xs[xs.length-1]?=some y/\Q y (upd H l (.lst xs.dropLast))
theorem N0:MtM X "list.pop" RS:=by
 intro pins s σ H x vs v us Q I rx rv h;obtain⟨l,xs,y,rfl,rfl,hH,hy,q⟩:=h;cases rx;have hus:=rv.zero;subst hus;obtain⟨z,b6,n,r,hl,e⟩:=I.lstM hH;obtain⟨u,hu,ru⟩:=r.get hy
 have eS:b6.toArray[b6.toArray.size-1]?=some u:=by
  show b6.toArray[b6.length-1]?=some u;rw[<-jS,<-hl];exact hu
 refine za F.slot_list_pop ⟨_,e,rfl⟩ F.entry_list_pop (F.args_list_pop_1 _) (MeetsSeq.list_pop_last l b6.toArray n u eS (by rw[gU];omega)) ⟨e,?_⟩;refine⟨y,_,I.lset (its':=b6.dropLast) hH e ?_ r.dropLast ?_,ru,q⟩
 ·show b6.toArray.eraseIdxIfInBounds (b6.toArray.size-1)=b6.dropLast.toArray;rw[gU,Hg,DO]
 ·rw[Hf];omega
def M9:V->List V->Hp->VK->Prop:=fun x vs H Q=> ∃l xs i k y,x= .ref l/\vs=[.int i]/\H l=some (.lst xs)/\ -(2^63)<=i/\i<2^63/\seqIndex? i xs.length=some k/\xs[k]?=some y/\Q y (upd H l (.lst (xs.eraseIdx k)))
theorem Jj:MtM X "list.pop" M9:=by
 intro pins s σ H x vs v us Q I rx rv h;obtain⟨l,xs,i,k,y,rfl,rfl,hH,h1,h2,hk,hy,q⟩:=h;cases rx;obtain⟨u,rfl,ru⟩:=rv.one;obtain⟨t,rfl⟩:=ru;obtain⟨z,b6,n,r,hl,e⟩:=I.lstM hH;obtain⟨w,hw,aX⟩:=r.get hy
 refine za F.slot_list_pop ⟨_,e,rfl⟩ F.entry_list_pop (F.args_list_pop_2 _ _)
  (MeetsSeq.list_pop_at l b6.toArray n i t k w (fitsIndex_both h1 h2) (by rw[gU,<-hl];exact hk) (by rw[<-jS];exact hw) (by rw[gU];omega)) ⟨e,?_⟩
 refine⟨y,_,I.lset (its':=b6.eraseIdx k) hH e ?_ (r.eraseIdx k) ?_,aX,q⟩
 ·show b6.toArray.eraseIdxIfInBounds k=(b6.eraseIdx k).toArray;rw[Hg]
 ·have:=ye xs k;omega
end
section
variable {prog:gw}{w:gm}{A:gv}{E:gD}{s:gb}
end
section
variable {X:Cx}
end
end L2
namespace Att
open PySem PySem.W PySem.Calls PyProof.Rows
theorem uA{P:Params}{h:gz}: ∀(ns:gO) (vs:hJ),WellAll P h vs (ns.map WData.int)->IntsAre vs ns:=by
 intro ns
 induction ns with
 |nil=>
  intro vs w;rw[oH] at w;cases w;exact .nil
 |cons n ns ih=>
  intro vs w;rw[iw] at w
  cases w with
  |cons a b=>
   cases a;exact .cons _ _ (ih _ b)
theorem FH{l:OpenLaw}{n:Nat}(hn:l.most=some n){P:Params}{h:gz}{args:List WData}{vals:hJ}
  (u6:l.row.toRowW.claim.pre args=true)(eT:WellAll P h vals args):
  ∃a vs ns,vals=[Value.ref a]/\args=[WData.list (ns.map WData.int)]/\h.get? a=some {cls:= .type "list",data:= .seq vs.toArray}/\IntsAre vs ns/\ns.length<=n:=by
 have dZ:WShape.hasAll [] args [.list .int]=true:=(pre_splitW u6).1;have hc:l.pre.holds [] {args:=args}=true:=(pre_splitW u6).2;obtain⟨d,r,rfl,h1,h2⟩:=hasAllW_cons dZ;obtain rfl:=hasAllW_nil h2;obtain⟨xs,rfl,h3⟩:=hasW_list h1;obtain⟨ns,rfl⟩:=items_int h3
 have hlen:ns.length<=n:=by
  unfold OpenLaw.pre at hc
  have h4:(WTm.not (.lt (.lit (.int (n:Int))) (.len (.arg 0)))).holds [] {args:=[.list (ns.map .int)]}=true:=by
   have h4:=(holds_andW hc).1;rw[hn] at h4;exact h4
  have h5:=condW_of h4 (w_not (w_lt w_lit (w_len_list (w_arg rfl))));rw[iq] at h5;refine Nat.le_of_not_lt fun q=>?_;have q':(n:Int)<((ns.length:Nat):Int):=by omega
  first
   |(rw[qb q'] at h5;exact absurd h5 (by decide))
   |(simp at h5;omega)
 cases eT with
 |cons w1 w2=>
  cases w2
  cases w1 with
  |list ho hall=>exact⟨_,_,ns,rfl,rfl,ho,uA ns _ hall,hlen⟩
theorem FX(l:OpenLaw)(args:List WData):l.row.toRowW.claim.post args (.bool true) args=true:=
 postW_of (r:=l.row.toRowW) (X:=(true==true))
  (show WShape.has [] (.bool true) .bool=true by first|rfl|decide|simp[WShape.has,WShape.arms,WShape.armsAll])
  (show(WTm.eq .res (.lit (.bool true))).value [] {args:=args,res:=some (.bool true),after:=args}=some (.bool (true==true)) from w_eq_bool (w_res rfl) w_lit) rfl
theorem L6{l:OpenLaw}{n:Nat}{q:gw}{loose:gJ}{XP:(Str->Option Value)->Heap->Prop}{YP:World->Heap->Prop}{d:DefRec}
  (hn:l.most=some n)(dA:d.params.defaults=[])
  (call: ∀(w:gm) (s₀ s₁:gb) (mg mb:ke) (fa:fV) (o:Obj) (pm cd doc:gi) (a:fV) (vs:hJ) (ns:gO),
   Ground q loose [] XP w s₀ mg mb s₁.heap->YP w s₁.heap->
   s₁.heap.get? fa=some o->o.data= .func (docDef d.name d.params d.body d.scope pm cd doc)->s₁.heap.CodeRec cd d.name->mg d.name=some (.ref fa)->
   s₁.heap.get? a=some {cls:= .type "list",data:= .seq vs.toArray}->IntsAre vs ns->ns.length<=n->s₁.gens= #[]->
   codeAny (model l.prog w) callerA (.call (.ref fa) ⟨[.ref a],[]⟩) (fun r s'=>r= .ok (.ret (.bool true))/\OldK s₁.heap s'.heap/\s'.os=s₁.os/\AllBare s'.gens) s₁):
  WalkO q loose XP YP l.row.toRowW d [] (fun f vs=>PySem.call f vs):=by
 intro w s₀ s₁ mg mb G Y fa o pm cd doc dV kV ho hd u7 hD hmg hg args vals as u6 hlay hrd eT hlo;obtain rfl:dV= .none:=Dflts.none hD dA;obtain rfl:kV= .none:=Dflts.noKw hD;obtain⟨a,vs,ns,rfl,rfl,bZ,hints,hlen⟩:=FH hn u6 eT;refine enter_call (oJ (call w s₀ s₁ mg mb fa o pm cd doc a vs ns G Y ho (fd_plain hd) u7 hmg bZ hints hlen hg) fun r s' hq=>?_);obtain⟨rfl,h2,h3,h4⟩:=hq;exact⟨.inl ⟨.bool true,.bool true,[],rfl,fun _=>rfl,.bool true,FX l _,fun _=>⟨List.Pairwise.nil,fun _ hm=>(nomatch hm)⟩⟩,h2,h3,h4⟩
section
variable {prog:gw}{w:gm}{A:gv}{E:gD}{s:gb}{K:Frag}
end
end Att
namespace L2
open PySem PySem.Spec PyProof.Rows
theorem xE: ∀{vs:hJ} {ns:gO},IntsAre vs ns->Vals (ns.map V.int) vs
 |_,_,.nil=> .nil
 |_,_,.cons n t h=> .cons ⟨t,rfl⟩ (xE h)
def OD(H:Hp):Prop:= ∀b,H b=none\/ ∃o xs,H b=some (.frz o (.lst xs))
theorem Jv{P:gw}{w:gm}{K:gu}{mg mb:ke}{CX:CXT}{k:Nat}{fa a:fV}{fd:kI}{x:Str}{sp:Sp}{s₁:gb}{vs:hJ}{ns:gO}
  (KX:K.In s₁.heap)(bF:s₁.heap.Ns mainGlobals mg)(hb:s₁.heap.Ns builtinsNs mb)(hbb: ∀x:Str,x≠"__name__"->mb x=bootBuiltins x)(hlim:s₁.heap.NoLimit)(hg:s₁.gens= #[])
  (ha:s₁.heap.get? a=some {cls:= .type "list",data:= .seq vs.toArray})(hi:IntsAre vs ns)(hl:ns.length<=sizeLine)(hr:Room k callerA)
  (F: ∀base:Heap,K.In base->base.Ns mainGlobals mg->FnOk P w K mg base CX k fa fd [x] sp)(hbind: ∀(s:gb) (u:gi),BindsTo s fd ⟨[u],[]⟩ [(x,u)])
  (bD: ∀H:Hp,OD H->SqL K H a (ns.map V.int)->sp [.ref a] H (fun v _=>v= .bl true) fun _ _ _=>False)
  (fJ: ∀H e s',CX [] H s₁ (fun _ _ _=>False) e s'->False):
  codeAny (model P w) callerA (.call (.ref fa) ⟨[.ref a],[]⟩) (fun r s'=>r= .ok (.ret (.bool true))/\OldK s₁.heap s'.heap/\s'.os=s₁.os/\AllBare s'.gens) s₁:=by
 have rv:=xE hi;have lenV:=hi.length
 have core: ∀H:Hp,OD H->SqL K H a (ns.map V.int)->HOk P w H s₁.heap->(∀b,H b≠none->b=a)->(H a≠none->K.lookup a=none)->
   codeAny (model P w) callerA (.call (.ref fa) ⟨[.ref a],[]⟩) (fun r s'=>r= .ok (.ret (.bool true))/\OldK s₁.heap s'.heap/\s'.os=s₁.os/\AllBare s'.gens) s₁:=by
  intro H hO hS hok hA hK;have base_of: ∀{b:fV} {o:Obj},s₁.heap.get? b=some o->H b=none->(zN s₁.heap H).get? b=some o:=fun e n=>JG e n
  have dh: ∀{b:fV} {o:Obj} {es:Array DictEntry} {ep:Nat},s₁.heap.get? b=some o->o.data= .dict es ep->H b=none:=fun {b o es ep} e d=>by
   cases q:H b with
   |none=>rfl
   |some u=>
    have e':b=a:=hA b (by rw[q];simp);subst e';rw[ha] at e;cases e;have d':Data.seq vs.toArray _=Data.dict es ep:=d;cases d'
  have dQ: ∀{b:fV} {m:ke},s₁.heap.Ns b m->(zN s₁.heap H).Ns b m:=fun {b m} ⟨o,es,ep,e,d,r⟩=>⟨o,es,ep,base_of e (dh e d),d,r⟩
  have hKb:K.In (zN s₁.heap H):=fun b o e=>base_of (KX b o e) (by
   cases q:H b with
   |none=>rfl
   |some u=>
    have e':b=a:=hA b (by rw[q];simp);subst e';rw[hK (by rw[q];simp)] at e;cases e)
  have hM:Mod K mg (zN s₁.heap H):=⟨hKb,dQ bF,⟨mb,dQ hb,hbb⟩,let⟨mc,h1,h2⟩:=hlim;⟨mc,dQ h1,h2⟩⟩
  have e0:Env0 P w K mg (zN s₁.heap H) callerA [] s₁ H:=⟨rfl,hM,fun b o e=>LH e,Nat.le_of_eq (Gk _ _),trivial,fun b hb=>absurd (show b∈([]:List Addr) from hb) (by simp),hok,.of_eq hg⟩
  refine oJ ((F _ hKb (dQ bF)).run callerA [] s₁ H ⟨[.ref a],[]⟩ [.ref a] [.ref a] _ _ hr e0 (hbind s₁ (.ref a)) (.cons rfl .nil) (bD H hO hS)) fun r s' h=>?_
  cases r with
  |error e=>exact(fJ H e s' h).elim
  |ok fl=>
   cases fl with
   |next=>exact False.elim h
   |brk=>exact False.elim h
   |cont=>exact False.elim h
   |ret u=>
    obtain⟨v,H',os,bare,un,hok',r',q⟩:=h;have q':v= .bl true:=q;subst q';obtain rfl:u=Value.bool true:=r';refine⟨rfl,OldK.of_keep fun b o e=>?_,os,bare⟩
    cases q:H b with
    |none=>exact un.keep b o e q (by intro z;exact absurd (show b∈([]:List Addr) from z) (by simp)) (by simp)
    |some u=>
     rcases hO b with z|⟨ob,xs,z⟩
     ·rw[q] at z;cases z
     ·have z2:=un.frzs b ob _ z;obtain⟨e1,_⟩:=hok b _ z;obtain⟨e2,_⟩:=hok' b _ z2;rw[e] at e1;cases e1;exact e2
 cases hk:K.lookup a with
 |some o=>
  have e:=KX a o hk;rw[ha] at e;cases e;refine core (fun _=>none) (fun _=> .inl rfl) (.inr ⟨_,vs.toArray,_,hk,rfl,rfl,rfl,by rw[gU,lenV];exact hl,by simpa using rv⟩) (fun b u z=>by have z':(none:Option HO)=some u:=z;cases z') (fun b z=>absurd rfl z) fun z=>absurd rfl z
 |none=>
  refine core (fun b=>if b=a then some (.frz {cls:= .type "list",data:= .seq vs.toArray} (.lst (ns.map V.int))) else none) (fun b=>?_) (.inl (.inr ⟨{cls:= .type "list",data:= .seq vs.toArray},gh rfl⟩)) (fun b u z=>?_) (fun b z=>?_) fun _=>hk
  ·by_cases hb:b=a
   ·exact .inr ⟨_,_,gh hb⟩
   ·exact .inl (gk hb)
  ·by_cases hb:b=a
   ·have z':=(gh hb).symm.trans z;cases z';subst hb;exact⟨ha,by rw[iq];exact hl,vs,_,rv,ha⟩
   ·have z':=(gk hb).symm.trans z;cases z'
  ·by_cases hb:b=a
   ·exact hb
   ·exact absurd (gk hb) z
theorem ON{l:PySem.W.OpenLaw}{n k:Nat}{q:gw}{loose:gJ}{XP:(Str->Option Value)->Heap->Prop}{YP:World->Heap->Prop}{d:DefRec}{K:Params->PySem.W.Frag}{CX:World->CXT}{sp:World->Sp}{x:Str}
  (hn:l.most=some n)(hn2:n<=sizeLine)(dA:d.params.defaults=[])(hr:Room k callerA)
  (hY: ∀(w:gm) (h:gz),YP w h->(K w.params).In h)
  (F: ∀(w:gm) (mg:ke) (fa:fV) (h:gz),(K w.params).In h->h.Ns mainGlobals mg->mg d.name=some (.ref fa)->
   ∃fd:FuncData,(∀(s:gb) (u:gi),BindsTo s fd ⟨[u],[]⟩ [(x,u)])/\
    ∀base:Heap,(K w.params).In base->base.Ns mainGlobals mg->FnOk l.prog w (K w.params) mg base (CX w) k fa fd [x] (sp w))
  (bD: ∀(w:gm) (H:Hp) (a:fV) (ns:gO),ns.length<=n->OD H->SqL (K w.params) H a (ns.map V.int)->sp w [.ref a] H (fun v _=>v= .bl true) fun _ _ _=>False)
  (fJ: ∀(w:gm) (H:Hp) (s:gb) (e:gi) (s':gb),CX w [] H s (fun _ _ _=>False) e s'->False):
  PySem.W.WalkO q loose XP YP l.row.toRowW d [] (fun f vs=>PySem.call f vs):=by
 refine Att.L6 hn dA fun w s₀ s₁ mg mb fa o pm cd doc a vs ns G Y ho hd u7 hmg bZ hints hlen hg=>?_;have KX:=hY w _ Y;obtain⟨fd,hb,hF⟩:=F w mg fa _ KX G.T.g hmg;exact Jv KX G.T.g G.T.b G.T.builtins G.T.nolimit hg bZ hints (kx hlen hn2) hr hF hb (fun H hO hS=>bD w H a ns hlen hO hS) fun H e s'=>fJ w H s₁ e s'
noncomputable def pQ(s:Stmt):Arguments:=match s with
 | .FunctionDef _ a _ _ _ _ _ _ _ _=>a
 |_=>{posonlyargs:=[],args:=[],vararg:=none,kwonlyargs:=[],kw_defaults:=[],kwarg:=none,defaults:=[]}
noncomputable def lJ(s:Stmt):List Stmt:=match s with
 | .FunctionDef _ _ b _ _ _ _ _ _ _=>b
 |_=>[]
noncomputable def gr(s:Stmt):Scope:=match s with
 | .FunctionDef _ _ _ _ _ _ sc _ _ _=>sc
 |_=>{kind:= .function,names:=[],isGenerator:=false,isCoroutine:=false}
abbrev CX0:CXT:=fun _ _ _ _ _ _=>False
abbrev E0:XK:=fun _ _ _=>False
theorem PH{X:Cx}:Ea CX0 X E0:=fun _ _ _ _ _ _ _ h=>h.elim
structure Fun(K:gu)(x qual:Str)(st:Stmt)(f:fV)(fd:kI):Prop where
 ex: ∃(oc:gi) (od:Option Addr) (kV doc pm:gi) (an:Option Addr) (f6 ct:gi) (aq:qS),
  fd=PySem.W.fnOf x qual (pQ st) (lJ st) (gr st) .none kV doc pm an f6 ct/\K.lookup f=some ⟨oc,od,.func fd,aq⟩/\PySem.W.codeIn K f6 qual=true
 kp:PySem.W.keepIn K (.ref f)=true
section
variable {P:gw}{w:gm}{K:gu}{mg:ke}{base:gz}
theorem Fun.ok{x qual:Str}{st:Stmt}{f:fV}{fd:kI}{N ps:gJ}{k:Nat}{sp:Sp}(F:Fun K x qual st f fd)(S:FnScope N ps (gr st))(len: ∀vs H Q E,sp vs H Q E->vs.length=ps.length)
  (u9: ∀(f6:gi) (A:gv) (outer:List Env) (s:gb) (H:Hp) (vs:List V) (Q:VK) (E:XK),Room k (A.deeper (envOfC qual (gr st) s.heap.objs.size f f6))->sp vs H Q E->
   ∃t,PSs (BC CX0 P w K mg base N qual (gr st) f f6 A outer s H E).nox (lJ st) t/\t {nx:=fun _ H'=>Q .non H',rt:=Q} (qE N vs) H):FnOk P w K mg base CX0 (k+1) f fd ps sp:=by
 obtain⟨oc,od,kV,doc,pm,an,f6,ct,aq,rfl,lk,u7⟩:=F.ex;refine P6 lk u7 S len fun A outer s H vs Q E hr bD=>?_;obtain⟨t,h,q⟩:=u9 f6 A outer s H vs Q E hr bD;exact⟨t,h.nox,q⟩
theorem Fun.binds{x qual:Str}{st:Stmt}{f:fV}{fd:kI}{ps:gJ}(F:Fun K x qual st f fd)
  (h: ∀(kV doc pm:gi) (an:Option Addr) (f6 ct:gi) (us:hJ),us.length=ps.length->bindArgs (PySem.W.fnOf x qual (pQ st) (lJ st) (gr st) .none kV doc pm an f6 ct) ⟨us,[]⟩=pure (ps.zip us)):Binds K fd ps []:=by
 obtain⟨oc,od,kV,doc,pm,an,f6,ct,aq,rfl,lk,u7⟩:=F.ex;exact .all (h kV doc pm an f6 ct)
theorem N9{x qual:Str}{st:Stmt}{f:fV}{oc:gi}{od an:Option Addr}{aq:qS}{kV doc pm f6 ct:gi}(l:K.lookup f=some ⟨oc,od,.func (PySem.W.fnOf x qual (pQ st) (lJ st) (gr st) .none kV doc pm an f6 ct),aq⟩)
  (c:PySem.W.codeIn K f6 qual=true)(k:PySem.W.keepIn K (.ref f)=true):Fun K x qual st f (PySem.W.fnOf x qual (pQ st) (lJ st) (gr st) .none kV doc pm an f6 ct):=⟨⟨oc,od,kV,doc,pm,an,f6,ct,aq,rfl,l,c⟩,k⟩
end
section
variable {X:Cx}
end
theorem N7{A B:Prop}(h:B):if false=true then A else B:=by
 rw[gk iB];exact h
theorem N6{A B:Prop}(h:A):if true=true then A else B:=by
 rw[gh rfl];exact h
def Same(H H':Hp):Prop:= ∀b o,H b=some o->H' b=some o
theorem Same.refl(H:Hp):Same H H:=fun _ _ h=>h
theorem Same.trans{H H1 H2:Hp}(a:Same H H1)(b:Same H1 H2):Same H H2:=fun c o h=>b c o (a c o h)
theorem qQ(env:Env): ∀(l:List (Str×NameKind)) (cs:jx),(∀x∈l,x.2= .free-> ∃c,env.cells.lookup x.1=some c)->(∀x c,cs.lookup x=some c->env.cells.lookup x=some c)->
  ∃cl,(forIn l cs fun x r=>if x.2==NameKind.free then do let a <-cellOf env x.1;pure (ForInStep.yield ((x.1,a)::r)) else pure (ForInStep.yield r))=(pure cl:Sem (List (Str×Addr)))/\
   (∀x c,cl.lookup x=some c->env.cells.lookup x=some c)/\(∀x,(x,NameKind.free)∈l-> ∃c,cl.lookup x=some c)/\ ∀x c,cs.lookup x=some c-> ∃c,cl.lookup x=some c
 |[],cs,_,hc=>⟨cs,rfl,hc,fun x h=>by simp at h,fun x c h=>⟨c,h⟩⟩
 |(n,k)::l,cs,h,hc=>by
  by_cases hk:k= .free
  ·subst hk;obtain⟨c,e⟩:=h (n,.free) ic rfl;have e':env.cells.lookup n=some c:=e
   obtain⟨cl,h1,h2,h3,h4⟩:=qQ env l ((n,c)::cs) (fun x hx=>h x (hU _ hx)) (fun x d hx=>by
    rw[md] at hx
    cases hb:x==n with
    |true=>rw[hb] at hx;have:=qe hb;subst this;cases hx;exact e'
    |false=>rw[hb] at hx;exact hc x d hx)
   refine⟨cl,?_,h2,fun x hx=>?_,fun x d hx=>?_⟩
   ·rw[tq];have:cellOf env n=pure c:=by unfold cellOf;rw[e']
    simp only[this,pure_bind,beq_self_eq_true,gS];exact h1
   ·rcases jt.mp hx with z|z
    ·cases z;exact h4 n c (by simp[md])
    ·exact h3 x z
   ·cases hb:x==n with
    |true=>have:=qe hb;subst this;exact h4 x c (by simp[md])
    |false=>exact h4 x d (by rw[md,hb];exact hx)
  ·obtain⟨cl,h1,h2,h3,h4⟩:=qQ env l cs (fun x hx=>h x (hU _ hx)) hc;have hb:(k==NameKind.free)=false:=by simpa using hk
   refine⟨cl,?_,h2,fun x hx=>?_,h4⟩
   ·rw[tq];simp only[hb,hC,ik,pure_bind];exact h1
   ·rcases jt.mp hx with z|z
    ·cases z;exact absurd rfl hk
    ·exact h3 x z
theorem wK(env:Env)(scope:iC)(h: ∀x∈scope.names,x.2= .free-> ∃c,env.cells.lookup x.1=some c):
  ∃cl,closureFor scope env=pure cl/\(∀x c,cl.lookup x=some c->env.cells.lookup x=some c)/\ ∀x,(x,NameKind.free)∈scope.names-> ∃c,cl.lookup x=some c:=by
 obtain⟨cl,h1,h2,h3,_⟩:=qQ env scope.names [] h (fun x c hx=>by simp at hx);refine⟨cl,?_,h2,h3⟩;unfold closureFor;have:(forIn scope.names ([]:List (Str×Addr)) fun x r=>if x.2==NameKind.free then do let a <-cellOf env x.1;pure (ForInStep.yield ((x.1,a)::r)) else pure (ForInStep.yield r))=(pure cl:Sem (List (Str×Addr))):=h1
 first
  |exact(nQ (· >>=fun r=>pure r) this).trans (pure_bind _ _)
  |(simp only[bind_pure];exact this)
  |exact this
theorem jZ: ∀(names:List (Str×NameKind)) (n:Nat) (acc:jx),cellsFrom n names acc=cellsFrom n names []++acc
 |[],_,_=>rfl
 |(x,k)::r,n,acc=>by
  unfold cellsFrom;split
  ·rw[jZ r (n+1) ((x,n)::acc),jZ r (n+1) [(x,n)],jc];rfl
  ·exact jZ r n acc
theorem mI{x:Str}{c:fV}: ∀(names:List (Str×NameKind)) (n:Nat),(x,c)∈cellsFrom n names []->(x,NameKind.cell)∈names
 |[],_,h=>by simp[cellsFrom] at h
 |(y,k)::r,n,h=>by
  unfold cellsFrom at h;split at h
  ·rename_i hk;rw[jZ] at h;rcases nS.mp h with z|z
   ·exact hU _ (mI r _ z)
   ·cases mN.mp z;rw[qe hk];exact ic
  ·exact hU _ (mI r _ h)
structure BCls(cells:jx)(scope:iC)(C:fV)(h:gz)(cl:jx):Prop where
 one: ∀x c,cl.lookup x=some c->(cells.lookup x=some c/\scope.names.lookup x≠some .cell)\/(C<c/\scope.names.lookup x=some .cell/\h.IsCell c none)
 all: ∀x,(x,NameKind.free)∈scope.names\/(x,NameKind.cell)∈scope.names-> ∃c,cl.lookup x=some c
 inj: ∀x y c,C<c->cl.lookup x=some c->cl.lookup y=some c->(∀z d,cells.lookup z=some d->d<C)->x=y
 ex: ∀x c,cl.lookup x=some c->cells.lookup x=some c\/C<c
theorem EJ{M:Model}{A:gv}{E:gD}{s:gb}{scope:iC}{globals:fV}{env:Env}{cl:jx}{qual:Str}{Q:Env->Shared->Prop}(n5: ∀y∈scope.names,y.2= .cell->scope.names.lookup y.1=some .cell)
  (l8: ∀x c,cl.lookup x=some c->env.cells.lookup x=some c)(j9: ∀x,(x,NameKind.free)∈scope.names-> ∃c,cl.lookup x=some c)
  (hQ: ∀h' cs,h'.Ns s.heap.objs.size (fun _=>none)->(∀b o,s.heap.get? b=some o->h'.get? b=some o)->BCls env.cells scope s.heap.objs.size h' cs->
   Q {scope,locals:=s.heap.objs.size,globals,cells:=cs,qual,func:=none,code:=env.code,frame:=env.frame,builtins:=env.builtins} {s with heap:=h'}):
  wpAny M A (newFunctionEnv scope globals cl [] qual none .none (some env)) Q E s:=by
 simp only[newFunctionEnv,Option.isSome_some,gS];refine fW (Cv ?_);refine fW (wpAny_layCells _ (fun name kind cells=>by cases hkc:kind==NameKind.cell<;>simp[hkc]) _ _ _ _ ?_);have ok:=cellsFrom_ok scope.names (s.heap.push {cls:= .type "dict",data:= .dict #[]}) (s.heap.objs.size+1) [] ⟨fun _ _ hm=>(nomatch hm),List.Pairwise.nil⟩ (by rw[nN];exact gQ _);rw[nN] at ok;rw[show({s with heap:=s.heap.push {cls:= .type "dict",data:= .dict #[]}}:Shared).heap.objs.size=s.heap.objs.size+1 from nN ..];simp only[vf];have look: ∀x,(cellsFrom (s.heap.objs.size+1) scope.names cl).lookup x=((cellsFrom (s.heap.objs.size+1) scope.names []).lookup x).or (cl.lookup x):=fun x=>by rw[jZ,List.lookup_append]
 have two: ∀x c,(cellsFrom (s.heap.objs.size+1) scope.names cl).lookup x=some c->(cl.lookup x=some c/\(cellsFrom (s.heap.objs.size+1) scope.names []).lookup x=none)\/(x,c)∈cellsFrom (s.heap.objs.size+1) scope.names []:=fun x c h=>by
  rw[look] at h
  cases hx:(cellsFrom (s.heap.objs.size+1) scope.names []).lookup x with
  |none=>rw[hx] at h;exact .inl ⟨h,rfl⟩
  |some d=>rw[hx] at h;cases h;exact .inr (oI hx)
 have lo: ∀{x:Str} {c:fV},(x,c)∈cellsFrom (s.heap.objs.size+1) scope.names []->s.heap.objs.size<c:=fun {x c} h=>(ok.empty x c h).2;refine fW (gg (gg (hQ _ _ ((Heap.Ns.new s.heap (.type "dict")).keeps (pushCells_keeps _ _)) (fun b o e=>pushCells_keeps _ _ b o (gY _ e)) ⟨fun x c h=>?_,fun x h=>?_,fun x y c hc h1 h2 hz=>?_,fun x c h=>?_⟩)))
 ·rcases two x c h with⟨z,hn⟩|z
  ·refine .inl ⟨l8 x c z,fun e=>?_⟩;have:=zd scope.names (s.heap.objs.size+1) [] (.inl e);rw[hn] at this;cases this
  ·exact .inr ⟨lo z,n5 _ (mI _ _ z) rfl,(ok.empty x c z).1⟩
 ·rcases h with h|h
  ·obtain⟨c,hc⟩:=j9 x h;rw[look,hc];cases(cellsFrom (s.heap.objs.size+1) scope.names []).lookup x<;>exact⟨_,rfl⟩
  ·have:=zd scope.names (s.heap.objs.size+1) cl (.inl (n5 _ h rfl));exact GH.mp this
 ·rcases two x c h1 with⟨z,_⟩|z
  ·exact absurd (hz x c (l8 x c z)) (Cu hc)
  ·rcases two y c h2 with⟨z',_⟩|z'
   ·exact absurd (hz y c (l8 y c z')) (Cu hc)
   ·exact name_of_addr ok.apart z z'
 ·rcases two x c h with⟨z,_⟩|z
  ·exact .inl (l8 x c z)
  ·exact .inr (lo z)
noncomputable def Cx.comp(X:Cx)(N':gJ)(scope:iC)(cl:jx)(C:fV)(s3:gb)(H3:Hp)(fp:iI)(pins:gG):Cx:=
 {X with N:=N',s₀:=s3,H₀:=H3,env:=compEnvC scope cl C X.env,outer:=X.stack,stack:=X.stack,ex:=fp,fn:=fun x=>scope.names.lookup x==some .cell,pn:=X.pn++pins,xe:=fun _ _=>False}
abbrev TB:=St->Hp->(St->Hp->Prop)->Prop
def PB(X:Cx)(code:Sem Unit)(t:TB):Prop:=
 ∀(pins:gG) (s:gb) (σ:St) (H:Hp) (N:St->Hp->Prop),Inv X pins σ H s->t σ H N->
  wpAny (model X.prog X.w) X.A code (fun _ s'=> ∃σ' H',Inv X pins σ' H' s'/\N σ' H') X.xe s
def PIf(X:Cx)(ifs:iF)(t:TT):Prop:=
 ∀(pins:gG) (s:gb) (σ:St) (H:Hp) (Q:Bool->Hp->Prop),Inv X pins σ H s->t σ H Q->
  wpAny (model X.prog X.w) X.A (forIn ifs true fun c r=>if r=true then do let ok <-isTrue c X.env (eval c X.env);pure (ForInStep.yield ok) else pure (ForInStep.yield r)) (TP X pins σ Q) X.xe s
noncomputable def OR:TT:=fun _ H Q=>Q true H
section
variable {X:Cx}
theorem Lq:PIf X [] OR:=fun pins s σ H Q I h=>wpAny_tests_nil ⟨H,I,h⟩
noncomputable def ir(e:gf)(depth:Nat)(acc:gi)(env:Env):Sem Unit:=
 match(clausesOf e)[depth+1]? with
 |some g'=>do
  let x <-eval g'.iter env
  standAt g'.iter.pos
  let x <-foldedSetIterable g'.iter env x
  let _ <-runOwn (.compStart e (depth+1) (<-holding [x] (pyIter x)) acc env) env
 |none=>match e with
  | .ListComp elt _ _ _=>do let _ <-call (.builtin "list.append") [acc,<-eval elt env]
  | .SetComp elt _ _ _=>do let v <-eval elt env;standAt elt.pos;let _ <-call (.builtin "set.add") [acc,v]
  |_=>unsupported "no"
def AG(J:It)(g:TG)(ti:TT)(tb:TB):TB:=fun σ H N=> ∃W:Nat->Nat->St->Hp->Prop,(∃m,W 0 m σ H)/\ ∀i m σ H,W i m σ H->
 (J.stop i H/\N σ H)\/(J.go i H/\ ∀x H',J.yld i H x H'->g x σ H' fun σ2 H2=>ti σ2 H2 fun b H3=>if b=true then tb σ2 H3 fun σ4 H4=> ∃m',m'<m/\W (i+1) m' σ4 H4 else ∃m',m'<m/\W (i+1) m' σ2 H3)
theorem zW(e:gf)(depth:Nat)(it acc:gi)(env:Env)(g:oi)(hl:(∃elt gens sc p,e= .ListComp elt gens sc p)\/(∃elt gens sc p,e= .SetComp elt gens sc p))
  (hg:(clausesOf e)[depth]?=some g)(ha:g.is_async=0)(q9: ∀g',(clausesOf e)[depth+1]?=some g'->g'.is_async=0):
  compTurn e depth it acc env=(do
   standAt g.iter.pos
   match <-pyNext it with
   |none=>pure (.done .next)
   |some v=>
    letOwnedTupleGo g.target it v
    assign g.target env v
    let ok <-forIn g.ifs true fun c r=>if r=true then do let ok <-isTrue c env (eval c env);pure (ForInStep.yield ok) else pure (ForInStep.yield r)
    if ok=true then ir e depth acc env
    again (.compLoop e depth it acc env)):=by
 rcases hl with⟨elt,gens,sc,p,rfl⟩|⟨elt,gens,sc,p,rfl⟩
 ·have cQ:gens[depth]?=some g:=hg;unfold compTurn ir;simp only[clausesOf] at hg q9 ⊢;rw[cQ];simp only[ha]
  cases hn:gens[depth+1]? with
  |none=>rfl
  |some g'=>
   have:=q9 g' hn;simp only[this,rq,hC,ik]
   congr 1;funext _;congr 1;funext r
   cases r with
   |none=>rfl
   |some v=>
    dsimp only
    congr 1;funext _;congr 1;funext _;congr 1;funext ok
    cases ok with
    |false=>rfl
    |true=>simp only[gS,qa];rfl
 ·have cQ:gens[depth]?=some g:=hg;unfold compTurn ir;simp only[clausesOf] at hg q9 ⊢;rw[cQ];simp only[ha]
  cases hn:gens[depth+1]? with
  |none=>rfl
  |some g'=>
   have:=q9 g' hn;simp only[this,rq,hC,ik]
   congr 1;funext _;congr 1;funext r
   cases r with
   |none=>rfl
   |some v=>
    dsimp only
    congr 1;funext _;congr 1;funext _;congr 1;funext ok
    cases ok with
    |false=>rfl
    |true=>simp only[gS,qa];rfl
theorem J1 
  (hl:(∃elt gens sc p,e= .ListComp elt gens sc p)\/(∃elt gens sc p,e= .SetComp elt gens sc p))
  (h:wpAny (model prog w) A ((compTurn e depth it acc env).onRaise (fun x=>do noteFrame x env;theTreesLotGoes x)) Q E s):
  wpAny (model prog w) (A.under (.compLoop e depth it acc env)) ((model prog w).den (.compLoop e depth it acc env)) Q E s:=by
 rcases hl with⟨elt,gens,sc,p,rfl⟩|⟨elt,gens,sc,p,rfl⟩
 ·exact h
 ·exact h
theorem ES{e:gf}{depth:Nat}{acc:gi}{c:oi}{g:TG}{ti:TT}{tb:TB}{J:It}{fp:iI}{it:fV}{tn:Nat->Heap->Prop}(hxe:X.xe=fun _ _=>False)(hc:X.calm=true)
  (hl:(∃elt gens sc p,e= .ListComp elt gens sc p)\/(∃elt gens sc p,e= .SetComp elt gens sc p))(hg:(clausesOf e)[depth]?=some c)(ha:c.is_async=0)(q9: ∀g',(clausesOf e)[depth+1]?=some g'->g'.is_async=0)
  (T:Turn X.prog X.w X.K c.target J fp it tn)(pg:PG X c.target g)(df:PIf X c.ifs ti)(pb:PB X (ir e depth acc X.env) tb)
  {pins:gG}{s:gb}{σ:St}{H:Hp}{N:St->Hp->Prop}(I:Inv X pins σ H s)(f2: ∀b∈fp,mJ X pins H b)(st:tn 0 s.heap)(h:AG J g ti tb σ H N):
  codeAny (model X.prog X.w) X.A (.compLoop e depth (.ref it) acc X.env) (fun r s'=>r= .ok .next/\ ∃σ' H',Inv X pins σ' H' s'/\(∀b∈fp,H' b=none)/\N σ' H') s:=by
 obtain⟨W,⟨m0,w0⟩,turn⟩:=h;have v7: ∀{H':Hp},(∀b∈fp,H' b=none)-> ∀b∈fp,mJ X pins H' b:=fun hn b hb=>⟨hn b hb,(f2 b hb).2⟩
 have F2: ∀{α:Type} {t:Sem α} {Q:α->Shared->Prop} {E:gD} {s:gb},wpAny (model X.prog X.w) X.A t Q X.xe s->wpAny (model X.prog X.w) X.A t Q E s:=fun h=>ox h (fun _ _ x=>x) fun _ _ z=>by rw[hxe] at z;exact z.elim
 refine codeAny_loop rfl (fun n s'=> ∃i σ' H',Inv X pins σ' H' s'/\tn i s'.heap/\(∀b∈fp,H' b=none)/\W i n σ' H') (fun n s3 hI=>?_) m0 ⟨0,σ,H,I,st,fun b hb=>(f2 b hb).1,w0⟩;refine J1 hl ?_;refine wpAny_noted ?_;rw[zW e depth (.ref it) acc X.env c hl hg ha q9];obtain⟨i,σ3,H3,I3,j4,cW,w3⟩:=hI;refine fW (vo ?_);rcases turn i n σ3 H3 w3 with⟨stop,qn⟩|⟨go,step⟩
 ·refine fW (thn (T.done X rfl rfl rfl hc i pins s3 σ3 H3 _ I3 (v7 cW) j4 stop) fun r s4 ⟨hr,I4⟩=>?_);subst hr;exact gg ⟨rfl,σ3,H3,I4,cW,qn⟩
 ·refine fW (thn (T.item X rfl rfl rfl hc i pins s3 σ3 H3 _ I3 (v7 cW) j4 go) fun r s4 ⟨u,hr,h4⟩=>?_);subst hr;refine fW (thn h4 fun _ s5 ⟨x,H5,I5,r5,y5,aV,fK⟩=>?_);have fR:=I5.pinned (v7 fK) (T.obj _ _ aV);refine fW (thn (F2 (pg _ s5 σ3 H5 x u _ fR r5 (step x H5 y5))) fun _ s6 ⟨σ6,H6,I6,q6⟩=>?_);refine fW (thn (F2 (df _ s6 σ6 H6 _ I6 q6)) fun ok s7 ⟨H7,I7,q7⟩=>?_)
  have again: ∀{s8:gb} {σ8:St} {H8:Hp},Inv X (pins++vS fp s5.heap) σ8 H8 s8->(∃m',m'<n/\W (i+1) m' σ8 H8)-> ∃m,m<n/\ ∃i σ' H',Inv X pins σ' H' s8/\tn i s8.heap/\(∀b∈fp,H' b=none)/\W i m σ' H':=fun {s8 σ8 H8} I8 ⟨m',hm,w8⟩=>by
   refine⟨m',hm,i+1,σ8,H8,I8.unpinned,T.keep _ _ _ aV fun b hb o e=>(I8.pin (b,o) (nO _ (nO _ (nE hb e)))).1,fun b hb=>?_,w8⟩;obtain⟨o,e,d⟩:=T.obj _ _ aV b hb;exact(I8.pin (b,o) (nO _ (nO _ (nE hb e)))).2.1
  cases ok with
  |false=>
   rw[gk iB] at q7;exact gg ⟨rfl,again I7 q7⟩
  |true=>
   rw[gh rfl] at q7;simp only[gS];refine fW (thn (F2 (pb _ s7 σ6 H7 _ I7 q7)) fun _ s8 ⟨σ8,H8,I8,q8⟩=>?_);exact gg ⟨rfl,again I8 q8⟩
def OW(d:fV)(te:TE):TB:=fun σ H N=>te σ H fun y H1=> ∃ys,H1 d=some (.lst ys)/\ys.length<sizeLine/\N σ (upd H1 d (.lst (ys++[y])))
theorem Ly{elt:gf}{gens:nM}{sc:iC}{p:Pos}{depth:Nat}{d:fV}{te:TE}(hn:gens[depth+1]?=none)(he:PE X elt te):PB X (ir (.ListComp elt gens sc p) depth (.ref d) X.env) (OW d te):=by
 intro pins s σ H N I h
 have e1:ir (.ListComp elt gens sc p) depth (.ref d) X.env=(do let _ <-call (.builtin "list.append") [.ref d,<-eval elt X.env]):=by
  unfold ir;simp only[clausesOf];rw[hn]
 rw[e1];refine fW (thn (he pins s σ H _ I h) fun u s1 ⟨y,H1,I1,ru,ys,hd,hz,q⟩=>?_);obtain⟨z,b6,n,r,hl,e⟩:=I1.lstM hd;refine fW (za F.slot_list_append ⟨_,e,rfl⟩ Hj (Hh _ _) (PySem.list_append d b6.toArray n u (by rw[gU];omega)) ⟨e,?_⟩);refine gg ⟨σ,_,I1.lset (its':=b6++[u]) hd e (by simp) (r.append (.cons ru .nil)) ?_,q⟩;rw[lO,vg];omega
theorem AK{prog:gw}{w:gm}{A:gv}{e:gf}{depth:Nat}{it acc:gi}{env:Env}{R:Result->Shared->Prop}{s:gb}{c:oi}
  (hl:(∃elt gens sc p,e= .ListComp elt gens sc p)\/(∃elt gens sc p,e= .SetComp elt gens sc p))(hg:(clausesOf e)[depth]?=some c)(ha:c.is_async=0)
  (h0:codeAny (model prog w) A (.compLoop e depth it acc env) R s)
  (self: ∀(Q:gD) (E:gD),Q it s->wpAny (model prog w) A (pyIter it) Q E s):
  codeAny (model prog w) A (.compStart e depth it acc env) R s:=by
 have core:wpAny (model prog w) A (compStart e depth it acc env) (fun fin s'=>match fin with| .done f=>R (.ok f) s'| .again c'=>c'.quiet=true/\codeAny (model prog w) A c' R s') (notedBy (model prog w) A env fun x s'=>R (.error x) s') s:=by
  unfold compStart;rw[hg];simp only[Option.elim,ha,rq,hC,ik];refine fW (tj (wpAny_ite ?_));split
  ·first
    |exact fW (gg (gg (And.intro rfl h0)))
    |exact gg (And.intro rfl h0)
  ·exact fW (rp (fW (vo (fW (self _ _ (gg (And.intro rfl h0)))))))
 rcases hl with⟨elt,gens,sc,p,rfl⟩|⟨elt,gens,sc,p,rfl⟩
 ·refine ve ?_;show wpAny _ A ((compStart (.ListComp elt gens sc p) depth it acc env).onRaise (fun x=>do noteFrame x env;standAt theWindowsPlace)) _ _ s;exact wpAny_notedAt core
 ·refine ve ?_;show wpAny _ A ((compStart (.SetComp elt gens sc p) depth it acc env).onRaise (fun x=>do noteFrame x env;standAt theWindowsPlace)) _ _ s;exact wpAny_notedAt core
end
theorem lE{env:Env}: ∀{names:List (Str×NameKind)} {x:Str},names.lookup x=some .free->
  (names.map fun(n,k)=>if(k==NameKind.free&&env.scope.kind== .function&&env.kindOf n==some .cell) then(n,NameKind.cell) else(n,k)).lookup x=some .cell\/
  (names.map fun(n,k)=>if(k==NameKind.free&&env.scope.kind== .function&&env.kindOf n==some .cell) then(n,NameKind.cell) else(n,k)).lookup x=some .free
 |[],_,h=>by simp at h
 |(n,k)::r,x,h=>by
  have ih:= @lE env r x;rw[iw]
  cases hx:x==n with
  |true=>
   simp only[md,hx] at h;cases h;by_cases hc:(NameKind.free==NameKind.free&&env.scope.kind== .function&&env.kindOf n==some .cell)=true
   ·left;simp only[hc,gS,md,hx]
   ·right;simp only[hc,ik,md,hx,hC]
  |false=>
   simp only[md,hx] at h;by_cases hc:(k==NameKind.free&&env.scope.kind== .function&&env.kindOf n==some .cell)=true
   ·simp only[hc,gS,md,hx];exact ih h
   ·simp only[hc,ik,md,hx,hC];exact ih h
theorem jf{env:Env}: ∀{names:List (Str×NameKind)} {x:Str} {k':NameKind},
  (names.map fun(n,k)=>if(k==NameKind.free&&env.scope.kind== .function&&env.kindOf n==some .cell) then(n,NameKind.cell) else(n,k)).lookup x=some k'-> ∃k,(x,k)∈names/\(k=k'\/k= .free)
 |[],_,_,h=>by simp at h
 |(n,k)::r,x,k',h=>by
  rw[iw] at h
  cases hx:x==n with
  |true=>
   have e:=qe hx;subst e;by_cases hc:(k==NameKind.free&&env.scope.kind== .function&&env.kindOf x==some .cell)=true
   ·refine⟨k,ic,.inr ?_⟩
    have h1:(k==NameKind.free)=true:=by
     cases hk:(k==NameKind.free) with
     |true=>rfl
     |false=>rw[hk] at hc;simp at hc
    exact qe h1
   ·simp only[hc,ik,md,hx,hC] at h;exact⟨k,ic,.inl (by simpa using h)⟩
  |false=>
   by_cases hc:(k==NameKind.free&&env.scope.kind== .function&&env.kindOf n==some .cell)=true
   ·simp only[hc,gS,md,hx] at h;obtain⟨k2,h1,h2⟩:=jf h;exact⟨k2,hU _ h1,h2⟩
   ·simp only[hc,ik,md,hx,hC] at h;obtain⟨k2,h1,h2⟩:=jf h;exact⟨k2,hU _ h1,h2⟩
structure CompScope(X:Cx)(N':gJ)(scope:iC)(pre:St->St):Prop where
 cell: ∀y∈scope.names,y.2= .cell->scope.names.lookup y.1=some .cell
 kind:scope.kind= .function
 names: ∀y∈scope.names,y.2= .local->scope.names.lookup y.1=some .local
 free: ∀y∈scope.names,y.2= .free->X.env.scope.names.lookup y.1=some .cell\/X.env.scope.names.lookup y.1=some .free
 len: ∀σ:St,(pre σ).length=N'.length
 pre: ∀(σ:St) (i:Nat) (v:V) (x:Str),(pre σ)[i]?=some (some v)->N'[i]?=some x->scope.names.lookup x=some .free/\ ∃j:Nat,X.N[j]?=some x/\σ[j]?=some (some v)
section
variable {X:Cx}
theorem Fe{N':gJ}{scope:iC}{pre:St->St}(S:CompScope X N' scope pre){pins:gG}{s3:gb}{σ:St}{H3:Hp}{fp:iI}{cl:jx}{h':gz}{t':Nat}(I:Inv X pins σ H3 s3)
  (B:BCls X.env.cells scope s3.heap.objs.size h' cl)
  (ff: ∀b∈fp,mJ X pins H3 b)(fo: ∀b∈fp,b<s3.heap.objs.size)
  (bF:h'.Ns s3.heap.objs.size (fun _=>none))(hk: ∀b o,s3.heap.get? b=some o->h'.get? b=some o):
  Inv (X.comp N' scope cl s3.heap.objs.size s3 H3 fp pins) [] (pre σ) H3 {s3 with heap:=h',toks:=t'}:=by
 have hfr: ∀b∈frs X.stack,H3 b=none:=I.stkFree;have nfs: ∀b,b≠X.env.locals->b∉X.fs->b∉frs X.stack:=fun b h1 h2 z=>(jt.mp (I.stkSub b z)).elim h1 h2;have old: ∀x c,X.env.cells.lookup x=some c->c<s3.heap.objs.size:=fun x c e=>(I.cell x c e).elim fun _ z=>z.lt
 refine⟨⟨I.ok.mod,?_,I.ok.glob,I.ok.blt,gQ _,fun x y c h1 h2=>?_,fun x hx=>?_,fun x c hf e=>?_,I.ok.hd,I.ok.frames,.inl rfl,fun b hb=>?_,
  I.bs,kx I.ok.bsz I.sz,fun b o e hb=>?_,fun b hb=>nfs b (ff b hb).2.1 (ff b hb).2.2.1,I.stack,hfr⟩,rfl,I.bare,Un.kept hk,⟨_,bF,fun i x v h1 h2 h3=>?_⟩,fun x c hx=>?_,I.hok.fresh (gQ _),fun x c hx=>?_,fun p hp=>?_,I.hok.kept hk,S.len σ⟩
 ·show(relabel scope X.env).kind= .function;simp[relabel,S.kind]
 ·rcases B.ex x c h1 with z|z
  ·rcases B.ex y c h2 with z'|z'
   ·exact I.ok.inj x y c z z'
   ·exact absurd (old x c z) (Cu z')
  ·exact B.inj x y c z h1 h2 old
 ·
  have bB:(relabel scope X.env).names.lookup x=some .cell\/(relabel scope X.env).names.lookup x=some .free:=hx;refine B.all x ?_;rcases bB with z|z
  ·obtain⟨k,h1,h2⟩:=jf z;rcases h2 with h2|h2<;>subst h2
   ·exact .inr h1
   ·exact .inl h1
  ·obtain⟨k,h1,h2⟩:=jf z;rcases h2 with h2|h2<;>(subst h2;exact .inl h1)
 ·rcases B.one x c e with⟨_,z⟩|⟨z,_⟩
  ·exact absurd (qe hf) z
  ·exact tH z
 ·refine⟨ie (fo b hb),fun x c hx=>?_⟩;rcases B.ex x c hx with z|z
  ·exact(ff b hb).2.2.2.2.1 x c z
  ·exact nP (vd (fo b hb) z)
 ·
  have o6:b∈fp:=hb;rcases(ff b o6).2.2.2.1 with z|z
  ·exact I.ok.noex b o e z
  ·exact absurd (lA (iM e) (kx I.ok.bsz z)) (oz _)
 ·obtain⟨hf,j,hj,hv⟩:=S.pre σ i v x h2 h1;obtain⟨m,hn,hl⟩:=I.loc;have k8:=S.free (x,.free) (oI hf) rfl;obtain⟨u,r,l⟩:=hl j x v hj hv (by rcases k8 with z|z;exact .inr (.inl z);exact .inr (.inr z));refine⟨u,r,.inr ⟨lE hf,?_⟩⟩;rcases l with⟨eu,_⟩|⟨_,c,hc,n5⟩
  ·have ej:X.env.scope.names.lookup x=some .local:=eu;rcases k8 with z|z<;>(have z':X.env.scope.names.lookup x=_:=z;rw[ej] at z';cases z')
  ·obtain⟨c',dB⟩:=B.all x (.inl (oI hf));rcases B.one x c' dB with⟨this,_⟩|⟨_,z,_⟩
   ·rw[hc] at this;cases this;exact⟨c,dB,n5.keeps hk⟩
   ·rw[hf] at z;cases z
 ·rcases B.one x c hx with⟨z,_⟩|⟨_,_,z⟩
  ·obtain⟨v,hv⟩:=I.cell x c z;exact⟨v,hv.keeps hk⟩
  ·exact⟨_,z⟩
 ·rcases B.ex x c hx with z|z
  ·exact I.freeC x c z
  ·exact I.hok.fresh (tH z)
 ·have bh:p∈X.pn++pins:=by simpa[Cx.comp] using hp
  obtain⟨e,n,h1,h2,h3⟩:=I.pin p bh;exact⟨hk _ _ e,n,ie (iM e),nfs _ h1 h2,h3⟩
theorem BF{N':gJ}{scope:iC}{pins:gG}{s3 s4:gb}{σ σ':St}{H3 H4:Hp}{fp:iI}{cl:jx}{h':gz}(I:Inv X pins σ H3 s3)(ff: ∀b∈fp,mJ X pins H3 b)
  (J:Inv (X.comp N' scope cl s3.heap.objs.size s3 H3 fp pins) [] σ' H4 s4)(hs:Heap.SameBut s3.heap.objs.size s4.heap h'):Inv X pins σ H4 {s4 with heap:=h'}:=by
 have K:=I.call' (s':=s4) (ch:=fp) J.os J.base J.hok J.bare fun b hb=>⟨(ff b hb).2.2.2.1,(ff b hb).2.1,(ff b hb).2.2.2.2.1,(ff b hb).2.2.2.2.2⟩
 have eL:X.env.locals<s3.heap.objs.size:=I.lt;refine K.turned (it:=s3.heap.objs.size) (t':=s4.toks) (fun b o hb e=>by rw[hs.2 b hb];exact e) J.free (nP eL) (.inr I.sz) (fun x c hx z=>?_) (fun p hp z=>?_)
 ·obtain⟨v,o,e,_⟩:=I.cell x c hx;exact absurd (iM e) (by rw[z];exact oz _)
 ·obtain⟨e,_⟩:=I.pin p hp;exact absurd (iM e) (by rw[z];exact oz _)
def Pa(J:It)(g:TG)(ti:TT)(tb:Addr->TB)(pre:St->St)(σ:St)(H:Hp)(Q:VK):Prop:=
 ∀d,H d=none->AG J g ti (tb d) (pre σ) (upd H d (.lst [])) fun _ H2=>Q (.ref d) H2
theorem J2{elt:gf}{c:oi}{gP:nM}{scope:iC}{pos:Pos}{N':gJ}{pre:St->St}{g:TG}{ti:TT}{tb:Addr->TB}{cE:jx}{J:It}{fp:iI}{it:fV}{tn:Nat->Heap->Prop}
  (S:CompScope X N' scope pre)(hc:X.calm=true)(ha:c.is_async=0)(q9: ∀g',gP[0]?=some g'->g'.is_async=0)
  (x9: ∀(cl:jx) (C:fV) (s3:gb) (H3:Hp) (fp:iI) (pins:gG),let X':=X.comp N' scope cl C s3 H3 fp pins
   PG X' c.target g/\PIf X' c.ifs ti/\ ∀d,PB X' (ir (.ListComp elt (c::gP) scope pos) 0 (.ref d) X'.env) (tb d))
  (l8: ∀x c,cE.lookup x=some c->X.env.cells.lookup x=some c)(j9: ∀x,(x,NameKind.free)∈scope.names-> ∃c,cE.lookup x=some c)
  {pins:gG}{s2:gb}{σ:St}{H2:Hp}{Q:VK}{E:gD}{RR:Value->Addr->Result->Shared->Prop}(I2:Inv X pins σ H2 s2)(T:Turn X.prog X.w X.K c.target J fp it tn)(g9:tn 0 s2.heap)(f2: ∀b∈fp,mJ X pins H2 b)
  (h:Pa J g ti tb pre σ H2 Q)
  (fI: ∀(d:fV) (cl:jx) (s3:gb) (H3 H4:Hp) (σ':St) (s4:gb),Inv X pins σ H3 s3->(∀b∈fp,mJ X pins H3 b)->Inv (X.comp N' scope cl s3.heap.objs.size s3 H3 fp pins) [] σ' H4 s4->Q (.ref d) H4->RR (.ref d) s3.heap.objs.size (.ok .next) s4):
  wpAny (model X.prog X.w) X.A (newList []) (fun acc s₃=>wpAny (model X.prog X.w) X.A (newFunctionEnv scope X.env.globals cE [] X.env.qual none .none (some X.env)) (fun aG s₄=>
   codeAny (model X.prog X.w) X.A (.compStart (.ListComp elt (c::gP) scope pos) 0 (.ref it) acc {aG with scope:=relabel scope X.env}) (RR acc aG.locals) s₄) E s₃) E s2:=by
 have I3:Inv X pins σ (upd H2 s2.heap.objs.size (.lst [])) {s2 with heap:=s2.heap.push {cls:= .type "list",data:= .seq ([]:List Value).toArray}}:=I2.lnew (t':=s2.toks) .nil (by simp);have fo: ∀b∈fp,b<s2.heap.objs.size:=fun b hb=>by obtain⟨o,e,_⟩:=T.obj _ _ g9 b hb;exact iM e
 have ff: ∀b∈fp,mJ X pins (upd H2 s2.heap.objs.size (.lst [])) b:=fun b hb=>⟨by rw[gA (ie (fo b hb))];exact(f2 b hb).1,(f2 b hb).2⟩
 refine kW ?_;refine EJ S.cell l8 j9 fun h1 cl bF fj B=>?_;have hk: ∀b o,(s2.heap.push {cls:= .type "list",data:= .seq ([]:List Value).toArray}).get? b=some o->h1.get? b=some o:=fj;have cp: ∀b∈fp,b<(s2.heap.push {cls:= .type "list",data:= .seq ([]:List Value).toArray}).objs.size:=fun b hb=>by rw[nN];exact tf (fo b hb)
 have J0:=Fe (t':=s2.toks) S I3 B ff cp bF hk;obtain⟨pg,df,pb⟩:=x9 cl (s2.heap.push {cls:= .type "list",data:= .seq ([]:List Value).toArray}).objs.size {s2 with heap:=s2.heap.push {cls:= .type "list",data:= .seq ([]:List Value).toArray}} (upd H2 s2.heap.objs.size (.lst [])) fp pins;have m8:tn 0 h1:=T.keep _ _ _ g9 fun b hb o e=>hk b o (gY _ e);have hw:=h s2.heap.objs.size (I2.hok.fresh (gQ _))
 have fM: ∀b∈fp,mJ (X.comp N' scope cl (s2.heap.push {cls:= .type "list",data:= .seq ([]:List Value).toArray}).objs.size {s2 with heap:=s2.heap.push {cls:= .type "list",data:= .seq ([]:List Value).toArray}} (upd H2 s2.heap.objs.size (.lst [])) fp pins) []
   (upd H2 s2.heap.objs.size (.lst [])) b:=fun b hb=>by
  obtain⟨z1,z2,z3,z4,z5,z6⟩:=ff b hb;refine⟨z1,ie (cp b hb),fun z=>(jt.mp (I3.stkSub b z)).elim z2 z3,.inl hb,fun x c hx=>(B.ex x c hx).elim (z5 x c) fun z=>nP (vd (cp b hb) z),fun p hp=>z6 p (by simpa[Cx.comp] using hp)⟩
 have hl:(∃el gens sc p,Expr.ListComp elt (c::gP) scope pos= .ListComp el gens sc p)\/(∃el gens sc p,Expr.ListComp elt (c::gP) scope pos= .SetComp el gens sc p):= .inl ⟨_,_,_,_,rfl⟩;refine AK hl rfl ha ?_ (fun Q' E' hq=>T.self X.A 0 _ Q' E' m8 hq)
 refine oJ (ES (X:=X.comp N' scope cl (s2.heap.push {cls:= .type "list",data:= .seq ([]:List Value).toArray}).objs.size {s2 with heap:=s2.heap.push {cls:= .type "list",data:= .seq ([]:List Value).toArray}} (upd H2 s2.heap.objs.size (.lst [])) fp pins)
  (depth:=0) (acc:= .ref s2.heap.objs.size) rfl hc hl rfl ha (fun g' w9=>q9 g' (by simpa[clausesOf] using w9)) T pg df (pb _) J0 fM m8 hw) fun r s4 hr=>?_
 obtain⟨rfl,σ4,H4,I4,_,q⟩:=hr;exact fI _ _ _ _ _ _ _ I3 ff I4 q
noncomputable def Mi(wi:TI)(g:TG)(ti:TT)(tb:Addr->TB)(pre:St->St):TE:=fun σ H Q=>wi σ H fun J H1=>Pa J g ti tb pre σ H1 Q
theorem IW{elt:gf}{c:oi}{gP:nM}{scope:iC}{pos:Pos}{N':gJ}{pre:St->St}{wi:TI}{g:TG}{ti:TT}{tb:Addr->TB}
  (S:CompScope X N' scope pre)(hc:X.calm=true)(ha:c.is_async=0)(q9: ∀g',gP[0]?=some g'->g'.is_async=0)
  (hs: ∀x,foldedSetIterable c.iter X.env x=pure x)(pi:PI X c.target c.iter wi)
  (x9: ∀(cl:jx) (C:fV) (s3:gb) (H3:Hp) (fp:iI) (pins:gG),let X':=X.comp N' scope cl C s3 H3 fp pins
   PG X' c.target g/\PIf X' c.ifs ti/\ ∀d,PB X' (ir (.ListComp elt (c::gP) scope pos) 0 (.ref d) X'.env) (tb d)):
  PE X (.ListComp elt (c::gP) scope pos) (Mi wi g ti tb pre):=by
 intro pins s σ H Q I h;obtain⟨tg,dq,ifs,az⟩:=c;obtain rfl:az=0:=ha;obtain⟨cl,x8,l8,j9⟩:=wK X.env scope fun x hx hf=>I.ok.has x.1 (S.free x hx hf);rw[eval_ListComp];show wpAny _ X.A (comprehension _ scope X.env _ (newList []) false (eval dq X.env)) _ _ s;refine He (use:=none) (g:=⟨tg,dq,ifs,0⟩) (gs:=gP) rfl hs x8 S.kind S.names (thn (pi pins s σ H _ I h) fun v s1 h1=>thn h1 fun dS s2 h2=>?_);obtain⟨it,fp,tn,J,H2,rfl,I2,T,g9,f2,hw⟩:=h2;refine J2 (RR:=fun acc C=>compPost (model X.prog X.w) X.A X.xe none (EP X pins σ Q) acc C) S hc rfl q9 x9 l8 j9 I2 T g9 f2 hw fun d cl' s3 H3 H4 σ' s4 I3 ff J4 q=>?_;obtain⟨m,hn,_⟩:=id J4.loc;exact⟨m,hn,fun h' aL=>⟨.ref d,H4,BF I3 ff J4 aL,rfl,q⟩⟩
end
section
variable {κ:Type}[DecidableEq κ]
noncomputable def nZ(kvs:List (κ×V))(k:κ):Option V:=(kvs.find? fun kv=>decide (kv.1=k)).map (·.2)
noncomputable def og(kvs:List (κ×V))(k:κ)(v:V):List (κ×V):=
 if(kvs.any fun kv=>decide (kv.1=k))=true then kvs.map (fun kv=>if kv.1=k then(kv.1,v) else kv) else kvs++[(k,v)]
theorem oN{p:κ×V}{r:List (κ×V)}{k:κ}(e:p.1=k):nZ (p::r) k=some p.2:=by simp[nZ,sZ,e]
theorem lQ{p:κ×V}{r:List (κ×V)}{k:κ}(e: ¬p.1=k):nZ (p::r) k=nZ r k:=by simp[nZ,sZ,e]
theorem AB(k:κ): ∀kvs:List (κ×V),(kvs.any fun kv=>decide (kv.1=k))=(nZ kvs k).isSome
 |[]=>rfl
 |p::r=>by
  rw[sY];by_cases e:p.1=k
  ·simp only[oN e,qb e,Bool.true_or,Option.isSome_some]
  ·rw[lQ e,nR e,Bool.false_or];exact AB k r
theorem uf(kvs:List (κ×V))(k:κ)(v:V):(og kvs k v).length<=kvs.length+1:=by
 unfold og;split
 ·rw[iq];omega
 ·rw[lO,iJ,rm];omega
theorem RelO.isSome_eq{o:Option V}{u:Option Value}(r:RelO o u):o.isSome=u.isSome:=by
 cases o with
 |none=>cases u with
  |none=>rfl
  |some _=>exact(show False from r).elim
 |some _=>cases u with
  |none=>exact(show False from r).elim
  |some _=>rfl
theorem KV.val{kvs:List (κ×V)}{vs:List (κ×Value)}(r:KV kvs vs)(k:κ):RelO (nZ kvs k) (valueAt vs k):=by
 unfold KV at r
 induction r with
 |nil=>exact True.intro
 | @cons p q ps qs h t ih=>
  obtain⟨h1,h2⟩:=h;by_cases e:p.1=k
  ·have e':q.1=k:=h1.symm.trans e;have b:valueAt (q::qs) k=some q.2:=by simp[valueAt,sZ,e']
   rw[oN e,b];exact h2
  ·have e': ¬q.1=k:=fun z=>e (h1.trans z);have b:valueAt (q::qs) k=valueAt qs k:=by simp[valueAt,sZ,e']
   rw[lQ e,b];exact ih
theorem KV.any{kvs:List (κ×V)}{vs:List (κ×Value)}(r:KV kvs vs)(k:κ):(kvs.any fun kv=>decide (kv.1=k))=vs.any fun kv=>decide (kv.1=k):=by
 unfold KV at r
 induction r with
 |nil=>rfl
 |cons h t ih=>rw[sY,sY,ih,h.1]
theorem KV.repl{kvs:List (κ×V)}{vs:List (κ×Value)}(r:KV kvs vs)(k:κ){y:V}{u:gi}(ry:RelV y u):
  KV (kvs.map fun kv=>if kv.1=k then(kv.1,y) else kv) (vs.map fun kv=>if kv.1=k then(kv.1,u) else kv):=by
 unfold KV at r ⊢
 induction r with
 |nil=>exact .nil
 | @cons p q ps qs h t ih=>
  rw[iw,iw];refine .cons ?_ ih;obtain⟨h1,h2⟩:=h;by_cases e:p.1=k
  ·rw[gh e,gh (h1.symm.trans e)];exact⟨h1,ry⟩
  ·rw[gk e,gk (fun z=>e (h1.trans z))];exact⟨h1,h2⟩
theorem KV.put{kvs:List (κ×V)}{vs:List (κ×Value)}(r:KV kvs vs)(k:κ){y:V}{u:gi}(ry:RelV y u):KV (og kvs k y) (stored vs k u):=by
 unfold og stored;rw[r.any k];by_cases e:(vs.any fun kv=>decide (kv.1=k))=true
 ·rw[gh e,gh e];exact r.repl k ry
 ·rw[gk e,gk e];exact Paired.snoc r ⟨rfl,ry⟩
theorem KV.length{kvs:List (κ×V)}{vs:List (κ×Value)}(r:KV kvs vs):kvs.length=vs.length:=tJ r
end
theorem yg{P:gw}{w:gm}{k:Key}{u:gi}(r:RelV (kV k) u):(iT P w).is k u=true:=by
 cases k with
 |inl i=>obtain⟨t,e⟩:=(show ∃t,u=Value.int i t from r);subst e;exact Bj P w i t
 |inr x=>obtain⟨t,e⟩:=(show ∃t,u=Value.str x t from r);subst e;exact Bi P w x t
theorem yh{P:gw}{w:gm}: ∀{ks:List Key} {us:hJ},Vals (ks.map kV) us->ItemsAre (iT P w) ks us
 |[],_,r=>by rw[oH] at r;cases r;exact .nil
 |k::ks,_,r=>by
  rw[iw] at r
  cases r with
  |cons h t=>exact .cons (yg h) (yh t)
abbrev KT(H:Hp):List (List Key×V)->List (List Key×Addr×Value)->Prop:=Paired fun p q=>p.1=q.1/\H q.2.1=some (.tup (p.1.map kV))/\RelV p.2 q.2.2
theorem KT.val{H:Hp}{kvs:List (List Key×V)}{xs:List (List Key×Addr×Value)}(r:KT H kvs xs)(k:List Key):RelO (nZ kvs k) ((atKey xs k).map (·.2)):=by
 induction r with
 |nil=>exact True.intro
 | @cons p q ps qs h t ih=>
  obtain⟨h1,_,h2⟩:=h;by_cases e:p.1=k
  ·have e':q.1=k:=h1.symm.trans e;have b:atKey (q::qs) k=some q.2:=by simp[atKey,sZ,e']
   rw[oN e,b];exact h2
  ·have e': ¬q.1=k:=fun z=>e (h1.trans z);have b:atKey (q::qs) k=atKey qs k:=by simp[atKey,sZ,e']
   rw[lQ e,b];exact ih
theorem KT.repl{H:Hp}{kvs:List (List Key×V)}{xs:List (List Key×Addr×Value)}(r:KT H kvs xs)(k:List Key){y:V}{u:gi}(ry:RelV y u):
  KT H (kvs.map fun kv=>if kv.1=k then(kv.1,y) else kv) (xs.map (putAt k u)):=by
 induction r with
 |nil=>exact .nil
 | @cons p q ps qs h t ih=>
  rw[iw,iw];refine .cons ?_ ih;obtain⟨h1,h2,h3⟩:=h;unfold putAt;by_cases e:p.1=k
  ·rw[gh e,gh (h1.symm.trans e)];exact⟨h1,h2,ry⟩
  ·rw[gk e,gk (fun z=>e (h1.trans z))];exact⟨h1,h2,h3⟩
theorem KT.put{H:Hp}{kvs:List (List Key×V)}{xs:List (List Key×Addr×Value)}(r:KT H kvs xs)(k:List Key){b:fV}{y:V}{u:gi}(hb:H b=some (.tup (k.map kV)))(ry:RelV y u):
  KT H (og kvs k y) (storedH xs k b u):=by
 have e:(kvs.any fun kv=>decide (kv.1=k))=(atKey xs k).isSome:=by
  rw[AB,(r.val k).isSome_eq,Ct]
 unfold og storedH;rw[e];by_cases q:(atKey xs k).isSome=true
 ·rw[gh q,gh q];exact r.repl k ry
 ·rw[gk q,gk q];exact Paired.snoc r ⟨rfl,hb,ry⟩
theorem KT.keeps{H H':Hp}{kvs:List (List Key×V)}{xs:List (List Key×Addr×Value)}(r:KT H kvs xs)(ht: ∀b ys,H b=some (.tup ys)->H' b=some (.tup ys)):KT H' kvs xs:=
 Paired.mapP r fun _ _ z=>⟨z.1,ht _ _ z.2.1,z.2.2⟩
section
variable {P:gw}{w:gm}{H:Hp}{h:gz}{a:fV}
theorem Mm{u:HO}(ok:HOk P w H h)(e:Rd H a u):ObjOk P w H h a u:=e.ok ok
theorem JW{kvs:List (Key×V)}(ok:HOk P w H h)(e:Rd H a (.dK kvs)):kvs.length<=sizeLine/\(a==sysModules)=false/\ ∃vs,KV kvs vs/\h.DictOf (iT P w) a vs:=
 show ObjOk P w H h a (.dK kvs) from Mm ok e
theorem MA{kvs:List (Key×V)}(ok:HOk P w H h)(e:H a=some (.dK kvs)):kvs.length<=sizeLine/\(a==sysModules)=false/\ ∃vs,KV kvs vs/\h.DictOf (iT P w) a vs:=JW ok (.inl e)
theorem qL{ks:List Key}(ok:HOk P w H h)(e:H a=some (.tup (ks.map kV))):(tupleKind (iT P w)).is h ks a:=by
 obtain⟨_,b6,r,o,h1,h2,n,h3⟩:=(show ObjOk P w H h a (.tup (ks.map kV)) from ok a _ e)
 exact⟨o,b6.toArray,n,h1,h2,h3,by simpa using yh r⟩
theorem JT{kvs:List (List Key×V)}(ok:HOk P w H h)(e:Rd H a (.dT kvs)):kvs.length<=sizeLine/\(a==sysModules)=false/\
  ∃xs,KT H kvs xs/\h.DictOfH (tupleKind (iT P w)) a xs:=by
 obtain⟨z,y,xs,r,o,es,ep,h1,h2,h3,h4,h5⟩:=(show ObjOk P w H h a (.dT kvs) from Mm ok e)
 refine⟨z,y,xs,r,o,es,ep,h1,h2,h3,h4,fun x hx=>?_,h5⟩
 have all: ∀{l:List (List Key×V)} {m:List (List Key×Addr×Value)},KT H l m-> ∀x∈m,(tupleKind (iT P w)).is h x.1 x.2.1:=by
  intro l m q
  induction q with
  |nil=>intro x hx;exact nomatch hx
  | @cons p q ps qs hq t ih=>
   intro x hx;rcases jt.mp hx with e|hx
   ·subst e;exact qL ok (by rw[<-hq.1];exact hq.2.1)
   ·exact ih x hx
 exact all r x hx
theorem JU{kvs:List (List Key×V)}(ok:HOk P w H h)(e:H a=some (.dT kvs)):kvs.length<=sizeLine/\(a==sysModules)=false/\
  ∃xs,KT H kvs xs/\h.DictOfH (tupleKind (iT P w)) a xs:=JT ok (.inl e)
end
def DGet(H:Hp)(a:fV)(y:V)(r:Option V):Prop:=
 (∃kvs k,Rd H a (.dK kvs)/\y=kV k/\r=nZ kvs k)\/ ∃kvs k b,Rd H a (.dT kvs)/\y= .ref b/\H b=some (.tup (k.map kV))/\r=nZ kvs k
def DPut(H:Hp)(a:fV)(y v:V)(H':Hp):Prop:=
 (∃kvs k,H a=some (.dK kvs)/\y=kV k/\kvs.length<sizeLine/\H'=upd H a (.dK (og kvs k v)))\/
 ∃kvs k b,H a=some (.dT kvs)/\y= .ref b/\H b=some (.tup (k.map kV))/\kvs.length<sizeLine/\H'=upd H a (.dT (og kvs k v))
theorem DGet.k{H:Hp}{a:fV}{kvs:List (Key×V)}{k:Key}(e:H a=some (.dK kvs)):DGet H a (kV k) (nZ kvs k):= .inl ⟨kvs,k,.inl e,rfl,rfl⟩
theorem DGet.t{H:Hp}{a b:fV}{kvs:List (List Key×V)}{k:List Key}(e:H a=some (.dT kvs))(eb:H b=some (.tup (k.map kV))):DGet H a (.ref b) (nZ kvs k):= .inr ⟨kvs,k,b,.inl e,rfl,eb,rfl⟩
theorem DPut.k{H:Hp}{a:fV}{kvs:List (Key×V)}{k:Key}{v:V}(e:H a=some (.dK kvs))(hl:kvs.length<sizeLine):DPut H a (kV k) v (upd H a (.dK (og kvs k v))):= .inl ⟨kvs,k,e,rfl,hl,rfl⟩
theorem DPut.t{H:Hp}{a b:fV}{kvs:List (List Key×V)}{k:List Key}{v:V}(e:H a=some (.dT kvs))(eb:H b=some (.tup (k.map kV)))(hl:kvs.length<sizeLine):
  DPut H a (.ref b) v (upd H a (.dT (og kvs k v))):= .inr ⟨kvs,k,b,e,rfl,eb,hl,rfl⟩
section
variable {X:Cx}{pins:gG}{σ:St}{H:Hp}{s:gb}{a:fV}{y v:V}{u r:gi}{o:Option V}{A:gv}{E:gD}
theorem Inv.big(I:Inv X pins σ H s):sysModules<s.heap.objs.size:=by
 have h:mainGlobals<s.heap.objs.size:=(I.mod.glob.keeps I.bk).lt;exact vd (by decide) h
theorem Qg{Q:gD}(hu:A.units+1<cLine)(I:Inv X pins σ H s)(g:DGet H a y o)(ry:RelV y u)(h: ∀s',Inv X pins σ H s'->Q (.bool o.isSome) s'):
  wpAny (model X.prog X.w) A (compareOp .In u (.ref a)) Q E s:=by
 rcases g with⟨kvs,k,e,ey,l⟩|⟨kvs,k,b,e,ey,eb,l⟩
 ·subst ey;obtain⟨z,hd,vs,rel,dd⟩:=JW I.hok e;refine wpAny_in_of (yg ry) hd dd.mapOf ?_;rw[<-(rel.val k).isSome_eq,<-l];exact h _ (I.tok _)
 ·subst ey;cases(show u=Value.ref b from ry);obtain⟨z,hd,xs,rel,dd⟩:=JT I.hok e;refine wpAny_in_heap (vc hu) (qL I.hok eb) hd dd ?_;have q:=(rel.val k).isSome_eq;rw[Ct] at q;rw[<-q,<-l];exact h _ (I.tok _)
theorem Fd{Q:gD}(hu:A.units+1<cLine)(I:Inv X pins σ H s)(g:DGet H a y o)(ry:RelV y u)(h: ∀s',Inv X pins σ H s'->Q (.bool (!o.isSome)) s'):
  wpAny (model X.prog X.w) A (compareOp .NotIn u (.ref a)) Q E s:=by
 rcases g with⟨kvs,k,e,ey,l⟩|⟨kvs,k,b,e,ey,eb,l⟩
 ·subst ey;obtain⟨z,hd,vs,rel,dd⟩:=JW I.hok e;refine wpAny_notIn_of (yg ry) hd dd.mapOf ?_;rw[<-(rel.val k).isSome_eq,<-l];exact h _ (I.tok _)
 ·subst ey;cases(show u=Value.ref b from ry);obtain⟨z,hd,xs,rel,dd⟩:=JT I.hok e;refine wpAny_notIn_heap (vc hu) (qL I.hok eb) hd dd ?_;have q:=(rel.val k).isSome_eq;rw[Ct] at q;rw[<-q,<-l];exact h _ (I.tok _)
theorem pR{h':gz}{t':Nat}{ob:HO}(I:Inv X pins σ H s)(mu:Mut (H a))(hs:Heap.SameBut a s.heap h')(he: ∃q,h'.get? a=some q)(new:ObjOk X.prog X.w (upd H a ob) h' a ob):
  Inv X pins σ (upd H a ob) {s with heap:=h',toks:=t'}:=
 I.write (x:=a) (e:=a) mu (.inl rfl) (fun b q hb z=>(hs.2 b hb).trans z) he new
theorem Og{P:gw}{w:gm}{H':Hp}{h':gz}{kvs:List (Key×V)}{vs:List (Key×Value)}(z:kvs.length<=sizeLine)(hd:(a==sysModules)=false)(rel:KV kvs vs)(dd:h'.DictOf (iT P w) a vs):
  ObjOk P w H' h' a (.dK kvs):=⟨z,hd,vs,rel,dd⟩
theorem tY{H':Hp}{Q:Unit->Shared->Prop}(hu:A.units+1<cLine)(I:Inv X pins σ H s)(g:DPut H a y v H')(ry:RelV y u)(rv:RelV v r)(h: ∀s',Inv X pins σ H' s'->Q () s'):
  wpAny (model X.prog X.w) A (setItem (.ref a) u r) Q E s:=by
 rcases g with⟨kvs,k,e,ey,l,eH⟩|⟨kvs,k,b,e,ey,eb,l,eH⟩
 ·subst ey eH;obtain⟨z,hd,vs,rel,dd⟩:=MA I.hok e;have hz:vs.length<=sizeLine:=by rw[<-rel.length];exact z
  have hl:(og kvs k v).length<=sizeLine:=by have:=uf kvs k v;omega
  refine wpAny_setItem_pairs (hsz:=hz) (yg ry) dd fun h' cY hs=>h _ ?_;have he: ∃q,h'.get? a=some q:=let⟨q,_,_,hq,_⟩:=cY;⟨q,hq⟩
  exact pR I (by rw[e];exact True.intro) hs he (Og hl hd (rel.put k rv) cY)
 ·subst ey eH;cases(show u=Value.ref b from ry);obtain⟨z,hd,xs,rel,dd⟩:=JU I.hok e;have hz:xs.length<=sizeLine:=by rw[<-tJ rel];exact z
  have hl:(og kvs k v).length<=sizeLine:=by have:=uf kvs k v;omega
  refine wpAny_setItem_heap (hsz:=hz) (vc hu) (qL I.hok eb) dd fun h' cY hs=>h _ ?_;obtain⟨q,es,ep,hq,h2,h3,h4,_,h5⟩:=cY;refine pR I (by rw[e];exact True.intro) hs ⟨q,hq⟩ ⟨hl,hd,_,(rel.put k eb rv).keeps fun c ys ec=>?_,q,es,ep,hq,h2,h3,h4,h5⟩;rw[gA (Ji ec e (fun z=>nomatch z))];exact ec
end
theorem JX{P:gw}{w:gm}{H:Hp}(h:gz)(hb:sysModules<h.objs.size):ObjOk P w H (h.push {cls:= .type "dict",data:= .dict #[]}) h.objs.size (.dK []):=
 ⟨ku _,wX.mpr (mM (ie hb)),[],.nil,Heap.DictOf.new h⟩
theorem JV{P:gw}{w:gm}{H:Hp}(h:gz)(hb:sysModules<h.objs.size):ObjOk P w H (h.push {cls:= .type "dict",data:= .dict #[]}) h.objs.size (.dT []):=
 ⟨ku _,wX.mpr (mM (ie hb)),[],.nil,_,#[],0,iU _ rfl,⟨rfl,rfl,rfl⟩,rfl,rfl,rk⟩
noncomputable def MP:TE:=fun _ H Q=> ∀p,H p=none->Q (.ref p) (upd H p (.dK []))
section
variable {X:Cx}{pos:Pos}
theorem IY:PE X (.Dict [] [] pos) MP:=fun pins s σ H Q I h=>
 wpAny_Dict_empty ⟨.ref s.heap.objs.size,_,I.laid (a:=s.heap.objs.size) (o:= .dK []) (t':=s.toks) (fun _ _ q=>gY _ q) (gQ _) (JX s.heap I.big),rfl,h _ (I.hok.fresh (gQ _))⟩
end
end L2
namespace PX
open PySem PySem.Spec PyProof.Rows L2
inductive OK where
 |dct|set|fn(i:Nat)|exc(c:Nat)
 deriving DecidableEq
inductive D where
 |non|bl(b:Bool)|int(i:Int)|str(x:Str)|tup(l:List D)|lst(l:List D)|oth(k:OK)(ks vs:List D)
mutual
/-- the hash of ints and of tuples of such -/
noncomputable def D.hash:D->Int
 | .int i=>hashInt i
 | .tup l=>reduceHash (Builtin.Tuple.tupleHashOf (D.hashL l))
 |_=>0
noncomputable def D.hashL:List D->List Int
 |[]=>[]
 |d::l=>D.hash d::D.hashL l
end
noncomputable def iz:Key->D
 | .inl i=> .int i
 | .inr x=> .str x
def Sj(K:gu)(o:Obj)(C:Nat):Prop:=o.cls= .ref C/\(∀a:Addr,PySem.W.KitX K (.ref a) (.ref C) fun h=>h.get? a=some o)/\ ∀n∈["int","bool","str","tuple","list","dict"],PySem.W.kitOne K (.ref C) (.type n)=some false
def OthB(K:gu)(h:Option HO)(k:OK)(ks vs:List D)(us:List V):Prop:=
 match k with
 | .dct=>(∃kvs:List (Key×V),h=some (.dK kvs)/\ks=kvs.map (fun p=>iz p.1)/\us=kvs.map (·.2))\/
   (∃kvs:List (List Key×V),h=some (.dT kvs)/\ks=kvs.map (fun p=> .tup (p.1.map iz))/\us=kvs.map (·.2))
 | .set=>ks=[]/\ ∃zs:List (Int×V),h=some (.stt zs)/\zs.Perm ((D.hashL vs).zip us)
 | .exc C=>(ks=[]/\vs=[]/\us=[])/\ ∃o,h=some (.frz o (.own 0))/\Sj K o C
 |_=>False
theorem OthB.ex{K h k ks vs us}(x:OthB K h k ks vs us): ∃o,h=some o:=by
 cases k with
 |dct=>rcases x with⟨_,e,_⟩|⟨_,e,_⟩<;>exact⟨_,e⟩
 |set=>obtain⟨_,_,e,_⟩:=x;exact⟨_,e⟩
 |exc C=>obtain⟨_,_,e,_⟩:=x;exact⟨_,e⟩
 |_=>exact x.elim
theorem OthB.keep{K k ks vs us}(x:OthB K h k ks vs us)(kp: ∀o,h=some o->h'=some o):OthB K h' k ks vs us:=by
 obtain⟨o,e⟩:=x.ex;rw[kp o e,<-e];exact x
abbrev AP':=Addr->Prop
def KT(K:gu)(a:fV)(xs:List V):Prop:= ∃(o:Obj) (b6:jy) (n:Nat),K.lookup a=some o/\o.cls= .type "tuple"/\o.data= .seq b6 n/\b6.size<=sizeLine/\Vals xs b6.toList
def KL(K:gu)(a:fV)(xs:List V):Prop:= ∃(o:Obj) (b6:jy) (n:Nat),K.lookup a=some o/\o.cls= .type "list"/\o.dict=none/\o.data= .seq b6 n/\b6.size<=sizeLine/\Vals xs b6.toList
def SqTO(K:gu)(H:Hp)(O:AP')(a:fV)(xs:List V):Prop:=H a=some (.tup xs)/\ ¬O a
def SqLO(K:gu)(H:Hp)(O:AP')(a:fV)(xs:List V):Prop:=(Rd H a (.lst xs)/\ ¬O a)\/KL K a xs
theorem SqTO.sq{K H O a xs}(h:SqTO K H O a xs):SqT K H a xs:= .inl (.inl h.1)
theorem SqLO.sq{K H O a xs}(h:SqLO K H O a xs):SqL K H a xs:=h.elim (fun z=> .inl z.1) .inr
theorem Rd.mono{a u}(h:Rd H a u)(k: ∀o,H a=some o->H' a=some o):Rd H' a u:=by
 rcases h with h|⟨o,h⟩
 ·exact .inl (k _ h)
 ·exact .inr ⟨o,k _ h⟩
theorem SqTO.mono{K H H'}{a xs}(h:SqTO K H O a xs)(k: ∀b o,H b=some o-> ¬O b->H' b=some o)(hO: ∀b,H b≠none->O' b->O b):SqTO K H' O' a xs:=
 ⟨k a _ h.1 h.2,fun z=>h.2 (hO a (by rw[h.1];simp) z)⟩
theorem SqLO.mono{K H H'}{a xs}(h:SqLO K H O a xs)(k: ∀b o,H b=some o-> ¬O b->H' b=some o)(hO: ∀b,H b≠none->O' b->O b):SqLO K H' O' a xs:=by
 rcases h with⟨r,n⟩|h
 ·refine .inl ⟨Rd.mono r fun o e=>k a o e n,fun z=>n (hO a ?_ z)⟩;rcases r with r|⟨_,r⟩<;>(rw[r];simp)
 ·exact .inr h
mutual
/-- v is the datum,in H;nothing of it stands at an address of O -/
def Rep(K:gu)(H:Hp)(O:AP'):D->V->Prop
 | .non,v=>v= .non
 | .bl b,v=>v= .bl b
 | .int i,v=>v= .int i
 | .str x,v=>v= .str x
 | .tup l,v=> ∃a xs,v= .ref a/\SqTO K H O a xs/\RepL K H O l xs
 | .lst l,v=> ∃a xs,v= .ref a/\SqLO K H O a xs/\RepL K H O l xs
 | .oth k ks vs,v=> ∃a us,v= .ref a/\(¬O a/\OthB K (H a) k ks vs us)/\RepL K H O vs us
def RepL(K:gu)(H:Hp)(O:AP'):List D->List V->Prop
 |[],vs=>vs=[]
 |d::l,vs=> ∃v r,vs=v::r/\Rep K H O d v/\RepL K H O l r
end
mutual
theorem Rep.mono{K H H'}{O O':AP'}(k: ∀b o,H b=some o-> ¬O b->H' b=some o)(hO: ∀b,H b≠none->O' b->O b): ∀{d:D} {v:V},Rep K H O d v->Rep K H' O' d v
 | .non,_,h=>h
 | .bl _,_,h=>h
 | .int _,_,h=>h
 | .str _,_,h=>h
 | .tup l,_,h=>by
  rw[Rep] at h ⊢;obtain⟨a,xs,e,s,r⟩:=h;exact⟨a,xs,e,s.mono k hO,RepL.mono k hO r⟩
 | .lst l,_,h=>by
  rw[Rep] at h ⊢;obtain⟨a,xs,e,s,r⟩:=h;exact⟨a,xs,e,s.mono k hO,RepL.mono k hO r⟩
 | .oth kk ks vs,_,h=>by
  rw[Rep] at h ⊢;obtain⟨a,us,e,s,r⟩:=h;exact⟨a,us,e,⟨fun z=>s.1 (hO a (by obtain⟨o,q⟩:=s.2.ex;rw[q];simp) z),s.2.keep fun o q=>k a o q s.1⟩,RepL.mono k hO r⟩
theorem RepL.mono{K H H'}{O O':AP'}(k: ∀b o,H b=some o-> ¬O b->H' b=some o)(hO: ∀b,H b≠none->O' b->O b): ∀{l:List D} {vs:List V},RepL K H O l vs->RepL K H' O' l vs
 |[],_,h=>h
 |d::l,_,h=>by
  rw[RepL] at h ⊢;obtain⟨v,r,e,h1,h2⟩:=h;exact⟨v,r,e,Rep.mono k hO h1,RepL.mono k hO h2⟩
end
theorem Rep.mkInt{K H O i}:Rep K H O (.int i) (.int i):=by rw[Rep]
theorem Rep.mkBl{K H O i}:Rep K H O (.bl i) (.bl i):=by rw[Rep]
theorem Rep.mkNon{K H O}:Rep K H O .non .non:=by rw[Rep]
theorem Rep.mkStr{K H O i}:Rep K H O (.str i) (.str i):=by rw[Rep]
theorem Rep.int{K H O i v}(h:Rep K H O (.int i) v):v= .int i:=by rwa [Rep] at h
theorem Rep.bl{K H O i v}(h:Rep K H O (.bl i) v):v= .bl i:=by rwa [Rep] at h
theorem Rep.non{K H O v}(h:Rep K H O .non v):v= .non:=by rwa [Rep] at h
theorem Rep.str{K H O i v}(h:Rep K H O (.str i) v):v= .str i:=by rwa [Rep] at h
theorem Rep.tup{K H O l v}(h:Rep K H O (.tup l) v): ∃a xs,v= .ref a/\SqTO K H O a xs/\RepL K H O l xs:=by rwa [Rep] at h
theorem Rep.lst{K H O l v}(h:Rep K H O (.lst l) v): ∃a xs,v= .ref a/\SqLO K H O a xs/\RepL K H O l xs:=by rwa [Rep] at h
theorem Rep.oth{K H O k ks vs v}(h:Rep K H O (.oth k ks vs) v): ∃a us,v= .ref a/\(¬O a/\OthB K (H a) k ks vs us)/\RepL K H O vs us:=by rwa [Rep] at h
theorem Rep.mkOth{K H O k ks vs a us}(n: ¬O a)(h:OthB K (H a) k ks vs us)(r:RepL K H O vs us):Rep K H O (.oth k ks vs) (.ref a):=by rw[Rep];exact⟨a,us,rfl,⟨n,h⟩,r⟩
theorem Rep.mkTup{K H O l a xs}(h:SqTO K H O a xs)(r:RepL K H O l xs):Rep K H O (.tup l) (.ref a):=by rw[Rep];exact⟨a,xs,rfl,h,r⟩
theorem Rep.mkLst{K H O l a xs}(h:SqLO K H O a xs)(r:RepL K H O l xs):Rep K H O (.lst l) (.ref a):=by rw[Rep];exact⟨a,xs,rfl,h,r⟩
theorem RepL.length{K H O}: ∀{l:List D} {vs:List V},RepL K H O l vs->vs.length=l.length
 |[],vs,h=>by rw[RepL] at h;rw[h];rfl
 |d::l,vs,h=>by
  rw[RepL] at h;obtain⟨v,r,rfl,_,h2⟩:=h;simp[RepL.length h2]
theorem RepL.get{K H O}: ∀{l:List D} {vs:List V} {i:Nat} {d:D},RepL K H O l vs->l[i]?=some d-> ∃v,vs[i]?=some v/\Rep K H O d v
 |[],_,_,_,_,e=>by simp at e
 |d::l,vs,0,d',h,e=>by
  rw[RepL] at h;obtain⟨v,r,rfl,h1,_⟩:=h;simp at e;subst e;exact⟨v,rfl,h1⟩
 |d::l,vs,i+1,d',h,e=>by
  rw[RepL] at h;obtain⟨v,r,rfl,_,h2⟩:=h;obtain⟨w,h3,h4⟩:=RepL.get (i:=i) h2 (by simpa using e);exact⟨w,by simpa using h3,h4⟩
theorem RepL.append{K H O}: ∀{l m:List D} {vs ws:List V},RepL K H O l vs->RepL K H O m ws->RepL K H O (l++m) (vs++ws)
 |[],_,vs,_,h,h'=>by rw[RepL] at h;subst h;exact h'
 |d::l,_,vs,_,h,h'=>by
  rw[RepL] at h;obtain⟨v,r,rfl,h1,h2⟩:=h;show RepL K H O (d::(l++_)) _;rw[RepL];exact⟨v,_,rfl,h1,RepL.append h2 h'⟩
theorem RepL.one{K H O}{d:D}{v:V}(h:Rep K H O d v):RepL K H O [d] [v]:=by
 rw[RepL];exact⟨v,[],rfl,h,by rw[RepL]⟩
theorem RepL.nil{K H O}:RepL K H O [] []:=by rw[RepL]
theorem RepL.cons{K H O}{l vs}(h:Rep K H O d v)(h':RepL K H O l vs):RepL K H O (d::l) (v::vs):=by
 rw[RepL];exact⟨v,vs,rfl,h,h'⟩
theorem RepL.take{K H O}: ∀{l:List D} {vs:List V} (n:Nat),RepL K H O l vs->RepL K H O (l.take n) (vs.take n)
 |_,_,0,_=>by simp[RepL]
 |[],vs,n+1,h=>by rw[RepL] at h;subst h;simp[RepL]
 |d::l,vs,n+1,h=>by
  rw[RepL] at h;obtain⟨v,r,rfl,h1,h2⟩:=h;exact RepL.cons h1 (RepL.take n h2)
theorem RepL.drop{K H O}: ∀{l:List D} {vs:List V} (n:Nat),RepL K H O l vs->RepL K H O (l.drop n) (vs.drop n)
 |_,_,0,h=>h
 |[],vs,n+1,h=>by rw[RepL] at h;subst h;simp[RepL]
 |d::l,vs,n+1,h=>by
  rw[RepL] at h;obtain⟨v,r,rfl,h1,h2⟩:=h;exact RepL.drop n h2
theorem RepL.set{K H O}{d:D}{v:V}(hv:Rep K H O d v): ∀{l:List D} {vs:List V} (i:Nat),RepL K H O l vs->RepL K H O (l.set i d) (vs.set i v)
 |[],vs,i,h=>by rw[RepL] at h;subst h;simp[RepL]
 |e::l,vs,0,h=>by
  rw[RepL] at h;obtain⟨w,r,rfl,h1,h2⟩:=h;exact RepL.cons hv h2
 |e::l,vs,i+1,h=>by
  rw[RepL] at h;obtain⟨w,r,rfl,h1,h2⟩:=h;exact RepL.cons h1 (RepL.set hv i h2)
abbrev Sl:=Option (D×Bool)
abbrev Dn:=List Sl
def OwnA(σ:L2.St)(δ:Dn)(a:fV):Prop:= ∃(i:Nat) (d:D),δ[i]?=some (some (d,true))/\σ[i]?=some (some (V.ref a))
def OwnOk(K:gu)(H:Hp)(O:AP'):D->Addr->Prop
 | .lst l,a=> ∃xs,H a=some (.lst xs)/\RepL K H O l xs
 | .oth k ks vs,a=> ∃us,OthB K (H a) k ks vs us/\RepL K H O vs us
 |_,_=>False
theorem OwnOk.mono{K H H'}(h:OwnOk K H O d a)(k: ∀b o,H b=some o-> ¬O b->H' b=some o)(hO: ∀b,H b≠none->O' b->O b)(ka: ∀o,H a=some o->H' a=some o):OwnOk K H' O' d a:=by
 cases d with
 |lst l=>obtain⟨xs,e,r⟩:=h;exact⟨xs,ka _ e,RepL.mono k hO r⟩
 |oth kk ks vs=>obtain⟨us,e,r⟩:=h;exact⟨us,e.keep ka,RepL.mono k hO r⟩
 |_=>exact h
theorem OwnOk.rep{K H}(h:OwnOk K H O d a)(na: ¬O' a)(hO: ∀b,H b≠none->O' b->O b):Rep K H O' d (.ref a):=by
 cases d with
 |lst l=>
  obtain⟨xs,e,r⟩:=h;rw[Rep];exact⟨a,xs,rfl,.inl ⟨.inl e,na⟩,RepL.mono (fun b o e _=>e) hO r⟩
 |oth kk ks vs=>
  obtain⟨us,e,r⟩:=h;exact Rep.mkOth na e (RepL.mono (fun b o e _=>e) hO r)
 |_=>exact h.elim
def Ow:Option HO->Prop
 |none=>False
 |some (.tup _)=>False
 |_=>True
theorem Ow.ne{o:Option HO}(h:Ow o):o≠none:=fun e=>by rw[e] at h;exact h
theorem Ow.up{o o':Option HO}(h:Ow o)(k: ∀x,o=some x->o'=some x):Ow o':=by
 cases o with
 |none=>exact h.elim
 |some x=>rw[k x rfl];exact h
theorem nOw{o:Option HO}(h:o=none): ¬Ow o:=fun z=>z.ne h
theorem Ow.nt{o:Option HO}(h:Ow o)(xs:List V):o≠some (.tup xs):=fun e=>by rw[e] at h;exact h
theorem OwnOk.ow{K H}{O:AP'}{d:D}{a:fV}(h:OwnOk K H O d a):Ow (H a):=by
 cases d with
 |lst l=>obtain⟨xs,e,_⟩:=h;rw[e];trivial
 |oth k ks vs=>
  obtain⟨us,e,_⟩:=h
  cases k with
  |dct=>rcases e with⟨_,e,_⟩|⟨_,e,_⟩<;>(rw[e];trivial)
  |set=>obtain⟨_,_,e,_⟩:=e;rw[e];trivial
  |exc C=>obtain⟨_,_,e,_⟩:=e;rw[e];trivial
  |_=>exact e.elim
 |_=>exact h.elim
structure ER(K:gu)(H:Hp)(T:AP')(σ:L2.St)(δ:Dn):Prop where
 len:σ.length=δ.length
 val: ∀(i:Nat) (d:D),δ[i]?=some (some (d,false))-> ∃v,σ[i]?=some (some v)/\Rep K H (fun a=>OwnA σ δ a\/T a) d v
 own: ∀(i:Nat) (d:D),δ[i]?=some (some (d,true))-> ∃a,σ[i]?=some (some (V.ref a))/\OwnOk K H (fun a=>OwnA σ δ a\/T a) d a
 inj: ∀(i j:Nat) (d e:D) (a:fV),δ[i]?=some (some (d,true))->δ[j]?=some (some (e,true))->σ[i]?=some (some (V.ref a))->σ[j]?=some (some (V.ref a))->i=j
 nT: ∀a,OwnA σ δ a-> ¬T a
 dom: ∀a,T a->Ow (H a)
theorem ER.ownOw{K H T σ δ}(E:ER K H T σ δ)(h:OwnA σ δ a):Ow (H a):=by
 obtain⟨i,d,h1,h2⟩:=h;obtain⟨b,h3,h4⟩:=E.own i d h1;rw[h2] at h3;cases h3;exact h4.ow
theorem ER.ownDom{K H T σ δ}(E:ER K H T σ δ)(h:OwnA σ δ a):H a≠none:=(E.ownOw h).ne
theorem ER.mono{K H H' σ δ}(E:ER K H T σ δ)(k: ∀b o,H b=some o-> ¬T b->H' b=some o)(hT: ∀b,H b≠none->T' b->T b)(hd: ∀a,T' a->Ow (H' a)):ER K H' T' σ δ where
 len:=E.len
 val:=fun i d h=>by
  obtain⟨v,h1,h2⟩:=E.val i d h;exact⟨v,h1,Rep.mono (fun b o e n=>k b o e fun z=>n (.inr z)) (fun b hb z=>z.elim .inl fun z=> .inr (hT b hb z)) h2⟩
 own:=fun i d h=>by
  obtain⟨a,h1,h2⟩:=E.own i d h;exact⟨a,h1,h2.mono (fun b o e n=>k b o e fun z=>n (.inr z)) (fun b hb z=>z.elim .inl fun z=> .inr (hT b hb z)) fun o e=>k a o e (E.nT a ⟨i,d,h,h1⟩)⟩
 inj:=E.inj
 nT:=fun a h z=>E.nT a h (hT a (E.ownDom h) z)
 dom:=hd
theorem OwnA.set(h:OwnA σ (δ.set i (some (d,false))) a):OwnA σ δ a:=by
 obtain⟨j,e,h1,h2⟩:=h;rw[yZ] at h1;split at h1
 ·split at h1<;>simp at h1
 ·exact⟨j,e,h1,h2⟩
theorem ER.freeze{K H T σ δ}(E:ER K H T σ δ){i:Nat}{d:D}{b:Bool}(h:δ[i]?=some (some (d,b))):ER K H T σ (δ.set i (some (d,false)))/\ ∃v,σ[i]?=some (some v)/\Rep K H (fun a=>OwnA σ (δ.set i (some (d,false))) a\/T a) d v:=by
 have hi:i<δ.length:=(qR.mp h).1
 have me: ∃v,σ[i]?=some (some v)/\Rep K H (fun a=>OwnA σ (δ.set i (some (d,false))) a\/T a) d v:=by
  cases b with
  |false=>
   obtain⟨v,h1,h2⟩:=E.val i d h;exact⟨v,h1,Rep.mono (fun _ _ e _=>e) (fun b _ z=>z.elim (fun z=> .inl z.set) .inr) h2⟩
  |true=>
   obtain⟨a,h1,h2⟩:=E.own i d h;refine⟨.ref a,h1,h2.rep (fun z=>?_) fun b _ z=>z.elim (fun z=> .inl z.set) .inr⟩;rcases z with⟨j,e,h3,h4⟩|z
   ·rw[yZ] at h3;split at h3
    ·first
      |(split at h3<;>simp at h3)
      |simp at h3
    ·rename_i l6;exact l6 (E.inj i j d e a h h3 h1 h4)
   ·exact E.nT a ⟨i,d,h,h1⟩ z
 refine⟨⟨by rw[qc];exact E.len,fun j e hj=>?_,fun j e hj=>?_,fun j k e f a hj hk h1 h2=>?_,fun a z=>E.nT a z.set,E.dom⟩,me⟩
 ·by_cases n9:i=j
  ·subst n9;rw[oy hi] at hj;cases hj;exact me
  ·rw[qg n9] at hj;obtain⟨v,h1,h2⟩:=E.val j e hj;exact⟨v,h1,Rep.mono (fun _ _ e _=>e) (fun b _ z=>z.elim (fun z=> .inl z.set) .inr) h2⟩
 ·by_cases n9:i=j
  ·subst n9;rw[oy hi] at hj;cases hj
  ·rw[qg n9] at hj;obtain⟨a,h1,h2⟩:=E.own j e hj;exact⟨a,h1,h2.mono (fun _ _ e _=>e) (fun b _ z=>z.elim (fun z=> .inl z.set) .inr) fun _ e=>e⟩
 ·have g1:δ[j]?=some (some (e,true)):=by
   by_cases n9:i=j
   ·subst n9;rw[oy hi] at hj;cases hj
   ·rwa [qg n9] at hj
  have g2:δ[k]?=some (some (f,true)):=by
   by_cases n9:i=k
   ·subst n9;rw[oy hi] at hk;cases hk
   ·rwa [qg n9] at hk
  exact E.inj j k e f a g1 g2 h1 h2
def OwnI(σ:L2.St)(δ:Dn)(i:Nat)(a:fV):Prop:= ∃d:D,δ[i]?=some (some (d,true))/\σ[i]?=some (some (V.ref a))
structure Keep(σ:L2.St)(δ:Dn)(H:Hp)(δ':Dn)(H':Hp):Prop where
 kp: ∀a o,H a=some o-> ¬OwnA σ δ a->H' a=some o
 owi: ∀i a,OwnI σ δ' i a->OwnI σ δ i a
 dm: ∀a,H a≠none->H' a≠none
theorem Keep.ow{σ δ H δ' H'}(k:Keep σ δ H δ' H')(a:fV)(h:OwnA σ δ' a):OwnA σ δ a:=by
 obtain⟨i,d,h1,h2⟩:=h;obtain⟨e,h3,h4⟩:=k.owi i a ⟨d,h1,h2⟩;exact⟨i,e,h3,h4⟩
theorem Keep.refl{σ δ H}:Keep σ δ H δ H:=⟨fun _ _ e _=>e,fun _ _ z=>z,fun _ z=>z⟩
theorem Keep.trans{σ δ δ1 δ2 H H1 H2}(x:Keep σ δ H δ1 H1)(y:Keep σ δ1 H1 δ2 H2):Keep σ δ H δ2 H2:=
 ⟨fun a o e n=>y.kp a o (x.kp a o e n) fun z=>n (x.ow a z),fun i a z=>x.owi i a (y.owi i a z),fun a z=>y.dm a (x.dm a z)⟩
theorem Keep.ext{σ δ H H1}(k: ∀a o,H a=some o->H1 a=some o):Keep σ δ H δ H1:=⟨fun a o e _=>k a o e,fun _ _ z=>z,fun a z=>by
 cases h:H a with
 |none=>exact absurd h z
 |some o=>rw[k a o h];simp⟩
theorem OwnI.set(h:OwnI σ (δ.set i (some (d,false))) j a):OwnI σ δ j a:=by
 obtain⟨e,h1,h2⟩:=h;rw[yZ] at h1;split at h1
 ·split at h1<;>simp at h1
 ·exact⟨e,h1,h2⟩
theorem Keep.set{σ δ H i d}:Keep σ δ H (δ.set i (some (d,false))) H:=⟨fun _ _ e _=>e,fun _ _ z=>z.set,fun _ z=>z⟩
def Post(K:gu)(T:AP')(σ:L2.St)(δ:Dn)(H:Hp)(r:D×Bool)(δ':Dn)(v:V)(H':Hp):Prop:=
 Keep σ δ H δ' H'/\
 match r with
 |(d,false)=>ER K H' T σ δ'/\Rep K H' (fun a=>OwnA σ δ' a\/T a) d v
 |(d,true)=> ∃p,v= .ref p/\H p=none/\ER K H' (fun a=>T a\/a=p) σ δ'/\OwnOk K H' (fun a=>OwnA σ δ' a\/T a\/a=p) d p
abbrev F:=Dn->Option ((D×Bool)×Dn)
def tF(K:gu)(f:F):TE:=fun σ H Q=> ∃δ T r δ',ER K H T σ δ/\f δ=some (r,δ')/\ ∀v H',Post K T σ δ H r δ' v H'->Q v H'
def PX(X:Cx)(e:gf)(f:F):Prop:=PE X e (tF X.K f)
noncomputable def Tmp(T:AP')(r:D×Bool)(v:V):AP':=fun a=>T a\/(r.2=true/\v= .ref a)
section
variable {K:gu}{T:AP'}{σ:L2.St}{δ δ1 δ2:Dn}{H H1 H2:Hp}{x y:D×Bool}{v u:V}
theorem Post.er(E:ER K H T σ δ)(P:Post K T σ δ H x δ1 v H1):ER K H1 (Tmp T x v) σ δ1:=by
 obtain⟨d,b⟩:=x
 cases b with
 |false=>
  refine P.2.1.mono (fun _ _ e _=>e) (fun b _ z=>z.elim id fun z=>absurd z.1 (by simp)) (fun a z=>?_);rcases z with z|z
  ·exact P.2.1.dom a z
  ·exact absurd z.1 (by simp)
 |true=>
  obtain⟨p,rfl,hp,E1,o1⟩:=P.2;refine E1.mono (fun _ _ e _=>e) (fun b _ z=>z.elim .inl fun z=> .inr (by have:=z.2;cases this;rfl)) (fun a z=>?_);rcases z with z|z
  ·exact E1.dom a (.inl z)
  ·have:=z.2;cases this;exact E1.dom _ (.inr rfl)
theorem Post.rep(E:ER K H T σ δ)(P:Post K T σ δ H x δ1 v H1):ER K H1 T σ δ1/\Rep K H1 (fun a=>OwnA σ δ1 a\/T a) x.1 v:=by
 obtain⟨d,b⟩:=x
 cases b with
 |false=>exact P.2
 |true=>
  obtain⟨p,rfl,hp,E1,o1⟩:=P.2;refine⟨E1.mono (fun _ _ e _=>e) (fun b _ z=> .inl z) (fun a z=>E1.dom a (.inl z)),o1.rep (fun z=>?_) fun b _ z=>z.elim .inl fun z=> .inr (.inl z)⟩;rcases z with z|z
  ·exact E1.nT p z (.inr rfl)
  ·exact(E.dom p z).ne hp
theorem Post.val(k:Keep σ δ H δ2 H2)(E:ER K H2 T σ δ2)(r:Rep K H2 (fun a=>OwnA σ δ2 a\/T a) d w):Post K T σ δ H (d,false) δ2 w H2:=⟨k,E,r⟩
end
theorem gq{α β:Type}{a a':α}{b b':β}(h:some (a,b)=some (a',b')):a=a'/\b=b':=by cases h;exact⟨rfl,rfl⟩
noncomputable def fC(d:D):F:=fun δ=>some ((d,false),δ)
noncomputable def jF(i:Nat):F:=fun δ=>match δ[i]? with
 |some (some (d,_))=>some ((d,false),δ.set i (some (d,false)))
 |_=>none
section
variable {X:Cx}{a b c:gf}{pos:Pos}{fa fb fc:F}
theorem PX.imp(h:PE X e t)(k: ∀σ H Q,tF X.K f σ H Q->t σ H Q):PX X e f:=fun pins s σ H Q I hw=>h pins s σ H Q I (k σ H Q hw)
theorem Nn{i j}:PX X (.Constant (.int i) j pos) (fC (.int i)):=PX.imp NO fun σ H Q h=>by
 obtain⟨δ,T,r,δ',E,e,k⟩:=h;cases e;exact k _ _ (Post.val .refl E (by first|exact Rep.mkInt|exact Rep.mkBl|exact Rep.mkNon|exact Rep.mkStr))
theorem Pw{i j}:PX X (.Constant (.bool i) j pos) (fC (.bl i)):=PX.imp PF fun σ H Q h=>by
 obtain⟨δ,T,r,δ',E,e,k⟩:=h;cases e;exact k _ _ (Post.val .refl E (by first|exact Rep.mkInt|exact Rep.mkBl|exact Rep.mkNon|exact Rep.mkStr))
theorem Nj{j}:PX X (.Constant .none j pos) (fC .non):=PX.imp NM fun σ H Q h=>by
 obtain⟨δ,T,r,δ',E,e,k⟩:=h;cases e;exact k _ _ (Post.val .refl E (by first|exact Rep.mkInt|exact Rep.mkBl|exact Rep.mkNon|exact Rep.mkStr))
theorem Nc{i j}:PX X (.Constant (.str i) j pos) (fC (.str i)):=PX.imp NJ fun σ H Q h=>by
 obtain⟨δ,T,r,δ',E,e,k⟩:=h;cases e;exact k _ _ (Post.val .refl E (by first|exact Rep.mkInt|exact Rep.mkBl|exact Rep.mkNon|exact Rep.mkStr))
theorem Na{i:Nat}{x:Str}(hN:X.N[i]?=some x)(hv:Vis X.env.scope x)(hd:(x==("__debug__":Str))=false)(u7:(x==("__classdict__":Str))=false):PX X (.Name x pos) (jF i):=PX.imp (Dh hN hv hd u7) fun σ H Q h=>by
 obtain⟨δ,T,r,δ',E,e,k⟩:=h;unfold jF at e
 cases hi:δ[i]? with
 |none=>rw[hi] at e;cases e
 |some o=>
  cases o with
  |none=>rw[hi] at e;cases e
  |some p=>
   obtain⟨d,b⟩:=p;rw[hi] at e;cases e;obtain⟨E1,v,h1,h2⟩:=E.freeze hi;exact⟨v,h1,k v H (Post.val .set E1 h2)⟩
end
inductive Opd where
 |val(r:D×Bool)|slot(i:Nat)
noncomputable def res(δ:Dn):Opd->Option D
 | .val r=>some r.1
 | .slot i=>match δ[i]? with
  |some (some (d,_))=>some d
  |_=>none
def iE(K:gu)(H:Hp)(O:AP')(d:D)(v:V):Prop:=Rep K H O d v\/ ∃a,v= .ref a/\OwnOk K H O d a
abbrev FO:=Dn->Option (Opd×Dn)
def PostO(K:gu)(T:AP')(σ:L2.St)(δ:Dn)(H:Hp)(o:Opd)(δ':Dn)(v:V)(H':Hp):Prop:=
 match o with
 | .val r=>Post K T σ δ H r δ' v H'
 | .slot i=>Keep σ δ H δ' H'/\ER K H' T σ δ'/\σ[i]?=some (some v)
noncomputable def TmpO(T:AP')(o:Opd)(v:V):AP':=match o with
 | .val r=>Tmp T r v
 | .slot _=>T
def tO(K:gu)(f:FO):TE:=fun σ H Q=> ∃δ T o δ',ER K H T σ δ/\f δ=some (o,δ')/\ ∀v H',PostO K T σ δ H o δ' v H'->Q v H'
def PO(X:Cx)(e:gf)(f:FO):Prop:=PE X e (tO X.K f)
noncomputable def gc(f:F):FO:=fun δ=>(f δ).bind fun p=>some (.val p.1,p.2)
noncomputable def fZ(i:Nat):FO:=fun δ=>match δ[i]? with
 |some (some _)=>some (.slot i,δ)
 |_=>none
theorem PE.imp'(h:PE X e t)(k: ∀σ H Q,t' σ H Q->t σ H Q):PE X e t':=fun pins s σ H Q I hw=>h pins s σ H Q I (k σ H Q hw)
section
variable {X:Cx}{pos:Pos}
theorem PX.po(h:PX X e f):PO X e (gc f):=PE.imp' h fun σ H Q hw=>by
 obtain⟨δ,T,o,δ',E,e,k⟩:=hw;unfold gc at e
 cases h1:f δ with
 |none=>rw[h1] at e;cases e
 |some p=>
  obtain⟨r,δ1⟩:=p;rw[h1] at e;obtain⟨rfl,rfl⟩:=gq e;exact⟨δ,T,r,δ1,E,h1,fun v H' P=>k v H' P⟩
theorem NF{i:Nat}{x:Str}(hN:X.N[i]?=some x)(hv:Vis X.env.scope x)(hd:(x==("__debug__":Str))=false)(u7:(x==("__classdict__":Str))=false):PO X (.Name x pos) (fZ i):=PE.imp' (Dh hN hv hd u7) fun σ H Q h=>by
 obtain⟨δ,T,o,δ',E,e,k⟩:=h;unfold fZ at e
 cases hi:δ[i]? with
 |none=>rw[hi] at e;cases e
 |some q=>
  cases q with
  |none=>rw[hi] at e;cases e
  |some p=>
   obtain⟨d,b⟩:=p;rw[hi] at e;obtain⟨rfl,rfl⟩:=gq e;obtain⟨E1,v,h1,h2⟩:=E.freeze hi;exact⟨v,h1,k v H ⟨.refl,E,h1⟩⟩
end
structure Ops(K:gu)(T:AP')(σ:L2.St)(δ:Dn)(H:Hp)(os:List Opd)(vs:List V)(δ':Dn)(H':Hp)(T':AP'):Prop where
 len:os.length=vs.length
 keep:Keep σ δ H δ' H'
 er:ER K H' T' σ δ'
 tt: ∀a,T a->T' a
 val: ∀(j:Nat) (d:D) (v:V),os[j]?=some (.val (d,false))->vs[j]?=some v->Rep K H' (fun a=>OwnA σ δ' a\/T a) d v
 tmp: ∀(j:Nat) (d:D) (v:V),os[j]?=some (.val (d,true))->vs[j]?=some v-> ∃p,v= .ref p/\T' p/\H p=none/\OwnOk K H' (fun a=>OwnA σ δ' a\/T a) d p
 slt: ∀(j i:Nat) (v:V),os[j]?=some (.slot i)->vs[j]?=some v->σ[i]?=some (some v)
section
variable {K:gu}{T T':AP'}{σ:L2.St}{δ δ' δ2:Dn}{H H' H2:Hp}{os:List Opd}{vs:List V}{o:Opd}{v:V}
theorem Ops.nil(E:ER K H T σ δ):Ops K T σ δ H [] [] δ H T:=⟨rfl,.refl,E,fun _ z=>z,fun j d v h=>by simp at h,fun j d v h=>by simp at h,fun j i v h=>by simp at h⟩
theorem PostO.keep(P:PostO K T σ δ H o δ' v H'):Keep σ δ H δ' H':=by
 cases o with
 |val r=>exact P.1
 |slot i=>exact P.1
theorem PostO.er(E:ER K H T σ δ)(P:PostO K T σ δ H o δ' v H'):ER K H' (TmpO T o v) σ δ':=by
 cases o with
 |val r=>exact Post.er E P
 |slot i=>exact P.2.1
end
def Gen(K:gu)(H:Hp)(O:AP')(z:D×Bool)(Q:VK):Prop:=
 match z with
 |(d,false)=> ∀w H',(∀a o,H a=some o->H' a=some o)->Rep K H' O d w->Q w H'
 |(d,true)=> ∀p H',H p=none->(∀a o,H a=some o->H' a=some o)->OwnOk K H' (fun a=>O a\/a=p) d p->Q (.ref p) H'
section
variable {K:gu}{T T':AP'}{σ:L2.St}{δ δ1 δ' δ2:Dn}{H H1 H' H2:Hp}{os:List Opd}{vs:List V}{o:Opd}{v:V}{z:D×Bool}{Q:VK}
theorem Ops.cons(E:ER K H T σ δ)(P:PostO K T σ δ H o δ1 v H1)(B:Ops K (TmpO T o v) σ δ1 H1 os vs δ2 H2 T'):Ops K T σ δ H (o::os) (v::vs) δ2 H2 T':=by
 have E1:=P.er E;have p1:=B.keep.kp;have p2:=B.keep.ow
 have eF: ∀a,T a->TmpO T o v a:=fun a z=>by
  cases o with
  |val r=>exact .inl z
  |slot i=>exact z
 refine⟨by simp[B.len],P.keep.trans B.keep,B.er,fun a z=>B.tt a (eF a z),fun j d w h1 h2=>?_,fun j d w h1 h2=>?_,fun j i w h1 h2=>?_⟩
 ·cases j with
  |zero=>
   simp at h1 h2;subst h1;subst h2;have P':Post K T σ δ H (d,false) δ1 v H1:=P;exact Rep.mono (fun b ob e n=>p1 b ob e fun z=>n (.inl z)) (fun b _ z=>z.elim (fun z=>Or.inl (p2 b z)) Or.inr) (P'.rep E).2
  |succ j=>exact Rep.mono (fun _ _ e _=>e) (fun b _ z=>z.elim Or.inl fun z=>Or.inr (eF b z)) (B.val j d w (by simpa using h1) (by simpa using h2))
 ·cases j with
  |zero=>
   simp at h1 h2;subst h1;subst h2;have P':Post K T σ δ H (d,true) δ1 v H1:=P;obtain⟨p,rfl,hp,E3,ok⟩:=P'.2;have tp:TmpO T (.val (d,true)) (V.ref p) p:= .inr ⟨rfl,rfl⟩;refine⟨p,rfl,B.tt p tp,hp,ok.mono (fun b ob e n=>p1 b ob e fun z=>n (.inl z)) (fun b _ z=>z.elim (fun z=>Or.inl (p2 b z)) fun z=>Or.inr (Or.inl z)) fun ob e=>p1 p ob e fun z=>E1.nT p z tp⟩
  |succ j=>
   obtain⟨p,rfl,tp,hp,ok⟩:=B.tmp j d w (by simpa using h1) (by simpa using h2);refine⟨p,rfl,tp,?_,ok.mono (fun _ _ e _=>e) (fun b _ z=>z.elim Or.inl fun z=>Or.inr (eF b z)) fun _ e=>e⟩
   cases hH:H p with
   |none=>rfl
   |some ob=>exact absurd hp (P.keep.dm p (by rw[hH];simp))
 ·cases j with
  |zero=>
   simp at h1 h2;subst h1;subst h2;exact P.2.2
  |succ j=>exact B.slt j i w (by simpa using h1) (by simpa using h2)
theorem Ops.view(B:Ops K T σ δ H os vs δ' H' T'){j:Nat}{d:D}(h1:os[j]?=some o)(h2:vs[j]?=some v)(hr:res δ' o=some d):iE K H' (fun a=>OwnA σ δ' a\/T a) d v:=by
 cases o with
 |val r=>
  obtain⟨e,b⟩:=r;have hd:e=d:=hV hr;subst hd
  cases b with
  |false=>exact .inl (B.val j e v h1 h2)
  |true=>
   obtain⟨p,rfl,_,_,ok⟩:=B.tmp j e v h1 h2;exact .inr ⟨p,rfl,ok⟩
 |slot i=>
  have hs:=B.slt j i v h1 h2;unfold res at hr;dsimp only at hr
  cases hi:δ'[i]? with
  |none=>rw[hi] at hr;cases hr
  |some q=>
   cases q with
   |none=>rw[hi] at hr;cases hr
   |some p=>
    obtain⟨e,b⟩:=p;rw[hi] at hr;have hd:e=d:=hV hr;subst hd
    cases b with
    |false=>
     obtain⟨w,h3,h4⟩:=B.er.val i e hi;rw[hs] at h3;cases h3;exact .inl (Rep.mono (fun _ _ e _=>e) (fun b _ z=>z.elim Or.inl fun z=>Or.inr (B.tt b z)) h4)
    |true=>
     obtain⟨a,h3,h4⟩:=B.er.own i e hi;rw[hs] at h3;cases h3;exact .inr ⟨a,rfl,h4.mono (fun _ _ e _=>e) (fun b _ z=>z.elim Or.inl fun z=>Or.inr (B.tt b z)) fun _ e=>e⟩
theorem Ops.done(B:Ops K T σ δ H os vs δ' H' T')(k: ∀v H2,Post K T σ δ H z δ' v H2->Q v H2):Gen K H' (fun a=>OwnA σ δ' a\/T a) z Q:=by
 obtain⟨d,b⟩:=z;have dom: ∀{H2:Hp},(∀a o,H' a=some o->H2 a=some o)-> ∀a,T a->Ow (H2 a):=fun {H2} hx a z=>(B.er.dom a (B.tt a z)).up (hx a)
 cases b with
 |false=>
  intro w H2 hx r;exact k w H2 ⟨B.keep.trans (.ext hx),B.er.mono (fun b o e _=>hx b o e) (fun b _ z=>B.tt b z) (dom hx),r⟩
 |true=>
  intro p H2 hp hx ok
  have hp0:H p=none:=by
   cases hH:H p with
   |none=>rfl
   |some ob=>exact absurd hp (B.keep.dm p (by rw[hH];simp))
  refine k (.ref p) H2 ⟨B.keep.trans (.ext hx),p,rfl,hp0,B.er.mono (fun b o e _=>hx b o e) (fun b hb z=>z.elim (B.tt b) fun z=>absurd (z▸hp) hb) (fun a z=>?_),ok.mono (fun _ _ e _=>e) (fun b _ z=>?_) fun _ e=>e⟩
  ·rcases z with z|z
   ·exact dom hx a z
   ·subst z;exact ok.ow
  ·rcases z with z|z|z
   ·exact Or.inl (Or.inl z)
   ·exact Or.inl (Or.inr z)
   ·exact Or.inr z
theorem Gen.int(g:Gen K H O (.int i,false) Q):Q (.int i) H:=g _ H (fun _ _ e=>e) Rep.mkInt
theorem Gen.bl(g:Gen K H O (.bl i,false) Q):Q (.bl i) H:=g _ H (fun _ _ e=>e) Rep.mkBl
theorem jm{H:Hp}{p:fV}{o:HO}(hp:H p=none): ∀a u,H a=some u->upd H p o a=some u:=fun a u e=>by rw[gA (by intro z;subst z;rw[e] at hp;cases hp)];exact e
theorem Gen.lst{O:AP'}{l:List D}{xs:List V}{p:fV}(g:Gen K H O (.lst l,true) Q)(hp:H p=none)(r:RepL K H O l xs):Q (.ref p) (upd H p (.lst xs)):=
 g p _ hp (jm hp) ⟨xs,gy,RepL.mono (fun b o e _=>jm hp b o e) (fun b hb z=>z.elim id fun z=>absurd (z▸hp) hb) r⟩
theorem Gen.tup(g:Gen K H O (.tup l,false) Q)(hp:H p=none)(np: ¬O p)(r:RepL K H O l xs):Q (.ref p) (upd H p (.tup xs)):=
 g _ _ (jm hp) (Rep.mkTup ⟨gy,np⟩ (RepL.mono (fun b o e _=>jm hp b o e) (fun b hb z=>z) r))
theorem Ops.np(B:Ops K T σ δ H os vs δ' H' T')(hp: ¬Ow (H' p)): ¬(OwnA σ δ' p\/T p):=fun z=>hp (z.elim (fun z=>B.er.ownOw z) fun z=>B.er.dom p (B.tt p z))
end
noncomputable def kh(g:D->Option (D×Bool))(fa:FO):F:=fun δ=>(fa δ).bind fun p=>(res p.2 p.1).bind fun x=>(g x).bind fun z=>some (z,p.2)
noncomputable def gC(g:D->D->Option (D×Bool))(fa fb:FO):F:=fun δ=>(fa δ).bind fun p=>(fb p.2).bind fun q=>(res q.2 p.1).bind fun x=>(res q.2 q.1).bind fun y=>(g x y).bind fun z=>some (z,q.2)
noncomputable def iL:List FO->Dn->Option (List Opd×Dn)
 |[],δ=>some ([],δ)
 |f::fs,δ=>(f δ).bind fun p=>(iL fs p.2).bind fun q=>some (p.1::q.1,q.2)
noncomputable def rM(δ:Dn):List Opd->Option (List D)
 |[]=>some []
 |o::os=>(res δ o).bind fun d=>(rM δ os).bind fun l=>some (d::l)
noncomputable def gW(g:List D->Option (D×Bool))(fs:List FO):F:=fun δ=>(iL fs δ).bind fun p=>(rM p.2 p.1).bind fun ds=>(g ds).bind fun z=>some (z,p.2)
def tA(K:gu)(fs:List FO):TA:=fun σ H Q=> ∃δ T os δ',ER K H T σ δ/\iL fs δ=some (os,δ')/\ ∀vs H' T',Ops K T σ δ H os vs δ' H' T'->Q vs H'
section
variable {X:Cx}{e a b:gf}{es:iF}{fa fb:FO}{fs:List FO}{pos:Pos}
theorem fU{α β:Type}{x:Option α}{f:α->Option β}{b:β}(h:x.bind f=some b): ∃a,x=some a/\f a=some b:=by
 cases x with
 |none=>cases h
 |some a=>exact⟨a,rfl,h⟩
def Sg(K:gu)(r:V->Hp->VK->Prop)(g:D->Option (D×Bool)):Prop:=
 ∀x z v H (O:AP') (Q:VK),(∀p,¬Ow (H p)-> ¬O p)->iE K H O x v->g x=some z->Gen K H O z Q->r v H Q
def OB(K:gu)(r:R2)(g:D->D->Option (D×Bool)):Prop:=
 ∀x y z v u H (O:AP') (Q:VK),(∀p,¬Ow (H p)-> ¬O p)->iE K H O x v->iE K H O y u->g x y=some z->Gen K H O z Q->r v u H Q
def Sf(K:gu)(r:List V->Hp->VK->Prop)(g:List D->Option (D×Bool)):Prop:=
 ∀ds z vs H (O:AP') (Q:VK),(∀p,¬Ow (H p)-> ¬O p)->ds.length=vs.length->(∀(j:Nat) d v,ds[j]?=some d->vs[j]?=some v->iE K H O d v)->g ds=some z->Gen K H O z Q->r vs H Q
theorem Nh{r:V->Hp->VK->Prop}{g:D->Option (D×Bool)}(h:PE X e (tUn r (tO X.K fa)))(hr:Sg X.K r g):PX X e (kh g fa):=PX.imp h fun σ H Q hw=>by
 obtain⟨δ,T,rr,δ',E,e,k⟩:=hw;obtain⟨⟨o,δ1⟩,h1,e⟩:=fU e;obtain⟨x,h2,e⟩:=fU e;obtain⟨z,h3,e⟩:=fU e;obtain⟨rfl,rfl⟩:=gq e;refine⟨δ,T,o,δ1,E,h1,fun v H1 P1=>?_⟩;have B:=Ops.cons E P1 (Ops.nil (P1.er E));exact hr x z v H1 _ Q (fun p hp=>B.np hp) (B.view (j:=0) rfl rfl h2) h3 (B.done k)
theorem Ng{r:R2}{g:D->D->Option (D×Bool)}(h:PE X e (tOp r (tO X.K fa) (tO X.K fb)))(hr:OB X.K r g):PX X e (gC g fa fb):=PX.imp h fun σ H Q hw=>by
 obtain⟨δ,T,rr,δ',E,e,k⟩:=hw;obtain⟨⟨o,δ1⟩,h1,e⟩:=fU e;obtain⟨⟨o2,δ2⟩,h2,e⟩:=fU e;obtain⟨x,h3,e⟩:=fU e;obtain⟨y,h4,e⟩:=fU e;obtain⟨z,h5,e⟩:=fU e;obtain⟨rfl,rfl⟩:=gq e;refine⟨δ,T,o,δ1,E,h1,fun v H1 P1=>⟨δ1,TmpO T o v,o2,δ2,P1.er E,h2,fun u H2 P2=>?_⟩⟩;have B:=Ops.cons E P1 (Ops.cons (P1.er E) P2 (Ops.nil (P2.er (P1.er E))));exact hr x y z v u H2 _ Q (fun p hp=>B.np hp) (B.view (j:=0) rfl rfl h3) (B.view (j:=1) rfl rfl h4) h5 (B.done k)
theorem zC:PA X [] (tA X.K []):=fun pos pins s σ H Q I h=>by
 obtain⟨δ,T,os,δ',E,e,k⟩:=h;obtain⟨rfl,rfl⟩:=gq e;exact mH pos pins s σ H Q I (k [] H T (Ops.nil E))
theorem rR(ha:PO X e fa)(hr:PA X es (tA X.K fs))(hs:starEach (e::es) X.env=(false,eval e X.env)::starEach es X.env):PA X (e::es) (tA X.K (fa::fs)):=fun pos pins s σ H Q I h=>by
 obtain⟨δ,T,os,δ',E,e,k⟩:=h;unfold iL at e;obtain⟨⟨o,δ1⟩,h1,e⟩:=fU e;obtain⟨⟨os2,δ2⟩,h2,e⟩:=fU e;obtain⟨rfl,rfl⟩:=gq e;exact jK ha hr hs pos pins s σ H Q I ⟨δ,T,o,δ1,E,h1,fun v H1 P1=>⟨δ1,TmpO T o v,os2,δ2,P1.er E,h2,fun vs H2 T2 B=>k _ H2 T2 (Ops.cons E P1 B)⟩⟩
theorem lT{δ:Dn}: ∀{os:List Opd} {ds:List D},rM δ os=some ds->ds.length=os.length/\ ∀(j:Nat) d,ds[j]?=some d-> ∃o,os[j]?=some o/\res δ o=some d
 |[],ds,h=>by cases h;exact⟨rfl,fun j d h=>by simp at h⟩
 |o::os,ds,h=>by
  unfold rM at h;obtain⟨d,h1,h⟩:=fU h;obtain⟨l,h2,h⟩:=fU h;cases h;obtain⟨h3,h4⟩:=lT h2;refine⟨by simp[h3],fun j e he=>?_⟩
  cases j with
  |zero=>simp at he;subst he;exact⟨o,rfl,h1⟩
  |succ j=>
   obtain⟨o',q1,q2⟩:=h4 j e (by simpa using he);exact⟨o',by simpa using q1,q2⟩
theorem K8{r:List V->Hp->VK->Prop}{g:List D->Option (D×Bool)}(h:PE X e (tCB r (tA X.K fs)))(hr:Sf X.K r g):PX X e (gW g fs):=PX.imp h fun σ H Q hw=>by
 obtain⟨δ,T,rr,δ',E,e,k⟩:=hw;obtain⟨⟨os,δ1⟩,h1,e⟩:=fU e;obtain⟨ds,h2,e⟩:=fU e;obtain⟨z,h3,e⟩:=fU e;obtain⟨rfl,rfl⟩:=gq e;obtain⟨h4,h5⟩:=lT h2;refine⟨δ,T,os,δ1,E,h1,fun vs H1 T1 B=>?_⟩;refine hr ds z vs H1 _ Q (fun p hp=>B.np hp) (h4.trans B.len) (fun j d v hd hv=>?_) h3 (B.done k);obtain⟨o,ho,bU⟩:=h5 j d hd;exact B.view ho hv bU
end
open PySem.SeqAt
mutual
/-- ==of data -/
noncomputable def D.eqb:D->D->Bool
 | .non,.non=>true
 | .bl a,.bl b=>a==b
 | .bl a,.int b=>(if a then 1 else 0)==b
 | .int a,.bl b=>a==(if b then 1 else 0)
 | .int a,.int b=>a==b
 | .str a,.str b=>a==b
 | .tup l,.tup m=>D.eqbL l m
 | .lst l,.lst m=>D.eqbL l m
 | .oth _ _ _,.oth _ _ _=>true
 |_,_=>false
noncomputable def D.eqbL:List D->List D->Bool
 |[],[]=>true
 |a::l,b::m=>D.eqb a b&&D.eqbL l m
 |_,_=>false
end
mutual
noncomputable def D.dep:D->Nat
 | .tup l=>D.depL l+1
 | .lst l=>D.depL l+1
 | .oth _ _ _=>20000
 |_=>0
noncomputable def D.depL:List D->Nat
 |[]=>0
 |d::l=>max (D.dep d) (D.depL l)
end
mutual
theorem D.eqb_refl: ∀d:D,D.eqb d d=true
 | .non=>rfl
 | .bl a=>by simp[D.eqb]
 | .int a=>by simp[D.eqb]
 | .str a=>by simp[D.eqb]
 | .tup l=>by rw[D.eqb];exact D.eqbL_refl l
 | .lst l=>by rw[D.eqb];exact D.eqbL_refl l
 | .oth _ _ _=>by rw[D.eqb]
theorem D.eqbL_refl: ∀l:List D,D.eqbL l l=true
 |[]=>rfl
 |d::l=>by rw[D.eqbL,D.eqb_refl d,D.eqbL_refl l];rfl
end
theorem D.dep_mem{d:D}: ∀{l:List D} {j:Nat},l[j]?=some d->d.dep<=D.depL l
 |[],j,h=>by simp at h
 |e::l,0,h=>by simp at h;subst h;rw[D.depL];exact Nat.le_max_left _ _
 |e::l,j+1,h=>by rw[D.depL];exact kx (D.dep_mem (by simpa using h)) (Nat.le_max_right _ _)
noncomputable def ph(l m:List D)(j:Nat):Bool:=match l[j]?,m[j]? with
 |some d,some e=>D.eqb d e
 |_,_=>true
theorem kP: ∀l m:List D,((List.range (min l.length m.length)).all (ph l m)&&l.length==m.length)=D.eqbL l m
 |[],[]=>rfl
 |[],e::m=>by simp[D.eqbL]
 |d::l,[]=>by simp[D.eqbL]
 |d::l,e::m=>by
  rw[D.eqbL,<-kP l m];simp only[iJ,Nat.succ_min_succ,List.range_succ_eq_map,List.all_cons,List.all_map,Function.comp_def];have h0:ph (d::l) (e::m) 0=D.eqb d e:=rfl;have h1:(fun x=>ph (d::l) (e::m) (Nat.succ x))=ph l m:=by funext x;simp[ph]
  rw[h0];simp only[h1,Bool.and_assoc]
  congr 2
  simp
section
variable {X:Cx}{pins:gG}{σ:L2.St}{H:Hp}{s:gb}
theorem jr(h:iE X.K H O (.tup l) v): ∃a xs,v= .ref a/\SqT X.K H a xs/\RepL X.K H O l xs:=by
 rcases h with h|⟨a,rfl,h⟩
 ·obtain⟨a,xs,e,q,r⟩:=h.tup;exact⟨a,xs,e,q.sq,r⟩
 ·exact h.elim
theorem iX(h:iE X.K H O (.lst l) v): ∃a xs,v= .ref a/\SqL X.K H a xs/\RepL X.K H O l xs:=by
 rcases h with h|⟨a,rfl,h⟩
 ·obtain⟨a,xs,e,q,r⟩:=h.lst;exact⟨a,xs,e,q.sq,r⟩
 ·obtain⟨xs,e,r⟩:=h;exact⟨a,xs,rfl,.inl (.inl e),r⟩
theorem RepL.views{O:AP'}{l:List D}{xs:List V}(r:RepL X.K H O l xs){j:Nat}{d:D}{v:V}(h1:l[j]?=some d)(h2:xs[j]?=some v):Rep X.K H O d v:=by
 obtain⟨w,h3,h4⟩:=r.get h1;rw[h2] at h3;cases h3;exact h4
theorem Jc(I:Inv X pins σ H s)(h:OthB X.K (H a) k ks vs us): ∃o,s.heap.get? a=some o/\(o.cls= .type "dict"\/o.cls= .type "set"\/ ∃C,o.cls= .ref C):=by
 cases k with
 |dct=>
  rcases h with⟨kvs,e,_⟩|⟨kvs,e,_⟩
  ·obtain⟨_,_,vs,_,o,es,ep,h1,h2,_⟩:=(show ObjOk X.prog X.w H s.heap a (.dK kvs) from I.hok a _ e)
   exact⟨o,h1,.inl h2.1⟩
  ·obtain⟨_,_,xs,_,o,es,ep,h1,h2,_⟩:=(show ObjOk X.prog X.w H s.heap a (.dT kvs) from I.hok a _ e)
   exact⟨o,h1,.inl h2.1⟩
 |set=>
  obtain⟨_,zs,e,_⟩:=h;obtain⟨es,n,t,h1,_⟩:=(show ObjOk X.prog X.w H s.heap a (.stt zs) from I.hok a _ e)
  exact⟨_,h1,.inr (.inl rfl)⟩
 |exc C=>
  obtain⟨_,o,e,h1,_⟩:=h;obtain⟨e1,_⟩:=(show ObjOk X.prog X.w H s.heap a (.frz o (.own 0)) from I.hok a _ e)
  exact⟨o,e1,.inr (.inr ⟨C,h1⟩)⟩
 |_=>exact h.elim
theorem AL(I:Inv X pins σ H s)(h1:SqT X.K H a xs)(h2:SqL X.K H a ys):False:=by
 obtain⟨b6,_,⟨o,e,c,_⟩,_⟩:=I.tuple h1;obtain⟨c9,_,⟨o2,n2,e2,c2,_⟩,_⟩:=I.list h2;rw[e] at e2;cases e2;rw[c] at c2;exact absurd c2 (by simp)
theorem Lz(I:Inv X pins σ H s)(h1:SqT X.K H a xs)(h2:OthB X.K (H a) k ks vs us):False:=by
 obtain⟨b6,_,⟨o,e,c,_⟩,_⟩:=I.tuple h1;obtain⟨o2,e2,c2⟩:=Jc I h2;rw[e] at e2;cases e2;rw[c] at c2;rcases c2 with c2|c2|⟨C,c2⟩<;>exact absurd c2 (by simp)
theorem LA(I:Inv X pins σ H s)(h1:SqL X.K H a xs)(h2:OthB X.K (H a) k ks vs us):False:=by
 obtain⟨b6,_,⟨o,n,e,c,_⟩,_⟩:=I.list h1;obtain⟨o2,e2,c2⟩:=Jc I h2;rw[e] at e2;cases e2;rw[c] at c2;rcases c2 with c2|c2|⟨C,c2⟩<;>exact absurd c2 (by simp)
mutual
theorem Rep.inj(I:Inv X pins σ H s): ∀{d e:D} {v:V},d.dep<20000->Rep X.K H O d v->Rep X.K H O' e v->d=e
 | .non,e,v,hz,h,h'=>by
  have:=h.non;subst this
  cases e with
  |non=>rfl
  |bl b=>have:=h'.bl;cases this
  |int b=>have:=h'.int;cases this
  |str b=>have:=h'.str;cases this
  |tup m=>obtain⟨a,xs,z,_⟩:=h'.tup;cases z
  |lst m=>obtain⟨a,xs,z,_⟩:=h'.lst;cases z
  |oth m m1 m2=>obtain⟨a,xs,z,_⟩:=h'.oth;cases z
 | .bl b,e,v,hz,h,h'=>by
  have:=h.bl;subst this
  cases e with
  |non=>have:=h'.non;cases this
  |bl b=>have:=h'.bl;cases this;rfl
  |int b=>have:=h'.int;cases this
  |str b=>have:=h'.str;cases this
  |tup m=>obtain⟨a,xs,z,_⟩:=h'.tup;cases z
  |lst m=>obtain⟨a,xs,z,_⟩:=h'.lst;cases z
  |oth m m1 m2=>obtain⟨a,xs,z,_⟩:=h'.oth;cases z
 | .int b,e,v,hz,h,h'=>by
  have:=h.int;subst this
  cases e with
  |non=>have:=h'.non;cases this
  |bl b=>have:=h'.bl;cases this
  |int b=>have:=h'.int;cases this;rfl
  |str b=>have:=h'.str;cases this
  |tup m=>obtain⟨a,xs,z,_⟩:=h'.tup;cases z
  |lst m=>obtain⟨a,xs,z,_⟩:=h'.lst;cases z
  |oth m m1 m2=>obtain⟨a,xs,z,_⟩:=h'.oth;cases z
 | .str b,e,v,hz,h,h'=>by
  have:=h.str;subst this
  cases e with
  |non=>have:=h'.non;cases this
  |bl b=>have:=h'.bl;cases this
  |int b=>have:=h'.int;cases this
  |str b=>have:=h'.str;cases this;rfl
  |tup m=>obtain⟨a,xs,z,_⟩:=h'.tup;cases z
  |lst m=>obtain⟨a,xs,z,_⟩:=h'.lst;cases z
  |oth m m1 m2=>obtain⟨a,xs,z,_⟩:=h'.oth;cases z
 | .tup l,e,v,hz,h,h'=>by
  rw[D.dep] at hz;obtain⟨a,xs,rfl,q,r⟩:=h.tup
  cases e with
  |non=>have:=h'.non;cases this
  |bl b=>have:=h'.bl;cases this
  |int b=>have:=h'.int;cases this
  |str b=>have:=h'.str;cases this
  |tup m=>
   obtain⟨a2,eC,z,q2,r2⟩:=h'.tup;cases z;have:=I.tuple_inj q.sq q2.sq;subst this;rw[RepL.inj I (by omega) r r2]
  |lst m=>
   obtain⟨a2,eC,z,q2,r2⟩:=h'.lst;cases z;exact(AL I q.sq q2.sq).elim
  |oth m m1 m2=>
   obtain⟨a2,us2,z,q2,r2⟩:=h'.oth;cases z;exact(Lz I q.sq q2.2).elim
 | .lst l,e,v,hz,h,h'=>by
  rw[D.dep] at hz;obtain⟨a,xs,rfl,q,r⟩:=h.lst
  cases e with
  |non=>have:=h'.non;cases this
  |bl b=>have:=h'.bl;cases this
  |int b=>have:=h'.int;cases this
  |str b=>have:=h'.str;cases this
  |tup m=>
   obtain⟨a2,eC,z,q2,r2⟩:=h'.tup;cases z;exact(AL I q2.sq q.sq).elim
  |lst m=>
   obtain⟨a2,eC,z,q2,r2⟩:=h'.lst;cases z;have:=I.list_inj q.sq q2.sq;subst this;rw[RepL.inj I (by omega) r r2]
  |oth m m1 m2=>
   obtain⟨a2,us2,z,q2,r2⟩:=h'.oth;cases z;exact(LA I q.sq q2.2).elim
 | .oth _ _ _,e,v,hz,h,h'=>by rw[D.dep] at hz;omega
theorem RepL.inj(I:Inv X pins σ H s){O O':AP'}: ∀{l m:List D} {vs:List V},D.depL l<20000->RepL X.K H O l vs->RepL X.K H O' m vs->l=m
 |[],m,vs,_,h,h'=>by
  rw[RepL] at h;subst h
  cases m with
  |nil=>rfl
  |cons e m=>rw[RepL] at h';obtain⟨_,_,z,_⟩:=h';cases z
 |d::l,m,vs,hz,h,h'=>by
  rw[D.depL] at hz;rw[RepL] at h;obtain⟨v,r,rfl,h1,h2⟩:=h
  cases m with
  |nil=>rw[RepL] at h';cases h'
  |cons e m=>
   rw[RepL] at h';obtain⟨v',r',z,h3,h4⟩:=h';cases z;rw[Rep.inj I (by omega) h1 h3,RepL.inj I (by omega) h2 h4]
end
theorem sh(h:iE X.K H O d v)(hd:d.dep=0)(nt: ∀l,d≠ .tup l)(nl: ∀l,d≠ .lst l):Rep X.K H O d v:=by
 rcases h with h|⟨a,rfl,h⟩
 ·exact h
 ·cases d with
  |lst l=>exact absurd rfl (nl l)
  |oth _ _ _=>rw[D.dep] at hd;omega
  |_=>exact h.elim
inductive Sh(X:Cx)(H:Hp)(s:gb)(O:AP'):D->V->Value->Prop
 |non:Sh X H s O .non .non .none
 |bl (b:Bool):Sh X H s O (.bl b) (.bl b) (.bool b)
 |int (i:Int) (t:Tok):Sh X H s O (.int i) (.int i) (.int i t)
 |str (x:Str) (t:Tok):Sh X H s O (.str x) (.str x) (.str x t)
 |tup {l:List D} {p:fV} {xs:List V} {b6:hJ} (q:SqT X.K H p xs) (r:RepL X.K H O l xs) (v:Vals xs b6) (pl:IsTup s.heap p b6.toArray):Sh X H s O (.tup l) (.ref p) (.ref p)
 |lst {l:List D} {p:fV} {xs:List V} {b6:hJ} (q:SqL X.K H p xs) (r:RepL X.K H O l xs) (v:Vals xs b6) (pl:s.heap.IsList p b6.toArray):Sh X H s O (.lst l) (.ref p) (.ref p)
theorem pv(I:Inv X pins σ H s)(h:iE X.K H O d v)(ra:RelV v a)(hn:d.dep<20000):Sh X H s O d v a:=by
 cases d with
 |oth m m1 m2=>rw[D.dep] at hn;omega
 |tup l=>obtain⟨p,xs,rfl,q,r⟩:=jr h;cases ra;obtain⟨b6,v1,pl,_⟩:=I.tuple q;exact .tup q r v1 pl
 |lst l=>obtain⟨p,xs,rfl,q,r⟩:=iX h;cases ra;obtain⟨b6,v1,pl,_⟩:=I.list q;exact .lst q r v1 pl.isList
 |non=>have:=(sh h rfl (by simp) (by simp)).non;subst this;cases ra;exact .non
 |bl c=>have:=(sh h rfl (by simp) (by simp)).bl;subst this;cases ra;exact .bl c
 |int c=>have:=(sh h rfl (by simp) (by simp)).int;subst this;obtain⟨t,rfl⟩:=ra;exact .int c t
 |str c=>have:=(sh h rfl (by simp) (by simp)).str;subst this;obtain⟨t,rfl⟩:=ra;exact .str c t
theorem yo(I:Inv X pins σ H s)(n:Nat)
  (ih: ∀(d e:D) (v u:V) (a b:gi) (O O':AP') (A:gv),iE X.K H O d v->iE X.K H O' e u->RelV v a->RelV u b->d.dep+1<=n->e.dep<20000->A.units+n<cLine+1->EqAt A s a b (D.eqb d e)):
  ∀(d e:D) (v u:V) (a b:gi) (O O':AP') (A:gv),iE X.K H O d v->iE X.K H O' e u->RelV v a->RelV u b->d.dep<=n->e.dep<20000->A.units+n<cLine->EqAt A s a b (D.eqb d e):=by
 intro d e v u a b O O' A hd he ra rb hn p6 hA;have hu:A.units<cLine:=by omega
 have x8:cLine=9900:=rfl
 have items: ∀(l m:List D) (xs ys:List V) (b6 c9:hJ) (O1 O2:AP'),D.depL l+1<=n->D.depL m<20000->RepL X.K H O1 l xs->RepL X.K H O2 m ys->Vals xs b6->Vals ys c9->
   ∀j (h1:j<b6.toArray.size) (h2:j<c9.toArray.size),EqAt A.in1 s b6.toArray[j] c9.toArray[j] (ph l m j):=fun l m xs ys b6 c9 O1 O2 hl hm r1 r2 v1 v2 j h1 h2=>by
  have e1:=v1.length;have e2:=v2.length;have e3:=r1.length;have e4:=r2.length;simp only[gU] at h1 h2;have hx:xs[j]?=some xs[j]:=il (by omega);have hy:ys[j]?=some ys[j]:=il (by omega);have aD:l[j]?=some l[j]:=il (by omega);have ag:m[j]?=some m[j]:=il (by omega);obtain⟨w,w1,w2⟩:=v1.get hx;obtain⟨w',w3,w4⟩:=v2.get hy
  have i1:b6.toArray[j]=w:=by
   have:b6[j]?=some b6[j]:=il (by omega);rw[this] at w1;simpa using w1
  have i2:c9.toArray[j]=w':=by
   have:c9[j]?=some c9[j]:=il (by omega);rw[this] at w3;simpa using w3
  rw[i1,i2];have hj:ph l m j=D.eqb l[j] m[j]:=by unfold ph;rw[aD,ag]
  rw[hj];have y9:=D.dep_mem aD;have hdep2:=D.dep_mem ag;exact ih _ _ _ _ _ _ O1 O2 A.in1 (.inl (r1.views aD hx)) (.inl (r2.views ag hy)) w2 w4 (by omega) (by omega) (by show A.units+1+n<cLine+1;omega)
 have h1:=pv I hd ra (by omega);have h2:=pv I he rb p6
 cases h1 with
 |non=>
  cases h2 with
  |non=>exact jW ra rb rfl rfl
  |bl c2=>exact jW ra rb rfl rfl
  |int c2 t2=>exact jW ra rb rfl rfl
  |str c2 t2=>exact jW ra rb rfl rfl
  |tup q2 r2 v2 e7=>exact EqAt.none_tuple e7 hu
  |lst q2 r2 v2 e7=>exact EqAt.none_list e7 hu
 |bl c1=>
  cases h2 with
  |non=>exact jW ra rb rfl rfl
  |bl c2=>exact jW ra rb rfl rfl
  |int c2 t2=>exact jW ra rb rfl rfl
  |str c2 t2=>exact jW ra rb rfl rfl
  |tup q2 r2 v2 e7=>exact EqAt.bool_tuple c1 e7 hu
  |lst q2 r2 v2 e7=>exact EqAt.bool_list c1 e7 hu
 |int c1 t1=>
  cases h2 with
  |non=>exact jW ra rb rfl rfl
  |bl c2=>exact jW ra rb rfl rfl
  |int c2 t2=>exact jW ra rb rfl rfl
  |str c2 t2=>exact jW ra rb rfl rfl
  |tup q2 r2 v2 e7=>exact EqAt.int_tuple c1 t1 e7 hu
  |lst q2 r2 v2 e7=>exact EqAt.int_list c1 t1 e7 hu
 |str c1 t1=>
  cases h2 with
  |non=>exact jW ra rb rfl rfl
  |bl c2=>exact jW ra rb rfl rfl
  |int c2 t2=>exact jW ra rb rfl rfl
  |str c2 t2=>exact jW ra rb rfl rfl
  |tup q2 r2 v2 e7=>exact EqAt.str_tuple c1 t1 e7 hu
  |lst q2 r2 v2 e7=>exact EqAt.str_list c1 t1 e7 hu
 | @tup l p xs b6 q r v1 pl=>
  cases h2 with
  |non=>exact EqAt.tuple_none pl hu
  |bl c2=>exact EqAt.tuple_bool c2 pl hu
  |int c2 t2=>exact EqAt.tuple_int c2 t2 pl hu
  |str c2 t2=>exact EqAt.tuple_str c2 t2 pl hu
  | @tup m p2 ys c9 q2 r2 v2 e7=>
   by_cases hp:p=p2
   ·subst hp;have:=I.tuple_inj q q2;subst this;rw[RepL.inj I (by rw[D.dep] at hn;omega) r r2,D.eqb_refl];exact EqAt.same _
   ·refine .of_refs hp ?_;have hl:D.depL l+1<=n:=by rw[D.dep] at hn;exact hn
    have hm:D.depL m<20000:=by rw[D.dep] at p6;omega
    have z:=RcAt.tuples pl e7 hu (items l m xs ys b6 c9 _ _ hl hm r r2 v1 v2);have e1:=v1.length;have e2:=v2.length;have e3:=r.length;have e4:=r2.length;simp only[gU] at z;rw[show b6.length=l.length by omega,show c9.length=m.length by omega,kP] at z;rw[D.eqb];exact z
  |lst q2 r2 v2 e7=>exact EqAt.tuple_list pl e7 hu
 | @lst l p xs b6 q r v1 pl=>
  cases h2 with
  |non=>exact EqAt.list_none pl hu
  |bl c2=>exact EqAt.list_bool c2 pl hu
  |int c2 t2=>exact EqAt.list_int c2 t2 pl hu
  |str c2 t2=>exact EqAt.list_str c2 t2 pl hu
  |tup q2 r2 v2 e7=>exact EqAt.list_tuple pl e7 hu
  | @lst m p2 ys c9 q2 r2 v2 e7=>
   by_cases hp:p=p2
   ·subst hp;have:=I.list_inj q q2;subst this;rw[RepL.inj I (by rw[D.dep] at hn;omega) r r2,D.eqb_refl];exact EqAt.same _
   ·refine .of_refs hp ?_;have hl:D.depL l+1<=n:=by rw[D.dep] at hn;exact hn
    have hm:D.depL m<20000:=by rw[D.dep] at p6;omega
    have e1:=v1.length;have e2:=v2.length;have e3:=r.length;have e4:=r2.length;have al:=kP l m;by_cases hlen:l.length=m.length
    ·have z:=RcAt.lists pl e7 (by simp only[gU];omega) hu (items l m xs ys b6 c9 _ _ hl hm r r2 v1 v2);simp only[gU] at z;rw[show b6.length=min l.length m.length by omega] at z;rw[D.eqb,<-al,hlen];rw[hlen] at z;simpa using z
    ·have z:=RcAt.lists_lengths pl e7 (by simp only[gU,bne_iff_ne,ne_eq];omega) hu;rw[D.eqb,<-al];rw[show(l.length==m.length)=false by simpa using hlen];simpa using z
theorem wI(I:Inv X pins σ H s): ∀(n:Nat) (d e:D) (v u:V) (a b:gi) (O O':AP') (A:gv),iE X.K H O d v->iE X.K H O' e u->RelV v a->RelV u b->d.dep<=n->e.dep<20000->A.units+n<cLine->EqAt A s a b (D.eqb d e):=by
 intro n
 induction n with
 |zero=>
  intro d e v u a b O O' A hd he ra rb hn p6 hA;exact yo I 0 (fun d e v u a b O O' A hd he ra rb hn p6 hA=>absurd hn (by omega)) d e v u a b O O' A hd he ra rb hn p6 hA
 |succ n ih=>
  intro d e v u a b O O' A hd he ra rb hn p6 hA;exact yo I (n+1) (fun d e v u a b O O' A hd he ra rb hn p6 hA=>ih d e v u a b O O' A hd he ra rb (by omega) p6 (by omega)) d e v u a b O O' A hd he ra rb hn p6 hA
end
section
variable {X:Cx}{pins:gG}{σ:L2.St}{H:Hp}{s:gb}
theorem Bz(I:Inv X pins σ H s){A:gv}{n:Nat}(hA:A.units+n<cLine): ∀(l m:List D) (xs ys:List V) (b6 c9:hJ) (O1 O2:AP'),D.depL l+1<=n->D.depL m<20000->RepL X.K H O1 l xs->RepL X.K H O2 m ys->Vals xs b6->Vals ys c9->
   ∀j (h1:j<b6.toArray.size) (h2:j<c9.toArray.size),EqAt A.in1 s b6.toArray[j] c9.toArray[j] (ph l m j):=fun l m xs ys b6 c9 O1 O2 hl hm r1 r2 v1 v2 j h1 h2=>by
 have e1:=v1.length;have e2:=v2.length;have e3:=r1.length;have e4:=r2.length;simp only[gU] at h1 h2;have hx:xs[j]?=some xs[j]:=il (by omega);have hy:ys[j]?=some ys[j]:=il (by omega);have aD:l[j]?=some l[j]:=il (by omega);have ag:m[j]?=some m[j]:=il (by omega);obtain⟨w,w1,w2⟩:=v1.get hx;obtain⟨w',w3,w4⟩:=v2.get hy
 have i1:b6.toArray[j]=w:=by
  have:b6[j]?=some b6[j]:=il (by omega);rw[this] at w1;simpa using w1
 have i2:c9.toArray[j]=w':=by
  have:c9[j]?=some c9[j]:=il (by omega);rw[this] at w3;simpa using w3
 rw[i1,i2];have hj:ph l m j=D.eqb l[j] m[j]:=by unfold ph;rw[aD,ag]
 rw[hj];have y9:=D.dep_mem aD;have hdep2:=D.dep_mem ag;exact wI I (n-1) _ _ _ _ _ _ O1 O2 A.in1 (.inl (r1.views aD hx)) (.inl (r2.views ag hy)) w2 w4 (by omega) (by omega) (by show A.units+1+(n-1)<cLine;omega)
theorem M7(I:Inv X pins σ H s)(hd:iE X.K H O d v)(he:iE X.K H O' e u)(ra:RelV v a)(rb:RelV u b)(hn:d.dep<=n)(p6:e.dep<20000)(hA:A.units+n<cLine):RcAt A s a b (D.eqb d e):=by
 have hu:A.units<cLine:=by omega
 have items:=Bz I hA;have x8:cLine=9900:=rfl;have h1:=pv I hd ra (by omega);have h2:=pv I he rb p6
 cases h1 with
 |non=>
  cases h2 with
  |non=>exact RcAt.none_none
  |bl c2=>exact RcAt.none_bool c2
  |int c2 t2=>exact RcAt.none_int c2 t2
  |str c2 t2=>exact RcAt.none_str c2 t2
  |tup q2 r2 v2 e7=>exact RcAt.none_tuple e7 hu
  |lst q2 r2 v2 e7=>exact RcAt.none_list e7 hu
 |bl c1=>
  cases h2 with
  |non=>exact RcAt.bool_none c1
  |bl c2=>exact RcAt.bool_bool c1 c2
  |int c2 t2=>exact RcAt.bool_int c1 c2 t2
  |str c2 t2=>exact RcAt.bool_str c1 c2 t2
  |tup q2 r2 v2 e7=>exact RcAt.bool_tuple c1 e7 hu
  |lst q2 r2 v2 e7=>exact RcAt.bool_list c1 e7 hu
 |int c1 t1=>
  cases h2 with
  |non=>exact RcAt.int_none c1 t1
  |bl c2=>exact RcAt.int_bool c1 t1 c2
  |int c2 t2=>exact RcAt.int_int c1 t1 c2 t2
  |str c2 t2=>exact RcAt.int_str c1 t1 c2 t2
  |tup q2 r2 v2 e7=>exact RcAt.int_tuple c1 t1 e7 hu
  |lst q2 r2 v2 e7=>exact RcAt.int_list c1 t1 e7 hu
 |str c1 t1=>
  cases h2 with
  |non=>exact RcAt.str_none c1 t1
  |bl c2=>exact RcAt.str_bool c1 t1 c2
  |int c2 t2=>exact RcAt.str_int c1 t1 c2 t2
  |str c2 t2=>exact RcAt.str_str c1 t1 c2 t2
  |tup q2 r2 v2 e7=>exact RcAt.str_tuple c1 t1 e7 hu
  |lst q2 r2 v2 e7=>exact RcAt.str_list c1 t1 e7 hu
 | @tup l p xs b6 q r v1 pl=>
  cases h2 with
  |non=>exact RcAt.tuple_none pl hu
  |bl c2=>exact RcAt.tuple_bool c2 pl hu
  |int c2 t2=>exact RcAt.tuple_int c2 t2 pl hu
  |str c2 t2=>exact RcAt.tuple_str c2 t2 pl hu
  | @tup m p2 ys c9 q2 r2 v2 e7=>
   have hl:D.depL l+1<=n:=by rw[D.dep] at hn;exact hn
   have hm:D.depL m<20000:=by rw[D.dep] at p6;omega
   have e1:=v1.length;have e2:=v2.length;have e3:=r.length;have e4:=r2.length;have z:=RcAt.tuples pl e7 hu (items l m xs ys b6 c9 _ _ hl hm r r2 v1 v2);simp only[gU] at z;rw[show b6.length=l.length by omega,show c9.length=m.length by omega,kP] at z;rw[D.eqb];exact z
  |lst q2 r2 v2 e7=>exact RcAt.tuple_list pl e7 hu
 | @lst l p xs b6 q r v1 pl=>
  cases h2 with
  |non=>exact RcAt.list_none pl hu
  |bl c2=>exact RcAt.list_bool c2 pl hu
  |int c2 t2=>exact RcAt.list_int c2 t2 pl hu
  |str c2 t2=>exact RcAt.list_str c2 t2 pl hu
  |tup q2 r2 v2 e7=>exact RcAt.list_tuple pl e7 hu
  | @lst m p2 ys c9 q2 r2 v2 e7=>
   have hl:D.depL l+1<=n:=by rw[D.dep] at hn;exact hn
   have hm:D.depL m<20000:=by rw[D.dep] at p6;omega
   have e1:=v1.length;have e2:=v2.length;have e3:=r.length;have e4:=r2.length;have al:=kP l m;by_cases hlen:l.length=m.length
   ·have z:=RcAt.lists pl e7 (by simp only[gU];omega) hu (items l m xs ys b6 c9 _ _ hl hm r r2 v1 v2);simp only[gU] at z;rw[show b6.length=min l.length m.length by omega] at z;rw[D.eqb,<-al,hlen];rw[hlen] at z;simpa using z
   ·have z:=RcAt.lists_lengths pl e7 (by simp only[gU,bne_iff_ne,ne_eq];omega) hu;rw[D.eqb,<-al];rw[show(l.length==m.length)=false by simpa using hlen];simpa using z
theorem Ii(I:Inv X pins σ H s)(hd:iE X.K H O d v)(he:iE X.K H O' e u)(ra:RelV v a)(rb:RelV u b)(hn:d.dep<=n)(p6:e.dep<20000)(hA:A.units+n<cLine):RcNeAt A s a b (!D.eqb d e):=by
 have hu:A.units<cLine:=by omega
 have items:=Bz I hA;have x8:cLine=9900:=rfl;have h1:=pv I hd ra (by omega);have h2:=pv I he rb p6
 cases h1 with
 |non=>
  cases h2 with
  |non=>exact RcNeAt.none_none
  |bl c2=>exact RcNeAt.none_bool c2
  |int c2 t2=>exact RcNeAt.none_int c2 t2
  |str c2 t2=>exact RcNeAt.none_str c2 t2
  |tup q2 r2 v2 e7=>exact RcNeAt.none_tuple e7 hu
  |lst q2 r2 v2 e7=>exact RcNeAt.none_list e7 hu
 |bl c1=>
  cases h2 with
  |non=>exact RcNeAt.bool_none c1
  |bl c2=>exact RcNeAt.bool_bool c1 c2
  |int c2 t2=>exact RcNeAt.bool_int c1 c2 t2
  |str c2 t2=>exact RcNeAt.bool_str c1 c2 t2
  |tup q2 r2 v2 e7=>exact RcNeAt.bool_tuple c1 e7 hu
  |lst q2 r2 v2 e7=>exact RcNeAt.bool_list c1 e7 hu
 |int c1 t1=>
  cases h2 with
  |non=>exact RcNeAt.int_none c1 t1
  |bl c2=>exact RcNeAt.int_bool c1 t1 c2
  |int c2 t2=>exact RcNeAt.int_int c1 t1 c2 t2
  |str c2 t2=>exact RcNeAt.int_str c1 t1 c2 t2
  |tup q2 r2 v2 e7=>exact RcNeAt.int_tuple c1 t1 e7 hu
  |lst q2 r2 v2 e7=>exact RcNeAt.int_list c1 t1 e7 hu
 |str c1 t1=>
  cases h2 with
  |non=>exact RcNeAt.str_none c1 t1
  |bl c2=>exact RcNeAt.str_bool c1 t1 c2
  |int c2 t2=>exact RcNeAt.str_int c1 t1 c2 t2
  |str c2 t2=>exact RcNeAt.str_str c1 t1 c2 t2
  |tup q2 r2 v2 e7=>exact RcNeAt.str_tuple c1 t1 e7 hu
  |lst q2 r2 v2 e7=>exact RcNeAt.str_list c1 t1 e7 hu
 | @tup l p xs b6 q r v1 pl=>
  cases h2 with
  |non=>exact RcNeAt.tuple_none pl hu
  |bl c2=>exact RcNeAt.tuple_bool c2 pl hu
  |int c2 t2=>exact RcNeAt.tuple_int c2 t2 pl hu
  |str c2 t2=>exact RcNeAt.tuple_str c2 t2 pl hu
  | @tup m p2 ys c9 q2 r2 v2 e7=>
   have hl:D.depL l+1<=n:=by rw[D.dep] at hn;exact hn
   have hm:D.depL m<20000:=by rw[D.dep] at p6;omega
   have e1:=v1.length;have e2:=v2.length;have e3:=r.length;have e4:=r2.length;have z:=RcNeAt.tuples pl e7 hu (items l m xs ys b6 c9 _ _ hl hm r r2 v1 v2);simp only[gU] at z;rw[show b6.length=l.length by omega,show c9.length=m.length by omega,kP] at z;rw[D.eqb];exact z
  |lst q2 r2 v2 e7=>exact RcNeAt.tuple_list pl e7 hu
 | @lst l p xs b6 q r v1 pl=>
  cases h2 with
  |non=>exact RcNeAt.list_none pl hu
  |bl c2=>exact RcNeAt.list_bool c2 pl hu
  |int c2 t2=>exact RcNeAt.list_int c2 t2 pl hu
  |str c2 t2=>exact RcNeAt.list_str c2 t2 pl hu
  |tup q2 r2 v2 e7=>exact RcNeAt.list_tuple pl e7 hu
  | @lst m p2 ys c9 q2 r2 v2 e7=>
   have hl:D.depL l+1<=n:=by rw[D.dep] at hn;exact hn
   have hm:D.depL m<20000:=by rw[D.dep] at p6;omega
   have e1:=v1.length;have e2:=v2.length;have e3:=r.length;have e4:=r2.length;have al:=kP l m;by_cases hlen:l.length=m.length
   ·have z:=RcNeAt.lists pl e7 (by simp only[gU];omega) hu (items l m xs ys b6 c9 _ _ hl hm r r2 v1 v2);simp only[gU] at z;rw[show b6.length=min l.length m.length by omega] at z;rw[D.eqb,<-al,hlen];rw[hlen] at z;simpa using z
   ·have z:=RcNeAt.lists_lengths pl e7 (by simp only[gU,bne_iff_ne,ne_eq];omega) hu;rw[D.eqb,<-al];rw[show(l.length==m.length)=false by simpa using hlen];simpa using z
theorem NX(hu:X.A.units+60<cLine):OpR X (compareOp .Eq) (fun x y H Q=> ∃O d e,iE X.K H O d x/\iE X.K H O e y/\(d.dep<=50/\e.dep<=50)/\Q (.bl (D.eqb d e)) H):=by
 intro pins s σ H x y v u Q I rx ry h;obtain⟨O,d,e,h1,h2,h3,q⟩:=h;exact M7 (A:=X.A) I h1 h2 rx ry h3.1 (by omega) (by omega) _ _ _ _ ⟨.bl _,H,I,rfl,q⟩
theorem NU(hu:X.A.units+60<cLine):OpR X (compareOp .NotEq) (fun x y H Q=> ∃O d e,iE X.K H O d x/\iE X.K H O e y/\(d.dep<=50/\e.dep<=50)/\Q (.bl (!D.eqb d e)) H):=by
 intro pins s σ H x y v u Q I rx ry h;obtain⟨O,d,e,h1,h2,h3,q⟩:=h;exact Ii (A:=X.A) I h1 h2 rx ry h3.1 (by omega) (by omega) _ _ _ _ ⟨.bl _,H,I,rfl,q⟩
end
theorem gM{α:Type}{c:Prop}[Decidable c]{a b:α}(h:(if c then some a else none)=some b):c/\a=b:=by
 split at h
 ·rename_i hc;exact⟨hc,hV h⟩
 ·cases h
section
variable {X:Cx}{pins:gG}{σ:L2.St}{H:Hp}{s:gb}
theorem JF(I:Inv X pins σ H s){A:gv}{l:List D}{xs:List V}{b6:hJ}{O O':AP'}{dx:D}{vx:V}{x:gi}(r:RepL X.K H O l xs)(v:Vals xs b6)(hx:iE X.K H O' dx vx)(rx:RelV vx x)(hn:D.depL l<=50)(hxn:dx.dep<=50)(hA:A.units+60<cLine):
  ∃e:Value->Bool,(∀y∈b6,EqAt A.in1 s y x (e y))/\b6.any e=l.any fun d=>D.eqb d dx:=by
 let e:Value->Bool:=fun y=>match(b6.zip l).find? (fun p=>p.1==y) with
  |some p=>D.eqb p.2 dx
  |none=>false
 have e1:=v.length;have e3:=r.length
 have key: ∀(j:Nat) (hj:j<b6.length) (hl:j<l.length),e b6[j]=D.eqb l[j] dx:=fun j hj hl=>by
  show(match(b6.zip l).find? (fun p=>p.1==b6[j]) with|some p=>D.eqb p.2 dx|none=>false)=_
  cases hf:(b6.zip l).find? (fun p=>p.1==b6[j]) with
  |none=>
   have:=List.find?_eq_none.mp hf (b6[j],l[j]) (by
    have:(b6.zip l)[j]?=some (b6[j],l[j]):=by simp[BU,il hj,il hl]
    exact kK this)
   simp at this
  |some p=>
   have hp:=List.find?_some hf;have hm:=List.mem_of_find?_eq_some hf;obtain⟨i,hi⟩:=pZ hm;obtain⟨p1,p2⟩:=p;rw[BU] at hi;have bh:p1=b6[j]:=qe hp;obtain⟨h1,h2⟩:=hi;have aP:i<xs.length:=by have:=(qR.mp h1).1;omega
   obtain⟨w,w1,w2⟩:=v.get (il aP);have cN:j<xs.length:=by omega
   obtain⟨w',w3,w4⟩:=v.get (il cN);rw[h1] at w1;cases w1;rw[il hj] at w3;cases w3;subst bh;have hv:=w2.inj w4;have a1:=r.views h2 (il aP);have a2:=r.views (il hl) (il cN);rw[hv] at a1;have hdi:=D.dep_mem h2;have:=Rep.inj I (by omega) a1 a2;exact nQ (fun z=>D.eqb z dx) this
 refine⟨e,fun y hy=>?_,?_⟩
 ·obtain⟨j,hj⟩:=pZ hy;have hj1:=(qR.mp hj).1;have cN:=(qR.mp hj).2;have hl:j<l.length:=by omega
  have hx2:j<xs.length:=by omega
  obtain⟨w,w1,w2⟩:=v.get (il hx2);rw[hj] at w1;cases w1;have hk:=key j hj1 hl;rw[cN] at hk;rw[hk];have hd:=D.dep_mem (il hl);exact wI I 50 _ _ _ _ _ _ O O' A.in1 (.inl (r.views (il hl) (il hx2))) hx w2 rx (by omega) (by omega) (by show A.units+1+50<cLine;omega)
 ·have:b6.map e=l.map fun d=>D.eqb d dx:=by
   apply yY
   ·simp;omega
   ·intro j h1 h2;simp only[iq] at h1 h2;simp only[List.getElem_map];exact key j h1 h2
  have h3:b6.any e=(b6.map e).any id:=by rw[yX];rfl
  have h4:(l.any fun d=>D.eqb d dx)=(l.map fun d=>D.eqb d dx).any id:=by rw[yX];rfl
  rw[h3,h4,this]
noncomputable def inD(x:D):D->Option Bool
 | .tup l=>if D.depL l<=50/\x.dep<=50 then some (l.any fun d=>D.eqb d x) else none
 | .lst l=>if D.depL l<=50/\x.dep<=50 then some (l.any fun d=>D.eqb d x) else none
 |_=>none
theorem F4(hu:X.A.units+60<cLine):OpR X (compareOp .NotIn) (fun x y H Q=> ∃O d e b,iE X.K H O d x/\iE X.K H O e y/\inD d e=some b/\Q (.bl (!b)) H):=by
 intro pins s σ H x y v u Q I rx ry h;obtain⟨O,d,e,b,h1,h2,h3,q⟩:=h
 cases e with
 |tup l=>
  obtain⟨hn,rfl⟩:=gM h3
  ·skip
   obtain⟨a,xs,rfl,hq,r⟩:=jr h2;cases ry;obtain⟨b6,v1,pl,_⟩:=I.tuple hq;obtain⟨e,he,ha⟩:=JF (A:=X.A) I r v1 h1 rx hn.1 hn.2 hu;refine notIn_tupleAt e pl (fun w hw=>he w (by simpa using hw)) ⟨.bl _,H,I,rfl,?_⟩;rw[show b6.toArray.any e=b6.any e by simp,ha];exact q
 |lst l=>
  obtain⟨hn,rfl⟩:=gM h3
  ·skip
   obtain⟨a,xs,rfl,hq,r⟩:=iX h2;cases ry;obtain⟨b6,v1,pl,_⟩:=I.list hq;obtain⟨e,he,ha⟩:=JF (A:=X.A) I r v1 h1 rx hn.1 hn.2 hu;refine notIn_listAt e pl.isList (fun w hw=>he w (by simpa using hw)) ⟨.bl _,H,I,rfl,?_⟩;rw[show b6.toArray.any e=b6.any e by simp,ha];exact q
 |_=>cases h3
end
def rD1(K:gu)(g:D->Option (D×Bool)):V->Hp->VK->Prop:=fun x H Q=> ∃(O:AP') (d:D) (z:D×Bool),(∀p,¬Ow (H p)-> ¬O p)/\iE K H O d x/\g d=some z/\Gen K H O z Q
def rD(K:gu)(g:D->D->Option (D×Bool)):R2:=fun x y H Q=> ∃(O:AP') (d e:D) (z:D×Bool),(∀p,¬Ow (H p)-> ¬O p)/\iE K H O d x/\iE K H O e y/\g d e=some z/\Gen K H O z Q
def rDn(K:gu)(g:List D->Option (D×Bool)):List V->Hp->VK->Prop:=fun vs H Q=> ∃(O:AP') (ds:List D) (z:D×Bool),(∀p,¬Ow (H p)-> ¬O p)/\ds.length=vs.length/\(∀(j:Nat) d v,ds[j]?=some d->vs[j]?=some v->iE K H O d v)/\g ds=some z/\Gen K H O z Q
section
variable {X:Cx}{e a b:gf}{fa fb:FO}{fs:List FO}{pos:Pos}
theorem px1(h:PE X e (tUn (rD1 X.K g) (tO X.K fa))):PX X e (kh g fa):=Nh h fun x z v H O Q np hx hg G=>⟨O,x,z,np,hx,hg,G⟩
theorem px2(h:PE X e (tOp (rD X.K g) (tO X.K fa) (tO X.K fb))):PX X e (gC g fa fb):=Ng h fun x y z v u H O Q np hx hy hg G=>⟨O,x,y,z,np,hx,hy,hg,G⟩
theorem pxn(h:PE X e (tCB (rDn X.K g) (tA X.K fs))):PX X e (gW g fs):=K8 h fun ds z vs H O Q np hl hv hg G=>⟨O,ds,z,np,hl,hv,hg,G⟩
theorem gK{K H}{O:AP'}{i:Int}{v:V}(h:iE K H O (.int i) v):v= .int i:=h.elim (fun h=>h.int) fun⟨_,_,h⟩=>h.elim
theorem zg{K H}(h:iE K H O (.bl i) v):v= .bl i:=h.elim (fun h=>h.bl) fun⟨_,_,h⟩=>h.elim
theorem rE{K H}(h:iE K H O (.str i) v):v= .str i:=h.elim (fun h=>h.str) fun⟨_,_,h⟩=>h.elim
theorem Az{K H}(h:iE K H O .non v):v= .non:=h.elim (fun h=>h.non) fun⟨_,_,h⟩=>h.elim
theorem Gen.str{K H}(g:Gen K H O (.str i,false) Q):Q (.str i) H:=g _ H (fun _ _ e=>e) Rep.mkStr
noncomputable def gI(f:Int->Int->Option D):D->D->Option (D×Bool)
 | .int i,.int j=>(f i j).map fun z=>(z,false)
 |_,_=>none
theorem uR{f:Int->Int->Option D}{d e:D}{z:D×Bool}(h:gI f d e=some z): ∃i j y,d= .int i/\e= .int j/\f i j=some y/\z=(y,false):=by
 cases d with
 |int i=>
  cases e with
  |int j=>
   cases hf:f i j with
   |none=>rw[gI,hf] at h;cases h
   |some y=>rw[gI,hf] at h;cases h;exact⟨i,j,y,rfl,rfl,hf,rfl⟩
  |_=>cases h
 |_=>cases h
theorem uP{f:ub}{C:Int->Int->Prop}[∀i j,Decidable (C i j)]{g:Int->Int->Int}(ho:OpR X f (rI C fun i j=> .int (g i j))):OpR X f (rD X.K (gI fun i j=>if C i j then some (.int (g i j)) else none)):=by
 intro pins s σ H x y v u Q I rx ry h;obtain⟨O,d,e,z,np,h1,h2,hg,G⟩:=h;obtain⟨i,j,w,rfl,rfl,hf,rfl⟩:=uR hg;obtain⟨hc,rfl⟩:=gM hf;exact ho pins s σ H x y v u Q I rx ry ⟨i,j,gK h1,gK h2,hc,G.int⟩
theorem Jd{f:ub}{g:Int->Int->Int}(ho:OpR X f (rI0 fun i j=> .int (g i j))):OpR X f (rD X.K (gI fun i j=>some (.int (g i j)))):=by
 intro pins s σ H x y v u Q I rx ry h;obtain⟨O,d,e,z,np,h1,h2,hg,G⟩:=h;obtain⟨i,j,w,rfl,rfl,hf,rfl⟩:=uR hg;cases hf;exact ho pins s σ H x y v u Q I rx ry ⟨i,j,gK h1,gK h2,G.int⟩
instance(i j:Int):Decidable (CMul i j):=by unfold CMul;exact inferInstance
instance(i j:Int):Decidable (GD i j):=by unfold GD;exact inferInstance
instance(i j:Int):Decidable (Ao i j):=by unfold Ao;exact inferInstance
noncomputable def gSub:=gI fun i j=>some (.int (i-j))
noncomputable def se:=gI fun i j=>if CMul i j then some (.int (i*j)) else none
noncomputable def JM:=gI fun i j=>if GD i j then some (.int (i / j)) else none
noncomputable def xk:=gI fun i j=>if 0<j then some (.int (i%j)) else none
noncomputable def Gp:=gI fun i j=>if Ao i j then some (.int (i^j.toNat)) else none
theorem uN:OpR X (binaryOp .Sub) (rD X.K gSub):=Jd NS
theorem nA:OpR X (binaryOp .Mult) (rD X.K se):=uP NV
theorem EF:OpR X (binaryOp .FloorDiv) (rD X.K JM):=uP LB
theorem pJ:OpR X (binaryOp .Mod) (rD X.K xk):=uP NW
theorem EE:OpR X (binaryOp .Pow) (rD X.K Gp):=uP NT
noncomputable def zS:D->D->Option (D×Bool)
 | .int i,.int j=>some (.int (i+j),false)
 | .str i,.str j=>if i.length+j.length<=sizeLine then some (.str (i++j),false) else none
 | .tup l,.tup m=>if l.length+m.length<=sizeLine then some (.tup (l++m),false) else none
 | .lst l,.lst m=>if l.length+m.length<=sizeLine then some (.lst (l++m),true) else none
 |_,_=>none
theorem nB:OpR X (binaryOp .Add) (rD X.K zS):=by
 intro pins s σ H x y v u Q I rx ry h;obtain⟨O,d,e,z,np,h1,h2,hg,G⟩:=h
 cases d with
 |int i=>
  cases e with
  |int j=>cases hg;exact NY pins s σ H x y v u Q I rx ry ⟨i,j,gK h1,gK h2,G.int⟩
  |_=>cases hg
 |str i=>
  cases e with
  |str j=>
   obtain⟨hc,rfl⟩:=gM hg;exact Dk pins s σ H x y v u Q I rx ry ⟨i,j,rE h1,rE h2,hc,G.str⟩
  |_=>cases hg
 |tup l=>
  cases e with
  |tup m=>
   obtain⟨hc,rfl⟩:=gM hg;have k1:Rep X.K H O (.tup l) x:=h1.elim id fun⟨_,_,z⟩=>z.elim;have k2:Rep X.K H O (.tup m) y:=h2.elim id fun⟨_,_,z⟩=>z.elim;obtain⟨p1,xs,rfl,q1,r1⟩:=k1.tup;obtain⟨p2,ys,rfl,q2,r2⟩:=k2.tup;have l1:=r1.length;have l2:=r2.length;by_cases hx:xs=[]
   ·subst hx;have:l=[]:=by simpa using l1.symm
    subst this;cases rx;cases ry;obtain⟨b6,v1,eK,_⟩:=I.tuple q1.sq;obtain⟨c9,v2,e7,_⟩:=I.tuple q2.sq;have e1:b6=[]:=by have:=v1.length;simpa using this.symm
    subst e1;obtain⟨⟨cls,dd,data,sl⟩,ho,x8,n,hd⟩:=id eK;obtain⟨⟨cB,s9,data2,r6⟩,o8,j9,n2,hd2⟩:=id e7;simp only at x8 hd j9 hd2;subst x8 hd j9 hd2
    refine zc ⟨_,ho,rfl⟩ ⟨_,o8,rfl⟩ CF CD CC CB (CA _ _)
     (tuple_addW0 p1 p2 #[] c9.toArray n n2 dd s9 sl r6 (by simp)) ⟨ho,o8,⟨.ref p2,H,I,rfl,?_⟩⟩
    exact G _ H (fun _ _ e=>e) (by simpa using k2)
   ·refine LC pins s σ H _ _ v u Q I rx ry ⟨p1,p2,xs,ys,rfl,rfl,q1.sq,q2.sq,hx,by omega,fun hy=>?_,fun hy p hp=>?_⟩
    ·subst hy;have:m=[]:=by simpa using l2.symm
     subst this;exact G _ H (fun _ _ e=>e) (by simpa using k1)
    ·exact G.tup hp (np p (nOw hp)) (r1.append r2)
  |_=>cases hg
 |lst l=>
  cases e with
  |lst m=>
   obtain⟨hc,rfl⟩:=gM hg;obtain⟨p1,xs,rfl,q1,r1⟩:=iX h1;obtain⟨p2,ys,rfl,q2,r2⟩:=iX h2;have l1:=r1.length;have l2:=r2.length;cases rx;cases ry;obtain⟨b6,v1,eK,_⟩:=I.list q1;obtain⟨c9,v2,e7,_⟩:=I.list q2;have e1:=v1.length;have e2:=v2.length;obtain⟨⟨cls,dd,data,sl⟩,ho,x8,n,hd⟩:=id eK.isList;obtain⟨⟨cB,s9,data2,r6⟩,o8,j9,n2,hd2⟩:=id e7.isList;simp only at x8 hd j9 hd2;subst x8 hd j9 hd2
   refine zc ⟨_,ho,rfl⟩ ⟨_,o8,rfl⟩ noFill_list_add seq_list_add PySem.F.slot_list_add PySem.F.entry_list_add (PySem.F.args_list_add_2 _ _)
    (list_addW p1 p2 b6.toArray c9.toArray n n2 dd s9 sl r6 (by simp only[gU];omega)) ⟨ho,o8,?_⟩
   rw[show b6.toArray++c9.toArray=(b6++c9).toArray by simp];exact⟨.ref _,_,I.lnew (t':=s.toks) (v1.append v2) (by rw[lO];omega),rfl,G.lst I.fresh (r1.append r2)⟩
  |_=>cases hg
 |_=>cases hg
noncomputable def gEq(d e:D):Option (D×Bool):=if d.dep<=50/\e.dep<=50 then some (.bl (D.eqb d e),false) else none
noncomputable def gNe(d e:D):Option (D×Bool):=if d.dep<=50/\e.dep<=50 then some (.bl (!D.eqb d e),false) else none
theorem vX(hu:X.A.units+60<cLine):OpR X (compareOp .Eq) (rD X.K gEq):=by
 intro pins s σ H x y v u Q I rx ry h;obtain⟨O,d,e,z,np,h1,h2,hg,G⟩:=h;obtain⟨hc,rfl⟩:=gM hg;exact NX hu pins s σ H x y v u Q I rx ry ⟨O,d,e,h1,h2,hc,G.bl⟩
theorem ny(hu:X.A.units+60<cLine):OpR X (compareOp .NotEq) (rD X.K gNe):=by
 intro pins s σ H x y v u Q I rx ry h;obtain⟨O,d,e,z,np,h1,h2,hg,G⟩:=h;obtain⟨hc,rfl⟩:=gM hg;exact NU hu pins s σ H x y v u Q I rx ry ⟨O,d,e,h1,h2,hc,G.bl⟩
theorem hG{α β:Type}{x:Option α}{f:α->β}{b:β}(h:x.map f=some b): ∃a,x=some a/\f a=b:=by
 cases x with
 |none=>cases h
 |some a=>exact⟨a,rfl,hV h⟩
noncomputable def pV:D->Option (D×Bool)
 | .int i=>some (.int (-i),false)
 |_=>none
theorem Ks:UnR X (unaryOp .USub) (rD1 X.K pV):=by
 intro pins s σ H x v Q I rx h;obtain⟨O,d,z,np,h1,hg,G⟩:=h
 cases d with
 |int i=>cases hg;exact ML pins s σ H x v Q I rx ⟨i,gK h1,G.int⟩
 |_=>cases hg
noncomputable def gIx:D->D->Option (D×Bool)
 | .tup l,.int i=>(atI l i).map fun d=>(d,false)
 | .lst l,.int i=>(atI l i).map fun d=>(d,false)
 |_,_=>none
theorem Fm{K H}{O:AP'}{l:List D}{xs:List V}{i:Int}{d:D}(r:RepL K H O l xs)(h:atI l i=some d): ∃v,atI xs i=some v/\Rep K H O d v:=by
 unfold atI at h ⊢;rw[r.length];obtain⟨j,h1,h2⟩:=fU h;rw[h1];exact r.get h2
theorem PQ:IxR X (rD X.K gIx):=by
 intro value slice pins s σ H x y v u Q I rx ry h hs;obtain⟨O,d,e,z,np,h1,h2,hg,G⟩:=h
 cases d with
 |tup l=>
  cases e with
  |int i=>
   obtain⟨w,hw,rfl⟩:=hG hg;obtain⟨p,xs,rfl,q,r⟩:=jr h1;obtain⟨vv,hv,hr⟩:=Fm r hw;exact N5 value slice pins s σ H _ _ v u Q I rx ry ⟨p,xs,i,vv,rfl,gK h2,q,hv,G _ H (fun _ _ e=>e) hr⟩ hs
  |_=>cases hg
 |lst l=>
  cases e with
  |int i=>
   obtain⟨w,hw,rfl⟩:=hG hg;obtain⟨p,xs,rfl,q,r⟩:=iX h1;obtain⟨vv,hv,hr⟩:=Fm r hw;exact LQ value slice pins s σ H _ _ v u Q I rx ry ⟨p,xs,i,vv,rfl,gK h2,q,hv,G _ H (fun _ _ e=>e) hr⟩ hs
  |_=>cases hg
 |_=>cases hg
theorem Nq(ho:OpR X (binaryOp op) (rD X.K g))(ha:PO X a fa)(hb:PO X b fb):PX X (.BinOp a op b pos) (gC g fa fb):=px2 (PC ho ha hb)
theorem Np{op:CmpOp}{g:D->D->Option (D×Bool)}(ho:OpR X (compareOp op) (rD X.K g))(ha:PO X a fa)(hb:PO X b fb)(hm:behindInMarks op b=false):PX X (.Compare a [op] [b] pos) (gC g fa fb):=px2 (Lw ho ha hb hm)
theorem Nk(ha:PO X a fa):PX X (.UnaryOp .USub a pos) (kh pV fa):=px1 (Pz Ks ha)
theorem Pr(ha:PO X a fa)(hb:PO X b fb)(hs:Am b):PX X (.Subscript a b pos) (gC gIx fa fb):=px2 (PD PQ ha hb hs)
end
noncomputable def mG:List Opd->Option (List D)
 |[]=>some []
 | .val r::os=>(mG os).map (r.1:: ·)
 | .slot _::_=>none
noncomputable def oh(fs:List F):F:=fun δ=>(iL (fs.map gc) δ).bind fun p=>(mG p.1).bind fun ds=>if ds.length<=sizeLine then some ((.tup ds,false),p.2) else none
noncomputable def jw(fs:List F):F:=fun δ=>(iL (fs.map gc) δ).bind fun p=>(mG p.1).bind fun ds=>if ds.length<=sizeLine then some ((.lst ds,true),p.2) else none
section
variable {K:gu}{T T':AP'}{σ:L2.St}{δ δ':Dn}{H H':Hp}{os:List Opd}{vs:List V}
theorem Ops.rep(E:ER K H T σ δ)(B:Ops K T σ δ H os vs δ' H' T'){j:Nat}{r:D×Bool}{v:V}(h1:os[j]?=some (.val r))(h2:vs[j]?=some v):Rep K H' (fun a=>OwnA σ δ' a\/T a) r.1 v:=by
 obtain⟨d,b⟩:=r
 cases b with
 |false=>exact B.val j d v h1 h2
 |true=>
  obtain⟨p,rfl,tp,hp,ok⟩:=B.tmp j d v h1 h2;refine ok.rep (fun z=>?_) fun b _ z=>z;rcases z with z|z
  ·exact B.er.nT p z tp
  ·exact(E.dom p z).ne hp
theorem qD{O:AP'}: ∀{os:List Opd} {vs:List V} {ds:List D},mG os=some ds->os.length=vs.length->(∀(j:Nat) (r:D×Bool) (v:V),os[j]?=some (.val r)->vs[j]?=some v->Rep K H' O r.1 v)->RepL K H' O ds vs
 |[],vs,ds,h,hl,_=>by
  cases h;have:vs=[]:=by simpa using hl.symm
  subst this;exact RepL.nil
 | .slot i::os,vs,ds,h,_,_=>by cases h
 | .val r::os,vs,ds,h,hl,k=>by
  obtain⟨l,h1,rfl⟩:=hG h
  cases vs with
  |nil=>simp at hl
  |cons v vs=>exact RepL.cons (k 0 r v rfl rfl) (qD h1 (by simpa using hl) fun j r' v' a b=>k (j+1) r' v' (by simpa using a) (by simpa using b))
end
section
variable {X:Cx}{e a b:gf}{es:iF}{fa fb:FO}{fs:List F}{pos:Pos}
theorem Nb{x1}(h:PA X es (tA X.K (fs.map gc))):PX X (.Tuple es x1 pos) (oh fs):=PX.imp (IT h) fun σ H Q hw=>by
 obtain⟨δ,T,rr,δ',E,e,k⟩:=hw;obtain⟨⟨os,δ1⟩,h1,e⟩:=fU e;obtain⟨ds,h2,e⟩:=fU e;obtain⟨hn,e⟩:=gM e;obtain⟨rfl,rfl⟩:=oG e;refine⟨δ,T,os,δ1,E,h1,fun vs H1 T1 B=>?_⟩;have r:=qD h2 B.len fun j r v a b=>B.rep E a b;exact⟨by rw[r.length];exact hn,fun p hp=>(B.done k).tup hp (B.np (nOw hp)) r⟩
theorem Nl(h:PA X es (tA X.K (fs.map gc))):PX X (.List es pos) (jw fs):=PX.imp (NN h) fun σ H Q hw=>by
 obtain⟨δ,T,rr,δ',E,e,k⟩:=hw;obtain⟨⟨os,δ1⟩,h1,e⟩:=fU e;obtain⟨ds,h2,e⟩:=fU e;obtain⟨hn,e⟩:=gM e;obtain⟨rfl,rfl⟩:=oG e;refine⟨δ,T,os,δ1,E,h1,fun vs H1 T1 B=>?_⟩;have r:=qD h2 B.len fun j r v a b=>B.rep E a b;exact⟨by rw[r.length];exact hn,fun p hp=>(B.done k).lst hp r⟩
theorem LG{ds:List D}{vs:List V}{d:D}(hl:ds.length=vs.length)(hd:ds=[d]): ∃v,vs=[v]:=by
 subst hd
 cases vs with
 |nil=>simp at hl
 |cons v r=>
  cases r with
  |nil=>exact⟨v,rfl⟩
  |cons _ _=>simp at hl
noncomputable def g1(g:D->Option (D×Bool)):List D->Option (D×Bool)
 |[d]=>g d
 |_=>none
noncomputable def g2(g:D->D->Option (D×Bool)):List D->Option (D×Bool)
 |[d,e]=>g d e
 |_=>none
theorem nL{f:gi}{g:D->Option (D×Bool)}(h: ∀(pins:gG) (s:gb) (σ:L2.St) (H:Hp) (x:V) (u:gi) (Q:VK) (O:AP') (d:D) (z:D×Bool),Inv X pins σ H s->RelV x u->(∀p,¬Ow (H p)-> ¬O p)->iE X.K H O d x->g d=some z->Gen X.K H O z Q->
  wpAny (model X.prog X.w) X.A (call f [u]) (EP X pins σ Q) X.xe s):iV X f (rDn X.K (g1 g)):=by
 intro pins s σ H xs us Q I r hq;obtain⟨O,ds,z,np,hl,hv,hg,G⟩:=hq
 match ds,hg with
 |[d],hg=>
  obtain⟨v,rfl⟩:=LG hl rfl;obtain⟨u,rfl,ru⟩:=rF r;exact h pins s σ H v u Q O d z I ru np (hv 0 d v rfl rfl) hg G
theorem J7{f:gi}{g:D->D->Option (D×Bool)}(h: ∀(pins:gG) (s:gb) (σ:L2.St) (H:Hp) (x y:V) (us:hJ) (Q:VK) (O:AP') (d e:D) (z:D×Bool),Inv X pins σ H s->Vals [x,y] us->(∀p,¬Ow (H p)-> ¬O p)->iE X.K H O d x->iE X.K H O e y->g d e=some z->Gen X.K H O z Q->
  wpAny (model X.prog X.w) X.A (call f us) (EP X pins σ Q) X.xe s):iV X f (rDn X.K (g2 g)):=by
 intro pins s σ H xs us Q I r hq;obtain⟨O,ds,z,np,hl,hv,hg,G⟩:=hq
 match ds,hg,xs,hl with
 |[d,e],hg,[x,y],_=>exact h pins s σ H x y us Q O d e z I r np (hv 0 d x rfl rfl) (hv 1 e y rfl rfl) hg G
noncomputable def uC:D->Option (D×Bool)
 | .tup l=>some (.int l.length,false)
 | .lst l=>some (.int l.length,false)
 |_=>none
theorem lK:iV X (.builtin "len") (rDn X.K (g1 uC)):=nL fun pins s σ H x u Q O d z I ru np hd hg G=>by
 cases d with
 |tup l=>
  cases hg;obtain⟨p,xs,rfl,q,r⟩:=jr hd;refine sv pins s σ H [_] [u] Q I (.cons ru .nil) ⟨p,xs,rfl,.inr q,?_⟩;rw[r.length];exact G.int
 |lst l=>
  cases hg;obtain⟨p,xs,rfl,q,r⟩:=iX hd;refine sv pins s σ H [_] [u] Q I (.cons ru .nil) ⟨p,xs,rfl,.inl q,?_⟩;rw[r.length];exact G.int
 |_=>cases hg
noncomputable def DJ:D->Option (D×Bool)
 | .int i=>some (.int (if i<0 then -i else i),false)
 |_=>none
theorem tZ:iV X (.builtin "abs") (rDn X.K (g1 DJ)):=nL fun pins s σ H x u Q O d z I ru np hd hg G=>by
 cases d with
 |int i=>cases hg;exact J8 pins s σ H [x] [u] Q I (.cons ru .nil) ⟨i,by rw[gK hd],G.int⟩
 |_=>cases hg
noncomputable def LS:D->Option (D×Bool)
 | .int i=>some (.int i,false)
 | .bl b=>some (.int (if b then 1 else 0),false)
 |_=>none
theorem Gz:iV X (.type "int") (rDn X.K (g1 LS)):=nL fun pins s σ H x u Q O d z I ru np hd hg G=>by
 cases d with
 |int i=>cases hg;exact yu pins s σ H [x] [u] Q I (.cons ru .nil) (.inl ⟨i,by rw[gK hd],G.int⟩)
 |bl i=>
  cases hg;refine yu pins s σ H [x] [u] Q I (.cons ru .nil) (.inr ⟨i,by rw[zg hd],?_⟩);have:=G.int;cases i<;>exact this
 |_=>cases hg
noncomputable def nG:D->Option (D×Bool)
 | .tup l=>some (.tup l,false)
 | .lst l=>some (.tup l,false)
 |_=>none
theorem mF:iV X (.type "tuple") (rDn X.K (g1 nG)):=nL fun pins s σ H x u Q O d z I ru np hd hg G=>by
 cases d with
 |tup l=>
  cases hg;have k1:Rep X.K H O (.tup l) x:=hd.elim id fun⟨_,_,z⟩=>z.elim;obtain⟨p,xs,rfl,q,r⟩:=k1.tup;exact qp pins s σ H [_] [u] Q I (.cons ru .nil) ⟨p,xs,rfl,.inr ⟨q.sq,G _ H (fun _ _ e=>e) k1⟩⟩
 |lst l=>
  cases hg;obtain⟨p,xs,rfl,q,r⟩:=iX hd;exact qp pins s σ H [_] [u] Q I (.cons ru .nil) ⟨p,xs,rfl,.inl ⟨q,fun t ht=>G.tup ht (np t (nOw ht)) r⟩⟩
 |_=>cases hg
noncomputable def Mt:D->Option (D×Bool)
 | .tup l=>some (.lst l,true)
 | .lst l=>some (.lst l,true)
 |_=>none
end
abbrev FT:=Dn->Option (Bool×Dn)
def tT(K:gu)(f:FT):TT:=fun σ H Q=> ∃δ T b δ',ER K H T σ δ/\f δ=some (b,δ')/\ ∀H',Keep σ δ H δ' H'->ER K H' T σ δ'->Q b H'
def PTX(X:Cx)(e:gf)(f:FT):Prop:=PT X e (tT X.K f)
def PWX(X:Cx)(e:gf)(f:FT):Prop:=PW X e (tT X.K f)
noncomputable def asB:(D×Bool)×Dn->Option (Bool×Dn)
 |((.bl b,_),δ)=>some (b,δ)
 |_=>none
noncomputable def fT(f:F):FT:=fun δ=>(f δ).bind asB
theorem wV(h:asB p=some q): ∃o,p=((.bl q.1,o),q.2):=by
 obtain⟨⟨d,o⟩,δ⟩:=p
 cases d with
 |bl b=>cases h;exact⟨o,rfl⟩
 |_=>cases h
theorem Mh{K:gu}{f:F}{σ:L2.St}{H:Hp}{Q:Bool->Hp->Prop}(h:tT K (fT f) σ H Q):tF K f σ H fun x H1=> ∃c,x= .bl c/\Q c H1:=by
 obtain⟨δ,T,b,δ',E,e,k⟩:=h;obtain⟨p,h1,h2⟩:=fU e;obtain⟨o,rfl⟩:=wV h2;refine⟨δ,T,_,_,E,h1,fun v H' P=>?_⟩;obtain⟨E1,r⟩:=P.rep E;exact⟨b,r.bl,k H' P.1 E1⟩
section
variable {X:Cx}{e a b c:gf}{es:iF}{fa fb:FO}{f g:F}{ft fu:FT}{pos:Pos}
theorem PT.imp'(h:PT X e t)(k: ∀σ H Q,t' σ H Q->t σ H Q):PT X e t':=fun pins s σ H Q I hw=>h pins s σ H Q I (k σ H Q hw)
theorem PW.imp'(h:PW X e t)(k: ∀σ H Q,t' σ H Q->t σ H Q):PW X e t':=fun wh pins s σ H Q I hw=>h wh pins s σ H Q I (k σ H Q hw)
theorem Ld(h:PX X e f)(he: ∀whole,isTrue e X.env whole=(do let v <-whole;standAt e.pos;holding [v] (truthy v))):PTX X e (fT f):=PT.imp' (Ny h he) fun σ H Q hw=>Mh hw
theorem LF{r:R2}{g:D->D->Option (D×Bool)}(hr:OB X.K r g){σ:L2.St}{H:Hp}{Q:VK}(hw:tF X.K (gC g fa fb) σ H Q):tOp r (tO X.K fa) (tO X.K fb) σ H Q:=by
 obtain⟨δ,T,rr,δ',E,e,k⟩:=hw;obtain⟨⟨o,δ1⟩,h1,e⟩:=fU e;obtain⟨⟨o2,δ2⟩,h2,e⟩:=fU e;obtain⟨x,h3,e⟩:=fU e;obtain⟨y,h4,e⟩:=fU e;obtain⟨z,h5,e⟩:=fU e;obtain⟨rfl,rfl⟩:=gq e;refine⟨δ,T,o,δ1,E,h1,fun v H1 P1=>⟨δ1,TmpO T o v,o2,δ2,P1.er E,h2,fun u H2 P2=>?_⟩⟩;have B:=Ops.cons E P1 (Ops.cons (P1.er E) P2 (Ops.nil (P2.er (P1.er E))));exact hr x y z v u H2 _ Q (fun p hp=>B.np hp) (B.view (j:=0) rfl rfl h3) (B.view (j:=1) rfl rfl h4) h5 (B.done k)
theorem Pp{K:gu}{g:D->D->Option (D×Bool)}:OB K (rD K g) g:=fun x y z v u H O Q np hx hy hg G=>⟨O,x,y,z,np,hx,hy,hg,G⟩
theorem Lg{op:CmpOp}{g:D->D->Option (D×Bool)}(ho:OpR X (compareOp op) (rD X.K g))(ha:PO X a fa)(hb:PO X b fb)(hm:behindInMarks op b=false):PTX X (.Compare a [op] [b] pos) (fT (gC g fa fb)):=
 PT.imp' (Lh ho ha hb hm) fun σ H Q hw=>LF Pp (Mh hw)
noncomputable def ym(f g:FT):FT:=fun δ=>(f δ).bind fun p=>if p.1=true then g p.2 else some (false,p.2)
noncomputable def tU(f g:FT):FT:=fun δ=>(f δ).bind fun p=>if p.1=true then some (true,p.2) else g p.2
noncomputable def mD(f:FT):FT:=fun δ=>(f δ).bind fun p=>some (!p.1,p.2)
theorem Ir(ha:PTX X a ft):PWX X (.BoolOp .And [a] pos) ft:=Lc ha
theorem La(ha:PTX X a ft):PWX X (.BoolOp .Or [a] pos) ft:=Nv ha
theorem Lb(ha:PTX X a ft)(hb:PWX X (.BoolOp .And (b::es) pos) fu):PWX X (.BoolOp .And (a::b::es) pos) (ym ft fu):=PW.imp' (Nw ha hb) fun σ H Q hw=>by
 obtain⟨δ,T,c,δ',E,e,k⟩:=hw;obtain⟨⟨c1,δ1⟩,h1,e⟩:=fU e;refine⟨δ,T,c1,δ1,E,h1,fun H1 K1 E1=>?_⟩
 cases c1 with
 |true=>
  rw[gh rfl] at e;rw[gh rfl];exact⟨δ1,T,c,δ',E1,e,fun H2 K2 E2=>k H2 (K1.trans K2) E2⟩
 |false=>
  rw[gk iB] at e;rw[gk iB];obtain⟨rfl,rfl⟩:=gq e;exact k H1 K1 E1
theorem Nu(ha:PTX X a ft)(hb:PWX X (.BoolOp .Or (b::es) pos) fu):PWX X (.BoolOp .Or (a::b::es) pos) (tU ft fu):=PW.imp' (Px ha hb) fun σ H Q hw=>by
 obtain⟨δ,T,c,δ',E,e,k⟩:=hw;obtain⟨⟨c1,δ1⟩,h1,e⟩:=fU e;refine⟨δ,T,c1,δ1,E,h1,fun H1 K1 E1=>?_⟩
 cases c1 with
 |true=>
  rw[gh rfl] at e;rw[gh rfl];obtain⟨rfl,rfl⟩:=gq e;exact k H1 K1 E1
 |false=>
  rw[gk iB] at e;rw[gk iB];exact⟨δ1,T,c,δ',E1,e,fun H2 K2 E2=>k H2 (K1.trans K2) E2⟩
theorem Lf(ha:PTX X a ft):PTX X (.UnaryOp .Not a pos) (mD ft):=PT.imp' (Nz ha) fun σ H Q hw=>by
 obtain⟨δ,T,c,δ',E,e,k⟩:=hw;obtain⟨⟨c1,δ1⟩,h1,e⟩:=fU e;obtain⟨rfl,rfl⟩:=gq e;exact⟨δ,T,c1,δ1,E,h1,k⟩
noncomputable def zT(f g:F):F:=fun δ=>(f δ).bind fun p=>(asB p).bind fun q=>if q.1=true then g q.2 else some ((.bl false,false),q.2)
noncomputable def fOr(f g:F):F:=fun δ=>(f δ).bind fun p=>(asB p).bind fun q=>if q.1=true then some ((.bl true,false),q.2) else g q.2
noncomputable def LZ(f:F):F:=fun δ=>(f δ).bind fun p=>(asB p).bind fun q=>some ((.bl (!q.1),false),q.2)
theorem Post.pre{K:gu}{T:AP'}{σ:L2.St}{δ δ1 δ2:Dn}{H H1 H2:Hp}{r:D×Bool}{v:V}(k:Keep σ δ H δ1 H1)(P:Post K T σ δ1 H1 r δ2 v H2):Post K T σ δ H r δ2 v H2:=by
 refine⟨k.trans P.1,?_⟩;obtain⟨d,o⟩:=r
 cases o with
 |false=>exact P.2
 |true=>
  obtain⟨p,h1,h2,h3⟩:=P.2;refine⟨p,h1,?_,h3⟩
  cases hH:H p with
  |none=>rfl
  |some ob=>exact absurd h2 (k.dm p (by rw[hH];simp))
theorem Nr(ha:PX X a f)(hb:PX X (.BoolOp .And (b::es) pos) g):PX X (.BoolOp .And (a::b::es) pos) (zT f g):=PX.imp (NQ ha hb) fun σ H Q hw=>by
 obtain⟨δ,T,r,δ',E,e,k⟩:=hw;obtain⟨p,h1,e⟩:=fU e;obtain⟨⟨c,δ1⟩,h2,e2⟩:=fU e;obtain⟨o,rfl⟩:=wV h2;refine⟨δ,T,_,_,E,h1,fun v H1 P=>?_⟩;obtain⟨E1,rv⟩:=P.rep E;refine⟨c,rv.bl,?_⟩
 cases c with
 |true=>
  rw[gh rfl] at e2;rw[gh rfl];exact⟨δ1,T,r,δ',E1,e2,fun w H2 P2=>k w H2 (P2.pre P.1)⟩
 |false=>
  rw[gk iB] at e2;rw[gk iB];obtain⟨rfl,rfl⟩:=gq e2;exact k _ H1 (Post.val P.1 E1 Rep.mkBl)
theorem K9{op}(ha:PX X a f):PX X (.BoolOp op [a] pos) f:=NK ha
theorem Ni(ha:PX X a f):PX X (.UnaryOp .Not a pos) (LZ f):=PX.imp (NL ha) fun σ H Q hw=>by
 obtain⟨δ,T,r,δ',E,e,k⟩:=hw;obtain⟨p,h1,e⟩:=fU e;obtain⟨⟨c,δ1⟩,h2,e2⟩:=fU e;obtain⟨o,rfl⟩:=wV h2;obtain⟨rfl,rfl⟩:=gq e2;refine⟨δ,T,_,_,E,h1,fun v H1 P=>?_⟩;obtain⟨E1,rv⟩:=P.rep E;exact⟨c,rv.bl,k _ H1 (Post.val P.1 E1 Rep.mkBl)⟩
noncomputable def fIf(t:FT)(f g:F):F:=fun δ=>(t δ).bind fun p=>if p.1=true then f p.2 else g p.2
theorem Pu(hc:PTX X c ft)(ha:PX X a f)(hb:PX X b g):PX X (.IfExp c a b pos) (fIf ft f g):=PX.imp (IX hc ha hb) fun σ H Q hw=>by
 obtain⟨δ,T,r,δ',E,e,k⟩:=hw;obtain⟨⟨c,δ1⟩,h1,e⟩:=fU e;refine⟨δ,T,c,δ1,E,h1,fun H1 K1 E1=>?_⟩
 cases c with
 |true=>rw[gh rfl] at e;rw[gh rfl];exact⟨δ1,T,r,δ',E1,e,fun w H2 P2=>k w H2 (P2.pre K1)⟩
 |false=>rw[gk iB] at e;rw[gk iB];exact⟨δ1,T,r,δ',E1,e,fun w H2 P2=>k w H2 (P2.pre K1)⟩
end
inductive Out where
 |nx(δ:Dn)|rt(r:D×Bool)(δ:Dn)|bk(δ:Dn)|ct(δ:Dn)
abbrev FS:=Dn->Option Out
structure SK(A:hZ)(σ:L2.St)(δ:Dn)(H:Hp)(σ':L2.St)(δ':Dn)(H':Hp):Prop where
 kp: ∀a o,H a=some o-> ¬OwnA σ δ a->H' a=some o
 owi: ∀i a,OwnI σ' δ' i a->OwnI σ δ i a\/H a=none
 dm: ∀a,H a≠none->H' a≠none
 as: ∀i,¬A i->σ'[i]?=σ[i]?
structure FI(L:hZ)(H0:Hp)(σ:L2.St)(δ:Dn)(H:Hp):Prop where
 ow: ∀i a,OwnI σ δ i a->L i\/H0 a=none
 dm: ∀a,H0 a≠none->H a≠none
def RV(K:gu)(T:AP')(H0:Hp)(r:D×Bool)(σ':L2.St)(δ':Dn)(v:V)(H':Hp):Prop:=
 match r with
 |(d,false)=>ER K H' T σ' δ'/\Rep K H' (fun a=>OwnA σ' δ' a\/T a) d v
 |(d,true)=> ∃p,v= .ref p/\H0 p=none/\ER K H' (fun a=>T a\/a=p) σ' δ'/\OwnOk K H' (fun a=>OwnA σ' δ' a\/T a\/a=p) d p
section
variable {A:hZ}{σ σ1 σ2:L2.St}{δ δ1 δ2:Dn}{H H0 H1 H2:Hp}{L:hZ}{K:gu}{T:AP'}
theorem SK.refl:SK A σ δ H σ δ H:=⟨fun _ _ e _=>e,fun _ _ z=> .inl z,fun _ z=>z,fun _ _=>rfl⟩
theorem SK.ow(k:SK A σ δ H σ1 δ1 H1)(a:fV)(h:OwnA σ1 δ1 a):OwnA σ δ a\/H a=none:=by
 obtain⟨i,d,h1,h2⟩:=h;rcases k.owi i a ⟨d,h1,h2⟩ with⟨e,h3,h4⟩|z
 ·exact .inl ⟨i,e,h3,h4⟩
 ·exact .inr z
theorem SK.trans(x:SK A σ δ H σ1 δ1 H1)(y:SK A σ1 δ1 H1 σ2 δ2 H2):SK A σ δ H σ2 δ2 H2 where
 kp:=fun a o e n=>y.kp a o (x.kp a o e n) fun z=>(x.ow a z).elim n fun z=>by rw[z] at e;cases e
 owi:=fun i a z=>(y.owi i a z).elim (x.owi i a) fun z=> .inr (by
  cases h:H a with
  |none=>rfl
  |some o=>exact absurd z (x.dm a (by rw[h];simp)))
 dm:=fun a z=>y.dm a (x.dm a z)
 as:=fun i h=>(y.as i h).trans (x.as i h)
theorem Keep.sk(k:Keep σ δ H δ1 H1):SK A σ δ H σ δ1 H1:=⟨k.kp,fun i a z=> .inl (k.owi i a z),k.dm,fun _ _=>rfl⟩
theorem FI.step(f:FI L H0 σ δ H)(k:SK A σ δ H σ1 δ1 H1):FI L H0 σ1 δ1 H1 where
 ow:=fun i a z=>(k.owi i a z).elim (f.ow i a) fun z=> .inr (by
  cases h:H0 a with
  |none=>rfl
  |some o=>exact absurd z (f.dm a (by rw[h];simp)))
 dm:=fun a z=>k.dm a (f.dm a z)
theorem FI.fresh(f:FI L H0 σ δ H)(hp:H p=none):H0 p=none:=by
 cases h:H0 p with
 |none=>rfl
 |some o=>exact absurd hp (f.dm p (by rw[h];simp))
end
def tS(K:gu)(A L:hZ)(H0:Hp)(f:FS):TS:=fun D σ H=> ∃δ T out,ER K H T σ δ/\FI L H0 σ δ H/\f δ=some out/\
 match out with
 | .nx δ'=> ∀σ' H',SK A σ δ H σ' δ' H'->ER K H' T σ' δ'->D.nx σ' H'
 | .bk δ'=> ∀σ' H',SK A σ δ H σ' δ' H'->ER K H' T σ' δ'->D.bk σ' H'
 | .ct δ'=> ∀σ' H',SK A σ δ H σ' δ' H'->ER K H' T σ' δ'->D.ct σ' H'
 | .rt r δ'=> ∀v σ' H',SK A σ δ H σ' δ' H'->RV K T H0 r σ' δ' v H'->D.rt v H'
def PSX(X:Cx)(A L:hZ)(H0:Hp)(st:Stmt)(f:FS):Prop:=PS X st (tS X.K A L H0 f)
def An(X:Cx)(A L:hZ)(H0:Hp)(st:List Stmt)(f:FS):Prop:=PSs X st (tS X.K A L H0 f)
noncomputable def gL:FS:=fun δ=>some (.nx δ)
noncomputable def gn(f g:FS):FS:=fun δ=>(f δ).bind fun o=>match o with
 | .nx δ1=>g δ1
 |o=>some o
noncomputable def jB(f:F):FS:=fun δ=>(f δ).bind fun p=>some (.nx p.2)
noncomputable def jJ(f:F):FS:=fun δ=>(f δ).bind fun p=>some (.rt p.1 p.2)
noncomputable def pH(i:Nat):FS:=fun δ=>match δ[i]? with
 |some (some (d,true))=>some (.rt (d,true) (δ.set i none))
 |some (some (d,false))=>some (.rt (d,false) δ)
 |_=>none
noncomputable def sIf(t:FT)(f g:FS):FS:=fun δ=>(t δ).bind fun p=>if p.1=true then f p.2 else g p.2
noncomputable def iW(i:Nat)(f:F):FS:=fun δ=>(f δ).bind fun p=>if i<p.2.length then some (.nx (p.2.set i (some p.1))) else none
section
variable {X:Cx}{A L:hZ}{H0:Hp}{st:Stmt}{cK:List Stmt}{f g:FS}{fe:F}{ft:FT}{e c:gf}{pos:Pos}
theorem PS.imp'(h:PS X st t)(k: ∀D σ H,t' D σ H->t D σ H):PS X st t':=fun pins s σ H D I hw=>h pins s σ H D I (k D σ H hw)
theorem PSs.imp'(h:PSs X cK t)(k: ∀D σ H,t' D σ H->t D σ H):PSs X cK t':=fun pins s σ H D I hw=>h pins s σ H D I (k D σ H hw)
theorem Iy:An X A L H0 [] gL:=PSs.imp' Ll fun D σ H hw=>by
 obtain⟨δ,T,out,E,fi,e,k⟩:=hw;cases e;exact k σ H .refl E
theorem FV(h1:PSX X A L H0 st f)(h2:An X A L H0 cK g):An X A L H0 (st::cK) (gn f g):=PSs.imp' (Iz h1 h2) fun D σ H hw=>by
 obtain⟨δ,T,out,E,fi,e,k⟩:=hw;obtain⟨o,h3,e⟩:=fU e;refine⟨δ,T,o,E,fi,h3,?_⟩
 cases o with
 |nx δ1=>
  intro σ1 H1 K1 E1;refine⟨δ1,T,out,E1,fi.step K1,e,?_⟩
  cases out with
  |nx δ2=>exact fun σ2 H2 K2 E2=>k σ2 H2 (K1.trans K2) E2
  |bk δ2=>exact fun σ2 H2 K2 E2=>k σ2 H2 (K1.trans K2) E2
  |ct δ2=>exact fun σ2 H2 K2 E2=>k σ2 H2 (K1.trans K2) E2
  |rt r δ2=>exact fun v σ2 H2 K2 R2=>k v σ2 H2 (K1.trans K2) R2
 |rt r δ1=>cases e;exact k
 |bk δ1=>cases e;exact k
 |ct δ1=>cases e;exact k
theorem Iv(h:PX X e fe)(hs:swapsWith e none pos.line X.env=pure false):PSX X A L H0 (.Expr e pos) (jB fe):=PS.imp' (Lm h hs) fun D σ H hw=>by
 obtain⟨δ,T,out,E,fi,e,k⟩:=hw;obtain⟨p,h3,e⟩:=fU e;cases e;exact⟨δ,T,p.1,p.2,E,h3,fun v H1 P=>k σ H1 P.1.sk (P.rep E).1⟩
theorem Lj(h:PX X e fe):PSX X A L H0 (.Return (some e) pos) (jJ fe):=PS.imp' (IB h) fun D σ H hw=>by
 obtain⟨δ,T,out,E,fi,e,k⟩:=hw;obtain⟨p,h3,e⟩:=fU e;cases e;refine⟨δ,T,p.1,p.2,E,h3,fun v H1 P=>k v σ H1 P.1.sk ?_⟩;obtain⟨⟨d,o⟩,δ1⟩:=p
 cases o with
 |false=>exact P.2
 |true=>
  obtain⟨q,h1,h2,h3⟩:=P.2;exact⟨q,h1,fi.fresh h2,h3⟩
theorem NA(hc:PTX X c ft)(ha:An X A L H0 a f)(hb:An X A L H0 b g):PSX X A L H0 (.If c a b pos) (sIf ft f g):=PS.imp' (Py hc ha hb) fun D σ H hw=>by
 obtain⟨δ,T,out,E,fi,e,k⟩:=hw;obtain⟨⟨c,δ1⟩,h1,e⟩:=fU e;refine⟨δ,T,c,δ1,E,h1,fun H1 K1 E1=>?_⟩;have dM:SK A σ δ H σ δ1 H1:=K1.sk
 have fin: ∀(h:FS),h δ1=some out->tS X.K A L H0 h D σ H1:=fun h he=>by
  refine⟨δ1,T,out,E1,fi.step dM,he,?_⟩
  cases out with
  |nx δ2=>exact fun σ2 H2 K2 E2=>k σ2 H2 (dM.trans K2) E2
  |bk δ2=>exact fun σ2 H2 K2 E2=>k σ2 H2 (dM.trans K2) E2
  |ct δ2=>exact fun σ2 H2 K2 E2=>k σ2 H2 (dM.trans K2) E2
  |rt r δ2=>exact fun v σ2 H2 K2 R2=>k v σ2 H2 (dM.trans K2) R2
 cases c with
 |true=>rw[gh rfl] at e;exact(show(if true=true then tS X.K A L H0 f D σ H1 else _) from by rw[gh rfl];exact fin f e)
 |false=>rw[gk iB] at e;exact(show(if false=true then _ else tS X.K A L H0 g D σ H1) from by rw[gk iB];exact fin g e)
end
theorem jz{α:Type}{l:List α}{i j:Nat}{x y:α}(h:(l.set i x)[j]?=some y):(i=j/\i<l.length/\y=x)\/(i≠j/\l[j]?=some y):=by
 rw[yZ] at h;split at h
 ·rename_i n9;split at h
  ·rename_i hl;exact .inl ⟨n9,hl,(hV h).symm⟩
  ·cases h
 ·rename_i n9;exact .inr ⟨n9,h⟩
section
variable {K:gu}{T:AP'}{σ:L2.St}{δ δ1:Dn}{H H1:Hp}{x:D×Bool}{v:V}{i:Nat}
theorem OwnI.store{j:Nat}{a:fV}(h:OwnI (σ.set i (some v)) (δ.set i (some x)) j a):(i≠j/\OwnI σ δ j a)\/(i=j/\x.2=true/\v= .ref a):=by
 obtain⟨d,h1,h2⟩:=h;rcases jz h1 with⟨e,_,q⟩|⟨ne,q⟩
 ·rcases jz h2 with⟨_,_,q2⟩|⟨ne2,_⟩
  ·right;cases q;exact⟨e,rfl,(hV q2).symm⟩
  ·exact absurd e ne2
 ·rcases jz h2 with⟨e2,_,_⟩|⟨_,q2⟩
  ·exact absurd e2 ne
  ·exact .inl ⟨ne,d,q,q2⟩
theorem OwnA.store(h:OwnA (σ.set i (some v)) (δ.set i (some x)) a):OwnA σ δ a\/(x.2=true/\v= .ref a):=by
 obtain⟨j,d,h1,h2⟩:=h;rcases OwnI.store ⟨d,h1,h2⟩ with⟨_,e,h3,h4⟩|⟨_,h3⟩
 ·exact .inl ⟨j,e,h3,h4⟩
 ·exact .inr h3
theorem ER.store(E1:ER K H1 (Tmp T x v) σ δ1)(hi:i<δ1.length)(hx:match x with|(d,false)=>Rep K H1 (fun a=>OwnA σ δ1 a\/T a) d v|(d,true)=> ∃p,v= .ref p/\ ¬T p/\OwnOk K H1 (fun a=>OwnA σ δ1 a\/T a\/a=p) d p):
  ER K H1 T (σ.set i (some v)) (δ1.set i (some x)):=by
 have hσ:i<σ.length:=by rw[E1.len];exact hi
 have sub: ∀b,H1 b≠none->(OwnA (σ.set i (some v)) (δ1.set i (some x)) b\/T b)->(OwnA σ δ1 b\/Tmp T x v b):=fun b _ z=>by
  rcases z with z|z
  ·rcases z.store with z|z
   ·exact .inl z
   ·exact .inr (.inr z)
  ·exact .inr (.inl z)
 refine⟨by rw[qc,qc];exact E1.len,fun j d hj=>?_,fun j d hj=>?_,fun j k d e a hj hk h1 h2=>?_,fun a z=>?_,fun a z=>E1.dom a (.inl z)⟩
 ·rcases jz hj with⟨rfl,_,q⟩|⟨ne,q⟩
  ·have q:=hV q;subst q
   exact⟨v,oy hσ,Rep.mono (fun _ _ e _=>e) (fun b hb z=>by
    rcases z with z|z
    ·rcases z.store with z|z
     ·exact .inl z
     ·exact absurd z.1 (by simp)
    ·exact .inr z) hx⟩
  ·obtain⟨w,h1,h2⟩:=E1.val j d q;exact⟨w,by rw[qg ne];exact h1,Rep.mono (fun _ _ e _=>e) sub h2⟩
 ·rcases jz hj with⟨rfl,_,q⟩|⟨ne,q⟩
  ·have q:=hV q;subst q;obtain⟨p,rfl,np,ok⟩:=hx;refine⟨p,oy hσ,ok.mono (fun _ _ e _=>e) (fun b hb z=>?_) fun _ e=>e⟩;rcases z with z|z
   ·rcases z.store with z|z
    ·exact .inl z
    ·have:=z.2;cases this;exact .inr (.inr rfl)
   ·exact .inr (.inl z)
  ·obtain⟨a,h1,h2⟩:=E1.own j d q;exact⟨a,by rw[qg ne];exact h1,h2.mono (fun _ _ e _=>e) sub fun _ e=>e⟩
 ·rcases OwnI.store ⟨d,hj,h1⟩ with⟨n1,d',g1,g2⟩|⟨e1,g1,g2⟩
  ·rcases OwnI.store ⟨e,hk,h2⟩ with⟨n2,e',g3,g4⟩|⟨e2,g3,g4⟩
   ·exact E1.inj j k d' e' a g1 g3 g2 g4
   ·exact absurd (Or.inr ⟨g3,g4⟩) (E1.nT a ⟨j,d',g1,g2⟩)
  ·rcases OwnI.store ⟨e,hk,h2⟩ with⟨n2,e',g3,g4⟩|⟨e2,g3,g4⟩
   ·exact absurd (Or.inr ⟨g1,g2⟩) (E1.nT a ⟨k,e',g3,g4⟩)
   ·exact e1.symm.trans e2
 ·rcases z.store with z|z
  ·exact fun t=>E1.nT a z (.inl t)
  ·obtain⟨d,b⟩:=x
   cases b with
   |false=>exact absurd z.1 (by simp)
   |true=>
    obtain⟨p,rfl,np,_⟩:=hx;have:=z.2;cases this;exact np
theorem SK.store(k:Keep σ δ H δ1 H1)(ha:A i)(hp:x.2=true-> ∀p,v= .ref p->H p=none):SK A σ δ H (σ.set i (some v)) (δ1.set i (some x)) H1 where
 kp:=k.kp
 owi:=fun j a z=>by
  rcases z.store with⟨_,z⟩|⟨_,z1,z2⟩
  ·exact .inl (k.owi j a z)
  ·exact .inr (hp z1 a z2)
 dm:=k.dm
 as:=fun j hj=>qg (fun(e:i=j)=>hj (by subst e;exact ha))
end
section
variable {X:Cx}{A L:hZ}{H0:Hp}{fe:F}{e c:gf}{pos pos':Pos}
theorem AI{K:gu}{T:AP'}{σ:L2.St}{δ δ1:Dn}{H H1:Hp}{r:D×Bool}{v:V}{i:Nat}(E:ER K H T σ δ)(P:Post K T σ δ H r δ1 v H1)(hi:i<δ1.length)(ha:A i):
  SK A σ δ H (σ.set i (some v)) (δ1.set i (some r)) H1/\ER K H1 T (σ.set i (some v)) (δ1.set i (some r)):=by
 have hp:r.2=true-> ∀p,v= .ref p->H p=none:=fun h p hv=>by
  obtain⟨d,o⟩:=r
  cases o with
  |false=>cases h
  |true=>obtain⟨q,h1,h2,_⟩:=P.2;rw[hv] at h1;cases h1;exact h2
 refine⟨SK.store P.1 ha hp,ER.store (P.er E) hi ?_⟩;obtain⟨d,o⟩:=r
 cases o with
 |false=>exact P.2.2
 |true=>
  obtain⟨p,rfl,h2,h3,h4⟩:=P.2;exact⟨p,rfl,fun z=>(E.dom p z).ne h2,h4⟩
theorem Li{i:Nat}{x:Str}(hN:X.N.Nodup)(hi:X.N[i]?=some x)(hx:Loc X.env.scope x)(he:PX X e fe)(hs:swapsWith e (some (.Name x pos')) pos.line X.env=pure false)(hf:X.fn x=true\/X.env.scope.names.lookup x=some .local)(ha:A i):
  PSX X A L H0 (.Assign [.Name x pos'] e pos) (iW i fe):=PS.imp' (NB hN hi hx he hs hf) fun D σ H hw=>by
 obtain⟨δ,T,out,E,fi,e,k⟩:=hw;obtain⟨⟨r,δ1⟩,h3,e⟩:=fU e;obtain⟨hi,rfl⟩:=gM e;refine⟨δ,T,r,δ1,E,h3,fun v H1 P=>?_⟩;obtain⟨h1,h2⟩:=AI (A:=A) E P hi ha;exact k _ H1 h1 h2
theorem De{i:Nat}{x:Str}(hN:X.N[i]?=some x)(hv:Vis X.env.scope x)(hd:(x==("__debug__":Str))=false)(u7:(x==("__classdict__":Str))=false)(hl: ¬L i):PSX X A L H0 (.Return (some (.Name x pos')) pos) (pH i):=PS.imp' (IB (Dh hN hv hd u7)) fun D σ H hw=>by
 obtain⟨δ,T,out,E,fi,e,k⟩:=hw;unfold pH at e
 cases hi:δ[i]? with
 |none=>rw[hi] at e;cases e
 |some q=>
  cases q with
  |none=>rw[hi] at e;cases e
  |some p=>
   obtain⟨d,b⟩:=p;have hil:i<δ.length:=(qR.mp hi).1
   cases b with
   |false=>
    rw[hi] at e;cases e;obtain⟨v,h1,h2⟩:=E.val i d hi;exact⟨v,h1,k v σ H .refl ⟨E,h2⟩⟩
   |true=>
    rw[hi] at e;cases e;obtain⟨a,h1,h2⟩:=E.own i d hi
    have gone: ∀j b,OwnI σ (δ.set i none) j b->i≠j/\OwnI σ δ j b:=fun j b ⟨d',g1,g2⟩=>by
     rcases jz g1 with⟨_,_,q⟩|⟨ne,q⟩
     ·cases q
     ·exact⟨ne,d',q,g2⟩
    have goneA: ∀b,OwnA σ (δ.set i none) b->OwnA σ δ b/\b≠a:=fun b ⟨j,d',g1,g2⟩=>by
     obtain⟨ne,d2,g3,g4⟩:=gone j b ⟨d',g1,g2⟩;exact⟨⟨j,d2,g3,g4⟩,fun z=>ne (by subst z;exact E.inj i j d d2 _ hi g3 h1 g4)⟩
    have ha:OwnA σ δ a:=⟨i,d,hi,h1⟩
    have sub: ∀b,H b≠none->(OwnA σ (δ.set i none) b\/(T b\/b=a))->(OwnA σ δ b\/T b):=fun b _ z=>by
     rcases z with z|z|z
     ·exact .inl (goneA b z).1
     ·exact .inr z
     ·subst z;exact .inl ha
    refine⟨.ref a,h1,k (.ref a) σ H ⟨fun _ _ e _=>e,fun j b z=> .inl (gone j b z).2,fun _ z=>z,fun _ _=>rfl⟩ ⟨a,rfl,?_,?_,h2.mono (fun _ _ e _=>e) sub fun _ e=>e⟩⟩
    ·rcases fi.ow i a ⟨d,hi,h1⟩ with z|z
     ·exact absurd z hl
     ·exact z
    ·refine⟨by rw[qc];exact E.len,fun j d' hj=>?_,fun j d' hj=>?_,fun j k d' e' b hj hk g1 g2=>?_,fun b z t=>?_,fun b z=>?_⟩
     ·rcases jz hj with⟨_,_,q⟩|⟨ne,q⟩
      ·cases q
      ·obtain⟨w,w1,w2⟩:=E.val j d' q;exact⟨w,w1,Rep.mono (fun _ _ e _=>e) sub w2⟩
     ·rcases jz hj with⟨_,_,q⟩|⟨ne,q⟩
      ·cases q
      ·obtain⟨w,w1,w2⟩:=E.own j d' q;exact⟨w,w1,w2.mono (fun _ _ e _=>e) sub fun _ e=>e⟩
     ·obtain⟨_,d2,q1,q2⟩:=gone j b ⟨d',hj,g1⟩;obtain⟨_,d3,q3,q4⟩:=gone k b ⟨e',hk,g2⟩;exact E.inj j k d2 d3 b q1 q3 q2 q4
     ·obtain⟨z1,z2⟩:=goneA b z;rcases t with t|t
      ·exact E.nT b z1 t
      ·exact z2 t
     ·rcases z with z|z
      ·exact E.dom b z
      ·subst z;exact E.ownOw ha
end
abbrev Tg:=D->Dn->Option Dn
def tG(K:gu)(A:hZ)(tg:Tg):TG:=fun v σ H Q=> ∃δ T d δ',ER K H T σ δ/\Rep K H (fun a=>OwnA σ δ a\/T a) d v/\tg d δ=some δ'/\ ∀σ',SK A σ δ H σ' δ' H->ER K H T σ' δ'->Q σ' H
def PGX(X:Cx)(A:hZ)(e:gf)(tg:Tg):Prop:=PG X e (tG X.K A tg)
noncomputable def gB(i:Nat):Tg:=fun d δ=>if i<δ.length then some (δ.set i (some (d,false))) else none
noncomputable def El:List Tg->List D->Dn->Option Dn
 |[],[],δ=>some δ
 |t::ts,d::ds,δ=>(t d δ).bind (El ts ds)
 |_,_,_=>none
noncomputable def vG(ts:List Tg):Tg
 | .tup ds,δ=>El ts ds δ
 |_,_=>none
def tGs(K:gu)(A:hZ)(ts:List Tg):TGs:=fun vs σ H Q=> ∃δ T ds δ',ER K H T σ δ/\RepL K H (fun a=>OwnA σ δ a\/T a) ds vs/\El ts ds δ=some δ'/\ ∀σ',SK A σ δ H σ' δ' H->ER K H T σ' δ'->Q σ' H
section
variable {X:Cx}{A:hZ}{pos:Pos}{e:gf}{es:iF}{t:Tg}{ts:List Tg}
theorem PG.imp'{t t':TG}(h:PG X e t)(k: ∀v σ H Q,t' v σ H Q->t v σ H Q):PG X e t':=fun pins s σ H v u Q I r hw=>h pins s σ H v u Q I r (k v σ H Q hw)
theorem PGs.imp'{t t':TGs}(h:PGs X es t)(k: ∀v σ H Q,t' v σ H Q->t v σ H Q):PGs X es t':=fun pins s σ H v u Q I r hw=>h pins s σ H v u Q I r (k v σ H Q hw)
theorem IL{i:Nat}{x:Str}(hN:X.N.Nodup)(hi:X.N[i]?=some x)(hx:Loc X.env.scope x)(hf:X.fn x=true\/X.env.scope.names.lookup x=some .local)(ha:A i):PGX X A (.Name x pos) (gB i):=PG.imp' (Lv hN hi hx hf) fun v σ H Q hw=>by
 obtain⟨δ,T,d,δ',E,r,e,k⟩:=hw;obtain⟨hi,rfl⟩:=gM e;obtain⟨h1,h2⟩:=AI (A:=A) (r:=(d,false)) (v:=v) E (Post.val .refl E r) hi ha;exact k _ h1 h2
theorem IM:PGs X [] (tGs X.K A []):=PGs.imp' Lu fun v σ H Q hw=>by
 obtain⟨δ,T,ds,δ',E,r,e,k⟩:=hw
 cases ds with
 |nil=>
  cases e;rw[RepL] at r;exact⟨r,k σ .refl E⟩
 |cons _ _=>cases e
theorem xR(h1:PGX X A e t)(h2:PGs X es (tGs X.K A ts))(hs:(assignEach (e::es) X.env).map (·.2)=assign e X.env::(assignEach es X.env).map (·.2)):PGs X (e::es) (tGs X.K A (t::ts)):=PGs.imp' (IP h1 h2 hs) fun v σ H Q hw=>by
 obtain⟨δ,T,ds,δ',E,r,e,k⟩:=hw
 cases ds with
 |nil=>cases e
 |cons d ds=>
  rw[RepL] at r;obtain⟨v1,vr,rfl,r1,r2⟩:=r;obtain⟨δ1,h3,e⟩:=fU e;refine⟨v1,vr,rfl,δ,T,d,δ1,E,r1,h3,fun σ1 K1 E1=>⟨δ1,T,ds,δ',E1,?_,e,fun σ2 K2 E2=>k σ2 (K1.trans K2) E2⟩⟩;exact RepL.mono (fun _ _ e _=>e) (fun b hb z=>z.elim (fun z=>(K1.ow b z).elim Or.inl fun z=>absurd z hb) Or.inr) r2
theorem Ls{k:Nat}(hc:X.calm=true)(h:PGs X es (tGs X.K A ts)){n:Nat}(hn:(assignEach es X.env).length=n)(hl:ts.length=n)(q0:(assignEach es X.env).findIdx? (·.1)=none):PGX X A (.Tuple es k pos) (vG ts):=PG.imp' (NI hc h hn q0) fun v σ H Q hw=>by
 obtain⟨δ,T,d,δ',E,r,e,k⟩:=hw
 cases d with
 |tup ds=>
  obtain⟨a,xs,rfl,q,rr⟩:=r.tup;refine⟨a,xs,rfl,q.sq,?_,δ,T,ds,δ',E,rr,e,k⟩
  have: ∀(ts:List Tg) (ds:List D) (δ:Dn),El ts ds δ=some δ'->ds.length=ts.length:=by
   intro ts
   induction ts with
   |nil=>intro ds δ h;cases ds with|nil=>rfl|cons _ _=>cases h
   |cons t ts ih=>
    intro ds δ h
    cases ds with
    |nil=>cases h
    |cons d ds=>obtain⟨δ1,_,h⟩:=fU h;simp[ih ds δ1 h]
  rw[rr.length,this ts ds δ e,hl]
 |_=>cases e
end
abbrev SB:=Nat->Prop
def OwB(B:SB)(T:AP')(σ:L2.St)(δ:Dn):AP':=fun a=>(∃i,¬B i/\OwnI σ δ i a)\/T a
theorem OwB.own(h:OwB B T σ δ a):OwnA σ δ a\/T a:=h.imp (fun⟨i,_,d,h1,h2⟩=>⟨i,d,h1,h2⟩) id
structure ItOk(K:gu)(J:It)(ds:List D)(P O:AP')(H1:Hp):Prop where
 go: ∀(i:Nat) d Hi,ds[i]?=some d->(∀a o,H1 a=some o-> ¬P a->Hi a=some o)->J.go i Hi/\ ∀x H',J.yld i Hi x H'->(∀a o,Hi a=some o->H' a=some o)/\
  ∀O':AP',(∀b,H1 b≠none->O' b->O b)->(∀b,Hi b=none-> ¬O' b)->Rep K H' O' d x
 stop: ∀(i:Nat) Hi,ds.length<=i->(∀a o,H1 a=some o-> ¬P a->Hi a=some o)->J.stop i Hi
abbrev FIt:=Dn->Option (List D×Dn)
def tI(K:gu)(B:SB)(fi:FIt):TI:=fun σ H R=> ∃δ T ds δ',ER K H T σ δ/\fi δ=some (ds,δ')/\ ∀J H',Keep σ δ H δ' H'->ER K H' T σ δ'->ItOk K J ds (OwB B T σ δ') (fun a=>OwnA σ δ' a\/T a) H'->R J H'
def PIX(X:Cx)(B:SB)(tg iter:gf)(fi:FIt):Prop:=PI X tg iter (tI X.K B fi)
noncomputable def xK:D->Option (List D)
 | .tup l=>some l
 | .lst l=>some l
 |_=>none
noncomputable def DD(f:FO):FIt:=fun δ=>(f δ).bind fun p=>(res p.2 p.1).bind fun d=>(xK d).bind fun l=>some (l,p.2)
noncomputable def kD(f:F):FIt:=fun δ=>(f δ).bind fun p=>match p.1.1 with
 | .lst l=>some (l,p.2)
 | .tup l=>some (l,p.2)
 |_=>none
noncomputable def iA(lo:Int)(n:Nat):List D:=(List.range n).map fun(k:Nat)=> .int (lo+k)
noncomputable def zM(f:FO):FIt:=fun δ=>(iL [f] δ).bind fun p=>match rM p.2 p.1 with
 |some [.int j]=>if -(2^62)<=j/\j<2^62 then some (iA 0 j.toNat,p.2) else none
 |_=>none
def SlB(B:SB)(f:FO):Prop:= ∀δ i δ',f δ=some (.slot i,δ')->B i
theorem Ky:SlB B (gc f):=fun δ i δ' h=>by
 obtain⟨p,_,h⟩:=fU h;cases h
theorem Es(h:B i):SlB B (fZ i):=fun δ j δ' e=>by
 unfold fZ at e;split at e<;>cases e
 exact h
noncomputable def isL:D->Bool
 | .lst _=>true
 |_=>false
def SqA(b:Bool)(K:gu)(H:Hp)(P:AP')(a:fV)(xs:List V):Prop:=if b=true then SqLO K H P a xs else SqTO K H P a xs
theorem SqA.mono{K H H'}{P P':AP'}(q:SqA b K H P a xs)(k: ∀b o,H b=some o-> ¬P b->H' b=some o)(hP: ∀b,P' b->P b):SqA b K H' P' a xs:=by
 cases b with
 |true=>exact SqLO.mono q k fun b _=>hP b
 |false=>exact SqTO.mono (K:=K) q k fun b _=>hP b
theorem SqA.l{K H}(q:SqA true K H P a xs):SqL K H a xs:=SqLO.sq q
theorem SqA.t{K H}(q:SqA false K H P a xs):SqT K H a xs:=SqTO.sq (K:=K) q
theorem FG{K H}(h:xK d=some l)(r:Rep K H O d v): ∃a xs,v= .ref a/\SqA (isL d) K H O a xs/\RepL K H O l xs:=by
 cases d with
 |tup m=>cases h;obtain⟨a,xs,rfl,q,rr⟩:=r.tup;exact⟨a,xs,rfl,q,rr⟩
 |lst m=>cases h;obtain⟨a,xs,rfl,q,rr⟩:=r.lst;exact⟨a,xs,rfl,q,rr⟩
 |_=>cases h
theorem Ops.seq{K:gu}{T T':AP'}{σ:L2.St}{δ δ':Dn}{H H':Hp}{os:List Opd}{vs:List V}(E:ER K H T σ δ)(W:Ops K T σ δ H os vs δ' H' T'){j:Nat}(h1:os[j]?=some o)(h2:vs[j]?=some v)(hr:res δ' o=some d)(hs:xK d=some l)(hB: ∀i,o= .slot i->B i):
  ∃a xs,v= .ref a/\SqA (isL d) K H' (OwB B T σ δ') a xs/\RepL K H' (fun a=>OwnA σ δ' a\/T a) l xs:=by
 have fin:Rep K H' (fun a=>OwnA σ δ' a\/T a) d v-> ∃a xs,v= .ref a/\SqA (isL d) K H' (OwB B T σ δ') a xs/\RepL K H' (fun a=>OwnA σ δ' a\/T a) l xs:=fun r=>by
  obtain⟨a,xs,rfl,q,rr⟩:=FG hs r;exact⟨a,xs,rfl,q.mono (fun _ _ e _=>e) fun a z=>z.own,rr⟩
 cases o with
 |val r=>cases hr;exact fin (W.rep E h1 h2)
 |slot i=>
  have hk:=W.slt j i _ h1 h2
  have hd: ∃f,δ'[i]?=some (some (d,f)):=by
   unfold res at hr;dsimp only at hr;split at hr<;>cases hr
   exact⟨_,by assumption⟩
  obtain⟨f,hd⟩:=hd
  cases f with
  |false=>
   obtain⟨w,e1,e2⟩:=W.er.val i _ hd;rw[hk] at e1;cases e1;exact fin (Rep.mono (fun _ _ e _=>e) (fun b _ z=>z.imp id (W.tt b)) e2)
  |true=>
   obtain⟨a,e1,ok⟩:=W.er.own i _ hd;rw[hk] at e1;cases e1
   cases d with
   |lst m=>
    cases hs;obtain⟨xs,e,rr⟩:=ok;exact⟨a,xs,rfl,.inl ⟨.inl e,fun z=>z.elim (fun⟨k,nb,d',g1,g2⟩=>nb (W.er.inj i k _ _ a hd g1 hk g2▸hB i rfl)) fun z=>W.er.nT a ⟨i,_,hd,hk⟩ (W.tt a z)⟩,RepL.mono (fun _ _ e _=>e) (fun b _ z=>z.imp id (W.tt b)) rr⟩
   |tup m=>exact ok.elim
   |_=>cases hs
section
variable {X:Cx}{B:SB}{tg e:gf}{f:F}{fo:FO}{pos p:Pos}
theorem PI.imp'(h:PI X tg e t)(k: ∀σ H R,t' σ H R->t σ H R):PI X tg e t':=fun pins s σ H R I hw=>h pins s σ H R I (k σ H R hw)
theorem PI.or(h:PI X tg e t)(h':PI X tg e t'):PI X tg e (fun σ H R=>t σ H R\/t' σ H R):=fun pins s σ H R I hw=>hw.elim (h pins s σ H R I) (h' pins s σ H R I)
noncomputable def ItS(b:Bool)(K:gu)(a:fV):It:=if b=true then Itl K a else Itt K a
theorem JE{K:gu}{P O:AP'}{H1:Hp}{a:fV}{xs:List V}{l:List D}(q:SqA b K H1 P a xs)(r:RepL K H1 O l xs)(hP: ∀a,P a->O a):ItOk K (ItS b K a) l P O H1:=by
 cases b<;>(
  refine⟨fun i d Hi hd hp=>?_,fun i Hi hi hp=>?_⟩
  ·have q2:=SqA.mono q hp fun _ z=>z
   first|replace q2:=q2.l|replace q2:=q2.t
   obtain⟨x,hx,rx⟩:=r.get hd;refine⟨⟨xs,x,q2,hx⟩,fun y H' hy=>?_⟩;obtain⟨rfl,hy⟩:=hy;have:=hy xs q2;rw[hx] at this;cases this;exact⟨fun _ _ e=>e,fun O' h1 h2=>Rep.mono (fun b o e n=>hp b o e fun z=>n (hP b z)) h1 rx⟩
  ·exact⟨xs,by first|exact(SqA.mono q hp fun _ z=>z).l|exact(SqA.mono q hp fun _ z=>z).t,by rw[r.length];exact hi⟩)
theorem DE{K:gu}{P O:AP'}{H1:Hp}(lo:Int)(n:Nat):ItOk K (Itr lo n) (iA lo n) P O H1:=by
 refine⟨fun i d Hi hd hp=>?_,fun i Hi hi hp=>?_⟩
 ·unfold iA at hd;rw[iN] at hd;obtain⟨k,h1,h2⟩:=hG hd;have hi:i<n:=by have:=(qR.mp h1).1;simpa using this
  have hk:k=i:=by rw[List.getElem?_range hi] at h1;exact(hV h1).symm
  subst hk;refine⟨hi,fun y H' hy=>?_⟩;obtain⟨rfl,rfl⟩:=hy;refine⟨fun _ _ e=>e,fun O' _ _=>?_⟩;rw[<-h2];exact Rep.mkInt
 ·unfold iA at hi;have:n<=i:=by simpa using hi
  exact this
theorem IH(h:PO X e fo)(hB:SlB B fo):PIX X B tg e (DD fo):=PI.imp' (PI.or (Lr (tg:=tg) h) (NH h)) fun σ H R hw=>by
 obtain⟨δ,T,ds,δ',E,e,k⟩:=hw;obtain⟨⟨o,δ1⟩,h1,e⟩:=fU e;obtain⟨d,h2,e⟩:=fU e;obtain⟨l,h3,e⟩:=fU e;obtain⟨rfl,rfl⟩:=gq e
 have key: ∀v H1,PostO X.K T σ δ H o δ1 v H1-> ∃a xs,v= .ref a/\SqA (isL d) X.K H1 (OwB B T σ δ1) a xs/\R (ItS (isL d) X.K a) H1:=fun v H1 P=>by
  have W:=Ops.cons E P (Ops.nil (P.er E));obtain⟨a,xs,rfl,q,rr⟩:=W.seq E (j:=0) rfl rfl h2 h3 fun i hi=>hB _ _ _ (hi▸h1);exact⟨a,xs,rfl,q,k _ H1 W.keep (W.er.mono (fun _ _ e _=>e) (fun b _ z=>W.tt b z) (fun a z=>W.er.dom a (W.tt a z))) (JE q rr fun a z=>z.own)⟩
 cases d with
 |lst m=>exact .inl ⟨δ,T,_,_,E,h1,fun v H1 P=>let⟨a,xs,e,q,r⟩:=key v H1 P;⟨a,e,⟨xs,q.l⟩,r⟩⟩
 |tup m=>exact .inr ⟨δ,T,_,_,E,h1,fun v H1 P=>let⟨a,xs,e,q,r⟩:=key v H1 P;⟨a,e,⟨xs,q.t⟩,r⟩⟩
 |_=>cases h3
theorem Lp(h:PX X e f):PIX X B tg e (kD f):=PI.imp' (IH (B:=B) (PX.po h) Ky) fun σ H R hw=>by
 have:kD f=DD (gc f):=funext fun δ=>by
  unfold kD DD gc
  cases f δ with
  |none=>rfl
  |some p=>obtain⟨⟨d,o⟩,δ1⟩:=p;cases d<;>rfl
 rwa [this] at hw
end
noncomputable def wA(tg:Tg)(fb:FS):List D->FS
 |[],δ=>some (.nx δ)
 |d::ds,δ=>(tg d δ).bind fun δ1=>(fb δ1).bind fun o=>match o with
  | .nx δ2=>wA tg fb ds δ2
  | .ct δ2=>wA tg fb ds δ2
  | .bk δ2=>some (.nx δ2)
  | .rt r δ2=>some (.rt r δ2)
noncomputable def oO(fi:FIt)(tg:Tg)(fb:FS):FS:=fun δ=>(fi δ).bind fun p=>wA tg fb p.1 p.2
section
variable {X:Cx}{A L:hZ}{H0:Hp}{tg iter:gf}{body:List Stmt}{fi:FIt}{t:Tg}{fb:FS}{pos:Pos}
theorem Lk(hp:PassesOwn (model X.prog X.w) X.A X.env X.xe)(hc:X.calm=true)(hi:PIX X (fun _=>False) tg iter fi)(hg:PGX X A tg t)(hb:An X A L H0 body fb)(hs: ∀x,foldedSetIterable iter X.env x=pure x):
  PSX X A L H0 (.For tg iter body [] pos) (oO fi t fb):=PS.imp' (NC hp hc hi hg hb hs) fun D σ H hw=>by
 obtain⟨δ,T,out,E,fL,e,k⟩:=hw;obtain⟨⟨ds,δ1⟩,h1,e⟩:=fU e;refine⟨δ,T,ds,δ1,E,h1,fun J H1 K1 E1 ok=>?_⟩;have S1:SK A σ δ H σ δ1 H1:=K1.sk;refine⟨fun i m σ' H'=>m=ds.length-i/\i<=ds.length/\ ∃δ',SK A σ δ1 H1 σ' δ' H'/\ER X.K H' T σ' δ'/\wA t fb (ds.drop i) δ'=some out,⟨ds.length,by simp,ku _,δ1,.refl,E1,by simpa using e⟩,?_⟩;rintro i m σ2 H2 ⟨rfl,hle,δ2,S2,E2,e2⟩;have t9: ∀a o,H1 a=some o-> ¬OwB (fun _=>False) T σ δ1 a->H2 a=some o:=fun a o ea n=>S2.kp a o ea fun⟨i,d,z⟩=>n (.inl ⟨i,id,d,z⟩);by_cases i6:i<ds.length
 ·refine .inr ?_;have hd:ds[i]?=some ds[i]:=il i6;obtain⟨go,yl⟩:=ok.go i _ H2 hd t9;rw[rh i6] at e2;obtain⟨δ3,h3,e3⟩:=fU e2;obtain⟨o,h4,e4⟩:=fU e3;refine⟨go,fun σ' H'=> ∃δ',SK A σ δ1 H1 σ' δ' H'/\ER X.K H' T σ' δ'/\wA t fb (ds.drop (i+1)) δ'=some out,fun σ' H' ⟨δ',q1,q2,q3⟩=>⟨ds.length-(i+1),by omega,rfl,i6,δ',q1,q2,q3⟩,fun x H' hy=>?_⟩;obtain⟨ext,rep⟩:=yl x H' hy;have cH:ER X.K H' T σ2 δ2:=E2.mono (fun b ob eb _=>ext b ob eb) (fun _ _ z=>z) (fun a z=>(E2.dom a z).up (ext a));have dJ:SK A σ δ1 H1 σ2 δ2 H':=S2.trans (Keep.ext ext).sk;have rx:=rep (fun a=>OwnA σ2 δ2 a\/T a) (fun b hb z=>z.elim (fun z=>(S2.ow b z).elim Or.inl fun z=>absurd z hb) Or.inr) (fun b hb z=>z.elim (fun z=>E2.ownDom z hb) fun z=>(E2.dom b z).ne hb);refine⟨δ2,T,ds[i],δ3,cH,rx,h3,fun σ3 S3 E3=>?_⟩;have bw:=dJ.trans S3;refine⟨δ3,T,o,E3,(fL.step S1).step bw,h4,?_⟩
  cases o with
  |nx δ4=>exact fun σ4 H4 S4 E4=>⟨δ4,bw.trans S4,E4,e4⟩
  |ct δ4=>exact fun σ4 H4 S4 E4=>⟨δ4,bw.trans S4,E4,e4⟩
  |bk δ4=>cases e4;exact fun σ4 H4 S4 E4=>k σ4 H4 (S1.trans (bw.trans S4)) E4
  |rt r δ4=>cases e4;exact fun v σ4 H4 S4 R4=>k v σ4 H4 (S1.trans (bw.trans S4)) R4
 ·refine .inl ⟨ok.stop i H2 (by omega) t9,?_⟩;rw[sV (by omega)] at e2;cases e2;exact k σ2 H2 (S1.trans S2) E2
end
noncomputable def kg(ft:FT)(fb:FS):Nat->FS
 |0,_=>none
 |n+1,δ=>(ft δ).bind fun p=>if p.1=true then(fb p.2).bind fun o=>(match o with
   | .nx δ2=>kg ft fb n δ2
   | .ct δ2=>kg ft fb n δ2
   | .bk δ2=>some (.nx δ2)
   | .rt r δ2=>some (.rt r δ2)) else some (.nx p.2)
section
variable {X:Cx}{A L:hZ}{H0:Hp}{B:SB}{tg e c a b:gf}{body:List Stmt}{ft:FT}{fb:FS}{fa fo:FO}{pos p:Pos}
theorem FQ{n:Nat}(hp:PassesOwn (model X.prog X.w) X.A X.env X.xe)(hc:PTX X c ft)(hb:An X A L H0 body fb):PSX X A L H0 (.While c body [] pos) (kg ft fb n):=PS.imp' (IA hp hc hb) fun D σ H hw=>by
 obtain⟨δ,T,out,E,fL,e,k⟩:=hw;refine⟨fun m σ' H'=> ∃δ',SK A σ δ H σ' δ' H'/\ER X.K H' T σ' δ'/\kg ft fb m δ'=some out,⟨n,δ,.refl,E,e⟩,?_⟩;rintro m σ2 H2 ⟨δ2,S2,E2,e2⟩
 cases m with
 |zero=>cases e2
 |succ m=>
  obtain⟨⟨c1,δ3⟩,h3,e3⟩:=fU e2;refine⟨δ2,T,c1,δ3,E2,h3,fun H3 K3 E3=>?_⟩;have S3:SK A σ δ H σ2 δ3 H3:=S2.trans K3.sk
  cases c1 with
  |false=>
   rw[gk iB] at e3;cases e3;exact N7 (k σ2 H3 S3 E3)
  |true=>
   rw[gh rfl] at e3;obtain⟨o,h4,e4⟩:=fU e3;refine N6 ⟨fun σ' H'=> ∃δ',SK A σ δ H σ' δ' H'/\ER X.K H' T σ' δ'/\kg ft fb m δ'=some out,fun σ' H' q=>⟨m,oF _,q⟩,δ3,T,o,E3,fL.step S3,h4,?_⟩
   cases o with
   |nx δ4=>exact fun σ4 H4 S4 E4=>⟨δ4,S3.trans S4,E4,e4⟩
   |ct δ4=>exact fun σ4 H4 S4 E4=>⟨δ4,S3.trans S4,E4,e4⟩
   |bk δ4=>cases e4;exact fun σ4 H4 S4 E4=>k σ4 H4 (S3.trans S4) E4
   |rt r δ4=>cases e4;exact fun v σ4 H4 S4 R4=>k v σ4 H4 (S3.trans S4) R4
theorem xy{K:gu}{T T':AP'}{σ:L2.St}{δ δ':Dn}{H H':Hp}{os:List Opd}{vs:List V}{ds:List D}(B:Ops K T σ δ H os vs δ' H' T')(h:rM δ' os=some ds){j:Nat}{i:Int}(hd:ds[j]?=some (.int i)):vs[j]?=some (.int i):=by
 obtain⟨h1,h2⟩:=lT h;obtain⟨o,h3,h4⟩:=h2 j _ hd;have hj:j<vs.length:=by have:=(qR.mp h3).1;have:=B.len;omega
 have hv:vs[j]?=some vs[j]:=il hj;have:=gK (B.view h3 hv h4);rw[hv,this]
theorem Dg(hg:Gl X "range")(hm:X.mg "range"=none)(ha:PA X [a] (tA X.K [fa]))(hs:starEach [a] X.env=[(false,eval a X.env)]):PIX X B tg (.Call (.Name "range" p) [a] [] pos) (zM fa):=PI.imp' (FY hg hm ha hs) fun σ H R hw=>by
 obtain⟨δ,T,ds,δ',E,e,k⟩:=hw;obtain⟨⟨os,δ1⟩,h1,e⟩:=fU e;refine⟨δ,T,os,δ1,E,h1,fun vs H1 T1 B=>?_⟩;dsimp only at e;split at e
 ·rename_i j hj;obtain⟨⟨c1,c2⟩,e⟩:=gM e;obtain⟨rfl,rfl⟩:=oG e;have hv:=xy B hj (j:=0) rfl;obtain⟨hl,_⟩:=lT hj
  have:vs=[.int j]:=by
   have hlen:=B.len
   cases vs with
   |nil=>simp at hv
   |cons v r=>
    cases r with
    |nil=>simp at hv;rw[hv]
    |cons _ _=>simp at hl hlen;omega
  exact⟨j,this,c1,c2,k _ H1 B.keep (B.er.mono (fun _ _ e _=>e) (fun b _ z=>B.tt b z) (fun a z=>B.er.dom a (B.tt a z))) (DE 0 j.toNat)⟩
 ·cases e
end
abbrev EvF:=List (D×Bool)->Option ((D×Bool)×Dn)
def spF(K:gu)(ev:EvF):Sp:=fun vs H Q _=> ∃T args r outs,ER K H T (vs.map some) (args.map some)/\ev args=some (r,outs)/\ ∀v H',Post K T (vs.map some) (args.map some) H r outs v H'->Q v H'
noncomputable def gH(args:List (D×Bool))(δ:Dn):Dn:=args.zipIdx.map fun p=>if p.1.2=true then(δ[p.2]?).join else some p.1
noncomputable def evF(n np:Nat)(asg:gX)(f:FS):EvF:=fun args=>
 if args.length=np/\np<=n/\(args.zipIdx.all fun p=>!(p.1.2&&asg.contains p.2))=true then
  match f (args.map some++List.replicate (n-np) none) with
  |some (.rt r δ)=>some (r,gH args δ)
  |some (.nx δ)=>some ((.non,false),gH args δ)
  |_=>none
 else none
theorem Jb(args:List (D×Bool))(δ:Dn)(i:Nat):(gH args δ)[i]?=args[i]?.map fun x=>if x.2=true then(δ[i]?).join else some x:=by
 unfold gH;rw[iN,Hd]
 cases args[i]? with
 |none=>rfl
 |some x=>simp
theorem mX(h:x.join=some p):x=some (some p):=by
 cases x with
 |none=>cases h
 |some y=>exact nQ some h
section
variable {K:gu}{T:AP'}{A:hZ}{vs:List V}{args:List (D×Bool)}{H H':Hp}{m:Nat}{σ':L2.St}{δ':Dn}{r:D×Bool}{v:V}
theorem Ap{α:Type}{xs:List α}{m i:Nat}{y:α}:(xs.map some++List.replicate m none)[i]?=some (some y)↔xs[i]?=some y:=by
 by_cases h:i<xs.length
 ·rw[vh (by simpa using h),iN];cases xs[i]?<;>simp
 ·rw[tD (by simpa using h)];constructor
  ·intro e;rw[List.getElem?_replicate] at e;split at e<;>cases e
  ·intro e;exact absurd (qR.mp e).1 h
theorem pM{α:Type}{xs:List α}{i:Nat}{y:α}:(xs.map some)[i]?=some (some y)↔xs[i]?=some y:=by
 rw[iN];cases xs[i]?<;>simp
theorem GG{i:Nat}{a:fV}:OwnI (vs.map some++List.replicate m none) (args.map some++List.replicate m none) i a↔OwnI (vs.map some) (args.map some) i a:=by
 unfold OwnI;simp only[Ap,pM]
theorem A9:OwnA σ δ a↔ ∃i,OwnI σ δ i a:=Iff.rfl
theorem F3:OwnA (vs.map some++List.replicate m none) (args.map some++List.replicate m none) a↔OwnA (vs.map some) (args.map some) a:=by
 rw[A9,A9];exact exists_congr fun i=>GG
theorem ER.pad(E:ER K H T (vs.map some) (args.map some)):ER K H T (vs.map some++List.replicate m none) (args.map some++List.replicate m none):=by
 have len:vs.length=args.length:=by simpa using E.len
 refine⟨by simp[len],fun i d h=>?_,fun i d h=>?_,fun i j d e a h1 h2 h3 h4=>?_,fun a z=>E.nT a (F3.mp z),E.dom⟩
 ·obtain⟨w,w1,w2⟩:=E.val i d (pM.mpr (Ap.mp h));exact⟨w,Ap.mpr (pM.mp w1),Rep.mono (fun _ _ e _=>e) (fun b _ z=>z.imp F3.mp id) w2⟩
 ·obtain⟨w,w1,w2⟩:=E.own i d (pM.mpr (Ap.mp h));exact⟨w,Ap.mpr (pM.mp w1),w2.mono (fun _ _ e _=>e) (fun b _ z=>z.imp F3.mp id) fun _ e=>e⟩
 ·exact E.inj i j d e a (pM.mpr (Ap.mp h1)) (pM.mpr (Ap.mp h2)) (pM.mpr (Ap.mp h3)) (pM.mpr (Ap.mp h4))
theorem ED{T':AP'}(E:ER K H T (vs.map some) (args.map some))(S:SK A (vs.map some++List.replicate m none) (args.map some++List.replicate m none) H σ' δ' H')(hA: ∀(i:Nat) d,args[i]?=some (d,true)-> ¬A i)
  (E':ER K H' T' σ' δ')(hT: ∀b,H b≠none->T' b->T b):ER K H' T' (vs.map some) (gH args δ')/\(∀b,OwnA (vs.map some) (gH args δ') b->OwnA σ' δ' b)/\Keep (vs.map some) (args.map some) H (gH args δ') H':=by
 have len:vs.length=args.length:=by simpa using E.len
 have here: ∀(i:Nat) d w,args[i]?=some (d,true)->vs[i]?=some w->σ'[i]?=some (some w):=fun i d w h1 h2=>by
  rw[S.as i (hA i d h1)];exact Ap.mpr h2
 have outI: ∀(i:Nat) d b,(gH args δ')[i]?=some (some (d,b))->(∃e,args[i]?=some (e,true)/\δ'[i]?=some (some (d,b)))\/(b=false/\args[i]?=some (d,false)):=fun i d b h=>by
  rw[Jb] at h;obtain⟨⟨e,c⟩,h1,h2⟩:=hG h
  cases c with
  |true=>
   left;exact⟨e,h1,mX (by simpa using h2)⟩
  |false=>
   right;have:some (e,false)=some (d,b):=by simpa using h2
   cases this;exact⟨rfl,h1⟩
 have ao: ∀i a,OwnI (vs.map some) (gH args δ') i a->OwnI σ' δ' i a/\OwnI (vs.map some) (args.map some) i a:=fun i a ⟨d,h1,h2⟩=>by
  rcases outI i d true h1 with⟨e,h3,h4⟩|⟨z,_⟩
  ·exact⟨⟨d,h4,here i e _ h3 (pM.mp h2)⟩,⟨e,pM.mpr h3,h2⟩⟩
  ·cases z
 have y7: ∀b,OwnA (vs.map some) (gH args δ') b->OwnA σ' δ' b:=fun b ⟨i,d,h1,h2⟩=>by
  obtain⟨⟨e,q1,q2⟩,_⟩:=ao i b ⟨d,h1,h2⟩;exact⟨i,e,q1,q2⟩
 have owA2: ∀b,OwnA (vs.map some) (gH args δ') b->OwnA (vs.map some) (args.map some) b:=fun b ⟨i,d,h1,h2⟩=>by
  obtain⟨_,⟨e,q1,q2⟩⟩:=ao i b ⟨d,h1,h2⟩;exact⟨i,e,q1,q2⟩
 have kp: ∀a o,H a=some o-> ¬OwnA (vs.map some) (args.map some) a->H' a=some o:=fun a o e n=>S.kp a o e fun z=>n (F3.mp z);refine⟨⟨?_,fun i d h=>?_,fun i d h=>?_,fun i j d e a h1 h2 h3 h4=>?_,fun a z=>E'.nT a (y7 a z),E'.dom⟩,y7,⟨kp,fun i a z=>(ao i a z).2,S.dm⟩⟩
 ·simp[gH,len]
 ·have hi:i<vs.length:=by
   have:=(qR.mp h).1;simp[gH] at this;omega
  have hv:vs[i]?=some vs[i]:=il hi;rcases outI i d false h with⟨e,h3,h4⟩|⟨_,h3⟩
  ·obtain⟨w,w1,w2⟩:=E'.val i d h4;rw[here i e _ h3 hv] at w1;cases w1;exact⟨_,pM.mpr hv,Rep.mono (fun _ _ e _=>e) (fun b _ z=>z.imp (y7 b) id) w2⟩
  ·obtain⟨w,w1,w2⟩:=E.val i d (pM.mpr h3);exact⟨w,w1,Rep.mono (fun b o e n=>kp b o e fun z=>n (.inl z)) (fun b hb z=>z.imp (owA2 b) (hT b hb)) w2⟩
 ·have hi:i<vs.length:=by
   have:=(qR.mp h).1;simp[gH] at this;omega
  have hv:vs[i]?=some vs[i]:=il hi;rcases outI i d true h with⟨e,h3,h4⟩|⟨z,_⟩
  ·obtain⟨w,w1,w2⟩:=E'.own i d h4;rw[here i e _ h3 hv] at w1;have w1':vs[i]=V.ref w:=by simpa using w1
   exact⟨w,by rw[<-w1'];exact pM.mpr hv,w2.mono (fun _ _ e _=>e) (fun b _ z=>z.imp (y7 b) id) fun _ e=>e⟩
  ·cases z
 ·obtain⟨_,⟨d1,q1,q2⟩⟩:=ao i a ⟨d,h1,h3⟩;obtain⟨_,⟨d2,q3,q4⟩⟩:=ao j a ⟨e,h2,h4⟩;exact E.inj i j d1 d2 a q1 q3 q2 q4
theorem pS(E:ER K H T (vs.map some) (args.map some))(S:SK A (vs.map some++List.replicate m none) (args.map some++List.replicate m none) H σ' δ' H')(hA: ∀(i:Nat) d,args[i]?=some (d,true)-> ¬A i)
  (R:RV K T H r σ' δ' v H'):Post K T (vs.map some) (args.map some) H r (gH args δ') v H':=by
 obtain⟨d,b⟩:=r
 cases b with
 |false=>
  obtain⟨E',rv⟩:=R;obtain⟨E2,ow,kp⟩:=ED E S hA E' (fun _ _ z=>z);exact⟨kp,E2,Rep.mono (fun _ _ e _=>e) (fun b _ z=>z.imp (ow b) id) rv⟩
 |true=>
  obtain⟨p,rfl,hp,E',ok⟩:=R;obtain⟨E2,ow,kp⟩:=ED E S hA E' (fun b hb z=>z.elim id fun z=>by subst z;exact absurd hp hb);exact⟨kp,p,rfl,hp,E2,ok.mono (fun _ _ e _=>e) (fun b _ z=>z.imp (ow b) id) fun _ e=>e⟩
end
section
variable {P:gw}{w:gm}{K:gu}{mg:ke}{base:gz}{N:gJ}{m:Nat}{asg:gX}{fs:FS}{vs:List V}{H:Hp}{Q:VK}{E:XK}
theorem Kv(h:spF K (evF N.length m asg fs) vs H Q E):vs.length=m:=by
 obtain⟨T,args,r,outs,E0,e,_⟩:=h;unfold evF at e;split at e
 ·rename_i hc;have:=E0.len;simp at this;rw[this];exact hc.1
 ·cases e
theorem MT(h:spF K (evF N.length m asg fs) vs H Q E): ∃L:Nat->Prop,(∀i,L i->i<m)/\tS K (fun i=>i∈asg) L H fs {nx:=fun _ H'=>Q .non H',rt:=Q} (L2.qE N vs) H:=by
 obtain⟨T,args,r,outs,E0,e,kq⟩:=h;unfold evF at e;split at e
 ·rename_i hc;obtain⟨h1,h2,h3⟩:=hc;have hlen:vs.length=args.length:=by simpa using E0.len
  refine⟨fun i=> ∃d,args[i]?=some (d,true),fun i ⟨d,hd⟩=>by have:=(qR.mp hd).1;omega,?_⟩;have q0:L2.qE N vs=vs.map some++List.replicate (N.length-m) none:=by unfold L2.qE;rw[hlen,h1]
  have hA: ∀(i:Nat) d,args[i]?=some (d,true)-> ¬(i∈asg):=fun i d hd hm=>by
   have hz:(args.zipIdx)[i]?=some ((d,true),i):=by rw[Hd,hd];simp
   have:=lC.mp h3 _ (kK hz);simp at this;exact this hm
  rw[q0]
  have fi:FI (fun i=> ∃d,args[i]?=some (d,true)) H (vs.map some++List.replicate (N.length-m) none) (args.map some++List.replicate (N.length-m) none) H:=⟨fun i a z=>by
   obtain⟨d,q1,_⟩:=GG.mp z;exact .inl ⟨d,pM.mp q1⟩,fun _ z=>z⟩
  cases hf:fs (args.map some++List.replicate (N.length-m) none) with
  |none=>rw[hf] at e;cases e
  |some out=>
   rw[hf] at e;refine⟨_,T,out,E0.pad,fi,hf,?_⟩
   cases out with
   |rt r1 δ1=>
    obtain⟨rfl,rfl⟩:=gq e;exact fun v σ' H' S1 R1=>kq v H' (pS E0 S1 hA R1)
   |nx δ1=>
    obtain⟨rfl,rfl⟩:=gq e;exact fun σ' H' S1 E1=>kq .non H' (pS (r:=(.non,false)) E0 S1 hA ⟨E1,Rep.mkNon⟩)
   |bk δ1=>cases e
   |ct δ1=>cases e
 ·cases e
theorem N8{x qual:Str}{st:Stmt}{f:fV}{fd:kI}{ps:gJ}{k:Nat}(F:Fun K x qual st f fd)(S:FnScope N ps (gr st))
  (u9: ∀(f6:gi) (A:gv) (outer:List Env) (s:gb) (H:Hp) (E:XK) (L:hZ),(∀i,L i->i<ps.length)->Room k (A.deeper (envOfC qual (gr st) s.heap.objs.size f f6))->
   An (BC CX0 P w K mg base N qual (gr st) f f6 A outer s H E).nox (fun i=>i∈asg) L H (lJ st) fs):FnOk P w K mg base CX0 (k+1) f fd ps (spF K (evF N.length ps.length asg fs)):=
 F.ok S (fun vs H Q E h=>Kv h) fun f6 A outer s H vs Q E hr h=>let⟨L,h1,h2⟩:=MT h;⟨_,u9 f6 A outer s H E L h1 hr,h2⟩
end
noncomputable def uq(δ:Dn):Opd->Option (D×Bool)
 | .val r=>some (r.1,false)
 | .slot i=>(δ[i]?).join
noncomputable def jk(δ:Dn):List Opd->Option (List (D×Bool))
 |[]=>some []
 |o::os=>(uq δ o).bind fun a=>(jk δ os).bind fun l=>some (a::l)
noncomputable def gE:List Opd->List (D×Bool)->List Nat
 | .slot i::os,(_,true)::as=>i::gE os as
 |_::os,_::as=>gE os as
 |_,_=>[]
noncomputable def wb:List Opd->List (D×Bool)->Dn->Dn->Dn
 | .slot i::os,(_,true)::as,o::outs,δ=>wb os as outs (δ.set i o)
 |_::os,_::as,_::outs,δ=>wb os as outs δ
 |_,_,_,δ=>δ
noncomputable def gx(ev:EvF)(fs:List FO):F:=fun δ=>(iL fs δ).bind fun p=>(jk p.2 p.1).bind fun args=>if(gE p.1 args).Nodup then(ev args).bind fun q=>some (q.1,wb p.1 args q.2 p.2) else none
theorem kR{δ:Dn}: ∀{os:List Opd} {as:List (D×Bool)},jk δ os=some as->as.length=os.length/\ ∀(j:Nat) a,as[j]?=some a-> ∃o,os[j]?=some o/\uq δ o=some a
 |[],as,h=>by cases h;exact⟨rfl,fun j d h=>by simp at h⟩
 |o::os,as,h=>by
  unfold jk at h;obtain⟨d,h1,h⟩:=fU h;obtain⟨l,h2,h⟩:=fU h;cases h;obtain⟨h3,h4⟩:=kR h2;refine⟨by simp[h3],fun j e he=>?_⟩
  cases j with
  |zero=>simp at he;subst he;exact⟨o,rfl,h1⟩
  |succ j=>
   obtain⟨o',q1,q2⟩:=h4 j e (by simpa using he);exact⟨o',by simpa using q1,q2⟩
theorem pK: ∀{os:List Opd} {as:List (D×Bool)} {j i:Nat} {d:D},os[j]?=some (.slot i)->as[j]?=some (d,true)->i∈gE os as
 |[],_,_,_,_,h,_=>by simp at h
 |_::_,[],_,_,_,_,h=>by simp at h
 |o::os,(e,b)::as,0,i,d,h1,h2=>by
  simp at h1 h2;obtain⟨rfl,rfl⟩:=h2;subst h1;simp[gE]
 |o::os,(e,b)::as,j+1,i,d,h1,h2=>by
  have ih:=pK (os:=os) (as:=as) (j:=j) (i:=i) (d:=d) (by simpa using h1) (by simpa using h2)
  cases o with
  |val r=>simpa[gE] using ih
  |slot k=>
   cases b with
   |true=>simp[gE,ih]
   |false=>simpa[gE] using ih
theorem yb: ∀{os:List Opd} {as:List (D×Bool)} {i:Nat},i∈gE os as-> ∃(j:Nat) (d:D),os[j]?=some (.slot i)/\as[j]?=some (d,true)
 |[],_,_,h=>by simp[gE] at h
 |o::_,[],_,h=>by cases o<;>simp[gE] at h
 |o::os,(e,b)::as,i,h=>by
  have bP:i∈gE os as-> ∃(j:Nat) (d:D),(o::os)[j]?=some (.slot i)/\((e,b)::as)[j]?=some (d,true):=fun h=>by
   obtain⟨j,d,h1,h2⟩:=yb h;exact⟨j+1,d,by simpa using h1,by simpa using h2⟩
  cases o with
  |val r=>exact bP (by simpa[gE] using h)
  |slot k=>
   cases b with
   |true=>
    simp[gE] at h;rcases h with rfl|h
    ·exact⟨0,e,rfl,rfl⟩
    ·exact bP h
   |false=>exact bP (by simpa[gE] using h)
theorem yc: ∀{os:List Opd} {as:List (D×Bool)} {j k i:Nat} {d e:D},(gE os as).Nodup->os[j]?=some (.slot i)->as[j]?=some (d,true)->os[k]?=some (.slot i)->as[k]?=some (e,true)->j=k
 |[],_,_,_,_,_,_,_,h,_,_,_=>by simp at h
 |_::_,[],_,_,_,_,_,_,_,h,_,_=>by simp at h
 |o::os,(e0,b)::as,j,k,i,d,e,nd,h1,h2,h3,h4=>by
  cases j with
  |zero=>
   cases k with
   |zero=>rfl
   |succ k=>
    simp at h1 h2;obtain⟨rfl,rfl⟩:=h2;subst h1;have:=pK (os:=os) (as:=as) (j:=k) (by simpa using h3) (by simpa using h4);simp[gE] at nd;exact absurd this nd.1
  |succ j=>
   cases k with
   |zero=>
    simp at h3 h4;obtain⟨rfl,rfl⟩:=h4;subst h3;have:=pK (os:=os) (as:=as) (j:=j) (by simpa using h1) (by simpa using h2);simp[gE] at nd;exact absurd this nd.1
   |succ k=>
    have dk:(gE os as).Nodup:=by
     cases o with
     |val r=>simpa[gE] using nd
     |slot m=>
      cases b with
      |true=>simp[gE] at nd;exact nd.2
      |false=>simpa[gE] using nd
    have:=yc (os:=os) (as:=as) (j:=j) (k:=k) dk (by simpa using h1) (by simpa using h2) (by simpa using h3) (by simpa using h4);omega
theorem vA: ∀{os:List Opd} {as:List (D×Bool)} {outs δ:Dn} {i:Nat},i∉gE os as->(wb os as outs δ)[i]?=δ[i]?
 |[],_,_,_,_,_=>by simp[wb]
 |o::_,[],_,_,_,_=>by cases o<;>simp[wb]
 |o::os,(e,b)::as,[],_,_,_=>by cases o<;>cases b<;>simp[wb]
 |o::os,(e,b)::as,x::outs,δ,i,h=>by
  cases o with
  |val r=>simp only[wb];exact vA (by simpa[gE] using h)
  |slot k=>
   cases b with
   |true=>
    simp[gE] at h;rw[wb,vA h.2,qg (mM h.1)]
   |false=>simp only[wb];exact vA (by simpa[gE] using h)
theorem vB: ∀{os:List Opd} {as:List (D×Bool)} {outs δ:Dn},(wb os as outs δ).length=δ.length
 |[],_,_,_=>by simp[wb]
 |o::_,[],_,_=>by cases o<;>simp[wb]
 |o::os,(e,b)::as,[],_=>by cases o<;>cases b<;>simp[wb]
 |o::os,(e,b)::as,x::outs,δ=>by
  cases o with
  |val r=>simp only[wb];exact vB
  |slot k=>
   cases b with
   |true=>simp only[wb];rw[vB,qc]
   |false=>simp only[wb];exact vB
theorem Ei: ∀{os:List Opd} {as:List (D×Bool)} {outs δ:Dn} {i j:Nat} {d:D} {x:Sl},(gE os as).Nodup->os[j]?=some (.slot i)->as[j]?=some (d,true)->outs[j]?=some x->i<δ.length->(wb os as outs δ)[i]?=some x
 |[],_,_,_,_,_,_,_,_,h,_,_,_=>by simp at h
 |o::_,[],_,_,_,_,_,_,_,_,h,_,_=>by simp at h
 |o::os,(e,b)::as,[],_,_,_,_,_,_,_,_,h,_=>by simp at h
 |o::os,(e,b)::as,y::outs,δ,i,0,d,x,nd,h1,h2,h3,hi=>by
  simp at h1 h2 h3;obtain⟨rfl,rfl⟩:=h2;subst h1;subst h3;simp[gE] at nd;rw[wb,vA nd.1,oy hi]
 |o::os,(e,b)::as,y::outs,δ,i,j+1,d,x,nd,h1,h2,h3,hi=>by
  have dk:(gE os as).Nodup:=by
   cases o with
   |val r=>simpa[gE] using nd
   |slot m=>
    cases b with
    |true=>simp[gE] at nd;exact nd.2
    |false=>simpa[gE] using nd
  cases o with
  |val r=>simp only[wb];exact Ei dk (by simpa using h1) (by simpa using h2) (by simpa using h3) hi
  |slot k=>
   cases b with
   |true=>simp only[wb];exact Ei dk (by simpa using h1) (by simpa using h2) (by simpa using h3) (by rw[qc];exact hi)
   |false=>simp only[wb];exact Ei dk (by simpa using h1) (by simpa using h2) (by simpa using h3) hi
section
variable {K:gu}{T T1:AP'}{σ:L2.St}{δ δ1:Dn}{H H1 H':Hp}{os:List Opd}{vs:List V}{args:List (D×Bool)}{outs:Dn}{r:D×Bool}{v:V}
noncomputable def Tc(T:AP')(σ:L2.St)(δ1:Dn)(vs:List V)(args:List (D×Bool)):AP':=fun a=>T a\/(OwnA σ δ1 a/\ ¬OwnA (vs.map some) (args.map some) a)
theorem rT(B:Ops K T σ δ H os vs δ1 H1 T1)(ha:jk δ1 os=some args){j:Nat}{d:D}(h:args[j]?=some (d,true)): ∃(i:Nat) (a:fV),os[j]?=some (.slot i)/\δ1[i]?=some (some (d,true))/\vs[j]?=some (.ref a)/\σ[i]?=some (some (.ref a)):=by
 obtain⟨hl,hg⟩:=kR ha;obtain⟨o,h1,h2⟩:=hg j _ h
 cases o with
 |val r=>cases h2
 |slot i=>
  have h3:δ1[i]?=some (some (d,true)):=mX h2;have hj:j<vs.length:=by have:=(qR.mp h1).1;have:=B.len;omega
  have hv:vs[j]?=some vs[j]:=il hj;have h4:=B.slt j i _ h1 hv;obtain⟨a,h5,_⟩:=B.er.own i d h3;rw[h4] at h5;have:vs[j]=V.ref a:=by simpa using h5
  exact⟨i,a,h1,h3,by rw[hv,this],by rw[h4,this]⟩
theorem yd(B:Ops K T σ δ H os vs δ1 H1 T1)(ha:jk δ1 os=some args){j:Nat}{a:fV}(h:OwnI (vs.map some) (args.map some) j a): ∃(i:Nat) (d:D),os[j]?=some (.slot i)/\args[j]?=some (d,true)/\OwnI σ δ1 i a:=by
 obtain⟨d,h1,h2⟩:=h;have h1':=pM.mp h1;obtain⟨i,b,q1,q2,q3,q4⟩:=rT B ha h1';have:=pM.mp h2;rw[q3] at this;cases this;exact⟨i,d,q1,h1',d,q2,q4⟩
theorem Bl(B:Ops K T σ δ H os vs δ1 H1 T1)(ha:jk δ1 os=some args)(h:OwnA (vs.map some) (args.map some) a):OwnA σ δ1 a:=by
 obtain⟨j,d,h1,h2⟩:=h;obtain⟨i,_,_,_,e,q1,q2⟩:=yd B ha ⟨d,h1,h2⟩;exact⟨i,e,q1,q2⟩
theorem Ad(E:ER K H T σ δ)(B:Ops K T σ δ H os vs δ1 H1 T1)(ha:jk δ1 os=some args)(nd:(gE os args).Nodup):ER K H1 (Tc T σ δ1 vs args) (vs.map some) (args.map some):=by
 obtain⟨hl,hg⟩:=kR ha
 have sub: ∀b,(OwnA (vs.map some) (args.map some) b\/Tc T σ δ1 vs args b)->OwnA σ δ1 b\/T b:=fun b z=>by
  rcases z with z|z|z
  ·exact .inl (Bl B ha z)
  ·exact .inr z
  ·exact .inl z.1
 refine⟨by simp[hl,B.len],fun j d h=>?_,fun j d h=>?_,fun j k d e a h1 h2 h3 h4=>?_,fun a z t=>?_,fun a z=>?_⟩
 ·have h:=pM.mp h;obtain⟨o,h1,h2⟩:=hg j _ h;have hj:j<vs.length:=by have:=(qR.mp h1).1;have:=B.len;omega
  have hv:vs[j]?=some vs[j]:=il hj;refine⟨_,pM.mpr hv,?_⟩
  cases o with
  |val q=>
   have:q.1=d:=by cases h2;rfl
   subst this;exact Rep.mono (fun _ _ e _=>e) (fun b _ z=>sub b z) (B.rep E h1 hv)
  |slot i=>
   have h3:δ1[i]?=some (some (d,false)):=mX h2;have h4:=B.slt j i _ h1 hv;obtain⟨w,w1,w2⟩:=B.er.val i d h3;rw[h4] at w1;have:vs[j]=w:=by simpa using w1
   rw[this];exact Rep.mono (fun _ _ e _=>e) (fun b _ z=>(sub b z).imp id (B.tt b)) w2
 ·obtain⟨i,a,q1,q2,q3,q4⟩:=rT B ha (pM.mp h);obtain⟨b,h5,h6⟩:=B.er.own i d q2;rw[q4] at h5;cases h5;exact⟨a,pM.mpr q3,h6.mono (fun _ _ e _=>e) (fun b _ z=>(sub b z).imp id (B.tt b)) fun _ e=>e⟩
 ·obtain⟨i,d1,q1,q2,e1,q3,q4⟩:=yd B ha ⟨d,h1,h3⟩;obtain⟨i2,d2,g1,g2,e2,g3,g4⟩:=yd B ha ⟨e,h2,h4⟩;have:=B.er.inj i i2 e1 e2 a q3 g3 q4 g4;subst this;exact yc nd q1 q2 g1 g2
 ·rcases t with t|t
  ·exact B.er.nT a (Bl B ha z) (B.tt a t)
  ·exact t.2 z
 ·rcases z with z|z
  ·exact B.er.dom a (B.tt a z)
  ·exact B.er.ownOw z.1
theorem Fh{T' Td:AP'}(E:ER K H T σ δ)(B:Ops K T σ δ H os vs δ1 H1 T1)(ha:jk δ1 os=some args)(nd:(gE os args).Nodup)(kC:Keep (vs.map some) (args.map some) H1 outs H')
  (E':ER K H' Td (vs.map some) outs)(t1: ∀b,Tc T σ δ1 vs args b->Td b)(t2: ∀b,T' b->Td b)(t3: ∀b,H1 b≠none->T' b->T b):
  ER K H' T' σ (wb os args outs δ1)/\(∀b,OwnA σ (wb os args outs δ1) b->OwnA (vs.map some) outs b\/Tc T σ δ1 vs args b)/\Keep σ δ1 H1 (wb os args outs δ1) H':=by
 obtain⟨hl,hg⟩:=kR ha;have ol:outs.length=args.length:=by have:=E'.len;have:=B.len;simp at*;omega
 have ak: ∀(i:Nat) (x:Sl),(wb os args outs δ1)[i]?=some x->(i∉gE os args/\δ1[i]?=some x)\/ ∃(j:Nat) (d:D),os[j]?=some (.slot i)/\args[j]?=some (d,true)/\outs[j]?=some x:=fun i x h=>by
  by_cases hm:i∈gE os args
  ·right;obtain⟨j,d,h1,h2⟩:=yb hm;have hj:j<outs.length:=by have:=(qR.mp h2).1;omega
   have ho:outs[j]?=some outs[j]:=il hj;have hi:i<δ1.length:=by have:=(qR.mp h).1;rwa [vB] at this
   have:=Ei (δ:=δ1) nd h1 h2 ho hi;rw[h] at this;cases this;exact⟨j,d,h1,h2,ho⟩
  ·left;rw[vA hm] at h;exact⟨hm,h⟩
 have notL: ∀{i:Nat} {a:fV},i∉gE os args->OwnI σ δ1 i a-> ¬OwnA (vs.map some) (args.map some) a:=fun {i a} hm ⟨e,q1,q2⟩ ⟨j,d,h1,h2⟩=>by
  obtain⟨i2,d2,g1,g2,e2,g3,g4⟩:=yd B ha ⟨d,h1,h2⟩;have:=B.er.inj i i2 e e2 a q1 g3 q2 g4;subst this;exact hm (pK g1 g2)
 have ao: ∀i a,OwnI σ (wb os args outs δ1) i a->OwnI σ δ1 i a/\(OwnA (vs.map some) outs a\/Tc T σ δ1 vs args a):=fun i a ⟨d,h1,h2⟩=>by
  rcases ak i _ h1 with⟨hm,h3⟩|⟨j,e,g1,g2,g3⟩
  ·exact⟨⟨d,h3,h2⟩,.inr (.inr ⟨⟨i,d,h3,h2⟩,notL hm ⟨d,h3,h2⟩⟩)⟩
  ·obtain⟨i2,b,q1,q2,q3,q4⟩:=rT B ha g2;rw[g1] at q1;cases q1;rw[h2] at q4;cases q4;exact⟨⟨e,q2,h2⟩,.inl ⟨j,d,g3,pM.mpr q3⟩⟩
 have y7: ∀b,OwnA σ (wb os args outs δ1) b->OwnA (vs.map some) outs b\/Tc T σ δ1 vs args b:=fun b ⟨i,d,h1,h2⟩=>(ao i b ⟨d,h1,h2⟩).2
 have dO: ∀b,OwnA σ (wb os args outs δ1) b->OwnA σ δ1 b:=fun b ⟨i,d,h1,h2⟩=>by
  obtain⟨⟨e,q1,q2⟩,_⟩:=ao i b ⟨d,h1,h2⟩;exact⟨i,e,q1,q2⟩
 have kp: ∀a o,H1 a=some o-> ¬OwnA σ δ1 a->H' a=some o:=fun a o e n=>kC.kp a o e fun z=>n (Bl B ha z)
 have subO: ∀b,(OwnA σ (wb os args outs δ1) b\/T' b)->OwnA (vs.map some) outs b\/Td b:=fun b z=>by
  rcases z with z|z
  ·exact(y7 b z).imp id (t1 b)
  ·exact .inr (t2 b z)
 refine⟨⟨by rw[vB];exact B.er.len,fun i d h=>?_,fun i d h=>?_,fun i k d e a h1 h2 h3 h4=>?_,fun a z t=>?_,fun a z=>E'.dom a (t2 a z)⟩,y7,⟨kp,fun i a z=>(ao i a z).1,kC.dm⟩⟩
 ·rcases ak i _ h with⟨hm,h3⟩|⟨j,e,g1,g2,g3⟩
  ·obtain⟨w,w1,w2⟩:=B.er.val i d h3;exact⟨w,w1,Rep.mono (fun b o e n=>kp b o e fun z=>n (.inl z)) (fun b hb z=>z.imp (dO b) fun z=>B.tt b (t3 b hb z)) w2⟩
  ·obtain⟨i2,b,q1,q2,q3,q4⟩:=rT B ha g2;rw[g1] at q1;cases q1;obtain⟨w,w1,w2⟩:=E'.val j d g3;have:=pM.mp w1;rw[q3] at this;cases this;exact⟨_,q4,Rep.mono (fun _ _ e _=>e) (fun b _ z=>subO b z) w2⟩
 ·rcases ak i _ h with⟨hm,h3⟩|⟨j,e,g1,g2,g3⟩
  ·obtain⟨a,w1,w2⟩:=B.er.own i d h3;exact⟨a,w1,w2.mono (fun b o e n=>kp b o e fun z=>n (.inl z)) (fun b hb z=>z.imp (dO b) fun z=>B.tt b (t3 b hb z)) fun o e=>kC.kp a o e (notL hm ⟨d,h3,w1⟩)⟩
  ·obtain⟨i2,b,q1,q2,q3,q4⟩:=rT B ha g2;rw[g1] at q1;cases q1;obtain⟨a,w1,w2⟩:=E'.own j d g3;have:=pM.mp w1;rw[q3] at this;cases this;exact⟨_,q4,w2.mono (fun _ _ e _=>e) (fun b _ z=>subO b z) fun _ e=>e⟩
 ·obtain⟨⟨e1,q1,q2⟩,_⟩:=ao i a ⟨d,h1,h3⟩;obtain⟨⟨e2,q3,q4⟩,_⟩:=ao k a ⟨e,h2,h4⟩;exact B.er.inj i k e1 e2 a q1 q3 q2 q4
 ·exact B.er.nT a (dO a z) (B.tt a (t3 a (B.er.ownDom (dO a z)) t))
theorem wM(E:ER K H T σ δ)(B:Ops K T σ δ H os vs δ1 H1 T1)(ha:jk δ1 os=some args)(nd:(gE os args).Nodup)(P:Post K (Tc T σ δ1 vs args) (vs.map some) (args.map some) H1 r outs v H'):
  Post K T σ δ H r (wb os args outs δ1) v H':=by
 obtain⟨d,b⟩:=r
 cases b with
 |false=>
  obtain⟨kC,E',rv⟩:=P;obtain⟨E2,ow,k2⟩:=Fh (T':=T) E B ha nd kC E' (fun _ z=>z) (fun _ z=> .inl z) (fun _ _ z=>z);refine⟨B.keep.trans k2,E2,Rep.mono (fun _ _ e _=>e) (fun b _ z=>?_) rv⟩;rcases z with z|z
  ·exact ow b z
  ·exact .inr (.inl z)
 |true=>
  obtain⟨kC,p,rfl,hp,E',ok⟩:=P;obtain⟨E2,ow,k2⟩:=Fh (T':=fun a=>T a\/a=p) E B ha nd kC E' (fun _ z=> .inl z) (fun b z=>z.elim (fun z=> .inl (.inl z)) .inr) (fun b hb z=>z.elim id fun z=>by subst z;exact absurd hp hb);refine⟨B.keep.trans k2,p,rfl,?_,E2,ok.mono (fun _ _ e _=>e) (fun b _ z=>?_) fun _ e=>e⟩
  ·cases hH:H p with
   |none=>rfl
   |some ob=>exact absurd hp (B.keep.dm p (by rw[hH];simp))
  ·rcases z with z|z|z
   ·exact(ow b z).imp id .inl
   ·exact .inr (.inl (.inl z))
   ·exact .inr (.inr z)
end
section
variable {X:Cx}{e:gf}{es:iF}{fs:List FO}{pos p:Pos}{k:Nat}{f:fV}{fd:kI}{ps:gJ}{ev:EvF}{x:Str}
theorem KO(F:FnOk X.prog X.w X.K X.mg X.base CX0 k f fd ps (spF X.K ev))(hr:Room k X.A)(hg:Gl X x)(hm:X.mg x=some (.ref f))(hk:PySem.W.keepIn X.K (.ref f)=true)(hb:Binds X.K fd ps [])
  (ha:PA X (e::es) (tA X.K fs))(j8:(x==("__debug__":Str))=false)(he:starEach (e::es) X.env=(false,eval e X.env)::starEach es X.env)(i4:(backTo pos (starEach es X.env)).any (·.1)=false):
  PX X (.Call (.Name x p) (e::es) [] pos) (gx ev fs):=PX.imp (Lx F hr hg hm hk hb (.nil) PH ha j8 he i4) fun σ H Q hw=>by
 obtain⟨δ,T,rr,δ',E,e,k⟩:=hw;obtain⟨⟨os,δ1⟩,h1,e⟩:=fU e;obtain⟨args,h2,e⟩:=fU e;dsimp only at e;split at e
 ·rename_i nd;obtain⟨⟨r,outs⟩,h3,e⟩:=fU e;obtain⟨rfl,rfl⟩:=gq e;refine⟨δ,T,os,δ1,E,h1,fun vs H1 T1 B=>?_⟩;show spF X.K ev (vs++[]) H1 Q E0;rw[qB];exact⟨Tc T σ δ1 vs args,args,r,outs,Ad E B h2 nd,h3,fun v H' P=>k v H' (wM E B h2 nd P)⟩
 ·cases e
end
structure SKd(A:hZ)(d:fV)(σ:L2.St)(δ:Dn)(H:Hp)(σ':L2.St)(δ':Dn)(H':Hp):Prop where
 kp: ∀a o,H a=some o-> ¬OwnA σ δ a->a≠d->H' a=some o
 owi: ∀i a,OwnI σ' δ' i a->OwnI σ δ i a\/H a=none
 dm: ∀a,H a≠none->H' a≠none
 as: ∀i,¬A i->σ'[i]?=σ[i]?
section
variable {A:hZ}{d:fV}{σ σ1 σ2:L2.St}{δ δ1 δ2:Dn}{H H1 H2:Hp}
theorem SK.skd(k:SK A σ δ H σ1 δ1 H1):SKd A d σ δ H σ1 δ1 H1:=⟨fun a o e n _=>k.kp a o e n,k.owi,k.dm,k.as⟩
theorem SKd.ow(k:SKd A d σ δ H σ1 δ1 H1)(a:fV)(h:OwnA σ1 δ1 a):OwnA σ δ a\/H a=none:=by
 obtain⟨i,e,h1,h2⟩:=h;rcases k.owi i a ⟨e,h1,h2⟩ with⟨e,h3,h4⟩|z
 ·exact .inl ⟨i,e,h3,h4⟩
 ·exact .inr z
theorem SKd.trans(x:SKd A d σ δ H σ1 δ1 H1)(y:SKd A d σ1 δ1 H1 σ2 δ2 H2):SKd A d σ δ H σ2 δ2 H2 where
 kp:=fun a o e n nd=>y.kp a o (x.kp a o e n nd) (fun z=>(x.ow a z).elim n fun z=>by rw[z] at e;cases e) nd
 owi:=fun i a z=>(y.owi i a z).elim (x.owi i a) fun z=> .inr (by
  cases h:H a with
  |none=>rfl
  |some o=>exact absurd z (x.dm a (by rw[h];simp)))
 dm:=fun a z=>y.dm a (x.dm a z)
 as:=fun i h=>(y.as i h).trans (x.as i h)
end
structure BS(K:gu)(d:fV)(T:AP')(σ:L2.St)(δ:Dn)(acc:List D)(H:Hp):Prop where
 er:ER K H T σ δ
 td:T d
 at': ∃ys,H d=some (.lst ys)/\RepL K H (fun a=>OwnA σ δ a\/T a) acc ys
abbrev FB:=List D->Dn->Option (List D×Dn)
def tBx(K:gu)(A:hZ)(d:fV)(f:FB):TB:=fun σ H N=> ∃δ T acc i3 δ',BS K d T σ δ acc H/\f acc δ=some (i3,δ')/\ ∀σ' H',SKd A d σ δ H σ' δ' H'->BS K d T σ' δ' i3 H'->N σ' H'
noncomputable def lh(f:F):FB:=fun acc δ=>(f δ).bind fun p=>if acc.length<sizeLine then some (acc++[p.1.1],p.2) else none
noncomputable def kF(tg:Tg)(ti:FT)(fb:FB):List D->FB
 |[],acc,δ=>some (acc,δ)
 |x::xs,acc,δ=>(tg x δ).bind fun δ1=>(ti δ1).bind fun p=>(if p.1=true then fb acc p.2 else some (acc,p.2)).bind fun q=>kF tg ti fb xs q.1 q.2
section
variable {K:gu}{A:hZ}{d:fV}{T:AP'}{σ σ1:L2.St}{δ δ1:Dn}{acc:List D}{H H1:Hp}
theorem BS.step(b:BS K d T σ δ acc H)(k:SK A σ δ H σ1 δ1 H1)(E1:ER K H1 T σ1 δ1):BS K d T σ1 δ1 acc H1:=by
 obtain⟨ys,h1,h2⟩:=b.at';refine⟨E1,b.td,ys,k.kp d _ h1 fun z=>b.er.nT d z b.td,RepL.mono (fun b o e n=>k.kp b o e fun z=>n (.inl z)) (fun c hc z=>?_) h2⟩;rcases z with z|z
 ·exact(k.ow c z).elim Or.inl fun z=>absurd z hc
 ·exact .inr z
theorem LK(hg: ∀v σ H Q,tG K A tg v σ H Q->g v σ H Q)(hi: ∀σ H Q,tT K ft σ H Q->ti σ H Q)(hb: ∀σ H N,tBx K A d fb σ H N->tb σ H N)
  (b:BS K d T σ δ acc H)(P O:AP')(ok:ItOk K J ds P O H1)(s1: ∀a o,H1 a=some o-> ¬P a->H a=some o)(s0: ∀a,H1 a≠none->OwnA σ δ a\/a=d->P a)(s2: ∀a,H1 a≠none->(OwnA σ δ a\/T a)->O a)(s3: ∀a,H1 a≠none->H a≠none)(e:kF tg ft fb ds acc δ=some (i3,δ'))
  (k: ∀σ' H',SKd A d σ δ H σ' δ' H'->BS K d T σ' δ' i3 H'->N σ' H'):AG J g ti tb σ H N:=by
 refine⟨fun i m σ2 H2=>m=ds.length-i/\i<=ds.length/\ ∃δ2 n6,SKd A d σ δ H σ2 δ2 H2/\BS K d T σ2 δ2 n6 H2/\kF tg ft fb (ds.drop i) n6 δ2=some (i3,δ'),⟨ds.length,by simp,ku _,δ,acc,SK.refl.skd,b,by simpa using e⟩,?_⟩;rintro i m σ2 H2 ⟨rfl,hle,δ2,n6,S2,B2,e2⟩
 have hO: ∀a,H1 a≠none->(OwnA σ2 δ2 a\/T a)->O a:=fun a ha z=>by
  rcases z with z|z
  ·exact(S2.ow a z).elim (fun z=>s2 a ha (.inl z)) fun z=>absurd z (s3 a ha)
  ·exact s2 a ha (.inr z)
 have t9: ∀a o,H1 a=some o-> ¬P a->H2 a=some o:=fun a o ea n=>S2.kp a o (s1 a o ea n) (fun z=>n (s0 a (by rw[ea];simp) (.inl z))) fun z=>n (s0 a (by rw[ea];simp) (.inr z));by_cases i6:i<ds.length
 ·refine .inr ?_;have hd:ds[i]?=some ds[i]:=il i6;obtain⟨go,yl⟩:=ok.go i _ H2 hd t9;rw[rh i6] at e2;obtain⟨δ3,h3,e3⟩:=fU e2;obtain⟨⟨c,δ4⟩,h4,e4⟩:=fU e3;obtain⟨⟨aH,δ5⟩,h5,e5⟩:=fU e4;refine⟨go,fun x H' hy=>?_⟩;obtain⟨ext,rep⟩:=yl x H' hy;have cH:ER K H' T σ2 δ2:=B2.er.mono (fun b ob eb _=>ext b ob eb) (fun _ _ z=>z) (fun a z=>(B2.er.dom a z).up (ext a));have SX:SK A σ2 δ2 H2 σ2 δ2 H':=(Keep.ext ext).sk;have fS:=B2.step SX cH;have dJ:SKd A d σ δ H σ2 δ2 H':=S2.trans SX.skd;have rx:=rep (fun a=>OwnA σ2 δ2 a\/T a) hO (fun b hb z=>z.elim (fun z=>B2.er.ownDom z hb) fun z=>(B2.er.dom b z).ne hb);refine hg _ _ _ _ ⟨δ2,T,ds[i],δ3,cH,rx,h3,fun σ3 S3 E3=>?_⟩;have B3:=fS.step S3 E3;have bw:=dJ.trans S3.skd;refine hi _ _ _ ⟨δ3,T,c,δ4,E3,h4,fun H4 K4 E4=>?_⟩;have S4:SK A σ3 δ3 H' σ3 δ4 H4:=K4.sk;have B4:=B3.step S4 E4;have dI:=bw.trans S4.skd
  cases c with
  |false=>
   rw[gk iB] at h5;obtain⟨rfl,rfl⟩:=gq h5;exact N7 ⟨ds.length-(i+1),by omega,rfl,i6,δ4,n6,dI,B4,e5⟩
  |true=>
   rw[gh rfl] at h5;exact N6 (hb _ _ _ ⟨δ4,T,n6,aH,δ5,B4,h5,fun σ5 H5 S5 B5=>⟨ds.length-(i+1),by omega,rfl,i6,δ5,aH,dI.trans S5,B5,e5⟩⟩)
 ·refine .inl ⟨ok.stop i H2 (by omega) t9,?_⟩;rw[sV (by omega)] at e2;obtain⟨rfl,rfl⟩:=gq e2;exact k σ2 H2 S2 B2
end
section
variable {X:Cx}{A:hZ}{d:fV}{elt:gf}{f:F}
theorem PB.imp'{code:Sem Unit}{t t':TB}(h:PB X code t)(k: ∀σ H N,t' σ H N->t σ H N):PB X code t':=fun pins s σ H N I hw=>h pins s σ H N I (k σ H N hw)
theorem I9{gens:nM}{sc:iC}{p:Pos}{depth:Nat}(hn:gens[depth+1]?=none)(he:PX X elt f):PB X (ir (.ListComp elt gens sc p) depth (.ref d) X.env) (tBx X.K A d (lh f)):=PB.imp' (Ly hn he) fun σ H N hw=>by
 obtain⟨δ,T,acc,i3,δ',B,e,k⟩:=hw;obtain⟨⟨r,δ1⟩,h1,e⟩:=fU e;obtain⟨hz,e⟩:=gM e;obtain⟨rfl,rfl⟩:=oG e;refine⟨δ,T,r,δ1,B.er,h1,fun v H1 P=>?_⟩;obtain⟨E1,rv⟩:=P.rep B.er;have S1:SK A σ δ H σ δ1 H1:=P.1.sk;have B1:=B.step S1 E1;obtain⟨ys,hy,ry⟩:=B1.at';refine⟨ys,hy,by rw[ry.length];exact hz,k σ _ ?_ ?_⟩
 ·have:SKd A d σ δ1 H1 σ δ1 (upd H1 d (.lst (ys++[v]))):=⟨fun a o e n nd=>by rw[gA nd];exact e,fun i a z=> .inl z,fun a z=>by
   by_cases ha:a=d
   ·subst ha;rw[gy];simp
   ·rw[gA ha];exact z,fun _ _=>rfl⟩
  exact S1.skd.trans this
 ·have hk: ∀b o,H1 b=some o-> ¬T b->upd H1 d (.lst (ys++[v])) b=some o:=fun b o e n=>by rw[gA (by intro z;subst z;exact n B.td)];exact e
  have hd: ∀a,T a->Ow (upd H1 d (.lst (ys++[v])) a):=fun a z=>by
   by_cases ha:a=d
   ·subst ha;rw[gy];trivial
   ·rw[gA ha];exact E1.dom a z
  refine⟨E1.mono hk (fun _ _ z=>z) hd,B.td,ys++[v],gy,?_⟩;exact RepL.mono (fun b o e n=>hk b o e fun z=>n (.inr z)) (fun _ _ z=>z) (ry.append (RepL.one rv))
end
noncomputable def kM(caps:gX)(k:Nat)(fi:FIt)(tg:Tg)(ti:FT)(fb:FB):F:=fun δ=>(fi δ).bind fun p=>(jk p.2 (caps.map .slot)).bind fun args=>
 if(gE (caps.map .slot) args).Nodup then(kF tg ti fb p.1 [] (args.map some++List.replicate k none)).bind fun q=>some ((.lst q.1,true),wb (caps.map .slot) args (gH args q.2) p.2) else none
noncomputable def vQ(caps:gX)(k:Nat)(σ:L2.St):L2.St:=(caps.map fun j=>(σ[j]?).join)++List.replicate k none
theorem J3{K:gu}{caps:gX}{k:Nat}{fi:FIt}{tg:Tg}{ti:FT}{fb:FB}{σ:L2.St}{H:Hp}{Q:VK}(h:tF K (kM caps k fi tg ti fb) σ H Q):
  Mi (tI K (fun i=>i∉caps) fi) (tG K (fun i=>caps.length<=i) tg) (tT K ti) (fun d=>tBx K (fun i=>caps.length<=i) d fb) (vQ caps k) σ H Q:=by
 obtain⟨δ,T,rr,δr,E,e,kq⟩:=h;obtain⟨⟨ds,δ1⟩,h1,e⟩:=fU e;obtain⟨args,ha,e⟩:=fU e;dsimp only at e ha;split at e
 case isFalse=>cases e
 rename_i nd;obtain⟨⟨acc,δ'⟩,h2,e⟩:=fU e;obtain⟨rfl,rfl⟩:=gq e;refine⟨δ,T,ds,δ1,E,h1,fun J H1 K1 E1 ok d hd=>?_⟩;obtain⟨hl,hg⟩:=kR ha;have hl':args.length=caps.length:=by simpa using hl
 let vs:List V:=caps.map fun j=>((σ[j]?).join).getD .non
 have there: ∀(i j:Nat),caps[i]?=some j-> ∃v,σ[j]?=some (some v):=fun i j hj=>by
  have hi:i<args.length:=by have:=(qR.mp hj).1;omega
  obtain⟨o,q1,q2⟩:=hg i _ (il hi);rw[iN,hj] at q1;cases q1;have q3:=mX q2;generalize args[i]=y at q3;obtain⟨x,b⟩:=y
  cases b with
  |false=>obtain⟨v,h,_⟩:=E1.val j x q3;exact⟨v,h⟩
  |true=>obtain⟨a,h,_⟩:=E1.own j x q3;exact⟨_,h⟩
 have eU: ∀(i j:Nat),caps[i]?=some j-> ∃v,vs[i]?=some v/\σ[j]?=some (some v):=fun i j hj=>by
  obtain⟨v,hv⟩:=there i j hj;refine⟨v,?_,hv⟩;show(caps.map fun j=>((σ[j]?).join).getD .non)[i]?=some v;rw[iN,hj];simp[hv]
 have u6:vQ caps k σ=vs.map some++List.replicate k none:=by
  unfold vQ
  congr 1
  apply vb;intro i;show _=((caps.map fun j=>((σ[j]?).join).getD .non).map some)[i]?;rw[iN,iN,iN]
  cases hj:caps[i]? with
  |none=>rfl
  |some j=>obtain⟨v,hv⟩:=there i j hj;simp[hv]
 have B0:Ops K T σ δ1 H1 (caps.map Opd.slot) vs δ1 H1 T:=by
  refine⟨by simp[vs],.refl,E1,fun _ z=>z,fun j x v hj=>?_,fun j x v hj=>?_,fun j i v hj hv=>?_⟩
  ·rw[iN] at hj;obtain⟨_,_,z⟩:=hG hj;cases z
  ·rw[iN] at hj;obtain⟨_,_,z⟩:=hG hj;cases z
  ·rw[iN] at hj;obtain⟨c,hc,z⟩:=hG hj;cases z;obtain⟨v',q1,q2⟩:=eU j i hc;rw[hv] at q1;cases q1;exact q2
 have Ec:=Ad E1 B0 ha nd
 have hA: ∀(i:Nat) x,args[i]?=some (x,true)-> ¬(caps.length<=i):=fun i x hx=>by
  have:=(qR.mp hx).1;omega
 rw[u6];have hx:=jm (o:= .lst []) hd
 have nz: ∀a,H1 a≠none->upd H1 d (.lst []) a≠none:=fun a z=>by
  cases hh:H1 a with
  |none=>exact absurd hh z
  |some o=>rw[hx a o hh];simp
 have b0:BS K d (fun a=>Tc T σ δ1 vs args a\/a=d) (vs.map some++List.replicate k none) (args.map some++List.replicate k none) [] (upd H1 d (.lst [])):=by
  refine⟨(Ec.pad).mono (fun b o eb _=>hx b o eb) (fun b hb z=>z.elim id fun z=>by subst z;exact absurd hd hb) (fun a z=>?_),.inr rfl,[],gy,RepL.nil⟩;rcases z with z|z
  ·exact(Ec.dom a z).up (hx a)
  ·subst z;rw[gy];trivial
 refine LK (fun _ _ _ _ h=>h) (fun _ _ _ h=>h) (fun _ _ _ h=>h) b0 _ _ ok (fun a o ea _=>hx a o ea) (fun a cx z=>?_) (fun a cx z=>?_) nz h2 fun σ' H2 S2 B2=>?_
 ·rcases z with z|z
  ·obtain⟨j,x,g1,g2⟩:=F3.mp z;obtain⟨i,_,q1,_,q3⟩:=yd B0 ha ⟨x,g1,g2⟩;refine .inl ⟨i,fun n=>n ?_,q3⟩;rw[iN] at q1;obtain⟨c,hc,e⟩:=hG q1;cases e;exact kK hc
  ·subst z;exact absurd hd cx
 ·rcases z with z|z|z
  ·exact .inl (Bl B0 ha (F3.mp z))
  ·rcases z with z|z
   ·exact .inr z
   ·exact .inl z.1
  ·subst z;exact absurd hd cx
 ·have SS:SK (fun i=>caps.length<=i) (vs.map some++List.replicate k none) (args.map some++List.replicate k none) H1 σ' δ' H2:=
   ⟨fun a o ea n=>S2.kp a o (hx a o ea) n (by intro z;subst z;rw[ea] at hd;cases hd),fun i a z=>(S2.owi i a z).imp id fun z=>by
    cases hh:H1 a with
    |none=>rfl
    |some o=>exact absurd z (nz a (by rw[hh];simp)),fun a z=>S2.dm a (nz a z),S2.as⟩
  obtain⟨ys,hy,ry⟩:=B2.at';have P:=pS (r:=(.lst acc,true)) (v:= .ref d) Ec SS hA ⟨d,rfl,hd,B2.er,ys,hy,RepL.mono (fun _ _ e _=>e) (fun b _ z=>z) ry⟩;exact kq (.ref d) H2 ((wM E1 B0 ha nd P).pre K1)
section
variable {X:Cx}{elt:gf}{c:oi}{gP:nM}{scope:iC}{pos f7 py:Pos}{N':gJ}{caps:gX}{k:Nat}{fi:FIt}{tg:Tg}{ti:FT}{fb:FB}{A L:hZ}{H0:Hp}
structure CompOk(X:Cx)(N':gJ)(scope:iC)(caps:gX)(k:Nat):Prop where
 cell: ∀y∈scope.names,y.2= .cell->scope.names.lookup y.1=some .cell
 kind:scope.kind= .function
 names: ∀y∈scope.names,y.2= .local->scope.names.lookup y.1=some .local
 free: ∀y∈scope.names,y.2= .free->X.env.scope.names.lookup y.1=some .cell\/X.env.scope.names.lookup y.1=some .free
 len:caps.length+k=N'.length
 caps: ∀(i j:Nat) (x:Str),caps[i]?=some j->N'[i]?=some x->X.N[j]?=some x/\scope.names.lookup x=some .free
theorem CompOk.sco(C:CompOk X N' scope caps k):CompScope X N' scope (vQ caps k):=by
 refine⟨C.cell,C.kind,C.names,C.free,fun σ=>by simp[vQ,C.len],fun σ i v x h1 h2=>?_⟩;unfold vQ at h1;by_cases hi:i<caps.length
 ·rw[vh (by simpa using hi),iN,il hi] at h1;obtain⟨q1,q2⟩:=C.caps i caps[i] x (il hi) h2;refine⟨q2,caps[i],q1,?_⟩;have h3:(σ[caps[i]]?).join=some v:=by simpa using h1
  cases hs:σ[caps[i]]? with
  |none=>rw[hs] at h3;cases h3
  |some y=>rw[hs] at h3;exact nQ some h3
 ·rw[tD (by simpa using hi),List.getElem?_replicate] at h1;split at h1<;>cases h1
theorem K7(C:CompOk X N' scope caps k)(hc:X.calm=true)(ha:c.is_async=0)(q9: ∀g',gP[0]?=some g'->g'.is_async=0)
  (hs: ∀x,foldedSetIterable c.iter X.env x=pure x)(pi:PIX X (fun i=>i∉caps) c.target c.iter fi)
  (x9: ∀(cl:jx) (C:fV) (s3:gb) (H3:Hp) (fp:iI) (pins:gG),let X':=X.comp N' scope cl C s3 H3 fp pins
   PGX X' (fun i=>caps.length<=i) c.target tg/\PIf X' c.ifs (tT X.K ti)/\ ∀d,PB X' (ir (.ListComp elt (c::gP) scope pos) 0 (.ref d) X'.env) (tBx X.K (fun i=>caps.length<=i) d fb)):
  PX X (.ListComp elt (c::gP) scope pos) (kM caps k fi tg ti fb):=PX.imp (IW (g:=tG X.K (fun i=>caps.length<=i) tg) (ti:=tT X.K ti) (tb:=fun d=>tBx X.K (fun i=>caps.length<=i) d fb) C.sco hc ha q9 hs pi x9) fun σ H Q h=>J3 h
end
section
variable {K:gu}{T:AP'}{σ:L2.St}{δ:Dn}{H:Hp}{i:Nat}{l l':List D}{a:fV}{bM:List V}
theorem OwnI.write{j:Nat}{b:fV}(hd:δ[i]?=some (some (.lst l,true)))(h:OwnI σ (δ.set i (some (.lst l',true))) j b):OwnI σ δ j b:=by
 obtain⟨e,h1,h2⟩:=h;rcases jz h1 with⟨rfl,_,_⟩|⟨_,q⟩
 ·exact⟨_,hd,h2⟩
 ·exact⟨e,q,h2⟩
theorem ER.write(E:ER K H T σ δ)(hd:δ[i]?=some (some (.lst l,true)))(hs:σ[i]?=some (some (.ref a)))(r:RepL K H (fun b=>OwnA σ δ b\/T b) l' bM):
  ER K (upd H a (.lst bM)) T σ (δ.set i (some (.lst l',true)))/\Keep σ δ H (δ.set i (some (.lst l',true))) (upd H a (.lst bM)):=by
 have hi:i<δ.length:=(qR.mp hd).1;have oa:OwnA σ δ a:=⟨i,_,hd,hs⟩
 have y7: ∀b,OwnA σ (δ.set i (some (.lst l',true))) b->OwnA σ δ b:=fun b ⟨j,e,h1,h2⟩=>by
  obtain⟨e',q1,q2⟩:=OwnI.write hd ⟨e,h1,h2⟩;exact⟨j,e',q1,q2⟩
 have kp: ∀b o,H b=some o-> ¬(OwnA σ δ b\/T b)->upd H a (.lst bM) b=some o:=fun b o e n=>by rw[gA (by intro z;subst z;exact n (.inl oa))];exact e
 have dm: ∀b,H b≠none->upd H a (.lst bM) b≠none:=fun b z=>by
  by_cases hb:b=a
  ·subst hb;rw[gy];simp
  ·rw[gA hb];exact z
 have sub: ∀b,H b≠none->(OwnA σ (δ.set i (some (.lst l',true))) b\/T b)->OwnA σ δ b\/T b:=fun b _ z=>z.imp (y7 b) id;refine⟨⟨by rw[qc];exact E.len,fun j e hj=>?_,fun j e hj=>?_,fun j k e f b hj hk h1 h2=>?_,fun b z=>E.nT b (y7 b z),fun b z=>by have ne:b≠a:=fun e=>E.nT a oa (e▸z);rw[gA ne];exact E.dom b z⟩,⟨fun b o e n=>by rw[gA (by intro z;subst z;exact n oa)];exact e,fun j b z=>OwnI.write hd z,dm⟩⟩
 ·rcases jz hj with⟨_,_,q⟩|⟨_,q⟩
  ·cases q
  ·obtain⟨w,w1,w2⟩:=E.val j e q;exact⟨w,w1,Rep.mono kp sub w2⟩
 ·rcases jz hj with⟨rfl,_,q⟩|⟨ne,q⟩
  ·cases q;exact⟨a,hs,bM,gy,RepL.mono kp sub r⟩
  ·obtain⟨b,w1,w2⟩:=E.own j e q;refine⟨b,w1,w2.mono kp sub fun o eo=>?_⟩;rw[gA]
   ·exact eo
   ·intro z;subst z;exact ne (E.inj i j _ _ _ hd q hs w1)
 ·obtain⟨e1,q1,q2⟩:=OwnI.write hd ⟨e,hj,h1⟩;obtain⟨e2,q3,q4⟩:=OwnI.write hd ⟨f,hk,h2⟩;exact E.inj j k e1 e2 b q1 q3 q2 q4
end
noncomputable def jg(i:Nat)(f:F):F:=fun δ=>match δ[i]? with
 |some (some (.lst _,true))=>(f δ).bind fun p=>match p.2[i]? with
  |some (some (.lst l,true))=>if l.length<sizeLine then some ((.non,false),p.2.set i (some (.lst (l++[p.1.1]),true))) else none
  |_=>none
 |_=>none
noncomputable def qO(i:Nat)(f:FO):F:=fun δ=>match δ[i]? with
 |some (some (.lst _,true))=>(f δ).bind fun p=>match res p.2 p.1,p.2[i]? with
  |some (.int k),some (some (.lst l,true))=>if -(2^63)<=k/\k<2^63 then(ixN l.length k).bind fun j=>(l[j]?).bind fun d=>some ((d,false),p.2.set i (some (.lst (l.eraseIdx j),true))) else none
  |_,_=>none
 |_=>none
noncomputable def tM(i:Nat)(f:F)(g:FO):FS:=fun δ=>(f δ).bind fun p=>match p.2[i]? with
 |some (some _)=>(g p.2).bind fun q=>match res q.2 q.1,q.2[i]? with
  |some (.int k),some (some (.lst l,true))=>(ixN l.length k).bind fun j=>some (.nx (q.2.set i (some (.lst (l.set j p.1.1),true))))
  |_,_=>none
 |_=>none
section
variable {X:Cx}{e ix:gf}{f:F}{fo:FO}{pos b7 apos e9:Pos}{i:Nat}{x:Str}{A L:hZ}{H0:Hp}
theorem RepL.erase{K H}{O:AP'}: ∀{l:List D} {vs:List V} (j:Nat),RepL K H O l vs->RepL K H O (l.eraseIdx j) (vs.eraseIdx j)
 |[],vs,j,h=>by rw[RepL] at h;subst h;simp[RepL]
 |d::l,vs,0,h=>by
  rw[RepL] at h;obtain⟨v,r,rfl,h1,h2⟩:=h;exact h2
 |d::l,vs,j+1,h=>by
  rw[RepL] at h;obtain⟨v,r,rfl,h1,h2⟩:=h;exact RepL.cons h1 (RepL.erase j h2)
theorem FP(hv:PO X (.Name x b7) (fZ i))(he:PX X e f)(g0:attributeBase (.Name x b7) "append" X.env (eval (.Name x b7) X.env)=eval (.Name x b7) X.env)
  (l7:((backTo e9 (starEach [e] X.env)).all (fun x=>!x.1)&&(backToKw e9 (keywordEach [] X.env)).all (fun x=>x.1.isSome)&&decide ([e].length+([]:List Keyword).length+(if([]:List Keyword).isEmpty then 0 else 1)<30))=true)
  (f9:(apos.endLine==e9.line)=true)(hs:starEach [e] X.env=(false,eval e X.env)::starEach [] X.env)(i0:(backTo e9 (starEach [] X.env)).any (·.1)=false):
  PX X (.Call (.Attribute (.Name x b7) "append" apos) [e] [] e9) (jg i f):=
 PX.imp (Mq Cs PySem.F.slot_list_append PySem.F.type_list_append Ga hv (jK he mH hs) g0 l7 f9 hs i0) fun σ H Q hw=>by
 obtain⟨δ,T,rr,δ',E,e,k⟩:=hw;unfold jg at e;split at e
 ·rename_i l0 h0;obtain⟨⟨r,δ1⟩,h1,e⟩:=fU e;dsimp only at e;split at e
  ·rename_i l h2;obtain⟨hz,e⟩:=gM e;obtain⟨rfl,rfl⟩:=oG e;refine⟨δ,T,.slot i,δ,E,by unfold fZ;rw[h0],fun v H1 P=>?_⟩;obtain⟨K1,E1,hσ⟩:=P;obtain⟨a,g1,eD,g2,g3⟩:=E1.own i _ h0;rw[hσ] at g1;cases g1;refine⟨.inl ⟨rfl,eD,SqL.of g2⟩,δ,T,r,δ1,E1,h1,fun y H2 P2=>?_⟩;obtain⟨E2,ry⟩:=P2.rep E1;obtain⟨a',q1,xs,q2,q3⟩:=E2.own i _ h2;rw[hσ] at q1;cases q1;refine⟨_,xs,y,rfl,rfl,q2,by rw[q3.length];exact hz,?_⟩;obtain⟨E3,K3⟩:=E2.write h2 hσ (q3.append (RepL.one ry));exact k _ _ (Post.val ((K1.trans P2.1).trans K3) E3 Rep.mkNon)
  ·cases e
 ·cases e
theorem Ip(hv:PO X (.Name x b7) (fZ i))(he:PO X e fo)(g0:attributeBase (.Name x b7) "pop" X.env (eval (.Name x b7) X.env)=eval (.Name x b7) X.env)
  (l7:((backTo e9 (starEach [e] X.env)).all (fun x=>!x.1)&&(backToKw e9 (keywordEach [] X.env)).all (fun x=>x.1.isSome)&&decide ([e].length+([]:List Keyword).length+(if([]:List Keyword).isEmpty then 0 else 1)<30))=true)
  (f9:(apos.endLine==e9.line)=true)(hs:starEach [e] X.env=(false,eval e X.env)::starEach [] X.env)(i0:(backTo e9 (starEach [] X.env)).any (·.1)=false):
  PX X (.Call (.Attribute (.Name x b7) "pop" apos) [e] [] e9) (qO i fo):=
 PX.imp (Mq Cs Hc Hb Jj hv (jK he mH hs) g0 l7 f9 hs i0) fun σ H Q hw=>by
 obtain⟨δ,T,rr,δ',E,e,k⟩:=hw;unfold qO at e;split at e
 ·rename_i l0 h0;obtain⟨⟨o,δ1⟩,h1,e⟩:=fU e;dsimp only at e;split at e
  ·rename_i kk l hk h2;split at e
   case isFalse=>cases e
   rename_i hb;obtain⟨j,hj,e⟩:=fU e;obtain⟨d,hd,e⟩:=fU e;obtain⟨rfl,rfl⟩:=gq e;refine⟨δ,T,.slot i,δ,E,by unfold fZ;rw[h0],fun v H1 P=>?_⟩;obtain⟨K1,E1,hσ⟩:=P;obtain⟨a,g1,eD,g2,g3⟩:=E1.own i _ h0;rw[hσ] at g1;cases g1;refine⟨.inl ⟨rfl,eD,SqL.of g2⟩,δ,T,o,δ1,E1,h1,fun y H2 P2=>?_⟩;have B:=Ops.cons E1 P2 (Ops.nil (P2.er E1));have vy:=gK (B.view (j:=0) rfl rfl hk);have E2:ER X.K H2 T σ δ1:=B.er.mono (fun _ _ e _=>e) (fun b _ z=>B.tt b z) (fun a z=>B.er.dom a (B.tt a z));obtain⟨a',q1,xs,q2,q3⟩:=E2.own i _ h2;rw[hσ] at q1;cases q1;obtain⟨w,w1,w2⟩:=q3.get hd;have hl:=q3.length;have fk:ixN xs.length kk=some j:=by rw[hl];exact hj
   obtain⟨s1,s2,s3,s4⟩:=zL fk;obtain⟨E3,K3⟩:=E2.write h2 hσ (RepL.erase j q3);refine⟨_,xs,kk,j,w,rfl,by rw[vy],q2,hb.1,hb.2,s1,w1,?_⟩;exact k _ _ (Post.val ((K1.trans B.keep).trans K3) E3 (Rep.mono (fun b o e n=>K3.kp b o e fun z=>n (.inl z)) (fun b _ z=>z.imp (K3.ow b) id) w2))
  ·cases e
 ·cases e
theorem FU{f7:Pos}(hv:PO X (.Name x b7) (fZ i))(he:PX X e f)(hi:PO X ix fo)
  (ha: ∀v,assign (.Subscript (.Name x b7) ix f7) X.env v=(do
   let ov <-holding [v] (eval (.Name x b7) X.env)
   let iv <-holding [v,ov] (eval ix X.env)
   standAt f7
   holding [v,ov,iv] (setItem ov iv v)
   release [v,ov,iv] []))
  (hs:swapsWithSole [.Subscript (.Name x b7) ix f7] e pos.line X.env=pure false)(hw:swappedStores [.Subscript (.Name x b7) ix f7] e X.env=pure none)
  (h1:(assignEach [.Subscript (.Name x b7) ix f7] X.env).map (·.2)=[assign (.Subscript (.Name x b7) ix f7) X.env]):
  PSX X A L H0 (.Assign [.Subscript (.Name x b7) ix f7] e pos) (tM i f fo):=PS.imp' (IC he (IQ hv hi HW ha) hs hw h1) fun D σ H hw=>by
 obtain⟨δ,T,out,E,fi,e,k⟩:=hw;obtain⟨⟨r,δ1⟩,h1,e⟩:=fU e;dsimp only at e;split at e
 case h_2=>cases e
 rename_i y0 h0;obtain⟨⟨o,δ2⟩,h2,e⟩:=fU e;dsimp only at e;split at e
 ·rename_i kk l hk h3;obtain⟨j,hj,e⟩:=fU e;cases e;refine⟨δ,T,r,δ1,E,h1,fun v H1 P1=>⟨δ1,Tmp T r v,.slot i,δ1,P1.er E,by unfold fZ;rw[h0],fun v2 H2 P2=>⟨δ1,Tmp T r v,o,δ2,P2.er (P1.er E),h2,fun v3 H3 P3=>?_⟩⟩⟩;have fP:PostO X.K T σ δ H (.val r) δ1 v H1:=P1;have B:=Ops.cons E fP (Ops.cons (P1.er E) P2 (Ops.cons (P2.er (P1.er E)) P3 (Ops.nil (P3.er (P2.er (P1.er E))))));have E3:ER X.K H3 T σ δ2:=B.er.mono (fun _ _ e _=>e) (fun b _ z=>B.tt b z) (fun a z=>B.er.dom a (B.tt a z));have hσ:σ[i]?=some (some v2):=P2.2.2;obtain⟨a,q1,xs,q2,q3⟩:=E3.own i _ h3;rw[hσ] at q1;cases q1;have vk:=gK (B.view (j:=2) rfl rfl hk);have rv:=B.rep E (j:=0) (r:=r) rfl rfl;refine⟨a,xs,kk,j,rfl,vk,q2,by rw[q3.length];exact hj,?_⟩;obtain⟨E4,K4⟩:=E3.write h3 hσ (RepL.set rv j q3);exact k _ _ (B.keep.trans K4).sk E4
 ·cases e
end
noncomputable def Q7(tg:Tg)(f:F):FS:=fun δ=>(f δ).bind fun p=>(tg p.1.1 p.2).bind fun δ1=>some (.nx δ1)
section
variable {X:Cx}{A L:hZ}{H0:Hp}{a b tg e:gf}{fs:List F}{f:F}{t:Tg}{pos px py pt pt2:Pos}{x y:Str}{i j:Nat}{kt k2}
theorem EB{id:String}{p:Pos}{es:iF}{fo:List FO}{g:List D->Option (D×Bool)}{z:Str}(hc:iV X (.builtin id) (rDn X.K g))(hg:Gl X z)(hm:X.mg z=none)(hv:bootBuiltins z=some (.builtin id))(ha:PA X (e::es) (tA X.K fo))(hn:z≠"__name__")(j8:(z==("__debug__":Str))=false)
  (he:starEach (e::es) X.env=(false,eval e X.env)::starEach es X.env)(i4:(backTo pos (starEach es X.env)).any (·.1)=false):PX X (.Call (.Name z p) (e::es) [] pos) (gW g fo):=pxn (rQ hc hg hm hv ha hn j8 he i4)
theorem KP{id:String}{p:Pos}{es:iF}{fo:List FO}{g:List D->Option (D×Bool)}{z:Str}(hc:iV X (.type id) (rDn X.K g))(hg:Gl X z)(hm:X.mg z=none)(hv:bootBuiltins z=some (.type id))(ha:PA X (e::es) (tA X.K fo))(hn:z≠"__name__")(j8:(z==("__debug__":Str))=false)
  (he:starEach (e::es) X.env=(false,eval e X.env)::starEach es X.env)(i4:(backTo pos (starEach es X.env)).any (·.1)=false):PX X (.Call (.Name z p) (e::es) [] pos) (gW g fo):=pxn (mV hc hg hm hv ha hn j8 he i4)
end
theorem Ou:bootBuiltins "len"=some (.builtin "len"):=by decide+kernel
noncomputable def zY(N:gJ)(sc scope:iC)(N':gJ)(caps:gX)(k:Nat):Bool:=
 (scope.names.all fun y=>y.2 != .cell||scope.names.lookup y.1==some .cell)&&decide (scope.kind= .function)&&(scope.names.all fun y=>y.2 != .local||scope.names.lookup y.1==some .local)&&
 (scope.names.all fun y=>y.2 != .free||(sc.names.lookup y.1==some .cell||sc.names.lookup y.1==some .free))&&decide (caps.length+k=N'.length)&&
 ((caps.zip N').all fun p=>N[p.1]?==some p.2&&scope.names.lookup p.2==some .free)
theorem Ol(hN:X.N=N)(hs:X.env.scope=sc)(h:zY N sc scope N' caps k=true):CompOk X N' scope caps k:=by
 subst hN;subst hs;unfold zY at h;simp only[ki,lC,pY] at h;obtain⟨⟨⟨⟨⟨h1,h2⟩,h3⟩,h4⟩,h5⟩,h6⟩:=h;refine⟨fun y hy e=>?_,h2,fun y hy e=>?_,fun y hy e=>?_,h5,fun i j x hi hx=>?_⟩
 ·have:=h1 y hy;rw[e] at this;simpa using this
 ·have:=h3 y hy;rw[e] at this;simpa using this
 ·have:=h4 y hy;rw[e] at this;simpa using this
 ·have hm:(j,x)∈caps.zip N':=by
   have:(caps.zip N')[i]?=some (j,x):=by rw[BU];exact⟨hi,hx⟩
   exact kK this
  have:=h6 _ hm;simpa using this
noncomputable def kZ:FT:=fun δ=>some (true,δ)
theorem IJ{X:Cx}:PIf X [] (tT X.K kZ):=fun pins s σ H Q I h=>by
 obtain⟨δ,T,b,δ',E,e,k⟩:=h;cases e;exact Lq pins s σ H Q I (k H .refl E)
inductive Ty where
 |int|bool|str|tuple|list|dict
noncomputable def Ty.n:Ty->String
 | .int=>"int"| .bool=>"bool"| .str=>"str"| .tuple=>"tuple"| .list=>"list"| .dict=>"dict"
noncomputable def isT:D->Ty->Bool
 | .bl _,.bool=>true
 | .bl _,.int=>true
 | .int _,.int=>true
 | .str _,.str=>true
 | .tup _,.tuple=>true
 | .lst _,.list=>true
 | .oth .dct _ _,.dict=>true
 |_,_=>false
noncomputable def tyD:D->String
 | .non=>"NoneType"| .bl _=>"bool"| .int _=>"int"| .str _=>"str"| .tup _=>"tuple"| .lst _=>"list"| .oth .dct _ _=>"dict"| .oth .set _ _=>"set"| .oth _ _ _=>"NoneType"
section
variable {X:Cx}{pins:gG}{σ:L2.St}{H:Hp}{s:gb}
theorem zI(K:gu)(d:D)(t:Ty):PySem.W.kitOne K (.type (tyD d)) (.type t.n)=some (isT d t):=by
 cases d with
 |oth k _ _=>cases k<;>cases t<;>with_unfolding_all rfl
 |_=>cases t<;>with_unfolding_all rfl
theorem zD(I:Inv X pins σ H s)(h:OthB X.K (H a) k ks vs us)(hk:k= .dct\/k= .set:=by first|exact .inl rfl|exact .inr rfl):s.TypeIs (.ref a) (tyD (.oth k ks vs)):=by
 cases k with
 |dct=>
  rcases h with⟨kvs,e,_⟩|⟨kvs,e,_⟩
  ·obtain⟨_,_,vs,_,o,es,ep,h1,h2,_⟩:=(show ObjOk X.prog X.w H s.heap a (.dK kvs) from I.hok a _ e)
   exact⟨o,h1,h2.1⟩
  ·obtain⟨_,_,xs,_,o,es,ep,h1,h2,_⟩:=(show ObjOk X.prog X.w H s.heap a (.dT kvs) from I.hok a _ e)
   exact⟨o,h1,h2.1⟩
 |set=>
  obtain⟨_,zs,e,_⟩:=h;obtain⟨es,n,t,h1,_⟩:=(show ObjOk X.prog X.w H s.heap a (.stt zs) from I.hok a _ e)
  exact⟨_,h1,rfl⟩
 |exc C=>rcases hk with z|z<;>cases z
 |_=>exact h.elim
theorem mP{K H}(h:iE K H O (.oth k ks vs) v): ∃a us,v= .ref a/\OthB K (H a) k ks vs us/\RepL K H O vs us:=by
 rcases h with h|⟨a,rfl,h⟩
 ·obtain⟨a,us,e,q,r⟩:=h.oth;exact⟨a,us,e,q.2,r⟩
 ·obtain⟨us,e,r⟩:=h;exact⟨a,us,rfl,e,r⟩
end
theorem jL(K:gu)(d:D): ∀ts:List Ty,PySem.W.kitAny K (.type (tyD d)) (ts.map fun t=>Value.type t.n)=some (ts.any (isT d))
 |[]=>rfl
 |t::ts=>by
  rw[iw,PySem.W.kitAny,zI,sY]
  cases isT d t with
  |true=>rfl
  |false=>simpa using jL K d ts
theorem Mz{K:gu}{C:Nat}(h: ∀n∈["int","bool","str","tuple","list","dict"],PySem.W.kitOne K (.ref C) (.type n)=some false)(t:Ty){ks vs:List D}:PySem.W.kitOne K (.ref C) (.type t.n)=some (isT (.oth (.exc C) ks vs) t):=by
 cases t<;>exact h _ (by simp[Ty.n])
theorem E8{K:gu}{C:Nat}(h: ∀n∈["int","bool","str","tuple","list","dict"],PySem.W.kitOne K (.ref C) (.type n)=some false){ks vs:List D}: ∀ts:List Ty,PySem.W.kitAny K (.ref C) (ts.map fun t=>Value.type t.n)=some (ts.any (isT (.oth (.exc C) ks vs)))
 |[]=>rfl
 |t::ts=>by
  rw[iw,PySem.W.kitAny,Mz h t (ks:=ks) (vs:=vs),sY]
  cases isT (.oth (.exc C) ks vs) t with
  |true=>rfl
  |false=>simpa using E8 h ts
section
variable {X:Cx}{pins:gG}{σ:L2.St}{H:Hp}{s:gb}
theorem R7(I:Inv X pins σ H s)(hd:iE X.K H O d x)(rx:RelV x u)(h: ∀tk,Q (.bool (isT d t)) {s with toks:=tk}):
  wpAny (model X.prog X.w) A (call (.builtin "isinstance") [u,.type t.n]) Q E s:=by
 cases d with
 |non=>have:=Az hd;subst this;cases rx;exact rf PySem.W.kitx_none I.kIn True.intro (zI X.K .non t) (fun z=>nomatch z) h
 |bl b=>have:=zg hd;subst this;cases rx;exact rf PySem.W.kitx_bool I.kIn True.intro (zI X.K (.bl b) t) (fun z=>nomatch z) h
 |int b=>have:=gK hd;subst this;obtain⟨tk,rfl⟩:=rx;exact rf PySem.W.kitx_int I.kIn True.intro (zI X.K (.int b) t) (fun z=>nomatch z) h
 |str b=>have:=rE hd;subst this;obtain⟨tk,rfl⟩:=rx;exact rf PySem.W.kitx_str I.kIn True.intro (zI X.K (.str b) t) (fun z=>nomatch z) h
 |tup l=>
  obtain⟨a,xs,rfl,q,_⟩:=jr hd;cases rx;obtain⟨b6,_,⟨o,h1,h2,_⟩,_⟩:=I.tuple q;exact rf PySem.W.kitx_tuple I.kIn ⟨o,h1,h2⟩ (zI X.K (.tup l) t) (fun z=>nomatch z) h
 |lst l=>
  obtain⟨a,xs,rfl,q,_⟩:=iX hd;cases rx;obtain⟨b6,_,⟨o,n,h1,h2,_⟩,_⟩:=I.list q;exact rf PySem.W.kitx_list I.kIn ⟨o,h1,h2⟩ (zI X.K (.lst l) t) (fun z=>nomatch z) h
 |oth k ks vs=>
  obtain⟨a,us,rfl,q,_⟩:=mP hd;cases rx
  cases k with
  |dct=>exact rf PySem.W.kitx_dict I.kIn (zD I q) (zI X.K (.oth .dct ks vs) t) (fun z=>nomatch z) h
  |set=>exact rf PySem.W.kitx_set I.kIn (zD I q) (zI X.K (.oth .set ks vs) t) (fun z=>nomatch z) h
  |exc C=>
   obtain⟨_,o,e,h1,h2,h3⟩:=q;exact rf (h2 a) I.kIn (show ObjOk X.prog X.w H s.heap a (.frz o (.own 0)) from I.hok a _ e).1 (Mz h3 t) (fun z=>nomatch z) h
  |_=>exact q.elim
theorem R6{A:gv}{E:gD}{Q:gD}(I:Inv X pins σ H s){O:AP'}{d:D}{x:V}{u:gi}{ts:List Ty}{p:fV}{dd:Option Addr}{n:Nat}{sl:qS}(hd:iE X.K H O d x)(rx:RelV x u)
  (aZ:s.heap.get? p=some ⟨.type "tuple",dd,.seq (ts.map fun t=>Value.type t.n).toArray n,sl⟩)(h: ∀tk,Q (.bool (ts.any (isT d))) {s with toks:=tk}):wpAny (model X.prog X.w) A (call (.builtin "isinstance") [u,.ref p]) Q E s:=by
 cases d with
 |non=>have:=Az hd;subst this;cases rx;exact rd PySem.W.kitx_none I.kIn True.intro aZ (jL X.K .non ts) (fun z=>nomatch z) h
 |bl b=>have:=zg hd;subst this;cases rx;exact rd PySem.W.kitx_bool I.kIn True.intro aZ (jL X.K (.bl b) ts) (fun z=>nomatch z) h
 |int b=>have:=gK hd;subst this;obtain⟨tk,rfl⟩:=rx;exact rd PySem.W.kitx_int I.kIn True.intro aZ (jL X.K (.int b) ts) (fun z=>nomatch z) h
 |str b=>have:=rE hd;subst this;obtain⟨tk,rfl⟩:=rx;exact rd PySem.W.kitx_str I.kIn True.intro aZ (jL X.K (.str b) ts) (fun z=>nomatch z) h
 |tup l=>
  obtain⟨a,xs,rfl,q,_⟩:=jr hd;cases rx;obtain⟨b6,_,⟨o,h1,h2,_⟩,_⟩:=I.tuple q;exact rd PySem.W.kitx_tuple I.kIn ⟨o,h1,h2⟩ aZ (jL X.K (.tup l) ts) (fun z=>nomatch z) h
 |lst l=>
  obtain⟨a,xs,rfl,q,_⟩:=iX hd;cases rx;obtain⟨b6,_,⟨o,n,h1,h2,_⟩,_⟩:=I.list q;exact rd PySem.W.kitx_list I.kIn ⟨o,h1,h2⟩ aZ (jL X.K (.lst l) ts) (fun z=>nomatch z) h
 |oth k ks vs=>
  obtain⟨a,us,rfl,q,_⟩:=mP hd;cases rx
  cases k with
  |dct=>exact rd PySem.W.kitx_dict I.kIn (zD I q) aZ (jL X.K (.oth .dct ks vs) ts) (fun z=>nomatch z) h
  |set=>exact rd PySem.W.kitx_set I.kIn (zD I q) aZ (jL X.K (.oth .set ks vs) ts) (fun z=>nomatch z) h
  |exc C=>
   obtain⟨_,o,e,h1,h2,h3⟩:=q;exact rd (h2 a) I.kIn (show ObjOk X.prog X.w H s.heap a (.frz o (.own 0)) from I.hok a _ e).1 aZ (E8 h3 ts) (fun z=>nomatch z) h
  |_=>exact q.elim
end
noncomputable def qM(ts:List Ty)(d:D):Option (D×Bool):=some (.bl (ts.any (isT d)),false)
section
variable {X:Cx}{e:gf}{fa:FO}{pos p p2:Pos}{z:Str}
theorem Nm{t:Ty}(ha:PO X e fa)(hg:Gl X "isinstance")(hm:X.mg "isinstance"=none)(cn:Gl X z)(eZ:X.mg z=none)(hz:bootBuiltins z=some (.type t.n))(hn:z≠"__name__")(j8:(z==("__debug__":Str))=false)(hv:bootBuiltins "isinstance"=some (.builtin "isinstance"))
  (s1:starEach [e,.Name z p2] X.env=(false,eval e X.env)::starEach [.Name z p2] X.env)(s2:starEach [.Name z p2] X.env=(false,eval (.Name z p2) X.env)::starEach [] X.env)(i4:(backTo pos (starEach [.Name z p2] X.env)).any (·.1)=false):
  PX X (.Call (.Name "isinstance" p) [e,.Name z p2] [] pos) (kh (qM [t]) fa):=by
 have hc:iV X (.builtin "isinstance") (fun xs H Q=> ∃(O:AP') (d:D) (x:V),xs=[x,.ty t.n]/\iE X.K H O d x/\Q (.bl (isT d t)) H):=by
  intro pins s σ H xs us Q I r h;obtain⟨O,d,x,rfl,hd,q⟩:=h;obtain⟨u,w',rfl,ru,aX⟩:=vC r;cases aX;exact R7 I hd ru fun tk=>⟨.bl _,H,I.tok _,rfl,q⟩
 refine PX.imp (rQ hc hg hm hv (jK ha (jK (zB (v:= .ty t.n) cn eZ hz rfl hn j8) mH s2) s1) (by decide) (by decide) s1 i4) fun σ H Q hw=>?_;obtain⟨δ,T,rr,δ',E,e,k⟩:=hw;obtain⟨⟨o,δ1⟩,h1,e⟩:=fU e;obtain⟨x,h2,e⟩:=fU e;obtain⟨zz,h3,e⟩:=fU e;cases h3;obtain⟨rfl,rfl⟩:=gq e;refine⟨δ,T,o,δ1,E,h1,fun v H1 P1=>?_⟩;have B:=Ops.cons E P1 (Ops.nil (P1.er E));refine⟨_,x,v,rfl,B.view (j:=0) rfl rfl h2,?_⟩;have:=(B.done k).bl;simpa using this
theorem KY{t t':Ty}{z z':Str}{p3 p4:Pos}{kk}(ha:PO X e fa)(hg:Gl X "isinstance")(hm:X.mg "isinstance"=none)(cn:Gl X z)(eZ:X.mg z=none)(hz:bootBuiltins z=some (.type t.n))(hn:z≠"__name__")(j8:(z==("__debug__":Str))=false)
  (ck:Gl X z')(hmz':X.mg z'=none)(dY:bootBuiltins z'=some (.type t'.n))(bG:z'≠"__name__")(cu:(z'==("__debug__":Str))=false)(hv:bootBuiltins "isinstance"=some (.builtin "isinstance"))
  (s1:starEach [e,.Tuple [.Name z p2,.Name z' p3] kk p4] X.env=(false,eval e X.env)::starEach [.Tuple [.Name z p2,.Name z' p3] kk p4] X.env)(s2:starEach [.Tuple [.Name z p2,.Name z' p3] kk p4] X.env=(false,eval (.Tuple [.Name z p2,.Name z' p3] kk p4) X.env)::starEach [] X.env)
  (s3:starEach [.Name z p2,.Name z' p3] X.env=(false,eval (.Name z p2) X.env)::starEach [.Name z' p3] X.env)(s4:starEach [.Name z' p3] X.env=(false,eval (.Name z' p3) X.env)::starEach [] X.env)
  (i4:(backTo pos (starEach [.Tuple [.Name z p2,.Name z' p3] kk p4] X.env)).any (·.1)=false):
  PX X (.Call (.Name "isinstance" p) [e,.Tuple [.Name z p2,.Name z' p3] kk p4] [] pos) (kh (qM [t,t']) fa):=by
 have hc:iV X (.builtin "isinstance") (fun xs H Q=> ∃(O:AP') (d:D) (x:V) (q:fV),xs=[x,.ref q]/\H q=some (.tup [.ty t.n,.ty t'.n])/\iE X.K H O d x/\Q (.bl ([t,t'].any (isT d))) H):=by
  intro pins s σ H xs us Q I r h;obtain⟨O,d,x,q,rfl,hq,hd,k⟩:=h;obtain⟨u,w',rfl,ru,aX⟩:=vC r;cases aX;obtain⟨_,b6,v1,o,h1,h2,n,h3⟩:=I.hok q _ hq;obtain⟨u1,u2,rfl,r1,r2⟩:=vC v1;cases r1;cases r2;obtain⟨cls,dd,dt,sl⟩:=o;simp only at h2 h3;subst h2;subst h3;exact R6 (ts:=[t,t']) I hd ru h1 fun tk=>⟨.bl _,H,I.tok _,rfl,k⟩
 refine PX.imp (rQ hc hg hm hv (jK ha (jK (IT (jK (zB (v:= .ty t.n) cn eZ hz rfl hn j8) (jK (zB (v:= .ty t'.n) ck hmz' dY rfl bG cu) mH s4) s3)) mH s2) s1) (by decide) (by decide) s1 i4) fun σ H Q hw=>?_;obtain⟨δ,T,rr,δ',E,e,k⟩:=hw;obtain⟨⟨o,δ1⟩,h1,e⟩:=fU e;obtain⟨x,h2,e⟩:=fU e;obtain⟨zz,h3,e⟩:=fU e;cases h3;obtain⟨rfl,rfl⟩:=gq e;refine⟨δ,T,o,δ1,E,h1,fun v H1 P1=>⟨by show 2<=sizeLine;decide,fun q hq=>?_⟩⟩;have B:=Ops.cons E P1 (Ops.nil (P1.er E));have hx:=jm (o:= .tup [.ty t.n,.ty t'.n]) hq;have vw:=B.view (j:=0) rfl rfl h2;refine⟨fun a=>OwnA σ δ1 a\/T a,x,v,q,rfl,gy,?_,?_⟩
 ·rcases vw with vw|⟨a,rfl,vw⟩
  ·exact .inl (Rep.mono (fun b o e _=>hx b o e) (fun _ _ z=>z) vw)
  ·exact .inr ⟨a,rfl,vw.mono (fun b o e _=>hx b o e) (fun _ _ z=>z) fun o e=>hx a o e⟩
 ·exact(B.done k) _ _ hx Rep.mkBl
end
noncomputable def sy:List D->Option (List Bool)
 |[]=>some []
 | .bl b::l=>(sy l).map (b:: ·)
 |_::_=>none
noncomputable def Gq:D->Option (D×Bool)
 | .lst l=>(sy l).map fun bs=>(.bl (bs.all id),false)
 |_=>none
theorem um{K H}{O:AP'}: ∀{l:List D} {bs:List Bool} {xs:List V} {b6:hJ},sy l=some bs->RepL K H O l xs->Vals xs b6->LSm.BoolsAre b6 bs
 |[],bs,xs,b6,h,r,v=>by
  cases h;rw[RepL] at r;subst r;cases v;exact .nil
 | .bl b::l,bs,xs,b6,h,r,v=>by
  obtain⟨bs',h1,rfl⟩:=hG h;rw[RepL] at r;obtain⟨x,xr,rfl,r1,r2⟩:=r;have:=r1.bl;subst this
  cases v with
  |cons a c=>cases a;exact .cons b (um h1 r2 c)
 | .non::l,_,_,_,h,_,_=>by cases h
 | .int _::l,_,_,_,h,_,_=>by cases h
 | .str _::l,_,_,_,h,_,_=>by cases h
 | .tup _::l,_,_,_,h,_,_=>by cases h
 | .lst _::l,_,_,_,h,_,_=>by cases h
 | .oth _ _ _::l,_,_,_,h,_,_=>by cases h
section
variable {X:Cx}
theorem zK{h h':gz}{o:Obj}(hk: ∀b x,b∉[h.objs.size]->(h.push o).get? b=some x->h'.get? b=some x)(b:fV)(x:Obj)(e:h.get? b=some x):h'.get? b=some x:=
 hk b x (fun z=>by have:=mN.mp z;subst this;exact absurd (iM e) (oz _)) (gY _ e)
theorem yv(hc:X.calm=true):iV X (.builtin "all") (rDn X.K (g1 Gq)):=nL fun pins s σ H x u Q O d z I ru np hd hg G=>by
 cases d with
 |lst l=>
  obtain⟨bs,hb,rfl⟩:=hG hg;obtain⟨p,xs,rfl,q,r⟩:=iX hd;cases ru;obtain⟨b6,v,pl,_⟩:=I.list q;have are:=um hb r v;have hh:X.A.in1.handled=none:=I.ok.hd hc;have plt:p<s.heap.objs.size:=by obtain⟨_,e,_⟩:=pl.isList;exact iM e
  refine call_all_walk (CJ pl.isList ⟨s.heap.objs.size,[s.heap.objs.size,p],[s.heap.objs.size],b6.toArray.size,_,_,fun i=>(bs[i]?).getD true,rfl,Walks.list hh _ p (ie plt) b6.toArray,
   ⟨⟨_,iU _ rfl,rfl,rfl⟩,pl.isList.push _⟩,fun i w s' Q' E' hP hQ=>?_,fun h' tk hk=>?_⟩)
  ·obtain⟨b,e,rfl⟩:=are.get i w (by simpa using hP);dsimp only at hQ;rw[e] at hQ;exact oK hQ
  ·rw[gU,are.length,LSm.range_all];exact⟨.bl _,H,I.kept (zK hk),rfl,G.bl⟩
 |_=>cases hg
noncomputable def JL:=gI fun i j=>some (.int (if j>i then j else i))
noncomputable def JK:=gI fun i j=>some (.int (if j<i then j else i))
theorem DX(hc:X.calm=true):iV X (.builtin "max") (rDn X.K (g2 JL)):=J7 fun pins s σ H x y us Q O d e z I r np h1 h2 hg G=>by
 obtain⟨i,j,w,rfl,rfl,hf,rfl⟩:=uR hg;cases hf;exact Gx hc pins s σ H [x,y] us Q I r ⟨i,j,by rw[gK h1,gK h2],G.int⟩
theorem DW(hc:X.calm=true):iV X (.builtin "min") (rDn X.K (g2 JK)):=J7 fun pins s σ H x y us Q O d e z I r np h1 h2 hg G=>by
 obtain⟨i,j,w,rfl,rfl,hf,rfl⟩:=uR hg;cases hf;exact Gw hc pins s σ H [x,y] us Q I r ⟨i,j,by rw[gK h1,gK h2],G.int⟩
theorem vO{lo:Int}{n:Nat}{acc:jy}(h:ItemsOf (fun i v=> ∃t,v= .int (lo+(i:Int)*1) t) acc n):Vals ((List.range n).map fun(k:Nat)=>V.int (lo+k)) acc.toList:=by
 have key: ∀(l:hJ) (m:Nat),(∀(j:Nat) v,l[j]?=some v-> ∃t,v= .int (lo+((m+j:Nat):Int)) t)->Vals ((List.range' m l.length).map fun(k:Nat)=>V.int (lo+k)) l:=by
  intro l
  induction l with
  |nil=>intro m _;exact .nil
  |cons v l ih=>
   intro m hv;obtain⟨t,e⟩:=hv 0 v rfl;refine .cons ⟨t,by simpa using e⟩ (ih (m+1) fun j w hw=>?_);obtain⟨t',e'⟩:=hv (j+1) w (by simpa using hw);exact⟨t',by rw[e'];congr 2;first|done|omega⟩
 have:=key acc.toList 0 fun j v hv=>by
  obtain⟨t,e⟩:=h.2 j v (by simpa using hv);exact⟨t,by rw[e];congr 1⟩
 rw[iG,h.1,<-List.range_eq_range'] at this;exact this
theorem C9{K H}(lo:Int)(n:Nat):RepL K H O (iA lo n) ((List.range n).map fun(k:Nat)=>V.int (lo+k)):=by
 unfold iA
 induction(List.range n) with
 |nil=>exact RepL.nil
 |cons k l ih=>exact RepL.cons Rep.mkInt ih
end
def RgOk(lo hi:Int):Prop:= -(2^62)<=lo/\lo<2^62/\ -(2^62)<=hi/\hi<2^62/\(hi-lo).toNat<=2^24
instance(lo hi:Int):Decidable (RgOk lo hi):=by unfold RgOk;infer_instance
noncomputable def rgV(lo hi:Int):List V:=(List.range (hi-lo).toNat).map fun(k:Nat)=>V.int (lo+k)
theorem RgOk.small{lo hi:Int}(h:RgOk lo hi):Builtin.Range.small lo hi 1=true:=small_one h.1 h.2.1 h.2.2.1 h.2.2.2.1
theorem Ex(lo hi:Int):Builtin.Range.rangeSize lo hi 1=((hi-lo).toNat:Nat):=by rw[rangeSize_one];split<;>omega
section
variable {prog:gw}{w:gm}{A:gv}{E:gD}{s:gb}
theorem DU{Q:List Value->Shared->Prop}{r:fV}{lo hi:Int}{t u v:Tok}(hh:A.handled=none)(hr:IsRange s.heap r lo hi 1 t u v)(ok:RgOk lo hi)
  (hQ: ∀(h':gz) tk (acc:jy),(∀b o,s.heap.get? b=some o->h'.get? b=some o)->ItemsOf (fun i v=> ∃t,v= .int (lo+(i:Int)*1) t) acc (hi-lo).toNat->Q acc.toList {s with heap:=h',toks:=tk}):
  wpAny (model prog w) A (collect (.ref r)) Q E s:=by
 unfold collect;refine fW (Cr (qZ F.entry_proto_collect ?_));rw[oE F.plain_proto_collect _];refine fW (m:=newList []) (kW ?_);refine gg ⟨qA F.plain_list_iadd _,qZ F.entry_list_iadd ?_⟩;rw[oE F.plain_list_iadd _];have e0:=iU s.heap (o:=({cls:= .type "list",data:= .seq ([]:List Value).toArray}:Obj)) rfl
 let R:Result->Shared->Prop:=fun r s'=> ∃(h':gz) (tk:Nat) (acc:jy) (c':Nat),r= .ok (.ret (.ref s.heap.objs.size))/\s'={s with heap:=h',toks:=tk}/\(∀b o,s.heap.get? b=some o->h'.get? b=some o)/\
  h'.get? s.heap.objs.size=some {cls:= .type "list",dict:=none,data:= .seq acc c',slots:= #[]}/\ItemsOf (fun i v=> ∃t,v= .int (lo+(i:Int)*1) t) acc (hi-lo).toNat
 have fin: ∀{r s'},R r s'-> ∃v,r= .ok (.ret v)/\wpAny (model prog w) A (match v with
   |Value.ref a=>do
    match(<-load a).data with
     |Data.seq xs _=>pure xs.toList
     |_=>unsupported "internal:collect"
   |_=>unsupported "internal:collect") Q E s':=fun {r s'} hR=>by
  obtain⟨h',tk,acc,c',rfl,rfl,hk,aS,l9⟩:=hR;exact⟨_,rfl,fW (m:=load s.heap.objs.size) (tE aS (gg (hQ h' tk acc hk l9)))⟩
 refine ox (wpAny_extend_range (A:=A) (R:=R) (s:={s with heap:=s.heap.push {cls:= .type "list",data:= .seq ([]:List Value).toArray}}) hh (gY _ hr) ok.small (Ex lo hi) ok.2.2.2.2 _ _ 0 e0 fun h' tk i3 c' hk aS l9=>
  ⟨h',tk,i3,c',rfl,rfl,fun b o e=>hk b o (ie (iM e)) (gY _ e),aS,l9⟩) (fun f s' h=>?_) (fun e s' h=>?_)
 ·cases f with
  |done f=>
   obtain⟨v,hv,h2⟩:=fin h;cases hv;exact h2
  |again c'=>exact⟨h.1,oJ h.2 fun r bx hr=>by obtain⟨v,rfl,h2⟩:=fin hr;exact h2⟩
 ·obtain⟨v,hv,_⟩:=fin h;cases hv
theorem zh{Q₁:gD}{r:fV}{lo hi:Int}{t u v:Tok}(hh:A.handled=none)(hr:IsRange s.heap r lo hi 1 t u v)(ok:RgOk lo hi)
  (h: ∀(h':gz) tk (acc:jy),(∀b o,s.heap.get? b=some o->h'.get? b=some o)->ItemsOf (fun i v=> ∃t,v= .int (lo+(i:Int)*1) t) acc (hi-lo).toNat->Q₁ (.ref h'.objs.size) {s with heap:=h'.push {cls:= .type "tuple",data:= .seq acc},toks:=tk}):
  codeAny (model prog w) A (.call (.builtin "tuple.__new__") ⟨[.type "tuple",.ref r],[]⟩) (wants Q₁ E) s:=by
 refine ve ?_;refine fW (m:=checkBuiltinCall "tuple.__new__" _) (oq (F.newCall_tuple_1 _) (gg ⟨qA F.plain_tuple_new _,qZ F.entry_tuple_new ?_⟩));rw[oE F.plain_tuple_new _];have bS:=sub_tuple_self;have hinit:=init_tuple_lookup;have hmh:=madeHere_tuple;have p7:s.TypeIs (.ref r) "range":=⟨_,hr,rfl⟩
 have hh1:A.in1.handled=none:=hh
 wp_walk using rA p7,DU hh1 hr ok
 intro h' tk acc hk l9;have hz:acc.size<=sizeLine:=by rw[l9.1,jd];have:=ok.2.2.2.2;omega
 refine fW (m:=Builtin.Tuple.tupleExact acc.toList.toArray) ?_;unfold Builtin.Tuple.tupleExact;refine kW ?_ (by show acc.toList.toArray.size<=sizeLine;simpa using hz);refine gg ?_;have e:acc.toList.toArray=acc:=by simp
 rw[e];exact h h' tk acc hk l9
theorem xm{Q:gD}{r:fV}{lo hi:Int}{t u v:Tok}(hh:A.handled=none)(hr:IsRange s.heap r lo hi 1 t u v)(ok:RgOk lo hi)
  (h: ∀(h':gz) tk (acc:jy),(∀b o,s.heap.get? b=some o->h'.get? b=some o)->ItemsOf (fun i v=> ∃t,v= .int (lo+(i:Int)*1) t) acc (hi-lo).toNat->Q (.ref h'.objs.size) {s with heap:=h'.push {cls:= .type "tuple",data:= .seq acc},toks:=tk}):
  wpAny (model prog w) A (call (.type "tuple") [.ref r]) Q E s:=by
 refine callType_codes (Q₁:=fun obj s₁=>s₁.TypeIs obj "tuple"/\Q obj s₁) Km (F.typeCall_tuple_1 _) F.entry_object_init
  (zh hh hr ok fun h' tk acc hm l9=>⟨⟨_,iU _ rfl,rfl⟩,h h' tk acc hm l9⟩) fun obj s₁ h₁=>?_
 exact⟨h₁.1,F.args_object_init_2 obj _,object_init_meets Km.init.lookup Km.made (by decide) prog w A.in1 _ s₁ ⟨h₁.1,rfl,h₁.2⟩⟩
end
section
variable {X:Cx}
theorem yt:iV X (.type "range") (fun xs H Q=> ∃i j,xs=[.int i,.int j]/\ ∀r,H r=none->Q (.ref r) (upd H r (.rng i j))):=by
 intro pins s σ H xs us Q I r h;obtain⟨i,j,rfl,h⟩:=h;obtain⟨u,u',rfl,⟨t,rfl⟩,⟨t',rfl⟩⟩:=vC r;exact call_range_2 ⟨.ref _,_,I.laid (o:= .rng i j) (fun b o e=>gY _ e) (gQ _) ⟨_,_,_,iU _ rfl⟩,rfl,h _ I.fresh⟩
theorem xo(hc:X.calm=true):iV X (.type "list") (fun xs H Q=> ∃r lo hi,xs=[.ref r]/\H r=some (.rng lo hi)/\RgOk lo hi/\ ∀l,H l=none->Q (.ref l) (upd H l (.lst (rgV lo hi)))):=by
 intro pins s σ H xs us Q I eJ h;obtain⟨r,lo,hi,rfl,hr,ok,h⟩:=h;obtain⟨u,rfl,ru⟩:=rF eJ;cases ru;obtain⟨t,u,v,er⟩:=I.hok r _ hr;refine call_list_range (A:=X.A) (I.ok.hd hc) er ok.small (Ex lo hi) ok.2.2.2.2 fun h' tk acc c kp e items=>?_;have rv:=vO items;refine⟨.ref _,_,I.laid kp (gQ _) (show ObjOk X.prog X.w _ _ _ (.lst (rgV lo hi)) from⟨?_,acc.toList,c,rv,by simpa using e⟩),rfl,h _ I.fresh⟩;have:=ok.2.2.2.2;simp only[rgV,iq,List.length_range,jd];omega
theorem wL(hc:X.calm=true):iV X (.type "tuple") (fun xs H Q=> ∃r lo hi,xs=[.ref r]/\H r=some (.rng lo hi)/\RgOk lo hi/\ ∀l,H l=none->Q (.ref l) (upd H l (.tup (rgV lo hi)))):=by
 intro pins s σ H xs us Q I eJ h;obtain⟨r,lo,hi,rfl,hr,ok,h⟩:=h;obtain⟨u,rfl,ru⟩:=rF eJ;cases ru;obtain⟨t,u,v,er⟩:=I.hok r _ hr;refine xm (A:=X.A) (I.ok.hd hc) er ok fun h' tk acc kp items=>?_;have rv:=vO items;have I1:Inv X pins σ H {s with heap:=h',toks:=tk}:=I.kept kp;refine⟨.ref _,_,I1.laid (fun b o e=>gY _ e) (gQ _) (show ObjOk X.prog X.w _ _ _ (.tup (rgV lo hi)) from⟨?_,acc.toList,rv,by have:=zb h' acc;simpa using this⟩),rfl,h _ I1.fresh⟩;have:=ok.2.2.2.2;simp only[rgV,iq,List.length_range,jd];omega
noncomputable def gRg(mk:List D->D)(o:Bool):List D->Option (D×Bool)
 |[.int j]=>if RgOk 0 j then some (mk (iA 0 j.toNat),o) else none
 |[.int i,.int j]=>if RgOk i j then some (mk (iA i (j-i).toNat),o) else none
 |_=>none
theorem Ey{K H}(lo hi:Int):RepL K H O (iA lo (hi-lo).toNat) (rgV lo hi):=C9 lo _
variable {a b:gf}{fa fb:FO}{p p2 pos aY:Pos}
theorem AD(h:upd H r o l=none):H l=none:=by
 by_cases e:l=r
 ·subst e;rw[gy] at h;cases h
 ·rwa [gA e] at h
theorem yC{K:gu}{T T':AP'}{σ:L2.St}{δ δ':Dn}{H H':Hp}{os:List Opd}{vs:List V}{ds:List D}(B:Ops K T σ δ H os vs δ' H' T')(h:rM δ' os=some ds){is:gO}(hd:ds=is.map .int):vs=is.map .int:=by
 obtain⟨h1,h2⟩:=lT h;apply vb;intro j;by_cases hj:j<is.length
 ·rw[xy B h (j:=j) (i:=is[j]) (by rw[hd];simp[hj])];simp[hj]
 ·have l1:=B.len;subst hd;simp at h1;rw[yW (by omega),yW (by simp;omega)]
theorem Nd{T:String}{z:Str}{mk:List D->D}{o:Bool}(hT:(T="list"/\mk= .lst/\o=true)\/(T="tuple"/\mk= .tup/\o=false))(hc:X.calm=true)(hg:Gl X z)(hm:X.mg z=none)(hv:bootBuiltins z=some (.type T))(hn:z≠"__name__")(j8:(z==("__debug__":Str))=false)
  (cP:Gl X "range")(bj:X.mg "range"=none)(ha:PA X [a,b] (tA X.K [fa,fb]))
  (s1:starEach [.Call (.Name "range" p2) [a,b] [] aY] X.env=(false,eval (.Call (.Name "range" p2) [a,b] [] aY) X.env)::starEach [] X.env)(s2:starEach [a,b] X.env=(false,eval a X.env)::starEach [b] X.env)
  (i4:(backTo pos (starEach [] X.env)).any (·.1)=false)(bg:(backTo aY (starEach [b] X.env)).any (·.1)=false):
  PX X (.Call (.Name z p) [.Call (.Name "range" p2) [a,b] [] aY] [] pos) (gW (gRg mk o) [fa,fb]):=by
 have len2: ∀{δ δ1:Dn} {os:List Opd},iL [fa,fb] δ=some (os,δ1)->os.length=2:=fun {δ δ1 os} h1=>by
  unfold iL at h1;obtain⟨p,q1,h1⟩:=fU h1;obtain⟨q,q2,h1⟩:=fU h1;unfold iL at q2;obtain⟨p3,q3,q2⟩:=fU q2;obtain⟨q4,q5,q2⟩:=fU q2;unfold iL at q5;cases q5;obtain⟨rfl,rfl⟩:=gq h1;cases q2;rfl
 rcases hT with⟨rfl,rfl,rfl⟩|⟨rfl,rfl,rfl⟩
 ·refine PX.imp (mV (xo hc) hg hm hv (jK (mV yt cP bj boot_range ha (by decide) (by decide) s2 bg) mH s1) hn j8 s1 i4) fun σ H Q hw=>?_;obtain⟨δ,T,rr,δ',E,e,k⟩:=hw;obtain⟨⟨os,δ1⟩,h1,e⟩:=fU e;obtain⟨ds,h2,e⟩:=fU e;obtain⟨zz,h3,e⟩:=fU e;obtain⟨rfl,rfl⟩:=gq e;refine⟨δ,T,os,δ1,E,h1,fun vs H1 T1 B=>?_⟩;unfold gRg at h3;split at h3
  ·obtain⟨hl,_⟩:=lT h2;have:=len2 h1;simp at hl;omega
  ·rename_i i j;obtain⟨ok,rfl⟩:=gM h3;refine⟨i,j,yC B h2 (is:=[i,j]) rfl,fun r hr=>⟨r,i,j,rfl,gy,ok,fun l hl=>?_⟩⟩;have hx: ∀a u,H1 a=some u->upd (upd H1 r (.rng i j)) l (.lst (rgV i j)) a=some u:=fun a u e=>jm hl a u (jm hr a u e);exact(B.done k) l _ (AD hl) hx ⟨rgV i j,gy,Ey i j⟩
  ·cases h3
 ·refine PX.imp (mV (wL hc) hg hm hv (jK (mV yt cP bj boot_range ha (by decide) (by decide) s2 bg) mH s1) hn j8 s1 i4) fun σ H Q hw=>?_;obtain⟨δ,T,rr,δ',E,e,k⟩:=hw;obtain⟨⟨os,δ1⟩,h1,e⟩:=fU e;obtain⟨ds,h2,e⟩:=fU e;obtain⟨zz,h3,e⟩:=fU e;obtain⟨rfl,rfl⟩:=gq e;refine⟨δ,T,os,δ1,E,h1,fun vs H1 T1 B=>?_⟩;unfold gRg at h3;split at h3
  ·obtain⟨hl,_⟩:=lT h2;have:=len2 h1;simp at hl;omega
  ·rename_i i j;obtain⟨ok,rfl⟩:=gM h3;refine⟨i,j,yC B h2 (is:=[i,j]) rfl,fun r hr=>⟨r,i,j,rfl,gy,ok,fun l hl=>?_⟩⟩;have hx: ∀a u,H1 a=some u->upd (upd H1 r (.rng i j)) l (.tup (rgV i j)) a=some u:=fun a u e=>jm hl a u (jm hr a u e);exact(B.done k) _ _ hx (Rep.mkTup ⟨gy,B.np (nOw (AD hl))⟩ (Ey i j))
  ·cases h3
end
def Src(h:gz)(it l:fV)(i:Nat)(xs:jy):Prop:=(h.IsListIter it l i/\h.IsList l xs)\/(h.IsTupleIter it l i/\h.IsTuple l xs)
section
variable {prog:gw}{w:gm}{A:gv}{E:gD}{s:gb}{it l:fV}{i:Nat}{xs:jy}
theorem Src.ne(x:Src h it l i xs):l≠it:=by
 intro e;subst e;rcases x with⟨⟨o,h1,h2,h3⟩,o',g1,g2,n,g3⟩|⟨⟨o,h1,h2,h3⟩,o',g1,g2,n,g3⟩<;>(rw[h1] at g1;cases g1;rw[h3] at g3;cases g3)
theorem Src.lt(x:Src h it l i xs):it<h.objs.size/\l<h.objs.size:=by
 rcases x with⟨⟨o,h1,_⟩,o',g1,_⟩|⟨⟨o,h1,_⟩,o',g1,_⟩<;>exact⟨iM h1,iM g1⟩
theorem Src.keep(x:Src h it l i xs)(k1: ∀o,h.get? it=some o->h'.get? it=some o)(k2: ∀o,h.get? l=some o->h'.get? l=some o):Src h' it l i xs:=by
 rcases x with⟨⟨o,h1,r⟩,o',g1,r'⟩|⟨⟨o,h1,r⟩,o',g1,r'⟩
 ·exact .inl ⟨⟨o,k1 _ h1,r⟩,o',k2 _ g1,r'⟩
 ·exact .inr ⟨⟨o,k1 _ h1,r⟩,o',k2 _ g1,r'⟩
theorem vF{x:gi}{Q:gD}(hit:s.heap.IsTupleIter it l i)(hl:s.heap.IsTuple l xs)(hx:xs[i]?=some x)
  (hQ: ∀h',h'.IsTupleIter it l (i+1)->Heap.SameBut it s.heap h'->Q x {s with heap:=h'}):wpAny (model prog w) A (Builtin.SmallTypes.nextOf (.ref it)) Q E s:=by
 obtain⟨o,ho,hc,hd⟩:=id hit;obtain⟨ol,eY,_,nl,aD⟩:=hl;unfold Builtin.SmallTypes.nextOf;refine fW (qf (name:=Str.ofString "__next__") hit.typeIs yV (kX yV hit.typeIs Ha ?_ (G9 _)));refine fW (m:=field (.ref it) 0) (lN ho hd (x:= .ref l) rfl ?_);show wpAny _ _ (if(Value.ref l==Value.none)=true then _ else _) _ _ s;rw[gk (by show ¬(Value.ref l==Value.none)=true;exact iB)];refine fW (m:=field (.ref it) 1) (lN ho hd (x:= .int i 0) rfl ?_);refine fW (m:=seqItems? (.ref l)) (oo eY aD ?_);simp only[ot,hx];refine fW (qz ho hd (by simp) (gg ⟨x,rfl,gg (hQ _ ⟨_,qd _ ho (yU (pX hd _)),(yT ..).trans hc,?_⟩ (qY ..))⟩));rw[pX hd];simp[rawInt]
theorem wZ{Q:gD}(hh:A.handled=none)(hit:s.heap.IsTupleIter it l i)(hl:s.heap.IsTuple l xs)(hx:xs[i]?=none)
  (hE: ∀h' e,Heap.ExtBut it s.heap h'->(∃o,h'.get? e=some o/\o.cls= .type "StopIteration")->E (.ref e) {s with heap:=h'}):wpAny (model prog w) A (Builtin.SmallTypes.nextOf (.ref it)) Q E s:=by
 obtain⟨o,ho,hc,hd⟩:=id hit;obtain⟨ol,eY,_,nl,aD⟩:=hl;unfold Builtin.SmallTypes.nextOf;refine fW (qf (name:=Str.ofString "__next__") hit.typeIs yV (kX yV hit.typeIs Ha ?_ (G9 _)));refine fW (m:=field (.ref it) 0) (lN ho hd (x:= .ref l) rfl ?_);show wpAny _ _ (if(Value.ref l==Value.none)=true then _ else _) _ _ s;rw[gk (by show ¬(Value.ref l==Value.none)=true;exact iB)];refine fW (m:=field (.ref it) 1) (lN ho hd (x:= .int i 0) rfl ?_);refine fW (m:=seqItems? (.ref l)) (oo eY aD ?_);simp only[ot,hx];refine fW (rp (fW (qz ho hd (by simp) ?_)));refine fW (m:=newExc (.type "StopIteration") []) ?_;simp only[newExc,newTuple];refine fW (kW (fW (m:=firstArgMember _ _) (oq (a:=Value.none) (by first|rfl|(simp only[firstArgMember];rfl)) ?_)) (by size_fits));refine kW ?_ (by size_fits);simp only[raiseNew];refine fW (Cq ?_)
 first|rw[show A.in1.handled=none from hh]|rw[hh]
 exact fW (gg (Cp (hE _ _ (((qY ..).extBut.push _).push _) ⟨_,iU _ rfl,rfl⟩)))
theorem Src.item{x:gi}{Q:gD}(st:Src s.heap it l i xs)(hx:xs[i]?=some x)(hQ: ∀h',Src h' it l (i+1) xs->Heap.SameBut it s.heap h'->Q x {s with heap:=h'}):
  wpAny (model prog w) A (Builtin.SmallTypes.nextOf (.ref it)) Q E s:=by
 have ne:=st.ne;rcases st with⟨a,b⟩|⟨a,b⟩
 ·exact wpAny_nextOf_list_item a b hx fun h' a' sb=>hQ h' (.inl ⟨a',b.extBut sb.extBut ne⟩) sb
 ·exact vF a b hx fun h' a' sb=>hQ h' (.inr ⟨a',b.extBut sb.extBut ne⟩) sb
theorem Src.stop{Q:gD}(hh:A.handled=none)(st:Src s.heap it l i xs)(hx:xs[i]?=none)
  (hE: ∀h' e,Heap.ExtBut it s.heap h'->(∃o,h'.get? e=some o/\o.cls= .type "StopIteration")->E (.ref e) {s with heap:=h'}):wpAny (model prog w) A (Builtin.SmallTypes.nextOf (.ref it)) Q E s:=by
 rcases st with⟨a,b⟩|⟨a,b⟩
 ·exact wpAny_nextOf_list_end hh a b hx hE
 ·exact wZ hh a b hx hE
theorem Src.new(hl:s.heap.IsList l xs\/s.heap.IsTuple l xs)(hQ: ∀h',Src h' s.heap.objs.size l 0 xs->h'.objs.size=s.heap.objs.size+1->(∀b o,s.heap.get? b=some o->h'.get? b=some o)->Q (.ref s.heap.objs.size) {s with heap:=h'}):
  wpAny (model prog w) A (pyIter (.ref l)) Q E s:=by
 rcases hl with hl|hl
 ·exact CJ hl (hQ _ (.inl ⟨⟨_,iU _ rfl,rfl,rfl⟩,hl.push _⟩) (nN ..) fun b o e=>gY _ e)
 ·exact wpAny_pyIter_tuple hl (hQ _ (.inr ⟨⟨_,iU _ rfl,rfl,rfl⟩,hl.push _⟩) (nN ..) fun b o e=>gY _ e)
end
section
variable {prog:gw}{w:gm}{A:gv}{E:gD}{s:gb}{e it l:fV}{i:Nat}{c:Int}{xs:jy}
end
section
variable {X:Cx}{pins:gG}{σ:L2.St}{H:Hp}{s:gb}{h':gz}
theorem Fv{t':Nat}{ch:iI}{a:fV}{o:HO}(I:Inv X pins σ H s)(hf: ∀b∈ch,mJ X pins H b)(k: ∀b u,b∉ch->s.heap.get? b=some u->h'.get? b=some u)(ha:s.heap.objs.size<=a)(new:ObjOk X.prog X.w (upd H a o) h' a o):
  Inv X pins σ (upd H a o) {s with heap:=h',toks:=t'}:=by
 have hn:=I.hok.fresh ha;have au: ∀b u,H b=some u->b∉ch:=fun b u e z=>by have:=(hf b z).1;rw[this] at e;cases e
 have up: ∀b u,H b=some u->upd H a o b=some u:=fun b u e=>by rw[gA (kf e hn)];exact e
 have fr: ∀b u,s.heap.get? b=some u->H b=none->upd H a o b=none:=fun b u e n=>by
  rw[gA (fun z=>by subst z;exact absurd (iM e) (Nat.not_lt.mpr ha))];exact n
 refine I.step (g':=s.gens) (d':=s.drawn) (ch:=ch) (fun b hb=>?_) (fun b u _ _ hc e _=>k b u hc e) (fun b u _ _ hc e _=>⟨u.slots,k b u hc e⟩) (fun b u _ e n=>fr b u e n)
  (fun b u hc e=>⟨u,k b u hc e⟩) (fun b xs e=>up b _ e) (fun b _ _ e=>up b _ e) (fun b ps e=>⟨#[],by rw[up b _ e];simp⟩) (fun m hm=>?_) (fun b u e=>?_) I.bare
 ·obtain⟨_,f1,f2,f3,f4,f5⟩:=hf b hb;exact⟨f3,f1,f4,f5⟩
 ·obtain⟨u,es,ep,ho,r⟩:=hm;exact⟨u,es,ep,k _ u (fun z=>(hf _ z).2.1 rfl) ho,r⟩
 ·by_cases hb:b=a
  ·subst hb;rw[gy] at e;cases e;exact new
  ·rw[gA hb] at e;refine(I.hok b u e).stay (fun c v hc q=>k c v ?_ q) (fun c q=>up c _ q) (fun c xs q=>up c _ q) fun c _ _ q=>up c _ q;rcases hc with z|z
   ·rw[z];exact au b u e
   ·exact au c _ z
theorem Fw{t':Nat}{ch:iI}(I:Inv X pins σ H s)(hf: ∀b∈ch,mJ X pins H b)(k: ∀b u,b∉ch->s.heap.get? b=some u->h'.get? b=some u):Inv X pins σ H {s with heap:=h',toks:=t'}:=by
 have au: ∀b u,H b=some u->b∉ch:=fun b u e z=>by have:=(hf b z).1;rw[this] at e;cases e
 refine I.step (g':=s.gens) (d':=s.drawn) (ch:=ch) (fun b hb=>?_) (fun b u _ _ hc e _=>k b u hc e) (fun b u _ _ hc e _=>⟨u.slots,k b u hc e⟩) (fun b u _ e n=>n)
  (fun b u hc e=>⟨u,k b u hc e⟩) (fun b xs e=>e) (fun b _ _ e=>e) (fun b ps e=>⟨#[],by rw[e];simp⟩) (fun m hm=>?_) (fun b u e=>?_) I.bare
 ·obtain⟨_,f1,f2,f3,f4,f5⟩:=hf b hb;exact⟨f3,f1,f4,f5⟩
 ·obtain⟨u,es,ep,ho,r⟩:=hm;exact⟨u,es,ep,k _ u (fun z=>(hf _ z).2.1 rfl) ho,r⟩
 ·refine(I.hok b u e).stay (fun c v hc q=>k c v ?_ q) (fun c q=>q) fun c xs q=>q;rcases hc with z|z
  ·rw[z];exact au b u e
  ·exact au c _ z
end
def SqX(b:Bool)(K:gu)(H:Hp)(l:fV)(xs:List V):Prop:=if b=true then SqL K H l xs else SqT K H l xs
def ItX(b:Bool)(h:gz)(it l:fV)(i:Nat):Prop:=if b=true then h.IsListIter it l i else h.IsTupleIter it l i
theorem ItX.keep(x:ItX b h it l i)(k: ∀o,h.get? it=some o->h'.get? it=some o):ItX b h' it l i:=by
 cases b
 ·exact PySem.Heap.IsTupleIter.at (show h.IsTupleIter it l i from x) k
 ·exact PySem.Heap.IsListIter.at (show h.IsListIter it l i from x) k
theorem ItX.obj(x:ItX b h it l i): ∃o,h.get? it=some o/\ ∀v,o.data≠ .cell v:=by
 cases b<;>(obtain⟨o,e,c,d⟩:=x;exact⟨o,e,fun v z=>by rw[d] at z;cases z⟩)
section
variable {X:Cx}{pins:gG}{σ:L2.St}{H:Hp}{s:gb}
theorem uI(I:Inv X pins σ H s)(q:SqX b X.K H l xs)(t:ItX b s.heap it l i): ∃b6,Vals xs b6/\Src s.heap it l i b6.toArray:=by
 cases b with
 |true=>obtain⟨b6,v,p,_⟩:=I.list q;exact⟨b6,v,.inl ⟨t,p.isList⟩⟩
 |false=>obtain⟨b6,v,p,_⟩:=I.tuple q;exact⟨b6,v,.inr ⟨t,p⟩⟩
theorem Eo(I:Inv X pins σ H s)(q:SqX b X.K H l xs)(q':SqX b X.K H l ys):xs=ys:=by
 cases b with
 |true=>exact I.list_inj q q'
 |false=>exact I.tuple_inj q q'
theorem JA(t:ItX b h it l i)(hs:Src h it l i xs)(ae:Src h' it l i' xs)(kl: ∀o,h.get? l=some o->h'.get? l=some o):ItX b h' it l i':=by
 cases b with
 |true=>
  rcases ae with⟨a,_⟩|⟨a,c⟩
  ·exact a
  ·rcases hs with⟨_,o,h1,h2,_⟩|⟨⟨o,h1,h2,_⟩,_⟩
   ·obtain⟨o',g1,g2,_⟩:=c;rw[kl _ h1] at g1;cases g1;rw[h2] at g2;injection g2 with g2;exact absurd g2 (by decide)
   ·obtain⟨o',g1,g2,_⟩:=t;rw[h1] at g1;cases g1;rw[h2] at g2;injection g2 with g2;exact absurd g2 (by decide)
 |false=>
  rcases ae with⟨a,c⟩|⟨a,_⟩
  ·rcases hs with⟨⟨o,h1,h2,_⟩,_⟩|⟨_,o,h1,h2,_⟩
   ·obtain⟨o',g1,g2,_⟩:=t;rw[h1] at g1;cases g1;rw[h2] at g2;injection g2 with g2;exact absurd g2 (by decide)
   ·obtain⟨o',g1,g2,_⟩:=c;rw[kl _ h1] at g1;cases g1;rw[h2] at g2;injection g2 with g2;exact absurd g2 (by decide)
  ·exact a
end
theorem CY{K H}(q:SqA b K H P a xs):SqX b K H a xs:=by
 cases b with
 |true=>exact q.l
 |false=>exact q.t
open AutoSeq1 (wpAny_loadPart')
section
variable {prog:gw}{w:gm}{A:gv}{E:gD}{s:gb}
end
section
variable {X:Cx}{pins:gG}{σ:L2.St}{H:Hp}{s:gb}{elts:iF}{k1:Nat}{y6:Pos}
theorem HU(I:Inv X pins σ H s)(q:SqX b X.K H l xs): ∃b6,Vals xs b6/\(s.heap.IsList l b6.toArray\/s.heap.IsTuple l b6.toArray):=by
 cases b with
 |true=>obtain⟨b6,v,p,_⟩:=I.list q;exact⟨b6,v,.inl p.isList⟩
 |false=>obtain⟨b6,v,p,_⟩:=I.tuple q;exact⟨b6,v,.inr p⟩
end
section
variable {prog:gw}{w:gm}{A:gv}{E:gD}{s:gb}{z TI TO i1 i2 l1 l2:fV}{k:Nat}{xs ys:jy}{x y a b:gi}
theorem Ht{Q:gD}(D:ZipApart z TI TO i1 i2 l1 l2)(hz:IsZip s.heap z TI TO .none)(p7:IsPair s.heap TI (.ref i1) (.ref i2))(t7:IsPair s.heap TO a b)(h1:Src s.heap i1 l1 k xs)(h2:Src s.heap i2 l2 k ys)(hx:xs[k]?=some x)(hy:ys[k]?=some y)
  (hQ: ∀h',IsZip h' z TI TO (rawInt s.heap.objs.size)->IsPair h' TO x y->Src h' i1 l1 (k+1) xs->Src h' i2 l2 (k+1) ys->IsPair h' s.heap.objs.size x y->(∀c o,c≠z->c≠TO->c≠i1->c≠i2->s.heap.get? c=some o->h'.get? c=some o)->Q (.ref s.heap.objs.size) {s with heap:=h'}):
  wpAny (model prog w) A (Builtin.«zip.__next__» ⟨[.ref z],[]⟩) (fun fin s'=> ∃v,fin= .done (.ret v)/\Q v s') E s:=by
 refine fW (m:=field (.ref z) 2) (lN hz rfl (x:= .bool false) rfl (fW (m:=field (.ref z) 3) (lN hz rfl (x:= .ref TI) rfl (fW (oo p7 rfl (fW (m:=Builtin.SmallTypes.ownedTupleIsFree (.ref z)) ?_))))));unfold Builtin.SmallTypes.ownedTupleIsFree;refine fW (lN hz rfl (x:= .none) rfl (gg ?_));simp only[gS];refine fW (rp (fW (lN hz rfl (x:= .ref TO) rfl (fW (sU hz (by simp) fun h₁ bA w5=>?_)))));replace bA:IsZip h₁ z TI TO .ellipsis:=bA;refine fW ?_;simp only[List.zipIdx_cons,List.zipIdx_nil,tq,vf];have c1:Src h₁ i1 l1 k xs:=h1.keep (fun o e=>w5.extBut _ o D.i1z e) (fun o e=>w5.extBut _ o D.l1z e);refine fW (fW (va (fW (m:=Builtin.SmallTypes.nextOf (.ref i1)) (c1.item (s:={s with heap:=h₁}) hx fun h₂ c1₂ v9=>gg ?_))));have aF:IsPair h₂ TO a b:=v9.extBut _ _ D.TOi1 (w5.extBut _ _ D.TOz t7);refine fW (oo (s:={s with heap:=h₂}) aF rfl (fW (Co (s:={s with heap:=h₂}) aF fun h₃ bu v8=>fW (Cn (gg ?_)))));replace bu:IsPair h₃ TO x b:=bu;have c2:Src h₃ i2 l2 k ys:=h2.keep (fun o e=>v8.extBut _ o D.TOi2.symm (v9.extBut _ o D.i12.symm (w5.extBut _ o D.i2z e))) (fun o e=>v8.extBut _ o D.l2TO (v9.extBut _ o D.l2i1 (w5.extBut _ o D.l2z e)));refine fW (fW (va (fW (m:=Builtin.SmallTypes.nextOf (.ref i2)) (c2.item (s:={s with heap:=h₃}) hy fun h₄ c2₄ aW=>gg ?_))));have hTO₄:IsPair h₄ TO x b:=aW.extBut _ _ D.TOi2 bu;refine fW (oo (s:={s with heap:=h₄}) hTO₄ rfl (fW (Co (s:={s with heap:=h₄}) hTO₄ fun h₅ bt aJ=>fW (Cn (gg (gg ?_))))));replace bt:IsPair h₅ TO x y:=bt;refine fW (oo (s:={s with heap:=h₅}) bt rfl (fW (wpAny_newTuple (s:={s with heap:=h₅}) ?_)));have hsz:h₅.objs.size=s.heap.objs.size:=by rw[aJ.1,aW.1,v8.1,v9.1,w5.1]
 have hz₅:IsZip h₅ z TI TO .ellipsis:=aJ.extBut _ _ D.TOz.symm (aW.extBut _ _ D.i2z.symm (v8.extBut _ _ D.TOz.symm (v9.extBut _ _ D.i1z.symm bA)));have hk₅: ∀c o,c≠z->c≠TO->c≠i1->c≠i2->s.heap.get? c=some o->h₅.get? c=some o:=fun c o d1 d2 d3 d4 e=>aJ.extBut _ _ d2 (aW.extBut _ _ d4 (v8.extBut _ _ d2 (v9.extBut _ _ d3 (w5.extBut _ _ d1 e))));have c1₅:Src h₅ i1 l1 (k+1) xs:=c1₂.keep (fun o e=>aJ.extBut _ o D.TOi1.symm (aW.extBut _ o D.i12 (v8.extBut _ o D.TOi1.symm e))) (fun o e=>aJ.extBut _ o D.l1TO (aW.extBut _ o D.l1i2 (v8.extBut _ o D.l1TO e)));have c2₅:Src h₅ i2 l2 (k+1) ys:=c2₄.keep (fun o e=>aJ.extBut _ o D.TOi2.symm e) (fun o e=>aJ.extBut _ o D.l2TO e);have hzlt:z<h₅.objs.size:=iM hz₅;refine fW (m:=Builtin.SmallTypes.ownedTupleHandOut (.ref z) (.ref h₅.objs.size)) ?_;unfold Builtin.SmallTypes.ownedTupleHandOut;have hz₆:IsZip (h₅.push {cls:= .type "tuple",data:= .seq #[x,y]}) z TI TO .ellipsis:=gY _ hz₅;refine fW (sU (s:={s with heap:=h₅.push {cls:= .type "tuple",data:= .seq #[x,y]}}) hz₆ (by simp) fun h₇ eQ sb₇=>?_);replace eQ:IsZip h₇ z TI TO (rawInt h₅.objs.size):=eQ;refine sU (s:={s with heap:=h₇}) eQ (by simp) fun h₈ dX sb₈=>?_;replace dX:IsZip h₈ z TI TO (rawInt h₅.objs.size):=dX;have up: ∀c o,c≠z->h₅.get? c=some o->h₈.get? c=some o:=fun c o d1 e=>sb₈.extBut _ _ d1 (sb₇.extBut _ _ d1 (gY _ e));have hT₈:IsPair h₈ h₅.objs.size x y:=sb₈.extBut _ _ (nP hzlt) (sb₇.extBut _ _ (nP hzlt) (iU _ rfl));rw[hsz] at dX hT₈;refine gg ⟨_,rfl,?_⟩;show Q (.ref h₅.objs.size) _;rw[hsz];exact hQ h₈ dX (up _ _ D.TOz bt) (c1₅.keep (fun o e=>up _ o D.i1z e) fun o e=>up _ o D.l1z e) (c2₅.keep (fun o e=>up _ o D.i2z e) fun o e=>up _ o D.l2z e) hT₈ fun c o d1 d2 d3 d4 e=>up c o d1 (hk₅ c o d1 d2 d3 d4 e)
theorem Hs{Q:Fin->Shared->Prop}(hh:A.handled=none)(D:ZipApart z TI TO i1 i2 l1 l2)(hz:IsZip s.heap z TI TO .none)(p7:IsPair s.heap TI (.ref i1) (.ref i2))(t7:IsPair s.heap TO a b)(h1:Src s.heap i1 l1 k xs)(h2:Src s.heap i2 l2 k ys)(o9:xs[k]?=none\/ys[k]?=none)
  (hE: ∀h' e,(∀c o,c≠z->c≠TO->c≠i1->c≠i2->s.heap.get? c=some o->h'.get? c=some o)->(∃o,h'.get? e=some o/\o.cls= .type "StopIteration")->E (.ref e) {s with heap:=h'}):wpAny (model prog w) A (Builtin.«zip.__next__» ⟨[.ref z],[]⟩) Q E s:=by
 have notzip: ∀{h:gz} {e:fV} {oe:Obj} {f0:gi},IsZip h z TI TO f0->h.get? e=some oe->oe.cls= .type "StopIteration"->e≠z:=fun hzz bY bp q=>by
  subst q;have hzz':_=_:=hzz;rw[bY] at hzz';cases hzz';injection bp with bp;exact absurd bp (by decide)
 refine fW (m:=field (.ref z) 2) (lN hz rfl (x:= .bool false) rfl (fW (m:=field (.ref z) 3) (lN hz rfl (x:= .ref TI) rfl (fW (oo p7 rfl (fW (m:=Builtin.SmallTypes.ownedTupleIsFree (.ref z)) ?_))))));unfold Builtin.SmallTypes.ownedTupleIsFree;refine fW (lN hz rfl (x:= .none) rfl (gg ?_));simp only[gS];refine fW (rp (fW (lN hz rfl (x:= .ref TO) rfl (fW (sU hz (by simp) fun h₁ bA w5=>?_)))));replace bA:IsZip h₁ z TI TO .ellipsis:=bA;refine fW ?_;simp only[List.zipIdx_cons,List.zipIdx_nil,tq,vf];have c1:Src h₁ i1 l1 k xs:=h1.keep (fun o e=>w5.extBut _ o D.i1z e) (fun o e=>w5.extBut _ o D.l1z e)
 cases hx:xs[k]? with
 |none=>
  refine fW (fW (va (fW (m:=Builtin.SmallTypes.nextOf (.ref i1)) (c1.stop (s:={s with heap:=h₁}) hh hx fun h₂ e v9 ⟨oe,bY,bp⟩=>?_))));have hz₂:IsZip h₂ z TI TO .ellipsis:=v9 _ _ D.i1z.symm bA;exact sU (s:={s with heap:=h₂}) hz₂ (by simp) fun h₃ _ v8=>hE h₃ e (fun c o d1 _ d3 _ q=>v8.extBut _ _ d1 (v9 _ _ d3 (w5.extBut _ _ d1 q))) ⟨oe,v8.extBut _ _ (notzip hz₂ bY bp) bY,bp⟩
 |some x=>
  have hy:ys[k]?=none:=by rcases o9 with h|h;rw[hx] at h;cases h;exact h
  refine fW (fW (va (fW (m:=Builtin.SmallTypes.nextOf (.ref i1)) (c1.item (s:={s with heap:=h₁}) hx fun h₂ c1₂ v9=>gg ?_))));have aF:IsPair h₂ TO a b:=v9.extBut _ _ D.TOi1 (w5.extBut _ _ D.TOz t7);refine fW (oo (s:={s with heap:=h₂}) aF rfl (fW (Co (s:={s with heap:=h₂}) aF fun h₃ bu v8=>fW (Cn (gg ?_)))));have c2:Src h₃ i2 l2 k ys:=h2.keep (fun o e=>v8.extBut _ o D.TOi2.symm (v9.extBut _ o D.i12.symm (w5.extBut _ o D.i2z e))) (fun o e=>v8.extBut _ o D.l2TO (v9.extBut _ o D.l2i1 (w5.extBut _ o D.l2z e)));refine fW (fW (va (fW (m:=Builtin.SmallTypes.nextOf (.ref i2)) (c2.stop (s:={s with heap:=h₃}) hh hy fun h₄ e aW ⟨oe,bY,bp⟩=>?_))));have hz₄:IsZip h₄ z TI TO .ellipsis:=aW _ _ D.i2z.symm (v8.extBut _ _ D.TOz.symm (v9.extBut _ _ D.i1z.symm bA));exact sU (s:={s with heap:=h₄}) hz₄ (by simp) fun h₅ _ aJ=>hE h₅ e (fun c o d1 d2 d3 d4 q=>aJ.extBut _ _ d1 (aW _ _ d4 (v8.extBut _ _ d2 (v9.extBut _ _ d3 (w5.extBut _ _ d1 q))))) ⟨oe,aJ.extBut _ _ (notzip hz₄ bY bp) bY,bp⟩
theorem Dc{Q:Eb}(D:ZipApart z TI TO i1 i2 l1 l2)(hz:IsZip s.heap z TI TO .none)(p7:IsPair s.heap TI (.ref i1) (.ref i2))(t7:IsPair s.heap TO a b)(h1:Src s.heap i1 l1 k xs)(h2:Src s.heap i2 l2 k ys)(hx:xs[k]?=some x)(hy:ys[k]?=some y)
  (hQ: ∀h',IsZip h' z TI TO (rawInt s.heap.objs.size)->IsPair h' TO x y->Src h' i1 l1 (k+1) xs->Src h' i2 l2 (k+1) ys->IsPair h' s.heap.objs.size x y->(∀c o,c≠z->c≠TO->c≠i1->c≠i2->s.heap.get? c=some o->h'.get? c=some o)->Q (some (.ref s.heap.objs.size)) {s with heap:=h'}):
  wpAny (model prog w) A (pyNext (.ref z)) Q E s:=by
 have hT:s.TypeIs (.ref z) "zip":=⟨_,hz,rfl⟩
 unfold pyNext
 exact fW (qy (qf (name:=Str.ofString "__next__") hT yS (kX yS hT F.entry_zip_next
  (Ht D hz p7 t7 h1 h2 hx hy fun h' a1 a2 a3 a4 a5 a6=>gg (hQ h' a1 a2 a3 a4 a5 a6)) (F.args_zip_next_1 _))))
theorem vP{Q:Eb}(hh:A.handled=none)(D:ZipApart z TI TO i1 i2 l1 l2)(hz:IsZip s.heap z TI TO .none)(p7:IsPair s.heap TI (.ref i1) (.ref i2))(t7:IsPair s.heap TO a b)(h1:Src s.heap i1 l1 k xs)(h2:Src s.heap i2 l2 k ys)(o9:xs[k]?=none\/ys[k]?=none)
  (hQ: ∀h',(∀c o,c≠z->c≠TO->c≠i1->c≠i2->s.heap.get? c=some o->h'.get? c=some o)->Q none {s with heap:=h'}):wpAny (model prog w) A (pyNext (.ref z)) Q E s:=by
 have hT:s.TypeIs (.ref z) "zip":=⟨_,hz,rfl⟩
 unfold pyNext
 exact fW (qy (qf (name:=Str.ofString "__next__") hT yS (kX yS hT F.entry_zip_next
  (Hs hh D hz p7 t7 h1 h2 o9 fun h' e hk ⟨o,ho,hc⟩=>fW (sT (T:="StopIteration") (b:=true) ⟨o,ho,hc⟩ Cm (gg (hQ _ hk)))) (F.args_zip_next_1 _))))
end
theorem Ko(l1 l2:fV)(xs ys:jy):Meets (Builtin.«zip.__new__» ⟨[.type "zip",.ref l1,.ref l2],[]⟩) (fun _ R s=>(s.heap.IsList l1 xs\/s.heap.IsTuple l1 xs)/\(s.heap.IsList l2 ys\/s.heap.IsTuple l2 ys)/\
  ∀h1 h2,Src h1 s.heap.objs.size l1 0 xs->h1.objs.size=s.heap.objs.size+1->(∀b o,s.heap.get? b=some o->h1.get? b=some o)->Src h2 h1.objs.size l2 0 ys->h2.objs.size=h1.objs.size+1->(∀b o,h1.get? b=some o->h2.get? b=some o)->
   R (.ok (.ret (.ref ((h2.push {cls:= .type "tuple",data:= .seq #[.ref s.heap.objs.size,.ref h1.objs.size]}).push {cls:= .type "tuple",data:= .seq #[.none,.none]}).objs.size)))
    {s with heap:=((h2.push {cls:= .type "tuple",data:= .seq #[.ref s.heap.objs.size,.ref h1.objs.size]}).push {cls:= .type "tuple",data:= .seq #[.none,.none]}).push {cls:= .type "zip",data:= .fields #[.none,.bool false,.bool false,.ref h2.objs.size,.ref (h2.push {cls:= .type "tuple",data:= .seq #[.ref s.heap.objs.size,.ref h1.objs.size]}).objs.size]}}):=
 .of_wp fun prog w A R s h=>by
  obtain⟨hp,g,d,tk,os⟩:=s;obtain⟨bJ,aM,h⟩:=h;have bS:=sub_zip
  wp_walk using Src.new bJ
  intro h1 a1 a2 a3
  have hl2':h1.IsList l2 ys\/h1.IsTuple l2 ys:=by
   rcases aM with⟨o,e,r⟩|⟨o,e,r⟩
   ·exact .inl ⟨o,a3 _ _ e,r⟩
   ·exact .inr ⟨o,a3 _ _ e,r⟩
  wp_walk using Src.new (s:=⟨h1,g,d,tk,os⟩) hl2'
  intro h2 b1 b2 b3
  wp_walk
  exact⟨_,rfl,h h1 h2 a1 a2 a3 b1 b2 b3⟩
noncomputable def ItZ(b1 b2:Bool)(K:gu)(l1 l2:fV):It:=⟨fun i H=> ∃xs ys x y,SqX b1 K H l1 xs/\SqX b2 K H l2 ys/\xs[i]?=some x/\ys[i]?=some y,
 fun i H x H'=> ∃(T:fV) (u v:V),x= .ref T/\H T=none/\H'=upd H T (.tup [u,v])/\ ∀xs ys,SqX b1 K H l1 xs->SqX b2 K H l2 ys->xs[i]?=some u/\ys[i]?=some v,
 fun i H=> ∃xs ys,SqX b1 K H l1 xs/\SqX b2 K H l2 ys/\(xs.length<=i\/ys.length<=i)⟩
structure ZA(z TI TO i1 i2:fV):Prop where
 a1:TI≠z
 a2:TO≠z
 a3:i1≠z
 a4:i2≠z
 a5:TI≠TO
 a6:TI≠i1
 a7:TI≠i2
 a8:TO≠i1
 a9:TO≠i2
 a10:i1≠i2
theorem rG{b:Bool}{K:gu}{H:Hp}{l:fV}{xs:List V}{X:Cx}{pins:gG}{σ:L2.St}{s:gb}(I:Inv X pins σ H s)(hK:X.K=K)(q:SqX b K H l xs){fp:iI}(hf: ∀a∈fp,mJ X pins H a):l∉fp:=by
 subst hK;intro hm;have hn:=(hf l hm).1
 have base: ∀o,X.K.lookup l=some o->False:=fun o e=>by
  have e1:=I.mod.kin l o e;rcases(hf l hm).2.2.2.1 with z|z
  ·exact I.ok.noex l o e1 z
  ·have:=(I.ok.bs l o e1).1;exact absurd (iM this) (Nat.not_lt.mpr z)
 cases b with
 |true=>
  rcases q with(q|⟨o,q⟩)|⟨o,b6,n,e,_⟩
  ·rw[hn] at q;cases q
  ·rw[hn] at q;cases q
  ·exact base o e
 |false=>
  rcases q with(q|⟨o,q⟩)|⟨o,b6,n,e,_⟩
  ·rw[hn] at q;cases q
  ·rw[hn] at q;cases q
  ·exact base o e
theorem HF{P:gw}{w:gm}{K:gu}{elts:iF}{k1}{pos:Pos}(b1 b2:Bool)(z TI TO i1 i2 l1 l2:fV)(D:ZA z TI TO i1 i2):
  Turn P w K (.Tuple elts k1 pos) (ItZ b1 b2 K l1 l2) [z,TI,TO,i1,i2] z (fun i h=>IsZip h z TI TO .none/\IsPair h TI (.ref i1) (.ref i2)/\(∃a b,IsPair h TO a b)/\ItX b1 h i1 l1 i/\ItX b2 h i2 l2 i) where
 mem:=by simp
 obj:=fun i h st a ha=>by
  obtain⟨hz,p7,⟨u,v,t7⟩,s1,s2⟩:=st;simp only[jt,jY,ma] at ha;rcases ha with rfl|rfl|rfl|rfl|rfl
  ·exact⟨_,hz,fun v e=>by have e':Data.fields _=Data.cell v:=e;cases e'⟩
  ·exact⟨_,p7,fun v e=>by have e':Data.seq _ _=Data.cell v:=e;cases e'⟩
  ·exact⟨_,t7,fun v e=>by have e':Data.seq _ _=Data.cell v:=e;cases e'⟩
  ·exact s1.obj
  ·exact s2.obj
 keep:=fun i h h' st k=>by
  obtain⟨hz,p7,⟨u,v,t7⟩,s1,s2⟩:=st;exact⟨k z (by simp) _ hz,k TI (by simp) _ p7,⟨u,v,k TO (by simp) _ t7⟩,s1.keep fun o q=>k i1 (by simp) o q,s2.keep fun o q=>k i2 (by simp) o q⟩
 item:=by
  intro X hP hw hK hc i pins s σ H E I hf st hg;obtain⟨hz,p7,⟨a0,b0,t7⟩,s1,s2⟩:=st;obtain⟨xs,ys,x,y,bf,ba,hx,hy⟩:=hg;have n1:=rG I hK bf hf;have n2:=rG I hK ba hf;simp only[jt,jY,ma,not_or] at n1 n2;subst hP hw hK;obtain⟨bQ,eI,aj⟩:=uI I bf s1;obtain⟨c9,eG,ai⟩:=uI I ba s2;obtain⟨u,hu,ru⟩:=eI.get hx;obtain⟨v,hv,rv⟩:=eG.get hy;have AP:ZipApart z TI TO i1 i2 l1 l2:=⟨D.a1,D.a2,D.a3,D.a4,D.a5,D.a6,D.a7,D.a8,D.a9,D.a10,n1.1,n1.2.2.1,n1.2.2.2.1,n1.2.2.2.2,n2.1,n2.2.2.1,n2.2.2.2.1,n2.2.2.2.2⟩
  refine Dc AP hz p7 t7 aj ai (x:=u) (y:=v) (by simpa using hu) (by simpa using hv) fun h' z' t1 c1 c2 hT kp=>⟨.ref s.heap.objs.size,rfl,?_⟩
  refine wpAny_letOwnedTupleGo_zip (s:={s with heap:=h'}) z' fun cU z'' sb=>?_;replace sb:Heap.SameBut z h' cU:=sb
  have eM: ∀a o,a∉[z,TI,TO,i1,i2]->s.heap.get? a=some o->cU.get? a=some o:=fun a o na q=>by
   simp only[jt,jY,ma,not_or] at na;exact sb.extBut a o na.1 (kp a o na.1 na.2.2.1 na.2.2.2.1 na.2.2.2.2 q)
  have lt: ∀{c o},s.heap.get? c=some o->s.heap.objs.size≠c:=fun e=>nP (iM e);have hT'':IsPair cU s.heap.objs.size u v:=sb.extBut _ _ (lt hz) hT
  have I1:Inv X pins σ (upd H s.heap.objs.size (.tup [x,y])) {s with heap:=cU}:=
   Fv (t':=s.toks) I hf eM (gQ _) (show ObjOk X.prog X.w _ _ _ (.tup [x,y]) from⟨by show 2<=sizeLine;decide,[u,v],.cons ru (.cons rv .nil),_,hT'',rfl,0,rfl⟩)
  have t1'':ItX b1 cU i1 l1 (i+1):=JA s1 aj (c1.keep (fun o q=>sb.extBut _ o D.a3 q) fun o q=>sb.extBut _ o n1.1 q) fun o q=>eM l1 o (by simp only[jt,jY,ma,not_or];exact n1) q;have t2'':ItX b2 cU i2 l2 (i+1):=JA s2 ai (c2.keep (fun o q=>sb.extBut _ o D.a4 q) fun o q=>sb.extBut _ o n2.1 q) fun o q=>eM l2 o (by simp only[jt,jY,ma,not_or];exact n2) q;refine⟨.ref s.heap.objs.size,_,I1,rfl,⟨_,x,y,rfl,I.fresh,rfl,fun bM ys' q1 q2=>by rw[Eo I q1 bf,Eo I q2 ba];exact⟨hx,hy⟩⟩,⟨z'',sb.extBut _ _ D.a1 (kp _ _ D.a1 D.a5 D.a6 D.a7 p7),⟨u,v,sb.extBut _ _ D.a2 t1⟩,t1'',t2''⟩,fun a ha=>?_⟩;have n0:=(hf a ha).1;rw[gA]
  ·exact n0
  ·intro e;simp only[jt,jY,ma] at ha;rcases ha with rfl|rfl|rfl|rfl|rfl
   ·exact lt hz e.symm
   ·exact lt p7 e.symm
   ·exact lt t7 e.symm
   ·exact absurd e (ie aj.lt.1)
   ·exact absurd e (ie ai.lt.1)
 done:=by
  intro X hP hw hK hc i pins s σ H E I hf st hg;obtain⟨hz,p7,⟨a0,b0,t7⟩,s1,s2⟩:=st;obtain⟨xs,ys,bf,ba,o9⟩:=hg;have n1:=rG I hK bf hf;have n2:=rG I hK ba hf;simp only[jt,jY,ma,not_or] at n1 n2;subst hP hw hK;obtain⟨bQ,eI,aj⟩:=uI I bf s1;obtain⟨c9,eG,ai⟩:=uI I ba s2;have e1:=eI.length;have e2:=eG.length;have AP:ZipApart z TI TO i1 i2 l1 l2:=⟨D.a1,D.a2,D.a3,D.a4,D.a5,D.a6,D.a7,D.a8,D.a9,D.a10,n1.1,n1.2.2.1,n1.2.2.2.1,n1.2.2.2.2,n2.1,n2.2.2.1,n2.2.2.2.1,n2.2.2.2.2⟩
  refine vP (I.ok.hd hc) AP hz p7 t7 aj ai (o9.imp (fun h=>by simp;omega) fun h=>by simp;omega) fun h' kp=>⟨rfl,Fw (t':=s.toks) I hf fun a o na q=>?_⟩
  simp only[jt,jY,ma,not_or] at na;exact kp a o na.1 na.2.2.1 na.2.2.2.1 na.2.2.2.2 q
 self:=fun _ _ _ _ _ st h=>wpAny_pyIter_zip st.1 h
theorem JD{K:gu}{P O:AP'}{H1:Hp}{a1 a2:fV}{xs ys:List V}{ds es:List D}{b1 b2:Bool}(q1:SqA b1 K H1 P a1 xs)(r1:RepL K H1 O ds xs)(q2:SqA b2 K H1 P a2 ys)(r2:RepL K H1 O es ys)(hP: ∀a,P a->O a):
  ItOk K (ItZ b1 b2 K a1 a2) ((ds.zip es).map fun p=> .tup [p.1,p.2]) P O H1:=by
 have sq: ∀{b:Bool} {a:fV} {xs:List V},SqA b K H1 P a xs-> ∀Hi,(∀a o,H1 a=some o-> ¬P a->Hi a=some o)->SqX b K Hi a xs:=fun q Hi hp=>CY (q.mono hp fun _ z=>z);refine⟨fun i d Hi hd hp=>?_,fun i Hi hi hp=>⟨xs,ys,sq q1 Hi hp,sq q2 Hi hp,by rw[r1.length,r2.length];simp at hi;omega⟩⟩;rw[iN] at hd;obtain⟨⟨d1,d2⟩,h1,h2⟩:=hG hd;obtain⟨h3,h4⟩:=BU.mp h1;obtain⟨x,hx,rx⟩:=r1.get h3;obtain⟨y,hy,ry⟩:=r2.get h4;refine⟨⟨xs,ys,x,y,sq q1 Hi hp,sq q2 Hi hp,hx,hy⟩,fun v H' eS=>?_⟩;obtain⟨T,u,w,rfl,hT,rfl,hz⟩:=eS;obtain⟨g1,g2⟩:=hz xs ys (sq q1 Hi hp) (sq q2 Hi hp);rw[hx] at g1;cases g1;rw[hy] at g2;cases g2;have ext:=jm (o:= .tup [x,y]) hT;refine⟨ext,fun O' h1 cz=>?_⟩;subst h2;exact Rep.mkTup ⟨gy,cz T hT⟩ (RepL.cons (Rep.mono (fun b o e n=>ext b o (hp b o e fun z=>n (hP b z))) (fun b hb z=>h1 b hb z) rx) (RepL.cons (Rep.mono (fun b o e n=>ext b o (hp b o e fun z=>n (hP b z))) (fun b hb z=>h1 b hb z) ry) RepL.nil))
section
variable {X:Cx}{elts:iF}{k1:Nat}{y6:Pos}
theorem Oq:bootBuiltins "zip"=some (.type "zip"):=by decide+kernel
def R8(K:gu)(ta:TA):TI:=fun σ H R=>ta σ H fun vs H1=> ∃b1 b2 l1 l2 xs ys,vs=[.ref l1,.ref l2]/\SqX b1 K H1 l1 xs/\SqX b2 K H1 l2 ys/\R (ItZ b1 b2 K l1 l2) H1
theorem EW(I:Inv X pins σ H s)(hq:SqX b X.K H l xs)(src:Src s.heap it l i b6):ItX b s.heap it l i:=by
 cases b with
 |true=>
  rcases src with⟨a,_⟩|⟨_,o,h1,h2,_⟩
  ·exact a
  ·obtain⟨_,_,p,_⟩:=I.list hq;obtain⟨o',g1,g2,_⟩:=p.isList;rw[h1] at g1;cases g1;rw[h2] at g2;injection g2 with g2;exact absurd g2 (by decide)
 |false=>
  rcases src with⟨_,o,h1,h2,_⟩|⟨a,_⟩
  ·obtain⟨_,_,p,_⟩:=I.tuple hq;obtain⟨o',g1,g2,_⟩:=p;rw[h1] at g1;cases g1;rw[h2] at g2;injection g2 with g2;exact absurd g2 (by decide)
  ·exact a
theorem NG{a b:gf}{ta:TA}{p pos:Pos}(hg:Gl X "zip")(hm:X.mg "zip"=none)(ha:PA X [a,b] ta)(hs:starEach [a,b] X.env=(false,eval a X.env)::starEach [b] X.env)(i4:(backTo pos (starEach [b] X.env)).any (·.1)=false):
  PI X (.Tuple elts k1 y6) (.Call (.Name "zip" p) [a,b] [] pos) (R8 X.K ta):=by
 intro pins s0 σ H0 R I0 h;refine vm (tP I0 hg hm Oq (CH (thn (ha pos pins s0 σ H0 _ I0 h) fun us s ⟨vs,H,I,r1,b1,b2,l1,l2,xs,ys,hv,bf,ba,q⟩=>?_) hs i4));subst hv;obtain⟨u,v,rfl,ru,rv⟩:=vC r1;cases ru;cases rv;obtain⟨bQ,_,bJ⟩:=HU I bf;obtain⟨c9,_,aM⟩:=HU I ba;refine callType_new F.called_zip (by decide) (F.typeCall_zip_2 _ _) (F.newCall_zip_2 _ _) (fun obj=>F.args_object_init_3 obj _ _) F.entry_zip_new (Ko l1 l2 bQ.toArray c9.toArray) ⟨bJ,aM,fun h1 h2 c1 z1 k1 c2 z2 k2=>?_⟩;generalize ho3:({cls:= .type "tuple",data:= .seq #[.ref s.heap.objs.size,.ref h1.objs.size]}:Obj)=o3;generalize ho4:({cls:= .type "tuple",data:= .seq #[.none,.none]}:Obj)=o4;have z3:(h2.push o3).objs.size=h2.objs.size+1:=nN ..;have z4:((h2.push o3).push o4).objs.size=h2.objs.size+2:=by rw[nN,z3]
 generalize ho5:({cls:= .type "zip",data:= .fields #[.none,.bool false,.bool false,.ref h2.objs.size,.ref (h2.push o3).objs.size]}:Obj)=o5;have g5:(((h2.push o3).push o4).push o5).get? ((h2.push o3).push o4).objs.size=some o5:=iU _ (by rw[<-ho5];rfl);have g4:(((h2.push o3).push o4).push o5).get? (h2.push o3).objs.size=some o4:=gY _ (iU _ (by rw[<-ho4];rfl));have g3:(((h2.push o3).push o4).push o5).get? h2.objs.size=some o3:=gY _ (gY _ (iU _ (by rw[<-ho3];rfl)));have kp: ∀c o,h2.get? c=some o->(((h2.push o3).push o4).push o5).get? c=some o:=fun c o e=>gY _ (gY _ (gY _ e));have bR:IsZip (((h2.push o3).push o4).push o5) ((h2.push o3).push o4).objs.size h2.objs.size (h2.push o3).objs.size .none:=by show _=_;rw[g5,<-ho5]
 have p7:IsPair (((h2.push o3).push o4).push o5) h2.objs.size (.ref s.heap.objs.size) (.ref h1.objs.size):=by show _=_;rw[g3,<-ho3]
 have t7:IsPair (((h2.push o3).push o4).push o5) (h2.push o3).objs.size .none .none:=by show _=_;rw[g4,<-ho4]
 have I1:Inv X pins σ H {s with heap:=((h2.push o3).push o4).push o5}:=I.kept (t':=s.toks) fun c o e=>kp c o (k2 c o (k1 c o e));have d1:=c1.keep (h':=((h2.push o3).push o4).push o5) (fun o e=>kp _ o (k2 _ o e)) (fun o e=>kp _ o (k2 _ o e));have d2:=c2.keep (h':=((h2.push o3).push o4).push o5) (fun o e=>kp _ o e) (fun o e=>kp _ o e);refine⟨⟨_,bR,rfl⟩,wpAny_pyIter_zip (s:={s with heap:=((h2.push o3).push o4).push o5}) bR ?_⟩;refine⟨((h2.push o3).push o4).objs.size,[((h2.push o3).push o4).objs.size,h2.objs.size,(h2.push o3).objs.size,s.heap.objs.size,h1.objs.size],_,_,H,rfl,I1,HF b1 b2 _ _ _ _ _ l1 l2 ⟨?_,?_,?_,?_,?_,?_,?_,?_,?_,?_⟩,⟨bR,p7,⟨_,_,t7⟩,EW I1 bf d1,EW I1 ba d2⟩,fun a ha=>?_,q⟩
 ·rw[z4];exact ie (Nat.lt_add_of_pos_right (by decide))
 ·rw[z4,z3];exact ie (oF _)
 ·rw[z4,z2,z1];exact ie (by
   have:s.heap.objs.size<s.heap.objs.size+1+1+2:=by omega
   exact this)
 ·rw[z4,z2];exact ie (by
   have:h1.objs.size<h1.objs.size+1+2:=by omega
   exact this)
 ·rw[z3];exact ie (oF _)
 ·rw[z2,z1];exact nP (by
   have:s.heap.objs.size<s.heap.objs.size+1+1:=by omega
   exact this)
 ·rw[z2];exact nP (oF _)
 ·rw[z3,z2,z1];exact nP (by
   have:s.heap.objs.size<s.heap.objs.size+1+1+1:=by omega
   exact this)
 ·rw[z3,z2];exact nP (by
   have:h1.objs.size<h1.objs.size+1+1:=by omega
   exact this)
 ·rw[z1];exact ie (oF _)
 ·have le:s.heap.objs.size<=a:=by
   simp only[jt,jY,ma] at ha;rcases ha with rfl|rfl|rfl|rfl|rfl
   ·rw[z4,z2,z1];have:s.heap.objs.size<=s.heap.objs.size+1+1+2:=by omega
    exact this
   ·rw[z2,z1];have:s.heap.objs.size<=s.heap.objs.size+1+1:=by omega
    exact this
   ·rw[z3,z2,z1];have:s.heap.objs.size<=s.heap.objs.size+1+1+1:=by omega
    exact this
   ·exact gQ _
   ·rw[z1];exact tu _
  exact I.fpOk le (I.hok.fresh le)
noncomputable def tQ(f g:FO):FIt:=fun δ=>(f δ).bind fun p=>(g p.2).bind fun q=>(res q.2 p.1).bind fun x=>(res q.2 q.1).bind fun y=>(xK x).bind fun l=>(xK y).bind fun m=>some ((l.zip m).map fun p=> .tup [p.1,p.2],q.2)
theorem IG{B:SB}{a b:gf}{f g:FO}{p pos:Pos}(hg:Gl X "zip")(hm:X.mg "zip"=none)(ha:PO X a f)(hb:PO X b g)(B1:SlB B f)(B2:SlB B g)(hs:starEach [a,b] X.env=(false,eval a X.env)::starEach [b] X.env)(u5:starEach [b] X.env=(false,eval b X.env)::starEach [] X.env)(i4:(backTo pos (starEach [b] X.env)).any (·.1)=false):
  PIX X B (.Tuple elts k1 y6) (.Call (.Name "zip" p) [a,b] [] pos) (tQ f g):=PI.imp' (NG hg hm (rR ha (rR hb zC u5) hs) hs i4) fun σ H R hw=>by
 obtain⟨δ,T,ds,δ',E,e,k⟩:=hw;obtain⟨⟨o1,δ1⟩,h1,e⟩:=fU e;obtain⟨⟨o2,δ2⟩,h2,e⟩:=fU e;obtain⟨x,h3,e⟩:=fU e;obtain⟨y,h4,e⟩:=fU e;obtain⟨l,h5,e⟩:=fU e;obtain⟨m,h6,e⟩:=fU e;obtain⟨rfl,rfl⟩:=gq e;dsimp only at h2;refine⟨δ,T,[o1,o2],δ2,E,?_,fun vs H1 T1 W=>?_⟩
 ·simp only[iL,h1,h2,Option.bind]
 ·have hl:=W.len
  match vs,hl with
  |[v,u],_=>
   obtain⟨a1,xs,rfl,q1,rr1⟩:=W.seq E (j:=0) rfl rfl h3 h5 fun i hi=>B1 _ _ _ (hi▸h1);obtain⟨a2,ys,rfl,q2,rr2⟩:=W.seq E (j:=1) rfl rfl h4 h6 fun i hi=>B2 _ _ _ (hi▸h2);exact⟨_,_,a1,a2,xs,ys,rfl,CY q1,CY q2,k _ H1 W.keep (W.er.mono (fun _ _ e _=>e) (fun b _ z=>W.tt b z) (fun a z=>W.er.dom a (W.tt a z))) (JD q1 rr1 q2 rr2 fun a z=>z.own)⟩
end
end PX
namespace TS
open PySem PyProof.Rows
section
variable(M:Model)(A:gv)(E:gD)(G:Shared->Prop){σ:Type}
def wpI{α:Type}(m:StateT σ Sem α)(Q:α->σ->Prop)(st:σ):Prop:= ∀s,G s->wpAny M A (m.run st) (fun r s'=>G s'/\Q r.1 r.2) E s
variable {M A E G}
theorem fY{α:Type}{a:α}{Q:α->σ->Prop}{st:σ}(h:Q a st):wpI M A E G (pure a:StateT σ Sem α) Q st:=fun s g=>by rw[StateT.run_pure];exact gg ⟨g,h⟩
theorem fX{α β:Type}{m:StateT σ Sem α}{f:α->StateT σ Sem β}{Q:β->σ->Prop}{st:σ}(h:wpI M A E G m (fun a b8=>wpI M A E G (f a) Q b8) st):wpI M A E G (m>>=f) Q st:=fun s g=>by
 rw[StateT.run_bind];exact fW (ox (h s g) (fun r s' h'=>h'.2 s' h'.1) fun _ _ e=>e)
theorem gR{α:Type}{c:Prop}[Decidable c]{t e:StateT σ Sem α}{Q:α->σ->Prop}{st:σ}(h1:c->wpI M A E G t Q st)(h2: ¬c->wpI M A E G e Q st):wpI M A E G (if c then t else e) Q st:=by split<;>simp_all
theorem hW{α:Type}{m:StateT σ Sem α}{Q Q':α->σ->Prop}{st:σ}(h:wpI M A E G m Q st)(hq: ∀a b8,Q a b8->Q' a b8):wpI M A E G m Q' st:=fun s g=>ox (h s g) (fun r _ h'=>⟨h'.1,hq _ _ h'.2⟩) fun _ _ e=>e
theorem kb{Q:σ->σ->Prop}{st:σ}(h:Q st st):wpI M A E G (get:StateT σ Sem σ) Q st:=fun s g=>by rw[StateT.run_get];exact gg ⟨g,h⟩
theorem Kp{Q:PUnit->σ->Prop}{st b8:σ}(h:Q ⟨⟩ b8):wpI M A E G (set b8:StateT σ Sem PUnit) Q st:=fun s g=>by rw[StateT.run_set];exact gg ⟨g,h⟩
theorem ja{f:σ->σ}{Q:PUnit->σ->Prop}{st:σ}(h:Q ⟨⟩ (f st)):wpI M A E G (modify f:StateT σ Sem PUnit) Q st:=fun s g=>by rw[StateT.run_modify];exact gg ⟨g,h⟩
theorem Av{α:Type}{m:Sem α}{Q:α->σ->Prop}{st:σ}(h: ∀s,G s->wpAny M A m (fun a s'=>G s'/\Q a st) E s):wpI M A E G (liftM m:StateT σ Sem α) Q st:=fun s g=>by
 show wpAny M A ((StateT.lift m:StateT σ Sem α).run st) _ E s;rw[StateT.run_lift];exact fW (ox (h s g) (fun a s' h'=>gg h') fun _ _ e=>e)
theorem mO{x:String}{Q:Unit->σ->Prop}{st:σ}(h:Q () st):wpI M A E G (liftM (rule x):StateT σ Sem Unit) Q st:=Av fun s g=>rp ⟨g,h⟩
theorem Au{β:Type}(f:Nat->β->StateT σ Sem (ForInStep β))(I:List Nat->β->σ->Prop)(Q:β->σ->Prop)
  (y3: ∀x gP b st,I (x::gP) b st->wpI M A E G (f x b) (fun r b8=>match r with| .done b'=>Q b' b8| .yield b'=>I gP b' b8) st)(o9: ∀b st,I [] b st->Q b st):
  ∀(l:gX) (b:β) (st:σ),I l b st->wpI M A E G (forIn l b f) Q st
 |[],b,st,h=>by rw[vf];exact fY (o9 _ _ h)
 |x::gP,b,st,h=>by
  rw[tq];refine fX (hW (y3 x gP b st h) fun r b8 h'=>?_)
  cases r with
  |done b'=>exact fY h'
  |yield b'=>exact Au f I Q y3 o9 gP b' b8 h'
theorem ig{β:Type}{a b:Nat}{f:Nat->β->StateT σ Sem (ForInStep β)}(I:Nat->β->σ->Prop){Q:β->σ->Prop}
  (y3: ∀i c st,a<=i->i<b->I i c st->wpI M A E G (f i c) (fun r b8=>match r with| .done c'=>Q c' b8| .yield c'=>I (i+1) c' b8) st)
  (o9: ∀c st,I (max a b) c st->Q c st){c:β}{st:σ}(h:I a c st):wpI M A E G (forIn [a:b] c f) Q st:=by
 rw[Std.Legacy.Range.forIn_eq_forIn_range'];have hsz:([a:b]:Std.Legacy.Range).size=b-a:=by simp[Std.Legacy.Range.size]
 show wpI M A E G (forIn (List.range' a ([a:b]:Std.Legacy.Range).size 1) c f) Q st;rw[hsz];refine Au f (fun l c st=> ∃i,a<=i/\i<=max a b/\l=List.range' i (max a b-i) 1/\I i c st) Q ?_ ?_ _ c st ⟨a,gQ _,by lia,by congr 1;lia,h⟩
 ·rintro x gP c st ⟨i,hai,hib,hl,hI⟩
  cases hn:max a b-i with
  |zero=>rw[hn] at hl;simp at hl
  |succ n=>
   rw[hn,List.range'_succ] at hl;obtain⟨rfl,rfl⟩:=uZ hl;refine hW (y3 x c st hai (by lia) hI) fun r b8 h'=>?_
   cases r with
   |done c'=>exact h'
   |yield c'=>exact⟨x+1,by lia,by lia,by congr 1;lia,h'⟩
 ·rintro c st ⟨i,hai,hib,hl,hI⟩
  have:max a b-i=0:=by
   cases hn:max a b-i with
   |zero=>rfl
   |succ n=>rw[hn,List.range'_succ] at hl;cases hl
  have:i=max a b:=by lia
  subst this;exact o9 _ _ hI
end
structure Wk(lt:kn):Prop where
 irr: ∀i,lt i i=false
 tr: ∀i j k,lt i j=true->lt j k=true->lt i k=true
 nt: ∀i j k,lt i k=true->lt i j=true\/lt j k=true
def SL(lt:kn)(i j:Nat):Prop:=lt i j=true\/(lt j i=false/\i<j)
section
variable {lt:kn}(W:Wk lt)
include W
theorem Wk.asym(h:lt i j=true):lt j i=false:=by
 cases h2:lt j i with
 |false=>rfl
 |true=>have:=W.tr _ _ _ h h2;rw[W.irr] at this;cases this
theorem Wk.le_tr(h1:lt j i=false)(h2:lt k j=false):lt k i=false:=by
 cases h:lt k i with
 |false=>rfl
 |true=>
   rcases W.nt _ j _ h with q|q
   ·rw[h2] at q;cases q
   ·rw[h1] at q;cases q
theorem Wk.lt_le(h1:lt i j=true)(h2:lt k j=false):lt i k=true:=by
 rcases W.nt _ k _ h1 with q|q
 ·exact q
 ·rw[h2] at q;cases q
theorem Wk.le_lt(h1:lt j i=false)(h2:lt j k=true):lt i k=true:=by
 rcases W.nt _ i _ h2 with q|q
 ·rw[h1] at q;cases q
 ·exact q
theorem SL.trans(h1:SL lt i j)(h2:SL lt j k):SL lt i k:=by
 rcases h1 with h1|⟨h1,e1⟩<;>rcases h2 with h2|⟨h2,e2⟩
 ·exact .inl (W.tr _ _ _ h1 h2)
 ·exact .inl (W.lt_le h1 h2)
 ·exact .inl (W.le_lt h1 h2)
 ·exact .inr ⟨W.le_tr h1 h2,by lia⟩
theorem SL.le(h:SL lt i j):lt j i=false:=h.elim W.asym fun h=>h.1
theorem SL.asym(h1:SL lt i j)(h2:SL lt j i):False:=by
 have a:=SL.le W h1;have b:=SL.le W h2;rcases h1 with h1|⟨_,e1⟩
 ·rw[b] at h1;cases h1
 ·rcases h2 with h2|⟨_,e2⟩
  ·rw[a] at h2;cases h2
  ·lia
end
noncomputable def P(p:iY)(k:Nat):Nat:=p.getD k 0
theorem Kh{p q:iY}{i j:Nat}(h:p[i]?=q[j]?):P p i=P q j:=by
 simp only[P,oD,h]
theorem ur{p:iY}{i:Nat}(h:i<p.size):p[i]?=some (P p i):=by simp[P,h]
def Up(lt:kn)(p:iY)(a b:Nat):Prop:= ∀i j,a<=i->i<j->j<b->SL lt (P p i) (P p j)
def Dn(lt:kn)(p:iY)(a b:Nat):Prop:= ∀i j,a<=i->i<j->j<b->SL lt (P p j) (P p i)
def Reg(p:iY)(a b:Nat):Prop:= ∀k,a<=k->k<b->a<=P p k/\P p k<b
section
variable {prog:gw}{w:gm}{A:gv}{E:gD}{G:Shared->Prop}{it:lL}{lt:kn}{κ:SortKind}{N:Nat}
structure Rp(it:lL)(κ:SortKind)(N:Nat)(st:hX)(p:iY):Prop where
 arr:arrOf st=p.map it
 kind:kindOf st=κ
 ok:failedOf st=none
 size:p.size=N
 perm:p.Perm (Array.range N)
def Ask(prog:gw)(w:gm)(A:gv)(E:gD)(G:Shared->Prop)(it:lL)(κ:SortKind)(N:Nat)(lt:kn):Prop:=
 ∀i j,i<N->j<N-> ∀s,G s-> ∀E',wpAny (model prog w) A (keyLt' κ (it i).1 (it j).1) (fun b s'=>G s'/\b=lt i j) E' s
theorem Rp.bound{st:hX}{p:iY}(R:Rp it κ N st p){i:Nat}(h:i<N):P p i<N:=by
 have hm:P p i∈p.toList:=by
  have:=ur (p:=p) (i:=i) (by rw[R.size];exact h);exact OE.mpr (Array.mem_of_getElem? this)
 have:=(Me.mp R.perm).mem_iff.mp hm;simpa using this
theorem vt(H:Ask prog w A E G it κ N lt){st:hX}(hk:kindOf st=κ){i j:Nat}(hi:i<N)(hj:j<N){Q:Option Bool->SortSt->Prop}(h:Q (some (lt i j)) st):wpI (model prog w) A E G (lt' (it i) (it j)) Q st:=by
 rw[lt'_eq];refine fX (kb ?_);rw[hk];refine fX (Av fun s g=>qy (ox (H i j hi hj s g fun _ _=>False) (fun b s' hb=>?_) fun e s' he=>he.elim));obtain⟨g',rfl⟩:=hb;exact⟨g',fY h⟩
theorem vz{xs:lM}{q:iY}(hx:xs=q.map it){i:Nat}(hi:i<q.size){st:hX}{Q:Keyed->SortSt->Prop}(h:Q (it (P q i)) st):wpI (model prog w) A E G (elem' xs i) Q st:=by
 rw[elem'_eq,hx];have:(q.map it)[i]?=some (it (P q i)):=by rw[Array.getElem?_map,ur hi];rfl
 rw[this];exact fY h
theorem oM(H:Ask prog w A E G it κ N lt){st:hX}{p:iY}(R:Rp it κ N st p){i j:Nat}(hi:i<N)(hj:j<N){Q:Option Bool->SortSt->Prop}(h:Q (some (lt (P p i) (P p j))) st):wpI (model prog w) A E G (ltAt' i j) Q st:=by
 rw[ltAt'_eq];refine fX (kb ?_);refine fX (vz R.arr (by rw[R.size];exact hi) (fX (vz R.arr (by rw[R.size];exact hj) ?_)));exact vt H R.kind (R.bound hi) (R.bound hj) h
theorem Dv(p:iY)(i j d:Nat):mirror (p.map it) i j d=(mirror p i j d).map it:=G8 it _ _ _ _
theorem DZ(p:iY)(i d:Nat):bubble (p.map it) i d=(bubble p i d).map it:=G8 it _ _ _ _
theorem Rp.mirror{st:hX}{p:iY}(R:Rp it κ N st p)(i j d:Nat):Rp it κ N (setArr st (PyProof.Rows.mirror (arrOf st) i j d)) (PyProof.Rows.mirror p i j d):=
 ⟨by show PyProof.Rows.mirror (arrOf st) i j d=_;rw[R.arr,Dv],R.kind,R.ok,by rw[mirror_size,R.size],(mirror_perm _ _ _ _).trans R.perm⟩
theorem Rp.bubble{st:hX}{p:iY}(R:Rp it κ N st p)(i d:Nat):Rp it κ N (setArr st (PyProof.Rows.bubble (arrOf st) i d)) (PyProof.Rows.bubble p i d):=
 ⟨by show PyProof.Rows.bubble (arrOf st) i d=_;rw[R.arr,DZ],R.kind,R.ok,by rw[bubble_size,R.size],(bubble_perm _ _ _).trans R.perm⟩
theorem uG{st:hX}{i j:Nat}{Q:Unit->SortSt->Prop}(h:Q () (setArr st (mirror (arrOf st) i j ((j-i) / 2)))):wpI (model prog w) A E G (reverseSlice' i j) Q st:=by
 rw[reverseSlice'_eq];exact ja h
theorem Hy{st:hX}{i j:Nat}{Q:Unit->SortSt->Prop}(h:Q () (setArr st (bubble (arrOf st) i (i-j)))):wpI (model prog w) A E G (moveDown' i j) Q st:=by
 rw[moveDown'_eq];exact ja h
theorem iQ(hj:j<=p.size)(k:Nat):P (mirror p i j ((j-i) / 2)) k=if i<=k/\k<j then P p (i+j-1-k) else P p k:=by
 have e:=getElem?_mirror_all (i:=i) hj k;split at e
 ·rename_i h;rw[gh h];exact Kh e
 ·rename_i h;rw[gk h];exact Kh e
theorem Ki(hs:src<p.size)(hd:d<=src)(k:Nat):P (bubble p src d) k=if k=src-d then P p src else if src-d<k/\k<=src then P p (k-1) else P p k:=by
 have e:=getElem?_bubble hs d hd k;split at e
 ·rename_i h;rw[gh h];exact Kh e
 ·rename_i h;rw[gk h];split at e
  ·rename_i h2;rw[gh h2];exact Kh e
  ·rename_i h2;rw[gk h2];exact Kh e
theorem Up.mirror(h:Up lt p a b)(hb:b<=p.size):Dn lt (PyProof.Rows.mirror p a b ((b-a) / 2)) a b:=fun i j h1 h2 h3=>by
 rw[iQ hb,iQ hb,gh ⟨by lia,h3⟩,gh ⟨h1,by lia⟩];exact h _ _ (by lia) (by lia) (by lia)
theorem Dn.mirror(h:Dn lt p a b)(hb:b<=p.size):Up lt (PyProof.Rows.mirror p a b ((b-a) / 2)) a b:=fun i j h1 h2 h3=>by
 rw[iQ hb,iQ hb,gh ⟨h1,by lia⟩,gh ⟨by lia,h3⟩];exact h _ _ (by lia) (by lia) (by lia)
theorem Reg.mirror(h:Reg p a b)(hj:j<=p.size)(h1:a<=i)(h2:j<=b):Reg (PyProof.Rows.mirror p i j ((j-i) / 2)) a b:=fun k h3 h4=>by
 rw[iQ hj];split
 ·exact h _ (by lia) (by lia)
 ·exact h _ h3 h4
theorem Eg(W:Wk lt)(H:Ask prog w A E G it κ N lt){lo d9 a:Nat}(hN:lo+d9=N)(h1:1<=a)(ha:a<=d9){st:hX}{p:iY}(R:Rp it κ N st p)(rg:Reg p lo (lo+a))(fx: ∀k,lo+a<=k->k<N->P p k=k)(up:Up lt p lo (lo+a)){Q:Option (Option Nat)×Nat->SortSt->Prop}
  (h: ∀m,a<=m->m<=d9->Reg p lo (lo+m)->Up lt p lo (lo+m)->(m=d9\/lt (P p (lo+m)) (P p (lo+m-1))=true)->Q (none,m) st):
  wpI (model prog w) A E G (forIn [a:d9] ((none,a):Option (Option Nat)×Nat) fun _ r=>do
   let x <-ltAt' (lo+r.2) (lo+r.2-1)
   match x with
   |some i8=>if i8=true then pure (ForInStep.done (none,r.2)) else pure (ForInStep.yield (none,r.2+1))
   |_=>pure (ForInStep.done (some none,r.2))) Q st:=by
 refine ig (I:=fun x c b8=>b8=st/\c=(none,x)/\Reg p lo (lo+x)/\Up lt p lo (lo+x)) ?step ?fin ⟨rfl,rfl,rg,up⟩
 case fin=>
  rintro c b8 ⟨rfl,rfl,r1,u1⟩;rw[show max a d9=d9 by lia] at r1 u1 ⊢;exact h d9 ha (gQ _) r1 u1 (.inl rfl)
 case step=>
  rintro x c b8 fF hxn ⟨rfl,rfl,r1,u1⟩;refine fX (oM H R (by lia) (by lia) ?_);dsimp only
  cases hl:lt (P p (lo+x)) (P p (lo+x-1)) with
  |true=>simp only[gS];exact fY (h x fF (by lia) r1 u1 (.inr hl))
  |false=>
   simp only[hC,ik];have hx:P p (lo+x)=lo+x:=fx _ (by lia) (by lia);have aA:=r1 (lo+x-1) (by lia) (by lia);have sl:SL lt (P p (lo+x-1)) (P p (lo+x)):= .inr ⟨hl,by lia⟩;refine fY ⟨rfl,rfl,fun k k1 k2=>?_,fun i j i1 ij j2=>?_⟩
   ·rcases yR k (lo+x) with q|q
    ·have:=r1 k k1 q;lia
    ·have:k=lo+x:=by lia
     subst this;lia
   ·rcases yR j (lo+x) with q|q
    ·exact u1 i j i1 ij q
    ·have:j=lo+x:=by lia
     subst this;rcases yR i (lo+x-1) with q2|q2
     ·exact SL.trans W (u1 i _ i1 q2 (by lia)) sl
     ·have:i=lo+x-1:=by lia
      subst this;exact sl
structure Fall(lt:kn)(p:iY)(lo x q N:Nat):Prop where
 le:q+1<=x
 fx: ∀k,lo+x<=k->k<N->P p k=k
 rg:Reg p lo (lo+x)
 dn:Dn lt p lo (lo+x-(q+1))
 st: ∀i j,lo<=i->i<lo+x-(q+1)->lo+x-(q+1)<=j->j<lo+x->lt (P p j) (P p i)=true
 eq: ∀i j,lo+x-(q+1)<=i->i<j->j<lo+x->lt (P p i) (P p j)=false/\lt (P p j) (P p i)=false/\P p i<P p j
theorem Fall.turn{p:iY}{lo x q:Nat}(F:Fall lt p lo x q N)(hz:lo+x<=p.size):Dn lt (PyProof.Rows.mirror p (lo+x-(q+1)) (lo+x) ((lo+x-(lo+x-(q+1))) / 2)) lo (lo+x):=fun i j i1 ij j2=>by
 have hle:=F.le;rw[iQ hz,iQ hz];by_cases hj:lo+x-(q+1)<=j
 ·rw[gh ⟨hj,j2⟩];by_cases hi:lo+x-(q+1)<=i
  ·rw[gh ⟨hi,by lia⟩];obtain⟨e1,e2,e3⟩:=F.eq (lo+x-(q+1)+(lo+x)-1-j) (lo+x-(q+1)+(lo+x)-1-i) (by lia) (by lia) (by lia);exact .inr ⟨e2,e3⟩
  ·rw[gk (fun z=>hi z.1)];exact .inl (F.st _ _ i1 (by lia) (by lia) (by lia))
 ·rw[gk (fun z=>hj z.1),gk (fun z=>by lia)];exact F.dn i j i1 ij (by lia)
theorem Fall.flat{p:iY}{lo x:Nat}(F:Fall lt p lo x 0 N):Dn lt p lo (lo+x):=fun i j i1 ij j2=>by
 have hle:=F.le;by_cases hj:lo+x-1<=j
 ·exact .inl (F.st i j i1 (by lia) (by lia) (by lia))
 ·exact F.dn i j i1 ij (by lia)
def Ran(it:lL)(lt:kn)(κ:SortKind)(N lo d9:Nat)(p0:iY)(aI:hX)(Q:xt):Prop:=
 ∀n st p,Rp it κ N st p->pendingOf st=pendingOf aI->1<=n->n<=d9->(∀k,k<lo->P p k=P p0 k)->(∀k,lo+n<=k->k<N->P p k=k)->Reg p lo (lo+n)->Up lt p lo (lo+n)->Q (some n) st
theorem HA(W:Wk lt)(H:Ask prog w A E G it κ N lt){lo d9 n:Nat}(hN:lo+d9=N)(hn:n<=d9){st:hX}{p:iY}(R:Rp it κ N st p)(F:Fall lt p lo n 0 N){Q:Option (Option Nat)×Nat×Nat->SortSt->Prop}
  (h: ∀x q b8 p',Rp it κ N b8 p'->pendingOf b8=pendingOf st->n<=x->x<=d9->(∀k,k<lo->P p' k=P p k)->Fall lt p' lo x q N->Q (none,x,q) b8):
  wpI (model prog w) A E G (forIn [n:d9] ((none,n,0):Option (Option Nat)×Nat×Nat) fun _ r=>do
   let x <-ltAt' (lo+r.2.1) (lo+r.2.1-1)
   match x with
   |some i8=>
    if i8=true then
     if r.2.2>0 then do
      reverseSlice' (lo+r.2.1-(r.2.2+1)) (lo+r.2.1)
      pure (ForInStep.yield (none,r.2.1+1,0))
     else pure (ForInStep.yield (none,r.2.1+1,0))
    else do
     let x <-ltAt' (lo+r.2.1-1) (lo+r.2.1)
     match x with
     |some w6=>if w6=true then pure (ForInStep.done (none,r.2.1,r.2.2)) else pure (ForInStep.yield (none,r.2.1+1,r.2.2+1))
     |_=>pure (ForInStep.done (some none,r.2.1,r.2.2))
   |_=>pure (ForInStep.done (some none,r.2.1,r.2.2))) Q st:=by
 refine ig (I:=fun x c b8=> ∃q p',c=(none,x,q)/\Rp it κ N b8 p'/\pendingOf b8=pendingOf st/\(∀k,k<lo->P p' k=P p k)/\Fall lt p' lo x q N) ?step ?fin ⟨0,p,rfl,R,rfl,fun _ _=>rfl,F⟩
 case fin=>
  rintro c b8 ⟨q,p',rfl,R',e',f',F'⟩;rw[show max n d9=d9 by lia] at F' ⊢;exact h d9 q b8 p' R' e' hn (gQ _) f' F'
 case step=>
  rintro x c b8 fF hxn ⟨q,p',rfl,R',e',f',F'⟩;have hle:=F'.le;have hx:P p' (lo+x)=lo+x:=F'.fx _ (by lia) (by lia);dsimp only;refine fX (oM H R' (by lia) (by lia) ?_);dsimp only
  have next:lt (P p' (lo+x)) (P p' (lo+x-1))=true-> ∀i,lo<=i->i<lo+x->lt (P p' (lo+x)) (P p' i)=true:=fun hl i i1 i2=>by
   by_cases hi:lo+x-(q+1)<=i
   ·by_cases aP:i=lo+x-1
    ·subst aP;exact hl
    ·exact W.lt_le hl (F'.eq i (lo+x-1) hi (by lia) (by lia)).1
   ·exact W.tr _ _ _ hl (F'.st i (lo+x-1) i1 (by lia) (by lia) (by lia))
  have grow: ∀p2:Array Nat,(∀k,¬(lo<=k/\k<lo+x)->P p2 k=P p' k)->(∀i,lo<=i->i<lo+x-> ∃j,lo<=j/\j<lo+x/\P p2 i=P p' j)->Dn lt p2 lo (lo+x)->lt (P p' (lo+x)) (P p' (lo+x-1))=true->Fall lt p2 lo (x+1) 0 N:=fun p2 h1 h2 h3 hl=>by
   refine⟨by lia,fun k k1 k2=>by rw[h1 k (by lia)];exact F'.fx k (by lia) k2,fun k k1 k2=>?_,?_,fun i j i1 i2 j1 j2=>?_,fun i j i1 i2 j2=>by lia⟩
   ·by_cases hk:k<lo+x
    ·obtain⟨j,j1,j2,e⟩:=h2 k k1 hk;have:=F'.rg j j1 j2
     lia
    ·have:k=lo+x:=by lia
     subst this;rw[h1 _ (by lia),hx];lia
   ·rw[show lo+(x+1)-(0+1)=lo+x by lia];exact h3
   ·have:j=lo+x:=by lia
    subst this;rw[h1 (lo+x) (by lia)];obtain⟨j,j1,j2,e⟩:=h2 i i1 (by lia);rw[e];exact next hl j j1 j2
  cases hl:lt (P p' (lo+x)) (P p' (lo+x-1)) with
  |true=>
   simp only[gS];have hz:lo+x<=p'.size:=by rw[R'.size];lia
   by_cases hq:q>0
   ·rw[gh hq];refine fX (uG (fY ⟨0,_,rfl,R'.mirror _ _ _,e',fun k hk=>?_,grow _ (fun k hk=>?_) (fun i i1 i2=>?_) (F'.turn hz) hl⟩))
    ·rw[iQ hz,gk (by lia)];exact f' k hk
    ·rw[iQ hz,gk (by lia)]
    ·rw[iQ hz];split
     ·exact⟨_,by lia,by lia,rfl⟩
     ·exact⟨i,i1,i2,rfl⟩
   ·rw[gk hq];have:q=0:=by lia
    subst this;exact fY ⟨0,p',rfl,R',e',f',grow p' (fun _ _=>rfl) (fun i i1 i2=>⟨i,i1,i2,rfl⟩) F'.flat hl⟩
  |false=>
   simp only[hC,ik];refine fX (oM H R' (by lia) (by lia) ?_);dsimp only
   cases aM:lt (P p' (lo+x-1)) (P p' (lo+x)) with
   |true=>simp only[gS];exact fY (h x q b8 p' R' e' fF (by lia) f' F')
   |false=>
    simp only[hC,ik];have aA:=F'.rg (lo+x-1) (by lia) (by lia)
    have same: ∀i,lo+x-(q+1)<=i->i<lo+x->lt (P p' i) (P p' (lo+x))=false/\lt (P p' (lo+x)) (P p' i)=false:=fun i i1 i2=>by
     by_cases hi:i=lo+x-1
     ·subst hi;exact⟨aM,hl⟩
     ·obtain⟨e1,e2,_⟩:=F'.eq i (lo+x-1) i1 (by lia) (by lia);exact⟨W.le_tr aM e1,W.le_tr e2 hl⟩
    refine fY ⟨q+1,p',rfl,R',e',f',by lia,fun k k1 k2=>F'.fx k (by lia) k2,fun k k1 k2=>?_,?_,fun i j i1 i2 j1 j2=>?_,fun i j i1 ij j2=>?_⟩
    ·by_cases hk:k<lo+x
     ·have:=F'.rg k k1 hk;lia
     ·have:k=lo+x:=by lia
      subst this;lia
    ·rw[show lo+(x+1)-(q+1+1)=lo+x-(q+1) by lia];exact F'.dn
    ·by_cases hj:j<lo+x
     ·exact F'.st i j i1 (by lia) (by lia) hj
     ·have:j=lo+x:=by lia
      subst this;have:=F'.st i (lo+x-1) i1 (by lia) (by lia) (by lia);exact W.le_lt aM this
    ·by_cases hj:j<lo+x
     ·exact F'.eq i j (by lia) ij hj
     ·have:j=lo+x:=by lia
      subst this;obtain⟨e1,e2⟩:=same i (by lia) (by lia);have:=F'.rg i (by lia) (by lia);exact⟨e1,e2,by lia⟩
noncomputable def D6(lo a d9:Nat):StateT SortSt Sem (Option (Option Nat)×Nat):=forIn [a:d9] ((none,a):Option (Option Nat)×Nat) fun _ r=>do
   let x <-ltAt' (lo+r.2) (lo+r.2-1)
   match x with
   |some i8=>if i8=true then pure (ForInStep.done (none,r.2)) else pure (ForInStep.yield (none,r.2+1))
   |_=>pure (ForInStep.done (some none,r.2))
noncomputable def JY(lo n d9:Nat):StateT SortSt Sem (Option (Option Nat)×Nat×Nat):=forIn [n:d9] ((none,n,0):Option (Option Nat)×Nat×Nat) fun _ r=>do
   let x <-ltAt' (lo+r.2.1) (lo+r.2.1-1)
   match x with
   |some i8=>
    if i8=true then
     if r.2.2>0 then do
      reverseSlice' (lo+r.2.1-(r.2.2+1)) (lo+r.2.1)
      pure (ForInStep.yield (none,r.2.1+1,0))
     else pure (ForInStep.yield (none,r.2.1+1,0))
    else do
     let x <-ltAt' (lo+r.2.1-1) (lo+r.2.1)
     match x with
     |some w6=>if w6=true then pure (ForInStep.done (none,r.2.1,r.2.2)) else pure (ForInStep.yield (none,r.2.1+1,r.2.2+1))
     |_=>pure (ForInStep.done (some none,r.2.1,r.2.2))
   |_=>pure (ForInStep.done (some none,r.2.1,r.2.2))
noncomputable def BB(lo n d9:Nat):StateT SortSt Sem (Option Nat):=do
 reverseSlice' lo (lo+n)
 let r <-D6 lo n d9
 match r.1 with
 |some r=>pure r
 |none=>pure (some r.2)
noncomputable def yk(lo n d9:Nat):StateT SortSt Sem (Option Nat):=do
 liftM (rule "list.sort.descending-run")
 let r <-JY lo (n+1) d9
 match r.1 with
 |some r=>pure r
 |none=>
  if r.2.2>0 then do
   reverseSlice' (lo+r.2.1-(r.2.2+1)) (lo+r.2.1)
   BB lo r.2.1 d9
  else BB lo r.2.1 d9
theorem BE(lo d9:Nat):countRun' lo d9=(do
  let r <-D6 lo 1 d9
  match r.1 with
  |some r=>pure r
  |none=>
   if(r.2==d9)=true then pure (some r.2)
   else if r.2>1 then do
    let x <-ltAt' lo (lo+r.2-1)
    match x with
    |some bO=>if bO=true then pure (some r.2) else do
      reverseSlice' lo (lo+r.2)
      yk lo r.2 d9
    |_=>pure none
   else yk lo r.2 d9):=by
 rw[countRun'_eq];dsimp only;unfold D6
 congr 1
 funext r;obtain⟨r,n⟩:=r
 cases r with
 |some r=>rfl
 |none=>
  dsimp only;by_cases h1:(n==d9)=true
  ·rw[gh h1,gh h1]
  ·rw[gk h1,gk h1];by_cases h2:n>1
   ·rw[gh h2,gh h2]
    congr 1
    funext x
    cases x with
    |none=>rfl
    |some bO=>
     dsimp only
     cases bO with
     |true=>rfl
     |false=>
      simp only[hC,ik]
      congr 1
      funext _;unfold yk JY
      congr 1
      funext _
      congr 1
      funext r2;obtain⟨r2,n2,q2⟩:=r2
      cases r2 with
      |some r=>rfl
      |none=>
       dsimp only;by_cases h3:q2>0
       ·rw[gh h3,gh h3]
        congr 1
        funext _;unfold BB D6
        congr 1
        funext _
        congr 1
        funext r3;obtain⟨r3,n3⟩:=r3;cases r3<;>rfl
       ·rw[gk h3,gk h3];unfold BB D6
        congr 1
        funext _
        congr 1
        funext r3;obtain⟨r3,n3⟩:=r3;cases r3<;>rfl
   ·rw[gk h2,gk h2];unfold yk JY
    congr 1
    funext _
    congr 1
    funext r2;obtain⟨r2,n2,q2⟩:=r2
    cases r2 with
    |some r=>rfl
    |none=>
     dsimp only;by_cases h3:q2>0
     ·rw[gh h3,gh h3]
      congr 1
      funext _;unfold BB D6
      congr 1
      funext _
      congr 1
      funext r3;obtain⟨r3,n3⟩:=r3;cases r3<;>rfl
     ·rw[gk h3,gk h3];unfold BB D6
      congr 1
      funext _
      congr 1
      funext r3;obtain⟨r3,n3⟩:=r3;cases r3<;>rfl
theorem Ef(W:Wk lt)(H:Ask prog w A E G it κ N lt){lo d9 n:Nat}(hN:lo+d9=N)(h1:1<=n)(hn:n<=d9){st aI:hX}{p p0:iY}(R:Rp it κ N st p)(e0:pendingOf st=pendingOf aI)(f0: ∀k,k<lo->P p k=P p0 k)(fx: ∀k,lo+n<=k->k<N->P p k=k)(rg:Reg p lo (lo+n))(dn:Dn lt p lo (lo+n))
  {Q:xt}(h:Ran it lt κ N lo d9 p0 aI Q):wpI (model prog w) A E G (BB lo n d9) Q st:=by
 unfold BB;have hz:lo+n<=p.size:=by rw[R.size];lia
 have out: ∀k,¬(lo<=k/\k<lo+n)->P (PyProof.Rows.mirror p lo (lo+n) ((lo+n-lo) / 2)) k=P p k:=fun k hk=>by rw[iQ hz,gk hk]
 refine fX (uG ?_);have R1:=R.mirror lo (lo+n) ((lo+n-lo) / 2);refine fX (Eg W H hN h1 hn R1 (rg.mirror hz (gQ _) (gQ _)) (fun k k1 k2=>by rw[out k (by lia)];exact fx k k1 k2) (dn.mirror hz) fun m m1 m2 dc bN _=>?_);exact fY (h m _ _ R1 e0 (by lia) m2 (fun k hk=>by rw[out k (by lia)];exact f0 k hk) (fun k k1 k2=>by rw[out k (by lia)];exact fx k (by lia) k2) dc bN)
theorem Ax(W:Wk lt)(H:Ask prog w A E G it κ N lt){lo d9 n:Nat}(hN:lo+d9=N)(hn:n+1<=d9){st aI:hX}{p p0:iY}(R:Rp it κ N st p)(e0:pendingOf st=pendingOf aI)(f0: ∀k,k<lo->P p k=P p0 k)(F:Fall lt p lo (n+1) 0 N)
  {Q:xt}(h:Ran it lt κ N lo d9 p0 aI Q):wpI (model prog w) A E G (yk lo n d9) Q st:=by
 unfold yk;refine fX (mO (fX (HA W H hN hn R F fun x q b8 p' R' e' x1 x2 f' F'=>?_)));dsimp only;have hle:=F'.le;have hz:lo+x<=p'.size:=by rw[R'.size];lia
 by_cases hq:q>0
 ·rw[gh hq];refine fX (uG (Ef W H hN (by lia) x2 (R'.mirror _ _ _) (e'.trans e0) (fun k hk=>?_) (fun k k1 k2=>?_) (F'.rg.mirror hz (by lia) (gQ _)) (F'.turn hz) h))
  ·rw[iQ hz,gk (by lia)];exact(f' k hk).trans (f0 k hk)
  ·rw[iQ hz,gk (by lia)];exact F'.fx k k1 k2
 ·rw[gk hq];have:q=0:=by lia
  subst this;exact Ef W H hN (by lia) x2 R' (e'.trans e0) (fun k hk=>(f' k hk).trans (f0 k hk)) F'.fx F'.rg F'.flat h
theorem Fu(W:Wk lt)(H:Ask prog w A E G it κ N lt){lo d9:Nat}(hN:lo+d9=N)(h1:1<=d9){st:hX}{p:iY}(R:Rp it κ N st p)(fx: ∀k,lo<=k->k<N->P p k=k){Q:xt}(h:Ran it lt κ N lo d9 p st Q):
  wpI (model prog w) A E G (countRun' lo d9) Q st:=by
 rw[BE];refine fX (Eg W H hN (gQ _) h1 R (fun k k1 k2=>by rw[fx k k1 (by lia)];lia) (fun k k1 k2=>fx k (by lia) k2) (fun i j i1 ij j2=>by lia) fun n n1 n2 rg up hl=>?_);dsimp only;by_cases he:(n==d9)=true
 ·rw[gh he];exact fY (h n st p R rfl n1 n2 (fun _ _=>rfl) (fun k k1 k2=>fx k (by lia) k2) rg up)
 ·rw[gk he];have l6:n≠d9:=fun z=>he (by simp[z]);have hl:lt (P p (lo+n)) (P p (lo+n-1))=true:=hl.resolve_left l6;have hx:P p (lo+n)=lo+n:=fx _ (by lia) (by lia);by_cases hg:n>1
  ·rw[gh hg];refine fX (oM H R (by lia) (by lia) ?_);dsimp only
   cases hr:lt (P p lo) (P p (lo+n-1)) with
   |true=>simp only[gS];exact fY (h n st p R rfl n1 n2 (fun _ _=>rfl) (fun k k1 k2=>fx k (by lia) k2) rg up)
   |false=>
    simp only[hC,ik];have hz:lo+n<=p.size:=by rw[R.size];lia
    have out: ∀k,¬(lo<=k/\k<lo+n)->P (PyProof.Rows.mirror p lo (lo+n) ((lo+n-lo) / 2)) k=P p k:=fun k hk=>by rw[iQ hz,gk hk]
    have small: ∀i,lo<=i->i<lo+n->lt (P p (lo+n)) (P p i)=true:=fun i i1 i2=>by
     have hi:lt (P p i) (P p (lo+n-1))=false:=by
      by_cases hi:i=lo
      ·subst hi;exact hr
      ·exact W.le_tr hr (SL.le W (up lo i (gQ _) (by lia) i2)) |> fun z=>by
        cases hc:lt (P p i) (P p (lo+n-1)) with
        |false=>rfl
        |true=>
         have:=W.le_lt (SL.le W (up lo i (gQ _) (by lia) i2)) hc;rw[hr] at this;cases this
     exact W.lt_le hl hi
    refine fX (uG (Ax W H hN (by lia) (R.mirror _ _ _) rfl (fun k hk=>out k (by lia)) ⟨by lia,fun k k1 k2=>by rw[out k (by lia)];exact fx k (by lia) k2,fun k k1 k2=>?_,?_,fun i j i1 i2 j1 j2=>?_,fun i j i1 ij j2=>by lia⟩ h))
    ·by_cases hk:k<lo+n
     ·have:=rg.mirror (i:=lo) (j:=lo+n) hz (gQ _) (gQ _) k k1 hk;lia
     ·have:k=lo+n:=by lia
      subst this;rw[out _ (by lia),hx];lia
    ·rw[show lo+(n+1)-(0+1)=lo+n by lia];exact up.mirror hz
    ·have:j=lo+n:=by lia
     subst this;rw[out (lo+n) (by lia),iQ hz,gh ⟨i1,by lia⟩];exact small _ (by lia) (by lia)
  ·rw[gk hg];have:n=1:=by lia
   subst this;refine Ax W H hN (by lia) R rfl (fun _ _=>rfl) ⟨by lia,fun k k1 k2=>fx k (by lia) k2,fun k k1 k2=>by rw[fx k k1 (by lia)];lia,fun i j i1 ij j2=>by lia,fun i j i1 i2 j1 j2=>?_,fun i j i1 ij j2=>by lia⟩ h;have e1:j=lo+1:=by lia
   have e2:i=lo:=by lia
   subst e1;subst e2;exact hl
theorem Kq(W:Wk lt)(H:Ask prog w A E G it κ N lt){lo n ok:Nat}(h1:1<=ok)(hok:ok<=n)(hn:lo+n<=N){st:hX}{p:iY}(R:Rp it κ N st p)(fx: ∀k,lo+ok<=k->k<N->P p k=k)(rg:Reg p lo (lo+ok))(up:Up lt p lo (lo+ok)){Q:Bool->SortSt->Prop}
  (h: ∀b8 p',Rp it κ N b8 p'->pendingOf b8=pendingOf st->(∀k,k<lo->P p' k=P p k)->(∀k,lo+n<=k->k<N->P p' k=k)->Reg p' lo (lo+n)->Up lt p' lo (lo+n)->Q true b8):wpI (model prog w) A E G (binarySort' lo n ok) Q st:=by
 rw[binarySort'_eq];dsimp only;rw[show max ok 1=ok by lia]
 refine fX (hW (ig (I:=fun k c b8=>c=(none,())/\ ∃p',Rp it κ N b8 p'/\pendingOf b8=pendingOf st/\(∀i,i<lo->P p' i=P p i)/\(∀i,lo+k<=i->i<N->P p' i=i)/\Reg p' lo (lo+k)/\Up lt p' lo (lo+k))
  (Q:=fun c b8=>c=(none,())/\ ∃p',Rp it κ N b8 p'/\pendingOf b8=pendingOf st/\(∀i,i<lo->P p' i=P p i)/\(∀i,lo+n<=i->i<N->P p' i=i)/\Reg p' lo (lo+n)/\Up lt p' lo (lo+n)) ?step ?fin ⟨rfl,p,R,rfl,fun _ _=>rfl,fx,rg,up⟩) ?post)
 case post=>
  rintro c b8 ⟨rfl,p',a1,a2,a3,a4,a5,a6⟩;exact fY (h b8 p' a1 a2 a3 a4 a5 a6)
 case fin=>
  rintro c b8 hc;rw[show max ok n=n by lia] at hc;exact hc
 case step=>
  rintro k c b8 cg ej ⟨rfl,p',R',e',f',fx',dc,bN⟩;have hkey:P p' (lo+k)=lo+k:=fx' _ (by lia) (by lia)
  refine fX (hW (ig (I:=fun i c g9=>g9=b8/\ ∃l r,c=(none,l,r)/\l<=r/\r<=k/\r-l<=k-i/\(∀i,i<l->lt (P p' (lo+k)) (P p' (lo+i))=false)/\(∀i,r<=i->i<k->lt (P p' (lo+k)) (P p' (lo+i))=true))
   (Q:=fun c g9=>g9=b8/\ ∃l r,c=(none,l,r)/\l<=k/\(∀i,i<l->lt (P p' (lo+k)) (P p' (lo+i))=false)/\(∀i,l<=i->i<k->lt (P p' (lo+k)) (P p' (lo+i))=true)) ?s2 ?f2 ⟨rfl,0,k,rfl,by lia,by lia,by lia,fun i hi=>by lia,fun i i1 i2=>by lia⟩) ?p2)
  case f2=>
   rintro c g9 ⟨rfl,l,r,rfl,a1,a2,a3,a4,a5⟩;have:l=r:=by lia
   subst this;exact⟨rfl,l,l,rfl,a2,a4,a5⟩
  case s2=>
   rintro i c g9 _ hi ⟨rfl,l,r,rfl,a1,a2,a3,a4,a5⟩;dsimp only;by_cases hlr:l>=r
   ·rw[gh hlr];have:l=r:=by lia
    subst this;exact fY ⟨rfl,l,l,rfl,a2,a4,a5⟩
   ·rw[gk hlr];refine fX (oM H R' (by lia) (by lia) ?_);dsimp only
    cases hl:lt (P p' (lo+k)) (P p' (lo+(l+r) / 2)) with
    |true=>
     simp only[gS];refine fY ⟨rfl,l,(l+r) / 2,rfl,by lia,by lia,by lia,a4,fun i i1 i2=>?_⟩;by_cases hi:i=(l+r) / 2
     ·subst hi;exact hl
     ·exact W.lt_le hl (SL.le W (bN (lo+(l+r) / 2) (lo+i) (by lia) (by lia) (by lia)))
    |false=>
     simp only[hC,ik];refine fY ⟨rfl,(l+r) / 2+1,r,rfl,by lia,a2,by lia,fun i i1=>?_,a5⟩;by_cases hi:i=(l+r) / 2
     ·subst hi;exact hl
     ·exact W.le_tr (SL.le W (bN (lo+i) (lo+(l+r) / 2) (by lia) (by lia) (by lia))) hl
  case p2=>
   rintro c g9 ⟨rfl,l,r,rfl,hl,a4,a5⟩;dsimp only;have hz:lo+k<p'.size:=by rw[R'.size];lia
   have hd:lo+k-(lo+l)<=lo+k:=by lia
   have ib: ∀i,P (PyProof.Rows.bubble p' (lo+k) (lo+k-(lo+l))) i=if i=lo+l then P p' (lo+k) else if lo+l<i/\i<=lo+k then P p' (i-1) else P p' i:=fun i=>by
    rw[Ki hz hd,show lo+k-(lo+k-(lo+l))=lo+l by lia]
   refine fX (Hy (fY ⟨rfl,_,R'.bubble _ _,e',fun i hi=>?_,fun i i1 i2=>?_,fun i i1 i2=>?_,fun i j i1 ij j2=>?_⟩))
   ·rw[ib,gk (by lia),gk (by lia)];exact f' i hi
   ·rw[ib,gk (by lia),gk (by lia)];exact fx' i (by lia) i2
   ·rw[ib];split
    ·rw[hkey];lia
    ·split
     ·have:=dc (i-1) (by lia) (by lia);lia
     ·have:=dc i i1 (by lia);lia
   ·
    have above: ∀m,l<=m->m<k->SL lt (P p' (lo+k)) (P p' (lo+m)):=fun m m1 m2=> .inl (a5 m m1 m2);have below: ∀m,m<l->SL lt (P p' (lo+m)) (P p' (lo+k)):=fun m m1=> .inr ⟨a4 m m1,by have:=dc (lo+m) (by lia) (by lia);lia⟩;rw[ib,ib];by_cases hi:i=lo+l
    ·subst hi;rw[gh rfl,gk (by lia),gh (by lia)];have:=above (j-1-lo) (by lia) (by lia)
     rwa [show lo+(j-1-lo)=j-1 by lia] at this
    ·rw[gk hi];by_cases hj:j=lo+l
     ·subst hj;rw[gh rfl,gk (by lia)];have:=below (i-lo) (by lia)
      rwa [show lo+(i-lo)=i by lia] at this
     ·rw[gk hj];by_cases ci:lo+l<i/\i<=lo+k
      ·rw[gh ci,gh (by lia)];exact bN _ _ (by lia) (by lia) (by lia)
      ·rw[gk ci];by_cases cj:lo+l<j/\j<=lo+k
       ·rw[gh cj];exact bN _ _ i1 (by lia) (by lia)
       ·rw[gk cj];exact bN _ _ i1 ij (by lia)
end
noncomputable def jM:Bool->Keyed->Array Keyed->Nat->Nat->Nat->StateT SortSt Sem (Option Nat):=sortPriv%PySem.Builtin.gallop
noncomputable def we:Array Keyed->Array Keyed->StateT SortSt Sem (Array Keyed):=sortPriv%PySem.Builtin.mergeLo
noncomputable def wg:Array Keyed->Array Keyed->StateT SortSt Sem (Array Keyed):=sortPriv%PySem.Builtin.mergeHi
noncomputable def rK:Nat->StateT SortSt Sem Unit:=sortPriv%PySem.Builtin.setMinGallop
noncomputable def bey(left:Bool)(key:Keyed)(arr:lM)(base i:Nat):StateT SortSt Sem (Option Bool):=do
 let y <-elem' arr (base+i)
 if left=true then lt' y key else do
  let r <-lt' key y
  pure (Option.map (fun x=>!x) r)
theorem Gn(left:Bool)(key:Keyed)(arr:lM)(base n hint:Nat):jM left key arr base n hint=(do
 let mut lastofs:=0
 let mut ofs:=1
 let mut lo:=0
 let mut hi:=0
 let some right <-bey left key arr base hint|return none
 if right then
  let m9:=n-hint
  for _ in [0:n] do
   if ofs>=m9 then break
   let some more <-bey left key arr base (hint+ofs)|return none
   if !more then break
   lastofs:=ofs
   ofs:=2*ofs+1
  lo:=hint+lastofs+1
  hi:=hint+min ofs m9
 else
  let m9:=hint+1
  for _ in [0:n] do
   if ofs>=m9 then break
   let some found <-bey left key arr base (hint-ofs)|return none
   if found then break
   lastofs:=ofs
   ofs:=2*ofs+1
  lo:=hint+1-min ofs m9
  hi:=hint-lastofs
 for _ in [0:n] do
  if lo>=hi then break
  let m:=lo+(hi-lo) / 2
  let some more <-bey left key arr base m|return none
  if more then lo:=m+1 else hi:=m
 return some hi):=rfl
section
variable {prog:gw}{w:gm}{A:gv}{E:gD}{G:Shared->Prop}{it:lL}{lt:kn}{κ:SortKind}{N:Nat}
noncomputable def Bq(lt:kn)(left:Bool)(x:Nat)(q:iY)(base i:Nat):Bool:=if left=true then lt (P q (base+i)) x else !lt x (P q (base+i))
theorem uH(H:Ask prog w A E G it κ N lt){left:Bool}{x:Nat}{q:iY}{base i:Nat}(hx:x<N)(hq: ∀k,k<q.size->P q k<N)(hi:base+i<q.size){st:hX}(hk:kindOf st=κ){Q:Option Bool->SortSt->Prop}(h:Q (some (Bq lt left x q base i)) st):
  wpI (model prog w) A E G (bey left (it x) (q.map it) base i) Q st:=by
 unfold bey;refine fX (vz rfl hi ?_);unfold Bq at h
 cases left with
 |true=>simp only[gS] at h ⊢;exact vt H hk (hq _ hi) hx h
 |false=>simp only[hC,ik] at h ⊢;exact fX (vt H hk hx (hq _ hi) (fY h))
theorem Aw(H:Ask prog w A E G it κ N lt){left:Bool}{x:Nat}{q:iY}{base n:Nat}(hx:x<N)(hq: ∀k,k<q.size->P q k<N)(hn:base+n<=q.size){st:hX}(hk:kindOf st=κ)(mono: ∀i j,i<=j->j<n->Bq lt left x q base j=true->Bq lt left x q base i=true)
  {lo hi:Nat}(h1:lo<=hi)(h2:hi<=n)(h3: ∀i,i<lo->Bq lt left x q base i=true)(h4: ∀i,hi<=i->i<n->Bq lt left x q base i=false){Q:Option (Option Nat)×Nat×Nat->SortSt->Prop}
  (h: ∀r,r<=n->(∀i,i<r->Bq lt left x q base i=true)->(∀i,r<=i->i<n->Bq lt left x q base i=false)->Q (none,r,r) st):
  wpI (model prog w) A E G (forIn [:n] ((none,lo,hi):Option (Option Nat)×Nat×Nat) fun _ r=>
    if r.2.1>=r.2.2 then pure (ForInStep.done (none,r.2.1,r.2.2))
    else do
     let y <-bey left (it x) (q.map it) base (r.2.1+(r.2.2-r.2.1) / 2)
     match y with
     |some more=>if more=true then pure (ForInStep.yield (none,r.2.1+(r.2.2-r.2.1) / 2+1,r.2.2)) else pure (ForInStep.yield (none,r.2.1,r.2.1+(r.2.2-r.2.1) / 2))
     |_=>pure (ForInStep.done (some none,r.2.1,r.2.2))) Q st:=by
 refine(hW (ig (I:=fun i c g9=>g9=st/\ ∃lo hi,c=(none,lo,hi)/\lo<=hi/\hi<=n/\hi-lo<=n-i/\(∀i,i<lo->Bq lt left x q base i=true)/\(∀i,hi<=i->i<n->Bq lt left x q base i=false))
  (Q:=fun c g9=>g9=st/\ ∃r,c=(none,r,r)/\r<=n/\(∀i,i<r->Bq lt left x q base i=true)/\(∀i,r<=i->i<n->Bq lt left x q base i=false)) ?step ?fin ⟨rfl,lo,hi,rfl,h1,h2,by lia,h3,h4⟩) ?post)
 case post=>
  rintro c g9 ⟨rfl,r,rfl,a1,a2,a3⟩;exact h r a1 a2 a3
 case fin=>
  rintro c g9 ⟨rfl,lo,hi,rfl,a1,a2,a3,a4,a5⟩;have:lo=hi:=by lia
  subst this;exact⟨rfl,lo,rfl,a2,a4,a5⟩
 case step=>
  rintro i c g9 _ cO ⟨rfl,lo,hi,rfl,a1,a2,a3,a4,a5⟩;dsimp only;by_cases hlh:lo>=hi
  ·rw[gh hlh];have:lo=hi:=by lia
   subst this;exact fY ⟨rfl,lo,rfl,a2,a4,a5⟩
  ·rw[gk hlh];refine fX (uH (i:=lo+(hi-lo) / 2) H hx hq (by lia) hk ?_);dsimp only
   cases hb:Bq lt left x q base (lo+(hi-lo) / 2) with
   |true=>
    simp only[gS];exact fY ⟨rfl,_,hi,rfl,by lia,a2,by lia,fun i aP=>mono i (lo+(hi-lo) / 2) (by lia) (by lia) hb,a5⟩
   |false=>
    simp only[hC,ik];refine fY ⟨rfl,lo,_,rfl,by lia,by lia,by lia,a4,fun i i1 i2=>?_⟩
    cases hc:Bq lt left x q base i with
    |false=>rfl
    |true=>have:=mono _ _ i1 i2 hc;rw[hb] at this;cases this
theorem CP(H:Ask prog w A E G it κ N lt){left:Bool}{x:Nat}{q:iY}{base n hint:Nat}(hx:x<N)(hq: ∀k,k<q.size->P q k<N)(hn:base+n<=q.size)(hh:hint<n){st:hX}(hk:kindOf st=κ)(mono: ∀i j,i<=j->j<n->Bq lt left x q base j=true->Bq lt left x q base i=true)
  {Q:xt}(h: ∀r,r<=n->(∀i,i<r->Bq lt left x q base i=true)->(∀i,r<=i->i<n->Bq lt left x q base i=false)->Q (some r) st):
  wpI (model prog w) A E G (jM left (it x) (q.map it) base n hint) Q st:=by
 have anti: ∀i j,i<=j->j<n->Bq lt left x q base i=false->Bq lt left x q base j=false:=fun i j ij jn hi=>by
  cases hc:Bq lt left x q base j with
  |false=>rfl
  |true=>have:=mono _ _ ij jn hc;rw[hi] at this;cases this
 rw[Gn];dsimp only;refine fX (uH (i:=hint) H hx hq (by lia) hk ?_);dsimp only
 cases hb:Bq lt left x q base hint with
 |true=>
  simp only[gS]
  refine fX (hW (ig (I:=fun i c g9=>g9=st/\ ∃last ofs,c=(none,last,ofs)/\last<ofs/\i+1<=ofs/\hint+last<n/\Bq lt left x q base (hint+last)=true)
   (Q:=fun c g9=>g9=st/\ ∃last ofs,c=(none,last,ofs)/\last<ofs/\hint+last<n/\Bq lt left x q base (hint+last)=true/\(ofs>=n-hint\/Bq lt left x q base (hint+ofs)=false)) ?step ?fin ⟨rfl,0,1,rfl,by lia,by lia,by lia,hb⟩) ?post)
  case post=>
   rintro c g9 ⟨rfl,last,ofs,rfl,a1,a2,a3,a4⟩;dsimp only;refine fX (Aw H hx hq hn hk mono (lo:=hint+last+1) (hi:=hint+min ofs (n-hint)) (by lia) (by lia) (fun i hi=>mono i _ (by lia) a2 a3) (fun i i1 i2=>?_) fun r b1 b2 b3=>fY (h r b1 b2 b3));rcases a4 with a4|a4
   ·lia
   ·exact anti (hint+ofs) i (by lia) i2 a4
  case fin=>
   rintro c g9 ⟨rfl,last,ofs,rfl,a1,a2,a3,a4⟩;exact⟨rfl,last,ofs,rfl,a1,a3,a4,.inl (by lia)⟩
  case step=>
   rintro i c g9 _ hi ⟨rfl,last,ofs,rfl,a1,a2,a3,a4⟩;dsimp only;by_cases ho:ofs>=n-hint
   ·rw[gh ho];exact fY ⟨rfl,last,ofs,rfl,a1,a3,a4,.inl ho⟩
   ·rw[gk ho];refine fX (uH (i:=hint+ofs) H hx hq (by lia) hk ?_);dsimp only
    cases hc:Bq lt left x q base (hint+ofs) with
    |false=>simp only[Bool.not_false,gS];exact fY ⟨rfl,last,ofs,rfl,a1,a3,a4,.inr hc⟩
    |true=>simp only[kJ,hC,ik];exact fY ⟨rfl,ofs,2*ofs+1,rfl,by lia,by lia,by lia,hc⟩
 |false=>
  simp only[hC,ik]
  refine fX (hW (ig (I:=fun i c g9=>g9=st/\ ∃last ofs,c=(none,last,ofs)/\last<ofs/\i+1<=ofs/\last<=hint/\Bq lt left x q base (hint-last)=false)
   (Q:=fun c g9=>g9=st/\ ∃last ofs,c=(none,last,ofs)/\last<ofs/\last<=hint/\Bq lt left x q base (hint-last)=false/\(ofs>=hint+1\/Bq lt left x q base (hint-ofs)=true)) ?step ?fin ⟨rfl,0,1,rfl,by lia,by lia,by lia,hb⟩) ?post)
  case post=>
   rintro c g9 ⟨rfl,last,ofs,rfl,a1,a2,a3,a4⟩;dsimp only;refine fX (Aw H hx hq hn hk mono (lo:=hint+1-min ofs (hint+1)) (hi:=hint-last) (by lia) (by lia) (fun i hi=>?_) (fun i i1 i2=>anti _ i i1 i2 a3) fun r b1 b2 b3=>fY (h r b1 b2 b3));rcases a4 with a4|a4
   ·lia
   ·by_cases ho:ofs>=hint+1
    ·lia
    ·exact mono i _ (by lia) (by lia) a4
  case fin=>
   rintro c g9 ⟨rfl,last,ofs,rfl,a1,a2,a3,a4⟩;exact⟨rfl,last,ofs,rfl,a1,a3,a4,.inl (by lia)⟩
  case step=>
   rintro i c g9 _ hi ⟨rfl,last,ofs,rfl,a1,a2,a3,a4⟩;dsimp only;by_cases ho:ofs>=hint+1
   ·rw[gh ho];exact fY ⟨rfl,last,ofs,rfl,a1,a3,a4,.inl ho⟩
   ·rw[gk ho];refine fX (uH (i:=hint-ofs) H hx hq (by lia) hk ?_);dsimp only
    cases hc:Bq lt left x q base (hint-ofs) with
    |true=>simp only[gS];exact fY ⟨rfl,last,ofs,rfl,a1,a3,a4,.inr hc⟩
    |false=>simp only[hC,ik];exact fY ⟨rfl,ofs,2*ofs+1,rfl,by lia,by lia,by lia,hc⟩
end
theorem Dw(a b:lM):we a b=(do
 rule "list.sort.merge-lo"
 let total:=a.size+b.size
 let done (out:lM) (ia ib:Nat):=out++a.extract ia a.size++b.extract ib b.size
 let m5 (out:lM) (ia ib:Nat):=out++b.extract ib b.size++a.extract ia a.size
 let mut out:Array Keyed:= #[<-elem' b 0]
 let mut ia:=0
 let mut ib:=1
 if ib==b.size then return done out ia ib
 if ia+1==a.size then return m5 out ia ib
 let mut minGallop:=gallopOf (<-get)
 for _ in [0:total] do
  let mut acount:=0
  let mut bcount:=0
  for _ in [0:total] do
   let some bWins <-lt' (<-elem' b ib) (<-elem' a ia)|return done out ia ib
   if bWins then
    out:=out.push (<-elem' b ib);ib:=ib+1;bcount:=bcount+1;acount:=0
    if ib==b.size then return done out ia ib
    if bcount>=minGallop then break
   else
    out:=out.push (<-elem' a ia);ia:=ia+1;acount:=acount+1;bcount:=0
    if ia+1==a.size then return m5 out ia ib
    if acount>=minGallop then break
  rule "list.sort.gallop"
  minGallop:=minGallop+1
  for _ in [0:total] do
   if minGallop>1 then minGallop:=minGallop-1
   rK minGallop
   let some k <-jM false (<-elem' b ib) a ia (a.size-ia) 0|return done out ia ib
   acount:=k
   if k>0 then
    out:=out++a.extract ia (ia+k);ia:=ia+k
    if ia+1==a.size then return m5 out ia ib
    if ia==a.size then return done out ia ib
   out:=out.push (<-elem' b ib);ib:=ib+1
   if ib==b.size then return done out ia ib
   let some k <-jM true (<-elem' a ia) b ib (b.size-ib) 0|return done out ia ib
   bcount:=k
   if k>0 then
    out:=out++b.extract ib (ib+k);ib:=ib+k
    if ib==b.size then return done out ia ib
   out:=out.push (<-elem' a ia);ia:=ia+1
   if ia+1==a.size then return m5 out ia ib
   if acount<7&&bcount<7 then break
  minGallop:=minGallop+1
  rK minGallop
 unsupported "internal:list.sort.merge-bound"):=rfl
section
variable {prog:gw}{w:gm}{A:gv}{E:gD}{G:Shared->Prop}{it:lL}{lt:kn}{κ:SortKind}{N:Nat}
structure Pre(lt:kn)(N:Nat)(q r:gX):Prop where
 sq:q.Pairwise (SL lt)
 sr:r.Pairwise (SL lt)
 ix: ∀x∈q,∀y∈r,x<y
 nq: ∀x∈q,x<N
 nr: ∀x∈r,x<N
structure MG(lt:kn)(q r o:gX)(ia ib:Nat):Prop where
 srt:o.Pairwise (SL lt)
 low: ∀x∈o,∀y,(y∈q.drop ia\/y∈r.drop ib)->SL lt x y
 pm:(o++(q.drop ia++r.drop ib)).Perm (q++r)
def Res(lt:kn)(it:lL)(q r:gX)(out:lM):Prop:= ∃o:List Nat,out=(o.map it).toArray/\o.Pairwise (SL lt)/\o.Perm (q++r)
theorem jj{l:gX}{i:Nat}(h:i<l.length):l.drop i=l[i]::l.drop (i+1):=rh h
theorem mx{l:gX}{i j:Nat}{x:Nat}(h:x∈l.drop j)(n9:i<=j):x∈l.drop i:=by
 rw[show j=i+(j-i) by lia,<-mL] at h;exact kr h
section
variable {q r o:gX}{ia ib:Nat}(W:Wk lt)(B:Pre lt N q r)
include W B
theorem DG(h:ia<q.length): ∀y∈q.drop (ia+1),SL lt q[ia] y:=fun y hy=>by
 have:=B.sq.sublist (mK ia q);rw[jj h,nX] at this;exact this.1 y hy
theorem zO(h:ib<r.length): ∀y∈r.drop (ib+1),SL lt r[ib] y:=fun y hy=>by
 have:=B.sr.sublist (mK ib r);rw[jj h,nX] at this;exact this.1 y hy
theorem MG.putB(m:MG lt q r o ia ib)(hb:ib<r.length)(h: ∀y∈q.drop ia,SL lt r[ib] y):MG lt q r (o++[r[ib]]) ia (ib+1):=by
 have hm:r[ib]∈r.drop ib:=by rw[jj hb];exact ic
 refine⟨lZ.mpr ⟨m.srt,yQ _ _,fun x hx y hy=>?_⟩,fun x hx y hy=>?_,?_⟩
 ·rw[mN] at hy;subst hy;exact m.low x hx _ (.inr hm)
 ·rcases nS.mp hx with hx|hx
  ·exact m.low x hx y (hy.imp id fun z=>mx z (tu _))
  ·rw[mN] at hx;subst hx;exact hy.elim (h y) (zO W B hb y)
 ·refine List.Perm.trans ?_ m.pm;rw[jj hb,jc];refine pW o ?_;exact(Ar (l₁:=q.drop ia) (l₂:=r.drop (ib+1)) (a:=r[ib])).symm
theorem MG.putA(m:MG lt q r o ia ib)(ha:ia<q.length)(h: ∀y∈r.drop ib,SL lt q[ia] y):MG lt q r (o++[q[ia]]) (ia+1) ib:=by
 have hm:q[ia]∈q.drop ia:=by rw[jj ha];exact ic
 refine⟨lZ.mpr ⟨m.srt,yQ _ _,fun x hx y hy=>?_⟩,fun x hx y hy=>?_,?_⟩
 ·rw[mN] at hy;subst hy;exact m.low x hx _ (.inl hm)
 ·rcases nS.mp hx with hx|hx
  ·exact m.low x hx y (hy.imp (fun z=>mx z (tu _)) id)
  ·rw[mN] at hx;subst hx;exact hy.elim (DG W B ha y) (h y)
 ·refine List.Perm.trans ?_ m.pm;rw[jj ha,jc];exact oC _
theorem MG.putBs(m:MG lt q r o ia ib)(h: ∀x∈(r.drop ib).take k,∀y∈q.drop ia,SL lt x y):MG lt q r (o++(r.drop ib).take k) ia (ib+k):=by
 have hs:=B.sr.sublist (mK ib r);rw[<-ko k (r.drop ib),lZ] at hs;obtain⟨s1,s2,s3⟩:=hs;have e:r.drop (ib+k)=(r.drop ib).drop k:=by rw[mL]
 refine⟨lZ.mpr ⟨m.srt,s1,fun x hx y hy=>m.low x hx y (.inr (ly hy))⟩,fun x hx y hy=>?_,?_⟩
 ·rcases nS.mp hx with hx|hx
  ·exact m.low x hx y (hy.imp id fun z=>mx z (Nat.le_add_right _ _))
  ·exact hy.elim (h x hx y) fun z=>s3 x hx y (by rw[<-e];exact z)
 ·refine List.Perm.trans ?_ m.pm;rw[e,jc];refine pW o ?_
  have:(List.take k (r.drop ib)++(q.drop ia++List.drop k (r.drop ib))).Perm (q.drop ia++(List.take k (r.drop ib)++List.drop k (r.drop ib))):=by
   rw[<-jc,<-jc];exact sQ _ yP
  rw[ko] at this;exact this
theorem MG.putAs(m:MG lt q r o ia ib)(h: ∀x∈(q.drop ia).take k,∀y∈r.drop ib,SL lt x y):MG lt q r (o++(q.drop ia).take k) (ia+k) ib:=by
 have hs:=B.sq.sublist (mK ia q);rw[<-ko k (q.drop ia),lZ] at hs;obtain⟨s1,s2,s3⟩:=hs;have e:q.drop (ia+k)=(q.drop ia).drop k:=by rw[mL]
 refine⟨lZ.mpr ⟨m.srt,s1,fun x hx y hy=>m.low x hx y (.inl (ly hy))⟩,fun x hx y hy=>?_,?_⟩
 ·rcases nS.mp hx with hx|hx
  ·exact m.low x hx y (hy.imp (fun z=>mx z (Nat.le_add_right _ _)) id)
  ·exact hy.elim (fun z=>s3 x hx y (by rw[<-e];exact z)) (h x hx y)
 ·refine List.Perm.trans ?_ m.pm;rw[e,jc];refine pW o ?_;rw[<-jc,ko]
theorem MG.endA(m:MG lt q r o ia ib)(h:r.drop ib=[]):(o++q.drop ia).Pairwise (SL lt)/\(o++q.drop ia).Perm (q++r):=by
 have pm:=m.pm;rw[h,qB] at pm;exact⟨lZ.mpr ⟨m.srt,B.sq.sublist (mK ia q),fun x hx y hy=>m.low x hx y (.inl hy)⟩,pm⟩
theorem MG.endB(m:MG lt q r o ia ib)(h:q.drop ia=[]):(o++r.drop ib).Pairwise (SL lt)/\(o++r.drop ib).Perm (q++r):=by
 have pm:=m.pm;rw[h,qx] at pm;exact⟨lZ.mpr ⟨m.srt,B.sr.sublist (mK ib r),fun x hx y hy=>m.low x hx y (.inr hy)⟩,pm⟩
theorem MG.endL(m:MG lt q r o ia ib)(h: ∀x∈r.drop ib,∀y∈q.drop ia,SL lt x y):(o++(r.drop ib++q.drop ia)).Pairwise (SL lt)/\(o++(r.drop ib++q.drop ia)).Perm (q++r):=by
 refine⟨lZ.mpr ⟨m.srt,lZ.mpr ⟨B.sr.sublist (mK ib r),B.sq.sublist (mK ia q),h⟩,fun x hx y hy=>m.low x hx y ((nS.mp hy).symm)⟩,?_⟩;exact List.Perm.trans (pW o yP) m.pm
end
theorem jh{q:gX}{i:Nat}(hi:i<q.length){st:hX}{Q:Keyed->SortSt->Prop}(h:Q (it q[i]) st):wpI (model prog w) A E G (elem' (q.map it).toArray i) Q st:=by
 rw[elem'_eq];have:(q.map it).toArray[i]?=some (it q[i]):=by simp[hi]
 rw[this];exact fY h
theorem Kg{q:gX}{i:Nat}(hi:i<q.length):P q.toArray i=q[i]:=by simp[P,hi]
theorem pq(W:Wk lt)(H:Ask prog w A E G it κ N lt){left:Bool}{x:Nat}{q:gX}{base n hint:Nat}(hx:x<N)(hq: ∀y∈q,y<N)(hn:base+n<=q.length)(hh:hint<n){st:hX}(hk:kindOf st=κ)(srt:((q.drop base).take n).Pairwise (SL lt)){Q:xt}
  (h: ∀r,r<=n->(∀y∈((q.drop base).take n).take r,(if left=true then lt y x else !lt x y)=true)->(∀y∈((q.drop base).take n).drop r,(if left=true then lt y x else !lt x y)=false)->Q (some r) st):
  wpI (model prog w) A E G (jM left (it x) (q.map it).toArray base n hint) Q st:=by
 have ea:(q.map it).toArray=q.toArray.map it:=by simp
 rw[ea];have hl:((q.drop base).take n).length=n:=by simp;lia
 have get: ∀i (hi:i<n),P q.toArray (base+i)=((q.drop base).take n)[i]:=fun i hi=>by
  rw[Kg (by lia)];simp
 have bq: ∀i (hi:i<n),Bq lt left x q.toArray base i=(if left=true then lt (((q.drop base).take n)[i]) x else !lt x (((q.drop base).take n)[i])):=fun i hi=>by unfold Bq;rw[get i hi]
 refine CP H hx (fun k hk=>?_) (by simpa using hn) hh hk (fun i j ij jn hb=>?_) fun r r1 r2 r3=>h r r1 (fun y hy=>?_) (fun y hy=>?_)
 ·have eu:k<q.length:=by simpa using hk
  rw[Kg eu];exact hq _ (jA eu)
 ·rcases yR i j with i6|fq
  ·rw[bq j jn] at hb;rw[bq i (by lia)];have sl:=Ee.mp srt i j (by lia) (by lia) i6
   cases left with
   |true=>
    simp only[gS] at hb ⊢;exact W.le_lt (SL.le W sl) hb
   |false=>
    simp only[hC,ik,Bool.not_eq_true'] at hb ⊢;exact W.le_tr (SL.le W sl) hb
  ·have:i=j:=by lia
   subst this;exact hb
 ·obtain⟨i,hi,e⟩:=sP hy;have aP:i<r:=by simp at hi;lia
  have:=r2 i aP;rw[bq i (by lia)] at this;rw[<-e,List.getElem_take];exact this
 ·obtain⟨i,hi,e⟩:=sP hy;have aP:r+i<n:=by simp at hi;lia
  have:=r3 (r+i) (by lia) aP;rw[bq (r+i) aP] at this;rw[<-e,List.getElem_drop];exact this
theorem sA{o:gX}{x:Nat}:((o.map it).toArray.push (it x))=((o++[x]).map it).toArray:=by simp
theorem Fp{o q r:gX}{i j:Nat}:((o.map it).toArray++(q.map it).toArray.extract i (q.map it).toArray.size++(r.map it).toArray.extract j (r.map it).toArray.size)=((o++(q.drop i++r.drop j)).map it).toArray:=by
 simp[sO,sN];rw[qX (by simp),qX (by simp)]
theorem Fo{o q:gX}{i k:Nat}:((o.map it).toArray++(q.map it).toArray.extract i (i+k))=((o++(q.drop i).take k).map it).toArray:=by
 simp[sO,sN]
def Same(st b8:hX):Prop:=kindOf b8=kindOf st/\arrOf b8=arrOf st/\pendingOf b8=pendingOf st/\failedOf b8=failedOf st
theorem Same.refl{st:hX}:Same st st:=⟨rfl,rfl,rfl,rfl⟩
theorem Same.trans{a b c:hX}(x:Same a b)(y:Same b c):Same a c:=⟨y.1.trans x.1,y.2.1.trans x.2.1,y.2.2.1.trans x.2.2.1,y.2.2.2.trans x.2.2.2⟩
theorem pk{n:Nat}{st:hX}{Q:Unit->SortSt->Prop}(h: ∀b8,Same st b8->Q () b8):wpI (model prog w) A E G (rK n) Q st:=
 ja (f:=fun s=>SortSt.mk' (kindOf s) (arrOf s) (pendingOf s) n (failedOf s)) (h _ ⟨rfl,rfl,rfl,rfl⟩)
theorem oP(W:Wk lt){q r o:gX}{ia ib:Nat}(B:Pre lt N q r)(m:MG lt q r o ia ib)(h:q.length<=ia\/r.length<=ib):Res lt it q r ((o.map it).toArray++(q.map it).toArray.extract ia (q.map it).toArray.size++(r.map it).toArray.extract ib (r.map it).toArray.size):=by
 refine⟨_,Fp,?_⟩;rcases h with h|h
 ·have e:q.drop ia=[]:=sV h;have:=m.endB W B e;rw[e,qx];exact this
 ·have e:r.drop ib=[]:=sV h;have:=m.endA W B e;rw[e,qB];exact this
theorem A2(W:Wk lt){q r o:gX}{ia ib:Nat}(B:Pre lt N q r)(m:MG lt q r o ia ib)(h: ∀x∈r.drop ib,∀y∈q.drop ia,SL lt x y):Res lt it q r ((o.map it).toArray++(r.map it).toArray.extract ib (r.map it).toArray.size++(q.map it).toArray.extract ia (q.map it).toArray.size):=
 ⟨_,Fp,m.endL W B h⟩
abbrev sz(q:gX)(it:lL):(q.map it).toArray.size=q.length:=by simp
abbrev LoS:=Option (Array Keyed)×Array Keyed×Nat×Nat×Nat×Nat×Nat
noncomputable def Em(a b out:lM)(ia ib mg k k2:Nat):StateT SortSt Sem (ForInStep LoS):=do
 let y <-elem' a ia
 if(ia+1+1==a.size)=true then pure (ForInStep.done (some (out.push y++b.extract ib b.size++a.extract (ia+1) a.size),out.push y,ia+1,ib,mg,k,k2))
 else if(decide (k<7)&&decide (k2<7))=true then pure (ForInStep.done (none,out.push y,ia+1,ib,mg,k,k2)) else pure (ForInStep.yield (none,out.push y,ia+1,ib,mg,k,k2))
noncomputable def Jk(a b out:lM)(ia ib mg k bc:Nat):StateT SortSt Sem (ForInStep LoS):=do
 let y <-elem' b ib
 if(ib+1==b.size)=true then pure (ForInStep.done (some (out.push y++a.extract ia a.size++b.extract (ib+1) b.size),out.push y,ia,ib+1,mg,k,bc))
 else do
  let z <-elem' a ia
  let x <-jM true z b (ib+1) (b.size-(ib+1)) 0
  match x with
  |some k2=>
   if k2>0 then
    if(ib+1+k2==b.size)=true then pure (ForInStep.done (some (out.push y++b.extract (ib+1) (ib+1+k2)++a.extract ia a.size++b.extract (ib+1+k2) b.size),out.push y++b.extract (ib+1) (ib+1+k2),ia,ib+1+k2,mg,k,k2))
    else Em a b (out.push y++b.extract (ib+1) (ib+1+k2)) ia (ib+1+k2) mg k k2
   else Em a b (out.push y) ia (ib+1) mg k k2
  |_=>pure (ForInStep.done (some (out.push y++a.extract ia a.size++b.extract (ib+1) b.size),out.push y,ia,ib+1,mg,k,bc))
def Ft(lt:kn)(it:lL)(q r:gX)(c st:Nat)(S:SortSt->Prop)(x:ForInStep LoS)(b8:hX):Prop:=
 match x with
 | .done c'=>S b8/\((∃res x,c'=(some res,x)/\Res lt it q r res)\/ ∃o2 h8 j0 o7 ac bc,c'=(none,(o2.map it).toArray,h8,j0,o7,ac,bc)/\MG lt q r o2 h8 j0/\h8+1<q.length/\j0<r.length/\c<=h8+j0)
 | .yield c'=> ∃o2 h8 j0 o7 ac bc,c'=(none,(o2.map it).toArray,h8,j0,o7,ac,bc)/\MG lt q r o2 h8 j0/\h8+1<q.length/\j0<r.length/\st<=h8+j0/\S b8
section
variable(W:Wk lt)(H:Ask prog w A E G it κ N lt){q r:gX}(B:Pre lt N q r)(top: ∀x∈r,∀y∈q.drop (q.length-1),SL lt x y){S:SortSt->Prop}{o:gX}{ia ib mg k k2 bc c cy:Nat}{st:hX}
include W H B top
theorem xv(m:MG lt q r o ia ib)(ha:ia+1<q.length)(hb:ib<r.length)(fb: ∀y∈r.drop ib,SL lt q[ia] y)(hs:S st)(hc:c<=ia+1+ib)(hy:cy<=ia+1+ib):
  wpI (model prog w) A E G (Em (q.map it).toArray (r.map it).toArray (o.map it).toArray ia ib mg k k2) (Ft lt it q r c cy S) st:=by
 unfold Em;refine fX (jh (i:=ia) (by lia) ?_);have m2:=m.putA W B (by lia) fb;rw[sA];refine gR (fun he=>?_) fun he=>?_
 ·have:ia+1+1=q.length:=by simpa using he
  exact fY ⟨hs,.inl ⟨_,_,rfl,A2 W B m2 fun x hx y hy=>top x (kr hx) y (by rw[show q.length-1=ia+1 by lia];exact hy)⟩⟩
 ·have:ia+1+1≠q.length:=by simpa using he
  refine gR (fun h7=>?_) fun h7=>?_
  ·exact fY ⟨hs,.inr ⟨_,_,_,_,_,_,rfl,m2,by lia,hb,hc⟩⟩
  ·exact fY ⟨_,_,_,_,_,_,rfl,m2,by lia,hb,hy,hs⟩
theorem Hz(hk:kindOf st=κ)(m:MG lt q r o ia ib)(ha:ia+1<q.length)(hb:ib<r.length)(fa: ∀y∈q.drop ia,SL lt r[ib] y)(hs:S st)(hc:c<=ia+ib)(hy:cy<=ia+1+ib):
  wpI (model prog w) A E G (Jk (q.map it).toArray (r.map it).toArray (o.map it).toArray ia ib mg k bc) (Ft lt it q r c cy S) st:=by
 unfold Jk;refine fX (jh hb ?_);have m2:=m.putB W B hb fa;rw[sA];refine gR (fun he=>?_) fun he=>?_
 ·have:ib+1=r.length:=by simpa using he
  exact fY ⟨hs,.inl ⟨_,_,rfl,oP W B m2 (.inr (by lia))⟩⟩
 ·have he:ib+1≠r.length:=by simpa using he
  have en:(r.drop (ib+1)).take ((r.map it).toArray.size-(ib+1))=r.drop (ib+1):=qX (by simp);refine fX (jh (i:=ia) (by lia) (fX (pq W H (B.nq _ (jA _)) B.nr (by rw[sz];lia) (by rw[sz];lia) hk (by rw[en];exact B.sr.sublist (mK _ _)) fun k' k1 k2 k3=>?_)));rw[en] at k2 k3;rw[sz] at k1;simp only[gS] at k2 k3
  have m3:=m2.putBs W B (k:=k') fun x hx y hy=>by
   rw[jj (show ia<q.length by lia)] at hy;rcases jt.mp hy with rfl|hy
   ·exact .inl (k2 x hx)
   ·exact SL.trans W (.inl (k2 x hx)) (DG W B (by lia) y hy)
  have fb: ∀y∈r.drop (ib+1+k'),SL lt q[ia] y:=fun y hy=>by
   rw[<-mL] at hy;exact .inr ⟨k3 y hy,B.ix _ (jA _) _ (kr (kr hy))⟩
  dsimp only;refine gR (fun hp=>?_) fun hp=>?_
  ·rw[Fo];refine gR (fun hf=>?_) fun hf=>?_
   ·have:ib+1+k'=r.length:=by simpa using hf
    exact fY ⟨hs,.inl ⟨_,_,rfl,oP W B m3 (.inr (by lia))⟩⟩
   ·have:ib+1+k'≠r.length:=by simpa using hf
    exact xv W H B top m3 ha (by lia) fb hs (by lia) (by lia)
  ·have hz:k'=0:=by lia
   subst hz;exact xv W H B top m2 ha (by lia) fb hs (by lia) (by lia)
end
theorem ME(W:Wk lt)(H:Ask prog w A E G it κ N lt){q r:gX}(B:Pre lt N q r)(h1:1<=q.length)(h2:1<=r.length)(hd: ∀y∈q,SL lt r[0] y)(top: ∀x∈r,∀y∈q.drop (q.length-1),SL lt x y){st:hX}(hk:kindOf st=κ){Q:Array Keyed->SortSt->Prop}
  (h: ∀out b8,Res lt it q r out->Same st b8->Q out b8):wpI (model prog w) A E G (we (q.map it).toArray (r.map it).toArray) Q st:=by
 have av: ∀{o ia ib},MG lt q r o ia ib->ia+1=q.length->Res lt it q r ((o.map it).toArray++(r.map it).toArray.extract ib (r.map it).toArray.size++(q.map it).toArray.extract ia (q.map it).toArray.size):=fun {o ia ib} m e=>A2 W B m fun x hx y hy=>top x (kr hx) y (by rw[show q.length-1=ia by lia];exact hy);rw[Dw];dsimp only;refine fX (mO (fX (jh (by lia) ?_)))
 have m0:MG lt q r [r[0]] 0 1:=by
  have:=MG.putB (o:=[]) (ia:=0) (ib:=0) W B ⟨List.Pairwise.nil,fun x hx=>absurd hx jY,by simp⟩ (by lia) (by simpa using hd);simpa using this
 have e0: #[it r[0]]=(([r[0]]:List Nat).map it).toArray:=rfl;rw[e0];refine gR (fun br=>?_) fun br=>?_
 ·have:1=r.length:=by simpa using br
  exact fY (h _ _ (oP W B m0 (.inr (by lia))) .refl)
 ·have br:1≠r.length:=by simpa using br
  refine gR (fun ah=>?_) fun ah=>?_
  ·have:0+1=q.length:=by simpa using ah
   exact fY (h _ _ (av m0 this) .refl)
  ·have ah:1≠q.length:=by simpa using ah
   refine fX (kb ?_)
   refine fX (hW (ig (I:=fun i c b8=> ∃o ia ib mg,c=(none,(o.map it).toArray,ia,ib,mg)/\MG lt q r o ia ib/\ia+1<q.length/\ib<r.length/\i+1<=ia+ib/\Same st b8)
    (Q:=fun c b8=> ∃res x,c=(some res,x)/\Res lt it q r res/\Same st b8) ?step ?fin ⟨_,0,1,_,rfl,m0,by lia,by lia,by lia,.refl⟩) ?post)
   case post=>
    rintro c b8 ⟨res,x,rfl,hr,hs⟩;exact fY (h res b8 hr hs)
   case fin=>
    rintro c b8 ⟨o,ia,ib,mg,rfl,m,b1,b2,b3,hs⟩;rw[sz,sz] at b3
    lia
   case step=>
    rintro i c aa _ _ ⟨o,ia,ib,mg,rfl,m,b1,b2,b3,hs⟩;dsimp only
    refine fX (hW (ig (I:=fun j c b8=>b8=aa/\ ∃o' p9 u3 ac bc,c=(none,(o'.map it).toArray,p9,u3,ac,bc)/\MG lt q r o' p9 u3/\p9+1<q.length/\u3<r.length/\ia+ib+j<=p9+u3)
     (Q:=fun c b8=>b8=aa/\((∃res x,c=(some res,x)/\Res lt it q r res)\/ ∃o' p9 u3 ac bc,c=(none,(o'.map it).toArray,p9,u3,ac,bc)/\MG lt q r o' p9 u3/\p9+1<q.length/\u3<r.length/\ia+ib+1<=p9+u3)) ?step1 ?fin1 ⟨rfl,o,ia,ib,0,0,rfl,m,b1,b2,by lia⟩) ?post1)
    case fin1=>
     rintro c b8 ⟨rfl,o',p9,u3,ac,bc,rfl,m',c1,c2,c3⟩;rw[sz,sz] at c3
     lia
    case step1=>
     rintro j c b8 _ _ ⟨rfl,o',p9,u3,ac,bc,rfl,m',c1,c2,c3⟩;dsimp only;refine fX (jh c2 (fX (jh (i:=p9) (by lia) (fX (vt H (hs.1.trans hk) (B.nr _ (jA _)) (B.nq _ (jA _)) ?_)))));dsimp only
     cases hl:lt r[u3] q[p9] with
     |true=>
      simp only[gS];refine fX (jh c2 ?_)
      have m2:=m'.putB W B c2 fun y hy=>by
       rw[jj (show p9<q.length by lia)] at hy;rcases jt.mp hy with rfl|hy
       ·exact .inl hl
       ·exact SL.trans W (.inl hl) (DG W B (by lia) y hy)
      rw[sA];refine gR (fun he=>?_) fun he=>?_
      ·have:u3+1=r.length:=by simpa using he
       exact fY ⟨rfl,.inl ⟨_,_,rfl,oP W B m2 (.inr (by lia))⟩⟩
      ·have:u3+1≠r.length:=by simpa using he
       refine gR (fun hg=>?_) fun hg=>?_
       ·exact fY ⟨rfl,.inr ⟨_,_,_,_,_,rfl,m2,c1,by lia,by lia⟩⟩
       ·exact fY ⟨rfl,_,_,_,_,_,rfl,m2,c1,by lia,by lia⟩
     |false=>
      simp only[hC,ik];refine fX (jh (i:=p9) (by lia) ?_)
      have m2:=m'.putA W B (by lia) fun y hy=>by
       rw[jj c2] at hy;have first:SL lt q[p9] r[u3]:= .inr ⟨hl,B.ix _ (jA _) _ (jA _)⟩;rcases jt.mp hy with rfl|hy
       ·exact first
       ·exact SL.trans W first (zO W B c2 y hy)
      rw[sA];refine gR (fun he=>?_) fun he=>?_
      ·have:p9+1+1=q.length:=by simpa using he
       exact fY ⟨rfl,.inl ⟨_,_,rfl,av m2 this⟩⟩
      ·have:p9+1+1≠q.length:=by simpa using he
       refine gR (fun hg=>?_) fun hg=>?_
       ·exact fY ⟨rfl,.inr ⟨_,_,_,_,_,rfl,m2,by lia,c2,by lia⟩⟩
       ·exact fY ⟨rfl,_,_,_,_,_,rfl,m2,by lia,c2,by lia⟩
    case post1=>
     rintro c b8 ⟨rfl,⟨res,x,rfl,hr⟩|⟨o',p9,u3,ac,bc,rfl,m',c1,c2,c3⟩⟩
     ·exact fY ⟨res,_,rfl,hr,hs⟩
     ·dsimp only
      refine fX (mO (fX (hW (ig (I:=fun j c b8=> ∃o2 h8 j0 o7 ac bc,c=(none,(o2.map it).toArray,h8,j0,o7,ac,bc)/\MG lt q r o2 h8 j0/\h8+1<q.length/\j0<r.length/\ia+ib+1+j<=h8+j0/\Same st b8)
       (Q:=fun c b8=>Same st b8/\((∃res x,c=(some res,x)/\Res lt it q r res)\/ ∃o2 h8 j0 o7 ac bc,c=(none,(o2.map it).toArray,h8,j0,o7,ac,bc)/\MG lt q r o2 h8 j0/\h8+1<q.length/\j0<r.length/\ia+ib+1<=h8+j0)) ?step2 ?fin2 ⟨o',p9,u3,_,_,_,rfl,m',c1,c2,by lia,hs⟩) ?post2)))
      case fin2=>
       rintro c b8 ⟨o2,h8,j0,o7,ac,bc,rfl,m2,d1,d2,d3,u5⟩;rw[sz,sz] at d3
       lia
      case post2=>
       rintro c b8 ⟨u5,⟨res,x,rfl,hr⟩|⟨o2,h8,j0,o7,ac,bc,rfl,m2,d1,d2,d3⟩⟩
       ·exact fY ⟨res,_,rfl,hr,u5⟩
       ·dsimp only;exact fX (pk fun j4 l5=>fY ⟨o2,h8,j0,_,rfl,m2,d1,d2,by lia,u5.trans l5⟩)
      case step2=>
       rintro j c g9 _ _ ⟨o2,h8,j0,o7,ac,bc,rfl,m2,d1,d2,d3,u5⟩;dsimp only;have en:(q.drop h8).take ((q.map it).toArray.size-h8)=q.drop h8:=qX (by simp)
       have mid: ∀(u0 k:Nat) (j4:hX),Same st j4->k<=(q.map it).toArray.size-h8->(∀y∈(q.drop h8).take k,lt r[j0] y=false)->(∀y∈(q.drop h8).drop k,lt r[j0] y=true)->h8+k+1≠q.length->h8+k≠q.length->
         wpI (model prog w) A E G (Jk (q.map it).toArray (r.map it).toArray ((o2++(q.drop h8).take k).map it).toArray (h8+k) j0 u0 k bc) (Ft lt it q r (ia+ib+1) (ia+ib+1+(j+1)) (Same st)) j4:=fun u0 k j4 l5 k1 k2 k3 e1 e2=>by
        rw[sz] at k1;refine Hz W H B top (l5.1.trans hk) (m2.putAs W B fun x hx y hy=>?_) (by lia) d2 (fun y hy=>?_) l5 (by lia) (by lia)
        ·have first:SL lt x r[j0]:= .inr ⟨k2 x hx,B.ix x (kr (ly hx)) _ (jA _)⟩;rw[jj d2] at hy;rcases jt.mp hy with rfl|hy
         ·exact first
         ·exact SL.trans W first (zO W B d2 y hy)
        ·rw[<-mL] at hy;exact .inl (k3 y hy)
       have body: ∀(u0:Nat) (j4:hX),Same st j4->wpI (model prog w) A E G (do
         let y <-elem' (r.map it).toArray j0
         let x <-jM false y (q.map it).toArray h8 ((q.map it).toArray.size-h8) 0
         match x with
         |some k=>
          if k>0 then
           if(h8+k+1==(q.map it).toArray.size)=true then pure (ForInStep.done (some ((o2.map it).toArray++(q.map it).toArray.extract h8 (h8+k)++(r.map it).toArray.extract j0 (r.map it).toArray.size++(q.map it).toArray.extract (h8+k) (q.map it).toArray.size),(o2.map it).toArray++(q.map it).toArray.extract h8 (h8+k),h8+k,j0,u0,k,bc))
           else if(h8+k==(q.map it).toArray.size)=true then pure (ForInStep.done (some ((o2.map it).toArray++(q.map it).toArray.extract h8 (h8+k)++(q.map it).toArray.extract (h8+k) (q.map it).toArray.size++(r.map it).toArray.extract j0 (r.map it).toArray.size),(o2.map it).toArray++(q.map it).toArray.extract h8 (h8+k),h8+k,j0,u0,k,bc))
           else Jk (q.map it).toArray (r.map it).toArray ((o2.map it).toArray++(q.map it).toArray.extract h8 (h8+k)) (h8+k) j0 u0 k bc
          else Jk (q.map it).toArray (r.map it).toArray (o2.map it).toArray h8 j0 u0 k bc
         |_=>pure (ForInStep.done (some ((o2.map it).toArray++(q.map it).toArray.extract h8 (q.map it).toArray.size++(r.map it).toArray.extract j0 (r.map it).toArray.size),(o2.map it).toArray,h8,j0,u0,ac,bc))) (Ft lt it q r (ia+ib+1) (ia+ib+1+(j+1)) (Same st)) j4:=fun u0 j4 l5=>by
        refine fX (jh d2 (fX (pq W H (B.nr _ (jA _)) B.nq (by rw[sz];lia) (by rw[sz];lia) (l5.1.trans hk) (by rw[en];exact B.sq.sublist (mK _ _)) fun k k1 k2 k3=>?_)));rw[en] at k2 k3;simp only[hC,ik,Bool.not_eq_true',Bool.not_eq_false'] at k2 k3;have hkl:=k1;rw[sz] at hkl
        have mA:MG lt q r (o2++(q.drop h8).take k) (h8+k) j0:=m2.putAs W B fun x hx y hy=>by
         have first:SL lt x r[j0]:= .inr ⟨k2 x hx,B.ix x (kr (ly hx)) _ (jA _)⟩;rw[jj d2] at hy;rcases jt.mp hy with rfl|hy
         ·exact first
         ·exact SL.trans W first (zO W B d2 y hy)
        dsimp only;refine gR (fun hp=>?_) fun hp=>?_
        ·rw[Fo];refine gR (fun he=>?_) fun he=>?_
         ·exact fY ⟨l5,.inl ⟨_,_,rfl,av mA (by simpa using he)⟩⟩
         ·refine gR (fun hf=>?_) fun hf=>?_
          ·have:h8+k=q.length:=by simpa using hf
           exact fY ⟨l5,.inl ⟨_,_,rfl,oP W B mA (.inl (by lia))⟩⟩
          ·exact mid u0 k j4 l5 k1 k2 k3 (by simpa using he) (by simpa using hf)
        ·have hz:k=0:=by lia
         subst hz;have:=mid u0 0 j4 l5 k1 k2 k3 (by lia) (by lia);simpa using this
       refine gR (fun hm=>?_) fun hm=>?_
       ·refine fX (pk fun j4 l5=>?_);exact hW (body _ j4 (u5.trans l5)) fun x b8 hx=>by cases x<;>exact hx
       ·refine fX (pk fun j4 l5=>?_);exact hW (body _ j4 (u5.trans l5)) fun x b8 hx=>by cases x<;>exact hx
end
theorem Dx(a b:lM):wg a b=(do
 rule "list.sort.merge-hi"
 let total:=a.size+b.size
 let done (out:lM) (na nb:Nat):=a.extract 0 na++b.extract 0 nb++out.reverse
 let k9 (out:lM) (na nb:Nat):=b.extract 0 nb++a.extract 0 na++out.reverse
 let mut na:=a.size-1
 let mut nb:=b.size
 let mut out:Array Keyed:= #[<-elem' a na]
 if na==0 then return done out na nb
 if nb==1 then return k9 out na nb
 let mut minGallop:=gallopOf (<-get)
 for _ in [0:total] do
  let mut acount:=0
  let mut bcount:=0
  for _ in [0:total] do
   let some aWins <-lt' (<-elem' b (nb-1)) (<-elem' a (na-1))|return done out na nb
   if aWins then
    na:=na-1;out:=out.push (<-elem' a na);acount:=acount+1;bcount:=0
    if na==0 then return done out na nb
    if acount>=minGallop then break
   else
    nb:=nb-1;out:=out.push (<-elem' b nb);bcount:=bcount+1;acount:=0
    if nb==1 then return k9 out na nb
    if bcount>=minGallop then break
  rule "list.sort.gallop"
  minGallop:=minGallop+1
  for _ in [0:total] do
   if minGallop>1 then minGallop:=minGallop-1
   rK minGallop
   let some at_ <-jM false (<-elem' b (nb-1)) a 0 na (na-1)|return done out na nb
   let k:=na-at_
   acount:=k
   if k>0 then
    out:=out++(a.extract at_ na).reverse;na:=at_
    if na==0 then return done out na nb
   nb:=nb-1;out:=out.push (<-elem' b nb)
   if nb==1 then return k9 out na nb
   let some at_ <-jM true (<-elem' a (na-1)) b 0 nb (nb-1)|return done out na nb
   let k:=nb-at_
   bcount:=k
   if k>0 then
    out:=out++(b.extract at_ nb).reverse;nb:=at_
    if nb==1 then return k9 out na nb
    if nb==0 then return done out na nb
   na:=na-1;out:=out.push (<-elem' a na)
   if na==0 then return done out na nb
   if acount<7&&bcount<7 then break
  minGallop:=minGallop+1
  rK minGallop
 unsupported "internal:list.sort.merge-bound"):=rfl
section
variable {prog:gw}{w:gm}{A:gv}{E:gD}{G:Shared->Prop}{it:lL}{lt:kn}{κ:SortKind}{N:Nat}
structure MH(lt:kn)(q r s:gX)(na nb:Nat):Prop where
 srt:s.Pairwise (SL lt)
 high: ∀y,(y∈q.take na\/y∈r.take nb)-> ∀x∈s,SL lt y x
 pm:(q.take na++r.take nb++s).Perm (q++r)
theorem ju{l:gX}{n:Nat}(h1:0<n)(h:n<=l.length):l.take n=l.take (n-1)++[l[n-1]]:=by
 obtain⟨m,rfl⟩: ∃m,n=m+1:=⟨n-1,by lia⟩
 rw[Ck,il (by lia)];rfl
theorem mw{l:gX}{i j x:Nat}(h:x∈l.take i)(n9:i<=j):x∈l.take j:=by
 have:=List.take_sublist_take_left (l:=l) n9;exact this.subset h
section
variable {q r s:gX}{na nb k:Nat}(W:Wk lt)(B:Pre lt N q r)
include W B
theorem DL(h0:0<na)(h:na<=q.length): ∀y∈q.take (na-1),SL lt y q[na-1]:=fun y hy=>by
 have:=B.sq.sublist (mf na q);rw[ju h0 h,lZ] at this;exact this.2.2 y hy _ (mN.mpr rfl)
theorem DK(h0:0<nb)(h:nb<=r.length): ∀y∈r.take (nb-1),SL lt y r[nb-1]:=fun y hy=>by
 have:=B.sr.sublist (mf nb r);rw[ju h0 h,lZ] at this;exact this.2.2 y hy _ (mN.mpr rfl)
theorem MH.putA(m:MH lt q r s na nb)(h0:0<na)(h1:na<=q.length)(h: ∀y∈r.take nb,SL lt y q[na-1]):MH lt q r (q[na-1]::s) (na-1) nb:=by
 have hm:q[na-1]∈q.take na:=by rw[ju h0 h1];exact nO _ (mN.mpr rfl)
 refine⟨nX.mpr ⟨fun x hx=>m.high _ (.inl hm) x hx,m.srt⟩,fun y hy x hx=>?_,?_⟩
 ·rcases jt.mp hx with rfl|hx
  ·exact hy.elim (DL W B h0 h1 y) (h y)
  ·exact m.high y (hy.imp (fun z=>mw z (Nat.sub_le _ _)) id) x hx
 ·refine List.Perm.trans ?_ m.pm;rw[ju h0 h1]
  have e:(q.take (na-1)++r.take nb++q[na-1]::s).Perm (q.take (na-1)++(q[na-1]::(r.take nb++s))):=by
   rw[jc];exact pW _ Ar
  refine e.trans (uY ?_);rw[jc,jc,Cj]
theorem MH.putB(m:MH lt q r s na nb)(h0:0<nb)(h1:nb<=r.length)(h: ∀y∈q.take na,SL lt y r[nb-1]):MH lt q r (r[nb-1]::s) na (nb-1):=by
 have hm:r[nb-1]∈r.take nb:=by rw[ju h0 h1];exact nO _ (mN.mpr rfl)
 refine⟨nX.mpr ⟨fun x hx=>m.high _ (.inr hm) x hx,m.srt⟩,fun y hy x hx=>?_,?_⟩
 ·rcases jt.mp hx with rfl|hx
  ·exact hy.elim (h y) (DK W B h0 h1 y)
  ·exact m.high y (hy.imp id fun z=>mw z (Nat.sub_le _ _)) x hx
 ·refine List.Perm.trans ?_ m.pm;refine uY ?_;rw[ju h0 h1,jc,jc,jc,Cj]
theorem MH.putAs(m:MH lt q r s na nb)(hk:k<=na)(h: ∀y∈r.take nb,∀x∈(q.take na).drop k,SL lt y x):MH lt q r ((q.take na).drop k++s) k nb:=by
 have e:q.take k=(q.take na).take k:=by rw[qw,qW hk]
 have hs:=B.sq.sublist (mf na q);rw[<-ko k (q.take na),lZ] at hs;obtain⟨s1,s2,s3⟩:=hs;refine⟨lZ.mpr ⟨s2,m.srt,fun y hy x hx=>m.high y (.inl (kr hy)) x hx⟩,fun y hy x hx=>?_,?_⟩
 ·rcases nS.mp hx with hx|hx
  ·exact hy.elim (fun z=>s3 y (by rw[<-e];exact z) x hx) fun z=>h y z x hx
  ·exact m.high y (hy.imp (fun z=>mw z hk) id) x hx
 ·refine List.Perm.trans ?_ m.pm;rw[<-jc];refine sQ s ?_;rw[e]
  have:((q.take na).take k++r.take nb++(q.take na).drop k).Perm ((q.take na).take k++(q.take na).drop k++r.take nb):=by
   rw[jc,jc];exact pW _ yP
  rwa [ko] at this
theorem MH.putBs(m:MH lt q r s na nb)(hk:k<=nb)(h: ∀y∈q.take na,∀x∈(r.take nb).drop k,SL lt y x):MH lt q r ((r.take nb).drop k++s) na k:=by
 have e:r.take k=(r.take nb).take k:=by rw[qw,qW hk]
 have hs:=B.sr.sublist (mf nb r);rw[<-ko k (r.take nb),lZ] at hs;obtain⟨s1,s2,s3⟩:=hs;refine⟨lZ.mpr ⟨s2,m.srt,fun y hy x hx=>m.high y (.inr (kr hy)) x hx⟩,fun y hy x hx=>?_,?_⟩
 ·rcases nS.mp hx with hx|hx
  ·exact hy.elim (fun z=>h y z x hx) fun z=>s3 y (by rw[<-e];exact z) x hx
  ·exact m.high y (hy.imp id fun z=>mw z hk) x hx
 ·refine List.Perm.trans ?_ m.pm;rw[e,<-jc];refine sQ s ?_;rw[jc,ko]
theorem MH.endA(m:MH lt q r s na nb)(h:na=0\/nb=0):(q.take na++r.take nb++s).Pairwise (SL lt):=by
 refine lZ.mpr ⟨?_,m.srt,fun y hy x hx=>m.high y (nS.mp hy) x hx⟩;rcases h with rfl|rfl
 ·rw[List.take_zero,qx];exact B.sr.sublist (mf _ _)
 ·rw[List.take_zero,qB];exact B.sq.sublist (mf _ _)
theorem MH.endL(m:MH lt q r s na nb)(h: ∀x∈r.take nb,∀y∈q.take na,SL lt x y):(r.take nb++q.take na++s).Pairwise (SL lt)/\(r.take nb++q.take na++s).Perm (q++r):=
 ⟨lZ.mpr ⟨lZ.mpr ⟨B.sr.sublist (mf _ _),B.sq.sublist (mf _ _),h⟩,m.srt,fun y hy x hx=>m.high y ((nS.mp hy).symm) x hx⟩,(sQ s yP).trans m.pm⟩
end
theorem pT:((s.reverse.map it).toArray.push (it x))=((x::s).reverse.map it).toArray:=by simp
theorem BQ{s q r:gX}{i j:Nat}:((q.map it).toArray.extract 0 i++(r.map it).toArray.extract 0 j++(s.reverse.map it).toArray.reverse)=((q.take i++r.take j++s).map it).toArray:=by
 simp[sO,sN]
theorem BP{s q:gX}{i k:Nat}:((s.reverse.map it).toArray++((q.map it).toArray.extract k i).reverse)=(((q.take i).drop k++s).reverse.map it).toArray:=by
 simp[sO,sN,List.drop_take]
theorem mU(W:Wk lt){q r s:gX}{na nb:Nat}(B:Pre lt N q r)(m:MH lt q r s na nb)(h:na=0\/nb=0):Res lt it q r ((q.map it).toArray.extract 0 na++(r.map it).toArray.extract 0 nb++(s.reverse.map it).toArray.reverse):=⟨_,BQ,m.endA W B h,m.pm⟩
theorem C8(W:Wk lt){q r s:gX}{na nb:Nat}(B:Pre lt N q r)(m:MH lt q r s na nb)(h: ∀x∈r.take nb,∀y∈q.take na,SL lt x y):Res lt it q r ((r.map it).toArray.extract 0 nb++(q.map it).toArray.extract 0 na++(s.reverse.map it).toArray.reverse):=⟨_,BQ,m.endL W B h⟩
end
abbrev HiS:=Option (Array Keyed)×Nat×Nat×Array Keyed×Nat×Nat×Nat
noncomputable def En(a b out:lM)(na nb mg k k2:Nat):StateT SortSt Sem (ForInStep HiS):=do
 let y <-elem' a (na-1)
 if(na-1==0)=true then pure (ForInStep.done (some (a.extract 0 (na-1)++b.extract 0 nb++(out.push y).reverse),na-1,nb,out.push y,mg,k,k2))
 else if(decide (k<7)&&decide (k2<7))=true then pure (ForInStep.done (none,na-1,nb,out.push y,mg,k,k2)) else pure (ForInStep.yield (none,na-1,nb,out.push y,mg,k,k2))
noncomputable def LI(a b out:lM)(na nb mg k bc:Nat):StateT SortSt Sem (ForInStep HiS):=do
 let y <-elem' b (nb-1)
 if(nb-1==1)=true then pure (ForInStep.done (some (b.extract 0 (nb-1)++a.extract 0 na++(out.push y).reverse),na,nb-1,out.push y,mg,k,bc))
 else do
  let z <-elem' a (na-1)
  let x <-jM true z b 0 (nb-1) (nb-1-1)
  match x with
  |some at_=>
   if nb-1-at_>0 then
    if(at_==1)=true then pure (ForInStep.done (some (b.extract 0 at_++a.extract 0 na++(out.push y++(b.extract at_ (nb-1)).reverse).reverse),na,at_,out.push y++(b.extract at_ (nb-1)).reverse,mg,k,nb-1-at_))
    else if(at_==0)=true then pure (ForInStep.done (some (a.extract 0 na++b.extract 0 at_++(out.push y++(b.extract at_ (nb-1)).reverse).reverse),na,at_,out.push y++(b.extract at_ (nb-1)).reverse,mg,k,nb-1-at_))
    else En a b (out.push y++(b.extract at_ (nb-1)).reverse) na at_ mg k (nb-1-at_)
   else En a b (out.push y) na (nb-1) mg k (nb-1-at_)
  |_=>pure (ForInStep.done (some (a.extract 0 na++b.extract 0 (nb-1)++(out.push y).reverse),na,nb-1,out.push y,mg,k,bc))
def Kj(lt:kn)(it:lL)(q r:gX)(c cy:Nat)(S:SortSt->Prop)(x:ForInStep HiS)(b8:hX):Prop:=
 match x with
 | .done c'=>S b8/\((∃res x,c'=(some res,x)/\Res lt it q r res)\/ ∃s2 i7 i9 o7 ac bc,c'=(none,i7,i9,(s2.reverse.map it).toArray,o7,ac,bc)/\MH lt q r s2 i7 i9/\1<=i7/\i7<=q.length/\2<=i9/\i9<=r.length/\i7+i9+c<=q.length+r.length)
 | .yield c'=> ∃s2 i7 i9 o7 ac bc,c'=(none,i7,i9,(s2.reverse.map it).toArray,o7,ac,bc)/\MH lt q r s2 i7 i9/\1<=i7/\i7<=q.length/\2<=i9/\i9<=r.length/\i7+i9+cy<=q.length+r.length/\S b8
section
variable {prog:gw}{w:gm}{A:gv}{E:gD}{G:Shared->Prop}{it:lL}{lt:kn}{κ:SortKind}{N:Nat}
section
variable(W:Wk lt)(H:Ask prog w A E G it κ N lt){q r:gX}(B:Pre lt N q r)(bot: ∀x∈r.take 1,∀y∈q,SL lt x y){S:SortSt->Prop}{s:gX}{na nb mg k k2 bc c cy:Nat}{st:hX}
include W H B bot
theorem xw(m:MH lt q r s na nb)(ha:1<=na)(cS:na<=q.length)(hb:2<=nb)(eA:nb<=r.length)(fa: ∀y∈r.take nb,SL lt y q[na-1])(hs:S st)(hc:na-1+nb+c<=q.length+r.length)(hy:na-1+nb+cy<=q.length+r.length):
  wpI (model prog w) A E G (En (q.map it).toArray (r.map it).toArray (s.reverse.map it).toArray na nb mg k k2) (Kj lt it q r c cy S) st:=by
 unfold En;refine fX (jh (i:=na-1) (by lia) ?_);have m2:=m.putA W B (by lia) cS fa;rw[pT];refine gR (fun he=>?_) fun he=>?_
 ·exact fY ⟨hs,.inl ⟨_,_,rfl,mU W B m2 (.inl (by simpa using he))⟩⟩
 ·have:na-1≠0:=fun z=>he (by simp[z]);refine gR (fun h7=>?_) fun h7=>?_
  ·exact fY ⟨hs,.inr ⟨_,_,_,_,_,_,rfl,m2,by lia,by lia,hb,eA,hc⟩⟩
  ·exact fY ⟨_,_,_,_,_,_,rfl,m2,by lia,by lia,hb,eA,hy,hs⟩
theorem wF(m:MH lt q r s na nb)(h:nb=1):Res lt it q r ((r.map it).toArray.extract 0 nb++(q.map it).toArray.extract 0 na++(s.reverse.map it).toArray.reverse):=C8 W B m fun x hx y hy=>bot x (by rw[<-h];exact hx) y (ly hy)
theorem As(hk:kindOf st=κ)(m:MH lt q r s na nb)(ha:1<=na)(cS:na<=q.length)(hb:2<=nb)(eA:nb<=r.length)(fb: ∀y∈q.take na,SL lt y r[nb-1])(hs:S st)(hc:na+nb+c<=q.length+r.length+1)(hy:na+nb+cy<=q.length+r.length+2):
  wpI (model prog w) A E G (LI (q.map it).toArray (r.map it).toArray (s.reverse.map it).toArray na nb mg k bc) (Kj lt it q r c cy S) st:=by
 unfold LI;refine fX (jh (i:=nb-1) (by lia) ?_);have m2:=m.putB W B (by lia) eA fb;rw[pT];refine gR (fun he=>?_) fun he=>?_
 ·exact fY ⟨hs,.inl ⟨_,_,rfl,wF W H B bot m2 (by simpa using he)⟩⟩
 ·have he:nb-1≠1:=fun z=>he (by simp[z]);have en:(r.drop 0).take (nb-1)=r.take (nb-1):=by rw[uX]
  refine fX (jh (i:=na-1) (by lia) (fX (pq W H (B.nq _ (jA _)) B.nr (by lia) (by lia) hk (by rw[en];exact B.sr.sublist (mf _ _)) fun k' k1 k2 k3=>?_)));rw[en] at k2 k3;simp only[gS] at k2 k3
  have m3:=m2.putBs W B (k:=k') k1 fun y hy x hx=>by
   have first:SL lt q[na-1] x:= .inr ⟨k3 x hx,B.ix _ (jA _) _ (ly (kr hx))⟩;rw[ju ha cS] at hy;rcases nS.mp hy with hy|hy
   ·exact SL.trans W (DL W B ha cS y hy) first
   ·rw[mN] at hy;subst hy;exact first
  have e2:r.take k'=(r.take (nb-1)).take k':=by rw[qw,qW k1]
  have fa: ∀y∈r.take k',SL lt y q[na-1]:=fun y hy=> .inl (k2 y (by rw[<-e2];exact hy));dsimp only;refine gR (fun hp=>?_) fun hp=>?_
  ·rw[BP];refine gR (fun hf=>?_) fun hf=>?_
   ·exact fY ⟨hs,.inl ⟨_,_,rfl,wF W H B bot m3 (by simpa using hf)⟩⟩
   ·have hf:k'≠1:=fun z=>hf (by simp[z]);refine gR (fun hg=>?_) fun hg=>?_
    ·exact fY ⟨hs,.inl ⟨_,_,rfl,mU W B m3 (.inr (by simpa using hg))⟩⟩
    ·have hg:k'≠0:=fun z=>hg (by simp[z]);exact xw W H B bot m3 ha cS (by lia) (by lia) fa hs (by lia) (by lia)
  ·have hz:k'=nb-1:=by lia
   subst hz;exact xw W H B bot m2 ha cS (by lia) (by lia) fa hs (by lia) (by lia)
end
theorem MF(W:Wk lt)(H:Ask prog w A E G it κ N lt){q r:gX}(B:Pre lt N q r)(h1:1<=q.length)(h2:1<=r.length)(bot: ∀x∈r.take 1,∀y∈q,SL lt x y)(top: ∀x∈r,SL lt x q[q.length-1]){st:hX}(hk:kindOf st=κ){Q:Array Keyed->SortSt->Prop}
  (h: ∀out b8,Res lt it q r out->Same st b8->Q out b8):wpI (model prog w) A E G (wg (q.map it).toArray (r.map it).toArray) Q st:=by
 have firstB: ∀{s na nb},MH lt q r s na nb->nb=1->Res lt it q r ((r.map it).toArray.extract 0 nb++(q.map it).toArray.extract 0 na++(s.reverse.map it).toArray.reverse):=fun m e=>wF W H B bot m e;rw[Dx];dsimp only;have e1:(q.map it).toArray.size=q.length:=sz q it;have e2:(r.map it).toArray.size=r.length:=sz r it;rw[e1,e2];refine fX (mO (fX (jh (i:=q.length-1) (by lia) ?_)))
 have m0:MH lt q r [q[q.length-1]] (q.length-1) r.length:=by
  have:=MH.putA (s:=[]) (na:=q.length) (nb:=r.length) W B ⟨List.Pairwise.nil,fun y hy x hx=>absurd hx jY,by simp⟩ (by lia) (gQ _) (fun y hy=>top y (ly hy));exact this
 have e0: #[it q[q.length-1]]=(([q[q.length-1]]:List Nat).reverse.map it).toArray:=rfl;rw[e0];refine gR (fun ah=>?_) fun ah=>?_
 ·exact fY (h _ _ (mU W B m0 (.inl (by simpa using ah))) .refl)
 ·have ah:q.length-1≠0:=fun z=>ah (by simp[z]);refine gR (fun br=>?_) fun br=>?_
  ·exact fY (h _ _ (firstB m0 (by simpa using br)) .refl)
  ·have br:r.length≠1:=fun z=>br (by simp[z]);refine fX (kb ?_)
   refine fX (hW (ig (I:=fun i c b8=> ∃s na nb mg,c=(none,na,nb,(s.reverse.map it).toArray,mg)/\MH lt q r s na nb/\1<=na/\na<=q.length/\2<=nb/\nb<=r.length/\na+nb+(i+1)<=q.length+r.length/\Same st b8)
    (Q:=fun c b8=> ∃res x,c=(some res,x)/\Res lt it q r res/\Same st b8) ?step ?fin ⟨_,q.length-1,r.length,_,rfl,m0,by lia,by lia,by lia,by lia,by lia,.refl⟩) ?post)
   case post=>
    rintro c b8 ⟨res,x,rfl,hr,hs⟩;exact fY (h res b8 hr hs)
   case fin=>
    rintro c b8 ⟨s,na,nb,mg,rfl,m,b1,b2,b3,b4,b5,hs⟩
    lia
   case step=>
    rintro i c aa _ _ ⟨s,na,nb,mg,rfl,m,b1,b2,b3,b4,b5,hs⟩;dsimp only
    refine fX (hW (ig (I:=fun j c b8=>b8=aa/\ ∃s' p8 h9 ac bc,c=(none,p8,h9,(s'.reverse.map it).toArray,ac,bc)/\MH lt q r s' p8 h9/\1<=p8/\p8<=q.length/\2<=h9/\h9<=r.length/\p8+h9+j<=na+nb)
     (Q:=fun c b8=>b8=aa/\((∃res x,c=(some res,x)/\Res lt it q r res)\/ ∃s' p8 h9 ac bc,c=(none,p8,h9,(s'.reverse.map it).toArray,ac,bc)/\MH lt q r s' p8 h9/\1<=p8/\p8<=q.length/\2<=h9/\h9<=r.length/\p8+h9+1<=na+nb)) ?step1 ?fin1 ⟨rfl,s,na,nb,0,0,rfl,m,b1,b2,b3,b4,by lia⟩) ?post1)
    case fin1=>
     rintro c b8 ⟨rfl,s',p8,h9,ac,bc,rfl,m',c1,c2,c3,c4,c5⟩
     lia
    case step1=>
     rintro j c b8 _ _ ⟨rfl,s',p8,h9,ac,bc,rfl,m',c1,c2,c3,c4,c5⟩;dsimp only;refine fX (jh (i:=h9-1) (by lia) (fX (jh (i:=p8-1) (by lia) (fX (vt H (hs.1.trans hk) (B.nr _ (jA _)) (B.nq _ (jA _)) ?_)))));dsimp only
     cases hl:lt r[h9-1] q[p8-1] with
     |true=>
      simp only[gS];refine fX (jh (i:=p8-1) (by lia) ?_)
      have m2:=m'.putA W B c1 c2 fun y hy=>by
       rw[ju (show 0<h9 by lia) c4] at hy;rcases nS.mp hy with hy|hy
       ·exact SL.trans W (DK W B (by lia) c4 y hy) (.inl hl)
       ·rw[mN] at hy;subst hy;exact .inl hl
      rw[pT];refine gR (fun he=>?_) fun he=>?_
      ·exact fY ⟨rfl,.inl ⟨_,_,rfl,mU W B m2 (.inl (by simpa using he))⟩⟩
      ·have:p8-1≠0:=fun z=>he (by simp[z]);refine gR (fun hg=>?_) fun hg=>?_
       ·exact fY ⟨rfl,.inr ⟨_,_,_,_,_,rfl,m2,by lia,by lia,c3,c4,by lia⟩⟩
       ·exact fY ⟨rfl,_,_,_,_,_,rfl,m2,by lia,by lia,c3,c4,by lia⟩
     |false=>
      simp only[hC,ik];refine fX (jh (i:=h9-1) (by lia) ?_)
      have m2:=m'.putB W B (by lia) c4 fun y hy=>by
       have first:SL lt q[p8-1] r[h9-1]:= .inr ⟨hl,B.ix _ (jA _) _ (jA _)⟩;rw[ju c1 c2] at hy;rcases nS.mp hy with hy|hy
       ·exact SL.trans W (DL W B c1 c2 y hy) first
       ·rw[mN] at hy;subst hy;exact first
      rw[pT];refine gR (fun he=>?_) fun he=>?_
      ·exact fY ⟨rfl,.inl ⟨_,_,rfl,firstB m2 (by simpa using he)⟩⟩
      ·have:h9-1≠1:=fun z=>he (by simp[z]);refine gR (fun hg=>?_) fun hg=>?_
       ·exact fY ⟨rfl,.inr ⟨_,_,_,_,_,rfl,m2,c1,c2,by lia,by lia,by lia⟩⟩
       ·exact fY ⟨rfl,_,_,_,_,_,rfl,m2,c1,c2,by lia,by lia,by lia⟩
    case post1=>
     rintro c b8 ⟨rfl,⟨res,x,rfl,hr⟩|⟨s',p8,h9,ac,bc,rfl,m',c1,c2,c3,c4,c5⟩⟩
     ·exact fY ⟨res,_,rfl,hr,hs⟩
     ·dsimp only
      refine fX (mO (fX (hW (ig (I:=fun j c b8=> ∃s2 i7 i9 o7 ac bc,c=(none,i7,i9,(s2.reverse.map it).toArray,o7,ac,bc)/\MH lt q r s2 i7 i9/\1<=i7/\i7<=q.length/\2<=i9/\i9<=r.length/\i7+i9+(i+2+j)<=q.length+r.length/\Same st b8)
       (Q:=fun c b8=>Same st b8/\((∃res x,c=(some res,x)/\Res lt it q r res)\/ ∃s2 i7 i9 o7 ac bc,c=(none,i7,i9,(s2.reverse.map it).toArray,o7,ac,bc)/\MH lt q r s2 i7 i9/\1<=i7/\i7<=q.length/\2<=i9/\i9<=r.length/\i7+i9+(i+2)<=q.length+r.length)) ?step2 ?fin2 ⟨s',p8,h9,_,_,_,rfl,m',c1,c2,c3,c4,by lia,hs⟩) ?post2)))
      case fin2=>
       rintro c b8 ⟨s2,i7,i9,o7,ac,bc,rfl,m2,d1,d2,d3,d4,d5,u5⟩
       lia
      case post2=>
       rintro c b8 ⟨u5,⟨res,x,rfl,hr⟩|⟨s2,i7,i9,o7,ac,bc,rfl,m2,d1,d2,d3,d4,d5⟩⟩
       ·exact fY ⟨res,_,rfl,hr,u5⟩
       ·dsimp only;exact fX (pk fun j4 l5=>fY ⟨s2,i7,i9,_,rfl,m2,d1,d2,d3,d4,by lia,u5.trans l5⟩)
      case step2=>
       rintro j c g9 _ _ ⟨s2,i7,i9,o7,ac,bc,rfl,m2,d1,d2,d3,d4,d5,u5⟩;dsimp only;have en:(q.drop 0).take i7=q.take i7:=by rw[uX]
       have body: ∀(u0:Nat) (j4:hX),Same st j4->wpI (model prog w) A E G (do
         let y <-elem' (r.map it).toArray (i9-1)
         let x <-jM false y (q.map it).toArray 0 i7 (i7-1)
         match x with
         |some at_=>
          if i7-at_>0 then
           if(at_==0)=true then pure (ForInStep.done (some ((q.map it).toArray.extract 0 at_++(r.map it).toArray.extract 0 i9++((s2.reverse.map it).toArray++((q.map it).toArray.extract at_ i7).reverse).reverse),at_,i9,(s2.reverse.map it).toArray++((q.map it).toArray.extract at_ i7).reverse,u0,i7-at_,bc))
           else LI (q.map it).toArray (r.map it).toArray ((s2.reverse.map it).toArray++((q.map it).toArray.extract at_ i7).reverse) at_ i9 u0 (i7-at_) bc
          else LI (q.map it).toArray (r.map it).toArray (s2.reverse.map it).toArray i7 i9 u0 (i7-at_) bc
         |_=>pure (ForInStep.done (some ((q.map it).toArray.extract 0 i7++(r.map it).toArray.extract 0 i9++(s2.reverse.map it).toArray.reverse),i7,i9,(s2.reverse.map it).toArray,u0,ac,bc))) (Kj lt it q r (i+2) (i+2+(j+1)) (Same st)) j4:=fun u0 j4 l5=>by
        refine fX (jh (i:=i9-1) (by lia) (fX (pq W H (B.nr _ (jA _)) B.nq (by lia) (by lia) (l5.1.trans hk) (by rw[en];exact B.sq.sublist (mf _ _)) fun k k1 k2 k3=>?_)));rw[en] at k2 k3;simp only[hC,ik,Bool.not_eq_true',Bool.not_eq_false'] at k2 k3
        have mA:MH lt q r ((q.take i7).drop k++s2) k i9:=m2.putAs W B k1 fun y hy x hx=>by
         have first:SL lt r[i9-1] x:= .inl (k3 x hx);rw[ju (show 0<i9 by lia) d4] at hy;rcases nS.mp hy with hy|hy
         ·exact SL.trans W (DK W B (by lia) d4 y hy) first
         ·rw[mN] at hy;subst hy;exact first
        have ek:q.take k=(q.take i7).take k:=by rw[qw,qW k1]
        have fb: ∀y∈q.take k,SL lt y r[i9-1]:=fun y hy=> .inr ⟨k2 y (by rw[<-ek];exact hy),B.ix _ (ly hy) _ (jA _)⟩;dsimp only;refine gR (fun hp=>?_) fun hp=>?_
        ·rw[BP];refine gR (fun he=>?_) fun he=>?_
         ·exact fY ⟨l5,.inl ⟨_,_,rfl,mU W B mA (.inl (by simpa using he))⟩⟩
         ·have he:k≠0:=fun z=>he (by simp[z]);exact As W H B bot (l5.1.trans hk) mA (by lia) (by lia) d3 d4 fb l5 (by lia) (by lia)
        ·have hz:k=i7:=by lia
         subst hz;exact As W H B bot (l5.1.trans hk) m2 d1 d2 d3 d4 fb l5 (by lia) (by lia)
       refine gR (fun hm=>?_) fun hm=>?_
       ·refine fX (pk fun j4 l5=>?_);exact hW (body _ j4 (u5.trans l5)) fun x b8 hx=>by cases x<;>exact hx
       ·refine fX (pk fun j4 l5=>?_);exact hW (body _ j4 (u5.trans l5)) fun x b8 hx=>by cases x<;>exact hx
end
theorem Dy(i:Nat):mergeAt' i=(do
 let s <-get
 let(some (sa,na,power),some (sb,nb,_)):=((pendingOf s)[i]?,(pendingOf s)[i+1]?)|unsupported "internal:list.sort.pending"
 set (setPending s (((pendingOf s).setIfInBounds i (sa,na+nb,power)).eraseIdxIfInBounds (i+1)))
 let some k <-jM false (<-elem' (arrOf s) sb) (arrOf s) sa na 0|return false
 let(sa,na):=(sa+k,na-k)
 if na==0 then return true
 let some nb <-jM true (<-elem' (arrOf s) (sa+na-1)) (arrOf s) sb nb (nb-1)|return false
 if nb==0 then return true
 let x:=(arrOf s).extract sa sb
 let y:=(arrOf s).extract sb (sb+nb)
 let merged <-if na<=nb then we x y else wg x y
 modify fun s=>setArr s (merged.toList.zipIdx.foldl (fun a (p,j)=>a.setIfInBounds (sa+j) p) (arrOf s))
 return (failedOf (<-get)).isNone):=rfl
noncomputable def seg(L:gX)(a n:Nat):List Nat:=(L.drop a).take n
section
variable {lt:kn}{p:iY}{a b n m:Nat}{L:gX}
theorem uK(h:a+n<=L.length):(seg L a n).length=n:=by simp[seg];lia
theorem zr{i:Nat}(hi:i<n):(seg L a n)[i]?=L[a+i]?:=by
 simp only[seg,List.getElem?_take,hi,gS,sM]
theorem MK(h:a+n<=p.size):Up lt p a (a+n)↔(seg p.toList a n).Pairwise (SL lt):=by
 have hl:(seg p.toList a n).length=n:=uK (by simpa using h)
 have get: ∀i (hi:i<n),(seg p.toList a n)[i]'(by lia)=P p (a+i):=fun i hi=>by
  have:(seg p.toList a n)[i]?=some (P p (a+i)):=by
   rw[zr hi];have:=ur (p:=p) (i:=a+i) (by lia);simpa using this
  rw[il (by lia)] at this;exact hV this
 rw[Ee];constructor
 ·intro u i j hi hj n9;rw[get i (by lia),get j (by lia)];exact u _ _ (by lia) (by lia) (by lia)
 ·intro u i j h1 h2 h3;have:=u (i-a) (j-a) (by lia) (by lia) (by lia);rw[get _ (by lia),get _ (by lia),show a+(i-a)=i by lia,show a+(j-a)=j by lia] at this;exact this
theorem KD(h:a+n<=p.size)(lo hi:Nat):(∀k,a<=k->k<a+n->lo<=P p k/\P p k<hi)↔ ∀x∈seg p.toList a n,lo<=x/\x<hi:=by
 have hl:(seg p.toList a n).length=n:=uK (by simpa using h)
 have get: ∀i (hi:i<n),(seg p.toList a n)[i]'(by lia)=P p (a+i):=fun i hi=>by
  have:(seg p.toList a n)[i]?=some (P p (a+i)):=by
   rw[zr hi];have:=ur (p:=p) (i:=a+i) (by lia);simpa using this
  rw[il (by lia)] at this;exact hV this
 constructor
 ·intro u x hx;obtain⟨i,hi,e⟩:=sP hx;rw[<-e,get i (by lia)];exact u _ (by lia) (by lia)
 ·intro u k k1 k2;have:=u _ (jA (l:=seg p.toList a n) (n:=k-a) (by lia));rw[get _ (by lia),show a+(k-a)=k by lia] at this;exact this
theorem qF(h:a+n+m<=L.length):seg L a (n+m)=seg L a n++seg L (a+n) m:=by
 unfold seg;rw[List.take_add,mL]
theorem Jt(h:a+n<=L.length):L=L.take a++(seg L a n++L.drop (a+n)):=by
 unfold seg;rw[show L.drop (a+n)=(L.drop a).drop n by rw[mL],ko,ko]
theorem Bx{α:Type}: ∀(m:List α) (j a:Nat) (L:List α),a+j+m.length<=L.length->((m.zipIdx j).foldl (fun(x:Array α) (p:α×Nat)=>x.setIfInBounds (a+p.2) p.1) L.toArray).toList=L.take (a+j)++(m++L.drop (a+j+m.length))
 |[],j,a,L,h=>by simp
 |x::m,j,a,L,h=>by
  simp only[iJ] at h;rw[List.zipIdx_cons,List.foldl_cons];dsimp only;rw[List.setIfInBounds_toArray,Bx m (j+1) a (L.set (a+j) x) (by rw[qc];lia)]
  have e1:(L.set (a+j) x).take (a+(j+1))=L.take (a+j)++[x]:=by
   rw[show a+(j+1)=a+j+1 by lia,Ck,G7 (gQ _),oy (by lia)];rfl
  have e2:(L.set (a+j) x).drop (a+(j+1)+m.length)=L.drop (a+(j+1)+m.length):=G6 (by lia);rw[e1,e2];simp only[iJ];rw[show a+j+(m.length+1)=a+(j+1)+m.length by lia,jc,Cj];rfl
end
section
variable {prog:gw}{w:gm}{A:gv}{E:gD}{G:Shared->Prop}{it:lL}{lt:kn}{κ:SortKind}{N:Nat}
theorem zV(hT:T.length=a)(hM:M.length=n):seg (T++(M++D)) a n=M/\(T++(M++D)).take a=T/\(T++(M++D)).drop (a+n)=D:=by
 subst hT hM;refine⟨?_,List.take_left,?_⟩
 ·unfold seg;rw[Ci,List.take_left]
 ·rw[<-mL,Ci,Ci]
def Run(lt:kn)(L:gX)(a n:Nat):Prop:=1<=n/\(seg L a n).Pairwise (SL lt)/\ ∀x∈seg L a n,a<=x/\x<a+n
theorem MI(W:Wk lt)(H:Ask prog w A E G it κ N lt){i sa na sb nb pw de:Nat}{st:hX}{p:iY}(R:Rp it κ N st p)(e1:(pendingOf st)[i]?=some (sa,na,pw))(e2:(pendingOf st)[i+1]?=some (sb,nb,de))(hs:sb=sa+na)(hn:sb+nb<=N)(r1:Run lt p.toList sa na)(r2:Run lt p.toList sb nb)
  {Q:Bool->SortSt->Prop}(h: ∀b8 p',Rp it κ N b8 p'->pendingOf b8=((pendingOf st).setIfInBounds i (sa,na+nb,pw)).eraseIdxIfInBounds (i+1)->Run lt p'.toList sa (na+nb)->p'.toList.take sa=p.toList.take sa->p'.toList.drop (sa+(na+nb))=p.toList.drop (sa+(na+nb))->Q true b8):
  wpI (model prog w) A E G (mergeAt' i) Q st:=by
 rw[Dy];refine fX (kb ?_);rw[e1,e2];dsimp only;refine fX (Kp ?_);rw[R.arr];obtain⟨n1,s1,x1⟩:=r1;obtain⟨n2,s2,x2⟩:=r2;have hL:p.toList.length=N:=by simp[R.size]
 have hp:p=p.toList.toArray:=by simp
 generalize hLL:p.toList=L at*;subst hp;have ea:(L.toArray.map it)=(L.map it).toArray:=by simp
 rw[ea]
 have eB: ∀y∈L,y<N:=fun y hy=>by
  have:=(Me.mp R.perm).mem_iff.mp (by simpa using hy);simpa using this
 generalize q0:setPending st (((pendingOf st).setIfInBounds i (sa,na+nb,pw)).eraseIdxIfInBounds (i+1))=aa;have cg:kindOf aa=κ:=by rw[<-q0];exact R.kind
 have ah:arrOf aa=(L.map it).toArray:=by rw[<-q0];show arrOf st=_;rw[R.arr,ea]
 have hp1:pendingOf aa=((pendingOf st).setIfInBounds i (sa,na+nb,pw)).eraseIdxIfInBounds (i+1):=by rw[<-q0]
 have fD:failedOf aa=none:=by rw[<-q0];exact R.ok
 have hlen1:(seg L sa na).length=na:=uK (by lia);have hlen2:(seg L sb nb).length=nb:=uK (by lia);have aL:sb<L.length:=by lia
 have r0:seg L sb nb=L[sb]::seg L (sb+1) (nb-1):=by
  unfold seg;rw[rh aL,show nb=nb-1+1 by lia,G5];rfl
 have key_mem:L[sb]∈seg L sb nb:=by rw[r0];exact ic
 have key_le: ∀z∈seg L sb nb,z=L[sb]\/SL lt L[sb] z:=fun z hz=>by
  rw[r0] at s2 hz;rcases jt.mp hz with hz|hz
  ·exact .inl hz
  ·exact .inr ((nX.mp s2).1 z hz)
 have idx: ∀y∈seg L sa na,∀z∈seg L sb nb,y<z:=fun y hy z hz=>by
  have:=x1 y hy;have:=x2 z hz;lia
 have up: ∀y∈seg L sa na,lt L[sb] y=false-> ∀z∈seg L sb nb,SL lt y z:=fun y hy hl z hz=>by
  have first:SL lt y L[sb]:= .inr ⟨hl,idx y hy _ key_mem⟩;rcases key_le z hz with rfl|hz
  ·exact first
  ·exact SL.trans W first hz
 refine fX (jh aL (fX (pq W H (eB _ (jA _)) eB (by lia) (by lia) cg s1 fun k k1 k2 k3=>?_)));dsimp only;change ∀y∈(seg L sa na).take k,_ at k2;change ∀y∈(seg L sa na).drop k,_ at k3;simp only[hC,ik,Bool.not_eq_true',Bool.not_eq_false'] at k2 k3;by_cases hz:(na-k==0)=true
 ·rw[gh hz];have hz:na-k=0:=by simpa using hz
  have eN: ∀y∈seg L sa na,lt L[sb] y=false:=fun y hy=>k2 y (by rw[qX (by lia)];exact hy);refine fY (h aa L.toArray ⟨by rw[ah,ea],cg,fD,R.size,R.perm⟩ hp1 ?_ rfl rfl);show Run lt L sa (na+nb);refine⟨by lia,?_,fun x hx=>?_⟩
  ·rw[qF (by lia),<-hs];exact lZ.mpr ⟨s1,s2,fun y hy z hz=>up y hy (eN y hy) z hz⟩
  ·rw[qF (by lia),<-hs] at hx;rcases nS.mp hx with hx|hx
   ·have:=x1 x hx;lia
   ·have:=x2 x hx;lia
 ·rw[gk hz];have hz:na-k≠0:=fun z=>hz (by simp[z]);have aA:sa+k+(na-k)-1<L.length:=by lia
  have i5:(seg L sa na)[na-1]?=some L[sa+k+(na-k)-1]:=by
   rw[zr (by lia),il (by lia)]
   congr 2;lia
  have n4:L[sa+k+(na-k)-1]∈(seg L sa na).drop k:=by
   refine kK (i:=na-1-k) ?_;rw[sM,show k+(na-1-k)=na-1 by lia];exact i5
  generalize bI:L[sa+k+(na-k)-1]=la at i5 n4
  have le_last: ∀y∈seg L sa na,y=la\/SL lt y la:=fun y hy=>by
   obtain⟨j,hj,e⟩:=sP hy;by_cases cN:j=na-1
   ·left;subst cN;rw[il hj] at i5;rw[<-e];exact hV i5
   ·right;have:=Ee.mp s1 j (na-1) hj (by lia) (by lia);rw[il (by lia)] at i5;rw[e,hV i5] at this;exact this
  have la_seg:la∈seg L sa na:=kr n4;refine fX (jh aA ?_);rw[bI];refine fX (pq W H (eB _ (by rw[<-bI];exact jA _)) eB (by lia) (by lia) cg s2 fun h9 j1 j2 j3=>?_);dsimp only;change ∀y∈(seg L sb nb).take h9,_ at j2;change ∀y∈(seg L sb nb).drop h9,_ at j3;simp only[gS] at j2 j3;by_cases hy:(h9==0)=true
  ·have hy:h9=0:=by simpa using hy
   subst hy;have:=j3 L[sb] (by rw[uX];exact key_mem);rw[k3 la n4] at this;cases this
  ·rw[gk hy];have hy:h9≠0:=fun z=>hy (by simp[z])
   have ex:(L.map it).toArray.extract (sa+k) sb=(((seg L sa na).drop k).map it).toArray:=by
    simp only[sO,sN,seg,List.drop_take,mL,List.map_take,List.map_drop];rw[show sb-(sa+k)=na-k by lia]
   have ey:(L.map it).toArray.extract sb (sb+h9)=(((seg L sb nb).take h9).map it).toArray:=by
    simp only[sO,sN,seg,qw,List.map_take,List.map_drop];rw[show sb+h9-sb=h9 by lia,qW j1]
   rw[ex,ey];have hq:((seg L sa na).drop k).length=na-k:=by simp[hlen1]
   have hr:((seg L sb nb).take h9).length=h9:=by rw[ou,hlen2,qW j1]
   have B:Pre lt N ((seg L sa na).drop k) ((seg L sb nb).take h9):=
    ⟨s1.sublist (mK _ _),s2.sublist (mf _ _),fun x hx y hy=>idx x (kr hx) y (ly hy),fun x hx=>by have:=x1 x (kr hx);lia,fun x hx=>by have:=x2 x (ly hx);lia⟩
   have rz:((seg L sb nb).take h9)[0]'(by lia)=L[sb]:=by
    rw[List.getElem_take];have:(seg L sb nb)[0]?=some L[sb]:=by rw[r0];rfl
    rw[il (by lia)] at this;exact hV this
   have ql:((seg L sa na).drop k)[((seg L sa na).drop k).length-1]'(by lia)=la:=by
    rw[List.getElem_drop];have:(seg L sa na)[k+(((seg L sa na).drop k).length-1)]?=some la:=by rw[hq,show k+(na-k-1)=na-1 by lia];exact i5
    rw[il (by lia)] at this;exact hV this
   have fin: ∀merged b8,Res lt it ((seg L sa na).drop k) ((seg L sb nb).take h9) merged->Same aa b8->wpI (model prog w) A E G (do
     modify fun s=>setArr s (List.foldl (fun a x=>a.setIfInBounds (sa+k+x.snd) x.fst) (arrOf s) merged.toList.zipIdx)
     let r <-get
     pure (failedOf r).isNone) Q b8:=fun merged b8 bU u4=>by
    obtain⟨o,rfl,so,po⟩:=bU;have ol:o.length=na-k+h9:=by rw[po.length_eq,lO,hq,hr]
    refine fX (ja (fX (kb (fY ?_))));have arr':arrOf b8=(L.map it).toArray:=u4.2.1.trans ah
    have c1:L.take (sa+k)=L.take sa++(seg L sa na).take k:=by
     unfold seg;rw[qw,qW k1,<-List.take_add]
    have c2:L.drop (sa+k+o.length)=(seg L sb nb).drop h9++L.drop (sa+(na+nb)):=by
     have e3:L.drop (sa+(na+nb))=(L.drop (sb+h9)).drop (nb-h9):=by rw[mL];congr 1;lia
     rw[ol,show sa+k+(na-k+h9)=sb+h9 by lia,e3];unfold seg;rw[List.drop_take,mL,ko]
    have fold:List.foldl (fun(a:lM) (x:Keyed×Nat)=>a.setIfInBounds (sa+k+x.snd) x.fst) (arrOf b8) (o.map it).toArray.toList.zipIdx=(((L.take sa++(((seg L sa na).take k++(o++(seg L sb nb).drop h9))++L.drop (sa+(na+nb)))):List Nat).toArray).map it:=by
     rw[arr'];apply Array.toList_inj.mp;have:=Bx (o.map it) 0 (sa+k) (L.map it) (by simp only[iq,ol];lia);rw[Cg] at this;refine this.trans ?_;simp only[Array.toList_map,iq];rw[<-List.map_take,<-List.map_drop,c1,c2];simp only[qV,jc]
    have hpm:(L.take sa++(((seg L sa na).take k++(o++(seg L sb nb).drop h9))++L.drop (sa+(na+nb)))).Perm L:=by
     have cut:=Jt (L:=L) (a:=sa) (n:=na+nb) (by lia);refine List.Perm.trans ?_ (uY cut.symm);refine pW _ (sQ _ ?_);rw[qF (by lia),<-hs];have e1:=ko k (seg L sa na);have e2:=ko h9 (seg L sb nb);have:((seg L sa na).take k++(o++(seg L sb nb).drop h9)).Perm ((seg L sa na).take k++(((seg L sa na).drop k++(seg L sb nb).take h9)++(seg L sb nb).drop h9)):=pW _ (sQ _ po);refine this.trans (uY ?_);rw[jc,e2,<-jc,e1]
    have fg:((seg L sa na).take k++(o++(seg L sb nb).drop h9)).length=na+nb:=by
     simp only[lO,ou,tx,hlen1,hlen2,ol];lia
    have eW:(L.take sa).length=sa:=by simp;lia
    show Q (failedOf b8).isNone _;rw[u4.2.2.2,fD];refine h _ (L.take sa++(((seg L sa na).take k++(o++(seg L sb nb).drop h9))++L.drop (sa+(na+nb)))).toArray ⟨fold,u4.1.trans cg,u4.2.2.2.trans fD,by rw[gU,hpm.length_eq,hL],Me.mpr (hpm.trans (Me.mp R.perm))⟩ (u4.2.2.1.trans hp1) ?_ ?_ ?_
    ·have hseg:=(zV (D:=L.drop (sa+(na+nb))) eW fg).1;show Run lt (L.take sa++_) sa (na+nb);unfold Run;rw[hseg];have om: ∀x∈o,x∈(seg L sa na).drop k\/x∈(seg L sb nb).take h9:=fun x hx=>nS.mp (po.mem_iff.mp hx);refine⟨by lia,lZ.mpr ⟨s1.sublist (mf _ _),lZ.mpr ⟨so,s2.sublist (mK _ _),fun x hx z hz=>?_⟩,fun y hy x hx=>?_⟩,fun x hx=>?_⟩
     ·rcases om x hx with hx|hx
      ·have lz:SL lt la z:= .inr ⟨j3 z hz,idx la la_seg z (kr hz)⟩;rcases le_last x (kr hx) with rfl|hx
       ·exact lz
       ·exact SL.trans W hx lz
      ·have:=s2;rw[<-ko h9 (seg L sb nb),lZ] at this;exact this.2.2 x hx z hz
     ·have hyl:=k2 y hy;have hys:=ly hy;rcases nS.mp hx with hx|hx
      ·rcases om x hx with hx|hx
       ·have:=s1;rw[<-ko k (seg L sa na),lZ] at this;exact this.2.2 y hy x hx
       ·exact up y hys hyl x (ly hx)
      ·exact up y hys hyl x (kr hx)
     ·have in1:x∈seg L sa na\/x∈seg L sb nb:=by
       rcases nS.mp hx with hx|hx
       ·exact .inl (ly hx)
       ·rcases nS.mp hx with hx|hx
        ·exact(om x hx).imp kr ly
        ·exact .inr (kr hx)
      rcases in1 with hx|hx
      ·have:=x1 x hx;lia
      ·have:=x2 x hx;lia
    ·show(L.take sa++_).take sa=L.take sa;exact(zV eW fg).2.1
    ·show(L.take sa++_).drop (sa+(na+nb))=L.drop (sa+(na+nb));exact(zV eW fg).2.2
   by_cases hle:na-k<=h9
   ·rw[gh hle];refine fX (ME W H B (by lia) (by lia) (fun y hy=>by rw[rz];exact .inl (k3 y hy)) (fun x hx y hy=>?_) cg fin)
    have:y=la:=by
     have e:((seg L sa na).drop k).drop (((seg L sa na).drop k).length-1)=[la]:=by
      rw[rh (by lia),ql,sV (by lia)]
     rw[e] at hy;exact mN.mp hy
    subst this;exact .inl (j2 x hx)
   ·rw[gk hle];refine fX (MF W H B (by lia) (by lia) (fun x hx y hy=>?_) (fun x hx=>by rw[ql];exact .inl (j2 x hx)) cg fin)
    have:x=L[sb]:=by
     have e:((seg L sb nb).take h9).take 1=[L[sb]]:=by
      rw[r0,show h9=h9-1+1 by lia,G5];rfl
     rw[e] at hx;exact mN.mp hx
    subst this;exact .inl (k3 y hy)
def Chain(lt:kn)(L:gX):Nat->List (Nat×Nat×Nat)->Nat->Prop
 |a,[],b=>a=b
 |a,(s,n,_)::r,b=>s=a/\Run lt L a n/\Chain lt L (a+n) r b
theorem Chain.le{L:gX}: ∀{l:List (Nat×Nat×Nat)} {a b:Nat},Chain lt L a l b->a+l.length<=b
 |[],a,b,h=>by have:a=b:=h;simp;lia
 |(s,n,x)::r,a,b,h=>by
  obtain⟨_,r1,h2⟩:=h;have:=Chain.le h2;have:=r1.1;simp only[iJ];lia
theorem HZ(h:Run lt L a n)(hc:a+n<=c)(e:L'.take c=L.take c):Run lt L' a n:=by
 have:seg L' a n=seg L a n:=by
  have q: ∀X:List Nat,seg X a n=seg (X.take c) a n:=fun X=>by
   unfold seg;rw[List.drop_take,qw,qW (by lia)]
  rw[q L',q L,e]
 unfold Run;rw[this];exact h
theorem vM(h:Run lt L a n)(hc:c<=a)(e:L'.drop c=L.drop c):Run lt L' a n:=by
 have:seg L' a n=seg L a n:=by
  have q: ∀X:List Nat,seg X a n=seg (X.drop c) (a-c) n:=fun X=>by
   unfold seg;rw[mL,show c+(a-c)=a by lia]
  rw[q L',q L,e]
 unfold Run;rw[this];exact h
theorem Chain.take{L L':gX}{c:Nat}(e:L'.take c=L.take c): ∀{l:List (Nat×Nat×Nat)} {a b:Nat},Chain lt L a l b->b<=c->Chain lt L' a l b
 |[],a,b,h,_=>h
 |(s,n,x)::r,a,b,h,hc=>by
  obtain⟨h1,h2,h3⟩:=h;have:=Chain.le h3;exact⟨h1,HZ h2 (by lia) e,Chain.take e h3 hc⟩
theorem Chain.drop{L L':gX}{c:Nat}(e:L'.drop c=L.drop c): ∀{l:List (Nat×Nat×Nat)} {a b:Nat},Chain lt L a l b->c<=a->Chain lt L' a l b
 |[],a,b,h,_=>h
 |(s,n,x)::r,a,b,h,hc=>by
  obtain⟨h1,h2,h3⟩:=h;exact⟨h1,vM h2 hc e,Chain.drop e h3 (by lia)⟩
theorem Chain.append{L:gX}: ∀{l m:List (Nat×Nat×Nat)} {a b:Nat},Chain lt L a (l++m) b↔ ∃c,Chain lt L a l c/\Chain lt L c m b
 |[],m,a,b=>⟨fun h=>⟨a,rfl,h⟩,fun⟨c,h1,h2⟩=>by have:a=c:=h1;subst this;exact h2⟩
 |(s,n,x)::r,m,a,b=>by
  constructor
  ·rintro⟨h1,h2,h3⟩;obtain⟨c,h4,h5⟩:=Chain.append.mp h3;exact⟨c,⟨h1,h2,h4⟩,h5⟩
  ·rintro⟨c,⟨h1,h2,h4⟩,h5⟩;exact⟨h1,h2,Chain.append.mpr ⟨c,h4,h5⟩⟩
theorem tK(W:Wk lt)(H:Ask prog w A E G it κ N lt){i lo:Nat}{st:hX}{p:iY}(R:Rp it κ N st p)(ch:Chain lt p.toList 0 (pendingOf st).toList lo)(hlo:lo<=N)(hi:i+1<(pendingOf st).size){Q:Bool->SortSt->Prop}
  (h: ∀b8 p',Rp it κ N b8 p'->Chain lt p'.toList 0 (pendingOf b8).toList lo->(pendingOf b8).size+1=(pendingOf st).size->p'.toList.drop lo=p.toList.drop lo->Q true b8):wpI (model prog w) A E G (mergeAt' i) Q st:=by
 obtain⟨⟨sa,na,pw⟩,e1⟩: ∃x,(pendingOf st)[i]?=some x:=⟨_,lx (by lia)⟩
 obtain⟨⟨sb,nb,de⟩,e2⟩: ∃x,(pendingOf st)[i+1]?=some x:=⟨_,lx hi⟩
 have f1:(pendingOf st).toList[i]?=some (sa,na,pw):=by simpa using e1
 have f2:(pendingOf st).toList[i+1]?=some (sb,nb,de):=by simpa using e2
 have hl:(pendingOf st).toList.length=(pendingOf st).size:=by simp
 have cut:(pendingOf st).toList=(pendingOf st).toList.take i++((sa,na,pw)::(sb,nb,de)::(pendingOf st).toList.drop (i+2)):=by
  have a1:(pendingOf st).toList.drop i=(sa,na,pw)::(pendingOf st).toList.drop (i+1):=by
   rw[rh (by lia)];rw[il (by lia)] at f1;rw[hV f1]
  have a2:(pendingOf st).toList.drop (i+1)=(sb,nb,de)::(pendingOf st).toList.drop (i+2):=by
   rw[rh (by lia)];rw[il (by lia)] at f2;rw[hV f2]
  rw[<-a2,<-a1,ko]
 rw[cut] at ch;obtain⟨c,c1,c2⟩:=Chain.append.mp ch;obtain⟨rfl,r1,rfl,r2,c3⟩:=c2;have le3:=Chain.le c3;refine MI W H R e1 e2 rfl (by lia) r1 r2 fun b8 p' R' ep rn et ed=>?_
 have lst:(pendingOf b8).toList=(pendingOf st).toList.take i++((sa,na+nb,pw)::(pendingOf st).toList.drop (i+2)):=by
  rw[ep];have hx:i+1<((pendingOf st).setIfInBounds i (sa,na+nb,pw)).size:=by simpa using hi
  rw[Array.eraseIdxIfInBounds,dif_pos hx]
  have: ∀(l:List (Nat×Nat×Nat)) (z:Nat×Nat×Nat),i+1<l.length->(l.set i z).eraseIdx (i+1)=l.take i++(z::l.drop (i+2)):=fun l z hz=>by
   rw[G4];rw[show i+1+1=i+2 from rfl,G6 (by lia),Ck,G7 (gQ _),oy (by lia)];simp
  have q:=this (pendingOf st).toList (sa,na+nb,pw) (by lia);simpa using q
 refine h b8 p' R' ?_ ?_ ?_
 ·rw[lst];refine Chain.append.mpr ⟨sa,Chain.take et c1 (gQ _),rfl,rn,?_⟩;rw[<-Nat.add_assoc];exact Chain.drop ed c3 (by lia)
 ·have:=nQ List.length lst;simp only[iG,lO,ou,iJ,tx] at this
  lia
 ·have q: ∀X:List Nat,X.drop lo=(X.drop (sa+(na+nb))).drop (lo-(sa+(na+nb))):=fun X=>by rw[mL];congr 1;lia
  rw[q,q p.toList,ed]
theorem Fy{p p':iY}{lo:Nat}(hs:p'.size=p.size)(h: ∀k,k<lo->P p' k=P p k):p'.toList.take lo=p.toList.take lo:=by
 apply vb;intro k;rw[List.getElem?_take,List.getElem?_take];split
 ·rename_i hk;by_cases hz:k<p.size
  ·have a:=ur (p:=p) hz;have b:=ur (p:=p') (by rw[hs];exact hz);have a':p.toList[k]?=some (P p k):=by simpa using a
   have b':p'.toList[k]?=some (P p' k):=by simpa using b
   rw[a',b',h k hk]
  ·rw[yW (by simp;lia),yW (by simp;lia)]
 ·rfl
theorem EZ{p p':iY}{lo n:Nat}(hs:p'.size=p.size)(e:p'.toList.drop lo=p.toList.drop lo)(h: ∀k,lo+n<=k->k<p.size->P p k=k): ∀k,lo+n<=k->k<p'.size->P p' k=k:=fun k k1 k2=>by
 have a:=ur (p:=p) (i:=k) (by lia);have b:=ur (p:=p') k2;have a':p.toList[k]?=some (P p k):=by simpa using a
 have b':p'.toList[k]?=some (P p' k):=by simpa using b
 have q: ∀X:List Nat,X[k]?=(X.drop lo)[k-lo]?:=fun X=>by rw[sM,show lo+(k-lo)=k by lia]
 rw[q,e,<-q,a'] at b';rw[<-hV b'];exact h k k1 (by lia)
theorem LR{c:Prop}[Decidable c]{a b m:Nat}(ha:a<=m)(hb:b<=m):(if c then a else b)<=m:=by
 by_cases h:c
 ·rw[gh h];exact ha
 ·rw[gk h];exact hb
structure Mid(it:lL)(lt:kn)(κ:SortKind)(N lo:Nat)(st:hX)(p:iY):Prop where
 R:Rp it κ N st p
 ch:Chain lt p.toList 0 (pendingOf st).toList lo
 le:lo<=N
 fx: ∀k,lo<=k->k<N->P p k=k
structure Mid2(it:lL)(lt:kn)(κ:SortKind)(N lo n:Nat)(st:hX)(p:iY):Prop where
 R:Rp it κ N st p
 ch:Chain lt p.toList 0 (pendingOf st).toList lo
 le:lo+n<=N
 fx: ∀k,lo+n<=k->k<N->P p k=k
 rn:Run lt p.toList lo n
theorem Mid2.of{lo n:Nat}{aI st:hX}{p0 p:iY}(M:Mid it lt κ N lo aI p0)(R:Rp it κ N st p)(e:pendingOf st=pendingOf aI)(h1:1<=n)(h2:lo+n<=N)(f: ∀k,k<lo->P p k=P p0 k)(fx: ∀k,lo+n<=k->k<N->P p k=k)(rg:Reg p lo (lo+n))(up:Up lt p lo (lo+n)):Mid2 it lt κ N lo n st p:=by
 have hz:lo+n<=p.size:=by rw[R.size];exact h2
 refine⟨R,?_,h2,fx,h1,(MK hz).mp up,(KD hz lo (lo+n)).mp rg⟩;rw[e];exact Chain.take (Fy (by rw[R.size,M.R.size]) f) M.ch (gQ _)
theorem Mid2.push{lo n pw:Nat}{st:hX}{p:iY}(M:Mid2 it lt κ N lo n st p):Mid it lt κ N (lo+n) (setPending st ((pendingOf st).push (lo,n,pw))) p:=by
 refine⟨⟨M.R.arr,M.R.kind,M.R.ok,M.R.size,M.R.perm⟩,?_,M.le,M.fx⟩;show Chain lt p.toList 0 ((pendingOf st).push (lo,n,pw)).toList (lo+n);rw[Array.toList_push];exact Chain.append.mpr ⟨lo,M.ch,rfl,M.rn,rfl⟩
theorem BG{L:gX}{f:Nat×Nat×Nat->Nat×Nat×Nat}(hf: ∀x,(f x).1=x.1/\(f x).2.1=x.2.1): ∀{l:List (Nat×Nat×Nat)} {a b:Nat} (i:Nat),Chain lt L a l b->Chain lt L a (l.modify i f) b
 |[],a,b,i,h=>by cases i<;>exact h
 |(s,n,x)::r,a,b,0,h=>by
  obtain⟨h1,h2,h3⟩:=h;have e:=hf (s,n,x);show Chain lt L a (f (s,n,x)::r) b;rcases hq:f (s,n,x) with⟨s',n',x'⟩
  rw[hq] at e;obtain⟨rfl,rfl⟩:=e;exact⟨h1,h2,h3⟩
 |(s,n,x)::r,a,b,i+1,h=>by
  obtain⟨h1,h2,h3⟩:=h;exact⟨h1,h2,BG hf i h3⟩
theorem Mid2.pw{lo n pw i:Nat}{st:hX}{p:iY}(M:Mid2 it lt κ N lo n st p):Mid2 it lt κ N lo n (setPending st ((pendingOf st).modify i fun x=>(x.fst,x.2.fst,pw))) p:=by
 refine⟨⟨M.R.arr,M.R.kind,M.R.ok,M.R.size,M.R.perm⟩,?_,M.le,M.fx,M.rn⟩;show Chain lt p.toList 0 ((pendingOf st).modify i fun x=>(x.fst,x.2.fst,pw)).toList lo;rw[Array.toList_modify];exact BG (f:=fun x=>(x.fst,x.2.fst,pw)) (fun x=>⟨rfl,rfl⟩) i M.ch
theorem Hx(W:Wk lt)(H:Ask prog w A E G it κ N lt)(h2:1<=N){st:hX}{p:iY}(R:Rp it κ N st p)(e0:pendingOf st= #[])(fx0: ∀k,k<N->P p k=k){Q:Unit->SortSt->Prop}
  (h: ∀b8 p',Rp it κ N b8 p'->p'.toList.Pairwise (SL lt)->Q () b8):wpI (model prog w) A E G sortRuns' Q st:=by
 rw[sortRuns'_eq];refine fX (kb ?_);dsimp only;have hz:(arrOf st).size=N:=by rw[R.arr,Array.size_map,R.size]
 rw[hz];generalize hmr:minRun' N N 0=mr;have m0:Mid it lt κ N 0 st p:=⟨R,by rw[e0];rfl,ku _,fun k _ k2=>fx0 k k2⟩
 refine fX (hW (ig (I:=fun x c b8=> ∃lo p',c=(none,lo)/\x<=lo/\Mid it lt κ N lo b8 p') (Q:=fun c b8=> ∃p',c=(none,N)/\Mid it lt κ N N b8 p') ?step ?fin ⟨0,p,rfl,gQ _,m0⟩) ?post)
 case fin=>
  rintro c b8 ⟨lo,p',rfl,hx,M⟩;have:=M.le;have:lo=N:=by lia
  subst this;exact⟨p',rfl,M⟩
 case step=>
  rintro x c b8 _ hx ⟨lo,p',rfl,hlo,M⟩;dsimp only;by_cases fq:lo>=N
  ·rw[gh fq];have:=M.le;have:lo=N:=by lia
   subst this;exact fY ⟨p',rfl,M⟩
  ·rw[gk fq];refine fX (Fu W H (by lia) (by lia) M.R M.fx fun n g9 p2 R2 e2 n1 n2 f2 fx2 rg2 up2=>?_);dsimp only;by_cases i6:n<mr
   ·rw[gh i6];refine fX (mO (fX (Kq W H n1 (by lia) (by lia) R2 fx2 rg2 up2 fun j4 p3 R3 e3 f3 fx3 rg3 up3=>?_)));simp only[kJ,hC,ik];have M3:Mid2 it lt κ N lo (min (N-lo) mr) j4 p3:=Mid2.of M R3 (e3.trans e2) (by lia) (by lia) (fun k hk=>(f3 k hk).trans (f2 k hk)) fx3 rg3 up3;have hn1:1<=min (N-lo) mr:=by lia
    generalize min (N-lo) mr=n' at*;refine fX (kb ?_)
    cases hb:(pendingOf j4).back? with
    |none=>
     dsimp only;exact fX (ja (fY ⟨lo+n',p3,rfl,by lia,M3.push⟩))
    |some x1=>
     obtain⟨s1,m1,y1⟩:=x1;dsimp only;generalize power' N (2*s1+m1) (2*s1+m1+m1+n') N=pw;refine fX (hW (ig (I:=fun x c m8=>c=(none,())/\ ∃p4,Mid2 it lt κ N lo n' m8 p4) (Q:=fun c m8=>c=(none,())/\ ∃p4,Mid2 it lt κ N lo n' m8 p4) ?_ (fun _ _ q=>q) ⟨rfl,p3,M3⟩) ?_)
     ·rintro y c m8 _ _ ⟨rfl,p4,M4⟩;refine fX (kb ?_);by_cases h1:(pendingOf m8).size>1
      ·rw[gh h1]
       cases hc:(pendingOf m8)[(pendingOf m8).size-2]? with
       |none=>dsimp only;exact fY ⟨rfl,p4,M4⟩
       |some z=>
        obtain⟨z1,z2,ar⟩:=z;dsimp only;by_cases ho:ar<=pw
        ·rw[gh ho];exact fY ⟨rfl,p4,M4⟩
        ·rw[gk ho];refine fX (tK W H M4.R M4.ch (by have:=M4.le;lia) (by lia) fun aV p5 R5 fO _ dH=>?_);simp only[kJ,hC,ik];refine fY ⟨rfl,p5,R5,fO,M4.le,?_,vM M4.rn (gQ _) dH⟩;have:=EZ (p:=p4) (p':=p5) (lo:=lo) (n:=n') (by rw[R5.size,M4.R.size]) dH (by rw[M4.R.size];exact M4.fx);rw[R5.size] at this;exact this
      ·rw[gk h1];dsimp only;exact fY ⟨rfl,p4,M4⟩
     ·rintro c m8 ⟨rfl,p4,M4⟩;dsimp only;exact fX (ja (fX (ja (fY ⟨lo+n',p4,rfl,by lia,(M4.pw).push⟩))))
   ·rw[gk i6];have M3:Mid2 it lt κ N lo n g9 p2:=Mid2.of M R2 e2 n1 (by lia) f2 fx2 rg2 up2;have hn1:=n1;generalize n=n' at*;generalize g9=j4 at*;generalize p2=p3 at*;refine fX (kb ?_)
    cases hb:(pendingOf j4).back? with
    |none=>
     dsimp only;exact fX (ja (fY ⟨lo+n',p3,rfl,by lia,M3.push⟩))
    |some x1=>
     obtain⟨s1,m1,y1⟩:=x1;dsimp only;generalize power' N (2*s1+m1) (2*s1+m1+m1+n') N=pw;refine fX (hW (ig (I:=fun x c m8=>c=(none,())/\ ∃p4,Mid2 it lt κ N lo n' m8 p4) (Q:=fun c m8=>c=(none,())/\ ∃p4,Mid2 it lt κ N lo n' m8 p4) ?_ (fun _ _ q=>q) ⟨rfl,p3,M3⟩) ?_)
     ·rintro y c m8 _ _ ⟨rfl,p4,M4⟩;refine fX (kb ?_);by_cases h1:(pendingOf m8).size>1
      ·rw[gh h1]
       cases hc:(pendingOf m8)[(pendingOf m8).size-2]? with
       |none=>dsimp only;exact fY ⟨rfl,p4,M4⟩
       |some z=>
        obtain⟨z1,z2,ar⟩:=z;dsimp only;by_cases ho:ar<=pw
        ·rw[gh ho];exact fY ⟨rfl,p4,M4⟩
        ·rw[gk ho];refine fX (tK W H M4.R M4.ch (by have:=M4.le;lia) (by lia) fun aV p5 R5 fO _ dH=>?_);simp only[kJ,hC,ik];refine fY ⟨rfl,p5,R5,fO,M4.le,?_,vM M4.rn (gQ _) dH⟩;have:=EZ (p:=p4) (p':=p5) (lo:=lo) (n:=n') (by rw[R5.size,M4.R.size]) dH (by rw[M4.R.size];exact M4.fx);rw[R5.size] at this;exact this
      ·rw[gk h1];dsimp only;exact fY ⟨rfl,p4,M4⟩
     ·rintro c m8 ⟨rfl,p4,M4⟩;dsimp only;exact fX (ja (fX (ja (fY ⟨lo+n',p4,rfl,by lia,(M4.pw).push⟩))))
 case post=>
  rintro c b8 ⟨p',rfl,M⟩;dsimp only;refine fX (hW (ig (I:=fun x c g9=> ∃p2,c=(none,())/\Mid it lt κ N N g9 p2/\(pendingOf g9).size<=max 1 (N-x)) (Q:=fun c g9=> ∃p2,c=(none,())/\Mid it lt κ N N g9 p2/\(pendingOf g9).size<=1) ?step2 ?fin2 ⟨p',rfl,M,?init⟩) ?post2)
  case init=>
   have:=M.ch.le;simp only[iG] at this
   lia
  case fin2=>
   rintro c g9 ⟨p2,rfl,M2,hs⟩;exact⟨p2,rfl,M2,by lia⟩
  case post2=>
   rintro c g9 ⟨p2,rfl,M2,hs⟩;refine fY (h g9 p2 M2.R ?_);have ch:=M2.ch;have hl:p2.toList.length=N:=by simp[M2.R.size]
   match hq:(pendingOf g9).toList,ch with
   |[],ch=>have:0=N:=ch;lia
   |[(s,n,pw)],ch=>
    obtain⟨rfl,r,e⟩:=ch;have e:0+n=N:=e;have:seg p2.toList 0 n=p2.toList:=by unfold seg;rw[uX,qX (by lia)]
    have q:=r.2.1
    rwa [this] at q
   |_::_::_,ch=>
    have:(pendingOf g9).toList.length<=1:=by simpa using hs
    rw[hq] at this;simp at this
  case step2=>
   rintro x c g9 _ hx ⟨p2,rfl,M2,hs⟩;refine fX (kb ?_);by_cases h1:(pendingOf g9).size<=1
   ·rw[gh h1];exact fY ⟨p2,rfl,M2,h1⟩
   ·rw[gk h1];refine fX (tK W H M2.R M2.ch (gQ _) ?_ fun j4 p3 R3 ch3 sz3 dr3=>?_)
    ·exact Cf (Nat.add_le_add_right (LR (m:=(pendingOf g9).size-2) (by lia) (gQ _)) 1) (by lia)
    ·simp only[kJ,hC,ik];exact fY ⟨p3,rfl,⟨R3,ch3,gQ _,fun k k1 k2=>by lia⟩,by lia⟩
end
end TS
namespace PX
open PySem PySem.Spec PyProof.Rows L2 PySem.SeqAt
open PySem.AutoSeq1 (wpAny_loadPart')
open PySem.MeetsSeq PySem.MeetsSeq2 PySem.MeetsSeq3
def iO(op:CmpOp)(i j:Int):Bool:=match op with
 | .Lt=>decide (i<j)| .LtE=>decide (i<=j)| .Gt=>decide (i>j)|_=>decide (i>=j)
def rY(op:CmpOp):Prop:=op= .Lt\/op= .LtE\/op= .Gt\/op= .GtE
def Mb(op:CmpOp)(A:gv)(s:gb)(y x:gi)(b:Bool):Prop:= ∀(prog:gw) (w:gm) (E:gD) (Q:gD),Q (.bool b) s->wpAny (model prog w) A (richCompare op y x) Q E s
def wW(op:CmpOp)(A:gv)(s:gb)(fin:Bool):List (Value×Value)->Bool->Prop
 |[],r=>r=fin
 |(y,x)::gP,r=> ∃e,EqAt A s y x e/\(if e=true then wW op A s fin gP r else Mb op A s y x r)
theorem HG(l b:fV)(items b9:jy)(n n2:Nat)(dd s9:Option Addr)(sl r6:qS)(r:Bool):
  Meets (Builtin.«tuple.__lt__» ⟨[.ref l,.ref b],[]⟩) (fun A R s=>s.heap.get? l=some {cls:= .type "tuple",dict:=dd,data:= .seq items n,slots:=sl}/\s.heap.get? b=some {cls:= .type "tuple",dict:=s9,data:= .seq b9 n2,slots:=r6}/\
   wW .Lt A.in1 s (iO .Lt items.size b9.size) (items.toList.zip b9.toList) r/\R (.ok (.ret (.bool r))) s):=
 .of_wp fun prog w A R s h=>by
  obtain⟨hp,g,d,tk,os⟩:=s;obtain⟨hl,hb,hx,h⟩:=h;have f2:=yO
  wp_walk using wpAny_loadPart' hl,wpAny_loadPart' hb,ng _ (fun gP b s'=>b.1=none/\s'=⟨hp,g,d,tk,os⟩/\wW .Lt A.in1 ⟨hp,g,d,tk,os⟩ (iO .Lt items.size b9.size) gP r) _
  case turn=>
   rintro⟨y,x⟩ gP b s' ⟨o6,rfl,e,he,hx⟩;refine fW (he prog w _ _ ?_)
   cases e with
   |true=>
    simp only[gS] at hx
    wp_walk
    exact⟨rfl,rfl,hx⟩
   |false=>
    simp only[hC,ik] at hx;have bT:=hx prog w
    wp_walk using bT
    exact⟨_,rfl,by simpa using h⟩
  case fin=>
   rintro⟨b1,b2⟩ s' ⟨o6,rfl,hx⟩;simp only at o6;subst o6;have hx:r=iO .Lt items.size b9.size:=hx;rw[hx] at h
   wp_walk
   exact⟨_,rfl,by simpa[Builtin.Tuple.tupleCompareSizes,iO] using h⟩
  case h=>exact⟨rfl,rfl,hx⟩
theorem HH(l b:fV)(items b9:jy)(n n2:Nat)(dd s9:Option Addr)(sl r6:qS)(r:Bool):
  Meets (Builtin.«tuple.__le__» ⟨[.ref l,.ref b],[]⟩) (fun A R s=>s.heap.get? l=some {cls:= .type "tuple",dict:=dd,data:= .seq items n,slots:=sl}/\s.heap.get? b=some {cls:= .type "tuple",dict:=s9,data:= .seq b9 n2,slots:=r6}/\
   wW .LtE A.in1 s (iO .LtE items.size b9.size) (items.toList.zip b9.toList) r/\R (.ok (.ret (.bool r))) s):=
 .of_wp fun prog w A R s h=>by
  obtain⟨hp,g,d,tk,os⟩:=s;obtain⟨hl,hb,hx,h⟩:=h;have f2:=yO
  wp_walk using wpAny_loadPart' hl,wpAny_loadPart' hb,ng _ (fun gP b s'=>b.1=none/\s'=⟨hp,g,d,tk,os⟩/\wW .LtE A.in1 ⟨hp,g,d,tk,os⟩ (iO .LtE items.size b9.size) gP r) _
  case turn=>
   rintro⟨y,x⟩ gP b s' ⟨o6,rfl,e,he,hx⟩;refine fW (he prog w _ _ ?_)
   cases e with
   |true=>
    simp only[gS] at hx
    wp_walk
    exact⟨rfl,rfl,hx⟩
   |false=>
    simp only[hC,ik] at hx;have bT:=hx prog w
    wp_walk using bT
    exact⟨_,rfl,by simpa using h⟩
  case fin=>
   rintro⟨b1,b2⟩ s' ⟨o6,rfl,hx⟩;simp only at o6;subst o6;have hx:r=iO .LtE items.size b9.size:=hx;rw[hx] at h
   wp_walk
   exact⟨_,rfl,by simpa[Builtin.Tuple.tupleCompareSizes,iO] using h⟩
  case h=>exact⟨rfl,rfl,hx⟩
theorem HI(l b:fV)(items b9:jy)(n n2:Nat)(dd s9:Option Addr)(sl r6:qS)(r:Bool):
  Meets (Builtin.«tuple.__gt__» ⟨[.ref l,.ref b],[]⟩) (fun A R s=>s.heap.get? l=some {cls:= .type "tuple",dict:=dd,data:= .seq items n,slots:=sl}/\s.heap.get? b=some {cls:= .type "tuple",dict:=s9,data:= .seq b9 n2,slots:=r6}/\
   wW .Gt A.in1 s (iO .Gt items.size b9.size) (items.toList.zip b9.toList) r/\R (.ok (.ret (.bool r))) s):=
 .of_wp fun prog w A R s h=>by
  obtain⟨hp,g,d,tk,os⟩:=s;obtain⟨hl,hb,hx,h⟩:=h;have f2:=yO
  wp_walk using wpAny_loadPart' hl,wpAny_loadPart' hb,ng _ (fun gP b s'=>b.1=none/\s'=⟨hp,g,d,tk,os⟩/\wW .Gt A.in1 ⟨hp,g,d,tk,os⟩ (iO .Gt items.size b9.size) gP r) _
  case turn=>
   rintro⟨y,x⟩ gP b s' ⟨o6,rfl,e,he,hx⟩;refine fW (he prog w _ _ ?_)
   cases e with
   |true=>
    simp only[gS] at hx
    wp_walk
    exact⟨rfl,rfl,hx⟩
   |false=>
    simp only[hC,ik] at hx;have bT:=hx prog w
    wp_walk using bT
    exact⟨_,rfl,by simpa using h⟩
  case fin=>
   rintro⟨b1,b2⟩ s' ⟨o6,rfl,hx⟩;simp only at o6;subst o6;have hx:r=iO .Gt items.size b9.size:=hx;rw[hx] at h
   wp_walk
   exact⟨_,rfl,by simpa[Builtin.Tuple.tupleCompareSizes,iO] using h⟩
  case h=>exact⟨rfl,rfl,hx⟩
theorem HJ(l b:fV)(items b9:jy)(n n2:Nat)(dd s9:Option Addr)(sl r6:qS)(r:Bool):
  Meets (Builtin.«tuple.__ge__» ⟨[.ref l,.ref b],[]⟩) (fun A R s=>s.heap.get? l=some {cls:= .type "tuple",dict:=dd,data:= .seq items n,slots:=sl}/\s.heap.get? b=some {cls:= .type "tuple",dict:=s9,data:= .seq b9 n2,slots:=r6}/\
   wW .GtE A.in1 s (iO .GtE items.size b9.size) (items.toList.zip b9.toList) r/\R (.ok (.ret (.bool r))) s):=
 .of_wp fun prog w A R s h=>by
  obtain⟨hp,g,d,tk,os⟩:=s;obtain⟨hl,hb,hx,h⟩:=h;have f2:=yO
  wp_walk using wpAny_loadPart' hl,wpAny_loadPart' hb,ng _ (fun gP b s'=>b.1=none/\s'=⟨hp,g,d,tk,os⟩/\wW .GtE A.in1 ⟨hp,g,d,tk,os⟩ (iO .GtE items.size b9.size) gP r) _
  case turn=>
   rintro⟨y,x⟩ gP b s' ⟨o6,rfl,e,he,hx⟩;refine fW (he prog w _ _ ?_)
   cases e with
   |true=>
    simp only[gS] at hx
    wp_walk
    exact⟨rfl,rfl,hx⟩
   |false=>
    simp only[hC,ik] at hx;have bT:=hx prog w
    wp_walk using bT
    exact⟨_,rfl,by simpa using h⟩
  case fin=>
   rintro⟨b1,b2⟩ s' ⟨o6,rfl,hx⟩;simp only at o6;subst o6;have hx:r=iO .GtE items.size b9.size:=hx;rw[hx] at h
   wp_walk
   exact⟨_,rfl,by simpa[Builtin.Tuple.tupleCompareSizes,iO] using h⟩
  case h=>exact⟨rfl,rfl,hx⟩
section
variable {A:gv}{s:gb}{l b:fV}{items b9:jy}{r:Bool}
theorem Ig(ho:rY op)(hl:s.heap.IsTuple l items)(hb:s.heap.IsTuple b b9)(hu:A.units<cLine)(hx:wW op A.in1 s (iO op items.size b9.size) (items.toList.zip b9.toList) r):Mb op A s (.ref l) (.ref b) r:=fun prog w E Q h=>by
 obtain⟨⟨cls,dd,data,sl⟩,r8,hc,n,hd⟩:=id hl;obtain⟨⟨cB,s9,data2,r6⟩,o8,bK,n2,hd2⟩:=id hb;simp only at hc hd bK hd2;subst hc hd bK hd2;rcases ho with rfl|rfl|rfl|rfl
 ·exact yN (op:= .Lt) ⟨_,r8,rfl⟩ ⟨_,o8,rfl⟩ PySem.F.slot_tuple_lt PySem.F.entry_tuple_lt (PySem.F.args_tuple_lt_2 _ _) (HG l b items b9 n n2 dd s9 sl r6 r) ⟨r8,o8,hx,show Value.bool r≠Value.notImplemented/\Q (.bool r) s from⟨(fun x=>nomatch x),h⟩⟩ hu
 ·exact yN (op:= .LtE) ⟨_,r8,rfl⟩ ⟨_,o8,rfl⟩ PySem.F.slot_tuple_le PySem.F.entry_tuple_le (PySem.F.args_tuple_le_2 _ _) (HH l b items b9 n n2 dd s9 sl r6 r) ⟨r8,o8,hx,show Value.bool r≠Value.notImplemented/\Q (.bool r) s from⟨(fun x=>nomatch x),h⟩⟩ hu
 ·exact yN (op:= .Gt) ⟨_,r8,rfl⟩ ⟨_,o8,rfl⟩ PySem.F.slot_tuple_gt PySem.F.entry_tuple_gt (PySem.F.args_tuple_gt_2 _ _) (HI l b items b9 n n2 dd s9 sl r6 r) ⟨r8,o8,hx,show Value.bool r≠Value.notImplemented/\Q (.bool r) s from⟨(fun x=>nomatch x),h⟩⟩ hu
 ·exact yN (op:= .GtE) ⟨_,r8,rfl⟩ ⟨_,o8,rfl⟩ PySem.F.slot_tuple_ge PySem.F.entry_tuple_ge (PySem.F.args_tuple_ge_2 _ _) (HJ l b items b9 n n2 dd s9 sl r6 r) ⟨r8,o8,hx,show Value.bool r≠Value.notImplemented/\Q (.bool r) s from⟨(fun x=>nomatch x),h⟩⟩ hu
end
mutual
def kQ(op:CmpOp):D->D->Option Bool
 | .int i,.int j=>some (iO op i j)
 | .tup l,.tup m=>nK op l m
 |_,_=>none
def nK(op:CmpOp):List D->List D->Option Bool
 |[],m=>some (iO op 0 m.length)
 |x::l,[]=>some (iO op ((x::l).length) 0)
 |x::l,y::m=>if D.eqb x y=true then nK op l m else kQ op x y
end
theorem nF(op:CmpOp)(a b k:Int):iO op (a+k) (b+k)=iO op a b:=by
 cases op<;>simp[iO]
section
variable {X:Cx}{pins:gG}{σ:L2.St}{H:Hp}{s:gb}
theorem A5(ho:rY op):Mb op A s (.int i t) (.int j u) (iO op i j):=fun prog w E Q h=>by
 rcases ho with rfl|rfl|rfl|rfl
 ·exact(PyProof.Rows.lt_int h:wpAny (model prog w) A (compareOp .Lt _ _) Q E s)
 ·exact(PyProof.Rows.le_int h:wpAny (model prog w) A (compareOp .LtE _ _) Q E s)
 ·exact(PyProof.Rows.gt_int h:wpAny (model prog w) A (compareOp .Gt _ _) Q E s)
 ·exact(PyProof.Rows.ge_int h:wpAny (model prog w) A (compareOp .GtE _ _) Q E s)
theorem Ih(ho:rY op)(I:Inv X pins σ H s): ∀(n:Nat) (d e:D) (v u:V) (a b:gi) (O O':AP') (A:gv) (r:Bool),iE X.K H O d v->iE X.K H O' e u->RelV v a->RelV u b->d.dep<=n->e.dep<20000->A.units+n<cLine->kQ op d e=some r->Mb op A s a b r:=by
 intro n
 induction n with
 |zero=>
  intro d e v u a b O O' A r hd he ra rb hn p6 hA hc
  cases d with
  |int i=>
   cases e with
   |int j=>
    have:=gK hd;subst this;have:=gK he;subst this;obtain⟨t,rfl⟩:=ra;obtain⟨t',rfl⟩:=rb;rw[kQ] at hc;rw[<-hV hc];exact A5 ho
   |_=>rw[kQ] at hc<;>first|cases hc|(intros;simp_all)
  |tup l=>rw[D.dep] at hn;omega
  |_=>rw[kQ] at hc<;>first|cases hc|(intros;simp_all)
 |succ n ih=>
  intro d e v u a b O O' A r hd he ra rb hn p6 hA hc
  cases d with
  |int i=>
   cases e with
   |int j=>
    have:=gK hd;subst this;have:=gK he;subst this;obtain⟨t,rfl⟩:=ra;obtain⟨t',rfl⟩:=rb;rw[kQ] at hc;rw[<-hV hc];exact A5 ho
   |_=>rw[kQ] at hc<;>first|cases hc|(intros;simp_all)
  |tup l=>
   cases e with
   |tup m=>
    rw[kQ] at hc;rw[D.dep] at hn p6;obtain⟨p,xs,rfl,q,r1⟩:=jr hd;obtain⟨p2,ys,rfl,q2,r2⟩:=jr he;cases ra;cases rb;obtain⟨b6,v1,pl,_⟩:=I.tuple q;obtain⟨c9,v2,e7,_⟩:=I.tuple q2;have m6:A.in1.units=A.units+1:=rfl
    have key: ∀(l m:List D) (xs ys:List V) (b6 c9:hJ) (k:Int),D.depL l+1<=n+1->D.depL m<20000->RepL X.K H O l xs->RepL X.K H O' m ys->Vals xs b6->Vals ys c9->nK op l m=some r->wW op A.in1 s (iO op (b6.length+k) (c9.length+k)) (b6.zip c9) r:=by
     intro l
     induction l with
     |nil=>
      intro m xs ys b6 c9 k y9 ag r1 r2 v1 v2 hc;rw[RepL] at r1;subst r1;cases v1;rw[nK] at hc;have e1:=r2.length;have e2:=v2.length;show r=_;rw[nF,<-hV hc]
      congr 1
      omega
     |cons x l ihl=>
      intro m xs ys b6 c9 k y9 ag r1 r2 v1 v2 hc;rw[RepL] at r1;obtain⟨vx,xr,rfl,g1,g2⟩:=r1
      cases v1 with
      |cons a1 a2=>
       cases m with
       |nil=>
        rw[RepL] at r2;subst r2;cases v2;rw[nK] at hc;have e1:=g2.length;have e2:=a2.length;rw[List.zip_nil_right];show r=_;rw[nF,<-hV hc]
        congr 1
        simp only[iJ];omega
       |cons y m=>
        rw[RepL] at r2;obtain⟨vy,yr,rfl,g3,g4⟩:=r2
        cases v2 with
        |cons b1 b2=>
         rw[nK] at hc;rw[D.depL] at y9 ag;rw[qv];refine⟨D.eqb x y,wI I n x y vx vy _ _ O O' A.in1 (.inl g1) (.inl g3) a1 b1 (by omega) (by omega) (by rw[m6];omega),?_⟩
         cases hq:D.eqb x y with
         |true=>
          rw[hq,gh rfl] at hc;rw[gh rfl];have:=ihl m xr yr _ _ (k+1) (by omega) (by omega) g2 g4 a2 b2 hc;simp only[iJ];have e: ∀a:Nat,(((a+1:Nat):Int)+k)=(a:Int)+(k+1):=fun a=>by omega
          rw[e,e];exact this
         |false=>
          rw[hq,gk iB] at hc;rw[gk iB];exact ih x y vx vy _ _ O O' A.in1 r (.inl g1) (.inl g3) a1 b1 (by omega) (by omega) (by rw[m6];omega) hc
    have:=key l m xs ys b6 c9 0 (by omega) (by omega) r1 r2 v1 v2 hc;refine Ig ho pl e7 (by omega) ?_;simpa using this
   |_=>rw[kQ] at hc<;>first|cases hc|(intros;simp_all)
  |_=>rw[kQ] at hc<;>first|cases hc|(intros;simp_all)
def sf(op:CmpOp)(d e:D):Option (D×Bool):=if d.dep<=50/\e.dep<=50 then(kQ op d e).map fun b=>(.bl b,false) else none
theorem uO(ho:rY op)(hu:X.A.units+60<cLine):OpR X (compareOp op) (rD X.K (sf op)):=by
 intro pins s σ H x y v u Q I rx ry h;obtain⟨O,d,e,z,np,h1,h2,hg,G⟩:=h;unfold sf at hg;split at hg
 ·rename_i hd;obtain⟨r,hr,rfl⟩:=hG hg;have:=Ih ho I 50 d e x y v u O O X.A r h1 h2 rx ry hd.1 (by omega) (by omega) hr X.prog X.w X.xe (EP X pins σ Q) ⟨.bl r,H,I,rfl,G.bl⟩;rcases ho with rfl|rfl|rfl|rfl<;>exact this
 ·cases hg
end
open TS
section
variable {prog:gw}{w:gm}{A:gv}{E:gD}{s:gb}
def nU(h:gz)(a:fV)(vs:hJ):Heap:=((h.update a (Obj.mapSeq fun _=> #[])).push (seqObj "tuple" vs.toArray 0)).push (seqObj "list" #[] 0)
def Gg(vs:hJ)(i:Nat):Keyed:=(vs.getD i Value.none,vs.getD i Value.none)
theorem qk{a:fV}{vs:hJ}{n:Nat}{P:PySem.Fin->Shared->Prop}{κ:SortKind}{lt:kn}(ho:s.heap.get? a=some (seqObj "list" vs.toArray n))(hz:vs.length<=sizeLine)(W:Wk lt)
  (hk:2<=vs.length->wpAny (model prog w) A (keyKind' vs.toArray) (fun κ' s'=>s'={s with heap:=nU s.heap a vs}/\κ'=κ) (fun _ _=>False) {s with heap:=nU s.heap a vs})
  (ask:2<=vs.length->Ask prog w A E (fun s'=>s'={s with heap:=nU s.heap a vs}) (Gg vs) κ vs.length lt)
  (h: ∀p:List Nat,p.Perm (List.range vs.length)->p.Pairwise (SL lt)->P (.done (.ret .none)) {s with heap:=(nU s.heap a vs).update a (Obj.mapSeq fun _=>(p.map fun i=>vs.getD i Value.none).toArray)}):
  wpAny (model prog w) A (Builtin.«list.sort» ⟨[.ref a],[]⟩) P E s:=by
 rw[list_sort_plain];have ha:a<s.heap.objs.size:=iM ho;refine fW (listItems_at ho rfl (fW (Ce ho rfl ?_ (by rw[gU];exact hz) (ku _))));obtain⟨e1,r8⟩: ∃e1,(s.heap.update a (Obj.mapSeq fun _=>(#[]:Array Value))).get? a=some (seqObj "list" #[] e1):=⟨_,Cd ho fun _=> #[]⟩
 refine fW (Cc r8 rfl (fW (wpAny_newTuple ?_ (by show vs.length<=_;exact hz))));refine fW (wpAny_newList ?_ (ku _));refine kL ?_;have ei:(nU s.heap a vs).get? a=some (seqObj "list" #[] e1):=gY _ (gY _ r8);show wpAny (model prog w) A _ P E {s with heap:=nU s.heap a vs};dsimp only;by_cases h2:vs.toArray.size<2
 ·rw[gh h2,gh h2];refine fW (gg ?_);rw[StateT.run_pure];refine fW (gg ?_);dsimp only;refine fW (Cc ei rfl (fW (Ce ei rfl ?_ (ku _) ?_)))
  ·simp only[rq,hC,ik];refine gg ?_;have cz:vs.length<2:=by simpa using h2
   have:=h (List.range vs.length) (oC _) (by
    rw[Ee];intro i j hi hj n9;simp at hi hj;omega)
   have e:((vs.toArray.zip vs.toArray).map (·.2))=((List.range vs.length).map fun i=>vs.getD i Value.none).toArray:=by
    apply Array.ext
    ·simp
    ·intro i h1 h3;have hi:i<vs.length:=by simpa using h1
     simp[hi]
   rw[e];exact this
  ·rw[Array.size_map,Array.size_zip];simp;omega
 ·rw[gk h2,gk h2];have cz:2<=vs.length:=by simpa using h2
  refine fW (ox (hk cz) (fun κ' s' hκ=>?_) fun _ _ x=>x.elim);obtain⟨rfl,rfl⟩:=hκ
  have R:Rp (Gg vs) κ' vs.length (SortSt.mk' κ' (vs.toArray.zip vs.toArray) #[] 7 none) (Array.range vs.length):=by
   refine⟨?_,rfl,rfl,by simp,Array.Perm.refl _⟩;show vs.toArray.zip vs.toArray=_;apply Array.ext
   ·simp
   ·intro i h1 h3;have hi:i<vs.length:=by simpa using h1
    simp[Gg,hi]
  refine fW (ox (Hx (lt:=lt) W (ask cz) (by omega) R rfl (fun k hk=>by simp[TS.P,hk]) (Q:=fun _ b8=> ∃p',Rp (Gg vs) κ' vs.length b8 p'/\p'.toList.Pairwise (SL lt)) (fun b8 p' R' hp=>⟨p',R',hp⟩) _ rfl) ?_ fun _ _ e=>e);rintro⟨⟨⟩,b8⟩ s' ⟨rfl,p',R',hp⟩;dsimp only;have ae:failedOf b8=none:=R'.ok
  have out:(arrOf b8).map (·.2)=(p'.toList.map fun i=>vs.getD i Value.none).toArray:=by
   rw[R'.arr,Array.map_map];apply Array.toList_inj.mp;simp[Gg]
  have pl:p'.toList.length=vs.length:=by simp[R'.size]
  refine fW (Cc ei rfl (fW (Ce ei rfl ?_ (ku _) ?_)))
  ·rw[ae];simp only[rq,hC,ik];rw[out];refine gg (h p'.toList ?_ hp);have:=Me.mp R'.perm;simpa using this
  ·rw[out,gU,iq,pl];omega
end
mutual
def cT:D->D->Ordering
 | .int i,.int j=>if i<j then .lt else if i=j then .eq else .gt
 | .int _,_=> .lt
 | .tup _,.int _=> .gt
 | .tup l,.tup m=>cL l m
 | .tup _,_=> .lt
 |_,.int _=> .gt
 |_,.tup _=> .gt
 |_,_=> .eq
def cL:List D->List D->Ordering
 |[],[]=> .eq
 |[],_::_=> .lt
 |_::_,[]=> .gt
 |x::l,y::m=>match cT x y with
  | .lt=> .lt
  | .gt=> .gt
  | .eq=>cL l m
end
mutual
theorem Ae: ∀x:D,cT x x= .eq
 | .int i=>by simp[cT]
 | .tup l=>by rw[cT];exact Fj l
 | .non=>by simp[cT]
 | .bl _=>by simp[cT]
 | .str _=>by simp[cT]
 | .lst _=>by simp[cT]
 | .oth _ _ _=>by simp[cT]
theorem Fj: ∀l:List D,cL l l= .eq
 |[]=>by simp[cL]
 |x::l=>by rw[cL,Ae x];exact Fj l
end
mutual
theorem jQ: ∀x y:D,cT y x=(cT x y).swap
 | .int i,.int j=>by
  rw[cT,cT];by_cases h1:i<j
  ·rw[gh h1,gk (by omega),gk (by omega)];rfl
  ·rw[gk h1];by_cases h2:i=j
   ·rw[gh h2,gk (by omega),gh h2.symm];rfl
   ·rw[gk h2,gh (by omega)];rfl
 | .tup l,.tup m=>by rw[cT,cT];exact Fi l m
 | .int _,.tup _=>by simp[cT]
 | .int _,.non=>by simp[cT]
 | .int _,.bl _=>by simp[cT]
 | .int _,.str _=>by simp[cT]
 | .int _,.lst _=>by simp[cT]
 | .int _,.oth _ _ _=>by simp[cT]
 | .tup _,.int _=>by simp[cT]
 | .tup _,.non=>by simp[cT]
 | .tup _,.bl _=>by simp[cT]
 | .tup _,.str _=>by simp[cT]
 | .tup _,.lst _=>by simp[cT]
 | .tup _,.oth _ _ _=>by simp[cT]
 | .non,y=>by cases y<;>simp[cT]
 | .bl _,y=>by cases y<;>simp[cT]
 | .str _,y=>by cases y<;>simp[cT]
 | .lst _,y=>by cases y<;>simp[cT]
 | .oth _ _ _,y=>by cases y<;>simp[cT]
theorem Fi: ∀l m:List D,cL m l=(cL l m).swap
 |[],[]=>by simp[cL]
 |[],_::_=>by simp[cL]
 |_::_,[]=>by simp[cL]
 |x::l,y::m=>by
  rw[cL,cL,jQ x y];cases h:cT x y<;>simp[Ordering.swap]
  exact Fi l m
end
theorem Mr(h1:cT x y≠ .gt)(h2:cT y x≠ .gt):cT x y= .eq:=by
 rw[jQ x y] at h2
 cases h:cT x y with
 |lt=>rw[h] at h2;exact absurd rfl h2
 |eq=>rfl
 |gt=>exact absurd h h1
mutual
theorem pj: ∀x y z:D,cT x y≠ .gt->cT y z≠ .gt->cT x z≠ .gt
 | .int i,y,z,h1,h2=>by
  cases z with
  |int k=>
   cases y with
   |int j=>
    rw[cT] at h1 h2 ⊢
    have a:i<=j:=by
     by_cases a:i<j
     ·omega
     ·rw[gk a] at h1;by_cases b:i=j
      ·omega
      ·rw[gk b] at h1;exact absurd rfl h1
    have b:j<=k:=by
     by_cases a:j<k
     ·omega
     ·rw[gk a] at h2;by_cases b:j=k
      ·omega
      ·rw[gk b] at h2;exact absurd rfl h2
    by_cases c:i<k
    ·rw[gh c];simp
    ·rw[gk c,gh (by omega)];simp
   |_=>simp[cT] at h2
  |_=>simp[cT]
 | .tup l,y,z,h1,h2=>by
  cases y with
  |int j=>simp[cT] at h1
  |tup m=>
   cases z with
   |int k=>simp[cT] at h2
   |tup n=>rw[cT] at h1 h2 ⊢;exact BI l m n h1 h2
   |_=>simp[cT]
  |_=>cases z<;>simp_all [cT]
 | .non,y,z,h1,h2=>by cases y<;>cases z<;>simp_all [cT]
 | .bl _,y,z,h1,h2=>by cases y<;>cases z<;>simp_all [cT]
 | .str _,y,z,h1,h2=>by cases y<;>cases z<;>simp_all [cT]
 | .lst _,y,z,h1,h2=>by cases y<;>cases z<;>simp_all [cT]
 | .oth _ _ _,y,z,h1,h2=>by cases y<;>cases z<;>simp_all [cT]
 termination_by x y z=>sizeOf x+sizeOf y+sizeOf z
theorem BI: ∀l m n:List D,cL l m≠ .gt->cL m n≠ .gt->cL l n≠ .gt
 |[],m,n,_,_=>by cases n<;>simp[cL]
 |x::l,[],n,h1,_=>by simp[cL] at h1
 |x::l,y::m,[],_,h2=>by simp[cL] at h2
 |x::l,y::m,z::n,h1,h2=>by
  have a1:cT x y≠ .gt:=fun h=>by rw[cL,h] at h1;exact h1 rfl
  have a2:cT y z≠ .gt:=fun h=>by rw[cL,h] at h2;exact h2 rfl
  have a3:=pj x y z a1 a2;rw[cL]
  cases hxz:cT x z with
  |lt=>simp
  |gt=>exact absurd hxz a3
  |eq=>
   have zx:cT z x≠ .gt:=by rw[jQ x z,hxz];simp[Ordering.swap]
   have exy:cT x y= .eq:=Mr a1 (pj y z x a2 zx);have eyz:cT y z= .eq:=Mr a2 (pj z x y zx a1);rw[cL,exy] at h1;rw[cL,eyz] at h2;exact BI l m n h1 h2
 termination_by l m n=>sizeOf l+sizeOf m+sizeOf n
end
def ltT(x y:D):Bool:=cT x y== .lt
theorem DA:ltT x y=true↔cT x y= .lt:=by simp[ltT]
theorem kN:ltT x y=false↔cT x y≠ .lt:=by simp[ltT]
theorem MJ(f:Nat->D):Wk fun i j=>ltT (f i) (f j):=by
 have key: ∀x y z:D,ltT x z=true->ltT x y=true\/ltT y z=true:=fun x y z h=>by
  cases h1:ltT x y with
  |true=>exact .inl rfl
  |false=>
   cases h2:ltT y z with
   |true=>exact .inr rfl
   |false=>
    exfalso
    have yx:cT y x≠ .gt:=by
     rw[jQ x y];intro e;rw[kN] at h1
     cases hc:cT x y with
     |lt=>exact h1 hc
     |eq=>rw[hc] at e;cases e
     |gt=>rw[hc] at e;cases e
    have zy:cT z y≠ .gt:=by
     rw[jQ y z];intro e;rw[kN] at h2
     cases hc:cT y z with
     |lt=>exact h2 hc
     |eq=>rw[hc] at e;cases e
     |gt=>rw[hc] at e;cases e
    have:=pj z y x zy yx;rw[jQ x z,DA.mp h] at this;exact this rfl
 refine⟨fun i=>by rw[kN,Ae];simp,fun i j k h1 h2=>?_,fun i j k h=>key _ _ _ h⟩;rcases key (f i) (f k) (f j) h1 with h|h
 ·exact h
 ·
  rw[DA] at h h2;rw[jQ,h] at h2;cases h2
mutual
/-- ints,and tuples of such -/
def D.pr:D->Bool
 | .int _=>true
 | .tup l=>D.prL l
 |_=>false
def D.prL:List D->Bool
 |[]=>true
 |x::l=>D.pr x&&D.prL l
end
mutual
theorem DQ: ∀x y:D,D.pr x=true->D.pr y=true->D.eqb x y=(cT x y== .eq)
 | .int i,.int j,_,_=>by
  rw[D.eqb,cT];by_cases h:i=j
  ·subst h;simp
  ·rw[gk h];by_cases h2:i<j<;>simp[h,h2]
 | .int _,.tup _,_,_=>by simp[D.eqb,cT]
 | .tup _,.int _,_,_=>by simp[D.eqb,cT]
 | .tup l,.tup m,h1,h2=>by rw[D.eqb,cT];rw[D.pr] at h1 h2;exact Fb l m h1 h2
 | .non,_,h,_=>by simp[D.pr] at h
 | .bl _,_,h,_=>by simp[D.pr] at h
 | .str _,_,h,_=>by simp[D.pr] at h
 | .lst _,_,h,_=>by simp[D.pr] at h
 | .oth _ _ _,_,h,_=>by simp[D.pr] at h
 |_,.non,_,h=>by simp[D.pr] at h
 |_,.bl _,_,h=>by simp[D.pr] at h
 |_,.str _,_,h=>by simp[D.pr] at h
 |_,.lst _,_,h=>by simp[D.pr] at h
 |_,.oth _ _ _,_,h=>by simp[D.pr] at h
theorem Fb: ∀l m:List D,D.prL l=true->D.prL m=true->D.eqbL l m=(cL l m== .eq)
 |[],[],_,_=>by simp[D.eqbL,cL]
 |[],_::_,_,_=>by simp[D.eqbL,cL]
 |_::_,[],_,_=>by simp[D.eqbL,cL]
 |x::l,y::m,h1,h2=>by
  rw[D.prL,ki] at h1 h2;rw[D.eqbL,cL,DQ x y h1.1 h2.1,Fb l m h1.2 h2.2];cases cT x y<;>simp
end
mutual
theorem zZ: ∀x y:D,D.pr x=true->D.pr y=true-> ∀b,kQ .Lt x y=some b->b=ltT x y
 | .int i,.int j,_,_,b,h=>by
  rw[kQ] at h;rw[<-hV h,ltT,cT,iO];by_cases h1:i<j
  ·simp[h1]
  ·rw[gk h1];by_cases h2:i=j<;>simp[h1,h2]
 | .int _,.tup _,_,_,b,h=>by simp[kQ] at h
 | .tup _,.int _,_,_,b,h=>by simp[kQ] at h
 | .tup l,.tup m,h1,h2,b,h=>by
  rw[kQ] at h;rw[D.pr] at h1 h2;rw[ltT,cT];exact Ff l m h1 h2 b h
 | .non,_,h,_,_,_=>by simp[D.pr] at h
 | .bl _,_,h,_,_,_=>by simp[D.pr] at h
 | .str _,_,h,_,_,_=>by simp[D.pr] at h
 | .lst _,_,h,_,_,_=>by simp[D.pr] at h
 |_,.non,_,h,_,_=>by simp[D.pr] at h
 |_,.bl _,_,h,_,_=>by simp[D.pr] at h
 |_,.str _,_,h,_,_=>by simp[D.pr] at h
 |_,.lst _,_,h,_,_=>by simp[D.pr] at h
theorem Ff: ∀l m:List D,D.prL l=true->D.prL m=true-> ∀b,nK .Lt l m=some b->b=(cL l m== .lt)
 |[],[],_,_,b,h=>by rw[nK] at h;rw[<-hV h];simp[iO,cL]
 |[],_::_,_,_,b,h=>by rw[nK] at h;rw[<-hV h];simp[iO,cL]<;>omega
 |_::_,[],_,_,b,h=>by rw[nK] at h;rw[<-hV h];simp[iO,cL]<;>omega
 |x::l,y::m,h1,h2,b,h=>by
  rw[D.prL,ki] at h1 h2;rw[nK,DQ x y h1.1 h2.1] at h;rw[cL]
  cases hc:cT x y with
  |eq=>rw[hc] at h;simp at h;exact Ff l m h1.2 h2.2 b h
  |lt=>rw[hc] at h;simp at h;have:=zZ x y h1.1 h2.1 b h;rw[this,ltT,hc]
  |gt=>rw[hc] at h;simp at h;have:=zZ x y h1.1 h2.1 b h;rw[this,ltT,hc]
end
section
variable {α:Type}(lt:α->α->Bool)
def uB(x:α):List α->List α
 |[]=>[x]
 |y::l=>if lt y x=true then y::uB x l else x::y::l
def lD:List α->List α
 |[]=>[]
 |x::l=>uB lt x (lD l)
theorem pL(x:α): ∀l:List α,(uB lt x l).Perm (x::l)
 |[]=>oC _
 |y::l=>by
  rw[uB];split
  ·exact((pL x l).cons y).trans (List.Perm.swap x y l)
  ·exact oC _
theorem jo: ∀l:List α,(lD lt l).Perm l
 |[]=>oC _
 |x::l=>(pL lt x _).trans ((jo l).cons x)
theorem Bv{β:Type}(bz:β->β->Bool)(f:α->β)(x:α): ∀l:List α,(∀y∈l,bz (f y) (f x)=lt y x)->uB bz (f x) (l.map f)=(uB lt x l).map f
 |[],_=>rfl
 |y::l,h=>by
  rw[iw,uB,uB,h y ic];split
  ·rw[iw,Bv bz f x l fun z hz=>h z (hU _ hz)]
  ·rfl
theorem xF{β:Type}(bz:β->β->Bool)(f:α->β): ∀l:List α,(∀x∈l,∀y∈l,bz (f y) (f x)=lt y x)->lD bz (l.map f)=(lD lt l).map f
 |[],_=>rfl
 |x::l,h=>by
  rw[iw,lD,lD,xF bz f l fun a ha b hb=>h a (hU _ ha) b (hU _ hb)];exact Bv lt bz f x _ fun y hy=>h x ic y (hU _ ((jo lt l).mem_iff.mp hy))
end
theorem EX{lt:kn}(W:Wk lt){x:Nat}: ∀{l:gX},l.Pairwise (SL lt)->(∀y∈l,x<y)->(uB lt x l).Pairwise (SL lt)
 |[],_,_=>yQ _ _
 |y::l,h,hx=>by
  rw[nX] at h;rw[uB]
  cases hl:lt y x with
  |true=>
   rw[gh rfl,nX];refine⟨fun z hz=>?_,EX W h.2 fun z hz=>hx z (hU _ hz)⟩;rcases jt.mp ((pL lt x l).mem_iff.mp hz) with rfl|hz
   ·exact .inl hl
   ·exact h.1 z hz
  |false=>
   rw[gk iB,nX];have first:SL lt x y:= .inr ⟨hl,hx y ic⟩;refine⟨fun z hz=>?_,nX.mpr h⟩;rcases jt.mp hz with rfl|hz
   ·exact first
   ·exact SL.trans W first (h.1 z hz)
theorem AN{lt:kn}(W:Wk lt): ∀{l:gX},l.Pairwise (· < ·)->(lD lt l).Pairwise (SL lt)
 |[],_=>List.Pairwise.nil
 |x::l,h=>by
  rw[nX] at h;exact EX W (AN W h.2) fun y hy=>h.1 y ((jo lt l).mem_iff.mp hy)
theorem AM(W:Wk lt)(hp:p.Perm (List.range n))(hs:p.Pairwise (SL lt)):p=lD lt (List.range n):=by
 refine G3 (fun x y _ _ h1 h2=>(SL.asym W h1 h2).elim) hs (AN W Kl) (hp.trans (jo lt _).symm)
theorem FC{ds:List D}{p:gX}(hp:p.Perm (List.range ds.length))(hs:p.Pairwise (SL fun i j=>ltT (ds.getD i .non) (ds.getD j .non))):p.map (fun i=>ds.getD i .non)=lD ltT ds:=by
 rw[AM (MJ fun i=>ds.getD i .non) hp hs,<-xF _ ltT (fun i=>ds.getD i .non) _ fun x _ y _=>rfl]
 congr 1
 apply vb;intro i;by_cases hi:i<ds.length
 ·simp[hi]
 ·simp[hi]
def jl:D->Option Nat
 | .int _=>some 0
 | .tup (.int _::_)=>some 1
 | .tup (.tup _::_)=>some 2
 |_=>none
def EV:Nat->SortKind
 |0=>oneType'
 |1=>tuples' true
 |_=>tuples' false
structure SortsBy(k:Nat)(l:List D):Prop where
 hd: ∀x∈l,jl x=some k
 pr: ∀x∈l,D.pr x=true
 dp: ∀x∈l,x.dep<=50
 cm: ∀x∈l,∀y∈l,(kQ .Lt x y).isSome=true
def lR(l:List D):Bool:=l.length<=1||match l with
 |[]=>true
 |x::_=>(jl x).isSome&&(l.all fun y=>jl y==jl x&&D.pr y&&decide (y.dep<=50))&&l.all fun y=>l.all fun z=>(kQ .Lt y z).isSome
theorem xG(h:lR l=true):l.length<=1\/ ∃k,SortsBy k l:=by
 unfold lR at h;rw[uW] at h;rcases h with h|h
 ·left;simpa using h
 ·right
  cases l with
  |nil=>exact⟨0,fun x hx=>absurd hx jY,fun x hx=>absurd hx jY,fun x hx=>absurd hx jY,fun x hx=>absurd hx jY⟩
  |cons x m=>
   simp only[ki,lC,pY] at h;obtain⟨⟨h1,h2⟩,h3⟩:=h;obtain⟨k,hk⟩:=GH.mp h1;refine⟨k,fun y hy=>?_,fun y hy=>(h2 y hy).1.2,fun y hy=>(h2 y hy).2,fun y hy z hz=>h3 y hy z hz⟩;have:=(h2 y hy).1.1;rw[hk] at this;simpa using this
section
variable {X:Cx}{pins:gG}{σ:L2.St}{H:Hp}{s:gb}
theorem pA(v:Vals xs b6)(hi:i<b6.length):RelV (xs.getD i .non) (b6.getD i Value.none):=by
 have e:=v.length;have hx:xs[i]?=some xs[i]:=il (by omega);obtain⟨w,w1,w2⟩:=v.get hx;have h1:xs.getD i .non=xs[i]:=by simp[show i<xs.length by omega]
 have h2:b6.getD i Value.none=w:=by
  rw[il hi] at w1;have:=hV w1;simp[hi,this]
 rw[h1,h2];exact w2
theorem pI(r:RepL X.K H O ds xs)(hi:i<ds.length):Rep X.K H O (ds.getD i .non) (xs.getD i .non):=by
 have e:=r.length;have hd:ds[i]?=some ds[i]:=il hi;obtain⟨v,v1,v2⟩:=r.get hd;have h1:ds.getD i .non=ds[i]:=by simp[hi]
 have h2:xs.getD i .non=v:=by
  rw[il (by omega)] at v1;have:=hV v1;simp[show i<xs.length by omega,this]
 rw[h1,h2];exact v2
theorem wj{ds:List D}{i:Nat}(hi:i<ds.length):ds.getD i .non∈ds:=by simp[hi]
theorem Bt(I:Inv X pins σ H s){A:gv}{b:Bool}{O O':AP'}(hA:A.units+60<cLine){r:Bool}{Q:qU}(hQ:Q r s): ∀(l m:List D) (xs ys:List V) (b6 c9:hJ) (k:Int) (i:Nat),D.depL l<=50->D.depL m<=50->
  ((b&&i==0)=true-> ∀x y l' m',l=x::l'->m=y::m'->(∃a,x= .int a)/\ ∃c,y= .int c)->RepL X.K H O l xs->RepL X.K H O' m ys->Vals xs b6->Vals ys c9->nK .Lt l m=some r->
  ∀fin:Bool,fin=iO .Lt (b6.length+k) (c9.length+k)->PySem.W.KatLex X.prog X.w A b fin Q (b6.zip c9) i s
 |[],m,xs,ys,b6,c9,k,i,_,_,_,r1,r2,v1,v2,hc,fin,hf=>by
  rw[RepL] at r1;subst r1;cases v1;rw[nK] at hc;have e1:=r2.length;have e2:=v2.length;show Q fin s;rw[hf,nF];rw[<-hV hc] at hQ;have:iO .Lt ((([]:List Value).length:Nat):Int) (c9.length:Int)=iO .Lt 0 (m.length:Int):=by congr 1;omega
  rw[this];exact hQ
 |x::l,[],xs,ys,b6,c9,k,i,_,_,_,r1,r2,v1,v2,hc,fin,hf=>by
  rw[RepL] at r2;subst r2;cases v2;rw[nK] at hc;have e1:=r1.length;have e2:=v1.length;rw[List.zip_nil_right];show Q fin s;rw[hf,nF];rw[<-hV hc] at hQ;have:iO .Lt (b6.length:Int) ((([]:List Value).length:Nat):Int)=iO .Lt (((x::l).length:Nat):Int) 0:=by congr 1;omega
  rw[this];exact hQ
 |x::l,y::m,xs,ys,b6,c9,k,i,y9,ag,hb,r1,r2,v1,v2,hc,fin,hf=>by
  rw[RepL] at r1 r2;obtain⟨vx,xr,rfl,g1,g2⟩:=r1;obtain⟨vy,yr,rfl,g3,g4⟩:=r2
  cases v1 with
  |cons a1 a2=>
   cases v2 with
   |cons b1 b2=>
    rw[nK] at hc;rw[D.depL] at y9 ag;rw[qv];refine PySem.W.kat_cons (wI I 50 x y vx vy _ _ O O' A (.inl g1) (.inl g3) a1 b1 (by omega) (by omega) (by omega) X.prog X.w _ _ ?_)
    cases hq:D.eqb x y with
    |true=>
     rw[hq,gh rfl] at hc;refine PySem.W.kat_yes (Bt I hA hQ l m xr yr _ _ (k+1) (i+1) (by omega) (by omega) (fun h=>by simp at h) g2 g4 a2 b2 hc fin ?_);rw[hf];simp only[iJ];have e: ∀a:Nat,(((a+1:Nat):Int)+k)=(a:Int)+(k+1):=fun a=>by omega
     rw[e,e]
    |false=>
     rw[hq,gk iB] at hc;refine PySem.W.kat_no ?_
     cases hbi:(b&&i==0) with
     |true=>
      obtain⟨⟨a,rfl⟩,c,rfl⟩:=hb hbi x y l m rfl rfl;have:=g1.int;subst this;have:=g3.int;subst this;obtain⟨t,rfl⟩:=a1;obtain⟨t',rfl⟩:=b1;rw[kQ] at hc;rw[<-hV hc] at hQ;exact oneLt_int hQ
     |false=>
      exact PySem.W.kat_one _ _ (Ih (.inl rfl) I 50 x y vx vy _ _ O O' A r (.inl g1) (.inl g3) a1 b1 (by omega) (by omega) (by omega) hc X.prog X.w _ _ hQ)
theorem Qi(I:Inv X pins σ H s){O:AP'}{ds:List D}{xs:List V}{b6:hJ}{A:gv}{E:gD}(hA:A.units+60<cLine)(rr:RepL X.K H O ds xs)(v:Vals xs b6){k:Nat}(B:SortsBy k ds):
  Ask X.prog X.w A E (fun s'=>s'=s) (Gg b6) (EV k) b6.length (fun i j=>ltT (ds.getD i .non) (ds.getD j .non)):=by
 intro i j hi hj s' ae E';subst ae;have e1:=rr.length;have e2:=v.length;have mi:ds.getD i .non∈ds:=wj (by omega);have mj:ds.getD j .non∈ds:=wj (by omega);have ri:=pI rr (i:=i) (by omega);have rj:=pI rr (i:=j) (by omega);have vi:=pA v hi;have vj:=pA v hj;obtain⟨b,hb⟩:=GH.mp (B.cm _ mi _ mj);have i6:=zZ _ _ (B.pr _ mi) (B.pr _ mj) b hb;have aO:=B.hd _ mi;have aN:=B.hd _ mj;have di:=B.dp _ mi;have dj:=B.dp _ mj;show wpAny _ _ (keyLt' (EV k) (b6.getD i Value.none) (b6.getD j Value.none)) _ _ _;dsimp only;rw[<-i6];generalize ds.getD i .non=x at*;generalize ds.getD j .non=y at*;generalize xs.getD i .non=vx at*;generalize xs.getD j .non=vy at*;generalize b6.getD i Value.none=a at*;generalize b6.getD j Value.none=c at*
 have tups: ∀(l m:List D) (bb:Bool),x= .tup l->y= .tup m->(bb=true-> ∀x y l' m',l=x::l'->m=y::m'->(∃a,x= .int a)/\ ∃c,y= .int c)->wpAny (model X.prog X.w) A (keyLt' (tuples' bb) a c) (fun b' bx=>bx=s'/\b'=b) E' s':=fun l m bb hl hm hh=>by
  subst hl hm;obtain⟨p,us,rfl,q,r1⟩:=ri.tup;obtain⟨p2,ws,rfl,q2,r2⟩:=rj.tup;cases vi;cases vj;obtain⟨dW,w1,⟨o,ho,hc,n,hd⟩,_⟩:=I.tuple q.sq;obtain⟨is2,w2,⟨o2,o8,bK,n2,hd2⟩,_⟩:=I.tuple q2.sq;rw[kQ] at hb;rw[D.dep] at di dj;refine PySem.W.kat_lt ho hd o8 hd2 ?_;have:=Bt I (b:=bb) hA (Q:=fun b' bx=>bx=s'/\b'=b) ⟨rfl,rfl⟩ l m us ws dW is2 0 0 (by omega) (by omega) (fun h=>hh (by simpa using h)) r1 r2 w1 w2 hb (decide (dW.toArray.size<is2.toArray.size)) (by simp[iO]);simpa using this
 match k,aO,aN with
 |0,aO,aN=>
  cases x with
  |int ix=>
   cases y with
   |int iy=>
    have:=ri.int;subst this;have:=rj.int;subst this;obtain⟨t,rfl⟩:=vi;obtain⟨t',rfl⟩:=vj;rw[kQ] at hb;rw[<-hV hb];show wpAny _ _ (keyLt' oneType' _ _) _ _ _;rw[keyLt'_oneType];exact oneLt_int ⟨rfl,rfl⟩
   |tup m=>cases m with
    |nil=>simp[jl] at aN
    |cons z m=>cases z<;>simp[jl] at aN
   |_=>simp[jl] at aN
  |tup m=>cases m with
   |nil=>simp[jl] at aO
   |cons z m=>cases z<;>simp[jl] at aO
  |_=>simp[jl] at aO
 |1,aO,aN=>
  cases x with
  |tup l=>
   cases y with
   |tup m=>
    refine tups l m true rfl rfl fun _ x y l' m' hl hm=>?_;subst hl hm;refine⟨?_,?_⟩
    ·cases x with
     |int a=>exact⟨a,rfl⟩
     |_=>simp[jl] at aO
    ·cases y with
     |int a=>exact⟨a,rfl⟩
     |_=>simp[jl] at aN
   |_=>simp[jl] at aN
  |_=>simp[jl] at aO
 |(n+2),aO,aN=>
  cases x with
  |tup l=>
   cases y with
   |tup m=>exact tups l m false rfl rfl fun h=>absurd h iB
   |_=>simp[jl] at aN
  |_=>simp[jl] at aO
end
open PySem.W
section
variable {X:Cx}{pins:gG}{σ:L2.St}{H:Hp}{s:gb}
theorem wD(I:Inv X pins σ H s){O:AP'}{T:gi}(P:D->Prop)(hP: ∀x v u,P x->Rep X.K H O x v->RelV v u->Looks (model X.prog X.w) s.heap (typeOf u) T): ∀{ds:List D} {xs:List V} {b6:hJ},RepL X.K H O ds xs->Vals xs b6->
  (∀d∈ds,∃x l,d= .tup (x::l)/\P x)-> ∃fs,KatTups s.heap b6 fs/\fs.length=b6.length/\ ∀f∈fs,Looks (model X.prog X.w) s.heap (typeOf f) T
 |[],xs,b6,r,v,_=>by
  rw[RepL] at r;subst r;cases v;exact⟨[],KatTups.nil,rfl,fun f hf=>absurd hf jY⟩
 |d::ds,xs,b6,r,v,h=>by
  rw[RepL] at r;obtain⟨vx,xr,rfl,g1,g2⟩:=r
  cases v with
  |cons a1 a2=>
   obtain⟨fs,k1,k2,k3⟩:=wD I P hP g2 a2 fun d hd=>h d (hU _ hd);obtain⟨x,l,rfl,px⟩:=h d ic;obtain⟨p,us,rfl,q,r1⟩:=g1.tup;cases a1;obtain⟨dW,w1,⟨o,ho,hc,n,hd⟩,_⟩:=I.tuple q.sq;rw[RepL] at r1;obtain⟨vy,yr,rfl,g3,g4⟩:=r1
   cases w1 with
   |cons b1 b2=>
    rename_i f fr;refine⟨f::fs,KatTups.cons ho hc hd (by simp) k1,by simp[k2],fun g hg=>?_⟩;rcases jt.mp hg with rfl|hg
    ·exact hP x vy _ px g3 b1
    ·exact k3 g hg
theorem N4(I:Inv X pins σ H s){O:AP'}{ds:List D}{xs:List V}{b6:hJ}{A:gv}(rr:RepL X.K H O ds xs)(v:Vals xs b6){k:Nat}(B:SortsBy k ds)(h2:2<=b6.length):
  wpAny (model X.prog X.w) A (keyKind' b6.toArray) (fun κ' s'=>s'=s/\κ'=EV k) (fun _ _=>False) s:=by
 have e1:=rr.length;have e2:=v.length
 match k,B with
 |0,B=>
  refine kas_kind (T:= .type "int") h2 (fun u hu=>?_) rfl rfl ⟨rfl,rfl⟩;obtain⟨i,hi,e⟩:=sP hu;have ri:=pI rr (i:=i) (by omega);have vi:=pA v hi;have hd:=B.hd _ (wj (ds:=ds) (i:=i) (by omega));have:b6.getD i Value.none=u:=by simp[hi,e]
  rw[this] at vi
  cases hx:ds.getD i .non with
  |int a=>
   rw[hx] at ri;have:=ri.int;rw[this] at vi;obtain⟨t,rfl⟩:=vi;exact Looks.of_pure rfl
  |tup l=>
   rw[hx] at hd
   cases l with
   |nil=>simp[jl] at hd
   |cons z m=>cases z<;>simp[jl] at hd
  |_=>rw[hx] at hd;simp[jl] at hd
 |1,B=>
  obtain⟨fs,f1,f2,f3⟩:=wD I (T:= .type "int") (fun x=> ∃a,x= .int a) (fun x vv u px rx rv=>by
   obtain⟨a,rfl⟩:=px;have:=rx.int;subst this;obtain⟨t,rfl⟩:=rv
   exact Looks.of_pure rfl) rr v fun d hd=>by
    have:=B.hd d hd
    cases d with
    |tup l=>
     cases l with
     |nil=>simp[jl] at this
     |cons z m=>
      cases z with
      |int a=>exact⟨_,m,rfl,a,rfl⟩
      |_=>simp[jl] at this
    |_=>simp[jl] at this
  exact kat_kind f1 (by omega) f3 rfl ⟨rfl,rfl⟩
 |(n+2),B=>
  obtain⟨fs,f1,f2,f3⟩:=wD I (T:= .type "tuple") (fun x=> ∃a,x= .tup a) (fun x vv u px rx rv=>by
   obtain⟨a,rfl⟩:=px;obtain⟨p,us,rfl,q,r1⟩:=rx.tup;cases rv;obtain⟨dW,w1,⟨o,ho,hc,n,hd⟩,_⟩:=I.tuple q.sq;have:Looks (model X.prog X.w) s.heap (typeOf (.ref p)) o.cls:=(Looks.ld ho).andThen .now
   rw[hc] at this;exact this) rr v fun d hd=>by
    have:=B.hd d hd
    cases d with
    |tup l=>
     cases l with
     |nil=>simp[jl] at this
     |cons z m=>
      cases z with
      |tup a=>exact⟨_,m,rfl,a,rfl⟩
      |_=>simp[jl] at this
    |_=>simp[jl] at this
  exact kat_kind f1 (by omega) f3 rfl ⟨rfl,rfl⟩
def iP(l:List D):Option (D×Bool):=if lR l=true/\l.length<=sizeLine then some (.lst (lD ltT l),true) else none
def rZ(d:D):Option (D×Bool):=(xK d).bind iP
theorem AA{xs:List V}{b6:hJ}(v:Vals xs b6): ∀(p:gX),(∀i∈p,i<b6.length)->Vals (p.map fun i=>xs.getD i .non) (p.map fun i=>b6.getD i Value.none)
 |[],_=> .nil
 |i::p,h=> .cons (pA v (h i ic)) (AA v p fun j hj=>h j (hU _ hj))
theorem A3{O:AP'}{ds:List D}{xs:List V}(r:RepL X.K H O ds xs): ∀(p:gX),(∀i∈p,i<ds.length)->RepL X.K H O (p.map fun i=>ds.getD i .non) (p.map fun i=>xs.getD i .non)
 |[],_=>RepL.nil
 |i::p,h=>RepL.cons (pI r (h i ic)) (A3 r p fun j hj=>h j (hU _ hj))
theorem CZ{ds:List D}{n:Nat}(hl:n=ds.length)(h1:ds.length<=1){p:gX}(hp:p.Perm (List.range n)):p.map (fun i=>ds.getD i .non)=lD ltT ds:=by
 subst hl
 match ds,h1,hp with
 |[],_,hp=>
  have:p=[]:=by simpa using hp.length_eq
  subst this;rfl
 |[d],_,hp=>
  have hl:p.length=1:=by simpa using hp.length_eq
  match p,hl,hp with
  |[i],_,hp=>
   have:i=0:=by have:=hp.mem_iff.mp (mN.mpr rfl);simpa using this
   subst this;rfl
theorem mR(hu:X.A.units+62<cLine)(I:Inv X pins σ H s){O:AP'}{ds:List D}{xs:List V}{b6:hJ}{x:gi}{Q:VK}{z:D×Bool}(rr:RepL X.K H O ds xs)(v:Vals xs b6)(hg:iP ds=some z)(G:Gen X.K H O z Q)
  (hc: ∀(Q':List Value->Shared->Prop) (E':gD) (A':gv),A'.handled=X.A.handled->(∀(h':gz) (tk:Nat),(∀b o,s.heap.get? b=some o->h'.get? b=some o)->Q' b6 {s with heap:=h',toks:=tk})->wpAny (model X.prog X.w) A' (collect x) Q' E' s):
  wpAny (model X.prog X.w) X.A (call (.builtin "sorted") [x]) (EP X pins σ Q) X.xe s:=by
 unfold iP at hg;obtain⟨⟨hok,hz⟩,rfl⟩:=gM hg;have e1:=rr.length;have e2:=v.length;refine Calls.call_function_entry kind_sorted plain_sorted entry_sorted (args_sorted1 _) ?_;unfold Builtin.«sorted»;refine fW (m:=checkCount "sorted" 1 1 _) (gg ?_);refine fW (hc _ _ _ rfl fun h1 tk k1=>?_);refine fW (wpAny_newList ?_ (by omega));have ho:(h1.push (seqObj "list" b6.toArray 0)).get? h1.objs.size=some (seqObj "list" b6.toArray 0):=iU _ rfl;have I1:Inv X pins σ H {s with heap:=h1,toks:=tk}:=I.kept k1
 have keep: ∀b o,h1.get? b=some o->(nU (h1.push (seqObj "list" b6.toArray 0)) h1.objs.size b6).get? b=some o:=fun b o e'=>by
  have hb:b≠h1.objs.size:=ie (iM e');refine gY _ (gY _ ?_);rw[G2 _ _ _ _ hb];exact gY _ e'
 have I2:Inv X pins σ H {s with heap:=nU (h1.push (seqObj "list" b6.toArray 0)) h1.objs.size b6,toks:=tk}:=I1.kept keep;have bJ: ∀i∈List.range b6.length,i<b6.length:=fun i hi=>by simpa using hi
 refine fW (kL (kX (s:={s with heap:=h1.push (seqObj "list" b6.toArray 0),toks:=tk}) slot_list_sort ⟨_,ho,rfl⟩ entry_list_sort ?body (args_list_sort _)))
 case body=>
  have fin: ∀p:List Nat,p.Perm (List.range b6.length)->p.map (fun i=>ds.getD i .non)=lD ltT ds->EP X pins σ Q (.ref h1.objs.size) {s with heap:=(nU (h1.push (seqObj "list" b6.toArray 0)) h1.objs.size b6).update h1.objs.size (Obj.mapSeq fun _=>(p.map fun i=>b6.getD i Value.none).toArray),toks:=tk}:=fun p hp hs=>by
   have pi: ∀i∈p,i<b6.length:=fun i hi=>by simpa using hp.mem_iff.mp hi
   have ob: ∃n,(nU (h1.push (seqObj "list" b6.toArray 0)) h1.objs.size b6).get? h1.objs.size=some (seqObj "list" #[] n):=by
    obtain⟨e1,r8⟩: ∃e1,((h1.push (seqObj "list" b6.toArray 0)).update h1.objs.size (Obj.mapSeq fun _=>(#[]:Array Value))).get? h1.objs.size=some (seqObj "list" #[] e1):=⟨_,Cd ho fun _=> #[]⟩
    exact⟨e1,gY _ (gY _ r8)⟩
   obtain⟨n,ob⟩:=ob;obtain⟨c2,bK⟩: ∃c2,((nU (h1.push (seqObj "list" b6.toArray 0)) h1.objs.size b6).update h1.objs.size (Obj.mapSeq fun _=>(p.map fun i=>b6.getD i Value.none).toArray)).get? h1.objs.size=some (seqObj "list" (p.map fun i=>b6.getD i Value.none).toArray c2):=⟨_,Cd ob fun _=>(p.map fun i=>b6.getD i Value.none).toArray⟩
   have keep2: ∀b o,h1.get? b=some o->((nU (h1.push (seqObj "list" b6.toArray 0)) h1.objs.size b6).update h1.objs.size (Obj.mapSeq fun _=>(p.map fun i=>b6.getD i Value.none).toArray)).get? b=some o:=fun b o e'=>by
    rw[G2 _ _ _ _ (ie (iM e'))];exact keep b o e'
   have pl:p.length=b6.length:=by simpa using hp.length_eq
   refine⟨.ref h1.objs.size,_,I1.laid (t':=tk) keep2 (gQ _) (show ObjOk X.prog X.w _ _ _ (.lst (p.map fun i=>xs.getD i .non)) from⟨by rw[iq];omega,_,c2,AA v p pi,bK⟩),rfl,?_⟩;refine G.lst I1.fresh ?_;rw[<-hs];exact A3 rr p fun i hi=>by have:=pi i hi;omega
  rcases xG hok with hlen|⟨k,B⟩
  ·refine qk (κ:=general') (lt:=fun _ _=>false) (s:={s with heap:=h1.push (seqObj "list" b6.toArray 0),toks:=tk}) ho (by omega) (Wk.mk (fun _=>rfl) (fun _ _ _ h=>absurd h iB) (fun _ _ _ h=>absurd h iB)) (fun h=>by omega) (fun h=>by omega) fun p hp _=>⟨_,rfl,gg ⟨_,rfl,fin p hp ?_⟩⟩
   exact CZ (by omega) hlen hp
  ·refine qk (κ:=EV k) (lt:=fun i j=>ltT (ds.getD i .non) (ds.getD j .non)) (s:={s with heap:=h1.push (seqObj "list" b6.toArray 0),toks:=tk}) ho (by omega) (MJ _) (fun h=>N4 I2 rr v B h) (fun _=>Qi (A:=X.A.in1.in1) I2 (by show X.A.units+1+1+60<cLine;omega) rr v B) fun p hp hs=>⟨_,rfl,gg ⟨_,rfl,fin p hp (FC (by rw[show ds.length=b6.length by omega];exact hp) hs)⟩⟩
theorem Ab(hu:X.A.units+62<cLine):iV X (.builtin "sorted") (rDn X.K (g1 rZ)):=nL fun pins s σ H x u Q O d z I ru np hd hg G=>by
 obtain⟨l,hl,hg⟩:=fU hg
 have hz:l.length<=sizeLine:=by
  unfold iP at hg;exact(gM hg).1.2
 cases d with
 |lst m=>
  cases hl;obtain⟨p,xs,rfl,q,r⟩:=iX hd;cases ru;obtain⟨b6,v,pl,_⟩:=I.list q;have e1:=r.length;have e2:=v.length;obtain⟨o,ho,hc,n,hd⟩:=pl.isList;refine mR hu I r v hg G fun Q' E' A' _ hQ=>wpAny_collect_seq p (.inl rfl) ho hc hd (fun h' k=>by simpa using hQ h' s.toks k) (by rw[gU];omega)
 |tup m=>
  cases hl;obtain⟨p,xs,rfl,q,r⟩:=jr hd;cases ru;obtain⟨b6,v,⟨o,ho,hc,n,hd⟩,_⟩:=I.tuple q;have e1:=r.length;have e2:=v.length;refine mR hu I r v hg G fun Q' E' A' _ hQ=>wpAny_collect_seq p (.inr rfl) ho hc hd (fun h' k=>by simpa using hQ h' s.toks k) (by rw[gU];omega)
 |_=>cases hl
end
theorem qq:bootBuiltins "isinstance"=some (.builtin "isinstance"):=by decide+kernel
structure Tx(mg:ke):Prop where
 n_len:mg "len"=none
 n_abs:mg "abs"=none
 n_int:mg "int"=none
 n_tuple:mg "tuple"=none
 n_list:mg "list"=none
 n_range:mg "range"=none
 n_isinstance:mg "isinstance"=none
 n_bool:mg "bool"=none
 n_max:mg "max"=none
 n_min:mg "min"=none
 n_all:mg "all"=none
 n_any:mg "any"=none
 n_sorted:mg "sorted"=none
 n_enumerate:mg "enumerate"=none
 n_zip:mg "zip"=none
 n_set:mg "set"=none
theorem LU{P:gw}{w:gm}{K:gu}{mg:ke}{base:gz}{f:fV}{fd:kI}{ps:gJ}{k:Nat}:FnOk P w K mg base CX0 k f fd ps (spF K fun _=>none) where
 len:=fun vs H Q E h=>by
  obtain⟨T,args,r,outs,_,e,_⟩:=h;cases e
 run:=fun A outer s H args us vs Q E _ _ _ _ h=>by
  obtain⟨T,args,r,outs,_,e,_⟩:=h;cases e
theorem xP{K:gu}{H:Hp}{O:AP'}: ∀ns:List Int,RepL K H O (ns.map .int) (ns.map V.int)
 |[]=>RepL.nil
 |n::ns=>RepL.cons Rep.mkInt (xP ns)
theorem N3{K:gu}{ev:EvF}{H:Hp}{a:fV}{ns:gO}(hS:SqL K H a (ns.map V.int)){o:Bool}{outs:Dn}(h:ev [(.lst (ns.map .int),false)]=some ((.bl true,o),outs)):spF K ev [.ref a] H (fun v _=>v= .bl true) fun _ _ _=>False:=by
 have no: ∀b,¬OwnA [some (V.ref a)] [some (D.lst (ns.map .int),false)] b:=fun b ⟨i,d,h1,h2⟩=>by
  cases i with
  |zero=>simp at h1
  |succ i=>simp at h1
 refine⟨fun _=>False,[(.lst (ns.map .int),false)],_,outs,⟨rfl,fun i d hd=>?_,fun i d hd=>?_,fun i j d e b h1=>?_,fun b z=>absurd z (no b),fun b z=>z.elim⟩,h,fun v H' P=>?_⟩
 ·cases i with
  |zero=>
   simp at hd;subst hd;refine⟨_,rfl,Rep.mkLst (a:=a) (xs:=ns.map V.int) ?_ (xP ns)⟩;exact hS.imp (fun z=>⟨z,fun z=>z.elim (no a) id⟩) id
  |succ i=>simp at hd
 ·cases i with
  |zero=>simp at hd
  |succ i=>simp at hd
 ·cases i with
  |zero=>simp at h1
  |succ i=>simp at h1
 ·cases o with
  |false=>exact P.2.2.bl
  |true=>
   obtain⟨p,_,_,_,ok⟩:=P.2;exact ok.elim
def tV(op t5:CmpOp)(fa fb fc:FO):F:=fun δ=>(fa δ).bind fun p=>(fb p.2).bind fun q=>match res q.2 p.1,res q.2 q.1 with
 |some (.int i),some (.int j)=>if iO op i j=true then(fc q.2).bind fun r=>match res r.2 r.1 with
   |some (.int k)=>some ((.bl (iO t5 j k),false),r.2)
   |_=>none
  else some ((.bl false,false),q.2)
 |_,_=>none
section
variable {X:Cx}{a b c:gf}{fa fb fc:FO}{pos:Pos}{op t5:CmpOp}
theorem EG(h:rY op):OpR X (compareOp op) (rI0 fun i j=> .bl (iO op i j)):=by
 rcases h with rfl|rfl|rfl|rfl
 ·exact PJ
 ·exact PK
 ·exact PL
 ·exact PM
theorem Gv(hw:tF X.K (tV op t5 fa fb fc) σ H Q):HM (rI0 fun i j=> .bl (iO op i j)) (rI0 fun i j=> .bl (iO t5 i j)) (tO X.K fa) (tO X.K fb) (tO X.K fc) σ H Q:=by
 obtain⟨δ,T,rr,δ',E,e,k⟩:=hw;unfold tV at e;obtain⟨⟨o1,δ1⟩,h1,e⟩:=fU e;obtain⟨⟨o2,δ2⟩,h2,e⟩:=fU e;refine⟨δ,T,o1,δ1,E,h1,fun v H1 P1=>⟨δ1,TmpO T o1 v,o2,δ2,P1.er E,h2,fun u H2 P2=>?_⟩⟩;have B:=Ops.cons E P1 (Ops.cons (P1.er E) P2 (Ops.nil (P2.er (P1.er E))));dsimp only at e;split at e
 ·rename_i i j hx hy;have hv:=gK (B.view (j:=0) rfl rfl hx);have hu:=gK (B.view (j:=1) rfl rfl hy);refine⟨i,j,hv,hu,iO op i j,rfl,?_⟩;by_cases c:iO op i j=true
  ·rw[gh c] at e ⊢;obtain⟨⟨o3,δ3⟩,h3,e⟩:=fU e;dsimp only at e;split at e
   ·rename_i k' hz;obtain⟨rfl,rfl⟩:=gq e;refine⟨δ2,_,o3,δ3,P2.er (P1.er E),h3,fun w H3 P3=>?_⟩;have B3:=Ops.cons E P1 (Ops.cons (P1.er E) P2 (Ops.cons (P2.er (P1.er E)) P3 (Ops.nil (P3.er (P2.er (P1.er E))))));exact⟨j,k',hu,gK (B3.view (j:=2) rfl rfl hz),(B3.done k).bl⟩
   ·cases e
  ·rw[gk c] at e ⊢;obtain⟨rfl,rfl⟩:=gq e;exact(B.done k).bl
 ·cases e
theorem Iq(ho:rY op)(aw:rY t5)(ha:PO X a fa)(hb:PO X b fb)(hc:PO X c fc)(hm:lastMarks [op,t5] [b,c]=false:=by with_unfolding_all rfl):PX X (.Compare a [op,t5] [b,c] pos) (tV op t5 fa fb fc):=
 PX.imp (IZ (EG ho) (EG aw) ha hb hc hm) fun σ H Q hw=>Gv hw
end
section
variable {X:Cx}
end
end PX
namespace HT
open PySem PySem.Spec PyProof.Rows L2
section
variable {prog:gw}{w:gm}{A:gv}{E:gD}{s:gb}
theorem DI{t sl:fV}{items:jy}{vl vu:gi}{lo hi:Option Int}{Q:gD}(ht:IsTup s.heap t items)(hs:s.heap.IsSliceOf sl vl vu .none)(pl:IsPart vl lo)(pu:IsPart vu hi)
  (hw:sIx items.size 0 lo=0/\sIx items.size items.size hi=items.size)(h:Q (.ref t) s):wpAny (model prog w) A (getItem (.ref t) (.ref sl)) Q E s:=by
 obtain⟨os,bX,ez,dz⟩:=id hs;have fG:s.TypeIs (.ref sl) "slice":=⟨os,bX,ez⟩
 unfold getItem
 try with_reducible refine kL ?_
 first|refine fW (gg ?_)|skip
 refine fW (wpAny_sequenceKey ht.typeIs (by decide) ?_)
 refine fW (qf (name:=Str.ofString "__getitem__") ht.typeIs wY
  (kX wY ht.typeIs Hn ?_ (args_tuple_getitem _ _)))
 show wpAny _ _ (Builtin.Tuple.tupleItemsOf (.ref t)>>=_) _ _ s;refine fW (tupleItemsOf_ ht ?_);refine fW (rA fG ?_);rw[gh (by decide)];refine fW (mT hs pl pu ?_);rw[hw.1,hw.2];show wpAny _ _ (if((((0:Nat):Int)==0&&(1:Int)==1&&(items.size-0)==items.size)=true) then _ else _) _ _ s;rw[gh (by simp)];refine fW (m:=Builtin.Tuple.tupleIsExact _) ?_;unfold Builtin.Tuple.tupleIsExact;refine fW (rA ht.typeIs ?_);refine gg ?_;rw[gh (by decide)];refine fW (rp ?_)
 first
  |exact fW (gg ⟨_,rfl,gg h⟩)
  |exact gg ⟨_,rfl,gg h⟩
  |exact fW (gg (gg ⟨_,rfl,gg h⟩))
  |(refine fW ?_;trace_state;done)
end
end HT
namespace PX
open PySem PySem.Spec PyProof.Rows L2 PySem.SeqAt
def Aq(l:List D)(lo hi:Option Int):List D:=(l.drop (HT.sIx l.length 0 lo)).take (HT.sIx l.length l.length hi-HT.sIx l.length 0 lo)
def gSl(lo hi:Option Int):D->Option (D×Bool)
 | .tup l=>some (.tup (Aq l lo hi),false)
 | .lst l=>some (.lst (Aq l lo hi),true)
 |_=>none
def RQ(K:gu):V->Option Int->Option Int->Hp->VK->Prop:=fun x lo hi H Q=> ∃(O:AP') (d:D) (z:D×Bool),(∀p,¬Ow (H p)-> ¬O p)/\iE K H O d x/\gSl lo hi d=some z/\Gen K H O z Q
theorem RepL.cut{K H}(r:RepL K H O l xs)(lo hi:Option Int):RepL K H O (Aq l lo hi) (BD xs lo hi):=by
 unfold Aq BD;rw[r.length];exact(r.drop _).take _
section
variable {X:Cx}
theorem AQ{pins:gG}{s:gb}{σ:L2.St}{H:Hp}{a:fV}{v vl vu:gi}{lo hi:Option Int}{sl:fV}{Q:VK}{O:AP'}{l:List D}{xs:List V}(I:Inv X pins σ H s)(rx:RelV (.ref a) v)(hs:s.heap.IsSliceOf sl vl vu .none)(pl:IsPart vl lo)(pu:IsPart vu hi)
  (q:SqL X.K H a xs)(r:RepL X.K H O l xs)(G:Gen X.K H O (.lst (Aq l lo hi),true) Q): ∃T id,typeLookup (.type T) "__getitem__"=pure (some (.builtin id))/\s.TypeIs v T/\wpAny (model X.prog X.w) X.A (getItem v (.ref sl)) (EP X pins σ Q) X.xe s:=
 Kx pins s σ H (.ref a) v vl vu lo hi sl Q I rx hs pl pu ⟨a,xs,rfl,q,fun p hp=>G.lst hp (r.cut lo hi)⟩
theorem Q6:SlR X (RQ X.K):=by
 intro pins s σ H x v vl vu lo hi sl Q I rx hs pl pu h;obtain⟨O,d,z,np,hd,hg,G⟩:=h
 cases d with
 |tup l=>
  cases hg;rcases hd with hd|⟨a,_,h⟩
  ·obtain⟨a,xs,rfl,q,r⟩:=hd.tup;by_cases hw:HT.sIx xs.length 0 lo=0/\HT.sIx xs.length xs.length hi=xs.length
   ·cases rx;obtain⟨b6,rv,ht,hz⟩:=I.tuple q.sq;have hlen:b6.toArray.size=xs.length:=by rw[gU];exact rv.length.symm
    refine⟨"tuple",_,wY.lookup,ht.typeIs,?_⟩;refine HT.DI ht hs pl pu (by rw[hlen];exact hw) ⟨.ref a,H,I,rfl,?_⟩
    have e:Aq l lo hi=l:=by
     unfold Aq;rw[<-r.length,hw.1,hw.2];simp[r.length]
    rw[e] at G;exact G (.ref a) H (fun _ _ e=>e) hd
   ·exact MU pins s σ H (.ref a) v vl vu lo hi sl Q I rx hs pl pu ⟨a,xs,rfl,q.sq,hw,fun p hp=>G.tup hp (np p (nOw hp)) (r.cut lo hi)⟩
  ·exact h.elim
 |lst l=>
  cases hg;rcases hd with hd|⟨a,rfl,h⟩
  ·obtain⟨a,xs,rfl,q,r⟩:=hd.lst;exact AQ I rx hs pl pu q.sq r G
  ·obtain⟨xs,e,r⟩:=h;exact AQ I rx hs pl pu (.inl (.inl e)) r G
 |_=>cases hg
end
def By(fa fh:FO):F:=fun δ=>(fa δ).bind fun p=>(fh p.2).bind fun q=>match res q.2 q.1 with
 |some (.int i)=>(res q.2 p.1).bind fun x=>(gSl none (some i) x).bind fun z=>some (z,q.2)
 |_=>none
section
variable {X:Cx}{a lo hi:gf}{fa fl fh:FO}{pos p2:Pos}
theorem KR(ha:PO X a fa)(hl:PO X hi fh):PX X (.Subscript a (.Slice none (some hi) none p2) pos) (By fa fh):=
 PX.imp (IU Q6 ha Lo (Ln hl)) fun σ H Q hw=>by
  obtain⟨δ,T,rr,δ',E,e,k⟩:=hw;unfold By at e;obtain⟨⟨o1,δ1⟩,h1,e⟩:=fU e;obtain⟨⟨o2,δ2⟩,h2,e⟩:=fU e;dsimp only at e;split at e
  ·rename_i i hi;obtain⟨x,hx,e⟩:=fU e;obtain⟨z,hz,e⟩:=fU e;obtain⟨rfl,rfl⟩:=gq e;refine⟨δ,T,o1,δ1,E,h1,fun v H1 P1=>⟨δ1,TmpO T o1 v,o2,δ2,P1.er E,h2,fun u H2 P2=>?_⟩⟩;have B:=Ops.cons E P1 (Ops.cons (P1.er E) P2 (Ops.nil (P2.er (P1.er E))));exact⟨i,gK (B.view (j:=1) rfl rfl hi),_,x,z,fun p hp=>B.np hp,B.view (j:=0) rfl rfl hx,hz,B.done k⟩
  ·cases e
end
end PX
namespace L2
open PySem PySem.Spec PyProof.Rows
section
variable {X:Cx}
def Mj(J:It)(g:TG)(ti:TT)(tb:Addr->TB)(pre:St->St)(σ:St)(H:Hp)(Q:VK):Prop:=
 ∀d,H d=none->AG J g ti (tb d) (pre σ) (upd H d (.set (fun _=>false) 0)) fun _ H2=>Q (.ref d) H2
theorem Gs{elt:gf}{c:oi}{gP:nM}{scope:iC}{pos:Pos}{N':gJ}{pre:St->St}{g:TG}{ti:TT}{tb:Addr->TB}{cE:jx}{J:It}{fp:iI}{it:fV}{tn:Nat->Heap->Prop}
  (S:CompScope X N' scope pre)(hc:X.calm=true)(ha:c.is_async=0)(q9: ∀g',gP[0]?=some g'->g'.is_async=0)
  (x9: ∀(cl:jx) (C:fV) (s3:gb) (H3:Hp) (fp:iI) (pins:gG),let X':=X.comp N' scope cl C s3 H3 fp pins
   PG X' c.target g/\PIf X' c.ifs ti/\ ∀d,PB X' (ir (.SetComp elt (c::gP) scope pos) 0 (.ref d) X'.env) (tb d))
  (l8: ∀x c,cE.lookup x=some c->X.env.cells.lookup x=some c)(j9: ∀x,(x,NameKind.free)∈scope.names-> ∃c,cE.lookup x=some c)
  {pins:gG}{s2:gb}{σ:St}{H2:Hp}{Q:VK}{E:gD}{RR:Value->Addr->Result->Shared->Prop}(I2:Inv X pins σ H2 s2)(T:Turn X.prog X.w X.K c.target J fp it tn)(g9:tn 0 s2.heap)(f2: ∀b∈fp,mJ X pins H2 b)
  (h:Mj J g ti tb pre σ H2 Q)
  (fI: ∀(d:fV) (cl:jx) (s3:gb) (H3 H4:Hp) (σ':St) (s4:gb),Inv X pins σ H3 s3->(∀b∈fp,mJ X pins H3 b)->Inv (X.comp N' scope cl s3.heap.objs.size s3 H3 fp pins) [] σ' H4 s4->Q (.ref d) H4->RR (.ref d) s3.heap.objs.size (.ok .next) s4):
  wpAny (model X.prog X.w) X.A (newSet (.type "set")) (fun acc s₃=>wpAny (model X.prog X.w) X.A (newFunctionEnv scope X.env.globals cE [] X.env.qual none .none (some X.env)) (fun aG s₄=>
   codeAny (model X.prog X.w) X.A (.compStart (.SetComp elt (c::gP) scope pos) 0 (.ref it) acc {aG with scope:=relabel scope X.env}) (RR acc aG.locals) s₄) E s₃) E s2:=by
 refine wpAny_newSet_of (knd:=intKind X.prog X.w) fun led hS=>?_;have I3:Inv X pins σ (upd H2 s2.heap.objs.size (.set (fun _=>false) 0)) {s2 with heap:=s2.heap.push {cls:= .type "set",dict:=none,data:= .set #[] 0 (.fresh 0 0 led)}}:=I2.laid (t':=s2.toks) (o:= .set (fun _=>false) 0) (fun b ob q=>gY _ q) (gQ _) hS;have fo: ∀b∈fp,b<s2.heap.objs.size:=fun b hb=>by obtain⟨o,e,_⟩:=T.obj _ _ g9 b hb;exact iM e
 have ff: ∀b∈fp,mJ X pins (upd H2 s2.heap.objs.size (.set (fun _=>false) 0)) b:=fun b hb=>⟨by rw[gA (ie (fo b hb))];exact(f2 b hb).1,(f2 b hb).2⟩
 refine EJ S.cell l8 j9 fun h1 cl bF fj B=>?_;have hk: ∀b o,(s2.heap.push {cls:= .type "set",dict:=none,data:= .set #[] 0 (.fresh 0 0 led)}).get? b=some o->h1.get? b=some o:=fj;have cp: ∀b∈fp,b<(s2.heap.push {cls:= .type "set",dict:=none,data:= .set #[] 0 (.fresh 0 0 led)}).objs.size:=fun b hb=>by rw[nN];exact tf (fo b hb)
 have J0:=Fe (t':=s2.toks) S I3 B ff cp bF hk;obtain⟨pg,df,pb⟩:=x9 cl (s2.heap.push {cls:= .type "set",dict:=none,data:= .set #[] 0 (.fresh 0 0 led)}).objs.size {s2 with heap:=s2.heap.push {cls:= .type "set",dict:=none,data:= .set #[] 0 (.fresh 0 0 led)}} (upd H2 s2.heap.objs.size (.set (fun _=>false) 0)) fp pins;have m8:tn 0 h1:=T.keep _ _ _ g9 fun b hb o e=>hk b o (gY _ e);have hw:=h s2.heap.objs.size (I2.hok.fresh (gQ _))
 have fM: ∀b∈fp,mJ (X.comp N' scope cl (s2.heap.push {cls:= .type "set",dict:=none,data:= .set #[] 0 (.fresh 0 0 led)}).objs.size {s2 with heap:=s2.heap.push {cls:= .type "set",dict:=none,data:= .set #[] 0 (.fresh 0 0 led)}} (upd H2 s2.heap.objs.size (.set (fun _=>false) 0)) fp pins) []
   (upd H2 s2.heap.objs.size (.set (fun _=>false) 0)) b:=fun b hb=>by
  obtain⟨z1,z2,z3,z4,z5,z6⟩:=ff b hb;refine⟨z1,ie (cp b hb),fun z=>(jt.mp (I3.stkSub b z)).elim z2 z3,.inl hb,fun x c hx=>(B.ex x c hx).elim (z5 x c) fun z=>nP (vd (cp b hb) z),fun p hp=>z6 p (by simpa[Cx.comp] using hp)⟩
 have hl:(∃el gens sc p,Expr.SetComp elt (c::gP) scope pos= .ListComp el gens sc p)\/(∃el gens sc p,Expr.SetComp elt (c::gP) scope pos= .SetComp el gens sc p):= .inr ⟨_,_,_,_,rfl⟩;refine AK hl rfl ha ?_ (fun Q' E' hq=>T.self X.A 0 _ Q' E' m8 hq)
 refine oJ (ES (X:=X.comp N' scope cl (s2.heap.push {cls:= .type "set",dict:=none,data:= .set #[] 0 (.fresh 0 0 led)}).objs.size {s2 with heap:=s2.heap.push {cls:= .type "set",dict:=none,data:= .set #[] 0 (.fresh 0 0 led)}} (upd H2 s2.heap.objs.size (.set (fun _=>false) 0)) fp pins)
  (depth:=0) (acc:= .ref s2.heap.objs.size) rfl hc hl rfl ha (fun g' w9=>q9 g' (by simpa[clausesOf] using w9)) T pg df (pb _) J0 fM m8 hw) fun r s4 hr=>?_
 obtain⟨rfl,σ4,H4,I4,_,q⟩:=hr;exact fI _ _ _ _ _ _ _ I3 ff I4 q
def zk(wi:TI)(g:TG)(ti:TT)(tb:Addr->TB)(pre:St->St):TE:=fun σ H Q=>wi σ H fun J H1=>Mj J g ti tb pre σ H1 Q
theorem IV{elt:gf}{c:oi}{gP:nM}{scope:iC}{pos:Pos}{N':gJ}{pre:St->St}{wi:TI}{g:TG}{ti:TT}{tb:Addr->TB}
  (S:CompScope X N' scope pre)(hc:X.calm=true)(ha:c.is_async=0)(q9: ∀g',gP[0]?=some g'->g'.is_async=0)
  (hs: ∀x,foldedSetIterable c.iter X.env x=pure x)(pi:PI X c.target c.iter wi)
  (x9: ∀(cl:jx) (C:fV) (s3:gb) (H3:Hp) (fp:iI) (pins:gG),let X':=X.comp N' scope cl C s3 H3 fp pins
   PG X' c.target g/\PIf X' c.ifs ti/\ ∀d,PB X' (ir (.SetComp elt (c::gP) scope pos) 0 (.ref d) X'.env) (tb d)):
  PE X (.SetComp elt (c::gP) scope pos) (zk wi g ti tb pre):=by
 intro pins s σ H Q I h;obtain⟨tg,dq,ifs,az⟩:=c;obtain rfl:az=0:=ha;obtain⟨cl,x8,l8,j9⟩:=wK X.env scope fun x hx hf=>I.ok.has x.1 (S.free x hx hf);rw[arm_eval_SetComp];show wpAny _ X.A (comprehension _ scope X.env _ (newSet (.type "set")) false (eval dq X.env)) _ _ s;refine He (use:=none) (g:=⟨tg,dq,ifs,0⟩) (gs:=gP) rfl hs x8 S.kind S.names (thn (pi pins s σ H _ I h) fun v s1 h1=>thn h1 fun dS s2 h2=>?_);obtain⟨it,fp,tn,J,H2,rfl,I2,T,g9,f2,hw⟩:=h2;refine Gs (RR:=fun acc C=>compPost (model X.prog X.w) X.A X.xe none (EP X pins σ Q) acc C) S hc rfl q9 x9 l8 j9 I2 T g9 f2 hw fun d cl' s3 H3 H4 σ' s4 I3 ff J4 q=>?_;obtain⟨m,hn,_⟩:=id J4.loc;exact⟨m,hn,fun h' aL=>⟨.ref d,H4,BF I3 ff J4 aL,rfl,q⟩⟩
def MO(d:fV)(te:TE):TB:=fun σ H N=>te σ H fun y H1=> ∃k S n,y= .int k/\H1 d=some (.set S n)/\n+1<scanBound/\N σ (upd H1 d (.set (fun k'=>S k'||decide (k'=k)) (if S k then n else n+1)))
theorem Ja{elt:gf}{gens:nM}{sc:iC}{p:Pos}{depth:Nat}{d:fV}{te:TE}(hn:gens[depth+1]?=none)(he:PE X elt te):PB X (ir (.SetComp elt gens sc p) depth (.ref d) X.env) (MO d te):=by
 intro pins s σ H N I h
 have e1:ir (.SetComp elt gens sc p) depth (.ref d) X.env=(do let v <-eval elt X.env;standAt elt.pos;let _ <-call (.builtin "set.add") [.ref d,v]):=by
  unfold ir;simp only[clausesOf];rw[hn]
 rw[e1];refine fW (thn (he pins s σ H _ I h) fun u s1 ⟨y,H1,I1,ru,k,S,n,ey,hd,hz,q⟩=>?_);subst ey;obtain⟨t,rfl⟩:=ru;have hS:s1.heap.SetOf (intKind X.prog X.w) d S n:=I1.hok d _ hd;refine fW (vo (fW (call_set_add (knd:=intKind X.prog X.w) (k:=k) (intKind_is _ _ k t) rfl hS hz fun h' aL aS=>gg ⟨σ,_,?_,q⟩)));refine I1.write (x:=d) (e:=d) (by rw[hd];exact trivial) (.inl rfl) (fun b u hb hu=>by rw[aL.2 b hb];exact hu) ?_ aS;obtain⟨o,_,_,_,ho,_⟩:=aS;exact⟨o,ho⟩
end
end L2
namespace PX
open PySem PySem.Spec PyProof.Rows L2 PySem.SeqAt
def rJ(p:(Int->Bool)×Nat)(d:D):(Int->Bool)×Nat:=match d with
 | .int k=>(fun k'=>p.1 k'||decide (k'=k),if p.1 k then p.2 else p.2+1)
 |_=>p
def kY(l:List D):(Int->Bool)×Nat:=l.foldl rJ (fun _=>false,0)
theorem xJ(l:List D)(k:Int):kY (l++[.int k])=((fun k'=>(kY l).1 k'||decide (k'=k)),if(kY l).1 k then(kY l).2 else(kY l).2+1):=by
 unfold kY;rw[List.foldl_append];rfl
theorem Et: ∀(l:List D) (p:(Int->Bool)×Nat),(l.foldl rJ p).2<=p.2+l.length
 |[],p=>gQ _
 |d::l,p=>by
  have:=Et l (rJ p d)
  have h:(rJ p d).2<=p.2+1:=by
   unfold rJ;split
   ·dsimp only;split<;>omega
   ·omega
  simp only[List.foldl_cons,iJ];omega
structure BSs(K:gu)(d:fV)(T:AP')(σ:L2.St)(δ:Dn)(acc:List D)(H:Hp):Prop where
 er:ER K H T σ δ
 td:T d
 at':H d=some (.set (kY acc).1 (kY acc).2)
def CW(K:gu)(A:hZ)(d:fV)(f:FB):TB:=fun σ H N=> ∃δ T acc i3 δ',BSs K d T σ δ acc H/\f acc δ=some (i3,δ')/\ ∀σ' H',SKd A d σ δ H σ' δ' H'->BSs K d T σ' δ' i3 H'->N σ' H'
def wU(f:F):FB:=fun acc δ=>(f δ).bind fun p=>match p.1.1 with
 | .int k=>if acc.length+1<scanBound then some (acc++[.int k],p.2) else none
 |_=>none
section
variable {K:gu}{A:hZ}{d:fV}{T:AP'}{σ σ1:L2.St}{δ δ1:Dn}{acc:List D}{H H1:Hp}
theorem BSs.step(b:BSs K d T σ δ acc H)(k:SK A σ δ H σ1 δ1 H1)(E1:ER K H1 T σ1 δ1):BSs K d T σ1 δ1 acc H1:=⟨E1,b.td,k.kp d _ b.at' fun z=>b.er.nT d z b.td⟩
theorem Jo(hg: ∀v σ H Q,tG K A tg v σ H Q->g v σ H Q)(hi: ∀σ H Q,tT K ft σ H Q->ti σ H Q)(hb: ∀σ H N,CW K A d fb σ H N->tb σ H N)
  (b:BSs K d T σ δ acc H)(P O:AP')(ok:ItOk K J ds P O H1)(s1: ∀a o,H1 a=some o-> ¬P a->H a=some o)(s0: ∀a,H1 a≠none->OwnA σ δ a\/a=d->P a)(s2: ∀a,H1 a≠none->(OwnA σ δ a\/T a)->O a)(s3: ∀a,H1 a≠none->H a≠none)(e:kF tg ft fb ds acc δ=some (i3,δ'))
  (k: ∀σ' H',SKd A d σ δ H σ' δ' H'->BSs K d T σ' δ' i3 H'->N σ' H'):AG J g ti tb σ H N:=by
 refine⟨fun i m σ2 H2=>m=ds.length-i/\i<=ds.length/\ ∃δ2 n6,SKd A d σ δ H σ2 δ2 H2/\BSs K d T σ2 δ2 n6 H2/\kF tg ft fb (ds.drop i) n6 δ2=some (i3,δ'),⟨ds.length,by simp,ku _,δ,acc,SK.refl.skd,b,by simpa using e⟩,?_⟩;rintro i m σ2 H2 ⟨rfl,hle,δ2,n6,S2,B2,e2⟩
 have hO: ∀a,H1 a≠none->(OwnA σ2 δ2 a\/T a)->O a:=fun a ha z=>by
  rcases z with z|z
  ·exact(S2.ow a z).elim (fun z=>s2 a ha (.inl z)) fun z=>absurd z (s3 a ha)
  ·exact s2 a ha (.inr z)
 have t9: ∀a o,H1 a=some o-> ¬P a->H2 a=some o:=fun a o ea n=>S2.kp a o (s1 a o ea n) (fun z=>n (s0 a (by rw[ea];simp) (.inl z))) fun z=>n (s0 a (by rw[ea];simp) (.inr z));by_cases i6:i<ds.length
 ·refine .inr ?_;have hd:ds[i]?=some ds[i]:=il i6;obtain⟨go,yl⟩:=ok.go i _ H2 hd t9;rw[rh i6] at e2;obtain⟨δ3,h3,e3⟩:=fU e2;obtain⟨⟨c,δ4⟩,h4,e4⟩:=fU e3;obtain⟨⟨aH,δ5⟩,h5,e5⟩:=fU e4;refine⟨go,fun x H' hy=>?_⟩;obtain⟨ext,rep⟩:=yl x H' hy;have cH:ER K H' T σ2 δ2:=B2.er.mono (fun b ob eb _=>ext b ob eb) (fun _ _ z=>z) (fun a z=>(B2.er.dom a z).up (ext a));have SX:SK A σ2 δ2 H2 σ2 δ2 H':=(Keep.ext ext).sk;have fS:=B2.step SX cH;have dJ:SKd A d σ δ H σ2 δ2 H':=S2.trans SX.skd;have rx:=rep (fun a=>OwnA σ2 δ2 a\/T a) hO (fun b hb z=>z.elim (fun z=>B2.er.ownDom z hb) fun z=>(B2.er.dom b z).ne hb);refine hg _ _ _ _ ⟨δ2,T,ds[i],δ3,cH,rx,h3,fun σ3 S3 E3=>?_⟩;have B3:=fS.step S3 E3;have bw:=dJ.trans S3.skd;refine hi _ _ _ ⟨δ3,T,c,δ4,E3,h4,fun H4 K4 E4=>?_⟩;have S4:SK A σ3 δ3 H' σ3 δ4 H4:=K4.sk;have B4:=B3.step S4 E4;have dI:=bw.trans S4.skd
  cases c with
  |false=>
   rw[gk iB] at h5;obtain⟨rfl,rfl⟩:=gq h5;exact N7 ⟨ds.length-(i+1),by omega,rfl,i6,δ4,n6,dI,B4,e5⟩
  |true=>
   rw[gh rfl] at h5;exact N6 (hb _ _ _ ⟨δ4,T,n6,aH,δ5,B4,h5,fun σ5 H5 S5 B5=>⟨ds.length-(i+1),by omega,rfl,i6,δ5,aH,dI.trans S5,B5,e5⟩⟩)
 ·refine .inl ⟨ok.stop i H2 (by omega) t9,?_⟩;rw[sV (by omega)] at e2;obtain⟨rfl,rfl⟩:=gq e2;exact k σ2 H2 S2 B2
end
section
variable {X:Cx}{A:hZ}{d:fV}{elt:gf}{f:F}
theorem FZ{gens:nM}{sc:iC}{p:Pos}{depth:Nat}(hn:gens[depth+1]?=none)(he:PX X elt f):PB X (ir (.SetComp elt gens sc p) depth (.ref d) X.env) (CW X.K A d (wU f)):=PB.imp' (Ja hn he) fun σ H N hw=>by
 obtain⟨δ,T,acc,i3,δ',B,e,k⟩:=hw;obtain⟨⟨r,δ1⟩,h1,e⟩:=fU e;obtain⟨r1,r2⟩:=r
 cases r1 with
 |int i=>
  obtain⟨hz,e⟩:=gM e;obtain⟨rfl,rfl⟩:=oG e;refine⟨δ,T,(.int i,r2),δ1,B.er,h1,fun v H1 P=>?_⟩;obtain⟨E1,rv⟩:=P.rep B.er;have hv:v= .int i:=rv.int;have S1:SK A σ δ H σ δ1 H1:=P.1.sk;have B1:=B.step S1 E1;have hle:=Et acc (fun _=>false,0);refine⟨i,_,_,hv,B1.at',by unfold kY;omega,k σ _ ?_ ?_⟩
  ·have:SKd A d σ δ1 H1 σ δ1 (upd H1 d (.set (fun k'=>(kY acc).1 k'||decide (k'=i)) (if(kY acc).1 i then(kY acc).2 else(kY acc).2+1))):=⟨fun a o e n nd=>by rw[gA nd];exact e,fun i a z=> .inl z,fun a z=>by
    by_cases ha:a=d
    ·subst ha;rw[gy];simp
    ·rw[gA ha];exact z,fun _ _=>rfl⟩
   exact S1.skd.trans this
  ·refine⟨E1.mono (fun b o e n=>by rw[gA (by intro z;subst z;exact n B.td)];exact e) (fun _ _ z=>z) (fun a z=>?_),B.td,?_⟩
   ·by_cases ha:a=d
    ·subst ha;rw[gy];trivial
    ·rw[gA ha];exact E1.dom a z
   ·rw[gy,xJ]
 |_=>cases e
end
def pO(caps:gX)(k:Nat)(fi:FIt)(tg:Tg)(ti:FT)(fb:FB):F:=fun δ=>(fi δ).bind fun p=>(jk p.2 (caps.map .slot)).bind fun args=>
 if(gE (caps.map .slot) args).Nodup then(kF tg ti fb p.1 [] (args.map some++List.replicate k none)).bind fun q=>some ((.int (kY q.1).2,false),wb (caps.map .slot) args (gH args q.2) p.2) else none
theorem Gu{K:gu}{caps:gX}{k:Nat}{fi:FIt}{tg:Tg}{ti:FT}{fb:FB}{σ:L2.St}{H:Hp}{Q:VK}(h:tF K (pO caps k fi tg ti fb) σ H Q):
  zk (tI K (fun i=>i∉caps) fi) (tG K (fun i=>caps.length<=i) tg) (tT K ti) (fun d=>CW K (fun i=>caps.length<=i) d fb) (vQ caps k) σ H (fun x H1=> ∃S n,∃a,x= .ref a/\H1 a=some (.set S n)/\Q (.int n) H1):=by
 obtain⟨δ,T,rr,δr,E,e,kq⟩:=h;obtain⟨⟨ds,δ1⟩,h1,e⟩:=fU e;obtain⟨args,ha,e⟩:=fU e;dsimp only at e ha;split at e
 case isFalse=>cases e
 rename_i nd;obtain⟨⟨acc,δ'⟩,h2,e⟩:=fU e;obtain⟨rfl,rfl⟩:=gq e;refine⟨δ,T,ds,δ1,E,h1,fun J H1 K1 E1 ok d hd=>?_⟩;obtain⟨hl,hg⟩:=kR ha;have hl':args.length=caps.length:=by simpa using hl
 let vs:List V:=caps.map fun j=>((σ[j]?).join).getD .non
 have there: ∀(i j:Nat),caps[i]?=some j-> ∃v,σ[j]?=some (some v):=fun i j hj=>by
  have hi:i<args.length:=by have:=(qR.mp hj).1;omega
  obtain⟨o,q1,q2⟩:=hg i _ (il hi);rw[iN,hj] at q1;cases q1;have q3:=mX q2;generalize args[i]=y at q3;obtain⟨x,b⟩:=y
  cases b with
  |false=>obtain⟨v,h,_⟩:=E1.val j x q3;exact⟨v,h⟩
  |true=>obtain⟨a,h,_⟩:=E1.own j x q3;exact⟨_,h⟩
 have eU: ∀(i j:Nat),caps[i]?=some j-> ∃v,vs[i]?=some v/\σ[j]?=some (some v):=fun i j hj=>by
  obtain⟨v,hv⟩:=there i j hj;refine⟨v,?_,hv⟩;show(caps.map fun j=>((σ[j]?).join).getD .non)[i]?=some v;rw[iN,hj];simp[hv]
 have u6:vQ caps k σ=vs.map some++List.replicate k none:=by
  unfold vQ
  congr 1
  apply vb;intro i;show _=((caps.map fun j=>((σ[j]?).join).getD .non).map some)[i]?;rw[iN,iN,iN]
  cases hj:caps[i]? with
  |none=>rfl
  |some j=>obtain⟨v,hv⟩:=there i j hj;simp[hv]
 have B0:Ops K T σ δ1 H1 (caps.map Opd.slot) vs δ1 H1 T:=by
  refine⟨by simp[vs],.refl,E1,fun _ z=>z,fun j x v hj=>?_,fun j x v hj=>?_,fun j i v hj hv=>?_⟩
  ·rw[iN] at hj;obtain⟨_,_,z⟩:=hG hj;cases z
  ·rw[iN] at hj;obtain⟨_,_,z⟩:=hG hj;cases z
  ·rw[iN] at hj;obtain⟨c,hc,z⟩:=hG hj;cases z;obtain⟨v',q1,q2⟩:=eU j i hc;rw[hv] at q1;cases q1;exact q2
 have Ec:=Ad E1 B0 ha nd
 have hA: ∀(i:Nat) x,args[i]?=some (x,true)-> ¬(caps.length<=i):=fun i x hx=>by
  have:=(qR.mp hx).1;omega
 rw[u6];have hx:=jm (o:= .set (fun _=>false) 0) hd
 have nz: ∀a,H1 a≠none->upd H1 d (.set (fun _=>false) 0) a≠none:=fun a z=>by
  cases hh:H1 a with
  |none=>exact absurd hh z
  |some o=>rw[hx a o hh];simp
 have b0:BSs K d (fun a=>Tc T σ δ1 vs args a\/a=d) (vs.map some++List.replicate k none) (args.map some++List.replicate k none) [] (upd H1 d (.set (fun _=>false) 0)):=by
  refine⟨(Ec.pad).mono (fun b o eb _=>hx b o eb) (fun b hb z=>z.elim id fun z=>by subst z;exact absurd hd hb) (fun a z=>?_),.inr rfl,gy⟩;rcases z with z|z
  ·exact(Ec.dom a z).up (hx a)
  ·subst z;rw[gy];trivial
 refine Jo (fun _ _ _ _ h=>h) (fun _ _ _ h=>h) (fun _ _ _ h=>h) b0 _ _ ok (fun a o ea _=>hx a o ea) (fun a cx z=>?_) (fun a cx z=>?_) nz h2 fun σ' H2 S2 B2=>?_
 ·rcases z with z|z
  ·obtain⟨j,x,g1,g2⟩:=F3.mp z;obtain⟨i,_,q1,_,q3⟩:=yd B0 ha ⟨x,g1,g2⟩;refine .inl ⟨i,fun n=>n ?_,q3⟩;rw[iN] at q1;obtain⟨c,hc,e⟩:=hG q1;cases e;exact kK hc
  ·subst z;exact absurd hd cx
 ·rcases z with z|z|z
  ·exact .inl (Bl B0 ha (F3.mp z))
  ·rcases z with z|z
   ·exact .inr z
   ·exact .inl z.1
  ·subst z;exact absurd hd cx
 ·have SS:SK (fun i=>caps.length<=i) (vs.map some++List.replicate k none) (args.map some++List.replicate k none) H1 σ' δ' H2:=
   ⟨fun a o ea n=>S2.kp a o (hx a o ea) n (by intro z;subst z;rw[ea] at hd;cases hd),fun i a z=>(S2.owi i a z).imp id fun z=>by
    cases hh:H1 a with
    |none=>rfl
    |some o=>exact absurd z (nz a (by rw[hh];simp)),fun a z=>S2.dm a (nz a z),S2.as⟩
  have P:=pS (r:=(.int (kY acc).2,false)) (v:= .int (kY acc).2) Ec SS hA ⟨B2.er.mono (fun _ _ e _=>e) (fun b _ z=> .inl z) (fun a z=>B2.er.dom a (.inl z)),Rep.mkInt⟩;exact⟨_,_,d,rfl,B2.at',kq (.int (kY acc).2) H2 ((wM E1 B0 ha nd P).pre K1)⟩
section
variable {X:Cx}{elt:gf}{c:oi}{gP:nM}{scope:iC}{pos pos' p:Pos}{N':gJ}{caps:gX}{k:Nat}{fi:FIt}{tg:Tg}{ti:FT}{fb:FB}
theorem Gy:iV X (.builtin "len") (fun xs H Q=> ∃S n,∃a,xs=[.ref a]/\H a=some (.set S n)/\Q (.int n) H):=by
 intro pins s σ H xs us Q I r h;obtain⟨S,n,a,rfl,e,q⟩:=h;obtain⟨u,rfl,ru⟩:=rF r;cases ru;obtain⟨o,es,ep,t,ho,hex,hd,_,_,hb,hf,hn⟩:=(show s.heap.SetOf (intKind X.prog X.w) a S n from I.hok a _ e)
 have h63:(es.size:Int)<2^63:=by
  have:scanBound=4096:=rfl;omega
 refine call_len_set ho hex hd hf h63 ⟨.int n,H,?_,⟨_,by rw[hn]⟩,q⟩;exact(I.tok _)
theorem FN{z:Str}(C:CompOk X N' scope caps k)(hc:X.calm=true)(ha:c.is_async=0)(q9: ∀g',gP[0]?=some g'->g'.is_async=0)
  (hs: ∀x,foldedSetIterable c.iter X.env x=pure x)(pi:PIX X (fun i=>i∉caps) c.target c.iter fi)
  (x9: ∀(cl:jx) (C:fV) (s3:gb) (H3:Hp) (fp:iI) (pins:gG),let X':=X.comp N' scope cl C s3 H3 fp pins
   PGX X' (fun i=>caps.length<=i) c.target tg/\PIf X' c.ifs (tT X.K ti)/\ ∀d,PB X' (ir (.SetComp elt (c::gP) scope pos) 0 (.ref d) X'.env) (CW X.K (fun i=>caps.length<=i) d fb))
  (hg:Gl X z)(hm:X.mg z=none)(hv:bootBuiltins z=some (.builtin "len"))(hn:z≠"__name__")(j8:(z==("__debug__":Str))=false)
  (h1:starEach [.SetComp elt (c::gP) scope pos] X.env=(false,eval (.SetComp elt (c::gP) scope pos) X.env)::starEach [] X.env)(i4:(backTo pos' (starEach [] X.env)).any (·.1)=false):
  PX X (.Call (.Name z p) [.SetComp elt (c::gP) scope pos] [] pos') (pO caps k fi tg ti fb):=
 PX.imp (rQ Gy hg hm hv (jK (IV (g:=tG X.K (fun i=>caps.length<=i) tg) (ti:=tT X.K ti) (tb:=fun d=>CW X.K (fun i=>caps.length<=i) d fb) C.sco hc ha q9 hs pi x9) mH h1) hn j8 h1 i4) fun σ H Q h=>by
  have q:=Gu h
  have mono: ∀{Q1 Q2:VK},(∀v H,Q1 v H->Q2 v H)->zk (tI X.K (fun i=>i∉caps) fi) (tG X.K (fun i=>caps.length<=i) tg) (tT X.K ti) (fun d=>CW X.K (fun i=>caps.length<=i) d fb) (vQ caps k) σ H Q1->zk (tI X.K (fun i=>i∉caps) fi) (tG X.K (fun i=>caps.length<=i) tg) (tT X.K ti) (fun d=>CW X.K (fun i=>caps.length<=i) d fb) (vQ caps k) σ H Q2:=by
   rintro Q1 Q2 hq ⟨δ,T,ds,δ1,E,h1,kk⟩;refine⟨δ,T,ds,δ1,E,h1,fun J H1 K1 E1 ok d hd=>?_⟩;obtain⟨W,w0,step⟩:=kk J H1 K1 E1 ok d hd;refine⟨W,w0,fun i m σ2 H2 w=>?_⟩;rcases step i m σ2 H2 w with⟨s1,s2⟩|s
   ·exact .inl ⟨s1,hq _ _ s2⟩
   ·exact .inr s
  exact mono (fun v H1 ⟨S,n,a,e,h2,h3⟩=>⟨S,n,a,by rw[e],h2,h3⟩) q
end
end PX
namespace HT
open PySem PySem.Spec PyProof.Rows L2
section
variable {prog:gw}{w:gm}{A:gv}{E:gD}{s:gb}
end
end HT
namespace L2
open PySem PySem.Spec PyProof.Rows
section
variable {X:Cx}{e st:gf}{te ts:TE}{pos p2:Pos}
end
end L2
namespace PX
open PySem PySem.Spec PyProof.Rows L2 PySem.SeqAt
section
variable {X:Cx}{a st:gf}{fa fs:FO}{pos p2:Pos}
end
section
variable {es:iF}{env:Env}
end
end PX
namespace TT
open PySem
def S:Nat->Nat
 |0=>0
 |n+1=>5*S n+1
theorem Fs(m:Nat): ∀n:Nat,S (m+n)=5^n*S m+S n
 |0=>by simp[S]
 |n+1=>by
  rw[<-Nat.add_assoc,S,Fs m n,S,nc,qu,<-mZ,sL 5 (5^n)];lia
theorem wC: ∀n:Nat,∃c,5^n=4*c+1
 |0=>⟨0,rfl⟩
 |n+1=>by
  obtain⟨c,e⟩:=wC n;exact⟨5*c+1,by rw[nc,e];lia⟩
theorem Ke: ∀k:Nat,∃c,S (2^k)=2^k*(2*c+1)
 |0=>⟨0,rfl⟩
 |k+1=>by
  obtain⟨c,e⟩:=Ke k;obtain⟨d,f⟩:=wC (2^k)
  have h:S (2^(k+1))=(5^2^k+1)*S (2^k):=by
   rw[nc,Nat.mul_two,Fs,uV,Cb]
  refine⟨2*(d*c)+d+c,?_⟩;rw[h,f,e,nc];have:4*d+1+1=2*(2*d+1):=by lia
  rw[this,mZ 2,sL (2*d+1),mZ (2^k),mZ (2^k),<-mZ 2 (2^k),sL 2 (2^k),mZ (2^k) 2]
  congr 2
  rw[uV,qu,Cb,sJ,mZ 2 c,yM c 2 d,sL c d]
  lia
theorem Kf(k n:Nat):S (2^k+n)%2^k=S n%2^k:=by
 obtain⟨c,e⟩:=Ke k;rw[Fs,e,yM,Nat.mul_add_mod]
theorem Al: ∀(k e:Nat),e<2^k-> ∃n,n<2^k/\S n%2^k=e
 |0,e,h=>⟨0,by simp,by simp at h;subst h;rfl⟩
 |k+1,e,h=>by
  have hP:0<2^k:=Nat.two_pow_pos k;obtain⟨n,hn,hs⟩:=Al k (e%2^k) (sH _ hP);obtain⟨c,e1⟩:=Ke k;obtain⟨d,e2⟩:=wC n
  have h2:S (2^k+n)=2^(k+1)*(4*d*c+2*d+c)+2^k+S n:=by
   rw[Fs,e1,e2,nc,yM,mZ (2^k) 2]
   have:(4*d+1)*(2*c+1)=2*(4*d*c+2*d+c)+1:=by
    rw[uV,qu,Cb,sJ,yM (4*d) 2 c];lia
   rw[this,qu,sJ]
  rw[nc] at h h2 ⊢;generalize 2^k=P at*;have d1:=Nat.div_add_mod (S n) P;have d2:=Nat.div_add_mod e P;rw[hs] at d1;have hq:e / P<2:=Nat.div_lt_of_lt_mul (by rw[sL] at h;lia)
  have mk: ∀a q x,a=P*2*q+x->x<P*2->a%(P*2)=x:=fun a q x h1 h2=>by
   rw[h1,Nat.mul_add_mod,Nat.mod_eq_of_lt h2]
  have hm:=sH e hP;have q2:S n / P=2*(S n / P / 2)+S n / P%2:=by lia
  have sn:S n=P*2*(S n / P / 2)+(P*(S n / P%2)+e%P):=by
   rw[mZ,<-Nat.add_assoc,<-qu,<-q2];exact d1.symm
  generalize S n / P / 2=q at sn;have r2:S n / P%2<2:=sH _ (by decide);generalize S n / P%2=r at sn r2;generalize e / P=f at*;by_cases hr:r=f
  ·exact⟨n,by lia,mk _ q _ (by rw[sn,hr,d2]) h⟩
  ·refine⟨P+n,by lia,mk _ (4*d*c+2*d+c+q+r) _ ?_ h⟩;rw[h2,sn,qu (P*2) _ r,qu (P*2) _ q];rcases(show r=0\/r=1 by lia) with rfl|rfl
   ·have:f=1:=by lia
    subst this;rw[Ca,Ca];rw[sJ] at d2;lia
   ·have:f=0:=by lia
    subst this;rw[sJ,sJ];rw[Ca] at d2;lia
def ls(mask:Nat)(h:Int):Nat->Nat×Nat
 |0=>(SetTable.bits h%(mask+1),SetTable.bits h)
 |k+1=>SetTable.leap mask (ls mask h k).1 (ls mask h k).2
theorem L5(h:Int):SetTable.bits h<2^64:=by
 unfold SetTable.bits;have:=B9 h (show(0:Int)<2^64 by decide);have:=B8 h (show(2^64:Int)≠0 by decide)
 lia
theorem EO(mask:Nat)(h:Int): ∀k,(ls mask h k).1<=mask
 |0=>by have:=sH (SetTable.bits h) (show 0<mask+1 by lia);show _%(mask+1)<=_;lia
 |k+1=>by
  show(_%(mask+1))<=_;have:=sH ((ls mask h k).1*5+1+(ls mask h k).2 / 32) (show 0<mask+1 by lia);lia
theorem EN(mask:Nat)(h:Int): ∀k,(ls mask h k).2=SetTable.bits h / 32^k
 |0=>by simp[ls]
 |k+1=>by
  show(ls mask h k).2 / 32=_;rw[EN mask h k,nc,Nat.div_div_eq_div_mul]
theorem LJ(mask:Nat)(h:Int)(k:Nat)(hk:13<=k):(ls mask h k).2=0:=by
 rw[EN];refine Nat.div_eq_of_lt (lA (L5 h) ?_);exact kx (show 2^64<=32^13 by decide) (uU (by decide) hk)
theorem Jn(mask:Nat)(h:Int)(m:Nat)(h0:(ls mask h 13).1=S m%(mask+1)): ∀n,(ls mask h (13+n)).1=S (m+n)%(mask+1)
 |0=>h0
 |n+1=>by
  show(((ls mask h (13+n)).1*5+1+(ls mask h (13+n)).2 / 32)%(mask+1))=_;rw[LJ mask h _ (by lia),Jn mask h m h0 n,Nat.zero_div,Cg,<-Nat.add_assoc m n 1,S,Nat.add_mod,Nat.mod_mul_mod,<-Nat.add_mod,sL 5]
theorem Bk(hk:mask+1=2^k)(h:Int)(he:e<=mask): ∃n,n<mask+14/\(ls mask h n).1=e:=by
 have hl:=EO mask h 13;obtain⟨m,hm,em⟩:=Al k (ls mask h 13).1 (by lia);obtain⟨q,hq,eq⟩:=Al k e (by lia);rw[<-hk] at em eq hm hq;have far:=Jn mask h m em.symm;by_cases hqm:m<=q
 ·exact⟨13+(q-m),by lia,by rw[far,show m+(q-m)=q by lia];exact eq⟩
 ·refine⟨13+(q+(mask+1)-m),by lia,?_⟩;rw[far,show m+(q+(mask+1)-m)=2^k+q by lia,hk,Kf,<-hk];exact eq
theorem C6(mask i:Nat)(h:i<=mask):i<=SetTable.runEnd mask i/\SetTable.runEnd mask i<=mask/\SetTable.runEnd mask i<=i+9:=by
 unfold SetTable.runEnd;split<;>lia
def tm(mask:Nat)(h:Int):Nat->Nat
 |0=>0
 |k+1=>tm mask h k+(SetTable.runEnd mask (ls mask h k).1-(ls mask h k).1)+1
theorem Mg(mask:Nat)(h:Int): ∀k,tm mask h k<=10*k
 |0=>gQ _
 |k+1=>by
  have:=Mg mask h k;have:=C6 mask _ (EO mask h k);unfold tm;lia
def at_(mask:Nat)(h:Int)(k t:Nat):SetTable.Probe:=⟨(ls mask h k).1+t,SetTable.runEnd mask (ls mask h k).1-(ls mask h k).1-t,(ls mask h k).1,(ls mask h k).2,none⟩
theorem qG(mask:Nat)(h:Int): ∀k t,t<=SetTable.runEnd mask (ls mask h k).1-(ls mask h k).1->pr mask h (tm mask h k+t)=at_ mask h k t
 |0,0,_=>rfl
 |k+1,0,_=>by
  have e:=qG mask h k (SetTable.runEnd mask (ls mask h k).1-(ls mask h k).1) (gQ _);show adv mask (pr mask h (tm mask h k+(SetTable.runEnd mask (ls mask h k).1-(ls mask h k).1)))=_;rw[e];unfold adv at_;simp only[Nat.sub_self,oz,ik,gt_iff_lt];rfl
 |k,t+1,ht=>by
  have e:=qG mask h k t (by lia);show adv mask (pr mask h (tm mask h k+t))=_;rw[e];unfold adv at_;rw[gh (show SetTable.runEnd mask (ls mask h k).1-(ls mask h k).1-t>0 by lia)];simp only[SetTable.Probe.mk.injEq,and_true,true_and]
  lia
theorem IF(hk:mask+1=2^k)(h:Int)(he:e<=mask): ∃n,n<10*(mask+14)/\(pr mask h n).j=e:=by
 obtain⟨r,hr,er⟩:=Bk hk h he;have:=Mg mask h r;refine⟨tm mask h r,by lia,?_⟩;have:=qG mask h r 0 (ku _);rw[Cg] at this;rw[this];exact er
theorem IE(mask:Nat)(h:Int): ∀n,(pr mask h n).dummy=none
 |0=>rfl
 |n+1=>by
  show(adv mask (pr mask h n)).dummy=none;unfold adv;split<;>exact IE mask h n
theorem A8(mask:Nat)(h:Int): ∀n,∃k t,n=tm mask h k+t/\t<=SetTable.runEnd mask (ls mask h k).1-(ls mask h k).1
 |0=>⟨0,0,rfl,ku _⟩
 |n+1=>by
  obtain⟨k,t,e,ht⟩:=A8 mask h n;by_cases hq:t+1<=SetTable.runEnd mask (ls mask h k).1-(ls mask h k).1
  ·exact⟨k,t+1,by lia,hq⟩
  ·exact⟨k+1,0,by unfold tm;lia,ku _⟩
theorem ID(mask:Nat)(h:Int)(n:Nat):(pr mask h n).j<=mask:=by
 obtain⟨k,t,e,ht⟩:=A8 mask h n;rw[e,qG mask h k t ht];have:=C6 mask _ (EO mask h k);show(ls mask h k).1+t<=mask;lia
theorem zv{xs:iY}(hr:xs.toList.Pairwise (· < ·)){i j:Nat}{a b:Nat}(n9:i<j)(h1:xs[i]?=some a)(h2:xs[j]?=some b):a<b:=by
 rw[<-jS] at h1 h2;obtain⟨hi,rfl⟩:=qR.mp h1;obtain⟨hj,rfl⟩:=qR.mp h2;exact Ee.mp hr i j hi hj n9
theorem wN{xs:iY}(hr:xs.toList.Pairwise (· < ·))(j:Nat): ∀(fuel lo hi:Nat),lo<=hi->hi<=xs.size->hi-lo<=fuel->
  (∀i a,i<lo->xs[i]?=some a->a<j)->(∀i a,hi<=i->xs[i]?=some a->j<=a)->
  let p:=SetTable.below.go xs j fuel lo hi
  p<=xs.size/\(∀i a,i<p->xs[i]?=some a->a<j)/\(∀i a,p<=i->xs[i]?=some a->j<=a)
 |0,lo,hi,h1,h2,h3,h4,h5=>by
  have:lo=hi:=by lia
  subst this;exact⟨h2,h4,h5⟩
 |fuel+1,lo,hi,h1,h2,h3,h4,h5=>by
  unfold SetTable.below.go;by_cases i6:lo<hi
  ·rw[gh i6];have hm:(lo+hi) / 2<xs.size:=by lia
   have hg:xs[(lo+hi) / 2]?=some xs[(lo+hi) / 2]:=lx hm;have hd:xs.getD ((lo+hi) / 2) j=xs[(lo+hi) / 2]:=by simp[Array.getD,hm]
   dsimp only;rw[hd];by_cases hc:xs[(lo+hi) / 2]<j
   ·rw[gh hc];refine wN hr j fuel ((lo+hi) / 2+1) hi (by lia) h2 (by lia) (fun i a cO ha=>?_) h5;by_cases e:i=(lo+hi) / 2
    ·subst e;rw[hg] at ha;cases ha;exact hc
    ·exact vd (zv hr (by lia) ha hg) hc
   ·rw[gk hc];refine wN hr j fuel lo ((lo+hi) / 2) (by lia) (by lia) (by lia) h4 (fun i a cO ha=>?_);by_cases e:i=(lo+hi) / 2
    ·subst e;rw[hg] at ha;cases ha;lia
    ·have:=zv hr (show(lo+hi) / 2<i by lia) hg ha;lia
  ·rw[gk i6];have:lo=hi:=by lia
   subst this;exact⟨h2,h4,h5⟩
theorem lY{xs:iY}(hr:xs.toList.Pairwise (· < ·))(j:Nat):SetTable.below xs j<=xs.size/\(∀i a,i<SetTable.below xs j->xs[i]?=some a->a<j)/\(∀i a,SetTable.below xs j<=i->xs[i]?=some a->j<=a):=
 wN hr j xs.size 0 xs.size (ku _) (gQ _) (by lia) (fun i a h=>by lia) (fun i a h1 h2=>by
  have:=(Kn.mp h2).1;lia)
theorem wO{xs:iY}(hr:xs.toList.Pairwise (· < ·)){i j:Nat}(h:xs[i]?=some j):SetTable.below xs j=i:=by
 obtain⟨h1,h2,h3⟩:=lY hr j;by_cases hl:i<SetTable.below xs j
 ·exact absurd (h2 i j hl h) (oz _)
 ·by_cases hg:SetTable.below xs j<i
  ·have hi:=(Kn.mp h).1;have hb:xs[SetTable.below xs j]?=some xs[SetTable.below xs j]:=lx (by lia);have:=h3 _ _ (gQ _) hb;have:=zv hr hg hb h
   lia
  ·lia
theorem zQ(j:Nat):SetTable.has #[] j=false:=rfl
theorem mS{t:jX}(hr:t.place.toList.Pairwise (· < ·)){i j:Nat}(h:t.place[i]?=some j):t.slot j= .live i:=by
 unfold SetTable.slot;dsimp only;rw[wO hr h,h];simp
theorem C0{t:jX}(hd:t.dummies= #[]){j:Nat}(h:j∉t.place.toList):t.slot j= .empty:=by
 unfold SetTable.slot;dsimp only
 have:(t.place[SetTable.below t.place j]?==some j)=false:=by
  rw[wX];intro e;rw[<-jS] at e;exact h (kK e)
 rw[this,hd,zQ];rfl
theorem Kc(t:jX)(p:SetTable.Probe):t.advance p=adv t.mask p:=by
 unfold SetTable.advance adv;split<;>rfl
theorem A7{hs:gO}{t:jX}(ok:TabOk hs t)(hashAt:Nat->Int)(h:Int): ∀(fuel n:Nat),(∃M,n<=M/\M<n+fuel/\(pr t.mask h M).j∉t.place.toList)->
    ∃m,n<=m/\(∀q,n<=q->q<m-> ∃i,t.place[i]?=some (pr t.mask h q).j/\hashAt i≠h)/\
      (((pr t.mask h m).j∉t.place.toList/\SetTable.probe.go t hashAt h fuel (pr t.mask h n)=some (.empty (pr t.mask h m).j none))\/
       (∃i,t.place[i]?=some (pr t.mask h m).j/\hashAt i=h/\SetTable.probe.go t hashAt h fuel (pr t.mask h n)=some (.candidate (pr t.mask h m).j i (pr t.mask h (m+1)))))
  |0,n,⟨M,h1,h2,h3⟩=>by lia
  |fuel+1,n,⟨M,h1,h2,h3⟩=>by
    unfold SetTable.probe.go;by_cases hm:(pr t.mask h n).j∈t.place.toList
    · obtain⟨i,hi⟩:=pZ hm
      rw[jS] at hi;rw[mS ok.ris hi];dsimp only;by_cases hh:hashAt i=h
      · refine⟨n,gQ _,fun q h1 h2=>by lia,.inr ⟨i,hi,hh,?_⟩⟩
        rw[gh (by simpa using hh),Kc];rfl
      · rw[gk (by simpa using hh),Kc]
        have hn:M≠n:=fun e=>h3 (e▸hm);obtain⟨m,g1,g2,g3⟩:=A7 ok hashAt h fuel (n+1) ⟨M,by lia,by lia,h3⟩;refine⟨m,by lia,fun q k1 k2=>?_,g3⟩;by_cases e:q=n
        · subst e;exact⟨i,hi,hh⟩
        · exact g2 q (by lia) k2
    · rw[C0 ok.dum hm]
      dsimp only;rw[IE];exact⟨n,gQ _,fun q h1 h2=>by lia,.inl ⟨hm,rfl⟩⟩
theorem wm: ∀(n:Nat) (l:gX),l.length<=n-> ∃e,e<=n/\e∉l
 |0,l,h=>⟨0,gQ _,by cases l with|nil=>simp|cons _ _=>simp at h⟩
 |n+1,l,h=>by
  by_cases hm:n+1∈l
  ·obtain⟨e,h1,h2⟩:=wm n (l.erase (n+1)) (by rw[List.length_erase_of_mem hm];lia);exact⟨e,by lia,fun z=>h2 ((B7 (by lia)).mpr z)⟩
  ·exact⟨n+1,gQ _,hm⟩
theorem TabOk.free(ok:TabOk hs t)(h:Int): ∃M,M<10*(t.mask+14)/\(pr t.mask h M).j∉t.place.toList:=by
 obtain⟨k,_,_,hk⟩:=ok.pow
 have h1:t.place.toList.length<=t.mask:=by
  have:=ok.len;have:=ok.room;rw[iG];lia
 obtain⟨e,he,hn⟩:=wm t.mask _ h1;obtain⟨n,h2,h3⟩:=IF hk h he;exact⟨n,h2,by rw[h3];exact hn⟩
theorem jD{α:Type}(xs:Array α)(p:Nat)(x:α):(SetTable.insertAt xs p x).toList=xs.toList.take p++x::xs.toList.drop p:=by
 unfold SetTable.insertAt;simp[Array.toList_extract,List.extract];rw[qX (by simp)]
theorem C7(hr:xs.toList.Pairwise (· < ·))(hj:j∉xs.toList):(SetTable.insertAt xs (SetTable.below xs j) j).toList.Pairwise (· < ·):=by
 obtain⟨h1,h2,h3⟩:=lY hr j;rw[jD,lZ];refine⟨hr.sublist (mf _ _),?_,?_⟩
 ·rw[nX];refine⟨fun a ha=>?_,hr.sublist (mK _ _)⟩;obtain⟨i,hi⟩:=pZ ha;rw[sM] at hi;have h4:=h3 _ _ (show SetTable.below xs j<=SetTable.below xs j+i by lia) (by rw[<-jS];exact hi);have:a≠j:=fun e=>hj (e▸kK hi)
  lia
 ·intro a ha b hb
  have haj:a<j:=by
   obtain⟨i,hi⟩:=pZ ha;rw[List.getElem?_take] at hi;split at hi
   ·rename_i i6;exact h2 i a i6 (by rw[<-jS];exact hi)
   ·cases hi
  rcases jt.mp hb with rfl|hb
  ·exact haj
  ·obtain⟨i,hi⟩:=pZ hb;rw[sM] at hi;have h4:=h3 _ _ (show SetTable.below xs j<=SetTable.below xs j+i by lia) (by rw[<-jS];exact hi)
   lia
theorem TabOk.fresh(finger moves:Nat)(led:Bool):TabOk [] (SetTable.fresh finger moves led) where
 pow:=⟨3,by lia,by lia,rfl⟩
 dum:=rfl
 len:=rfl
 room:=by show 5*0<3*7;lia
 ris:= .nil
 bd:=fun j h=>by simp[SetTable.fresh] at h
 road:=fun i h j h1=>by simp at h1
theorem TabOk.put(ok:TabOk hs t)(he:(pr t.mask h n).j∉t.place.toList)(hb: ∀m,m<n->(pr t.mask h m).j∈t.place.toList)(hr:5*(hs.length+1)<3*t.mask)(hj:j=(pr t.mask h n).j)(hp:p=SetTable.below t.place j):
  TabOk (hs.take p++h::hs.drop p) (t.put j).1/\(t.put j).2=p:=by
 subst hj;subst hp
 have e1:(t.put (pr t.mask h n).j).1={t with place:=SetTable.insertAt t.place (SetTable.below t.place (pr t.mask h n).j) (pr t.mask h n).j,dummies:= #[]}:=by
  unfold SetTable.put;dsimp only;rw[ok.dum,zQ];rfl
 obtain⟨h1,_,_⟩:=lY ok.ris (pr t.mask h n).j;have hl:=ok.len
 have mem: ∀x,x∈t.place.toList->x∈(SetTable.insertAt t.place (SetTable.below t.place (pr t.mask h n).j) (pr t.mask h n).j).toList:=fun x hx=>by
  rw[jD];rw[<-ko (SetTable.below t.place (pr t.mask h n).j) t.place.toList] at hx;rcases nS.mp hx with hx|hx
  ·exact nS.mpr (.inl hx)
  ·exact nS.mpr (.inr (hU _ hx))
 refine⟨?_,rfl⟩;rw[e1];generalize hP:SetTable.below t.place (pr t.mask h n).j=P at*;refine⟨ok.pow,rfl,?_,?_,?_,fun x hx=>?_,fun i h' j' g1 g2=>?_⟩
 ·show(SetTable.insertAt t.place P (pr t.mask h n).j).size=_;rw[<-iG,jD];simp only[lO,iJ,ou,tx,iG];lia
 ·show 5*_<3*t.mask;simp only[lO,iJ,ou,tx];lia
 ·have:=C7 ok.ris he;rw[hP] at this;exact this
 ·have bB:x∈(SetTable.insertAt t.place P (pr t.mask h n).j).toList:=hx;rw[jD] at bB;show x<=t.mask;rcases nS.mp bB with hx|hx
  ·exact ok.bd x (ly hx)
  ·rcases jt.mp hx with rfl|hx
   ·exact ID _ _ _
   ·exact ok.bd x (kr hx)
 ·have r9:(SetTable.insertAt t.place P (pr t.mask h n).j).toList[i]?=some j':=by rw[jS];exact g2
  rw[jD] at r9;show ∃n',(pr t.mask h' n').j=j'/\ ∀m,m<n'->(pr t.mask h' m).j∈(SetTable.insertAt t.place P (pr t.mask h n).j).toList;have eL:(t.place.toList.take P).length=P:=by rw[ou,iG];lia
  have lt2:(hs.take P).length=P:=by rw[ou];lia
  by_cases hi:i<P
  ·rw[vh (by lia),Ho hi] at g1 r9;rw[jS] at r9;obtain⟨q,q1,q2⟩:=ok.road i h' j' g1 r9;exact⟨q,q1,fun m hm=>mem _ (q2 m hm)⟩
  ·rw[tD (by lia),eL] at r9;rw[tD (by lia),lt2] at g1
   cases hd:i-P with
   |zero=>
    rw[hd] at g1 r9;simp at g1 r9;subst g1;subst r9;exact⟨n,rfl,fun m hm=>mem _ (hb m hm)⟩
   |succ d=>
    rw[hd] at g1 r9;simp only[List.getElem?_cons_succ,sM] at g1 r9;rw[jS] at r9;obtain⟨q,q1,q2⟩:=ok.road _ h' j' g1 r9;exact⟨q,q1,fun m hm=>mem _ (q2 m hm)⟩
def occ(ow:qT)(j:Nat):Prop:= ∃i,ow.getD j none=some i
theorem zR{ow:qT}{j:Nat}{d:Option Nat}(h:j<ow.size):ow.getD j d=ow.getD j none:=by simp[Array.getD,h]
theorem yj{mask:Nat}{ow:qT}(hz:ow.size=mask+1)(h:Int): ∀(fuel k:Nat),(∃r,k<=r/\r<k+fuel/\ ¬occ ow (ls mask h r).1)->(∀m,m<tm mask h k->occ ow (pr mask h m).j)->
  ∃n,SetTable.layClean.free mask ow fuel (ls mask h k).1 (ls mask h k).2=some (pr mask h n).j/\ ¬occ ow (pr mask h n).j/\ ∀m,m<n->occ ow (pr mask h m).j
 |0,k,⟨r,h1,h2,_⟩,_=>by lia
 |fuel+1,k,⟨r,h1,h2,h3⟩,hb=>by
  unfold SetTable.layClean.free;have hl:=EO mask h k;have hrn:=C6 mask _ hl
  cases hf:(List.range (SetTable.runEnd mask (ls mask h k).1+1-(ls mask h k).1)).find? fun t=>(ow.getD ((ls mask h k).1+t) (some 0)).isNone with
  |some t=>
   rw[List.find?_range_eq_some] at hf;obtain⟨a1,a2,a3⟩:=hf;rw[uv] at a2;have ht:t<=SetTable.runEnd mask (ls mask h k).1-(ls mask h k).1:=by lia
   have e:=qG mask h k t ht;refine⟨tm mask h k+t,by rw[e];rfl,?_,fun m hm=>?_⟩
   ·rw[e];rintro⟨i,hi⟩;rw[zR (by show(ls mask h k).1+t<_;lia)] at a1;have cO:ow.getD ((ls mask h k).1+t) none=some i:=hi;rw[cO] at a1;simp at a1
   ·by_cases i6:m<tm mask h k
    ·exact hb m i6
    ·have e2:=qG mask h k (m-tm mask h k) (by lia);rw[show tm mask h k+(m-tm mask h k)=m by lia] at e2;rw[e2];have:=a3 (m-tm mask h k) (by lia);rw[zR (by show(ls mask h k).1+(m-tm mask h k)<_;lia)] at this;show occ ow ((ls mask h k).1+(m-tm mask h k));unfold occ
     cases hq:ow.getD ((ls mask h k).1+(m-tm mask h k)) none with
     |none=>rw[hq] at this;simp at this
     |some i=>exact⟨i,rfl⟩
  |none=>
   rw[List.find?_range_eq_none] at hf
   have all: ∀t,t<=SetTable.runEnd mask (ls mask h k).1-(ls mask h k).1->occ ow ((ls mask h k).1+t):=fun t ht=>by
    have:=hf t (by lia);rw[zR (by lia)] at this;unfold occ
    cases hq:ow.getD ((ls mask h k).1+t) none with
    |none=>rw[hq] at this;simp at this
    |some i=>exact⟨i,rfl⟩
   have hr:r≠k:=fun e=>h3 (by subst e;have:=all 0 (ku _);simpa using this)
   have:=yj hz h fuel (k+1) ⟨r,by lia,by lia,h3⟩ (fun m hm=>by
    by_cases i6:m<tm mask h k
    ·exact hb m i6
    ·unfold tm at hm;have e2:=qG mask h k (m-tm mask h k) (by lia);rw[show tm mask h k+(m-tm mask h k)=m by lia] at e2;rw[e2];exact all _ (by lia))
   exact this
theorem wB{α β:Type}{f g:α->Option β}: ∀{l:List α},(∀x∈l,f x=g x)->l.filterMap f=l.filterMap g
 |[],_=>rfl
 |x::l,h=>by rw[rB,rB,h x ic,wB fun y hy=>h y (hU _ hy)]
def lV(mask:Nat)(ow:qT):List (Nat×Nat):=(List.range (mask+1)).filterMap fun j=>(ow.getD j none).map (j,·)
theorem Kk:(j,i)∈lV mask ow↔j<=mask/\ow.getD j none=some i:=by
 unfold lV;simp only[List.mem_filterMap,uv,Option.map_eq_some_iff,Prod.mk.injEq];constructor
 ·rintro⟨a,h1,b,h2,rfl,rfl⟩;exact⟨by lia,h2⟩
 ·rintro⟨h1,h2⟩;exact⟨j,by lia,i,h2,rfl,rfl⟩
theorem Js(mask:Nat)(ow:qT):((lV mask ow).map (·.1)).Pairwise (· < ·):=by
 unfold lV;rw[List.map_filterMap,List.pairwise_filterMap];refine Kl.imp fun {a b} hab x hx y hy=>?_;simp only[Option.mem_def,Option.map_map,Option.map_eq_some_iff,Function.comp] at hx hy;obtain⟨_,_,rfl⟩:=hx;obtain⟨_,_,rfl⟩:=hy;exact hab
theorem Jr{mask:Nat}{ow:qT}(hz:ow.size=mask+1){j k:Nat}(hj:j<=mask)(hn:ow.getD j none=none):(lV mask (ow.setIfInBounds j (some k))).Perm ((j,k)::lV mask ow):=by
 have g: ∀i,(ow.setIfInBounds j (some k)).getD i none=if i=j then some k else ow.getD i none:=fun i=>by
  simp only[oD,yL];by_cases e:i=j
  ·subst e;simp[show i<ow.size by lia]
  ·rw[gk (fun z=>e z.symm),gk e]
 have split:List.range (mask+1)=List.range j++j::(List.range (mask-j)).map (fun x=>j+1+x):=by
  rw[show mask+1=j+(mask-j+1) by lia,List.range_add,List.range_succ_eq_map];simp[Function.comp_def,Nat.add_assoc,Nat.add_comm 1]
 unfold lV;rw[split,G1,G1,rB,rB];simp only[g,hn,gh rfl,Option.map_none,Option.map_some]
 have a1:(List.range j).filterMap (fun i=>(if i=j then some k else ow.getD i none).map (i,·))=(List.range j).filterMap (fun i=>(ow.getD i none).map (i,·)):=
  wB fun i hi=>by rw[uv] at hi;rw[gk (by lia)]
 have a2:((List.range (mask-j)).map (fun x=>j+1+x)).filterMap (fun i=>(if i=j then some k else ow.getD i none).map (i,·))=((List.range (mask-j)).map (fun x=>j+1+x)).filterMap (fun i=>(ow.getD i none).map (i,·)):=
  wB fun i hi=>by
   obtain⟨x,_,rfl⟩:=oA.mp hi;rw[gk (by lia)]
 rw[a1,a2];exact Ar
structure LayOk(mask:Nat)(hs:gO)(ow:qT):Prop where
 size:ow.size=mask+1
 perm:((lV mask ow).map (·.2)).Perm (List.range hs.length)
 road: ∀j i h,ow.getD j none=some i->hs[i]?=some h-> ∃n,(pr mask h n).j=j/\ ∀m,m<n->occ ow (pr mask h m).j
theorem EH(h:occ ow x):occ (ow.setIfInBounds j (some k)) x:=by
 obtain⟨i,hi⟩:=h;unfold occ;simp only[oD,yL] at hi ⊢;by_cases e:j=x
 ·subst e;rw[gh rfl];split
  ·exact⟨k,rfl⟩
  ·rename_i hz;rw[yK (by lia)] at hi;simp at hi
 ·rw[gk e];exact⟨i,hi⟩
theorem LayOk.step{mask k:Nat}(hk:mask+1=2^k){hs:gO}{ow:qT}(ok:LayOk mask hs ow)(h:Int)(hr:hs.length<=mask):
  ∃j,SetTable.layClean.free mask ow (SetTable.turns mask) (SetTable.bits h%(mask+1)) (SetTable.bits h)=some j/\LayOk mask (hs++[h]) (ow.setIfInBounds j (some hs.length)):=by
 have hlen:(lV mask ow).length=hs.length:=by have:=ok.perm.length_eq;simpa using this
 obtain⟨e,he,hn⟩:=wm mask ((lV mask ow).map (·.1)) (by rw[iq];lia)
 have af: ¬occ ow e:=by
  rintro⟨i,hi⟩;exact hn (oA.mpr ⟨(e,i),Kk.mpr ⟨he,hi⟩,rfl⟩)
 obtain⟨r,hr1,hr2⟩:=Bk hk h he;obtain⟨n,f1,f2,f3⟩:=yj ok.size h (SetTable.turns mask) 0 ⟨r,ku _,by unfold SetTable.turns;lia,by rw[hr2];exact af⟩ (fun m hm=>by simp[tm] at hm);have hj:=ID mask h n
 have ax:ow.getD (pr mask h n).j none=none:=by
  cases hq:ow.getD (pr mask h n).j none with
  |none=>rfl
  |some i=>exact absurd ⟨i,hq⟩ f2
 refine⟨_,f1,⟨by rw[Array.size_setIfInBounds];exact ok.size,?_,fun j i h' g1 g2=>?_⟩⟩
 ·refine((Jr ok.size hj ax).map _).trans ?_;rw[iw,lO,vg,List.range_succ];exact(List.Perm.cons _ ok.perm).trans (G0 _ _).symm
 ·by_cases hjj:j=(pr mask h n).j
  ·subst hjj
   have:i=hs.length:=by
    simp only[oD,yL,gh rfl] at g1;rw[gh True.intro,gh (by rw[ok.size];lia)] at g1;exact(hV g1).symm
   subst this;rw[tD (gQ _)] at g2;simp at g2;subst g2;exact⟨n,rfl,fun m hm=>EH (f3 m hm)⟩
  ·have cV:ow.getD j none=some i:=by
    simp only[oD,yL] at g1 ⊢;rw[gk (fun z=>hjj z.symm)] at g1;exact g1
   have hi:i<hs.length:=by
    have hjm:j<=mask:=by
     by_cases q:j<ow.size
     ·have:=ok.size;lia
     ·rw[oD,yK (by lia)] at cV;simp at cV
    have:=ok.perm.mem_iff.mp (oA.mpr ⟨(j,i),Kk.mpr ⟨hjm,cV⟩,rfl⟩);exact uv.mp this
   rw[vh hi] at g2;obtain⟨q,q1,q2⟩:=ok.road j i h' cV g2;exact⟨q,q1,fun m hm=>EH (q2 m hm)⟩
theorem LayOk.start(mask:Nat):LayOk mask [] (Array.replicate (mask+1) none) where
 size:=by simp
 perm:=by
  have:lV mask (Array.replicate (mask+1) none)=[]:=by
   unfold lV;refine List.filterMap_eq_nil_iff.mpr fun j hj=>?_;rw[oD,GZ];split<;>rfl
  rw[this];exact oC _
 road:=fun j i h h1=>by
  rw[oD,GZ] at h1;split at h1<;>cases h1
def rV(mask:Nat)(acc:Option (Array (Option Nat)×Nat))(h:Int):Option (Array (Option Nat)×Nat):=do
 let(owner,k) <-acc
 let j <-SetTable.layClean.free mask owner (SetTable.turns mask) (SetTable.bits h%(mask+1)) (SetTable.bits h)
 pure (owner.setIfInBounds j (some k),k+1)
theorem Bm{mask k:Nat}(hk:mask+1=2^k): ∀(l hs:gO) (ow:qT),LayOk mask hs ow->hs.length+l.length<=mask+1->
  ∃dP,l.foldl (rV mask) (some (ow,hs.length))=some (dP,hs.length+l.length)/\LayOk mask (hs++l) dP
 |[],hs,ow,ok,_=>⟨ow,rfl,by rw[qB];exact ok⟩
 |h::l,hs,ow,ok,hl=>by
  rw[iJ] at hl;obtain⟨j,e,ok'⟩:=ok.step hk h (by lia);obtain⟨dP,e',ok''⟩:=Bm hk l (hs++[h]) _ ok' (by rw[lO,vg];lia);refine⟨dP,?_,by rw[jc] at ok'';exact ok''⟩;rw[List.foldl_cons]
  have:rV mask (some (ow,hs.length)) h=some (ow.setIfInBounds j (some hs.length),hs.length+1):=by
   unfold rV;show(SetTable.layClean.free mask ow (SetTable.turns mask) (SetTable.bits h%(mask+1)) (SetTable.bits h)>>=_)=_;rw[e];rfl
  rw[this];rw[lO,vg] at e';rw[e',iJ]
  congr 2;lia
theorem Bn(hk:mask+1=2^k)(hs:gO)(hl:hs.length<=mask): ∃ow,SetTable.layClean mask hs.toArray=some ow/\LayOk mask hs ow:=by
 obtain⟨ow,e,ok⟩:=Bm hk hs [] _ (LayOk.start mask) (by simp;lia);refine⟨ow,?_,by simpa using ok⟩;unfold SetTable.layClean;rw[<-Array.foldl_toList];show Option.map _ (List.foldl (rV mask) _ hs)=_;have e':List.foldl (rV mask) (some (Array.replicate (mask+1) none,0)) hs=some (ow,hs.length):=by simpa using e
 rw[e'];rfl
theorem LO(hk:mask+1=2^k)(h3:3<=k)(h11:k<=11)(finger moves:Nat)(led plain:Bool)(hs:gO)(hl:5*hs.length<3*mask):
  ∃t order,SetTable.laid mask finger moves led plain hs.toArray=some (t,order)/\order.toList.Perm (List.range hs.length)/\TabOk (order.toList.map fun i=>hs.getD i 0) t/\t.plain=plain/\t.led=led:=by
 obtain⟨ow,e,ok⟩:=Bn hk hs (by lia);refine⟨{mask,place:=((lV mask ow).map (·.1)).toArray,dummies:= #[],finger,led,moves,plain},((lV mask ow).map (·.2)).toArray,?_,by simpa using ok.perm,?_,rfl,rfl⟩
 ·unfold SetTable.laid;rw[e];rfl
 ·have hlen:(lV mask ow).length=hs.length:=by have:=ok.perm.length_eq;simpa using this
  refine⟨⟨k,h3,h11,hk⟩,rfl,by simp,by simp[hlen];lia,by simpa using Js mask ow,fun j hj=>?_,fun i h j g1 g2=>?_⟩
  ·have fk:j∈(lV mask ow).map (·.1):=by simpa using hj
   obtain⟨⟨a,b⟩,hm,rfl⟩:=oA.mp fk;exact(Kk.mp hm).1
  ·have cV:((lV mask ow).map (·.2)).map (fun i=>hs.getD i 0)=(((lV mask ow).map (·.2)).toArray).toList.map fun i=>hs.getD i 0:=by simp
   rw[<-cV,iN,iN] at g1;have r9:((lV mask ow).map (·.1))[i]?=some j:=by simpa using g2
   rw[iN] at r9
   cases hq:(lV mask ow)[i]? with
   |none=>rw[hq] at r9;cases r9
   |some p=>
    obtain⟨a,b⟩:=p;rw[hq] at g1 r9;simp at g1 r9;subst r9;have hm:=Kk.mp (kK hq)
    have hb:b<hs.length:=by
     have:=ok.perm.mem_iff.mp (oA.mpr ⟨(a,b),kK hq,rfl⟩);exact uv.mp this
    have hh:hs[b]?=some h:=by rw[il hb] at g1 ⊢;simpa using g1
    obtain⟨n,q1,q2⟩:=ok.road a b h hm.2 hh;refine⟨n,q1,fun m hm'=>?_⟩;obtain⟨i',cO⟩:=q2 m hm';show(pr mask h m).j∈(((lV mask ow).map (·.1)).toArray).toList;have:(pr mask h m).j∈(lV mask ow).map (·.1):=oA.mpr ⟨(_,i'),Kk.mpr ⟨ID mask h m,cO⟩,rfl⟩;simpa using this
theorem zq: ∀n,n<2048-> ∃k,3<=k/\k<=11/\SetTable.sizeAbove n=2^k/\n<2^k:=by
 intro n hn
 have step: ∀(f k:Nat),3<=k->k<=11->11<k+f-> ∃k',3<=k'/\k'<=11/\SetTable.sizeAbove.go n f (2^k)=2^k'/\n<2^k':=by
  intro f
  induction f with
  |zero=>intro k h1 h2 h3;lia
  |succ f ih=>
   intro k h1 h2 h3;unfold SetTable.sizeAbove.go;by_cases hle:2^k<=n
   ·rw[gh hle,<-nc];have:k≠11:=fun e=>by subst e;lia
    exact ih (k+1) (by lia) (by lia) (by lia)
   ·rw[gk hle];exact⟨k,h1,h2,rfl,by lia⟩
 exact step 64 3 (by lia) (by lia) (by lia)
open PyProof.Rows PySem.SeqAt
theorem FW{hs:gO}{t:jX}(ok:TabOk hs t){hashAt:Nat->Int}{h:Int}{p:SetTable.Probe}{n:Nat}(hp:p=pr t.mask h n)(hn: ∀m,m<n->(pr t.mask h m).j∈t.place.toList):
    ∃m,n<=m/\m<10*(t.mask+14)/\(∀q,n<=q->q<m-> ∃i,t.place[i]?=some (pr t.mask h q).j/\hashAt i≠h)/\
      (((pr t.mask h m).j∉t.place.toList/\t.probe hashAt h p=some (.empty (pr t.mask h m).j none))\/
       (∃i,t.place[i]?=some (pr t.mask h m).j/\hashAt i=h/\t.probe hashAt h p=some (.candidate (pr t.mask h m).j i (pr t.mask h (m+1))))):=by
  subst hp;obtain⟨M,h1,h2⟩:=ok.free h
  have hM:n<=M:=by
    by_cases hq:M<n
    · exact absurd (hn M hq) h2
    · lia
  obtain⟨m,g1,g2,g3⟩:=A7 ok hashAt h (10*SetTable.turns t.mask) n ⟨M,hM,by unfold SetTable.turns;lia,h2⟩
  have hm:m<=M:=by
    by_cases hq:M<m
    · obtain⟨i,hi,_⟩:=g2 M hM hq
      rw[<-jS] at hi;exact absurd (kK hi) h2
    · lia
  exact⟨m,g1,by lia,g2,g3⟩
section
variable {prog:gw}{w:gm}{A:gv}{E:gD}{s:gb}
structure Srch(A:gv)(s:gb)(a:fV)(es:lq)(n:Nat)(t:jX)(x:gi)(h:Int)(eqs:Nat->Bool):Prop where
 at_: ∃o,s.heap.get? a=some o/\o.data= .set es n t
 tab:TabOk (es.toList.map (·.1)) t
 refs: ∀(i:Nat) (e:Int×Value),es[i]?=some e-> ∃b,e.2= .ref b
 eq: ∀(i:Nat) (e:Int×Value),es[i]?=some e->EqAt A s e.2 x (eqs i)
 hash: ∀(i:Nat) (e:Int×Value),es[i]?=some e->eqs i=true->e.1=h
 quiet: ∀(l:hJ) (prog:gw) (w:gm) (E:gD) (Q:qU),(∀v∈l,∃e∈es.toList,e.2=v)->Q false s->wpAny (model prog w) A (searchCouldBeSeen x l) Q E s
theorem Jf(ok:TabOk hs t):t.gaveWay=false:=by
 obtain⟨k,h1,_,h3⟩:=ok.pow;obtain⟨k',rfl⟩: ∃k',k=k'+1:=⟨k-1,by lia⟩
 rw[nc] at h3;unfold SetTable.gaveWay;rw[wX];lia
theorem E6(ok:TabOk hs t)(h:hs.length=n):t.fits n=true:=by
 have:=ok.len;have:=ok.room;unfold SetTable.fits SetTable.fill;rw[ok.dum];simp only[ki,beq_iff_eq,pY];exact⟨by lia,by show _+0<=_;lia⟩
theorem Srch.fits{a es n t x h eqs}(S:Srch A s a es n t x h eqs):t.fits es.size=true:=E6 S.tab (by simp)
theorem mh{a:fV}{es:lq}{nn:Nat}{t:jX}{x:gi}{h:Int}{eqs:Nat->Bool}{adding:Bool}(S:Srch A s a es nn t x h eqs){Q:SetFound->Shared->Prop}
  (l4: ∀i r,eqs i=true->i<es.size->(r=none\/r=some i)->(adding=false->r=some i)->Q (.there r) s)
  (k8:(∀i,i<es.size->eqs i=false)-> ∀n,(pr t.mask h n).j∉t.place.toList->(∀m,m<n->(pr t.mask h m).j∈t.place.toList)->Q (.free (pr t.mask h n).j false) s):
  ∀(fuel n:Nat) (t8:Option SetTable.Probe),t8.getD (t.probeStart h)=pr t.mask h n->(∀q,q<n-> ∃i,t.place[i]?=some (pr t.mask h q).j/\eqs i=false)->10*(t.mask+14)<n+fuel->n<=10*(t.mask+14)->
   wpAny (model prog w) A (setSearchFrom a x h adding fuel t8) Q E s
 |0,n,t8,_,_,hf,hn=>by lia
 |fuel+1,n,t8,q0,hb,hf,hn=>by
  obtain⟨o,ho,hd⟩:=S.at_
  have occ: ∀m,m<n->(pr t.mask h m).j∈t.place.toList:=fun m hm=>by
   obtain⟨i,hi,_⟩:=hb m hm;rw[<-jS] at hi;exact kK hi
  unfold setSearchFrom;refine fW (oj ho hd S.fits ?_);dsimp only;rw[Jf S.tab];simp only[hC,↓reduceIte];generalize hP:t.probe _ h _=P;obtain⟨m,m1,m2,m3,m4⟩:=FW S.tab q0 occ (hashAt:=fun i=>(es[i]?.map (·.1)).getD 0);have hP':t.probe (fun i=>(es[i]?.map (·.1)).getD 0) h (t8.getD (t.probeStart h))=P:=hP;rw[hP'] at m4
  have dZ: ∀(i:Nat) (j:Nat),t.place[i]?=some j-> ∃e,es[i]?=some e/\(es[i]?.map (·.1)).getD 0=e.1:=fun i j hi=>by
   have h1:=(Kn.mp hi).1;have h2:=S.tab.len;rw[iq,iG] at h2;exact⟨es[i],lx (by lia),by rw[lx (by lia)];rfl⟩
  have ne: ∀(i:Nat) (j:Nat),t.place[i]?=some j->(es[i]?.map (·.1)).getD 0≠h->eqs i=false:=fun i j hi l6=>by
   obtain⟨e,he,hh⟩:=dZ i j hi
   cases hq:eqs i with
   |false=>rfl
   |true=>exact absurd (hh.trans (S.hash i e he hq)) l6
  have seen: ∀q,q<m-> ∃i,t.place[i]?=some (pr t.mask h q).j/\eqs i=false:=fun q hq=>by
   by_cases i6:q<n
   ·exact hb q i6
   ·obtain⟨i,hi,l6⟩:=m3 q (by lia) hq;exact⟨i,hi,ne i _ hi l6⟩
  rcases m4 with⟨a1,a2⟩|⟨i,a1,a2,a3⟩
  ·subst a2;dsimp only;refine gg (k8 (fun i hi=>?_) m a1 fun q hq=>?_)
   ·cases hq:eqs i with
    |false=>rfl
    |true=>
     exfalso;have he:es[i]?=some es[i]:=lx hi;have h1:=S.hash i _ he hq;have h2:=S.tab.len;rw[iq,iG] at h2;have i4:t.place[i]?=some t.place[i]:=lx (by lia);obtain⟨n',r1,r2⟩:=S.tab.road i h t.place[i] (by rw[iN,jS,he];exact nQ some h1) i4
     have:n'<m:=by
      by_cases i6:n'<m
      ·exact i6
      ·exfalso;rcases Nat.lt_or_eq_of_le (Nat.not_lt.mp i6) with i6|heq
       ·exact a1 (r2 m i6)
       ·subst heq;rw[<-jS] at i4;rw[r1] at a1;exact a1 (kK i4)
     obtain⟨i',g1,g2⟩:=seen n' this;rw[r1] at g1;have:i'=i:=by rw[<-wO S.tab.ris g1,wO S.tab.ris i4]
     rw[this,hq] at g2;cases g2
   ·obtain⟨i,hi,_⟩:=seen q hq;rw[<-jS] at hi;exact kK hi
  ·subst a3;dsimp only;obtain⟨e,he,hh⟩:=dZ i _ a1;obtain⟨h',y⟩:=e;obtain⟨b,hy⟩:=S.refs i _ he;dsimp only at hy;subst hy;have sm:t.sameMemory t.moves t.mask=some true:=by simp[SetTable.sameMemory]
   have dU:i<es.size:=(Kn.mp he).1;cases hl:t.led
   ·simp only[Bool.not_false,↓reduceIte];refine fW (S.quiet _ _ _ _ _ (fun v hv=>?_) ?_)
    ·obtain⟨e,aQ,rfl⟩:=oA.mp hv;exact⟨e,(OE.mp (by simpa using(Array.mem_filter.mp (OE.mp aQ)).1) |> fun z=>by simpa using z),rfl⟩
    simp only[hC,↓reduceIte];rw[he];dsimp only;refine fW (kL (S.eq i _ he _ _ _ _ ?_));refine fW (oj ho hd S.fits ?_);dsimp only
    cases hq:eqs i with
    |true=>
     cases adding with
     |true=>simp only[Bool.and_self,↓reduceIte];exact gg (l4 i none hq dU (.inl rfl) (fun z=>by cases z))
     |false=>
      simp only[Bool.false_and,hC,↓reduceIte,sm,mS S.tab.ris a1,he];refine fW (yJ ?_);simp only[↓reduceIte];exact fW (gg (gg (l4 i _ hq dU (.inr rfl) fun _=>rfl)))
    |false=>
     simp only[Bool.and_false,hC,↓reduceIte,sm,mS S.tab.ris a1,he];refine fW (yJ ?_);simp only[↓reduceIte];refine fW (gg ?_)
     exact mh S l4 k8 fuel (m+1) _ rfl (fun q hq'=>by
      by_cases e:q=m
      ·subst e;exact⟨i,a1,hq⟩
      ·exact seen q (by lia)) (by lia) (by lia)
   ·simp only[kJ,hC,↓reduceIte];rw[he];dsimp only;refine fW (kL (S.eq i _ he _ _ _ _ ?_));refine fW (oj ho hd S.fits ?_);dsimp only
    cases hq:eqs i with
    |true=>
     cases adding with
     |true=>simp only[Bool.and_self,↓reduceIte];exact gg (l4 i none hq dU (.inl rfl) (fun z=>by cases z))
     |false=>
      simp only[Bool.false_and,hC,↓reduceIte,sm,mS S.tab.ris a1,he];refine fW (yJ ?_);simp only[↓reduceIte];exact fW (gg (gg (l4 i _ hq dU (.inr rfl) fun _=>rfl)))
    |false=>
     simp only[Bool.and_false,hC,↓reduceIte,sm,mS S.tab.ris a1,he];refine fW (yJ ?_);simp only[↓reduceIte];refine fW (gg ?_)
     exact mh S l4 k8 fuel (m+1) _ rfl (fun q hq'=>by
      by_cases e:q=m
      ·subst e;exact⟨i,a1,hq⟩
      ·exact seen q (by lia)) (by lia) (by lia)
end
abbrev ky(es:lq)(n:Nat)(t:jX):Obj:={cls:= .type "set",data:= .set es n t}
section
variable {prog:gw}{w:gm}{A:gv}{E:gD}{s:gb}
theorem AJ{h:gz}{a:fV}{es es':lq}{n:Nat}{t t':jX}(ho:h.get? a=some (ky es n t)):(h.update a (Obj.putSet es' t')).get? a=some (ky es' (n+1) t'):=by
 have:=qd (Obj.putSet es' t') ho (by rw[putSet_of es' t' rfl];rfl);rw[putSet_of es' t' rfl] at this;exact this
theorem Ik{α:Type}(es:Array α):(List.range es.size).filterMap (fun i=>es[i]?)=es.toList:=by
 have: ∀(l:List α),(List.range l.length).filterMap (fun i=>l[i]?)=l:=by
  intro l
  induction l with
  |nil=>rfl
  |cons x l ih=>
   rw[iJ,List.range_succ_eq_map,rB];simp only[List.getElem?_cons_zero,List.filterMap_map,Function.comp_def,List.getElem?_cons_succ,ih]
 have h:=this es.toList;simpa using h
theorem E5{es:lq}: ∀(l:gX),(∀i∈l,i<es.size)->(l.filterMap (fun i=>es[i]?)).map (·.1)=l.map fun i=>(es.toList.map (·.1)).getD i 0
 |[],_=>rfl
 |i::l,h=>by
  have hi:=h i ic;rw[rB,lx hi];simp only[iw];rw[E5 l fun j hj=>h j (hU _ hj)]
  congr 1
  simp[hi]
theorem Ie{a:fV}{es:lq}{n:Nat}{t:jX}(ho:s.heap.get? a=some (ky es n t))(hf:t.fits es.size=true)(h5:5<=es.size)(hz:es.size<=500){Q:Unit->Shared->Prop}
  (h: ∀h' es' n' t',Heap.SameBut a s.heap h'->h'.get? a=some (ky es' n' t')->es'.toList.Perm es.toList->TabOk (es'.toList.map (·.1)) t'->t'.plain=t.plain->t'.led=t.led->Q () {s with heap:=h'}):
  wpAny (model prog w) A (setRelay a (SetTable.grown es.size)) Q E s:=by
 have hg:SetTable.grown es.size=es.size*4:=by unfold SetTable.grown;rw[gk (by lia)]
 obtain⟨k,k3,cM,ek,lk⟩:=zq (es.size*4) (by lia);have hm:SetTable.sizeAbove (es.size*4)-1+1=2^k:=by have:=Nat.two_pow_pos k;lia
 obtain⟨t',order,e1,e2,e3,e4,e5⟩:=LO hm k3 cM t.finger (t.movedTo (SetTable.sizeAbove (es.size*4)-1)) t.led t.plain (es.toList.map (·.1)) (by rw[iq,iG];lia);rw[iq,iG] at e2
 have er:t.relaid (es.map (·.1)) (es.size*4)=some (t',order):=by
  unfold SetTable.relaid;rw[<-e1,<-Array.toList_map]
 have hmem: ∀i∈order.toList,i<es.size:=fun i hi=>uv.mp (e2.mem_iff.mp hi);have pl:(order.filterMap (es[·]?)).toList=order.toList.filterMap (fun i=>es[i]?):=by simp
 have perm:(order.filterMap (es[·]?)).toList.Perm es.toList:=by
  rw[pl];refine(e2.filterMap _).trans ?_;rw[Ik]
 have sz:(order.filterMap (es[·]?)).size=es.size:=by rw[<-iG,perm.length_eq,iG]
 rw[hg];unfold setRelay;refine fW (oj ho rfl hf ?_);dsimp only
 have hs:2^k<=sizeLine:=by
  have:2^k<=2^11:=uU (by decide) cM;rw[jd];lia
 rw[gk (by rw[ek];lia),er];refine fW ?_;change wpAny _ _ (if((order.filterMap (es[·]?)).size !=es.size)=true then _ else _) _ _ _;rw[gk (by rw[sz];simp)];refine gg ?_;dsimp only;refine wpAny_storeSet_of ho rfl ?_ (by rw[sz,jd];lia);refine h _ (order.filterMap (es[·]?)) (n+1) t' (qY s.heap a _) (AJ ho) perm ?_ e4 e5;rw[pl,E5 _ hmem];exact e3
theorem my{α:Type}(xs:Array α)(p:Nat)(x:α):(SetTable.insertAt xs p x).toList.Perm (x::xs.toList):=by
 rw[jD];refine Ar.trans ?_;rw[ko]
theorem QD{a b:fV}{es:lq}{n:Nat}{t:jX}{h:Int}{eqs:Nat->Bool}(S:Srch A s a es n t (.ref b) h eqs)(ho:s.heap.get? a=some (ky es n t))(i4:t.plain=true)(hz:es.size+1<=500)
  (hbv: ∀(Q':qU),Q' true s->wpAny (model prog w) A (hashByValue 8 (.ref b)) Q' E s){Q:qU}
  (hold:(∃i,i<es.size/\eqs i=true)->Q false s)
  (hnew:(∀i,i<es.size->eqs i=false)-> ∀h' es' n' t',Heap.SameBut a s.heap h'->h'.get? a=some (ky es' n' t')->es'.toList.Perm ((h,.ref b)::es.toList)->TabOk (es'.toList.map (·.1)) t'->t'.plain=true->t'.led=t.led->Q true {s with heap:=h'}):
  wpAny (model prog w) A (setAddHashed a (.ref b) h) Q E s:=by
 unfold setAddHashed setAddHashedIn;refine kL (fW (oj ho rfl S.fits ?_));dsimp only;have fE:byScan (.ref b) es=false:=rfl;rw[fE];simp only[hC,↓reduceIte]
 have hm:t.mask+1<=2048:=by
  obtain⟨k,_,cM,ek⟩:=S.tab.pow;have:2^k<=2^11:=uU (by decide) cM
  lia
 refine fW (mh S (adding:=true) (fun i r h1 h2 _ _=>?_) (fun af m h1 h2=>?_) 100000 0 none rfl (fun q hq=>by lia) (by lia) (by lia))
 ·dsimp only;exact gg (hold ⟨i,h2,h1⟩)
 ·dsimp only;refine fW (oj ho rfl S.fits ?_);dsimp only
  have e1:(t.put (pr t.mask h m).j).1={t with place:=SetTable.insertAt t.place (SetTable.below t.place (pr t.mask h m).j) (pr t.mask h m).j,dummies:= #[]}:=by
   unfold SetTable.put;dsimp only;rw[S.tab.dum,zQ];rfl
  have e2:(t.put (pr t.mask h m).j).2=SetTable.below t.place (pr t.mask h m).j:=rfl;have bV:(t.put (pr t.mask h m).j).1.plain=true:=by rw[e1];exact i4
  rw[gh bV];refine fW (hbv _ ?_);simp only[↓reduceIte]
  have cZ:(SetTable.insertAt es (t.put (pr t.mask h m).j).2 (h,Value.ref b)).size=es.size+1:=by
   rw[<-iG,(my es _ _).length_eq,iJ,iG]
  refine fW (wpAny_storeSet_of ho rfl ?_ (by rw[cZ,jd];lia));have r8:=AJ (es':=SetTable.insertAt es (t.put (pr t.mask h m).j).2 (h,Value.ref b)) (t':=(t.put (pr t.mask h m).j).1) ho;have sb1:=qY s.heap a (Obj.putSet (SetTable.insertAt es (t.put (pr t.mask h m).j).2 (h,Value.ref b)) (t.put (pr t.mask h m).j).1);have hlen:es.toList.length=es.size:=iG;have tlen:=S.tab.len;rw[iq,hlen] at tlen
  have hpsz:(t.put (pr t.mask h m).j).1.place.size=es.size+1:=by
   rw[e1];show(SetTable.insertAt t.place _ _).size=_;rw[<-iG,(my t.place _ _).length_eq,iJ,iG,tlen]
  have aC:(t.put (pr t.mask h m).j).1.fill=es.size+1:=by
   unfold SetTable.fill;rw[hpsz,e1];rfl
  have ay:(t.put (pr t.mask h m).j).1.mask=t.mask:=by rw[e1]
  have hled:(t.put (pr t.mask h m).j).1.led=t.led:=by rw[e1]
  by_cases htf:(t.put (pr t.mask h m).j).1.tooFull=true
  ·rw[htf];simp only[Bool.not_false,Bool.and_self,↓reduceIte];have hroom:=S.tab.room;rw[iq,hlen] at hroom
   have hbig:3*t.mask<=5*(es.size+1):=by
    unfold SetTable.tooFull at htf;rw[aC,ay] at htf;have:=of_decide_eq_true htf;lia
   have m7:7<=t.mask:=by
    obtain⟨k,k3,_,ek⟩:=S.tab.pow;have:2^3<=2^k:=uU (by decide) k3
    lia
   have hfit:(t.put (pr t.mask h m).j).1.fits (SetTable.insertAt es (t.put (pr t.mask h m).j).2 (h,Value.ref b)).size=true:=by
    unfold SetTable.fits;rw[hpsz,cZ,aC,ay];simp only[BEq.rfl,Bool.true_and,pY];lia
   rw[<-cZ];refine fW (Ie r8 hfit (by rw[cZ];lia) (by rw[cZ];lia) fun h' es' n' t' g1 g2 g3 g4 g5 g6=>?_);exact gg (hnew af h' es' n' t' (sb1.trans g1) g2 (g3.trans (my es _ _)) g4 (by rw[g5];exact bV) (by rw[g6];exact hled))
  ·have htf':(t.put (pr t.mask h m).j).1.tooFull=false:=by simpa using htf
   rw[htf'];simp only[Bool.and_false,hC,↓reduceIte]
   have hsm:5*(es.size+1)<3*t.mask:=by
    unfold SetTable.tooFull at htf;rw[aC,ay] at htf;have: ¬(es.size+1)*5>=t.mask*3:=fun z=>htf (qb z)
    lia
   obtain⟨p1,p2⟩:=S.tab.put h1 h2 (by rw[iq,hlen];exact hsm) rfl rfl;refine gg (hnew af _ _ _ _ sb1 r8 (my es _ _) ?_ bV hled);rw[jD,qV,iw,<-List.map_take,<-List.map_drop] at*;rw[e2];exact p1
theorem P7(S:Srch A s a es n t (.ref b) h eqs)(ho:s.heap.get? a=some (ky es n t)) 
  (h1: ∀i,i<es.size->eqs i=true->Q (some i) s)(h2:(∀i,i<es.size->eqs i=false)->Q none s):wpAny (model prog w) A (setFind a (.ref b) h) Q E s:=by
 unfold setFind setFindIn;refine fW (oj ho rfl S.fits ?_);dsimp only;have fE:byScan (.ref b) es=false:=rfl;rw[fE];simp only[hC,↓reduceIte]
 have hm:t.mask+1<=2048:=by
  obtain⟨k,_,cM,ek⟩:=S.tab.pow;have:2^k<=2^11:=uU (by decide) cM
  lia
 refine fW (mh S (adding:=false) (fun i r g1 g2 _ g3=>?_) (fun af m _ _=>?_) 100000 0 none rfl (fun q hq=>by lia) (by lia) (by lia))
 ·rw[g3 rfl];exact gg (h1 i g2 g1)
 ·exact gg (h2 af)
end
theorem wJ:entryFor table "set.__iter__"=some Builtin.«frozenset.__iter__»:=entryFor_alias (id':="frozenset.__iter__") (by kernel_rfl) rfl (by decide+kernel) (by kernel_rfl)
theorem ll:Slot "set_iterator" "__next__" "set_iterator.__next__":= .of (owner:="set_iterator") (n:="__next__") (by rw[typeLookup_type,GY];kernel_rfl) (by decide+kernel) (by decide+kernel) (by decide+kernel) (by first|exact .inl (by decide+kernel)|exact .inr (by decide+kernel)) (by rw[yI];kernel_rfl)
theorem rH:Slot "set_iterator" "__iter__" "set_iterator.__iter__":= .of (owner:="set_iterator") (n:="__iter__") (by rw[typeLookup_type,GY];kernel_rfl) (by decide+kernel) (by decide+kernel) (by decide+kernel) (by first|exact .inl (by decide+kernel)|exact .inr (by decide+kernel)) (by rw[yI];kernel_rfl)
theorem qo:entryFor table "set_iterator.__next__"=some Builtin.«set_iterator.__next__»:=entryFor_of_fast (by kernel_rfl)
theorem xl:entryFor table "set_iterator.__iter__"=some Builtin.«dict_keyiterator.__iter__»:=entryFor_alias (id':="dict_keyiterator.__iter__") (by kernel_rfl) rfl (by decide+kernel) (by kernel_rfl)
theorem sC(a:gi):argsOk "set_iterator.__next__" ⟨[a],[]⟩:=by unfold argsOk;kernel_rfl
theorem Ai(a:gi):argsOk "set_iterator.__iter__" ⟨[a],[]⟩:=by unfold argsOk;kernel_rfl
theorem nW{α:Type}: ∀(l:List α) {i:Nat} (h:i<l.length),(l[i]::l.eraseIdx i).Perm l
 |x::l,0,_=>by simp
 |x::l,i+1,h=>by
  have:=nW l (i:=i) (by simpa using h);simp only[List.getElem_cons_succ,List.eraseIdx_cons_succ];exact(List.Perm.swap x _ _).trans (List.Perm.cons x this)
theorem rP{α:Type}(next:Nat->Nat): ∀(fuel k:Nat) (left:List α) (out:Array α),left.length<=fuel->(pickOrder.go next fuel k left out).toList.Perm (out.toList++left)
 |0,k,left,out,h=>by
  have:left=[]:=Md.mp (by omega);subst this;unfold pickOrder.go;simp
 |fuel+1,k,left,out,h=>by
  unfold pickOrder.go
  cases left with
  |nil=>simp
  |cons y l=>
   have i6:next k%(y::l).length<(y::l).length:=sH _ (by simp);rw[il i6];dsimp only;refine(rP next fuel (k+1) _ _ (by rw[yH,gh i6];simp at h ⊢;omega)).trans ?_;rw[Array.toList_push,jc];refine pW _ ?_;exact nW _ i6
theorem vT{α:Type}(next:Nat->Nat)(xs:Array α):(pickOrder next xs).toList.Perm xs.toList:=by
 unfold pickOrder;have:=rP next xs.size 0 xs.toList #[] (by simp);simpa using this
def lj(w:gm)(a:fV)(n:Nat)(es:lq):Array (Int×Value):=if w.params.followText "set-order"=true then pickOrder (w.params.setOrder a n) es else es
theorem BV(w:gm)(a:fV)(n:Nat)(es:lq):(lj w a n es).toList.Perm es.toList:=by
 unfold lj;split
 ·exact vT _ _
 ·exact oC _
theorem lP(w:gm)(a:fV)(n:Nat)(es:lq):(lj w a n es).size=es.size:=by
 rw[<-iG,(BV w a n es).length_eq,iG]
def Er(t:jX):Nat->Nat
 |0=>0
 |i+1=>t.place.getD i 0+1
def jT(w:gm)(t:jX)(i:Nat):Nat:=if w.params.followText "set-order"=true then 0 else Er t i
structure SetIs(w:gm)(h:gz)(a:fV)(es:lq)(n:Nat)(t:jX):Prop where
 at_:h.get? a=some (ky es n t)
 tab:TabOk (es.toList.map (·.1)) t
 plain:t.plain=true
 led:t.led=!w.params.followText "set-order"
def SetIter(w:gm)(h:gz)(it a:fV)(t:jX)(size n i:Nat):Prop:= ∃o,h.get? it=some o/\o.cls= .type "set_iterator"/\o.data= .fields #[.int (jT w t i) 0,.int i 0,.ref a,.int size 0,.int n 0]
section
variable {prog:gw}{w:gm}{A:gv}{E:gD}{s:gb}
theorem SetIs.fits{h a es n t}(S:SetIs w h a es n t):t.fits es.size=true:=E6 S.tab (by simp)
theorem D1(hr:t.place.toList.Pairwise (· < ·))(hi:i<=t.place.size):SetTable.below t.place (Er t i)=i:=by
 cases i with
 |zero=>
  obtain⟨h1,h2,_⟩:=lY hr 0
  cases hb:SetTable.below t.place 0 with
  |zero=>exact hb
  |succ k=>
   have hz:0<t.place.size:=by omega
   have:=h2 0 _ (by omega) (lx hz);omega
 |succ i=>
  have hd:t.place.getD i 0=t.place[i]:=by simp[Array.getD,show i<t.place.size by omega]
  show SetTable.below t.place (t.place.getD i 0+1)=i+1;rw[hd];have hg:t.place[i]?=some t.place[i]:=lx (by omega);obtain⟨h1,h2,h3⟩:=lY hr (t.place[i]+1);by_cases i6:SetTable.below t.place (t.place[i]+1)<i+1
  ·have:=h3 i _ (by omega) hg;omega
  ·by_cases hgt:i+1<SetTable.below t.place (t.place[i]+1)
   ·have cQ:t.place[i+1]?=some t.place[i+1]:=lx (by omega);have:=h2 (i+1) _ hgt cQ;have:=zv hr (oF i) hg cQ;omega
   ·omega
theorem vI{a:fV}{es:lq}{n:Nat}{t:jX}(S:SetIs w s.heap a es n t){i:Nat}(hi:i<=es.size){Q:Option (Value×Nat)->Shared->Prop}
  (h1: ∀e,(lj w a n es)[i]?=some e->Q (some (e.2,jT w t (i+1))) s)(h2:i=es.size->Q none s):wpAny (model prog w) A (setNext a (jT w t i) i n) Q E s:=by
 have tl:=S.tab.len;rw[iq,iG] at tl;unfold setNext;refine fW (oj S.at_ rfl S.fits ?_);dsimp only;unfold setsByText;refine fW (fW (tj (gg ?_)));by_cases hb:w.params.followText "set-order"=true
 ·have o6:(model prog w).w.params.followText "set-order"=true:=hb;rw[gh o6,gk (by simp)];unfold setWalk setsByText;refine fW (fW (oj S.at_ rfl S.fits ?_));dsimp only;refine fW (fW (tj (gg ?_)));rw[gh o6];refine fW (tj (gg (gg ?_)));have e1:lj w a n es=pickOrder (w.params.setOrder a n) es:=by unfold lj;rw[gh hb]
  have e2: ∀k,jT w t k=0:=fun k=>by unfold jT;rw[gh hb]
  show Q (((pickOrder (w.params.setOrder a n) es)[i]?).map fun e=>(e.2,jT w t i)) s;rw[<-e1];rw[e2] at h1;rw[e2]
  cases hg:(lj w a n es)[i]? with
  |some e=>exact h1 e hg
  |none=>
   have:=Array.getElem?_eq_none_iff.mp hg;rw[lP] at this;exact h2 (by omega)
 ·have o6: ¬(model prog w).w.params.followText "set-order"=true:=hb;rw[gk o6];change wpAny _ _ (if(!t.plain&&decide (es.size>1))=true then _ else _) _ _ _;rw[gk (by rw[S.plain];simp)];have hl:t.led=true:=by rw[S.led];simpa using hb
  refine fW ?_;change wpAny _ _ (if(!t.led&&!es.isEmpty)=true then _ else _) _ _ _;rw[gk (by rw[hl];simp)];refine gg ?_;have e1:lj w a n es=es:=by unfold lj;rw[gk hb]
  have e2: ∀k,jT w t k=Er t k:=fun k=>by unfold jT;rw[gk hb]
  have e3:SetTable.below t.place (jT w t i)=i:=by rw[e2];exact D1 S.tab.ris (by omega)
  rw[e3];rw[e1] at h1;by_cases i6:i<es.size
  ·have g1:es[i]?=some es[i]:=lx i6;have g2:t.place[i]?=some t.place[i]:=lx (by omega);rw[g1,g2];have:=h1 es[i] g1;rw[e2] at this;rw[show Er t (i+1)=t.place.getD i 0+1 from rfl] at this;have hd:t.place.getD i 0=t.place[i]:=by simp[Array.getD,show i<t.place.size by omega]
   rw[hd] at this;exact gg this
  ·rw[yK (by omega)];exact gg (h2 (by omega))
theorem SetIs.typeIs{a es n t}(S:SetIs w s.heap a es n t):s.TypeIs (.ref a) "set":=⟨_,S.at_,rfl⟩
theorem SetIter.typeIs{it a t z n i}(S:SetIter w s.heap it a t z n i):s.TypeIs (.ref it) "set_iterator":=let⟨o,ho,hc,_⟩:=S;⟨o,ho,hc⟩
theorem JB(S:SetIs w s.heap a es n t) 
  (hQ: ∀h',SetIter w h' s.heap.objs.size a t es.size n 0->(∀b o,s.heap.get? b=some o->h'.get? b=some o)->h'.objs.size=s.heap.objs.size+1->Q (.ref s.heap.objs.size) {s with heap:=h'}):
  wpAny (model prog w) A (pyIter (.ref a)) Q E s:=by
 refine B6 S.typeIs GX (kX GX S.typeIs wJ ?_ (PySem.F.args_set_iter_1 _));unfold Builtin.«frozenset.__iter__» Builtin.Frozenset.slot0 slotArgs;simp only[sG,kJ,hC,↓reduceIte,qa,rm,rq];unfold Builtin.Frozenset.addrOf Builtin.Frozenset.sizeOf;refine fW (gg ?_);dsimp only;refine fW (gg ?_);refine fW (fW (BZ S.at_ rfl S.fits (gg ?_)));unfold setDrawn setsByText;refine fW (fW (oj S.at_ rfl S.fits ?_));dsimp only;refine fW (fW (tj (gg ?_)));refine gg ?_;change wpAny _ _ (if(!w.params.followText "set-order"&&(!t.plain&&decide (es.size>1)))=true then _ else _) _ _ _;rw[gk (by rw[S.plain];simp)];refine fW (gg ?_);unfold setEpoch;refine fW (fW (oj S.at_ rfl S.fits (gg ?_)));refine fW (kW (gg ⟨_,rfl,"set_iterator",_,⟨_,iU _ rfl,rfl⟩,ll.lookup,?_⟩));refine hQ _ ⟨_,iU _ rfl,rfl,?_⟩ (fun b o e=>gY _ e) (nN _ _);have:jT w t 0=0:=by unfold jT;split<;>rfl
 rw[this];rfl
theorem xh{it a:fV}{es:lq}{n:Nat}{t:jX}(S:SetIs w s.heap a es n t){i:Nat}(hI:SetIter w s.heap it a t es.size n i)(l6:it≠a){e:Int×Value}(he:(lj w a n es)[i]?=some e){Q:Eb}
  (hQ: ∀h',SetIter w h' it a t es.size n (i+1)->Heap.SameBut it s.heap h'->Q (some e.2) {s with heap:=h'}):wpAny (model prog w) A (pyNext (.ref it)) Q E s:=by
 obtain⟨o,ho,hc,hd⟩:=id hI;have hi:i<es.size:=by have:=(Kn.mp he).1;rw[lP] at this;exact this
 unfold pyNext;refine fW (qy (qf (name:=Str.ofString "__next__") hI.typeIs ll (kX ll hI.typeIs qo ?_ (sC _))));unfold Builtin.«set_iterator.__next__» slotArgs;simp only[sG,kJ,hC,↓reduceIte,qa,rm,rq];refine fW (gg ?_);unfold fieldsOf;simp only[qa];refine fW (tE ho ?_);rw[hd];refine fW (gg ?_);dsimp only;refine fW (BZ S.at_ rfl S.fits ?_);rw[gk (by simp)];have h1:((jT w t i:Nat):Int).toNat=jT w t i:=ot _;have h2:((i:Nat):Int).toNat=i:=ot _;have h3:((n:Nat):Int).toNat=n:=ot _;rw[h1,h2,h3];refine fW (vI S (tH hi) (fun e' aQ=>?_) fun z=>by omega);rw[he] at aQ;cases aQ;dsimp only;refine fW (qz ho hd (by simp) ?_);have r8:=qd (Obj.mapFields fun vs=>vs.setIfInBounds 0 (rawInt (jT w t (i+1)))) ho (yU (pX hd _));refine fW (qz r8 (pX hd _) (by simp) (gg ⟨_,rfl,gg (hQ _ ?_ ((qY ..).trans (qY ..)))⟩));refine⟨_,qd _ r8 (yU (pX (pX hd _) _)),?_,?_⟩
 ·rw[yT,yT];exact hc
 ·rw[pX (pX hd _)];simp[rawInt]
theorem zH(hh:A.handled=none)(S:SetIs w s.heap a es n t)(hI:SetIter w s.heap it a t es.size n es.size)(l6:it≠a) 
  (hQ: ∀h',Heap.ExtBut it s.heap h'->Q none {s with heap:=h'}):wpAny (model prog w) A (pyNext (.ref it)) Q E s:=by
 obtain⟨o,ho,hc,hd⟩:=id hI;unfold pyNext;refine fW (qy (qf (name:=Str.ofString "__next__") hI.typeIs ll (kX ll hI.typeIs qo ?_ (sC _))));unfold Builtin.«set_iterator.__next__» slotArgs;simp only[sG,kJ,hC,↓reduceIte,qa,rm,rq];refine fW (gg ?_);unfold fieldsOf;simp only[qa];refine fW (tE ho ?_);rw[hd];refine fW (gg ?_);dsimp only;refine fW (BZ S.at_ rfl S.fits ?_);rw[gk (by simp)];have h1:((jT w t es.size:Nat):Int).toNat=jT w t es.size:=ot _;have h2:((es.size:Nat):Int).toNat=es.size:=ot _;have h3:((n:Nat):Int).toNat=n:=ot _;rw[h1,h2,h3];refine fW (vI S (gQ _) (fun e' aQ=>?_) fun _=>?_)
 ·have:=(Kn.mp aQ).1;rw[lP] at this;omega
 dsimp only;refine fW (qz ho hd (by simp) ?_);show wpAny _ _ (newExc (.type "StopIteration") []>>=_) _ _ _;refine fW ?_;simp only[newExc,newTuple];refine fW (kW ?_ (by size_fits));refine fW (m:=firstArgMember _ _) (oq (a:=Value.none) (by first|rfl|(simp only[firstArgMember];rfl)) ?_);refine kW ?_ (by size_fits);simp only[raiseNew];refine fW (Cq ?_);rw[show A.in1.handled=none from hh];refine fW (gg (Cp ?_));refine fW (sT (T:="StopIteration") (b:=true) ⟨_,iU _ rfl,rfl⟩ Cm ?_);exact gg (hQ _ (((qY ..).extBut.push _).push _))
theorem Ge(hI:SetIter w s.heap it a t z n i)(hQ:Q (.ref it) s):wpAny (model prog w) A (pyIter (.ref it)) Q E s:=by
 refine B6 hI.typeIs rH (kX rH hI.typeIs xl ?_ (Ai _));unfold Builtin.«dict_keyiterator.__iter__» slotArgs;simp only[sG,kJ,hC,↓reduceIte,qa,rm,rq];exact fW (gg (gg ⟨_,rfl,"set_iterator",_,hI.typeIs,ll.lookup,hQ⟩))
theorem SetIs.stay{a es n t}(S:SetIs w h a es n t)(k: ∀o,h.get? a=some o->h'.get? a=some o):SetIs w h' a es n t:=⟨k _ S.at_,S.tab,S.plain,S.led⟩
theorem FF(hh:A.handled=none)(I a:fV)(l6:I≠a)(es:lq)(n:Nat)(t:jX):
  Walks prog w A I [I,a] [I] es.size (fun i v=> ∃e,(lj w a n es)[i]?=some e/\v=e.2) (fun i h=>SetIter w h I a t es.size n i/\SetIs w h a es n t) where
 sub:=fun b hb=>by simp at hb;simp[hb]
 frame:=fun _ _ _ st hk=>⟨(by obtain⟨o,h1,h2⟩:=st.1;exact⟨o,hk I (by simp) o h1,h2⟩),st.2.stay fun o e=>hk a (by simp) o e⟩
 item:=fun i s Q E hi st hQ=>by
  have i6:i<(lj w a n es).size:=by rw[lP];exact hi
  have hg:(lj w a n es)[i]?=some (lj w a n es)[i]:=lx i6;refine xh st.2 st.1 l6 hg fun h' y8 ae=>?_;exact hQ _ h' s.toks ⟨_,hg,rfl⟩ ⟨y8,st.2.stay fun o e=>ae.extBut a o (fun h=>l6 h.symm) e⟩ fun b o hb e=>ae.extBut b o (fun h=>hb (by simp[h])) e
 done:=fun s Q E st hQ=>zH hh st.2 st.1 l6 fun h' aQ=>hQ h' s.toks fun b o hb e=>aQ b o (fun h=>hb (by simp[h])) e
 self:=fun _ _ _ _ st hQ=>Ge st.1 hQ
theorem L3(hh:A.handled=none)(S:SetIs w s.heap a es n t)(hn:es.size<=sizeLine) 
  (hQ: ∀h' tk,(∀b o,s.heap.get? b=some o->h'.get? b=some o)->Q ((lj w a n es).toList.map (·.2)) {s with heap:=h',toks:=tk}):wpAny (model prog w) A (collect (.ref a)) Q E s:=by
 have bI:a<s.heap.objs.size:=iM S.at_;have cc:a≠s.heap.objs.size:=ie bI;have cb:a≠s.heap.objs.size+1:=ie (tf bI);have du:s.heap.objs.size≠s.heap.objs.size+1:=ie (oF _);unfold collect;refine fW (Cr (qZ GW ?_));rw[oE GV _];show wpAny _ A.in1 (newList []>>=fun l=>again (.builtin "list.__iadd__" ⟨[l,.ref a],[]⟩)) _ _ s;refine fW (kW ?_);refine gg ⟨qA yG _,qZ GU ?_⟩;rw[oE yG _];show wpAny _ A.in1 (Builtin.List.listExtendWith (.ref s.heap.objs.size) (.ref a) (.ref s.heap.objs.size)) _ _ _;generalize dw:({cls:= .type "list",data:= .seq ([]:List Value).toArray}:Obj)=l0;have S1:SetIs w (s.heap.push l0) a es n t:=S.stay fun o e=>gY _ e;unfold Builtin.List.listExtendWith;refine fW (rA (T:="set") (s:={s with heap:=s.heap.push l0}) S1.typeIs ?_);have h1:Builtin.List.listSameRef (.ref s.heap.objs.size) (.ref a)=false:=by simp only[Builtin.List.listSameRef,wX];exact cc.symm
 have h2:(Value.type "set"==Value.type "list")=false:=by decide
 have h3:(Value.type "set"==Value.type "tuple")=false:=by decide
 simp only[h1,h2,h3,Bool.or_false,hC,ik];refine fW (JB (s:={s with heap:=s.heap.push l0}) S1 fun h2 dr k2 z2=>?_);have da:(s.heap.push l0).objs.size=s.heap.objs.size+1:=nN _ _;have S2:SetIs w h2 a es n t:=S1.stay fun o e=>k2 _ _ e;refine fW (kL ?_);unfold Builtin.List.listLengthHint;refine fW (qt (T:="set") (s:={s with heap:=h2}) S2.typeIs PySem.F.slot_set_len.lookup ?_);generalize dy:("set.__len__":String)=id0;dsimp only;rw[show splitId id0=some ("set","__len__") from by subst dy;decide+kernel];dsimp only;refine fW (sT (T:="set") (s:={s with heap:=h2}) (b:=true) S2.typeIs (by rw[yI];kernel_rfl) ?_);simp only[kJ,hC,ik];change wpAny _ _ (if _=true then _ else _) _ _ _;rw[gh (by subst dy;decide+kernel)];refine fW (rA (T:="set") (s:={s with heap:=h2}) S2.typeIs ?_);dsimp only;refine gg ?_;change wpAny _ _ (if _=true then _ else _) _ _ _;rw[gh (by decide+kernel)];refine fW (rp ?_);have dE:h2.get? s.heap.objs.size=some l0:=k2 _ _ (iU _ (by subst dw;rfl));subst dw;refine fW ?_;show wpAny _ A.in1 (updateSeq s.heap.objs.size (·.push .none)>>=fun _=>updateSeq s.heap.objs.size (·.pop)) _ _ _;refine fW (yF (s:={s with heap:=h2}) dE rfl ?_);have dD:=qd (Obj.mapSeq (·.push Value.none)) dE rfl;refine yF dD rfl ?_;have fH:=qd (Obj.mapSeq (·.pop)) dD rfl
 have oth: ∀b o,b≠s.heap.objs.size->h2.get? b=some o->((h2.update s.heap.objs.size (Obj.mapSeq (·.push Value.none))).update s.heap.objs.size (Obj.mapSeq (·.pop))).get? b=some o:=
  fun b o hb e=>(tw _ _ (mM hb)).trans ((tw _ _ (mM hb)).trans e)
 have W:=(FF (prog:=prog) (w:=w) (A:=A.in1) (by show A.handled=none;exact hh) (s.heap.objs.size+1) a cb.symm es n t).toS;rw[da] at dr;refine gg ⟨qA GS _,?_⟩;rw[da];refine GR W hn s.heap.objs.size (by simp only[jt,jY,ma,not_or];exact⟨du,cc.symm⟩) _ es.size 0 _ _ _ rfl (ku _) ?_ fH (ItemsOf.nil _) fun s' i3 c' hm aS l9=>?_
 ·refine⟨?_,S2.stay fun o e=>oth a o cc e⟩;obtain⟨o,g1,g2⟩:=dr;exact⟨o,oth _ o du.symm g1,g2⟩
 show wpAny _ A (load s.heap.objs.size>>=_) _ _ s';refine fW (tE aS ?_);obtain⟨h',g',d',cJ,dg⟩:=s';have eg:g'=s.gens:=hm.gens;have ed:d'=s.drawn:=hm.drawn;have eo:dg=s.os:=hm.os;subst eg;subst ed;subst eo
 have cA:i3.toList=(lj w a n es).toList.map (·.2):=by
  obtain⟨a1,a2⟩:=l9;apply yY
  ·rw[iq,iG,iG,a1,lP]
  ·intro j g1 g2;have gj:i3[j]?=some i3.toList[j]:=by rw[<-jS];exact il g1
   obtain⟨e,he,hv⟩:=a2 j _ gj;rw[hv];rw[iq,iG] at g2;rw[List.getElem_map];rw[<-jS,il (by rw[iG];exact g2)] at he;cases he;rfl
 refine gg ?_;show Q i3.toList _;rw[cA];refine hQ h' cJ fun b o e=>?_;have hb:=iM e;exact hm.heap b o (by simp only[jt,jY,ma,not_or];exact⟨ie hb,ie (tf hb)⟩) (oth b o (ie hb) (k2 _ _ (gY _ e)))
end
section
variable {prog:gw}{w:gm}{A:gv}{R:Result->Shared->Prop}{I:fV}{fp wr:iI}{G:Array GenState->Array GenState->Prop}{n:Nat}{P:Nat->Value->Prop}{St:Nat->Shared->Prop}
end
section
variable {prog:gw}{w:gm}{A:gv}{E:gD}{s:gb}
abbrev tR(w:gm):SetTable:= .fresh 0 0 (!w.params.followText "set-order")
end
structure DRaw(h:gz)(d:fV)(es:Array DictEntry)(ep:Nat):Prop where
 at_: ∃o,h.get? d=some o/\o.ExactDict/\o.data= .dict es ep
theorem DRaw.stay{d es ep}(x:DRaw h d es ep)(k: ∀o,h.get? d=some o->h'.get? d=some o):DRaw h' d es ep:=let⟨o,h1,r⟩:=x.at_;⟨o,k _ h1,r⟩
section
variable {prog:gw}{w:gm}{A:gv}{E:gD}{s:gb}
theorem DRaw.typeIs{d es ep}(x:DRaw s.heap d es ep):s.TypeIs (.ref d) "dict":=let⟨o,h1,r,_⟩:=x.at_;⟨o,h1,r.1⟩
theorem Gf(hd:(d==sysModules)=false)(hm:DRaw s.heap d es ep)
  (hQ:Q (.ref s.heap.objs.size) {s with heap:=s.heap.push {cls:= .type "dict_keyiterator",data:= .fields #[.ref d,.int 0 0,.int es.size 0,.int ep 0]}}):wpAny (model prog w) A (pyIter (.ref d)) Q E s:=by
 have hT:=hm.typeIs;obtain⟨o,ho,hc,hdat⟩:=hm.at_;refine B6 hT GQ (kX GQ hT PySem.F.entry_dict_iter ?_ (PySem.F.args_dict_iter_1 _));unfold Builtin.«dict.__iter__»;refine fW ?_;unfold Builtin.Dict.dictSlotNone;refine fW (wpAny_notOrdered_dict hT ?_);change wpAny _ _ (pure (Value.ref d)) _ _ s;refine gg ?_;change wpAny _ _ (Builtin.Dict.showsAll d>>=_) _ _ s;unfold Builtin.Dict.showsAll;rw[gk (by rw[hd];exact iB)];refine fW (gg ?_);refine fW (BY ho hdat ?_);refine fW (BX ho hdat ?_);refine fW (kW (gg ⟨_,rfl,"dict_keyiterator",_,⟨_,iU _ rfl,rfl⟩,xu.lookup,?_⟩));simpa[rawInt] using hQ
theorem wd{it d:fV}{i ep:Nat}{es:Array DictEntry}{e:DictEntry}{Q:Eb}(hit:s.heap.IsKeyIter it d i es.size ep)(hm:DRaw s.heap d es ep)(hx:es[i]?=some e)
  (hQ: ∀h',h'.IsKeyIter it d (i+1) es.size ep->Heap.SameBut it s.heap h'->Q (some e.key) {s with heap:=h'}):wpAny (model prog w) A (pyNext (.ref it)) Q E s:=by
 obtain⟨o,ho,hc,hd⟩:=id hit;obtain⟨od,dv,u7,bo⟩:=hm.at_;unfold pyNext;refine fW (qy (qf (name:=Str.ofString "__next__") hit.typeIs xu (kX xu hit.typeIs GP ?_ (GO _))));refine fW (gg ?_);refine fW ?_;refine fW ?_;refine fW (yE hit.typeIs (gg ?_));refine fW (wpAny_fieldsOf ho hd ?_);have bW:Builtin.Dict_items.ownsTuple "dict_keyiterator"=false:=by decide
 simp only[bW,hC,ik];change wpAny _ _ (if(Value.ref d==Value.none)=true then _ else _) _ _ s;rw[gk (show ¬((Value.ref d==Value.none)=true) from iB)];refine fW (gg ?_);refine fW (BY dv bo ?_);rw[gk (by simp)];refine fW (gg ?_);refine fW (BX dv bo ?_);rw[gk (by simp)];refine gg ?_;simp only[show ¬((i:Int)<0) from by omega,ik,ot,hx];refine fW ?_;refine fW (yE hit.typeIs (gg ?_));refine fW (GN hit.typeIs ?_);change wpAny _ _ (setField (.ref it) 1 (rawInt ((i:Int)+1))>>=_) _ _ s;refine fW (qz ho hd (by simp) ?_)
 have y8:(s.heap.update it (Obj.mapFields (·.setIfInBounds 1 (rawInt ((i:Int)+1))))).IsKeyIter it d (i+1) es.size ep:=
  ⟨_,qd _ ho (yU (pX hd _)),(yT ..).trans hc,by rw[pX hd];simp[rawInt]⟩
 refine fW (kL ?_);refine fW (GN (s:={s with heap:=s.heap.update it (Obj.mapFields (·.setIfInBounds 1 (rawInt ((i:Int)+1))))}) y8.typeIs ?_);change wpAny _ _ (pure e.key) _ _ _;exact gg (gg ⟨_,rfl,gg (hQ _ y8 (qY ..))⟩)
theorem xi(hh:A.handled=none)(hit:s.heap.IsKeyIter it d es.size es.size ep)(hm:DRaw s.heap d es ep)
  (hQ: ∀h',Heap.ExtBut it s.heap h'->Q none {s with heap:=h'}):wpAny (model prog w) A (pyNext (.ref it)) Q E s:=by
 obtain⟨o,ho,hc,hd⟩:=id hit;obtain⟨od,dv,u7,bo⟩:=hm.at_;unfold pyNext;refine fW (qy (qf (name:=Str.ofString "__next__") hit.typeIs xu (kX xu hit.typeIs GP ?_ (GO _))));refine fW (gg ?_);refine fW ?_;refine fW ?_;refine fW (yE hit.typeIs (gg ?_));refine fW (wpAny_fieldsOf ho hd ?_);have bW:Builtin.Dict_items.ownsTuple "dict_keyiterator"=false:=by decide
 simp only[bW,hC,ik];change wpAny _ _ (if(Value.ref d==Value.none)=true then _ else _) _ _ s;rw[gk (show ¬((Value.ref d==Value.none)=true) from iB)];refine fW (gg ?_);refine fW (BY dv bo ?_);rw[gk (by simp)];refine fW (gg ?_);refine fW (BX dv bo ?_);rw[gk (by simp)];refine gg ?_;simp only[show ¬((es.size:Int)<0) from by omega,ik,ot,yK (gQ es.size)];refine fW ?_;refine fW (yE hit.typeIs (gg ?_));change wpAny _ _ (setField (.ref it) 0 .none>>=_) _ _ s;refine fW (qz ho hd (by simp) ?_);change wpAny _ _ (newExc (.type "StopIteration") []>>=_) _ _ _;refine fW ?_;simp only[newExc,newTuple];refine fW (kW ?_ (by size_fits));refine fW (m:=firstArgMember _ _) (oq (a:=Value.none) (by first|rfl|(simp only[firstArgMember];rfl)) ?_);refine kW ?_ (by size_fits);simp only[raiseNew];refine fW (Cq ?_);rw[show A.in1.handled=none from hh];refine fW (gg (Cp ?_));refine fW (sT (T:="StopIteration") (b:=true) ⟨_,iU _ rfl,rfl⟩ Cm ?_);exact gg (hQ _ (((qY ..).extBut.push _).push _))
theorem DR(hh:A.handled=none)(I d:fV)(l6:I≠d)(es:Array DictEntry)(ep:Nat):Walks prog w A I [I,d] [I] es.size (fun i v=> ∃e,es[i]?=some e/\v=e.key) (fun i h=>h.IsKeyIter I d i es.size ep/\DRaw h d es ep) where
 sub:=fun b hb=>by simp at hb;simp[hb]
 frame:=fun _ _ _ st hk=>⟨st.1.at fun o e=>hk I (by simp) o e,st.2.stay fun o e=>hk d (by simp) o e⟩
 item:=fun i s Q E hi st hQ=>by
  have hg:es[i]?=some es[i]:=lx hi;refine wd st.1 st.2 hg fun h' y8 ae=>?_;exact hQ _ h' s.toks ⟨_,hg,rfl⟩ ⟨y8,st.2.stay fun o e=>ae.extBut d o (fun h=>l6 h.symm) e⟩ fun b o hb e=>ae.extBut b o (fun h=>hb (by simp[h])) e
 done:=fun s Q E st hQ=>xi hh st.1 st.2 fun h' aQ=>hQ h' s.toks fun b o hb e=>aQ b o (fun h=>hb (by simp[h])) e
 self:=fun _ _ _ _ st hQ=>wpAny_pyIter_keyiter st.1 hQ
theorem J5(hd:(a==sysModules)=false)(hh:A.handled=none)(S:DRaw s.heap a es n)(hn:es.size<=sizeLine) 
  (hQ: ∀h' tk,(∀b o,s.heap.get? b=some o->h'.get? b=some o)->Q (es.toList.map (·.key)) {s with heap:=h',toks:=tk}):wpAny (model prog w) A (collect (.ref a)) Q E s:=by
 have bI:a<s.heap.objs.size:=let⟨_,h1,_⟩:=S.at_;iM h1;have cc:a≠s.heap.objs.size:=ie bI;have cb:a≠s.heap.objs.size+1:=ie (tf bI);have du:s.heap.objs.size≠s.heap.objs.size+1:=ie (oF _);unfold collect;refine fW (Cr (qZ GW ?_));rw[oE GV _];show wpAny _ A.in1 (newList []>>=fun l=>again (.builtin "list.__iadd__" ⟨[l,.ref a],[]⟩)) _ _ s;refine fW (kW ?_);refine gg ⟨qA yG _,qZ GU ?_⟩;rw[oE yG _];show wpAny _ A.in1 (Builtin.List.listExtendWith (.ref s.heap.objs.size) (.ref a) (.ref s.heap.objs.size)) _ _ _;generalize dw:({cls:= .type "list",data:= .seq ([]:List Value).toArray}:Obj)=l0;have S1:DRaw (s.heap.push l0) a es n:=S.stay fun o e=>gY _ e;unfold Builtin.List.listExtendWith;refine fW (rA (T:="dict") (s:={s with heap:=s.heap.push l0}) S1.typeIs ?_);have h1:Builtin.List.listSameRef (.ref s.heap.objs.size) (.ref a)=false:=by simp only[Builtin.List.listSameRef,wX];exact cc.symm
 have h2:(Value.type "dict"==Value.type "list")=false:=by decide
 have h3:(Value.type "dict"==Value.type "tuple")=false:=by decide
 simp only[h1,h2,h3,Bool.or_false,hC,ik];refine fW (Gf (s:={s with heap:=s.heap.push l0}) hd S1 ?_);obtain⟨h2,fm⟩: ∃h2,h2=(s.heap.push l0).push {cls:= .type "dict_keyiterator",data:= .fields #[.ref a,.int 0 0,.int es.size 0,.int n 0]}:=⟨_,rfl⟩
 have dr:h2.IsKeyIter (s.heap.push l0).objs.size a 0 es.size n:=by rw[fm];exact⟨_,iU _ rfl,rfl,rfl⟩
 have k2: ∀b o,(s.heap.push l0).get? b=some o->h2.get? b=some o:=fun b o e=>by rw[fm];exact gY _ e
 rw[<-fm];have da:(s.heap.push l0).objs.size=s.heap.objs.size+1:=nN _ _;have S2:DRaw h2 a es n:=S1.stay fun o e=>k2 _ _ e;refine fW (kL ?_);unfold Builtin.List.listLengthHint;refine fW (qt (T:="dict") (s:={s with heap:=h2}) S2.typeIs PySem.F.slot_dict_len.lookup ?_);generalize dy:("dict.__len__":String)=id0;dsimp only;rw[show splitId id0=some ("dict","__len__") from by subst dy;decide+kernel];dsimp only;refine fW (sT (T:="dict") (s:={s with heap:=h2}) (b:=true) S2.typeIs (by rw[yI];kernel_rfl) ?_);simp only[kJ,hC,ik];change wpAny _ _ (if _=true then _ else _) _ _ _;rw[gh (by subst dy;decide+kernel)];refine fW (rA (T:="dict") (s:={s with heap:=h2}) S2.typeIs ?_);dsimp only;refine gg ?_;change wpAny _ _ (if _=true then _ else _) _ _ _;rw[gh (by decide+kernel)];refine fW (rp ?_);have dE:h2.get? s.heap.objs.size=some l0:=k2 _ _ (iU _ (by subst dw;rfl));subst dw;refine fW ?_;show wpAny _ A.in1 (updateSeq s.heap.objs.size (·.push .none)>>=fun _=>updateSeq s.heap.objs.size (·.pop)) _ _ _;refine fW (yF (s:={s with heap:=h2}) dE rfl ?_);have dD:=qd (Obj.mapSeq (·.push Value.none)) dE rfl;refine yF dD rfl ?_;have fH:=qd (Obj.mapSeq (·.pop)) dD rfl
 have oth: ∀b o,b≠s.heap.objs.size->h2.get? b=some o->((h2.update s.heap.objs.size (Obj.mapSeq (·.push Value.none))).update s.heap.objs.size (Obj.mapSeq (·.pop))).get? b=some o:=
  fun b o hb e=>(tw _ _ (mM hb)).trans ((tw _ _ (mM hb)).trans e)
 have W:=(DR (prog:=prog) (w:=w) (A:=A.in1) (by show A.handled=none;exact hh) (s.heap.objs.size+1) a cb.symm es n).toS;rw[da] at dr;refine gg ⟨qA GS _,?_⟩;rw[da];refine GR W hn s.heap.objs.size (by simp only[jt,jY,ma,not_or];exact⟨du,cc.symm⟩) _ es.size 0 _ _ _ rfl (ku _) ?_ fH (ItemsOf.nil _) fun s' i3 c' hm aS l9=>?_
 ·refine⟨?_,S2.stay fun o e=>oth a o cc e⟩;obtain⟨o,g1,g2⟩:=dr;exact⟨o,oth _ o du.symm g1,g2⟩
 show wpAny _ A (load s.heap.objs.size>>=_) _ _ s';refine fW (tE aS ?_);obtain⟨h',g',d',cJ,dg⟩:=s';have eg:g'=s.gens:=hm.gens;have ed:d'=s.drawn:=hm.drawn;have eo:dg=s.os:=hm.os;subst eg;subst ed;subst eo
 have cA:i3.toList=es.toList.map (·.key):=by
  obtain⟨a1,a2⟩:=l9;apply yY
  ·rw[iq,iG,iG,a1]
  ·intro j g1 g2;have gj:i3[j]?=some i3.toList[j]:=by rw[<-jS];exact il g1
   obtain⟨e,he,hv⟩:=a2 j _ gj;rw[hv];rw[iq,iG] at g2;rw[List.getElem_map];rw[<-jS,il (by rw[iG];exact g2)] at he;cases he;rfl
 refine gg ?_;show Q i3.toList _;rw[cA];refine hQ h' cJ fun b o e=>?_;have hb:=iM e;exact hm.heap b o (by simp only[jt,jY,ma,not_or];exact⟨ie hb,ie (tf hb)⟩) (oth b o (ie hb) (k2 _ _ (gY _ e)))
end
open PySem.Spec
section
variable {prog:gw}{w:gm}{A:gv}{E:gD}{s:gb}
theorem Jh(h:Q₁ (.ref s.heap.objs.size) {s with heap:=s.heap.push (ky #[] 0 (tR w))}):
  codeAny (model prog w) A (.call (.builtin "set.__new__") ⟨[.type "set"],[]⟩) (wants Q₁ E) s:=by
 refine ve ?_;change wpAny _ A.in1 (checkBuiltinCall "set.__new__" ⟨[.type "set"],[]⟩>>=fun _=>again (.builtin "set.__new__" ⟨[.type "set"],[]⟩)) _ _ s;refine fW (oq PySem.F.newCall_set_0 (gg ⟨qA GL _,qZ PySem.F.entry_set_new ?_⟩));rw[oE GL _];unfold Builtin.«set.__new__» Builtin.Frozenset.newClass;have bS:=sub_set_self;obtain⟨hp,g,d,tk,os⟩:=s;dsimp only
 wp_walk
 refine tj (gg ?_);dsimp only;simp only[newObj];refine fW (Cv (gg ?_));exact gg h
set_option maxHeartbeats 8000000 in
theorem Oo{Q:gD}(h:Q (.ref s.heap.objs.size) {s with heap:=s.heap.push (ky #[] 0 (tR w))}):wpAny (model prog w) A (call (.type "set") []) Q E s:=by
 obtain⟨c,tl,hmro⟩:=Hr.mro;have hmade:=Hr.made;have bS:=Hr.sub;refine wpAny_call (ve ?_);change wpAny _ _ (callAny (.type "set") ⟨[],[]⟩) _ _ s;refine gg ⟨Code.quiet_builtin _ (by decide+kernel),qZ PySem.F.entry_type_call ?_⟩;rw[Around.under_plain (weight_type_call_type "set" ([]:List Value) []) rfl];have h1:=Hr.notType;have h2:=Hr.canCreate;have hct:=PySem.F.typeCall_set_0
 repeat (any_goals (first|assumption|wp_step))
 refine oJ (Jh (E:=E) (Q₁:=fun obj s₁=>obj= .ref s.heap.objs.size/\s₁={s with heap:=s.heap.push (ky #[] 0 (tR w))}) ⟨rfl,rfl⟩) fun r s₁ hr=>?_
 cases r with
 |error e=>exact hr
 |ok fl=>
  cases fl with
  |ret obj=>
   obtain⟨rfl,rfl⟩:=hr;have hS:(s.heap.push (ky #[] 0 (tR w))).get? s.heap.objs.size=some (ky #[] 0 (tR w)):=iU _ rfl;have hT:Shared.TypeIs {s with heap:=s.heap.push (ky #[] 0 (tR w))} (.ref s.heap.objs.size) "set":=⟨_,hS,rfl⟩
   have hli:=Hr.init.lookup;have hbi:=Hr.init.bind (.ref s.heap.objs.size)
   repeat (any_goals (first|assumption|wp_step))
   refine oJ (codeAny_call_builtin (R:=wants (fun r z=>r= .none/\Q (.ref s.heap.objs.size) z) E) Hr.init.plain PySem.F.entry_set_init (check_set_init hT ?_)) fun r₂ s₂ eX=>?_
   ·unfold Builtin.«set.__init__» noKeywords
    wp_walk
    exact⟨rfl,h⟩
   ·cases r₂ with
    |error e=>exact eX
    |ok fl₂=>
     cases fl₂ with
     |ret r=>
      obtain⟨rfl,hq⟩:=eX
      repeat (any_goals (first|assumption|wp_step))
     |_=>exact eX.elim
  |_=>exact hr.elim
end
end TT
namespace PX
open PySem PySem.Spec PyProof.Rows L2 PySem.SeqAt TS
theorem D.hashL_map: ∀l:List D,D.hashL l=l.map D.hash
 |[]=>by rw[D.hashL];rfl
 |d::l=>by rw[D.hashL,D.hashL_map l];rfl
theorem vR: ∀{l:List D} {d:D},D.prL l=true->d∈l->D.pr d=true
 |[],d,_,h=>by simp at h
 |e::l,d,hp,h=>by
  rw[D.prL,ki] at hp;rcases jt.mp h with rfl|h
  ·exact hp.1
  ·exact vR hp.2 h
theorem nJ: ∀{l:List D} {d:D},d∈l->d.dep<=D.depL l:=fun {l d} h=>by
 obtain⟨j,hj⟩:=pZ h;exact D.dep_mem hj
section
variable {X:Cx}{pins:gG}{σ:L2.St}{H:Hp}{s:gb}
def RepV(X:Cx)(H:Hp)(O:AP')(ds:List D)(b6:hJ):Prop:= ∃xs,RepL X.K H O ds xs/\Vals xs b6
theorem RepV.cons(h:RepV X H O (d::ds) (v::b6)):(∃x,Rep X.K H O d x/\RelV x v)/\RepV X H O ds b6:=by
 obtain⟨xs,r,vs⟩:=h;rw[RepL] at r;obtain⟨x,xr,rfl,r1,r2⟩:=r
 cases vs with
 |cons a b=>exact⟨⟨x,r1,a⟩,xr,r2,b⟩
theorem RepV.nil_of{O:AP'}{ds:List D}(h:RepV X H O ds []):ds=[]:=by
 obtain⟨xs,r,vs⟩:=h;cases vs
 cases ds with
 |nil=>rfl
 |cons d ds=>rw[RepL] at r;obtain⟨_,_,e,_⟩:=r;cases e
theorem RepV.cons_of(h:RepV X H O ds (v::b6)): ∃d ds',ds=d::ds':=by
 cases ds with
 |nil=>obtain⟨xs,r,vs⟩:=h;rw[RepL] at r;subst r;cases vs
 |cons d ds=>exact⟨d,ds,rfl⟩
theorem JH: ∀(n:Nat) {s:gb} (I:Inv X pins σ H s) (d:D) (v:V) (u:gi) (O:AP') (A:gv) (E:gD) (Q:Int->Shared->Prop),Rep X.K H O d v->RelV v u->D.pr d=true->d.dep<=n->A.units+n<cLine->(∀tk,s.toks<=tk->Q d.hash {s with toks:=tk})->
  wpAny (model X.prog X.w) A (pyHash u) Q E s:=by
 intro n
 induction n with
 |zero=>
  intro s I d v u O A E Q hr rv hp hd hA hQ
  cases d with
  |int i=>
   have:=hr.int;subst this;obtain⟨t,rfl⟩:=rv;have:=hQ (s.toks+1) (tu _);rw[D.hash] at this;exact CM this
  |tup l=>rw[D.dep] at hd;omega
  |_=>simp[D.pr] at hp
 |succ n ih=>
  intro s I d v u O A E Q hr rv hp hd hA hQ
  cases d with
  |int i=>
   have:=hr.int;subst this;obtain⟨t,rfl⟩:=rv;have:=hQ (s.toks+1) (tu _);rw[D.hash] at this;exact CM this
  |tup l=>
   rw[D.pr] at hp;rw[D.dep] at hd;obtain⟨a,xs,rfl,q,r⟩:=hr.tup;cases rv;obtain⟨b6,vs,⟨o,ho,hc,nn,cq⟩,_⟩:=I.tuple q.sq;have hT:s.TypeIs (.ref a) "tuple":=⟨o,ho,hc⟩
   have hu:A.units<cLine:=by omega
   unfold pyHash;unfold pyHashByItsType;refine fW (wpAny_cRoomFor_or (.inr hu) ?_);refine fW (qt hT Ed.lookup ?_);show wpAny _ _ (if(some (Value.builtin "tuple.__hash__")==some Value.none)=true then _ else _) Q E s;rw[gk (by rw[beq_builtin_none];exact iB)];refine fW (qt hT Ed.lookup ?_);show wpAny _ _ (callSpecialIfBoundUnlessNone? (.ref a) "__hash__" _>>=_) Q E s;refine fW (wpAny_callSpecialIfBoundUnlessNone?_slot hT Ed (kX Ed hT PySem.F.entry_tuple_hash ?_ (PySem.F.args_tuple_hash_1 _)));show wpAny _ _ (Builtin.Tuple.tupleItemsOf (.ref a)>>=_) _ _ s;refine fW (wpAny_tupleItemsOf ho cq ?_);refine fW ?_;rw[<-yD]
   refine ng _
    (fun gP (b:Array Int) s'=> ∃done left,l=done++left/\RepV X H (fun a=>O a) left gP/\b.toList=done.map D.hash/\ ∃tk,s.toks<=tk/\s'={s with toks:=tk})
    _ ?_ ?_ _ _ ⟨[],l,rfl,⟨xs,r,by simpa using vs⟩,rfl,s.toks,gQ _,rfl⟩
   ·rintro x gP b s' ⟨done,left,rfl,hl,hb,tk,bC,rfl⟩;obtain⟨d,left,rfl⟩:=hl.cons_of;obtain⟨⟨y,h1,h2⟩,h3⟩:=hl.cons;have hm:d∈done++d::left:=by simp
    have bo:=nJ hm;refine fW (ih (I.kept (h':=s.heap) (t':=tk) fun _ _ e=>e) d y x O A.in1 E _ h1 h2 (vR hp hm) (by omega) (by show A.units+1+n<cLine;omega) fun cJ htk'=>?_)
    first
     |exact gg ⟨done++[d],left,by simp,h3,by simp[hb],cJ,kx bC htk',rfl⟩
     |exact fW (gg (gg ⟨done++[d],left,by simp,h3,by simp[hb],cJ,kx bC htk',rfl⟩))
   ·rintro b s' ⟨done,left,rfl,hl,hb,tk,bC,rfl⟩;have:=hl.nil_of;subst this;have h:=hQ (tk+1) (Nat.le_succ_of_le bC);rw[D.hash,D.hashL_map,qB] at h;show wpAny _ _ (retInt (Builtin.Tuple.tupleHashOf b.toList)) _ _ _;rw[hb];refine wpAny_ret_mkInt ?_;show wpAny _ _ (if(decide (-(2:Int)^63<=Builtin.Tuple.tupleHashOf (done.map D.hash))&&decide (Builtin.Tuple.tupleHashOf (done.map D.hash)<2^63))=true then _ else _) Q E _;unfold reduceHash at h;by_cases hr:(decide (-(2:Int)^63<=Builtin.Tuple.tupleHashOf (done.map D.hash))&&decide (Builtin.Tuple.tupleHashOf (done.map D.hash)<2^63))=true
    ·rw[gh hr];rw[gh hr] at h;exact gg h
    ·rw[gk hr];rw[gk hr] at h;exact fW (rp (gg h))
  |_=>simp[D.pr] at hp
theorem PY(I:Inv X pins σ H s): ∀(n:Nat) (d:D) (v:V) (u:gi) (O:AP') (A:gv) (E:gD) (Q:qU),Rep X.K H O d v->RelV v u->D.pr d=true->d.dep<=n->Q true s->wpAny (model X.prog X.w) A (hashByValue n u) Q E s:=by
 intro n
 induction n with
 |zero=>
  intro d v u O A E Q hr rv hp hd hQ
  cases d with
  |int i=>
   have:=hr.int;subst this;obtain⟨t,rfl⟩:=rv;exact oq (show hashByValue 0 (.int i t)=pure true by simp[hashByValue]) hQ
  |tup l=>rw[D.dep] at hd;omega
  |_=>simp[D.pr] at hp
 |succ n ih=>
  intro d v u O A E Q hr rv hp hd hQ
  cases d with
  |int i=>
   have:=hr.int;subst this;obtain⟨t,rfl⟩:=rv;exact oq (show hashByValue (n+1) (.int i t)=pure true by simp[hashByValue]) hQ
  |tup l=>
   rw[D.pr] at hp;rw[D.dep] at hd;obtain⟨a,xs,rfl,q,r⟩:=hr.tup;cases rv;obtain⟨b6,vs,⟨o,ho,hc,nn,cq⟩,_⟩:=I.tuple q.sq;have hT:s.TypeIs (.ref a) "tuple":=⟨o,ho,hc⟩
   unfold hashByValue;refine fW (qt hT Ed.lookup ?_);dsimp only;refine fW (oo ho cq ?_);refine fW ?_;show wpAny _ _ (forIn b6.toArray _ _) _ _ s;rw[<-yD];refine ng _ (fun gP rr s'=>rr.1=none/\s'=s/\ ∃left,(∀d∈left,d∈l)/\RepV X H O left gP) _ ?_ ?_ _ _ ⟨rfl,rfl,l,fun d h=>h,xs,r,by simpa using vs⟩
   ·rintro x gP rr s' ⟨h0,rfl,left,hm,hl⟩;obtain⟨d,left,rfl⟩:=hl.cons_of;obtain⟨⟨y,h1,h2⟩,h3⟩:=hl.cons;have bH:=hm d ic;have bo:=nJ bH;refine fW (ih d y x O A E _ h1 h2 (vR hp bH) (by omega) ?_);simp only[kJ,hC,ik];exact gg ⟨rfl,rfl,left,fun d h=>hm d (hU _ h),h3⟩
   ·rintro⟨r1,r2⟩ s' ⟨h0,rfl,_⟩;simp only at h0;subst h0;exact gg hQ
  |_=>simp[D.pr] at hp
theorem KJ{P:gw}{W:gm}(I:Inv X pins σ H s): ∀(n:Nat) (d:D) (v:V) (u:gi) (O:AP') (A:gv) (E:gD) (Q:qU),Rep X.K H O d v->RelV v u->D.pr d=true->d.dep<=n->Q true s->wpAny (model P W) A (eqIsQuiet n u) Q E s:=by
 intro n
 induction n with
 |zero=>
  intro d v u O A E Q hr rv hp hd hQ
  cases d with
  |int i=>
   have:=hr.int;subst this;obtain⟨t,rfl⟩:=rv;exact oq (eqIsQuiet_byValue 0 rfl) hQ
  |tup l=>rw[D.dep] at hd;omega
  |_=>simp[D.pr] at hp
 |succ n ih=>
  intro d v u O A E Q hr rv hp hd hQ
  cases d with
  |int i=>
   have:=hr.int;subst this;obtain⟨t,rfl⟩:=rv;exact oq (eqIsQuiet_byValue (n+1) rfl) hQ
  |tup l=>
   rw[D.pr] at hp;rw[D.dep] at hd;obtain⟨a,xs,rfl,q,r⟩:=hr.tup;cases rv;obtain⟨b6,vs,⟨o,ho,hc,nn,cq⟩,_⟩:=I.tuple q.sq;have hT:s.TypeIs (.ref a) "tuple":=⟨o,ho,hc⟩
   unfold eqIsQuiet;refine fW (qt hT PySem.F.slot_tuple_eq.lookup ?_);show wpAny _ _ (isInstance (.ref a) (.type "tuple")>>=_) _ _ s;refine fW (sT hT isSubtype_tuple_tuple ?_);simp only[kJ,hC,ik];refine fW (oo ho cq ?_);refine fW ?_;show wpAny _ _ (forIn b6.toArray _ _) _ _ s;rw[<-yD];refine ng _ (fun gP rr s'=>rr.1=none/\s'=s/\ ∃left,(∀d∈left,d∈l)/\RepV X H O left gP) _ ?_ ?_ _ _ ⟨rfl,rfl,l,fun d h=>h,xs,r,by simpa using vs⟩
   ·rintro x gP rr s' ⟨h0,rfl,left,hm,hl⟩;obtain⟨d,left,rfl⟩:=hl.cons_of;obtain⟨⟨y,h1,h2⟩,h3⟩:=hl.cons;have bH:=hm d ic;have bo:=nJ bH;refine fW (ih d y x O A E _ h1 h2 (vR hp bH) (by omega) ?_);simp only[kJ,hC,ik];exact gg ⟨rfl,rfl,left,fun d h=>hm d (hU _ h),h3⟩
   ·rintro⟨r1,r2⟩ s' ⟨h0,rfl,_⟩;simp only at h0;subst h0;exact gg hQ
  |_=>simp[D.pr] at hp
theorem F7{P:gw}{W:gm}(I:Inv X pins σ H s): ∀(n:Nat) (d:D) (v:V) (u:gi) (O:AP') (A:gv) (E:gD) (Q:qU),Rep X.K H O d v->RelV v u->D.pr d=true->d.dep<=n->Q false s->wpAny (model P W) A (ofAClassStatement n u) Q E s:=by
 intro n
 induction n with
 |zero=>
  intro d v u O A E Q hr rv hp hd hQ
  cases d with
  |int i=>
   have:=hr.int;subst this;obtain⟨t,rfl⟩:=rv;exact oq (show ofAClassStatement 0 (.int i t)=pure false by simp[ofAClassStatement]) hQ
  |tup l=>rw[D.dep] at hd;omega
  |_=>simp[D.pr] at hp
 |succ n ih=>
  intro d v u O A E Q hr rv hp hd hQ
  cases d with
  |int i=>
   have:=hr.int;subst this;obtain⟨t,rfl⟩:=rv;exact oq (show ofAClassStatement (n+1) (.int i t)=pure false by simp[ofAClassStatement]) hQ
  |tup l=>
   rw[D.pr] at hp;rw[D.dep] at hd;obtain⟨a,xs,rfl,q,r⟩:=hr.tup;cases rv;obtain⟨b6,vs,⟨o,ho,hc,nn,cq⟩,_⟩:=I.tuple q.sq;have hT:s.TypeIs (.ref a) "tuple":=⟨o,ho,hc⟩
   unfold ofAClassStatement;refine fW (rA hT ?_);dsimp only;rw[gh (by decide)];refine fW (gg ?_);simp only[kJ,hC,ik];refine fW (oo ho cq ?_);dsimp only;refine fW ?_;show wpAny _ _ (forIn b6.toArray _ _) _ _ s;rw[<-yD];refine ng _ (fun gP rr s'=>rr.1=none/\s'=s/\ ∃left,(∀d∈left,d∈l)/\RepV X H O left gP) _ ?_ ?_ _ _ ⟨rfl,rfl,l,fun d h=>h,xs,r,by simpa using vs⟩
   ·rintro x gP rr s' ⟨h0,rfl,left,hm,hl⟩;obtain⟨d,left,rfl⟩:=hl.cons_of;obtain⟨⟨y,h1,h2⟩,h3⟩:=hl.cons;have bH:=hm d ic;have bo:=nJ bH;refine fW (ih d y x O A E _ h1 h2 (vR hp bH) (by omega) ?_);simp only[hC,ik];exact gg ⟨rfl,rfl,left,fun d h=>hm d (hU _ h),h3⟩
   ·rintro⟨r1,r2⟩ s' ⟨h0,rfl,_⟩;simp only at h0;subst h0;exact gg hQ
  |_=>simp[D.pr] at hp
end
def okS:D->Bool
 | .tup l=>D.prL l&&decide (D.depL l<=6)
 |_=>false
theorem mv(h:okS d=true): ∃l,d= .tup l:=by cases d<;>first|exact⟨_,rfl⟩|(simp[okS] at h)
theorem oQ(h:okS d=true):D.pr d=true:=by
 obtain⟨l,rfl⟩:=mv h;simp only[okS,ki] at h;rw[D.pr];exact h.1
theorem nC(h:okS d=true):d.dep<=7:=by
 obtain⟨l,rfl⟩:=mv h;simp only[okS,ki,pY] at h;rw[D.dep];omega
mutual
theorem sx: ∀x y:D,D.pr x=true->D.pr y=true->cT x y= .eq->x=y
 | .int i,.int j,_,_,h=>by
  rw[cT] at h;by_cases h1:i<j
  ·rw[gh h1] at h;cases h
  ·rw[gk h1] at h;by_cases h2:i=j
   ·rw[h2]
   ·rw[gk h2] at h;cases h
 | .tup l,.tup m,h1,h2,h=>by rw[D.pr] at h1 h2;rw[cT] at h;rw[BJ l m h1 h2 h]
 | .int _,.tup _,_,_,h=>by simp[cT] at h
 | .tup _,.int _,_,_,h=>by simp[cT] at h
 | .non,_,h,_,_=>by simp[D.pr] at h
 | .bl _,_,h,_,_=>by simp[D.pr] at h
 | .str _,_,h,_,_=>by simp[D.pr] at h
 | .lst _,_,h,_,_=>by simp[D.pr] at h
 | .oth _ _ _,_,h,_,_=>by simp[D.pr] at h
 |_,.non,_,h,_=>by simp[D.pr] at h
 |_,.bl _,_,h,_=>by simp[D.pr] at h
 |_,.str _,_,h,_=>by simp[D.pr] at h
 |_,.lst _,_,h,_=>by simp[D.pr] at h
 |_,.oth _ _ _,_,h,_=>by simp[D.pr] at h
theorem BJ: ∀l m:List D,D.prL l=true->D.prL m=true->cL l m= .eq->l=m
 |[],[],_,_,_=>rfl
 |[],_::_,_,_,h=>by simp[cL] at h
 |_::_,[],_,_,h=>by simp[cL] at h
 |x::l,y::m,h1,h2,h=>by
  rw[D.prL,ki] at h1 h2;rw[cL] at h
  cases hc:cT x y with
  |lt=>rw[hc] at h;cases h
  |gt=>rw[hc] at h;cases h
  |eq=>
   rw[hc] at h;rw[sx x y h1.1 h2.1 hc,BJ l m h1.2 h2.2 h]
end
theorem DP(h1:D.pr x=true)(h2:D.pr y=true):D.eqb x y=true↔x=y:=by
 rw[DQ x y h1 h2];constructor
 ·intro h;exact sx x y h1 h2 (by simpa using h)
 ·rintro rfl;rw[Ae];rfl
def Ak(vs:List D)(d:D):List D:=if vs.any (D.eqb · d)=true then vs else vs++[d]
theorem kU{α β:Type}(f:α->β){zs m:List β}(h:zs.Perm m): ∀l:List α,m=l.map f-> ∃l':List α,l'.Perm l/\zs=l'.map f:=by
 induction h with
 |nil=>
  intro l e;have:l=[]:=by simpa using e.symm
  subst this;exact⟨[],.refl _,rfl⟩
 |cons x _ ih=>
  intro l e
  cases l with
  |nil=>simp at e
  |cons y l=>
   simp only[iw,List.cons.injEq] at e;obtain⟨l',p,q⟩:=ih l e.2;exact⟨y::l',p.cons y,by rw[q,e.1];rfl⟩
 |swap x y l0=>
  intro l e
  cases l with
  |nil=>simp at e
  |cons a l=>
   cases l with
   |nil=>simp at e
   |cons b l=>
    simp only[iw,List.cons.injEq] at e;exact⟨b::a::l,.swap a b l,by rw[e.1,e.2.1,e.2.2];rfl⟩
 |trans _ _ eP eO=>
  intro l e;obtain⟨l1,p1,q1⟩:=eO l e;obtain⟨l2,p2,q2⟩:=eP l1 q1;exact⟨l2,p2.trans p1,q2⟩
theorem uc{α β:Type}{F:α->β->Prop}{es m:List β}(h:es.Perm m): ∀{z:List α},Paired F z m-> ∃z':List α,Paired F z' es/\z'.Perm z:=by
 induction h with
 |nil=>intro z p;exact⟨z,p,.refl _⟩
 |cons x _ ih=>
  intro z p
  cases p with
  |cons r t=>
   obtain⟨z',h1,h2⟩:=ih t;exact⟨_::z',.cons r h1,h2.cons _⟩
 |swap x y l0=>
  intro z p
  cases p with
  |cons r t=>
   cases t with
   |cons r' t=>exact⟨_,.cons r' (.cons r t),.swap _ _ _⟩
 |trans _ _ eP eO=>
  intro z p;obtain⟨z1,p1,q1⟩:=eO p;obtain⟨z2,p2,q2⟩:=eP p1;exact⟨z2,p2,q2.trans q1⟩
theorem RepL.zip{K H}{O:AP'}: ∀{l:List D} {vs:List V},RepL K H O l vs-> ∀p∈l.zip vs,Rep K H O p.1 p.2
 |[],vs,h,p,hp=>by simp at hp
 |d::l,vs,h,p,hp=>by
  rw[RepL] at h;obtain⟨v,r,rfl,h1,h2⟩:=h;rw[qv] at hp;rcases jt.mp hp with rfl|hp
  ·exact h1
  ·exact RepL.zip h2 p hp
theorem RepL.ofZip{K H}{O:AP'}: ∀{l:List (D×V)},(∀p∈l,Rep K H O p.1 p.2)->RepL K H O (l.map (·.1)) (l.map (·.2))
 |[],_=>RepL.nil
 |p::l,h=>RepL.cons (h p ic) (RepL.ofZip fun q hq=>h q (hU _ hq))
abbrev hv(p:D×V):Int×V:=(D.hash p.1,p.2)
theorem vq: ∀(vs:List D) (us:List V),(D.hashL vs).zip us=(vs.zip us).map hv
 |[],us=>by simp[D.hashL]
 |d::vs,[]=>by simp
 |d::vs,u::us=>by rw[D.hashL,qv,qv,iw,vq vs us]
section
variable {X:Cx}{pins:gG}{σ:L2.St}{H:Hp}{s:gb}
structure SetV(X:Cx)(H:Hp)(O:AP')(h:gz)(a:fV)(vs:List D)(es:lq)(n:Nat)(t:jX)(l:List (D×V)):Prop where
 is:TT.SetIs X.w h a es n t
 perm:(l.map (·.1)).Perm vs
 rep: ∀p∈l,Rep X.K H O p.1 p.2
 par:Paired (fun(z:Int×V) (e:Int×Value)=>z.1=e.1/\RelV z.2 e.2) (l.map hv) es.toList
theorem vV{α β:Type}{F:α->β->Prop}: ∀{l:List α} {m:List β},Paired F l m-> ∀{i:Nat} {b:β},m[i]?=some b-> ∃a,l[i]?=some a/\F a b
 |_,_,.nil,i,b,h=>by simp at h
 |_,_,.cons r t,0,b,h=>by simp at h;subst h;exact⟨_,rfl,r⟩
 |_,_,.cons r t,i+1,b,h=>by
  obtain⟨a,h1,h2⟩:=vV t (i:=i) (b:=b) (by simpa using h);exact⟨a,by simpa using h1,h2⟩
theorem vU{α β:Type}{F:α->β->Prop}: ∀{l:List α} {m:List β},Paired F l m->l.length=m.length
 |_,_,.nil=>rfl
 |_,_,.cons r t=>by simp[vU t]
theorem qH: ∀{l:List (Int×V)} {m:List (Int×Value)},Paired (fun(z:Int×V) (e:Int×Value)=>z.1=e.1/\RelV z.2 e.2) l m->l.map (·.1)=m.map (·.1)
 |_,_,.nil=>rfl
 |_,_,.cons r t=>by rw[iw,iw,r.1,qH t]
theorem SetV.srch(I:Inv X pins σ H s){O O':AP'}{a:fV}{vs:List D}{es n t l}(S:SetV X H O s.heap a vs es n t l)(hok:vs.all okS=true){d:D}{v:V}{u:gi}(hd:iE X.K H O' d v)(ru:RelV v u)(t6:okS d=true){A:gv}(hA:A.units+60<cLine):
  ∃b,u= .ref b/\TT.Srch A s a es n t u d.hash (fun i=>match l[i]? with|some p=>D.eqb p.1 d|none=>false):=by
 obtain⟨ld,rfl⟩:=mv t6;obtain⟨b,xs,rfl,q,r⟩:=jr hd;cases ru;have hdp:=nC t6;have eh:=oQ t6;have mem: ∀p∈l,okS p.1=true:=fun p hp=>lC.mp hok _ (S.perm.mem_iff.mp (qr hp))
 have at_: ∀(i:Nat) (e:Int×Value),es[i]?=some e-> ∃p,l[i]?=some p/\p∈l/\D.hash p.1=e.1/\RelV p.2 e.2:=fun i e he=>by
  obtain⟨z,h1,h2,h3⟩:=vV S.par (i:=i) (b:=e) (by rw[jS];exact he);rw[iN] at h1
  cases hl:l[i]? with
  |none=>rw[hl] at h1;cases h1
  |some p=>rw[hl] at h1;cases h1;exact⟨p,rfl,kK hl,h2,h3⟩
 have hqu: ∀(e:D) (y:V) (uu:gi) (OO:AP') (B:gv) (P:gw) (W:gm) (Q:qU) (E:gD),okS e=true->iE X.K H OO e y->RelV y uu->Q true s->wpAny (model P W) B (eqIsQuiet 8 uu) Q E s:=fun e y uu OO B P W Q E ho hv hr hq=>by
  obtain⟨le,rfl⟩:=mv ho;rcases hv with hv|⟨_,_,hv⟩
  ·exact KJ I 8 _ _ _ OO B E Q hv hr (oQ ho) (by have:=nC ho;omega) hq
  ·exact hv.elim
 have x8: ∀(e:D) (y:V) (uu:gi) (OO:AP') (B:gv) (P:gw) (W:gm) (Q:qU) (E:gD),okS e=true->iE X.K H OO e y->RelV y uu->Q false s->wpAny (model P W) B (ofAClassStatement 8 uu) Q E s:=fun e y uu OO B P W Q E ho hv hr hq=>by
  obtain⟨le,rfl⟩:=mv ho;rcases hv with hv|⟨_,_,hv⟩
  ·exact F7 I 8 _ _ _ OO B E Q hv hr (oQ ho) (by have:=nC ho;omega) hq
  ·exact hv.elim
 refine⟨b,rfl,⟨_,S.is.at_,rfl⟩,S.is.tab,fun i e he=>?_,fun i e he=>?_,fun i e he hq=>?_,fun ls prog w E Q hls hq=>?_⟩
 ·obtain⟨p,h1,h2,h3,h4⟩:=at_ i e he;obtain⟨lp,hp⟩:=mv (mem p h2);have:=S.rep p h2;rw[hp] at this;obtain⟨c,xs,e1,_⟩:=this.tup;rw[e1] at h4;exact⟨c,h4⟩
 ·obtain⟨p,h1,h2,h3,h4⟩:=at_ i e he;rw[h1];have:=nC (mem p h2);exact wI I 50 p.1 (.tup ld) p.2 (.ref b) _ _ O O' A (.inl (S.rep p h2)) hd h4 rfl (by omega) (by omega) (by omega)
 ·obtain⟨p,h1,h2,h3,h4⟩:=at_ i e he;rw[h1] at hq;rw[(DP (oQ (mem p h2)) eh).mp hq] at h3;exact h3.symm
 ·unfold searchCouldBeSeen;refine fW ?_;refine ng _ (fun gP rr s'=>rr.1=none/\s'=s/\ ∀v∈gP,∃e∈es.toList,e.2=v) _ ?_ ?_ _ _ ⟨rfl,rfl,hls⟩
  ·rintro y gP rr s' ⟨h0,rfl,hm⟩;have hrest: ∀v∈gP,∃e∈es.toList,e.2=v:=fun v hv=>hm v (hU _ hv);obtain⟨e,he,rfl⟩:=hm y ic;obtain⟨i,hi⟩:=pZ he;rw[jS] at hi;obtain⟨p,h1,h2,h3,h4⟩:=at_ i e hi;obtain⟨lp,hp⟩:=mv (mem p h2);have ee:=S.rep p h2
   obtain⟨c,ec⟩: ∃c,e.2= .ref c:=by
    rw[hp] at ee;obtain⟨c,xs,e1,_⟩:=ee.tup;rw[e1] at h4;exact⟨c,h4⟩
   rw[ec] at h4 ⊢;dsimp only;split
   ·exact gg ⟨rfl,rfl,hrest⟩
   ·refine fW (hqu _ _ _ O' A prog w _ _ t6 hd rfl ?_);simp only[kJ,hC,ik];refine fW (hqu _ _ _ O A prog w _ _ (mem p h2) (.inl ee) h4 ?_);simp only[kJ,hC,ik];refine fW (x8 _ _ _ O' A prog w _ _ t6 hd rfl ?_);simp only[hC,ik];refine fW (x8 _ _ _ O A prog w _ _ (mem p h2) (.inl ee) h4 ?_);simp only[hC,ik];exact gg ⟨rfl,rfl,hrest⟩
  ·rintro⟨r1,r2⟩ s' ⟨h0,rfl,_⟩;simp only at h0;subst h0;exact gg hq
theorem OthB.setV(I:Inv X pins σ H s)(h:OthB X.K (H a) .set ks vs us)(r:RepL X.K H O vs us): ∃es n t l,SetV X H O s.heap a vs es n t l:=by
 obtain⟨_,zs,e,p⟩:=h;obtain⟨es,n,t,h1,h2,h3,h4,h5⟩:=(show ObjOk X.prog X.w H s.heap a (.stt zs) from I.hok a _ e)
 rw[vq] at p;obtain⟨l,p1,rfl⟩:=kU hv p _ rfl;refine⟨es,n,t,l,⟨h1,by rw[<-qH h2];exact h3,h4,h5⟩,?_,fun q hq=>r.zip q (p1.mem_iff.mp hq),h2⟩;have:=p1.map (·.1);rw[List.map_fst_zip (by rw[r.length];exact gQ _)] at this;exact this
theorem SetV.objOk{es n t l}(S:SetV X H O h a vs es n t l):ObjOk X.prog X.w H' h a (.stt (l.map hv)):=
 ⟨es,n,t,S.is.at_,S.par,by rw[qH S.par];exact S.is.tab,S.is.plain,S.is.led⟩
theorem SetV.lens{es n t l}(S:SetV X H O h a vs es n t l):es.size=vs.length/\l.length=vs.length:=by
 have h1:=vU S.par;have h2:=S.perm.length_eq;simp only[iq,iG] at h1 h2;omega
theorem SetV.oth{O:AP'}{h:gz}{a:fV}{vs:List D}{es n t l}(S:SetV X H O h a vs es n t l){K H'}{O':AP'}(hr: ∀p∈l,Rep K H' O' p.1 p.2)(hH:H' a=some (.stt (l.map hv))): ∃us,OthB K (H' a) .set [] vs us/\RepL K H' O' vs us:=by
 obtain⟨l',p1,p2⟩:=kU (·.1) S.perm.symm l rfl;refine⟨l'.map (·.2),⟨rfl,l.map hv,hH,?_⟩,?_⟩
 ·rw[p2,vq]
  have:(l'.map (·.1)).zip (l'.map (·.2))=l':=by
   clear p1 p2
   induction l' with
   |nil=>rfl
   |cons x l ih=>rw[iw,iw,qv,ih]
  rw[this];exact(p1.map hv).symm
 ·rw[p2];exact RepL.ofZip fun p hp=>hr p (p1.mem_iff.mp hp)
theorem SetV.add(I:Inv X pins σ H s){es n t l}(S:SetV X H O s.heap a vs es n t l)(hok:vs.all okS=true)(hd:iE X.K H O' d v)(aE:Rep X.K H O d v)(ru:RelV v u)(t6:okS d=true)(hz:vs.length<500)
  (hA:A.units+60<cLine) 
  (h: ∀r h' tk es' n' t' l',s.toks<=tk->Heap.SameBut a s.heap h'->SetV X H O h' a (Ak vs d) es' n' t' l'->Q r {s with heap:=h',toks:=tk}):wpAny (model X.prog X.w) A (setAdd a u) Q E s:=by
 obtain⟨bJ,aM⟩:=S.lens;unfold setAdd;refine kL (fW (JH 50 I d v u O A E _ aE ru (oQ t6) (by have:=nC t6;omega) (by omega) fun tk bC=>?_));have I1:Inv X pins σ H {s with toks:=tk}:=I.kept (h':=s.heap) (t':=tk) fun _ _ e=>e;obtain⟨b,rfl,Sr⟩:=SetV.srch (s:={s with toks:=tk}) I1 S hok hd ru t6 hA;have mem: ∀p∈l,p.1∈vs:=fun p hp=>S.perm.mem_iff.mp (qr hp);refine TT.QD Sr S.is.at_ S.is.plain (by omega) (fun Q' hq=>PY I1 8 d v _ O A E Q' aE ru (oQ t6) (by have:=nC t6;omega) hq) (fun⟨i,hi,hq⟩=>?_) (fun af h' es' n' t' g1 g2 g3 g4 g5 g6=>?_)
 ·have:Ak vs d=vs:=by
   unfold Ak
   cases hl:l[i]? with
   |none=>rw[hl] at hq;cases hq
   |some p=>
    rw[hl] at hq;rw[gh (List.any_eq_true.mpr ⟨p.1,mem p (kK hl),hq⟩)]
  exact h false s.heap tk es n t l bC (BW a s.heap) (by rw[this];exact S)
 ·have ax:vs.any (D.eqb · d)=false:=by
   rw[List.any_eq_false];intro x hx;have bB:=S.perm.mem_iff.mpr hx;obtain⟨p,hp,rfl⟩:=oA.mp bB;obtain⟨i,hi⟩:=pZ hp;have:=af i (by have:=(qR.mp hi).1;omega);rw[hi] at this;simpa using this
  have hadd:Ak vs d=vs++[d]:=by unfold Ak;rw[ax,gk iB]
  have par:Paired (fun(z:Int×V) (e:Int×Value)=>z.1=e.1/\RelV z.2 e.2) (((d,v)::l).map hv) ((d.hash,Value.ref b)::es.toList):= .cons ⟨rfl,ru⟩ S.par;obtain⟨z',p1,p2⟩:=uc g3 par;obtain⟨l',p3,rfl⟩:=kU hv p2 _ rfl;refine h true h' tk es' n' t' l' bC g1 ⟨⟨g2,g4,g5,g6.trans S.is.led⟩,?_,fun p hp=>?_,p1⟩
  ·rw[hadd];refine(p3.map (·.1)).trans ?_;rw[iw];exact(S.perm.cons d).trans (G0 d vs).symm
  ·rcases jt.mp (p3.mem_iff.mp hp) with rfl|hp
   ·exact aE
   ·exact S.rep p hp
theorem Ot:bootBuiltins "set"=some (.type "set"):=by decide+kernel
theorem Oa(I:Inv X pins σ H s){es n t l}(S:SetV X H O s.heap a vs es n t l)(hok:vs.all okS=true)(hd:iE X.K H O d v)(ru:RelV v u)(t6:okS d=true)(hA:A.units+60<cLine) 
  (h: ∀tk,Q (vs.any (D.eqb · d)) {s with toks:=tk}):wpAny (model X.prog X.w) A (setContains a u) Q E s:=by
 obtain⟨bJ,aM⟩:=S.lens
 have aE:Rep X.K H O d v:=by
  obtain⟨ld,rfl⟩:=mv t6;rcases hd with hd|⟨_,_,hd⟩
  ·exact hd
  ·exact hd.elim
 unfold setContains;refine kL (fW (JH 50 I d v u O A E _ aE ru (oQ t6) (by have:=nC t6;omega) (by omega) fun tk bC=>?_));have I1:Inv X pins σ H {s with toks:=tk}:=I.kept (h':=s.heap) (t':=tk) fun _ _ e=>e;obtain⟨b,rfl,Sr⟩:=SetV.srch (s:={s with toks:=tk}) I1 S hok hd ru t6 hA;have mem: ∀p∈l,p.1∈vs:=fun p hp=>S.perm.mem_iff.mp (qr hp);refine fW (TT.P7 Sr S.is.at_ (fun i hi hq=>?_) fun af=>?_)
 ·have:vs.any (D.eqb · d)=true:=by
   cases hl:l[i]? with
   |none=>rw[hl] at hq;cases hq
   |some p=>rw[hl] at hq;exact List.any_eq_true.mpr ⟨p.1,mem p (kK hl),hq⟩
  have hh:=h tk;rw[this] at hh;exact gg hh
 ·have:vs.any (D.eqb · d)=false:=by
   rw[List.any_eq_false];intro x hx;have bB:=S.perm.mem_iff.mpr hx;obtain⟨p,hp,rfl⟩:=oA.mp bB;obtain⟨i,hi⟩:=pZ hp;have:=af i (by have:=(qR.mp hi).1;omega);rw[hi] at this;simpa using this
  have hh:=h tk;rw[this] at hh;exact gg hh
theorem DT(I:Inv X pins σ H s){es n t l}(S:SetV X H O s.heap a vs es n t l)(hok:vs.all okS=true)(hd:iE X.K H O d v)(ru:RelV v u)(t6:okS d=true)(hA:A.units+61<cLine) 
  (h: ∀tk,Q (vs.any (D.eqb · d)) {s with toks:=tk}):wpAny (model X.prog X.w) A (contains (.ref a) u) Q E s:=by
 have hT:=S.is.typeIs;unfold contains;refine kL (fW (qt hT GF.lookup ?_));change wpAny _ _ (if(some (Value.builtin "set.__contains__")==some Value.none)=true then _ else _) _ E s;rw[gk (by rw[beq_builtin_none];exact iB)];refine fW (wpAny_callSpecialUnlessNone?_slot (name:=Str.ofString "__contains__") hT GF (kX GF hT entry_set_contains ?_ (PySem.F.args_set_contains_2 _ _)));unfold Builtin.«frozenset.__contains__» Builtin.Frozenset.oneOther;simp only[sG,qa];unfold Builtin.Frozenset.addrOf Builtin.Frozenset.withSetAsKey;refine fW (gg ?_);dsimp only;refine fW (gg ?_);dsimp only;refine fW (wpAny_tryCatch ?_);refine Oa I S hok hd ru t6 (by show A.units+1+60<cLine;omega) fun tk=>?_;exact gg ⟨_,rfl,oK (h tk)⟩
def inX(d e:D):Option Bool:=match e with
 | .oth .set [] vs=>if vs.all okS=true/\okS d=true then some (vs.any (D.eqb · d)) else none
 |_=>inD d e
def sd(d e:D):Option (D×Bool):=(inX d e).map fun b=>(.bl (!b),false)
theorem Di(hu:X.A.units+62<cLine):OpR X (compareOp .NotIn) (rD X.K sd):=by
 intro pins s σ H x y v u Q I rx ry h;obtain⟨O,d,e,z,np,h1,h2,hg,G⟩:=h;obtain⟨b,hb,rfl⟩:=hG hg;by_cases hs: ∃vs,e= .oth .set [] vs
 ·obtain⟨vs,rfl⟩:=hs;obtain⟨⟨ho,hd⟩,rfl⟩:=gM (show(if vs.all okS=true/\okS d=true then some (vs.any (D.eqb · d)) else none)=some b from hb);obtain⟨a,us,rfl,q,r⟩:=mP h2;cases ry;obtain⟨es,n,t,l,S⟩:=q.setV I r;change wpAny _ _ (contains (.ref a) v>>=fun b=>pure (Value.bool (!b))) _ _ s;refine fW (DT I S ho h1 rx hd (by omega) fun tk=>?_);exact gg ⟨.bl _,H,I.kept (h':=s.heap) (t':=tk) fun _ _ e=>e,rfl,G.bl⟩
 ·have:inD d e=some b:=by
   unfold inX at hb;split at hb
   ·exact absurd ⟨_,rfl⟩ hs
   ·exact hb
  exact F4 (by omega) pins s σ H x y v u Q I rx ry ⟨O,d,e,b,h1,h2,this,G.bl⟩
end
theorem Bu{x:D}: ∀{l:List D},l.Pairwise (fun a b=>ltT b a=false)->(uB ltT x l).Pairwise (fun a b=>ltT b a=false)
 |[],_=>yQ _ _
 |y::l,h=>by
  rw[nX] at h;have W:=MJ fun i:Nat=>match i with|0=>x|1=>y|_=>x
  rw[uB]
  cases hl:ltT y x with
  |true=>
   rw[gh rfl,nX];refine⟨fun z hz=>?_,Bu h.2⟩;rcases jt.mp ((pL ltT x l).mem_iff.mp hz) with rfl|hz
   ·rw[DA] at hl;rw[kN,jQ,hl];simp
   ·exact h.1 z hz
  |false=>
   rw[gk iB,nX];refine⟨fun z hz=>?_,nX.mpr h⟩;rcases jt.mp hz with rfl|hz
   ·exact hl
   ·have h1:=h.1 z hz;rw[kN] at h1 hl ⊢;have a1:cT x y≠ .gt:=by rw[jQ y x];cases hc:cT y x<;>simp_all
    have a2:cT y z≠ .gt:=by rw[jQ z y];cases hc:cT z y<;>simp_all
    have a3:=pj x y z a1 a2;rw[jQ x z];cases hc:cT x z<;>simp_all
theorem pC: ∀l:List D,(lD ltT l).Pairwise (fun a b=>ltT b a=false)
 |[]=> .nil
 |x::l=>by rw[lD];exact Bu (pC l)
theorem HV(hp:l.Perm m)(eh: ∀x∈l,D.pr x=true):lD ltT l=lD ltT m:=by
 refine G3 (fun x y hx hy h1 h2=>?_) (pC l) (pC m) ((jo ltT l).trans (hp.trans (jo ltT m).symm));have px:=eh x ((jo ltT l).mem_iff.mp hx);have py:=eh y (hp.mem_iff.mpr ((jo ltT m).mem_iff.mp hy));rw[kN] at h1 h2;refine sx x y px py ?_;rw[jQ x y] at h1;cases hc:cT x y<;>simp_all
theorem FD{k:Nat}{l:List D}(h:SortsBy k l):lR l=true:=by
 unfold lR;rw[uW];right
 cases l with
 |nil=>rfl
 |cons x m=>
  simp only[ki,lC,pY];refine⟨⟨by rw[h.hd x ic];rfl,fun y hy=>⟨⟨?_,h.pr y hy⟩,h.dp y hy⟩⟩,fun y hy z hz=>h.cm y hy z hz⟩;rw[h.hd x ic,h.hd y hy];simp
theorem AO(hp:l.Perm m)(h:lR m=true):lR l=true:=by
 rcases xG h with hl|⟨k,B⟩
 ·unfold lR;rw[uW];left;rw[hp.length_eq];simpa using hl
 ·exact FD (k:=k) ⟨fun x hx=>B.hd x (hp.mem_iff.mp hx),fun x hx=>B.pr x (hp.mem_iff.mp hx),fun x hx=>B.dp x (hp.mem_iff.mp hx),fun x hx y hy=>B.cm x (hp.mem_iff.mp hx) y (hp.mem_iff.mp hy)⟩
def oW(d:D):Option (D×Bool):=match d with
 | .oth .set [] vs=>if vs.all okS=true then iP vs else none
 |_=>rZ d
section
variable {X:Cx}
theorem Aa(hc:X.calm=true)(hu:X.A.units+62<cLine):iV X (.builtin "sorted") (rDn X.K (g1 oW)):=nL fun pins s σ H x u Q O d z I ru np hd hg G=>by
 by_cases hs: ∃vs,d= .oth .set [] vs
 ·obtain⟨vs,rfl⟩:=hs;have w9:(if vs.all okS=true then iP vs else none)=some z:=hg;split at w9
  ·rename_i hok;obtain⟨a,us,rfl,q,r⟩:=mP hd;cases ru;obtain⟨es,n,t,l,S⟩:=q.setV I r;obtain⟨bJ,aM⟩:=S.lens;have wp:=TT.BV X.w a n es;obtain⟨z',p1,p2⟩:=uc wp S.par;obtain⟨l',p3,rfl⟩:=kU hv p2 _ rfl;have rr:RepL X.K H O (l'.map (·.1)) (l'.map (·.2)):=RepL.ofZip fun p hp=>S.rep p (p3.mem_iff.mp hp)
   have vv:Vals (l'.map (·.2)) ((TT.lj X.w a n es).toList.map (·.2)):=by
    clear p2 p3 rr wp;generalize (TT.lj X.w a n es).toList=m at p1;revert p1;generalize hz:l'.map hv=zz;intro p1
    induction p1 generalizing l' with
    |nil=>
      have:l'=[]:=by simpa using hz
      subst this;exact .nil
    |cons r t ih=>
     cases l' with
     |nil=>simp at hz
     |cons p l'=>
      simp only[iw,List.cons.injEq] at hz;rw[iw,iw];refine .cons ?_ (ih l' hz.2);have:=r.2;rw[<-hz.1] at this;exact this
   have y4:(l'.map (·.1)).Perm vs:=(p3.map (·.1)).trans S.perm
   have cP:iP (l'.map (·.1))=some z:=by
    unfold iP at w9 ⊢;obtain⟨⟨h1,h2⟩,rfl⟩:=gM w9;rw[gh ⟨AO y4 h1,by rw[y4.length_eq];exact h2⟩,HV y4 fun x hx=>oQ (lC.mp hok x (y4.mem_iff.mp hx))]
   have hh:X.A.handled=none:=I.ok.hd hc
   have hz:es.size<=sizeLine:=by
    unfold iP at w9;rw[bJ];exact(gM w9).1.2
   exact mR hu I rr vv cP G fun Q' E' A' dG hQ=>TT.L3 (by rw[dG];exact hh) S.is hz fun h' tk k=>hQ h' tk k
  ·cases w9
 ·have w9:g1 rZ [d]=some z:=by
   have:oW d=rZ d:=by
    unfold oW;split
    ·exact absurd ⟨_,rfl⟩ hs
    ·rfl
   show rZ d=some z;rw[<-this];exact hg
  exact Ab hu pins s σ H [x] [u] Q I (.cons ru .nil) ⟨O,[d],z,np,rfl,(fun j d' v' a b=>by
   cases j with
   |zero=>simp at a b;subst a;subst b;exact hd
   |succ j=>simp at a),w9,G⟩
end
def xj:D->Option Key
 | .int i=>some (.inl i)
 | .str x=>some (.inr x)
 |_=>none
def Br:List D->Option (List Key)
 |[]=>some []
 |d::l=>(xj d).bind fun k=>(Br l).map (k:: ·)
def wo:D->Option (List Key)
 | .tup l=>Br l
 |_=>none
theorem mW(h:xj d=some k):d=iz k:=by
 cases d<;>simp[xj] at h<;>subst h<;>rfl
theorem Bp: ∀{l:List D} {ks:List Key},Br l=some ks->l=ks.map iz
 |[],ks,h=>by cases h;rfl
 |d::l,ks,h=>by
  rw[Br] at h;obtain⟨k,h1,h⟩:=fU h;obtain⟨m,h2,rfl⟩:=hG h;rw[mW h1,Bp h2];rfl
theorem oV(h:wo d=some ks):d= .tup (ks.map iz):=by
 cases d with
 |tup l=>rw[Bp (show Br l=some ks from h)]
 |_=>cases h
theorem sj(a b:Key):D.eqb (iz a) (iz b)=decide (a=b):=by
 cases a with
 |inl i=>cases b with
  |inl j=>simp only[iz,D.eqb,Jz]
  |inr y=>simp only[iz,D.eqb,Jy]
 |inr x=>cases b with
  |inl j=>simp only[iz,D.eqb,Jx]
  |inr y=>simp only[iz,D.eqb,Jw];rfl
theorem pP: ∀a b:List Key,D.eqbL (a.map iz) (b.map iz)=decide (a=b)
 |[],[]=>by simp[D.eqbL]
 |[],_::_=>by simp[D.eqbL]
 |_::_,[]=>by simp[D.eqbL]
 |x::a,y::b=>by
  simp only[iw];rw[D.eqbL,sj,pP a b];simp only[List.cons.injEq,Bool.decide_and]
def kj:List D->List D->D->Option D
 |k'::ks,v::vs,k=>if D.eqb k' k=true then some v else kj ks vs k
 |_,_,_=>none
def qh:List D->List D->D->D->List D
 |k'::ks,v::vs,k,w=>(if D.eqb k' k=true then w else v)::qh ks vs k w
 |_,vs,_,_=>vs
def pU(ks vs:List D)(k w:D):List D×List D:=if ks.any (D.eqb · k)=true then(ks,qh ks vs k w) else(ks++[k],vs++[w])
def rX(ks:List D)(k:D):Bool:=((xj k).isSome&&ks.all fun x=>(xj x).isSome)||((wo k).isSome&&ks.all fun x=>(wo x).isSome)
section
variable {K:gu}{H:Hp}{O:AP'}
theorem A4(h:Rep K H O (iz k) v):v=kV k:=by
 cases k with
 |inl i=>exact Rep.int h
 |inr x=>exact Rep.str h
theorem xQ: ∀{ks:List Key} {vs:List V},RepL K H O (ks.map iz) vs->vs=ks.map kV
 |[],vs,h=>by rw[oH,RepL] at h;exact h
 |k::ks,vs,h=>by
  rw[iw,RepL] at h;obtain⟨v,r,rfl,h1,h2⟩:=h;rw[A4 h1,xQ h2];rfl
theorem pz(hk:xj d=some k)(h:iE K H O d v):v=kV k:=by
 rw[mW hk] at h;rcases h with h|⟨a,rfl,h⟩
 ·exact A4 h
 ·cases k<;>exact h.elim
theorem mQ(hk:wo d=some ks)(h:iE K H O d v): ∃b,v= .ref b/\H b=some (.tup (ks.map kV)):=by
 rw[oV hk] at h;rcases h with h|⟨a,rfl,h⟩
 ·obtain⟨b,xs,rfl,q,r⟩:=h.tup;rw[xQ r] at q;exact⟨b,rfl,q.1⟩
 ·exact h.elim
theorem Jq{k:Key}: ∀{kvs:List (Key×V)} {vs:List D},RepL K H O vs (kvs.map (·.2))->(∀d,kj (kvs.map fun p=>iz p.1) vs (iz k)=some d-> ∃v,nZ kvs k=some v/\Rep K H O d v)/\(kj (kvs.map fun p=>iz p.1) vs (iz k)=none->nZ kvs k=none)
 |[],vs,_=>⟨fun d h=>by cases vs<;>simp[kj] at h,fun _=>rfl⟩
 |(k',v)::kvs,[],h=>by rw[iw,RepL] at h;cases h
 |(k',v)::kvs,d'::vs,h=>by
  rw[iw,RepL] at h;obtain⟨w,r,e,h1,h2⟩:=h;obtain⟨rfl,rfl⟩:=uZ e;obtain⟨i1,i2⟩:=Jq (k:=k) h2;simp only[iw,kj,sj];by_cases hk:k'=k
  ·simp only[hk,decide_true,gS];exact⟨fun d h=>by cases h;exact⟨v,oN (p:=(k,v)) rfl,h1⟩,fun h=>by cases h⟩
  ·simp only[hk,decide_false,hC,ik];refine⟨fun d h=>?_,fun h=>?_⟩
   ·obtain⟨u,h3,h4⟩:=i1 d h;exact⟨u,by rw[lQ (p:=(k',v)) hk];exact h3,h4⟩
   ·rw[lQ (p:=(k',v)) hk];exact i2 h
theorem Jp{k:List Key}: ∀{kvs:List (List Key×V)} {vs:List D},RepL K H O vs (kvs.map (·.2))->(∀d,kj (kvs.map fun p=> .tup (p.1.map iz)) vs (.tup (k.map iz))=some d-> ∃v,nZ kvs k=some v/\Rep K H O d v)/\(kj (kvs.map fun p=> .tup (p.1.map iz)) vs (.tup (k.map iz))=none->nZ kvs k=none)
 |[],vs,_=>⟨fun d h=>by cases vs<;>simp[kj] at h,fun _=>rfl⟩
 |(k',v)::kvs,[],h=>by rw[iw,RepL] at h;cases h
 |(k',v)::kvs,d'::vs,h=>by
  rw[iw,RepL] at h;obtain⟨w,r,e,h1,h2⟩:=h;obtain⟨rfl,rfl⟩:=uZ e;obtain⟨i1,i2⟩:=Jp (k:=k) h2;simp only[iw,kj,D.eqb,pP];by_cases hk:k'=k
  ·simp only[hk,decide_true,gS];exact⟨fun d h=>by cases h;exact⟨v,oN (p:=(k,v)) rfl,h1⟩,fun h=>by cases h⟩
  ·simp only[hk,decide_false,hC,ik];refine⟨fun d h=>?_,fun h=>?_⟩
   ·obtain⟨u,h3,h4⟩:=i1 d h;exact⟨u,by rw[lQ (p:=(k',v)) hk];exact h3,h4⟩
   ·rw[lQ (p:=(k',v)) hk];exact i2 h
end
section
variable {P:gw}{w:gm}{H H':Hp}{h:gz}{a:fV}
theorem MB(x:ObjOk P w H h a (.dT [])):ObjOk P w H' h a (.dK []):=by
 obtain⟨z,y,xs,r,o,es,ep,h1,h2,h3,h4,h5⟩:=x;cases r
 have:es= #[]:=by
  have:es.toList=[]:=by simpa using h4
  exact OJ.mp this
 subst this;refine⟨z,y,[],.nil,o,#[],ep,h1,h2,h3,?_,?_,rk⟩
 ·first|exact fun e he=>by simp at he|(intro;simp)
 ·first|exact .nil|trivial|simp[Pairs]
theorem MC(x:ObjOk P w H h a (.dK [])):ObjOk P w H' h a (.dT []):=by
 obtain⟨z,y,vs,r,o,es,ep,h1,h2,h3,h4,h5,h6⟩:=x;cases r
 have:es= #[]:=by
  have hl:es.toList.length=0:=by
   first
    |simpa using h5.length
    |simpa using(tJ h5)
    |(
      cases he:es.toList with
      |nil=>rfl
      |cons e l=>rw[he] at h5;cases h5)
  exact OJ.mp (Md.mp hl)
 subst this;exact⟨z,y,[],.nil,o,#[],ep,h1,h2,h3,rfl,rk⟩
end
section
variable {X:Cx}{pins:gG}{σ:L2.St}{H:Hp}{s:gb}
theorem Gj{A:gv}{E:gD}(I:Inv X pins σ H s){H':Hp}{a:fV}{k:Key}{u:gi}{Q:gD}(x:ObjOk X.prog X.w H' s.heap a (.dK []))(ry:RelV (kV k) u)(neg:Bool)(h: ∀s',Inv X pins σ H s'->Q (.bool neg) s'):
  wpAny (model X.prog X.w) A (compareOp (if neg=true then .NotIn else .In) u (.ref a)) Q E s:=by
 obtain⟨z,hd,vs,rel,dd⟩:=x;cases rel
 cases neg with
 |false=>exact wpAny_in_of (yg ry) hd dd.mapOf (h _ (I.tok _))
 |true=>exact wpAny_notIn_of (yg ry) hd dd.mapOf (h _ (I.tok _))
theorem Gi{A:gv}{E:gD}(hu:A.units+1<cLine)(I:Inv X pins σ H s){H':Hp}{a b:fV}{k:List Key}{Q:gD}(x:ObjOk X.prog X.w H' s.heap a (.dT []))(eb:H b=some (.tup (k.map kV)))(neg:Bool)(h: ∀s',Inv X pins σ H s'->Q (.bool neg) s'):
  wpAny (model X.prog X.w) A (compareOp (if neg=true then .NotIn else .In) (.ref b) (.ref a)) Q E s:=by
 obtain⟨z,hd,xs,r,o,es,ep,h1,h2,h3,h4,h5⟩:=x;cases r;have dd:s.heap.DictOfH (tupleKind (iT X.prog X.w)) a []:=⟨o,es,ep,h1,h2,h3,h4,(fun x (hx:x∈[])=>by simp at hx),h5⟩
 cases neg with
 |false=>exact wpAny_in_heap (vc hu) (qL I.hok eb) hd dd (h _ (I.tok _))
 |true=>exact wpAny_notIn_heap (vc hu) (qL I.hok eb) hd dd (h _ (I.tok _))
theorem rW(h:rX ks k=true):(∃κ,xj k=some κ/\ ∀x∈ks,∃c,xj x=some c)\/(∃τ,wo k=some τ/\ ∀x∈ks,∃c,wo x=some c):=by
 unfold rX at h;rw[uW,ki,ki,lC,lC] at h;rcases h with⟨h1,h2⟩|⟨h1,h2⟩
 ·exact .inl ⟨_,(GH.mp h1).choose_spec,fun x hx=>GH.mp (h2 x hx)⟩
 ·exact .inr ⟨_,(GH.mp h1).choose_spec,fun x hx=>GH.mp (h2 x hx)⟩
theorem Ek{ks:List Key}{c:Key}(h:xj (.tup (ks.map iz))=some c):False:=by cases h
theorem Bs(h:wo (iz k)=some c):False:=by cases k<;>cases h
theorem Qf(hu:A.units+1<cLine)(I:Inv X pins σ H s)(q:OthB X.K (H a) .dct ks vs us)(r:RepL X.K H O vs us)(hk:rX ks k=true)(vk:iE X.K H O k y)(ry:RelV y u)(neg:Bool)
  (h: ∀s',Inv X pins σ H s'->Q (.bool (xor neg (kj ks vs k).isSome)) s'):wpAny (model X.prog X.w) A (compareOp (if neg=true then .NotIn else .In) u (.ref a)) Q E s:=by
 have nil: ∀vs:List D,kj [] vs k=none:=fun vs=>by cases vs<;>rfl
 rcases q with⟨kvs,e,rfl,rfl⟩|⟨kvs,e,rfl,rfl⟩
 ·rcases rW hk with⟨κ,h1,_⟩|⟨τ,h1,h2⟩
  ·have:=pz h1 vk;subst this;have aB:=mW h1;subst aB;obtain⟨l1,l2⟩:=Jq (k:=κ) r
   have ho:(nZ kvs κ).isSome=(kj (kvs.map fun p=>iz p.1) vs (iz κ)).isSome:=by
    cases hl:kj (kvs.map fun p=>iz p.1) vs (iz κ) with
    |none=>rw[l2 hl];rfl
    |some d=>obtain⟨v,h3,_⟩:=l1 d hl;rw[h3];rfl
   rw[<-ho] at h
   cases neg with
   |false=>exact Qg hu I (DGet.k e) ry fun s' I'=>by simpa using h s' I'
   |true=>exact Fd hu I (DGet.k e) ry fun s' I'=>by simpa using h s' I'
  ·have cf:kvs=[]:=by
    cases kvs with
    |nil=>rfl
    |cons p kvs=>obtain⟨c,hc⟩:=h2 (iz p.1) (by simp);exact(Bs hc).elim
   subst cf;obtain⟨b,rfl,eb⟩:=mQ h1 vk;cases ry;rw[oH,nil] at h;exact Gi hu I (MC (H':=H) (I.hok a _ e)) eb neg fun s' I'=>by simpa using h s' I'
 ·rcases rW hk with⟨κ,h1,h2⟩|⟨τ,h1,_⟩
  ·have cf:kvs=[]:=by
    cases kvs with
    |nil=>rfl
    |cons p kvs=>obtain⟨c,hc⟩:=h2 (.tup (p.1.map iz)) (by simp);exact(Ek hc).elim
   subst cf;have:=pz h1 vk;subst this;rw[oH,nil] at h;exact Gj I (MB (H':=H) (I.hok a _ e)) ry neg fun s' I'=>by simpa using h s' I'
  ·obtain⟨b,rfl,eb⟩:=mQ h1 vk;have aB:=oV h1;subst aB;obtain⟨l1,l2⟩:=Jp (k:=τ) r
   have ho:(nZ kvs τ).isSome=(kj (kvs.map fun p=> .tup (p.1.map iz)) vs (.tup (τ.map iz))).isSome:=by
    cases hl:kj (kvs.map fun p=> .tup (p.1.map iz)) vs (.tup (τ.map iz)) with
    |none=>rw[l2 hl];rfl
    |some d=>obtain⟨v,h3,_⟩:=l1 d hl;rw[h3];rfl
   rw[<-ho] at h
   cases neg with
   |false=>exact Qg hu I (DGet.t e eb) ry fun s' I'=>by simpa using h s' I'
   |true=>exact Fd hu I (DGet.t e eb) ry fun s' I'=>by simpa using h s' I'
end
section
variable {X:Cx}
def My:F:=fun δ=>some ((.oth .dct [] [],true),δ)
theorem K6{pos:Pos}:PX X (.Dict [] [] pos) My:=PX.imp IY fun σ H Q hw=>by
 obtain⟨δ,T,rr,δ',E,e,k⟩:=hw;cases e;intro p hp;have B:=Ops.nil E;exact(B.done k) p _ hp (jm hp) ⟨[],.inl ⟨[],gy,rfl,rfl⟩,RepL.nil⟩
end
section
variable {K:gu}{T:AP'}{σ:L2.St}{δ:Dn}{H:Hp}{i:Nat}{d0 d':D}{a:fV}{o:HO}
theorem OwnI.writeG{j:Nat}{b:fV}(hd:δ[i]?=some (some (d0,true)))(h:OwnI σ (δ.set i (some (d',true))) j b):OwnI σ δ j b:=by
 obtain⟨e,h1,h2⟩:=h;rcases jz h1 with⟨rfl,_,_⟩|⟨_,q⟩
 ·exact⟨_,hd,h2⟩
 ·exact⟨e,q,h2⟩
theorem ER.writeG(E:ER K H T σ δ)(hd:δ[i]?=some (some (d0,true)))(hs:σ[i]?=some (some (.ref a)))(r:OwnOk K (upd H a o) (fun b=>OwnA σ δ b\/T b) d' a):
  ER K (upd H a o) T σ (δ.set i (some (d',true)))/\Keep σ δ H (δ.set i (some (d',true))) (upd H a o):=by
 have hi:i<δ.length:=(qR.mp hd).1;have oa:OwnA σ δ a:=⟨i,_,hd,hs⟩
 have y7: ∀b,OwnA σ (δ.set i (some (d',true))) b->OwnA σ δ b:=fun b ⟨j,e,h1,h2⟩=>by
  obtain⟨e',q1,q2⟩:=OwnI.writeG hd ⟨e,h1,h2⟩;exact⟨j,e',q1,q2⟩
 have kp: ∀b u,H b=some u-> ¬(OwnA σ δ b\/T b)->upd H a o b=some u:=fun b u e n=>by rw[gA (by intro z;subst z;exact n (.inl oa))];exact e
 have dm: ∀b,H b≠none->upd H a o b≠none:=fun b z=>by
  by_cases hb:b=a
  ·subst hb;rw[gy];simp
  ·rw[gA hb];exact z
 have sub: ∀b,(OwnA σ (δ.set i (some (d',true))) b\/T b)->OwnA σ δ b\/T b:=fun b z=>z.imp (y7 b) id;refine⟨⟨by rw[qc];exact E.len,fun j e hj=>?_,fun j e hj=>?_,fun j k e f b hj hk h1 h2=>?_,fun b z=>E.nT b (y7 b z),fun b z=>by have ne:b≠a:=fun e=>E.nT a oa (e▸z);rw[gA ne];exact E.dom b z⟩,⟨fun b u e n=>by rw[gA (by intro z;subst z;exact n oa)];exact e,fun j b z=>OwnI.writeG hd z,dm⟩⟩
 ·rcases jz hj with⟨_,_,q⟩|⟨_,q⟩
  ·cases q
  ·obtain⟨w,w1,w2⟩:=E.val j e q;exact⟨w,w1,Rep.mono kp (fun b _ z=>sub b z) w2⟩
 ·rcases jz hj with⟨rfl,_,q⟩|⟨ne,q⟩
  ·cases q;exact⟨a,hs,r.mono (fun _ _ e _=>e) (fun b _ z=>sub b z) fun _ e=>e⟩
  ·obtain⟨b,w1,w2⟩:=E.own j e q;refine⟨b,w1,w2.mono kp (fun b _ z=>sub b z) fun u eo=>?_⟩;rw[gA]
   ·exact eo
   ·intro z;subst z;exact ne (E.inj i j _ _ _ hd q hs w1)
 ·obtain⟨e1,q1,q2⟩:=OwnI.writeG hd ⟨e,hj,h1⟩;obtain⟨e2,q3,q4⟩:=OwnI.writeG hd ⟨f,hk,h2⟩;exact E.inj j k e1 e2 b q1 q3 q2 q4
end
section
variable {X:Cx}{pins:gG}{σ:L2.St}{H:Hp}{s:gb}{a:fV}
theorem M6(I:Inv X pins σ H s)(e:H a=some (.dT [])):Inv X pins σ (upd H a (.dK [])) s:=by
 have:=pR (t':=s.toks) (h':=s.heap) I (by rw[e];exact True.intro) (BW a s.heap) (by obtain⟨z,y,xs,r,o,es,ep,h1,_⟩:=(show ObjOk X.prog X.w H s.heap a (.dT []) from I.hok a _ e);exact⟨o,h1⟩) (MB (H':=upd H a (.dK [])) (I.hok a _ e));exact this
theorem M5(I:Inv X pins σ H s)(e:H a=some (.dK [])):Inv X pins σ (upd H a (.dT [])) s:=by
 have:=pR (t':=s.toks) (h':=s.heap) I (by rw[e];exact True.intro) (BW a s.heap) (by obtain⟨z,y,xs,r,o,es,ep,h1,_⟩:=(show ObjOk X.prog X.w H s.heap a (.dK []) from I.hok a _ e);exact⟨o,h1⟩) (MC (H':=upd H a (.dT [])) (I.hok a _ e));exact this
def Po:Ma:=fun o i v H Q=> ∃a,o= .ref a/\((∃H',DPut H a i v H'/\Q H')\/(∃κ,H a=some (.dT [])/\i=kV κ/\Q (upd H a (.dK [(κ,v)])))\/
 (∃τ b,H a=some (.dK [])/\i= .ref b/\H b=some (.tup (τ.map kV))/\Q (upd H a (.dT [(τ,v)]))))
theorem HX(hu:X.A.units+1<cLine):OC X Po:=by
 intro pins s σ H o i v ov iv u Q I ro ri rv h;obtain⟨a,rfl,h⟩:=h;cases ro;rcases h with⟨H',g,q⟩|⟨κ,e,rfl,q⟩|⟨τ,b,e,rfl,eb,q⟩
 ·exact tY hu I g ri rv fun s' I'=>⟨H',I',q⟩
 ·refine tY hu (M6 I e) (DPut.k (k:=κ) (v:=v) gy (by rw[jd];decide)) ri rv fun s' I'=>⟨_,I',?_⟩
  rw[Ej];exact q
 ·have hb:b≠a:=Ji eb e (fun z=>nomatch z);refine tY hu (M5 I e) (DPut.t (k:=τ) (v:=v) (b:=b) gy (by rw[gA hb];exact eb) (by rw[jd];decide)) ri rv fun s' I'=>⟨_,I',?_⟩
  rw[Ej];exact q
end
section
variable {K:gu}{H:Hp}{O:AP'}
theorem Ic{k:Key}{w:D}{v:V}(hw:Rep K H O w v): ∀{kvs:List (Key×V)} {vs:List D},RepL K H O vs (kvs.map (·.2))->RepL K H O (qh (kvs.map fun p=>iz p.1) vs (iz k) w) ((kvs.map fun kv=>if kv.1=k then(kv.1,v) else kv).map (·.2))
 |[],vs,h=>by cases vs<;>simpa[qh] using h
 |(k',u)::kvs,[],h=>by rw[iw,RepL] at h;cases h
 |(k',u)::kvs,d'::vs,h=>by
  rw[iw,RepL] at h;obtain⟨x,r,e,h1,h2⟩:=h;obtain⟨rfl,rfl⟩:=uZ e;simp only[iw,qh,sj];refine RepL.cons ?_ (Ic hw h2);by_cases hk:k'=k
  ·simp only[hk,decide_true,gS];exact hw
  ·simp only[hk,decide_false,hC,ik];exact h1
theorem Ib{k:List Key}{w:D}{v:V}(hw:Rep K H O w v): ∀{kvs:List (List Key×V)} {vs:List D},RepL K H O vs (kvs.map (·.2))->RepL K H O (qh (kvs.map fun p=> .tup (p.1.map iz)) vs (.tup (k.map iz)) w) ((kvs.map fun kv=>if kv.1=k then(kv.1,v) else kv).map (·.2))
 |[],vs,h=>by cases vs<;>simpa[qh] using h
 |(k',u)::kvs,[],h=>by rw[iw,RepL] at h;cases h
 |(k',u)::kvs,d'::vs,h=>by
  rw[iw,RepL] at h;obtain⟨x,r,e,h1,h2⟩:=h;obtain⟨rfl,rfl⟩:=uZ e;simp only[iw,qh,D.eqb,pP];refine RepL.cons ?_ (Ib hw h2);by_cases hk:k'=k
  ·simp only[hk,decide_true,gS];exact hw
  ·simp only[hk,decide_false,hC,ik];exact h1
theorem Mo(hw:Rep K H O w v)(h:RepL K H O vs (kvs.map (·.2))):
  (pU (kvs.map fun p=>iz p.1) vs (iz k) w).1=(og kvs k v).map (fun p=>iz p.1)/\RepL K H O (pU (kvs.map fun p=>iz p.1) vs (iz k) w).2 ((og kvs k v).map (·.2)):=by
 have ha:(kvs.map fun p=>iz p.1).any (D.eqb · (iz k))=kvs.any fun kv=>decide (kv.1=k):=by
  rw[yX];congr 1;funext p;exact sj _ _
 unfold pU og;rw[ha];split
 ·refine⟨?_,Ic hw h⟩;rw[lu];apply oB;intro p _;simp only[Function.comp];split<;>rfl
 ·exact⟨by simp,by rw[qV];exact h.append (RepL.one hw)⟩
theorem Mn{k:List Key}{w:D}{v:V}(hw:Rep K H O w v){kvs:List (List Key×V)}{vs:List D}(h:RepL K H O vs (kvs.map (·.2))):
  (pU (kvs.map fun p=> .tup (p.1.map iz)) vs (.tup (k.map iz)) w).1=(og kvs k v).map (fun p=> .tup (p.1.map iz))/\RepL K H O (pU (kvs.map fun p=> .tup (p.1.map iz)) vs (.tup (k.map iz)) w).2 ((og kvs k v).map (·.2)):=by
 have ha:(kvs.map fun p=>D.tup (p.1.map iz)).any (D.eqb · (.tup (k.map iz)))=kvs.any fun kv=>decide (kv.1=k):=by
  rw[yX];congr 1;funext p;simp only[Function.comp,D.eqb,pP]
 unfold pU og;rw[ha];split
 ·refine⟨?_,Ib hw h⟩;rw[lu];apply oB;intro p _;simp only[Function.comp];split<;>rfl
 ·exact⟨by simp,by rw[qV];exact h.append (RepL.one hw)⟩
end
def xM(i:Nat)(f:F)(g:FO):FS:=fun δ=>(f δ).bind fun p=>match p.2[i]? with
 |some (some _)=>(g p.2).bind fun q=>match res q.2 q.1,q.2[i]? with
  |some k,some (some (.oth .dct ks vs,true))=>if rX ks k=true/\ks.length<10000 then some (.nx (q.2.set i (some (.oth .dct (pU ks vs k p.1.1).1 (pU ks vs k p.1.1).2,true)))) else none
  |_,_=>none
 |_=>none
section
variable {X:Cx}{e ix:gf}{f:F}{fo:FO}{pos b7 apos e9:Pos}{i:Nat}{x:Str}{A L:hZ}{H0:Hp}
theorem Iw{f7:Pos}(hu:X.A.units+1<cLine)(hv:PO X (.Name x b7) (fZ i))(he:PX X e f)(hi:PO X ix fo)
  (ha: ∀v,assign (.Subscript (.Name x b7) ix f7) X.env v=(do
   let ov <-holding [v] (eval (.Name x b7) X.env)
   let iv <-holding [v,ov] (eval ix X.env)
   standAt f7
   holding [v,ov,iv] (setItem ov iv v)
   release [v,ov,iv] []))
  (hs:swapsWithSole [.Subscript (.Name x b7) ix f7] e pos.line X.env=pure false)(hw:swappedStores [.Subscript (.Name x b7) ix f7] e X.env=pure none)
  (h1:(assignEach [.Subscript (.Name x b7) ix f7] X.env).map (·.2)=[assign (.Subscript (.Name x b7) ix f7) X.env]):
  PSX X A L H0 (.Assign [.Subscript (.Name x b7) ix f7] e pos) (xM i f fo):=PS.imp' (IC he (IQ hv hi (HX hu) ha) hs hw h1) fun D σ H hw=>by
 obtain⟨δ,T,out,E,fi,e,k⟩:=hw;obtain⟨⟨r,δ1⟩,h1,e⟩:=fU e;dsimp only at e;split at e
 case h_2=>cases e
 rename_i y0 h0;obtain⟨⟨o,δ2⟩,h2,e⟩:=fU e;dsimp only at e;split at e
 ·rename_i kk ks vs hk h3;obtain⟨⟨hok,hlen⟩,e⟩:=gM e;cases e;refine⟨δ,T,r,δ1,E,h1,fun v H1 P1=>⟨δ1,Tmp T r v,.slot i,δ1,P1.er E,by unfold fZ;rw[h0],fun v2 H2 P2=>⟨δ1,Tmp T r v,o,δ2,P2.er (P1.er E),h2,fun v3 H3 P3=>?_⟩⟩⟩;have fP:PostO X.K T σ δ H (.val r) δ1 v H1:=P1;have B:=Ops.cons E fP (Ops.cons (P1.er E) P2 (Ops.cons (P2.er (P1.er E)) P3 (Ops.nil (P3.er (P2.er (P1.er E))))));have E3:ER X.K H3 T σ δ2:=B.er.mono (fun _ _ e _=>e) (fun b _ z=>B.tt b z) (fun a z=>B.er.dom a (B.tt a z));have hσ:σ[i]?=some (some v2):=P2.2.2;obtain⟨a,q1,us,q2,q3⟩:=E3.own i _ h3;rw[hσ] at q1;cases q1;have vk:=B.view (j:=2) rfl rfl hk;have rv:=B.rep E (j:=0) (r:=r) rfl rfl;have oa:OwnA σ δ2 a:=⟨i,_,h3,hσ⟩
  have kp: ∀(ho:HO) b u,H3 b=some u-> ¬(OwnA σ δ2 b\/T b)->upd H3 a ho b=some u:=fun ho b u e n=>by rw[gA (by intro z;subst z;exact n (.inl oa))];exact e
  have ks10:10000<sizeLine:=by rw[jd];decide
  have fin: ∀ho cI,OthB X.K (some ho) .dct (pU ks vs kk r.1).1 (pU ks vs kk r.1).2 cI->RepL X.K H3 (fun a=>OwnA σ δ2 a\/T a) (pU ks vs kk r.1).2 cI->D.nx σ (upd H3 a ho):=fun ho cI g1 g2=>by
   obtain⟨E4,K4⟩:=E3.writeG (o:=ho) (d':= .oth .dct (pU ks vs kk r.1).1 (pU ks vs kk r.1).2) h3 hσ ⟨cI,by rw[gy];exact g1,RepL.mono (kp ho) (fun _ _ z=>z) g2⟩;exact k _ _ (B.keep.trans K4).sk E4
  refine⟨a,rfl,?_⟩;rcases q2 with⟨kvs,eH,rfl,rfl⟩|⟨kvs,eH,rfl,rfl⟩
  ·rw[iq] at hlen;rcases rW hok with⟨κ,g1,_⟩|⟨τ,g1,g2⟩
   ·have hy:=pz g1 vk;have aB:=mW g1;subst aB;obtain⟨p1,p2⟩:=Mo (k:=κ) rv q3;refine .inl ⟨_,by rw[hy];exact DPut.k eH (by omega),fin _ _ (.inl ⟨_,rfl,p1,rfl⟩) p2⟩
   ·have cf:kvs=[]:=by
     cases kvs with
     |nil=>rfl
     |cons p kvs=>obtain⟨c,hc⟩:=g2 (iz p.1) (by simp);exact(Bs hc).elim
    subst cf;obtain⟨b,hy,eb⟩:=mQ g1 vk;have aB:=oV g1;subst aB;obtain⟨p1,p2⟩:=Mn (k:=τ) (kvs:=[]) rv q3;exact .inr (.inr ⟨τ,b,eH,hy,eb,fin _ _ (.inr ⟨[(τ,v)],rfl,p1,rfl⟩) p2⟩)
  ·rw[iq] at hlen;rcases rW hok with⟨κ,g1,g2⟩|⟨τ,g1,_⟩
   ·have cf:kvs=[]:=by
     cases kvs with
     |nil=>rfl
     |cons p kvs=>obtain⟨c,hc⟩:=g2 (.tup (p.1.map iz)) (by simp);exact(Ek hc).elim
    subst cf;have hy:=pz g1 vk;have aB:=mW g1;subst aB;obtain⟨p1,p2⟩:=Mo (k:=κ) (kvs:=[]) rv q3;exact .inr (.inl ⟨κ,eH,hy,fin _ _ (.inl ⟨[(κ,v)],rfl,p1,rfl⟩) p2⟩)
   ·obtain⟨b,hy,eb⟩:=mQ g1 vk;have aB:=oV g1;subst aB;obtain⟨p1,p2⟩:=Mn (k:=τ) rv q3;refine .inl ⟨_,by rw[hy];exact DPut.t eH eb (by omega),fin _ _ (.inr ⟨_,rfl,p1,rfl⟩) p2⟩
 ·cases e
end
section
variable {X:Cx}
theorem xD{P:gw}{w:gm}: ∀{es:List DictEntry} {vs:List (Key×Value)} {kvs:List (Key×V)},Pairs (iT P w) es vs->KV kvs vs->Vals (kvs.map fun p=>kV p.1) (es.map (·.key))
 |_,_,_,.nil,.nil=> .nil
 |_,_,_,.cons h1 h2 t,.cons r q=>by
  refine .cons ?_ (xD t q);dsimp only;rw[r.1];rcases iK (show wq _ _=true from h1) with⟨i,tk,e1,e2⟩|⟨x,tk,e1,e2⟩
  ·rw[e1,e2];exact⟨tk,rfl⟩
  ·rw[e1,e2];exact⟨tk,rfl⟩
theorem xN{K:gu}{H:Hp}{O:AP'}: ∀(kvs:List (Key×V)),RepL K H O (kvs.map fun p=>iz p.1) (kvs.map fun p=>kV p.1)
 |[]=>RepL.nil
 |(k,v)::kvs=>by
  refine RepL.cons ?_ (xN kvs)
  cases k with
  |inl i=>exact Rep.mkInt
  |inr x=>exact Rep.mkStr
theorem K0(hg:Gl X x)(hm:X.mg x=some (.int i t))(hd:(x==("__debug__":Str))=false):PX X (.Name x pos) (fC (.int i)):=PX.imp (EC (v:= .int i) hg hm ⟨t,rfl⟩ hd) fun σ H Q h=>by
 obtain⟨δ,T,r,δ',E,e,k⟩:=h;cases e;exact k _ _ (Post.val .refl E Rep.mkInt)
theorem KZ(hg:Gl X x)(hm:X.mg x=some (.str i t))(hd:(x==("__debug__":Str))=false):PX X (.Name x pos) (fC (.str i)):=PX.imp (EC (v:= .str i) hg hm ⟨t,rfl⟩ hd) fun σ H Q h=>by
 obtain⟨δ,T,r,δ',E,e,k⟩:=h;cases e;exact k _ _ (Post.val .refl E Rep.mkStr)
def vL:FS:=fun _=>none
theorem FR{A L:hZ}{H0:Hp}{st:Stmt}:PSX X A L H0 st vL:=fun pins s σ H D I h=>by
 obtain⟨δ,T,out,E,fi,e,k⟩:=h;cases e
end
section
variable {X:Cx}{e:gf}{f:F}{pos b7 apos e9:Pos}{i:Nat}{x:Str}
end
structure PXs(X:Cx)(es:iF)(fs:List F):Prop where
 pa:PA X es (tA X.K (fs.map gc))
section
variable {X:Cx}{e:gf}{es:iF}{f:F}{fs:List F}{pos:Pos}
theorem KN:PXs X [] []:=⟨zC⟩
theorem Io(h:PX X e f)(hr:PXs X es fs)(hs:starEach (e::es) X.env=(false,eval e X.env)::starEach es X.env):PXs X (e::es) (f::fs):=⟨rR (PX.po h) hr.pa hs⟩
theorem KW(h:PXs X es fs):PX X (.List es pos) (jw fs):=Nl h.pa
theorem KQ{x1}(h:PXs X es fs):PX X (.Tuple es x1 pos) (oh fs):=Nb h.pa
theorem Nt{fe:FT}(h:PWX X e fe):PTX X e fe:=PW.pt h
end
structure QX(X:Cx)(e:gf)(f:F):Prop where
 h:PX X e f
structure QO(X:Cx)(e:gf)(f:FO):Prop where
 h:PX.PO X e f
structure QA(X:Cx)(es:iF)(fs:List FO):Prop where
 h:PA X es (tA X.K fs)
structure QL(X:Cx)(es:iF)(fs:List F):Prop where
 h:PXs X es fs
structure QT(X:Cx)(e:gf)(f:FT):Prop where
 h:PTX X e f
structure QW(X:Cx)(e:gf)(f:FT):Prop where
 h:PWX X e f
structure QG(X:Cx)(A:hZ)(e:gf)(t:Tg):Prop where
 h:PGX X A e t
structure QI(X:Cx)(B:SB)(tg e:gf)(f:FIt):Prop where
 h:PIX X B tg e f
structure QF(X:Cx)(es:iF)(f:FT):Prop where
 h:PIf X es (tT X.K f)
structure QB(X:Cx)(A:hZ)(d:fV)(e:gf)(n:Nat)(f:FB):Prop where
 h:PB X (ir e n (.ref d) X.env) (tBx X.K A d f)
structure QS(X:Cx)(A L:hZ)(H0:Hp)(st:Stmt)(f:FS):Prop where
 h:PSX X A L H0 st f
structure QQ(X:Cx)(A L:hZ)(H0:Hp)(st:List Stmt)(f:FS):Prop where
 h:An X A L H0 st f
structure QC(X:Cx)(v:gi)(g:List D->Option (D×Bool)):Prop where
 h:iV X v (rDn X.K g)
structure QP(X:Cx)(o:ub)(g:D->D->Option (D×Bool)):Prop where
 h:OpR X o (rD X.K g)
abbrev SE(X:Cx)(e:gf)(es:iF):Prop:=starEach (e::es) X.env=(false,eval e X.env)::starEach es X.env
abbrev BA(X:Cx)(p:Pos)(es:iF):Prop:=(backTo p (starEach es X.env)).any (·.1)=false
abbrev DB(x:Str):Prop:=(x==("__debug__":Str))=false
abbrev un(A:gv)(n:Nat):Prop:=A.units+n<cLine
structure ZZ where
 P:Program
 w:World
 K:PySem.W.Frag
 mg:Str->Option Value
 base:Heap
def Oz(Z:ZZ)(k:Nat)(x:Str)(ps:gJ)(ev:EvF):Prop:= ∃f fd,FnOk Z.P Z.w Z.K Z.mg Z.base CX0 k f fd ps (spF Z.K ev)/\Z.mg x=some (.ref f)/\PySem.W.keepIn Z.K (.ref f)=true/\Binds Z.K fd ps []
theorem Oz.up{Z:ZZ}{k j:Nat}{x:Str}{ps:gJ}{ev:EvF}(o:Oz Z k x ps ev)(h:k<=j:=by decide):Oz Z j x ps ev:=let⟨f,fd,a,b⟩:=o;⟨f,fd,a.mono h,b⟩
abbrev zX(X:Cx):ZZ:=⟨X.prog,X.w,X.K,X.mg,X.base⟩
def btT:List (Str×Value):=[("len",.builtin "len"),("abs",.builtin "abs"),("int",.type "int"),("tuple",.type "tuple"),("list",.type "list"),("bool",.type "bool"),("max",.builtin "max"),("min",.builtin "min"),("all",.builtin "all"),("any",.builtin "any"),("sorted",.builtin "sorted"),("set",.type "set")]
theorem btA{mg:ke}(T:Tx mg): ∀p∈btT,mg p.1=none/\bootBuiltins p.1=some p.2:=by
 have h: ∀p∈btT,bootBuiltins p.1=some p.2:=by decide+kernel
 intro p hp;refine⟨?_,h p hp⟩;have bh:p∈btT:=hp;unfold btT at bh;simp only[jt,jY,ma] at bh;rcases bh with rfl|rfl|rfl|rfl|rfl|rfl|rfl|rfl|rfl|rfl|rfl|rfl
 ·exact T.n_len
 ·exact T.n_abs
 ·exact T.n_int
 ·exact T.n_tuple
 ·exact T.n_list
 ·exact T.n_bool
 ·exact T.n_max
 ·exact T.n_min
 ·exact T.n_all
 ·exact T.n_any
 ·exact T.n_sorted
 ·exact T.n_set
theorem DC{z:Str}{v:gi}: ∀{l:List (Str×Value)},l.lookup z=some v->(z,v)∈l
 |[],h=>by cases h
 |(y,u)::l,h=>by
  rw[md] at h;split at h
  ·rename_i q;cases h;rw[qe q];exact .head _
  ·exact .tail _ (DC h)
theorem btM{mg:ke}{z:Str}{v:gi}(T:Tx mg)(h:btT.lookup z=some v):mg z=none:=(btA T _ (DC h)).1
theorem btN{z:Str}{v:gi}(h:btT.lookup z=some v):bootBuiltins z=some v:=(show ∀p∈btT,bootBuiltins p.1=some p.2 from by decide+kernel) _ (DC h)
section
variable {X:Cx}{x z:Str}{e a b c st lo hi:gf}{es:iF}{fa fb fc fo fl fh:FO}{f g:F}{ft fu:FT}{p p2 p3 pos b7 apos:Pos}{A L:hZ}{B:SB}{H0:Hp}{fs:List FO}{cX:List F}{i j k:Nat}{tg:gf}{S:Stmt}{Ss Ts:List Stmt}{u v:FS}
theorem xV(h1:X.N[i]?=some x:=by rfl)(h2:Vis X.env.scope x:=by first|exact Or.inl rfl|exact Or.inr (Or.inl rfl)|exact Or.inr (Or.inr rfl))(h3:DB x:=by decide)(h4:(x==("__classdict__":Str))=false:=by decide):QO X (.Name x pos) (fZ i):=⟨NF h1 h2 h3 h4⟩
theorem xW(h1:X.N[i]?=some x:=by rfl)(h2:Vis X.env.scope x:=by first|exact Or.inl rfl|exact Or.inr (Or.inl rfl)|exact Or.inr (Or.inr rfl))(h3:DB x:=by decide)(h4:(x==("__classdict__":Str))=false:=by decide):QX X (.Name x pos) (jF i):=⟨Na h1 h2 h3 h4⟩
theorem xO(h:QX X e f):QO X e (gc f):=⟨PX.po h.h⟩
theorem x1{j}:QX X (.Constant .none j pos) (fC .non):=⟨Nj⟩
theorem x2{i j}:QX X (.Constant (.bool i) j pos) (fC (.bl i)):=⟨Pw⟩
theorem x3{i j}:QX X (.Constant (.int i) j pos) (fC (.int i)):=⟨Nn⟩
theorem x4{i j}:QX X (.Constant (.str i) j pos) (fC (.str i)):=⟨Nc⟩
theorem x5{i:Int}(h: ∃t,X.mg x=some (.int i t))(g:Gl X x:=by rfl)(h3:DB x:=by decide):QX X (.Name x pos) (fC (.int i)):=let⟨_,h⟩:=h;⟨K0 g h h3⟩
theorem x6{i:Str}(h: ∃t,X.mg x=some (.str i t))(g:Gl X x:=by rfl)(h3:DB x:=by decide):QX X (.Name x pos) (fC (.str i)):=let⟨_,h⟩:=h;⟨KZ g h h3⟩
theorem x7:QX X (.Dict [] [] pos) My:=⟨K6⟩
theorem kG{op:Operator}{g:D->D->Option (D×Bool)}(o:QP X (binaryOp op) g)(ha:QO X a fa)(hb:QO X b fb):QX X (.BinOp a op b pos) (gC g fa fb):=⟨Nq o.h ha.h hb.h⟩
theorem CO(ha:QO X a fa):QX X (.UnaryOp .USub a pos) (kh pV fa):=⟨Nk ha.h⟩
theorem QJ(ha:QX X a f):QX X (.UnaryOp .Not a pos) (LZ f):=⟨Ni ha.h⟩
theorem Hu{op:CmpOp}{g:D->D->Option (D×Bool)}(o:QP X (compareOp op) g)(ha:QO X a fa)(hb:QO X b fb)(hm:behindInMarks op b=false:=by first|exact Jg _|with_unfolding_all rfl):QX X (.Compare a [op] [b] pos) (gC g fa fb):=⟨Np o.h ha.h hb.h hm⟩
theorem tCmp{op:CmpOp}{g:D->D->Option (D×Bool)}(o:QP X (compareOp op) g)(ha:QO X a fa)(hb:QO X b fb)(hm:behindInMarks op b=false:=by first|exact Jg _|with_unfolding_all rfl):QT X (.Compare a [op] [b] pos) (fT (gC g fa fb)):=⟨Lg o.h ha.h hb.h hm⟩
theorem xCh{op t5:CmpOp}(ha:QO X a fa)(hb:QO X b fb)(hc:QO X c fc)(o1:rY op:=by first|exact .inl rfl|exact .inr (.inl rfl)|exact .inr (.inr (.inl rfl))|exact .inr (.inr (.inr rfl)))(o2:rY t5:=by first|exact .inl rfl|exact .inr (.inl rfl)|exact .inr (.inr (.inl rfl))|exact .inr (.inr (.inr rfl)))(hm:lastMarks [op,t5] [b,c]=false:=by with_unfolding_all rfl):QX X (.Compare a [op,t5] [b,c] pos) (tV op t5 fa fb fc):=⟨Iq o1 o2 ha.h hb.h hc.h hm⟩
theorem xBo{op}(ha:QX X a f):QX X (.BoolOp op [a] pos) f:=⟨K9 ha.h⟩
theorem Hw(ha:QX X a f)(hb:QX X (.BoolOp .And (b::es) pos) g):QX X (.BoolOp .And (a::b::es) pos) (zT f g):=⟨Nr ha.h hb.h⟩
theorem QK(ha:QT X a ft)(hb:QW X (.BoolOp .And (b::es) pos) fu):QW X (.BoolOp .And (a::b::es) pos) (ym ft fu):=⟨Lb ha.h hb.h⟩
theorem wOr(ha:QT X a ft)(hb:QW X (.BoolOp .Or (b::es) pos) fu):QW X (.BoolOp .Or (a::b::es) pos) (tU ft fu):=⟨Nu ha.h hb.h⟩
theorem OP(ha:QT X a ft):QW X (.BoolOp .And [a] pos) ft:=⟨Ir ha.h⟩
theorem Kr(ha:QT X a ft):QW X (.BoolOp .Or [a] pos) ft:=⟨La ha.h⟩
theorem tW{op}(h:QW X (.BoolOp op es pos) ft):QT X (.BoolOp op es pos) ft:=⟨Nt h.h⟩
theorem tNot(ha:QT X a ft):QT X (.UnaryOp .Not a pos) (mD ft):=⟨Lf ha.h⟩
theorem CV(h:QX X e f)(he: ∀whole,isTrue e X.env whole=(do let v <-whole;standAt e.pos;holding [v] (truthy v)):=by intro _;rfl):QT X e (fT f):=⟨Ld h.h he⟩
theorem xIf(hc:QT X c ft)(ha:QX X a f)(hb:QX X b g):QX X (.IfExp c a b pos) (fIf ft f g):=⟨Pu hc.h ha.h hb.h⟩
theorem xIx(ha:QO X a fa)(hb:QO X b fb)(hs:Am b:=by exact fun _ _=>rfl):QX X (.Subscript a b pos) (gC gIx fa fb):=⟨Pr ha.h hb.h hs⟩
theorem QE(ha:QO X a fa)(hh:QO X hi fh):QX X (.Subscript a (.Slice none (some hi) none p2) pos) (By fa fh):=⟨KR ha.h hh.h⟩
theorem xL0:QL X [] []:=⟨KN⟩
theorem xL(ha:QX X e f)(hr:QL X es cX)(hs:SE X e es:=by rfl):QL X (e::es) (f::cX):=⟨Io ha.h hr.h hs⟩
theorem xA0:QA X [] []:=⟨zC⟩
theorem xA(ha:QO X e fa)(hr:QA X es fs)(hs:SE X e es:=by rfl):QA X (e::es) (fa::fs):=⟨rR ha.h hr.h hs⟩
theorem CN{k}(h:QL X es cX):QX X (.Tuple es k pos) (oh cX):=⟨KQ h.h⟩
theorem nY(h:QL X es cX):QX X (.List es pos) (jw cX):=⟨KW h.h⟩
theorem xB{id:String}{g:List D->Option (D×Bool)}(T:Tx X.mg)(hv:btT.lookup z=some (.builtin id))(hc:QC X (.builtin id) g)(ha:QA X (e::es) fs)(hg:Gl X z:=by rfl)(hn:z≠"__name__":=by decide)(j8:DB z:=by decide)(he:SE X e es:=by rfl)(i4:BA X pos es:=by rfl):QX X (.Call (.Name z p) (e::es) [] pos) (gW g fs):=⟨EB hc.h hg (btM T hv) (btN hv) ha.h hn j8 he i4⟩
theorem xT{id:String}{g:List D->Option (D×Bool)}(T:Tx X.mg)(hv:btT.lookup z=some (.type id))(hc:QC X (.type id) g)(ha:QA X (e::es) fs)(hg:Gl X z:=by rfl)(hn:z≠"__name__":=by decide)(j8:DB z:=by decide)(he:SE X e es:=by rfl)(i4:BA X pos es:=by rfl):QX X (.Call (.Name z p) (e::es) [] pos) (gW g fs):=⟨KP hc.h hg (btM T hv) (btN hv) ha.h hn j8 he i4⟩
theorem xI{t:Ty}(T:Tx X.mg)(hz:btT.lookup z=some (.type t.n))(ha:QO X e fa)(hg:Gl X "isinstance":=by rfl)(cn:Gl X z:=by rfl)(hn:z≠"__name__":=by decide)(j8:DB z:=by decide)
  (s1:SE X e [.Name z p2]:=by rfl)(s2:SE X (.Name z p2) []:=by rfl)(i4:BA X pos [.Name z p2]:=by rfl):
  QX X (.Call (.Name "isinstance" p) [e,.Name z p2] [] pos) (kh (qM [t]) fa):=⟨Nm ha.h hg T.n_isinstance cn (btM T hz) (btN hz) hn j8 qq s1 s2 i4⟩
theorem xI2{t t':Ty}{z':Str}{p4:Pos}{kk}(T:Tx X.mg)(hz:btT.lookup z=some (.type t.n))(dY:btT.lookup z'=some (.type t'.n))(ha:QO X e fa)(hg:Gl X "isinstance":=by rfl)(cn:Gl X z:=by rfl)(hn:z≠"__name__":=by decide)(j8:DB z:=by decide)(ck:Gl X z':=by rfl)(bG:z'≠"__name__":=by decide)(cu:DB z':=by decide)
  (s1:SE X e [.Tuple [.Name z p2,.Name z' p3] kk p4]:=by rfl)(s2:SE X (.Tuple [.Name z p2,.Name z' p3] kk p4) []:=by rfl)
  (s3:SE X (.Name z p2) [.Name z' p3]:=by rfl)(s4:SE X (.Name z' p3) []:=by rfl)
  (i4:BA X pos [.Tuple [.Name z p2,.Name z' p3] kk p4]:=by rfl):
  QX X (.Call (.Name "isinstance" p) [e,.Tuple [.Name z p2,.Name z' p3] kk p4] [] pos) (kh (qM [t,t']) fa):=⟨KY ha.h hg T.n_isinstance cn (btM T hz) (btN hz) hn j8 ck (btM T dY) (btN dY) bG cu qq s1 s2 s3 s4 i4⟩
theorem xU{k:Nat}{ps:gJ}{ev:EvF}(O:Oz (zX X) k x ps ev)(hr:Room k X.A)(ha:QA X (e::es) fs)(hg:Gl X x:=by rfl)(j8:DB x:=by decide)
  (he:SE X e es:=by rfl)(i4:BA X pos es:=by rfl):QX X (.Call (.Name x p) (e::es) [] pos) (gx ev fs):=
 let⟨_,_,ok,hm,kp,bi⟩:=O;⟨KO ok hr hg hm kp bi ha.h j8 he i4⟩
theorem MD{T:String}{mk:List D->D}{o:Bool}(X0:Tx X.mg)(hv:btT.lookup z=some (.type T))(ha:QA X [a,b] [fa,fb])(hT:(T="list"/\mk= .lst/\o=true)\/(T="tuple"/\mk= .tup/\o=false):=by first|exact .inl ⟨rfl,rfl,rfl⟩|exact .inr ⟨rfl,rfl,rfl⟩)(hc:X.calm=true:=by rfl)(hg:Gl X z:=by rfl)(hn:z≠"__name__":=by decide)(j8:DB z:=by decide)(cP:Gl X "range":=by rfl)
  (s1:SE X (.Call (.Name "range" p2) [a,b] [] p3) []:=by rfl)(s2:SE X a [b]:=by rfl)
  (i4:BA X pos []:=by rfl)(bg:BA X p3 [b]:=by rfl):
  QX X (.Call (.Name z p) [.Call (.Name "range" p2) [a,b] [] p3] [] pos) (gW (gRg mk o) [fa,fb]):=⟨Nd hT hc hg (btM X0 hv) (btN hv) hn j8 cP X0.n_range ha.h s1 s2 i4 bg⟩
theorem Hv(hv:QO X (.Name x b7) (fZ i))(he:QX X e f)(g0:attributeBase (.Name x b7) "append" X.env (eval (.Name x b7) X.env)=eval (.Name x b7) X.env:=by rfl)
  (l7:((backTo pos (starEach [e] X.env)).all (fun x=>!x.1)&&(backToKw pos (keywordEach [] X.env)).all (fun x=>x.1.isSome)&&decide ([e].length+([]:List Keyword).length+(if([]:List Keyword).isEmpty then 0 else 1)<30))=true:=by rfl)
  (f9:(apos.endLine==pos.line)=true:=by rfl)(hs:SE X e []:=by rfl)(i0:BA X pos []:=by rfl):QX X (.Call (.Attribute (.Name x b7) "append" apos) [e] [] pos) (jg i f):=⟨FP hv.h he.h g0 l7 f9 hs i0⟩
theorem QH(hv:QO X (.Name x b7) (fZ i))(he:QO X e fo)(g0:attributeBase (.Name x b7) "pop" X.env (eval (.Name x b7) X.env)=eval (.Name x b7) X.env:=by rfl)
  (l7:((backTo pos (starEach [e] X.env)).all (fun x=>!x.1)&&(backToKw pos (keywordEach [] X.env)).all (fun x=>x.1.isSome)&&decide ([e].length+([]:List Keyword).length+(if([]:List Keyword).isEmpty then 0 else 1)<30))=true:=by rfl)
  (f9:(apos.endLine==pos.line)=true:=by rfl)(hs:SE X e []:=by rfl)(i0:BA X pos []:=by rfl):QX X (.Call (.Attribute (.Name x b7) "pop" apos) [e] [] pos) (qO i fo):=⟨Ip hv.h he.h g0 l7 f9 hs i0⟩
theorem iR1(T:Tx X.mg)(ha:QA X [a] [fa])(hg:Gl X "range":=by rfl)(hs:starEach [a] X.env=[(false,eval a X.env)]:=by rfl):QI X B tg (.Call (.Name "range" p) [a] [] pos) (zM fa):=⟨Dg hg T.n_range ha.h hs⟩
theorem iS(h:QX X e f):QI X B tg e (kD f):=⟨Lp h.h⟩
theorem iZV{elts:iF}{k1:Nat}{y6:Pos}(T:Tx X.mg)(ha:QO X a (fZ i))(hb:QO X b (fZ j))(b1:B i:=by decide)(b2:B j:=by decide)(hg:Gl X "zip":=by rfl)(hs:SE X a [b]:=by rfl)(u5:SE X b []:=by rfl)(i4:BA X pos [b]:=by rfl):
  QI X B (.Tuple elts k1 y6) (.Call (.Name "zip" p) [a,b] [] pos) (tQ (fZ i) (fZ j)):=⟨IG hg T.n_zip ha.h hb.h (Es b1) (Es b2) hs u5 i4⟩
theorem gN(hN:X.N.Nodup)(hi:X.N[i]?=some x:=by rfl)(hx:Loc X.env.scope x:=by first|exact Or.inl rfl|exact Or.inr rfl)(hf:X.fn x=true\/X.env.scope.names.lookup x=some .local:=by first|exact Or.inl rfl|exact Or.inr rfl)(ha:A i:=by decide):QG X A (.Name x pos) (gB i):=⟨IL hN hi hx hf ha⟩
theorem gT{t1 t2:Tg}{k:Nat}(h1:QG X A a t1)(h2:QG X A b t2)(hc:X.calm=true:=by rfl)(q1:(assignEach [a,b] X.env).map (·.2)=assign a X.env::(assignEach [b] X.env).map (·.2):=by rfl)(q2:(assignEach [b] X.env).map (·.2)=assign b X.env::(assignEach [] X.env).map (·.2):=by rfl)
  (hn:(assignEach [a,b] X.env).length=2:=by rfl)(q0:(assignEach [a,b] X.env).findIdx? (·.1)=none:=by rfl):QG X A (.Tuple [a,b] k pos) (vG [t1,t2]):=⟨Ls hc (xR h1.h (xR h2.h IM q2) q1) hn rfl q0⟩
theorem f0:QF X [] kZ:=⟨IJ⟩
theorem bE{gens:nM}{sc:iC}{d:fV}{n:Nat}(he:QX X e f)(hn:gens[n+1]?=none:=by rfl):QB X A d (.ListComp e gens sc p) n (lh f):=⟨I9 hn he.h⟩
theorem cOk{N P:gJ}{sc scope:iC}{N':gJ}{caps:gX}(S:FnScope N P sc)(h:zY N sc scope N' caps k=true:=by decide+kernel)(hN:X.N=N:=by rfl)(hs:X.env.scope=sc:=by rfl):CompOk X N' scope caps k:=Ol hN hs h
theorem xC{c:oi}{gP:nM}{elt:gf}{scope:iC}{fi:FIt}{tt:Tg}{ti:FT}{fb:FB}{caps:gX}{N':gJ}(C:CompOk X N' scope caps k)(nd:N'.Nodup)(pi:QI X (fun i=>i∉caps) c.target c.iter fi)
  (x9: ∀(cl:jx) (C:fV) (s3:gb) (H3:Hp) (fp:iI) (pins:gG),(X.comp N' scope cl C s3 H3 fp pins).N.Nodup->
   QG (X.comp N' scope cl C s3 H3 fp pins) (fun i=>caps.length<=i) c.target tt/\QF (X.comp N' scope cl C s3 H3 fp pins) c.ifs ti/\ ∀d,QB (X.comp N' scope cl C s3 H3 fp pins) (fun i=>caps.length<=i) d (.ListComp elt (c::gP) scope pos) 0 fb)
  (hc:X.calm=true:=by rfl)(ha:c.is_async=0:=by rfl)(q9: ∀g',gP[0]?=some g'->g'.is_async=0:=by intro g' h;cases h;try rfl)(hs: ∀x,foldedSetIterable c.iter X.env x=pure x:=by intro _;rfl):QX X (.ListComp elt (c::gP) scope pos) (kM caps k fi tt ti fb):=⟨K7 C hc ha q9 hs pi.h fun cl C s3 H3 fp pins=>let⟨a,b,c⟩:=x9 cl C s3 H3 fp pins nd;⟨a.h,b.h,fun d=>(c d).h⟩⟩
theorem s0:QQ X A L H0 [] gL:=⟨Iy⟩
theorem s1(h:QS X A L H0 S u)(hr:QQ X A L H0 Ss v):QQ X A L H0 (S::Ss) (gn u v):=⟨FV h.h hr.h⟩
theorem sX:QS X A L H0 S vL:=⟨FR⟩
theorem sR(h:QX X e f):QS X A L H0 (.Return (some e) pos) (jJ f):=⟨Lj h.h⟩
theorem sRV(hl: ¬L i)(h1:X.N[i]?=some x:=by rfl)(h2:Vis X.env.scope x:=by first|exact Or.inl rfl|exact Or.inr (Or.inl rfl)|exact Or.inr (Or.inr rfl))(h3:DB x:=by decide)(h4:(x==("__classdict__":Str))=false:=by decide):QS X A L H0 (.Return (some (.Name x p)) pos) (pH i):=⟨De h1 h2 h3 h4 hl⟩
theorem sE(h:QX X e f)(hs:swapsWith e none pos.line X.env=pure false:=by rfl):QS X A L H0 (.Expr e pos) (jB f):=⟨Iv h.h hs⟩
theorem sI(hc:QT X c ft)(ha:QQ X A L H0 Ss u)(hb:QQ X A L H0 Ts v):QS X A L H0 (.If c Ss Ts pos) (sIf ft u v):=⟨NA hc.h ha.h hb.h⟩
theorem sW{n:Nat}(hc:QT X c ft)(hb:QQ X A L H0 Ss u)(hp:PassesOwn (model X.prog X.w) X.A X.env X.xe:=by exact PassesOwn.never):QS X A L H0 (.While c Ss [] pos) (kg ft u n):=⟨FQ hp hc.h hb.h⟩
theorem sF{fi:FIt}{t:Tg}(hi:QI X (fun _=>False) tg e fi)(hg:QG X A tg t)(hb:QQ X A L H0 Ss u)(hp:PassesOwn (model X.prog X.w) X.A X.env X.xe:=by exact PassesOwn.never)(hc:X.calm=true:=by rfl)(hs: ∀x,foldedSetIterable e X.env x=pure x:=by intro _;rfl):QS X A L H0 (.For tg e Ss [] pos) (oO fi t u):=⟨Lk hp hc hi.h hg.h hb.h hs⟩
theorem sS(hN:X.N.Nodup)(he:QX X e f)(hi:X.N[i]?=some x:=by rfl)(hx:Loc X.env.scope x:=by first|exact Or.inl rfl|exact Or.inr rfl)(hf:X.fn x=true\/X.env.scope.names.lookup x=some .local:=by first|exact Or.inl rfl|exact Or.inr rfl)(ha:A i:=by decide)(hs:swapsWith e (some (.Name x p)) pos.line X.env=pure false:=by rfl):QS X A L H0 (.Assign [.Name x p] e pos) (iW i f):=⟨Li hN hi hx he.h hs hf ha⟩
theorem sIx{f7:Pos}(hv:QO X (.Name x b7) (fZ i))(he:QX X e f)(hi:QO X a fo)
  (ha: ∀v,assign (.Subscript (.Name x b7) a f7) X.env v=(do
   let ov <-holding [v] (eval (.Name x b7) X.env)
   let iv <-holding [v,ov] (eval a X.env)
   standAt f7
   holding [v,ov,iv] (setItem ov iv v)
   release [v,ov,iv] []):=by intro _;rfl)
  (hs:swapsWithSole [.Subscript (.Name x b7) a f7] e pos.line X.env=pure false:=by rfl)(hw:swappedStores [.Subscript (.Name x b7) a f7] e X.env=pure none:=by rfl)
  (h1:(assignEach [.Subscript (.Name x b7) a f7] X.env).map (·.2)=[assign (.Subscript (.Name x b7) a f7) X.env]:=by rfl):QS X A L H0 (.Assign [.Subscript (.Name x b7) a f7] e pos) (tM i f fo):=⟨FU hv.h he.h hi.h ha hs hw h1⟩
theorem sDP{f7:Pos}(hu:un X.A 1)(hv:QO X (.Name x b7) (fZ i))(he:QX X e f)(hi:QO X a fo)
  (ha: ∀v,assign (.Subscript (.Name x b7) a f7) X.env v=(do
   let ov <-holding [v] (eval (.Name x b7) X.env)
   let iv <-holding [v,ov] (eval a X.env)
   standAt f7
   holding [v,ov,iv] (setItem ov iv v)
   release [v,ov,iv] []):=by intro _;rfl)
  (hs:swapsWithSole [.Subscript (.Name x b7) a f7] e pos.line X.env=pure false:=by rfl)(hw:swappedStores [.Subscript (.Name x b7) a f7] e X.env=pure none:=by rfl)
  (h1:(assignEach [.Subscript (.Name x b7) a f7] X.env).map (·.2)=[assign (.Subscript (.Name x b7) a f7) X.env]:=by rfl):QS X A L H0 (.Assign [.Subscript (.Name x b7) a f7] e pos) (xM i f fo):=⟨Iw hu hv.h he.h hi.h ha hs hw h1⟩
end
def Fz(K:gu)(mg:ke)(x:Str)(st:Stmt):Prop:= ∃f fd,mg x=some (.ref f)/\Fun K x x st f fd
theorem fz{K:gu}{h:gz}{mg:ke}{x:Str}{st:Stmt}{f:fV}{oc:gi}{od an:Option Addr}{aq:qS}{kV doc pm f6 ct:gi}(X:K.In h)(G:h.Ns mainGlobals mg)(a:PySem.W.nsIn K mainGlobals x=some (some (.ref f)))
  (l:K.lookup f=some ⟨oc,od,.func (PySem.W.fnOf x x (pQ st) (lJ st) (gr st) .none kV doc pm an f6 ct),aq⟩)(c:PySem.W.codeIn K f6 x=true)(k:PySem.W.keepIn K (.ref f)=true):Fz K mg x st:=⟨f,_,PySem.W.mg_of X G a,N9 l c k⟩
def BdA(x:Str)(st:Stmt)(ps:gJ):Prop:= ∀(kV doc pm:gi) (an:Option Addr) (f6 ct:gi) (us:hJ),us.length=ps.length->bindArgs (PySem.W.fnOf x x (pQ st) (lJ st) (gr st) .none kV doc pm an f6 ct) ⟨us,[]⟩=pure (ps.zip us)
theorem scM{N P:gJ}{sc:iC}(h1:sc.kind= .function:=by rfl)(h2:sc.isCoroutine=false:=by rfl)(h3:sc.isGenerator=false:=by rfl)(h4:N.Nodup:=by decide+kernel)(h5:N.take P.length=P:=by rfl)(h6: ∀x∈P,sc.names.lookup x=some .local\/sc.names.lookup x=some .cell:=by decide+kernel)(h7: ∀y∈sc.names,y.2≠ .free:=by decide+kernel):FnScope N P sc:=⟨h1,h2,h3,h4,h5,h6,h7⟩
def Bd(Z:ZZ)(k:Nat)(x:Str)(st:Stmt)(N ps:gJ)(asg:gX)(fs:FS):Prop:= ∀(f:fV) (f6:gi) (A:gv) (outer:List Env) (s:gb) (H:Hp) (E:XK) (L:hZ),(∀i,L i->i<ps.length)->Room k (A.deeper (envOfC x (gr st) s.heap.objs.size f f6))->
 un (A.deeper (envOfC x (gr st) s.heap.objs.size f f6)) 60->un (A.deeper (envOfC x (gr st) s.heap.objs.size f f6)) 1->un (A.deeper (envOfC x (gr st) s.heap.objs.size f f6)) 62->un (A.deeper (envOfC x (gr st) s.heap.objs.size f f6)) 90->N.Nodup->
 QQ (BC CX0 Z.P Z.w Z.K Z.mg Z.base N x (gr st) f f6 A outer s H E).nox (fun i=>i∈asg) L H (lJ st) fs
theorem fnB{Z:ZZ}{k:Nat}{x:Str}{st:Stmt}{N ps:gJ}{asg:gX}{fs:FS}{f:fV}{fd:kI}(F:Fun Z.K x x st f fd)(S:FnScope N ps (gr st))(hb:Bd Z k x st N ps asg fs):FnOk Z.P Z.w Z.K Z.mg Z.base CX0 (k+1) f fd ps (spF Z.K (evF N.length ps.length asg fs)):=
 N8 F S fun f6 A outer s H E L hL hr=>by
  have:=hr.un;exact(hb f f6 A outer s H E L hL hr (by unfold un;omega) (by unfold un;omega) (by unfold un;omega) (by unfold un;omega) S.nd).h
theorem ozB{Z:ZZ}{k:Nat}{x:Str}{st:Stmt}{N ps:gJ}{asg:gX}{fs:FS}(a:Fz Z.K Z.mg x st)(S:FnScope N ps (gr st))(b:BdA x st ps)(hb:Bd Z k x st N ps asg fs):Oz Z (k+1) x ps (evF N.length ps.length asg fs):=
 let⟨f,fd,m,F⟩:=a;⟨f,fd,fnB F S hb,m,F.kp,F.binds b⟩
theorem us0{P:List Value->Prop}(h:P []): ∀us:List Value,us.length=0->P us:=fun us e=>by cases us with|nil=>exact h|cons a l=>cases e
theorem us1{P:List Value->Prop}{n:Nat}(h: ∀a,∀us:List Value,us.length=n->P (a::us)): ∀us:List Value,us.length=n+1->P us:=fun us e=>by cases us with|nil=>cases e|cons a l=>exact h a l (Nat.succ.inj e)
theorem oz0{Z:ZZ}{x:Str}{st:Stmt}{ps:gJ}(a:Fz Z.K Z.mg x st)(b:BdA x st ps):Oz Z 0 x ps (fun _=>none):=
 let⟨f,fd,m,F⟩:=a;⟨f,fd,LU,m,F.kp,F.binds b⟩
theorem fzL{K:gu}{mg:ke}{x y:Str}{st:Stmt}{fa:fV}(a:Fz K mg x st)(fA:mg x=some (.ref fa))(b:BdA x st [y]): ∃fd,Fun K x x st fa fd/\ ∀(s:gb) (v:gi),BindsTo s fd ⟨[v],[]⟩ [(y,v)]:=by
 obtain⟨f,fd,m,F⟩:=a;have e:=fA.symm.trans m;cases e;obtain⟨oc,od,kV,doc,pm,an,f6,ct,aq,e,_⟩:=F.ex;exact⟨fd,F,fun s v=>by subst e;exact .of_eq (b kV doc pm an f6 ct [v] rfl)⟩
theorem mgI{K:gu}{h:gz}{mg:ke}{x:Str}{i:Int}{t:Tok}(X:K.In h)(G:h.Ns mainGlobals mg)(a:PySem.W.nsIn K mainGlobals x=some (some (.int i t))): ∃t,mg x=some (.int i t):=⟨t,PySem.W.mg_of X G a⟩
theorem txK{K:gu}{h:gz}{mg:ke}(X:K.In h)(G:h.Ns mainGlobals mg)(z0:PySem.W.nsIn K mainGlobals "len"=some none)(z1:PySem.W.nsIn K mainGlobals "abs"=some none)(z2:PySem.W.nsIn K mainGlobals "int"=some none)(z3:PySem.W.nsIn K mainGlobals "tuple"=some none)(z4:PySem.W.nsIn K mainGlobals "list"=some none)(z5:PySem.W.nsIn K mainGlobals "range"=some none)(z6:PySem.W.nsIn K mainGlobals "isinstance"=some none)(z7:PySem.W.nsIn K mainGlobals "bool"=some none)(z8:PySem.W.nsIn K mainGlobals "max"=some none)(z9:PySem.W.nsIn K mainGlobals "min"=some none)(z10:PySem.W.nsIn K mainGlobals "all"=some none)(z11:PySem.W.nsIn K mainGlobals "any"=some none)(z12:PySem.W.nsIn K mainGlobals "sorted"=some none)(z13:PySem.W.nsIn K mainGlobals "enumerate"=some none)(z14:PySem.W.nsIn K mainGlobals "zip"=some none)(z15:PySem.W.nsIn K mainGlobals "set"=some none):Tx mg:=⟨lr X G z0,lr X G z1,lr X G z2,lr X G z3,lr X G z4,lr X G z5,lr X G z6,lr X G z7,lr X G z8,lr X G z9,lr X G z10,lr X G z11,lr X G z12,lr X G z13,lr X G z14,lr X G z15⟩
theorem walkG{l:PySem.W.OpenLaw}{q:gw}{loose:gJ}{XP:(Str->Option Value)->Heap->Prop}{YP:World->Heap->Prop}{d:DefRec}{K:Params->PySem.W.Frag}{LV:Nat}{x:Str}{ev:EvF}(hk:Room LV callerA)(hn:l.most=some 63)(dA:d.params.defaults=[])(hY: ∀(w:gm) (h:gz),YP w h->(K w.params).In h)
  (F: ∀(w:gm) (mg:ke) (fa:fV) (h:gz),(K w.params).In h->h.Ns mainGlobals mg->mg d.name=some (.ref fa)-> ∃fd:FuncData,(∀(s:gb) (u:gi),BindsTo s fd ⟨[u],[]⟩ [(x,u)])/\ ∀base:Heap,(K w.params).In base->base.Ns mainGlobals mg->FnOk l.prog w (K w.params) mg base CX0 LV fa fd [x] (spF (K w.params) ev))
  (M: ∀ns:List Int,ns.length<=63-> ∃o outs,ev [(.lst (ns.map .int),false)]=some ((.bl true,o),outs)):PySem.W.WalkO q loose XP YP l.row.toRowW d [] (fun f vs=>PySem.call f vs):=
 L2.ON (n:=63) (k:=LV) (x:=x) (CX:=fun _=>CX0) (sp:=fun w=>spF (K w.params) ev) hn (by decide) dA hk hY F (fun _ _ a ns hl _ hS=>by obtain⟨o,outs,e⟩:=M ns hl;exact N3 hS e) fun _ _ _ _ _ z=>z
section
variable {prog:gw}{w:gm}{A:gv}{E:gD}{s:gb}
end
section
variable {X:Cx}{pins:gG}{σ:L2.St}{H:Hp}{s:gb}
end
def fPop(i:Nat):F:=fun δ=>match δ[i]? with
 |some (some (.lst l,true))=>(l[l.length-1]?).bind fun d=>some ((d,false),δ.set i (some (.lst l.dropLast,true)))
 |_=>none
theorem RepL.dropLast{K H}{O:AP'}{l:List D}{xs:List V}(r:RepL K H O l xs):RepL K H O l.dropLast xs.dropLast:=by
 rw[GK,GK,r.length];exact r.take _
section
variable {X:Cx}{x:Str}{i:Nat}{b7 apos e9:Pos}
theorem Nf(hv:PO X (.Name x b7) (fZ i))(g0:attributeBase (.Name x b7) "pop" X.env (eval (.Name x b7) X.env)=eval (.Name x b7) X.env)(f9:(apos.endLine==e9.line)=true):
  PX X (.Call (.Attribute (.Name x b7) "pop" apos) [] [] e9) (fPop i):=
 PX.imp (NP Cs Hc Hb N0 hv g0 f9) fun σ H Q hw=>by
 obtain⟨δ,T,rr,δ',E,e,k⟩:=hw;unfold fPop at e;split at e
 ·rename_i l h0;obtain⟨d,hd,e⟩:=fU e;obtain⟨rfl,rfl⟩:=gq e;refine⟨δ,T,.slot i,δ,E,by unfold fZ;rw[h0],fun v H1 P=>?_⟩;obtain⟨K1,E1,hσ⟩:=P;obtain⟨a,g1,xs,g2,g3⟩:=E1.own i _ h0;rw[hσ] at g1;cases g1;obtain⟨w,w1,w2⟩:=g3.get hd;have hl:=g3.length;obtain⟨E3,K3⟩:=E1.write h0 hσ (RepL.dropLast g3);refine⟨.inl ⟨rfl,xs,SqL.of g2⟩,_,xs,w,rfl,rfl,g2,by rw[hl];exact w1,?_⟩;exact k _ _ (Post.val (K1.trans K3) E3 (Rep.mono (fun b o e n=>K3.kp b o e fun z=>n (.inl z)) (fun b _ z=>z.imp (K3.ow b) id) w2))
 ·cases e
end
section
variable {X:Cx}
variable {a:gf}{fo:FO}{p pos p1 kp b7 apos:Pos}{x:Str}{i:Nat}
theorem OM(hv:QO X (.Name x b7) (fZ i))(g0:attributeBase (.Name x b7) "pop" X.env (eval (.Name x b7) X.env)=eval (.Name x b7) X.env:=by rfl)(f9:(apos.endLine==pos.line)=true:=by rfl):
  QX X (.Call (.Attribute (.Name x b7) "pop" apos) [] [] pos) (fPop i):=⟨Nf hv.h g0 f9⟩
end
section
variable {X:Cx}{pins:gG}{σ:L2.St}{H:Hp}{s:gb}
theorem Ez{K:gu}{O:AP'}: ∀(ks:List Key),RepL K H O (ks.map iz) (ks.map kV)
 |[]=>RepL.nil
 |k::ks=>by
  refine RepL.cons ?_ (Ez ks)
  cases k with
  |inl i=>exact Rep.mkInt
  |inr x=>exact Rep.mkStr
theorem vN{K:gu}{O:AP'}(np: ∀p,¬Ow (H p)-> ¬O p): ∀{kvs:List (List Key×V)} {xs:List (List Key×Addr×Value)},L2.KT H kvs xs->RepL K H O (kvs.map fun p=> .tup (p.1.map iz)) (xs.map fun x=>V.ref x.2.1)
 |_,_,.nil=>RepL.nil
 |_,_,.cons h t=>by
  refine RepL.cons (Rep.mkTup ⟨h.2.1,np _ fun z=>z.nt _ h.2.1⟩ (Ez _)) (vN np t)
theorem CQ{P:gw}{w:gm}(xs:List (List Key×Addr×Value)):Vals (xs.map fun x=>V.ref x.2.1) ((xs.map (entryOfKey (tupleKind (iT P w)))).map (·.key)):=by
 induction xs with
 |nil=>exact .nil
 |cons x xs ih=>exact .cons rfl ih
end
section
variable {X:Cx}
end
section
variable {prog:gw}{w:gm}{A:gv}{E:gD}{I:fV}{fp wr:iI}{n:Nat}{P:Nat->Value->Prop}{St:Nat->Heap->Prop}
end
section
variable {X:Cx}{A:hZ}{pos:Pos}{es:iF}{ts:List Tg}
end
section
variable {X:Cx}{A:hZ}{a b:gf}{pos:Pos}
variable {e elt:gf}{f:F}{x z:Str}{p b7 p1 kp:Pos}{i k:Nat}{L:hZ}{H0:Hp}
theorem xLS{c:oi}{scope:iC}{fi:FIt}{tt:Tg}{ti:FT}{caps:gX}{N':gJ}{pos':Pos}(T:Tx X.mg)(C:CompOk X N' scope caps k)(nd:N'.Nodup)(pi:QI X (fun i=>i∉caps) c.target c.iter fi)
  (x9: ∀(cl:jx) (C:fV) (s3:gb) (H3:Hp) (fp:iI) (pins:gG),(X.comp N' scope cl C s3 H3 fp pins).N.Nodup->
   QG (X.comp N' scope cl C s3 H3 fp pins) (fun i=>caps.length<=i) c.target tt/\QF (X.comp N' scope cl C s3 H3 fp pins) c.ifs ti/\QX (X.comp N' scope cl C s3 H3 fp pins) elt f)
  (hc:X.calm=true:=by rfl)(ha:c.is_async=0:=by rfl)(hs: ∀x,foldedSetIterable c.iter X.env x=pure x:=by intro _;rfl)(hg:Gl X "len":=by rfl)
  (h1:starEach [.SetComp elt [c] scope pos] X.env=(false,eval (.SetComp elt [c] scope pos) X.env)::starEach [] X.env:=by rfl)(i4:(backTo pos' (starEach [] X.env)).any (·.1)=false:=by rfl):
  QX X (.Call (.Name "len" p) [.SetComp elt [c] scope pos] [] pos') (pO caps k fi tt ti (wU f)):=
 ⟨FN C hc ha (by intro g' h;cases h) hs pi.h (fun cl C s3 H3 fp pins=>let⟨a,b,c⟩:=x9 cl C s3 H3 fp pins nd;⟨a.h,b.h,fun d=>FZ rfl c.h⟩) hg T.n_len Ou (by decide) (by decide) h1 i4⟩
end
def wu(d:D):Option (D×Bool):=match d with
 | .oth .dct ks _=>iP ks
 |_=>none
def pN(d e:D):Option (D×Bool):=match e with
 | .oth .dct ks vs=>if rX ks d=true then some (.bl (!(kj ks vs d).isSome),false) else none
 |_=>none
section
variable {X:Cx}{pins:gG}{σ:L2.St}{H:Hp}{s:gb}
theorem Dj(hu:X.A.units+62<cLine):OpR X (compareOp .NotIn) (rD X.K pN):=by
 intro pins s σ H x y v u Q I rx ry h;obtain⟨O,d,e,z,np,h1,h2,hg,G⟩:=h;by_cases hs: ∃ks vs,e= .oth .dct ks vs
 ·obtain⟨ks,vs,rfl⟩:=hs;obtain⟨hk,rfl⟩:=gM (show(if rX ks d=true then some (D.bl (!(kj ks vs d).isSome),false) else none)=some z from hg);obtain⟨a,us,rfl,q,r⟩:=mP h2;cases ry;exact Qf (by omega) I q r hk h1 rx true fun s' I'=>⟨.bl _,H,I',by simp[L2.RelV],G.bl⟩
 ·unfold pN at hg;split at hg
  ·exact absurd ⟨_,_,rfl⟩ hs
  ·cases hg
theorem Ac(hc:X.calm=true)(hu:X.A.units+62<cLine):iV X (.builtin "sorted") (rDn X.K (g1 wu)):=nL fun pins s σ H x u Q O d z I ru np hd hg G=>by
 by_cases hs: ∃ks vs,d= .oth .dct ks vs
 ·obtain⟨ks,vs,rfl⟩:=hs;have w9:iP ks=some z:=hg;obtain⟨a,us,rfl,q,r⟩:=mP hd;cases ru;have hh:X.A.handled=none:=I.ok.hd hc;rcases q with⟨kvs,e,rfl,rfl⟩|⟨kvs,e,rfl,rfl⟩
  ·obtain⟨zl,aE,vs',rel,o,es,ep,h1,h2,h3,h4,h5,h6⟩:=MA I.hok e;have vv:=xD h5 rel;have hl:=vv.length;simp only[iq,iG] at hl;exact mR hu I (xN (O:=O) kvs) vv w9 G fun Q' E' A' dG hQ=>TT.J5 aE (by rw[dG];exact hh) ⟨o,h1,h2,h3⟩ (by omega) fun h' tk k=>hQ h' tk k
  ·obtain⟨zl,aE,xs,rel,o,es,ep,h1,h2,h3,h4,h5,h6⟩:=JU I.hok e;have hl:=tJ rel;have hz:es.size=xs.length:=size_of_entries h4;refine mR hu I (vN np rel) (CQ (P:=X.prog) (w:=X.w) xs) w9 G fun Q' E' A' dG hQ=>TT.J5 aE (by rw[dG];exact hh) ⟨o,h1,h2,h3⟩ (by omega) fun h' tk k=>?_;rw[h4];exact hQ h' tk k
 ·unfold wu at hg;split at hg
  ·exact absurd ⟨_,_,rfl⟩ hs
  ·cases hg
end
def JQ:F:=fun δ=>some ((.oth .set [] [],true),δ)
def uj(i:Nat)(f:F):F:=fun δ=>match δ[i]? with
 |some (some (.oth .set _ _,true))=>(f δ).bind fun p=>match p.2[i]? with
  |some (some (.oth .set _ vs,true))=>if vs.all okS=true/\okS p.1.1=true/\vs.length<500 then some ((.non,false),p.2.set i (some (.oth .set [] (Ak vs p.1.1),true))) else none
  |_=>none
 |_=>none
def JP(fo:FO):FT:=fun δ=>(fo δ).bind fun p=>match res p.2 p.1 with
 |some (.lst l)=>some (!l.isEmpty,p.2)
 |_=>none
section
variable {X:Cx}{e:gf}{f:F}{fo:FO}{pos b7 apos e9 p:Pos}{i:Nat}{x:Str}
theorem Le(h:PO X e fo)(he: ∀whole,isTrue e X.env whole=(do let v <-whole;standAt e.pos;holding [v] (truthy v))):PTX X e (JP fo):=PT.imp' (Iu h he) fun σ H Q hw=>by
 obtain⟨δ,T,b,δ',E,e,k⟩:=hw;obtain⟨⟨o,δ1⟩,h1,e⟩:=fU e;refine⟨δ,T,o,δ1,E,h1,fun v H1 P=>?_⟩;dsimp only at e;split at e
 ·rename_i l hl;obtain⟨rfl,rfl⟩:=gq e;have B:=Ops.cons E P (Ops.nil (P.er E));obtain⟨a,xs,rfl,q,r⟩:=iX (B.view (j:=0) rfl rfl hl);refine⟨!l.isEmpty,.inl ⟨xs,q,?_⟩,k H1 B.keep (B.er.mono (fun _ _ e _=>e) (fun b _ z=>B.tt b z) (fun a z=>B.er.dom a (B.tt a z)))⟩;have:=r.length;cases l<;>cases xs<;>simp_all
 ·cases e
theorem KS(hg:Gl X "set")(hm:X.mg "set"=none):PX X (.Call (.Name "set" p) [] [] pos) JQ:=fun pins s σ H Q I hw=>by
 obtain⟨δ,T,rr,δ',E,e,k⟩:=hw;cases e;refine vm (tP I hg hm Ot ?_ (by decide) (by decide));refine PyProof.Rows.callWith_type0 (TT.Oo ?_);have hp:=I.hok.fresh (gQ s.heap.objs.size);refine⟨.ref s.heap.objs.size,upd H s.heap.objs.size (.stt []),I.laid (t':=s.toks) (o:= .stt []) (fun b ob q=>gY _ q) (gQ _) ?_,rfl,(Ops.nil E).done k _ _ hp (jm hp) ⟨[],⟨rfl,[],gy,.nil⟩,RepL.nil⟩⟩;exact⟨#[],0,_,iU _ rfl,.nil,TT.TabOk.fresh _ _ _,rfl,rfl⟩
theorem KU(hu:X.A.units+90<cLine)(hn:PO X (.Name x b7) (fZ i))(he:PX X e f)(g0:attributeBase (.Name x b7) "add" X.env (eval (.Name x b7) X.env)=eval (.Name x b7) X.env)
  (l7:((backTo e9 (starEach [e] X.env)).all (fun x=>!x.1)&&(backToKw e9 (keywordEach [] X.env)).all (fun x=>x.1.isSome)&&decide ([e].length+([]:List Keyword).length+(if([]:List Keyword).isEmpty then 0 else 1)<30))=true)
  (f9:(apos.endLine==e9.line)=true)(hs:starEach [e] X.env=(false,eval e X.env)::starEach [] X.env)(i0:(backTo e9 (starEach [] X.env)).any (·.1)=false):
  PX X (.Call (.Attribute (.Name x b7) "add" apos) [e] [] e9) (uj i f):=fun pins s σ H Q I hw=>by
 obtain⟨δ,T,rr,δ',E,e0,k⟩:=hw;unfold uj at e0;split at e0
 case h_2=>cases e0
 rename_i k0 w0 h0;obtain⟨⟨r,δ1⟩,h1,e0⟩:=fU e0;dsimp only at e0;split at e0
 case h_2=>cases e0
 rename_i k1 vs h2;obtain⟨⟨o1,o2,o3⟩,e0⟩:=gM e0;obtain⟨rfl,rfl⟩:=oG e0;refine Hl g0 l7 f9 rfl (thn (hn pins s σ H (fun v H1=>PostO X.K T σ δ H (.slot i) δ v H1) I ⟨δ,T,.slot i,δ,E,by unfold fZ;rw[h0],fun _ _ P=>P⟩) fun v s1 ⟨y,H1,I1,r1,K1,E1,hσ⟩=>?_);obtain⟨a,g1,us0,⟨_,zs,g2,_⟩,g3⟩:=E1.own i _ h0;rw[hσ] at g1;cases g1;cases r1;obtain⟨es,n,t,ho,_⟩:=(show ObjOk X.prog X.w H1 s1.heap a (.stt zs) from I1.hok a _ g2)
 refine⟨"set","set.add",PySem.F.plainAttrs_set,GJ,PySem.F.type_set_add,⟨_,ho,rfl⟩,fun b eb=>by cases eb;exact⟨_,ho,rfl⟩,?_⟩;have hA:=jK he mH hs e9 pins s1 σ H1 (fun vs H2=> ∃y,vs=[y]/\Post X.K T σ δ H1 r δ1 y H2) I1 ⟨δ,T,r,δ1,E1,h1,fun y H2 P=>⟨y,rfl,P⟩⟩;rw[hs] at hA ⊢;refine Cw (by show(false||(backTo e9 (starEach [] X.env)).any (·.1))=false;rw[i0];rfl) (Hk (thn hA fun us s2 ⟨ws,H2,I2,r2,y,hy,P2⟩=>?_));subst hy;obtain⟨u,rfl,ru⟩:=r2.one;obtain⟨E2,ry⟩:=P2.rep E1;obtain⟨a',q1,us,q2,q3⟩:=E2.own i _ h2;rw[hσ] at q1;cases q1;obtain⟨es,n,t,l,S⟩:=OthB.setV I2 q2 q3;refine kX GJ ⟨_,S.is.at_,rfl⟩ PySem.F.entry_set_add ?_ (PySem.F.args_set_add_2 _ _);unfold Builtin.«set.add» Builtin.Frozenset.oneOther;simp only[sG,qa];unfold Builtin.Frozenset.addrOf;refine fW (gg ?_)
 try dsimp only
 refine fW (SetV.add I2 S o1 (.inl ry) ry ru o2 o3 (by show X.A.units+1+60<cLine;lia) fun b h' tk es' n' t' l' ht aL S'=>?_);show wpAny _ _ (ret Value.none) _ _ _;have rl: ∀p∈l',Rep X.K H2 (fun a=>OwnA σ δ1 a\/T a) p.1 p.2:=S'.rep;have oa:OwnA σ δ1 a:=⟨i,_,h2,hσ⟩
 have kp: ∀(ho:HO) b u,H2 b=some u-> ¬(OwnA σ δ1 b\/T b)->upd H2 a ho b=some u:=fun ho b u e n=>by rw[gA (by intro z;subst z;exact n (.inl oa))];exact e
 obtain⟨cI,z1,z2⟩:=S'.oth (K:=X.K) (H':=upd H2 a (.stt (l'.map hv))) (O':=fun a=>OwnA σ δ1 a\/T a) (fun p hp=>Rep.mono (kp _) (fun _ _ z=>z) (rl p hp)) gy;obtain⟨E4,K4⟩:=E2.writeG (o:= .stt (l'.map hv)) (d':= .oth .set [] (Ak vs r.1)) h2 hσ ⟨cI,z1,z2⟩;refine gg ⟨_,rfl,.non,_,?_,rfl,k _ _ (Post.val ((K1.trans P2.1).trans K4) E4 Rep.mkNon)⟩;obtain⟨us2,zs2,g4,_⟩:=q2;exact pR (t':=tk) I2 (by rw[g4];exact True.intro) aL ⟨_,S'.is.at_⟩ S'.objOk
theorem Mf(hu:X.A.units+90<cLine)(hn:QO X (.Name x b7) (fZ i))(he:QX X e f)(g0:attributeBase (.Name x b7) "add" X.env (eval (.Name x b7) X.env)=eval (.Name x b7) X.env:=by rfl)
  (l7:((backTo pos (starEach [e] X.env)).all (fun x=>!x.1)&&(backToKw pos (keywordEach [] X.env)).all (fun x=>x.1.isSome)&&decide ([e].length+([]:List Keyword).length+(if([]:List Keyword).isEmpty then 0 else 1)<30))=true:=by rfl)
  (f9:(apos.endLine==pos.line)=true:=by rfl)(hs:SE X e []:=by rfl)(i0:BA X pos []:=by rfl):QX X (.Call (.Attribute (.Name x b7) "add" apos) [e] [] pos) (uj i f):=⟨KU hu hn.h he.h g0 l7 f9 hs i0⟩
theorem tTr(h:QO X e fo)(he: ∀whole,isTrue e X.env whole=(do let v <-whole;standAt e.pos;holding [v] (truthy v)):=by exact fun _=>rfl):QT X e (JP fo):=⟨Le h.h he⟩
theorem OL{p:Pos}(hm:X.mg "set"=none)(hg:Gl X "set":=by rfl):QX X (.Call (.Name "set" p) [] [] pos) JQ:=⟨KS hg hm⟩
end
def JR(fo:FO):F:=fun δ=>(fo δ).bind fun p=>match res p.2 p.1 with
 |some d=>if(wo d).isSome=true then some ((.oth .dct [d] [.bl true],true),p.2) else none
 |none=>none
theorem TmpO.le{T:AP'}{o:Opd}{v:V}{a:fV}(h:T a):TmpO T o v a:=by cases o<;>first|exact .inl h|exact h
section
variable {X:Cx}{k:gf}{fo:FO}{pos p2:Pos}{j:Nat}
theorem K5(hu:X.A.units+62<cLine)(hk:PO X k fo):PX X (.Dict [some k] [.Constant (.bool true) j p2] pos) (JR fo):=fun pins s σ H Q I hw=>by
 obtain⟨δ,T,rr,δ',E,e,kq⟩:=hw;obtain⟨⟨o,δ1⟩,h1,e⟩:=fU e;dsimp only at e;split at e
 case h_2=>cases e
 rename_i d hd;obtain⟨ej,e⟩:=gM e;obtain⟨rfl,rfl⟩:=oG e;obtain⟨τ,hτ⟩:=GH.mp ej;have hp:=I.hok.fresh (gQ s.heap.objs.size);generalize hP:s.heap.objs.size=p at hp;have I1:=I.laid (a:=p) (o:= .dT []) (h':=s.heap.push {cls:= .type "dict",data:= .dict #[]}) (t':=s.toks) (fun _ _ q=>gY _ q) (Nat.le_of_eq hP) (hP▸JV s.heap I.big);have P0:PostO X.K T σ δ H (.val (.oth .dct [] [],true)) δ (.ref p) (upd H p (.dT [])):=((Ops.nil E).done (Q:=fun v H'=>Post X.K T σ δ H (.oth .dct [] [],true) δ v H') (fun _ _ P=>P)) p _ hp (jm hp) ⟨[],.inr ⟨[],gy,rfl,rfl⟩,RepL.nil⟩;have E1:=P0.er E;rw[arm_eval_Dict,zip_pairTrees [some k] [.Constant (.bool true) j p2] X.env pos rfl rfl,dictDisplay_pairs _ (fun z=>by cases z) (by show 1<17;decide)];refine fW (vo (fW ?_));unfold subDict;refine fW (Cv ?_);refine fW (kL ?_);rw[gh (by show 1<=15;decide),hP];refine fW (pairTrees_cons_walk (thn (hk pins _ σ _ (fun v H2=>PostO X.K _ σ δ (upd H p (.dT [])) o δ1 v H2) I1 ⟨δ,_,o,δ1,E1,h1,fun _ _ P=>P⟩) fun kv s1 ⟨y,H2,I2,r1,P⟩=>Constant_bool (evalPairs_nil ?_)));have B:=Ops.cons E P0 (Ops.cons E1 P (Ops.nil (P.er E1)));obtain⟨b,rfl,hb⟩:=mQ hτ (B.view (j:=1) rfl rfl hd);cases r1;have np: ¬OwnA σ δ p:=fun z=>E.ownDom z hp;have hT:TmpO T (.val (.oth .dct [] [],true)) (.ref p) p:= .inr ⟨rfl,rfl⟩;have np1: ¬OwnA σ δ p:=np;have e2:H2 p=some (.dT []):=P.keep.kp p _ gy np;obtain⟨z,hsys,xs,rel,dd⟩:=JU I2.hok e2;cases rel;refine kL (fW ?_);rw[tq];refine fW (fW (wpAny_dictSet_heap (show(tupleKind (iT X.prog X.w)).room X.A from(by show X.A.units<cLine;lia)) (qL I2.hok hb) dd (fun h' cY hs=>gg ?_) (by simp)));dsimp only;rw[vf];refine gg (gg (gg (gg ?_)));obtain⟨q,es,ep,hq,h2,h3,h4,_,h5⟩:=cY;have l6:b≠p:=Ji hb e2 (fun z=>nomatch z)
 have dm: ∀a,H2 a≠none->upd H2 p (.dT [(τ,.bl true)]) a≠none:=fun a z=>by
  by_cases ha:a=p
  ·subst ha;rw[gy];simp
  ·rw[gA ha];exact z
 refine⟨.ref p,upd H2 p (.dT [(τ,.bl true)]),pR I2 (by rw[e2];exact True.intro) hs ⟨q,hq⟩ ⟨by rw[jd];simp,hsys,[(τ,b,.bool true)],.cons ⟨rfl,by rw[gA l6];exact hb,rfl⟩ .nil,q,es,ep,hq,h2,h3,h4,h5⟩,rfl,kq _ _ ⟨⟨fun a u q n=>?_,B.keep.owi,fun a z=>dm a (B.keep.dm a z)⟩,p,rfl,hp,B.er.mono (fun c u q n=>?_) (fun c _ z=>?_) (fun c z=>?_),[.bl true],.inr ⟨[(τ,.bl true)],gy,?_,rfl⟩,RepL.one Rep.mkBl⟩⟩
 ·rw[gA (fun z=>by subst z;rw[q] at hp;cases hp)];exact B.keep.kp a u q n
 ·rw[gA (fun z=>by subst z;exact n (TmpO.le hT))];exact q
 ·rcases z with z|rfl
  ·exact TmpO.le (.inl z)
  ·exact TmpO.le hT
 ·by_cases hc:c=p
  ·subst hc;rw[gy];trivial
  ·rw[gA hc];rcases z with z|z
   ·exact(P.er E1).dom c (TmpO.le (.inl z))
   ·exact absurd z hc
 ·rw[oV hτ];rfl
end
mutual
def pyD:D->Option PyData
 | .int i=>some (.int i)
 | .tup l=>(pyL l).map .tuple
 | .lst l=>(pyL l).map .list
 |_=>none
def pyL:List D->Option (List PyData)
 |[]=>some []
 |d::l=>(pyD d).bind fun x=>(pyL l).map (x:: ·)
end
def ug(d:D):Option (D×Bool):=match d with
 | .lst l| .tup l=>(pyD d).bind fun y=>if y.showable=true/\y.hasDict=false/\y.depth<=20/\y.shown.length<=sizeLine then some (.str y.shown,false) else none
 |_=>none
theorem uM{o:Option (List PyData)}{f:List PyData->PyData}{y:PyData}(h:o.map f=some y): ∃l,o=some l/\y=f l:=by
 cases o with
 |none=>cases h
 |some l=>cases h;exact⟨l,rfl,rfl⟩
theorem Im{o:Option (List PyData)}{f:List PyData->List PyData}{y:List PyData}(h:o.map f=some y): ∃l,o=some l/\y=f l:=by
 cases o with
 |none=>cases h
 |some l=>cases h;exact⟨l,rfl,rfl⟩
section
variable {X:Cx}{pins:gG}{σ:L2.St}{H:Hp}{s:gb}
mutual
theorem KG(I:Inv X pins σ H s): ∀(d:D) {v:V} {u:gi} {O:AP'} {y:PyData},Rep X.K H O d v->RelV v u->pyD d=some y-> ∃as,Reads s.heap u y as
 | .int i,v,u,O,y,r,ru,h=>by
  cases h;cases r.int;obtain⟨t,rfl⟩:=ru;exact⟨[],.int i t⟩
 | .tup l,v,u,O,y,r,ru,h=>by
  obtain⟨m,hm,rfl⟩:=uM h;obtain⟨a,xs,rfl,q,rl⟩:=jr (.inl r);cases ru;obtain⟨b6,rv,⟨o,h1,h2,n,h3⟩,_⟩:=I.tuple q;obtain⟨as,ra⟩:=rN I l rl rv hm;exact⟨as,.tuple h1 h2 h3 (by simpa using ra)⟩
 | .lst l,v,u,O,y,r,ru,h=>by
  obtain⟨m,hm,rfl⟩:=uM h;obtain⟨a,xs,rfl,q,rl⟩:=iX (.inl r);cases ru;obtain⟨b6,rv,⟨o,n,h1,h2,_,h3⟩,_⟩:=I.list q;obtain⟨as,ra⟩:=rN I l rl rv hm;exact⟨a::as,.list h1 h2 h3 (by simpa using ra)⟩
 | .bl _,_,_,_,_,_,_,h=>by cases h
 | .non,_,_,_,_,_,_,h=>by cases h
 | .str _,_,_,_,_,_,_,h=>by cases h
 | .oth _ _ _,_,_,_,_,_,_,h=>by cases h
theorem rN(I:Inv X pins σ H s): ∀(l:List D) {vs:List V} {us:hJ} {O:AP'} {ys:List PyData},RepL X.K H O l vs->Vals vs us->pyL l=some ys-> ∃as,ReadsAll s.heap us ys as
 |[],vs,us,O,ys,r,rv,h=>by
  cases h;rw[RepL] at r;subst r;cases rv;exact⟨[],.nil⟩
 |d::l,vs,us,O,ys,r,rv,h=>by
  rw[pyL] at h;obtain⟨x,hx,h⟩:=fU h;obtain⟨m,hm,rfl⟩:=Im h;rw[RepL] at r;obtain⟨v,w,rfl,r1,r2⟩:=r
  cases rv with
  |cons q1 q2=>
   obtain⟨as,ra⟩:=KG I d r1 q1 hx;obtain⟨bs,rb⟩:=rN I l r2 q2 hm;exact⟨_,.cons ra rb⟩
end
theorem DV(hg:X.A.guards=some [])(hu:X.A.units+62<cLine):iV X (.builtin "repr") (rDn X.K (g1 ug)):=nL fun pins s σ H x u Q O d z I ru np hd hr G=>by
 have key: ∀y,(∃as,Reads s.heap u y as)->(∃a,u= .ref a)->(if y.showable=true/\y.hasDict=false/\y.depth<=20/\y.shown.length<=sizeLine then some (D.str y.shown,false) else none)=some z->wpAny (model X.prog X.w) X.A (call (.builtin "repr") [u]) (EP X pins σ Q) X.xe s:=fun y ⟨as,r⟩ ⟨a,ea⟩ h=>by
  obtain⟨⟨h1,h2,h3,h4⟩,rfl⟩:=gM h;subst ea;exact repr_of_reads' r h1 (PyData.noDict_hsm h2) hg (by lia) (fun _ _ e=>e) (fun h' t tk hk=>⟨.str y.shown,H,I.kept hk,⟨_,rfl⟩,G _ H (fun _ _ e=>e) Rep.mkStr⟩) h4
 cases d with
 |lst l=>
  obtain⟨y,hy,hr⟩:=fU (show(pyD (.lst l)).bind _=some z from hr);obtain⟨a,xs,rfl,q,rl⟩:=iX hd;cases ru;obtain⟨m,hm,rfl⟩:=uM hy;obtain⟨b6,rv,⟨o,n,h1,h2,_,h3⟩,_⟩:=I.list q;obtain⟨as,ra⟩:=rN I l rl rv hm;exact key _ ⟨_,.list h1 h2 h3 (by simpa using ra)⟩ ⟨a,rfl⟩ hr
 |tup l=>
  obtain⟨y,hy,hr⟩:=fU (show(pyD (.tup l)).bind _=some z from hr);obtain⟨a,xs,rfl,q,rl⟩:=jr hd;cases ru;obtain⟨m,hm,rfl⟩:=uM hy;obtain⟨b6,rv,⟨o,h1,h2,n,h3⟩,_⟩:=I.tuple q;obtain⟨as,ra⟩:=rN I l rl rv hm;exact key _ ⟨_,.tuple h1 h2 h3 (by simpa using ra)⟩ ⟨a,rfl⟩ hr
 |_=>cases hr
variable {a:gf}{fa:FO}{pos p:Pos}{k:gf}{fo:FO}{p2:Pos}{j:Nat}
theorem xRp(hgd:X.A.guards=some [])(hu:X.A.units+62<cLine)(hm:X.mg "repr"=none)(ha:QA X [a] [fa])(hg:Gl X "repr":=by rfl)(he:SE X a []:=by rfl)(i4:BA X pos []:=by rfl):QX X (.Call (.Name "repr" p) [a] [] pos) (gW (g1 ug) [fa]):=
 ⟨EB (DV hgd hu) hg hm (by decide+kernel) ha.h (by decide) (by decide) he i4⟩
theorem xDT(hu:X.A.units+62<cLine)(hk:QO X k fo):QX X (.Dict [some k] [.Constant (.bool true) j p2] pos) (JR fo):=⟨K5 hu hk.h⟩
end
end PX
namespace L2
open PySem PySem.Spec PyProof.Rows PySem.W
end L2
namespace PX
open PySem PySem.Spec PyProof.Rows L2
end PX
namespace L2
open PySem PySem.Spec PyProof.Rows PySem.W
section
variable {P:gw}{w:gm}{outer:List Env}{H H':Hp}{s s':gb}{C ea:fV}{h0 B h':gz}{F:iI}
end
section
variable {X:Cx}{pins:gG}{σ:St}{H:Hp}{s s':gb}{C ea:fV}
variable {P:gw}{w:gm}{outer:List Env}{H0:Hp}{s0:gb}{E:XK}
end
section
variable {X:Cx}{P:gw}{w:gm}{outer:List Env}{H0:Hp}{s0:gb}{E:XK}{x:Str}{C:fV}{a:gf}{ta:TE}{np e9 pos:Pos}
end
section
variable {X:Cx}{pins:gG}{σ:St}{H:Hp}{s:gb}{P c:fV}{params:Arguments}{body:gf}{scope:iC}{cC:jx}{pos:Pos}
end
section
variable {CX:CXT}{P:gw}{w:gm}{K:Frag}{mg:ke}{base:gz}{N:gJ}{q:Str}{scope:iC}{fl:fV}{cd:gi}{cC:jx}{A:gv}{outer:List Env}{s:gb}{H:Hp}{E:XK}{σ:St}
end
open PySem.Calls Builtin Builtin.ObjectAttr Builtin.Getset_descriptor
section
variable {K:Frag}{C x:fV}{o:Obj}
end
section
variable {X:Cx}{pins:gG}{σ σ':St}{H:Hp}{s:gb}{a:fV}{o:Obj}{h':gz}
end
section
variable {X:Cx}{pins:gG}{σ:St}{H H':Hp}{s s':gb}{C ea:fV}{h0 B h':gz}{F:iI}{a0:gi}
end
end L2
namespace PX
open PySem PySem.Spec PyProof.Rows L2 PySem.SeqAt PySem.W
abbrev XS:=Dn->Option Str
section
variable {X:Cx}{P:gw}{w:gm}{outer:List Env}{H0:Hp}{s0:gb}{E:XK}{A:hZ}{st:Stmt}{cK a b:List Stmt}{x y:XS}{e:gf}{pos:Pos}
variable {k:Nat}{f:fV}{fd:kI}{ps:gJ}{xc:List D->Option Str}{es:iF}{fs:List FO}{z:Str}{p:Pos}
end
end PX
namespace L2
open PySem PySem.Spec PyProof.Rows PySem.W
section
variable {fs:iI}{N:gJ}{scope:iC}{cC:jx}{σ:St}{H H':Hp}{h h':gz}{q:Str}{params:Arguments}{body:gf}{fl:fV}
end
section
variable {X:Cx}{N:gJ}{scope:iC}{cC:jx}{σl:St}{q:Str}{params:Arguments}{body:gf}{fl:fV}{k:Nat}{t:XK->TE}
end
end L2
namespace PX
open PySem PySem.Spec PyProof.Rows L2 PySem.SeqAt PySem.W
section
variable {X:Cx}
end
section
variable {X:Cx}{Pt c:fV}{params:Arguments}{body:gf}{scope:iC}{pos lpos pf:Pos}{caps:gX}{N' NR:gJ}{fB:F}{xB:XS}{fsR:FS}{CI:Str->Option Nat}{asg:gX}{st:Stmt}{fr:fV}{fdr:kI}{xf xc xr xx xn:Str}{CR:fV}{i j k:Nat}
end
section
variable {X:Cx}
variable {pos b7 apos e9 p2:Pos}{i:Nat}{x:Str}{kk:Nat}
end
section
variable {X:Cx}{e:gf}{fa:FO}{pos p p2:Pos}{z:Str}{CL:gX}{D0:Nat}
variable {x:Str}{i kk:Nat}{b7 apos:Pos}{a:gf}{f:F}
end
section
variable {X:Cx}{P:gw}{w:gm}{outer:List Env}{H0:Hp}{s0:gb}{E:XK}{A:hZ}{st:Stmt}{cK b:List Stmt}{x y:XS}{e:gf}{pos p e9:Pos}{f:FS}{z:Str}{a:gf}{fa:F}{k:Nat}{ps:gJ}{xc:List D->Option Str}{es:iF}{fs:List FO}{ft:FT}{c:gf}
end
section
variable {X:Cx}{k:Nat}{f:fV}{fd:kI}{ps:gJ}{x:Str}{p pos:Pos}{e a:gf}{es:iF}{ev:EvF}{fs:List FO}{fa:FO}{TB:List (Addr×Str)}
end
section
variable {Z:ZZ}{ct rs:List (Str×Nat)}{CR:Nat}
end
section
variable {X:Cx}{x y a b c d:gf}{u v z:Str}{fa fb fc fd:FO}{pos p1 p2 p3 p4 p5:Pos}{j1 j2 j3:Nat}{op t5 op'':CmpOp}
end
section
variable {X:Cx}{E:XK}{A:hZ}{tg iter:gf}{body:List Stmt}{fi:FIt}{t:Tg}{fb:FS}{x:XS}{pos:Pos}
end
end PX
namespace PV
open PySem PySem.Spec PyProof.Rows L2 PX
abbrev Mc:Nat:=100000
abbrev RD:Nat:=6
def oZ:FS:=(gn (jJ (zT (kh (qM [.int]) (fZ 0)) (LZ (kh (qM [.bool]) (fZ 0))))) gL)
def lg:EvF:=evF 1 1 [] oZ
def lI:FS:=(gn (jJ (zT (gx lg [(fZ 0)]) (tV .LtE .LtE (fZ 1) (fZ 0) (fZ 2)))) gL)
def jq:EvF:=evF 3 3 [] lI
def qN:FS:=(gn (jJ (gx jq [(fZ 1),(gc (fC (.int 1))),(fZ 0)])) gL)
def nI:EvF:=evF 2 2 [] qN
def nH:FS:=(gn (jJ (zT (gx lg [(fZ 1)]) (gx nI [(fZ 0),(gc (gW (g1 DJ) [(fZ 1)]))]))) gL)
def kO:EvF:=evF 2 2 [] nH
def jv:FS:=(gn (sIf (tU (mD (fT (kh (qM [.tuple]) (fZ 1)))) (fT (gC gNe (gc (gW (g1 uC) [(fZ 1)])) (fZ 0)))) (gn (jJ (fC (.bl false))) gL) gL) (gn (sIf (mD (fT (gW (g1 Gq) [(gc (kM [0] 1 (kD (jF 1)) (gB 1) kZ (lh (gx kO [(fZ 0),(fZ 1)]))))]))) (gn (jJ (fC (.bl false))) gL) gL) (gn (jJ (gC gEq (gc (pO [] 1 (kD (jF 1)) (gB 0) kZ (wU (gW (g1 DJ) [(fZ 0)])))) (fZ 0))) gL)))
def iD:EvF:=evF 2 2 [] jv
def oX:FS:=(gn (jJ (fIf (fT (gC (sf .Gt) (fZ 1) (gc (fC (.int 0))))) (gC gIx (fZ 0) (gc (gC gSub (fZ 1) (gc (fC (.int 1)))))) (kh pV (gc (gC gIx (fZ 0) (gc (gC gSub (gc (kh pV (fZ 1))) (gc (fC (.int 1)))))))))) gL)
def lb:EvF:=evF 2 2 [] oX
def kE:FS:=(gn (sIf (fT (gC (sf .Lt) (fZ 1) (gc (gW (g1 uC) [(fZ 0)])))) (gn (jJ (gC gIx (fZ 0) (fZ 1))) gL) gL) (gn (jJ (fC (.int 0))) gL))
def jI:EvF:=evF 2 2 [] kE
def lH:FS:=(gn (iW 2 (gx jI [(fZ 0),(fZ 1)])) (gn (sIf (fT (gC (sf .GtE) (fZ 2) (gc (gC Gp (gc (fC (.int 10))) (gc (fC (.int 18))))))) (gn (jJ (jw [(gC gSub (fZ 2) (gc (gC Gp (gc (fC (.int 10))) (gc (fC (.int 18)))))),(fC (.bl true))])) gL) gL) (gn (jJ (jw [(gC xk (fZ 2) (gc (fC (.int 2147483647)))),(fC (.bl false))])) gL)))
def jP:EvF:=evF 3 2 [2] lH
def mz:FS:=(gn (sIf (fT (gC gIx (fZ 0) (gc (fC (.int 1))))) (gn (iW 2 (gC xk (gc (gC gIx (fZ 0) (gc (fC (.int 0))))) (fZ 1))) (gn (tM 0 (gC JM (gc (gC gIx (fZ 0) (gc (fC (.int 0))))) (fZ 1)) (gc (fC (.int 0)))) (gn (pH 2) gL))) gL) (gn (tM 0 (gC xk (gc (gC zS (gc (gC se (gc (gC gIx (fZ 0) (gc (fC (.int 0))))) (gc (fC (.int 48271))))) (gc (fC (.int 29))))) (gc (fC (.int 2147483647)))) (gc (fC (.int 0)))) (gn (iW 3 (gC xk (gc (gC zS (gc (gC zS (gc (gC se (gc (gC gIx (fZ 0) (gc (fC (.int 0))))) (gc (gC gIx (fZ 0) (gc (fC (.int 0))))))) (gc (gC se (gc (fC (.int 39373))) (gc (gC gIx (fZ 0) (gc (fC (.int 0))))))))) (gc (fC (.int 7))))) (gc (fC (.int 2147483629))))) (gn (iW 3 (gC xk (gc (gC zS (gc (gC se (fZ 3) (fZ 3))) (gc (gC se (gc (fC (.int 16807))) (fZ 3))))) (gc (fC (.int 2147483587))))) (gn (jJ (gC xk (gc (gC JM (fZ 3) (gc (fC (.int 8))))) (fZ 1))) gL)))))
def gF:EvF:=evF 4 2 [2,3] mz
def oY:FS:=(gn (iW 2 (gW (gRg .lst true) [(gc (fC (.int 1))),(gc (gC zS (fZ 1) (gc (fC (.int 1)))))])) (gn (iW 3 (jw [])) (gn (oO (zM (fZ 1)) (gB 4) (gn (jB (jg 3 (gC se (gc (qO 2 (gc (gx gF [(fZ 0),(gc (gW (g1 uC) [(fZ 2)]))])))) (gc (gC gIx (gc (jw [(fC (.int 1)),(kh pV (gc (fC (.int 1))))])) (gc (gx gF [(fZ 0),(gc (fC (.int 2)))]))))))) gL)) (gn (jJ (gW (g1 nG) [(fZ 3)])) gL))))
def jH:EvF:=evF 5 2 [2,3,4] oY
def jU:FS:=(gn (jJ (gC se (gc (gC gIx (fZ 0) (gc (gC gSub (gc (gW (g1 DJ) [(fZ 1)])) (gc (fC (.int 1))))))) (gc (gC gIx (gc (jw [(fC (.int 1)),(kh pV (gc (fC (.int 1))))])) (gc (gW (g1 LS) [(gc (gC (sf .Lt) (fZ 1) (gc (fC (.int 0)))))])))))) gL)
def iu:EvF:=evF 2 2 [] jU
def iH(ev:EvF):FS:=(gn (sIf (fT (kh (qM [.tuple,.list]) (fZ 1))) (gn (sIf (tU (fT (gC gNe (gc (kh (qM [.tuple]) (fZ 0))) (gc (kh (qM [.tuple]) (fZ 1))))) (fT (gC gNe (gc (kh (qM [.list]) (fZ 0))) (gc (kh (qM [.list]) (fZ 1)))))) (gn (jJ (fC (.bl false))) gL) gL) (gn (jJ (zT (gC gEq (gc (gW (g1 uC) [(fZ 0)])) (gc (gW (g1 uC) [(fZ 1)]))) (gW (g1 Gq) [(gc (kM [] 2 (tQ (fZ 0) (fZ 1)) (vG [(gB 0),(gB 1)]) kZ (lh (gx ev [(fZ 0),(fZ 1)]))))]))) gL)) gL) (gn (jJ (zT (gC gEq (fZ 0) (fZ 1)) (gC gEq (gc (kh (qM [.bool]) (fZ 0))) (gc (kh (qM [.bool]) (fZ 1)))))) gL))
def gZ:Nat->EvF
 |0=>fun _=>none
 |m+1=>evF 2 2 [] (iH (gZ m))
def jN:FS:=(gn (sIf (mD (fT (gx iD [(fZ 0),(fZ 1)]))) (gn vL gL) gL) gL)
def ji:EvF:=evF 2 2 [] jN
def yi:FS:=(gn (jJ (gW (g1 nG) [(gc (kM [1] 1 (kD (jF 0)) (gB 1) kZ (lh (gx lb [(fZ 0),(fZ 1)]))))])) gL)
def mY:EvF:=evF 2 2 [] yi
def Bw:FS:=(gn (jJ (gW (gRg .tup false) [(gc (fC (.int 1))),(gc (gC zS (fZ 0) (gc (fC (.int 1)))))])) gL)
def lX:EvF:=evF 1 1 [] Bw
def kd:FS:=(gn (sIf (mD (fT (gx jq [(fZ 0),(fZ 1),(fZ 2)]))) (gn vL gL) gL) gL)
def js:EvF:=evF 3 3 [] kd
def wy:FS:=(gn (iW 2 JQ) (gn (jB (uj 2 (gx lX [(fZ 0)]))) (gn (iW 3 (jw [(gx lX [(fZ 0)])])) (gn (kg (JP (fZ 3)) (gn (iW 4 (jw [])) (gn (oO (kD (jF 3)) (gB 5) (gn (oO (kD (jF 1)) (gB 6) (gn (iW 7 (gx mY [(fZ 5),(fZ 6)])) (gn (sIf (fT (gC sd (fZ 7) (fZ 2))) (gn (jB (uj 2 (jF 7))) (gn (jB (jg 4 (jF 7))) gL)) gL) gL))) gL)) (gn (iW 3 (jF 4)) gL))) Mc) (gn (jJ (gW (g1 oW) [(fZ 2)])) gL)))))
def qP:EvF:=evF 8 2 [2,3,4,5,6,7] wy
def wx:FS:=(gn (jB (gx js [(fZ 0),(gc (fC (.int 0))),(gc (fC (.int 4)))])) (gn (oO (kD (jF 1)) (gB 2) (gn (jB (gx ji [(fZ 0),(fZ 2)])) gL)) (gn (jJ (gx qP [(fZ 0),(fZ 1)])) gL)))
def jb:EvF:=evF 3 2 [2] wx
def uh:FS:=(gn (iW 2 (gW (gRg .tup false) [(gc (fC (.int 1))),(gc (gC zS (fZ 0) (gc (fC (.int 1)))))])) (gn (iW 3 (JR (fZ 2))) (gn (iW 4 (jw [(jF 2)])) (gn (kg (fT (gC gNe (fZ 4) (gc (jw [])))) (gn (iW 5 (fPop 4)) (gn (oO (kD (jF 1)) (gB 6) (gn (iW 7 (gW (g1 nG) [(gc (kM [6] 1 (kD (jF 5)) (gB 1) kZ (lh (gx iu [(fZ 0),(fZ 1)]))))])) (gn (sIf (fT (gC pN (fZ 7) (fZ 3))) (gn (xM 3 (fC (.bl true)) (fZ 7)) (gn (jB (jg 4 (jF 7))) gL)) gL) gL))) gL)) Mc) (gn (jJ (gW (g1 wu) [(fZ 3)])) gL)))))
def km:EvF:=evF 8 2 [2,3,4,5,6,7] uh
def ui:FS:=(gn (iW 2 (jw [])) (gn (oO (zM (gc (gx gF [(fZ 0),(gc (fC (.int 5)))]))) (gB 3) (gn (iW 4 (gx jH [(fZ 0),(fZ 1)])) (gn (sIf (ym (fT (gC gNe (fZ 2) (gc (jw [])))) (fT (gC gEq (gc (gx gF [(fZ 0),(gc (fC (.int 3)))])) (gc (fC (.int 0)))))) (gn (iW 4 (gC gIx (gc (gx km [(fZ 1),(gc (By (fZ 2) (gc (fC (.int 1)))))])) (gc (kh pV (gc (fC (.int 1))))))) gL) gL) (gn (jB (jg 2 (jF 4))) gL)))) (gn (jJ (gC gIx (gc (jw [(jF 2),(gW (g1 nG) [(fZ 2)])])) (gc (gx gF [(fZ 0),(gc (fC (.int 2)))])))) gL)))
def mE:EvF:=evF 5 2 [2,3,4] ui
def wz:FS:=(gn (sIf (tU (fT (gC gNe (gc (gx jb [(gc (fC (.int 0))),(gc (jw []))])) (gc (jw [(oh [])])))) (tU (fT (gC gNe (gc (gx jb [(gc (fC (.int 2))),(gc (oh []))])) (gc (jw [(oh [(fC (.int 1)),(fC (.int 2))])])))) (fT (gC gNe (gc (gx jb [(gc (fC (.int 1))),(gc (jw [(oh [(kh pV (gc (fC (.int 1))))])]))])) (gc (jw [(oh [(kh pV (gc (fC (.int 1))))]),(oh [(fC (.int 1))])])))))) (gn (jJ (fC (.bl false))) gL) gL) (gn (oO (zM (gc (gW (g2 JL) [(gc (fC (.int 1))),(gc (gW (g2 JK) [(gc (gW (g1 uC) [(fZ 0)])),(gc (fC (.int 5)))]))]))) (gB 1) (gn (iW 2 (gx jP [(fZ 0),(fZ 1)])) (gn (iW 3 (gC gIx (gc (jw [(gx gF [(fZ 2),(gc (fC (.int 5)))]),(fC (.int 3))])) (gc (gx gF [(fZ 2),(gc (fC (.int 2)))])))) (gn (iW 4 (gx mE [(fZ 2),(fZ 3)])) (gn (iW 5 (gW (g1 ug) [(fZ 4)])) (gn (iW 6 (gx km [(fZ 3),(fZ 4)])) (gn (oO (zM (gc (fC (.int 2)))) (gB 7) (gn (iW 8 (gx jb [(fZ 3),(fZ 4)])) (gn (sIf (tU (mD (fT (gx (gZ RD) [(fZ 8),(fZ 6)]))) (fT (gC gNe (gc (gW (g1 ug) [(fZ 4)])) (fZ 5)))) (gn (jJ (fC (.bl false))) gL) gL) (gn (jB (jg 8 (oh []))) gL)))) gL))))))) (gn (jJ (fC (.bl true))) gL)))
def qm:EvF:=evF 9 1 [1,2,3,4,5,6,7,8] wz
end PV
namespace K41
open PySem PySem.Spec PyProof.Rows L2 PX PV
def top(i:Nat):Stmt:=PySem.Challenge.pw_twinriddles_k41_spans.main.body.getD i (.Pass ⟨0,0,0,0⟩)
section
variable {Z:ZZ}{k:Nat}
abbrev nu:Stmt:=top 6
theorem AZ:FnScope ["thing"] ["thing"] (gr nu):=scM
abbrev qK(Z:ZZ)(k:Nat):Prop:=Oz Z k "is_whole" ["thing"] lg
theorem BO:BdA "is_whole" nu ["thing"]:=fun _ _ _ _ _ _=>us1 fun _=>us0 rfl
theorem Bf(a:Fz Z.K Z.mg "is_whole" nu)(T:Tx Z.mg):qK Z (k+1):=by
 have S:=AZ;refine ozB (asg:=[]) (fs:=oZ) a S BO fun f f6 A outer s H E L hL hr hu m6 l3 n8 nd=>?_;exact(s1 (sR (Hw (xI T rfl xV) (xBo (QJ (xI T rfl xV))))) s0)
abbrev mm:Stmt:=top 7
theorem zu:FnScope ["thing","least","most"] ["thing","least","most"] (gr mm):=scM
abbrev oS(Z:ZZ)(k:Nat):Prop:=Oz Z k "is_number" ["thing","least","most"] jq
theorem Ah:BdA "is_number" mm ["thing","least","most"]:=fun _ _ _ _ _ _=>us1 fun _=>us1 fun _=>us1 fun _=>us0 rfl
theorem zG(a:Fz Z.K Z.mg "is_number" mm)(T:Tx Z.mg)(k7:qK Z k):oS Z (k+1):=by
 have S:=zu;refine ozB (asg:=[]) (fs:=lI) a S Ah fun f f6 A outer s H E L hL hr hu m6 l3 n8 nd=>?_;exact(s1 (sR (Hw (xU k7 hr (xA xV xA0)) (xBo (xCh xV xV xV)))) s0)
abbrev kA:Stmt:=top 8
theorem ux:FnScope ["thing","least","most"] ["thing","least","most"] (gr kA):=scM
abbrev oT(Z:ZZ)(k:Nat):Prop:=Oz Z k "check_number" ["thing","least","most"] js
theorem uE:BdA "check_number" kA ["thing","least","most"]:=fun _ _ _ _ _ _=>us1 fun _=>us1 fun _=>us1 fun _=>us0 rfl
theorem uz(a:Fz Z.K Z.mg "check_number" kA)(T:Tx Z.mg)(j5:oS Z k):oT Z (k+1):=by
 have S:=ux;refine ozB (asg:=[]) (fs:=kd) a S uE fun f f6 A outer s H E L hL hr hu m6 l3 n8 nd=>?_;exact(s1 (sI (tNot (CV (xU j5 hr (xA xV (xA xV (xA xV xA0)))))) (s1 sX s0) s0) s0)
abbrev pG:Stmt:=top 9
theorem C5:FnScope ["names","thing"] ["names","thing"] (gr pG):=scM
abbrev xZ(Z:ZZ)(k:Nat):Prop:=Oz Z k "is_name" ["names","thing"] nI
theorem D5:BdA "is_name" pG ["names","thing"]:=fun _ _ _ _ _ _=>us1 fun _=>us1 fun _=>us0 rfl
theorem Dq(a:Fz Z.K Z.mg "is_name" pG)(T:Tx Z.mg)(j5:oS Z k):xZ Z (k+1):=by
 have S:=C5;refine ozB (asg:=[]) (fs:=qN) a S D5 fun f f6 A outer s H E L hL hr hu m6 l3 n8 nd=>?_;exact(s1 (sR (xU j5 hr (xA xV (xA (xO x3) (xA xV xA0))))) s0)
abbrev pF:Stmt:=top 10
theorem C4:FnScope ["names","thing"] ["names","thing"] (gr pF):=scM
abbrev xY(Z:ZZ)(k:Nat):Prop:=Oz Z k "is_sign" ["names","thing"] kO
theorem D4:BdA "is_sign" pF ["names","thing"]:=fun _ _ _ _ _ _=>us1 fun _=>us1 fun _=>us0 rfl
theorem Dp(a:Fz Z.K Z.mg "is_sign" pF)(T:Tx Z.mg)(k7:qK Z k)(O_is_name:xZ Z k):xY Z (k+1):=by
 have S:=C4;refine ozB (asg:=[]) (fs:=nH) a S D4 fun f f6 A outer s H E L hL hr hu m6 l3 n8 nd=>?_;exact(s1 (sR (Hw (xU k7 hr (xA xV xA0)) (xBo (xU O_is_name hr (xA xV (xA (xO (xB T rfl ⟨tZ⟩ (xA xV xA0))) xA0)))))) s0)
abbrev lF:Stmt:=top 12
theorem xb:FnScope ["names","thing"] ["names","thing"] (gr lF):=scM
abbrev rS(Z:ZZ)(k:Nat):Prop:=Oz Z k "is_turning" ["names","thing"] iD
theorem xp:BdA "is_turning" lF ["names","thing"]:=fun _ _ _ _ _ _=>us1 fun _=>us1 fun _=>us0 rfl
theorem xg(a:Fz Z.K Z.mg "is_turning" lF)(T:Tx Z.mg)(O_is_sign:xY Z k):rS Z (k+1):=by
 have S:=xb;refine ozB (asg:=[]) (fs:=jv) a S xp fun f f6 A outer s H E L hL hr hu m6 l3 n8 nd=>?_;exact(s1 (sI (tW (wOr (tNot (CV (xI T rfl xV))) (Kr (tCmp ⟨(ny hu)⟩ (xO (xB T rfl ⟨lK⟩ (xA xV xA0))) xV)))) (s1 (sR x2) s0) s0) (s1 (sI (tNot (CV (xB T rfl ⟨(yv rfl)⟩ (xA (xO (by exact xC (N':=["names","sign"]) (cOk S) (by decide+kernel) (iS xW) fun _ _ _ _ _ _ nd=>⟨(gN nd),f0,fun _=>bE (xU O_is_sign hr (xA xV (xA xV xA0)))⟩)) xA0)))) (s1 (sR x2) s0) s0) (s1 (sR (Hu ⟨(vX hu)⟩ (xO (by exact xLS (N':=["sign"]) T (cOk S) (by decide+kernel) (iS xW) fun _ _ _ _ _ _ nd=>⟨(gN nd),f0,(xB T rfl ⟨tZ⟩ (xA xV xA0))⟩)) xV)) s0)))
abbrev kc:Stmt:=top 13
theorem tL:FnScope ["names","thing"] ["names","thing"] (gr kc):=scM
abbrev nV(Z:ZZ)(k:Nat):Prop:=Oz Z k "check_turning" ["names","thing"] ji
theorem ua:BdA "check_turning" kc ["names","thing"]:=fun _ _ _ _ _ _=>us1 fun _=>us1 fun _=>us0 rfl
theorem tN(a:Fz Z.K Z.mg "check_turning" kc)(T:Tx Z.mg)(O_is_turning:rS Z k):nV Z (k+1):=by
 have S:=tL;refine ozB (asg:=[]) (fs:=jN) a S ua fun f f6 A outer s H E L hL hr hu m6 l3 n8 nd=>?_;exact(s1 (sI (tNot (CV (xU O_is_turning hr (xA xV (xA xV xA0))))) (s1 sX s0) s0) s0)
abbrev nh:Stmt:=top 14
theorem AU:FnScope ["turning","sign"] ["turning","sign"] (gr nh):=scM
abbrev wa(Z:ZZ)(k:Nat):Prop:=Oz Z k "led_sign" ["turning","sign"] lb
theorem BK:BdA "led_sign" nh ["turning","sign"]:=fun _ _ _ _ _ _=>us1 fun _=>us1 fun _=>us0 rfl
theorem Ba(a:Fz Z.K Z.mg "led_sign" nh)(T:Tx Z.mg):wa Z (k+1):=by
 have S:=AU;refine ozB (asg:=[]) (fs:=oX) a S BK fun f f6 A outer s H E L hL hr hu m6 l3 n8 nd=>?_;exact(s1 (sR (xIf (tCmp ⟨(uO (.inr (.inr (.inl rfl))) hu)⟩ xV (xO x3)) (xIx xV (xO (kG ⟨uN⟩ xV (xO x3)))) (CO (xO (xIx xV (xO (kG ⟨uN⟩ (xO (CO xV)) (xO x3)))))))) s0)
abbrev rL:Stmt:=top 15
theorem FK:FnScope ["one","other"] ["one","other"] (gr rL):=scM
abbrev Bg(Z:ZZ)(k:Nat):Prop:=Oz Z k "behind" ["one","other"] mY
theorem GB:BdA "behind" rL ["one","other"]:=fun _ _ _ _ _ _=>us1 fun _=>us1 fun _=>us0 rfl
theorem F5(a:Fz Z.K Z.mg "behind" rL)(T:Tx Z.mg)(O_led_sign:wa Z k):Bg Z (k+1):=by
 have S:=FK;refine ozB (asg:=[]) (fs:=yi) a S GB fun f f6 A outer s H E L hL hr hu m6 l3 n8 nd=>?_;exact(s1 (sR (xT T rfl ⟨mF⟩ (xA (xO (by exact xC (N':=["other","sign"]) (cOk S) (by decide+kernel) (iS xW) fun _ _ _ _ _ _ nd=>⟨(gN nd),f0,fun _=>bE (xU O_led_sign hr (xA xV (xA xV xA0)))⟩)) xA0))) s0)
abbrev uL:Stmt:=top 16
theorem HY:FnScope ["names"] ["names"] (gr uL):=scM
abbrev EI(Z:ZZ)(k:Nat):Prop:=Oz Z k "still" ["names"] lX
theorem Kb:BdA "still" uL ["names"]:=fun _ _ _ _ _ _=>us1 fun _=>us0 rfl
theorem Je(a:Fz Z.K Z.mg "still" uL)(T:Tx Z.mg):EI Z (k+1):=by
 have S:=HY;refine ozB (asg:=[]) (fs:=Bw) a S Kb fun f f6 A outer s H E L hL hr hu m6 l3 n8 nd=>?_;exact(s1 (sR (MD T rfl (xA (xO x3) (xA (xO (kG ⟨nB⟩ xV (xO x3))) xA0)))) s0)
abbrev pE:Stmt:=top 18
theorem C3:FnScope ["names","turnings","seen","fresh","reached","begun","turning","done"] ["names","turnings"] (gr pE):=scM
abbrev xX(Z:ZZ)(k:Nat):Prop:=Oz Z k "span_of" ["names","turnings"] qP
theorem D3:BdA "span_of" pE ["names","turnings"]:=fun _ _ _ _ _ _=>us1 fun _=>us1 fun _=>us0 rfl
theorem Dm(a:Fz Z.K Z.mg "span_of" pE)(T:Tx Z.mg)(O_still:EI Z k)(O_behind:Bg Z k):xX Z (k+1):=by
 have S:=C3;refine ozB (asg:=[2,3,4,5,6,7]) (fs:=wy) a S D3 fun f f6 A outer s H E L hL hr hu m6 l3 n8 nd=>?_;exact(s1 (sS nd (OL T.n_set)) (s1 (sE (Mf n8 xV (xU O_still hr (xA xV xA0)))) (s1 (sS nd (nY (xL (xU O_still hr (xA xV xA0)) xL0))) (s1 (sW (tTr xV) (s1 (sS nd (nY xL0)) (s1 (sF (iS xW) (gN nd) (s1 (sF (iS xW) (gN nd) (s1 (sS nd (xU O_behind hr (xA xV (xA xV xA0)))) (s1 (sI (tCmp ⟨(Di l3)⟩ xV xV) (s1 (sE (Mf n8 xV xW)) (s1 (sE (Hv xV xW)) s0)) s0) s0))) s0)) (s1 (sS nd xW) s0)))) (s1 (sR (xB T rfl ⟨(Aa rfl l3)⟩ (xA xV xA0))) s0)))))
abbrev pD:Stmt:=top 19
theorem C2:FnScope ["names","some","turning"] ["names","some"] (gr pD):=scM
abbrev xS(Z:ZZ)(k:Nat):Prop:=Oz Z k "spanned" ["names","some"] jb
theorem D2:BdA "spanned" pD ["names","some"]:=fun _ _ _ _ _ _=>us1 fun _=>us1 fun _=>us0 rfl
theorem Dl(a:Fz Z.K Z.mg "spanned" pD)(T:Tx Z.mg)(j6: ∃t,Z.mg "FEW_NAMES"=some (.int 4 t))(O_check_number:oT Z k)(O_check_turning:nV Z k)(O_span_of:xX Z k):xS Z (k+1):=by
 have S:=C2;refine ozB (asg:=[2]) (fs:=wx) a S D2 fun f f6 A outer s H E L hL hr hu m6 l3 n8 nd=>?_;exact(s1 (sE (xU O_check_number hr (xA xV (xA (xO x3) (xA (xO (x5 j6)) xA0))))) (s1 (sF (iS xW) (gN nd) (s1 (sE (xU O_check_turning hr (xA xV (xA xV xA0)))) s0)) (s1 (sR (xU O_span_of hr (xA xV (xA xV xA0)))) s0)))
abbrev kT:Stmt:=top 21
theorem vK:FnScope ["_law_script","_law_k"] ["_law_script","_law_k"] (gr kT):=scM
abbrev qj(Z:ZZ)(k:Nat):Prop:=Oz Z k "_law_cell_at" ["_law_script","_law_k"] jI
theorem wR:BdA "_law_cell_at" kT ["_law_script","_law_k"]:=fun _ _ _ _ _ _=>us1 fun _=>us1 fun _=>us0 rfl
theorem vZ(a:Fz Z.K Z.mg "_law_cell_at" kT)(T:Tx Z.mg):qj Z (k+1):=by
 have S:=vK;refine ozB (asg:=[]) (fs:=kE) a S wR fun f f6 A outer s H E L hL hr hu m6 l3 n8 nd=>?_;exact(s1 (sI (tCmp ⟨(uO (.inl rfl) hu)⟩ xV (xO (xB T rfl ⟨lK⟩ (xA xV xA0)))) (s1 (sR (xIx xV xV)) s0) s0) (s1 (sR x3) s0))
abbrev ml:Stmt:=top 22
theorem zt:FnScope ["_law_script","_law_k","_law_cell"] ["_law_script","_law_k"] (gr ml):=scM
abbrev ue(Z:ZZ)(k:Nat):Prop:=Oz Z k "_law_state" ["_law_script","_law_k"] jP
theorem Ag:BdA "_law_state" ml ["_law_script","_law_k"]:=fun _ _ _ _ _ _=>us1 fun _=>us1 fun _=>us0 rfl
theorem zF(a:Fz Z.K Z.mg "_law_state" ml)(T:Tx Z.mg)(O_law_cell_at:qj Z k):ue Z (k+1):=by
 have S:=zt;refine ozB (asg:=[2]) (fs:=lH) a S Ag fun f f6 A outer s H E L hL hr hu m6 l3 n8 nd=>?_;exact(s1 (sS nd (xU O_law_cell_at hr (xA xV (xA xV xA0)))) (s1 (sI (tCmp ⟨(uO (.inr (.inr (.inr rfl))) hu)⟩ xV (xO (kG ⟨EE⟩ (xO x3) (xO x3)))) (s1 (sR (nY (xL (kG ⟨uN⟩ xV (xO (kG ⟨EE⟩ (xO x3) (xO x3)))) (xL x2 xL0)))) s0) s0) (s1 (sR (nY (xL (kG ⟨pJ⟩ xV (xO x3)) (xL x2 xL0)))) s0)))
abbrev ni:Stmt:=top 23
theorem AV:FnScope ["_law_state_here","_law_many","_law_found","_law_mixed"] ["_law_state_here","_law_many"] (gr ni):=scM
abbrev nD(Z:ZZ)(k:Nat):Prop:=Oz Z k "_law_take" ["_law_state_here","_law_many"] gF
theorem BL:BdA "_law_take" ni ["_law_state_here","_law_many"]:=fun _ _ _ _ _ _=>us1 fun _=>us1 fun _=>us0 rfl
theorem Bb(a:Fz Z.K Z.mg "_law_take" ni)(T:Tx Z.mg):nD Z (k+1):=by
 have S:=AV;refine ozB (asg:=[2,3]) (fs:=mz) a S BL fun f f6 A outer s H E L hL hr hu m6 l3 n8 nd=>?_;exact(s1 (sI (CV (xIx xV (xO x3))) (s1 (sS nd (kG ⟨pJ⟩ (xO (xIx xV (xO x3))) xV)) (s1 (sIx xV (kG ⟨EF⟩ (xO (xIx xV (xO x3))) xV) (xO x3)) (s1 (sRV (fun h=>absurd (hL _ h) (by decide))) s0))) s0) (s1 (sIx xV (kG ⟨pJ⟩ (xO (kG ⟨nB⟩ (xO (kG ⟨nA⟩ (xO (xIx xV (xO x3))) (xO x3))) (xO x3))) (xO x3)) (xO x3)) (s1 (sS nd (kG ⟨pJ⟩ (xO (kG ⟨nB⟩ (xO (kG ⟨nB⟩ (xO (kG ⟨nA⟩ (xO (xIx xV (xO x3))) (xO (xIx xV (xO x3))))) (xO (kG ⟨nA⟩ (xO x3) (xO (xIx xV (xO x3))))))) (xO x3))) (xO x3))) (s1 (sS nd (kG ⟨pJ⟩ (xO (kG ⟨nB⟩ (xO (kG ⟨nA⟩ xV xV)) (xO (kG ⟨nA⟩ (xO x3) xV)))) (xO x3))) (s1 (sR (kG ⟨pJ⟩ (xO (kG ⟨EF⟩ xV (xO x3))) xV)) s0)))))
abbrev kS:Stmt:=top 24
theorem vJ:FnScope ["_law_state_here","_law_names","_law_rest","_law_found","_law_turn"] ["_law_state_here","_law_names"] (gr kS):=scM
abbrev qi(Z:ZZ)(k:Nat):Prop:=Oz Z k "_law_turning" ["_law_state_here","_law_names"] jH
theorem wQ:BdA "_law_turning" kS ["_law_state_here","_law_names"]:=fun _ _ _ _ _ _=>us1 fun _=>us1 fun _=>us0 rfl
theorem vY(a:Fz Z.K Z.mg "_law_turning" kS)(T:Tx Z.mg)(e8:nD Z k):qi Z (k+1):=by
 have S:=vJ;refine ozB (asg:=[2,3,4]) (fs:=oY) a S wQ fun f f6 A outer s H E L hL hr hu m6 l3 n8 nd=>?_;exact(s1 (sS nd (MD T rfl (xA (xO x3) (xA (xO (kG ⟨nB⟩ xV (xO x3))) xA0)))) (s1 (sS nd (nY xL0)) (s1 (sF (iR1 T (xA xV xA0)) (gN nd) (s1 (sE (Hv xV (kG ⟨nA⟩ (xO (QH xV (xO (xU e8 hr (xA xV (xA (xO (xB T rfl ⟨lK⟩ (xA xV xA0))) xA0)))))) (xO (xIx (xO (nY (xL x3 (xL (CO (xO x3)) xL0)))) (xO (xU e8 hr (xA xV (xA (xO x3) xA0))))))))) s0)) (s1 (sR (xT T rfl ⟨mF⟩ (xA xV xA0))) s0))))
abbrev kz:Stmt:=top 25
theorem uw:FnScope ["_law_turning_here","_law_sign"] ["_law_turning_here","_law_sign"] (gr kz):=scM
abbrev oR(Z:ZZ)(k:Nat):Prop:=Oz Z k "_law_led_sign" ["_law_turning_here","_law_sign"] iu
theorem uD:BdA "_law_led_sign" kz ["_law_turning_here","_law_sign"]:=fun _ _ _ _ _ _=>us1 fun _=>us1 fun _=>us0 rfl
theorem uy(a:Fz Z.K Z.mg "_law_led_sign" kz)(T:Tx Z.mg):oR Z (k+1):=by
 have S:=uw;refine ozB (asg:=[]) (fs:=jU) a S uD fun f f6 A outer s H E L hL hr hu m6 l3 n8 nd=>?_;exact(s1 (sR (kG ⟨nA⟩ (xO (xIx xV (xO (kG ⟨uN⟩ (xO (xB T rfl ⟨tZ⟩ (xA xV xA0))) (xO x3))))) (xO (xIx (xO (nY (xL x3 (xL (CO (xO x3)) xL0)))) (xO (xT T rfl ⟨Gz⟩ (xA (xO (Hu ⟨(uO (.inl rfl) hu)⟩ xV (xO x3))) xA0))))))) s0)
abbrev lS:Stmt:=top 26
theorem AY:FnScope ["_law_found","_law_due"] ["_law_found","_law_due"] (gr lS):=scM
abbrev Dt(Z:ZZ)(k:Nat):Prop:=Oz Z k "_law_same" ["_law_found","_law_due"] (gZ RD)
theorem uo:BdA "_law_same" lS ["_law_found","_law_due"]:=fun _ _ _ _ _ _=>us1 fun _=>us1 fun _=>us0 rfl
theorem zE{ev:EvF}(a:Fz Z.K Z.mg "_law_same" lS)(T:Tx Z.mg)(k6:Oz Z k "_law_same" ["_law_found","_law_due"] ev):Oz Z (k+1) "_law_same" ["_law_found","_law_due"] (evF 2 2 [] (iH ev)):=by
 have S:=AY;refine ozB (asg:=[]) (fs:=iH ev) a S uo fun f f6 A outer s H E L hL hr hu m6 l3 n8 nd=>?_;exact(s1 (sI (CV (xI2 T rfl rfl xV)) (s1 (sI (tW (wOr (tCmp ⟨(ny hu)⟩ (xO (xI T rfl xV)) (xO (xI T rfl xV))) (Kr (tCmp ⟨(ny hu)⟩ (xO (xI T rfl xV)) (xO (xI T rfl xV)))))) (s1 (sR x2) s0) s0) (s1 (sR (Hw (Hu ⟨(vX hu)⟩ (xO (xB T rfl ⟨lK⟩ (xA xV xA0))) (xO (xB T rfl ⟨lK⟩ (xA xV xA0)))) (xBo (xB T rfl ⟨(yv rfl)⟩ (xA (xO (by exact xC (N':=["_law_one","_law_other"]) (cOk S) (by decide+kernel) (iZV T xV xV) fun _ _ _ _ _ _ nd=>⟨(gT (gN nd) (gN nd)),f0,fun _=>bE (xU k6 hr (xA xV (xA xV xA0)))⟩)) xA0))))) s0)) s0) (s1 (sR (Hw (Hu ⟨(vX hu)⟩ xV xV) (xBo (Hu ⟨(vX hu)⟩ (xO (xI T rfl xV)) (xO (xI T rfl xV)))))) s0))
theorem ud(a:Fz Z.K Z.mg "_law_same" lS)(T:Tx Z.mg): ∀m,Oz Z m "_law_same" ["_law_found","_law_due"] (gZ m)
 |0=>oz0 a uo
 |m+1=>zE a T (ud a T m)
abbrev nj:Stmt:=top 27
theorem AW:FnScope ["_law_names","_law_some_here","_law_start","_law_found","_law_fresh","_law_here","_law_one","_law_later"] ["_law_names","_law_some_here"] (gr nj):=scM
abbrev qJ(Z:ZZ)(k:Nat):Prop:=Oz Z k "_law_span" ["_law_names","_law_some_here"] km
theorem BM:BdA "_law_span" nj ["_law_names","_law_some_here"]:=fun _ _ _ _ _ _=>us1 fun _=>us1 fun _=>us0 rfl
theorem Bc(a:Fz Z.K Z.mg "_law_span" nj)(T:Tx Z.mg)(O_law_led_sign:oR Z k):qJ Z (k+1):=by
 have S:=AW;refine ozB (asg:=[2,3,4,5,6,7]) (fs:=uh) a S BM fun f f6 A outer s H E L hL hr hu m6 l3 n8 nd=>?_;exact(s1 (sS nd (MD T rfl (xA (xO x3) (xA (xO (kG ⟨nB⟩ xV (xO x3))) xA0)))) (s1 (sS nd (xDT l3 xV)) (s1 (sS nd (nY (xL xW xL0))) (s1 (sW (tCmp ⟨(ny hu)⟩ xV (xO (nY xL0))) (s1 (sS nd (OM xV)) (s1 (sF (iS xW) (gN nd) (s1 (sS nd (xT T rfl ⟨mF⟩ (xA (xO (by exact xC (N':=["_law_one","_law_sign"]) (cOk S) (by decide+kernel) (iS xW) fun _ _ _ _ _ _ nd=>⟨(gN nd),f0,fun _=>bE (xU O_law_led_sign hr (xA xV (xA xV xA0)))⟩)) xA0))) (s1 (sI (tCmp ⟨(Dj l3)⟩ xV xV) (s1 (sDP m6 xV x2 xV) (s1 (sE (Hv xV xW)) s0)) s0) s0))) s0))) (s1 (sR (xB T rfl ⟨(Ac rfl l3)⟩ (xA xV xA0))) s0)))))
abbrev nk:Stmt:=top 28
theorem AX:FnScope ["_law_state_here","_law_names","_law_found","_law_turn","_law_one"] ["_law_state_here","_law_names"] (gr nk):=scM
abbrev wc(Z:ZZ)(k:Nat):Prop:=Oz Z k "_law_some" ["_law_state_here","_law_names"] mE
theorem BN:BdA "_law_some" nk ["_law_state_here","_law_names"]:=fun _ _ _ _ _ _=>us1 fun _=>us1 fun _=>us0 rfl
theorem Be(a:Fz Z.K Z.mg "_law_some" nk)(T:Tx Z.mg)(e8:nD Z k)(O_law_turning:qi Z k)(k5:qJ Z k):wc Z (k+1):=by
 have S:=AX;refine ozB (asg:=[2,3,4]) (fs:=ui) a S BN fun f f6 A outer s H E L hL hr hu m6 l3 n8 nd=>?_;exact(s1 (sS nd (nY xL0)) (s1 (sF (iR1 T (xA (xO (xU e8 hr (xA xV (xA (xO x3) xA0)))) xA0)) (gN nd) (s1 (sS nd (xU O_law_turning hr (xA xV (xA xV xA0)))) (s1 (sI (tW (QK (tCmp ⟨(ny hu)⟩ xV (xO (nY xL0))) (OP (tCmp ⟨(vX hu)⟩ (xO (xU e8 hr (xA xV (xA (xO x3) xA0)))) (xO x3))))) (s1 (sS nd (xIx (xO (xU k5 hr (xA xV (xA (xO (QE xV (xO x3))) xA0)))) (xO (CO (xO x3))))) s0) s0) (s1 (sE (Hv xV xW)) s0)))) (s1 (sR (xIx (xO (nY (xL xW (xL (xT T rfl ⟨mF⟩ (xA xV xA0)) xL0)))) (xO (xU e8 hr (xA xV (xA (xO x3) xA0)))))) s0)))
abbrev Eu:Stmt:=top 29
theorem MW:FnScope ["_law_script","_law_k","_law_state_here","_law_names","_law_some_here","_law_kept","_law_due","_law_turn","_law_found"] ["_law_script"] (gr Eu):=scM
theorem Oy:BdA "law" Eu ["_law_script"]:=fun _ _ _ _ _ _=>us1 fun _=>us0 rfl
theorem NZ{f:fV}{fd:kI}(F:Fun Z.K "law" "law" Eu f fd)(T:Tx Z.mg)(t4:Z.mg "repr"=none)(j7:xS Z k)(O_law_state:ue Z k)(e8:nD Z k)(O_law_some:wc Z k)(k5:qJ Z k)(k6:Dt Z k):FnOk Z.P Z.w Z.K Z.mg Z.base CX0 (k+1) f fd ["_law_script"] (spF Z.K qm):=by
 have S:=MW;refine fnB (asg:=[1,2,3,4,5,6,7,8]) (fs:=wz) F S fun f f6 A outer s H E L hL hr hu m6 l3 n8 nd=>?_;exact(s1 (sI (tW (wOr (tCmp ⟨(ny hu)⟩ (xO (xU j7 hr (xA (xO x3) (xA (xO (nY xL0)) xA0)))) (xO (nY (xL (CN xL0) xL0)))) (wOr (tCmp ⟨(ny hu)⟩ (xO (xU j7 hr (xA (xO x3) (xA (xO (CN xL0)) xA0)))) (xO (nY (xL (CN (xL x3 (xL x3 xL0))) xL0)))) (Kr (tCmp ⟨(ny hu)⟩ (xO (xU j7 hr (xA (xO x3) (xA (xO (nY (xL (CN (xL (CO (xO x3)) xL0)) xL0))) xA0)))) (xO (nY (xL (CN (xL (CO (xO x3)) xL0)) (xL (CN (xL x3 xL0)) xL0))))))))) (s1 (sR x2) s0) s0) (s1 (sF (iR1 T (xA (xO (xB T rfl ⟨(DX rfl)⟩ (xA (xO x3) (xA (xO (xB T rfl ⟨(DW rfl)⟩ (xA (xO (xB T rfl ⟨lK⟩ (xA xV xA0))) (xA (xO x3) xA0)))) xA0)))) xA0)) (gN nd) (s1 (sS nd (xU O_law_state hr (xA xV (xA xV xA0)))) (s1 (sS nd (xIx (xO (nY (xL (xU e8 hr (xA xV (xA (xO x3) xA0))) (xL x3 xL0)))) (xO (xU e8 hr (xA xV (xA (xO x3) xA0)))))) (s1 (sS nd (xU O_law_some hr (xA xV (xA xV xA0)))) (s1 (sS nd (xRp hr.gd l3 t4 (xA xV xA0))) (s1 (sS nd (xU k5 hr (xA xV (xA xV xA0)))) (s1 (sF (iR1 T (xA (xO x3) xA0)) (gN nd) (s1 (sS nd (xU j7 hr (xA xV (xA xV xA0)))) (s1 (sI (tW (wOr (tNot (CV (xU k6 hr (xA xV (xA xV xA0))))) (Kr (tCmp ⟨(ny hu)⟩ (xO (xRp hr.gd l3 t4 (xA xV xA0))) xV)))) (s1 (sR x2) s0) s0) (s1 (sE (Hv xV (CN xL0))) s0)))) s0))))))) (s1 (sR x2) s0)))
end
theorem all_mk{l:PySem.W.OpenLaw}{w:gm}{K:gu}{mg:ke}{fa:fV}(fA:mg "law"=some (.ref fa))(T:Tx mg)
  (a0:Fz K mg "is_whole" nu)
  (a1:Fz K mg "is_number" mm)
  (a2:Fz K mg "check_number" kA)
  (a3:Fz K mg "is_name" pG)
  (a4:Fz K mg "is_sign" pF)
  (a5:Fz K mg "is_turning" lF)
  (a6:Fz K mg "check_turning" kc)
  (a7:Fz K mg "led_sign" nh)
  (a8:Fz K mg "behind" rL)
  (a9:Fz K mg "still" uL)
  (a10:Fz K mg "span_of" pE)
  (a11:Fz K mg "spanned" pD)
  (a12:Fz K mg "_law_cell_at" kT)
  (a13:Fz K mg "_law_state" ml)
  (a14:Fz K mg "_law_take" ni)
  (a15:Fz K mg "_law_turning" kS)
  (a16:Fz K mg "_law_led_sign" kz)
  (a17:Fz K mg "_law_same" lS)
  (a18:Fz K mg "_law_span" nj)
  (a19:Fz K mg "_law_some" nk)
  (a20:Fz K mg "law" Eu)
  (t4:mg "repr"=none)
  (j6: ∃t,mg "FEW_NAMES"=some (.int 4 t))
  : ∃fd:FuncData,(∀(s:gb) (v:gi),BindsTo s fd ⟨[v],[]⟩ [("_law_script",v)])/\ ∀base:Heap,K.In base->base.Ns mainGlobals mg->FnOk l.prog w K mg base CX0 9 fa fd ["_law_script"] (spF K qm):=by
 obtain⟨fd,F,hb⟩:=fzL a20 fA Oy;refine⟨fd,hb,fun base KB _=>?_⟩;have O0:=Bf (Z:=⟨l.prog,w,K,mg,base⟩) (k:=0) a0 T;have O1:=zG (Z:=⟨l.prog,w,K,mg,base⟩) (k:=1) a1 T O0.up;have O2:=uz (Z:=⟨l.prog,w,K,mg,base⟩) (k:=2) a2 T O1.up;have O3:=Dq (Z:=⟨l.prog,w,K,mg,base⟩) (k:=2) a3 T O1.up;have O4:=Dp (Z:=⟨l.prog,w,K,mg,base⟩) (k:=3) a4 T O0.up O3.up;have O5:=xg (Z:=⟨l.prog,w,K,mg,base⟩) (k:=4) a5 T O4.up;have O6:=tN (Z:=⟨l.prog,w,K,mg,base⟩) (k:=5) a6 T O5.up;have O7:=Ba (Z:=⟨l.prog,w,K,mg,base⟩) (k:=0) a7 T;have O8:=F5 (Z:=⟨l.prog,w,K,mg,base⟩) (k:=1) a8 T O7.up;have O9:=Je (Z:=⟨l.prog,w,K,mg,base⟩) (k:=0) a9 T;have O10:=Dm (Z:=⟨l.prog,w,K,mg,base⟩) (k:=2) a10 T O9.up O8.up;have O11:=Dl (Z:=⟨l.prog,w,K,mg,base⟩) (k:=6) a11 T j6 O2.up O6.up O10.up;have O12:=vZ (Z:=⟨l.prog,w,K,mg,base⟩) (k:=0) a12 T;have O13:=zF (Z:=⟨l.prog,w,K,mg,base⟩) (k:=1) a13 T O12.up;have fQ:=Bb (Z:=⟨l.prog,w,K,mg,base⟩) (k:=0) a14 T;have O15:=vY (Z:=⟨l.prog,w,K,mg,base⟩) (k:=1) a15 T fQ.up;have O16:=uy (Z:=⟨l.prog,w,K,mg,base⟩) (k:=0) a16 T;have O17:=ud (Z:=⟨l.prog,w,K,mg,base⟩) a17 T RD;have O18:=Bc (Z:=⟨l.prog,w,K,mg,base⟩) (k:=1) a18 T O16.up;have O19:=Be (Z:=⟨l.prog,w,K,mg,base⟩) (k:=2) a19 T fQ.up O15.up O18.up;exact NZ (Z:=⟨l.prog,w,K,mg,base⟩) (k:=8) F T t4 O11.up O13.up fQ.up O19.up O18.up O17.up
end K41
namespace PV
open PySem PySem.Spec PyProof.Rows L2 PX
@[simp] theorem SV(d:D)(δ:Dn):fC d δ=some ((d,false),δ):=rfl
@[simp] theorem Rw(f:F)(δ:Dn):gc f δ=(f δ).bind fun p=>some (.val p.1,p.2):=rfl
@[simp] theorem Qv(x:D×Bool)(δ:Dn):fZ 0 (some x::δ)=some (.slot 0,some x::δ):=rfl
@[simp] theorem Qu(a:Sl)(x:D×Bool)(δ:Dn):fZ 1 (a::some x::δ)=some (.slot 1,a::some x::δ):=rfl
@[simp] theorem Qt(a b:Sl)(x:D×Bool)(δ:Dn):fZ 2 (a::b::some x::δ)=some (.slot 2,a::b::some x::δ):=rfl
@[simp] theorem Qs(a b c:Sl)(x:D×Bool)(δ:Dn):fZ 3 (a::b::c::some x::δ)=some (.slot 3,a::b::c::some x::δ):=rfl
@[simp] theorem Qr(a b c d:Sl)(x:D×Bool)(δ:Dn):fZ 4 (a::b::c::d::some x::δ)=some (.slot 4,a::b::c::d::some x::δ):=rfl
@[simp] theorem Qq(a b c d e:Sl)(x:D×Bool)(δ:Dn):fZ 5 (a::b::c::d::e::some x::δ)=some (.slot 5,a::b::c::d::e::some x::δ):=rfl
@[simp] theorem Qp(a b c d e f:Sl)(x:D×Bool)(δ:Dn):fZ 6 (a::b::c::d::e::f::some x::δ)=some (.slot 6,a::b::c::d::e::f::some x::δ):=rfl
@[simp] theorem Qo(a b c d e f g:Sl)(x:D×Bool)(δ:Dn):fZ 7 (a::b::c::d::e::f::g::some x::δ)=some (.slot 7,a::b::c::d::e::f::g::some x::δ):=rfl
@[simp] theorem Qn(a b c d e f g h:Sl)(x:D×Bool)(δ:Dn):fZ 8 (a::b::c::d::e::f::g::h::some x::δ)=some (.slot 8,a::b::c::d::e::f::g::h::some x::δ):=rfl
@[simp] theorem Rj(δ:Dn)(r:D×Bool):res δ (.val r)=some r.1:=rfl
@[simp] theorem Rv(x:D×Bool)(δ:Dn):res (some x::δ) (.slot 0)=some x.1:=rfl
@[simp] theorem Ru(a:Sl)(x:D×Bool)(δ:Dn):res (a::some x::δ) (.slot 1)=some x.1:=rfl
@[simp] theorem Rt(a b:Sl)(x:D×Bool)(δ:Dn):res (a::b::some x::δ) (.slot 2)=some x.1:=rfl
@[simp] theorem Rr(a b c:Sl)(x:D×Bool)(δ:Dn):res (a::b::c::some x::δ) (.slot 3)=some x.1:=rfl
@[simp] theorem Rq(a b c d:Sl)(x:D×Bool)(δ:Dn):res (a::b::c::d::some x::δ) (.slot 4)=some x.1:=rfl
@[simp] theorem Ro(a b c d e:Sl)(x:D×Bool)(δ:Dn):res (a::b::c::d::e::some x::δ) (.slot 5)=some x.1:=rfl
@[simp] theorem Rn(a b c d e f:Sl)(x:D×Bool)(δ:Dn):res (a::b::c::d::e::f::some x::δ) (.slot 6)=some x.1:=rfl
@[simp] theorem Rm(a b c d e f g:Sl)(x:D×Bool)(δ:Dn):res (a::b::c::d::e::f::g::some x::δ) (.slot 7)=some x.1:=rfl
@[simp] theorem Rl(a b c d e f g h:Sl)(x:D×Bool)(δ:Dn):res (a::b::c::d::e::f::g::h::some x::δ) (.slot 8)=some x.1:=rfl
@[simp] theorem RK(g:D->Option (D×Bool))(fa:FO)(δ:Dn):kh g fa δ=(fa δ).bind fun p=>(res p.2 p.1).bind fun x=>(g x).bind fun z=>some (z,p.2):=rfl
@[simp] theorem RI(g:D->D->Option (D×Bool))(fa fb:FO)(δ:Dn):gC g fa fb δ=(fa δ).bind fun p=>(fb p.2).bind fun q=>(res q.2 p.1).bind fun x=>(res q.2 q.1).bind fun y=>(g x y).bind fun z=>some (z,q.2):=rfl
@[simp] theorem Pk(δ:Dn):iL [] δ=some ([],δ):=rfl
@[simp] theorem Qz(f:FO)(fs:List FO)(δ:Dn):iL (f::fs) δ=(f δ).bind fun p=>(iL fs p.2).bind fun q=>some (p.1::q.1,q.2):=rfl
@[simp] theorem Qm(δ:Dn):rM δ []=some []:=rfl
@[simp] theorem Rk(δ:Dn)(o:Opd)(os:List Opd):rM δ (o::os)=(res δ o).bind fun d=>(rM δ os).bind fun l=>some (d::l):=rfl
@[simp] theorem Qy(g:List D->Option (D×Bool))(fs:List FO)(δ:Dn):gW g fs δ=(iL fs δ).bind fun p=>(rM p.2 p.1).bind fun ds=>(g ds).bind fun z=>some (z,p.2):=rfl
@[simp] theorem Qk:mG []=some []:=rfl
@[simp] theorem Q8(r:D×Bool)(os:List Opd):mG (.val r::os)=(mG os).map (r.1:: ·):=rfl
@[simp] theorem RG(fs:List F)(δ:Dn):oh fs δ=(iL (fs.map gc) δ).bind fun p=>(mG p.1).bind fun ds=>if ds.length<=sizeLine then some ((.tup ds,false),p.2) else none:=rfl
@[simp] theorem Il(fs:List F)(δ:Dn):jw fs δ=(iL (fs.map gc) δ).bind fun p=>(mG p.1).bind fun ds=>if ds.length<=sizeLine then some ((.lst ds,true),p.2) else none:=rfl
@[simp] theorem SA(b o:Bool)(δ:Dn):asB ((.bl b,o),δ)=some (b,δ):=rfl
@[simp] theorem SU(f:F)(δ:Dn):fT f δ=(f δ).bind asB:=rfl
@[simp] theorem EA(f g:FT)(δ:Dn):ym f g δ=(f δ).bind fun p=>if p.1=true then g p.2 else some (false,p.2):=rfl
@[simp] theorem RH(f g:FT)(δ:Dn):tU f g δ=(f δ).bind fun p=>if p.1=true then some (true,p.2) else g p.2:=rfl
@[simp] theorem Qx(f:FT)(δ:Dn):mD f δ=(f δ).bind fun p=>some (!p.1,p.2):=rfl
@[simp] theorem M8(f g:F)(δ:Dn):zT f g δ=(f δ).bind fun p=>(asB p).bind fun q=>if q.1=true then g q.2 else some ((.bl false,false),q.2):=rfl
@[simp] theorem Sx(f g:F)(δ:Dn):fOr f g δ=(f δ).bind fun p=>(asB p).bind fun q=>if q.1=true then some ((.bl true,false),q.2) else g q.2:=rfl
@[simp] theorem RL(f:F)(δ:Dn):LZ f δ=(f δ).bind fun p=>(asB p).bind fun q=>some ((.bl (!q.1),false),q.2):=rfl
@[simp] theorem Sy(t:FT)(f g:F)(δ:Dn):fIf t f g δ=(t δ).bind fun p=>if p.1=true then f p.2 else g p.2:=rfl
@[simp] theorem Rh(δ:Dn):gL δ=some (.nx δ):=rfl
def nxt(g:FS):Out->Option Out
 | .nx δ1=>g δ1
 |o=>some o
@[simp] theorem Ry(g:FS)(δ:Dn):nxt g (.nx δ)=g δ:=rfl
@[simp] theorem Rx(g:FS)(r:D×Bool)(δ:Dn):nxt g (.rt r δ)=some (.rt r δ):=rfl
@[simp] theorem Rf(f g:FS)(δ:Dn):gn f g δ=(f δ).bind (nxt g):=by
 unfold gn
 cases f δ with
 |none=>rfl
 |some o=>cases o<;>rfl
@[simp] theorem Ql(f:F)(δ:Dn):jB f δ=(f δ).bind fun p=>some (.nx p.2):=rfl
@[simp] theorem Rg(f:F)(δ:Dn):jJ f δ=(f δ).bind fun p=>some (.rt p.1 p.2):=rfl
@[simp] theorem Sm(t:FT)(f g:FS)(δ:Dn):sIf t f g δ=(t δ).bind fun p=>if p.1=true then f p.2 else g p.2:=rfl
@[simp] theorem Rc(i:Nat)(f:F)(δ:Dn):iW i f δ=(f δ).bind fun p=>if i<p.2.length then some (.nx (p.2.set i (some p.1))) else none:=rfl
@[simp] theorem Rb(tg:Tg)(f:F)(δ:Dn):Q7 tg f δ=(f δ).bind fun p=>(tg p.1.1 p.2).bind fun δ1=>some (.nx δ1):=rfl
@[simp] theorem SR(g:D->Option (D×Bool))(d:D):g1 g [d]=g d:=rfl
@[simp] theorem SO(g:D->D->Option (D×Bool))(d e:D):g2 g [d,e]=g d e:=rfl
@[simp] theorem SD(i j:Int):zS (.int i) (.int j)=some (.int (i+j),false):=rfl
@[simp] theorem Sk(i j:Int):PX.gSub (.int i) (.int j)=some (.int (i-j),false):=rfl
@[simp] theorem Sn(i:Int):pV (.int i)=some (.int (-i),false):=rfl
@[simp] theorem SF(i:Int):DJ (.int i)=some (.int (if i<0 then -i else i),false):=rfl
@[simp] theorem RB(l:List D):uC (.tup l)=some (.int l.length,false):=rfl
@[simp] theorem RC(l:List D):uC (.lst l)=some (.int l.length,false):=rfl
@[simp] theorem Ra(l:List D):nG (.lst l)=some (.tup l,false):=rfl
@[simp] theorem Q9(l:List D):nG (.tup l)=some (.tup l,false):=rfl
@[simp] theorem Rz(l:List D):Mt (.tup l)=some (.lst l,true):=rfl
@[simp] theorem RA(l:List D):Mt (.lst l)=some (.lst l,true):=rfl
@[simp] theorem RF(b:Bool):LS (.bl b)=some (.int (if b then 1 else 0),false):=rfl
@[simp] theorem RE(b:Int):LS (.int b)=some (.int b,false):=rfl
@[simp] theorem Sv(i j:Int):JL (.int i) (.int j)=some (.int (if j>i then j else i),false):=rfl
@[simp] theorem Su(i j:Int):JK (.int i) (.int j)=some (.int (if j<i then j else i),false):=rfl
@[simp] theorem Sw(ts:List Ty)(d:D):qM ts d=some (.bl (ts.any (isT d)),false):=rfl
@[simp] theorem Pl(i j:Int):gEq (.int i) (.int j)=some (.bl (i==j),false):=by unfold gEq;rw[gh (by simp[D.dep])];simp[D.eqb]
@[simp] theorem So(i j:Int):gNe (.int i) (.int j)=some (.bl (!(i==j)),false):=by unfold gNe;rw[gh (by simp[D.dep])];simp[D.eqb]
@[simp] theorem Sz(i j:Bool):gEq (.bl i) (.bl j)=some (.bl (i==j),false):=by unfold gEq;rw[gh (by simp[D.dep])];simp[D.eqb]
@[simp] theorem Sq(i j:Bool):gNe (.bl i) (.bl j)=some (.bl (!(i==j)),false):=by unfold gNe;rw[gh (by simp[D.dep])];simp[D.eqb]
@[simp] theorem SI(i j:Int):sf .Lt (.int i) (.int j)=some (.bl (decide (i<j)),false):=by simp[sf,kQ,iO,D.dep]
@[simp] theorem SJ(i j:Int):sf .LtE (.int i) (.int j)=some (.bl (decide (i<=j)),false):=by simp[sf,kQ,iO,D.dep]
@[simp] theorem SM(i j:Int):sf .Gt (.int i) (.int j)=some (.bl (decide (i>j)),false):=by simp[sf,kQ,iO,D.dep]
@[simp] theorem SN(i j:Int):sf .GtE (.int i) (.int j)=some (.bl (decide (i>=j)),false):=by simp[sf,kQ,iO,D.dep]
@[simp] theorem KH(f:F)(δ:Dn):kD f δ=(f δ).bind fun p=>match p.1.1 with| .lst l=>some (l,p.2)| .tup l=>some (l,p.2)|_=>none:=rfl
@[simp] theorem Ri(fi:FIt)(tg:Tg)(fb:FS)(δ:Dn):oO fi tg fb δ=(fi δ).bind fun p=>wA tg fb p.1 p.2:=rfl
@[simp] theorem zw(δ:Dn):kZ δ=some (true,δ):=rfl
@[simp] theorem zA(f:F)(acc:List D)(δ:Dn):lh f acc δ=(f δ).bind fun p=>if acc.length<sizeLine then some (acc++[p.1.1],p.2) else none:=rfl
theorem zp(h:n<=10000):n<=sizeLine:=by rw[jd];omega
abbrev enc(t:gO):D×Bool:=(.tup (t.map .int),false)
abbrev stt(a:Int)(b:Bool):Sl:=some (.lst [.int a,.bl b],true)
abbrev lsi(l:gO):Sl:=some (.lst (l.map .int),true)
@[simp] theorem Qw(ev:EvF)(fs:List FO)(δ:Dn):gx ev fs δ=(iL fs δ).bind fun p=>(jk p.2 p.1).bind fun args=>if(gE p.1 args).Nodup then(ev args).bind fun q=>some (q.1,wb p.1 args q.2 p.2) else none:=rfl
@[simp] theorem FL(δ:Dn):jk δ []=some []:=rfl
@[simp] theorem Pm(δ:Dn)(o:Opd)(os:List Opd):jk δ (o::os)=(uq δ o).bind fun a=>(jk δ os).bind fun l=>some (a::l):=rfl
@[simp] theorem RM(δ:Dn)(r:D×Bool):uq δ (.val r)=some (r.1,false):=rfl
@[simp] theorem RN(δ:Dn)(i:Nat):uq δ (.slot i)=(δ[i]?).join:=rfl
theorem pB(a:Int)(b:Bool)(m:Int)(hm:0<m)(bj:m<1073741824):
  ∃v a',0<=v/\v<m/\gF [(.lst [.int a,.bl b],true),(.int m,false)]=some ((.int v,false),[some (.lst [.int a',.bl b],true),some (.int m,false)]):=by
 cases b
 ·have h1: ∀x:Int, -18446744073709551616<x%2147483647/\x%2147483647<18446744073709551616:=fun x=>by omega
  have h2: ∀x:Int, -18446744073709551616<x%2147483629/\x%2147483629<18446744073709551616:=fun x=>by omega
  simp only[gF,mz];simp[evF,gIx,atI,ixN,xk,gI,JM,se,Gp,tM,pH,gH,gE,wb,GD,Ao,CMul,hm,bj,h1,h2];exact⟨B8 _ (by omega),B9 _ hm⟩
 ·simp only[gF,mz];simp[evF,gIx,atI,ixN,xk,gI,JM,se,Gp,tM,pH,gH,gE,wb,GD,Ao,CMul,hm,bj];exact⟨B8 _ (by omega),B9 _ hm⟩
theorem Af(x y:Int):(x==y)=decide (x=y):=rfl
theorem pd{g:List D->Option (D×Bool)}{fs:List FO}{δ δ':Dn}{os:List Opd}{ds:List D}{z:D×Bool}(h1:iL fs δ=some (os,δ'))(h2:rM δ' os=some ds)(h3:g ds=some z):gW g fs δ=some (z,δ'):=by
 unfold gW;rw[h1];simp only[ip];rw[h2];simp only[ip];rw[h3];rfl
theorem pe(h1:args.length=np/\np<=n/\(args.zipIdx.all fun p=>!(p.1.2&&asg.contains p.2))=true)(h2:f (args.map some++List.replicate (n-np) none)=some (.rt r δ)):evF n np asg f args=some (r,gH args δ):=by
 unfold evF;rw[gh h1,h2]
theorem gp(h:f δ=some (.nx δ1)):gn f g δ=g δ1:=by unfold gn;rw[h];rfl
theorem lG{r}(h:f δ=some (.rt r δ1)):gn f g δ=some (.rt r δ1):=by unfold gn;rw[h];rfl
theorem nv{r}(h:f δ=some (r,δ1)):jJ f δ=some (.rt r δ1):=by unfold jJ;rw[h];rfl
theorem je{r}(h:f δ=some (r,δ1))(hi:i<δ1.length):iW i f δ=some (.nx (δ1.set i (some r))):=by unfold iW;rw[h];simp only[ip];rw[gh hi]
theorem si(h:f δ=some ((.bl b,o),δ1)):fT f δ=some (b,δ1):=by unfold fT;rw[h];rfl
theorem iR{r}(h:f δ=some (r,δ1)):gc f δ=some (.val r,δ1):=by unfold gc;rw[h];rfl
theorem mC(h1:fa δ=some (o1,δ1))(h2:fb δ1=some (o2,δ2))(h3:res δ2 o1=some x)(h4:res δ2 o2=some y)(h5:g x y=some z):gC g fa fb δ=some (z,δ2):=by
 unfold gC;rw[h1];simp only[ip];rw[h2];simp only[ip];rw[h3,h4];simp only[ip];rw[h5];rfl
theorem jG{ev:EvF}{fs:List FO}{δ δ1:Dn}{os:List Opd}{args:List (D×Bool)}{r:D×Bool}{outs:Dn}(h1:iL fs δ=some (os,δ1))(h2:jk δ1 os=some args)(h3:(gE os args).Nodup)(h4:ev args=some (r,outs)):gx ev fs δ=some (r,wb os args outs δ1):=by
 unfold gx;rw[h1];simp only[ip];rw[h2];simp only[ip];rw[gh h3,h4];rfl
theorem Oe(h:f δ=some (false,δ1)):tU f g δ=g δ1:=by unfold tU;rw[h];rfl
theorem wG(h:f δ=some (b,δ1)):mD f δ=some (!b,δ1):=by unfold mD;rw[h];rfl
theorem A1(h:t δ=some (false,δ1)):sIf t f g δ=g δ1:=by unfold sIf;rw[h];rfl
theorem Ew(h:t δ=some (true,δ1)):sIf t f g δ=f δ1:=by unfold sIf;rw[h];rfl
theorem tX{fa fb:FO}{δ δ1 δ2:Dn}{o1 o2:Opd}(h1:fa δ=some (o1,δ1))(h2:fb δ1=some (o2,δ2)):iL [fa,fb] δ=some ([o1,o2],δ2):=by
 simp only[iL];rw[h1];simp only[ip];rw[h2];rfl
theorem DN{fa:FO}{δ δ1:Dn}{o1:Opd}(h1:fa δ=some (o1,δ1)):iL [fa] δ=some ([o1],δ1):=by
 simp only[iL];rw[h1];rfl
theorem mq(h:fi δ=some (ds,δ1)):oO fi tg fb δ=wA tg fb ds δ1:=by unfold oO;rw[h];rfl
theorem DM{os}(h1:fa δ=some (o1,δ1))(h2:iL fs δ1=some (os,δ2)):iL (fa::fs) δ=some (o1::os,δ2):=by
 simp only[iL];rw[h1];simp only[ip];rw[h2];rfl
theorem E7{fs:List F}{δ δ1:Dn}{os:List Opd}{ds:List D}(h1:iL (fs.map gc) δ=some (os,δ1))(h2:mG os=some ds)(h3:ds.length<=sizeLine):jw fs δ=some ((.lst ds,true),δ1):=by
 unfold jw;rw[h1];simp only[ip];rw[h2];simp only[ip];rw[gh h3]
theorem L4(ns:gO)(k:Nat): ∃c,jI [(.lst (ns.map .int),false),(.int k,false)]=some ((.int c,false),[some (.lst (ns.map .int),false),some (.int k,false)]):=by
 by_cases hk:k<ns.length
 ·refine⟨ns[k],?_⟩;simp[jI,kE,evF,gIx,atI,ixN,gH,hk]
 ·refine⟨0,?_⟩;simp[jI,kE,evF,gH,hk]
theorem Mp:Gp (.int 10) (.int 18)=some (.int 1000000000000000000,false):=by
 have:Ao 10 18:=by unfold Ao;decide+kernel
 show((if Ao 10 18 then some (D.int (10^(18:Int).toNat)) else none).map fun z=>(z,false))=_;rw[gh this];rfl
theorem HQ(ns:gO)(k:Nat): ∃a b,jP [(.lst (ns.map .int),false),(.int k,false)]=some ((.lst [.int a,.bl b],true),[some (.lst (ns.map .int),false),some (.int k,false)]):=by
 obtain⟨c,hc⟩:=L4 ns k;by_cases h:c>=1000000000000000000
 ·refine⟨c-1000000000000000000,true,?_⟩;simp[jP,lH,evF,hc,gE,wb,Mp,h,jd,gH]
 ·refine⟨c%2147483647,false,?_⟩;simp[jP,lH,evF,hc,gE,wb,Mp,h,jd,gH,xk,gI]
def st(n:Nat):List Int:=(List.range n).map fun(k:Nat)=>(1+(k:Int))
theorem HR(n:Nat):(st n).map D.int=iA 1 n:=by simp[st,iA]
def lU:Nat->List Int->List Int->List (List Int)
 |0,_,f=>[f]
 |k+1,r,f=>(List.range r.length).flatMap fun v=>lU k (r.eraseIdx v) (f++[r.getD v 0*1])++lU k (r.eraseIdx v) (f++[r.getD v 0* -1])
theorem yn(f:Int->D): ∀(l:gO) (k:Nat),(l.map f).eraseIdx k=(l.eraseIdx k).map f
 |[],k=>by simp
 |x::l,0=>by simp
 |x::l,k+1=>by simp[yn f l k]
theorem Gr{i:Nat}{f:FO}{δ δ1:Dn}{o:Opd}{l0 l:List D}{k:Int}{j:Nat}{d:D}(h0:δ[i]?=some (some (.lst l0,true)))(h1:f δ=some (o,δ1))(h2:res δ1 o=some (.int k))(h3:δ1[i]?=some (some (.lst l,true)))(h4: -(2^63)<=k/\k<2^63)(h5:ixN l.length k=some j)(h6:l[j]?=some d):
  qO i f δ=some ((d,false),δ1.set i (some (.lst (l.eraseIdx j),true))):=by
 unfold qO;rw[h0];simp only[];rw[h1];simp only[ip];rw[h2,h3];simp only[];rw[gh h4,h5];simp only[ip];rw[h6];rfl
theorem lW{i:Nat}{f:F}{δ δ1:Dn}{r:D×Bool}{l0 l:List D}(h0:δ[i]?=some (some (.lst l0,true)))(h1:f δ=some (r,δ1))(h3:δ1[i]?=some (some (.lst l,true)))(h4:l.length<sizeLine):
  jg i f δ=some ((.non,false),δ1.set i (some (.lst (l++[r.1]),true))):=by
 unfold jg;rw[h0];simp only[];rw[h1];simp only[ip];rw[h3];simp only[];rw[gh h4]
theorem kB{r}(h:f δ=some (r,δ1)):jB f δ=some (.nx δ1):=by unfold jB;rw[h];rfl
abbrev fPop:F:=(qO 2 (gc (gx gF [(fZ 0),(gc (gW (g1 uC) [(fZ 2)]))])))
abbrev Qe:F:=(gC gIx (gc (jw [(fC (.int 1)),(kh pV (gc (fC (.int 1))))])) (gc (gx gF [(fZ 0),(gc (fC (.int 2)))])))
abbrev fbT:FS:=(gn (jB (jg 3 (gC se (gc fPop) (gc Qe)))) gL)
theorem ND(a:Int)(b:Bool)(n:Sl)(r f:gO)(x:Sl)(h0:0<r.length)(h5:r.length<=5): ∃v a',v<r.length/\fPop [stt a b,n,lsi r,lsi f,x]=some ((.int (r.getD v 0),false),[stt a' b,n,lsi (r.eraseIdx v),lsi f,x]):=by
 obtain⟨v,a',hv0,hv,e⟩:=pB a b r.length (by omega) (by omega);have hn:v.toNat<r.length:=by omega
 refine⟨v.toNat,a',hn,?_⟩;have e1:(lsi (r.eraseIdx v.toNat):Sl)=some (.lst ((r.map D.int).eraseIdx v.toNat),true):=by rw[yn]
 rw[e1];refine Gr (k:=v) (δ1:=[stt a' b,n,lsi r,lsi f,x]) rfl (iR (r:=(.int v,false)) (jG (δ1:=[stt a b,n,lsi r,lsi f,x]) (os:=[.slot 0,.val (.int r.length,false)]) (args:=[(.lst [.int a,.bl b],true),(.int r.length,false)]) ?_ rfl (show([0]:List Nat).Nodup from by decide) e)) rfl rfl ⟨by omega,by omega⟩ (j:=v.toNat) ?_ ?_
 ·show some ([Opd.slot 0,Opd.val (D.int ((r.map D.int).length:Nat),false)],_)=_;rw[iq]
 ·unfold ixN;rw[gh hv0,gh (by simpa using hv)]
 ·simp[hn]
theorem MV(a:Int)(b:Bool)(n y z x:Sl): ∃s a',(s=1\/s= -1)/\Qe [stt a b,n,y,z,x]=some ((.int s,false),[stt a' b,n,y,z,x]):=by
 obtain⟨v,a',hv0,hv,e⟩:=pB a b 2 (by omega) (by omega);have hl: ∀δ:Dn,jw [(fC (.int 1)),(kh pV (gc (fC (.int 1))))] δ=some ((.lst [.int 1,.int (-1)],true),δ):=fun δ=>rfl;refine⟨if v=0 then 1 else -1,a',by split<;>simp,?_⟩;refine mC (δ1:=[stt a b,n,y,z,x]) (iR (hl _)) (iR (δ1:=[stt a' b,n,y,z,x]) (jG (δ1:=[stt a b,n,y,z,x]) (os:=[.slot 0,.val (.int 2,false)]) (args:=[(.lst [.int a,.bl b],true),(.int 2,false)]) rfl rfl (show([0]:List Nat).Nodup from by decide) e)) rfl rfl ?_;rcases(show v=0\/v=1 by omega) with rfl|rfl<;>rfl
theorem Ob(a:Int)(b:Bool)(n:Sl)(r f:gO)(x:Sl)(h0:0<r.length)(h5:r.length<=5)(hf:f.length<=5): ∃v s a',v<r.length/\(s=1\/s= -1)/\fbT [stt a b,n,lsi r,lsi f,x]=some (.nx [stt a' b,n,lsi (r.eraseIdx v),lsi (f++[r.getD v 0*s]),x]):=by
 obtain⟨v,a1,hv,e1⟩:=ND a b n r f x h0 h5;obtain⟨s,a2,hs,e2⟩:=MV a1 b n (lsi (r.eraseIdx v)) (lsi f) x;refine⟨v,s,a2,hv,hs,?_⟩
 have hm:se (.int (r.getD v 0)) (.int s)=some (.int (r.getD v 0*s),false):=by
  have:CMul (r.getD v 0) s:= .inr (by omega);show((if CMul (r.getD v 0) s then some (D.int (r.getD v 0*s)) else none).map fun z=>(z,false))=_;rw[gh this];rfl
 have hl:(f.map D.int).length<sizeLine:=by rw[iq];exact Cf hf (by decide)
 have e3:=lW (i:=3) (δ:=[stt a b,n,lsi r,lsi f,x]) (l0:=f.map .int) rfl (mC (iR e1) (iR e2) rfl rfl hm) (l:=f.map .int) rfl hl;refine(gp (kB e3)).trans ?_;simp[gL,lsi]
theorem Mu(b:Bool)(n:Sl): ∀(ds:List D) (a:Int) (r f:gO) (x:Sl),ds.length=r.length->f.length+r.length<=5->
  ∃a' t r' x',t∈lU ds.length r f/\wA (gB 4) fbT ds [stt a b,n,lsi r,lsi f,x]=some (.nx [stt a' b,n,lsi r',lsi t,x'])
 |[],a,r,f,x,_,_=>⟨a,f,r,x,by simp[lU],rfl⟩
 |d::ds,a,r,f,x,h,hl=>by
  simp only[iJ] at h;obtain⟨v,s,a1,hv,hs,e⟩:=Ob a b n r f (some (d,false)) (by omega) (by omega) (by omega);obtain⟨a',t,r',x',ht,e'⟩:=Mu b n ds a1 (r.eraseIdx v) (f++[r.getD v 0*s]) (some (d,false)) (by rw[yH,gh hv];omega) (by rw[yH,gh hv,lO];simp only[iJ,rm];omega);refine⟨a',t,r',x',?_,?_⟩
  ·simp only[iJ,lU,List.mem_flatMap,nS,uv];refine⟨v,hv,?_⟩;rcases hs with rfl|rfl
   ·exact .inl ht
   ·exact .inr ht
  ·unfold wA;rw[show gB 4 d [stt a b,n,lsi r,lsi f,x]=some [stt a b,n,lsi r,lsi f,some (d,false)] from rfl];simp only[ip];rw[e];simp only[ip];exact e'
theorem M1(n:Nat)(hn:n<=5):gRg .lst true [.int 1,.int ((n:Int)+1)]=some (.lst ((st n).map .int),true):=by
 have:n=0\/n=1\/n=2\/n=3\/n=4\/n=5:=by omega
 have h1:RgOk 1 ((n:Int)+1):=by rcases this with rfl|rfl|rfl|rfl|rfl|rfl<;>decide+kernel
 have h2:((n:Int)+1-1).toNat=n:=by omega
 show(if RgOk 1 ((n:Int)+1) then some (D.lst (iA 1 ((n:Int)+1-1).toNat),true) else none)=_;rw[gh h1,h2,<-HR]
theorem uQ{f:FO}{δ δ1:Dn}{o:Opd}{n:Nat}(h1:f δ=some (o,δ1))(h2:res δ1 o=some (.int n))(hn:n<=63):zM f δ=some (iA 0 n,δ1):=by
 have hb:(-(2^62)<=(n:Int)/\(n:Int)<2^62):=⟨by omega,by omega⟩
 have h3:iL [f] δ=some ([o],δ1):=by simp[iL,h1]
 have h4:rM δ1 [o]=some [.int n]:=by simp[rM,h2]
 unfold zM;rw[h3];simp only[ip];rw[h4];simp only[];rw[gh hb];rfl
theorem CS(a:Int)(b:Bool)(n:Nat)(hn:n<=5): ∃a' t,t∈lU n (st n) []/\jH [(.lst [.int a,.bl b],true),(.int n,false)]=some (enc t,[stt a' b,some (.int n,false)]):=by
 have hlen:(iA 0 n).length=n:=by simp[iA]
 have q0:(st n).length=n:=by simp[st]
 obtain⟨a',t,r',x',ht,e⟩:=Mu b (some (.int n,false)) (iA 0 n) a (st n) [] none (by rw[hlen,q0]) (by rw[q0];simpa using hn);rw[hlen] at ht;refine⟨a',t,ht,?_⟩;refine pe (δ:=[stt a' b,some (.int n,false),lsi r',lsi t,x']) ⟨rfl,by decide,rfl⟩ ?_;refine(gp (δ1:=[stt a b,some (.int n,false),lsi (st n),none,none]) (je (i:=2) (δ1:=[stt a b,some (.int n,false),none,none,none]) (pd (os:=[.val (.int 1,false),.val (.int ((n:Int)+1),false)]) rfl rfl (M1 n hn)) (show 2<5 by decide))).trans ?_;refine(gp (δ1:=[stt a b,some (.int n,false),lsi (st n),lsi [],none]) rfl).trans ?_;refine(gp ((mq (uQ (o:= .slot 1) rfl rfl (by omega))).trans e)).trans ?_;exact lG (nv (pd (os:=[.slot 3]) rfl rfl rfl))
theorem su: ∀t:List Int,D.depL (t.map .int)=0
 |[]=>by simp[D.depL]
 |s::t=>by simp[D.depL,D.dep,su t]
theorem wH: ∀a b:List Int,D.eqbL (a.map .int) (b.map .int)=decide (a=b)
 |[],[]=>by simp[D.eqbL]
 |[],_::_=>by simp[D.eqbL]
 |_::_,[]=>by simp[D.eqbL]
 |x::a,y::b=>by simp[D.eqbL,D.eqb,wH a b,Bool.decide_and,Af]
@[simp] theorem OH(a b:gO):gEq (.lst (a.map .int)) (.lst (b.map .int))=some (.bl (decide (a=b)),false):=by unfold gEq;rw[gh (by simp[D.dep,su])];simp[D.eqb,wH]
theorem EK: ∀(l m:gO),l.Nodup->(∀x∈l,x∈m)->m.length<=l.length->l.Perm m
 |[],m,_,_,h=>by
  have:m=[]:=Md.mp (by simpa using h);subst this;exact oC _
 |x::l,m,nd,hs,h=>by
  rw[ze] at nd;have hx:=hs x ic;have hp:=GI hx;refine((EK l (m.erase x) nd.2 (fun y hy=>?_) ?_).cons x).trans hp.symm
  ·have eR:=hs y (hU _ hy);have l6:y≠x:=fun e=>nd.1 (e▸hy);exact(B7 l6).mpr eR
  ·have:=hp.length_eq;simp only[iJ] at this h;omega
theorem MQ:x∈st n↔1<=x/\x<=n:=by
 simp only[st,oA,uv];constructor
 ·rintro⟨k,h,rfl⟩;omega
 ·rintro⟨h1,h2⟩;exact⟨(x-1).toNat,by omega,by omega⟩
theorem Pe(n:Nat):(st n).Pairwise (· < ·):=by
 simp only[st];rw[List.pairwise_map];exact Kl.imp fun h=>by omega
theorem Pf(n:Nat):(st n).Nodup:=(Pe n).imp fun h=>by omega
theorem IS{n:Nat}{l:gO}:l.Perm (st n)↔l.length=n/\(∀x∈l,1<=x/\x<=n)/\l.Nodup:=by
 constructor
 ·intro h;refine⟨by rw[h.length_eq];simp[st],fun x hx=>MQ.mp (h.mem_iff.mp hx),h.symm.nodup (Pf n)⟩
 ·rintro⟨h1,h2,h3⟩;exact EK l (st n) h3 (fun x hx=>MQ.mpr (h2 x hx)) (by simp[st,h1])
theorem xH: ∀l:List Int,(∀k,(kY (l.reverse.map .int)).1 k=decide (k∈l.reverse))/\(kY (l.reverse.map .int)).2<=l.length/\((kY (l.reverse.map .int)).2=l.length↔l.Nodup)
 |[]=>⟨fun k=>by simp[kY],by simp[kY],by simp[kY]⟩
 |x::l=>by
  obtain⟨h1,h2,h3⟩:=xH l;rw[List.reverse_cons,qV,iw,oH,xJ];refine⟨fun k=>?_,?_,?_⟩
  ·dsimp only;rw[h1 k];by_cases a:k∈l.reverse<;>by_cases b:k=x<;>simp_all
  ·dsimp only;rw[iJ];split<;>omega
  ·dsimp only;rw[h1 x,ze];by_cases a:x∈l
   ·simp only[List.mem_reverse,a,decide_true,gS,not_true_eq_false,false_and,iff_false,iJ];omega
   ·simp only[List.mem_reverse,a,decide_false,hC,ik,not_false_eq_true,true_and,iJ];rw[<-h3];omega
theorem KA(l:gO):(kY (l.map .int)).2=l.length↔l.Nodup:=by
 have:=(xH l.reverse).2.2;rw[List.reverse_reverse,List.length_reverse,List.reverse_perm l |>.nodup_iff] at this;exact this
theorem zi(pre:Dn)(x:Sl)(d:D):gB pre.length d (pre++[x])=some (pre++[some (d,false)]):=by
 unfold gB;rw[gh (by simp)];simp[List.set_append]
theorem Ka(f:F)(g:D->D)(pre:Dn): ∀(l acc:List D) (x:Sl),(∀d∈l,∃o,f (pre++[some (d,false)])=some ((g d,o),pre++[some (d,false)]))->acc.length+l.length<=sizeLine->
  ∃x',kF (gB pre.length) kZ (lh f) l acc (pre++[x])=some (acc++l.map g,pre++[x'])
 |[],acc,x,_,_=>⟨x,by simp[kF]⟩
 |d::l,acc,x,h,hl=>by
  obtain⟨o,hd⟩:=h d ic;obtain⟨x',e⟩:=Ka f g pre l (acc++[g d]) (some (d,false)) (fun d' h'=>h d' (hU _ h')) (by simp at hl ⊢;omega);refine⟨x',?_⟩;have hs:acc.length<sizeLine:=by simp at hl;omega
  rw[kF,zi];simp only[ip,zw,gS,zA];rw[hd];simp only[ip];rw[gh hs];simp only[ip];rw[e];simp
theorem J9(f:F)(g:D->Int)(pre:Dn): ∀(l acc:List D) (x:Sl),(∀d∈l,∃o,f (pre++[some (d,false)])=some ((.int (g d),o),pre++[some (d,false)]))->acc.length+l.length<=1000->
  ∃x',kF (gB pre.length) kZ (wU f) l acc (pre++[x])=some (acc++l.map fun d=> .int (g d),pre++[x'])
 |[],acc,x,_,_=>⟨x,by simp[kF]⟩
 |d::l,acc,x,h,hl=>by
  obtain⟨o,hd⟩:=h d ic;obtain⟨x',e⟩:=J9 f g pre l (acc++[.int (g d)]) (some (d,false)) (fun d' h'=>h d' (hU _ h')) (by simp at hl ⊢;omega);refine⟨x',?_⟩;have hb:scanBound=4096:=rfl;have hs:acc.length+1<scanBound:=by simp at hl;omega
  rw[kF,zi];simp only[ip,zw,gS,wU];rw[hd];simp only[ip];rw[gh hs];simp only[ip];rw[e];simp
theorem yw(p:D->Bool): ∀l:List D,sy (l.map fun d=> .bl (p d))=some (l.map p)
 |[]=>rfl
 |d::l=>by simp[sy,yw p l]
theorem xq(p:D->Bool)(l:List D):Gq (.lst (l.map fun d=> .bl (p d)))=some (.bl (l.all p),false):=by
 simp[Gq,yw,List.all_map,Function.comp_def]
def ab(s:Int):Int:=if s<0 then -s else s
def wh:D->Bool
 | .int _=>true
 |_=>false
def sg(n:Int):D->Bool
 | .int s=>decide (1<=ab s)&&decide (ab s<=n)
 |_=>false
def iOf:D->Int
 | .int s=>s
 |_=>0
theorem rC(d:D):lg [(d,false)]=some ((.bl (wh d),false),[some (d,false)]):=by
 cases d<;>simp[lg,oZ,evF,gH,wh,isT]
theorem ya(d:D)(lo hi:Int):jq [(d,false),(.int lo,false),(.int hi,false)]=some ((.bl (match d with| .int s=>decide (lo<=s)&&decide (s<=hi)|_=>false),false),[some (d,false),some (.int lo,false),some (.int hi,false)]):=by
 cases d with
 |int s=>by_cases h:lo<=s<;>simp[jq,lI,evF,gH,rC,wh,gE,wb,tV,iO,h]
 |_=>simp[jq,lI,evF,gH,rC,wh,gE,wb]
theorem EL(d:D)(n:Int):nI [(.int n,false),(d,false)]=some ((.bl (match d with| .int s=>decide (1<=s)&&decide (s<=n)|_=>false),false),[some (.int n,false),some (d,false)]):=by
 simp[nI,qN,evF,gH,ya,gE,wb]
theorem Kz(n:Int)(d:D):kO [(.int n,false),(d,false)]=some ((.bl (sg n d),false),[some (.int n,false),some (d,false)]):=by
 cases d with
 |int s=>
  simp[kO,nH,evF,gH,rC,EL,wh,gE,wb,sg,ab];rfl
 |_=>simp[kO,nH,evF,gH,rC,EL,wh,gE,wb,sg,ab]
theorem C1(h:sg n d=true):d= .int (iOf d):=by cases d<;>simp_all [sg,iOf]
theorem HD(h:wh d=true):d= .int (iOf d):=by cases d<;>simp_all [wh,iOf]
def tB(n:Nat):D->Bool
 | .tup l=>decide (l.length=n)&&(l.all (sg n)&&decide ((l.map fun d=>ab (iOf d)).Nodup))
 |_=>false
def lB(n:Nat):D->Bool
 | .tup l=>l.all wh&&decide ((l.map fun d=>ab (iOf d)).Perm (st n))
 |_=>false
theorem HN(n:Nat)(d:D):tB n d=lB n d:=by
 cases d with
 |tup l=>
  rw[tB,lB,Bool.eq_iff_iff];simp only[ki,pY,lC,IS,iq,oA];constructor
  ·rintro⟨h1,h2,h3⟩;refine⟨fun d hd=>?_,h1,?_,h3⟩
   ·rw[C1 (h2 d hd)];rfl
   ·rintro x ⟨d,hd,rfl⟩;have:=h2 d hd;rw[C1 this] at this;simpa[sg] using this
  ·rintro⟨h1,h2,h3,h4⟩;refine⟨h2,fun d hd=>?_,h4⟩;have:=h3 _ ⟨d,hd,rfl⟩;rw[HD (h1 d hd)];simpa[sg] using this
 |_=>rfl
theorem vE(n:Nat)(d:D)(hd: ∀l,d= .tup l->l.length<=60):iD [(.int n,false),(d,false)]=some ((.bl (tB n d),false),[some (.int n,false),some (d,false)]):=by
 cases d with
 |tup l=>
  have hl:=hd l rfl;by_cases h1:l.length=n
  ·obtain⟨x1,e1⟩:=Ka (gx kO [fZ 0,fZ 1]) (fun d=> .bl (sg n d)) [some (.int n,false)] l [] none (fun d _=>⟨false,by simp[Kz,gE,wb]⟩) (by rw[jd];simp;omega);simp only[List.cons_append,qx,iJ,rm,Nat.zero_add] at e1;by_cases h2:l.all (sg n)=true
   ·have hi: ∀d∈l,∃o,gW (g1 DJ) [fZ 0] ([]++[some (d,false)])=some ((.int (ab (iOf d)),o),([]++[some (d,false)]:Dn)):=fun d hd=>⟨false,by
     rw[lC] at h2;rw[C1 (h2 d hd)];rfl⟩
    obtain⟨x2,e2⟩:=J9 (gW (g1 DJ) [fZ 0]) (fun d=>ab (iOf d)) [] l [] none hi (by simp;omega);simp only[List.cons_append,qx,iJ,rm] at e2
    have e3:(kY (l.map fun d=>D.int (ab (iOf d)))).2=l.length↔(l.map fun d=>ab (iOf d)).Nodup:=by
     have:=KA (l.map fun d=>ab (iOf d));rw[lu,iq] at this;exact this
    have e4:(((kY (l.map fun d=>D.int (ab (iOf d)))).2:Int)==(n:Int))=decide ((l.map fun d=>ab (iOf d)).Nodup):=by
     rw[Af,<-h1];by_cases q:(l.map fun d=>ab (iOf d)).Nodup
     ·rw[qb q,e3.mpr q];simp
     ·rw[nR q];simp only[decide_eq_false_iff_not,Int.natCast_inj];exact fun z=>q (e3.mp z)
    simp[iD,jv,evF,isT,h1,kM,pO,jF,e1,e2,xq,h2,gH,gE,wb,tB,e4]
   ·have cz:l.all (sg n)=false:=by simpa using h2
    simp[iD,jv,evF,isT,h1,kM,pO,jF,e1,xq,cz,gH,gE,wb,tB]
  ·have: ¬((l.length:Int)=(n:Int)):=by omega
   simp[iD,jv,evF,isT,this,h1,gH,gE,wb,tB]
 |_=>simp[iD,jv,evF,isT,gH,tB]
theorem ixi{t:gO}{v:Int}(h0:0<=v)(h:v<t.length):gIx (.tup (t.map .int)) (.int v)=some (.int (t.getD v.toNat 0),false):=by
 have h1:v.toNat<t.length:=by omega
 simp[gIx,atI,ixN,h0,h,h1]
theorem zj(a:Int)(b:Bool)(m:Int)(hm:0<m)(bj:m<1073741824): ∃v a',0<=v/\v<m/\ ∀(fo:FO) (δ:Dn) (o:Opd),fo (stt a b::δ)=some (o,stt a b::δ)->uq (stt a b::δ) o=some (.int m,false)->gx gF [fZ 0,fo] (stt a b::δ)=some ((.int v,false),stt a' b::δ):=by
 obtain⟨v,a',h0,h1,e⟩:=pB a b m hm bj;refine⟨v,a',h0,h1,fun fo δ o h2 h3=>?_⟩;refine(jG (os:=[.slot 0,o]) (args:=[(.lst [.int a,.bl b],true),(.int m,false)]) (tX rfl h2) ?_ ?_ e).trans ?_
 ·simp[h3]
 ·cases o<;>simp[gE]
 ·cases o<;>simp[wb]
def led(u:gO)(s:Int):Int:=if 0<s then u.getD (s-1).toNat 0 else -(u.getD (-s-1).toNat 0)
theorem N2(u:gO)(s:Int)(h0:s≠0)(h1: -(u.length:Int)<=s)(h2:s<=u.length):
  lb [enc u,(.int s,false)]=some ((.int (led u s),false),[some (enc u),some (.int s,false)]):=by
 simp only[lb,oX];by_cases h:0<s
 ·have:=ixi (t:=u) (v:=s-1) (by omega) (by omega);simp only[evF];simp[h,led,this,gH]
 ·have:=ixi (t:=u) (v:= -s-1) (by omega) (by omega);simp only[evF];simp[h,led,this,gH]
theorem RY(x:Int):se (.int x) (.int 1)=some (.int x,false):=by
 have:CMul x 1:= .inr (by omega);show((if CMul x 1 then some (D.int (x*1)) else none).map fun z=>(z,false))=_;rw[gh this,vn];rfl
theorem RX(x:Int):se (.int x) (.int (-1))=some (.int (-x),false):=by
 have:CMul x (-1):= .inr (by omega);show((if CMul x (-1) then some (D.int (x*(-1))) else none).map fun z=>(z,false))=_;rw[gh this,Int.mul_neg,vn];rfl
theorem pm0:gIx (.lst [.int 1,.int (-1)]) (.int 0)=some (.int 1,false):=rfl
theorem pm1:gIx (.lst [.int 1,.int (-1)]) (.int 1)=some (.int (-1),false):=rfl
theorem LL(u:gO)(s:Int)(h0:s≠0)(h1: -(u.length:Int)<=s)(h2:s<=u.length):
  iu [enc u,(.int s,false)]=some ((.int (led u s),false),[some (enc u),some (.int s,false)]):=by
 simp only[iu,jU];by_cases h:0<s
 ·have:=ixi (t:=u) (v:=s-1) (by omega) (by omega);have e0: ¬s<0:=by omega
  simp only[evF];simp[h,e0,led,this,gH,jd,pm0,RY]
 ·have:=ixi (t:=u) (v:= -s-1) (by omega) (by omega);have e0:s<0:=by omega
  simp only[evF];simp[h,e0,led,this,gH,jd,pm1,RX]
theorem AF(a:Int)(b:Bool)(m:Int)(hm:0<m)(bj:m<1073741824): ∃v a',0<=v/\v<m/\ ∀(fo:FO) (c0 c1:Sl) (δ:Dn) (o:Opd),fo (c0::c1::stt a b::δ)=some (o,c0::c1::stt a b::δ)->uq (c0::c1::stt a b::δ) o=some (.int m,false)->gx gF [fZ 2,fo] (c0::c1::stt a b::δ)=some ((.int v,false),c0::c1::stt a' b::δ):=by
 obtain⟨v,a',h0,h1,e⟩:=pB a b m hm bj;refine⟨v,a',h0,h1,fun fo c0 c1 δ o h2 h3=>?_⟩;refine(jG (os:=[.slot 2,o]) (args:=[(.lst [.int a,.bl b],true),(.int m,false)]) (tX rfl h2) ?_ ?_ e).trans ?_
 ·simp[h3]
 ·cases o<;>simp[gE]
 ·cases o<;>simp[wb]
theorem D8(h:0<=i):ab i=i:=by unfold ab;rw[gk (by omega)]
theorem Kd(h:0<=i):ab (-i)=i:=by unfold ab;split<;>omega
theorem Du{α:Type}[BEq α][LawfulBEq α]: ∀(l m:List α),l.Nodup->(∀x∈l,x∈m)->l.length<=m.length
 |[],m,_,_=>ku _
 |x::l,m,nd,hs=>by
  rw[ze] at nd;have hx:=hs x ic;have hp:=GI hx
  have:=Du l (m.erase x) nd.2 (fun y hy=>by
   have eR:=hs y (hU _ hy);have l6:y≠x:=fun e=>nd.1 (e▸hy);exact(B7 l6).mpr eR)
  have h2:=hp.length_eq;simp only[iJ] at h2 ⊢;omega
theorem GC(i:Int):ab (-i)=ab i:=by unfold ab;split<;>split<;>omega
theorem Gm{l:gO}{k:Nat}(h:k<l.length):l.getD k 0∈l:=by
 rw[sD,il h];exact jA h
abbrev cD(c:gO):D:= .tup (c.map .int)
theorem JZ(c:gO):D.dep (cD c)=1:=by simp[D.dep,su]
theorem Fc: ∀cs:List (List Int),D.depL (cs.map cD)<=1
 |[]=>by simp[D.depL]
 |c::cs=>by
  have:=Fc cs;simp only[iw,D.depL,JZ];omega
theorem JS(a b:gO):D.eqb (cD a) (cD b)=decide (a=b):=by simp[D.eqb,wH]
theorem Aj(c:gO): ∀cs:List (List Int),(cs.map cD).any (fun d=>D.eqb d (cD c))=decide (c∈cs)
 |[]=>by simp
 |x::cs=>by
  simp only[iw,sY,Aj c cs,JS,jt];by_cases h:x=c
  ·simp[h]
  ·have: ¬c=x:=fun e=>h e.symm;simp[h,this]
abbrev lsC(cs:iZ):Sl:=some (.lst (cs.map cD),true)
def uF(vs:iZ)(c:gO):List (List Int):=if c∈vs then vs else vs++[c]
theorem L9(vs:iZ)(c:gO):Ak (vs.map cD) (cD c)=(uF vs c).map cD:=by
 unfold Ak uF;rw[show(vs.map cD).any (D.eqb · (cD c))=decide (c∈vs) from Aj c vs];by_cases h:c∈vs<;>simp[h]
theorem Fq(h:vs.Nodup):(uF vs c).Nodup:=by
 unfold uF;split
 ·exact h
 ·rename_i hm;rw[List.nodup_append];exact⟨h,by simp,fun x hx y hy e=>by simp at hy;subst hy;subst e;exact hm hx⟩
theorem rO: ∀l:List Int,D.prL (l.map .int)=true
 |[]=>by simp[D.prL]
 |x::l=>by simp[D.prL,D.pr,rO l]
theorem Ds(c:gO):okS (cD c)=true:=by simp[okS,rO,su]
theorem Dr(cs:iZ):(cs.map cD).all okS=true:=by
 rw[lC];intro d hd;obtain⟨c,_,rfl⟩:=oA.mp hd;exact Ds c
theorem yq(op:CmpOp): ∀a b:List Int,(nK op (a.map .int) (b.map .int)).isSome=true
 |[],b=>by simp[nK]
 |x::a,[]=>by simp[nK]
 |x::a,y::b=>by
  simp only[iw,nK];split
  ·exact yq op a b
  ·simp[kQ]
theorem FE(cs:iZ)(h: ∀c∈cs,c≠[]):lR (cs.map cD)=true:=by
 have hk: ∀c:List Int,c≠[]->jl (cD c)=some 1:=fun c hc=>by
  cases c with
  |nil=>exact absurd rfl hc
  |cons=>rfl
 unfold lR
 cases cs with
 |nil=>rfl
 |cons c cs=>
  rw[uW];right;simp only[iw];rw[ki,ki,hk c (h c ic)];refine⟨⟨rfl,?_⟩,?_⟩
  ·rw[lC];intro d hd;rw[<-iw (f:=cD)] at hd;obtain⟨x,hx,rfl⟩:=oA.mp hd;rw[hk x (h x hx),JZ];simp[D.pr,rO]
  ·rw[lC];intro d hd;rw[lC];intro e he;rw[<-iw (f:=cD)] at hd he;obtain⟨x,hx,rfl⟩:=oA.mp hd;obtain⟨y,hy,rfl⟩:=oA.mp he;simp only[kQ];exact yq _ _ _
def unC:D->List Int
 | .tup l=>l.map iOf
 |_=>[]
theorem vD(c:gO):unC (cD c)=c:=by
 simp only[unC,lu];rw[oB (g:=id),uT];intro x _;rfl
theorem DS(h:m.Perm (cs.map cD)): ∃ks:List (List Int),m=ks.map cD/\ks.Perm cs:=by
 refine⟨m.map unC,?_,?_⟩
 ·rw[lu]
  symm
  rw[oB (g:=id),uT];intro d hd;obtain⟨c,_,rfl⟩:=oA.mp (h.mem_iff.mp hd);simp only[Function.comp,vD];rfl
 ·have:=h.map unC;rw[lu] at this;rw[show List.map (unC∘cD) cs=List.map id cs from oB (fun c _=>vD c),uT] at this;exact this
def D9(ks:iZ):Prop:=ks.Pairwise fun a b=>ltT (cD b) (cD a)=false
abbrev ii(n:Int):Sl:=some (.int n,false)
abbrev frz(ds:List D):Dn:=ds.map fun d=>some (d,false)
theorem oU: ∀(os:List Opd) (ds:List D),gE os (ds.map fun d=>(d,false))=[]
 |[],_=>by simp[gE]
 |_::_,[]=>by simp[gE]
 |o::os,d::ds=>by cases o<;>simp[gE,oU os ds]
theorem Ay: ∀(os:List Opd) (ds:List D) (outs δ:Dn),wb os (ds.map fun d=>(d,false)) outs δ=δ
 |[],_,_,_=>by simp[wb]
 |_::_,[],_,_=>by simp[wb]
 |_::_,_::_,[],_=>by simp[wb]
 |o::os,d::ds,x::xs,δ=>by cases o<;>simp[wb,Ay os ds xs]
theorem Ov{f:F}{ti:FT}{g:D->D}{p:D->Bool}{pre:Dn}: ∀(l acc:List D) (x:Sl),(∀d∈l,ti (pre++[some (d,false)])=some (p d,pre++[some (d,false)])/\(p d=true-> ∃o,f (pre++[some (d,false)])=some ((g d,o),pre++[some (d,false)])))->acc.length+l.length<=sizeLine->
  ∃x',kF (gB pre.length) ti (lh f) l acc (pre++[x])=some (acc++(l.filter p).map g,pre++[x'])
 |[],acc,x,_,_=>⟨x,by simp[kF]⟩
 |d::l,acc,x,h,hl=>by
  obtain⟨h1,h2⟩:=h d ic;have hs:acc.length<sizeLine:=by simp at hl;omega
  rw[kF,zi];simp only[ip];rw[h1]
  cases hp:p d with
  |false=>
   obtain⟨x',e⟩:=Ov l acc (some (d,false)) (fun d' h'=>h d' (hU _ h')) (by simp at hl ⊢;omega);exact⟨x',by simp[e,hp]⟩
  |true=>
   obtain⟨o,hd⟩:=h2 hp;obtain⟨x',e⟩:=Ov l (acc++[g d]) (some (d,false)) (fun d' h'=>h d' (hU _ h')) (by simp at hl ⊢;omega);refine⟨x',?_⟩;simp only[ip,gS,zA];rw[hd];simp only[ip];rw[gh hs];simp only[ip];rw[e];simp[hp]
theorem Oj{caps:gX}{fi:FIt}{f:F}{ti:FT}{δ δ1:Dn}{l args:List D}(g:D->D)(p:D->Bool)(h1:fi δ=some (l,δ1))(h2:jk δ1 (caps.map .slot)=some (args.map fun d=>(d,false)))(hc:args.length=caps.length)
  (h: ∀d∈l,ti (frz args++[some (d,false)])=some (p d,frz args++[some (d,false)])/\(p d=true-> ∃o,f (frz args++[some (d,false)])=some ((g d,o),frz args++[some (d,false)])))(hl:l.length<=10000):
  kM caps 1 fi (gB caps.length) ti (lh f) δ=some ((.lst ((l.filter p).map g),true),δ1):=by
 obtain⟨x',e⟩:=Ov (f:=f) (ti:=ti) (g:=g) (p:=p) (pre:=frz args) l [] none h (by rw[jd];simp;omega);unfold kM;rw[h1];simp only[ip];rw[h2];simp only[ip,oU,rk,gS,lu,Ay];rw[show gB caps.length=gB (frz args).length from by rw[iq,hc]];rw[show((args.map (some∘fun d=>(d,false)))++List.replicate 1 none:Dn)=frz args++[none] from rfl,e];simp
theorem Oi{caps:gX}{fi:FIt}{f:F}{δ δ1:Dn}{l args:List D}(g:D->D)(h1:fi δ=some (l,δ1))(h2:jk δ1 (caps.map .slot)=some (args.map fun d=>(d,false)))(hc:args.length=caps.length)
  (h: ∀d∈l,∃o,f (frz args++[some (d,false)])=some ((g d,o),frz args++[some (d,false)]))(hl:l.length<=10000):
  kM caps 1 fi (gB caps.length) kZ (lh f) δ=some ((.lst (l.map g),true),δ1):=by
 rw[Oj g (fun _=>true) h1 h2 hc (fun d hd=>⟨rfl,fun _=>h d hd⟩) hl,List.filter_eq_self.mpr fun _ _=>rfl]
theorem mB{tg:Tg}{fb:FS}(I:List D->Dn->Prop)(step: ∀d ds δ,I (d::ds) δ-> ∃δ1 δ2,tg d δ=some δ1/\fb δ1=some (.nx δ2)/\I ds δ2): ∀(ds:List D) (δ:Dn),I ds δ-> ∃δ',I [] δ'/\wA tg fb ds δ=some (.nx δ')
 |[],δ,h=>⟨δ,h,rfl⟩
 |d::ds,δ,h=>by
  obtain⟨δ1,δ2,h1,h2,h3⟩:=step d ds δ h;obtain⟨δ',h4,h5⟩:=mB I step ds δ2 h3;refine⟨δ',h4,?_⟩;unfold wA;rw[h1];simp only[ip];rw[h2];exact h5
theorem Of(h:f δ=some ((.bl true,o),δ1)):zT f g δ=g δ1:=by rw[M8,h];rfl
def BR(ev:EvF)(d:D):Prop:= ∀b c,ev [(d,b),(d,c)]=some ((.bl true,false),[some (d,b),some (d,c)])
theorem Fl{ev:EvF}: ∀(l acc:List D) (x y:Sl),(∀d∈l,BR ev d)->acc.length+l.length<=10000-> ∃x' y',kF (vG [(gB 0),(gB 1)]) kZ (lh (gx ev [(fZ 0),(fZ 1)])) ((l.zip l).map fun p=> .tup [p.1,p.2]) acc [x,y]=some (acc++l.map fun _=> .bl true,[x',y'])
 |[],acc,x,y,_,_=>⟨x,y,by simp[kF]⟩
 |d::l,acc,x,y,h,hl=>by
  obtain⟨x',y',e⟩:=Fl l (acc++[.bl true]) (some (d,false)) (some (d,false)) (fun d' h'=>h d' (hU _ h')) (by simp at hl ⊢;omega);refine⟨x',y',?_⟩;have hs:acc.length<sizeLine:=by rw[jd];simp at hl;omega
  simp only[qv,iw,kF];rw[show vG [(gB 0),(gB 1)] (.tup [d,d]) [x,y]=some [some (d,false),some (d,false)] from rfl];simp only[ip,zw,gS,zA];rw[jG (os:=[.slot 0,.slot 1]) (args:=[(d,false),(d,false)]) rfl rfl rk (h d ic false false)];simp only[ip];rw[gh hs];simp only[ip];rw[show wb [.slot 0,.slot 1] [(d,false),(d,false)] [some (d,false),some (d,false)] [some (d,false),some (d,false)]=[some (d,false),some (d,false)] from rfl,e];simp
theorem JJ{d:D}(h:d.dep<=50):gNe d d=some (.bl false,false):=by unfold gNe;rw[gh ⟨h,h⟩,D.eqb_refl];rfl
theorem L1(L:iZ):(D.lst (L.map cD)).dep<=50:=by have:=Fc L;rw[D.dep];omega
theorem Oh(l:List D)(v:Nat):PX.Aq l none (some (v:Int))=l.take v:=by
 unfold PX.Aq;rw[HT.OF,HT.Ph,uX,Nat.sub_zero];by_cases h:v<=l.length
 ·rw[qW h]
 ·rw[Nat.min_eq_right (by omega),qX (gQ _),qX (by omega)]
def TT(n:Nat)(t:gO):Prop:=(t.map ab).Perm (st n)
def SG(n:Nat)(s:Int):Prop:=1<=ab s/\ab s<=n
def beh(t u:gO):List Int:=t.map (led u)
theorem TT.len{n:Nat}{t:gO}(h:TT n t):t.length=n:=by simpa using(IS.mp h).1
theorem TT.sg{n:Nat}{t:gO}(h:TT n t){x:Int}(hx:x∈t):SG n x:=(IS.mp h).2.1 _ (qr hx)
theorem AR{n:Nat}{s:Int}(h:SG n s): ∃k:Nat,k<n/\(s=(k:Int)+1\/s= -((k:Int)+1)):=by
 have:=h;unfold SG ab at this;split at this
 ·exact⟨(-s-1).toNat,by omega,.inr (by omega)⟩
 ·exact⟨(s-1).toNat,by omega,.inl (by omega)⟩
theorem LM(t:gO)(k:Nat):led t ((k:Int)+1)=t.getD k 0:=by
 unfold led;rw[gh (by omega),show((k:Int)+1-1).toNat=k by omega]
theorem Ju(t:gO)(k:Nat):led t (-((k:Int)+1))= -t.getD k 0:=by
 unfold led;rw[gk (by omega),show(- -((k:Int)+1)-1).toNat=k by omega]
theorem OA{n:Nat}{t:gO}(ht:t.length=n){s:Int}(h:SG n s):ab (led t s)=(t.map ab).getD ((ab s).toNat-1) 0:=by
 obtain⟨k,hk,rfl|rfl⟩:=AR h
 ·rw[LM,D8 (i:=(k:Int)+1) (by omega),show(((k:Int)+1).toNat-1)=k by omega];simp[sD,ht,hk]
 ·rw[Ju,GC,Kd (by omega),show(((k:Int)+1).toNat-1)=k by omega];simp[sD,ht,hk]
theorem TT.beh{n:Nat}{t u:gO}(h:TT n t)(hu:TT n u):TT n (beh t u):=by
 unfold TT
 have e:(PV.beh t u).map ab=(t.map ab).map fun j=>(u.map ab).getD (j.toNat-1) 0:=by
  unfold PV.beh;rw[lu,lu];refine oB fun x hx=>?_;exact OA hu.len (h.sg hx)
 rw[e];refine(h.map _).trans (List.Perm.trans (uY ?_) hu);apply yY
 ·simp[st,hu.len]
 ·intro i h1 h2;have hi:i<n:=by simpa[st] using h1
  have e2:((1:Int)+(i:Int)).toNat-1=i:=by omega
  simp only[st,lu,List.getElem_map,List.getElem_range,Function.comp,e2];simp[sD,hu.len,hi]
theorem MR(n:Nat):(st n).length=n:=by simp[st]
theorem Mk(n:Nat):TT n (st n):=by
 have:(st n).map ab=st n:=by
  conv=>rhs;rw[<-uT (st n)]
  refine oB fun x hx=>?_;have:=MQ.mp hx;exact D8 (by omega)
 unfold TT;rw[this]
theorem qI: ∀(k:Nat) (r f t:gO),r.length=k->(∀x∈r,0<=x)->t∈lU k r f->(t.map ab).Perm (f.map ab++r)
 |0,r,f,t,hr,_,h=>by
  simp[lU] at h;subst h;rw[Md.mp hr];simp
 |k+1,r,f,t,hr,h0,h=>by
  simp only[lU,List.mem_flatMap,nS,uv] at h;obtain⟨v,hv,h⟩:=h;have hl:(r.eraseIdx v).length=k:=by rw[yH,gh hv];omega
  have hz: ∀x∈r.eraseIdx v,0<=x:=fun x hx=>h0 x (List.mem_of_mem_eraseIdx hx);have hx:=h0 _ (Gm hv)
  have fin: ∀y:Int,ab y=r.getD v 0->(List.map ab (f++[y])++r.eraseIdx v).Perm (f.map ab++r):=fun y hy=>by
   rw[qV,jc];refine pW _ ?_;simp only[iw,oH,List.cons_append,qx,hy];have e:r.getD v 0=r[v]:=by simp[sD,hv]
   rw[e];rw[G4];have e2:r=r.take v++r[v]::r.drop (v+1):=by rw[<-rh hv,ko]
   conv=>rhs;rw[e2]
   exact Ar.symm
  rcases h with h|h
  ·exact(qI k _ _ t hl hz h).trans (fin _ (by rw[vn];exact D8 hx))
  ·exact(qI k _ _ t hl hz h).trans (fin _ (by rw[Int.mul_neg,vn];exact Kd hx))
theorem Kt{n:Nat}{t:gO}(h:t∈lU n (st n) []):TT n t:=by
 have:=qI n (st n) [] t (MR n) (fun x hx=>by have:=MQ.mp hx;omega) h;unfold TT;simpa using this
def RJ(fo:FO)(δ:Dn)(d:D):Prop:= ∃o,fo δ=some (o,δ)/\res δ o=some d
def FJ(fo:FO)(δ:Dn)(d:D):Prop:= ∃o,fo δ=some (o,δ)/\res δ o=some d/\uq δ o=some (d,false)
theorem FJ.r{fo:FO}{δ:Dn}{d:D}(h:FJ fo δ d):RJ fo δ d:=let⟨o,a,b,_⟩:=h;⟨o,a,b⟩
theorem jV{i:Nat}{δ:Dn}{d:D}(h:δ[i]?=some (some (d,false))):FJ (fZ i) δ d:=⟨.slot i,by unfold fZ;rw[h],by unfold res;simp[h],by simp[h]⟩
theorem jR{i:Nat}{δ:Dn}{d:D}{b:Bool}(h:δ[i]?=some (some (d,b))):RJ (fZ i) δ d:=⟨.slot i,by unfold fZ;rw[h],by unfold res;simp[h]⟩
theorem jE{f:F}{δ:Dn}{d:D}{b:Bool}(h:f δ=some ((d,b),δ)):FJ (gc f) δ d:=⟨.val (d,b),iR h,rfl,rfl⟩
theorem jU1{ev:EvF}{fa:FO}{δ:Dn}{a:D}{r:D×Bool}{outs:Dn}(h:ev [(a,false)]=some (r,outs))(ha:FJ fa δ a):gx ev [fa] δ=some (r,δ):=by
 obtain⟨o,h1,_,h3⟩:=ha;refine(jG (DN h1) (args:=[a].map fun d=>(d,false)) (by simp[h3]) (by rw[oU];exact rk) h).trans ?_;rw[Ay]
theorem jU2{ev:EvF}{fa fb:FO}{δ:Dn}{a b:D}{r:D×Bool}{outs:Dn}(h:ev [(a,false),(b,false)]=some (r,outs))(ha:FJ fa δ a)(hb:FJ fb δ b):gx ev [fa,fb] δ=some (r,δ):=by
 obtain⟨o,h1,_,h3⟩:=ha;obtain⟨o',k1,_,k3⟩:=hb;refine(jG (tX h1 k1) (args:=[a,b].map fun d=>(d,false)) (by simp[h3,k3]) (by rw[oU];exact rk) h).trans ?_;rw[Ay]
theorem jO{g:D->D->Option (D×Bool)}{fa fb:FO}{δ:Dn}{a b:D}{r:D×Bool}(h:g a b=some r)(ha:RJ fa δ a)(hb:RJ fb δ b):gC g fa fb δ=some (r,δ):=by
 obtain⟨o,h1,h2⟩:=ha;obtain⟨o',k1,k2⟩:=hb;exact mC h1 k1 h2 k2 h
theorem jC{g:D->Option (D×Bool)}{fa:FO}{δ:Dn}{a:D}{r:D×Bool}(h:g a=some r)(ha:RJ fa δ a):gW (g1 g) [fa] δ=some (r,δ):=by
 obtain⟨o,h1,h2⟩:=ha;exact pd (ds:=[a]) (DN h1) (by simp[h2]) h
theorem Pj{f:F}{np:Nat}{args:List (D×Bool)}{r:D×Bool}{δ:Dn}(h1:args.length=np/\np<=np/\(args.zipIdx.all fun p=>!(p.1.2&&([]:List Nat).contains p.2))=true)(h2:f (args.map some++List.replicate (np-np) none)=some (r,δ)):evF np np [] (gn (jJ f) gL) args=some (r,gH args δ):=
 pe h1 (lG (nv h2))
theorem Ml{n:Nat}{s:Int}(h:SG n s):s≠0/\ -(n:Int)<=s/\s<=n:=by
 obtain⟨k,hk,rfl|rfl⟩:=AR h<;>omega
theorem RZ{n:Nat}{u:gO}(hu:u.length=n){s:Int}(h:SG n s):lb [enc u,(.int s,false)]=some ((.int (led u s),false),[some (enc u),some (.int s,false)]):=by
 obtain⟨a,b,c⟩:=Ml h;exact N2 u s a (by rw[hu];exact b) (by rw[hu];exact c)
theorem Jl(f:Int->Int)(l:gO):(l.map D.int).map (fun d=>D.int (f (iOf d)))=(l.map f).map D.int:=by rw[lu,lu];rfl
theorem yp{caps:gX}{fi:FIt}{f:F}{δ δ1:Dn}{l:gO}{args:List D}(g:Int->Int)(h1:fi δ=some (l.map D.int,δ1))(h2:jk δ1 (caps.map .slot)=some (args.map fun d=>(d,false)))(hc:args.length=caps.length)
  (h: ∀x∈l,∃o,f (frz args++[some (.int x,false)])=some ((.int (g x),o),frz args++[some (.int x,false)]))(hl:l.length<=10000):
  kM caps 1 fi (gB caps.length) kZ (lh f) δ=some ((.lst ((l.map g).map D.int),true),δ1):=by
 rw[Oi (fun d=> .int (g (iOf d))) h1 h2 hc (fun d hd=>by obtain⟨x,hx,rfl⟩:=oA.mp hd;exact h x hx) (by simpa using hl),Jl]
theorem GA{n:Nat}(hn:n<=5){t u:gO}(ht:TT n t)(hu:u.length=n):mY [enc t,enc u]=some (enc (beh t u),[some (enc t),some (enc u)]):=by
 refine Pj ⟨rfl,by decide,rfl⟩ (jC (a:= .lst ((beh t u).map D.int)) rfl (jE (b:=true) (yp (args:=[cD u]) (led u) rfl rfl rfl (fun x hx=>⟨false,?_⟩) (by rw[ht.len];omega))).r);exact jU2 (RZ hu (ht.sg hx)) (jV rfl) (jV rfl)
theorem H9(n:Nat)(hn:n<=5):gRg .tup false [.int 1,.int ((n:Int)+1)]=some (.tup ((st n).map .int),false):=by
 have:n=0\/n=1\/n=2\/n=3\/n=4\/n=5:=by omega
 have h1:RgOk 1 ((n:Int)+1):=by rcases this with rfl|rfl|rfl|rfl|rfl|rfl<;>decide+kernel
 have h2:((n:Int)+1-1).toNat=n:=by omega
 show(if RgOk 1 ((n:Int)+1) then some (D.tup (iA 1 ((n:Int)+1-1).toNat),false) else none)=_;rw[gh h1,h2,<-HR]
theorem HP{n:Nat}(hn:n<=5):lX [(.int n,false)]=some (enc (st n),[ii n]):=
 Pj ⟨rfl,by decide,rfl⟩ (pd (os:=[.val (.int 1,false),.val (.int ((n:Int)+1),false)]) rfl rfl (H9 n hn))
theorem AE{n:Nat}(hn:n<=5){t:gO}(ht:TT n t):iD [(.int n,false),enc t]=some ((.bl true,false),[ii n,some (enc t)]):=by
 have h:tB n (cD t)=true:=by
  rw[HN];simp only[lB,ki,lC,pY,lu];refine⟨fun d hd=>?_,ht⟩;obtain⟨x,_,rfl⟩:=oA.mp hd;rfl
 rw[vE n (cD t) (fun l e=>by cases e;rw[iq,ht.len];omega),h]
theorem J6{n:Nat}(hn:n<=5){t:gO}(ht:TT n t):ji [(.int n,false),enc t]=some ((.non,false),[ii n,some (enc t)]):=by
 have:sIf (mD (fT (gx iD [(fZ 0),(fZ 1)]))) (gn vL gL) gL [ii n,some (enc t)]=some (.nx [ii n,some (enc t)]):=
  (A1 (wG (si (jU2 (AE hn ht) (jV rfl) (jV rfl))))).trans rfl
 have e:jN [ii n,some (enc t)]=some (.nx [ii n,some (enc t)]):=(gp this).trans rfl;simp only[ji,evF];rw[gh ⟨rfl,by decide,rfl⟩];show(match jN [ii n,some (enc t)] with|some (.rt r δ)=>some (r,gH _ δ)|some (.nx δ)=>some ((D.non,false),gH _ δ)|_=>none)=_;rw[e];rfl
theorem Eh{ft:FT}{fb:FS}{k:Nat}{δ δ1 δ2:Dn}(h:ft δ=some (true,δ1))(hb:fb δ1=some (.nx δ2)):kg ft fb (k+1) δ=kg ft fb k δ2:=by
 rw[kg,h];simp only[ip,gS];rw[hb];rfl
theorem zf{ft:FT}{fb:FS}{k:Nat}{δ δ1:Dn}(h:ft δ=some (false,δ1)):kg ft fb (k+1) δ=some (.nx δ1):=by
 rw[kg,h];rfl
theorem Kw{cs:iZ}(h:lR (cs.map cD)=true)(hl:cs.length<=10000): ∃ds:List (List Int),ds.Perm cs/\D9 ds/\iP (cs.map cD)=some (.lst (ds.map cD),true):=by
 obtain⟨ds,e,hp⟩:=DS (jo ltT (cs.map cD));refine⟨ds,hp,?_,?_⟩
 ·have:=pC (cs.map cD);rw[e,List.pairwise_map] at this;exact this
 ·unfold iP;rw[gh ⟨h,by rw[iq];exact zp hl⟩,e]
def dC(cs:iZ):D:= .oth .dct (cs.map cD) (cs.map fun _=> .bl true)
theorem yf: ∀l:List Int,(Br (l.map .int)).isSome=true
 |[]=>rfl
 |x::l=>by
  have:=yf l;simp only[iw,Br,xj]
  cases h:Br (l.map D.int) with
  |none=>rw[h] at this;cases this
  |some k=>rfl
theorem zJ(c:gO):(wo (cD c)).isSome=true:=yf c
theorem LP(cs:iZ):((cs.map cD).all fun k=>(wo k).isSome)=true:=by
 rw[lC];intro d hd;obtain⟨c,_,rfl⟩:=oA.mp hd;exact zJ c
theorem Bo(cs:iZ)(c:gO):rX (cs.map cD) (cD c)=true:=by
 unfold rX;rw[zJ,LP];simp
theorem Ia(c:gO): ∀cs:List (List Int),qh (cs.map cD) (cs.map fun _=> .bl true) (cD c) (.bl true)=cs.map fun _=> .bl true
 |[]=>rfl
 |x::cs=>by simp[qh,Ia c cs]
theorem Nx(cs:iZ)(c:gO):D.oth .dct (pU (cs.map cD) (cs.map fun _=> .bl true) (cD c) (.bl true)).1 (pU (cs.map cD) (cs.map fun _=> .bl true) (cD c) (.bl true)).2=dC (uF cs c):=by
 unfold pU uF dC;rw[Aj];by_cases h:c∈cs
 ·rw[gh (by simpa using h),gh h,Ia]
 ·rw[gk (by simpa using h),gk h];simp
theorem ET(c:gO): ∀cs:List (List Int),(kj (cs.map cD) (cs.map fun _=> .bl true) (cD c)).isSome=decide (c∈cs)
 |[]=>rfl
 |x::cs=>by
  simp only[iw,kj,JS];by_cases h:x=c
  ·simp[h]
  ·have: ¬c=x:=fun e=>h e.symm;simp[h,this,ET c cs]
theorem F9(c:gO)(cs:iZ):pN (cD c) (dC cs)=some (.bl (!decide (c∈cs)),false):=by
 show(if rX (cs.map cD) (cD c)=true then some (D.bl (!(kj (cs.map cD) (cs.map fun _=>D.bl true) (cD c)).isSome),false) else none)=_;rw[gh (Bo cs c),ET]
theorem L0{i:Nat}{f:F}{g:FO}{δ δ1 δ2:Dn}{o:Opd}{x:D×Bool}{b:Bool}{cs:iZ}{c:gO}(h1:f δ=some ((.bl true,b),δ1))(h2:δ1[i]?=some (some x))(h3:g δ1=some (o,δ2))(h4:res δ2 o=some (cD c))(h5:δ2[i]?=some (some (dC cs,true)))(h6:cs.length<10000):xM i f g δ=some (.nx (δ2.set i (some (dC (uF cs c),true)))):=by
 unfold xM;rw[h1];simp only[ip];rw[h2];simp only[];rw[h3];simp only[ip];rw[h4,h5];unfold dC;simp only[];rw[gh ⟨Bo cs c,by simpa using h6⟩,Nx];rfl
theorem EY(fs:iZ):gNe (.lst (fs.map cD)) (.lst [])=some (.bl (!decide (fs=[])),false):=by
 unfold gNe;rw[gh ⟨L1 fs,by decide⟩];cases fs<;>simp[D.eqb,D.eqbL]
theorem RW{a b:D}{fa fb:FO}{δ:Dn}(h:a=b)(hd:a.dep<=50)(ha:RJ fa δ a)(hb:RJ fb δ b):fT (gC gNe fa fb) δ=some (false,δ):=by
 subst h;exact si (o:=false) (jO (JJ hd) ha hb)
theorem no{t:FT}{f:FS}{δ:Dn}(g:FS)(h:t δ=some (false,δ)):gn (sIf t f gL) g δ=g δ:=(gp ((A1 h).trans rfl))
theorem HS{k l:iZ}(hp:k.Perm l)(h1:D9 k)(h2:D9 l):k=l:=by
 refine hp.eq_of_pairwise (le:=fun a b=>ltT (cD b) (cD a)=false) (fun a b _ _ x y=>?_) h1 h2;rw[kN] at x y;have pa: ∀x:List Int,D.pr (cD x)=true:=fun x=>by simp[D.pr,rO]
 have e:cT (cD a) (cD b)= .eq:=by
  rw[jQ] at x
  cases hc:cT (cD a) (cD b) with
  |lt=>exact absurd hc y
  |gt=>rw[hc] at x;exact absurd rfl x
  |eq=>rfl
 have:=sx _ _ (pa a) (pa b) e;simpa[vD] using nQ unC this
theorem jU3{ev:EvF}{fa fb fc:FO}{δ:Dn}{a b c:D}{r:D×Bool}{outs:Dn}(h:ev [(a,false),(b,false),(c,false)]=some (r,outs))(ha:FJ fa δ a)(hb:FJ fb δ b)(hc:FJ fc δ c):gx ev [fa,fb,fc] δ=some (r,δ):=by
 obtain⟨o,h1,_,h3⟩:=ha;obtain⟨o',k1,_,k3⟩:=hb;obtain⟨o2,m1,_,m3⟩:=hc;refine(jG (DM h1 (tX k1 m1)) (args:=[a,b,c].map fun d=>(d,false)) (by simp[h3,k3,m3]) (by rw[oU];exact rk) h).trans ?_;rw[Ay]
def nb(d:D)(lo hi:Int):Bool:=match d with| .int s=>decide (lo<=s)&&decide (s<=hi)|_=>false
section
variable {d:D}{lo hi:Int}
theorem SH:mD (fT (gx jq [(fZ 0),(fZ 1),(fZ 2)])) [some (d,false),ii lo,ii hi]=some (!nb d lo hi,[some (d,false),ii lo,ii hi]):=
 wG (si (jU3 (ya d lo hi) (jV rfl) (jV rfl) (jV rfl)))
theorem Om(h:nb d lo hi=true):js [(d,false),(.int lo,false),(.int hi,false)]=some ((.non,false),[some (d,false),ii lo,ii hi]):=by
 have e:kd [some (d,false),ii lo,ii hi]=some (.nx [some (d,false),ii lo,ii hi]):=(no _ (SH.trans (by rw[h];rfl))).trans rfl;simp only[js,evF];rw[gh ⟨rfl,by decide,rfl⟩];show(match kd [some (d,false),ii lo,ii hi] with|some (.rt r δ)=>some (r,gH _ δ)|some (.nx δ)=>some ((D.non,false),gH _ δ)|_=>none)=_;rw[e];rfl
end
section
variable {a b c:D}
end
theorem E9: ∀(r:gO) (v:Nat) (h:v<r.length),r.Perm (r[v]::r.eraseIdx v)
 |x::r,0,_=> .refl _
 |x::r,v+1,h=>((E9 r v (by simpa using h)).cons x).trans (.swap _ _ _)
theorem AS{α:Type}: ∀{l:List α} {i:Nat} {a:α},l[i]?=some a->l.set i a=l
 |[],i,a,h=>by simp at h
 |x::l,0,a,h=>by simp at h;simp[h]
 |x::l,i+1,a,h=>by simp at h;simp[AS h]
theorem vW: ∀(t r f:gO),(t.map ab).Perm r->f++t∈lU t.length r f
 |[],r,f,h=>by simp[lU]
 |s::t,r,f,h=>by
  have hs:ab s∈r:=h.mem_iff.mp (by simp);obtain⟨v,hv,e⟩:=sP hs
  have hp:(t.map ab).Perm (r.eraseIdx v):=by
   have h1:r.Perm (r[v]::r.eraseIdx v):=E9 r v hv;rw[e] at h1;exact(List.perm_cons _).mp ((show(ab s::t.map ab).Perm r from h).trans h1)
  have hg:r.getD v 0=ab s:=by rw[sD,il hv,e];rfl
  rw[iJ,lU,List.mem_flatMap];refine⟨v,uv.mpr hv,?_⟩;rw[nS,hg];have hx:s=ab s*1\/s=ab s* -1:=by unfold ab;split<;>lia
  rcases hx with q|q
  ·left;have:=vW t (r.eraseIdx v) (f++[ab s*1]) hp;rw[<-q,jc] at this;rw[<-q];exact this
  ·right;have:=vW t (r.eraseIdx v) (f++[ab s* -1]) hp;rw[<-q,jc] at this;rw[<-q];exact this
theorem L7: ∀n:Nat,n<5->(lU n (st n) []).length<=384:=by decide+kernel
theorem few{n:Nat}(hn:n<=4){V:iZ}(nd:V.Nodup)(h: ∀t∈V,TT n t):V.length<=384:=
 kx (Du V (lU n (st n) []) nd fun t ht=>by
  have:=vW t (st n) [] (h t ht)
  rwa [(h t ht).len] at this) (L7 n (by lia))
abbrev kH(V:iZ):Sl:=some (.oth .set [] (V.map cD),true)
theorem F8(V:iZ)(t:gO):sd (cD t) (.oth .set [] (V.map cD))=some (.bl (!decide (t∈V)),false):=by
 show((if(V.map cD).all okS=true/\okS (cD t)=true then some ((V.map cD).any (D.eqb · (cD t))) else none).map fun b=>(D.bl (!b),false))=_;rw[gh ⟨Dr V,Ds t⟩,Aj t V];rfl
theorem A0{i:Nat}{f:F}{δ:Dn}{V:iZ}{t:gO}(h0:δ[i]?=some (kH V))(h1:f δ=some ((cD t,false),δ))(hl:V.length<500):uj i f δ=some ((.non,false),δ.set i (kH (uF V t))):=by
 unfold uj;rw[h0];simp only[];rw[h1];simp only[ip];rw[h0];simp only[];rw[gh ⟨Dr V,Ds t,by simpa using hl⟩,L9]
abbrev fbI:FS:=(gn (iW 7 (gx mY [(fZ 5),(fZ 6)])) (gn (sIf (fT (gC sd (fZ 7) (fZ 2))) (gn (jB (uj 2 (jF 7))) (gn (jB (jg 4 (jF 7))) gL)) gL) gL))
abbrev Oc:FS:=(gn (oO (kD (jF 1)) (gB 6) fbI) gL)
abbrev P8:FS:=(gn (iW 4 (jw [])) (gn (oO (kD (jF 3)) (gB 5) Oc) (gn (iW 3 (jF 4)) gL)))
section
variable {n m:Nat}{V R:iZ}{d:D}
def sq(d:D)(L:iZ):Prop:=d= .lst (L.map cD)\/d= .tup (L.map cD)
theorem JC{L:iZ}(h:sq d L){i:Nat}{δ:Dn}(hi:δ[i]?=some (some (d,false))):kD (jF i) δ=some (L.map cD,δ):=by
 have e:jF i δ=some ((d,false),δ):=by
  unfold jF;rw[hi];simp only[];rw[AS hi]
 rw[KH,e];rcases h with rfl|rfl<;>rfl
theorem HL(W:iZ)(f:Bool)(x0 x1 x2:Sl)(δ:Dn):JP (fZ 3) (x0::x1::x2::some (.lst (W.map cD),f)::δ)=some (!W.isEmpty,x0::x1::x2::some (.lst (W.map cD),f)::δ):=by
 show some (!(W.map cD).isEmpty,_)=_;cases W<;>rfl
end
theorem Pb{n:Nat}{d:D}(h:tB n d=true): ∃t,d=cD t/\TT n t:=by
 rw[HN] at h
 cases d with
 |tup l=>
  simp only[lB,ki,lC,pY] at h;refine⟨l.map iOf,?_,?_⟩
  ·have:l=(l.map iOf).map D.int:=by
    rw[lu]
    conv=>lhs;rw[<-uT l]
    exact oB fun d hd=>HD (h.1 d hd)
   exact nQ D.tup this
  ·unfold TT;rw[lu];exact h.2
 |_=>cases h
theorem OQ{n:Nat}{t:gO}(ht:TT n t):tB n (cD t)=true:=by
 rw[HN];simp only[lB,ki,lC,pY,lu];refine⟨fun d hd=>?_,ht⟩;obtain⟨x,_,rfl⟩:=oA.mp hd;rfl
section
variable {n:Nat}{d:D}
abbrev Qd:FS:=(gn (jB (gx ji [(fZ 0),(fZ 2)])) gL)
theorem JO(hn:n<=4){x:D}(h:tB n x=true):Qd [ii n,some (d,false),some (x,false)]=some (.nx [ii n,some (d,false),some (x,false)]):=by
 obtain⟨t,rfl,ht⟩:=Pb h;exact(gp (kB (jU2 (J6 (by lia) ht) (jV rfl) (jV rfl)))).trans rfl
theorem nb4(hn:n<=4):nb (.int n) 0 4=true:=by simp[nb];lia
end
structure Sp(n:Nat)(L V:iZ):Prop where
 nd:V.Nodup
 tt: ∀t∈V,TT n t
 st:PV.st n∈V
 cl: ∀v∈V,∀t∈L,beh v t∈V
 mn: ∀P:List Int->Prop,P (PV.st n)->(∀v t,P v->t∈L->P (beh v t))-> ∀v∈V,P v
theorem Sp.perm{n:Nat}{L V W:iZ}(h:Sp n L V)(k:Sp n L W):V.Perm W:=
 (List.perm_ext_iff_of_nodup h.nd k.nd).mpr fun x=>⟨fun hx=>h.mn (· ∈W) k.st (fun v t hv ht=>k.cl v hv t ht) x hx,fun hx=>k.mn (· ∈V) h.st (fun v t hv ht=>h.cl v hv t ht) x hx⟩
theorem DY{a b:gO}(h:cD a=cD b):a=b:=by have:=nQ unC h;rwa [vD,vD] at this
structure SQ(n:Nat)(L V0 V R:iZ):Prop where
 nd:V.Nodup
 tt: ∀t∈V,TT n t
 up: ∀t∈V0,t∈V
 rv: ∀t∈R,t∈V
 or: ∀t∈V,t∈V0\/t∈R
 len:V.length=V0.length+R.length
 mn: ∀P:List Int->Prop,P (PV.st n)->(∀v t,P v->t∈L->P (beh v t))-> ∀v∈V,P v
theorem SQ.put{n:Nat}{L V0 V R:iZ}(h:SQ n L V0 V R){b t:gO}(hb:b∈V)(ht:t∈L)(aK:TT n t)(hm:beh b t∉V):SQ n L V0 (V++[beh b t]) (R++[beh b t]):=by
 have mem: ∀{x:gO} {l:iZ},x∈l++[beh b t]↔x∈l\/x=beh b t:=by simp
 refine⟨?_,fun x hx=>?_,fun x hx=>mem.mpr (.inl (h.up x hx)),fun x hx=>mem.mpr ((mem.mp hx).imp (h.rv x) id),fun x hx=>?_,by simp[h.len];lia,fun P p0 ps x hx=>?_⟩
 ·rw[<-show uF V (beh b t)=V++[beh b t] from gk hm];exact Fq h.nd
 ·rcases mem.mp hx with z|rfl
  ·exact h.tt x z
  ·exact(h.tt b hb).beh aK
 ·rcases mem.mp hx with z|rfl
  ·exact(h.or x z).imp id fun z=>mem.mpr (.inl z)
  ·exact .inr (mem.mpr (.inr rfl))
 ·rcases mem.mp hx with z|rfl
  ·exact h.mn P p0 ps x z
  ·exact ps b t (h.mn P p0 ps b hb) ht
section
variable {n:Nat}{L V0 V R:iZ}{d:D}
theorem Qc(hn:n<=4)(h:SQ n L V0 V R){b t:gO}(hb:b∈V)(ht:t∈L)(aK:TT n t)(c3 c7:Sl): ∃V' R',SQ n L V0 V' R'/\(∀x∈V,x∈V')/\beh b t∈V'/\fbI [ii n,some (d,false),kH V,c3,lsC R,some (enc b),some (enc t),c7]=some (.nx [ii n,some (d,false),kH V',c3,lsC R',some (enc b),some (enc t),some (enc (beh b t))]):=by
 have hl:=few hn h.nd h.tt
 let δ:Sl->Sl->Sl->Dn:=fun x y z=>[ii n,some (d,false),x,c3,y,some (enc b),some (enc t),z]
 have s1:iW 7 (gx mY [(fZ 5),(fZ 6)]) (δ (kH V) (lsC R) c7)=some (.nx (δ (kH V) (lsC R) (some (enc (beh b t))))):=je (i:=7) (jU2 (GA (by lia) (h.tt b hb) aK.len) (jV rfl) (jV rfl)) (show 7<8 by decide);have t1:fT (gC sd (fZ 7) (fZ 2)) (δ (kH V) (lsC R) (some (enc (beh b t))))=some (!decide (beh b t∈V),δ (kH V) (lsC R) (some (enc (beh b t)))):=si (o:=false) (jO (F8 V _) (jV rfl).r (jR rfl));by_cases hm:beh b t∈V
 ·exact⟨V,R,h,fun _ z=>z,hm,(gp s1).trans ((no _ (t1.trans (by rw[qb hm];rfl))).trans rfl)⟩
 ·have hv: ∀x y,jF 7 (δ x y (some (enc (beh b t))))=some (enc (beh b t),δ x y (some (enc (beh b t)))):=fun _ _=>rfl;have ha:uF V (beh b t)=V++[beh b t]:=gk hm;have hR:R.length<=384:=by have:=h.len;lia
  refine⟨_,_,h.put hb ht aK hm,fun x z=>vp _ z,by simp,(gp s1).trans ((gp ((Ew (t1.trans (by rw[nR hm];rfl))).trans ?_)).trans rfl)⟩;refine(gp (δ1:=δ (kH (V++[beh b t])) (lsC R) (some (enc (beh b t)))) (kB ((A0 (i:=2) (V:=V) rfl (hv _ _) (by lia)).trans (by rw[ha];rfl)))).trans ?_;exact(gp (δ1:=δ (kH (V++[beh b t])) (lsC (R++[beh b t])) (some (enc (beh b t)))) (kB (r:=(.non,false)) ((lW (i:=4) (l0:=R.map cD) (l:=R.map cD) (r:=enc (beh b t)) rfl (hv _ _) rfl (by rw[jd];simp;lia)).trans (by simp only[lsC,qV];rfl)))).trans rfl
theorem P5(hn:n<=4)(hs:sq d L)(hL: ∀t∈L,TT n t)(h:SQ n L V0 V R){b:gO}(hb:b∈V)(c3 c6 c7:Sl): ∃V' R' aU aT,SQ n L V0 V' R'/\(∀x∈V,x∈V')/\(∀t∈L,beh b t∈V')/\Oc [ii n,some (d,false),kH V,c3,lsC R,some (enc b),c6,c7]=some (.nx [ii n,some (d,false),kH V',c3,lsC R',some (enc b),aU,aT]):=by
 obtain⟨_,⟨V',R',x,y,hp,hu,_,hc,rfl⟩,e⟩:=mB (tg:=gB 6) (fb:=fbI) (fun l δ=> ∃V' R' x y,SQ n L V0 V' R'/\(∀x∈V,x∈V')/\(∀d∈l,∃t∈L,d=cD t)/\(∀t∈L,cD t∈l\/beh b t∈V')/\δ=[ii n,some (d,false),kH V',c3,lsC R',some (enc b),x,y]) (fun z l δ ⟨V1,R1,x,y,h1,hu,h2,h3,h4⟩=>by
  subst h4;obtain⟨t,ht,rfl⟩:=h2 z ic;obtain⟨V',R',k1,k2,k3,e⟩:=Qc (d:=d) hn h1 (hu b hb) ht (hL t ht) c3 y;refine⟨_,_,rfl,e,V',R',_,_,k1,fun x hx=>k2 x (hu x hx),fun q hq=>h2 q (hU _ hq),fun q hq=>?_,rfl⟩;rcases h3 q hq with z|z
  ·rcases jt.mp z with z|z
   ·rw[DY z];exact .inr k3
   ·exact .inl z
  ·exact .inr (k2 _ z)) (L.map cD) [ii n,some (d,false),kH V,c3,lsC R,some (enc b),c6,c7] ⟨V,R,c6,c7,h,fun _ z=>z,fun q hq=>by
   obtain⟨t,ht,rfl⟩:=oA.mp hq;exact⟨t,ht,rfl⟩,fun t ht=> .inl (qr ht),rfl⟩
 exact⟨V',R',x,y,hp,hu,fun t ht=>(hc t ht).resolve_left (by simp),(gp ((mq (JC hs rfl)).trans e)).trans rfl⟩
structure SW(n:Nat)(L V W:iZ):Prop where
 nd:V.Nodup
 tt: ∀t∈V,TT n t
 st:PV.st n∈V
 wv: ∀t∈W,t∈V
 cl: ∀v∈V,v∈W\/ ∀t∈L,beh v t∈V
 mn: ∀P:List Int->Prop,P (PV.st n)->(∀v t,P v->t∈L->P (beh v t))-> ∀v∈V,P v
theorem P9(hn:n<=4)(hs:sq d L)(hL: ∀t∈L,TT n t){W:iZ}(h:SW n L V W)(f:Bool)(c4 c5 c6 c7:Sl): ∃V' R' cG cF aU aT,SW n L V' R'/\V'.length=V.length+R'.length/\P8 [ii n,some (d,false),kH V,some (.lst (W.map cD),f),c4,c5,c6,c7]=some (.nx [ii n,some (d,false),kH V',some (.lst (R'.map cD),false),cG,cF,aU,aT]):=by
 let W3:Sl:=some (.lst (W.map cD),false)
 obtain⟨_,⟨V',R',x,y,z,hp,_,hc,rfl⟩,e⟩:=mB (tg:=gB 5) (fb:=Oc) (fun l δ=> ∃V' R' x y z,SQ n L V V' R'/\(∀d∈l,∃t∈W,d=cD t)/\(∀b∈W,cD b∈l\/ ∀t∈L,beh b t∈V')/\δ=[ii n,some (d,false),kH V',W3,lsC R',x,y,z]) (fun q l δ ⟨V1,R1,x,y,z,h1,h2,h3,h4⟩=>by
  subst h4;obtain⟨b,hb,rfl⟩:=h2 q ic;obtain⟨V',R',aU,aT,k1,k2,k3,e⟩:=P5 hn hs hL h1 (h1.up b (h.wv b hb)) W3 y z;refine⟨_,_,rfl,e,V',R',_,_,_,k1,fun q hq=>h2 q (hU _ hq),fun q hq=>?_,rfl⟩;rcases h3 q hq with z|z
  ·rcases jt.mp z with z|z
   ·rw[DY z];exact .inr k3
   ·exact .inl z
  ·exact .inr fun t ht=>k2 _ (z t ht)) (W.map cD) [ii n,some (d,false),kH V,W3,lsC [],c5,c6,c7] ⟨V,[],c5,c6,c7,⟨h.nd,h.tt,fun _ z=>z,by simp,fun _ z=> .inl z,by simp,h.mn⟩,fun q hq=>by
   obtain⟨t,ht,rfl⟩:=oA.mp hq;exact⟨t,ht,rfl⟩,fun t ht=> .inl (qr ht),rfl⟩
 refine⟨V',R',some (.lst (R'.map cD),false),x,y,z,⟨hp.nd,hp.tt,hp.up _ h.st,hp.rv,fun v hv=>?_,hp.mn⟩,hp.len,?_⟩
 ·rcases hp.or v hv with q|q
  ·rcases h.cl v q with w|w
   ·exact .inr ((hc v w).resolve_left (by simp))
   ·exact .inr fun t ht=>hp.up _ (w t ht)
  ·exact .inl q
 refine(gp (δ1:=[ii n,some (d,false),kH V,some (.lst (W.map cD),f),lsC [],c5,c6,c7]) rfl).trans ?_;exact(gp ((mq (ds:=W.map cD) (δ1:=[ii n,some (d,false),kH V,W3,lsC [],c5,c6,c7]) rfl).trans e)).trans rfl
theorem SW.fin(h:SW n L V []):Sp n L V:=⟨h.nd,h.tt,h.st,fun v hv=>(h.cl v hv).resolve_left (by simp),h.mn⟩
theorem HB(hn:n<=4)(hs:sq d L)(hL: ∀t∈L,TT n t): ∀(fuel:Nat) (V W:iZ) (f:Bool) (c4 c5 c6 c7:Sl),SW n L V W->386<fuel+V.length-> ∃V' c3 cG cF aU aT,Sp n L V'/\kg (JP (fZ 3)) P8 fuel [ii n,some (d,false),kH V,some (.lst (W.map cD),f),c4,c5,c6,c7]=some (.nx [ii n,some (d,false),kH V',c3,cG,cF,aU,aT])
 |0,V,W,f,c4,c5,c6,c7,h,hf=>by have:=few hn h.nd h.tt;lia
 |fuel+1,V,W,f,c4,c5,c6,c7,h,hf=>by
  have t1:=HL W f (ii n) (some (d,false)) (kH V) [c4,c5,c6,c7]
  cases hw:W.isEmpty with
  |true=>
   have:W=[]:=by simpa using hw
   subst this;exact⟨V,_,_,_,_,_,h.fin,zf t1⟩
  |false=>
   obtain⟨V',R',cG,cF,aU,aT,hp,hl,e⟩:=P9 hn hs hL h f c4 c5 c6 c7;have q0:=Eh (k:=fuel) (t1.trans (by rw[hw];rfl)) e;by_cases hR:R'=[]
   ·subst hR;have hv:=few hn h.nd h.tt
    cases fuel with
    |zero=>lia
    |succ fuel=>exact⟨V',_,_,_,_,_,hp.fin,q0.trans (zf (HL [] false _ _ _ _))⟩
   ·have:0<R'.length:=OI.mpr hR;obtain⟨V2,x3,x4,x5,x6,x7,h1,e2⟩:=HB hn hs hL fuel V' R' false cG cF aU aT hp (by lia);exact⟨V2,x3,x4,x5,x6,x7,h1,q0.trans e2⟩
theorem Ep(hn:n<=4)(nd:V.Nodup)(tt: ∀t∈V,TT n t): ∃ks,ks.Perm V/\D9 ks/\iP (V.map cD)=some (.lst (ks.map cD),true):=by
 have hl:=few hn nd tt;refine Kw ?_ (by lia);by_cases hz:n=0
 ·subst hz;have h1: ∀a∈V,a=[]:=fun a ha=>Md.mp (tt a ha).len;have h2:V.length<=1:=Du V [[]] nd fun a ha=>by rw[h1 a ha];simp
  match V,h1,h2 with
  |[],_,_=>rfl
  |[x],h1,_=>rw[h1 x (by simp)];rfl
  |_::_::_,_,h2=>simp at h2
 ·exact FE _ fun a ha e=>hz (by rw[<-(tt a ha).len,e];rfl)
theorem MS(hn:n<=4)(hs:sq d L)(hL: ∀t∈L,TT n t): ∃V ks,Sp n L V/\ks.Perm V/\D9 ks/\qP [(.int n,false),(d,false)]=some ((.lst (ks.map cD),true),[ii n,some (d,false)]):=by
 have s0: ∀δ:Dn,gx lX [(fZ 0)] (ii n::δ)=some (enc (st n),ii n::δ):=fun δ=>jU1 (HP (by lia)) (jV rfl);obtain⟨V,c3,c4,c5,c6,c7,hp,e⟩:=HB hn hs hL Mc [st n] [st n] true none none none none ⟨by simp,fun t ht=>by cases mN.mp ht;exact Mk n,by simp,fun _ z=>z,fun v hv=> .inl hv,fun P p0 _ v hv=>by cases mN.mp hv;exact p0⟩ (by show 386<100000+1;decide);obtain⟨ks,k1,k2,srt⟩:=Ep hn hp.nd hp.tt
 have srt':oW (.oth .set [] (V.map cD))=some (.lst (ks.map cD),true):=by
  show(if(V.map cD).all okS=true then iP (V.map cD) else none)=_;rw[gh (Dr V),srt]
 refine⟨V,ks,hp,k1,k2,pe (δ:=[ii n,some (d,false),kH V,c3,c4,c5,c6,c7]) ⟨rfl,by decide,rfl⟩ ?_⟩;refine(gp (δ1:=[ii n,some (d,false),kH [],none,none,none,none,none]) rfl).trans ?_;refine(gp (δ1:=[ii n,some (d,false),kH [st n],none,none,none,none,none]) (kB ((A0 (i:=2) (V:=[]) (t:=st n) rfl (s0 _) (by decide)).trans rfl))).trans ?_
 refine(gp (δ1:=[ii n,some (d,false),kH [st n],some (.lst ([st n].map cD),true),none,none,none,none]) (je (i:=3) (δ1:=[ii n,some (d,false),kH [st n],none,none,none,none,none]) (by
  rw[Il,show[gx lX [(fZ 0)]].map gc=[gc (gx lX [(fZ 0)])] from rfl,DN (iR (s0 _))];simp[jd]) (show 3<8 by decide))).trans ?_
 exact(gp e).trans (lG (nv (jC srt' (jR (i:=2) rfl))))
end
abbrev Od:FS:=(gn (iW 7 (gW (g1 nG) [(gc (kM [6] 1 (kD (jF 5)) (gB 1) kZ (lh (gx iu [(fZ 0),(fZ 1)]))))])) (gn (sIf (fT (gC pN (fZ 7) (fZ 3))) (gn (xM 3 (fC (.bl true)) (fZ 7)) (gn (jB (jg 4 (jF 7))) gL)) gL) gL))
abbrev Qb:FS:=(gn (iW 5 (PX.fPop 4)) (gn (oO (kD (jF 1)) (gB 6) Od) gL))
abbrev P4:FT:=(fT (gC gNe (fZ 4) (gc (jw []))))
structure SB(n:Nat)(L V0 F0 V F:iZ)(b:gO):Prop where
 nd:V.Nodup
 tt: ∀t∈V,TT n t
 up: ∀t∈V0,t∈V
 fv: ∀t∈F,t∈V
 f0: ∀t∈F0,t∈F
 cl: ∀v∈V,v∈F\/v=b\/ ∀t∈L,beh v t∈V
 len:V.length+F0.length=V0.length+F.length
 mn: ∀P:List Int->Prop,P (PV.st n)->(∀v t,P v->t∈L->P (beh v t))-> ∀v∈V,P v
section
variable {n:Nat}{L V0 F0 V F:iZ}{d:D}{b:gO}
theorem SB.put(h:SB n L V0 F0 V F b){t:gO}(hb:b∈V)(ht:t∈L)(aK:TT n t)(hm:beh b t∉V):SB n L V0 F0 (V++[beh b t]) (F++[beh b t]) b:=by
 have mem: ∀{x:gO} {l:iZ},x∈l++[beh b t]↔x∈l\/x=beh b t:=by simp
 refine⟨?_,fun x hx=>?_,fun x hx=>mem.mpr (.inl (h.up x hx)),fun x hx=>mem.mpr ((mem.mp hx).imp (h.fv x) id),fun x hx=>mem.mpr (.inl (h.f0 x hx)),fun x hx=>?_,by have:=h.len;simp;lia,fun P p0 ps x hx=>?_⟩
 ·rw[<-show uF V (beh b t)=V++[beh b t] from gk hm];exact Fq h.nd
 ·rcases mem.mp hx with z|rfl
  ·exact h.tt x z
  ·exact(h.tt b hb).beh aK
 ·rcases mem.mp hx with z|rfl
  ·rcases h.cl x z with q|q|q
   ·exact .inl (mem.mpr (.inl q))
   ·exact .inr (.inl q)
   ·exact .inr (.inr fun u hu=>mem.mpr (.inl (q u hu)))
  ·exact .inl (mem.mpr (.inr rfl))
 ·rcases mem.mp hx with z|rfl
  ·exact h.mn P p0 ps x z
  ·exact ps b t (h.mn P p0 ps b hb) ht
abbrev dD4(n:Nat)(d:D)(V F:iZ)(b:gO)(x y:Sl):Dn:=[ii n,some (d,false),some (enc (st n)),some (dC V,true),lsC F,some (enc b),x,y]
theorem LY(hn:n<=4)(h:SB n L V0 F0 V F b){t:gO}(hb:b∈V)(ht:t∈L)(aK:TT n t)(hF:F.length<=900)(y:Sl): ∃V' F',SB n L V0 F0 V' F' b/\(∀x∈V,x∈V')/\beh b t∈V'/\F'.length<=F.length+1/\Od (dD4 n d V F b (some (enc t)) y)=some (.nx (dD4 n d V' F' b (some (enc t)) (some (enc (beh b t))))):=by
 have hl:=few hn h.nd h.tt;have hbt:=h.tt b hb
 have c1:gW (g1 nG) [(gc (kM [6] 1 (kD (jF 5)) (gB 1) kZ (lh (gx iu [(fZ 0),(fZ 1)]))))] (dD4 n d V F b (some (enc t)) y)=some (enc (beh b t),dD4 n d V F b (some (enc t)) y):=by
  refine jC (a:= .lst ((b.map (led t)).map D.int)) rfl (jE (b:=true) (yp (caps:=[6]) (args:=[cD t]) (led t) rfl rfl rfl (fun x hx=>⟨false,?_⟩) (by rw[hbt.len];lia))).r;obtain⟨a1,b1,c1⟩:=Ml (hbt.sg hx);exact jU2 (LL t x a1 (by rw[aK.len];exact b1) (by rw[aK.len];exact c1)) (jV rfl) (jV rfl)
 have s1:=je (i:=7) c1 (show 7<8 by decide);have t1:fT (gC pN (fZ 7) (fZ 3)) (dD4 n d V F b (some (enc t)) (some (enc (beh b t))))=some (!decide (beh b t∈V),dD4 n d V F b (some (enc t)) (some (enc (beh b t)))):=si (o:=false) (jO (F9 _ _) (jV rfl).r (jR rfl));by_cases hm:beh b t∈V
 ·exact⟨V,F,h,fun _ z=>z,hm,by lia,(gp s1).trans ((no (δ:=dD4 n d V F b (some (enc t)) (some (enc (beh b t)))) _ (t1.trans (by rw[qb hm];rfl))).trans rfl)⟩
 ·have ha:uF V (beh b t)=V++[beh b t]:=gk hm;refine⟨_,_,h.put hb ht aK hm,fun x z=>vp _ z,by simp,by simp,(gp s1).trans ((gp (δ1:=dD4 n d (V++[beh b t]) (F++[beh b t]) b (some (enc t)) (some (enc (beh b t)))) ((Ew (δ1:=dD4 n d V F b (some (enc t)) (some (enc (beh b t)))) (t1.trans (by rw[nR hm];rfl))).trans ?_)).trans rfl)⟩;refine(gp (δ1:=dD4 n d (V++[beh b t]) F b (some (enc t)) (some (enc (beh b t)))) ?_).trans ?_
  ·rw[<-ha];exact L0 (i:=3) (b:=false) (o:= .slot 7) (cs:=V) (δ1:=dD4 n d V F b (some (enc t)) (some (enc (beh b t)))) (δ2:=dD4 n d V F b (some (enc t)) (some (enc (beh b t)))) rfl rfl rfl rfl rfl (by lia)
  ·exact(gp (δ1:=dD4 n d (V++[beh b t]) (F++[beh b t]) b (some (enc t)) (some (enc (beh b t)))) (kB (r:=(.non,false)) ((lW (i:=4) (l0:=F.map cD) (l:=F.map cD) (r:=enc (beh b t)) (δ1:=dD4 n d (V++[beh b t]) F b (some (enc t)) (some (enc (beh b t)))) rfl rfl rfl (by rw[jd];simp;lia)).trans (by simp only[dD4,lsC,qV];rfl)))).trans rfl
theorem LX(hn:n<=4)(hs:sq d L)(hL: ∀t∈L,TT n t)(dF:L.length<=10)(h:SW n L V (F++[b]))(hF:F.length<=800)(x5 x6 x7:Sl): ∃V' F' c5 c6 c7,SW n L V' F'/\V'.length+F.length=V.length+F'.length/\Qb [ii n,some (d,false),some (enc (st n)),some (dC V,true),lsC (F++[b]),x5,x6,x7]=some (.nx [ii n,some (d,false),some (enc (st n)),some (dC V',true),lsC F',c5,c6,c7]):=by
 have hb:b∈V:=h.wv b (by simp)
 have p1:PX.fPop 4 [ii n,some (d,false),some (enc (st n)),some (dC V,true),lsC (F++[b]),x5,x6,x7]=some (enc b,[ii n,some (d,false),some (enc (st n)),some (dC V,true),lsC F,x5,x6,x7]):=by
  unfold PX.fPop;simp[lsC]
 obtain⟨_,⟨V',F',x,y,hp,hu,_,hc,hl,rfl⟩,e⟩:=mB (tg:=gB 6) (fb:=Od) (fun l δ=> ∃V' F' x y,SB n L V F V' F' b/\(∀x∈V,x∈V')/\(∀d∈l,∃t∈L,d=cD t)/\(∀t∈L,cD t∈l\/beh b t∈V')/\F'.length+l.length<=F.length+L.length/\δ=dD4 n d V' F' b x y) (fun z l δ ⟨V1,F1,x,y,h1,hu,h2,h3,hl,h4⟩=>by
  subst h4;simp only[iJ] at hl;obtain⟨t,ht,rfl⟩:=h2 z ic;obtain⟨V',F',k1,k2,k3,k4,e⟩:=LY (d:=d) hn h1 (hu b hb) ht (hL t ht) (by lia) y;refine⟨_,_,rfl,e,V',F',_,_,k1,fun x hx=>k2 x (hu x hx),fun q hq=>h2 q (hU _ hq),fun q hq=>?_,by lia,rfl⟩;rcases h3 q hq with z|z
  ·rcases jt.mp z with z|z
   ·rw[DY z];exact .inr k3
   ·exact .inl z
  ·exact .inr (k2 _ z)) (L.map cD) (dD4 n d V F b x6 x7) ⟨V,F,x6,x7,⟨h.nd,h.tt,fun _ z=>z,fun t z=>h.wv t (vp _ z),fun _ z=>z,fun v hv=>by
   rcases h.cl v hv with q|q
   ·rcases nS.mp q with q|q
    ·exact .inl q
    ·exact .inr (.inl (mN.mp q))
   ·exact .inr (.inr q),rfl,h.mn⟩,fun _ z=>z,fun q hq=>by
   obtain⟨t,ht,rfl⟩:=oA.mp hq;exact⟨t,ht,rfl⟩,fun t ht=> .inl (qr ht),by simp,rfl⟩
 have hcb: ∀t∈L,beh b t∈V':=fun t ht=>(hc t ht).resolve_left (by simp);refine⟨V',F',some (enc b),x,y,⟨hp.nd,hp.tt,hu _ h.st,hp.fv,fun v hv=>?_,hp.mn⟩,hp.len,?_⟩
 ·rcases hp.cl v hv with q|rfl|q
  ·exact .inl q
  ·exact .inr hcb
  ·exact .inr q
 exact(gp (je (i:=5) p1 (show 5<8 by decide))).trans ((gp ((mq (JC hs rfl)).trans e)).trans rfl)
theorem HC(hn:n<=4)(hs:sq d L)(hL: ∀t∈L,TT n t)(dF:L.length<=10): ∀(fuel:Nat) (V F:iZ) (c5 c6 c7:Sl),SW n L V F->F.length<=V.length->F.length+(384-V.length)<fuel-> ∃V' cG cF aU aT,Sp n L V'/\kg P4 Qb fuel [ii n,some (d,false),some (enc (st n)),some (dC V,true),lsC F,c5,c6,c7]=some (.nx [ii n,some (d,false),some (enc (st n)),some (dC V',true),cG,cF,aU,aT])
 |0,_,_,_,_,_,_,_,h=>by lia
 |fuel+1,V,F,c5,c6,c7,h,hle,hf=>by
  have hv:=few hn h.nd h.tt
  have t1:P4 [ii n,some (d,false),some (enc (st n)),some (dC V,true),lsC F,c5,c6,c7]=some (!decide (F=[]),[ii n,some (d,false),some (enc (st n)),some (dC V,true),lsC F,c5,c6,c7]):=
   si (o:=false) (mC (o1:= .slot 4) (o2:= .val (.lst [],true)) (δ2:=[ii n,some (d,false),some (enc (st n)),some (dC V,true),lsC F,c5,c6,c7]) rfl (iR (by simp[jd])) rfl rfl (EY F))
  by_cases l6:F=[]
  ·rw[qb l6] at t1;subst l6;exact⟨V,_,_,_,_,h.fin,zf t1⟩
  ·rw[nR l6] at t1;have e:=List.dropLast_concat_getLast l6;have hlen:F.dropLast.length+1=F.length:=by rw[Hf];have:=OI.mpr l6;lia
   rw[<-e] at h;obtain⟨V',F',d5,d6,d7,k1,k2,b1⟩:=LX (d:=d) hn hs hL dF h (by lia) c5 c6 c7;rw[e] at b1;have hv':=few hn k1.nd k1.tt;obtain⟨V2,x4,x5,x6,x7,m1,m2⟩:=HC hn hs hL dF fuel V' F' d5 d6 d7 k1 (by lia) (by lia);exact⟨V2,x4,x5,x6,x7,m1,(Eh t1 b1).trans m2⟩
theorem EM(hn:n<=4)(hs:sq d L)(hL: ∀t∈L,TT n t)(dF:L.length<=10): ∃V ks,Sp n L V/\ks.Perm V/\D9 ks/\km [(.int n,false),(d,false)]=some ((.lst (ks.map cD),true),[ii n,some (d,false)]):=by
 obtain⟨V,c4,c5,c6,c7,hp,e⟩:=HC hn hs hL dF Mc [st n] [st n] none none none ⟨by simp,fun t ht=>by cases mN.mp ht;exact Mk n,by simp,fun _ z=>z,fun v hv=> .inl hv,fun P p0 _ v hv=>by cases mN.mp hv;exact p0⟩ (by simp) (by show 1+(384-1)<100000;decide);obtain⟨ks,k1,k2,srt⟩:=Ep hn hp.nd hp.tt;refine⟨V,ks,hp,k1,k2,pe (δ:=[ii n,some (d,false),some (enc (st n)),some (dC V,true),c4,c5,c6,c7]) ⟨rfl,by decide,rfl⟩ ?_⟩;refine(gp (je (i:=2) (δ1:=[ii n,some (d,false),none,none,none,none,none,none]) (pd (os:=[.val (.int 1,false),.val (.int ((n:Int)+1),false)]) rfl rfl (H9 n (by lia))) (show 2<8 by decide))).trans ?_;refine(gp (δ1:=[ii n,some (d,false),some (enc (st n)),some (dC [st n],true),none,none,none,none]) (je (i:=3) (δ1:=[ii n,some (d,false),some (enc (st n)),none,none,none,none,none]) (r:=(dC [st n],true)) ?_ (show 3<8 by decide))).trans ?_
 ·show(if(wo (cD (st n))).isSome=true then _ else none)=_;rw[gh (zJ (st n))];rfl
 refine(gp (δ1:=[ii n,some (d,false),some (enc (st n)),some (dC [st n],true),lsC [st n],none,none,none]) (je (i:=4) (δ1:=[ii n,some (d,false),some (enc (st n)),some (dC [st n],true),none,none,none,none]) (by
  rw[Il];rfl) (show 4<8 by decide))).trans ?_
 exact(gp e).trans (lG (nv (jC (a:=dC V) srt (jR (i:=3) rfl))))
theorem Q5(hn:n<=4)(hs:sq d L)(hL: ∀t∈L,TT n t): ∃V ks,Sp n L V/\ks.Perm V/\D9 ks/\jb [(.int n,false),(d,false)]=some ((.lst (ks.map cD),true),[ii n,some (d,false)]):=by
 obtain⟨V,ks,hp,k1,k2,es⟩:=MS hn hs hL
 obtain⟨_,⟨x,_,rfl⟩,e⟩:=mB (tg:=gB 2) (fb:=Qd) (fun l δ=> ∃x,(∀y∈l,∃t∈L,y=cD t)/\δ=[ii n,some (d,false),x]) (fun y l δ ⟨x,h1,h⟩=>by
  subst h;obtain⟨t,ht,rfl⟩:=h1 y ic;exact⟨_,_,rfl,JO hn (OQ (hL t ht)),_,fun z hz=>h1 z (hU _ hz),rfl⟩) (L.map cD) [ii n,some (d,false),none] ⟨none,fun y hy=>by obtain⟨t,ht,rfl⟩:=oA.mp hy;exact⟨t,ht,rfl⟩,rfl⟩
 have s1:jB (gx js [(fZ 0),(gc (fC (.int 0))),(gc (fC (.int 4)))]) [ii n,some (d,false),none]=some (.nx [ii n,some (d,false),none]):=kB (jU3 (Om (nb4 hn)) (jV rfl) (jE rfl) (jE rfl));exact⟨V,ks,hp,k1,k2,pe (δ:=[ii n,some (d,false),x]) ⟨rfl,by decide,rfl⟩ ((gp s1).trans ((gp ((mq (JC hs rfl)).trans e)).trans (lG (nv (jU2 es (jV rfl) (jV rfl))))))⟩
end
theorem Pg{ev:EvF}{l:List D}{d:D}(hd:d= .lst l\/d= .tup l)(h: ∀d∈l,BR ev d)(hl:l.length<=1000):BR (evF 2 2 [] (iH ev)) d:=fun b c=>by
 obtain⟨x',y',e⟩:=Fl (ev:=ev) l [] none none h (by simp;lia)
 have hc:kM [] 2 (tQ (fZ 0) (fZ 1)) (vG [(gB 0),(gB 1)]) kZ (lh (gx ev [(fZ 0),(fZ 1)])) [some (d,b),some (d,c)]=some ((.lst (l.map fun _=> .bl true),true),[some (d,b),some (d,c)]):=by
  unfold kM;rw[show tQ (fZ 0) (fZ 1) [some (d,b),some (d,c)]=some ((l.zip l).map fun p=> .tup [p.1,p.2],[some (d,b),some (d,c)]) from by rcases hd with rfl|rfl<;>rfl];simp only[ip,oH,FL,gE,rk,gS,qx,List.replicate_succ,List.replicate_zero];rw[e];rfl
 have ha:gW (g1 Gq) [(gc (kM [] 2 (tQ (fZ 0) (fZ 1)) (vG [(gB 0),(gB 1)]) kZ (lh (gx ev [(fZ 0),(fZ 1)]))))] [some (d,b),some (d,c)]=some ((.bl true,false),[some (d,b),some (d,c)]):=
  jC (a:= .lst (l.map fun _=> .bl true)) (by rw[xq (fun _=>true)];simp) (jE hc).r
 have hL:gC gEq (gc (gW (g1 uC) [(fZ 0)])) (gc (gW (g1 uC) [(fZ 1)])) [some (d,b),some (d,c)]=some ((.bl true,false),[some (d,b),some (d,c)]):=by
  rcases hd with rfl|rfl<;>simp
 have ho:gH [(d,b),(d,c)] [some (d,b),some (d,c)]=[some (d,b),some (d,c)]:=by cases b<;>cases c<;>rfl
 have:=pe (args:=[(d,b),(d,c)]) (np:=2) (n:=2) (asg:=[]) (f:=iH ev) (δ:=[some (d,b),some (d,c)]) (r:=(.bl true,false)) ⟨rfl,by decide,by simp⟩ (by
  refine lG ((Ew (δ1:=[some (d,b),some (d,c)]) (by rcases hd with rfl|rfl<;>rfl)).trans ?_);refine(gp ((A1 (δ1:=[some (d,b),some (d,c)]) ?_).trans rfl)).trans (lG (nv ((Of hL).trans ha)));rcases hd with rfl|rfl<;>simp[isT])
 rwa [ho] at this
theorem MX(ev:EvF)(i:Int):BR (evF 2 2 [] (iH ev)) (.int i):=fun b c=>by
 cases b<;>cases c<;>simp[iH,evF,gH,isT]
theorem MY(L:iZ)(hL:L.length<=1000)(h: ∀t∈L,t.length<=1000):BR (gZ RD) (.lst (L.map cD)):=
 Pg (ev:=gZ 5) (.inl rfl) (fun d hd=>by
  obtain⟨t,ht,rfl⟩:=oA.mp hd
  exact Pg (ev:=gZ 4) (.inr rfl) (fun d hd=>by
   obtain⟨i,_,rfl⟩:=oA.mp hd;exact MX (gZ 3) i) (by simpa using h t ht)) (by simpa using hL)
theorem II{B:Nat}: ∀ts:List Str,(∀t∈ts,t.length<=B)->piled ts<=ts.length*(B+2)
 |[],_=>by simp[piled]
 |t::ts,h=>by
  have:=II ts fun x hx=>h x (hU _ hx);have:=h t ic;rw[piled_cons,iJ,uV];lia
theorem HK{B:Nat}(ts:gJ)(h: ∀t∈ts,t.length<=B):(tupleText ts).length<=ts.length*(B+2)+3:=by
 unfold tupleText;rw[uS,uS];have e1:((("(":String):Str)).length=1:=rfl;have e3:(((if ts.length==1 then ",)" else ")":String):Str)).length<=2:=by split<;>decide
 rw[e1];by_cases hz:ts=[]
 ·subst hz;have z0:(Str.join ", " ([]:List Str)).length=0:=rfl;simp only[rm,Nat.zero_mul] at e3 ⊢
  lia
 ·have:=join_length_add ts hz;have:=II ts h
  lia
theorem N1{B:Nat}(ts:gJ)(h: ∀t∈ts,t.length<=B):(listText ts).length<=ts.length*(B+2)+2:=by
 unfold listText
 have go: ∀(ts:gJ) (k:Nat) (acc:Str),(∀t∈ts,t.length<=B)->(textFrom k acc ts).length<=acc.length+ts.length*(B+2):=fun ts=>by
  induction ts with
  |nil=>intro k acc _;simp[textFrom]
  |cons t ts ih=>
   intro k acc h;rw[textFrom,iJ,uV];refine kx (ih _ _ fun x hx=>h x (hU _ hx)) ?_;have:=h t ic;rw[uS,uS];have e:(((if k>0 then ", " else "":String):Str)).length<=2:=by split<;>decide
   lia
 have:=go ts 0 "[" h;rw[uS];have e1:((("[":String):Str)).length=1:=rfl;have e2:((("]":String):Str)).length=1:=rfl
 lia
theorem A6: ∀t:List Int,pyL (t.map .int)=some (t.map .int)
 |[]=>rfl
 |x::t=>by rw[iw,pyL,A6 t];rfl
theorem Dd: ∀L:List (List Int),pyL (L.map cD)=some (L.map fun t=> .tuple (t.map .int))
 |[]=>rfl
 |t::L=>by rw[iw,pyL,Dd L,pyD,A6];rfl
theorem uJ{α:Type}(f:α->PyData): ∀l:List α,PyData.shownAll (l.map f)=l.map fun x=>(f x).shown
 |[]=>rfl
 |x::l=>by rw[iw,PyData.shownAll,uJ f l];rfl
theorem zm{α:Type}(f:α->PyData): ∀l:List α,(∀x∈l,(f x).showable=true)->PyData.showableAll (l.map f)=true
 |[],_=>rfl
 |x::l,h=>by rw[iw,PyData.showableAll,h x ic,zm f l fun y hy=>h y (hU _ hy)];rfl
theorem zP{α:Type}(f:α->PyData): ∀l:List α,(∀x∈l,(f x).hasDict=false)->PyData.hasDictAll (l.map f)=false
 |[],_=>rfl
 |x::l,h=>by rw[iw,PyData.hasDictAll,h x ic,zP f l fun y hy=>h y (hU _ hy)];rfl
theorem zU{α:Type}{k:Nat}(f:α->PyData): ∀l:List α,(∀x∈l,(f x).depth<=k)->PyData.depthAll (l.map f)<=k
 |[],_=>by simp[PyData.depthAll]
 |x::l,h=>by rw[iw,PyData.depthAll];exact Nat.max_le.mpr ⟨h x ic,zU f l fun y hy=>h y (hU _ hy)⟩
theorem KC{n:Nat}{d:D}{L:iZ}(hn:n<=4)(hs:sq d L)(hL: ∀t∈L,TT n t)(hl:L.length<=10): ∃z,ug d=some (.str z,false):=by
 have bd: ∀t∈L,∀x∈t,x.natAbs.log2<1920:=fun t ht x hx=>by
  have:=(hL t ht).sg hx;unfold SG ab at this;refine Cf (Nat.log2_le_self _) ?_;split at this<;>lia
 have s1: ∀t∈L,(PyData.tuple (t.map .int)).showable=true:=fun t ht=>by
  rw[PyData.showable];exact zm _ _ fun x hx=>by rw[PyData.showable];exact qb (bd t ht x hx)
 have s2: ∀t∈L,(PyData.tuple (t.map .int)).hasDict=false:=fun t _=>by
  rw[PyData.hasDict];exact zP _ _ fun x _=>by rw[PyData.hasDict]
 have s3: ∀t∈L,(PyData.tuple (t.map .int)).depth<=5:=fun t _=>by
  rw[PyData.depth];have:=zU (k:=1) PyData.int t (fun x _=>by simp[PyData.depth]);lia
 have s4: ∀t∈L,(PyData.tuple (t.map .int)).shown.length<=8000:=fun t ht=>by
  rw[PyData.shown,uJ];refine kx (HK (B:=1921) _ fun y hy=>?_) ?_
  ·obtain⟨x,hx,rfl⟩:=oA.mp hy;rw[PyData.shown,PySem.ofString_length];exact int_text_length_le (k:=1920) (by decide) (bd t ht x hx)
  ·rw[iq,(hL t ht).len];lia
 have sz:=jd
 have hm: ∀y∈L.map (fun t=>(PyData.tuple (t.map .int)).shown),y.length<=8000:=fun y hy=>by
  obtain⟨t,ht,rfl⟩:=oA.mp hy;exact s4 t ht
 have m10:L.length*8002<=80020:=Nat.mul_le_mul_right 8002 hl
 have fin: ∀(y:PyData) (e:pyD d=some y),y.showable=true->y.hasDict=false->y.depth<=20->y.shown.length<=sizeLine-> ∃z,ug d=some (.str z,false):=fun y e h1 h2 h3 h4=>by
  refine⟨y.shown,?_⟩;rcases hs with rfl|rfl
  all_goals
   show(pyD _).bind _=_;rw[e];exact gh ⟨h1,h2,h3,h4⟩
 have q1:=zm _ L s1;have q2:=zP _ L s2;have q3:=zU (k:=5) _ L s3;rcases hs with rfl|rfl
 ·refine fin (.list (L.map fun t=> .tuple (t.map .int))) (by rw[pyD,Dd];rfl) (by rw[PyData.showable];exact q1) (by rw[PyData.hasDict];exact q2) (by rw[PyData.depth];lia) ?_;rw[PyData.shown,uJ];refine kx (N1 (B:=8000) _ hm) ?_;rw[iq];lia
 ·refine fin (.tuple (L.map fun t=> .tuple (t.map .int))) (by rw[pyD,Dd];rfl) (by rw[PyData.showable];exact q1) (by rw[PyData.hasDict];exact q2) (by rw[PyData.depth];lia) ?_;rw[PyData.shown,uJ];refine kx (HK (B:=8000) _ hm) ?_;rw[iq];lia
abbrev Qa:FS:=(gn (iW 4 (gx jH [(fZ 0),(fZ 1)])) (gn (sIf (ym (fT (gC gNe (fZ 2) (gc (jw [])))) (fT (gC gEq (gc (gx gF [(fZ 0),(gc (fC (.int 3)))])) (gc (fC (.int 0)))))) (gn (iW 4 (gC gIx (gc (gx km [(fZ 1),(gc (By (fZ 2) (gc (fC (.int 1)))))])) (gc (kh pV (gc (fC (.int 1))))))) gL) gL) (gn (jB (jg 2 (jF 4))) gL)))
theorem LN{ks:iZ}(h:0<ks.length): ∃t∈ks,gIx (.lst (ks.map cD)) (.int (-1))=some (cD t,false):=by
 have hl:ks.length-1<ks.length:=by lia
 refine⟨ks[ks.length-1],jA hl,?_⟩
 have e:ixN (ks.map cD).length (-1)=some (ks.length-1):=by
  unfold ixN;rw[iq,gk (by decide),gh (by lia)]
  congr 1;lia
 show(atI (ks.map cD) (-1)).map _=_;unfold atI;rw[e];simp[iN,il hl]
theorem LW{n:Nat}(hn:n<=4)(a:Int)(b:Bool){L:iZ}(hL: ∀t∈L,TT n t)(hl:L.length<=9)(x3 x4:Sl): ∃a' t eE,TT n t/\Qa [stt a b,ii n,lsC L,x3,x4]=some (.nx [stt a' b,ii n,lsC (L++[t]),x3,eE]):=by
 obtain⟨a1,t,ht,e1⟩:=CS a b n (by lia);have ht:=Kt ht
 let δ:Int->Sl->Dn:=fun a x=>[stt a b,ii n,lsC L,x3,x]
 have s1:iW 4 (gx jH [(fZ 0),(fZ 1)]) (δ a x4)=some (.nx (δ a1 (some (enc t)))):=je (i:=4) (δ1:=δ a1 x4) (jG (δ1:=δ a x4) (os:=[.slot 0,.slot 1]) (args:=[(.lst [.int a,.bl b],true),(.int n,false)]) rfl rfl (show([0]:List Nat).Nodup by decide) e1) (show 4<5 by decide);have app: ∀(a:Int) (t:gO),gn (jB (jg 2 (jF 4))) gL (δ a (some (enc t)))=some (.nx [stt a b,ii n,lsC (L++[t]),x3,some (enc t)]):=fun a t=>(gp (kB (r:=(.non,false)) ((lW (i:=2) (l0:=L.map cD) (l:=L.map cD) (r:=enc t) (δ1:=δ a (some (enc t))) rfl rfl rfl (by rw[jd];simp;lia)).trans (by simp only[lsC,qV];rfl)))).trans rfl
 have t1:fT (gC gNe (fZ 2) (gc (jw []))) (δ a1 (some (enc t)))=some (!decide (L=[]),δ a1 (some (enc t))):=
  si (o:=false) (mC (o1:= .slot 2) (o2:= .val (.lst [],true)) (δ2:=δ a1 (some (enc t))) rfl (iR (by simp[jd])) rfl rfl (EY L))
 by_cases hz:L=[]
 ·refine⟨a1,t,_,ht,(gp s1).trans ((gp ((A1 (δ1:=δ a1 (some (enc t))) ?_).trans rfl)).trans (app a1 t))⟩;rw[EA,t1.trans (by rw[qb hz])];rfl
 ·obtain⟨v,a2,v0,v1,e2⟩:=zj a1 b 3 (by lia) (by lia)
  have t2:ym (fT (gC gNe (fZ 2) (gc (jw [])))) (fT (gC gEq (gc (gx gF [(fZ 0),(gc (fC (.int 3)))])) (gc (fC (.int 0))))) (δ a1 (some (enc t)))=some (decide (v=0),δ a2 (some (enc t))):=by
   rw[EA,t1.trans (by rw[nR hz])];exact si (o:=false) (mC (o1:= .val (.int v,false)) (o2:= .val (.int 0,false)) (δ1:=δ a2 (some (enc t))) (iR (e2 _ [ii n,lsC L,x3,some (enc t)] (.val (.int 3,false)) rfl rfl)) rfl rfl rfl ((Pl _ _).trans (by rw[Af])))
  by_cases hv:v=0
  ·obtain⟨V,ks,hp,k1,_,e3⟩:=EM (d:= .lst ((L.take 1).map cD)) (L:=L.take 1) hn (.inl rfl) (fun t ht=>hL t (ly ht)) (by rw[ou];lia);obtain⟨u,hu,e4⟩:=LN (ks:=ks) (by have:=hp.st;rw[<-k1.mem_iff] at this;exact List.length_pos_of_mem this);refine⟨a2,u,_,hp.tt u (k1.mem_iff.mp hu),(gp s1).trans ((gp (δ1:=δ a2 (some (enc u))) ((Ew (t2.trans (by rw[qb hv]))).trans ((gp (je (i:=4) (δ1:=δ a2 (some (enc t))) (jO e4 (jE (b:=true) (jU2 e3 (jV rfl) (jE (b:=true) ?_))).r (jE rfl).r) (show 4<5 by decide))).trans rfl))).trans (app a2 u))⟩;show some ((D.lst (PX.Aq (L.map cD) none (some ((1:Nat):Int))),true),δ a2 (some (enc t)))=_;rw[Oh,List.map_take]
  ·exact⟨a2,t,_,ht,(gp s1).trans ((gp ((A1 (t2.trans (by rw[nR hv]))).trans rfl)).trans (app a2 t))⟩
theorem Jm{n:Nat}(hn:n<=4)(a:Int)(b:Bool): ∃(a':Int) (d:D) (L:iZ),sq d L/\(∀t∈L,TT n t)/\L.length<=4/\mE [(.lst [.int a,.bl b],true),(.int n,false)]=some ((d,false),[stt a' b,ii n]):=by
 obtain⟨m,a1,m0,m1,e1⟩:=zj a b 5 (by lia) (by lia);obtain⟨mn,rfl⟩: ∃mn:Nat,m=mn:=⟨m.toNat,by lia⟩
 obtain⟨_,⟨a2,L,x3,x4,hL,hl,rfl⟩,e⟩:=mB (tg:=gB 3) (fb:=Qa) (fun ds δ=> ∃a L x3 x4,(∀t∈L,TT n t)/\L.length+ds.length<=4/\δ=[stt a b,ii n,lsC L,x3,x4]) (fun z ds δ ⟨a,L,x3,x4,h1,h2,h⟩=>by
  subst h;simp only[iJ] at h2;obtain⟨a',t,eE,ht,e⟩:=LW hn a b h1 (by lia) (some (z,false)) x4;refine⟨_,_,rfl,e,a',L++[t],_,eE,fun y hy=>?_,by simp;lia,rfl⟩;rcases nS.mp hy with q|q
  ·exact h1 y q
  ·cases mN.mp q;exact ht) (iA 0 mn) [stt a1 b,ii n,lsC [],none,none] ⟨a1,[],none,none,by simp,by simp[iA];lia,rfl⟩
 obtain⟨v,a3,v0,v1,e2⟩:=zj a2 b 2 (by lia) (by lia);have hlen:L.length<=4:=by simpa using hl
 let d:D:=if v=0 then .lst (L.map cD) else .tup (L.map cD)
 refine⟨a3,d,L,?_,hL,hlen,?_⟩
 ·simp only[d];split
  ·exact .inl rfl
  ·exact .inr rfl
 refine pe (δ:=[stt a3 b,ii n,some (.lst (L.map cD),false),x3,x4]) ⟨rfl,by decide,rfl⟩ ?_;refine(gp (δ1:=[stt a b,ii n,lsC [],none,none]) rfl).trans ?_;refine(gp ((mq (uQ (o:= .val (.int mn,false)) (δ1:=[stt a1 b,ii n,lsC [],none,none]) (iR (e1 _ [ii n,lsC [],none,none] (.val (.int 5,false)) rfl rfl)) rfl (by lia))).trans e)).trans ?_;refine lG (nv (mC (o1:= .val (.lst [.lst (L.map cD),.tup (L.map cD)],true)) (o2:= .val (.int v,false)) (δ1:=[stt a2 b,ii n,some (.lst (L.map cD),false),x3,x4]) (iR ?_) (iR (e2 _ [ii n,some (.lst (L.map cD),false),x3,x4] (.val (.int 2,false)) rfl rfl)) rfl rfl ?_))
 ·refine E7 (os:=[.val (.lst (L.map cD),false),.val (.tup (L.map cD),false)]) (tX rfl (iR (jC rfl (jR (i:=2) rfl)))) rfl (zp (by show 2<=10000;decide))
 ·simp only[d];rcases(show v=0\/v=1 by lia) with rfl|rfl<;>rfl
abbrev Mw:FS:=(gn (iW 8 (gx jb [(fZ 3),(fZ 4)])) (gn (sIf (tU (mD (fT (gx (gZ RD) [(fZ 8),(fZ 6)]))) (fT (gC gNe (gc (gW (g1 ug) [(fZ 4)])) (fZ 5)))) (gn (jJ (fC (.bl false))) gL) gL) (gn (jB (jg 8 (oh []))) gL)))
abbrev Mx:FS:=(gn (iW 2 (gx jP [(fZ 0),(fZ 1)])) (gn (iW 3 (gC gIx (gc (jw [(gx gF [(fZ 2),(gc (fC (.int 5)))]),(fC (.int 3))])) (gc (gx gF [(fZ 2),(gc (fC (.int 2)))])))) (gn (iW 4 (gx mE [(fZ 2),(fZ 3)])) (gn (iW 5 (gW (g1 ug) [(fZ 4)])) (gn (iW 6 (gx km [(fZ 3),(fZ 4)])) (gn (oO (zM (gc (fC (.int 2)))) (gB 7) Mw) gL))))))
theorem JN(ns:gO)(k:Nat)(c2 c3 c4 c5 c6 c7 c8:Sl): ∃d2 d3 d4 d5 d6 d7 d8,Mx [some (.lst (ns.map .int),false),ii k,c2,c3,c4,c5,c6,c7,c8]=some (.nx [some (.lst (ns.map .int),false),ii k,d2,d3,d4,d5,d6,d7,d8]):=by
 let z0:Sl:=some (.lst (ns.map .int),false)
 obtain⟨a,b,e0⟩:=HQ ns k;obtain⟨v,a1,v0,v1,e1⟩:=AF a b 5 (by lia) (by lia);obtain⟨w,a2,w0,w1,e2⟩:=AF a1 b 2 (by lia) (by lia);obtain⟨n,bG⟩: ∃n:Nat,(if w=0 then v else 3)=n:=⟨(if w=0 then v else 3).toNat,by split<;>lia⟩
 have hn:n<=4:=by split at bG<;>lia
 obtain⟨a3,d,L,hs,hL,hl,e3⟩:=Jm hn a2 b;obtain⟨z,e4⟩:=KC hn hs hL (by lia);obtain⟨V,ks,hp,k1,k2,e5⟩:=EM hn hs hL (by lia);obtain⟨V',v5,bh,k1',eN,e6⟩:=Q5 hn hs hL;have hk:v5=ks:=HS (k1'.trans ((bh.perm hp).trans k1.symm)) eN k2;subst hk;have hv:=few hn hp.nd hp.tt;have hkl:v5.length<=384:=by rw[k1.length_eq];exact hv
 have same:=MY v5 (by lia) (fun t ht=>by rw[(hp.tt t (k1.mem_iff.mp ht)).len];lia) true true
 let δ:Sl->Sl->Dn:=fun x y=>[z0,ii k,stt a3 b,ii n,some (d,false),some (.str z,false),lsC v5,x,y]
 obtain⟨_,⟨x,y,rfl⟩,ef⟩:=mB (tg:=gB 7) (fb:=Mw) (fun _ δ'=> ∃x y,δ'=δ x y) (fun q ds δ' ⟨x,y,h⟩=>by
  subst h;refine⟨_,δ (some (q,false)) (some (.lst (v5.map cD++[cD []]),true)),rfl,?_,_,_,rfl⟩;refine(gp (δ1:=δ (some (q,false)) (lsC v5)) (je (i:=8) (δ1:=δ (some (q,false)) y) (jU2 e6 (jV rfl) (jV rfl)) (show 8<9 by decide))).trans ?_;have t1:mD (fT (gx (gZ RD) [(fZ 8),(fZ 6)])) (δ (some (q,false)) (lsC v5))=some (false,δ (some (q,false)) (lsC v5)):=wG (b:=true) (si (o:=false) ((jG (δ1:=δ (some (q,false)) (lsC v5)) (os:=[.slot 8,.slot 6]) (args:=[(.lst (v5.map cD),true),(.lst (v5.map cD),true)]) rfl rfl (show([8,6]:List Nat).Nodup by decide) same).trans rfl));refine(no (δ:=δ (some (q,false)) (lsC v5)) _ ((Oe t1).trans (RW (a:= .str z) rfl (by simp[D.dep]) (jE (jC e4 (jV rfl).r)).r (jV rfl).r))).trans ?_;exact(gp (kB (r:=(.non,false)) ((lW (i:=8) (l0:=v5.map cD) (l:=v5.map cD) (r:=(cD [],false)) (δ1:=δ (some (q,false)) (lsC v5)) rfl (by simp) rfl (by rw[jd];simp;lia)).trans rfl))).trans rfl) (iA 0 2) (δ c7 c8) ⟨c7,c8,rfl⟩
 refine⟨stt a3 b,ii n,some (d,false),some (.str z,false),lsC v5,x,y,?_⟩;refine(gp (je (i:=2) (δ1:=[z0,ii k,c2,c3,c4,c5,c6,c7,c8]) (jU2 e0 (jV rfl) (jV rfl)) (show 2<9 by decide))).trans ?_;refine(gp (δ1:=[z0,ii k,stt a2 b,ii n,c4,c5,c6,c7,c8]) (je (i:=3) (δ1:=[z0,ii k,stt a2 b,c3,c4,c5,c6,c7,c8]) (mC (o1:= .val (.lst [.int v,.int 3],true)) (o2:= .val (.int w,false)) (δ1:=[z0,ii k,stt a1 b,c3,c4,c5,c6,c7,c8]) (iR (E7 (fs:=[(gx gF [(fZ 2),(gc (fC (.int 5)))]),(fC (.int 3))]) (os:=[.val (.int v,false),.val (.int 3,false)]) (ds:=[.int v,.int 3]) (tX (iR (e1 _ z0 (ii k) [c3,c4,c5,c6,c7,c8] (.val (.int 5,false)) rfl rfl)) rfl) rfl (zp (by show 2<=10000;decide)))) (iR (e2 _ z0 (ii k) [c3,c4,c5,c6,c7,c8] (.val (.int 2,false)) rfl rfl)) rfl rfl (z:=(.int n,false)) ?_) (show 3<9 by decide))).trans ?_
 ·rw[<-bG];rcases(show w=0\/w=1 by lia) with rfl|rfl<;>rfl
 refine(gp (δ1:=[z0,ii k,stt a3 b,ii n,some (d,false),c5,c6,c7,c8]) (je (i:=4) (δ1:=[z0,ii k,stt a3 b,ii n,c4,c5,c6,c7,c8]) (jG (δ1:=[z0,ii k,stt a2 b,ii n,c4,c5,c6,c7,c8]) (os:=[.slot 2,.slot 3]) (args:=[(.lst [.int a2,.bl b],true),(.int n,false)]) rfl rfl (show([2]:List Nat).Nodup by decide) e3) (show 4<9 by decide))).trans ?_;refine(gp (je (i:=5) (δ1:=[z0,ii k,stt a3 b,ii n,some (d,false),c5,c6,c7,c8]) (jC e4 (jV rfl).r) (show 5<9 by decide))).trans ?_;refine(gp (je (i:=6) (δ1:=[z0,ii k,stt a3 b,ii n,some (d,false),some (.str z,false),c6,c7,c8]) (jU2 e5 (jV rfl) (jV rfl)) (show 6<9 by decide))).trans ?_;exact(gp ((mq (δ1:=δ c7 c8) (uQ (n:=2) (o:= .val (.int 2,false)) rfl rfl (by decide))).trans ef)).trans rfl
abbrev δ41(z0:Sl):Dn:=[z0,none,none,none,none,none,none,none,none]
theorem c41(z0:Sl):tU (fT (gC gNe (gc (gx jb [(gc (fC (.int 0))),(gc (jw []))])) (gc (jw [(oh [])])))) (tU (fT (gC gNe (gc (gx jb [(gc (fC (.int 2))),(gc (oh []))])) (gc (jw [(oh [(fC (.int 1)),(fC (.int 2))])])))) (fT (gC gNe (gc (gx jb [(gc (fC (.int 1))),(gc (jw [(oh [(kh pV (gc (fC (.int 1))))])]))])) (gc (jw [(oh [(kh pV (gc (fC (.int 1))))]),(oh [(fC (.int 1))])]))))) (δ41 z0)=some (false,δ41 z0):=by kernel_rfl
theorem OG(ns:gO)(hl:ns.length<=63): ∃o outs,qm [(.lst (ns.map .int),false)]=some ((.bl true,o),outs):=by
 let z0:Sl:=some (.lst (ns.map .int),false)
 let N:Nat:=if 1<min ns.length 5 then min ns.length 5 else 1
 obtain⟨_,⟨d1,d2,d3,d4,d5,d6,d7,d8,_,rfl⟩,e⟩:=mB (tg:=gB 1) (fb:=Mx) (fun ds δ=> ∃d1 d2 d3 d4 d5 d6 d7 d8,(∀d∈ds,∃k:Nat,d= .int k)/\δ=[z0,d1,d2,d3,d4,d5,d6,d7,d8]) (fun d ds δ ⟨d1,d2,d3,d4,d5,d6,d7,d8,h1,h⟩=>by
  subst h;obtain⟨k,rfl⟩:=h1 d ic;obtain⟨g2,g3,g4,g5,g6,g7,g8,e⟩:=JN ns k d2 d3 d4 d5 d6 d7 d8
  exact⟨_,_,rfl,e,_,_,_,_,_,_,_,_,fun x hx=>h1 x (hU _ hx),rfl⟩) (iA 0 N) (δ41 z0) ⟨none,none,none,none,none,none,none,none,fun d hd=>by
   obtain⟨k,_,rfl⟩:=oA.mp hd;exact⟨k,by simp⟩,rfl⟩
 refine⟨false,_,pe (δ:=[z0,d1,d2,d3,d4,d5,d6,d7,d8]) ⟨rfl,by decide,rfl⟩ ?_⟩;refine(no (δ:=δ41 z0) _ (c41 z0)).trans ?_;refine(gp ((mq (ds:=iA 0 N) (δ1:=δ41 z0) ?_).trans e)).trans (lG rfl);refine uQ (o:= .val (.int N,false)) (iR ?_) rfl (by simp only[N];split<;>lia)
 have hN:(N:Int)=if(if(5:Int)<ns.length then 5 else(ns.length:Int))>1 then(if(5:Int)<ns.length then 5 else(ns.length:Int)) else 1:=by
  simp only[N];split<;>split<;>split<;>lia
 rw[hN];simp[z0,δ41]
end PV
theorem K41.main(ns:gO)(hl:ns.length<=63): ∃o outs,PV.qm [(.lst (ns.map .int),false)]=some ((.bl true,o),outs):=PV.OG ns hl
namespace PySem.W.Fast
def tw13185204006774348819:=()
def tw15603062401842788135:=()
def tw12334292286566661379:=()
def tw3872344165704523630:=()
def tw12894995561445227101:=()
def tw10237453521542213199:=()
def tw5678693417713580357:=()
def tw18028975756054444305:=()
def tw11428084398554748249:=()
def tw13873137414354064533:=()
def tw5401087752183801885:=()
def tw403571709841468083:=()
def tw16796874937519007080:=()
def tw16579306499313494613:=()
def tw10217980765117183622:=()
def tw8729941084541036456:=()
def tw12487155956340801932:=()
def tw10721685967618012769:=()
def tw17377956209389360674:=()
def tw11887225433874146862:=()
def tw9827984471056021667:=()
def tw9108170240087139892:=()
def tw9088243214840636163:=()
def tw14059545653925180772:=()
def tw16470372512745200758:=()
def tw14422275707327891517:=()
def tw7528077439035885968:=()
def tw14780206775632689568:=()
def tw11981433970439499695:=()
def tw4534379836728467306:=()
def tw3831195915451568744:=()
def tw13529099344210645424:=()
def tw11948184281060641715:=()
def tw13620263218700995537:=()
def tw926215252625655056:=()
def tw6995950566280098552:=()
def tw10888046400879190159:=()
def tw9553920004233048779:=()
def tw3987668905448282656:=()
def tw18324999810189478662:=()
def tw748839420932685243:=()
def tw13555854478992352369:=()
def tw9868262602809176791:=()
def tw2622806954036260458:=()
def tw16272141880106393482:=()
def tw4544969745769837446:=()
def tw5642689455158176289:=()
def tw4507130930738150664:=()
def tw6647507815735491472:=()
def tw11137160483441997264:=()
def tw1860290138782010571:=()
def tw784536392801013524:=()
def tw815231365939973918:=()
def tw17011120153849663783:=()
def tw3272781746305908383:=()
def tw4418776246972626575:=()
def tw6713788184684298049:=()
def tw13362724502805264358:=()
def tw15578705194874222911:=()
def tw8190380373887931597:=()
def tw2863516854372509330:=()
def tw14673446996922634438:=()
def tw4728753910779186043:=()
def tw14448920335827192278:=()
def tw2491112387414997291:=()
def tw7755841600205225616:=()
def tw6067150185679586023:=()
def tw14105815117089320034:=()
def tw169441845592372858:=()
def tw15873224853329574862:=()
def tw10134009373456581671:=()
def tw7825243055608127296:=()
def tw4365660075245750683:=()
def tw14345779238316415497:=()
def tw17843927402872965930:=()
def tw10230952539861631061:=()
def tw13211665752255640463:=()
def tw17408315501847194020:=()
def tw12873778376845456319:=()
def tw15244209857367807114:=()
def tw17552023909448499267:=()
def tw16373459687851987340:=()
def tw9080062838592182141:=()
def tw4755893501723567543:=()
def tw11530292008554222343:=()
def tw6320614520542803683:=()
def tw14073751024807411908:=()
def tw15890826862242185192:=()
def tw3583146100447635300:=()
def tw1800691011333930535:=()
def tw1019458311387738982:=()
def tw7408974664477353126:=()
def tw5997868809918068393:=()
def tw218732262387327065:=()
def tw17913332436869777382:=()
def tw7672274495621694060:=()
def tw9558654650503474139:=()
def tw14067821591332402268:=()
def tw13305609521487433732:=()
def tw8755814714109801110:=()
def tw14464372859324388972:=()
end PySem.W.Fast
open PySem PySem.W PyProof.Rows PX
set_option maxRecDepth 100000 in
set_option maxHeartbeats 0 in
theorem PySem.Challenge.cw_twinriddles_k41_spans_holds : PySem.Challenge.rw_twinriddles_k41_spans.Holds := by
  w_on; o_law; k_head; (case hw => w_witness2)
  k_fill
  refine walkG (l := PySem.Challenge.rw_twinriddles_k41_spans) (LV := 9) (x := "_law_script") ⟨rfl, by decide, by decide, rfl⟩ rfl rfl (fun w h Y => PySem.W.kIn_of Y) ?F K41.main
  case F =>
   intro w mg fa h KX G hmg
   refine' K41.all_mk hmg (txK KX G ?_ ?_ ?_ ?_ ?_ ?_ ?_ ?_ ?_ ?_ ?_ ?_ ?_ ?_ ?_ ?_) (fz KX G ?_ ?_ ?_ ?_) (fz KX G ?_ ?_ ?_ ?_) (fz KX G ?_ ?_ ?_ ?_) (fz KX G ?_ ?_ ?_ ?_) (fz KX G ?_ ?_ ?_ ?_) (fz KX G ?_ ?_ ?_ ?_) (fz KX G ?_ ?_ ?_ ?_) (fz KX G ?_ ?_ ?_ ?_) (fz KX G ?_ ?_ ?_ ?_) (fz KX G ?_ ?_ ?_ ?_) (fz KX G ?_ ?_ ?_ ?_) (fz KX G ?_ ?_ ?_ ?_) (fz KX G ?_ ?_ ?_ ?_) (fz KX G ?_ ?_ ?_ ?_) (fz KX G ?_ ?_ ?_ ?_) (fz KX G ?_ ?_ ?_ ?_) (fz KX G ?_ ?_ ?_ ?_) (fz KX G ?_ ?_ ?_ ?_) (fz KX G ?_ ?_ ?_ ?_) (fz KX G ?_ ?_ ?_ ?_) (fz KX G ?_ ?_ ?_ ?_) (PySem.W.mg_none_of KX G ?_) (mgI KX G ?_) <;> try k_is
