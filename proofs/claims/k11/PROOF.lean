import PyProof.Rows.All
import Wide.All
import OpenK.AllK
import Wide.FinOn
import PyProof.EqAt
import PyProof.EqKinds
import PyProof.TupleCall
import Lean
import PySem.Challenge.RW_twinriddles_k11_riddles_looked_at
set_option Elab.async false
set_option linter.all false
set_option maxRecDepth 100000
set_option maxHeartbeats 8000000
noncomputable section
section
open PySem PySem.Spec PyProof.Rows
abbrev hV:=Value->Shared->Prop
abbrev ik:=List (Addr×Obj)
abbrev hC:=PySem.W.Frag
abbrev jv:=List (List Int)
abbrev hU:=List Int
abbrev iL:=List Value
abbrev lL:=Str->Option Value
abbrev iF:=List Nat
abbrev lJ:=Nat->Nat->Bool
abbrev jy:=Array Nat
abbrev lM:=Array (Int×Value)
abbrev jW:=Array Value
abbrev iG:=List Str
abbrev jF:=List Expr
abbrev pS:=Bool->Shared->Prop
abbrev zm:=Option Value->Shared->Prop
abbrev vV:=Value->Value->Sem Value
abbrev qd:=Array (Option Nat)
abbrev vU:=Array (Option Value)
abbrev qc:=List (Str×Addr)
abbrev rO:=List Comprehension
abbrev nC:=Array Keyed
abbrev nB:=Nat->Keyed
abbrev zk:=Option Nat->SortSt->Prop
abbrev jm:=Nat->Prop
abbrev kb:=List Addr
abbrev gA:=Shared
abbrev hG:=Program
abbrev gW:=Around
abbrev gS:=World
abbrev iT:=SortSt
abbrev jK:=SetTable
abbrev gL:=Value
abbrev rN:=Comprehension
abbrev nS:=FuncData
abbrev jZ:=Scope
abbrev gM:=Expr
abbrev gU:=Heap
abbrev gv:=Addr
end
section
open PySem PySem.Spec PyProof.Rows PySem.SeqAt
def gw:=@wpAny_bind
theorem gD:type_of% @if_pos:=@if_pos
theorem gF:type_of% @if_neg:=@if_neg
def gK:=@wpAny_pure
theorem ip:type_of% @Nat.le_refl:=@Nat.le_refl
theorem iA:type_of% @Option.bind_some:=@Option.bind_some
theorem iJ:type_of% @List.map_cons:=@List.map_cons
theorem iM:type_of% @Bool.false_eq_true:=@Bool.false_eq_true
theorem ja:type_of% @if_false:=@if_false
theorem jb:type_of% @List.getElem?_eq_getElem:=@List.getElem?_eq_getElem
theorem ic:type_of% @sizeLine_eq:=@sizeLine_eq
theorem jj:type_of% @List.mem_cons:=@List.mem_cons
def iq:=@Heap.lt_size
def iz:=@Heap.get?_push_of_some
theorem iw:type_of% @List.size_toArray:=@List.size_toArray
theorem iH:type_of% @if_true:=@if_true
def iK:=@Nat.ne_of_lt
theorem lK:type_of% @List.mem_append:=@List.mem_append
def iO:=@Option.some.inj
def iW:=@List.mem_cons_self
theorem nQ:type_of% @List.mem_map:=@List.mem_map
def jd:=@List.mem_cons_of_mem
theorem ji:type_of% @decide_eq_false:=@decide_eq_false
theorem jo:type_of% @Array.length_toList:=@Array.length_toList
theorem jr:type_of% @Bool.and_eq_true:=@Bool.and_eq_true
theorem jw:type_of% @List.length_map:=@List.length_map
def jB:=@Bool.false_ne_true
theorem jL:type_of% @List.not_mem_nil:=@List.not_mem_nil
def jP:=@Heap.get?_push_size
theorem jO:type_of% @List.length_cons:=@List.length_cons
def mw:=@List.pairwise_append
def uY:=@List.getElem?_eq_some_iff
theorem km:type_of% @List.nodup_nil:=@List.nodup_nil
theorem ky:type_of% @List.append_assoc:=@List.append_assoc
def kx:=@List.getElem_mem
theorem kJ:type_of% @or_false:=@or_false
theorem kZ:type_of% @List.length_append:=@List.length_append
theorem mZ:type_of% @List.mem_singleton:=@List.mem_singleton
theorem lU:type_of% @List.all_eq_true:=@List.all_eq_true
theorem kY:type_of% @List.map_map:=@List.map_map
def lq:=@Nat.le_trans
def ll:=@wpAny_newObj_type
def lj:=@Array.getElem?_toList
theorem lH:type_of% @List.getElem?_map:=@List.getElem?_map
def lG:=@List.mem_of_mem_drop
def nX:=@List.pairwise_cons
theorem lN:type_of% @decide_eq_true:=@decide_eq_true
def lZ:=@wpAny_field
def lY:=@Nat.zero_le
theorem lX:type_of% @Bool.not_true:=@Bool.not_true
def lW:=@List.take_append_drop
def lV:=@List.mem_of_mem_take
theorem mE:type_of% @decide_eq_true_eq:=@decide_eq_true_eq
def mY:=@Nat.lt_of_lt_of_le
def mX:=@wpAny_holding
def mW:=@List.take_sublist
def mV:=@List.mem_of_getElem?
def mU:=@wpAny_call_entry
def mT:=@Array.getElem?_eq_getElem
def mS:=@PySem.W.mg_none_of
theorem nD:type_of% @List.length_nil:=@List.length_nil
theorem nW:type_of% @List.length_take:=@List.length_take
theorem nV:type_of% @List.lookup_cons:=@List.lookup_cons
theorem nU:type_of% @List.nil_append:=@List.nil_append
theorem oR:type_of% @Nat.lt_irrefl:=@Nat.lt_irrefl
def oQ:=@List.mem_append_right
theorem oP:type_of% @List.map_nil:=@List.map_nil
theorem oO:type_of% @not_or:=@not_or
theorem oN:type_of% @List.drop_drop:=@List.drop_drop
def oM:=@List.drop_sublist
theorem uX:type_of% @List.mem_range:=@List.mem_range
def pV:=@Ne.symm
def pU:=@wpAny_mono
theorem pT:type_of% @List.map_append:=@List.map_append
def qo:=@List.getElem?_set_self
def qm:=@Nat.ne_of_gt
theorem qk:type_of% @Int.toNat_natCast:=@Int.toNat_natCast
def qj:=@wpAny_callSpecial?_slot
def qi:=@codeAny_builtin
def qh:=@wpAny_of_eq
def qg:=@wpAny_seqItems
def qf:=@Nat.mul_assoc
def qe:=@List.map_congr_left
def rX:=@List.getElem?_set_ne
def rW:=@congrArg
def rV:=@wpAny_typeOf
def rT:=@Heap.get?_update_self
theorem rS:type_of% @List.length_set:=@List.length_set
def rR:=@Around.under_plainId
def rQ:=@Obj.data_mapFields
def rP:=@wpAny_setState_of
def ui:=@List.filterMap_cons
def wX:=@PyProof.Rows.slot_tuple_getitem
theorem uh:type_of% @bne_self_eq_false:=@bne_self_eq_false
def ug:=@wpAny_rule
def uf:=@Heap.size_push
def ue:=@List.getElem?_of_mem
def ud:=@Nat.lt_succ_self
def uc:=@Heap.SameBut.update
def ub:=@List.Perm.append_left
def pk:=@wpAny_forIn_list
def pj:=@Nat.pow_succ
theorem ph:type_of% @Bool.true_and:=@Bool.true_and
def qz:=@wpAny_truthy_bool
def IG:=@Option.isSome_iff_exists
theorem qy:type_of% @List.length_drop:=@List.length_drop
def qx:=@eq_of_beq
theorem qw:type_of% @bind_assoc:=@bind_assoc
def qv:=@Nat.lt_succ_of_lt
def qu:=@PySem.W.kia_one
def qt:=@plainId_quiet
theorem qr:type_of% @Array.getD_eq_getD_getElem?:=@Array.getD_eq_getD_getElem?
def qq:=@Nat.min_eq_left
def qp:=@Nat.mul_comm
def IF:=@PySem.F.called_set
def sZ:=@wpAny_passesOwn
theorem sY:type_of% @Bool.false_and:=@Bool.false_and
def sX:=@List.append_nil
def sV:=@codeAny_mono
def sU:=@PySem.mem_of_lookup
theorem sQ:type_of% @List.length_singleton:=@List.length_singleton
def sP:=@Prod.mk.inj
def sO:=@List.drop_eq_getElem_cons
def sN:=@wpAny_setField
def sM:=@wpAny_attempt
def sL:=@List.Perm.refl
def sJ:=@List.take_of_length_le
theorem sH:type_of% @List.take_take:=@List.take_take
theorem sG:type_of% @List.foldl_cons:=@List.foldl_cons
theorem sD:type_of% @List.zip_cons_cons:=@List.zip_cons_cons
def sA:=@Nat.mul_add
def Lk:=@Array.getElem?_eq_some_iff
def sy:=@wpAny_specialOf
def sx:=@List.map_id
theorem sv:type_of% @List.cons_append:=@List.cons_append
theorem yM:type_of% @beq_eq_false_iff_ne:=@beq_eq_false_iff_ne
def vA:=@wpAny_load
def En:=@List.nodup_cons
def vz:=@List.getElem?_append_right
def vw:=@Heap.get?_update_other
def vt:=@Nat.le_succ
theorem vq:type_of% @Bool.and_false:=@Bool.and_false
def vp:=@wpAny_askSetting
theorem vo:type_of% @List.find?_cons:=@List.find?_cons
theorem vn:type_of% @List.all_cons:=@List.all_cons
def vm:=@wpAny_setField_rec
def vh:=@wpAny_isInstance
def vg:=@List.Perm.append_right
theorem vf:type_of% @List.extract_toArray:=@List.extract_toArray
theorem ve:type_of% @List.extract_eq_take_drop:=@List.extract_eq_take_drop
theorem vd:type_of% @List.getElem?_drop:=@List.getElem?_drop
theorem vc:type_of% @List.map_take:=@List.map_take
def vb:=@Bool.or_eq_true
def va:=@Nat.mul_one
def uZ:=@Nat.mod_lt
def xk:=@List.getElem?_append_left
def xj:=@IsTup.new
theorem xi:type_of% @List.forIn_cons:=@List.forIn_cons
def xh:=@codeAny_of_tree
def xg:=@List.drop_eq_nil_of_le
def xf:=@List.ext_getElem?
def xc:=@wpAny_onRaise
def xb:=@List.range'_succ
def xa:=@List.cons.inj
def MV:=@Array.perm_iff_toList_perm
def FU:=@List.pairwise_iff_getElem
def wZ:=@List.getElem_of_mem
def wY:=@List.drop_zero
def zo:=@PySem.F.slot_dict_keyiterator_next
def FR:=@PySem.F.slot_tuple_hash
def Ba:=@Paired.length
def A9:=@Nat.le_of_lt
def A8:=@wpAny_standAt
def A7:=@wpAny_pyIter_list
def A6:=@boot_range
def A5:=@PyProof.Rows.callWith_type1
def A4:=@wpAny_Call_Name_kw
def A3:=@concat_meets
def A2:=@slicePart_none
def A1:=@List.reverse_cons
def A0:=@call_meets
def AZ:=@Heap.SameBut.refl
def AY:=@List.getElem?_set
theorem DD:type_of% @List.getElem?_zip_eq_some:=@List.getElem?_zip_eq_some
def AX:=@List.any_map
def AW:=@wpAny_runValue
theorem AV:type_of% @List.getElem?_eq_none:=@List.getElem?_eq_none
def AU:=@F.slot_tuple_iterator_next
def AS:=@Obj.isFreed_of_fields
def AR:=@Obj.cls_mapFields
def AQ:=@F.slot_zip_next
def AO:=@Nat.lt_or_ge
def AN:=@List.pairwise_singleton
def DC:=@List.perm_middle
def AM:=@List.perm_append_comm
def AL:=@List.take_succ
def AK:=@List.Perm.of_eq
def AJ:=@AutoSeq1.sub_tuple_tuple
def AI:=@richCompare_meets_room
def AH:=@Nat.mul_left_comm
def AG:=@Nat.pow_le_pow_right
theorem AF:type_of% @List.getElem?_cons_succ:=@List.getElem?_cons_succ
theorem AE:type_of% @Array.getElem?_setIfInBounds:=@Array.getElem?_setIfInBounds
theorem AD:type_of% @Array.getElem?_eq_none:=@Array.getElem?_eq_none
def AB:=@wpAny_isSame_ref_self
def AA:=@isSubtype_type
def Az:=@List.length_eraseIdx
def Ay:=@PySem.F.plain_list_iadd
def Ax:=@wpAny_updateSeq
def Aw:=@wpAny_typeNameOfWhole_keyiter
def Av:=@Array.forIn_toList
def Au:=@List.getD_eq_getElem?_getD
def As:=@Bool.eq_iff_iff
def Em:=@wpAny_pyHash_int
def El:=@wpAny_execs_nil
def Ek:=@Int.mul_one
def Ej:=@List.of_mem_zip
def Ei:=@noFill_tuple_add
def Eh:=@seq_tuple_add
def Eg:=@PySem.F.slot_tuple_add
def Ef:=@PySem.F.entry_tuple_add
def Ee:=@PySem.F.args_tuple_add_2
def Ed:=@wpAny_sequenceKey
def Eb:=@entry_tuple_getitem
def Ea:=@args_tuple_getitem
def D9:=@tupleItemsOf_
def D8:=@evalPart_none
def D7:=@seqIndex_of
def D6:=@seqIndex_neg
def D5:=@List.ext_getElem
def D4:=@PySem.F.plainAttrs_list
def Lo:=@F.called_tuple
def D3:=@wpAny_handled
def D2:=@wpAny_throw
def D1:=@wpAny_updateSeq_pair
def D0:=@wpAny_letGo
def DZ:=@isSubtype_stop
def Pr:=@Array.mem_toList_iff
def DY:=@List.singleton_append
def DX:=@List.drop_left
def DV:=@Nat.add_zero
def DU:=@listUpdate_at
def DT:=@get?_update_seq
def DS:=@seqEpoch_at
def DR:=@Nat.add_mul
def DQ:=@Nat.one_mul
def DP:=@Nat.mul_zero
def DO:=@Int.emod_lt_of_pos
def DN:=@Int.emod_nonneg
def Pq:=@List.length_eq_zero_iff
def DM:=@wpAny_pyIter_slot
def DL:=@wpAny_setEntries_of
def DK:=@PyProof.Rows.F.plain_set_update_loop
def DJ:=@wpAny_dictEntries
def DI:=@wpAny_dictEpoch
def DH:=@List.mem_map_of_mem
def DG:=@List.nodup_append
def IE:=@List.mem_append_left
def ID:=@Calls.Name_function_global
def IC:=@PySem.W.cellsFrom_some
def IB:=@List.getElem?_take_of_lt
def IA:=@subscriptTail_builtinR
def Iz:=@F.entry_list_append
def Iy:=@F.args_list_append_2
def Iw:=@wpAny_comprehension_free
def Iv:=@List.getElem?_zipIdx
def Iu:=@List.range_eq_range'
def Ir:=@F.entry_tuple_iterator_next
def Iq:=@F.args_tuple_iterator_next_1
def Ip:=@PySem.W.kas_swaps_map
def Io:=@List.take_set_of_le
def Im:=@List.drop_set_of_lt
def Il:=@List.take_succ_cons
def Ik:=@List.Perm.eq_of_pairwise
def MU:=@List.pairwise_lt_range
def Ij:=@Heap.get?_update_ne
def Ii:=@List.length_reverse
def Ih:=@List.mem_erase_of_ne
def Ig:=@List.filterMap_append
def Ie:=@List.perm_append_singleton
def Ic:=@Array.getElem?_replicate
def Ib:=@builtinLookup_eq_fast
def Ia:=@PySem.F.slot_set_iter
def H9:=@PySem.F.entry_proto_collect
def HZ:=@PySem.F.plain_proto_collect
def HY:=@PySem.F.entry_list_iadd
def HX:=@PySem.F.plain_extend_loop
def HW:=@codeAny_extend_loopS
def HV:=@PyProof.Rows.F.entry_set_update_loop
def HU:=@PySem.F.plain_set_new
def HS:=@PySem.F.slot_dict_iter
def HR:=@PySem.F.entry_dict_keyiterator_next
def HQ:=@PySem.F.args_dict_keyiterator_next_1
def HP:=@wpAny_isOneOf_keyiter
def Py:=@Array.toList_eq_nil_iff
end
namespace TT
open PySem
noncomputable def adv(mask:Nat)(p:SetTable.Probe):SetTable.Probe:=
 if p.more>0 then {p with j:=p.j+1,more:=p.more-1} else
 {p with j:=(SetTable.leap mask p.i p.perturb).1,more:=SetTable.runEnd mask (SetTable.leap mask p.i p.perturb).1-(SetTable.leap mask p.i p.perturb).1,i:=(SetTable.leap mask p.i p.perturb).1,perturb:=(SetTable.leap mask p.i p.perturb).2}
noncomputable def stt(mask:Nat)(h:Int):SetTable.Probe:={j:=SetTable.bits h%(mask+1),more:=SetTable.runEnd mask (SetTable.bits h%(mask+1))-SetTable.bits h%(mask+1),i:=SetTable.bits h%(mask+1),perturb:=SetTable.bits h,dummy:=none}
noncomputable def pr(mask:Nat)(h:Int):Nat->SetTable.Probe
 |0=>stt mask h
 |n+1=>adv mask (pr mask h n)
structure TabOk(hs:hU)(t:jK):Prop where
 pow: ∃k,3<=k/\k<=11/\t.mask+1=2^k
 dum:t.dummies= #[]
 len:t.place.size=hs.length
 room:5*hs.length<3*t.mask
 ris:t.place.toList.Pairwise (· < ·)
 bd: ∀j∈t.place.toList,j<=t.mask
 road: ∀(i:Nat) (h:Int) (j:Nat),hs[i]?=some h->t.place[i]?=some j-> ∃n,(pr t.mask h n).j=j/\ ∀m,m<n->(pr t.mask h m).j∈t.place.toList
end TT
namespace L2
open PySem PySem.Spec PyProof.Rows
abbrev Key:=Sum Int Str
noncomputable def yf:Key->Value->Bool
 | .inl k,v=>Value.isInt k v
 | .inr x,v=>Value.isStrOf x v
noncomputable def SN(w:gS):Key->Int
 | .inl k=>hashInt k
 | .inr x=>hashStr w x
theorem jC: ∀{k:Key} {v:gL},yf k v=true->(∃i t,k=Sum.inl i/\v=Value.int i t)\/(∃x t,k=Sum.inr x/\v=Value.str x t)
 | .inl i,v,h=>by
  obtain⟨t,e⟩:=Value.isInt_shape (k:=i) (v:=v) h;exact .inl ⟨i,t,rfl,e⟩
 | .inr x,v,h=>by
  obtain⟨t,e⟩:=Value.isStrOf_shape (x:=x) (v:=v) h;exact .inr ⟨x,t,rfl,e⟩
theorem Hw(i:Int)(t:Tok):yf (.inl i) (.int i t)=true:=by simp[yf,Value.isInt]
theorem Hv(x:Str)(t:Tok):yf (.inr x) (.str x t)=true:=by simp[yf,Value.isStrOf]
theorem Kn(a b:Int):decide ((Sum.inl a:Key)=Sum.inl b)=(a==b):=by
 by_cases e:a=b
 ·subst e;simp
 ·have h: ¬(Sum.inl a:Key)=Sum.inl b:=fun q=>e (Sum.inl.inj q);rw[ji h];exact(yM.mpr e).symm
theorem Kk(a b:Str):decide ((Sum.inr a:Key)=Sum.inr b)=decide (a=b):=by
 by_cases e:a=b
 ·subst e;simp
 ·have h: ¬(Sum.inr a:Key)=Sum.inr b:=fun q=>e (Sum.inr.inj q);rw[ji h,ji e]
theorem Km(a:Int)(b:Str):decide ((Sum.inl a:Key)=Sum.inr b)=false:=ji (fun q=>nomatch q)
theorem Kl(a:Str)(b:Int):decide ((Sum.inr a:Key)=Sum.inl b)=false:=ji (fun q=>nomatch q)
noncomputable def kE(prog:hG)(w:gS):PySem.KeyKind prog w Key where
 is:=yf
 hash:=SN w
 inj:=fun v a b ha hb=>by
  rcases jC ha with⟨i,t,rfl,rfl⟩|⟨x,t,rfl,rfl⟩
  ·rcases jC hb with⟨j,u,rfl,e⟩|⟨y,u,rfl,e⟩
   ·injection e with e1 _;rw[e1]
   ·exact nomatch e
  ·rcases jC hb with⟨j,u,rfl,e⟩|⟨y,u,rfl,e⟩
   ·exact nomatch e
   ·injection e with e1 _;rw[e1]
 byValue:=fun k v h=>by
  rcases jC h with⟨i,t,rfl,rfl⟩|⟨x,t,rfl,rfl⟩<;>rfl
 pyHash:=fun hv h=>by
  rcases jC hv with⟨i,t,rfl,rfl⟩|⟨x,t,rfl,rfl⟩
  ·exact Em h
  ·exact wpAny_pyHash_str h
 eqBool:=fun hu hv h=>by
  rcases jC hu with⟨i,t,rfl,rfl⟩|⟨x,t,rfl,rfl⟩
  ·rcases jC hv with⟨j,u,rfl,rfl⟩|⟨y,u,rfl,rfl⟩
   ·rw[Kn] at h;exact wpAny_eqBool_int h
   ·rw[Km] at h;exact SeqAt.EqAt.int_str i t y u _ _ _ _ h
  ·rcases jC hv with⟨j,u,rfl,rfl⟩|⟨y,u,rfl,rfl⟩
   ·rw[Kl] at h;exact SeqAt.EqAt.str_int x t j u _ _ _ _ h
   ·rw[Kk] at h;exact wpAny_eqBool_str h
 «strs»:=fun k x t v h=>by
  rcases jC h with⟨i,u,rfl,e⟩|⟨y,u,rfl,e⟩
  ·exact nomatch e
  ·injection e with e1 _
   subst e1;cases v<;>rfl
theorem CU(prog:hG)(w:gS)(i:Int)(t:Tok):(kE prog w).is (.inl i) (.int i t)=true:=Hw i t
theorem CT(prog:hG)(w:gS)(x:Str)(t:Tok):(kE prog w).is (.inr x) (.str x t)=true:=Hv x t
inductive V where
 |non|bl(b:Bool)|int(i:Int)|str(x:Str)|byt(b:Array UInt8)|flt(b:UInt64)|ref(a:gv)|ty(n:String)
 deriving DecidableEq
def RelV:V->Value->Prop
 | .non,u=>u=Value.none
 | .bl b,u=>u=Value.bool b
 | .int i,u=> ∃t,u=Value.int i t
 | .str x,u=> ∃t,u=Value.str x t
 | .byt b,u=> ∃t,u=Value.bytes b t
 | .flt b,u=> ∃t,u=Value.float b t
 | .ref a,u=>u=Value.ref a
 | .ty n,u=>u=Value.type n
abbrev Vals:List V->List Value->Prop:=Paired RelV
theorem Vals.length{xs:List V}{us:iL}(r:Vals xs us):xs.length=us.length:=Ba r
theorem Vals.get: ∀{xs:List V} {us:iL} {i:Nat} {x:V},Vals xs us->xs[i]?=some x-> ∃u,us[i]?=some u/\RelV x u
 |_,_,_,_,.nil,e=>by simp at e
 |_,_,0,_,.cons r _,e=>by simp at e;subst e;exact⟨_,rfl,r⟩
 |_,_,i+1,x,.cons _ t,e=>by
  obtain⟨u,h1,h2⟩:=Vals.get (i:=i) (x:=x) t (by simpa using e);exact⟨u,by simpa using h1,h2⟩
theorem Vals.set{x:V}{u:gL}(r:RelV x u): ∀{xs:List V} {us:iL} (i:Nat),Vals xs us->Vals (xs.set i x) (us.set i u)
 |_,_,_,.nil=> .nil
 |_,_,0,.cons _ t=> .cons r t
 |_,_,i+1,.cons q t=> .cons q (Vals.set r i t)
theorem Vals.append: ∀{xs ys:List V} {us ws:iL},Vals xs us->Vals ys ws->Vals (xs++ys) (us++ws)
 |_,_,_,_,.nil,s=>s
 |_,_,_,_,.cons r t,s=> .cons r (Vals.append t s)
theorem Vals.take: ∀{xs:List V} {us:iL} (n:Nat),Vals xs us->Vals (xs.take n) (us.take n)
 |_,_,0,_=> .nil
 |_,_,_+1,.nil=> .nil
 |_,_,n+1,.cons r t=> .cons r (Vals.take n t)
theorem Vals.drop: ∀{xs:List V} {us:iL} (n:Nat),Vals xs us->Vals (xs.drop n) (us.drop n)
 |_,_,0,r=>r
 |_,_,_+1,.nil=> .nil
 |_,_,n+1,.cons _ t=>Vals.drop n t
def RelO:Option V->Option Value->Prop
 |some v,some u=>RelV v u
 |none,none=>True
 |_,_=>False
def KV{κ:Type}:List (κ×V)->List (κ×Value)->Prop:=Paired fun(p:κ×V) (q:κ×Value)=>p.1=q.1/\RelV p.2 q.2
noncomputable def kV:Key->V
 | .inl i=> .int i
 | .inr x=> .str x
inductive HO where
 /-- a list -/
 |lst(xs:List V)
 /-- a tuple(never changes) -/
 |tup(xs:List V)
 /-- a dict whose keys are ints and texts;one whose keys are tuples of ints and texts(cb empty one is both) -/
 |dK(kvs:List (Key×V))|dT(kvs:List (List Key×V))
 /-- a set of ints:b6 members,b6 size -/
 |set (S:Int->Bool) (n:Nat)
 |stt (zs:List (Int×V))
 /-- an instance of cb class at C,b6 dict at dx,b6 attributes -/
 |ins (C dx:gv) (fs:List (Str×V))
 /-- cb dict of cb instance at x -/
 |own (x:gv)
 /-- cb dict of an exception -/
 |xd (fs:List (Str×V))
 /-- a bound method,f of x -/
 |met (f x:gv)
 /-- a range object lo,lo+1,.. below hi -/
 |rng (lo hi:Int)
 /-- a thing that is known to cb object (cb script;a dict while a loop walks it):read,never written while it is so -/
 |frz (o:Obj) (u:HO)
 /-- a code object's table -/
 |tbl (ps:jW)
 /-- any other thing,by what is true of b6 one object (a def of one's own:SetO a S n:=HO.ext fun h=> ..) -/
 |ext (φ:Heap->Prop)
abbrev Hp:=Addr->Option HO
noncomputable def upd(H:Hp)(a:gv)(o:HO):Hp:=fun b=>if b=a then some o else H b
theorem iC{H:Hp}{a:gv}{o:HO}:upd H a o a=some o:=by unfold upd;rw[gD rfl]
theorem iE{H:Hp}{a b:gv}{o:HO}(h:b≠a):upd H a o b=H b:=by unfold upd;rw[gF h]
theorem F0{H:Hp}{a:gv}{o u:HO}:upd (upd H a o) a u=upd H a u:=by
 funext b;unfold upd;split<;>rfl
theorem M8{H:Hp}{a b:gv}{o u:HO}(h:H a=some o)(h':H b=some u)(d:o≠u):a≠b:=by
 intro e;subst e;rw[h] at h';exact d (iO h')
theorem md{H:Hp}{a b:gv}{o:HO}(h:H a=some o)(h':H b=none):a≠b:=by
 intro e;subst e;rw[h] at h';cases h'
section
variable(P:hG)(w:gS)
def ObjOk(H:Hp)(h:gU)(a:gv):HO->Prop
 | .lst xs=>xs.length<=sizeLine/\ ∃(b6:iL) (n:Nat),Vals xs b6/\h.get? a=some {cls:= .type "list",data:= .seq b6.toArray n}
 | .tup xs=>xs.length<=sizeLine/\ ∃b6:List Value,Vals xs b6/\IsTup h a b6.toArray
 | .dK kvs=>kvs.length<=sizeLine/\(a==sysModules)=false/\ ∃vs,KV kvs vs/\h.DictOf (kE P w) a vs
 | .dT kvs=>kvs.length<=sizeLine/\(a==sysModules)=false/\ ∃xs:List (List Key×Addr×Value),
   Paired (fun(p:List Key×V) (q:List Key×Addr×Value)=>p.1=q.1/\H q.2.1=some (.tup (p.1.map kV))/\RelV p.2 q.2.2) kvs xs/\
   ∃o es ep,h.get? a=some o/\o.ExactDict/\o.data= .dict es ep/\es.toList=xs.map (entryOfKey (tupleKind (kE P w)))/\(xs.map (·.1)).Nodup
 | .set S n=>h.SetOf (intKind P w) a S n
 | .stt zs=> ∃(es:lM) (n:Nat) (t:jK),h.get? a=some {cls:= .type "set",data:= .set es n t}/\Paired (fun(z:Int×V) (e:Int×Value)=>z.1=e.1/\RelV z.2 e.2) zs es.toList/\
   TT.TabOk (zs.map (·.1)) t/\t.plain=true/\t.led=!w.params.followText "set-order"
 | .ins C dx fs=>H dx=some (.own a)/\fs.length<=1000/\dx≠a/\h.get? a=some (PySem.W.instObj C dx)/\
   ∃mA,h.Ns1 dx mA/\(∀f,RelO (fs.lookup f) (mA f))/\PySem.Within mA (fs.map (·.1))
 | .own _=> ∃o,h.get? a=some o
 | .xd fs=> ∃mA,h.Ns1 a mA/\ ∀f,RelO (fs.lookup f) (mA f)
 | .rng lo hi=> ∃t u v,h.get? a=some {cls:= .type "range",data:= .fields #[.int lo t,.int hi u,.int 1 v]}
 | .frz o u=>h.get? a=some o/\ObjOk H h a u
 | .tbl ps=>h.get? a=some {cls:= .none,data:= .fields ps}
 | .met f x=>h.get? a=some (PySem.W.methodObj (.ref f) (.ref x))
 | .ext φ=>φ h/\(∃o,h.get? a=some o)/\ ∀h1 h2:Heap,φ h1->(∀o,h1.get? a=some o->h2.get? a=some o)->φ h2
def HOk(H:Hp)(h:gU):Prop:= ∀a o,H a=some o->ObjOk P w H h a o
end
section
variable {P:hG}{w:gS}{H H':Hp}{h h':gU}{a:gv}{o:HO}
theorem ObjOk.lt(x:ObjOk P w H h a o):a<h.objs.size:=by
 cases o with
 |lst xs=>obtain⟨_,_,_,_,e⟩:=x;exact iq e
 |tup xs=>obtain⟨_,_,_,p⟩:=x;exact p.lt
 |dK kvs=>obtain⟨_,_,_,_,o,_,_,e,_⟩:=x;exact iq e
 |dT kvs=>obtain⟨_,_,_,_,o,_,_,e,_⟩:=x;exact iq e
 |set S n=>obtain⟨o,_,_,_,e,_⟩:=x;exact iq e
 |stt zs=>obtain⟨_,_,_,e,_⟩:=x;exact iq e
 |ins C dx fs=>obtain⟨_,_,_,e,_⟩:=x;exact iq e
 |own y=>obtain⟨_,e⟩:=x;exact iq e
 |xd fs=>obtain⟨_,⟨_,_,_,e,_⟩,_⟩:=x;exact iq e
 |rng lo hi=>obtain⟨_,_,_,e⟩:=x;exact iq e
 |frz ob u=>obtain⟨e,_⟩:=x;exact iq e
 |tbl ps=>exact iq (show h.get? a=some _ from x)
 |met f y=>exact iq (show h.get? a=some _ from x)
 |ext φ=>obtain⟨_,⟨_,e⟩,_⟩:=x;exact iq e
theorem Paired.mapP{α β:Type}{F G:α->β->Prop}: ∀{l₁:List α} {l₂:List β},Paired F l₁ l₂->(∀a b,F a b->G a b)->Paired G l₁ l₂
 |_,_,.nil,_=> .nil
 |_,_,.cons r t,f=> .cons (f _ _ r) (Paired.mapP t f)
theorem ObjOk.stay(x:ObjOk P w H h a o)(k: ∀b u,(b=a\/H b=some (.own a))->h.get? b=some u->h'.get? b=some u)
  (ho: ∀b,H b=some (.own a)->H' b=some (.own a))(ht: ∀b xs,H b=some (.tup xs)->H' b=some (.tup xs)):ObjOk P w H' h' a o:=by
 induction o with
 |lst xs=>obtain⟨z,b6,n,r,e⟩:=x;exact⟨z,b6,n,r,k _ _ (.inl rfl) e⟩
 |tup xs=>obtain⟨z,b6,r,ob,e,c⟩:=x;exact⟨z,b6,r,ob,k _ _ (.inl rfl) e,c⟩
 |dK kvs=>obtain⟨z,y,vs,r,ob,es,ep,e,c⟩:=x;exact⟨z,y,vs,r,ob,es,ep,k _ _ (.inl rfl) e,c⟩
 |dT kvs=>
  obtain⟨z,y,xs,r,ob,es,ep,e,c⟩:=x;exact⟨z,y,xs,Paired.mapP r fun p q z=>⟨z.1,ht _ _ z.2.1,z.2.2⟩,ob,es,ep,k _ _ (.inl rfl) e,c⟩
 |set S n=>obtain⟨ob,es,ep,t,e,c⟩:=x;exact⟨ob,es,ep,t,k _ _ (.inl rfl) e,c⟩
 |stt zs=>obtain⟨es,n,t,e,c⟩:=x;exact⟨es,n,t,k _ _ (.inl rfl) e,c⟩
 |ins C dx fs=>
  obtain⟨d,z,ne,e,mA,⟨od,es,ep,e2,c⟩,r⟩:=x;exact⟨ho _ d,z,ne,k _ _ (.inl rfl) e,mA,⟨od,es,ep,k _ _ (.inr d) e2,c⟩,r⟩
 |own y=>obtain⟨ob,e⟩:=x;exact⟨ob,k _ _ (.inl rfl) e⟩
 |xd fs=>obtain⟨mA,⟨od,es,ep,e,c⟩,r⟩:=x;exact⟨mA,⟨od,es,ep,k _ _ (.inl rfl) e,c⟩,r⟩
 |rng lo hi=>obtain⟨t,u,v,e⟩:=x;exact⟨t,u,v,k _ _ (.inl rfl) e⟩
 |frz ob u ih=>obtain⟨e,q⟩:=x;exact⟨k _ _ (.inl rfl) e,ih q⟩
 |tbl ps=>
  have e:h.get? a=some {cls:= .none,data:= .fields ps}:=x;show h'.get? a=some {cls:= .none,data:= .fields ps};exact k a _ (.inl rfl) e
 |met f y=>
  have e:h.get? a=some (PySem.W.methodObj (.ref f) (.ref y)):=x;show h'.get? a=some (PySem.W.methodObj (.ref f) (.ref y));exact k a _ (.inl rfl) e
 |ext φ=>obtain⟨p,⟨o,e⟩,st⟩:=x;exact⟨st _ _ p fun o q=>k _ _ (.inl rfl) q,⟨o,k _ _ (.inl rfl) e⟩,st⟩
theorem HOk.lt(x:HOk P w H h)(e:H a=some o):a<h.objs.size:=(x a o e).lt
theorem HOk.fresh(x:HOk P w H h)(e:h.objs.size<=a):H a=none:=by
 cases q:H a with
 |none=>rfl
 |some u=>exact absurd (mY (x.lt q) e) (oR _)
theorem HOk.kept(x:HOk P w H h)(k: ∀b u,h.get? b=some u->h'.get? b=some u):HOk P w H h':=fun a o e=>
 (x a o e).stay (fun b u _ q=>k b u q) (fun _ q=>q) fun _ _ q=>q
theorem HOk.laid(x:HOk P w H h)(k: ∀b u,h.get? b=some u->h'.get? b=some u)(hp:h.objs.size<=a)(new:ObjOk P w (upd H a o) h' a o):HOk P w (upd H a o) h':=fun b u e=>by
 have hn:=x.fresh hp;by_cases hb:b=a
 ·subst hb;rw[iC] at e;cases e;exact new
 ·rw[iE hb] at e;exact(x b u e).stay (fun c v _ q=>k c v q) (fun c q=>by rw[iE (md q hn)];exact q) fun c xs q=>by rw[iE (md q hn)];exact q
end
def Rd(H:Hp)(a:gv)(u:HO):Prop:=H a=some u\/ ∃o,H a=some (.frz o u)
theorem Rd.ok{P:hG}{w:gS}{H:Hp}{h:gU}{a:gv}{u:HO}(r:Rd H a u)(x:HOk P w H h):ObjOk P w H h a u:=by
 rcases r with r|⟨o,r⟩
 ·exact x a u r
 ·obtain⟨_,q⟩:=x a _ r;exact q
def Mut:Option HO->Prop
 |some (.lst _)=>True
 |some (.dK _)=>True
 |some (.dT _)=>True
 |some (.set _ _)=>True
 |some (.stt _)=>True
 |some (.ins _ _ _)=>True
 |some (.ext _)=>True
 |_=>False
section
variable {P:hG}{w:gS}{H:Hp}{h h':gU}{x e:gv}{o':HO}
theorem HOk.write(ok:HOk P w H h)(mu:Mut (H x))(he:e=x\/H e=some (.own x))(k: ∀b u,b≠e->h.get? b=some u->h'.get? b=some u)(du: ∃u,h'.get? e=some u)
  (new:ObjOk P w (upd H x o') h' x o'):HOk P w (upd H x o') h':=fun b u q=>by
 have nown: ∀c y,H c=some (.own y)->c≠x:=fun c y r z=>by subst z;rw[r] at mu;exact mu
 have ntup: ∀c xs,H c=some (.tup xs)->c≠x:=fun c xs r z=>by subst z;rw[r] at mu;exact mu
 by_cases hb:b=x
 ·subst hb;rw[iC] at q;cases q;exact new
 ·rw[iE hb] at q;by_cases cX:b=e
  ·have q':H b=some (.own x):=by
    rcases he with z|z
    ·exact absurd (cX.trans z) hb
    ·rw[cX];exact z
   rw[q] at q';cases q';obtain⟨v,hv⟩:=du;exact⟨v,by rw[cX];exact hv⟩
  ·refine(ok b u q).stay (fun c v hc r=>k c v ?_ r) (fun c r=>by rw[iE (nown c b r)];exact r) fun c xs r=>by rw[iE (ntup c xs r)];exact r
   rcases hc with rfl|hc
   ·exact cX
   ·rintro rfl;rcases he with z|z
    ·exact nown c b hc z
    ·rw[hc] at z;cases z;exact hb rfl
end
structure Un(fs ex:kb)(H H':Hp)(h h':gU):Prop where
 keep: ∀b o,h.get? b=some o->H b=none->b∉fs->b∉ex->h'.get? b=some o
 slot: ∀b o,h.get? b=some o->H b=none->b∈fs->b∉ex-> ∃sl,h'.get? b=some {o with slots:=sl}
 free: ∀b o,h.get? b=some o->H b=none->b∉ex->H' b=none
 there: ∀b o,h.get? b=some o->b∉ex-> ∃o',h'.get? b=some o'
 tups: ∀b xs,H b=some (.tup xs)->H' b=some (.tup xs)
 frzs: ∀b o u,H b=some (.frz o u)->H' b=some (.frz o u)
 tbls: ∀b ps,H b=some (.tbl ps)-> ∃more,H' b=some (.tbl (ps++more))
section
variable {fs eX ex ex':kb}{H H1 H2:Hp}{h h1 h2 h':gU}{a x e:gv}{o:HO}
theorem Un.any(u:Un fs ex H H1 h h1){b:gv}{ob:Obj}(q:h.get? b=some ob)(n:H b=none)(hx:b∉ex): ∃sl,h1.get? b=some {ob with slots:=sl}:=by
 by_cases hb:b∈fs
 ·exact u.slot b ob q n hb hx
 ·exact⟨ob.slots,u.keep b ob q n hb hx⟩
theorem Un.kept(k: ∀b u,h.get? b=some u->h'.get? b=some u):Un fs ex H H h h':=
 ⟨fun b ob q _ _ _=>k b ob q,fun b ob q _ _ _=>⟨ob.slots,k b ob q⟩,fun _ _ _ n _=>n,fun b ob q _=>⟨ob,k b ob q⟩,fun _ _ q=>q,fun _ _ _ q=>q,fun _ ps q=>⟨#[],by rw[q];simp⟩⟩
theorem Un.refl:Un fs ex H H h h:=Un.kept fun _ _ q=>q
theorem Un.laid(k: ∀b u,h.get? b=some u->h'.get? b=some u)(hp:h.objs.size<=a)(hn:H a=none):Un fs ex H (upd H a o) h h' where
 keep:=fun b u q _ _ _=>k b u q
 slot:=fun b u q _ _ _=>⟨u.slots,k b u q⟩
 free:=fun b u q n _=>by rw[iE (iK (mY (iq q) hp))];exact n
 there:=fun b u q _=>⟨u,k b u q⟩
 tups:=fun b xs q=>by rw[iE (md q hn)];exact q
 frzs:=fun b u xs q=>by rw[iE (md q hn)];exact q
 tbls:=fun b ps q=>⟨#[],by rw[iE (md q hn),q];simp⟩
theorem Un.write(mu:Mut (H x))(he:e=x\/H e=some (.own x))(k: ∀b u,b≠e->h.get? b=some u->h'.get? b=some u)(du: ∃u,h'.get? e=some u):Un fs ex H (upd H x o) h h':=by
 have hx: ∀b,H b=none->b≠x:=fun b n z=>by subst z;rw[n] at mu;exact mu
 have hb: ∀b,H b=none->b≠e:=fun b n z=>by
  subst z;rcases he with r|r
  ·exact hx b n r
  ·rw[n] at r;cases r
 have hm: ∀b u,H b=some u-> ¬Mut (some u)->b≠x:=fun b u q nm z=>by subst z;rw[q] at mu;exact nm mu
 refine⟨fun b u q n _ _=>k b u (hb b n) q,fun b u q n _ _=>⟨u.slots,k b u (hb b n) q⟩,fun b u q n _=>by rw[iE (hx b n)];exact n,fun b u q _=>?_,
  fun b xs q=>by rw[iE (hm b _ q fun z=>z)];exact q,fun b u xs q=>by rw[iE (hm b _ q fun z=>z)];exact q,fun b ps q=>⟨#[],by rw[iE (hm b _ q fun z=>z),q];simp⟩⟩
 by_cases cX:b=e
 ·subst cX;exact du
 ·exact⟨u,k b u cX q⟩
end
noncomputable def trk(h:gU)(H:Hp):List Addr:=(List.range h.objs.size).filter fun a=>(H a).isSome
noncomputable def BH(h:gU)(H:Hp):Heap:=PySem.W.hideAll h (trk h H)
theorem HC(h:gU)(H:Hp):(BH h H).objs.size=h.objs.size:=PySem.W.hideAll_size _ _
theorem Kw{h:gU}{H:Hp}{b:gv}{o:Obj}(e:h.get? b=some o)(n:H b=none):(BH h H).get? b=some o:=
 PySem.W.hideAll_get _ e fun hm=>by
  have q:(H b).isSome=true:=(List.mem_filter.mp hm).2;rw[n] at q;simp at q
theorem Ms{h:gU}{H:Hp}{b:gv}{o:Obj}(e:(BH h H).get? b=some o):h.get? b=some o/\H b=none:=by
 have e':h.get? b=some o:=PySem.W.of_hideAll (trk h H) e;refine⟨e',?_⟩
 cases q:H b with
 |none=>rfl
 |some x=>
  have hm:b∈trk h H:=List.mem_filter.mpr ⟨uX.mpr (iq e'),by simp[q]⟩;have z:(BH h H).get? b=none:=PySem.W.hideAll_none (trk h H) hm;rw[z] at e;cases e
noncomputable def MO(g h:gU)(L:gv):List (Addr×Obj):=(List.range h.objs.size).filterMap fun a=>if a=L\/(g.get? a).isSome=true then none else(h.get? a).map fun o=>(a,o)
noncomputable def ie(g h:gU)(L d:gv):List (Addr×Obj):=(MO g h L).filter fun p=>decide (p.1≠d)
structure Mod(K:hC)(mg:lL)(base:gU):Prop where
 kin:K.In base
 glob:base.Ns mainGlobals mg
 blt: ∃mb,base.Ns builtinsNs mb/\ ∀x:Str,x≠"__name__"->mb x=bootBuiltins x
 nolimit:base.NoLimit
structure Cx where
 prog:Program
 w:World
 K:PySem.W.Frag
 mg:Str->Option Value
 base:Heap
 A:Around
 N:List Str
 s₀:Shared
 H₀:Hp
 env:Env
 outer:List Env
 stack:List Env
 ex:List Addr
 fn:Str->Bool
 calm:Bool
 pn:List (Addr×Obj)
 xe:Value->Shared->Prop
noncomputable def frs(l:List Env):List Addr:=l.filterMap (·.frame)
abbrev Cx.fs(X:Cx):List Addr:=frs X.outer
def Vis(sc:jZ)(x:Str):Prop:=sc.names.lookup x=some .local\/sc.names.lookup x=some .cell\/sc.names.lookup x=some .free
def Loc(sc:jZ)(x:Str):Prop:=sc.names.lookup x=some .local\/sc.names.lookup x=some .cell
def S8(env:Env)(h:gU)(m:lL)(x:Str)(u:gL):Prop:=
 (env.kindOf x=some .local/\m x=some u)\/((env.kindOf x=some .cell\/env.kindOf x=some .free)/\ ∃c,env.cells.lookup x=some c/\h.IsCell c (some u))
structure Cx.Ok(X:Cx):Prop where
 mod:Mod X.K X.mg X.base
 kind:X.env.scope.kind= .function
 glob:X.env.globals=mainGlobals
 blt:X.env.builtins=builtinsNs
 above:X.s₀.heap.objs.size<=X.env.locals
 inj: ∀x y c,X.env.cells.lookup x=some c->X.env.cells.lookup y=some c->x=y
 has: ∀x,(X.env.kindOf x=some .cell\/X.env.kindOf x=some .free)-> ∃c,X.env.cells.lookup x=some c
 cab: ∀x c,X.fn x=true->X.env.cells.lookup x=some c->X.s₀.heap.objs.size<=c
 hd:X.calm=true->X.A.handled=none
 frames:X.A.frames=some X.stack
 stk:X.stack=X.outer\/(X.stack=X.env::X.outer/\X.env.frame=some X.env.locals)
 exf: ∀b∈X.ex,b≠X.env.locals/\ ∀x c,X.env.cells.lookup x=some c->c≠b
 bs: ∀b o,X.base.get? b=some o->X.s₀.heap.get? b=some o/\X.H₀ b=none
 bsz:X.base.objs.size<=X.s₀.heap.objs.size
 noex: ∀b o,X.base.get? b=some o->b∉X.ex
 exfs: ∀b∈X.ex,b∉X.fs
 funs:X.s₀.heap.FunFrames X.base X.outer
 frf: ∀b∈X.fs,X.H₀ b=none
structure Inv(X:Cx)(pins:ik)(σ:List (Option V))(H:Hp)(s:gA):Prop where
 ok:X.Ok
 os:s.os=X.s₀.os
 bare:AllBare s.gens
 base:Un X.fs X.ex X.H₀ H X.s₀.heap s.heap
 loc: ∃m,s.heap.Ns X.env.locals m/\ ∀(i:Nat) (x:Str) (v:V),X.N[i]?=some x->σ[i]?=some (some v)->Vis X.env.scope x-> ∃u,RelV v u/\S8 X.env s.heap m x u
 cell: ∀x c,X.env.cells.lookup x=some c-> ∃v,s.heap.IsCell c v
 free:H X.env.locals=none
 freeC: ∀x c,X.env.cells.lookup x=some c->H c=none
 pin: ∀p∈X.pn++pins,s.heap.get? p.1=some p.2/\H p.1=none/\p.1≠X.env.locals/\p.1∉X.fs/\ ∀v,p.2.data≠ .cell v
 hok:HOk X.prog X.w H s.heap
 len:σ.length=X.N.length
section
variable {X:Cx}{pins:ik}{σ:List (Option V)}{H H':Hp}{s:gA}{h':gU}
theorem Cx.Ok.nofr(ok:X.Ok){b:gv}{o:Obj}(e:X.base.get? b=some o):b∉X.fs:=fun hb=>by
 have:=(ok.funs.mem hb).1;rw[e] at this;cases this
theorem Inv.bs(I:Inv X pins σ H s): ∀b o,X.base.get? b=some o->s.heap.get? b=some o/\H b=none:=fun b o e=>
 ⟨I.base.keep b o (I.ok.bs b o e).1 (I.ok.bs b o e).2 (I.ok.nofr e) (I.ok.noex b o e),I.base.free b o (I.ok.bs b o e).1 (I.ok.bs b o e).2 (I.ok.noex b o e)⟩
theorem Inv.bk(I:Inv X pins σ H s): ∀b o,X.base.get? b=some o->s.heap.get? b=some o:=fun b o e=>(I.bs b o e).1
theorem Inv.mod(I:Inv X pins σ H s):Mod X.K X.mg X.base:=I.ok.mod
theorem Inv.kIn(I:Inv X pins σ H s):X.K.In s.heap:=I.ok.mod.kin.keeps I.bk
theorem Inv.lt(I:Inv X pins σ H s):X.env.locals<s.heap.objs.size:=let⟨_,hn,_⟩:=I.loc;hn.lt
theorem Inv.sz(I:Inv X pins σ H s):X.s₀.heap.objs.size<=s.heap.objs.size:=lq I.ok.above (A9 I.lt)
theorem Inv.nofs(I:Inv X pins σ H s){a:gv}(h:s.heap.objs.size<=a):a∉X.fs:=fun hb=>by
 obtain⟨_,o,ho,_⟩:=I.ok.funs.mem hb;exact absurd (mY (iq ho) (lq I.sz h)) (oR _)
theorem Inv.cne(I:Inv X pins σ H s): ∀x c,X.env.cells.lookup x=some c->c≠X.env.locals:=fun x c e z=>by
 obtain⟨v,o,ho,hd⟩:=I.cell x c e;obtain⟨m,⟨o',es,ep,ao,cW,_⟩,_⟩:=I.loc;rw[z,ao] at ho;cases ho;rw[cW] at hd;cases hd
theorem Inv.funs(I:Inv X pins σ H s):s.heap.FunFrames X.base X.outer:=by
 have all: ∀(l:List Env),(∀b∈frs l,b∈X.fs)->X.s₀.heap.FunFrames X.base l->s.heap.FunFrames X.base l:=by
  intro l
  induction l with
  |nil=>intro _ _;trivial
  |cons env r ih=>
   intro hs hl;obtain⟨hk,⟨L,o,hf,hn,ho,hd⟩,hr⟩:=hl;have hL:L∈X.fs:=hs L (by unfold frs;rw[ui,hf];exact iW);obtain⟨sl,e⟩:=I.base.slot L o ho (I.ok.frf L hL) hL fun z=>I.ok.exfs L z hL;exact⟨hk,⟨L,_,hf,hn,e,hd⟩,ih (fun b hb=>hs b (by unfold frs;rw[ui,hf];exact jd _ hb)) hr⟩
 exact all X.outer (fun _ hb=>hb) I.ok.funs
theorem Inv.stack(I:Inv X pins σ H s):s.heap.FunFrames X.base X.stack:=by
 rcases I.ok.stk with e|⟨e,hf⟩
 ·rw[e];exact I.funs
 ·rw[e];obtain⟨m,hn,_⟩:=I.loc;refine .cons (by rw[I.ok.kind];decide) hf hn ?_ I.funs;exact Heap.get?_none_of_le (lq I.ok.bsz I.ok.above)
theorem Inv.stkSub(I:Inv X pins σ H s): ∀b∈frs X.stack,b∈X.env.locals::X.fs:=fun b hb=>by
 rcases I.ok.stk with e|⟨e,hf⟩
 ·rw[e] at hb;exact jd _ hb
 ·rw[e] at hb;unfold frs at hb;rw[ui,hf] at hb;exact hb
theorem Inv.stkFree(I:Inv X pins σ H s): ∀b∈frs X.stack,H b=none:=fun b hb=>by
 rcases jj.mp (I.stkSub b hb) with e|hb
 ·rw[e];exact I.free
 ·obtain⟨_,o,ho,_⟩:=I.ok.funs.mem hb;exact I.base.free b o ho (I.ok.frf b hb) fun z=>I.ok.exfs b z hb
theorem Inv.step{g':Array GenState}{t':Nat}{d':Drawn}{ch:kb}(I:Inv X pins σ H s)
  (bL: ∀b∈ch,(b∈X.ex\/X.s₀.heap.objs.size<=b)/\b≠X.env.locals/\(∀x c,X.env.cells.lookup x=some c->c≠b)/\ ∀p∈X.pn++pins,p.1≠b)
  (keep: ∀b o,b≠X.env.locals->b∉X.fs->b∉ch->s.heap.get? b=some o->H b=none->h'.get? b=some o)
  (slot: ∀b o,b≠X.env.locals->b∈X.fs->b∉ch->s.heap.get? b=some o->H b=none-> ∃sl,h'.get? b=some {o with slots:=sl})(free: ∀b o,b∉ch->s.heap.get? b=some o->H b=none->H' b=none)
  (there: ∀b o,b∉ch->s.heap.get? b=some o-> ∃o',h'.get? b=some o')
  (tups: ∀b xs,H b=some (.tup xs)->H' b=some (.tup xs))(frzs: ∀b o u,H b=some (.frz o u)->H' b=some (.frz o u))(tbls: ∀b ps,H b=some (.tbl ps)-> ∃more,H' b=some (.tbl (ps++more)))
  (ns: ∀m,s.heap.Ns X.env.locals m->h'.Ns X.env.locals m)(hok:HOk X.prog X.w H' h')(hg:AllBare g'):
  Inv X pins σ H' {s with heap:=h',gens:=g',drawn:=d',toks:=t'}:=by
 have neL: ∀b o,X.s₀.heap.get? b=some o->b≠X.env.locals:=fun b o e=>iK (mY (iq e) I.ok.above)
 have eE: ∀b o,X.s₀.heap.get? b=some o->b∉X.ex->b∉ch:=fun b o e hx hb=>by
  rcases(bL b hb).1 with z|z
  ·exact hx z
  ·exact absurd (mY (iq e) z) (oR _)
 have cellK: ∀x c,X.env.cells.lookup x=some c-> ∀v,s.heap.IsCell c v->h'.IsCell c v:=fun x c e v ⟨o,ho,hd⟩=>by
  have bf:c∉ch:=fun z=>(bL c z).2.2.1 x c e rfl;by_cases hc:c∈X.fs
  ·obtain⟨sl,q⟩:=slot c o (I.cne x c e) hc bf ho (I.freeC x c e);exact⟨_,q,hd⟩
  ·exact⟨o,keep c o (I.cne x c e) hc bf ho (I.freeC x c e),hd⟩
 refine⟨I.ok,I.os,hg,⟨fun b o e n hb hx=>?_,fun b o e n hb hx=>?_,fun b o e n hx=>?_,fun b o e hx=>?_,fun b xs e=>tups b xs (I.base.tups b xs e),fun b o xs e=>frzs b o xs (I.base.frzs b o xs e),fun b ps e=>?_⟩,?_,fun x c e=>?_,?_,fun x c e=>?_,fun p hp=>?_,hok,I.len⟩
 ·exact keep b o (neL b o e) hb (eE b o e hx) (I.base.keep b o e n hb hx) (I.base.free b o e n hx)
 ·obtain⟨sl,e1⟩:=I.base.slot b o e n hb hx;obtain⟨sl',e2⟩:=slot b _ (neL b o e) hb (eE b o e hx) e1 (I.base.free b o e n hx);exact⟨sl',e2⟩
 ·obtain⟨o',e1⟩:=I.base.there b o e hx;exact free b o' (eE b o e hx) e1 (I.base.free b o e n hx)
 ·obtain⟨o',e1⟩:=I.base.there b o e hx;exact there b o' (eE b o e hx) e1
 ·obtain⟨m1,e1⟩:=I.base.tbls b ps e;obtain⟨m2,e2⟩:=tbls b _ e1;exact⟨m1++m2,by rw[e2,Array.append_assoc]⟩
 ·obtain⟨m,hn,hl⟩:=I.loc;refine⟨m,ns m hn,fun i x v e1 e2 e3=>?_⟩;obtain⟨u,r,l⟩:=hl i x v e1 e2 e3;refine⟨u,r,?_⟩;rcases l with l|⟨k,c,e,z⟩
  ·exact .inl l
  ·exact .inr ⟨k,c,e,cellK x c e _ z⟩
 ·obtain⟨v,z⟩:=I.cell x c e;exact⟨v,cellK x c e v z⟩
 ·obtain⟨m,⟨o,_,_,ho,_⟩,_⟩:=I.loc;exact free _ o (fun z=>(bL _ z).2.1 rfl) ho I.free
 ·obtain⟨v,o,ho,hd⟩:=I.cell x c e;exact free c o (fun z=>(bL c z).2.2.1 x c e rfl) ho (I.freeC x c e)
 ·obtain⟨e,n,ne,nf,d⟩:=I.pin p hp;have bf:p.1∉ch:=fun z=>(bL p.1 z).2.2.2 p hp rfl;exact⟨keep p.1 p.2 ne nf bf e n,free p.1 p.2 bf e n,ne,nf,d⟩
theorem Inv.un{t':Nat}(I:Inv X pins σ H s)(u:Un X.fs [] H H' s.heap h')(hok:HOk X.prog X.w H' h'):Inv X pins σ H' {s with heap:=h',toks:=t'}:=by
 obtain⟨m,⟨o,es,ep,ho,r⟩,_⟩:=id I.loc;obtain⟨sl,hL⟩:=u.any ho I.free (by simp)
 exact I.step (g':=s.gens) (d':=s.drawn) (ch:=[]) (fun _ z=>nomatch z) (fun b o _ hb _ e n=>u.keep b o e n hb (by simp)) (fun b o _ hb _ e n=>u.slot b o e n hb (by simp)) (fun b o _ e n=>u.free b o e n (by simp)) (fun b o _ e=>u.there b o e (by simp)) u.tups u.frzs u.tbls (fun m' hm=>by
  obtain⟨o',es',gh,ao,r'⟩:=hm;rw[ho] at ao;cases ao;exact⟨_,es',gh,hL,r'⟩) hok I.bare
theorem Inv.call{g':Array GenState}{t':Nat}{d':Drawn}{ch:kb}(I:Inv X pins σ H s)(u:Un (frs X.stack) ch H H' s.heap h')(hok:HOk X.prog X.w H' h')(hg:AllBare g')
  (bL: ∀b∈ch,(b∈X.ex\/X.s₀.heap.objs.size<=b)/\b≠X.env.locals/\(∀x c,X.env.cells.lookup x=some c->c≠b)/\ ∀p∈X.pn++pins,p.1≠b):
  Inv X pins σ H' {s with heap:=h',gens:=g',drawn:=d',toks:=t'}:=by
 obtain⟨m,⟨o,es,ep,ho,r⟩,_⟩:=id I.loc;obtain⟨sl,hL⟩:=u.any ho I.free fun z=>(bL _ z).2.1 rfl
 exact I.step (ch:=ch) bL (fun b o hL hb hc e n=>u.keep b o e n (fun z=>(jj.mp (I.stkSub b z)).elim hL hb) hc) (fun b o _ _ hc e n=>u.any e n hc) (fun b o hc e n=>u.free b o e n hc) (fun b o hc e=>u.there b o e hc) u.tups u.frzs u.tbls (fun m' hm=>by
  obtain⟨o',es',gh,ao,r'⟩:=hm;rw[ho] at ao;cases ao;exact⟨_,es',gh,hL,r'⟩) hok hg
theorem Inv.turned{t':Nat}{it:gv}(I:Inv X pins σ H s)(k: ∀b o,b≠it->s.heap.get? b=some o->h'.get? b=some o)(hn:H it=none)(hL:it≠X.env.locals)
  (h1:it∈X.ex\/X.s₀.heap.objs.size<=it)(h2: ∀x c,X.env.cells.lookup x=some c->c≠it)(h3: ∀p∈X.pn++pins,p.1≠it):Inv X pins σ H {s with heap:=h',toks:=t'}:=by
 have nit: ∀b u,H b=some u->b≠it:=fun b u e z=>by rw[z,hn] at e;cases e
 refine I.step (g':=s.gens) (d':=s.drawn) (ch:=[it]) (fun b hb=>?_) (fun b o _ _ hc e _=>k b o (fun z=>hc (by simp[z])) e) (fun b o _ _ hc e _=>⟨o.slots,k b o (fun z=>hc (by simp[z])) e⟩) (fun _ _ _ _ n=>n)
  (fun b o hc e=>⟨o,k b o (fun z=>hc (by simp[z])) e⟩) (fun _ _ e=>e) (fun _ _ _ e=>e) (fun b ps e=>⟨#[],by rw[e];simp⟩) (fun m hm=>?_) (fun b u e=>?_) I.bare
 ·have e:b=it:=by simpa using hb
  subst e;exact⟨h1,hL,h2,h3⟩
 ·obtain⟨o,es,ep,ho,r⟩:=hm;exact⟨o,es,ep,k _ o (pV hL) ho,r⟩
 ·refine(I.hok b u e).stay (fun c v hc q=>k c v ?_ q) (fun _ q=>q) fun _ _ q=>q;rcases hc with z|z
  ·rw[z];exact nit b u e
  ·exact nit c _ z
theorem Inv.tok(I:Inv X pins σ H s)(t:Nat):Inv X pins σ H {s with toks:=t}:=I.un (h':=s.heap) (t':=t) Un.refl I.hok
theorem Inv.kept{t':Nat}(I:Inv X pins σ H s)(k: ∀b u,s.heap.get? b=some u->h'.get? b=some u):Inv X pins σ H {s with heap:=h',toks:=t'}:=I.un (Un.kept k) (I.hok.kept k)
theorem Inv.laid{a:gv}{o:HO}{t':Nat}(I:Inv X pins σ H s)(k: ∀b u,s.heap.get? b=some u->h'.get? b=some u)(hp:s.heap.objs.size<=a)(new:ObjOk X.prog X.w (upd H a o) h' a o):
  Inv X pins σ (upd H a o) {s with heap:=h',toks:=t'}:=I.un (Un.laid k hp (I.hok.fresh hp)) (I.hok.laid k hp new)
theorem Inv.write{x e:gv}{o:HO}{t':Nat}(I:Inv X pins σ H s)(mu:Mut (H x))(he:e=x\/H e=some (.own x))(k: ∀b u,b≠e->s.heap.get? b=some u->h'.get? b=some u)(du: ∃u,h'.get? e=some u)
  (new:ObjOk X.prog X.w (upd H x o) h' x o):Inv X pins σ (upd H x o) {s with heap:=h',toks:=t'}:=I.un (Un.write mu he k du) (I.hok.write mu he k du new)
theorem Inv.pins_of{pins':ik}(I:Inv X pins σ H s)(h: ∀p∈pins',s.heap.get? p.1=some p.2/\H p.1=none/\p.1≠X.env.locals/\p.1∉X.fs/\ ∀v,p.2.data≠ .cell v):Inv X pins' σ H s:=
 ⟨I.ok,I.os,I.bare,I.base,I.loc,I.cell,I.free,I.freeC,fun p hp=>(lK.mp hp).elim (fun z=>I.pin p (IE _ z)) (h p),I.hok,I.len⟩
theorem CS{N:iG}(hN:N.Nodup){i j:Nat}{x:Str}(a:N[i]?=some x)(b:N[j]?=some x):i=j:=by
 obtain⟨h1,e1⟩:=uY.mp a;obtain⟨h2,e2⟩:=uY.mp b;exact(List.getElem_inj hN).mp (e1.trans e2.symm)
theorem G3{M:Model}{A:gW}{E:hV}{i:Nat}{x:Str}{v:V}{u:gL}{Q:Unit->Shared->Prop}(I:Inv X pins σ H s)(hN:X.N.Nodup)(hi:X.N[i]?=some x)(hx:Loc X.env.scope x)(r:RelV v u)
  (h: ∀s',Inv X pins (σ.set i (some v)) H s'->(∃a,Heap.SameBut a s.heap s'.heap/\(a=X.env.locals\/X.env.cells.lookup x=some a))->Q () s')(hf:X.fn x=true\/X.env.scope.names.lookup x=some .local:=by first|exact .inl rfl|exact .inr rfl|assumption):wpAny M A (storeName X.env x u) Q E s:=by
 obtain⟨m,hn,hl⟩:=id I.loc;have hcls:(X.env.scope.kind== .class||(X.env.scope.kind== .module&&X.env.locals !=X.env.globals))=false:=by rw[I.ok.kind];rfl
 have hiσ:i<σ.length:=by rw[I.len];exact(uY.mp hi).1
 have cne:=I.cne
 have tracked: ∀{a:gv} {h':gU},(∃o,s.heap.get? a=some o/\H a=none)->Heap.SameBut a s.heap h'->HOk X.prog X.w H h':=fun {a h'} ha hs b ob e=>by
  obtain⟨_,_,n4⟩:=ha;refine(I.hok b ob e).stay (fun c w' hc q=>(hs.2 c ?_).trans q) (fun _ q=>q) fun _ _ q=>q;rintro rfl;rcases hc with rfl|hc
  ·rw[n4] at e;cases e
  ·rw[n4] at hc;cases hc
 rcases hx with hk|hk
 ·refine wpAny_storeName_local hk hn (fun h' hn' hs=>?_) hcls;obtain⟨oL,_,_,hoL,_⟩:=id hn;refine h _ ⟨I.ok,I.os,I.bare,⟨fun b o e n hb hx=>?_,fun b o e n hb hx=>?_,I.base.free,fun b o e hx=>?_,I.base.tups,I.base.frzs,I.base.tbls⟩,⟨_,hn',fun j y v' e1 e2 e3=>?_⟩,fun y c e=>?_,I.free,I.freeC,fun p hp=>?_,tracked ⟨oL,hoL,I.free⟩ hs,by simpa using I.len⟩ ⟨_,hs,.inl rfl⟩
  ·exact(hs.2 b (iK (mY (iq e) I.ok.above))).trans (I.base.keep b o e n hb hx)
  ·obtain⟨sl,e1⟩:=I.base.slot b o e n hb hx;exact⟨sl,(hs.2 b (iK (mY (iq e) I.ok.above))).trans e1⟩
  ·obtain⟨o',e1⟩:=I.base.there b o e hx;exact⟨o',(hs.2 b (iK (mY (iq e) I.ok.above))).trans e1⟩
  ·by_cases hj:j=i
   ·subst hj;rw[hi] at e1;cases e1;rw[qo hiσ] at e2;cases e2;exact⟨u,r,.inl ⟨hk,by simp⟩⟩
   ·rw[rX (pV hj)] at e2;obtain⟨u',r',q⟩:=hl j y v' e1 e2 e3;refine⟨u',r',?_⟩;rcases q with⟨k,e⟩|⟨k,c,e,z⟩
    ·refine .inl ⟨k,?_⟩;have:y≠x:=fun e=>hj (CS hN e1 (e▸hi));simp[this,e]
    ·exact .inr ⟨k,c,e,z.sameBut hs (cne y c e)⟩
  ·obtain⟨w',z⟩:=I.cell y c e;exact⟨w',z.sameBut hs (cne y c e)⟩
  ·obtain⟨e,n,ne,nf,d⟩:=I.pin p hp;exact⟨(hs.2 p.1 ne).trans e,n,ne,nf,d⟩
 ·have fU:X.fn x=true:=by
   rcases hf with z|z
   ·exact z
   ·rw[z] at hk;cases hk
  obtain⟨c,hc⟩:=I.ok.has x (.inl hk);obtain⟨w',z⟩:=I.cell x c hc;refine wpAny_storeName_cell I.ok.kind hk hc z (fun h' bM hs=>?_);obtain⟨oc,hoc,hocd⟩:=id z;refine h {s with heap:=h'} ⟨I.ok,I.os,I.bare,⟨fun b o e n hb hx=>?_,fun b o e n hb hx=>?_,I.base.free,fun b o e hx=>?_,I.base.tups,I.base.frzs,I.base.tbls⟩,⟨m,hn.sameBut hs (pV (cne x c hc)),fun j y v' e1 e2 e3=>?_⟩,fun y c' e=>?_,I.free,I.freeC,fun p hp=>?_,tracked ⟨oc,hoc,I.freeC x c hc⟩ hs,by simpa using I.len⟩ ⟨c,hs,.inr hc⟩
  ·exact(hs.2 b (iK (mY (iq e) (I.ok.cab x c fU hc)))).trans (I.base.keep b o e n hb hx)
  ·obtain⟨sl,e1⟩:=I.base.slot b o e n hb hx;exact⟨sl,(hs.2 b (iK (mY (iq e) (I.ok.cab x c fU hc)))).trans e1⟩
  ·obtain⟨o',e1⟩:=I.base.there b o e hx;exact⟨o',(hs.2 b (iK (mY (iq e) (I.ok.cab x c fU hc)))).trans e1⟩
  ·by_cases hj:j=i
   ·subst hj;rw[hi] at e1;cases e1;rw[qo hiσ] at e2;cases e2;exact⟨u,r,.inr ⟨.inl hk,c,hc,bM⟩⟩
   ·rw[rX (pV hj)] at e2;obtain⟨u',r',q⟩:=hl j y v' e1 e2 e3;refine⟨u',r',?_⟩;rcases q with q|⟨k,c',e,z'⟩
    ·exact .inl q
    ·refine .inr ⟨k,c',e,z'.sameBut hs ?_⟩;rintro rfl;exact hj (CS hN e1 (I.ok.inj _ _ _ e hc▸hi))
  ·by_cases aa:c'=c
   ·subst aa;exact⟨_,bM⟩
   ·obtain⟨w2,z2⟩:=I.cell y c' e;exact⟨w2,z2.sameBut hs aa⟩
  ·obtain⟨e,n,ne,nf,d⟩:=I.pin p hp;refine⟨(hs.2 p.1 ?_).trans e,n,ne,nf,d⟩;intro q;rw[q,hoc] at e;have q':oc=p.2:=iO e;exact d w' (by rw[<-q'];exact hocd)
theorem Cp{M:Model}{A:gW}{E:hV}{i:Nat}{x:Str}{v:V}{u:gL}{Q:Unit->Shared->Prop}(I:Inv X pins σ H s)(hN:X.N.Nodup)(hi:X.N[i]?=some x)(hx:Loc X.env.scope x)(r:RelV v u)
  (h: ∀s',Inv X pins (σ.set i (some v)) H s'->Q () s')(hf:X.fn x=true\/X.env.scope.names.lookup x=some .local:=by first|exact .inl rfl|exact .inr rfl|assumption):wpAny M A (storeName X.env x u) Q E s:=
 G3 I hN hi hx r (fun s' I' _=>h s' I') hf
theorem Inv.call'{s':gA}{ch:kb}(I:Inv X pins σ H s)(ho:s'.os=s.os)(u:Un (frs X.stack) ch H H' s.heap s'.heap)(hok:HOk X.prog X.w H' s'.heap)(hg:AllBare s'.gens)
  (bL: ∀b∈ch,(b∈X.ex\/X.s₀.heap.objs.size<=b)/\b≠X.env.locals/\(∀x c,X.env.cells.lookup x=some c->c≠b)/\ ∀p∈X.pn++pins,p.1≠b):Inv X pins σ H' s':=by
 obtain⟨h',g',d',t',o'⟩:=s';have e:o'=s.os:=ho;subst e;exact I.call (g':=g') (t':=t') (d':=d') u hok hg bL
end
abbrev XK:=Value->Option Addr->Hp->Prop
abbrev St:=List (Option V)
abbrev VK:=V->Hp->Prop
abbrev TE:=St->Hp->VK->Prop
abbrev TT:=St->Hp->(Bool->Hp->Prop)->Prop
abbrev TA:=St->Hp->(List V->Hp->Prop)->Prop
structure Ends where
 nx:St->Hp->Prop
 rt:VK
 bk:St->Hp->Prop:=fun _ _=>False
 ct:St->Hp->Prop:=fun _ _=>False
abbrev TS:=Ends->St->Hp->Prop
def EP(X:Cx)(pins:ik)(σ:St)(Q:VK)(u:gL)(s':gA):Prop:= ∃v H',Inv X pins σ H' s'/\RelV v u/\Q v H'
def TP(X:Cx)(pins:ik)(σ:St)(Q:Bool->Hp->Prop)(b:Bool)(s':gA):Prop:= ∃H',Inv X pins σ H' s'/\Q b H'
def AP(X:Cx)(pins:ik)(σ:St)(Q:List V->Hp->Prop)(us:iL)(s':gA):Prop:= ∃vs H',Inv X pins σ H' s'/\Vals vs us/\Q vs H'
def SP(X:Cx)(pins:ik)(D:Ends)(f:Flow)(s':gA):Prop:=
 match f with
 | .next=> ∃σ' H',Inv X pins σ' H' s'/\D.nx σ' H'
 | .brk=> ∃σ' H',Inv X pins σ' H' s'/\D.bk σ' H'
 | .cont=> ∃σ' H',Inv X pins σ' H' s'/\D.ct σ' H'
 | .ret u=> ∃v σ' H',Inv X pins σ' H' s'/\RelV v u/\D.rt v H'
def PE(X:Cx)(e:gM)(t:TE):Prop:=
 ∀(pins:ik) (s:gA) (σ:St) (H:Hp) (Q:VK),Inv X pins σ H s->t σ H Q->wpAny (model X.prog X.w) X.A (eval e X.env) (EP X pins σ Q) X.xe s
def PT(X:Cx)(e:gM)(t:TT):Prop:=
 ∀(pins:ik) (s:gA) (σ:St) (H:Hp) (Q:Bool->Hp->Prop),Inv X pins σ H s->t σ H Q->wpAny (model X.prog X.w) X.A (isTrue e X.env (eval e X.env)) (TP X pins σ Q) X.xe s
def PW(X:Cx)(e:gM)(t:TT):Prop:=
 ∀(whole:Sem Value) (pins:ik) (s:gA) (σ:St) (H:Hp) (Q:Bool->Hp->Prop),Inv X pins σ H s->t σ H Q->wpAny (model X.prog X.w) X.A (isTrue e X.env whole) (TP X pins σ Q) X.xe s
theorem PW.pt{X:Cx}{e:gM}{t:TT}(h:PW X e t):PT X e t:=h _
def PA(X:Cx)(es:jF)(t:TA):Prop:=
 ∀(pos:Pos) (pins:ik) (s:gA) (σ:St) (H:Hp) (Q:List V->Hp->Prop),Inv X pins σ H s->t σ H Q->wpAny (model X.prog X.w) X.A (spliced (backTo pos (starEach es X.env))) (AP X pins σ Q) X.xe s
def PS(X:Cx)(st:Stmt)(t:TS):Prop:=
 ∀(pins:ik) (s:gA) (σ:St) (H:Hp) (D:Ends),Inv X pins σ H s->t D σ H->wpAny (model X.prog X.w) X.A (exec st X.env) (SP X pins D) X.xe s
def PSs(X:Cx)(st:List Stmt)(t:TS):Prop:=
 ∀(pins:ik) (s:gA) (σ:St) (H:Hp) (D:Ends),Inv X pins σ H s->t D σ H->wpAny (model X.prog X.w) X.A (execs st X.env) (SP X pins D) X.xe s
theorem thn{α:Type}{t:Sem α}{Q Q':α->Shared->Prop}{M:Model}{A:gW}{E:hV}{s:gA}(h:wpAny M A t Q E s)(hQ: ∀a s,Q a s->Q' a s):wpAny M A t Q' E s:=pU h hQ fun _ _ x=>x
section
variable {X:Cx}
def RC(i:Nat):TE:=fun σ H Q=> ∃v,σ[i]?=some (some v)/\Q v H
noncomputable def tC(v:V):TE:=fun _ H Q=>Q v H
theorem EO{i:Nat}{x:Str}{pos:Pos}(hN:X.N[i]?=some x)(hv:Vis X.env.scope x)(hd:(x==("__debug__":Str))=false:=by decide)(y7:(x==("__classdict__":Str))=false:=by decide):PE X (.Name x pos) (RC i):=by
 intro pins s σ H Q I h;obtain⟨v,e,h⟩:=h;obtain⟨m,hn,hl⟩:=I.loc;obtain⟨u,r,l⟩:=hl i x v hN e hv;have fin:EP X pins σ Q u s:=⟨v,H,I,r,h⟩
 rcases l with⟨hk,hm⟩|⟨hk,c,hc,aB⟩
 ·exact wpAny_Name (wpAny_loadName_local I.ok.kind hk hn hm fin) hd
 ·rcases hk with hk|hk
  ·exact wpAny_Name (wpAny_loadName_cell I.ok.kind hk hc aB fin) hd
  ·exact wpAny_Name (wpAny_loadName_free I.ok.kind hk hc aB fin y7) hd
theorem Ox{i j pos}:PE X (.Constant (.int i) j pos) (tC (.int i)):=fun _ _ _ H _ I h=>wpAny_Constant_int ⟨.int i,H,I.tok _,⟨_,rfl⟩,h⟩
theorem Qk{b j pos}:PE X (.Constant (.bool b) j pos) (tC (.bl b)):=fun _ _ _ H _ I h=>Constant_bool ⟨.bl b,H,I,rfl,h⟩
theorem Ov{j pos}:PE X (.Constant .none j pos) (tC .non):=fun _ _ _ H _ I h=>Constant_none ⟨.non,H,I,rfl,h⟩
theorem Oq{x j pos}:PE X (.Constant (.str x) j pos) (tC (.str x)):=fun _ _ _ H _ I h=>Calls.Constant_str ⟨.str x,H,I.tok _,⟨_,rfl⟩,h⟩
def Gl(X:Cx)(x:Str):Prop:=X.env.kindOf x=some .globalImplicit
theorem Gs{E:hV}{pins:ik}{s:gA}{σ:St}{H:Hp}{x:Str}{u:gL}{pos:Pos}{Q:hV}(I:Inv X pins σ H s)(hg:Gl X x)(hm:X.mg x=some u)(h:Q u s)
  (hd:(x==("__debug__":Str))=false:=by decide):wpAny (model X.prog X.w) X.A (eval (.Name x pos) X.env) Q E s:=
 ID I.ok.kind hg (Calls.loadGlobal_global (by rw[I.ok.glob];exact I.mod.glob.keeps I.bk) hm h) hd
theorem vM{E:hV}{pins:ik}{s:gA}{σ:St}{H:Hp}{x:Str}{u:gL}{pos:Pos}{Q:hV}(I:Inv X pins σ H s)(hg:Gl X x)(hm:X.mg x=none)(hv:bootBuiltins x=some u)(h:Q u s)
  (hn:x≠"__name__":=by decide)(hd:(x==("__debug__":Str))=false:=by decide):wpAny (model X.prog X.w) X.A (eval (.Name x pos) X.env) Q E s:=by
 obtain⟨mb,h1,h2⟩:=I.mod.blt;exact ID I.ok.kind hg (Calls.loadGlobal_builtin (by rw[I.ok.glob];exact I.mod.glob.keeps I.bk) hm (by rw[I.ok.blt];exact h1.keeps I.bk) ((h2 x hn).trans hv) h) hd
theorem Mg{x:Str}{v:V}{u:gL}{pos:Pos}(hg:Gl X x)(hm:X.mg x=some u)(r:RelV v u)(hd:(x==("__debug__":Str))=false:=by decide):PE X (.Name x pos) (tC v):=
 fun _ _ _ H _ I h=>Gs I hg hm ⟨v,H,I,r,h⟩ hd
theorem Mj{x:Str}{v:V}{u:gL}{pos:Pos}(hg:Gl X x)(hm:X.mg x=none)(hv:bootBuiltins x=some u)(r:RelV v u)(hn:x≠"__name__":=by decide)(hd:(x==("__debug__":Str))=false:=by decide):PE X (.Name x pos) (tC v):=
 fun _ _ _ H _ I h=>vM I hg hm hv ⟨v,H,I,r,h⟩ hn hd
def t2I(ta tb:TE)(k:Int->Int->Hp->Prop):St->Hp->Prop:=fun σ H=>ta σ H fun x H1=>tb σ H1 fun y H2=> ∃i j,x= .int i/\y= .int j/\k i j H2
variable {a b:gM}{ta tb:TE}{pos:Pos}
noncomputable def tCmp(p:Int->Int->Bool)(ta tb:TE):TE:=fun σ H Q=>t2I ta tb (fun i j H2=>Q (.bl (p i j)) H2) σ H
def tB(t:TE):TT:=fun σ H Q=>t σ H fun x H1=> ∃c,x= .bl c/\Q c H1
theorem Oc{e:gM}{t:TE}(h:PE X e t)(he: ∀whole,isTrue e X.env whole=(do let v <-whole;standAt e.pos;holding [v] (truthy v)):=by intro _;rfl):PT X e (tB t):=by
 intro pins s σ H Q I hw;refine isTrue_plain (thn (h pins s σ H _ I hw) fun v s1 ⟨x,H1,I1,r1,q1⟩=>?_) (he _);obtain⟨d,rfl,q⟩:=q1;cases r1;exact qz ⟨H1,I1,q⟩
variable {tA tB':TT}{ie:jF}
noncomputable def tOr(t u:TT):TT:=fun σ H Q=>t σ H fun c H1=>if c=true then Q true H1 else u σ H1 Q
noncomputable def tNot(t:TT):TT:=fun σ H Q=>t σ H fun c H1=>Q (!c) H1
theorem Oa(ha:PT X a tA):PW X (.BoolOp .Or [a] pos) tA:=by
 intro wh pins s σ H Q I h;refine isTrue_or (thn (ha pins s σ H Q I h) fun c s1 e=>?_)
 cases c with
 |false=>exact isTrue_or_nil e
 |true=>exact e
theorem Qg(ha:PT X a tA)(hb:PW X (.BoolOp .Or (b::ie) pos) tB'):PW X (.BoolOp .Or (a::b::ie) pos) (tOr tA tB'):=by
 intro wh pins s σ H Q I h;refine isTrue_or (thn (ha pins s σ H _ I h) fun c s1 ⟨H1,I1,q1⟩=>?_)
 cases c with
 |true=>exact⟨H1,I1,q1⟩
 |false=>exact hb wh pins s1 σ H1 Q I1 q1
theorem Od(ha:PT X a tA):PT X (.UnaryOp .Not a pos) (tNot tA):=by
 intro pins s σ H Q I h;exact isTrue_not (ha pins s σ H (fun c H1=>Q (!c) H1) I h)
def PU(ta tb:TE):TE:=fun σ H Q=>ta σ H fun x H1=> ∃c,x= .bl c/\if c=true then tb σ H1 Q else Q (.bl false) H1
def PJ(ta:TE):TE:=fun σ H Q=>ta σ H fun x H1=> ∃c,x= .bl c/\Q (.bl (!c)) H1
theorem Ot{op}{t:TE}(h:PE X a t):PE X (.BoolOp op [a] pos) t:=fun pins s σ H Q I hw=>BoolOp_one (h pins s σ H Q I hw)
theorem Oy(ha:PE X a ta)(hb:PE X (.BoolOp .And (b::ie) pos) tb):PE X (.BoolOp .And (a::b::ie) pos) (PU ta tb):=by
 intro pins s σ H Q I h;refine BoolOp_and (thn (ha pins s σ H _ I h) fun v s1 ⟨x,H1,I1,r1,q1⟩=>?_);obtain⟨c,rfl,q1⟩:=q1;cases r1;refine qz ?_
 cases c with
 |true=>exact hb pins s1 σ H1 Q I1 q1
 |false=>exact⟨.bl false,H1,I1,rfl,q1⟩
theorem Ou(ha:PE X a ta):PE X (.UnaryOp .Not a pos) (PJ ta):=by
 intro pins s σ H Q I h;refine UnaryOp_ (thn (ha pins s σ H _ I h) fun v s1 ⟨x,H1,I1,r1,q1⟩=>?_);obtain⟨c,rfl,q1⟩:=q1;cases r1;exact not_of (qz ⟨.bl (!c),H1,I1,rfl,q1⟩)
end
def SqL(K:hC)(H:Hp)(a:gv)(xs:List V):Prop:=
 Rd H a (.lst xs)\/
  ∃(o:Obj) (b6:jW) (n:Nat),K.lookup a=some o/\o.cls= .type "list"/\o.dict=none/\o.data= .seq b6 n/\b6.size<=sizeLine/\Vals xs b6.toList
def SqT(K:hC)(H:Hp)(a:gv)(xs:List V):Prop:=
 Rd H a (.tup xs)\/
  ∃(o:Obj) (b6:jW) (n:Nat),K.lookup a=some o/\o.cls= .type "tuple"/\o.data= .seq b6 n/\b6.size<=sizeLine/\Vals xs b6.toList
noncomputable def S0:Value->Option V
 | .none=>some .non
 | .bool b=>some (.bl b)
 | .int i _=>some (.int i)
 | .str x _=>some (.str x)
 | .bytes b _=>some (.byt b)
 | .float b _=>some (.flt b)
 | .ref a=>some (.ref a)
 | .type n=>some (.ty n)
 |_=>none
theorem RelV.abs{x:V}{u:gL}(r:RelV x u):S0 u=some x:=by
 cases x with
 |non=>cases r;rfl
 |bl _=>cases r;rfl
 |int _=>obtain⟨t,rfl⟩:=r;rfl
 |str _=>obtain⟨t,rfl⟩:=r;rfl
 |byt _=>obtain⟨t,rfl⟩:=r;rfl
 |flt _=>obtain⟨t,rfl⟩:=r;rfl
 |ref _=>cases r;rfl
 |ty _=>cases r;rfl
theorem RelV.inj{x y:V}{u:gL}(r:RelV x u)(q:RelV y u):x=y:=iO (r.abs.symm.trans q.abs)
theorem Vals.inj: ∀{xs ys:List V} {us:iL},Vals xs us->Vals ys us->xs=ys
 |_,_,_,.nil,.nil=>rfl
 |_,_,_,.cons r t,.cons r' t'=>by rw[r.inj r',Vals.inj t t']
section
variable {X:Cx}{pins:ik}{σ:St}{H:Hp}{s:gA}{a:gv}{xs ys:List V}
theorem SqL.of{K:hC}(h:H a=some (.lst xs)):SqL K H a xs:= .inl (.inl h)
theorem Inv.list(I:Inv X pins σ H s)(h:SqL X.K H a xs): ∃b6:List Value,Vals xs b6/\PlainL s.heap a b6.toArray/\xs.length<=sizeLine:=by
 rcases h with h|⟨o,b6,n,hk,hc,hd,hs,hz,r⟩
 ·obtain⟨z,b6,n,r,e⟩:=h.ok I.hok;exact⟨b6,r,⟨_,n,e,rfl,rfl,rfl⟩,z⟩
 ·refine⟨b6.toList,r,⟨o,n,I.kIn a o hk,hc,hd,by simpa using hs⟩,?_⟩;have e:=r.length;simp only[jo] at e
  lia
theorem Inv.tuple(I:Inv X pins σ H s)(h:SqT X.K H a xs): ∃b6:List Value,Vals xs b6/\IsTup s.heap a b6.toArray/\xs.length<=sizeLine:=by
 rcases h with h|⟨o,b6,n,hk,hc,hs,hz,r⟩
 ·obtain⟨z,b6,r,p⟩:=h.ok I.hok;exact⟨b6,r,p,z⟩
 ·refine⟨b6.toList,r,⟨o,I.kIn a o hk,hc,n,by simpa using hs⟩,?_⟩;have e:=r.length;simp only[jo] at e
  lia
theorem Inv.list_inj(I:Inv X pins σ H s)(h:SqL X.K H a xs)(h':SqL X.K H a ys):xs=ys:=by
 obtain⟨b6,r,⟨o,n,e,_,_,d⟩,_⟩:=I.list h;obtain⟨its',r',⟨o',n',e',_,_,d'⟩,_⟩:=I.list h';rw[e] at e';cases e';rw[d] at d';injection d' with d1 _
 have:b6=its':=by simpa using rW Array.toList d1
 subst this;exact r.inj r'
theorem Inv.tuple_inj(I:Inv X pins σ H s)(h:SqT X.K H a xs)(h':SqT X.K H a ys):xs=ys:=by
 obtain⟨b6,r,⟨o,e,_,n,d⟩,_⟩:=I.tuple h;obtain⟨its',r',⟨o',e',_,n',d'⟩,_⟩:=I.tuple h';rw[e] at e';cases e';rw[d] at d';injection d' with d1 _
 have:b6=its':=by simpa using rW Array.toList d1
 subst this;exact r.inj r'
end
abbrev Cx.wish(X:Cx)(E:hV):Cx:={X with xe:=E}
abbrev Cx.nox(X:Cx):Cx:=X.wish fun _ _=>False
theorem Cx.Ok.wish{X:Cx}(ok:X.Ok)(E:hV):(X.wish E).Ok:=
 ⟨ok.mod,ok.kind,ok.glob,ok.blt,ok.above,ok.inj,ok.has,ok.cab,ok.hd,ok.frames,ok.stk,ok.exf,ok.bs,ok.bsz,ok.noex,ok.exfs,ok.funs,ok.frf⟩
theorem Cx.Ok.unwish{X:Cx}{E:hV}(ok:(X.wish E).Ok):X.Ok:=
 ⟨ok.mod,ok.kind,ok.glob,ok.blt,ok.above,ok.inj,ok.has,ok.cab,ok.hd,ok.frames,ok.stk,ok.exf,ok.bs,ok.bsz,ok.noex,ok.exfs,ok.funs,ok.frf⟩
section
variable {X:Cx}{pins:ik}{σ:St}{H:Hp}{s:gA}{E:hV}
theorem Inv.wish(I:Inv X pins σ H s)(E:hV):Inv (X.wish E) pins σ H s:=⟨I.ok.wish E,I.os,I.bare,I.base,I.loc,I.cell,I.free,I.freeC,I.pin,I.hok,I.len⟩
theorem Inv.unwish(I:Inv (X.wish E) pins σ H s):Inv X pins σ H s:=⟨I.ok.unwish,I.os,I.bare,I.base,I.loc,I.cell,I.free,I.freeC,I.pin,I.hok,I.len⟩
theorem SP.unwish{D:Ends}{f:Flow}{s':gA}(h:SP (X.wish E) pins D f s'):SP X pins D f s':=by
 cases f with
 |next=>obtain⟨σ',H',I,q⟩:=h;exact⟨σ',H',I.unwish,q⟩
 |brk=>obtain⟨σ',H',I,q⟩:=h;exact⟨σ',H',I.unwish,q⟩
 |cont=>obtain⟨σ',H',I,q⟩:=h;exact⟨σ',H',I.unwish,q⟩
 |ret u=>obtain⟨v,σ',H',I,r,q⟩:=h;exact⟨v,σ',H',I.unwish,r,q⟩
theorem PSs.nox{st:List Stmt}{t:TS}(h:PSs X.nox st t):PSs X st t:=fun pins s σ H D I hw=>
 pU (h pins s σ H D (I.wish _) hw) (fun _ _ q=>q.unwish) fun _ _ z=>False.elim z
end
section
variable {X:Cx}{st:Stmt}{ie:List Stmt}{t u:TS}{e:gM}{te:TE}{pos:Pos}
noncomputable def PK:TS:=fun D σ H=>D.nx σ H
noncomputable def RE(t u:TS):TS:=fun D σ H=>t {D with nx:=u D} σ H
theorem L7:PSs X [] PK:=fun _ _ σ H _ I h=>El ⟨σ,H,I,h⟩
theorem JD(h1:PS X st t)(h2:PSs X ie u):PSs X (st::ie) (RE t u):=by
 intro pins s σ H D I h;refine wpAny_execs_cons (thn (h1 pins s σ H {D with nx:=u D} I h) fun f s1 q=>?_)
 cases f with
 |next=>
  obtain⟨σ',H',I',q⟩:=q;exact h2 pins s1 σ' H' D I' q
 |ret v=>exact q
 |brk=>exact q
 |cont=>exact q
theorem Inv.quiet{pins:ik}{σ:St}{H:Hp}{s:gA}(I:Inv X pins σ H s):interactive X.env=false:=by simp[interactive,I.ok.kind]
noncomputable def PM(te:TE):TS:=fun D σ H=>te σ H fun _ H1=>D.nx σ H1
theorem L8(he:PE X e te)(hs:swapsWith e none pos.line X.env=pure false:=by rfl):PS X (.Expr e pos) (PM te):=by
 intro pins s σ H D I h;exact wpAny_Expr_any (thn (he pins s σ H _ I h) fun v s1 ⟨x,H1,I1,r1,q1⟩=>⟨σ,H1,I1,q1⟩) I.quiet hs
noncomputable def RG(te:TE):TS:=fun D σ H=>te σ H D.rt
theorem JF(he:PE X e te):PS X (.Return (some e) pos) (RG te):=by
 intro pins s σ H D I h;exact wpAny_Return_some (thn (he pins s σ H _ I h) fun v s1 ⟨x,H1,I1,r1,q1⟩=>⟨x,σ,H1,I1,r1,q1⟩)
noncomputable def RJ(c:TT)(t u:TS):TS:=fun D σ H=>c σ H fun b H1=>if b=true then t D σ H1 else u D σ H1
theorem Qh{c:gM}{a b:List Stmt}{tc:TT}(hc:PT X c tc)(ha:PSs X a t)(hb:PSs X b u):PS X (.If c a b pos) (RJ tc t u):=by
 intro pins s σ H D I h;refine wpAny_If (thn (hc pins s σ H _ I h) fun d s1 ⟨H1,I1,q1⟩=>?_)
 cases d with
 |true=>exact ha pins s1 σ H1 D I1 q1
 |false=>exact hb pins s1 σ H1 D I1 q1
end
abbrev TG:=V->St->Hp->(St->Hp->Prop)->Prop
abbrev TGs:=List V->St->Hp->(St->Hp->Prop)->Prop
def PG(X:Cx)(target:gM)(t:TG):Prop:=
 ∀(pins:ik) (s:gA) (σ:St) (H:Hp) (v:V) (u:gL) (Q:St->Hp->Prop),Inv X pins σ H s->RelV v u->t v σ H Q->
  wpAny (model X.prog X.w) X.A (assign target X.env u) (fun _ s'=> ∃σ' H',Inv X pins σ' H' s'/\Q σ' H') X.xe s
def PGs(X:Cx)(ts:jF)(t:TGs):Prop:=
 ∀(pins:ik) (s:gA) (σ:St) (H:Hp) (vs:List V) (us:iL) (Q:St->Hp->Prop),Inv X pins σ H s->Vals vs us->t vs σ H Q->
  wpAny (model X.prog X.w) X.A (assignInOrder ((assignEach ts X.env).map (·.2)) us) (fun _ s'=> ∃σ' H',Inv X pins σ' H' s'/\Q σ' H') X.xe s
abbrev MS:=V->V->V->Hp->(Hp->Prop)->Prop
def Po(X:Cx)(t:MS):Prop:=
 ∀(pins:ik) (s:gA) (σ:St) (H:Hp) (o i v:V) (ov iv u:gL) (Q:Hp->Prop),Inv X pins σ H s->RelV o ov->RelV i iv->RelV v u->t o i v H Q->
  wpAny (model X.prog X.w) X.A (setItem ov iv u) (fun _ s'=> ∃H',Inv X pins σ H' s'/\Q H') X.xe s
section
variable {X:Cx}{pos:Pos}
noncomputable def C6(i:Nat):TG:=fun v σ H Q=>Q (σ.set i (some v)) H
theorem Gf{i:Nat}{x:Str}(hN:X.N.Nodup)(hi:X.N[i]?=some x)(hx:Loc X.env.scope x)(hf:X.fn x=true\/X.env.scope.names.lookup x=some .local:=by first|exact .inl rfl|exact .inr rfl|assumption):PG X (.Name x pos) (C6 i):=by
 intro pins s σ H v u Q I r h;exact wpAny_assign_Name (Cp I hN hi hx r (fun s' I'=>⟨_,H,I',h⟩) hf)
noncomputable def SW:TGs:=fun vs σ H Q=>vs=[]/\Q σ H
def QR(t:TG)(u:TGs):TGs:=fun vs σ H Q=> ∃v r,vs=v::r/\t v σ H fun σ' H'=>u r σ' H' Q
theorem Mf:PGs X [] SW:=by
 intro pins s σ H vs us Q I r h;obtain⟨e,h⟩:=h;subst e;cases r;exact assignInOrder_nil ⟨σ,H,I,h⟩
theorem JQ{e:gM}{es:jF}{t:TG}{u:TGs}(h1:PG X e t)(h2:PGs X es u)
  (hs:(assignEach (e::es) X.env).map (·.2)=assign e X.env::(assignEach es X.env).map (·.2):=by rfl):PGs X (e::es) (QR t u):=by
 intro pins s σ H vs us Q I r h;obtain⟨v,vr,e1,h⟩:=h;subst e1
 cases r with
 |cons r rr=>
  rw[hs];refine assignInOrder_cons (thn (h1 pins s σ H _ _ _ I r h) fun _ s1 ⟨σ1,H1,I1,q1⟩=>?_);exact h2 pins s1 σ1 H1 _ _ Q I1 rr q1
def SV(K:hC)(n:Nat)(t:TGs):TG:=fun v σ H Q=> ∃a xs,v= .ref a/\SqT K H a xs/\xs.length=n/\t xs σ H Q
theorem Om{es:jF}{k:Nat}{t:TGs}{n:Nat}(hc:X.calm=true)(h:PGs X es t)
  (hn:(assignEach es X.env).length=n:=by rfl)(t8:(assignEach es X.env).findIdx? (·.1)=none:=by rfl):PG X (.Tuple es k pos) (SV X.K n t):=by
 intro pins s σ H v u Q I r hw;obtain⟨a,xs,e1,hq,hl,hw⟩:=hw;subst e1;cases r;obtain⟨b6,rv,ht,hz⟩:=I.tuple hq;refine assign_Tuple_tuple (I.ok.hd hc) ht (by simp[hn,<-hl,rv.length]) t8 fun h' hx=>?_;have I1:Inv X pins σ H {s with heap:=h'}:=I.kept (t':=s.toks) fun b o e=>hx b o (iK (iq e)) e;exact h pins _ σ H xs _ Q I1 (by simpa using rv) hw
noncomputable def gSub(to ti:TE)(t:MS):TG:=fun v σ H Q=>to σ H fun o H1=>ti σ H1 fun i H2=>t o i v H2 fun H3=>Q σ H3
theorem JR{o i:gM}{to ti:TE}{t:MS}(ho:PE X o to)(hi:PE X i ti)(hs:Po X t)
  (ha: ∀v,assign (.Subscript o i pos) X.env v=(do
   let ov <-holding [v] (eval o X.env)
   let iv <-holding [v,ov] (eval i X.env)
   standAt pos
   holding [v,ov,iv] (setItem ov iv v)
   release [v,ov,iv] []):=by intro _;rfl):PG X (.Subscript o i pos) (gSub to ti t):=by
 intro pins s σ H v u Q I r h;rw[ha];refine gw (mX (thn (ho pins s σ H _ I h) fun ov s1 ⟨x,H1,I1,r1,q1⟩=>?_));refine gw (mX (thn (hi pins s1 σ H1 _ I1 q1) fun iv s2 ⟨y,H2,I2,r2,q2⟩=>?_));refine gw (A8 (gw (mX (thn (hs pins s2 σ H2 x y v ov iv u _ I2 r1 r2 r q2) fun _ s3 ⟨H3,I3,q3⟩=>?_))));exact wpAny_release ⟨σ,H3,I3,q3⟩
noncomputable def Nz(te:TE)(g:TG):TS:=fun D σ H=>te σ H fun x H1=>g x σ H1 D.nx
theorem EJ{tg e:gM}{te:TE}{g:TG}(he:PE X e te)(hg:PG X tg g)(hs:swapsWithSole [tg] e pos.line X.env=pure false:=by rfl)(hw:swappedStores [tg] e X.env=pure none:=by rfl)
  (h1:(assignEach [tg] X.env).map (·.2)=[assign tg X.env]:=by rfl):PS X (.Assign [tg] e pos) (Nz te g):=by
 intro pins s σ H D I h;refine wpAny_Assign_stores (thn (he pins s σ H _ I h) fun v s1 ⟨x,H1,I1,r1,q1⟩=>?_) hs hw;rw[h1];exact thn (hg pins s1 σ H1 x v _ I1 r1 q1) fun _ s2 q=>q
theorem Of{i:Nat}{x:Str}{e:gM}{te:TE}{pos':Pos}(hN:X.N.Nodup)(hi:X.N[i]?=some x)(hx:Loc X.env.scope x)(he:PE X e te)(hs:swapsWith e (some (.Name x pos')) pos.line X.env=pure false:=by rfl)(hf:X.fn x=true\/X.env.scope.names.lookup x=some .local:=by first|exact .inl rfl|exact .inr rfl|assumption):
  PS X (.Assign [.Name x pos'] e pos) (Nz te (C6 i)):=by
 intro pins s σ H D I h;refine wpAny_Assign_Name (thn (he pins s σ H _ I h) fun v s1 ⟨y,H1,I1,r1,q1⟩=>?_) hs;exact Cp I1 hN hi hx r1 (fun s2 I2=>⟨_,H1,I2,q1⟩) hf
def Nx(c:TT)(tb:TS):TS:=fun D σ H=> ∃W:Nat->St->Hp->Prop,(∃m,W m σ H)/\ ∀m σ H,W m σ H->
 c σ H fun b H1=>if b=true then ∃N:St->Hp->Prop,(∀σ' H',N σ' H'-> ∃m',m'<m/\W m' σ' H')/\tb {D with nx:=N,ct:=N,bk:=D.nx} σ H1 else D.nx σ H1
theorem JE{c:gM}{body:List Stmt}{tc:TT}{tb:TS}(hp:PassesOwn (model X.prog X.w) X.A X.env X.xe)(hc:PT X c tc)(hb:PSs X body tb):PS X (.While c body [] pos) (Nx tc tb):=by
 intro pins s σ H D I h;obtain⟨W,⟨m0,w0⟩,turn⟩:=h;refine wpAny_While (codeAny_whileLoop (fun n s'=> ∃σ' H',Inv X pins σ' H' s'/\W n σ' H') ?_ m0 ⟨σ,H,I,w0⟩);rintro n s1 ⟨σ1,H1,I1,w1⟩;refine sZ hp (thn (hc pins s1 σ1 H1 _ I1 (turn n σ1 H1 w1)) fun b s2 ⟨H2,I2,q2⟩=>?_)
 cases b with
 |true=>
  obtain⟨N,hN,q2⟩:=q2;rw[gD rfl];refine sZ hp (thn (hb pins s2 σ1 H2 _ I2 q2) fun f s3 q3=>?_)
  cases f with
  |next=>
   obtain⟨σ3,H3,I3,n3⟩:=q3;obtain⟨m',hm,w3⟩:=hN σ3 H3 n3;exact⟨m',hm,σ3,H3,I3,w3⟩
  |cont=>
   obtain⟨σ3,H3,I3,n3⟩:=q3;obtain⟨m',hm,w3⟩:=hN σ3 H3 n3;exact⟨m',hm,σ3,H3,I3,w3⟩
  |brk=>exact q3
  |ret v=>exact q3
 |false=>
  rw[gF jB];exact El ⟨σ1,H2,I2,q2⟩
end
structure It where
 go:Nat->Hp->Prop
 yld:Nat->Hp->V->Hp->Prop
 stop:Nat->Hp->Prop
def qS(X:Cx)(pins:ik)(H:Hp)(b:gv):Prop:=
 H b=none/\b≠X.env.locals/\b∉X.fs/\(b∈X.ex\/X.s₀.heap.objs.size<=b)/\(∀x c,X.env.cells.lookup x=some c->c≠b)/\ ∀p∈X.pn++pins,p.1≠b
theorem Inv.fpOk{X:Cx}{pins:ik}{σ:St}{H H':Hp}{s:gA}{b:gv}(I:Inv X pins σ H s)(hb:s.heap.objs.size<=b)(hn:H' b=none):qS X pins H' b:=by
 refine⟨hn,qm (mY I.lt hb),I.nofs hb,.inr (lq I.sz hb),fun x c e z=>?_,fun p hp z=>?_⟩
 ·obtain⟨v,q⟩:=I.cell x c e;exact absurd (mY q.lt (by rw[z];exact hb)) (oR _)
 ·exact absurd (mY (iq (I.pin p hp).1) (by rw[z];exact hb)) (oR _)
structure Turn(P:hG)(w:gS)(K:hC)(tg:gM)(J:It)(fp:kb)(it:gv)(tn:Nat->Heap->Prop):Prop where
 mem:it∈fp
 obj: ∀i h,tn i h-> ∀b∈fp,∃o,h.get? b=some o/\ ∀v,o.data≠ .cell v
 keep: ∀i h h',tn i h->(∀b∈fp,∀o,h.get? b=some o->h'.get? b=some o)->tn i h'
 item: ∀(X:Cx),X.prog=P->X.w=w->X.K=K->X.calm=true-> ∀(i:Nat) (pins:ik) (s:gA) (σ:St) (H:Hp) (E:hV),Inv X pins σ H s->(∀b∈fp,qS X pins H b)->tn i s.heap->J.go i H->
  wpAny (model P w) X.A (pyNext (.ref it)) (fun r s1=> ∃u,r=some u/\
   wpAny (model P w) X.A (letOwnedTupleGo tg (.ref it) u) (fun _ s2=> ∃x H',Inv X pins σ H' s2/\RelV x u/\J.yld i H x H'/\tn (i+1) s2.heap/\ ∀b∈fp,H' b=none) E s1) E s
 done: ∀(X:Cx),X.prog=P->X.w=w->X.K=K->X.calm=true-> ∀(i:Nat) (pins:ik) (s:gA) (σ:St) (H:Hp) (E:hV),Inv X pins σ H s->(∀b∈fp,qS X pins H b)->tn i s.heap->J.stop i H->
  wpAny (model P w) X.A (pyNext (.ref it)) (fun r s1=>r=none/\Inv X pins σ H s1) E s
 self: ∀(A:gW) (i:Nat) (s:gA) (Q:hV) (E:hV),tn i s.heap->Q (.ref it) s->wpAny (model P w) A (pyIter (.ref it)) Q E s
abbrev TI:=St->Hp->(It->Hp->Prop)->Prop
def PIE(X:Cx)(pins:ik)(σ:St)(tg:gM)(R:It->Hp->Prop)(eG:gL)(s2:gA):Prop:=
 ∃(it:gv) (fp:kb) (tn:Nat->Heap->Prop) (J:It) (H':Hp),eG= .ref it/\Inv X pins σ H' s2/\Turn X.prog X.w X.K tg J fp it tn/\tn 0 s2.heap/\(∀b∈fp,qS X pins H' b)/\R J H'
def PI(X:Cx)(tg iter:gM)(wi:TI):Prop:=
 ∀(pins:ik) (s:gA) (σ:St) (H:Hp) (R:It->Hp->Prop),Inv X pins σ H s->wi σ H R->
  wpAny (model X.prog X.w) X.A (eval iter X.env) (fun v s1=>wpAny (model X.prog X.w) X.A (pyIter v) (PIE X pins σ tg R) X.xe s1) X.xe s
theorem Kx{M:Model}{A:gW}{E:hV}{s:gA}{tg:gM}{it:gv}{u:gL}{o:Obj}{n:String}{vs:jW}{Q:Unit->Shared->Prop}(ho:s.heap.get? it=some o)(hc:o.cls= .type n)(hd:o.data= .fields vs)
  (hn:["enumerate","zip","dict_itemiterator","dict_reverseitemiterator","odict_iterator","itertools.zip_longest","itertools.pairwise"].contains n=false)(hQ:Q () s):wpAny M A (letOwnedTupleGo tg (.ref it) u) Q E s:=by
 unfold letOwnedTupleGo
 cases tg<;>first
  |exact gK hQ
  |(cases u<;>first
    |exact gK hQ
    |(
      refine gw (vA ho ?_);rw[hc,hd];show wpAny M A (if(["enumerate","zip","dict_itemiterator","dict_reverseitemiterator","odict_iterator","itertools.zip_longest","itertools.pairwise"].contains n&&vs[0]?==some (rawInt _))=true then _ else _) Q E s;rw[gF (by intro h;rw[hn,sY] at h;cases h)];exact gK hQ))
noncomputable def Itl(K:hC)(a:gv):It:=
 ⟨fun i H=> ∃xs x,SqL K H a xs/\xs[i]?=some x,fun i H x H'=>H'=H/\ ∀xs,SqL K H a xs->xs[i]?=some x,fun i H=> ∃xs,SqL K H a xs/\xs.length<=i⟩
noncomputable def Itt(K:hC)(a:gv):It:=
 ⟨fun i H=> ∃xs x,SqT K H a xs/\xs[i]?=some x,fun i H x H'=>H'=H/\ ∀xs,SqT K H a xs->xs[i]?=some x,fun i H=> ∃xs,SqT K H a xs/\xs.length<=i⟩
noncomputable def Itr(lo:Int)(n:Nat):It:=⟨fun i _=>i<n,fun i H x H'=>H'=H/\x= .int (lo+i),fun i _=>n<=i⟩
theorem G1{P:hG}{w:gS}{K:hC}{tg:gM}(a it:gv):Turn P w K tg (Itl K a) [it] it (fun i h=>h.IsListIter it a i) where
 mem:=by simp
 obj:=fun i h st b hb=>by
  have e:b=it:=by simpa using hb
  subst e;obtain⟨o,e,c,d⟩:=st;exact⟨o,e,fun v z=>by rw[d] at z;cases z⟩
 keep:=fun i h h' st k=>st.at fun o e=>k it (by simp) o e
 item:=by
  intro X hP hw hK hc i pins s σ H E I hf st hg;subst hP hw hK;obtain⟨xs,x,hq,hx⟩:=hg;obtain⟨b6,rv,p,hz⟩:=I.list hq;obtain⟨u,hu,ru⟩:=rv.get hx;obtain⟨f0,f1,f2,f3,f4,f5⟩:=hf it (by simp);refine wpAny_pyNext_list_item st p.isList (x:=u) (by simpa using hu) fun h' b8 sb=>?_;have I1:Inv X pins σ H {s with heap:=h'}:=I.turned (t':=s.toks) (fun b o hb e=>(sb.2 b hb).trans e) f0 f1 f3 f4 f5;obtain⟨o,e,c,d⟩:=id b8;exact⟨u,rfl,Kx (s:={s with heap:=h'}) e c d (by decide) ⟨x,H,I1,ru,⟨rfl,fun ys hy=>by rw[I.list_inj hy hq];exact hx⟩,b8,fun b hb=>(hf b hb).1⟩⟩
 done:=by
  intro X hP hw hK hc i pins s σ H E I hf st hg;subst hP hw hK;obtain⟨xs,hq,hx⟩:=hg;obtain⟨b6,rv,p,hz⟩:=I.list hq;obtain⟨f0,f1,f2,f3,f4,f5⟩:=hf it (by simp);have hl:=rv.length;exact wpAny_pyNext_list_end (I.ok.hd hc) st p.isList (by simp;lia) fun h' eb=>⟨rfl,I.turned (t':=s.toks) (fun b o hb e=>eb b o hb e) f0 f1 f3 f4 f5⟩
 self:=fun _ _ _ _ _ st h=>wpAny_pyIter_listiter st h
theorem Er{P:hG}{w:gS}{K:hC}{tg:gM}(a it:gv):Turn P w K tg (Itt K a) [it] it (fun i h=>h.IsTupleIter it a i) where
 mem:=by simp
 obj:=fun i h st b hb=>by
  have e:b=it:=by simpa using hb
  subst e;obtain⟨o,e,c,d⟩:=st;exact⟨o,e,fun v z=>by rw[d] at z;cases z⟩
 keep:=fun i h h' st k=>st.at fun o e=>k it (by simp) o e
 item:=by
  intro X hP hw hK hc i pins s σ H E I hf st hg;subst hP hw hK;obtain⟨xs,x,hq,hx⟩:=hg;obtain⟨b6,rv,p,hz⟩:=I.tuple hq;obtain⟨u,hu,ru⟩:=rv.get hx;obtain⟨f0,f1,f2,f3,f4,f5⟩:=hf it (by simp);refine wpAny_pyNext_tuple_item st (show s.heap.IsTuple a b6.toArray from p) (x:=u) (by simpa using hu) fun h' b8 sb=>?_;have I1:Inv X pins σ H {s with heap:=h'}:=I.turned (t':=s.toks) (fun b o hb e=>(sb.2 b hb).trans e) f0 f1 f3 f4 f5;obtain⟨o,e,c,d⟩:=id b8;exact⟨u,rfl,Kx (s:={s with heap:=h'}) e c d (by decide) ⟨x,H,I1,ru,⟨rfl,fun ys hy=>by rw[I.tuple_inj hy hq];exact hx⟩,b8,fun b hb=>(hf b hb).1⟩⟩
 done:=by
  intro X hP hw hK hc i pins s σ H E I hf st hg;subst hP hw hK;obtain⟨xs,hq,hx⟩:=hg;obtain⟨b6,rv,p,hz⟩:=I.tuple hq;obtain⟨f0,f1,f2,f3,f4,f5⟩:=hf it (by simp);have hl:=rv.length;exact wpAny_pyNext_tuple_end (I.ok.hd hc) st (show s.heap.IsTuple a b6.toArray from p) (by simp;lia) fun h' eb=>⟨rfl,I.turned (t':=s.toks) (fun b o hb e=>eb b o hb e) f0 f1 f3 f4 f5⟩
 self:=fun _ _ _ _ _ st h=>wpAny_pyIter_tupleiter st h
theorem Es{P:hG}{w:gS}{K:hC}{tg:gM}(it:gv)(lo:Int)(n:Nat):Turn P w K tg (Itr lo n) [it] it (fun i h=>IsRangeIter h it (lo+(i:Nat)*1) ((n:Int)-(i:Nat)) 1) where
 mem:=by simp
 obj:=fun i h st b hb=>by
  have e:b=it:=by simpa using hb
  subst e
  exact⟨_,st,fun v z=>by
   have z':Data.fields _=Data.cell v:=z;cases z'⟩
 keep:=fun i h h' st k=>k it (by simp) _ st
 item:=by
  intro X hP hw hK hc i pins s σ H E I hf st hg;subst hP hw hK;obtain⟨f0,f1,f2,f3,f4,f5⟩:=hf it (by simp);have W:=Walks.range (prog:=X.prog) (w:=X.w) (I.ok.hd hc) it lo 1 n;refine W.item i s _ _ hg st fun v h' tk hv b8 kk=>?_;obtain⟨t,rfl⟩:=hv;have I1:Inv X pins σ H {s with heap:=h',toks:=tk}:=I.turned (fun b o hb e=>kk b o (by simpa using hb) e) f0 f1 f3 f4 f5;refine⟨_,rfl,Kx (s:={s with heap:=h',toks:=tk}) (n:="range_iterator") b8 rfl rfl (by decide) ⟨.int (lo+i),H,I1,⟨t,?_⟩,⟨rfl,rfl⟩,b8,fun b hb=>(hf b hb).1⟩⟩;rw[Ek]
 done:=by
  intro X hP hw hK hc i pins s σ H E I hf st hg;subst hP hw hK;obtain⟨f0,f1,f2,f3,f4,f5⟩:=hf it (by simp);exact wpAny_pyNext_range_end (I.ok.hd hc) st (by have:n<=i:=hg;lia) fun h' eb=>⟨rfl,I.turned (t':=s.toks) (fun b o hb e=>eb b o hb e) f0 f1 f3 f4 f5⟩
 self:=fun _ _ _ _ _ st h=>wpAny_pyIter_rangeiter st h
section
variable {X:Cx}{tg:gM}
def QM(K:hC)(tl:TE):TI:=fun σ H R=>tl σ H fun x H1=> ∃a,x= .ref a/\(∃xs,SqL K H1 a xs)/\R (Itl K a) H1
def SR(K:hC)(tl:TE):TI:=fun σ H R=>tl σ H fun x H1=> ∃a,x= .ref a/\(∃xs,SqT K H1 a xs)/\R (Itt K a) H1
theorem Md{l:gM}{tl:TE}(hl:PE X l tl):PI X tg l (QM X.K tl):=by
 intro pins s σ H R I h;refine thn (hl pins s σ H _ I h) fun v s1 ⟨x,H1,I1,r1,q1⟩=>?_;obtain⟨a,e,⟨xs,hq⟩,q⟩:=q1;subst e;cases r1;obtain⟨b6,rv,p,hz⟩:=I1.list hq;refine A7 p.isList ?_;refine⟨s1.heap.objs.size,[s1.heap.objs.size],_,_,H1,rfl,I1.kept (t':=s1.toks) fun b o e=>iz _ e,G1 a _,⟨_,jP _ rfl,rfl,rfl⟩,fun b hb=>?_,q⟩;have e:b=s1.heap.objs.size:=by simpa using hb
 subst e;exact I1.fpOk (ip _) (I1.hok.fresh (ip _))
theorem Ol{l:gM}{tl:TE}(hl:PE X l tl):PI X tg l (SR X.K tl):=by
 intro pins s σ H R I h;refine thn (hl pins s σ H _ I h) fun v s1 ⟨x,H1,I1,r1,q1⟩=>?_;obtain⟨a,e,⟨xs,hq⟩,q⟩:=q1;subst e;cases r1;obtain⟨b6,rv,p,hz⟩:=I1.tuple hq;refine wpAny_pyIter_tuple (show s1.heap.IsTuple a b6.toArray from p) ?_;refine⟨s1.heap.objs.size,[s1.heap.objs.size],_,_,H1,rfl,I1.kept (t':=s1.toks) fun b o e=>iz _ e,Er a _,⟨_,jP _ rfl,rfl,rfl⟩,fun b hb=>?_,q⟩;have e:b=s1.heap.objs.size:=by simpa using hb
 subst e;exact I1.fpOk (ip _) (I1.hok.fresh (ip _))
theorem CI{pins:ik}{σ:St}{H:Hp}{s:gA}{R:It->Hp->Prop}{E:hV}{lo hi:Int}{t u v:Tok}{tk:Nat}(I:Inv X pins σ H s)(h1: -(2^62)<=lo)(h2:lo<2^62)(h3: -(2^62)<=hi)(h4:hi<2^62)
  (q:R (Itr lo (hi-lo).toNat) H):wpAny (model X.prog X.w) X.A (pyIter (.ref s.heap.objs.size)) (PIE X pins σ tg R) E {s with heap:=s.heap.push {cls:= .type "range",data:= .fields #[.int lo t,.int hi u,.int 1 v]},toks:=tk}:=by
 refine wpAny_pyIter_range (IsRange.new ..) (small_one h1 h2 h3 h4) ?_;have I1:Inv X pins σ H {s with heap:=s.heap.push {cls:= .type "range",data:= .fields #[.int lo t,.int hi u,.int 1 v]},toks:=tk}:=I.kept fun b o e=>iz _ e
 refine⟨(s.heap.push {cls:= .type "range",data:= .fields #[.int lo t,.int hi u,.int 1 v]}).objs.size,[(s.heap.push {cls:= .type "range",data:= .fields #[.int lo t,.int hi u,.int 1 v]}).objs.size],_,_,H,rfl,
  I1.kept (t':=tk) fun b o e=>iz _ e,Es _ lo (hi-lo).toNat,?_,fun b hb=>?_,q⟩
 ·have e1:lo+((0:Nat):Int)*1=lo:=by simp
  have e2:(((hi-lo).toNat:Nat):Int)-((0:Nat):Int)=Builtin.Range.rangeSize lo hi 1:=by rw[rangeSize_one];split<;>lia
  show IsRangeIter _ _ (lo+((0:Nat):Int)*1) ((((hi-lo).toNat:Nat):Int)-((0:Nat):Int)) 1;rw[e1,e2];exact jP _ rfl
 ·have e:b=(s.heap.push {cls:= .type "range",data:= .fields #[.int lo t,.int hi u,.int 1 v]}).objs.size:=by simpa using hb
  subst e;exact I1.fpOk (ip _) (I1.hok.fresh (ip _))
def QK(ta:TA):TI:=fun σ H R=>ta σ H fun vs H1=> ∃j:Int,vs=[.int j]/\ -(2^62)<=j/\j<2^62/\R (Itr 0 j.toNat) H1
def QJ(ta:TA):TI:=fun σ H R=>ta σ H fun vs H1=> ∃i j:Int,vs=[.int i,.int j]/\(-(2^62)<=i/\i<2^62/\ -(2^62)<=j/\j<2^62)/\R (Itr i (j-i).toNat) H1
theorem Hl{a:gM}{ta:TA}{p pos:Pos}(hg:Gl X "range")(hm:X.mg "range"=none)(ha:PA X [a] ta)(hs:starEach [a] X.env=[(false,eval a X.env)]:=by rfl):PI X tg (.Call (.Name "range" p) [a] [] pos) (QK ta):=by
 intro pins s σ H R I h;refine Call_ (vM I hg hm A6 (A5 (thn (ha pos pins s σ H _ I h) fun us s1 ⟨vs,H1,I1,r1,q1⟩=>?_) hs rfl));obtain⟨j,e,q1,q2,q⟩:=q1;subst e
 cases r1 with
 |cons r rr=>
  cases rr;obtain⟨t,rfl⟩:=r;exact call_range_1 (CI I1 (by lia) (by lia) q1 q2 (by simpa using q))
theorem Hk{a b:gM}{ta:TA}{p pos:Pos}(hg:Gl X "range")(hm:X.mg "range"=none)(ha:PA X [a,b] ta)(hs:starEach [a,b] X.env=[(false,eval a X.env),(false,eval b X.env)]:=by rfl)(r8:starEach [b] X.env=[(false,eval b X.env)]:=by rfl):
  PI X tg (.Call (.Name "range" p) [a,b] [] pos) (QJ ta):=by
 intro pins s σ H R I h;refine Call_ (vM I hg hm A6 (A5 (thn (ha pos pins s σ H _ I h) fun us s1 ⟨vs,H1,I1,r1,q1⟩=>?_) (by rw[hs,r8]) (by rw[r8];rfl)));obtain⟨i,j,e,⟨q1,q2,q3,q4⟩,q⟩:=q1;subst e
 cases r1 with
 |cons r rr=>
  cases rr with
  |cons r' rr=>
   cases rr;obtain⟨t,rfl⟩:=r;obtain⟨t',rfl⟩:=r';exact call_range_2 (CI I1 q1 q2 q3 q4 q)
def RK(wi:TI)(g:TG)(tb:TS):TS:=fun D σ H=>wi σ H fun J H1=> ∃W:Nat->Nat->St->Hp->Prop,(∃m,W 0 m σ H1)/\ ∀i m σ H,W i m σ H->
 (J.stop i H/\D.nx σ H)\/(J.go i H/\ ∃N:St->Hp->Prop,(∀σ' H',N σ' H'-> ∃m',m'<m/\W (i+1) m' σ' H')/\ ∀x H',J.yld i H x H'->g x σ H' fun σ2 H2=>tb {D with nx:=N,ct:=N,bk:=D.nx} σ2 H2)
noncomputable def xK(fp:kb)(h:gU):List (Addr×Obj):=fp.filterMap fun b=>(h.get? b).map fun o=>(b,o)
theorem pG{fp:kb}{h:gU}{b:gv}{o:Obj}(hb:b∈fp)(e:h.get? b=some o):(b,o)∈xK fp h:=List.mem_filterMap.mpr ⟨b,hb,by rw[e];rfl⟩
theorem Hq{fp:kb}{h:gU}{p:Addr×Obj}(hp:p∈xK fp h):p.1∈fp/\h.get? p.1=some p.2:=by
 obtain⟨b,hb,e⟩:=List.mem_filterMap.mp hp
 cases q:h.get? b with
 |none=>rw[q] at e;cases e
 |some o=>
  rw[q] at e;have e':(b,o)=p:=iO e;subst e';exact⟨hb,q⟩
theorem Inv.pinned{pins:ik}{σ:St}{H:Hp}{s:gA}{fp:kb}(I:Inv X pins σ H s)(hf: ∀b∈fp,qS X pins H b)(ho: ∀b∈fp,∃o,s.heap.get? b=some o/\ ∀v,o.data≠ .cell v):Inv X (pins++xK fp s.heap) σ H s:=
 I.pins_of fun p hp=>(lK.mp hp).elim (fun z=>I.pin p (oQ _ z)) fun z=>by
  obtain⟨hb,e⟩:=Hq z;obtain⟨f0,f1,f2,_⟩:=hf p.1 hb;obtain⟨o,e',d⟩:=ho p.1 hb;rw[e] at e';cases e';exact⟨e,f0,f1,f2,d⟩
theorem Inv.unpinned{pins pl:ik}{σ:St}{H:Hp}{s:gA}(I:Inv X (pins++pl) σ H s):Inv X pins σ H s:=I.pins_of fun p hp=>I.pin p (oQ _ (IE _ hp))
theorem Og{iter:gM}{body:List Stmt}{wi:TI}{g:TG}{tb:TS}{pos:Pos}(hp:PassesOwn (model X.prog X.w) X.A X.env X.xe)(hc:X.calm=true)(hi:PI X tg iter wi)(hg:PG X tg g)(hb:PSs X body tb)
  (hs: ∀x,foldedSetIterable iter X.env x=pure x:=by intro _;rfl):PS X (.For tg iter body [] pos) (RK wi g tb):=by
 intro pins s σ H D I h;refine wpAny_For (thn (hi pins s σ H _ I h) fun v s1 h1=>thn h1 fun eG s2 h2=>?_) hs;obtain⟨it,fp,tn,J,H2,e,I2,T,g8,f2,W,⟨m0,w0⟩,turn⟩:=h2;subst e;have af: ∀{H':Hp},(∀b∈fp,H' b=none)-> ∀b∈fp,qS X pins H' b:=fun hn b hb=>⟨hn b hb,(f2 b hb).2⟩
 refine codeAny_forLoop_any (fun n s'=> ∃i σ' H',Inv X pins σ' H' s'/\tn i s'.heap/\(∀b∈fp,H' b=none)/\W i n σ' H') ?_ m0 ⟨0,σ,H2,I2,g8,fun b hb=>(f2 b hb).1,w0⟩;rintro n s3 ⟨i,σ3,H3,I3,k0,dy,w3⟩;rcases turn i n σ3 H3 w3 with⟨stop,qn⟩|⟨go,N,hN,step⟩
 ·refine sZ hp (thn (T.done X rfl rfl rfl hc i pins s3 σ3 H3 X.xe I3 (af dy) k0 stop) fun r s4 ⟨hr,I4⟩=>?_);subst hr;exact El ⟨σ3,H3,I4,qn⟩
 ·refine sZ hp (thn (T.item X rfl rfl rfl hc i pins s3 σ3 H3 X.xe I3 (af dy) k0 go) fun r s4 ⟨u,hr,h4⟩=>?_);subst hr;refine sZ hp (thn h4 fun _ s5 ⟨x,H5,I5,r5,y5,bN,gd⟩=>?_);have gn:=I5.pinned (af gd) (T.obj _ _ bN);refine sZ hp (thn (hg _ s5 σ3 H5 x u _ gn r5 (step x H5 y5)) fun _ s6 ⟨σ6,H6,I6,q6⟩=>?_);refine sZ hp (thn (hb _ s6 σ6 H6 _ I6 q6) fun f s7 q7=>?_)
  have again: ∀{σ7:St} {H7:Hp},Inv X (pins++xK fp s5.heap) σ7 H7 s7->N σ7 H7-> ∃m,m<n/\ ∃i σ' H',Inv X pins σ' H' s7/\tn i s7.heap/\(∀b∈fp,H' b=none)/\W i m σ' H':=fun {σ7 H7} I7 n7=>by
   obtain⟨m',hm,w7⟩:=hN σ7 H7 n7;refine⟨m',hm,i+1,σ7,H7,I7.unpinned,T.keep _ _ _ bN fun b hb o e=>(I7.pin (b,o) (oQ _ (oQ _ (pG hb e)))).1,fun b hb=>?_,w7⟩;obtain⟨o,e,d⟩:=T.obj _ _ bN b hb;exact(I7.pin (b,o) (oQ _ (oQ _ (pG hb e)))).2.1
  cases f with
  |next=>obtain⟨σ7,H7,I7,n7⟩:=q7;exact again I7 n7
  |cont=>obtain⟨σ7,H7,I7,n7⟩:=q7;exact again I7 n7
  |brk=>obtain⟨σ7,H7,I7,q7⟩:=q7;exact⟨σ7,H7,I7.unpinned,q7⟩
  |ret v=>obtain⟨x7,σ7,H7,I7,r7,q7⟩:=q7;exact⟨x7,σ7,H7,I7.unpinned,r7,q7⟩
end
abbrev R2:=V->V->Hp->VK->Prop
def OpR(X:Cx)(f:vV)(r:R2):Prop:=
 ∀(pins:ik) (s:gA) (σ:St) (H:Hp) (x y:V) (v u:gL) (Q:VK),Inv X pins σ H s->RelV x v->RelV y u->r x y H Q->
  wpAny (model X.prog X.w) X.A (f v u) (EP X pins σ Q) X.xe s
def UnR(X:Cx)(f:Value->Sem Value)(r:V->Hp->VK->Prop):Prop:=
 ∀(pins:ik) (s:gA) (σ:St) (H:Hp) (x:V) (v:gL) (Q:VK),Inv X pins σ H s->RelV x v->r x H Q->
  wpAny (model X.prog X.w) X.A (f v) (EP X pins σ Q) X.xe s
def jI(X:Cx)(f:gL)(r:List V->Hp->VK->Prop):Prop:=
 ∀(pins:ik) (s:gA) (σ:St) (H:Hp) (xs:List V) (us:iL) (Q:VK),Inv X pins σ H s->Vals xs us->r xs H Q->
  wpAny (model X.prog X.w) X.A (call f us) (EP X pins σ Q) X.xe s
noncomputable def tOp(r:R2)(ta tb:TE):TE:=fun σ H Q=>ta σ H fun x H1=>tb σ H1 fun y H2=>r x y H2 Q
def tUn(r:V->Hp->VK->Prop)(ta:TE):TE:=fun σ H Q=>ta σ H fun x H1=>r x H1 Q
def rI(C:Int->Int->Prop)(g:Int->Int->V):R2:=fun x y H Q=> ∃i j,x= .int i/\y= .int j/\C i j/\Q (g i j) H
def rI0(g:Int->Int->V):R2:=fun x y H Q=> ∃i j,x= .int i/\y= .int j/\Q (g i j) H
def rU(g:Int->V):V->Hp->VK->Prop:=fun x H Q=> ∃i,x= .int i/\Q (g i) H
section
variable {X:Cx}{a b c:gM}{ta tb tc:TE}{pos:Pos}
theorem Pk(ha:PE X a ta)(hb:PE X b tb){pins:ik}{s:gA}{σ:St}{H:Hp}{R:V->V->Hp->Prop}(I:Inv X pins σ H s)
  (h:ta σ H fun x H1=>tb σ H1 fun y H2=>R x y H2){Q:hV}{f:vV}
  (hf: ∀v u s2 x y H2,Inv X pins σ H2 s2->RelV x v->RelV y u->R x y H2->wpAny (model X.prog X.w) X.A (f v u) Q X.xe s2):
  wpAny (model X.prog X.w) X.A (eval a X.env) (fun v s₁=>wpAny (model X.prog X.w) X.A (eval b X.env) (fun u s₂=>wpAny (model X.prog X.w) X.A (f v u) Q X.xe s₂) X.xe s₁) X.xe s:=by
 refine thn (ha pins s σ H _ I h) fun v s1 ⟨x,H1,I1,r1,q1⟩=>?_;refine thn (hb pins s1 σ H1 _ I1 q1) fun u s2 ⟨y,H2,I2,r2,q2⟩=>?_;exact hf v u s2 x y H2 I2 r1 r2 q2
theorem Qj{op:Operator}{r:R2}(ho:OpR X (binaryOp op) r)(ha:PE X a ta)(hb:PE X b tb):PE X (.BinOp a op b pos) (tOp r ta tb):=by
 intro pins s σ H Q I h;exact wpAny_BinOp (Pk ha hb I h fun v u s2 x y H2 I2 rx ry q=>ho pins s2 σ H2 x y v u Q I2 rx ry q)
theorem Qi{op:UnaryOp}{r:V->Hp->VK->Prop}(ho:UnR X (unaryOp op) r)(ha:PE X a ta):PE X (.UnaryOp op a pos) (tUn r ta):=by
 intro pins s σ H Q I h;exact UnaryOp_ (thn (ha pins s σ H _ I h) fun v s1 ⟨x,H1,I1,r1,q1⟩=>ho pins s1 σ H1 x v Q I1 r1 q1)
theorem opI{f:vV}{C:Int->Int->Prop}{g:Int->Int->Int}
  (rule: ∀(i j:Int) (t u:Tok) (s:gA) (Q:hV) (E:hV),C i j->Q (.int (g i j) s.toks) {s with toks:=s.toks+1}->wpAny (model X.prog X.w) X.A (f (.int i t) (.int j u)) Q E s):
  OpR X f (rI C fun i j=> .int (g i j)):=by
 intro pins s σ H x y v u Q I rx ry h;obtain⟨i,j,rfl,rfl,hc,q⟩:=h;obtain⟨t,rfl⟩:=rx;obtain⟨t',rfl⟩:=ry;exact rule i j t t' s _ _ hc ⟨.int (g i j),H,I.tok _,⟨_,rfl⟩,q⟩
theorem Qs{f:vV}{g:Int->Int->Int}
  (rule: ∀(i j:Int) (t u:Tok) (s:gA) (Q:hV) (E:hV),Q (.int (g i j) s.toks) {s with toks:=s.toks+1}->wpAny (model X.prog X.w) X.A (f (.int i t) (.int j u)) Q E s):
  OpR X f (rI0 fun i j=> .int (g i j)):=by
 intro pins s σ H x y v u Q I rx ry h;obtain⟨i,j,rfl,rfl,q⟩:=h;obtain⟨t,rfl⟩:=rx;obtain⟨t',rfl⟩:=ry;exact rule i j t t' s _ _ ⟨.int (g i j),H,I.tok _,⟨_,rfl⟩,q⟩
theorem Mp{f:vV}{g:Int->Int->Bool}
  (rule: ∀(i j:Int) (t u:Tok) (s:gA) (Q:hV) (E:hV),Q (.bool (g i j)) s->wpAny (model X.prog X.w) X.A (f (.int i t) (.int j u)) Q E s):
  OpR X f (rI0 fun i j=> .bl (g i j)):=by
 intro pins s σ H x y v u Q I rx ry h;obtain⟨i,j,rfl,rfl,q⟩:=h;obtain⟨t,rfl⟩:=rx;obtain⟨t',rfl⟩:=ry;exact rule i j t t' s _ _ ⟨.bl (g i j),H,I,rfl,q⟩
def HM(i j:Int):Prop:=0<j/\j<1073741824
def wD(i j:Int):Prop:=0<=j/\j<=1000000/\i.natAbs<2^64
def CMul(i j:Int):Prop:=(-(2^64)<i/\i<2^64)\/(-(2^64)<j/\j<2^64)
theorem CMul.ok{i j:Int}(h:CMul i j):IntMulOk i j:=by
 rcases h with⟨h1,h2⟩|⟨h1,h2⟩
 ·exact .of_left (intBits_le_64 h1 h2)
 ·exact .of_right (intBits_le_64 h1 h2)
theorem OG:OpR X (binaryOp .Add) (rI0 fun i j=> .int (i+j)):=Qs fun _ _ _ _ _ _ _ q=>add_int q
theorem OA:OpR X (binaryOp .Sub) (rI0 fun i j=> .int (i-j)):=Qs fun _ _ _ _ _ _ _ q=>sub_int q
theorem OD:OpR X (binaryOp .Mult) (rI CMul fun i j=> .int (i*j)):=opI fun _ _ _ _ _ _ _ hc q=>mul_int q hc.ok
theorem Mn:OpR X (binaryOp .FloorDiv) (rI HM fun i j=> .int (i / j)):=opI fun i j _ _ _ _ _ hc q=>by
 have h1:(0:Int)<j:=hc.1;have h2:j<1073741824:=hc.2;exact floordiv_int (by lia) (by rw[Int.fdiv_eq_ediv_of_nonneg i (by lia)];exact q) (.inl (PyProof.noPylong_small (by lia)))
theorem OE:OpR X (binaryOp .Mod) (rI (fun _ j=>0<j) fun i j=> .int (i%j)):=opI fun i j _ _ _ _ _ hc q=>by
 have h1:(0:Int)<j:=hc;exact mod_int' (by lia) (by rw[Int.fmod_eq_emod_of_nonneg i (by lia)];exact q)
theorem OB:OpR X (binaryOp .Pow) (rI wD fun i j=> .int (i^j.toNat)):=opI fun _ _ _ _ _ _ _ hc q=>pow_int_small hc.1 hc.2.1 hc.2.2 q
theorem unI{f:Value->Sem Value}{g:Int->Int}
  (rule: ∀(i:Int) (t:Tok) (s:gA) (Q:hV) (E:hV),Q (.int (g i) s.toks) {s with toks:=s.toks+1}->wpAny (model X.prog X.w) X.A (f (.int i t)) Q E s):
  UnR X f (rU fun i=> .int (g i)):=by
 intro pins s σ H x v Q I rx h;obtain⟨i,rfl,q⟩:=h;obtain⟨t,rfl⟩:=rx;exact rule i t s _ _ ⟨.int (g i),H,I.tok _,⟨_,rfl⟩,q⟩
theorem Nv:UnR X (unaryOp .USub) (rU fun i=> .int (-i)):=unI fun _ _ _ _ _ q=>neg_int q
theorem BL{pins:ik}{σ:St}{H:Hp}{s:gA}{Q:VK}{k k':Bool}(I:Inv X pins σ H s)(q:Q (.bl k) H)(e:k=k'):EP X pins σ Q (.bool k') s:=by
 subst e;exact⟨.bl k,H,I,rfl,q⟩
theorem Qo:OpR X (compareOp .Lt) (rI0 fun i j=> .bl (decide (i<j))):=Mp fun _ _ _ _ _ _ _ q=>lt_int q
theorem Qp:OpR X (compareOp .LtE) (rI0 fun i j=> .bl (decide (i<=j))):=Mp fun _ _ _ _ _ _ _ q=>le_int q
theorem Qq:OpR X (compareOp .Gt) (rI0 fun i j=> .bl (decide (j<i))):=Mp fun _ _ _ _ _ _ _ q=>gt_int q
theorem Qr:OpR X (compareOp .GtE) (rI0 fun i j=> .bl (decide (j<=i))):=Mp fun _ _ _ _ _ _ _ q=>ge_int q
theorem J2:OpR X (compareOp .Is) (fun x y H Q=>y= .non/\Q (.bl (decide (x= .non))) H):=by
 intro pins s σ H x y v u Q I rx ry h;obtain⟨rfl,q⟩:=h;cases ry;refine is_none_gen (BL I q ?_)
 cases x<;>first
  |(cases rx;rfl)
  |(obtain⟨t,rfl⟩:=rx;rfl)
theorem Gi:OpR X (compareOp .IsNot) (fun x y H Q=>y= .non/\Q (.bl (!decide (x= .non))) H):=by
 intro pins s σ H x y v u Q I rx ry h;obtain⟨rfl,q⟩:=h;cases ry;refine isnot_none_gen (BL I q ?_)
 cases x<;>first
  |(cases rx;rfl)
  |(obtain⟨t,rfl⟩:=rx;rfl)
theorem Ka(b:gM){op:CmpOp}(h:op≠ .In:=by decide)(h2:op≠ .NotIn:=by decide):behindInMarks op b=false:=by
 have e1:(op==CmpOp.In)=false:=by cases op<;>first|rfl|exact absurd rfl h
 have e2:(op==CmpOp.NotIn)=false:=by cases op<;>first|rfl|exact absurd rfl h2
 cases b<;>simp[behindInMarks,e1,e2]
theorem Mh{op:CmpOp}{r:R2}(ho:OpR X (compareOp op) r)(ha:PE X a ta)(hb:PE X b tb)(hm:behindInMarks op b=false):PE X (.Compare a [op] [b] pos) (tOp r ta tb):=by
 intro pins s σ H Q I h;exact wpAny_Compare1 (Pk ha hb I h fun v u s2 x y H2 I2 rx ry q=>ho pins s2 σ H2 x y v u Q I2 rx ry q) hm
def MX(t:TE):TT:=fun σ H Q=>t σ H fun x H'=> ∃k,x= .bl k/\Q k H'
theorem L1{op:CmpOp}{r:R2}(ho:OpR X (compareOp op) r)(ha:PE X a ta)(hb:PE X b tb)(hm:behindInMarks op b=false):PT X (.Compare a [op] [b] pos) (MX (tOp r ta tb)):=by
 intro pins s σ H Q I h
 refine wpAny_isTrue_Compare1 (thn (ha pins s σ H _ I h) fun v s1 ⟨x,H1,I1,r1,q1⟩=>thn (hb pins s1 σ H1 _ I1 q1) fun u s2 ⟨y,H2,I2,r2,q2⟩=>
  thn (ho pins s2 σ H2 x y v u _ I2 r1 r2 q2) fun c s3 ⟨z,H3,I3,r3,k,e,q3⟩=>?_) hm
 subst e;cases r3;exact qz ⟨H3,I3,q3⟩
def Et(r r':R2)(ta tb tc:TE):TE:=fun σ H Q=>ta σ H fun x H1=>tb σ H1 fun y H2=>r x y H2 fun z H3=> ∃k,z= .bl k/\
 (if k=true then tc σ H3 fun w' H4=>r' y w' H4 Q else Q (.bl false) H3)
theorem JU{op m6:CmpOp}{r r':R2}(ho:OpR X (compareOp op) r)(ao:OpR X (compareOp m6) r')(ha:PE X a ta)(hb:PE X b tb)(hc:PE X c tc)
  (hm:lastMarks [op,m6] [b,c]=false:=by with_unfolding_all rfl):PE X (.Compare a [op,m6] [b,c] pos) (Et r r' ta tb tc):=by
 intro pins s σ H Q I h
 refine Compare_chain (thn (ha pins s σ H _ I h) fun v s1 ⟨x,H1,I1,r1,q1⟩=>chain_link (thn (hb pins s1 σ H1 _ I1 q1) fun u s2 ⟨y,H2,I2,r2,q2⟩=>
  thn (ho pins s2 σ H2 x y v u _ I2 r1 r2 q2) fun d s3 ⟨z,H3,I3,r3,k,e,q3⟩=>?_)) hm
 subst e;cases r3;refine qz ?_
 cases k with
 |false=>exact ite_ff ⟨.bl false,H3,I3,rfl,q3⟩
 |true=>exact ite_tt (chain_last (thn (hc pins s3 σ H3 _ I3 q3) fun w' s4 ⟨z',H4,I4,r4,q4⟩=>ao pins s4 σ H4 y z' u w' Q I4 r2 r4 q4))
theorem Jy{op m6:CmpOp}{r r':R2}(ho:OpR X (compareOp op) r)(ao:OpR X (compareOp m6) r')(ha:PE X a ta)(hb:PE X b tb)(hc:PE X c tc)
  (hm:lastMarks [op,m6] [b,c]=false:=by with_unfolding_all rfl):PT X (.Compare a [op,m6] [b,c] pos) (MX (Et r r' ta tb tc)):=by
 intro pins s σ H Q I h
 refine isTrue_chain (thn (ha pins s σ H _ I h) fun v s1 ⟨x,H1,I1,r1,q1⟩=>test_link (thn (hb pins s1 σ H1 _ I1 q1) fun u s2 ⟨y,H2,I2,r2,q2⟩=>
  thn (ho pins s2 σ H2 x y v u _ I2 r1 r2 q2) fun d s3 ⟨z,H3,I3,r3,k,e,q3⟩=>?_)) hm
 subst e;cases r3;refine qz ?_
 cases k with
 |false=>
  obtain⟨k',e',q'⟩:=q3;cases e';exact ite_ff ⟨H3,I3,q'⟩
 |true=>
  refine ite_tt (test_last (thn (hc pins s3 σ H3 _ I3 q3) fun w' s4 ⟨z',H4,I4,r4,q4⟩=>thn (ao pins s4 σ H4 y z' u w' _ I4 r2 r4 q4) fun d' s5 ⟨z2,H5,I5,r5,k2,e2,q5⟩=>?_));subst e2;cases r5;exact qz ⟨H5,I5,q5⟩
theorem BC:(sizeLine:Nat)<2^63:=by rw[ic];decide
theorem EU:OpR X (binaryOp .Add) (fun x y H Q=> ∃i j,x= .str i/\y= .str j/\i.length+j.length<=sizeLine/\Q (.str (i++j)) H):=by
 intro pins s σ H x y v u Q I rx ry h;obtain⟨i,j,rfl,rfl,hz,q⟩:=h;obtain⟨t,rfl⟩:=rx;obtain⟨t',rfl⟩:=ry;exact add_str (fun t' tk=>⟨.str (i++j),H,I.tok _,⟨_,rfl⟩,q⟩) hz
theorem um{x:V}{us:iL}(r:Vals [x] us): ∃u,us=[u]/\RelV x u:=by
 cases r with
 |cons r1 r2=>cases r2;exact⟨_,rfl,r1⟩
theorem Ck{x y:V}{us:iL}(r:Vals [x,y] us): ∃u w',us=[u,w']/\RelV x u/\RelV y w':=by
 cases r with
 |cons r1 r2=>
  cases r2 with
  |cons r3 r4=>cases r4;exact⟨_,_,rfl,r1,r3⟩
theorem KU:jI X (.builtin "abs") (fun xs H Q=> ∃i,xs=[.int i]/\Q (.int (if i<0 then -i else i)) H):=by
 intro pins s σ H xs us Q I r h;obtain⟨i,rfl,q⟩:=h;obtain⟨u,rfl,t,rfl⟩:=um r;exact call_abs_int fun u tk=>⟨.int (if i<0 then -i else i),H,I.tok _,⟨_,rfl⟩,q⟩
theorem HH(hc:X.calm=true):jI X (.builtin "max") (fun xs H Q=> ∃i j,xs=[.int i,.int j]/\Q (.int (if j>i then j else i)) H):=by
 intro pins s σ H xs us Q I r h;obtain⟨i,j,rfl,q⟩:=h;obtain⟨u,w',rfl,⟨t,rfl⟩,⟨t',rfl⟩⟩:=Ck r;refine max_two_ints (I.ok.hd hc) fun h' tk k=>⟨_,H,I.kept k,?_,q⟩
 by_cases hj:j>i
 ·rw[gD hj,gD hj];exact⟨_,rfl⟩
 ·rw[gF hj,gF hj];exact⟨_,rfl⟩
theorem HG(hc:X.calm=true):jI X (.builtin "min") (fun xs H Q=> ∃i j,xs=[.int i,.int j]/\Q (.int (if j<i then j else i)) H):=by
 intro pins s σ H xs us Q I r h;obtain⟨i,j,rfl,q⟩:=h;obtain⟨u,w',rfl,⟨t,rfl⟩,⟨t',rfl⟩⟩:=Ck r;refine min_two_ints (I.ok.hd hc) fun h' tk k=>⟨_,H,I.kept k,?_,q⟩
 by_cases hj:j<i
 ·rw[gD hj,gD hj];exact⟨_,rfl⟩
 ·rw[gF hj,gF hj];exact⟨_,rfl⟩
theorem Ak:jI X (.type "int") (fun xs H Q=>(∃i,xs=[.int i]/\Q (.int i) H)\/ ∃k,xs=[.bl k]/\Q (.int (if k then 1 else 0)) H):=by
 intro pins s σ H xs us Q I r h;rcases h with⟨i,rfl,q⟩|⟨k,rfl,q⟩
 ·obtain⟨u,rfl,t,rfl⟩:=um r;exact call_int_int ⟨.int i,H,I,⟨_,rfl⟩,q⟩
 ·obtain⟨u,rfl,r1⟩:=um r;cases r1;exact call_int_bool ⟨.int (if k then 1 else 0),H,I.tok _,⟨_,rfl⟩,q⟩
end
section
variable {prog:hG}{w:gS}{A:gW}{E:hV}{s:gA}{K:hC}{x dx C f:gv}{mA:lL}{name:Str}{v:gL}
end
theorem RelO.some_of{v:V}{o:Option Value}(r:RelO (some v) o): ∃u,o=some u/\RelV v u:=by
 cases o with
 |none=>exact(show False from r).elim
 |some u=>exact⟨u,rfl,r⟩
section
variable {P:hG}{w:gS}{H H':Hp}{h h':gU}{a C dx:gv}{fs eX:List (Str×V)}
end
section
variable {X:Cx}{pins:ik}{σ:St}{H:Hp}{s:gA}{a C dx:gv}{fs:List (Str×V)}{f:Str}{v:V}{A:gW}{E:hV}
end
section
variable {X:Cx}{o e value:gM}{f:Str}{pos pos' aE:Pos}{ta tv:TE}
end
section
variable {X:Cx}{pins:ik}{σ:St}{H:Hp}{s:gA}{A:gW}{E:hV}{Q:hV}{c:gL}{b:Bool}
end
structure Room(k:Nat)(A:gW):Prop where
 hd:A.handled=none
 dp:A.depth+3*k+5<recursionLimit
 un:A.units+16*k+200<cLine
theorem Room.mono{j k:Nat}{A:gW}(r:Room k A)(h:j<=k):Room j A:=⟨r.hd,by have:=r.dp;lia,by have:=r.un;lia⟩
theorem Room.deeper{k:Nat}{A:gW}(r:Room (k+1) A)(env:Env):Room k (A.deeper env):=
 ⟨r.hd,by have:=r.dp;show A.depth+1+3*k+5<_;lia,by have:=r.un;show A.units+3+16*k+200<_;lia⟩
theorem Room.depth{k:Nat}{A:gW}(r:Room k A):A.depth<recursionLimit:=by have:=r.dp;lia
noncomputable def RH:TA:=fun _ H Q=>Q [] H
noncomputable def PN(ta:TE)(tr:TA):TA:=fun σ H Q=>ta σ H fun x H1=>tr σ H1 fun xs H2=>Q (x::xs) H2
section
variable {X:Cx}{e:gM}{es:jF}{te:TE}{t:TA}{pos:Pos}
theorem tE:PA X [] RH:=fun _ _ _ _ H Q I h=>Calls.spliced_nil ⟨[],H,I,.nil,h⟩
theorem oo(ha:PE X e te)(hr:PA X es t)(hs:starEach (e::es) X.env=(false,eval e X.env)::starEach es X.env:=by rfl):PA X (e::es) (PN te t):=by
 intro pos pins s σ H Q I h;rw[hs];show wpAny _ _ (spliced ((false,eval e X.env)::backTo pos (starEach es X.env))) _ _ s;refine Calls.spliced_cons (thn (ha pins s σ H _ I h) fun u s1 ⟨x,H1,I1,r1,q1⟩=>?_);exact thn (hr pos pins s1 σ H1 _ I1 q1) fun us s2 ⟨xs,H2,I2,r2,q2⟩=>⟨x::xs,H2,I2,.cons r1 r2,q2⟩
noncomputable def RD(t:TA):TE:=fun σ H Q=>t σ H fun xs H1=>xs.length<=sizeLine/\ ∀p,H1 p=none->Q (.ref p) (upd H1 p (.tup xs))
noncomputable def RI(t:TA):TE:=fun σ H Q=>t σ H fun xs H1=>xs.length<=sizeLine/\ ∀p,H1 p=none->Q (.ref p) (upd H1 p (.lst xs))
theorem Oo{x1}(h:PA X es t):PE X (.Tuple es x1 pos) (RD t):=by
 intro pins s σ H Q I hq;refine wpAny_Tuple_spliced (thn (h pos pins s σ H _ I hq) fun us s1 ⟨xs,H1,I1,r,z,q⟩=>⟨by rw[<-r.length];exact z,?_⟩);have hf:H1 s1.heap.objs.size=none:=I1.hok.fresh (ip _);refine⟨.ref s1.heap.objs.size,upd H1 s1.heap.objs.size (.tup xs),I1.laid (t':=s1.toks) (fun b u e=>iz _ e) (ip _) ?_,rfl,q _ hf⟩;exact⟨z,us,r,⟨_,jP _ rfl,rfl,_,rfl⟩⟩
theorem Ow(h:PA X es t):PE X (.List es pos) (RI t):=by
 intro pins s σ H Q I hq;refine wpAny_List_spliced (thn (h pos pins s σ H _ I hq) fun us s1 ⟨xs,H1,I1,r,z,q⟩=>⟨by rw[<-r.length];exact z,?_⟩);have hf:H1 s1.heap.objs.size=none:=I1.hok.fresh (ip _);refine⟨.ref s1.heap.objs.size,upd H1 s1.heap.objs.size (.lst xs),I1.laid (t':=s1.toks) (fun b u e=>iz _ e) (ip _) ?_,rfl,q _ hf⟩;exact⟨z,us,0,r,jP _ rfl⟩
end
abbrev Sp:=List V->Hp->VK->XK->Prop
abbrev CXT:=List Env->Hp->Shared->XK->Value->Shared->Prop
structure Env0(P:hG)(w:gS)(K:hC)(mg:lL)(base:gU)(A:gW)(outer:List Env)(s:gA)(H:Hp):Prop where
 frames:A.frames=some outer
 mod:Mod K mg base
 bs: ∀b o,base.get? b=some o->s.heap.get? b=some o/\H b=none
 bsz:base.objs.size<=s.heap.objs.size
 funs:s.heap.FunFrames base outer
 frf: ∀b∈frs outer,H b=none
 hok:HOk P w H s.heap
 bare:AllBare s.gens
def CE(outer:List Env)(P:hG)(w:gS)(H:Hp)(s:gA)(Q:VK)(u:gL)(s':gA):Prop:=
 ∃v H',s'.os=s.os/\AllBare s'.gens/\Un (frs outer) [] H H' s.heap s'.heap/\HOk P w H' s'.heap/\RelV v u/\Q v H'
def CR(CX:CXT)(outer:List Env)(P:hG)(w:gS)(H:Hp)(s:gA)(Q:VK)(E:XK)(r:Result)(s':gA):Prop:=
 match r with
 | .ok (.ret u)=>CE outer P w H s Q u s'
 | .ok _=>False
 | .error e=>CX outer H s E e s'
structure FnOk(P:hG)(w:gS)(K:hC)(mg:lL)(base:gU)(CX:CXT)(k:Nat)(f:gv)(fd:nS)(ps:iG)(sp:Sp):Prop where
 len: ∀vs H Q E,sp vs H Q E->vs.length=ps.length
 run: ∀(A:gW) (outer:List Env) (s:gA) (H:Hp) (args:Args) (us:iL) (vs:List V) (Q:VK) (E:XK),Room k A->Env0 P w K mg base A outer s H->BindsTo s fd args (ps.zip us)->Vals vs us->sp vs H Q E->
  codeAny (model P w) A (.call (.ref f) args) (CR CX outer P w H s Q E) s
theorem FnOk.mono{P:hG}{w:gS}{K:hC}{mg:lL}{base:gU}{CX:CXT}{j k:Nat}{f:gv}{fd:nS}{ps:iG}{sp:Sp}(F:FnOk P w K mg base CX j f fd ps sp)(h:j<=k):
  FnOk P w K mg base CX k f fd ps sp:=⟨F.len,fun A outer s H args us vs Q E hr=>F.run A outer s H args us vs Q E (hr.mono h)⟩
section
variable {X:Cx}{pins:ik}{σ:St}{H:Hp}{s s':gA}
theorem Inv.env0(I:Inv X pins σ H s):Env0 X.prog X.w X.K X.mg X.base X.A X.stack s H:=
 ⟨I.ok.frames,I.ok.mod,I.bs,lq I.ok.bsz I.sz,I.stack,I.stkFree,I.hok,I.bare⟩
theorem Inv.after{Q:VK}{u:gL}(I:Inv X pins σ H s)(h:CE X.stack X.prog X.w H s Q u s'):EP X pins σ Q u s':=by
 obtain⟨v,H',os,bare,un,hok,r,q⟩:=h;obtain⟨hh,g,d,t,cF⟩:=s';obtain rfl:cF=s.os:=os;exact⟨v,H',I.call (h':=hh) (g':=g) (d':=d) (t':=t) (ch:=[]) un hok bare (fun b z=>absurd z (by simp)),r,q⟩
end
noncomputable def PQ(sp:Sp)(cw:List V)(E:XK)(t:TA):TE:=fun σ H Q=>t σ H fun vs H1=>sp (vs++cw) H1 Q E
def Binds(K:hC)(fd:nS)(ps:iG)(ds:iL):Prop:=
 ∀(s:gA) (us:iL),K.In s.heap->(us++ds).length=ps.length->BindsTo s fd ⟨us,[]⟩ (ps.zip (us++ds))
theorem Binds.all{K:hC}{fd:nS}{ps:iG}(h: ∀us:List Value,us.length=ps.length->bindArgs fd ⟨us,[]⟩=pure (ps.zip us)):Binds K fd ps []:=fun s us _ hl=>by
 rw[sX] at hl ⊢;exact .of_eq (h us hl)
def FQ(CX:CXT)(X:Cx)(E:XK):Prop:= ∀(pins:ik) (σ:St) (H:Hp) (s:gA) (e:gL) (s':gA),Inv X pins σ H s->CX X.stack H s E e s'->X.xe e s'
section
variable {X:Cx}{CX:CXT}{k:Nat}{f C:gv}{fd:nS}{ps:iG}{sp:Sp}{cw:List V}{ds:iL}{E:XK}{x m:Str}{p pos apos:Pos}{e o:gM}{es:jF}{ta:TE}{t:TA}
theorem NK{pins:ik}{σ:St}{H:Hp}{s:gA}{Q:VK}{us:iL}{vs:List V}(F:FnOk X.prog X.w X.K X.mg X.base CX k f fd ps sp)(hr:Room k X.A)(hb:Binds X.K fd ps ds)(hd:Vals cw ds)(hx:FQ CX X E)
  (I:Inv X pins σ H s)(r:Vals vs us)(h:sp (vs++cw) H Q E):wpAny (model X.prog X.w) X.A (call (.ref f) us) (EP X pins σ Q) X.xe s:=by
 have r2:Vals (vs++cw) (us++ds):=r.append hd;have hl:(us++ds).length=ps.length:=by rw[<-r2.length];exact F.len _ _ _ _ h
 refine wpAny_call (sV (F.run X.A X.stack s H ⟨us,[]⟩ (us++ds) (vs++cw) Q E hr I.env0 (hb s us I.kIn hl) r2 h) fun r s' hq=>?_)
 cases r with
 |error e=>exact hx pins σ H s e s' I hq
 |ok fl=>
  cases fl with
  |ret u=>exact I.after hq
  |next=>exact False.elim hq
  |brk=>exact False.elim hq
  |cont=>exact False.elim hq
theorem Mi(F:FnOk X.prog X.w X.K X.mg X.base CX k f fd ps sp)(hr:Room k X.A)(hg:Gl X x)(hm:X.mg x=some (.ref f))(hk:PySem.W.keepIn X.K (.ref f)=true)(hb:Binds X.K fd ps ds)(hd:Vals cw ds)(hx:FQ CX X E)
  (ha:PA X (e::es) t)(p7:(x==("__debug__":Str))=false:=by decide)(he:starEach (e::es) X.env=(false,eval e X.env)::starEach es X.env:=by rfl)(i8:(backTo pos (starEach es X.env)).any (·.1)=false:=by rfl):
  PE X (.Call (.Name x p) (e::es) [] pos) (PQ sp cw E t):=by
 intro pins s σ H Q I h;refine A4 (Gs I hg hm ?_ p7);refine PySem.W.callWith_K (h₀:=X.base) I.ok.mod.kin hk (thn (ha pos pins s σ H _ I h) fun us s1 ⟨vs,H1,I1,r,q⟩=>⟨I1.kIn,?_⟩) he i8;exact NK F hr hb hd hx I1 r q
end
section
variable {X:Cx}{CX:CXT}{k:Nat}{f C:gv}{fd:nS}{ps ks:iG}{sp:Sp}{E:XK}{x m:Str}{p pos apos kpos:Pos}{e o:gM}{es:jF}{kws:List Keyword}{te ta:TE}{t tk:TA}{nm:Option Str}
variable {g:List Value->List Value->List Value}{gV:List V->List V->List V}
end
structure FnScope(N P:iG)(sc:jZ):Prop where
 kind:sc.kind= .function
 co:sc.isCoroutine=false
 gen:sc.isGenerator=false
 nd:N.Nodup
 pre:N.take P.length=P
 par: ∀x∈P,sc.names.lookup x=some .local\/sc.names.lookup x=some .cell
 nofree: ∀y∈sc.names,y.2≠ .free
theorem Am{kindOf:Str->Option NameKind}{x:Str}: ∀{binds:List (Str×Value)} {m:lL},(∀v,(x,v)∉binds)->bindL kindOf binds m x=m x
 |[],_,_=>rfl
 |(n,v)::r,m,h=>by
  unfold bindL;rw[Am fun w hw=>h w (jd _ hw)];split
  ·have:x≠n:=by rintro rfl;exact h v iW
   simp[this]
  ·rfl
theorem Ao{kindOf:Str->Option NameKind}{x:Str}: ∀{binds:List (Str×Value)} {m:lL},(∀v,(x,v)∉binds)->bindC kindOf binds m x=m x
 |[],_,_=>rfl
 |(n,v)::r,m,h=>by
  unfold bindC;rw[Ao fun w hw=>h w (jd _ hw)];split
  ·rfl
  ·have:x≠n:=by rintro rfl;exact h v iW
   simp[this]
theorem An{kindOf:Str->Option NameKind}{x:Str}{v:gL}: ∀{P:iG} {vs:iL} {i:Nat} {m:lL},P.Nodup->P[i]?=some x->vs[i]?=some v->kindOf x=some .local->
  bindL kindOf (P.zip vs) m x=some v
 |[],_,_,_,_,h,_,_=>by simp at h
 |_::_,[],_,_,_,_,h,_=>by simp at h
 |p::P,w::vs,0,m,nd,h1,h2,hk=>by
  simp at h1 h2;subst h1;subst h2;show bindL kindOf ((p,w)::P.zip vs) m p=_;unfold bindL;rw[Am fun v hv=>(En.mp nd).1 (Ej hv).1,gD hk];simp
 |p::P,w::vs,i+1,m,nd,h1,h2,hk=>by
  show bindL kindOf ((p,w)::P.zip vs) m x=_;unfold bindL;exact An (i:=i) (En.mp nd).2 (by simpa using h1) (by simpa using h2) hk
theorem Ap{kindOf:Str->Option NameKind}{x:Str}{v:gL}: ∀{P:iG} {vs:iL} {i:Nat} {m:lL},P.Nodup->P[i]?=some x->vs[i]?=some v->kindOf x≠some .local->
  bindC kindOf (P.zip vs) m x=some v
 |[],_,_,_,_,h,_,_=>by simp at h
 |_::_,[],_,_,_,_,h,_=>by simp at h
 |p::P,w::vs,0,m,nd,h1,h2,hk=>by
  simp at h1 h2;subst h1;subst h2;show bindC kindOf ((p,w)::P.zip vs) m p=_;unfold bindC;rw[Ao fun v hv=>(En.mp nd).1 (Ej hv).1,gF hk];simp
 |p::P,w::vs,i+1,m,nd,h1,h2,hk=>by
  show bindC kindOf ((p,w)::P.zip vs) m x=_;unfold bindC;exact Ap (i:=i) (En.mp nd).2 (by simpa using h1) (by simpa using h2) hk
noncomputable def qb(N:iG)(vs:List V):St:=vs.map some++List.replicate (N.length-vs.length) none
noncomputable def Di(CX:CXT)(P:hG)(w:gS)(K:hC)(mg:lL)(base:gU)(N:iG)(qual:Str)(scope:jZ)(f:gv)(cd:gL)(A:gW)(outer:List Env)(s:gA)(H:Hp)(E:XK):Cx where
 prog:=P
 w:=w
 K:=K
 mg:=mg
 base:=base
 A:=A.deeper (envOfC qual scope s.heap.objs.size f cd)
 N:=N
 s₀:=s
 H₀:=H
 env:=envOfC qual scope s.heap.objs.size f cd
 outer:=outer
 stack:=envOfC qual scope s.heap.objs.size f cd::outer
 ex:=[]
 calm:=true
 fn:=fun _=>true
 pn:=[]
 xe:=fun e s'=>wpAny (model P w) (A.deeper (envOfC qual scope s.heap.objs.size f cd)) (leaving (envOfC qual scope s.heap.objs.size f cd) e) (fun _ cc=>CX outer H s E e cc) (fun e' cc=>CX outer H s E e' cc) s'
theorem Dr{sc:jZ}{n:Nat}{x:Str}(h:sc.names.lookup x=some .cell): ∃c,(cellsFrom n sc.names []).lookup x=some c:=by
 have q:=IC sc.names n [] (.inl h);exact IG.mp q
theorem HB{CX:CXT}{P:hG}{w:gS}{K:hC}{mg:lL}{base:gU}{N ps:iG}{qual:Str}{scope:jZ}{f:gv}{cd:gL}{A:gW}{outer:List Env}{s s1:gA}{H:Hp}{E:XK}{us:iL}{vs:List V}
  (S:FnScope N ps scope)(hd:A.handled=none)(e0:Env0 P w K mg base A outer s H)(hl:vs.length=ps.length)(r:Vals vs us)
  (x:InCallC s s.heap.objs.size (bindL (envOfC qual scope s.heap.objs.size f cd).kindOf (ps.zip us) fun _=>none) (cellsFrom (s.heap.objs.size+1) scope.names []) (bindC (envOfC qual scope s.heap.objs.size f cd).kindOf (ps.zip us) fun _=>none) s1):
  Inv (Di CX P w K mg base N qual scope f cd A outer s H E) [] (qb N vs) H s1:=by
 have i8:ps.length<=N.length:=by have:=rW List.length S.pre;rw[nW] at this;lia
 obtain⟨h1,tk,rfl,hk⟩:=x.done;have dI: ∀b:Addr,b∉(Di CX P w K mg base N qual scope f cd A outer s H E).ex:=fun b z=>absurd (show b∈([]:List Addr) from z) (by simp)
 refine⟨⟨e0.mod,S.kind,rfl,rfl,ip _,fun y z c h1 h2=>?_,fun y hy=>?_,fun y c _ h=>?_,fun _=>hd,Around.frames_deeper e0.frames,.inr ⟨rfl,rfl⟩,fun b z=>absurd z (dI b),e0.bs,e0.bsz,fun b _ _=>dI b,fun b z=>absurd z (dI b),e0.funs,e0.frf⟩,
  rfl,e0.bare,Un.kept hk,⟨_,x.toInCall.ns,fun i y v h1 h2 h3=>?_⟩,fun y c h=>⟨_,x.cell y c h⟩,e0.hok.fresh (ip _),fun y c h=>?_,fun p hp=>absurd (show p∈([]:List (Addr×Obj)) from hp) (by simp),e0.hok.kept hk,?_⟩
 ·exact name_of_addr x.apart (sU h1) (sU h2)
 ·have hy:scope.names.lookup y=some .cell\/scope.names.lookup y=some .free:=hy;rcases hy with hy|hy
  ·exact Dr hy
  ·exact absurd rfl (S.nofree _ (sU hy))
 ·exact A9 (x.above y c (sU h))
 ·have hi:i<vs.length:=by
   unfold qb at h2;by_cases hi:i<vs.length
   ·exact hi
   ·rw[vz (by simpa using hi)] at h2;rw[List.getElem?_replicate] at h2;split at h2<;>cases h2
  have ha:vs[i]?=some v:=by
   unfold qb at h2;rw[xk (by simpa using hi),lH] at h2
   cases e:vs[i]? with
   |none=>rw[e] at h2;cases h2
   |some a=>rw[e] at h2;cases h2;rfl
  obtain⟨u,hu,rv⟩:=r.get ha
  have hp:ps[i]?=some y:=by
   rw[<-S.pre,IB (by lia)];exact h1
  have ndP:ps.Nodup:=by rw[<-S.pre];exact S.nd.sublist (mW _ _)
  refine⟨u,rv,?_⟩;rcases S.par y (mV hp) with k|k
  ·exact .inl ⟨k,An ndP hp hu k⟩
  ·obtain⟨c,e⟩:=Dr (n:=s.heap.objs.size+1) k;refine .inr ⟨.inl k,c,e,?_⟩;have q:=x.cell y c e;rw[Ap ndP hp hu (by show scope.names.lookup y≠_;rw[k];decide)] at q;exact q
 ·exact e0.hok.fresh (A9 (x.above y c (sU h)))
 ·unfold qb;show _=N.length;rw[kZ,jw,List.length_replicate]
  lia
theorem Q0{CX:CXT}{P:hG}{w:gS}{K:hC}{mg:lL}{base:gU}{k:Nat}{f:gv}{name qual:Str}{params:Arguments}{body:List Stmt}{scope:jZ}{dV kV doc pm f9 ct oc:gL}{an od:Option Addr}
  {aZ:vU}{N ps:iG}{sp:Sp}(lk:K.lookup f=some ⟨oc,od,.func (PySem.W.fnOf name qual params body scope dV kV doc pm an f9 ct),aZ⟩)(y7:PySem.W.codeIn K f9 qual=true)(S:FnScope N ps scope)
  (len: ∀vs H Q E,sp vs H Q E->vs.length=ps.length)
  (y8: ∀(A:gW) (outer:List Env) (s:gA) (H:Hp) (vs:List V) (Q:VK) (E:XK),Room k (A.deeper (envOfC qual scope s.heap.objs.size f f9))->sp vs H Q E->
   ∃t,PSs (Di CX P w K mg base N qual scope f f9 A outer s H E) body t/\t {nx:=fun _ H'=>Q .non H',rt:=Q} (qb N vs) H):
  FnOk P w K mg base CX (k+1) f (PySem.W.fnOf name qual params body scope dV kV doc pm an f9 ct) ps sp:=by
 refine⟨len,fun A outer s H args us vs Q E hr e0 hb r ck=>?_⟩;have hl:=len _ _ _ _ ck;have KX:K.In s.heap:=e0.mod.kin.keeps fun b o e=>(e0.bs b o e).1;have lim:s.heap.NoLimit:=e0.mod.nolimit.keeps fun b o e=>(e0.bs b o e).1
 have hkind: ∀y∈ps.zip us,scope.names.lookup y.1=some .local\/(scope.names.lookup y.1=some .cell/\((cellsFrom (s.heap.objs.size+1) scope.names []).lookup y.1).isSome=true):=fun⟨n,v⟩ hy=>by
  rcases S.par n (Ej hy).1 with q|q
  ·exact .inl q
  ·exact .inr ⟨q,IC _ _ _ (.inl q)⟩
 refine codeAny_call_function hr.depth (KX _ _ lk) rfl S.co S.gen rfl (PySem.W.codeRec_of KX y7) (hb _ _ _ _ ?_);refine wpAny_newFunctionEnv_cells S.kind hkind fun env he s1 x=>?_;subst he;refine⟨lim.keeps x.toInCall.keep,codeAny_func ?_⟩;obtain⟨t,ht,hq⟩:=y8 A outer s H vs Q E (hr.deeper _) ck;have I:Inv (Di CX P w K mg base N qual scope f f9 A outer s H E) [] (qb N vs) H s1:=HB S hr.hd e0 hl r x;refine pU (ht [] s1 (qb N vs) H _ I hq) (fun fl s' hs=>?_) fun e s' hs=>hs
 have fin: ∀{σ':St} {H':Hp} {v:V} {u:gL},Inv (Di CX P w K mg base N qual scope f f9 A outer s H E) [] σ' H' s'->RelV v u->Q v H'->CE outer P w H s Q u s':=
  fun {σ' H' v u} J rv q=>⟨v,H',J.os,J.bare,J.base,J.hok,rv,q⟩
 cases fl with
 |ret u=>
  obtain⟨v,σ',H',J,rv,q⟩:=hs;exact fin J rv q
 |next=>
  obtain⟨σ',H',J,q⟩:=hs;exact fin (v:=V.non) (u:=Value.none) J rfl q
 |brk=>
  obtain⟨_,_,_,q⟩:=hs;exact False.elim q
 |cont=>
  obtain⟨_,_,_,q⟩:=hs;exact False.elim q
section
variable {X:Cx}{x:Str}{p pos:Pos}{e:gM}{es:jF}{t:TA}{id T:String}{r:List V->Hp->VK->Prop}
def tCB(r:List V->Hp->VK->Prop)(t:TA):TE:=fun σ H Q=>t σ H fun vs H1=>r vs H1 Q
theorem CM(hc:jI X (.builtin id) r)(hg:Gl X x)(hm:X.mg x=none)(hv:bootBuiltins x=some (.builtin id))(ha:PA X (e::es) t)(hn:x≠"__name__":=by decide)(p7:(x==("__debug__":Str))=false:=by decide)
  (he:starEach (e::es) X.env=(false,eval e X.env)::starEach es X.env:=by rfl)(i8:(backTo pos (starEach es X.env)).any (·.1)=false:=by rfl):PE X (.Call (.Name x p) (e::es) [] pos) (tCB r t):=by
 intro pins s σ H Q I h;refine A4 (vM I hg hm hv ?_ hn p7);exact PyProof.Rows.callWith_builtin1 (thn (ha pos pins s σ H _ I h) fun us s1 ⟨vs,H1,I1,r1,q1⟩=>hc pins s1 σ H1 vs us Q I1 r1 q1) he i8
theorem oZ(hc:jI X (.type T) r)(hg:Gl X x)(hm:X.mg x=none)(hv:bootBuiltins x=some (.type T))(ha:PA X (e::es) t)(hn:x≠"__name__":=by decide)(p7:(x==("__debug__":Str))=false:=by decide)
  (he:starEach (e::es) X.env=(false,eval e X.env)::starEach es X.env:=by rfl)(i8:(backTo pos (starEach es X.env)).any (·.1)=false:=by rfl):PE X (.Call (.Name x p) (e::es) [] pos) (tCB r t):=by
 intro pins s σ H Q I h;refine A4 (vM I hg hm hv ?_ hn p7);exact A5 (thn (ha pos pins s σ H _ I h) fun us s1 ⟨vs,H1,I1,r1,q1⟩=>hc pins s1 σ H1 vs us Q I1 r1 q1) he i8
end
end L2
namespace HT
open PySem PyProof.Rows
section
open PySem.SeqAt
open PySem.AutoSeq1 (wpAny_loadPart')
open PySem.MeetsSeq PySem.MeetsSeq2 PySem.MeetsSeq3
end
section
variable {prog:hG}{w:gS}{A:gW}{E:hV}{s:gA}
theorem Q8{t b:gv}{vs ws:iL}{Q:hV}(ht:IsTup s.heap t vs.toArray)(hb:IsTup s.heap b ws.toArray)(hv:vs≠[])
  (h1:ws=[]->Q (.ref t) s)(h2:ws≠[]->Q (.ref s.heap.objs.size) {s with heap:=s.heap.push {cls:= .type "tuple",data:= .seq (vs++ws).toArray}})
  (hsz:vs.length+ws.length<=sizeLine):wpAny (model prog w) A (binaryOp .Add (.ref t) (.ref b)) Q E s:=by
 obtain⟨⟨cls,dd,data,sl⟩,ho,hc,n,hd⟩:=id ht;obtain⟨⟨cZ,w9,data2,v9⟩,u6,aM,n2,hd2⟩:=id hb;simp only at hc hd aM hd2;subst hc hd aM hd2;have e:vs.toArray++ws.toArray=(vs++ws).toArray:=by simp
 by_cases hw:ws=[]
 ·exact A3 ⟨_,ho,rfl⟩ ⟨_,u6,rfl⟩ Ei Eh Eg Ef (Ee _ _)
   (tuple_addW1 t b vs.toArray ws.toArray n n2 dd w9 sl v9 (by simpa using hv) (by simp[hw])) ⟨ho,u6,h1 hw⟩
 ·refine A3 ⟨_,ho,rfl⟩ ⟨_,u6,rfl⟩ Ei Eh Eg Ef (Ee _ _)
   (tuple_addW2 t b vs.toArray ws.toArray n n2 dd w9 sl v9 (by simpa using hv) (by simpa using hw) (by rw[iw,iw];exact hsz)) ⟨ho,u6,?_⟩
  rw[e];exact h2 hw
noncomputable def sIx(n d:Nat):Option Int->Nat
 |none=>d
 |some v=>if v<0 then(v+(n:Int)).toNat else min v.toNat n
theorem NI(n d:Nat):sIx n d none=d:=rfl
theorem Pt(n d k:Nat):sIx n d (some (k:Int))=min k n:=by
 show(if(k:Int)<0 then((k:Int)+(n:Int)).toNat else min (k:Int).toNat n)=min k n;rw[gF (by lia),qk]
theorem NJ(n d:Nat)(hd:d<=n)(o:Option Int):sIx n d o<=n:=by
 cases o with
 |none=>exact hd
 |some v=>
  show(if v<0 then(v+(n:Int)).toNat else min v.toNat n)<=n;by_cases hv:v<0
  ·rw[gD hv];lia
  ·rw[gF hv];exact Nat.min_le_right _ _
theorem GK(v:Int)(n d:Nat):(if v<0 then max (v+(n:Int)) 0 else min v (n:Int))=((sIx n d (some v):Nat):Int):=by
 show(if v<0 then max (v+(n:Int)) 0 else min v (n:Int))=(((if v<0 then(v+(n:Int)).toNat else min v.toNat n):Nat):Int)
 by_cases hv:v<0
 ·simp only[gD hv];lia
 ·simp only[gF hv];lia
theorem FL(lo hi:Option Int)(n:Nat):Builtin.Slice.sliceAdjust lo hi 1 (n:Int)=(((sIx n 0 lo:Nat):Int),((sIx n n hi:Nat):Int)):=by
 have h1: ¬((1:Int)<0):=by lia
 unfold Builtin.Slice.sliceAdjust;simp only[h1,ja];refine Prod.ext ?_ ?_
 ·cases lo with
  |none=>rfl
  |some v=>exact GK v n 0
 ·cases hi with
  |none=>rfl
  |some v=>exact GK v n n
theorem EL(i j:Nat):Builtin.Slice.slicePlaces (i:Int) (j:Int) 1=j-i:=by
 unfold Builtin.Slice.slicePlaces;have h1:(1:Int)>0:=by lia
 simp only[h1,iH,Int.ediv_one];split<;>lia
theorem xv{v:gL}{o:Option Int}{Q:Option Int->Shared->Prop}(p:IsPart v o)(h:Q o s):wpAny (model prog w) A (Builtin.Slice.slicePartIndex v) Q E s:=by
 cases p with
 |none=>exact A2 h
 |int i t=>exact slicePart_int h
theorem oW{sl:gv}{vl vu:gL}{lo hi:Option Int}{n:Nat}{Q:Int×Int×Nat->Shared->Prop}(hs:s.heap.IsSliceOf sl vl vu .none)(pl:IsPart vl lo)(pu:IsPart vu hi)
  (h:Q (((sIx n 0 lo:Nat):Int),1,sIx n n hi-sIx n 0 lo) s):wpAny (model prog w) A (Builtin.Slice.sliceApplied (.ref sl) (pure (n:Int))) Q E s:=by
 obtain⟨os,y9,aT,bK⟩:=id hs;unfold Builtin.Slice.sliceApplied Builtin.Slice.sliceFields;refine gw (gw (lZ y9 bK (x:=vl) rfl (gw (lZ y9 bK (x:=vu) rfl (gw (lZ y9 bK (x:= .none) rfl (gK ?_)))))));refine gw (A2 ?_);show wpAny _ _ (if((1:Int)==0)=true then _ else _) _ _ s;rw[gF (by decide)];refine gw (xv pl (gw (xv pu (gw (gK ?_)))));show wpAny _ _ (match Builtin.Slice.sliceAdjust lo hi 1 (n:Int) with|(lo,hi)=>pure (lo,(1:Int),Builtin.Slice.slicePlaces lo hi 1)) _ _ s;rw[FL lo hi n];show wpAny _ _ (pure (((sIx n 0 lo:Nat):Int),(1:Int),Builtin.Slice.slicePlaces ((sIx n 0 lo:Nat):Int) ((sIx n n hi:Nat):Int) 1)) _ _ s;rw[EL];exact gK h
theorem JN(xs:jW)(i k:Nat):((List.range k).filterMap fun(m:Nat)=>xs[((i:Int)+(m:Int)*1).toNat]?).toArray=((xs.toList.drop i).take k).toArray:=by
 have e:(fun(m:Nat)=>xs[((i:Int)+(m:Int)*1).toNat]?)=fun m=>xs[i+m]?:=by
  funext m;have:((i:Int)+(m:Int)*1).toNat=i+m:=by lia
  rw[this]
 rw[e];have:=pick_run xs i k;rw[List.filterMap_map] at this;have e2:((fun x=>xs[x]?)∘fun x=>i+x)=fun m=>xs[i+m]?:=rfl;rw[e2] at this;rw[this]
theorem Fh{t sl:gv}{items:jW}{vl vu:gL}{lo hi:Option Int}{Q:hV}(ht:IsTup s.heap t items)(hs:s.heap.IsSliceOf sl vl vu .none)(pl:IsPart vl lo)(pu:IsPart vu hi)
  (hw: ¬(sIx items.size 0 lo=0/\sIx items.size items.size hi=items.size))
  (h:Q (.ref s.heap.objs.size) {s with heap:=s.heap.push {cls:= .type "tuple",data:= .seq ((items.toList.drop (sIx items.size 0 lo)).take (sIx items.size items.size hi-sIx items.size 0 lo)).toArray}})
  (hsz:items.size<=sizeLine):wpAny (model prog w) A (getItem (.ref t) (.ref sl)) Q E s:=by
 have m9:sizeOk (.seq ((items.toList.drop (sIx items.size 0 lo)).take (sIx items.size items.size hi-sIx items.size 0 lo)).toArray):=by
  show((items.toList.drop (sIx items.size 0 lo)).take (sIx items.size items.size hi-sIx items.size 0 lo)).toArray.size<=sizeLine;rw[iw,nW,qy,jo]
  lia
 have hj:sIx items.size items.size hi<=items.size:=NJ _ _ (ip _) hi;obtain⟨os,y9,aT,bK⟩:=id hs;have dY:s.TypeIs (.ref sl) "slice":=⟨os,y9,aT⟩
 unfold getItem
 try with_reducible refine mX ?_
 first|refine gw (gK ?_)|skip
 refine gw (Ed ht.typeIs (by decide) ?_)
 refine gw (qj (name:=Str.ofString "__getitem__") ht.typeIs wX
  (mU wX ht.typeIs Eb ?_ (Ea _ _)))
 show wpAny _ _ (Builtin.Tuple.tupleItemsOf (.ref t)>>=_) _ _ s;refine gw (D9 ht ?_);refine gw (rV dY ?_);rw[gD (by decide)];refine gw (oW hs pl pu ?_)
 have cp: ¬((((sIx items.size 0 lo:Nat):Int)==0&&(1:Int)==1&&(sIx items.size items.size hi-sIx items.size 0 lo)==items.size)=true):=by
  intro q;rw[jr,jr] at q;have q1:((sIx items.size 0 lo:Nat):Int)=0:=qx q.1.1;have q2:sIx items.size items.size hi-sIx items.size 0 lo=items.size:=qx q.2;exact hw ⟨by lia,by lia⟩
 show wpAny _ _ (if(((sIx items.size 0 lo:Nat):Int)==0&&(1:Int)==1&&(sIx items.size items.size hi-sIx items.size 0 lo)==items.size)=true then _ else _) _ _ s;rw[gF cp,JN]
 first
  |exact gw (m:=Builtin.Tuple.tupleExact _) (ll (gK ⟨_,rfl,gK h⟩) m9)
  |exact gw (m:=Builtin.Tuple.tupleExact _) (ll (gw (gK (gK ⟨_,rfl,gK h⟩))) m9)
  |exact gw (gw (m:=Builtin.Tuple.tupleExact _) (ll (gK (gK ⟨_,rfl,gK h⟩)) m9))
  |exact gw (gw (m:=Builtin.Tuple.tupleExact _) (ll (gK ⟨_,rfl,gK h⟩) m9))
end
end HT
namespace L2
open PySem PySem.Spec PyProof.Rows
abbrev TO:=St->Hp->(Option Int->Hp->Prop)->Prop
def PO(X:Cx)(e:Option Expr)(t:TO):Prop:=
 ∀(pins:ik) (s:gA) (σ:St) (H:Hp) (Q:Option Int->Hp->Prop),Inv X pins σ H s->t σ H Q->
  wpAny (model X.prog X.w) X.A (evalPart e X.env) (fun u s'=> ∃o H',Inv X pins σ H' s'/\IsPart u o/\Q o H') X.xe s
noncomputable def Lv:TO:=fun _ H Q=>Q none H
def PH(t:TE):TO:=fun σ H Q=>t σ H fun x H1=> ∃i,x= .int i/\Q (some i) H1
section
variable {X:Cx}{e:gM}{te:TE}{lo hi:Option Expr}{tl th:TO}{pos p2:Pos}
theorem Ge:PO X none Lv:=by
 intro pins s σ H Q I h;rw[D8];exact gK ⟨none,H,I,.none,h⟩
theorem wK(h:PE X e te):PO X (some e) (PH te):=by
 intro pins s σ H Q I hw;rw[evalPart_some];refine thn (h pins s σ H _ I hw) fun u s1 ⟨x,H1,I1,r1,q1⟩=>?_;obtain⟨i,rfl,q⟩:=q1;obtain⟨t,rfl⟩:=r1;exact⟨some i,H1,I1,.int i t,q⟩
def SlR(X:Cx)(r:V->Option Int->Option Int->Hp->VK->Prop):Prop:=
 ∀(pins:ik) (s:gA) (σ:St) (H:Hp) (x:V) (v vl vu:gL) (lo hi:Option Int) (sl:gv) (Q:VK),Inv X pins σ H s->RelV x v->s.heap.IsSliceOf sl vl vu .none->IsPart vl lo->IsPart vu hi->r x lo hi H Q->
  ∃T id,typeLookup (.type T) "__getitem__"=pure (some (.builtin id))/\s.TypeIs v T/\wpAny (model X.prog X.w) X.A (getItem v (.ref sl)) (EP X pins σ Q) X.xe s
def tSl(r:V->Option Int->Option Int->Hp->VK->Prop)(te:TE)(tl th:TO):TE:=fun σ H Q=>te σ H fun x H1=>tl σ H1 fun l H2=>th σ H2 fun u H3=>r x l u H3 Q
theorem xN{r:V->Option Int->Option Int->Hp->VK->Prop}(hr:SlR X r)(he:PE X e te)(hl:PO X lo tl)(hu:PO X hi th):PE X (.Subscript e (.Slice lo hi none p2) pos) (tSl r te tl th):=by
 intro pins s σ H Q I h;refine Subscript_ (thn (he pins s σ H _ I h) fun v s1 ⟨x,H1,I1,r1,q1⟩=>?_);refine wpAny_Slice (thn (hl pins s1 σ H1 _ I1 q1) fun vl s2 ⟨l,H2,I2,pl,q2⟩=>thn (hu pins s2 σ H2 _ I2 q2) fun vu s3 ⟨u,H3,I3,pu,q3⟩=>?_);rw[D8];refine gK ?_;have I4:Inv X pins σ H3 {s3 with heap:=s3.heap.push {cls:= .type "slice",data:= .fields #[vl,vu,.none]}}:=I3.kept (t':=s3.toks) fun b ob q=>iz _ q;obtain⟨T,id,hT,ht,hg⟩:=hr pins {s3 with heap:=s3.heap.push {cls:= .type "slice",data:= .fields #[vl,vu,.none]}} σ H3 x v vl vu l u s3.heap.objs.size Q I4 r1 (Heap.IsSliceOf.new ..) pl pu q3;show wpAny (model X.prog X.w) X.A (subscriptTail e (.Slice lo hi none p2) v (.ref s3.heap.objs.size)) (EP X pins σ Q) X.xe {s3 with heap:=s3.heap.push {cls:= .type "slice",data:= .fields #[vl,vu,.none]}};exact tail_any (ops:=[.ref s3.heap.objs.size,v]) ht hT hg (by with_unfolding_all rfl)
noncomputable def Dj(xs:List V)(lo hi:Option Int):List V:=(xs.drop (HT.sIx xs.length 0 lo)).take (HT.sIx xs.length xs.length hi-HT.sIx xs.length 0 lo)
theorem wj(xs:List V)(lo hi:Option Int):(Dj xs lo hi).length<=xs.length:=by
 unfold Dj;rw[nW,qy]
 lia
def SA(K:hC):V->Option Int->Option Int->Hp->VK->Prop:=fun x lo hi H Q=> ∃a xs,x= .ref a/\SqT K H a xs/\
 ¬(HT.sIx xs.length 0 lo=0/\HT.sIx xs.length xs.length hi=xs.length)/\ ∀p,H p=none->Q (.ref p) (upd H p (.tup (Dj xs lo hi)))
theorem ND:SlR X (SA X.K):=by
 intro pins s σ H x v vl vu lo hi sl Q I rx hs pl pu h;obtain⟨a,xs,rfl,hx,hw,q⟩:=h;cases rx;obtain⟨b6,r,ht,hz⟩:=I.tuple hx;have hlen:b6.toArray.size=xs.length:=by rw[iw];exact r.length.symm
 refine⟨"tuple",_,wX.lookup,ht.typeIs,?_⟩;refine HT.Fh ht hs pl pu (by rw[hlen];exact hw) ?_ (by rw[hlen];exact hz);rw[hlen];refine⟨.ref s.heap.objs.size,_,I.laid (t':=s.toks) (o:= .tup (Dj xs lo hi)) (fun b ob q=>iz _ q) (ip _) ?_,rfl,q _ (I.hok.fresh (ip _))⟩;exact⟨lq (wj xs lo hi) hz,_,(r.drop (HT.sIx xs.length 0 lo)).take (HT.sIx xs.length xs.length hi-HT.sIx xs.length 0 lo),xj _ _⟩
def Qb(K:hC):R2:=fun x y H Q=> ∃a b xs ys,x= .ref a/\y= .ref b/\SqT K H a xs/\SqT K H b ys/\xs≠[]/\xs.length+ys.length<=sizeLine/\
 (ys=[]->Q (.ref a) H)/\(ys≠[]-> ∀p,H p=none->Q (.ref p) (upd H p (.tup (xs++ys))))
theorem Vals.nil_iff{xs:List V}{us:iL}(r:Vals xs us):us=[]↔xs=[]:=by
 cases r with
 |nil=>simp
 |cons _ _=>simp
theorem Mo:OpR X (binaryOp .Add) (Qb X.K):=by
 intro pins s σ H x y v u Q I rx ry h;obtain⟨a,b,xs,ys,rfl,rfl,ha,hb,hx,hz,q1,q2⟩:=h;cases rx;cases ry;obtain⟨b6,r1,p1,_⟩:=I.tuple ha;obtain⟨c8,r2,p2,_⟩:=I.tuple hb;refine HT.Q8 p1 p2 (fun z=>hx (r1.nil_iff.mp z)) (fun z=>⟨.ref a,H,I,rfl,q1 (r2.nil_iff.mp z)⟩) (fun z=>?_) (by rw[<-r1.length,<-r2.length];exact hz);refine⟨.ref s.heap.objs.size,_,I.laid (t':=s.toks) (o:= .tup (xs++ys)) (fun b ob q=>iz _ q) (ip _) ?_,rfl,q2 (fun w=>z (r2.nil_iff.mpr w)) _ (I.hok.fresh (ip _))⟩;exact⟨by rw[kZ];exact hz,_,r1.append r2,xj _ _⟩
end
noncomputable def ixN(n:Nat)(i:Int):Option Nat:=if 0<=i then(if i<n then some i.toNat else none) else if -(n:Int)<=i then some (i+n).toNat else none
noncomputable def atI{α:Type}(xs:List α)(i:Int):Option α:=(ixN xs.length i).bind fun j=>xs[j]?
theorem BE{n:Nat}{i:Int}{j:Nat}(h:ixN n i=some j):seqIndex? i n=some j/\j<n/\ -(n:Int)<=i/\i<n:=by
 unfold ixN at h;by_cases h0:0<=i
 ·rw[gD h0] at h;by_cases h1:i<n
  ·rw[gD h1] at h;have e:i.toNat=j:=iO h;exact⟨by rw[D7 h0 h1,e],by lia,by lia,h1⟩
  ·rw[gF h1] at h;cases h
 ·rw[gF h0] at h;by_cases h1: -(n:Int)<=i
  ·rw[gD h1] at h;have e:(i+n).toNat=j:=iO h;exact⟨by rw[D6 (by lia) h1,e],by lia,h1,by lia⟩
  ·rw[gF h1] at h;cases h
theorem GR{α:Type}{xs:List α}{i:Int}{v:α}(h:atI xs i=some v): ∃j,seqIndex? i xs.length=some j/\xs[j]?=some v/\j<xs.length/\ -(xs.length:Int)<=i/\i<xs.length:=by
 unfold atI at h
 cases e:ixN xs.length i with
 |none=>rw[e] at h;cases h
 |some j=>
  rw[e] at h;obtain⟨h1,h2,h3,h4⟩:=BE e;exact⟨j,h1,h,h2,h3,h4⟩
def uW(b:gM):Prop:= ∀o i,subscripted b false o i=operate [o,i] (getItem o i)
def IxR(X:Cx)(r:R2):Prop:=
 ∀(value slice:gM) (pins:ik) (s:gA) (σ:St) (H:Hp) (x y:V) (v u:gL) (Q:VK),Inv X pins σ H s->RelV x v->RelV y u->r x y H Q->
  subscripted slice false v u=operate [v,u] (getItem v u)->wpAny (model X.prog X.w) X.A (subscriptTail value slice v u) (EP X pins σ Q) X.xe s
def MtR(X:Cx)(id:String)(r:V->List V->Hp->VK->Prop):Prop:=
 ∀(pins:ik) (s:gA) (σ:St) (H:Hp) (x:V) (xs:List V) (v:gL) (us:iL) (Q:VK),Inv X pins σ H s->RelV x v->Vals xs us->r x xs H Q->
  wpAny (model X.prog X.w) X.A (call (.builtin id) (v::us)) (EP X pins σ Q) X.xe s
section
variable {X:Cx}{a b:gM}{ta tb:TE}{pos:Pos}
theorem M7{r:R2}(hr:IxR X r)(ha:PE X a ta)(hb:PE X b tb)(hs:uW b):PE X (.Subscript a b pos) (tOp r ta tb):=by
 intro pins s σ H Q I h;exact Subscript_ (Pk ha hb I h fun v u s2 x y H2 I2 rx ry q=>hr a b pins s2 σ H2 x y v u Q I2 rx ry q (hs _ _))
def SH(K:hC):R2:=fun x y H Q=> ∃p xs i v,x= .ref p/\y= .int i/\SqL K H p xs/\atI xs i=some v/\Q v H
def SG(K:hC):R2:=fun x y H Q=> ∃p xs i v,x= .ref p/\y= .int i/\SqT K H p xs/\atI xs i=some v/\Q v H
theorem Mz:IxR X (SH X.K):=by
 intro value slice pins s σ H x y v u Q I rx ry h hs;obtain⟨p,xs,i,z,rfl,rfl,hq,he,q⟩:=h;cases rx;obtain⟨t,rfl⟩:=ry;obtain⟨b6,r,pl,hz⟩:=I.list hq;obtain⟨j,h1,h2,h3,h4,h5⟩:=GR he;obtain⟨w,ew,aj⟩:=r.get h2;have hl:=r.length;have hn:=BC;have fin:EP X pins σ Q w s:=⟨z,H,I,aj,q⟩
 by_cases h0:0<=i
 ·have hj:i.toNat=j:=by
   rw[D7 h0 h5] at h1;exact iO h1
  exact item_listR pl.isList h0 (by lia) (by rw[hj];simpa using ew) fin hs
 ·have hj:(i+(b6.toArray.size:Int)).toNat=j:=by
   rw[D6 (by lia) h4] at h1;rw[iw,<-hl];exact iO h1
  exact IA (x:=w) pl.isList.typeIs slot_list_getitem.lookup
   (wpAny_getItem_list_neg (Q:=fun r s'=>r=w/\EP X pins σ Q r s') pl.isList (by lia) (by rw[iw]<;>lia) (by lia) (by rw[hj];simpa using ew) ⟨rfl,fin⟩) hs
theorem OS:IxR X (SG X.K):=by
 intro value slice pins s σ H x y v u Q I rx ry h hs;obtain⟨p,xs,i,z,rfl,rfl,hq,he,q⟩:=h;cases rx;obtain⟨t,rfl⟩:=ry;obtain⟨b6,r,pl,hz⟩:=I.tuple hq;obtain⟨j,h1,h2,h3,h4,h5⟩:=GR he;obtain⟨w,ew,aj⟩:=r.get h2;have hl:=r.length;have hn:=BC;have fin:EP X pins σ Q w s:=⟨z,H,I,aj,q⟩
 exact IA (x:=w) pl.typeIs slot_tuple_getitem.lookup
  (getItem_tuple (j:=j) (Q:=fun r s'=>r=w/\EP X pins σ Q r s') pl (by lia) (by lia) (by rw[iw,<-hl];exact h1) (by simpa using ew) ⟨rfl,fin⟩) hs
theorem E9(b6:iL)(n j:Nat)(u:gL):Obj.mapSeq (·.setIfInBounds j u) {cls:= .type "list",data:= .seq b6.toArray n}={cls:= .type "list",data:= .seq (b6.set j u).toArray n}:=by
 simp[Obj.mapSeq]
theorem Inv.lst{pins:ik}{σ:St}{H:Hp}{s:gA}{p:gv}{xs:List V}(I:Inv X pins σ H s)(h:H p=some (.lst xs)):
  ∃(b6:iL) (n:Nat),Vals xs b6/\s.heap.get? p=some {cls:= .type "list",data:= .seq b6.toArray n}/\xs.length<=sizeLine:=by
 obtain⟨z,b6,n,r,e⟩:=I.hok p _ h;exact⟨b6,n,r,e,z⟩
theorem Inv.lstUpd{pins:ik}{σ:St}{H:Hp}{s:gA}{p:gv}{xs ys:List V}{b6 its':iL}{n n':Nat}{f:Obj->Obj}(I:Inv X pins σ H s)(h:H p=some (.lst xs))
  (ho:s.heap.get? p=some {cls:= .type "list",data:= .seq b6.toArray n})(hf:f {cls:= .type "list",data:= .seq b6.toArray n}={cls:= .type "list",data:= .seq its'.toArray n'})(r:Vals ys its')(hz:ys.length<=sizeLine)(t:Nat):
  Inv X pins σ (upd H p (.lst ys)) {s with heap:=s.heap.update p f,toks:=t}:=by
 have e:(s.heap.update p f).get? p=some {cls:= .type "list",data:= .seq its'.toArray n'}:=by
  rw[rT f ho (by rw[hf]<;>rfl),hf]
 refine I.write (x:=p) (e:=p) (by rw[h];trivial) (.inl rfl) (fun b u hb q=>(vw _ _ (pV hb)).trans q) ⟨_,e⟩ ?_;exact⟨hz,its',n',r,e⟩
def P8:V->V->V->Hp->(Hp->Prop)->Prop:=fun o i v H Q=> ∃p xs k j,o= .ref p/\i= .int k/\H p=some (.lst xs)/\ixN xs.length k=some j/\Q (upd H p (.lst (xs.set j v)))
theorem Jj:Po X P8:=by
 intro pins s σ H o i v ov iv u Q I ro ri rv h;obtain⟨p,xs,k,j,rfl,rfl,hp,hj,q⟩:=h;cases ro;obtain⟨t,rfl⟩:=ri;obtain⟨b6,n,r,ho,hz⟩:=I.lst hp;obtain⟨h1,h2,h3,h4⟩:=BE hj;have hl:=r.length;have hn:=BC
 have I':Inv X pins σ (upd H p (.lst (xs.set j v))) {s with heap:=s.heap.update p (Obj.mapSeq (·.setIfInBounds j u))}:=
  I.lstUpd hp ho (E9 b6 n j u) (r.set rv j) (by rw[rS];exact hz) s.toks
 by_cases h0:0<=k
 ·have hk:k.toNat=j:=by
   rw[D7 h0 h4] at h1;exact iO h1
  exact PySem.W.ki_setAt ho h0 (by lia) (by rw[iw,<-hl];exact h4) (by rw[hk];exact⟨_,I',q⟩)
 ·have hk:(k+(b6.toArray.size:Int)).toNat=j:=by
   rw[D6 (by lia) h3] at h1;rw[iw,<-hl];exact iO h1
  exact PySem.W.ki_setBack ho (by lia) (by rw[iw,<-hl];exact h3) (by lia) (by rw[hk];exact⟨_,I',q⟩)
theorem Bc(lo hi:Option Int)(n:Nat):(sliceBounds lo hi none n).1=((HT.sIx n 0 lo:Nat):Int)/\(sliceBounds lo hi none n).2.1=((HT.sIx n n hi:Nat):Int)/\(sliceBounds lo hi none n).2.2=1:=by
 refine⟨?_,?_,rfl⟩
 ·cases lo with
  |none=>simp[sliceBounds,HT.sIx]
  |some i=>
   simp only[sliceBounds,HT.sIx,Option.getD_none,show(1:Int)>0 by decide,iH];by_cases h:i<0
   ·simp only[h,iH]<;>lia
   ·simp only[h,ja]<;>lia
 ·cases hi with
  |none=>simp[sliceBounds,HT.sIx]
  |some i=>
   simp only[sliceBounds,HT.sIx,Option.getD_none,show(1:Int)>0 by decide,iH];by_cases h:i<0
   ·simp only[h,iH]<;>lia
   ·simp only[h,ja]<;>lia
theorem yQ(b6:iL)(lo hi:Option Int):slicePick b6.toArray lo hi none=((b6.drop (HT.sIx b6.length 0 lo)).take (HT.sIx b6.length b6.length hi-HT.sIx b6.length 0 lo)).toArray:=by
 obtain⟨h1,h2,h3⟩:=Bc lo hi b6.toArray.size;unfold slicePick;rw[h1,h2,h3];simp only[sliceRange_one,pick_run,iw]<;>rfl
def SD(K:hC):V->Option Int->Option Int->Hp->VK->Prop:=fun x lo hi H Q=> ∃a xs,x= .ref a/\SqL K H a xs/\ ∀p,H p=none->Q (.ref p) (upd H p (.lst (Dj xs lo hi)))
theorem Lw:SlR X (SD X.K):=by
 intro pins s σ H x v vl vu lo hi sl Q I rx hs pl pu h;obtain⟨a,xs,rfl,hx,q⟩:=h;cases rx;obtain⟨b6,r,ht,hz⟩:=I.list hx;have hlen:=r.length;refine⟨"list",_,slot_list_getitem.lookup,ht.isList.typeIs,?_⟩;refine wpAny_getItem_list_slice ht.isList hs pl pu .none (by simp) ?_ (by rw[iw]<;>lia);rw[yQ,<-hlen];refine⟨.ref s.heap.objs.size,_,I.laid (t':=s.toks) (o:= .lst (Dj xs lo hi)) (fun b ob q=>iz _ q) (ip _) ?_,rfl,q _ (I.hok.fresh (ip _))⟩;exact⟨lq (wj xs lo hi) hz,_,0,(r.drop (HT.sIx xs.length 0 lo)).take (HT.sIx xs.length xs.length hi-HT.sIx xs.length 0 lo),jP _ rfl⟩
noncomputable def Ni:V->Bool
 | .non=>true
 | .bl _=>true
 | .int _=>true
 | .str _=>true
 |_=>false
noncomputable def eqV:V->V->Bool
 | .non,.non=>true
 | .bl a,.bl b=>a==b
 | .bl a,.int b=>(if a then 1 else 0)==b
 | .int a,.bl b=>a==(if b then 1 else 0)
 | .int a,.int b=>a==b
 | .str a,.str b=>a==b
 |_,_=>false
theorem lg{A:gW}{s:gA}{y x:V}{u v:gL}(ry:RelV y u)(rx:RelV x v)(fy:Ni y=true)(fx:Ni x=true):SeqAt.EqAt A s u v (eqV y x):=by
 cases y with
 |non=>
  cases ry
  cases x with
  |non=>cases rx;exact SeqAt.EqAt.same _
  |bl b=>cases rx;exact SeqAt.EqAt.none_bool b
  |int b=>obtain⟨t,rfl⟩:=rx;exact SeqAt.EqAt.none_int b t
  |str b=>obtain⟨t,rfl⟩:=rx;exact SeqAt.EqAt.none_str b t
  |_=>exact absurd (show false=true from fx) jB
 |bl a=>
  cases ry
  cases x with
  |non=>cases rx;exact SeqAt.EqAt.bool_none a
  |bl b=>cases rx;exact SeqAt.EqAt.bool_bool a b
  |int b=>obtain⟨t,rfl⟩:=rx;exact SeqAt.EqAt.bool_int a b t
  |str b=>obtain⟨t,rfl⟩:=rx;exact SeqAt.EqAt.bool_str a b t
  |_=>exact absurd (show false=true from fx) jB
 |int a=>
  obtain⟨t',rfl⟩:=ry
  cases x with
  |non=>cases rx;exact SeqAt.EqAt.int_none a t'
  |bl b=>cases rx;exact SeqAt.EqAt.int_bool a t' b
  |int b=>obtain⟨t,rfl⟩:=rx;exact SeqAt.EqAt.int_int a t' b t
  |str b=>obtain⟨t,rfl⟩:=rx;exact SeqAt.EqAt.int_str a t' b t
  |_=>exact absurd (show false=true from fx) jB
 |str a=>
  obtain⟨t',rfl⟩:=ry
  cases x with
  |non=>cases rx;exact SeqAt.EqAt.str_none a t'
  |bl b=>cases rx;exact SeqAt.EqAt.str_bool a t' b
  |int b=>obtain⟨t,rfl⟩:=rx;exact SeqAt.EqAt.str_int a t' b t
  |str b=>obtain⟨t,rfl⟩:=rx;exact SeqAt.EqAt.str_str a t' b t
  |_=>exact absurd (show false=true from fx) jB
 |_=>exact absurd (show false=true from fy) jB
theorem uP:jI X (.builtin "len") (fun xs H Q=> ∃p ys,xs=[.ref p]/\(SqL X.K H p ys\/SqT X.K H p ys)/\Q (.int ys.length) H):=by
 intro pins s σ H xs us Q I r h;obtain⟨p,ys,rfl,hq,q⟩:=h;obtain⟨u,rfl,rx⟩:=um r;cases rx;have hn:=BC;rcases hq with hq|hq
 ·obtain⟨b6,r',pl,hz⟩:=I.list hq;have hlen:=r'.length;exact Calls.call_len_list pl.isList (by simp only[iw]<;>lia) ⟨.int ys.length,H,I.tok _,⟨s.toks+1,by rw[iw,hlen]⟩,q⟩
 ·obtain⟨b6,r',pl,hz⟩:=I.tuple hq;have hlen:=r'.length;exact len_tuple pl (by simp only[iw]<;>lia) ⟨.int ys.length,H,I.tok _,⟨s.toks+1,by rw[iw,hlen]⟩,q⟩
theorem uO:jI X (.type "list") (fun xs H Q=> ∃p ys,xs=[.ref p]/\(SqL X.K H p ys\/SqT X.K H p ys)/\ ∀l,H l=none->Q (.ref l) (upd H l (.lst ys))):=by
 intro pins s σ H xs us Q I r h;obtain⟨p,ys,rfl,hq,q⟩:=h;obtain⟨u,rfl,rx⟩:=um r;cases rx
 have fin: ∀(b6:iL),Vals ys b6->ys.length<=sizeLine-> ∀(h':gU) (c':Nat),(∀b o',s.heap.get? b=some o'->h'.get? b=some o')->
   h'.get? s.heap.objs.size=some {cls:= .type "list",dict:=none,data:= .seq b6.toArray c',slots:= #[]}->EP X pins σ Q (.ref s.heap.objs.size) {s with heap:=h'}:=fun b6 r' hz h' c' kp e=>
  ⟨.ref s.heap.objs.size,_,I.laid (t':=s.toks) kp (ip _) (show ObjOk X.prog X.w _ h' _ (.lst ys) from⟨hz,b6,c',r',e⟩),rfl,q _ (I.hok.fresh (ip _))⟩
 rcases hq with hq|hq
 ·obtain⟨b6,r',pl,hz⟩:=I.list hq;have hlen:=r'.length;obtain⟨o,ho,hc,n,hd⟩:=pl.isList;exact call_list_seq p (.inl rfl) ho hc hd (fun h' c' kp e=>fin b6 r' hz h' c' kp e) (by simp only[iw]<;>lia)
 ·obtain⟨b6,r',pl,hz⟩:=I.tuple hq;have hlen:=r'.length;obtain⟨o,ho,hc,n,hd⟩:=pl;exact call_list_seq p (.inr rfl) ho hc hd (fun h' c' kp e=>fin b6 r' hz h' c' kp e) (by simp only[iw]<;>lia)
theorem su:jI X (.type "tuple") (fun xs H Q=> ∃p ys,xs=[.ref p]/\((SqL X.K H p ys/\ ∀l,H l=none->Q (.ref l) (upd H l (.tup ys)))\/(SqT X.K H p ys/\Q (.ref p) H))):=by
 intro pins s σ H xs us Q I r h;obtain⟨p,ys,rfl,h⟩:=h;obtain⟨u,rfl,rx⟩:=um r;cases rx;rcases h with⟨hq,q⟩|⟨hq,q⟩
 ·obtain⟨b6,r',pl,hz⟩:=I.list hq;have hlen:=r'.length;refine call_tuple_list pl.isList (fun h' kp=>?_) (by simp only[iw]<;>lia);have I1:Inv X pins σ H {s with heap:=h'}:=I.kept (t':=s.toks) kp
  have I2:Inv X pins σ (upd H h'.objs.size (.tup ys)) {s with heap:=h'.push {cls:= .type "tuple",data:= .seq b6.toArray}}:=
   I1.laid (t':=s.toks) (fun b o e=>iz _ e) (ip _) (show ObjOk X.prog X.w _ _ _ (.tup ys) from⟨hz,b6,r',xj _ _⟩)
  exact⟨.ref h'.objs.size,_,I2,rfl,q _ (I1.hok.fresh (ip _))⟩
 ·obtain⟨b6,r',pl,hz⟩:=I.tuple hq;exact call_tuple_same pl ⟨.ref p,H,I,rfl,q⟩
def tyV(K:hC)(T:String)(x:V)(H:Hp):Prop:=match x with
 | .str _=>T="str"
 | .int _=>T="int"
 | .ref p=>(T="list"/\ ∃xs,SqL K H p xs)\/(T="tuple"/\ ∃o,K.lookup p=some o/\o.cls= .type "tuple"/\o.dict=none)\/
   (T="dict"/\((∃kvs,H p=some (.dK kvs))\/ ∃kvs,H p=some (.dT kvs)))\/(T="set"/\ ∃S n,H p=some (.set S n))
 |_=>False
theorem Nw{pins:ik}{σ:St}{H:Hp}{s:gA}{T:String}{x:V}{v:gL}(I:Inv X pins σ H s)(r:RelV x v)(ty:tyV X.K T x H):
  s.TypeIs v T/\ ∀a,v= .ref a-> ∃ob,s.heap.get? a=some ob/\ob.dict=none:=by
 cases x with
 |str z=>
  obtain⟨t,rfl⟩:=r;cases(show T="str" from ty);exact⟨typeIs_str s z t,fun _ e=>nomatch e⟩
 |int i=>
  obtain⟨t,rfl⟩:=r;cases(show T="int" from ty);exact⟨typeIs_int s i t,fun _ e=>nomatch e⟩
 |ref p=>
  cases r;rcases ty with⟨rfl,xs,hq⟩|⟨rfl,o,hk,hc,hd⟩|⟨rfl,hk⟩|⟨rfl,S,n,hk⟩
  ·obtain⟨b6,_,pl,_⟩:=I.list hq;refine⟨pl.isList.typeIs,fun a e=>?_⟩;cases e;obtain⟨o,n,e,c,hd,_⟩:=pl;exact⟨o,e,hd⟩
  ·refine⟨⟨o,I.kIn p o hk,hc⟩,fun a e=>?_⟩;cases e;exact⟨o,I.kIn _ o hk,hd⟩
  ·have z: ∃o,s.heap.get? p=some o/\o.ExactDict:=by
    rcases hk with⟨kvs,hk⟩|⟨kvs,hk⟩
    ·obtain⟨_,_,_,_,o,_,_,e,ex,_⟩:=I.hok p _ hk;exact⟨o,e,ex⟩
    ·obtain⟨_,_,_,_,o,_,_,e,ex,_⟩:=I.hok p _ hk;exact⟨o,e,ex⟩
   obtain⟨o,e,ex⟩:=z;refine⟨⟨o,e,ex.1⟩,fun a e2=>?_⟩;cases e2;exact⟨o,e,ex.2.1⟩
  ·obtain⟨o,_,_,_,e,ex,_⟩:=I.hok p _ hk;refine⟨⟨o,e,ex.1⟩,fun a e2=>?_⟩;cases e2;exact⟨o,e,ex.2.1⟩
 |_=>exact False.elim ty
def tBM(K:hC)(T:String)(r:V->List V->Hp->VK->Prop)(to:TE)(t:TA):TE:=fun σ H Q=>to σ H fun x H1=>tyV K T x H1/\t σ H1 fun xs H2=>r x xs H2 Q
variable {o e:gM}{es:jF}{to:TE}{t:TA}{name:Str}{apos h9:Pos}{T id:String}{r:V->List V->Hp->VK->Prop}
theorem JV(pa:PlainAttrs T)(slot:Slot T name id)(hty:typeOf (.builtin id)=pure (.type "method_descriptor"))(hm:MtR X id r)(ho:PE X o to)(ha:PA X (e::es) t)
  (j0:attributeBase o name X.env (eval o X.env)=eval o X.env:=by rfl)
  (o8:((backTo h9 (starEach (e::es) X.env)).all (fun x=>!x.1)&&(backToKw h9 (keywordEach [] X.env)).all (fun x=>x.1.isSome)
   &&decide ((e::es).length+([]:List Keyword).length+(if([]:List Keyword).isEmpty then 0 else 1)<30))=true:=by rfl)
  (i9:(apos.endLine==h9.line)=true:=by rfl)(hs:starEach (e::es) X.env=(false,eval e X.env)::starEach es X.env:=by rfl)(g9:(backTo h9 (starEach es X.env)).any (·.1)=false:=by rfl):
  PE X (.Call (.Attribute o name apos) (e::es) [] h9) (tBM X.K T r to t):=by
 intro pins s σ H Q I h;refine wpAny_Call_method_late j0 o8 i9 rfl (thn (ho pins s σ H _ I h) fun v s1 ⟨x,H1,I1,r1,ty,q1⟩=>?_);obtain⟨h1,h2⟩:=Nw I1 r1 ty;refine⟨T,id,pa,slot,hty,h1,h2,?_⟩;have hA:=ha h9 pins s1 σ H1 _ I1 q1;rw[hs] at hA ⊢;refine Calls.callWith_builtin (by show(false||(backTo h9 (starEach es X.env)).any (·.1))=false;rw[g9]<;>rfl) (Calls.evalArgs_plain ?_);exact thn hA fun us s2 ⟨vs,H2,I2,r2,q2⟩=>hm pins s2 σ H2 x vs v us Q I2 r1 r2 q2
end
def MtM(X:Cx)(id:String)(r:V->List V->Hp->VK->Prop):Prop:=
 ∀(pins:ik) (s:gA) (σ:St) (H:Hp) (x:V) (xs:List V) (v:gL) (us:iL) (Q:VK),Inv X pins σ H s->RelV x v->Vals xs us->r x xs H Q->
  wpAny (model X.prog X.w) X.A (call (.builtin id) (v::us)) (EP X pins σ Q) X.xe s
theorem Vals.one: ∀{x:V} {us:iL},Vals [x] us-> ∃u,us=[u]/\RelV x u
 |_,_,.cons r .nil=>⟨_,rfl,r⟩
theorem Vals.eraseIdx: ∀{xs:List V} {us:iL} (i:Nat),Vals xs us->Vals (xs.eraseIdx i) (us.eraseIdx i)
 |_,_,_,.nil=> .nil
 |_,_,0,.cons _ t=>t
 |_,_,i+1,.cons r t=> .cons r (Vals.eraseIdx i t)
theorem Vals.reverse{xs:List V}{us:iL}(h:Vals xs us):Vals xs.reverse us.reverse:=by
 induction h with
 |nil=>exact .nil
 |cons r t ih=>rw[A1,A1];exact Vals.append ih (.cons r .nil)
theorem zQ{α:Type}: ∀(l:List α) (i:Nat),(l.eraseIdx i).length<=l.length
 |[],_=>ip _
 |_::_,0=>vt _
 |_::r,i+1=>Nat.succ_le_succ (zQ r i)
section
variable {X:Cx}{pins:ik}{σ:St}{H:Hp}{s:gA}{l b:gv}{xs ys zs:List V}
theorem Inv.lset{b6 its':iL}{n:Nat}{f:Array Value->Array Value}{t':Nat}(I:Inv X pins σ H s)(hH:H l=some (.lst xs))
  (e:s.heap.get? l=some {cls:= .type "list",data:= .seq b6.toArray n})(hf:f b6.toArray=its'.toArray)(hv:Vals ys its')(hz:ys.length<=sizeLine):
  Inv X pins σ (upd H l (.lst ys)) {s with heap:=s.heap.update l (Obj.mapSeq f),toks:=t'}:=by
 have q:=PySem.IsL.update e f;rw[hf] at q;refine I.write (x:=l) (e:=l) (by rw[hH];exact trivial) (.inl rfl) (fun b' u hb hu=>(vw s.heap (Obj.mapSeq f) (pV hb)).trans hu) ⟨_,q⟩ ?_;exact⟨hz,its',_,hv,q⟩
theorem Inv.lnew{b6:iL}{t':Nat}(I:Inv X pins σ H s)(hv:Vals ys b6)(hz:ys.length<=sizeLine):
  Inv X pins σ (upd H s.heap.objs.size (.lst ys)) {s with heap:=s.heap.push {cls:= .type "list",data:= .seq b6.toArray},toks:=t'}:=
 I.laid (fun _ _ q=>iz _ q) (ip _) ⟨hz,b6,0,hv,jP _ rfl⟩
theorem Inv.fresh(I:Inv X pins σ H s):H s.heap.objs.size=none:=I.hok.fresh (ip _)
theorem Inv.lstM(I:Inv X pins σ H s)(hH:H l=some (.lst xs)):xs.length<=sizeLine/\ ∃(b6:iL) (n:Nat),Vals xs b6/\xs.length=b6.length/\s.heap.get? l=some {cls:= .type "list",data:= .seq b6.toArray n}:=by
 obtain⟨z,b6,n,r,e⟩:=I.hok l _ hH;exact⟨z,b6,n,r,r.length,e⟩
theorem J8{n:Nat}(h:n<=sizeLine):Builtin.List.listTooLong n=false:=by
 unfold Builtin.List.listTooLong;exact ji (by lia)
end
section
variable {X:Cx}
def LF:V->List V->Hp->VK->Prop:=fun x vs H Q=> ∃l xs y,x= .ref l/\vs=[y]/\H l=some (.lst xs)/\xs.length<sizeLine/\Q .non (upd H l (.lst (xs++[y])))
theorem Ht:MtM X "list.append" LF:=by
 intro pins s σ H x vs v us Q I rx rv h;obtain⟨l,xs,y,rfl,rfl,hH,hz,q⟩:=h;cases rx;obtain⟨u,rfl,ru⟩:=rv.one;obtain⟨z,b6,n,r,hl,e⟩:=I.lstM hH;refine A0 F.slot_list_append ⟨_,e,rfl⟩ Iz (Iy _ _) (PySem.list_append l b6.toArray n u (by rw[iw];lia)) ⟨e,?_⟩;refine⟨.non,_,I.lset (its':=b6++[u]) hH e (by simp) (r.append (.cons ru .nil)) ?_,rfl,q⟩;rw[kZ,sQ]
 lia
def LD:V->List V->Hp->VK->Prop:=fun x vs H Q=> ∃l b xs zs,x= .ref l/\vs=[.ref b]/\H l=some (.lst xs)/\H b=some (.lst zs)/\xs.length+zs.length<=sizeLine/\Q .non (upd H l (.lst (xs++zs)))
theorem Hs:MtM X "list.extend" LD:=by
 intro pins s σ H x vs v us Q I rx rv h;obtain⟨l,b,xs,zs,rfl,rfl,hH,hB,hz,q⟩:=h;cases rx;obtain⟨u,rfl,ru⟩:=rv.one;cases ru;obtain⟨z,b6,n,r,hl,e⟩:=I.lstM hH;obtain⟨z2,c8,n2,r2,ax,e2⟩:=I.lstM hB;have hsz:b6.toArray.size+c8.toArray.size<=sizeLine:=by rw[iw,iw];lia
 have hlong: ¬(!b6.toArray.isEmpty&&Builtin.List.listTooLong (b6.toArray.size+c8.toArray.size))=true:=by
  rw[J8 hsz,vq];exact jB
 refine A0 F.slot_list_extend ⟨_,e,rfl⟩ F.entry_list_extend (F.args_list_extend_2 _ _)
  (AutoSeq1.list_extend_list_list_0 l b6.toArray n b c8.toArray n2 hlong (by rw[iw];lia) (by lia)) ⟨e,e2,?_⟩
 refine⟨.non,_,I.lset (its':=b6++c8) hH e (by simp) (r.append r2) ?_,rfl,q⟩;rw[kZ]
 lia
def NQ:V->List V->Hp->VK->Prop:=fun x vs H Q=> ∃l xs i k y,x= .ref l/\vs=[.int i]/\H l=some (.lst xs)/\ -(2^63)<=i/\i<2^63/\seqIndex? i xs.length=some k/\xs[k]?=some y/\Q y (upd H l (.lst (xs.eraseIdx k)))
theorem Kb:MtM X "list.pop" NQ:=by
 intro pins s σ H x vs v us Q I rx rv h;obtain⟨l,xs,i,k,y,rfl,rfl,hH,h1,h2,hk,hy,q⟩:=h;cases rx;obtain⟨u,rfl,ru⟩:=rv.one;obtain⟨t,rfl⟩:=ru;obtain⟨z,b6,n,r,hl,e⟩:=I.lstM hH;obtain⟨w,hw,aj⟩:=r.get hy
 refine A0 F.slot_list_pop ⟨_,e,rfl⟩ F.entry_list_pop (F.args_list_pop_2 _ _)
  (MeetsSeq.list_pop_at l b6.toArray n i t k w (fitsIndex_both h1 h2) (by rw[iw,<-hl];exact hk) (by rw[<-lj];exact hw) (by rw[iw];lia)) ⟨e,?_⟩
 refine⟨y,_,I.lset (its':=b6.eraseIdx k) hH e ?_ (r.eraseIdx k) ?_,aj,q⟩
 ·show b6.toArray.eraseIdxIfInBounds k=(b6.eraseIdx k).toArray;rw[List.eraseIdxIfInBounds_toArray]
 ·have:=zQ xs k
  lia
end
section
variable {prog:hG}{w:gS}{A:gW}{E:hV}{s:gA}
end
section
variable {X:Cx}
end
end L2
namespace Att
open PySem PySem.W PySem.Calls PyProof.Rows
theorem wz{P:Params}{h:gU}: ∀(ns:hU) (vs:iL),WellAll P h vs (ns.map WData.int)->IntsAre vs ns:=by
 intro ns
 induction ns with
 |nil=>
  intro vs w;rw[oP] at w;cases w;exact .nil
 |cons n ns ih=>
  intro vs w;rw[iJ] at w
  cases w with
  |cons a b=>
   cases a;exact .cons _ _ (ih _ b)
theorem G7{l:OpenLaw}{n:Nat}(hn:l.most=some n){P:Params}{h:gU}{args:List WData}{vals:iL}
  (aH:l.row.toRowW.claim.pre args=true)(fH:WellAll P h vals args):
  ∃a vs ns,vals=[Value.ref a]/\args=[WData.list (ns.map WData.int)]/\h.get? a=some {cls:= .type "list",data:= .seq vs.toArray}/\IntsAre vs ns/\ns.length<=n:=by
 have eN:WShape.hasAll [] args [.list .int]=true:=(pre_splitW aH).1;have hc:l.pre.holds [] {args:=args}=true:=(pre_splitW aH).2;obtain⟨d,r,rfl,h1,h2⟩:=hasAllW_cons eN;obtain rfl:=hasAllW_nil h2;obtain⟨xs,rfl,h3⟩:=hasW_list h1;obtain⟨ns,rfl⟩:=items_int h3
 have hlen:ns.length<=n:=by
  unfold OpenLaw.pre at hc
  have h4:(WTm.not (.lt (.lit (.int (n:Int))) (.len (.arg 0)))).holds [] {args:=[.list (ns.map .int)]}=true:=by
   have h4:=(holds_andW hc).1;rw[hn] at h4;exact h4
  have h5:=condW_of h4 (w_not (w_lt w_lit (w_len_list (w_arg rfl))));rw[jw] at h5;refine Nat.le_of_not_lt fun q=>?_;have q':(n:Int)<((ns.length:Nat):Int):=by lia
  first
   |(rw[lN q'] at h5;exact absurd h5 (by decide))
   |(simp at h5;lia)
 cases fH with
 |cons w1 w2=>
  cases w2
  cases w1 with
  |list ho hall=>exact⟨_,_,ns,rfl,rfl,ho,wz ns _ hall,hlen⟩
theorem Hj(l:OpenLaw)(args:List WData):l.row.toRowW.claim.post args (.bool true) args=true:=
 postW_of (r:=l.row.toRowW) (X:=(true==true))
  (show WShape.has [] (.bool true) .bool=true by first|rfl|decide|simp[WShape.has,WShape.arms,WShape.armsAll])
  (show(WTm.eq .res (.lit (.bool true))).value [] {args:=args,res:=some (.bool true),after:=args}=some (.bool (true==true)) from w_eq_bool (w_res rfl) w_lit) rfl
theorem MM{l:OpenLaw}{n:Nat}{q:hG}{loose:iG}{XP:(Str->Option Value)->Heap->Prop}{YP:World->Heap->Prop}{d:DefRec}
  (hn:l.most=some n)(dX:d.params.defaults=[])
  (call: ∀(w:gS) (s₀ s₁:gA) (mg mb:lL) (fa:gv) (o:Obj) (pm cd doc:gL) (a:gv) (vs:iL) (ns:hU),
   Ground q loose [] XP w s₀ mg mb s₁.heap->YP w s₁.heap->
   s₁.heap.get? fa=some o->o.data= .func (docDef d.name d.params d.body d.scope pm cd doc)->s₁.heap.CodeRec cd d.name->mg d.name=some (.ref fa)->
   s₁.heap.get? a=some {cls:= .type "list",data:= .seq vs.toArray}->IntsAre vs ns->ns.length<=n->s₁.gens= #[]->
   codeAny (model l.prog w) callerA (.call (.ref fa) ⟨[.ref a],[]⟩) (fun r s'=>r= .ok (.ret (.bool true))/\OldK s₁.heap s'.heap/\s'.os=s₁.os/\AllBare s'.gens) s₁):
  WalkO q loose XP YP l.row.toRowW d [] (fun f vs=>PySem.call f vs):=by
 intro w s₀ s₁ mg mb G Y fa o pm cd doc dV kV ho hd y7 hD hmg hg args vals as aH hlay hrd fH hlo;obtain rfl:dV= .none:=Dflts.none hD dX;obtain rfl:kV= .none:=Dflts.noKw hD;obtain⟨a,vs,ns,rfl,rfl,cR,hints,hlen⟩:=G7 hn aH fH;refine enter_call (sV (call w s₀ s₁ mg mb fa o pm cd doc a vs ns G Y ho (fd_plain hd) y7 hmg cR hints hlen hg) fun r s' hq=>?_);obtain⟨rfl,h2,h3,h4⟩:=hq;exact⟨.inl ⟨.bool true,.bool true,[],rfl,fun _=>rfl,.bool true,Hj l _,fun _=>⟨List.Pairwise.nil,fun _ hm=>(nomatch hm)⟩⟩,h2,h3,h4⟩
section
variable {prog:hG}{w:gS}{A:gW}{E:hV}{s:gA}{K:Frag}
end
end Att
namespace L2
open PySem PySem.Spec PyProof.Rows
theorem zt: ∀{vs:iL} {ns:hU},IntsAre vs ns->Vals (ns.map V.int) vs
 |_,_,.nil=> .nil
 |_,_,.cons n t h=> .cons ⟨t,rfl⟩ (zt h)
def Pp(H:Hp):Prop:= ∀b,H b=none\/ ∃o xs,H b=some (.frz o (.lst xs))
theorem Kj{P:hG}{w:gS}{K:hC}{mg mb:lL}{CX:CXT}{k:Nat}{fa a:gv}{fd:nS}{x:Str}{sp:Sp}{s₁:gA}{vs:iL}{ns:hU}
  (KX:K.In s₁.heap)(dg:s₁.heap.Ns mainGlobals mg)(hb:s₁.heap.Ns builtinsNs mb)(hbb: ∀x:Str,x≠"__name__"->mb x=bootBuiltins x)(hlim:s₁.heap.NoLimit)(hg:s₁.gens= #[])
  (ha:s₁.heap.get? a=some {cls:= .type "list",data:= .seq vs.toArray})(hi:IntsAre vs ns)(hl:ns.length<=sizeLine)(hr:Room k callerA)
  (F: ∀base:Heap,K.In base->base.Ns mainGlobals mg->FnOk P w K mg base CX k fa fd [x] sp)(hbind: ∀(s:gA) (u:gL),BindsTo s fd ⟨[u],[]⟩ [(x,u)])
  (ck: ∀H:Hp,Pp H->SqL K H a (ns.map V.int)->sp [.ref a] H (fun v _=>v= .bl true) fun _ _ _=>False)
  (gb: ∀H e s',CX [] H s₁ (fun _ _ _=>False) e s'->False):
  codeAny (model P w) callerA (.call (.ref fa) ⟨[.ref a],[]⟩) (fun r s'=>r= .ok (.ret (.bool true))/\OldK s₁.heap s'.heap/\s'.os=s₁.os/\AllBare s'.gens) s₁:=by
 have rv:=zt hi;have lenV:=hi.length
 have core: ∀H:Hp,Pp H->SqL K H a (ns.map V.int)->HOk P w H s₁.heap->(∀b,H b≠none->b=a)->(H a≠none->K.lookup a=none)->
   codeAny (model P w) callerA (.call (.ref fa) ⟨[.ref a],[]⟩) (fun r s'=>r= .ok (.ret (.bool true))/\OldK s₁.heap s'.heap/\s'.os=s₁.os/\AllBare s'.gens) s₁:=by
  intro H hO hS hok hA hK;have base_of: ∀{b:gv} {o:Obj},s₁.heap.get? b=some o->H b=none->(BH s₁.heap H).get? b=some o:=fun e n=>Kw e n
  have dI: ∀{b:gv} {o:Obj} {es:Array DictEntry} {ep:Nat},s₁.heap.get? b=some o->o.data= .dict es ep->H b=none:=fun {b o es ep} e d=>by
   cases q:H b with
   |none=>rfl
   |some u=>
    have e':b=a:=hA b (by rw[q];simp);subst e';rw[ha] at e;cases e;have d':Data.seq vs.toArray _=Data.dict es ep:=d;cases d'
  have eD: ∀{b:gv} {m:lL},s₁.heap.Ns b m->(BH s₁.heap H).Ns b m:=fun {b m} ⟨o,es,ep,e,d,r⟩=>⟨o,es,ep,base_of e (dI e d),d,r⟩
  have hKb:K.In (BH s₁.heap H):=fun b o e=>base_of (KX b o e) (by
   cases q:H b with
   |none=>rfl
   |some u=>
    have e':b=a:=hA b (by rw[q];simp);subst e';rw[hK (by rw[q];simp)] at e;cases e)
  have hM:Mod K mg (BH s₁.heap H):=⟨hKb,eD dg,⟨mb,eD hb,hbb⟩,let⟨mc,h1,h2⟩:=hlim;⟨mc,eD h1,h2⟩⟩
  have e0:Env0 P w K mg (BH s₁.heap H) callerA [] s₁ H:=⟨rfl,hM,fun b o e=>Ms e,Nat.le_of_eq (HC _ _),trivial,fun b hb=>absurd (show b∈([]:List Addr) from hb) (by simp),hok,.of_eq hg⟩
  refine sV ((F _ hKb (eD dg)).run callerA [] s₁ H ⟨[.ref a],[]⟩ [.ref a] [.ref a] _ _ hr e0 (hbind s₁ (.ref a)) (.cons rfl .nil) (ck H hO hS)) fun r s' h=>?_
  cases r with
  |error e=>exact(gb H e s' h).elim
  |ok fl=>
   cases fl with
   |next=>exact False.elim h
   |brk=>exact False.elim h
   |cont=>exact False.elim h
   |ret u=>
    obtain⟨v,H',os,bare,un,hok',r',q⟩:=h;have q':v= .bl true:=q;subst q';obtain rfl:u=Value.bool true:=r';refine⟨rfl,OldK.of_keep fun b o e=>?_,os,bare⟩
    cases q:H b with
    |none=>exact un.keep b o e q (by intro z;exact absurd (show b∈([]:List Addr) from z) (by simp)) (by simp)
    |some u=>
     rcases hO b with z|⟨ob,xs,z⟩
     ·rw[q] at z;cases z
     ·have z2:=un.frzs b ob _ z;obtain⟨e1,_⟩:=hok b _ z;obtain⟨e2,_⟩:=hok' b _ z2;rw[e] at e1;cases e1;exact e2
 cases hk:K.lookup a with
 |some o=>
  have e:=KX a o hk;rw[ha] at e;cases e;refine core (fun _=>none) (fun _=> .inl rfl) (.inr ⟨_,vs.toArray,_,hk,rfl,rfl,rfl,by rw[iw,lenV];exact hl,by simpa using rv⟩) (fun b u z=>by have z':(none:Option HO)=some u:=z;cases z') (fun b z=>absurd rfl z) fun z=>absurd rfl z
 |none=>
  refine core (fun b=>if b=a then some (.frz {cls:= .type "list",data:= .seq vs.toArray} (.lst (ns.map V.int))) else none) (fun b=>?_) (.inl (.inr ⟨{cls:= .type "list",data:= .seq vs.toArray},gD rfl⟩)) (fun b u z=>?_) (fun b z=>?_) fun _=>hk
  ·by_cases hb:b=a
   ·exact .inr ⟨_,_,gD hb⟩
   ·exact .inl (gF hb)
  ·by_cases hb:b=a
   ·have z':=(gD hb).symm.trans z;cases z';subst hb;exact⟨ha,by rw[jw];exact hl,vs,_,rv,ha⟩
   ·have z':=(gF hb).symm.trans z;cases z'
  ·by_cases hb:b=a
   ·exact hb
   ·exact absurd (gF hb) z
theorem PD{l:PySem.W.OpenLaw}{n k:Nat}{q:hG}{loose:iG}{XP:(Str->Option Value)->Heap->Prop}{YP:World->Heap->Prop}{d:DefRec}{K:Params->PySem.W.Frag}{CX:World->CXT}{sp:World->Sp}{x:Str}
  (hn:l.most=some n)(hn2:n<=sizeLine)(dX:d.params.defaults=[])(hr:Room k callerA)
  (hY: ∀(w:gS) (h:gU),YP w h->(K w.params).In h)
  (F: ∀(w:gS) (mg:lL) (fa:gv) (h:gU),(K w.params).In h->h.Ns mainGlobals mg->mg d.name=some (.ref fa)->
   ∃fd:FuncData,(∀(s:gA) (u:gL),BindsTo s fd ⟨[u],[]⟩ [(x,u)])/\
    ∀base:Heap,(K w.params).In base->base.Ns mainGlobals mg->FnOk l.prog w (K w.params) mg base (CX w) k fa fd [x] (sp w))
  (ck: ∀(w:gS) (H:Hp) (a:gv) (ns:hU),ns.length<=n->Pp H->SqL (K w.params) H a (ns.map V.int)->sp w [.ref a] H (fun v _=>v= .bl true) fun _ _ _=>False)
  (gb: ∀(w:gS) (H:Hp) (s:gA) (e:gL) (s':gA),CX w [] H s (fun _ _ _=>False) e s'->False):
  PySem.W.WalkO q loose XP YP l.row.toRowW d [] (fun f vs=>PySem.call f vs):=by
 refine Att.MM hn dX fun w s₀ s₁ mg mb fa o pm cd doc a vs ns G Y ho hd y7 hmg cR hints hlen hg=>?_;have KX:=hY w _ Y;obtain⟨fd,hb,hF⟩:=F w mg fa _ KX G.T.g hmg;exact Kj KX G.T.g G.T.b G.T.builtins G.T.nolimit hg cR hints (lq hlen hn2) hr hF hb (fun H hO hS=>ck w H a ns hlen hO hS) fun H e s'=>gb w H s₁ e s'
noncomputable def rH(s:Stmt):Arguments:=match s with
 | .FunctionDef _ a _ _ _ _ _ _ _ _=>a
 |_=>{posonlyargs:=[],args:=[],vararg:=none,kwonlyargs:=[],kw_defaults:=[],kwarg:=none,defaults:=[]}
noncomputable def nA(s:Stmt):List Stmt:=match s with
 | .FunctionDef _ _ b _ _ _ _ _ _ _=>b
 |_=>[]
noncomputable def gP(s:Stmt):Scope:=match s with
 | .FunctionDef _ _ _ _ _ _ sc _ _ _=>sc
 |_=>{kind:= .function,names:=[],isGenerator:=false,isCoroutine:=false}
abbrev CX0:CXT:=fun _ _ _ _ _ _=>False
abbrev E0:XK:=fun _ _ _=>False
theorem Qm{X:Cx}:FQ CX0 X E0:=fun _ _ _ _ _ _ _ h=>h.elim
structure Fun(K:hC)(x qual:Str)(st:Stmt)(f:gv)(fd:nS):Prop where
 ex: ∃(oc:gL) (od:Option Addr) (kV doc pm:gL) (an:Option Addr) (f9 ct:gL) (aZ:vU),
  fd=PySem.W.fnOf x qual (rH st) (nA st) (gP st) .none kV doc pm an f9 ct/\K.lookup f=some ⟨oc,od,.func fd,aZ⟩/\PySem.W.codeIn K f9 qual=true
 kp:PySem.W.keepIn K (.ref f)=true
section
variable {P:hG}{w:gS}{K:hC}{mg:lL}{base:gU}
theorem Fun.ok{x qual:Str}{st:Stmt}{f:gv}{fd:nS}{N ps:iG}{k:Nat}{sp:Sp}(F:Fun K x qual st f fd)(S:FnScope N ps (gP st))(len: ∀vs H Q E,sp vs H Q E->vs.length=ps.length)
  (y8: ∀(f9:gL) (A:gW) (outer:List Env) (s:gA) (H:Hp) (vs:List V) (Q:VK) (E:XK),Room k (A.deeper (envOfC qual (gP st) s.heap.objs.size f f9))->sp vs H Q E->
   ∃t,PSs (Di CX0 P w K mg base N qual (gP st) f f9 A outer s H E).nox (nA st) t/\t {nx:=fun _ H'=>Q .non H',rt:=Q} (qb N vs) H):FnOk P w K mg base CX0 (k+1) f fd ps sp:=by
 obtain⟨oc,od,kV,doc,pm,an,f9,ct,aZ,rfl,lk,y7⟩:=F.ex;refine Q0 lk y7 S len fun A outer s H vs Q E hr ck=>?_;obtain⟨t,h,q⟩:=y8 f9 A outer s H vs Q E hr ck;exact⟨t,h.nox,q⟩
theorem Fun.binds{x qual:Str}{st:Stmt}{f:gv}{fd:nS}{ps:iG}(F:Fun K x qual st f fd)
  (h: ∀(kV doc pm:gL) (an:Option Addr) (f9 ct:gL) (us:iL),us.length=ps.length->bindArgs (PySem.W.fnOf x qual (rH st) (nA st) (gP st) .none kV doc pm an f9 ct) ⟨us,[]⟩=pure (ps.zip us)):Binds K fd ps []:=by
 obtain⟨oc,od,kV,doc,pm,an,f9,ct,aZ,rfl,lk,y7⟩:=F.ex;exact .all (h kV doc pm an f9 ct)
theorem OX{x qual:Str}{st:Stmt}{f:gv}{oc:gL}{od an:Option Addr}{aZ:vU}{kV doc pm f9 ct:gL}(l:K.lookup f=some ⟨oc,od,.func (PySem.W.fnOf x qual (rH st) (nA st) (gP st) .none kV doc pm an f9 ct),aZ⟩)
  (c:PySem.W.codeIn K f9 qual=true)(k:PySem.W.keepIn K (.ref f)=true):Fun K x qual st f (PySem.W.fnOf x qual (rH st) (nA st) (gP st) .none kV doc pm an f9 ct):=⟨⟨oc,od,kV,doc,pm,an,f9,ct,aZ,rfl,l,c⟩,k⟩
end
section
variable {X:Cx}
end
theorem QH{A B:Prop}(h:B):if false=true then A else B:=by
 rw[gF jB];exact h
theorem QE{A B:Prop}(h:A):if true=true then A else B:=by
 rw[gD rfl];exact h
def Same(H H':Hp):Prop:= ∀b o,H b=some o->H' b=some o
theorem Same.refl(H:Hp):Same H H:=fun _ _ h=>h
theorem Same.trans{H H1 H2:Hp}(a:Same H H1)(b:Same H1 H2):Same H H2:=fun c o h=>b c o (a c o h)
theorem tY(env:Env): ∀(l:List (Str×NameKind)) (cs:qc),(∀x∈l,x.2= .free-> ∃c,env.cells.lookup x.1=some c)->(∀x c,cs.lookup x=some c->env.cells.lookup x=some c)->
  ∃cl,(forIn l cs fun x r=>if x.2==NameKind.free then do let a <-cellOf env x.1;pure (ForInStep.yield ((x.1,a)::r)) else pure (ForInStep.yield r))=(pure cl:Sem (List (Str×Addr)))/\
   (∀x c,cl.lookup x=some c->env.cells.lookup x=some c)/\(∀x,(x,NameKind.free)∈l-> ∃c,cl.lookup x=some c)/\ ∀x c,cs.lookup x=some c-> ∃c,cl.lookup x=some c
 |[],cs,_,hc=>⟨cs,rfl,hc,fun x h=>by simp at h,fun x c h=>⟨c,h⟩⟩
 |(n,k)::l,cs,h,hc=>by
  by_cases hk:k= .free
  ·subst hk;obtain⟨c,e⟩:=h (n,.free) iW rfl;have e':env.cells.lookup n=some c:=e
   obtain⟨cl,h1,h2,h3,h4⟩:=tY env l ((n,c)::cs) (fun x hx=>h x (jd _ hx)) (fun x d hx=>by
    rw[nV] at hx
    cases hb:x==n with
    |true=>rw[hb] at hx;have:=qx hb;subst this;cases hx;exact e'
    |false=>rw[hb] at hx;exact hc x d hx)
   refine⟨cl,?_,h2,fun x hx=>?_,fun x d hx=>?_⟩
   ·rw[xi];have:cellOf env n=pure c:=by unfold cellOf;rw[e']
    simp only[this,pure_bind,beq_self_eq_true,iH];exact h1
   ·rcases jj.mp hx with z|z
    ·cases z;exact h4 n c (by simp[nV])
    ·exact h3 x z
   ·cases hb:x==n with
    |true=>have:=qx hb;subst this;exact h4 x c (by simp[nV])
    |false=>exact h4 x d (by rw[nV,hb];exact hx)
  ·obtain⟨cl,h1,h2,h3,h4⟩:=tY env l cs (fun x hx=>h x (jd _ hx)) hc;have hb:(k==NameKind.free)=false:=by simpa using hk
   refine⟨cl,?_,h2,fun x hx=>?_,h4⟩
   ·rw[xi];simp only[hb,iM,ja,pure_bind];exact h1
   ·rcases jj.mp hx with z|z
    ·cases z;exact absurd rfl hk
    ·exact h3 x z
theorem yw(env:Env)(scope:jZ)(h: ∀x∈scope.names,x.2= .free-> ∃c,env.cells.lookup x.1=some c):
  ∃cl,closureFor scope env=pure cl/\(∀x c,cl.lookup x=some c->env.cells.lookup x=some c)/\ ∀x,(x,NameKind.free)∈scope.names-> ∃c,cl.lookup x=some c:=by
 obtain⟨cl,h1,h2,h3,_⟩:=tY env scope.names [] h (fun x c hx=>by simp at hx);refine⟨cl,?_,h2,h3⟩;unfold closureFor;have:(forIn scope.names ([]:List (Str×Addr)) fun x r=>if x.2==NameKind.free then do let a <-cellOf env x.1;pure (ForInStep.yield ((x.1,a)::r)) else pure (ForInStep.yield r))=(pure cl:Sem (List (Str×Addr))):=h1
 first
  |exact(rW (· >>=fun r=>pure r) this).trans (pure_bind _ _)
  |(simp only[bind_pure];exact this)
  |exact this
noncomputable def Cx.comp(X:Cx)(N':iG)(scope:jZ)(cl:qc)(C:gv)(s3:gA)(H3:Hp)(fp:kb)(pins:ik):Cx:=
 {X with N:=N',s₀:=s3,H₀:=H3,env:=compEnvC scope cl C X.env,outer:=X.stack,stack:=X.stack,ex:=fp,fn:=fun _=>false,pn:=X.pn++pins,xe:=fun _ _=>False}
abbrev TB:=St->Hp->(St->Hp->Prop)->Prop
def PB(X:Cx)(code:Sem Unit)(t:TB):Prop:=
 ∀(pins:ik) (s:gA) (σ:St) (H:Hp) (N:St->Hp->Prop),Inv X pins σ H s->t σ H N->
  wpAny (model X.prog X.w) X.A code (fun _ s'=> ∃σ' H',Inv X pins σ' H' s'/\N σ' H') X.xe s
def PIf(X:Cx)(ifs:jF)(t:TT):Prop:=
 ∀(pins:ik) (s:gA) (σ:St) (H:Hp) (Q:Bool->Hp->Prop),Inv X pins σ H s->t σ H Q->
  wpAny (model X.prog X.w) X.A (forIn ifs true fun c r=>if r=true then do let ok <-isTrue c X.env (eval c X.env);pure (ForInStep.yield ok) else pure (ForInStep.yield r)) (TP X pins σ Q) X.xe s
noncomputable def PF:TT:=fun _ H Q=>Q true H
section
variable {X:Cx}
theorem Mc:PIf X [] PF:=fun pins s σ H Q I h=>wpAny_tests_nil ⟨H,I,h⟩
theorem Mb{c:gM}{t:TT}(h:PT X c t):PIf X [c] t:=fun pins s σ H Q I hw=>wpAny_tests_one (h pins s σ H Q I hw)
noncomputable def jU(e:gM)(depth:Nat)(acc:gL)(env:Env):Sem Unit:=
 match(clausesOf e)[depth+1]? with
 |some g'=>do
  let x <-eval g'.iter env
  standAt g'.iter.pos
  let x <-foldedSetIterable g'.iter env x
  let _ <-runOwn (.compStart e (depth+1) (<-holding [x] (pyIter x)) acc env) env
 |none=>match e with
  | .ListComp elt _ _ _=>do let _ <-call (.builtin "list.append") [acc,<-eval elt env]
  | .SetComp elt _ _ _=>do let v <-eval elt env;standAt elt.pos;let _ <-call (.builtin "set.add") [acc,v]
  |_=>unsupported "no"
def Jc(J:It)(g:TG)(ti:TT)(tb:TB):TB:=fun σ H N=> ∃W:Nat->Nat->St->Hp->Prop,(∃m,W 0 m σ H)/\ ∀i m σ H,W i m σ H->
 (J.stop i H/\N σ H)\/(J.go i H/\ ∀x H',J.yld i H x H'->g x σ H' fun σ2 H2=>ti σ2 H2 fun b H3=>if b=true then tb σ2 H3 fun σ4 H4=> ∃m',m'<m/\W (i+1) m' σ4 H4 else ∃m',m'<m/\W (i+1) m' σ2 H3)
theorem BO(e:gM)(depth:Nat)(it acc:gL)(env:Env)(g:rN)(hl:(∃elt gens sc p,e= .ListComp elt gens sc p)\/(∃elt gens sc p,e= .SetComp elt gens sc p))
  (hg:(clausesOf e)[depth]?=some g)(ha:g.is_async=0)(v8: ∀g',(clausesOf e)[depth+1]?=some g'->g'.is_async=0):
  compTurn e depth it acc env=(do
   standAt g.iter.pos
   match <-pyNext it with
   |none=>pure (.done .next)
   |some v=>
    letOwnedTupleGo g.target it v
    assign g.target env v
    let ok <-forIn g.ifs true fun c r=>if r=true then do let ok <-isTrue c env (eval c env);pure (ForInStep.yield ok) else pure (ForInStep.yield r)
    if ok=true then jU e depth acc env
    again (.compLoop e depth it acc env)):=by
 rcases hl with⟨elt,gens,sc,p,rfl⟩|⟨elt,gens,sc,p,rfl⟩
 ·have dt:gens[depth]?=some g:=hg;unfold compTurn jU;simp only[clausesOf] at hg v8 ⊢;rw[dt];simp only[ha]
  cases hn:gens[depth+1]? with
  |none=>rfl
  |some g'=>
   have:=v8 g' hn;simp only[this,uh,iM,ja]
   congr 1;funext _;congr 1;funext r
   cases r with
   |none=>rfl
   |some v=>
    dsimp only
    congr 1;funext _;congr 1;funext _;congr 1;funext ok
    cases ok with
    |false=>rfl
    |true=>simp only[iH,qw];rfl
 ·have dt:gens[depth]?=some g:=hg;unfold compTurn jU;simp only[clausesOf] at hg v8 ⊢;rw[dt];simp only[ha]
  cases hn:gens[depth+1]? with
  |none=>rfl
  |some g'=>
   have:=v8 g' hn;simp only[this,uh,iM,ja]
   congr 1;funext _;congr 1;funext r
   cases r with
   |none=>rfl
   |some v=>
    dsimp only
    congr 1;funext _;congr 1;funext _;congr 1;funext ok
    cases ok with
    |false=>rfl
    |true=>simp only[iH,qw];rfl
theorem KN{prog:hG}{w:gS}{A:gW}{e:gM}{depth:Nat}{it acc:gL}{env:Env}{Q:Fin->Shared->Prop}{E:hV}{s:gA}
  (hl:(∃elt gens sc p,e= .ListComp elt gens sc p)\/(∃elt gens sc p,e= .SetComp elt gens sc p))
  (h:wpAny (model prog w) A ((compTurn e depth it acc env).onRaise (fun x=>do noteFrame x env;theTreesLotGoes x)) Q E s):
  wpAny (model prog w) (A.under (.compLoop e depth it acc env)) ((model prog w).den (.compLoop e depth it acc env)) Q E s:=by
 rcases hl with⟨elt,gens,sc,p,rfl⟩|⟨elt,gens,sc,p,rfl⟩
 ·exact h
 ·exact h
theorem Mw{e:gM}{depth:Nat}{acc:gL}{c:rN}{g:TG}{ti:TT}{tb:TB}{J:It}{fp:kb}{it:gv}{tn:Nat->Heap->Prop}(hxe:X.xe=fun _ _=>False)(hc:X.calm=true)
  (hl:(∃elt gens sc p,e= .ListComp elt gens sc p)\/(∃elt gens sc p,e= .SetComp elt gens sc p))(hg:(clausesOf e)[depth]?=some c)(ha:c.is_async=0)(v8: ∀g',(clausesOf e)[depth+1]?=some g'->g'.is_async=0)
  (T:Turn X.prog X.w X.K c.target J fp it tn)(pg:PG X c.target g)(fA:PIf X c.ifs ti)(pb:PB X (jU e depth acc X.env) tb)
  {pins:ik}{s:gA}{σ:St}{H:Hp}{N:St->Hp->Prop}(I:Inv X pins σ H s)(f2: ∀b∈fp,qS X pins H b)(st:tn 0 s.heap)(h:Jc J g ti tb σ H N):
  codeAny (model X.prog X.w) X.A (.compLoop e depth (.ref it) acc X.env) (fun r s'=>r= .ok .next/\ ∃σ' H',Inv X pins σ' H' s'/\(∀b∈fp,H' b=none)/\N σ' H') s:=by
 obtain⟨W,⟨m0,w0⟩,turn⟩:=h;have af: ∀{H':Hp},(∀b∈fp,H' b=none)-> ∀b∈fp,qS X pins H' b:=fun hn b hb=>⟨hn b hb,(f2 b hb).2⟩
 have F2: ∀{α:Type} {t:Sem α} {Q:α->Shared->Prop} {E:hV} {s:gA},wpAny (model X.prog X.w) X.A t Q X.xe s->wpAny (model X.prog X.w) X.A t Q E s:=fun h=>pU h (fun _ _ x=>x) fun _ _ z=>by rw[hxe] at z;exact z.elim
 refine codeAny_loop rfl (fun n s'=> ∃i σ' H',Inv X pins σ' H' s'/\tn i s'.heap/\(∀b∈fp,H' b=none)/\W i n σ' H') (fun n s3 hI=>?_) m0 ⟨0,σ,H,I,st,fun b hb=>(f2 b hb).1,w0⟩;refine KN hl ?_;refine wpAny_noted ?_;rw[BO e depth (.ref it) acc X.env c hl hg ha v8];obtain⟨i,σ3,H3,I3,k0,dy,w3⟩:=hI;refine gw (A8 ?_);rcases turn i n σ3 H3 w3 with⟨stop,qn⟩|⟨go,step⟩
 ·refine gw (thn (T.done X rfl rfl rfl hc i pins s3 σ3 H3 _ I3 (af dy) k0 stop) fun r s4 ⟨hr,I4⟩=>?_);subst hr;exact gK ⟨rfl,σ3,H3,I4,dy,qn⟩
 ·refine gw (thn (T.item X rfl rfl rfl hc i pins s3 σ3 H3 _ I3 (af dy) k0 go) fun r s4 ⟨u,hr,h4⟩=>?_);subst hr;refine gw (thn h4 fun _ s5 ⟨x,H5,I5,r5,y5,bN,gd⟩=>?_);have gn:=I5.pinned (af gd) (T.obj _ _ bN);refine gw (thn (F2 (pg _ s5 σ3 H5 x u _ gn r5 (step x H5 y5))) fun _ s6 ⟨σ6,H6,I6,q6⟩=>?_);refine gw (thn (F2 (fA _ s6 σ6 H6 _ I6 q6)) fun ok s7 ⟨H7,I7,q7⟩=>?_)
  have again: ∀{s8:gA} {σ8:St} {H8:Hp},Inv X (pins++xK fp s5.heap) σ8 H8 s8->(∃m',m'<n/\W (i+1) m' σ8 H8)-> ∃m,m<n/\ ∃i σ' H',Inv X pins σ' H' s8/\tn i s8.heap/\(∀b∈fp,H' b=none)/\W i m σ' H':=fun {s8 σ8 H8} I8 ⟨m',hm,w8⟩=>by
   refine⟨m',hm,i+1,σ8,H8,I8.unpinned,T.keep _ _ _ bN fun b hb o e=>(I8.pin (b,o) (oQ _ (oQ _ (pG hb e)))).1,fun b hb=>?_,w8⟩;obtain⟨o,e,d⟩:=T.obj _ _ bN b hb;exact(I8.pin (b,o) (oQ _ (oQ _ (pG hb e)))).2.1
  cases ok with
  |false=>
   rw[gF jB] at q7;exact gK ⟨rfl,again I7 q7⟩
  |true=>
   rw[gD rfl] at q7;simp only[iH];refine gw (thn (F2 (pb _ s7 σ6 H7 _ I7 q7)) fun _ s8 ⟨σ8,H8,I8,q8⟩=>?_);exact gK ⟨rfl,again I8 q8⟩
def PL(d:gv)(te:TE):TB:=fun σ H N=>te σ H fun y H1=> ∃ys,H1 d=some (.lst ys)/\ys.length<sizeLine/\N σ (upd H1 d (.lst (ys++[y])))
theorem Mk{elt:gM}{gens:rO}{sc:jZ}{p:Pos}{depth:Nat}{d:gv}{te:TE}(hn:gens[depth+1]?=none)(he:PE X elt te):PB X (jU (.ListComp elt gens sc p) depth (.ref d) X.env) (PL d te):=by
 intro pins s σ H N I h
 have e1:jU (.ListComp elt gens sc p) depth (.ref d) X.env=(do let _ <-call (.builtin "list.append") [.ref d,<-eval elt X.env]):=by
  unfold jU;simp only[clausesOf];rw[hn]
 rw[e1];refine gw (thn (he pins s σ H _ I h) fun u s1 ⟨y,H1,I1,ru,ys,hd,hz,q⟩=>?_);obtain⟨z,b6,n,r,hl,e⟩:=I1.lstM hd;refine gw (A0 F.slot_list_append ⟨_,e,rfl⟩ Iz (Iy _ _) (PySem.list_append d b6.toArray n u (by rw[iw];lia)) ⟨e,?_⟩);refine gK ⟨σ,_,I1.lset (its':=b6++[u]) hd e (by simp) (r.append (.cons ru .nil)) ?_,q⟩;rw[kZ,sQ]
 lia
theorem Jf{prog:hG}{w:gS}{A:gW}{e:gM}{depth:Nat}{it acc:gL}{env:Env}{R:Result->Shared->Prop}{s:gA}{c:rN}
  (hl:(∃elt gens sc p,e= .ListComp elt gens sc p)\/(∃elt gens sc p,e= .SetComp elt gens sc p))(hg:(clausesOf e)[depth]?=some c)(ha:c.is_async=0)
  (h0:codeAny (model prog w) A (.compLoop e depth it acc env) R s)
  (self: ∀(Q:hV) (E:hV),Q it s->wpAny (model prog w) A (pyIter it) Q E s):
  codeAny (model prog w) A (.compStart e depth it acc env) R s:=by
 have core:wpAny (model prog w) A (compStart e depth it acc env) (fun fin s'=>match fin with| .done f=>R (.ok f) s'| .again c'=>c'.quiet=true/\codeAny (model prog w) A c' R s') (notedBy (model prog w) A env fun x s'=>R (.error x) s') s:=by
  unfold compStart;rw[hg];simp only[Option.elim,ha,uh,iM,ja];refine gw (vp (wpAny_ite ?_));split
  ·first
    |exact gw (gK (gK (And.intro rfl h0)))
    |exact gK (And.intro rfl h0)
  ·exact gw (ug (gw (A8 (gw (self _ _ (gK (And.intro rfl h0)))))))
 rcases hl with⟨elt,gens,sc,p,rfl⟩|⟨elt,gens,sc,p,rfl⟩
 ·refine xh ?_;show wpAny _ A ((compStart (.ListComp elt gens sc p) depth it acc env).onRaise (fun x=>do noteFrame x env;standAt theWindowsPlace)) _ _ s;exact wpAny_notedAt core
 ·refine xh ?_;show wpAny _ A ((compStart (.SetComp elt gens sc p) depth it acc env).onRaise (fun x=>do noteFrame x env;standAt theWindowsPlace)) _ _ s;exact wpAny_notedAt core
end
theorem ng{env:Env}: ∀{names:List (Str×NameKind)} {x:Str},names.lookup x=some .free->
  (names.map fun(n,k)=>if(k==NameKind.free&&env.scope.kind== .function&&env.kindOf n==some .cell) then(n,NameKind.cell) else(n,k)).lookup x=some .cell\/
  (names.map fun(n,k)=>if(k==NameKind.free&&env.scope.kind== .function&&env.kindOf n==some .cell) then(n,NameKind.cell) else(n,k)).lookup x=some .free
 |[],_,h=>by simp at h
 |(n,k)::r,x,h=>by
  have ih:= @ng env r x;rw[iJ]
  cases hx:x==n with
  |true=>
   simp only[nV,hx] at h;cases h;by_cases hc:(NameKind.free==NameKind.free&&env.scope.kind== .function&&env.kindOf n==some .cell)=true
   ·left;simp only[hc,iH,nV,hx]
   ·right;simp only[hc,ja,nV,hx,iM]
  |false=>
   simp only[nV,hx] at h;by_cases hc:(k==NameKind.free&&env.scope.kind== .function&&env.kindOf n==some .cell)=true
   ·simp only[hc,iH,nV,hx];exact ih h
   ·simp only[hc,ja,nV,hx,iM];exact ih h
theorem jY{env:Env}: ∀{names:List (Str×NameKind)} {x:Str} {k':NameKind},
  (names.map fun(n,k)=>if(k==NameKind.free&&env.scope.kind== .function&&env.kindOf n==some .cell) then(n,NameKind.cell) else(n,k)).lookup x=some k'-> ∃k,(x,k)∈names/\(k=k'\/k= .free)
 |[],_,_,h=>by simp at h
 |(n,k)::r,x,k',h=>by
  rw[iJ] at h
  cases hx:x==n with
  |true=>
   have e:=qx hx;subst e;by_cases hc:(k==NameKind.free&&env.scope.kind== .function&&env.kindOf x==some .cell)=true
   ·refine⟨k,iW,.inr ?_⟩
    have h1:(k==NameKind.free)=true:=by
     cases hk:(k==NameKind.free) with
     |true=>rfl
     |false=>rw[hk] at hc;simp at hc
    exact qx h1
   ·simp only[hc,ja,nV,hx,iM] at h;exact⟨k,iW,.inl (by simpa using h)⟩
  |false=>
   by_cases hc:(k==NameKind.free&&env.scope.kind== .function&&env.kindOf n==some .cell)=true
   ·simp only[hc,iH,nV,hx] at h;obtain⟨k2,h1,h2⟩:=jY h;exact⟨k2,jd _ h1,h2⟩
   ·simp only[hc,ja,nV,hx,iM] at h;obtain⟨k2,h1,h2⟩:=jY h;exact⟨k2,jd _ h1,h2⟩
structure CompScope(X:Cx)(N':iG)(scope:jZ)(pre:St->St):Prop where
 cell: ∀y∈scope.names,y.2≠ .cell
 kind:scope.kind= .function
 names: ∀y∈scope.names,y.2= .local->scope.names.lookup y.1=some .local
 free: ∀y∈scope.names,y.2= .free->X.env.scope.names.lookup y.1=some .cell\/X.env.scope.names.lookup y.1=some .free
 len: ∀σ:St,(pre σ).length=N'.length
 pre: ∀(σ:St) (i:Nat) (v:V) (x:Str),(pre σ)[i]?=some (some v)->N'[i]?=some x->scope.names.lookup x=some .free/\ ∃j:Nat,X.N[j]?=some x/\σ[j]?=some (some v)
section
variable {X:Cx}
theorem MI{N':iG}{scope:jZ}{pre:St->St}(S:CompScope X N' scope pre){pins:ik}{s3:gA}{σ:St}{H3:Hp}{fp:kb}{cl:qc}{h':gU}{t':Nat}(I:Inv X pins σ H3 s3)
  (o9: ∀x c,cl.lookup x=some c->X.env.cells.lookup x=some c)(l6: ∀x,(x,NameKind.free)∈scope.names-> ∃c,cl.lookup x=some c)
  (ff: ∀b∈fp,qS X pins H3 b)(fo: ∀b∈fp,b<s3.heap.objs.size)
  (dg:h'.Ns s3.heap.objs.size (fun _=>none))(hk: ∀b o,s3.heap.get? b=some o->h'.get? b=some o):
  Inv (X.comp N' scope cl s3.heap.objs.size s3 H3 fp pins) [] (pre σ) H3 {s3 with heap:=h',toks:=t'}:=by
 have hfr: ∀b∈frs X.stack,H3 b=none:=I.stkFree;have nfs: ∀b,b≠X.env.locals->b∉X.fs->b∉frs X.stack:=fun b h1 h2 z=>(jj.mp (I.stkSub b z)).elim h1 h2
 refine⟨⟨I.ok.mod,?_,I.ok.glob,I.ok.blt,ip _,fun x y c h1 h2=>I.ok.inj x y c (o9 x c h1) (o9 y c h2),fun x hx=>?_,fun x c hf _=>absurd hf (by simp[Cx.comp]),I.ok.hd,I.ok.frames,.inl rfl,fun b hb=>?_,
  I.bs,lq I.ok.bsz I.sz,fun b o e hb=>?_,fun b hb=>nfs b (ff b hb).2.1 (ff b hb).2.2.1,I.stack,hfr⟩,rfl,I.bare,Un.kept hk,⟨_,dg,fun i x v h1 h2 h3=>?_⟩,fun x c hx=>?_,I.hok.fresh (ip _),fun x c hx=>I.freeC x c (o9 x c hx),fun p hp=>?_,I.hok.kept hk,S.len σ⟩
 ·show(relabel scope X.env).kind= .function;simp[relabel,S.kind]
 ·
  have bh:(relabel scope X.env).names.lookup x=some .cell\/(relabel scope X.env).names.lookup x=some .free:=hx
  have:(x,NameKind.free)∈scope.names:=by
   rcases bh with z|z
   ·obtain⟨k,h1,h2⟩:=jY z;rcases h2 with h2|h2
    ·subst h2;exact absurd rfl (S.cell _ h1)
    ·subst h2;exact h1
   ·obtain⟨k,h1,h2⟩:=jY z;rcases h2 with h2|h2<;>(subst h2;exact h1)
  exact l6 x this
 ·exact⟨iK (fo b hb),fun x c hx=>(ff b hb).2.2.2.2.1 x c (o9 x c hx)⟩
 ·
  have u3:b∈fp:=hb;rcases(ff b u3).2.2.2.1 with z|z
  ·exact I.ok.noex b o e z
  ·exact absurd (mY (iq e) (lq I.ok.bsz z)) (oR _)
 ·obtain⟨hf,j,hj,hv⟩:=S.pre σ i v x h2 h1;obtain⟨m,hn,hl⟩:=I.loc;have n4:=S.free (x,.free) (sU hf) rfl;obtain⟨u,r,l⟩:=hl j x v hj hv (by rcases n4 with z|z;exact .inr (.inl z);exact .inr (.inr z));refine⟨u,r,.inr ⟨ng hf,?_⟩⟩;rcases l with⟨dh,_⟩|⟨_,c,hc,aB⟩
  ·have fO:X.env.scope.names.lookup x=some .local:=dh;rcases n4 with z|z<;>(have z':X.env.scope.names.lookup x=_:=z;rw[fO] at z';cases z')
  ·obtain⟨c',bM⟩:=l6 x (sU hf);have:=o9 x c' bM;rw[hc] at this;cases this;exact⟨c,bM,aB.keeps hk⟩
 ·obtain⟨v,hv⟩:=I.cell x c (o9 x c hx);exact⟨v,hv.keeps hk⟩
 ·have cO:p∈X.pn++pins:=by simpa[Cx.comp] using hp
  obtain⟨e,n,h1,h2,h3⟩:=I.pin p cO;exact⟨hk _ _ e,n,iK (iq e),nfs _ h1 h2,h3⟩
theorem Dm{N':iG}{scope:jZ}{pins:ik}{s3 s4:gA}{σ σ':St}{H3 H4:Hp}{fp:kb}{cl:qc}{h':gU}(I:Inv X pins σ H3 s3)(ff: ∀b∈fp,qS X pins H3 b)
  (J:Inv (X.comp N' scope cl s3.heap.objs.size s3 H3 fp pins) [] σ' H4 s4)(hs:Heap.SameBut s3.heap.objs.size s4.heap h'):Inv X pins σ H4 {s4 with heap:=h'}:=by
 have K:=I.call' (s':=s4) (ch:=fp) J.os J.base J.hok J.bare fun b hb=>⟨(ff b hb).2.2.2.1,(ff b hb).2.1,(ff b hb).2.2.2.2.1,(ff b hb).2.2.2.2.2⟩
 have fB:X.env.locals<s3.heap.objs.size:=I.lt;refine K.turned (it:=s3.heap.objs.size) (t':=s4.toks) (fun b o hb e=>by rw[hs.2 b hb];exact e) J.free (qm fB) (.inr I.sz) (fun x c hx z=>?_) (fun p hp z=>?_)
 ·obtain⟨v,o,e,_⟩:=I.cell x c hx;exact absurd (iq e) (by rw[z];exact oR _)
 ·obtain⟨e,_⟩:=I.pin p hp;exact absurd (iq e) (by rw[z];exact oR _)
def PR(J:It)(g:TG)(ti:TT)(tb:Addr->TB)(pre:St->St)(σ:St)(H:Hp)(Q:VK):Prop:=
 ∀d,H d=none->Jc J g ti (tb d) (pre σ) (upd H d (.lst [])) fun _ H2=>Q (.ref d) H2
theorem Dl{elt:gM}{c:rN}{ie:rO}{scope:jZ}{pos:Pos}{N':iG}{pre:St->St}{g:TG}{ti:TT}{tb:Addr->TB}{cl:qc}{J:It}{fp:kb}{it:gv}{tn:Nat->Heap->Prop}
  (S:CompScope X N' scope pre)(hc:X.calm=true)(ha:c.is_async=0)(v8: ∀g',ie[0]?=some g'->g'.is_async=0)
  (aN: ∀(C:gv) (s3:gA) (H3:Hp) (fp:kb) (pins:ik),let X':=X.comp N' scope cl C s3 H3 fp pins
   PG X' c.target g/\PIf X' c.ifs ti/\ ∀d,PB X' (jU (.ListComp elt (c::ie) scope pos) 0 (.ref d) X'.env) (tb d))
  (o9: ∀x c,cl.lookup x=some c->X.env.cells.lookup x=some c)(l6: ∀x,(x,NameKind.free)∈scope.names-> ∃c,cl.lookup x=some c)
  {pins:ik}{s2:gA}{σ:St}{H2:Hp}{Q:VK}{E:hV}{RR:Value->Addr->Result->Shared->Prop}(I2:Inv X pins σ H2 s2)(T:Turn X.prog X.w X.K c.target J fp it tn)(g8:tn 0 s2.heap)(f2: ∀b∈fp,qS X pins H2 b)
  (h:PR J g ti tb pre σ H2 Q)
  (hRR: ∀(d:gv) (s3:gA) (H3 H4:Hp) (σ':St) (s4:gA),Inv X pins σ H3 s3->(∀b∈fp,qS X pins H3 b)->Inv (X.comp N' scope cl s3.heap.objs.size s3 H3 fp pins) [] σ' H4 s4->Q (.ref d) H4->RR (.ref d) s3.heap.objs.size (.ok .next) s4):
  wpAny (model X.prog X.w) X.A (newList []) (fun acc s₃=>wpAny (model X.prog X.w) X.A (newFunctionEnv scope X.env.globals cl [] X.env.qual none .none (some X.env)) (fun cenv s₄=>
   codeAny (model X.prog X.w) X.A (.compStart (.ListComp elt (c::ie) scope pos) 0 (.ref it) acc {cenv with scope:=relabel scope X.env}) (RR acc cenv.locals) s₄) E s₃) E s2:=by
 have I3:Inv X pins σ (upd H2 s2.heap.objs.size (.lst [])) {s2 with heap:=s2.heap.push {cls:= .type "list",data:= .seq ([]:List Value).toArray}}:=I2.lnew (t':=s2.toks) .nil (by simp);have fo: ∀b∈fp,b<s2.heap.objs.size:=fun b hb=>by obtain⟨o,e,_⟩:=T.obj _ _ g8 b hb;exact iq e
 have ff: ∀b∈fp,qS X pins (upd H2 s2.heap.objs.size (.lst [])) b:=fun b hb=>⟨by rw[iE (iK (fo b hb))];exact(f2 b hb).1,(f2 b hb).2⟩
 refine ll ?_;refine wpAny_newFunctionEnv S.cell (by intro y hy;simp at hy) (fun h1 dg bj=>?_) S.kind
 have hk: ∀b o,(s2.heap.push {cls:= .type "list",data:= .seq ([]:List Value).toArray}).get? b=some o->h1.get? b=some o:=fun b o e=>by
  have i6:=iq e;rw[bj.2 b (iK i6)];exact iz _ e
 have hfo: ∀b∈fp,b<(s2.heap.push {cls:= .type "list",data:= .seq ([]:List Value).toArray}).objs.size:=fun b hb=>by rw[uf];exact qv (fo b hb)
 have J0:=MI (t':=s2.toks+([]:List (Str×Value)).length) S I3 o9 l6 ff hfo (by simpa using dg) hk;obtain⟨pg,fA,pb⟩:=aN (s2.heap.push {cls:= .type "list",data:= .seq ([]:List Value).toArray}).objs.size {s2 with heap:=s2.heap.push {cls:= .type "list",data:= .seq ([]:List Value).toArray}} (upd H2 s2.heap.objs.size (.lst [])) fp pins;have v7:tn 0 h1:=T.keep _ _ _ g8 fun b hb o e=>hk b o (iz _ e);have hw:=h s2.heap.objs.size (I2.hok.fresh (ip _))
 have ff': ∀b∈fp,qS (X.comp N' scope cl (s2.heap.push {cls:= .type "list",data:= .seq ([]:List Value).toArray}).objs.size {s2 with heap:=s2.heap.push {cls:= .type "list",data:= .seq ([]:List Value).toArray}} (upd H2 s2.heap.objs.size (.lst [])) fp pins) []
   (upd H2 s2.heap.objs.size (.lst [])) b:=fun b hb=>by
  obtain⟨z1,z2,z3,z4,z5,z6⟩:=ff b hb;refine⟨z1,iK (hfo b hb),fun z=>(jj.mp (I3.stkSub b z)).elim z2 z3,.inl hb,fun x c hx=>z5 x c (o9 x c hx),fun p hp=>z6 p (by simpa[Cx.comp] using hp)⟩
 have hl:(∃el gens sc p,Expr.ListComp elt (c::ie) scope pos= .ListComp el gens sc p)\/(∃el gens sc p,Expr.ListComp elt (c::ie) scope pos= .SetComp el gens sc p):= .inl ⟨_,_,_,_,rfl⟩;refine Jf hl rfl ha ?_ (fun Q' E' hq=>T.self X.A 0 _ Q' E' v7 hq)
 refine sV (Mw (X:=X.comp N' scope cl (s2.heap.push {cls:= .type "list",data:= .seq ([]:List Value).toArray}).objs.size {s2 with heap:=s2.heap.push {cls:= .type "list",data:= .seq ([]:List Value).toArray}} (upd H2 s2.heap.objs.size (.lst [])) fp pins)
  (depth:=0) (acc:= .ref s2.heap.objs.size) rfl hc hl rfl ha (fun g' t9=>v8 g' (by simpa[clausesOf] using t9)) T pg fA (pb _) J0 ff' v7 hw) fun r s4 hr=>?_
 obtain⟨rfl,σ4,H4,I4,_,q⟩:=hr;exact hRR _ _ _ _ _ _ I3 ff I4 q
noncomputable def Jd(wi:TI)(g:TG)(ti:TT)(tb:Addr->TB)(pre:St->St):TE:=fun σ H Q=>wi σ H fun J H1=>PR J g ti tb pre σ H1 Q
theorem JS{elt:gM}{c:rN}{ie:rO}{scope:jZ}{pos:Pos}{N':iG}{pre:St->St}{wi:TI}{g:TG}{ti:TT}{tb:Addr->TB}
  (S:CompScope X N' scope pre)(hc:X.calm=true)(ha:c.is_async=0)(v8: ∀g',ie[0]?=some g'->g'.is_async=0)
  (hs: ∀x,foldedSetIterable c.iter X.env x=pure x)(pi:PI X c.target c.iter wi)
  (aN: ∀(cl:qc) (C:gv) (s3:gA) (H3:Hp) (fp:kb) (pins:ik),let X':=X.comp N' scope cl C s3 H3 fp pins
   PG X' c.target g/\PIf X' c.ifs ti/\ ∀d,PB X' (jU (.ListComp elt (c::ie) scope pos) 0 (.ref d) X'.env) (tb d)):
  PE X (.ListComp elt (c::ie) scope pos) (Jd wi g ti tb pre):=by
 intro pins s σ H Q I h;obtain⟨tg,dc,ifs,az⟩:=c;obtain rfl:az=0:=ha;obtain⟨cl,p8,o9,l6⟩:=yw X.env scope fun x hx hf=>I.ok.has x.1 (S.free x hx hf);rw[eval_ListComp];show wpAny _ X.A (comprehension _ scope X.env _ (newList []) false (eval dc X.env)) _ _ s;refine Iw (use:=none) (g:=⟨tg,dc,ifs,0⟩) (gs:=ie) rfl hs p8 S.kind S.names (thn (pi pins s σ H _ I h) fun v s1 h1=>thn h1 fun eG s2 h2=>?_);obtain⟨it,fp,tn,J,H2,rfl,I2,T,g8,f2,hw⟩:=h2;refine Dl (RR:=fun acc C=>compPost (model X.prog X.w) X.A X.xe none (EP X pins σ Q) acc C) S hc rfl v8 (aN cl) o9 l6 I2 T g8 f2 hw fun d s3 H3 H4 σ' s4 I3 ff J4 q=>?_;obtain⟨m,hn,_⟩:=id J4.loc;exact⟨m,hn,fun h' bj=>⟨.ref d,H4,Dm I3 ff J4 bj,rfl,q⟩⟩
theorem JG{elt:gM}{c:rN}{ie:rO}{scope:jZ}{pos d9 py:Pos}{N':iG}{pre:St->St}{wi:TI}{g:TG}{ti:TT}{tb:Addr->TB}{y:Str}{i:Nat}
  (dO:swapsWith (.ListComp elt (c::ie) scope pos) (some (.Name y py)) d9.line X.env=pure true)
  (S:CompScope X N' scope pre)(hc:X.calm=true)(ha:c.is_async=0)(v8: ∀g',ie[0]?=some g'->g'.is_async=0)
  (hs: ∀x,foldedSetIterable c.iter X.env x=pure x)(pi:PI X c.target c.iter wi)(fv:PG X (.Name y py) (C6 i))
  (aN: ∀(cl:qc) (C:gv) (s3:gA) (H3:Hp) (fp:kb) (pins:ik),let X':=X.comp N' scope cl C s3 H3 fp pins
   PG X' c.target g/\PIf X' c.ifs ti/\ ∀d,PB X' (jU (.ListComp elt (c::ie) scope pos) 0 (.ref d) X'.env) (tb d)):
  PS X (.Assign [.Name y py] (.ListComp elt (c::ie) scope pos) d9) (Nz (Jd wi g ti tb pre) (C6 i)):=by
 intro pins s σ H D I h;obtain⟨tg,dc,ifs,az⟩:=c;obtain rfl:az=0:=ha;obtain⟨cl,p8,o9,l6⟩:=yw X.env scope fun x hx hf=>I.ok.has x.1 (S.free x hx hf);rw[exec_Assign_Name_used _ _ _ _ dO];refine gw (A8 (gw ?_));show wpAny _ X.A (do let _ <-comprehension (.ListComp elt (⟨tg,dc,ifs,0⟩::ie) scope pos) scope X.env _ (newList []) false (eval dc X.env) (some (assign (.Name y py) X.env))) _ _ s
 refine gw (pU (Iw (use:=some (assign (.Name y py) X.env)) (g:=⟨tg,dc,ifs,0⟩) (gs:=ie) (Q:=fun _ s'=>SP X pins D .next s') rfl hs p8 S.kind S.names
  (thn (pi pins s σ H _ I h) fun v s1 h1=>thn h1 fun eG s2 h2=>?_)) (fun _ s' hq=>gK (gK hq)) fun _ _ e=>e)
 obtain⟨it,fp,tn,J,H2,rfl,I2,T,g8,f2,hw⟩:=h2;refine Dl (RR:=fun acc C=>compPost (model X.prog X.w) X.A X.xe (some (assign (.Name y py) X.env)) (fun _ s'=>SP X pins D .next s') acc C) S hc rfl v8 (aN cl) o9 l6 I2 T g8 f2 hw fun d s3 H3 H4 σ' s4 I3 ff J4 q=>?_;obtain⟨m,hn,_⟩:=id J4.loc;obtain⟨oC,es,ep,ho,hd,hr⟩:=id hn;have IX:Inv X pins σ H4 s4:=Dm I3 ff J4 (AZ ..);have hCl:s3.heap.objs.size≠X.env.locals:=qm I3.lt;have hCf:s3.heap.objs.size∉X.fs:=fun z=>I3.nofs (ip _) z
 have IP:Inv X (pins++[(s3.heap.objs.size,oC)]) σ H4 s4:=IX.pins_of fun p hp=>by
  rcases lK.mp hp with z|z
  ·exact IX.pin p (oQ _ z)
  ·rcases mZ.mp z with rfl
   exact⟨ho,J4.free,hCl,hCf,fun v z=>by rw[hd] at z;cases z⟩
 show wpAny _ X.A (assign (.Name y py) X.env (.ref d)) _ _ _;refine thn (fv _ s4 σ H4 (.ref d) (.ref d) _ IP rfl q) fun _ s5 ⟨σ5,H5,I5,q5⟩=>?_;have pC:=I5.pin (s3.heap.objs.size,oC) (by simp);refine⟨m,⟨oC,es,ep,pC.1,hd,hr⟩,fun h' bj=>⟨σ5,H5,?_,q5⟩⟩;refine I5.unpinned.turned (it:=s3.heap.objs.size) (t':=s5.toks) (fun b o hb e=>by rw[bj.2 b hb];exact e) pC.2.1 hCl (.inr I3.sz) (fun x c hx z=>?_) (fun p hp z=>?_)
 ·obtain⟨v,o,e,_⟩:=I3.cell x c hx;exact absurd (iq e) (by rw[z];exact oR _)
 ·obtain⟨e,_⟩:=I3.pin p hp;exact absurd (iq e) (by rw[z];exact oR _)
end
section
variable {κ:Type}[DecidableEq κ]
noncomputable def rL(kvs:List (κ×V))(k:κ):Option V:=(kvs.find? fun kv=>decide (kv.1=k)).map (·.2)
noncomputable def pZ(kvs:List (κ×V))(k:κ)(v:V):List (κ×V):=
 if(kvs.any fun kv=>decide (kv.1=k))=true then kvs.map (fun kv=>if kv.1=k then(kv.1,v) else kv) else kvs++[(k,v)]
theorem qC{p:κ×V}{r:List (κ×V)}{k:κ}(e:p.1=k):rL (p::r) k=some p.2:=by simp[rL,vo,e]
theorem nF{p:κ×V}{r:List (κ×V)}{k:κ}(e: ¬p.1=k):rL (p::r) k=rL r k:=by simp[rL,vo,e]
theorem Cm(k:κ): ∀kvs:List (κ×V),(kvs.any fun kv=>decide (kv.1=k))=(rL kvs k).isSome
 |[]=>rfl
 |p::r=>by
  rw[List.any_cons];by_cases e:p.1=k
  ·simp only[qC e,lN e,Bool.true_or,Option.isSome_some]
  ·rw[nF e,ji e,Bool.false_or];exact Cm k r
theorem wd(kvs:List (κ×V))(k:κ)(v:V):(pZ kvs k v).length<=kvs.length+1:=by
 unfold pZ;split
 ·rw[jw];lia
 ·rw[kZ,jO,nD];lia
theorem RelO.isSome_eq{o:Option V}{u:Option Value}(r:RelO o u):o.isSome=u.isSome:=by
 cases o with
 |none=>cases u with
  |none=>rfl
  |some _=>exact(show False from r).elim
 |some _=>cases u with
  |none=>exact(show False from r).elim
  |some _=>rfl
theorem KV.val{kvs:List (κ×V)}{vs:List (κ×Value)}(r:KV kvs vs)(k:κ):RelO (rL kvs k) (valueAt vs k):=by
 unfold KV at r
 induction r with
 |nil=>exact True.intro
 | @cons p q ps qs h t ih=>
  obtain⟨h1,h2⟩:=h;by_cases e:p.1=k
  ·have e':q.1=k:=h1.symm.trans e;have b:valueAt (q::qs) k=some q.2:=by simp[valueAt,vo,e']
   rw[qC e,b];exact h2
  ·have e': ¬q.1=k:=fun z=>e (h1.trans z);have b:valueAt (q::qs) k=valueAt qs k:=by simp[valueAt,vo,e']
   rw[nF e,b];exact ih
theorem KV.any{kvs:List (κ×V)}{vs:List (κ×Value)}(r:KV kvs vs)(k:κ):(kvs.any fun kv=>decide (kv.1=k))=vs.any fun kv=>decide (kv.1=k):=by
 unfold KV at r
 induction r with
 |nil=>rfl
 |cons h t ih=>rw[List.any_cons,List.any_cons,ih,h.1]
theorem KV.repl{kvs:List (κ×V)}{vs:List (κ×Value)}(r:KV kvs vs)(k:κ){y:V}{u:gL}(ry:RelV y u):
  KV (kvs.map fun kv=>if kv.1=k then(kv.1,y) else kv) (vs.map fun kv=>if kv.1=k then(kv.1,u) else kv):=by
 unfold KV at r ⊢
 induction r with
 |nil=>exact .nil
 | @cons p q ps qs h t ih=>
  rw[iJ,iJ];refine .cons ?_ ih;obtain⟨h1,h2⟩:=h;by_cases e:p.1=k
  ·rw[gD e,gD (h1.symm.trans e)];exact⟨h1,ry⟩
  ·rw[gF e,gF (fun z=>e (h1.trans z))];exact⟨h1,h2⟩
theorem KV.put{kvs:List (κ×V)}{vs:List (κ×Value)}(r:KV kvs vs)(k:κ){y:V}{u:gL}(ry:RelV y u):KV (pZ kvs k y) (stored vs k u):=by
 unfold pZ stored;rw[r.any k];by_cases e:(vs.any fun kv=>decide (kv.1=k))=true
 ·rw[gD e,gD e];exact r.repl k ry
 ·rw[gF e,gF e];exact Paired.snoc r ⟨rfl,ry⟩
theorem KV.length{kvs:List (κ×V)}{vs:List (κ×Value)}(r:KV kvs vs):kvs.length=vs.length:=Ba r
end
theorem Kp{P:hG}{w:gS}{k:Key}{u:gL}(r:RelV (kV k) u):(kE P w).is k u=true:=by
 cases k with
 |inl i=>obtain⟨t,e⟩:=(show ∃t,u=Value.int i t from r);subst e;exact CU P w i t
 |inr x=>obtain⟨t,e⟩:=(show ∃t,u=Value.str x t from r);subst e;exact CT P w x t
theorem zS{P:hG}{w:gS}: ∀{ks:List Key} {us:iL},Vals (ks.map kV) us->ItemsAre (kE P w) ks us
 |[],_,r=>by rw[oP] at r;cases r;exact .nil
 |k::ks,_,r=>by
  rw[iJ] at r
  cases r with
  |cons h t=>exact .cons (Kp h) (zS t)
abbrev KT(H:Hp):List (List Key×V)->List (List Key×Addr×Value)->Prop:=Paired fun p q=>p.1=q.1/\H q.2.1=some (.tup (p.1.map kV))/\RelV p.2 q.2.2
theorem KT.val{H:Hp}{kvs:List (List Key×V)}{xs:List (List Key×Addr×Value)}(r:KT H kvs xs)(k:List Key):RelO (rL kvs k) ((atKey xs k).map (·.2)):=by
 induction r with
 |nil=>exact True.intro
 | @cons p q ps qs h t ih=>
  obtain⟨h1,_,h2⟩:=h;by_cases e:p.1=k
  ·have e':q.1=k:=h1.symm.trans e;have b:atKey (q::qs) k=some q.2:=by simp[atKey,vo,e']
   rw[qC e,b];exact h2
  ·have e': ¬q.1=k:=fun z=>e (h1.trans z);have b:atKey (q::qs) k=atKey qs k:=by simp[atKey,vo,e']
   rw[nF e,b];exact ih
theorem KT.repl{H:Hp}{kvs:List (List Key×V)}{xs:List (List Key×Addr×Value)}(r:KT H kvs xs)(k:List Key){y:V}{u:gL}(ry:RelV y u):
  KT H (kvs.map fun kv=>if kv.1=k then(kv.1,y) else kv) (xs.map (putAt k u)):=by
 induction r with
 |nil=>exact .nil
 | @cons p q ps qs h t ih=>
  rw[iJ,iJ];refine .cons ?_ ih;obtain⟨h1,h2,h3⟩:=h;unfold putAt;by_cases e:p.1=k
  ·rw[gD e,gD (h1.symm.trans e)];exact⟨h1,h2,ry⟩
  ·rw[gF e,gF (fun z=>e (h1.trans z))];exact⟨h1,h2,h3⟩
theorem KT.put{H:Hp}{kvs:List (List Key×V)}{xs:List (List Key×Addr×Value)}(r:KT H kvs xs)(k:List Key){b:gv}{y:V}{u:gL}(hb:H b=some (.tup (k.map kV)))(ry:RelV y u):
  KT H (pZ kvs k y) (storedH xs k b u):=by
 have e:(kvs.any fun kv=>decide (kv.1=k))=(atKey xs k).isSome:=by
  rw[Cm,(r.val k).isSome_eq,Option.isSome_map]
 unfold pZ storedH;rw[e];by_cases q:(atKey xs k).isSome=true
 ·rw[gD q,gD q];exact r.repl k ry
 ·rw[gF q,gF q];exact Paired.snoc r ⟨rfl,hb,ry⟩
theorem KT.keeps{H H':Hp}{kvs:List (List Key×V)}{xs:List (List Key×Addr×Value)}(r:KT H kvs xs)(ht: ∀b ys,H b=some (.tup ys)->H' b=some (.tup ys)):KT H' kvs xs:=
 Paired.mapP r fun _ _ z=>⟨z.1,ht _ _ z.2.1,z.2.2⟩
section
variable {P:hG}{w:gS}{H:Hp}{h:gU}{a:gv}
theorem MY{u:HO}(ok:HOk P w H h)(e:Rd H a u):ObjOk P w H h a u:=e.ok ok
theorem Nk{kvs:List (Key×V)}(ok:HOk P w H h)(e:Rd H a (.dK kvs)):kvs.length<=sizeLine/\(a==sysModules)=false/\ ∃vs,KV kvs vs/\h.DictOf (kE P w) a vs:=
 show ObjOk P w H h a (.dK kvs) from MY ok e
theorem Nl{kvs:List (Key×V)}(ok:HOk P w H h)(e:H a=some (.dK kvs)):kvs.length<=sizeLine/\(a==sysModules)=false/\ ∃vs,KV kvs vs/\h.DictOf (kE P w) a vs:=Nk ok (.inl e)
theorem Fc{ks:List Key}(ok:HOk P w H h)(e:H a=some (.tup (ks.map kV))):(tupleKind (kE P w)).is h ks a:=by
 obtain⟨_,b6,r,o,h1,h2,n,h3⟩:=(show ObjOk P w H h a (.tup (ks.map kV)) from ok a _ e)
 exact⟨o,b6.toArray,n,h1,h2,h3,by simpa using zS r⟩
theorem Nj{kvs:List (List Key×V)}(ok:HOk P w H h)(e:Rd H a (.dT kvs)):kvs.length<=sizeLine/\(a==sysModules)=false/\
  ∃xs,KT H kvs xs/\h.DictOfH (tupleKind (kE P w)) a xs:=by
 obtain⟨z,y,xs,r,o,es,ep,h1,h2,h3,h4,h5⟩:=(show ObjOk P w H h a (.dT kvs) from MY ok e)
 refine⟨z,y,xs,r,o,es,ep,h1,h2,h3,h4,fun x hx=>?_,h5⟩
 have all: ∀{l:List (List Key×V)} {m:List (List Key×Addr×Value)},KT H l m-> ∀x∈m,(tupleKind (kE P w)).is h x.1 x.2.1:=by
  intro l m q
  induction q with
  |nil=>intro x hx;exact nomatch hx
  | @cons p q ps qs hq t ih=>
   intro x hx;rcases jj.mp hx with e|hx
   ·subst e;exact Fc ok (by rw[<-hq.1];exact hq.2.1)
   ·exact ih x hx
 exact all r x hx
theorem Q4{kvs:List (List Key×V)}(ok:HOk P w H h)(e:H a=some (.dT kvs)):kvs.length<=sizeLine/\(a==sysModules)=false/\
  ∃xs,KT H kvs xs/\h.DictOfH (tupleKind (kE P w)) a xs:=Nj ok (.inl e)
end
def DGet(H:Hp)(a:gv)(y:V)(r:Option V):Prop:=
 (∃kvs k,Rd H a (.dK kvs)/\y=kV k/\r=rL kvs k)\/ ∃kvs k b,Rd H a (.dT kvs)/\y= .ref b/\H b=some (.tup (k.map kV))/\r=rL kvs k
def DPut(H:Hp)(a:gv)(y v:V)(H':Hp):Prop:=
 (∃kvs k,H a=some (.dK kvs)/\y=kV k/\kvs.length<sizeLine/\H'=upd H a (.dK (pZ kvs k v)))\/
 ∃kvs k b,H a=some (.dT kvs)/\y= .ref b/\H b=some (.tup (k.map kV))/\kvs.length<sizeLine/\H'=upd H a (.dT (pZ kvs k v))
theorem DGet.k{H:Hp}{a:gv}{kvs:List (Key×V)}{k:Key}(e:H a=some (.dK kvs)):DGet H a (kV k) (rL kvs k):= .inl ⟨kvs,k,.inl e,rfl,rfl⟩
theorem DGet.t{H:Hp}{a b:gv}{kvs:List (List Key×V)}{k:List Key}(e:H a=some (.dT kvs))(eb:H b=some (.tup (k.map kV))):DGet H a (.ref b) (rL kvs k):= .inr ⟨kvs,k,b,.inl e,rfl,eb,rfl⟩
theorem DPut.k{H:Hp}{a:gv}{kvs:List (Key×V)}{k:Key}{v:V}(e:H a=some (.dK kvs))(hl:kvs.length<sizeLine):DPut H a (kV k) v (upd H a (.dK (pZ kvs k v))):= .inl ⟨kvs,k,e,rfl,hl,rfl⟩
theorem DPut.t{H:Hp}{a b:gv}{kvs:List (List Key×V)}{k:List Key}{v:V}(e:H a=some (.dT kvs))(eb:H b=some (.tup (k.map kV)))(hl:kvs.length<sizeLine):
  DPut H a (.ref b) v (upd H a (.dT (pZ kvs k v))):= .inr ⟨kvs,k,b,e,rfl,eb,hl,rfl⟩
section
variable {X:Cx}{pins:ik}{σ:St}{H:Hp}{s:gA}{a:gv}{y v:V}{u r:gL}{o:Option V}{A:gW}{E:hV}
theorem Inv.big(I:Inv X pins σ H s):sysModules<s.heap.objs.size:=by
 have h:mainGlobals<s.heap.objs.size:=(I.mod.glob.keeps I.bk).lt;exact Nat.lt_trans (by decide) h
theorem Af{Q:hV}(hu:A.units+1<cLine)(I:Inv X pins σ H s)(g:DGet H a y (some v))(ry:RelV y u)(h: ∀w' s',Inv X pins σ H s'->RelV v w'->Q w' s'):
  wpAny (model X.prog X.w) A (getItem (.ref a) u) Q E s:=by
 rcases g with⟨kvs,k,e,ey,l⟩|⟨kvs,k,b,e,ey,eb,l⟩
 ·subst ey;obtain⟨z,hd,vs,rel,dd⟩:=Nk I.hok e;obtain⟨w',hw,aj⟩:=RelO.some_of (v:=v) (o:=valueAt vs k) (by rw[l];exact rel.val k);exact wpAny_getItem_of (Kp ry) dd.mapOf hw (h w' _ (I.tok _) aj)
 ·subst ey;cases(show u=Value.ref b from ry);obtain⟨z,hd,xs,rel,dd⟩:=Nj I.hok e;obtain⟨w',hw,aj⟩:=RelO.some_of (v:=v) (o:=(atKey xs k).map (·.2)) (by rw[l];exact rel.val k);obtain⟨p,hp,de⟩:=Option.map_eq_some_iff.mp hw;refine wpAny_getItem_heap (tupleKind_room_in1 hu) (Fc I.hok eb) dd hp ?_;rw[de];exact h w' _ (I.tok _) aj
theorem wV{h':gU}{t':Nat}{ob:HO}(I:Inv X pins σ H s)(mu:Mut (H a))(hs:Heap.SameBut a s.heap h')(he: ∃q,h'.get? a=some q)(new:ObjOk X.prog X.w (upd H a ob) h' a ob):
  Inv X pins σ (upd H a ob) {s with heap:=h',toks:=t'}:=
 I.write (x:=a) (e:=a) mu (.inl rfl) (fun b q hb z=>(hs.2 b hb).trans z) he new
theorem Pf{P:hG}{w:gS}{H':Hp}{h':gU}{kvs:List (Key×V)}{vs:List (Key×Value)}(z:kvs.length<=sizeLine)(hd:(a==sysModules)=false)(rel:KV kvs vs)(dd:h'.DictOf (kE P w) a vs):
  ObjOk P w H' h' a (.dK kvs):=⟨z,hd,vs,rel,dd⟩
theorem vP{H':Hp}{Q:Unit->Shared->Prop}(hu:A.units+1<cLine)(I:Inv X pins σ H s)(g:DPut H a y v H')(ry:RelV y u)(rv:RelV v r)(h: ∀s',Inv X pins σ H' s'->Q () s'):
  wpAny (model X.prog X.w) A (setItem (.ref a) u r) Q E s:=by
 rcases g with⟨kvs,k,e,ey,l,eH⟩|⟨kvs,k,b,e,ey,eb,l,eH⟩
 ·subst ey eH;obtain⟨z,hd,vs,rel,dd⟩:=Nl I.hok e;have hz:vs.length<=sizeLine:=by rw[<-rel.length];exact z
  have hl:(pZ kvs k v).length<=sizeLine:=by have:=wd kvs k v;lia
  refine wpAny_setItem_pairs (hsz:=hz) (Kp ry) dd fun h' eY hs=>h _ ?_;have he: ∃q,h'.get? a=some q:=let⟨q,_,_,hq,_⟩:=eY;⟨q,hq⟩
  exact wV I (by rw[e];exact True.intro) hs he (Pf hl hd (rel.put k rv) eY)
 ·subst ey eH;cases(show u=Value.ref b from ry);obtain⟨z,hd,xs,rel,dd⟩:=Q4 I.hok e;have hz:xs.length<=sizeLine:=by rw[<-Ba rel];exact z
  have hl:(pZ kvs k v).length<=sizeLine:=by have:=wd kvs k v;lia
  refine wpAny_setItem_heap (hsz:=hz) (tupleKind_room_in1 hu) (Fc I.hok eb) dd fun h' eY hs=>h _ ?_;obtain⟨q,es,ep,hq,h2,h3,h4,_,h5⟩:=eY;refine wV I (by rw[e];exact True.intro) hs ⟨q,hq⟩ ⟨hl,hd,_,(rel.put k eb rv).keeps fun c ys ec=>?_,q,es,ep,hq,h2,h3,h4,h5⟩;rw[iE (M8 ec e (fun z=>nomatch z))];exact ec
end
theorem KI{P:hG}{w:gS}{H:Hp}(h:gU)(hb:sysModules<h.objs.size):ObjOk P w H (h.push {cls:= .type "dict",data:= .dict #[]}) h.objs.size (.dK []):=
 ⟨lY _,yM.mpr (pV (iK hb)),[],.nil,Heap.DictOf.new h⟩
noncomputable def Ny:TE:=fun _ H Q=> ∀p,H p=none->Q (.ref p) (upd H p (.dK []))
section
variable {X:Cx}{pos:Pos}
theorem JT:PE X (.Dict [] [] pos) Ny:=fun pins s σ H Q I h=>
 wpAny_Dict_empty ⟨.ref s.heap.objs.size,_,I.laid (a:=s.heap.objs.size) (o:= .dK []) (t':=s.toks) (fun _ _ q=>iz _ q) (ip _) (KI s.heap I.big),rfl,h _ (I.hok.fresh (ip _))⟩
end
end L2
namespace PX
open PySem PySem.Spec PyProof.Rows L2
inductive OK where
 |dct|set|fn(i:Nat)|exc(c:Nat)
 deriving DecidableEq
inductive D where
 |non|bl(b:Bool)|int(i:Int)|str(x:Str)|tup(l:List D)|lst(l:List D)|oth(k:OK)(ks vs:List D)
mutual
/-- cb hash of ints and of tuples of such -/
noncomputable def D.hash:D->Int
 | .int i=>hashInt i
 | .tup l=>reduceHash (Builtin.Tuple.tupleHashOf (D.hashL l))
 |_=>0
noncomputable def D.hashL:List D->List Int
 |[]=>[]
 |d::l=>D.hash d::D.hashL l
end
noncomputable def jz:Key->D
 | .inl i=> .int i
 | .inr x=> .str x
def OthB(h:Option HO)(k:OK)(ks vs:List D)(us:List V):Prop:=
 match k with
 | .dct=>(∃kvs:List (Key×V),h=some (.dK kvs)/\ks=kvs.map (fun p=>jz p.1)/\us=kvs.map (·.2))\/
   (∃kvs:List (List Key×V),h=some (.dT kvs)/\ks=kvs.map (fun p=> .tup (p.1.map jz))/\us=kvs.map (·.2))
 | .set=>ks=[]/\ ∃zs:List (Int×V),h=some (.stt zs)/\zs.Perm ((D.hashL vs).zip us)
 |_=>False
theorem OthB.ex{h k ks vs us}(x:OthB h k ks vs us): ∃o,h=some o:=by
 cases k with
 |dct=>rcases x with⟨_,e,_⟩|⟨_,e,_⟩<;>exact⟨_,e⟩
 |set=>obtain⟨_,_,e,_⟩:=x;exact⟨_,e⟩
 |_=>exact x.elim
theorem OthB.keep{h h':Option HO}{k ks vs us}(x:OthB h k ks vs us)(kp: ∀o,h=some o->h'=some o):OthB h' k ks vs us:=by
 obtain⟨o,e⟩:=x.ex;rw[kp o e,<-e];exact x
abbrev AP':=Addr->Prop
def KL(K:hC)(a:gv)(xs:List V):Prop:= ∃(o:Obj) (b6:jW) (n:Nat),K.lookup a=some o/\o.cls= .type "list"/\o.dict=none/\o.data= .seq b6 n/\b6.size<=sizeLine/\Vals xs b6.toList
def SqTO(K:hC)(H:Hp)(O:AP')(a:gv)(xs:List V):Prop:=H a=some (.tup xs)/\ ¬O a
def SqLO(K:hC)(H:Hp)(O:AP')(a:gv)(xs:List V):Prop:=(Rd H a (.lst xs)/\ ¬O a)\/KL K a xs
theorem SqTO.sq{K H O a xs}(h:SqTO K H O a xs):SqT K H a xs:= .inl (.inl h.1)
theorem SqLO.sq{K H O a xs}(h:SqLO K H O a xs):SqL K H a xs:=h.elim (fun z=> .inl z.1) .inr
theorem Rd.mono{H H':Hp}{a u}(h:Rd H a u)(k: ∀o,H a=some o->H' a=some o):Rd H' a u:=by
 rcases h with h|⟨o,h⟩
 ·exact .inl (k _ h)
 ·exact .inr ⟨o,k _ h⟩
theorem SqTO.mono{K H H'}{O O':AP'}{a xs}(h:SqTO K H O a xs)(k: ∀b o,H b=some o-> ¬O b->H' b=some o)(hO: ∀b,H b≠none->O' b->O b):SqTO K H' O' a xs:=
 ⟨k a _ h.1 h.2,fun z=>h.2 (hO a (by rw[h.1];simp) z)⟩
theorem SqLO.mono{K H H'}{O O':AP'}{a xs}(h:SqLO K H O a xs)(k: ∀b o,H b=some o-> ¬O b->H' b=some o)(hO: ∀b,H b≠none->O' b->O b):SqLO K H' O' a xs:=by
 rcases h with⟨r,n⟩|h
 ·refine .inl ⟨Rd.mono r fun o e=>k a o e n,fun z=>n (hO a ?_ z)⟩;rcases r with r|⟨_,r⟩<;>(rw[r];simp)
 ·exact .inr h
mutual
/-- v is cb datum,in H;nothing of it stands at an address of O -/
def Rep(K:hC)(H:Hp)(O:AP'):D->V->Prop
 | .non,v=>v= .non
 | .bl b,v=>v= .bl b
 | .int i,v=>v= .int i
 | .str x,v=>v= .str x
 | .tup l,v=> ∃a xs,v= .ref a/\SqTO K H O a xs/\RepL K H O l xs
 | .lst l,v=> ∃a xs,v= .ref a/\SqLO K H O a xs/\RepL K H O l xs
 | .oth k ks vs,v=> ∃a us,v= .ref a/\(¬O a/\OthB (H a) k ks vs us)/\RepL K H O vs us
def RepL(K:hC)(H:Hp)(O:AP'):List D->List V->Prop
 |[],vs=>vs=[]
 |d::l,vs=> ∃v r,vs=v::r/\Rep K H O d v/\RepL K H O l r
end
mutual
theorem Rep.mono{K H H'}{O O':AP'}(k: ∀b o,H b=some o-> ¬O b->H' b=some o)(hO: ∀b,H b≠none->O' b->O b): ∀{d:D} {v:V},Rep K H O d v->Rep K H' O' d v
 | .non,_,h=>h
 | .bl _,_,h=>h
 | .int _,_,h=>h
 | .str _,_,h=>h
 | .tup l,_,h=>by
  rw[Rep] at h ⊢;obtain⟨a,xs,e,s,r⟩:=h;exact⟨a,xs,e,s.mono k hO,RepL.mono k hO r⟩
 | .lst l,_,h=>by
  rw[Rep] at h ⊢;obtain⟨a,xs,e,s,r⟩:=h;exact⟨a,xs,e,s.mono k hO,RepL.mono k hO r⟩
 | .oth kk ks vs,_,h=>by
  rw[Rep] at h ⊢;obtain⟨a,us,e,s,r⟩:=h;exact⟨a,us,e,⟨fun z=>s.1 (hO a (by obtain⟨o,q⟩:=s.2.ex;rw[q];simp) z),s.2.keep fun o q=>k a o q s.1⟩,RepL.mono k hO r⟩
theorem RepL.mono{K H H'}{O O':AP'}(k: ∀b o,H b=some o-> ¬O b->H' b=some o)(hO: ∀b,H b≠none->O' b->O b): ∀{l:List D} {vs:List V},RepL K H O l vs->RepL K H' O' l vs
 |[],_,h=>h
 |d::l,_,h=>by
  rw[RepL] at h ⊢;obtain⟨v,r,e,h1,h2⟩:=h;exact⟨v,r,e,Rep.mono k hO h1,RepL.mono k hO h2⟩
end
theorem Rep.mkInt{K H O i}:Rep K H O (.int i) (.int i):=by rw[Rep]
theorem Rep.mkBl{K H O i}:Rep K H O (.bl i) (.bl i):=by rw[Rep]
theorem Rep.mkNon{K H O}:Rep K H O .non .non:=by rw[Rep]
theorem Rep.mkStr{K H O i}:Rep K H O (.str i) (.str i):=by rw[Rep]
theorem Rep.int{K H O i v}(h:Rep K H O (.int i) v):v= .int i:=by rwa [Rep] at h
theorem Rep.bl{K H O i v}(h:Rep K H O (.bl i) v):v= .bl i:=by rwa [Rep] at h
theorem Rep.non{K H O v}(h:Rep K H O .non v):v= .non:=by rwa [Rep] at h
theorem Rep.str{K H O i v}(h:Rep K H O (.str i) v):v= .str i:=by rwa [Rep] at h
theorem Rep.tup{K H O l v}(h:Rep K H O (.tup l) v): ∃a xs,v= .ref a/\SqTO K H O a xs/\RepL K H O l xs:=by rwa [Rep] at h
theorem Rep.lst{K H O l v}(h:Rep K H O (.lst l) v): ∃a xs,v= .ref a/\SqLO K H O a xs/\RepL K H O l xs:=by rwa [Rep] at h
theorem Rep.oth{K H O k ks vs v}(h:Rep K H O (.oth k ks vs) v): ∃a us,v= .ref a/\(¬O a/\OthB (H a) k ks vs us)/\RepL K H O vs us:=by rwa [Rep] at h
theorem Rep.mkOth{K H O k ks vs a us}(n: ¬O a)(h:OthB (H a) k ks vs us)(r:RepL K H O vs us):Rep K H O (.oth k ks vs) (.ref a):=by rw[Rep];exact⟨a,us,rfl,⟨n,h⟩,r⟩
theorem Rep.mkTup{K H O l a xs}(h:SqTO K H O a xs)(r:RepL K H O l xs):Rep K H O (.tup l) (.ref a):=by rw[Rep];exact⟨a,xs,rfl,h,r⟩
theorem Rep.mkLst{K H O l a xs}(h:SqLO K H O a xs)(r:RepL K H O l xs):Rep K H O (.lst l) (.ref a):=by rw[Rep];exact⟨a,xs,rfl,h,r⟩
theorem RepL.length{K H O}: ∀{l:List D} {vs:List V},RepL K H O l vs->vs.length=l.length
 |[],vs,h=>by rw[RepL] at h;rw[h];rfl
 |d::l,vs,h=>by
  rw[RepL] at h;obtain⟨v,r,rfl,_,h2⟩:=h;simp[RepL.length h2]
theorem RepL.get{K H O}: ∀{l:List D} {vs:List V} {i:Nat} {d:D},RepL K H O l vs->l[i]?=some d-> ∃v,vs[i]?=some v/\Rep K H O d v
 |[],_,_,_,_,e=>by simp at e
 |d::l,vs,0,d',h,e=>by
  rw[RepL] at h;obtain⟨v,r,rfl,h1,_⟩:=h;simp at e;subst e;exact⟨v,rfl,h1⟩
 |d::l,vs,i+1,d',h,e=>by
  rw[RepL] at h;obtain⟨v,r,rfl,_,h2⟩:=h;obtain⟨w,h3,h4⟩:=RepL.get (i:=i) h2 (by simpa using e);exact⟨w,by simpa using h3,h4⟩
theorem RepL.append{K H O}: ∀{l m:List D} {vs ws:List V},RepL K H O l vs->RepL K H O m ws->RepL K H O (l++m) (vs++ws)
 |[],_,vs,_,h,h'=>by rw[RepL] at h;subst h;exact h'
 |d::l,_,vs,_,h,h'=>by
  rw[RepL] at h;obtain⟨v,r,rfl,h1,h2⟩:=h;show RepL K H O (d::(l++_)) _;rw[RepL];exact⟨v,_,rfl,h1,RepL.append h2 h'⟩
theorem RepL.one{K H O}{d:D}{v:V}(h:Rep K H O d v):RepL K H O [d] [v]:=by
 rw[RepL];exact⟨v,[],rfl,h,by rw[RepL]⟩
theorem RepL.nil{K H O}:RepL K H O [] []:=by rw[RepL]
theorem RepL.cons{K H O}{d:D}{v:V}{l vs}(h:Rep K H O d v)(h':RepL K H O l vs):RepL K H O (d::l) (v::vs):=by
 rw[RepL];exact⟨v,vs,rfl,h,h'⟩
theorem RepL.take{K H O}: ∀{l:List D} {vs:List V} (n:Nat),RepL K H O l vs->RepL K H O (l.take n) (vs.take n)
 |_,_,0,_=>by simp[RepL]
 |[],vs,n+1,h=>by rw[RepL] at h;subst h;simp[RepL]
 |d::l,vs,n+1,h=>by
  rw[RepL] at h;obtain⟨v,r,rfl,h1,h2⟩:=h;exact RepL.cons h1 (RepL.take n h2)
theorem RepL.drop{K H O}: ∀{l:List D} {vs:List V} (n:Nat),RepL K H O l vs->RepL K H O (l.drop n) (vs.drop n)
 |_,_,0,h=>h
 |[],vs,n+1,h=>by rw[RepL] at h;subst h;simp[RepL]
 |d::l,vs,n+1,h=>by
  rw[RepL] at h;obtain⟨v,r,rfl,h1,h2⟩:=h;exact RepL.drop n h2
theorem RepL.set{K H O}{d:D}{v:V}(hv:Rep K H O d v): ∀{l:List D} {vs:List V} (i:Nat),RepL K H O l vs->RepL K H O (l.set i d) (vs.set i v)
 |[],vs,i,h=>by rw[RepL] at h;subst h;simp[RepL]
 |e::l,vs,0,h=>by
  rw[RepL] at h;obtain⟨w,r,rfl,h1,h2⟩:=h;exact RepL.cons hv h2
 |e::l,vs,i+1,h=>by
  rw[RepL] at h;obtain⟨w,r,rfl,h1,h2⟩:=h;exact RepL.cons h1 (RepL.set hv i h2)
abbrev Sl:=Option (D×Bool)
abbrev Dn:=List Sl
def OwnA(σ:L2.St)(δ:Dn)(a:gv):Prop:= ∃(i:Nat) (d:D),δ[i]?=some (some (d,true))/\σ[i]?=some (some (V.ref a))
def OwnOk(K:hC)(H:Hp)(O:AP'):D->Addr->Prop
 | .lst l,a=> ∃xs,H a=some (.lst xs)/\RepL K H O l xs
 | .oth k ks vs,a=> ∃us,OthB (H a) k ks vs us/\RepL K H O vs us
 |_,_=>False
theorem OwnOk.mono{K H H'}{O O':AP'}{d:D}{a:gv}(h:OwnOk K H O d a)(k: ∀b o,H b=some o-> ¬O b->H' b=some o)(hO: ∀b,H b≠none->O' b->O b)(ka: ∀o,H a=some o->H' a=some o):OwnOk K H' O' d a:=by
 cases d with
 |lst l=>obtain⟨xs,e,r⟩:=h;exact⟨xs,ka _ e,RepL.mono k hO r⟩
 |oth kk ks vs=>obtain⟨us,e,r⟩:=h;exact⟨us,e.keep ka,RepL.mono k hO r⟩
 |_=>exact h
theorem OwnOk.some{K H}{O:AP'}{d:D}{a:gv}(h:OwnOk K H O d a):H a≠none:=by
 cases d with
 |lst l=>obtain⟨xs,e,r⟩:=h;rw[e];simp
 |oth kk ks vs=>obtain⟨us,e,r⟩:=h;obtain⟨o,q⟩:=e.ex;rw[q];simp
 |_=>exact h.elim
theorem OwnOk.rep{K H}{O O':AP'}{d:D}{a:gv}(h:OwnOk K H O d a)(na: ¬O' a)(hO: ∀b,H b≠none->O' b->O b):Rep K H O' d (.ref a):=by
 cases d with
 |lst l=>
  obtain⟨xs,e,r⟩:=h;rw[Rep];exact⟨a,xs,rfl,.inl ⟨.inl e,na⟩,RepL.mono (fun b o e _=>e) hO r⟩
 |oth kk ks vs=>
  obtain⟨us,e,r⟩:=h;exact Rep.mkOth na e (RepL.mono (fun b o e _=>e) hO r)
 |_=>exact h.elim
structure ER(K:hC)(H:Hp)(T:AP')(σ:L2.St)(δ:Dn):Prop where
 len:σ.length=δ.length
 val: ∀(i:Nat) (d:D),δ[i]?=some (some (d,false))-> ∃v,σ[i]?=some (some v)/\Rep K H (fun a=>OwnA σ δ a\/T a) d v
 own: ∀(i:Nat) (d:D),δ[i]?=some (some (d,true))-> ∃a,σ[i]?=some (some (V.ref a))/\OwnOk K H (fun a=>OwnA σ δ a\/T a) d a
 inj: ∀(i j:Nat) (d e:D) (a:gv),δ[i]?=some (some (d,true))->δ[j]?=some (some (e,true))->σ[i]?=some (some (V.ref a))->σ[j]?=some (some (V.ref a))->i=j
 nT: ∀a,OwnA σ δ a-> ¬T a
 dom: ∀a,T a->H a≠none
theorem ER.ownDom{K H T σ δ}(E:ER K H T σ δ){a:gv}(h:OwnA σ δ a):H a≠none:=by
 obtain⟨i,d,h1,h2⟩:=h;obtain⟨b,h3,h4⟩:=E.own i d h1;rw[h2] at h3;cases h3;exact h4.some
theorem ER.mono{K H H' σ δ}{T T':AP'}(E:ER K H T σ δ)(k: ∀b o,H b=some o-> ¬T b->H' b=some o)(hT: ∀b,H b≠none->T' b->T b)(hd: ∀a,T' a->H' a≠none):ER K H' T' σ δ where
 len:=E.len
 val:=fun i d h=>by
  obtain⟨v,h1,h2⟩:=E.val i d h;exact⟨v,h1,Rep.mono (fun b o e n=>k b o e fun z=>n (.inr z)) (fun b hb z=>z.elim .inl fun z=> .inr (hT b hb z)) h2⟩
 own:=fun i d h=>by
  obtain⟨a,h1,h2⟩:=E.own i d h;exact⟨a,h1,h2.mono (fun b o e n=>k b o e fun z=>n (.inr z)) (fun b hb z=>z.elim .inl fun z=> .inr (hT b hb z)) fun o e=>k a o e (E.nT a ⟨i,d,h,h1⟩)⟩
 inj:=E.inj
 nT:=fun a h z=>E.nT a h (hT a (E.ownDom h) z)
 dom:=hd
theorem OwnA.set{σ:L2.St}{δ:Dn}{i:Nat}{d:D}{a:gv}(h:OwnA σ (δ.set i (some (d,false))) a):OwnA σ δ a:=by
 obtain⟨j,e,h1,h2⟩:=h;rw[AY] at h1;split at h1
 ·split at h1<;>simp at h1
 ·exact⟨j,e,h1,h2⟩
theorem ER.freeze{K H T σ δ}(E:ER K H T σ δ){i:Nat}{d:D}{b:Bool}(h:δ[i]?=some (some (d,b))):ER K H T σ (δ.set i (some (d,false)))/\ ∃v,σ[i]?=some (some v)/\Rep K H (fun a=>OwnA σ (δ.set i (some (d,false))) a\/T a) d v:=by
 have hi:i<δ.length:=(uY.mp h).1
 have me: ∃v,σ[i]?=some (some v)/\Rep K H (fun a=>OwnA σ (δ.set i (some (d,false))) a\/T a) d v:=by
  cases b with
  |false=>
   obtain⟨v,h1,h2⟩:=E.val i d h;exact⟨v,h1,Rep.mono (fun _ _ e _=>e) (fun b _ z=>z.elim (fun z=> .inl z.set) .inr) h2⟩
  |true=>
   obtain⟨a,h1,h2⟩:=E.own i d h;refine⟨.ref a,h1,h2.rep (fun z=>?_) fun b _ z=>z.elim (fun z=> .inl z.set) .inr⟩;rcases z with⟨j,e,h3,h4⟩|z
   ·rw[AY] at h3;split at h3
    ·first
      |(split at h3<;>simp at h3)
      |simp at h3
    ·rename_i r9;exact r9 (E.inj i j d e a h h3 h1 h4)
   ·exact E.nT a ⟨i,d,h,h1⟩ z
 refine⟨⟨by rw[rS];exact E.len,fun j e hj=>?_,fun j e hj=>?_,fun j k e f a hj hk h1 h2=>?_,fun a z=>E.nT a z.set,E.dom⟩,me⟩
 ·by_cases u2:i=j
  ·subst u2;rw[qo hi] at hj;cases hj;exact me
  ·rw[rX u2] at hj;obtain⟨v,h1,h2⟩:=E.val j e hj;exact⟨v,h1,Rep.mono (fun _ _ e _=>e) (fun b _ z=>z.elim (fun z=> .inl z.set) .inr) h2⟩
 ·by_cases u2:i=j
  ·subst u2;rw[qo hi] at hj;cases hj
  ·rw[rX u2] at hj;obtain⟨a,h1,h2⟩:=E.own j e hj;exact⟨a,h1,h2.mono (fun _ _ e _=>e) (fun b _ z=>z.elim (fun z=> .inl z.set) .inr) fun _ e=>e⟩
 ·have g1:δ[j]?=some (some (e,true)):=by
   by_cases u2:i=j
   ·subst u2;rw[qo hi] at hj;cases hj
   ·rwa [rX u2] at hj
  have g2:δ[k]?=some (some (f,true)):=by
   by_cases u2:i=k
   ·subst u2;rw[qo hi] at hk;cases hk
   ·rwa [rX u2] at hk
  exact E.inj j k e f a g1 g2 h1 h2
def OwnI(σ:L2.St)(δ:Dn)(i:Nat)(a:gv):Prop:= ∃d:D,δ[i]?=some (some (d,true))/\σ[i]?=some (some (V.ref a))
structure Keep(σ:L2.St)(δ:Dn)(H:Hp)(δ':Dn)(H':Hp):Prop where
 kp: ∀a o,H a=some o-> ¬OwnA σ δ a->H' a=some o
 owi: ∀i a,OwnI σ δ' i a->OwnI σ δ i a
 dm: ∀a,H a≠none->H' a≠none
theorem Keep.ow{σ δ H δ' H'}(k:Keep σ δ H δ' H')(a:gv)(h:OwnA σ δ' a):OwnA σ δ a:=by
 obtain⟨i,d,h1,h2⟩:=h;obtain⟨e,h3,h4⟩:=k.owi i a ⟨d,h1,h2⟩;exact⟨i,e,h3,h4⟩
theorem Keep.refl{σ δ H}:Keep σ δ H δ H:=⟨fun _ _ e _=>e,fun _ _ z=>z,fun _ z=>z⟩
theorem Keep.trans{σ δ δ1 δ2 H H1 H2}(x:Keep σ δ H δ1 H1)(y:Keep σ δ1 H1 δ2 H2):Keep σ δ H δ2 H2:=
 ⟨fun a o e n=>y.kp a o (x.kp a o e n) fun z=>n (x.ow a z),fun i a z=>x.owi i a (y.owi i a z),fun a z=>y.dm a (x.dm a z)⟩
theorem Keep.ext{σ δ H H1}(k: ∀a o,H a=some o->H1 a=some o):Keep σ δ H δ H1:=⟨fun a o e _=>k a o e,fun _ _ z=>z,fun a z=>by
 cases h:H a with
 |none=>exact absurd h z
 |some o=>rw[k a o h];simp⟩
theorem OwnI.set{σ:L2.St}{δ:Dn}{i j:Nat}{d:D}{a:gv}(h:OwnI σ (δ.set i (some (d,false))) j a):OwnI σ δ j a:=by
 obtain⟨e,h1,h2⟩:=h;rw[AY] at h1;split at h1
 ·split at h1<;>simp at h1
 ·exact⟨e,h1,h2⟩
theorem Keep.set{σ δ H i d}:Keep σ δ H (δ.set i (some (d,false))) H:=⟨fun _ _ e _=>e,fun _ _ z=>z.set,fun _ z=>z⟩
def Post(K:hC)(T:AP')(σ:L2.St)(δ:Dn)(H:Hp)(r:D×Bool)(δ':Dn)(v:V)(H':Hp):Prop:=
 Keep σ δ H δ' H'/\
 match r with
 |(d,false)=>ER K H' T σ δ'/\Rep K H' (fun a=>OwnA σ δ' a\/T a) d v
 |(d,true)=> ∃p,v= .ref p/\H p=none/\ER K H' (fun a=>T a\/a=p) σ δ'/\OwnOk K H' (fun a=>OwnA σ δ' a\/T a\/a=p) d p
abbrev F:=Dn->Option ((D×Bool)×Dn)
def tF(K:hC)(f:F):TE:=fun σ H Q=> ∃δ T r δ',ER K H T σ δ/\f δ=some (r,δ')/\ ∀v H',Post K T σ δ H r δ' v H'->Q v H'
def PX(X:Cx)(e:gM)(f:F):Prop:=PE X e (tF X.K f)
noncomputable def Tmp(T:AP')(r:D×Bool)(v:V):AP':=fun a=>T a\/(r.2=true/\v= .ref a)
section
variable {K:hC}{T:AP'}{σ:L2.St}{δ δ1 δ2:Dn}{H H1 H2:Hp}{x y:D×Bool}{v u:V}
theorem Post.er(E:ER K H T σ δ)(P:Post K T σ δ H x δ1 v H1):ER K H1 (Tmp T x v) σ δ1:=by
 obtain⟨d,b⟩:=x
 cases b with
 |false=>
  refine P.2.1.mono (fun _ _ e _=>e) (fun b _ z=>z.elim id fun z=>absurd z.1 (by simp)) (fun a z=>?_);rcases z with z|z
  ·exact P.2.1.dom a z
  ·exact absurd z.1 (by simp)
 |true=>
  obtain⟨p,rfl,hp,E1,o1⟩:=P.2;refine E1.mono (fun _ _ e _=>e) (fun b _ z=>z.elim .inl fun z=> .inr (by have:=z.2;cases this;rfl)) (fun a z=>?_);rcases z with z|z
  ·exact E1.dom a (.inl z)
  ·have:=z.2;cases this;exact E1.dom _ (.inr rfl)
theorem Post.rep(E:ER K H T σ δ)(P:Post K T σ δ H x δ1 v H1):ER K H1 T σ δ1/\Rep K H1 (fun a=>OwnA σ δ1 a\/T a) x.1 v:=by
 obtain⟨d,b⟩:=x
 cases b with
 |false=>exact P.2
 |true=>
  obtain⟨p,rfl,hp,E1,o1⟩:=P.2;refine⟨E1.mono (fun _ _ e _=>e) (fun b _ z=> .inl z) (fun a z=>E1.dom a (.inl z)),o1.rep (fun z=>?_) fun b _ z=>z.elim .inl fun z=> .inr (.inl z)⟩;rcases z with z|z
  ·exact E1.nT p z (.inr rfl)
  ·exact E.dom p z hp
theorem Post.val(k:Keep σ δ H δ2 H2)(E:ER K H2 T σ δ2){d:D}{w:V}(r:Rep K H2 (fun a=>OwnA σ δ2 a\/T a) d w):Post K T σ δ H (d,false) δ2 w H2:=⟨k,E,r⟩
end
theorem gX{α β:Type}{a a':α}{b b':β}(h:some (a,b)=some (a',b')):a=a'/\b=b':=by cases h;exact⟨rfl,rfl⟩
noncomputable def fC(d:D):F:=fun δ=>some ((d,false),δ)
noncomputable def ig(i:Nat):F:=fun δ=>match δ[i]? with
 |some (some (d,_))=>some ((d,false),δ.set i (some (d,false)))
 |_=>none
section
variable {X:Cx}{a b c:gM}{pos:Pos}{fa fb fc:F}
theorem PX.imp{e:gM}{t:TE}{f:F}(h:PE X e t)(k: ∀σ H Q,tF X.K f σ H Q->t σ H Q):PX X e f:=fun pins s σ H Q I hw=>h pins s σ H Q I (k σ H Q hw)
theorem N4{i j}:PX X (.Constant (.int i) j pos) (fC (.int i)):=PX.imp Ox fun σ H Q h=>by
 obtain⟨δ,T,r,δ',E,e,k⟩:=h;cases e;exact k _ _ (Post.val .refl E (by first|exact Rep.mkInt|exact Rep.mkBl|exact Rep.mkNon|exact Rep.mkStr))
theorem Qf{i j}:PX X (.Constant (.bool i) j pos) (fC (.bl i)):=PX.imp Qk fun σ H Q h=>by
 obtain⟨δ,T,r,δ',E,e,k⟩:=h;cases e;exact k _ _ (Post.val .refl E (by first|exact Rep.mkInt|exact Rep.mkBl|exact Rep.mkNon|exact Rep.mkStr))
theorem NZ{j}:PX X (.Constant .none j pos) (fC .non):=PX.imp Ov fun σ H Q h=>by
 obtain⟨δ,T,r,δ',E,e,k⟩:=h;cases e;exact k _ _ (Post.val .refl E (by first|exact Rep.mkInt|exact Rep.mkBl|exact Rep.mkNon|exact Rep.mkStr))
theorem NT{i j}:PX X (.Constant (.str i) j pos) (fC (.str i)):=PX.imp Oq fun σ H Q h=>by
 obtain⟨δ,T,r,δ',E,e,k⟩:=h;cases e;exact k _ _ (Post.val .refl E (by first|exact Rep.mkInt|exact Rep.mkBl|exact Rep.mkNon|exact Rep.mkStr))
theorem NR{i:Nat}{x:Str}(hN:X.N[i]?=some x)(hv:Vis X.env.scope x)(hd:(x==("__debug__":Str))=false)(y7:(x==("__classdict__":Str))=false):PX X (.Name x pos) (ig i):=PX.imp (EO hN hv hd y7) fun σ H Q h=>by
 obtain⟨δ,T,r,δ',E,e,k⟩:=h;unfold ig at e
 cases hi:δ[i]? with
 |none=>rw[hi] at e;cases e
 |some o=>
  cases o with
  |none=>rw[hi] at e;cases e
  |some p=>
   obtain⟨d,b⟩:=p;rw[hi] at e;cases e;obtain⟨E1,v,h1,h2⟩:=E.freeze hi;exact⟨v,h1,k v H (Post.val .set E1 h2)⟩
end
inductive Opd where
 |val(r:D×Bool)|slot(i:Nat)
noncomputable def res(δ:Dn):Opd->Option D
 | .val r=>some r.1
 | .slot i=>match δ[i]? with
  |some (some (d,_))=>some d
  |_=>none
def jh(K:hC)(H:Hp)(O:AP')(d:D)(v:V):Prop:=Rep K H O d v\/ ∃a,v= .ref a/\OwnOk K H O d a
abbrev FO:=Dn->Option (Opd×Dn)
def PostO(K:hC)(T:AP')(σ:L2.St)(δ:Dn)(H:Hp)(o:Opd)(δ':Dn)(v:V)(H':Hp):Prop:=
 match o with
 | .val r=>Post K T σ δ H r δ' v H'
 | .slot i=>Keep σ δ H δ' H'/\ER K H' T σ δ'/\σ[i]?=some (some v)
noncomputable def wC(T:AP')(o:Opd)(v:V):AP':=match o with
 | .val r=>Tmp T r v
 | .slot _=>T
def tO(K:hC)(f:FO):TE:=fun σ H Q=> ∃δ T o δ',ER K H T σ δ/\f δ=some (o,δ')/\ ∀v H',PostO K T σ δ H o δ' v H'->Q v H'
def PO(X:Cx)(e:gM)(f:FO):Prop:=PE X e (tO X.K f)
noncomputable def gp(f:F):FO:=fun δ=>(f δ).bind fun p=>some (.val p.1,p.2)
noncomputable def gq(i:Nat):FO:=fun δ=>match δ[i]? with
 |some (some _)=>some (.slot i,δ)
 |_=>none
theorem PE.imp'{X:Cx}{e:gM}{t t':TE}(h:PE X e t)(k: ∀σ H Q,t' σ H Q->t σ H Q):PE X e t':=fun pins s σ H Q I hw=>h pins s σ H Q I (k σ H Q hw)
section
variable {X:Cx}{pos:Pos}
theorem PX.po{e:gM}{f:F}(h:PX X e f):PO X e (gp f):=PE.imp' h fun σ H Q hw=>by
 obtain⟨δ,T,o,δ',E,e,k⟩:=hw;unfold gp at e
 cases h1:f δ with
 |none=>rw[h1] at e;cases e
 |some p=>
  obtain⟨r,δ1⟩:=p;rw[h1] at e;obtain⟨rfl,rfl⟩:=gX e;exact⟨δ,T,r,δ1,E,h1,fun v H' P=>k v H' P⟩
theorem Oi{i:Nat}{x:Str}(hN:X.N[i]?=some x)(hv:Vis X.env.scope x)(hd:(x==("__debug__":Str))=false)(y7:(x==("__classdict__":Str))=false):PO X (.Name x pos) (gq i):=PE.imp' (EO hN hv hd y7) fun σ H Q h=>by
 obtain⟨δ,T,o,δ',E,e,k⟩:=h;unfold gq at e
 cases hi:δ[i]? with
 |none=>rw[hi] at e;cases e
 |some q=>
  cases q with
  |none=>rw[hi] at e;cases e
  |some p=>
   obtain⟨d,b⟩:=p;rw[hi] at e;obtain⟨rfl,rfl⟩:=gX e;obtain⟨E1,v,h1,h2⟩:=E.freeze hi;exact⟨v,h1,k v H ⟨.refl,E,h1⟩⟩
end
structure Ops(K:hC)(T:AP')(σ:L2.St)(δ:Dn)(H:Hp)(os:List Opd)(vs:List V)(δ':Dn)(H':Hp)(T':AP'):Prop where
 len:os.length=vs.length
 keep:Keep σ δ H δ' H'
 er:ER K H' T' σ δ'
 tt: ∀a,T a->T' a
 val: ∀(j:Nat) (d:D) (v:V),os[j]?=some (.val (d,false))->vs[j]?=some v->Rep K H' (fun a=>OwnA σ δ' a\/T a) d v
 tmp: ∀(j:Nat) (d:D) (v:V),os[j]?=some (.val (d,true))->vs[j]?=some v-> ∃p,v= .ref p/\T' p/\H p=none/\OwnOk K H' (fun a=>OwnA σ δ' a\/T a) d p
 slt: ∀(j i:Nat) (v:V),os[j]?=some (.slot i)->vs[j]?=some v->σ[i]?=some (some v)
section
variable {K:hC}{T T':AP'}{σ:L2.St}{δ δ' δ2:Dn}{H H' H2:Hp}{os:List Opd}{vs:List V}{o:Opd}{v:V}
theorem Ops.nil(E:ER K H T σ δ):Ops K T σ δ H [] [] δ H T:=⟨rfl,.refl,E,fun _ z=>z,fun j d v h=>by simp at h,fun j d v h=>by simp at h,fun j i v h=>by simp at h⟩
theorem PostO.keep(P:PostO K T σ δ H o δ' v H'):Keep σ δ H δ' H':=by
 cases o with
 |val r=>exact P.1
 |slot i=>exact P.1
theorem PostO.er(E:ER K H T σ δ)(P:PostO K T σ δ H o δ' v H'):ER K H' (wC T o v) σ δ':=by
 cases o with
 |val r=>exact Post.er E P
 |slot i=>exact P.2.1
end
def Gen(K:hC)(H:Hp)(O:AP')(z:D×Bool)(Q:VK):Prop:=
 match z with
 |(d,false)=> ∀w H',(∀a o,H a=some o->H' a=some o)->Rep K H' O d w->Q w H'
 |(d,true)=> ∀p H',H p=none->(∀a o,H a=some o->H' a=some o)->OwnOk K H' (fun a=>O a\/a=p) d p->Q (.ref p) H'
section
variable {K:hC}{T T':AP'}{σ:L2.St}{δ δ1 δ' δ2:Dn}{H H1 H' H2:Hp}{os:List Opd}{vs:List V}{o:Opd}{v:V}{z:D×Bool}{Q:VK}
theorem Ops.cons(E:ER K H T σ δ)(P:PostO K T σ δ H o δ1 v H1)(B:Ops K (wC T o v) σ δ1 H1 os vs δ2 H2 T'):Ops K T σ δ H (o::os) (v::vs) δ2 H2 T':=by
 have E1:=P.er E;have p1:=B.keep.kp;have p2:=B.keep.ow
 have fj: ∀a,T a->wC T o v a:=fun a z=>by
  cases o with
  |val r=>exact .inl z
  |slot i=>exact z
 refine⟨by simp[B.len],P.keep.trans B.keep,B.er,fun a z=>B.tt a (fj a z),fun j d w h1 h2=>?_,fun j d w h1 h2=>?_,fun j i w h1 h2=>?_⟩
 ·cases j with
  |zero=>
   simp at h1 h2;subst h1;subst h2;have P':Post K T σ δ H (d,false) δ1 v H1:=P;exact Rep.mono (fun b ob e n=>p1 b ob e fun z=>n (.inl z)) (fun b _ z=>z.elim (fun z=>Or.inl (p2 b z)) Or.inr) (P'.rep E).2
  |succ j=>exact Rep.mono (fun _ _ e _=>e) (fun b _ z=>z.elim Or.inl fun z=>Or.inr (fj b z)) (B.val j d w (by simpa using h1) (by simpa using h2))
 ·cases j with
  |zero=>
   simp at h1 h2;subst h1;subst h2;have P':Post K T σ δ H (d,true) δ1 v H1:=P;obtain⟨p,rfl,hp,E3,ok⟩:=P'.2;have tp:wC T (.val (d,true)) (V.ref p) p:= .inr ⟨rfl,rfl⟩;refine⟨p,rfl,B.tt p tp,hp,ok.mono (fun b ob e n=>p1 b ob e fun z=>n (.inl z)) (fun b _ z=>z.elim (fun z=>Or.inl (p2 b z)) fun z=>Or.inr (Or.inl z)) fun ob e=>p1 p ob e fun z=>E1.nT p z tp⟩
  |succ j=>
   obtain⟨p,rfl,tp,hp,ok⟩:=B.tmp j d w (by simpa using h1) (by simpa using h2);refine⟨p,rfl,tp,?_,ok.mono (fun _ _ e _=>e) (fun b _ z=>z.elim Or.inl fun z=>Or.inr (fj b z)) fun _ e=>e⟩
   cases hH:H p with
   |none=>rfl
   |some ob=>exact absurd hp (P.keep.dm p (by rw[hH];simp))
 ·cases j with
  |zero=>
   simp at h1 h2;subst h1;subst h2;exact P.2.2
  |succ j=>exact B.slt j i w (by simpa using h1) (by simpa using h2)
theorem Ops.view(B:Ops K T σ δ H os vs δ' H' T'){j:Nat}{d:D}(h1:os[j]?=some o)(h2:vs[j]?=some v)(hr:res δ' o=some d):jh K H' (fun a=>OwnA σ δ' a\/T a) d v:=by
 cases o with
 |val r=>
  obtain⟨e,b⟩:=r;have hd:e=d:=iO hr;subst hd
  cases b with
  |false=>exact .inl (B.val j e v h1 h2)
  |true=>
   obtain⟨p,rfl,_,_,ok⟩:=B.tmp j e v h1 h2;exact .inr ⟨p,rfl,ok⟩
 |slot i=>
  have hs:=B.slt j i v h1 h2;unfold res at hr;dsimp only at hr
  cases hi:δ'[i]? with
  |none=>rw[hi] at hr;cases hr
  |some q=>
   cases q with
   |none=>rw[hi] at hr;cases hr
   |some p=>
    obtain⟨e,b⟩:=p;rw[hi] at hr;have hd:e=d:=iO hr;subst hd
    cases b with
    |false=>
     obtain⟨w,h3,h4⟩:=B.er.val i e hi;rw[hs] at h3;cases h3;exact .inl (Rep.mono (fun _ _ e _=>e) (fun b _ z=>z.elim Or.inl fun z=>Or.inr (B.tt b z)) h4)
    |true=>
     obtain⟨a,h3,h4⟩:=B.er.own i e hi;rw[hs] at h3;cases h3;exact .inr ⟨a,rfl,h4.mono (fun _ _ e _=>e) (fun b _ z=>z.elim Or.inl fun z=>Or.inr (B.tt b z)) fun _ e=>e⟩
theorem Ops.done(B:Ops K T σ δ H os vs δ' H' T')(k: ∀v H2,Post K T σ δ H z δ' v H2->Q v H2):Gen K H' (fun a=>OwnA σ δ' a\/T a) z Q:=by
 obtain⟨d,b⟩:=z
 have dom: ∀{H2:Hp},(∀a o,H' a=some o->H2 a=some o)-> ∀a,T a->H2 a≠none:=fun {H2} hx a z=>by
  have:=B.er.dom a (B.tt a z)
  cases h:H' a with
  |none=>exact absurd h this
  |some o=>rw[hx a o h];simp
 cases b with
 |false=>
  intro w H2 hx r;exact k w H2 ⟨B.keep.trans (.ext hx),B.er.mono (fun b o e _=>hx b o e) (fun b _ z=>B.tt b z) (dom hx),r⟩
 |true=>
  intro p H2 hp hx ok
  have hp0:H p=none:=by
   cases hH:H p with
   |none=>rfl
   |some ob=>exact absurd hp (B.keep.dm p (by rw[hH];simp))
  refine k (.ref p) H2 ⟨B.keep.trans (.ext hx),p,rfl,hp0,B.er.mono (fun b o e _=>hx b o e) (fun b hb z=>z.elim (B.tt b) fun z=>absurd (z▸hp) hb) (fun a z=>?_),ok.mono (fun _ _ e _=>e) (fun b _ z=>?_) fun _ e=>e⟩
  ·rcases z with z|z
   ·exact dom hx a z
   ·subst z;exact ok.some
  ·rcases z with z|z|z
   ·exact Or.inl (Or.inl z)
   ·exact Or.inl (Or.inr z)
   ·exact Or.inr z
theorem Gen.int{O:AP'}{i:Int}(g:Gen K H O (.int i,false) Q):Q (.int i) H:=g _ H (fun _ _ e=>e) Rep.mkInt
theorem Gen.bl{O:AP'}{i:Bool}(g:Gen K H O (.bl i,false) Q):Q (.bl i) H:=g _ H (fun _ _ e=>e) Rep.mkBl
theorem kR{H:Hp}{p:gv}{o:HO}(hp:H p=none): ∀a u,H a=some u->upd H p o a=some u:=fun a u e=>by rw[iE (by intro z;subst z;rw[e] at hp;cases hp)];exact e
theorem Gen.lst{O:AP'}{l:List D}{xs:List V}{p:gv}(g:Gen K H O (.lst l,true) Q)(hp:H p=none)(r:RepL K H O l xs):Q (.ref p) (upd H p (.lst xs)):=
 g p _ hp (kR hp) ⟨xs,iC,RepL.mono (fun b o e _=>kR hp b o e) (fun b hb z=>z.elim id fun z=>absurd (z▸hp) hb) r⟩
theorem Gen.tup{O:AP'}{l:List D}{xs:List V}{p:gv}(g:Gen K H O (.tup l,false) Q)(hp:H p=none)(np: ¬O p)(r:RepL K H O l xs):Q (.ref p) (upd H p (.tup xs)):=
 g _ _ (kR hp) (Rep.mkTup ⟨iC,np⟩ (RepL.mono (fun b o e _=>kR hp b o e) (fun b hb z=>z) r))
theorem Ops.np(B:Ops K T σ δ H os vs δ' H' T'){p:gv}(hp:H' p=none): ¬(OwnA σ δ' p\/T p):=fun z=>z.elim (fun z=>B.er.ownDom z hp) fun z=>B.er.dom p (B.tt p z) hp
end
noncomputable def jD(g:D->Option (D×Bool))(fa:FO):F:=fun δ=>(fa δ).bind fun p=>(res p.2 p.1).bind fun x=>(g x).bind fun z=>some (z,p.2)
noncomputable def gB(g:D->D->Option (D×Bool))(fa fb:FO):F:=fun δ=>(fa δ).bind fun p=>(fb p.2).bind fun q=>(res q.2 p.1).bind fun x=>(res q.2 q.1).bind fun y=>(g x y).bind fun z=>some (z,q.2)
noncomputable def je:List FO->Dn->Option (List Opd×Dn)
 |[],δ=>some ([],δ)
 |f::fs,δ=>(f δ).bind fun p=>(je fs p.2).bind fun q=>some (p.1::q.1,q.2)
noncomputable def tw(δ:Dn):List Opd->Option (List D)
 |[]=>some []
 |o::os=>(res δ o).bind fun d=>(tw δ os).bind fun l=>some (d::l)
noncomputable def gO(g:List D->Option (D×Bool))(fs:List FO):F:=fun δ=>(je fs δ).bind fun p=>(tw p.2 p.1).bind fun ds=>(g ds).bind fun z=>some (z,p.2)
def tA(K:hC)(fs:List FO):TA:=fun σ H Q=> ∃δ T os δ',ER K H T σ δ/\je fs δ=some (os,δ')/\ ∀vs H' T',Ops K T σ δ H os vs δ' H' T'->Q vs H'
section
variable {X:Cx}{e a b:gM}{es:jF}{fa fb:FO}{fs:List FO}{pos:Pos}
theorem gu{α β:Type}{x:Option α}{f:α->Option β}{b:β}(h:x.bind f=some b): ∃a,x=some a/\f a=some b:=by
 cases x with
 |none=>cases h
 |some a=>exact⟨a,rfl,h⟩
def S7(K:hC)(r:V->Hp->VK->Prop)(g:D->Option (D×Bool)):Prop:=
 ∀x z v H (O:AP') (Q:VK),(∀p,H p=none-> ¬O p)->jh K H O x v->g x=some z->Gen K H O z Q->r v H Q
def Pn(K:hC)(r:R2)(g:D->D->Option (D×Bool)):Prop:=
 ∀x y z v u H (O:AP') (Q:VK),(∀p,H p=none-> ¬O p)->jh K H O x v->jh K H O y u->g x y=some z->Gen K H O z Q->r v u H Q
def S6(K:hC)(r:List V->Hp->VK->Prop)(g:List D->Option (D×Bool)):Prop:=
 ∀ds z vs H (O:AP') (Q:VK),(∀p,H p=none-> ¬O p)->ds.length=vs.length->(∀(j:Nat) d v,ds[j]?=some d->vs[j]?=some v->jh K H O d v)->g ds=some z->Gen K H O z Q->r vs H Q
theorem NX{r:V->Hp->VK->Prop}{g:D->Option (D×Bool)}(h:PE X e (tUn r (tO X.K fa)))(hr:S7 X.K r g):PX X e (jD g fa):=PX.imp h fun σ H Q hw=>by
 obtain⟨δ,T,rr,δ',E,e,k⟩:=hw;obtain⟨⟨o,δ1⟩,h1,e⟩:=gu e;obtain⟨x,h2,e⟩:=gu e;obtain⟨z,h3,e⟩:=gu e;obtain⟨rfl,rfl⟩:=gX e;refine⟨δ,T,o,δ1,E,h1,fun v H1 P1=>?_⟩;have B:=Ops.cons E P1 (Ops.nil (P1.er E));exact hr x z v H1 _ Q (fun p hp=>B.np hp) (B.view (j:=0) rfl rfl h2) h3 (B.done k)
theorem NW{r:R2}{g:D->D->Option (D×Bool)}(h:PE X e (tOp r (tO X.K fa) (tO X.K fb)))(hr:Pn X.K r g):PX X e (gB g fa fb):=PX.imp h fun σ H Q hw=>by
 obtain⟨δ,T,rr,δ',E,e,k⟩:=hw;obtain⟨⟨o,δ1⟩,h1,e⟩:=gu e;obtain⟨⟨o2,δ2⟩,h2,e⟩:=gu e;obtain⟨x,h3,e⟩:=gu e;obtain⟨y,h4,e⟩:=gu e;obtain⟨z,h5,e⟩:=gu e;obtain⟨rfl,rfl⟩:=gX e;refine⟨δ,T,o,δ1,E,h1,fun v H1 P1=>⟨δ1,wC T o v,o2,δ2,P1.er E,h2,fun u H2 P2=>?_⟩⟩;have B:=Ops.cons E P1 (Ops.cons (P1.er E) P2 (Ops.nil (P2.er (P1.er E))));exact hr x y z v u H2 _ Q (fun p hp=>B.np hp) (B.view (j:=0) rfl rfl h3) (B.view (j:=1) rfl rfl h4) h5 (B.done k)
theorem Br:PA X [] (tA X.K []):=fun pos pins s σ H Q I h=>by
 obtain⟨δ,T,os,δ',E,e,k⟩:=h;obtain⟨rfl,rfl⟩:=gX e;exact tE pos pins s σ H Q I (k [] H T (Ops.nil E))
theorem uy(ha:PO X e fa)(hr:PA X es (tA X.K fs))(hs:starEach (e::es) X.env=(false,eval e X.env)::starEach es X.env):PA X (e::es) (tA X.K (fa::fs)):=fun pos pins s σ H Q I h=>by
 obtain⟨δ,T,os,δ',E,e,k⟩:=h;unfold je at e;obtain⟨⟨o,δ1⟩,h1,e⟩:=gu e;obtain⟨⟨os2,δ2⟩,h2,e⟩:=gu e;obtain⟨rfl,rfl⟩:=gX e;exact oo ha hr hs pos pins s σ H Q I ⟨δ,T,o,δ1,E,h1,fun v H1 P1=>⟨δ1,wC T o v,os2,δ2,P1.er E,h2,fun vs H2 T2 B=>k _ H2 T2 (Ops.cons E P1 B)⟩⟩
theorem mG{δ:Dn}: ∀{os:List Opd} {ds:List D},tw δ os=some ds->ds.length=os.length/\ ∀(j:Nat) d,ds[j]?=some d-> ∃o,os[j]?=some o/\res δ o=some d
 |[],ds,h=>by cases h;exact⟨rfl,fun j d h=>by simp at h⟩
 |o::os,ds,h=>by
  unfold tw at h;obtain⟨d,h1,h⟩:=gu h;obtain⟨l,h2,h⟩:=gu h;cases h;obtain⟨h3,h4⟩:=mG h2;refine⟨by simp[h3],fun j e he=>?_⟩
  cases j with
  |zero=>simp at he;subst he;exact⟨o,rfl,h1⟩
  |succ j=>
   obtain⟨o',q1,q2⟩:=h4 j e (by simpa using he);exact⟨o',by simpa using q1,q2⟩
theorem LR{r:List V->Hp->VK->Prop}{g:List D->Option (D×Bool)}(h:PE X e (tCB r (tA X.K fs)))(hr:S6 X.K r g):PX X e (gO g fs):=PX.imp h fun σ H Q hw=>by
 obtain⟨δ,T,rr,δ',E,e,k⟩:=hw;obtain⟨⟨os,δ1⟩,h1,e⟩:=gu e;obtain⟨ds,h2,e⟩:=gu e;obtain⟨z,h3,e⟩:=gu e;obtain⟨rfl,rfl⟩:=gX e;obtain⟨h4,h5⟩:=mG h2;refine⟨δ,T,os,δ1,E,h1,fun vs H1 T1 B=>?_⟩;refine hr ds z vs H1 _ Q (fun p hp=>B.np hp) (h4.trans B.len) (fun j d v hd hv=>?_) h3 (B.done k);obtain⟨o,ho,cM⟩:=h5 j d hd;exact B.view ho hv cM
end
open PySem.SeqAt
mutual
/-- ==of data -/
noncomputable def D.eqb:D->D->Bool
 | .non,.non=>true
 | .bl a,.bl b=>a==b
 | .bl a,.int b=>(if a then 1 else 0)==b
 | .int a,.bl b=>a==(if b then 1 else 0)
 | .int a,.int b=>a==b
 | .str a,.str b=>a==b
 | .tup l,.tup m=>D.eqbL l m
 | .lst l,.lst m=>D.eqbL l m
 | .oth _ _ _,.oth _ _ _=>true
 |_,_=>false
noncomputable def D.eqbL:List D->List D->Bool
 |[],[]=>true
 |a::l,b::m=>D.eqb a b&&D.eqbL l m
 |_,_=>false
end
mutual
noncomputable def D.dep:D->Nat
 | .tup l=>D.depL l+1
 | .lst l=>D.depL l+1
 | .oth _ _ _=>20000
 |_=>0
noncomputable def D.depL:List D->Nat
 |[]=>0
 |d::l=>max (D.dep d) (D.depL l)
end
mutual
theorem D.eqb_refl: ∀d:D,D.eqb d d=true
 | .non=>rfl
 | .bl a=>by simp[D.eqb]
 | .int a=>by simp[D.eqb]
 | .str a=>by simp[D.eqb]
 | .tup l=>by rw[D.eqb];exact D.eqbL_refl l
 | .lst l=>by rw[D.eqb];exact D.eqbL_refl l
 | .oth _ _ _=>by rw[D.eqb]
theorem D.eqbL_refl: ∀l:List D,D.eqbL l l=true
 |[]=>rfl
 |d::l=>by rw[D.eqbL,D.eqb_refl d,D.eqbL_refl l];rfl
end
theorem D.dep_mem{d:D}: ∀{l:List D} {j:Nat},l[j]?=some d->d.dep<=D.depL l
 |[],j,h=>by simp at h
 |e::l,0,h=>by simp at h;subst h;rw[D.depL];exact Nat.le_max_left _ _
 |e::l,j+1,h=>by rw[D.depL];exact lq (D.dep_mem (by simpa using h)) (Nat.le_max_right _ _)
noncomputable def qN(l m:List D)(j:Nat):Bool:=match l[j]?,m[j]? with
 |some d,some e=>D.eqb d e
 |_,_=>true
theorem mq: ∀l m:List D,((List.range (min l.length m.length)).all (qN l m)&&l.length==m.length)=D.eqbL l m
 |[],[]=>rfl
 |[],e::m=>by simp[D.eqbL]
 |d::l,[]=>by simp[D.eqbL]
 |d::l,e::m=>by
  rw[D.eqbL,<-mq l m];simp only[jO,Nat.succ_min_succ,List.range_succ_eq_map,vn,List.all_map,Function.comp_def];have h0:qN (d::l) (e::m) 0=D.eqb d e:=rfl;have h1:(fun x=>qN (d::l) (e::m) (Nat.succ x))=qN l m:=by funext x;simp[qN]
  rw[h0];simp only[h1,Bool.and_assoc]
  congr 2
  simp
section
variable {X:Cx}{pins:ik}{σ:L2.St}{H:Hp}{s:gA}
theorem lu{O:AP'}{l:List D}{v:V}(h:jh X.K H O (.tup l) v): ∃a xs,v= .ref a/\SqT X.K H a xs/\RepL X.K H O l xs:=by
 rcases h with h|⟨a,rfl,h⟩
 ·obtain⟨a,xs,e,q,r⟩:=h.tup;exact⟨a,xs,e,q.sq,r⟩
 ·exact h.elim
theorem kn{O:AP'}{l:List D}{v:V}(h:jh X.K H O (.lst l) v): ∃a xs,v= .ref a/\SqL X.K H a xs/\RepL X.K H O l xs:=by
 rcases h with h|⟨a,rfl,h⟩
 ·obtain⟨a,xs,e,q,r⟩:=h.lst;exact⟨a,xs,e,q.sq,r⟩
 ·obtain⟨xs,e,r⟩:=h;exact⟨a,xs,rfl,.inl (.inl e),r⟩
theorem RepL.views{O:AP'}{l:List D}{xs:List V}(r:RepL X.K H O l xs){j:Nat}{d:D}{v:V}(h1:l[j]?=some d)(h2:xs[j]?=some v):Rep X.K H O d v:=by
 obtain⟨w,h3,h4⟩:=r.get h1;rw[h2] at h3;cases h3;exact h4
theorem JZ(I:Inv X pins σ H s){a:gv}{us:List V}{k:OK}{ks vs:List D}(h:OthB (H a) k ks vs us): ∃o,s.heap.get? a=some o/\(o.cls= .type "dict"\/o.cls= .type "set"):=by
 cases k with
 |dct=>
  rcases h with⟨kvs,e,_⟩|⟨kvs,e,_⟩
  ·obtain⟨_,_,vs,_,o,es,ep,h1,h2,_⟩:=(show ObjOk X.prog X.w H s.heap a (.dK kvs) from I.hok a _ e)
   exact⟨o,h1,.inl h2.1⟩
  ·obtain⟨_,_,xs,_,o,es,ep,h1,h2,_⟩:=(show ObjOk X.prog X.w H s.heap a (.dT kvs) from I.hok a _ e)
   exact⟨o,h1,.inl h2.1⟩
 |set=>
  obtain⟨_,zs,e,_⟩:=h;obtain⟨es,n,t,h1,_⟩:=(show ObjOk X.prog X.w H s.heap a (.stt zs) from I.hok a _ e)
  exact⟨_,h1,.inr rfl⟩
 |_=>exact h.elim
theorem Cr(I:Inv X pins σ H s){a:gv}{xs ys:List V}(h1:SqT X.K H a xs)(h2:SqL X.K H a ys):False:=by
 obtain⟨b6,_,⟨o,e,c,_⟩,_⟩:=I.tuple h1;obtain⟨c8,_,⟨o2,n2,e2,c2,_⟩,_⟩:=I.list h2;rw[e] at e2;cases e2;rw[c] at c2;exact absurd c2 (by simp)
theorem Ml(I:Inv X pins σ H s){a:gv}{xs us:List V}{k:OK}{ks vs:List D}(h1:SqT X.K H a xs)(h2:OthB (H a) k ks vs us):False:=by
 obtain⟨b6,_,⟨o,e,c,_⟩,_⟩:=I.tuple h1;obtain⟨o2,e2,c2⟩:=JZ I h2;rw[e] at e2;cases e2;rw[c] at c2;rcases c2 with c2|c2<;>exact absurd c2 (by simp)
theorem Mm(I:Inv X pins σ H s){a:gv}{xs us:List V}{k:OK}{ks vs:List D}(h1:SqL X.K H a xs)(h2:OthB (H a) k ks vs us):False:=by
 obtain⟨b6,_,⟨o,n,e,c,_⟩,_⟩:=I.list h1;obtain⟨o2,e2,c2⟩:=JZ I h2;rw[e] at e2;cases e2;rw[c] at c2;rcases c2 with c2|c2<;>exact absurd c2 (by simp)
mutual
theorem Rep.inj(I:Inv X pins σ H s){O O':AP'}: ∀{d e:D} {v:V},d.dep<20000->Rep X.K H O d v->Rep X.K H O' e v->d=e
 | .non,e,v,hz,h,h'=>by
  have:=h.non;subst this
  cases e with
  |non=>rfl
  |bl b=>have:=h'.bl;cases this
  |int b=>have:=h'.int;cases this
  |str b=>have:=h'.str;cases this
  |tup m=>obtain⟨a,xs,z,_⟩:=h'.tup;cases z
  |lst m=>obtain⟨a,xs,z,_⟩:=h'.lst;cases z
  |oth m m1 m2=>obtain⟨a,xs,z,_⟩:=h'.oth;cases z
 | .bl b,e,v,hz,h,h'=>by
  have:=h.bl;subst this
  cases e with
  |non=>have:=h'.non;cases this
  |bl b=>have:=h'.bl;cases this;rfl
  |int b=>have:=h'.int;cases this
  |str b=>have:=h'.str;cases this
  |tup m=>obtain⟨a,xs,z,_⟩:=h'.tup;cases z
  |lst m=>obtain⟨a,xs,z,_⟩:=h'.lst;cases z
  |oth m m1 m2=>obtain⟨a,xs,z,_⟩:=h'.oth;cases z
 | .int b,e,v,hz,h,h'=>by
  have:=h.int;subst this
  cases e with
  |non=>have:=h'.non;cases this
  |bl b=>have:=h'.bl;cases this
  |int b=>have:=h'.int;cases this;rfl
  |str b=>have:=h'.str;cases this
  |tup m=>obtain⟨a,xs,z,_⟩:=h'.tup;cases z
  |lst m=>obtain⟨a,xs,z,_⟩:=h'.lst;cases z
  |oth m m1 m2=>obtain⟨a,xs,z,_⟩:=h'.oth;cases z
 | .str b,e,v,hz,h,h'=>by
  have:=h.str;subst this
  cases e with
  |non=>have:=h'.non;cases this
  |bl b=>have:=h'.bl;cases this
  |int b=>have:=h'.int;cases this
  |str b=>have:=h'.str;cases this;rfl
  |tup m=>obtain⟨a,xs,z,_⟩:=h'.tup;cases z
  |lst m=>obtain⟨a,xs,z,_⟩:=h'.lst;cases z
  |oth m m1 m2=>obtain⟨a,xs,z,_⟩:=h'.oth;cases z
 | .tup l,e,v,hz,h,h'=>by
  rw[D.dep] at hz;obtain⟨a,xs,rfl,q,r⟩:=h.tup
  cases e with
  |non=>have:=h'.non;cases this
  |bl b=>have:=h'.bl;cases this
  |int b=>have:=h'.int;cases this
  |str b=>have:=h'.str;cases this
  |tup m=>
   obtain⟨a2,fg,z,q2,r2⟩:=h'.tup;cases z;have:=I.tuple_inj q.sq q2.sq;subst this;rw[RepL.inj I (by lia) r r2]
  |lst m=>
   obtain⟨a2,fg,z,q2,r2⟩:=h'.lst;cases z;exact(Cr I q.sq q2.sq).elim
  |oth m m1 m2=>
   obtain⟨a2,us2,z,q2,r2⟩:=h'.oth;cases z;exact(Ml I q.sq q2.2).elim
 | .lst l,e,v,hz,h,h'=>by
  rw[D.dep] at hz;obtain⟨a,xs,rfl,q,r⟩:=h.lst
  cases e with
  |non=>have:=h'.non;cases this
  |bl b=>have:=h'.bl;cases this
  |int b=>have:=h'.int;cases this
  |str b=>have:=h'.str;cases this
  |tup m=>
   obtain⟨a2,fg,z,q2,r2⟩:=h'.tup;cases z;exact(Cr I q2.sq q.sq).elim
  |lst m=>
   obtain⟨a2,fg,z,q2,r2⟩:=h'.lst;cases z;have:=I.list_inj q.sq q2.sq;subst this;rw[RepL.inj I (by lia) r r2]
  |oth m m1 m2=>
   obtain⟨a2,us2,z,q2,r2⟩:=h'.oth;cases z;exact(Mm I q.sq q2.2).elim
 | .oth _ _ _,e,v,hz,h,h'=>by rw[D.dep] at hz;lia
theorem RepL.inj(I:Inv X pins σ H s){O O':AP'}: ∀{l m:List D} {vs:List V},D.depL l<20000->RepL X.K H O l vs->RepL X.K H O' m vs->l=m
 |[],m,vs,_,h,h'=>by
  rw[RepL] at h;subst h
  cases m with
  |nil=>rfl
  |cons e m=>rw[RepL] at h';obtain⟨_,_,z,_⟩:=h';cases z
 |d::l,m,vs,hz,h,h'=>by
  rw[D.depL] at hz;rw[RepL] at h;obtain⟨v,r,rfl,h1,h2⟩:=h
  cases m with
  |nil=>rw[RepL] at h';cases h'
  |cons e m=>
   rw[RepL] at h';obtain⟨v',r',z,h3,h4⟩:=h';cases z;rw[Rep.inj I (by lia) h1 h3,RepL.inj I (by lia) h2 h4]
end
theorem uJ{O:AP'}{d:D}{v:V}(h:jh X.K H O d v)(hd:d.dep=0)(nt: ∀l,d≠ .tup l)(nl: ∀l,d≠ .lst l):Rep X.K H O d v:=by
 rcases h with h|⟨a,rfl,h⟩
 ·exact h
 ·cases d with
  |lst l=>exact absurd rfl (nl l)
  |oth _ _ _=>rw[D.dep] at hd;lia
  |_=>exact h.elim
inductive Sh(X:Cx)(H:Hp)(s:gA)(O:AP'):D->V->Value->Prop
 |non:Sh X H s O .non .non .none
 |bl (b:Bool):Sh X H s O (.bl b) (.bl b) (.bool b)
 |int (i:Int) (t:Tok):Sh X H s O (.int i) (.int i) (.int i t)
 |str (x:Str) (t:Tok):Sh X H s O (.str x) (.str x) (.str x t)
 |tup {l:List D} {p:gv} {xs:List V} {b6:iL} (q:SqT X.K H p xs) (r:RepL X.K H O l xs) (v:Vals xs b6) (pl:IsTup s.heap p b6.toArray):Sh X H s O (.tup l) (.ref p) (.ref p)
 |lst {l:List D} {p:gv} {xs:List V} {b6:iL} (q:SqL X.K H p xs) (r:RepL X.K H O l xs) (v:Vals xs b6) (pl:s.heap.IsList p b6.toArray):Sh X H s O (.lst l) (.ref p) (.ref p)
theorem qV(I:Inv X pins σ H s){O:AP'}{d:D}{v:V}{a:gL}(h:jh X.K H O d v)(ra:RelV v a)(hn:d.dep<20000):Sh X H s O d v a:=by
 cases d with
 |oth m m1 m2=>rw[D.dep] at hn;lia
 |tup l=>obtain⟨p,xs,rfl,q,r⟩:=lu h;cases ra;obtain⟨b6,v1,pl,_⟩:=I.tuple q;exact .tup q r v1 pl
 |lst l=>obtain⟨p,xs,rfl,q,r⟩:=kn h;cases ra;obtain⟨b6,v1,pl,_⟩:=I.list q;exact .lst q r v1 pl.isList
 |non=>have:=(uJ h rfl (by simp) (by simp)).non;subst this;cases ra;exact .non
 |bl c=>have:=(uJ h rfl (by simp) (by simp)).bl;subst this;cases ra;exact .bl c
 |int c=>have:=(uJ h rfl (by simp) (by simp)).int;subst this;obtain⟨t,rfl⟩:=ra;exact .int c t
 |str c=>have:=(uJ h rfl (by simp) (by simp)).str;subst this;obtain⟨t,rfl⟩:=ra;exact .str c t
theorem Ad(I:Inv X pins σ H s)(n:Nat)
  (ih: ∀(d e:D) (v u:V) (a b:gL) (O O':AP') (A:gW),jh X.K H O d v->jh X.K H O' e u->RelV v a->RelV u b->d.dep+1<=n->e.dep<20000->A.units+n<cLine+1->EqAt A s a b (D.eqb d e)):
  ∀(d e:D) (v u:V) (a b:gL) (O O':AP') (A:gW),jh X.K H O d v->jh X.K H O' e u->RelV v a->RelV u b->d.dep<=n->e.dep<20000->A.units+n<cLine->EqAt A s a b (D.eqb d e):=by
 intro d e v u a b O O' A hd he ra rb hn u9 hA;have hu:A.units<cLine:=by lia
 have p8:cLine=9900:=rfl
 have items: ∀(l m:List D) (xs ys:List V) (b6 c8:iL) (O1 O2:AP'),D.depL l+1<=n->D.depL m<20000->RepL X.K H O1 l xs->RepL X.K H O2 m ys->Vals xs b6->Vals ys c8->
   ∀j (h1:j<b6.toArray.size) (h2:j<c8.toArray.size),EqAt A.in1 s b6.toArray[j] c8.toArray[j] (qN l m j):=fun l m xs ys b6 c8 O1 O2 hl hm r1 r2 v1 v2 j h1 h2=>by
  have e1:=v1.length;have e2:=v2.length;have e3:=r1.length;have e4:=r2.length;simp only[iw] at h1 h2;have hx:xs[j]?=some xs[j]:=jb (by lia);have hy:ys[j]?=some ys[j]:=jb (by lia);have aA:l[j]?=some l[j]:=jb (by lia);have aS:m[j]?=some m[j]:=jb (by lia);obtain⟨w,w1,w2⟩:=v1.get hx;obtain⟨w',w3,w4⟩:=v2.get hy
  have i1:b6.toArray[j]=w:=by
   have:b6[j]?=some b6[j]:=jb (by lia);rw[this] at w1;simpa using w1
  have i2:c8.toArray[j]=w':=by
   have:c8[j]?=some c8[j]:=jb (by lia);rw[this] at w3;simpa using w3
  rw[i1,i2];have hj:qN l m j=D.eqb l[j] m[j]:=by unfold qN;rw[aA,aS]
  rw[hj];have aL:=D.dep_mem aA;have hdep2:=D.dep_mem aS;exact ih _ _ _ _ _ _ O1 O2 A.in1 (.inl (r1.views aA hx)) (.inl (r2.views aS hy)) w2 w4 (by lia) (by lia) (by show A.units+1+n<cLine+1;lia)
 have h1:=qV I hd ra (by lia);have h2:=qV I he rb u9
 cases h1 with
 |non=>
  cases h2 with
  |non=>exact lg ra rb rfl rfl
  |bl c2=>exact lg ra rb rfl rfl
  |int c2 t2=>exact lg ra rb rfl rfl
  |str c2 t2=>exact lg ra rb rfl rfl
  |tup q2 r2 v2 e9=>exact EqAt.none_tuple e9 hu
  |lst q2 r2 v2 e9=>exact EqAt.none_list e9 hu
 |bl c1=>
  cases h2 with
  |non=>exact lg ra rb rfl rfl
  |bl c2=>exact lg ra rb rfl rfl
  |int c2 t2=>exact lg ra rb rfl rfl
  |str c2 t2=>exact lg ra rb rfl rfl
  |tup q2 r2 v2 e9=>exact EqAt.bool_tuple c1 e9 hu
  |lst q2 r2 v2 e9=>exact EqAt.bool_list c1 e9 hu
 |int c1 t1=>
  cases h2 with
  |non=>exact lg ra rb rfl rfl
  |bl c2=>exact lg ra rb rfl rfl
  |int c2 t2=>exact lg ra rb rfl rfl
  |str c2 t2=>exact lg ra rb rfl rfl
  |tup q2 r2 v2 e9=>exact EqAt.int_tuple c1 t1 e9 hu
  |lst q2 r2 v2 e9=>exact EqAt.int_list c1 t1 e9 hu
 |str c1 t1=>
  cases h2 with
  |non=>exact lg ra rb rfl rfl
  |bl c2=>exact lg ra rb rfl rfl
  |int c2 t2=>exact lg ra rb rfl rfl
  |str c2 t2=>exact lg ra rb rfl rfl
  |tup q2 r2 v2 e9=>exact EqAt.str_tuple c1 t1 e9 hu
  |lst q2 r2 v2 e9=>exact EqAt.str_list c1 t1 e9 hu
 | @tup l p xs b6 q r v1 pl=>
  cases h2 with
  |non=>exact EqAt.tuple_none pl hu
  |bl c2=>exact EqAt.tuple_bool c2 pl hu
  |int c2 t2=>exact EqAt.tuple_int c2 t2 pl hu
  |str c2 t2=>exact EqAt.tuple_str c2 t2 pl hu
  | @tup m p2 ys c8 q2 r2 v2 e9=>
   by_cases hp:p=p2
   ·subst hp;have:=I.tuple_inj q q2;subst this;rw[RepL.inj I (by rw[D.dep] at hn;lia) r r2,D.eqb_refl];exact EqAt.same _
   ·refine .of_refs hp ?_;have hl:D.depL l+1<=n:=by rw[D.dep] at hn;exact hn
    have hm:D.depL m<20000:=by rw[D.dep] at u9;lia
    have z:=RcAt.tuples pl e9 hu (items l m xs ys b6 c8 _ _ hl hm r r2 v1 v2);have e1:=v1.length;have e2:=v2.length;have e3:=r.length;have e4:=r2.length;simp only[iw] at z;rw[show b6.length=l.length by lia,show c8.length=m.length by lia,mq] at z;rw[D.eqb];exact z
  |lst q2 r2 v2 e9=>exact EqAt.tuple_list pl e9 hu
 | @lst l p xs b6 q r v1 pl=>
  cases h2 with
  |non=>exact EqAt.list_none pl hu
  |bl c2=>exact EqAt.list_bool c2 pl hu
  |int c2 t2=>exact EqAt.list_int c2 t2 pl hu
  |str c2 t2=>exact EqAt.list_str c2 t2 pl hu
  |tup q2 r2 v2 e9=>exact EqAt.list_tuple pl e9 hu
  | @lst m p2 ys c8 q2 r2 v2 e9=>
   by_cases hp:p=p2
   ·subst hp;have:=I.list_inj q q2;subst this;rw[RepL.inj I (by rw[D.dep] at hn;lia) r r2,D.eqb_refl];exact EqAt.same _
   ·refine .of_refs hp ?_;have hl:D.depL l+1<=n:=by rw[D.dep] at hn;exact hn
    have hm:D.depL m<20000:=by rw[D.dep] at u9;lia
    have e1:=v1.length;have e2:=v2.length;have e3:=r.length;have e4:=r2.length;have al:=mq l m;by_cases hlen:l.length=m.length
    ·have z:=RcAt.lists pl e9 (by simp only[iw];lia) hu (items l m xs ys b6 c8 _ _ hl hm r r2 v1 v2);simp only[iw] at z;rw[show b6.length=min l.length m.length by lia] at z;rw[D.eqb,<-al,hlen];rw[hlen] at z;simpa using z
    ·have z:=RcAt.lists_lengths pl e9 (by simp only[iw,bne_iff_ne,ne_eq];lia) hu;rw[D.eqb,<-al];rw[show(l.length==m.length)=false by simpa using hlen];simpa using z
theorem yq(I:Inv X pins σ H s): ∀(n:Nat) (d e:D) (v u:V) (a b:gL) (O O':AP') (A:gW),jh X.K H O d v->jh X.K H O' e u->RelV v a->RelV u b->d.dep<=n->e.dep<20000->A.units+n<cLine->EqAt A s a b (D.eqb d e):=by
 intro n
 induction n with
 |zero=>
  intro d e v u a b O O' A hd he ra rb hn u9 hA;exact Ad I 0 (fun d e v u a b O O' A hd he ra rb hn u9 hA=>absurd hn (by lia)) d e v u a b O O' A hd he ra rb hn u9 hA
 |succ n ih=>
  intro d e v u a b O O' A hd he ra rb hn u9 hA;exact Ad I (n+1) (fun d e v u a b O O' A hd he ra rb hn u9 hA=>ih d e v u a b O O' A hd he ra rb (by lia) u9 (by lia)) d e v u a b O O' A hd he ra rb hn u9 hA
end
section
variable {X:Cx}{pins:ik}{σ:L2.St}{H:Hp}{s:gA}
theorem De(I:Inv X pins σ H s){A:gW}{n:Nat}(hA:A.units+n<cLine): ∀(l m:List D) (xs ys:List V) (b6 c8:iL) (O1 O2:AP'),D.depL l+1<=n->D.depL m<20000->RepL X.K H O1 l xs->RepL X.K H O2 m ys->Vals xs b6->Vals ys c8->
   ∀j (h1:j<b6.toArray.size) (h2:j<c8.toArray.size),EqAt A.in1 s b6.toArray[j] c8.toArray[j] (qN l m j):=fun l m xs ys b6 c8 O1 O2 hl hm r1 r2 v1 v2 j h1 h2=>by
 have e1:=v1.length;have e2:=v2.length;have e3:=r1.length;have e4:=r2.length;simp only[iw] at h1 h2;have hx:xs[j]?=some xs[j]:=jb (by lia);have hy:ys[j]?=some ys[j]:=jb (by lia);have aA:l[j]?=some l[j]:=jb (by lia);have aS:m[j]?=some m[j]:=jb (by lia);obtain⟨w,w1,w2⟩:=v1.get hx;obtain⟨w',w3,w4⟩:=v2.get hy
 have i1:b6.toArray[j]=w:=by
  have:b6[j]?=some b6[j]:=jb (by lia);rw[this] at w1;simpa using w1
 have i2:c8.toArray[j]=w':=by
  have:c8[j]?=some c8[j]:=jb (by lia);rw[this] at w3;simpa using w3
 rw[i1,i2];have hj:qN l m j=D.eqb l[j] m[j]:=by unfold qN;rw[aA,aS]
 rw[hj];have aL:=D.dep_mem aA;have hdep2:=D.dep_mem aS;exact yq I (n-1) _ _ _ _ _ _ O1 O2 A.in1 (.inl (r1.views aA hx)) (.inl (r2.views aS hy)) w2 w4 (by lia) (by lia) (by show A.units+1+(n-1)<cLine;lia)
theorem NO(I:Inv X pins σ H s){n:Nat}{d e:D}{v u:V}{a b:gL}{O O':AP'}{A:gW}(hd:jh X.K H O d v)(he:jh X.K H O' e u)(ra:RelV v a)(rb:RelV u b)(hn:d.dep<=n)(u9:e.dep<20000)(hA:A.units+n<cLine):RcAt A s a b (D.eqb d e):=by
 have hu:A.units<cLine:=by lia
 have items:=De I hA;have p8:cLine=9900:=rfl;have h1:=qV I hd ra (by lia);have h2:=qV I he rb u9
 cases h1 with
 |non=>
  cases h2 with
  |non=>exact RcAt.none_none
  |bl c2=>exact RcAt.none_bool c2
  |int c2 t2=>exact RcAt.none_int c2 t2
  |str c2 t2=>exact RcAt.none_str c2 t2
  |tup q2 r2 v2 e9=>exact RcAt.none_tuple e9 hu
  |lst q2 r2 v2 e9=>exact RcAt.none_list e9 hu
 |bl c1=>
  cases h2 with
  |non=>exact RcAt.bool_none c1
  |bl c2=>exact RcAt.bool_bool c1 c2
  |int c2 t2=>exact RcAt.bool_int c1 c2 t2
  |str c2 t2=>exact RcAt.bool_str c1 c2 t2
  |tup q2 r2 v2 e9=>exact RcAt.bool_tuple c1 e9 hu
  |lst q2 r2 v2 e9=>exact RcAt.bool_list c1 e9 hu
 |int c1 t1=>
  cases h2 with
  |non=>exact RcAt.int_none c1 t1
  |bl c2=>exact RcAt.int_bool c1 t1 c2
  |int c2 t2=>exact RcAt.int_int c1 t1 c2 t2
  |str c2 t2=>exact RcAt.int_str c1 t1 c2 t2
  |tup q2 r2 v2 e9=>exact RcAt.int_tuple c1 t1 e9 hu
  |lst q2 r2 v2 e9=>exact RcAt.int_list c1 t1 e9 hu
 |str c1 t1=>
  cases h2 with
  |non=>exact RcAt.str_none c1 t1
  |bl c2=>exact RcAt.str_bool c1 t1 c2
  |int c2 t2=>exact RcAt.str_int c1 t1 c2 t2
  |str c2 t2=>exact RcAt.str_str c1 t1 c2 t2
  |tup q2 r2 v2 e9=>exact RcAt.str_tuple c1 t1 e9 hu
  |lst q2 r2 v2 e9=>exact RcAt.str_list c1 t1 e9 hu
 | @tup l p xs b6 q r v1 pl=>
  cases h2 with
  |non=>exact RcAt.tuple_none pl hu
  |bl c2=>exact RcAt.tuple_bool c2 pl hu
  |int c2 t2=>exact RcAt.tuple_int c2 t2 pl hu
  |str c2 t2=>exact RcAt.tuple_str c2 t2 pl hu
  | @tup m p2 ys c8 q2 r2 v2 e9=>
   have hl:D.depL l+1<=n:=by rw[D.dep] at hn;exact hn
   have hm:D.depL m<20000:=by rw[D.dep] at u9;lia
   have e1:=v1.length;have e2:=v2.length;have e3:=r.length;have e4:=r2.length;have z:=RcAt.tuples pl e9 hu (items l m xs ys b6 c8 _ _ hl hm r r2 v1 v2);simp only[iw] at z;rw[show b6.length=l.length by lia,show c8.length=m.length by lia,mq] at z;rw[D.eqb];exact z
  |lst q2 r2 v2 e9=>exact RcAt.tuple_list pl e9 hu
 | @lst l p xs b6 q r v1 pl=>
  cases h2 with
  |non=>exact RcAt.list_none pl hu
  |bl c2=>exact RcAt.list_bool c2 pl hu
  |int c2 t2=>exact RcAt.list_int c2 t2 pl hu
  |str c2 t2=>exact RcAt.list_str c2 t2 pl hu
  |tup q2 r2 v2 e9=>exact RcAt.list_tuple pl e9 hu
  | @lst m p2 ys c8 q2 r2 v2 e9=>
   have hl:D.depL l+1<=n:=by rw[D.dep] at hn;exact hn
   have hm:D.depL m<20000:=by rw[D.dep] at u9;lia
   have e1:=v1.length;have e2:=v2.length;have e3:=r.length;have e4:=r2.length;have al:=mq l m;by_cases hlen:l.length=m.length
   ·have z:=RcAt.lists pl e9 (by simp only[iw];lia) hu (items l m xs ys b6 c8 _ _ hl hm r r2 v1 v2);simp only[iw] at z;rw[show b6.length=min l.length m.length by lia] at z;rw[D.eqb,<-al,hlen];rw[hlen] at z;simpa using z
   ·have z:=RcAt.lists_lengths pl e9 (by simp only[iw,bne_iff_ne,ne_eq];lia) hu;rw[D.eqb,<-al];rw[show(l.length==m.length)=false by simpa using hlen];simpa using z
theorem Jr(I:Inv X pins σ H s){n:Nat}{d e:D}{v u:V}{a b:gL}{O O':AP'}{A:gW}(hd:jh X.K H O d v)(he:jh X.K H O' e u)(ra:RelV v a)(rb:RelV u b)(hn:d.dep<=n)(u9:e.dep<20000)(hA:A.units+n<cLine):RcNeAt A s a b (!D.eqb d e):=by
 have hu:A.units<cLine:=by lia
 have items:=De I hA;have p8:cLine=9900:=rfl;have h1:=qV I hd ra (by lia);have h2:=qV I he rb u9
 cases h1 with
 |non=>
  cases h2 with
  |non=>exact RcNeAt.none_none
  |bl c2=>exact RcNeAt.none_bool c2
  |int c2 t2=>exact RcNeAt.none_int c2 t2
  |str c2 t2=>exact RcNeAt.none_str c2 t2
  |tup q2 r2 v2 e9=>exact RcNeAt.none_tuple e9 hu
  |lst q2 r2 v2 e9=>exact RcNeAt.none_list e9 hu
 |bl c1=>
  cases h2 with
  |non=>exact RcNeAt.bool_none c1
  |bl c2=>exact RcNeAt.bool_bool c1 c2
  |int c2 t2=>exact RcNeAt.bool_int c1 c2 t2
  |str c2 t2=>exact RcNeAt.bool_str c1 c2 t2
  |tup q2 r2 v2 e9=>exact RcNeAt.bool_tuple c1 e9 hu
  |lst q2 r2 v2 e9=>exact RcNeAt.bool_list c1 e9 hu
 |int c1 t1=>
  cases h2 with
  |non=>exact RcNeAt.int_none c1 t1
  |bl c2=>exact RcNeAt.int_bool c1 t1 c2
  |int c2 t2=>exact RcNeAt.int_int c1 t1 c2 t2
  |str c2 t2=>exact RcNeAt.int_str c1 t1 c2 t2
  |tup q2 r2 v2 e9=>exact RcNeAt.int_tuple c1 t1 e9 hu
  |lst q2 r2 v2 e9=>exact RcNeAt.int_list c1 t1 e9 hu
 |str c1 t1=>
  cases h2 with
  |non=>exact RcNeAt.str_none c1 t1
  |bl c2=>exact RcNeAt.str_bool c1 t1 c2
  |int c2 t2=>exact RcNeAt.str_int c1 t1 c2 t2
  |str c2 t2=>exact RcNeAt.str_str c1 t1 c2 t2
  |tup q2 r2 v2 e9=>exact RcNeAt.str_tuple c1 t1 e9 hu
  |lst q2 r2 v2 e9=>exact RcNeAt.str_list c1 t1 e9 hu
 | @tup l p xs b6 q r v1 pl=>
  cases h2 with
  |non=>exact RcNeAt.tuple_none pl hu
  |bl c2=>exact RcNeAt.tuple_bool c2 pl hu
  |int c2 t2=>exact RcNeAt.tuple_int c2 t2 pl hu
  |str c2 t2=>exact RcNeAt.tuple_str c2 t2 pl hu
  | @tup m p2 ys c8 q2 r2 v2 e9=>
   have hl:D.depL l+1<=n:=by rw[D.dep] at hn;exact hn
   have hm:D.depL m<20000:=by rw[D.dep] at u9;lia
   have e1:=v1.length;have e2:=v2.length;have e3:=r.length;have e4:=r2.length;have z:=RcNeAt.tuples pl e9 hu (items l m xs ys b6 c8 _ _ hl hm r r2 v1 v2);simp only[iw] at z;rw[show b6.length=l.length by lia,show c8.length=m.length by lia,mq] at z;rw[D.eqb];exact z
  |lst q2 r2 v2 e9=>exact RcNeAt.tuple_list pl e9 hu
 | @lst l p xs b6 q r v1 pl=>
  cases h2 with
  |non=>exact RcNeAt.list_none pl hu
  |bl c2=>exact RcNeAt.list_bool c2 pl hu
  |int c2 t2=>exact RcNeAt.list_int c2 t2 pl hu
  |str c2 t2=>exact RcNeAt.list_str c2 t2 pl hu
  |tup q2 r2 v2 e9=>exact RcNeAt.list_tuple pl e9 hu
  | @lst m p2 ys c8 q2 r2 v2 e9=>
   have hl:D.depL l+1<=n:=by rw[D.dep] at hn;exact hn
   have hm:D.depL m<20000:=by rw[D.dep] at u9;lia
   have e1:=v1.length;have e2:=v2.length;have e3:=r.length;have e4:=r2.length;have al:=mq l m;by_cases hlen:l.length=m.length
   ·have z:=RcNeAt.lists pl e9 (by simp only[iw];lia) hu (items l m xs ys b6 c8 _ _ hl hm r r2 v1 v2);simp only[iw] at z;rw[show b6.length=min l.length m.length by lia] at z;rw[D.eqb,<-al,hlen];rw[hlen] at z;simpa using z
   ·have z:=RcNeAt.lists_lengths pl e9 (by simp only[iw,bne_iff_ne,ne_eq];lia) hu;rw[D.eqb,<-al];rw[show(l.length==m.length)=false by simpa using hlen];simpa using z
theorem OF(hu:X.A.units+60<cLine):OpR X (compareOp .Eq) (fun x y H Q=> ∃O d e,jh X.K H O d x/\jh X.K H O e y/\(d.dep<=50/\e.dep<=50)/\Q (.bl (D.eqb d e)) H):=by
 intro pins s σ H x y v u Q I rx ry h;obtain⟨O,d,e,h1,h2,h3,q⟩:=h;exact NO (A:=X.A) I h1 h2 rx ry h3.1 (by lia) (by lia) _ _ _ _ ⟨.bl _,H,I,rfl,q⟩
theorem OC(hu:X.A.units+60<cLine):OpR X (compareOp .NotEq) (fun x y H Q=> ∃O d e,jh X.K H O d x/\jh X.K H O e y/\(d.dep<=50/\e.dep<=50)/\Q (.bl (!D.eqb d e)) H):=by
 intro pins s σ H x y v u Q I rx ry h;obtain⟨O,d,e,h1,h2,h3,q⟩:=h;exact Jr (A:=X.A) I h1 h2 rx ry h3.1 (by lia) (by lia) _ _ _ _ ⟨.bl _,H,I,rfl,q⟩
end
theorem iu{α:Type}{c:Prop}[Decidable c]{a b:α}(h:(if c then some a else none)=some b):c/\a=b:=by
 split at h
 ·rename_i hc;exact⟨hc,iO h⟩
 ·cases h
section
variable {X:Cx}{pins:ik}{σ:L2.St}{H:Hp}{s:gA}
theorem Ku(I:Inv X pins σ H s){A:gW}{l:List D}{xs:List V}{b6:iL}{O O':AP'}{dx:D}{vx:V}{x:gL}(r:RepL X.K H O l xs)(v:Vals xs b6)(hx:jh X.K H O' dx vx)(rx:RelV vx x)(hn:D.depL l<=50)(hxn:dx.dep<=50)(hA:A.units+60<cLine):
  ∃e:Value->Bool,(∀y∈b6,EqAt A.in1 s y x (e y))/\b6.any e=l.any fun d=>D.eqb d dx:=by
 let e:Value->Bool:=fun y=>match(b6.zip l).find? (fun p=>p.1==y) with
  |some p=>D.eqb p.2 dx
  |none=>false
 have e1:=v.length;have e3:=r.length
 have key: ∀(j:Nat) (hj:j<b6.length) (hl:j<l.length),e b6[j]=D.eqb l[j] dx:=fun j hj hl=>by
  show(match(b6.zip l).find? (fun p=>p.1==b6[j]) with|some p=>D.eqb p.2 dx|none=>false)=_
  cases hf:(b6.zip l).find? (fun p=>p.1==b6[j]) with
  |none=>
   have:=List.find?_eq_none.mp hf (b6[j],l[j]) (by
    have:(b6.zip l)[j]?=some (b6[j],l[j]):=by simp[DD,jb hj,jb hl]
    exact mV this)
   simp at this
  |some p=>
   have hp:=List.find?_some hf;have hm:=List.mem_of_find?_eq_some hf;obtain⟨i,hi⟩:=ue hm;obtain⟨p1,p2⟩:=p;rw[DD] at hi;have cO:p1=b6[j]:=qx hp;obtain⟨h1,h2⟩:=hi;have aR:i<xs.length:=by have:=(uY.mp h1).1;lia
   obtain⟨w,w1,w2⟩:=v.get (jb aR);have dk:j<xs.length:=by lia
   obtain⟨w',w3,w4⟩:=v.get (jb dk);rw[h1] at w1;cases w1;rw[jb hj] at w3;cases w3;subst cO;have hv:=w2.inj w4;have a1:=r.views h2 (jb aR);have a2:=r.views (jb hl) (jb dk);rw[hv] at a1;have fX:=D.dep_mem h2;have:=Rep.inj I (by lia) a1 a2;exact rW (fun z=>D.eqb z dx) this
 refine⟨e,fun y hy=>?_,?_⟩
 ·obtain⟨j,hj⟩:=ue hy;have hj1:=(uY.mp hj).1;have dk:=(uY.mp hj).2;have hl:j<l.length:=by lia
  have eL:j<xs.length:=by lia
  obtain⟨w,w1,w2⟩:=v.get (jb eL);rw[hj] at w1;cases w1;have hk:=key j hj1 hl;rw[dk] at hk;rw[hk];have hd:=D.dep_mem (jb hl);exact yq I 50 _ _ _ _ _ _ O O' A.in1 (.inl (r.views (jb hl) (jb eL))) hx w2 rx (by lia) (by lia) (by show A.units+1+50<cLine;lia)
 ·have:b6.map e=l.map fun d=>D.eqb d dx:=by
   apply D5
   ·simp;lia
   ·intro j h1 h2;simp only[jw] at h1 h2;simp only[List.getElem_map];exact key j h1 h2
  have h3:b6.any e=(b6.map e).any id:=by rw[AX];rfl
  have h4:(l.any fun d=>D.eqb d dx)=(l.map fun d=>D.eqb d dx).any id:=by rw[AX];rfl
  rw[h3,h4,this]
noncomputable def inD(x:D):D->Option Bool
 | .tup l=>if D.depL l<=50/\x.dep<=50 then some (l.any fun d=>D.eqb d x) else none
 | .lst l=>if D.depL l<=50/\x.dep<=50 then some (l.any fun d=>D.eqb d x) else none
 |_=>none
theorem Ho(hu:X.A.units+60<cLine):OpR X (compareOp .NotIn) (fun x y H Q=> ∃O d e b,jh X.K H O d x/\jh X.K H O e y/\inD d e=some b/\Q (.bl (!b)) H):=by
 intro pins s σ H x y v u Q I rx ry h;obtain⟨O,d,e,b,h1,h2,h3,q⟩:=h
 cases e with
 |tup l=>
  obtain⟨hn,rfl⟩:=iu h3
  ·skip
   obtain⟨a,xs,rfl,hq,r⟩:=lu h2;cases ry;obtain⟨b6,v1,pl,_⟩:=I.tuple hq;obtain⟨e,he,ha⟩:=Ku (A:=X.A) I r v1 h1 rx hn.1 hn.2 hu;refine notIn_tupleAt e pl (fun w hw=>he w (by simpa using hw)) ⟨.bl _,H,I,rfl,?_⟩;rw[show b6.toArray.any e=b6.any e by simp,ha];exact q
 |lst l=>
  obtain⟨hn,rfl⟩:=iu h3
  ·skip
   obtain⟨a,xs,rfl,hq,r⟩:=kn h2;cases ry;obtain⟨b6,v1,pl,_⟩:=I.list hq;obtain⟨e,he,ha⟩:=Ku (A:=X.A) I r v1 h1 rx hn.1 hn.2 hu;refine notIn_listAt e pl.isList (fun w hw=>he w (by simpa using hw)) ⟨.bl _,H,I,rfl,?_⟩;rw[show b6.toArray.any e=b6.any e by simp,ha];exact q
 |_=>cases h3
end
def rD1(K:hC)(g:D->Option (D×Bool)):V->Hp->VK->Prop:=fun x H Q=> ∃(O:AP') (d:D) (z:D×Bool),(∀p,H p=none-> ¬O p)/\jh K H O d x/\g d=some z/\Gen K H O z Q
def rD(K:hC)(g:D->D->Option (D×Bool)):R2:=fun x y H Q=> ∃(O:AP') (d e:D) (z:D×Bool),(∀p,H p=none-> ¬O p)/\jh K H O d x/\jh K H O e y/\g d e=some z/\Gen K H O z Q
def rDn(K:hC)(g:List D->Option (D×Bool)):List V->Hp->VK->Prop:=fun vs H Q=> ∃(O:AP') (ds:List D) (z:D×Bool),(∀p,H p=none-> ¬O p)/\ds.length=vs.length/\(∀(j:Nat) d v,ds[j]?=some d->vs[j]?=some v->jh K H O d v)/\g ds=some z/\Gen K H O z Q
section
variable {X:Cx}{e a b:gM}{fa fb:FO}{fs:List FO}{pos:Pos}
theorem px1{g:D->Option (D×Bool)}(h:PE X e (tUn (rD1 X.K g) (tO X.K fa))):PX X e (jD g fa):=NX h fun x z v H O Q np hx hg G=>⟨O,x,z,np,hx,hg,G⟩
theorem px2{g:D->D->Option (D×Bool)}(h:PE X e (tOp (rD X.K g) (tO X.K fa) (tO X.K fb))):PX X e (gB g fa fb):=NW h fun x y z v u H O Q np hx hy hg G=>⟨O,x,y,z,np,hx,hy,hg,G⟩
theorem pxn{g:List D->Option (D×Bool)}(h:PE X e (tCB (rDn X.K g) (tA X.K fs))):PX X e (gO g fs):=LR h fun ds z vs H O Q np hl hv hg G=>⟨O,ds,z,np,hl,hv,hg,G⟩
theorem hJ{K H}{O:AP'}{i:Int}{v:V}(h:jh K H O (.int i) v):v= .int i:=h.elim (fun h=>h.int) fun⟨_,_,h⟩=>h.elim
theorem FY{K H}{O:AP'}{i:Bool}{v:V}(h:jh K H O (.bl i) v):v= .bl i:=h.elim (fun h=>h.bl) fun⟨_,_,h⟩=>h.elim
theorem xq{K H}{O:AP'}{i:Str}{v:V}(h:jh K H O (.str i) v):v= .str i:=h.elim (fun h=>h.str) fun⟨_,_,h⟩=>h.elim
theorem IS{K H}{O:AP'}{v:V}(h:jh K H O .non v):v= .non:=h.elim (fun h=>h.non) fun⟨_,_,h⟩=>h.elim
theorem Gen.str{K H}{O:AP'}{Q:VK}{i:Str}(g:Gen K H O (.str i,false) Q):Q (.str i) H:=g _ H (fun _ _ e=>e) Rep.mkStr
noncomputable def gI(f:Int->Int->Option D):D->D->Option (D×Bool)
 | .int i,.int j=>(f i j).map fun z=>(z,false)
 |_,_=>none
theorem wU{f:Int->Int->Option D}{d e:D}{z:D×Bool}(h:gI f d e=some z): ∃i j y,d= .int i/\e= .int j/\f i j=some y/\z=(y,false):=by
 cases d with
 |int i=>
  cases e with
  |int j=>
   cases hf:f i j with
   |none=>rw[gI,hf] at h;cases h
   |some y=>rw[gI,hf] at h;cases h;exact⟨i,j,y,rfl,rfl,hf,rfl⟩
  |_=>cases h
 |_=>cases h
theorem wN{f:vV}{C:Int->Int->Prop}[∀i j,Decidable (C i j)]{g:Int->Int->Int}(ho:OpR X f (rI C fun i j=> .int (g i j))):OpR X f (rD X.K (gI fun i j=>if C i j then some (.int (g i j)) else none)):=by
 intro pins s σ H x y v u Q I rx ry h;obtain⟨O,d,e,z,np,h1,h2,hg,G⟩:=h;obtain⟨i,j,w,rfl,rfl,hf,rfl⟩:=wU hg;obtain⟨hc,rfl⟩:=iu hf;exact ho pins s σ H x y v u Q I rx ry ⟨i,j,hJ h1,hJ h2,hc,G.int⟩
theorem J1{f:vV}{g:Int->Int->Int}(ho:OpR X f (rI0 fun i j=> .int (g i j))):OpR X f (rD X.K (gI fun i j=>some (.int (g i j)))):=by
 intro pins s σ H x y v u Q I rx ry h;obtain⟨O,d,e,z,np,h1,h2,hg,G⟩:=h;obtain⟨i,j,w,rfl,rfl,hf,rfl⟩:=wU hg;cases hf;exact ho pins s σ H x y v u Q I rx ry ⟨i,j,hJ h1,hJ h2,G.int⟩
instance(i j:Int):Decidable (CMul i j):=by unfold CMul;exact inferInstance
instance(i j:Int):Decidable (HM i j):=by unfold HM;exact inferInstance
instance(i j:Int):Decidable (wD i j):=by unfold wD;exact inferInstance
noncomputable def gSub:=gI fun i j=>some (.int (i-j))
noncomputable def qa:=gI fun i j=>if CMul i j then some (.int (i*j)) else none
noncomputable def KA:=gI fun i j=>if HM i j then some (.int (i / j)) else none
noncomputable def uH:=gI fun i j=>if 0<j then some (.int (i%j)) else none
noncomputable def za:=gI fun i j=>if wD i j then some (.int (i^j.toNat)) else none
theorem pB:OpR X (binaryOp .Sub) (rD X.K gSub):=J1 OA
theorem oq:OpR X (binaryOp .Mult) (rD X.K qa):=wN OD
theorem Gh:OpR X (binaryOp .FloorDiv) (rD X.K KA):=wN Mn
theorem pD:OpR X (binaryOp .Mod) (rD X.K uH):=wN OE
theorem wM:OpR X (binaryOp .Pow) (rD X.K za):=wN OB
noncomputable def iB:D->D->Option (D×Bool)
 | .int i,.int j=>some (.int (i+j),false)
 | .str i,.str j=>if i.length+j.length<=sizeLine then some (.str (i++j),false) else none
 | .tup l,.tup m=>if l.length+m.length<=sizeLine then some (.tup (l++m),false) else none
 | .lst l,.lst m=>if l.length+m.length<=sizeLine then some (.lst (l++m),true) else none
 |_,_=>none
theorem gZ:OpR X (binaryOp .Add) (rD X.K iB):=by
 intro pins s σ H x y v u Q I rx ry h;obtain⟨O,d,e,z,np,h1,h2,hg,G⟩:=h
 cases d with
 |int i=>
  cases e with
  |int j=>cases hg;exact OG pins s σ H x y v u Q I rx ry ⟨i,j,hJ h1,hJ h2,G.int⟩
  |_=>cases hg
 |str i=>
  cases e with
  |str j=>
   obtain⟨hc,rfl⟩:=iu hg;exact EU pins s σ H x y v u Q I rx ry ⟨i,j,xq h1,xq h2,hc,G.str⟩
  |_=>cases hg
 |tup l=>
  cases e with
  |tup m=>
   obtain⟨hc,rfl⟩:=iu hg;have k1:Rep X.K H O (.tup l) x:=h1.elim id fun⟨_,_,z⟩=>z.elim;have k2:Rep X.K H O (.tup m) y:=h2.elim id fun⟨_,_,z⟩=>z.elim;obtain⟨p1,xs,rfl,q1,r1⟩:=k1.tup;obtain⟨p2,ys,rfl,q2,r2⟩:=k2.tup;have l1:=r1.length;have l2:=r2.length;by_cases hx:xs=[]
   ·subst hx;have:l=[]:=by simpa using l1.symm
    subst this;cases rx;cases ry;obtain⟨b6,v1,fw,_⟩:=I.tuple q1.sq;obtain⟨c8,v2,e9,_⟩:=I.tuple q2.sq;have e1:b6=[]:=by have:=v1.length;simpa using this.symm
    subst e1;obtain⟨⟨cls,dd,data,sl⟩,ho,p8,n,hd⟩:=id fw;obtain⟨⟨cZ,w9,data2,v9⟩,u6,l6,n2,hd2⟩:=id e9;simp only at p8 hd l6 hd2;subst p8 hd l6 hd2
    refine A3 ⟨_,ho,rfl⟩ ⟨_,u6,rfl⟩ Ei Eh Eg Ef (Ee _ _)
     (tuple_addW0 p1 p2 #[] c8.toArray n n2 dd w9 sl v9 (by simp)) ⟨ho,u6,⟨.ref p2,H,I,rfl,?_⟩⟩
    exact G _ H (fun _ _ e=>e) (by simpa using k2)
   ·refine Mo pins s σ H _ _ v u Q I rx ry ⟨p1,p2,xs,ys,rfl,rfl,q1.sq,q2.sq,hx,by lia,fun hy=>?_,fun hy p hp=>?_⟩
    ·subst hy;have:m=[]:=by simpa using l2.symm
     subst this;exact G _ H (fun _ _ e=>e) (by simpa using k1)
    ·exact G.tup hp (np p hp) (r1.append r2)
  |_=>cases hg
 |lst l=>
  cases e with
  |lst m=>
   obtain⟨hc,rfl⟩:=iu hg;obtain⟨p1,xs,rfl,q1,r1⟩:=kn h1;obtain⟨p2,ys,rfl,q2,r2⟩:=kn h2;have l1:=r1.length;have l2:=r2.length;cases rx;cases ry;obtain⟨b6,v1,fw,_⟩:=I.list q1;obtain⟨c8,v2,e9,_⟩:=I.list q2;have e1:=v1.length;have e2:=v2.length;obtain⟨⟨cls,dd,data,sl⟩,ho,p8,n,hd⟩:=id fw.isList;obtain⟨⟨cZ,w9,data2,v9⟩,u6,l6,n2,hd2⟩:=id e9.isList;simp only at p8 hd l6 hd2;subst p8 hd l6 hd2
   refine A3 ⟨_,ho,rfl⟩ ⟨_,u6,rfl⟩ noFill_list_add seq_list_add PySem.F.slot_list_add PySem.F.entry_list_add (PySem.F.args_list_add_2 _ _)
    (list_addW p1 p2 b6.toArray c8.toArray n n2 dd w9 sl v9 (by simp only[iw];lia)) ⟨ho,u6,?_⟩
   rw[show b6.toArray++c8.toArray=(b6++c8).toArray by simp];exact⟨.ref _,_,I.lnew (t':=s.toks) (v1.append v2) (by rw[kZ];lia),rfl,G.lst I.fresh (r1.append r2)⟩
  |_=>cases hg
 |_=>cases hg
noncomputable def gEq(d e:D):Option (D×Bool):=if d.dep<=50/\e.dep<=50 then some (.bl (D.eqb d e),false) else none
noncomputable def gNe(d e:D):Option (D×Bool):=if d.dep<=50/\e.dep<=50 then some (.bl (!D.eqb d e),false) else none
noncomputable def vO(d e:D):Option (D×Bool):=(inD d e).map fun b=>(.bl (!b),false)
theorem tH(hu:X.A.units+60<cLine):OpR X (compareOp .Eq) (rD X.K gEq):=by
 intro pins s σ H x y v u Q I rx ry h;obtain⟨O,d,e,z,np,h1,h2,hg,G⟩:=h;obtain⟨hc,rfl⟩:=iu hg;exact OF hu pins s σ H x y v u Q I rx ry ⟨O,d,e,h1,h2,hc,G.bl⟩
theorem ES(hu:X.A.units+60<cLine):OpR X (compareOp .NotEq) (rD X.K gNe):=by
 intro pins s σ H x y v u Q I rx ry h;obtain⟨O,d,e,z,np,h1,h2,hg,G⟩:=h;obtain⟨hc,rfl⟩:=iu hg;exact OC hu pins s σ H x y v u Q I rx ry ⟨O,d,e,h1,h2,hc,G.bl⟩
theorem jf{α β:Type}{x:Option α}{f:α->β}{b:β}(h:x.map f=some b): ∃a,x=some a/\f a=b:=by
 cases x with
 |none=>cases h
 |some a=>exact⟨a,rfl,iO h⟩
theorem Hm(hu:X.A.units+60<cLine):OpR X (compareOp .NotIn) (rD X.K vO):=by
 intro pins s σ H x y v u Q I rx ry h;obtain⟨O,d,e,z,np,h1,h2,hg,G⟩:=h;obtain⟨b,hb,rfl⟩:=jf hg;exact Ho hu pins s σ H x y v u Q I rx ry ⟨O,d,e,b,h1,h2,hb,G.bl⟩
noncomputable def mf:D->Option (D×Bool)
 | .int i=>some (.int (-i),false)
 |_=>none
theorem Ls:UnR X (unaryOp .USub) (rD1 X.K mf):=by
 intro pins s σ H x v Q I rx h;obtain⟨O,d,z,np,h1,hg,G⟩:=h
 cases d with
 |int i=>cases hg;exact Nv pins s σ H x v Q I rx ⟨i,hJ h1,G.int⟩
 |_=>cases hg
noncomputable def gIx:D->D->Option (D×Bool)
 | .tup l,.int i=>(atI l i).map fun d=>(d,false)
 | .lst l,.int i=>(atI l i).map fun d=>(d,false)
 |_,_=>none
theorem GQ{K H}{O:AP'}{l:List D}{xs:List V}{i:Int}{d:D}(r:RepL K H O l xs)(h:atI l i=some d): ∃v,atI xs i=some v/\Rep K H O d v:=by
 unfold atI at h ⊢;rw[r.length];obtain⟨j,h1,h2⟩:=gu h;rw[h1];exact r.get h2
theorem Nd:IxR X (rD X.K gIx):=by
 intro value slice pins s σ H x y v u Q I rx ry h hs;obtain⟨O,d,e,z,np,h1,h2,hg,G⟩:=h
 cases d with
 |tup l=>
  cases e with
  |int i=>
   obtain⟨w,hw,rfl⟩:=jf hg;obtain⟨p,xs,rfl,q,r⟩:=lu h1;obtain⟨vv,hv,hr⟩:=GQ r hw;exact OS value slice pins s σ H _ _ v u Q I rx ry ⟨p,xs,i,vv,rfl,hJ h2,q,hv,G _ H (fun _ _ e=>e) hr⟩ hs
  |_=>cases hg
 |lst l=>
  cases e with
  |int i=>
   obtain⟨w,hw,rfl⟩:=jf hg;obtain⟨p,xs,rfl,q,r⟩:=kn h1;obtain⟨vv,hv,hr⟩:=GQ r hw;exact Mz value slice pins s σ H _ _ v u Q I rx ry ⟨p,xs,i,vv,rfl,hJ h2,q,hv,G _ H (fun _ _ e=>e) hr⟩ hs
  |_=>cases hg
 |_=>cases hg
theorem N6{op:Operator}{g:D->D->Option (D×Bool)}(ho:OpR X (binaryOp op) (rD X.K g))(ha:PO X a fa)(hb:PO X b fb):PX X (.BinOp a op b pos) (gB g fa fb):=px2 (Qj ho ha hb)
theorem N5{op:CmpOp}{g:D->D->Option (D×Bool)}(ho:OpR X (compareOp op) (rD X.K g))(ha:PO X a fa)(hb:PO X b fb)(hm:behindInMarks op b=false):PX X (.Compare a [op] [b] pos) (gB g fa fb):=px2 (Mh ho ha hb hm)
theorem N0(ha:PO X a fa):PX X (.UnaryOp .USub a pos) (jD mf fa):=px1 (Qi Ls ha)
theorem Qe(ha:PO X a fa)(hb:PO X b fb)(hs:uW b):PX X (.Subscript a b pos) (gB gIx fa fb):=px2 (M7 Nd ha hb hs)
end
noncomputable def oH:List Opd->Option (List D)
 |[]=>some []
 | .val r::os=>(oH os).map (r.1:: ·)
 | .slot _::_=>none
noncomputable def jk(fs:List F):F:=fun δ=>(je (fs.map gp) δ).bind fun p=>(oH p.1).bind fun ds=>if ds.length<=sizeLine then some ((.tup ds,false),p.2) else none
noncomputable def kj(fs:List F):F:=fun δ=>(je (fs.map gp) δ).bind fun p=>(oH p.1).bind fun ds=>if ds.length<=sizeLine then some ((.lst ds,true),p.2) else none
section
variable {K:hC}{T T':AP'}{σ:L2.St}{δ δ':Dn}{H H':Hp}{os:List Opd}{vs:List V}
theorem Ops.rep(E:ER K H T σ δ)(B:Ops K T σ δ H os vs δ' H' T'){j:Nat}{r:D×Bool}{v:V}(h1:os[j]?=some (.val r))(h2:vs[j]?=some v):Rep K H' (fun a=>OwnA σ δ' a\/T a) r.1 v:=by
 obtain⟨d,b⟩:=r
 cases b with
 |false=>exact B.val j d v h1 h2
 |true=>
  obtain⟨p,rfl,tp,hp,ok⟩:=B.tmp j d v h1 h2;refine ok.rep (fun z=>?_) fun b _ z=>z;rcases z with z|z
  ·exact B.er.nT p z tp
  ·exact E.dom p z hp
theorem tf{O:AP'}: ∀{os:List Opd} {vs:List V} {ds:List D},oH os=some ds->os.length=vs.length->(∀(j:Nat) (r:D×Bool) (v:V),os[j]?=some (.val r)->vs[j]?=some v->Rep K H' O r.1 v)->RepL K H' O ds vs
 |[],vs,ds,h,hl,_=>by
  cases h;have:vs=[]:=by simpa using hl.symm
  subst this;exact RepL.nil
 | .slot i::os,vs,ds,h,_,_=>by cases h
 | .val r::os,vs,ds,h,hl,k=>by
  obtain⟨l,h1,rfl⟩:=jf h
  cases vs with
  |nil=>simp at hl
  |cons v vs=>exact RepL.cons (k 0 r v rfl rfl) (tf h1 (by simpa using hl) fun j r' v' a b=>k (j+1) r' v' (by simpa using a) (by simpa using b))
end
section
variable {X:Cx}{e a b:gM}{es:jF}{fa fb:FO}{fs:List F}{pos:Pos}
theorem NS{x1}(h:PA X es (tA X.K (fs.map gp))):PX X (.Tuple es x1 pos) (jk fs):=PX.imp (Oo h) fun σ H Q hw=>by
 obtain⟨δ,T,rr,δ',E,e,k⟩:=hw;obtain⟨⟨os,δ1⟩,h1,e⟩:=gu e;obtain⟨ds,h2,e⟩:=gu e;obtain⟨hn,e⟩:=iu e;obtain⟨rfl,rfl⟩:=sP e;refine⟨δ,T,os,δ1,E,h1,fun vs H1 T1 B=>?_⟩;have r:=tf h2 B.len fun j r v a b=>B.rep E a b;exact⟨by rw[r.length];exact hn,fun p hp=>(B.done k).tup hp (B.np hp) r⟩
theorem N1(h:PA X es (tA X.K (fs.map gp))):PX X (.List es pos) (kj fs):=PX.imp (Ow h) fun σ H Q hw=>by
 obtain⟨δ,T,rr,δ',E,e,k⟩:=hw;obtain⟨⟨os,δ1⟩,h1,e⟩:=gu e;obtain⟨ds,h2,e⟩:=gu e;obtain⟨hn,e⟩:=iu e;obtain⟨rfl,rfl⟩:=sP e;refine⟨δ,T,os,δ1,E,h1,fun vs H1 T1 B=>?_⟩;have r:=tf h2 B.len fun j r v a b=>B.rep E a b;exact⟨by rw[r.length];exact hn,fun p hp=>(B.done k).lst hp r⟩
theorem Mr{ds:List D}{vs:List V}{d:D}(hl:ds.length=vs.length)(hd:ds=[d]): ∃v,vs=[v]:=by
 subst hd
 cases vs with
 |nil=>simp at hl
 |cons v r=>
  cases r with
  |nil=>exact⟨v,rfl⟩
  |cons _ _=>simp at hl
noncomputable def g1(g:D->Option (D×Bool)):List D->Option (D×Bool)
 |[d]=>g d
 |_=>none
noncomputable def g2(g:D->D->Option (D×Bool)):List D->Option (D×Bool)
 |[d,e]=>g d e
 |_=>none
theorem oK{f:gL}{g:D->Option (D×Bool)}(h: ∀(pins:ik) (s:gA) (σ:L2.St) (H:Hp) (x:V) (u:gL) (Q:VK) (O:AP') (d:D) (z:D×Bool),Inv X pins σ H s->RelV x u->(∀p,H p=none-> ¬O p)->jh X.K H O d x->g d=some z->Gen X.K H O z Q->
  wpAny (model X.prog X.w) X.A (call f [u]) (EP X pins σ Q) X.xe s):jI X f (rDn X.K (g1 g)):=by
 intro pins s σ H xs us Q I r hq;obtain⟨O,ds,z,np,hl,hv,hg,G⟩:=hq
 match ds,hg with
 |[d],hg=>
  obtain⟨v,rfl⟩:=Mr hl rfl;obtain⟨u,rfl,ru⟩:=um r;exact h pins s σ H v u Q O d z I ru np (hv 0 d v rfl rfl) hg G
theorem KS{f:gL}{g:D->D->Option (D×Bool)}(h: ∀(pins:ik) (s:gA) (σ:L2.St) (H:Hp) (x y:V) (us:iL) (Q:VK) (O:AP') (d e:D) (z:D×Bool),Inv X pins σ H s->Vals [x,y] us->(∀p,H p=none-> ¬O p)->jh X.K H O d x->jh X.K H O e y->g d e=some z->Gen X.K H O z Q->
  wpAny (model X.prog X.w) X.A (call f us) (EP X pins σ Q) X.xe s):jI X f (rDn X.K (g2 g)):=by
 intro pins s σ H xs us Q I r hq;obtain⟨O,ds,z,np,hl,hv,hg,G⟩:=hq
 match ds,hg,xs,hl with
 |[d,e],hg,[x,y],_=>exact h pins s σ H x y us Q O d e z I r np (hv 0 d x rfl rfl) (hv 1 e y rfl rfl) hg G
noncomputable def mO:D->Option (D×Bool)
 | .tup l=>some (.int l.length,false)
 | .lst l=>some (.int l.length,false)
 |_=>none
theorem jN:jI X (.builtin "len") (rDn X.K (g1 mO)):=oK fun pins s σ H x u Q O d z I ru np hd hg G=>by
 cases d with
 |tup l=>
  cases hg;obtain⟨p,xs,rfl,q,r⟩:=lu hd;refine uP pins s σ H [_] [u] Q I (.cons ru .nil) ⟨p,xs,rfl,.inr q,?_⟩;rw[r.length];exact G.int
 |lst l=>
  cases hg;obtain⟨p,xs,rfl,q,r⟩:=kn hd;refine uP pins s σ H [_] [u] Q I (.cons ru .nil) ⟨p,xs,rfl,.inl q,?_⟩;rw[r.length];exact G.int
 |_=>cases hg
noncomputable def nR:D->Option (D×Bool)
 | .int i=>some (.int (if i<0 then -i else i),false)
 |_=>none
theorem mv:jI X (.builtin "abs") (rDn X.K (g1 nR)):=oK fun pins s σ H x u Q O d z I ru np hd hg G=>by
 cases d with
 |int i=>cases hg;exact KU pins s σ H [x] [u] Q I (.cons ru .nil) ⟨i,by rw[hJ hd],G.int⟩
 |_=>cases hg
noncomputable def MD:D->Option (D×Bool)
 | .int i=>some (.int i,false)
 | .bl b=>some (.int (if b then 1 else 0),false)
 |_=>none
theorem HI:jI X (.type "int") (rDn X.K (g1 MD)):=oK fun pins s σ H x u Q O d z I ru np hd hg G=>by
 cases d with
 |int i=>cases hg;exact Ak pins s σ H [x] [u] Q I (.cons ru .nil) (.inl ⟨i,by rw[hJ hd],G.int⟩)
 |bl i=>
  cases hg;refine Ak pins s σ H [x] [u] Q I (.cons ru .nil) (.inr ⟨i,by rw[FY hd],?_⟩);have:=G.int;cases i<;>exact this
 |_=>cases hg
noncomputable def kL:D->Option (D×Bool)
 | .tup l=>some (.tup l,false)
 | .lst l=>some (.tup l,false)
 |_=>none
theorem kQ:jI X (.type "tuple") (rDn X.K (g1 kL)):=oK fun pins s σ H x u Q O d z I ru np hd hg G=>by
 cases d with
 |tup l=>
  cases hg;have k1:Rep X.K H O (.tup l) x:=hd.elim id fun⟨_,_,z⟩=>z.elim;obtain⟨p,xs,rfl,q,r⟩:=k1.tup;exact su pins s σ H [_] [u] Q I (.cons ru .nil) ⟨p,xs,rfl,.inr ⟨q.sq,G _ H (fun _ _ e=>e) k1⟩⟩
 |lst l=>
  cases hg;obtain⟨p,xs,rfl,q,r⟩:=kn hd;exact su pins s σ H [_] [u] Q I (.cons ru .nil) ⟨p,xs,rfl,.inl ⟨q,fun t ht=>G.tup ht (np t ht) r⟩⟩
 |_=>cases hg
noncomputable def yh:D->Option (D×Bool)
 | .tup l=>some (.lst l,true)
 | .lst l=>some (.lst l,true)
 |_=>none
theorem pR:jI X (.type "list") (rDn X.K (g1 yh)):=oK fun pins s σ H x u Q O d z I ru np hd hg G=>by
 cases d with
 |tup l=>
  cases hg;obtain⟨p,xs,rfl,q,r⟩:=lu hd;exact uO pins s σ H [_] [u] Q I (.cons ru .nil) ⟨p,xs,rfl,.inr q,fun t ht=>G.lst ht r⟩
 |lst l=>
  cases hg;obtain⟨p,xs,rfl,q,r⟩:=kn hd;exact uO pins s σ H [_] [u] Q I (.cons ru .nil) ⟨p,xs,rfl,.inl q,fun t ht=>G.lst ht r⟩
 |_=>cases hg
end
abbrev FT:=Dn->Option (Bool×Dn)
def tT(K:hC)(f:FT):TT:=fun σ H Q=> ∃δ T b δ',ER K H T σ δ/\f δ=some (b,δ')/\ ∀H',Keep σ δ H δ' H'->ER K H' T σ δ'->Q b H'
def PTX(X:Cx)(e:gM)(f:FT):Prop:=PT X e (tT X.K f)
def PWX(X:Cx)(e:gM)(f:FT):Prop:=PW X e (tT X.K f)
noncomputable def asB:(D×Bool)×Dn->Option (Bool×Dn)
 |((.bl b,_),δ)=>some (b,δ)
 |_=>none
noncomputable def fT(f:F):FT:=fun δ=>(f δ).bind asB
theorem yG{p:(D×Bool)×Dn}{q:Bool×Dn}(h:asB p=some q): ∃o,p=((.bl q.1,o),q.2):=by
 obtain⟨⟨d,o⟩,δ⟩:=p
 cases d with
 |bl b=>cases h;exact⟨o,rfl⟩
 |_=>cases h
theorem Jb{K:hC}{f:F}{σ:L2.St}{H:Hp}{Q:Bool->Hp->Prop}(h:tT K (fT f) σ H Q):tF K f σ H fun x H1=> ∃c,x= .bl c/\Q c H1:=by
 obtain⟨δ,T,b,δ',E,e,k⟩:=h;obtain⟨p,h1,h2⟩:=gu e;obtain⟨o,rfl⟩:=yG h2;refine⟨δ,T,_,_,E,h1,fun v H' P=>?_⟩;obtain⟨E1,r⟩:=P.rep E;exact⟨b,r.bl,k H' P.1 E1⟩
section
variable {X:Cx}{e a b c:gM}{es:jF}{fa fb:FO}{f g:F}{ft fu:FT}{pos:Pos}
theorem PT.imp'{t t':TT}(h:PT X e t)(k: ∀σ H Q,t' σ H Q->t σ H Q):PT X e t':=fun pins s σ H Q I hw=>h pins s σ H Q I (k σ H Q hw)
theorem PW.imp'{t t':TT}(h:PW X e t)(k: ∀σ H Q,t' σ H Q->t σ H Q):PW X e t':=fun wh pins s σ H Q I hw=>h wh pins s σ H Q I (k σ H Q hw)
theorem LY(h:PX X e f)(he: ∀whole,isTrue e X.env whole=(do let v <-whole;standAt e.pos;holding [v] (truthy v))):PTX X e (fT f):=PT.imp' (Oc h he) fun σ H Q hw=>Jb hw
theorem Mq{r:R2}{g:D->D->Option (D×Bool)}(hr:Pn X.K r g){σ:L2.St}{H:Hp}{Q:VK}(hw:tF X.K (gB g fa fb) σ H Q):tOp r (tO X.K fa) (tO X.K fb) σ H Q:=by
 obtain⟨δ,T,rr,δ',E,e,k⟩:=hw;obtain⟨⟨o,δ1⟩,h1,e⟩:=gu e;obtain⟨⟨o2,δ2⟩,h2,e⟩:=gu e;obtain⟨x,h3,e⟩:=gu e;obtain⟨y,h4,e⟩:=gu e;obtain⟨z,h5,e⟩:=gu e;obtain⟨rfl,rfl⟩:=gX e;refine⟨δ,T,o,δ1,E,h1,fun v H1 P1=>⟨δ1,wC T o v,o2,δ2,P1.er E,h2,fun u H2 P2=>?_⟩⟩;have B:=Ops.cons E P1 (Ops.cons (P1.er E) P2 (Ops.nil (P2.er (P1.er E))));exact hr x y z v u H2 _ Q (fun p hp=>B.np hp) (B.view (j:=0) rfl rfl h3) (B.view (j:=1) rfl rfl h4) h5 (B.done k)
theorem Qa{K:hC}{g:D->D->Option (D×Bool)}:Pn K (rD K g) g:=fun x y z v u H O Q np hx hy hg G=>⟨O,x,y,z,np,hx,hy,hg,G⟩
theorem L0{op:CmpOp}{g:D->D->Option (D×Bool)}(ho:OpR X (compareOp op) (rD X.K g))(ha:PO X a fa)(hb:PO X b fb)(hm:behindInMarks op b=false):PTX X (.Compare a [op] [b] pos) (fT (gB g fa fb)):=
 PT.imp' (L1 ho ha hb hm) fun σ H Q hw=>Mq Qa (Jb hw)
noncomputable def Q3(f g:FT):FT:=fun δ=>(f δ).bind fun p=>if p.1=true then g p.2 else some (false,p.2)
noncomputable def mH(f g:FT):FT:=fun δ=>(f δ).bind fun p=>if p.1=true then some (true,p.2) else g p.2
noncomputable def jX(f:FT):FT:=fun δ=>(f δ).bind fun p=>some (!p.1,p.2)
theorem LW(ha:PTX X a ft):PWX X (.BoolOp .Or [a] pos) ft:=Oa ha
theorem N9(ha:PTX X a ft)(hb:PWX X (.BoolOp .Or (b::es) pos) fu):PWX X (.BoolOp .Or (a::b::es) pos) (mH ft fu):=PW.imp' (Qg ha hb) fun σ H Q hw=>by
 obtain⟨δ,T,c,δ',E,e,k⟩:=hw;obtain⟨⟨c1,δ1⟩,h1,e⟩:=gu e;refine⟨δ,T,c1,δ1,E,h1,fun H1 K1 E1=>?_⟩
 cases c1 with
 |true=>
  rw[gD rfl] at e;rw[gD rfl];obtain⟨rfl,rfl⟩:=gX e;exact k H1 K1 E1
 |false=>
  rw[gF jB] at e;rw[gF jB];exact⟨δ1,T,c,δ',E1,e,fun H2 K2 E2=>k H2 (K1.trans K2) E2⟩
theorem LZ(ha:PTX X a ft):PTX X (.UnaryOp .Not a pos) (jX ft):=PT.imp' (Od ha) fun σ H Q hw=>by
 obtain⟨δ,T,c,δ',E,e,k⟩:=hw;obtain⟨⟨c1,δ1⟩,h1,e⟩:=gu e;obtain⟨rfl,rfl⟩:=gX e;exact⟨δ,T,c1,δ1,E,h1,k⟩
noncomputable def tX(f g:F):F:=fun δ=>(f δ).bind fun p=>(asB p).bind fun q=>if q.1=true then g q.2 else some ((.bl false,false),q.2)
noncomputable def fOr(f g:F):F:=fun δ=>(f δ).bind fun p=>(asB p).bind fun q=>if q.1=true then some ((.bl true,false),q.2) else g q.2
noncomputable def KG(f:F):F:=fun δ=>(f δ).bind fun p=>(asB p).bind fun q=>some ((.bl (!q.1),false),q.2)
theorem Post.pre{K:hC}{T:AP'}{σ:L2.St}{δ δ1 δ2:Dn}{H H1 H2:Hp}{r:D×Bool}{v:V}(k:Keep σ δ H δ1 H1)(P:Post K T σ δ1 H1 r δ2 v H2):Post K T σ δ H r δ2 v H2:=by
 refine⟨k.trans P.1,?_⟩;obtain⟨d,o⟩:=r
 cases o with
 |false=>exact P.2
 |true=>
  obtain⟨p,h1,h2,h3⟩:=P.2;refine⟨p,h1,?_,h3⟩
  cases hH:H p with
  |none=>rfl
  |some ob=>exact absurd h2 (k.dm p (by rw[hH];simp))
theorem N7(ha:PX X a f)(hb:PX X (.BoolOp .And (b::es) pos) g):PX X (.BoolOp .And (a::b::es) pos) (tX f g):=PX.imp (Oy ha hb) fun σ H Q hw=>by
 obtain⟨δ,T,r,δ',E,e,k⟩:=hw;obtain⟨p,h1,e⟩:=gu e;obtain⟨⟨c,δ1⟩,h2,e2⟩:=gu e;obtain⟨o,rfl⟩:=yG h2;refine⟨δ,T,_,_,E,h1,fun v H1 P=>?_⟩;obtain⟨E1,rv⟩:=P.rep E;refine⟨c,rv.bl,?_⟩
 cases c with
 |true=>
  rw[gD rfl] at e2;rw[gD rfl];exact⟨δ1,T,r,δ',E1,e2,fun w H2 P2=>k w H2 (P2.pre P.1)⟩
 |false=>
  rw[gF jB] at e2;rw[gF jB];obtain⟨rfl,rfl⟩:=gX e2;exact k _ H1 (Post.val P.1 E1 Rep.mkBl)
theorem LS{op}(ha:PX X a f):PX X (.BoolOp op [a] pos) f:=Ot ha
theorem NY(ha:PX X a f):PX X (.UnaryOp .Not a pos) (KG f):=PX.imp (Ou ha) fun σ H Q hw=>by
 obtain⟨δ,T,r,δ',E,e,k⟩:=hw;obtain⟨p,h1,e⟩:=gu e;obtain⟨⟨c,δ1⟩,h2,e2⟩:=gu e;obtain⟨o,rfl⟩:=yG h2;obtain⟨rfl,rfl⟩:=gX e2;refine⟨δ,T,_,_,E,h1,fun v H1 P=>?_⟩;obtain⟨E1,rv⟩:=P.rep E;exact⟨c,rv.bl,k _ H1 (Post.val P.1 E1 Rep.mkBl)⟩
noncomputable def fIf(t:FT)(f g:F):F:=fun δ=>(t δ).bind fun p=>if p.1=true then f p.2 else g p.2
end
inductive Out where
 |nx(δ:Dn)|rt(r:D×Bool)(δ:Dn)|bk(δ:Dn)|ct(δ:Dn)
abbrev FS:=Dn->Option Out
structure SK(A:jm)(σ:L2.St)(δ:Dn)(H:Hp)(σ':L2.St)(δ':Dn)(H':Hp):Prop where
 kp: ∀a o,H a=some o-> ¬OwnA σ δ a->H' a=some o
 owi: ∀i a,OwnI σ' δ' i a->OwnI σ δ i a\/H a=none
 dm: ∀a,H a≠none->H' a≠none
 as: ∀i,¬A i->σ'[i]?=σ[i]?
structure FI(L:jm)(H0:Hp)(σ:L2.St)(δ:Dn)(H:Hp):Prop where
 ow: ∀i a,OwnI σ δ i a->L i\/H0 a=none
 dm: ∀a,H0 a≠none->H a≠none
def RV(K:hC)(T:AP')(H0:Hp)(r:D×Bool)(σ':L2.St)(δ':Dn)(v:V)(H':Hp):Prop:=
 match r with
 |(d,false)=>ER K H' T σ' δ'/\Rep K H' (fun a=>OwnA σ' δ' a\/T a) d v
 |(d,true)=> ∃p,v= .ref p/\H0 p=none/\ER K H' (fun a=>T a\/a=p) σ' δ'/\OwnOk K H' (fun a=>OwnA σ' δ' a\/T a\/a=p) d p
section
variable {A:jm}{σ σ1 σ2:L2.St}{δ δ1 δ2:Dn}{H H0 H1 H2:Hp}{L:jm}{K:hC}{T:AP'}
theorem SK.refl:SK A σ δ H σ δ H:=⟨fun _ _ e _=>e,fun _ _ z=> .inl z,fun _ z=>z,fun _ _=>rfl⟩
theorem SK.ow(k:SK A σ δ H σ1 δ1 H1)(a:gv)(h:OwnA σ1 δ1 a):OwnA σ δ a\/H a=none:=by
 obtain⟨i,d,h1,h2⟩:=h;rcases k.owi i a ⟨d,h1,h2⟩ with⟨e,h3,h4⟩|z
 ·exact .inl ⟨i,e,h3,h4⟩
 ·exact .inr z
theorem SK.trans(x:SK A σ δ H σ1 δ1 H1)(y:SK A σ1 δ1 H1 σ2 δ2 H2):SK A σ δ H σ2 δ2 H2 where
 kp:=fun a o e n=>y.kp a o (x.kp a o e n) fun z=>(x.ow a z).elim n fun z=>by rw[z] at e;cases e
 owi:=fun i a z=>(y.owi i a z).elim (x.owi i a) fun z=> .inr (by
  cases h:H a with
  |none=>rfl
  |some o=>exact absurd z (x.dm a (by rw[h];simp)))
 dm:=fun a z=>y.dm a (x.dm a z)
 as:=fun i h=>(y.as i h).trans (x.as i h)
theorem Keep.sk(k:Keep σ δ H δ1 H1):SK A σ δ H σ δ1 H1:=⟨k.kp,fun i a z=> .inl (k.owi i a z),k.dm,fun _ _=>rfl⟩
theorem FI.step(f:FI L H0 σ δ H)(k:SK A σ δ H σ1 δ1 H1):FI L H0 σ1 δ1 H1 where
 ow:=fun i a z=>(k.owi i a z).elim (f.ow i a) fun z=> .inr (by
  cases h:H0 a with
  |none=>rfl
  |some o=>exact absurd z (f.dm a (by rw[h];simp)))
 dm:=fun a z=>k.dm a (f.dm a z)
theorem FI.fresh(f:FI L H0 σ δ H){p:gv}(hp:H p=none):H0 p=none:=by
 cases h:H0 p with
 |none=>rfl
 |some o=>exact absurd hp (f.dm p (by rw[h];simp))
end
def tS(K:hC)(A L:jm)(H0:Hp)(f:FS):TS:=fun D σ H=> ∃δ T out,ER K H T σ δ/\FI L H0 σ δ H/\f δ=some out/\
 match out with
 | .nx δ'=> ∀σ' H',SK A σ δ H σ' δ' H'->ER K H' T σ' δ'->D.nx σ' H'
 | .bk δ'=> ∀σ' H',SK A σ δ H σ' δ' H'->ER K H' T σ' δ'->D.bk σ' H'
 | .ct δ'=> ∀σ' H',SK A σ δ H σ' δ' H'->ER K H' T σ' δ'->D.ct σ' H'
 | .rt r δ'=> ∀v σ' H',SK A σ δ H σ' δ' H'->RV K T H0 r σ' δ' v H'->D.rt v H'
def PSX(X:Cx)(A L:jm)(H0:Hp)(st:Stmt)(f:FS):Prop:=PS X st (tS X.K A L H0 f)
def B9(X:Cx)(A L:jm)(H0:Hp)(st:List Stmt)(f:FS):Prop:=PSs X st (tS X.K A L H0 f)
noncomputable def gR:FS:=fun δ=>some (.nx δ)
noncomputable def gE(f g:FS):FS:=fun δ=>(f δ).bind fun o=>match o with
 | .nx δ1=>g δ1
 |o=>some o
noncomputable def nc(f:F):FS:=fun δ=>(f δ).bind fun p=>some (.nx p.2)
noncomputable def ju(f:F):FS:=fun δ=>(f δ).bind fun p=>some (.rt p.1 p.2)
noncomputable def pA(i:Nat):FS:=fun δ=>match δ[i]? with
 |some (some (d,true))=>some (.rt (d,true) (δ.set i none))
 |some (some (d,false))=>some (.rt (d,false) δ)
 |_=>none
noncomputable def sIf(t:FT)(f g:FS):FS:=fun δ=>(t δ).bind fun p=>if p.1=true then f p.2 else g p.2
noncomputable def ir(i:Nat)(f:F):FS:=fun δ=>(f δ).bind fun p=>if i<p.2.length then some (.nx (p.2.set i (some p.1))) else none
section
variable {X:Cx}{A L:jm}{H0:Hp}{st:Stmt}{eA:List Stmt}{f g:FS}{fe:F}{ft:FT}{e c:gM}{pos:Pos}
theorem PS.imp'{t t':TS}(h:PS X st t)(k: ∀D σ H,t' D σ H->t D σ H):PS X st t':=fun pins s σ H D I hw=>h pins s σ H D I (k D σ H hw)
theorem PSs.imp'{t t':TS}(h:PSs X eA t)(k: ∀D σ H,t' D σ H->t D σ H):PSs X eA t':=fun pins s σ H D I hw=>h pins s σ H D I (k D σ H hw)
theorem JC:B9 X A L H0 [] gR:=PSs.imp' L7 fun D σ H hw=>by
 obtain⟨δ,T,out,E,fi,e,k⟩:=hw;cases e;exact k σ H .refl E
theorem Hf(h1:PSX X A L H0 st f)(h2:B9 X A L H0 eA g):B9 X A L H0 (st::eA) (gE f g):=PSs.imp' (JD h1 h2) fun D σ H hw=>by
 obtain⟨δ,T,out,E,fi,e,k⟩:=hw;obtain⟨o,h3,e⟩:=gu e;refine⟨δ,T,o,E,fi,h3,?_⟩
 cases o with
 |nx δ1=>
  intro σ1 H1 K1 E1;refine⟨δ1,T,out,E1,fi.step K1,e,?_⟩
  cases out with
  |nx δ2=>exact fun σ2 H2 K2 E2=>k σ2 H2 (K1.trans K2) E2
  |bk δ2=>exact fun σ2 H2 K2 E2=>k σ2 H2 (K1.trans K2) E2
  |ct δ2=>exact fun σ2 H2 K2 E2=>k σ2 H2 (K1.trans K2) E2
  |rt r δ2=>exact fun v σ2 H2 K2 R2=>k v σ2 H2 (K1.trans K2) R2
 |rt r δ1=>cases e;exact k
 |bk δ1=>cases e;exact k
 |ct δ1=>cases e;exact k
theorem Jz(h:PX X e fe)(hs:swapsWith e none pos.line X.env=pure false):PSX X A L H0 (.Expr e pos) (nc fe):=PS.imp' (L8 h hs) fun D σ H hw=>by
 obtain⟨δ,T,out,E,fi,e,k⟩:=hw;obtain⟨p,h3,e⟩:=gu e;cases e;exact⟨δ,T,p.1,p.2,E,h3,fun v H1 P=>k σ H1 P.1.sk (P.rep E).1⟩
theorem L5(h:PX X e fe):PSX X A L H0 (.Return (some e) pos) (ju fe):=PS.imp' (JF h) fun D σ H hw=>by
 obtain⟨δ,T,out,E,fi,e,k⟩:=hw;obtain⟨p,h3,e⟩:=gu e;cases e;refine⟨δ,T,p.1,p.2,E,h3,fun v H1 P=>k v σ H1 P.1.sk ?_⟩;obtain⟨⟨d,o⟩,δ1⟩:=p
 cases o with
 |false=>exact P.2
 |true=>
  obtain⟨q,h1,h2,h3⟩:=P.2;exact⟨q,h1,fi.fresh h2,h3⟩
theorem Oe(hc:PTX X c ft){a b:List Stmt}(ha:B9 X A L H0 a f)(hb:B9 X A L H0 b g):PSX X A L H0 (.If c a b pos) (sIf ft f g):=PS.imp' (Qh hc ha hb) fun D σ H hw=>by
 obtain⟨δ,T,out,E,fi,e,k⟩:=hw;obtain⟨⟨c,δ1⟩,h1,e⟩:=gu e;refine⟨δ,T,c,δ1,E,h1,fun H1 K1 E1=>?_⟩;have ei:SK A σ δ H σ δ1 H1:=K1.sk
 have fin: ∀(h:FS),h δ1=some out->tS X.K A L H0 h D σ H1:=fun h he=>by
  refine⟨δ1,T,out,E1,fi.step ei,he,?_⟩
  cases out with
  |nx δ2=>exact fun σ2 H2 K2 E2=>k σ2 H2 (ei.trans K2) E2
  |bk δ2=>exact fun σ2 H2 K2 E2=>k σ2 H2 (ei.trans K2) E2
  |ct δ2=>exact fun σ2 H2 K2 E2=>k σ2 H2 (ei.trans K2) E2
  |rt r δ2=>exact fun v σ2 H2 K2 R2=>k v σ2 H2 (ei.trans K2) R2
 cases c with
 |true=>rw[gD rfl] at e;exact(show(if true=true then tS X.K A L H0 f D σ H1 else _) from by rw[gD rfl];exact fin f e)
 |false=>rw[gF jB] at e;exact(show(if false=true then _ else tS X.K A L H0 g D σ H1) from by rw[gF jB];exact fin g e)
end
theorem kF{α:Type}{l:List α}{i j:Nat}{x y:α}(h:(l.set i x)[j]?=some y):(i=j/\i<l.length/\y=x)\/(i≠j/\l[j]?=some y):=by
 rw[AY] at h;split at h
 ·rename_i u2;split at h
  ·rename_i hl;exact .inl ⟨u2,hl,(iO h).symm⟩
  ·cases h
 ·rename_i u2;exact .inr ⟨u2,h⟩
section
variable {K:hC}{T:AP'}{σ:L2.St}{δ δ1:Dn}{H H1:Hp}{x:D×Bool}{v:V}{i:Nat}
theorem OwnI.store{j:Nat}{a:gv}(h:OwnI (σ.set i (some v)) (δ.set i (some x)) j a):(i≠j/\OwnI σ δ j a)\/(i=j/\x.2=true/\v= .ref a):=by
 obtain⟨d,h1,h2⟩:=h;rcases kF h1 with⟨e,_,q⟩|⟨ne,q⟩
 ·rcases kF h2 with⟨_,_,q2⟩|⟨ne2,_⟩
  ·right;cases q;exact⟨e,rfl,(iO q2).symm⟩
  ·exact absurd e ne2
 ·rcases kF h2 with⟨e2,_,_⟩|⟨_,q2⟩
  ·exact absurd e2 ne
  ·exact .inl ⟨ne,d,q,q2⟩
theorem OwnA.store{a:gv}(h:OwnA (σ.set i (some v)) (δ.set i (some x)) a):OwnA σ δ a\/(x.2=true/\v= .ref a):=by
 obtain⟨j,d,h1,h2⟩:=h;rcases OwnI.store ⟨d,h1,h2⟩ with⟨_,e,h3,h4⟩|⟨_,h3⟩
 ·exact .inl ⟨j,e,h3,h4⟩
 ·exact .inr h3
theorem ER.store(E1:ER K H1 (Tmp T x v) σ δ1)(hi:i<δ1.length)(hx:match x with|(d,false)=>Rep K H1 (fun a=>OwnA σ δ1 a\/T a) d v|(d,true)=> ∃p,v= .ref p/\ ¬T p/\OwnOk K H1 (fun a=>OwnA σ δ1 a\/T a\/a=p) d p):
  ER K H1 T (σ.set i (some v)) (δ1.set i (some x)):=by
 have hσ:i<σ.length:=by rw[E1.len];exact hi
 have sub: ∀b,H1 b≠none->(OwnA (σ.set i (some v)) (δ1.set i (some x)) b\/T b)->(OwnA σ δ1 b\/Tmp T x v b):=fun b _ z=>by
  rcases z with z|z
  ·rcases z.store with z|z
   ·exact .inl z
   ·exact .inr (.inr z)
  ·exact .inr (.inl z)
 refine⟨by rw[rS,rS];exact E1.len,fun j d hj=>?_,fun j d hj=>?_,fun j k d e a hj hk h1 h2=>?_,fun a z=>?_,fun a z=>E1.dom a (.inl z)⟩
 ·rcases kF hj with⟨rfl,_,q⟩|⟨ne,q⟩
  ·have q:=iO q;subst q
   exact⟨v,qo hσ,Rep.mono (fun _ _ e _=>e) (fun b hb z=>by
    rcases z with z|z
    ·rcases z.store with z|z
     ·exact .inl z
     ·exact absurd z.1 (by simp)
    ·exact .inr z) hx⟩
  ·obtain⟨w,h1,h2⟩:=E1.val j d q;exact⟨w,by rw[rX ne];exact h1,Rep.mono (fun _ _ e _=>e) sub h2⟩
 ·rcases kF hj with⟨rfl,_,q⟩|⟨ne,q⟩
  ·have q:=iO q;subst q;obtain⟨p,rfl,np,ok⟩:=hx;refine⟨p,qo hσ,ok.mono (fun _ _ e _=>e) (fun b hb z=>?_) fun _ e=>e⟩;rcases z with z|z
   ·rcases z.store with z|z
    ·exact .inl z
    ·have:=z.2;cases this;exact .inr (.inr rfl)
   ·exact .inr (.inl z)
  ·obtain⟨a,h1,h2⟩:=E1.own j d q;exact⟨a,by rw[rX ne];exact h1,h2.mono (fun _ _ e _=>e) sub fun _ e=>e⟩
 ·rcases OwnI.store ⟨d,hj,h1⟩ with⟨n1,d',g1,g2⟩|⟨e1,g1,g2⟩
  ·rcases OwnI.store ⟨e,hk,h2⟩ with⟨n2,e',g3,g4⟩|⟨e2,g3,g4⟩
   ·exact E1.inj j k d' e' a g1 g3 g2 g4
   ·exact absurd (Or.inr ⟨g3,g4⟩) (E1.nT a ⟨j,d',g1,g2⟩)
  ·rcases OwnI.store ⟨e,hk,h2⟩ with⟨n2,e',g3,g4⟩|⟨e2,g3,g4⟩
   ·exact absurd (Or.inr ⟨g1,g2⟩) (E1.nT a ⟨k,e',g3,g4⟩)
   ·exact e1.symm.trans e2
 ·rcases z.store with z|z
  ·exact fun t=>E1.nT a z (.inl t)
  ·obtain⟨d,b⟩:=x
   cases b with
   |false=>exact absurd z.1 (by simp)
   |true=>
    obtain⟨p,rfl,np,_⟩:=hx;have:=z.2;cases this;exact np
theorem SK.store{A:jm}(k:Keep σ δ H δ1 H1)(ha:A i)(hp:x.2=true-> ∀p,v= .ref p->H p=none):SK A σ δ H (σ.set i (some v)) (δ1.set i (some x)) H1 where
 kp:=k.kp
 owi:=fun j a z=>by
  rcases z.store with⟨_,z⟩|⟨_,z1,z2⟩
  ·exact .inl (k.owi j a z)
  ·exact .inr (hp z1 a z2)
 dm:=k.dm
 as:=fun j hj=>rX (fun(e:i=j)=>hj (by subst e;exact ha))
end
section
variable {X:Cx}{A L:jm}{H0:Hp}{fe:F}{e c:gM}{pos pos':Pos}
theorem xu{K:hC}{T:AP'}{σ:L2.St}{δ δ1:Dn}{H H1:Hp}{r:D×Bool}{v:V}{i:Nat}(E:ER K H T σ δ)(P:Post K T σ δ H r δ1 v H1)(hi:i<δ1.length)(ha:A i):
  SK A σ δ H (σ.set i (some v)) (δ1.set i (some r)) H1/\ER K H1 T (σ.set i (some v)) (δ1.set i (some r)):=by
 have hp:r.2=true-> ∀p,v= .ref p->H p=none:=fun h p hv=>by
  obtain⟨d,o⟩:=r
  cases o with
  |false=>cases h
  |true=>obtain⟨q,h1,h2,_⟩:=P.2;rw[hv] at h1;cases h1;exact h2
 refine⟨SK.store P.1 ha hp,ER.store (P.er E) hi ?_⟩;obtain⟨d,o⟩:=r
 cases o with
 |false=>exact P.2.2
 |true=>
  obtain⟨p,rfl,h2,h3,h4⟩:=P.2;exact⟨p,rfl,fun z=>E.dom p z h2,h4⟩
theorem L4{i:Nat}{x:Str}(hN:X.N.Nodup)(hi:X.N[i]?=some x)(hx:Loc X.env.scope x)(he:PX X e fe)(hs:swapsWith e (some (.Name x pos')) pos.line X.env=pure false)(hf:X.fn x=true\/X.env.scope.names.lookup x=some .local)(ha:A i):
  PSX X A L H0 (.Assign [.Name x pos'] e pos) (ir i fe):=PS.imp' (Of hN hi hx he hs hf) fun D σ H hw=>by
 obtain⟨δ,T,out,E,fi,e,k⟩:=hw;obtain⟨⟨r,δ1⟩,h3,e⟩:=gu e;obtain⟨hi,rfl⟩:=iu e;refine⟨δ,T,r,δ1,E,h3,fun v H1 P=>?_⟩;obtain⟨h1,h2⟩:=xu (A:=A) E P hi ha;exact k _ H1 h1 h2
theorem EI{i:Nat}{x:Str}(hN:X.N[i]?=some x)(hv:Vis X.env.scope x)(hd:(x==("__debug__":Str))=false)(y7:(x==("__classdict__":Str))=false)(hl: ¬L i):PSX X A L H0 (.Return (some (.Name x pos')) pos) (pA i):=PS.imp' (JF (EO hN hv hd y7)) fun D σ H hw=>by
 obtain⟨δ,T,out,E,fi,e,k⟩:=hw;unfold pA at e
 cases hi:δ[i]? with
 |none=>rw[hi] at e;cases e
 |some q=>
  cases q with
  |none=>rw[hi] at e;cases e
  |some p=>
   obtain⟨d,b⟩:=p;have hil:i<δ.length:=(uY.mp hi).1
   cases b with
   |false=>
    rw[hi] at e;cases e;obtain⟨v,h1,h2⟩:=E.val i d hi;exact⟨v,h1,k v σ H .refl ⟨E,h2⟩⟩
   |true=>
    rw[hi] at e;cases e;obtain⟨a,h1,h2⟩:=E.own i d hi
    have gone: ∀j b,OwnI σ (δ.set i none) j b->i≠j/\OwnI σ δ j b:=fun j b ⟨d',g1,g2⟩=>by
     rcases kF g1 with⟨_,_,q⟩|⟨ne,q⟩
     ·cases q
     ·exact⟨ne,d',q,g2⟩
    have goneA: ∀b,OwnA σ (δ.set i none) b->OwnA σ δ b/\b≠a:=fun b ⟨j,d',g1,g2⟩=>by
     obtain⟨ne,d2,g3,g4⟩:=gone j b ⟨d',g1,g2⟩;exact⟨⟨j,d2,g3,g4⟩,fun z=>ne (by subst z;exact E.inj i j d d2 _ hi g3 h1 g4)⟩
    have ha:OwnA σ δ a:=⟨i,d,hi,h1⟩
    have sub: ∀b,H b≠none->(OwnA σ (δ.set i none) b\/(T b\/b=a))->(OwnA σ δ b\/T b):=fun b _ z=>by
     rcases z with z|z|z
     ·exact .inl (goneA b z).1
     ·exact .inr z
     ·subst z;exact .inl ha
    refine⟨.ref a,h1,k (.ref a) σ H ⟨fun _ _ e _=>e,fun j b z=> .inl (gone j b z).2,fun _ z=>z,fun _ _=>rfl⟩ ⟨a,rfl,?_,?_,h2.mono (fun _ _ e _=>e) sub fun _ e=>e⟩⟩
    ·rcases fi.ow i a ⟨d,hi,h1⟩ with z|z
     ·exact absurd z hl
     ·exact z
    ·refine⟨by rw[rS];exact E.len,fun j d' hj=>?_,fun j d' hj=>?_,fun j k d' e' b hj hk g1 g2=>?_,fun b z t=>?_,fun b z=>?_⟩
     ·rcases kF hj with⟨_,_,q⟩|⟨ne,q⟩
      ·cases q
      ·obtain⟨w,w1,w2⟩:=E.val j d' q;exact⟨w,w1,Rep.mono (fun _ _ e _=>e) sub w2⟩
     ·rcases kF hj with⟨_,_,q⟩|⟨ne,q⟩
      ·cases q
      ·obtain⟨w,w1,w2⟩:=E.own j d' q;exact⟨w,w1,w2.mono (fun _ _ e _=>e) sub fun _ e=>e⟩
     ·obtain⟨_,d2,q1,q2⟩:=gone j b ⟨d',hj,g1⟩;obtain⟨_,d3,q3,q4⟩:=gone k b ⟨e',hk,g2⟩;exact E.inj j k d2 d3 b q1 q3 q2 q4
     ·obtain⟨z1,z2⟩:=goneA b z;rcases t with t|t
      ·exact E.nT b z1 t
      ·exact z2 t
     ·rcases z with z|z
      ·exact E.dom b z
      ·subst z;exact E.ownDom ha
end
abbrev Tg:=D->Dn->Option Dn
def tG(K:hC)(A:jm)(tg:Tg):TG:=fun v σ H Q=> ∃δ T d δ',ER K H T σ δ/\Rep K H (fun a=>OwnA σ δ a\/T a) d v/\tg d δ=some δ'/\ ∀σ',SK A σ δ H σ' δ' H->ER K H T σ' δ'->Q σ' H
def PGX(X:Cx)(A:jm)(e:gM)(tg:Tg):Prop:=PG X e (tG X.K A tg)
noncomputable def gG(i:Nat):Tg:=fun d δ=>if i<δ.length then some (δ.set i (some (d,false))) else none
noncomputable def F3:List Tg->List D->Dn->Option Dn
 |[],[],δ=>some δ
 |t::ts,d::ds,δ=>(t d δ).bind (F3 ts ds)
 |_,_,_=>none
noncomputable def vX(ts:List Tg):Tg
 | .tup ds,δ=>F3 ts ds δ
 |_,_=>none
def tGs(K:hC)(A:jm)(ts:List Tg):TGs:=fun vs σ H Q=> ∃δ T ds δ',ER K H T σ δ/\RepL K H (fun a=>OwnA σ δ a\/T a) ds vs/\F3 ts ds δ=some δ'/\ ∀σ',SK A σ δ H σ' δ' H->ER K H T σ' δ'->Q σ' H
section
variable {X:Cx}{A:jm}{pos:Pos}{e:gM}{es:jF}{t:Tg}{ts:List Tg}
theorem PG.imp'{t t':TG}(h:PG X e t)(k: ∀v σ H Q,t' v σ H Q->t v σ H Q):PG X e t':=fun pins s σ H v u Q I r hw=>h pins s σ H v u Q I r (k v σ H Q hw)
theorem PGs.imp'{t t':TGs}(h:PGs X es t)(k: ∀v σ H Q,t' v σ H Q->t v σ H Q):PGs X es t':=fun pins s σ H v u Q I r hw=>h pins s σ H v u Q I r (k v σ H Q hw)
theorem JO{i:Nat}{x:Str}(hN:X.N.Nodup)(hi:X.N[i]?=some x)(hx:Loc X.env.scope x)(hf:X.fn x=true\/X.env.scope.names.lookup x=some .local)(ha:A i):PGX X A (.Name x pos) (gG i):=PG.imp' (Gf hN hi hx hf) fun v σ H Q hw=>by
 obtain⟨δ,T,d,δ',E,r,e,k⟩:=hw;obtain⟨hi,rfl⟩:=iu e;obtain⟨h1,h2⟩:=xu (A:=A) (r:=(d,false)) (v:=v) E (Post.val .refl E r) hi ha;exact k _ h1 h2
theorem JP:PGs X [] (tGs X.K A []):=PGs.imp' Mf fun v σ H Q hw=>by
 obtain⟨δ,T,ds,δ',E,r,e,k⟩:=hw
 cases ds with
 |nil=>
  cases e;rw[RepL] at r;exact⟨r,k σ .refl E⟩
 |cons _ _=>cases e
theorem zF(h1:PGX X A e t)(h2:PGs X es (tGs X.K A ts))(hs:(assignEach (e::es) X.env).map (·.2)=assign e X.env::(assignEach es X.env).map (·.2)):PGs X (e::es) (tGs X.K A (t::ts)):=PGs.imp' (JQ h1 h2 hs) fun v σ H Q hw=>by
 obtain⟨δ,T,ds,δ',E,r,e,k⟩:=hw
 cases ds with
 |nil=>cases e
 |cons d ds=>
  rw[RepL] at r;obtain⟨v1,vr,rfl,r1,r2⟩:=r;obtain⟨δ1,h3,e⟩:=gu e;refine⟨v1,vr,rfl,δ,T,d,δ1,E,r1,h3,fun σ1 K1 E1=>⟨δ1,T,ds,δ',E1,?_,e,fun σ2 K2 E2=>k σ2 (K1.trans K2) E2⟩⟩;exact RepL.mono (fun _ _ e _=>e) (fun b hb z=>z.elim (fun z=>(K1.ow b z).elim Or.inl fun z=>absurd z hb) Or.inr) r2
theorem Me{k:Nat}(hc:X.calm=true)(h:PGs X es (tGs X.K A ts)){n:Nat}(hn:(assignEach es X.env).length=n)(hl:ts.length=n)(t8:(assignEach es X.env).findIdx? (·.1)=none):PGX X A (.Tuple es k pos) (vX ts):=PG.imp' (Om hc h hn t8) fun v σ H Q hw=>by
 obtain⟨δ,T,d,δ',E,r,e,k⟩:=hw
 cases d with
 |tup ds=>
  obtain⟨a,xs,rfl,q,rr⟩:=r.tup;refine⟨a,xs,rfl,q.sq,?_,δ,T,ds,δ',E,rr,e,k⟩
  have: ∀(ts:List Tg) (ds:List D) (δ:Dn),F3 ts ds δ=some δ'->ds.length=ts.length:=by
   intro ts
   induction ts with
   |nil=>intro ds δ h;cases ds with|nil=>rfl|cons _ _=>cases h
   |cons t ts ih=>
    intro ds δ h
    cases ds with
    |nil=>cases h
    |cons d ds=>obtain⟨δ1,_,h⟩:=gu h;simp[ih ds δ1 h]
  rw[rr.length,this ts ds δ e,hl]
 |_=>cases e
end
structure ItOk(K:hC)(J:It)(ds:List D)(O:AP')(H1:Hp):Prop where
 go: ∀(i:Nat) d Hi,ds[i]?=some d->(∀a o,H1 a=some o-> ¬O a->Hi a=some o)->J.go i Hi/\ ∀x H',J.yld i Hi x H'->(∀a o,Hi a=some o->H' a=some o)/\
  ∀O':AP',(∀b,H1 b≠none->O' b->O b)->(∀b,Hi b=none-> ¬O' b)->Rep K H' O' d x
 stop: ∀(i:Nat) Hi,ds.length<=i->(∀a o,H1 a=some o-> ¬O a->Hi a=some o)->J.stop i Hi
abbrev FIt:=Dn->Option (List D×Dn)
def tI(K:hC)(fi:FIt):TI:=fun σ H R=> ∃δ T ds δ',ER K H T σ δ/\fi δ=some (ds,δ')/\ ∀J H',Keep σ δ H δ' H'->ER K H' T σ δ'->ItOk K J ds (fun a=>OwnA σ δ' a\/T a) H'->R J H'
def PIX(X:Cx)(tg iter:gM)(fi:FIt):Prop:=PI X tg iter (tI X.K fi)
noncomputable def iU(f:F):FIt:=fun δ=>(f δ).bind fun p=>match p.1.1 with
 | .lst l=>some (l,p.2)
 | .tup l=>some (l,p.2)
 |_=>none
noncomputable def iD(lo:Int)(n:Nat):List D:=(List.range n).map fun(k:Nat)=> .int (lo+k)
noncomputable def wy(f:FO):FIt:=fun δ=>(je [f] δ).bind fun p=>match tw p.2 p.1 with
 |some [.int j]=>if -(2^62)<=j/\j<2^62 then some (iD 0 j.toNat,p.2) else none
 |_=>none
section
variable {X:Cx}{tg e:gM}{f:F}{fo:FO}{pos p:Pos}
theorem PI.imp'{t t':TI}(h:PI X tg e t)(k: ∀σ H R,t' σ H R->t σ H R):PI X tg e t':=fun pins s σ H R I hw=>h pins s σ H R I (k σ H R hw)
theorem PI.or{t t':TI}(h:PI X tg e t)(h':PI X tg e t'):PI X tg e (fun σ H R=>t σ H R\/t' σ H R):=fun pins s σ H R I hw=>hw.elim (h pins s σ H R I) (h' pins s σ H R I)
theorem Hz{K:hC}{O:AP'}{H1:Hp}{a:gv}{xs:List V}{l:List D}(q:SqLO K H1 O a xs)(r:RepL K H1 O l xs):ItOk K (Itl K a) l O H1:=by
 refine⟨fun i d Hi hd hp=>?_,fun i Hi hi hp=>?_⟩
 ·have q2:SqL K Hi a xs:=(q.mono (O':=O) hp (fun _ _ z=>z)).sq;obtain⟨x,hx,rx⟩:=r.get hd;refine⟨⟨xs,x,q2,hx⟩,fun y H' hy=>?_⟩;obtain⟨rfl,hy⟩:=hy;have:=hy xs q2;rw[hx] at this;cases this;exact⟨fun _ _ e=>e,fun O' h1 h2=>Rep.mono hp h1 rx⟩
 ·exact⟨xs,(q.mono (O':=O) hp (fun _ _ z=>z)).sq,by rw[r.length];exact hi⟩
theorem Kt{K:hC}{O:AP'}{H1:Hp}{a:gv}{xs:List V}{l:List D}(q:SqTO K H1 O a xs)(r:RepL K H1 O l xs):ItOk K (Itt K a) l O H1:=by
 refine⟨fun i d Hi hd hp=>?_,fun i Hi hi hp=>?_⟩
 ·have q2:SqT K Hi a xs:=(q.mono (O':=O) hp (fun _ _ z=>z)).sq;obtain⟨x,hx,rx⟩:=r.get hd;refine⟨⟨xs,x,q2,hx⟩,fun y H' hy=>?_⟩;obtain⟨rfl,hy⟩:=hy;have:=hy xs q2;rw[hx] at this;cases this;exact⟨fun _ _ e=>e,fun O' h1 h2=>Rep.mono hp h1 rx⟩
 ·exact⟨xs,(q.mono (O':=O) hp (fun _ _ z=>z)).sq,by rw[r.length];exact hi⟩
theorem yg{K:hC}{O:AP'}{H1:Hp}(lo:Int)(n:Nat):ItOk K (Itr lo n) (iD lo n) O H1:=by
 refine⟨fun i d Hi hd hp=>?_,fun i Hi hi hp=>?_⟩
 ·unfold iD at hd;rw[lH] at hd;obtain⟨k,h1,h2⟩:=jf hd;have hi:i<n:=by have:=(uY.mp h1).1;simpa using this
  have hk:k=i:=by rw[List.getElem?_range hi] at h1;exact(iO h1).symm
  subst hk;refine⟨hi,fun y H' hy=>?_⟩;obtain⟨rfl,rfl⟩:=hy;refine⟨fun _ _ e=>e,fun O' _ _=>?_⟩;rw[<-h2];exact Rep.mkInt
 ·unfold iD at hi;have:n<=i:=by simpa using hi
  exact this
theorem Ma(h:PX X e f):PIX X tg e (iU f):=PI.imp' (PI.or (Md (tg:=tg) h) (Ol h)) fun σ H R hw=>by
 obtain⟨δ,T,ds,δ',E,e,k⟩:=hw;obtain⟨⟨⟨d,o⟩,δ1⟩,h1,e⟩:=gu e
 cases d with
 |lst l=>
  obtain⟨rfl,rfl⟩:=gX e;refine .inl ⟨δ,T,_,_,E,h1,fun v H1 P=>?_⟩;obtain⟨E1,r⟩:=P.rep E;obtain⟨a,xs,rfl,q,rr⟩:=r.lst;exact⟨a,rfl,⟨xs,q.sq⟩,k _ H1 P.1 E1 (Hz q rr)⟩
 |tup l=>
  obtain⟨rfl,rfl⟩:=gX e;refine .inr ⟨δ,T,_,_,E,h1,fun v H1 P=>?_⟩;obtain⟨E1,r⟩:=P.rep E;obtain⟨a,xs,rfl,q,rr⟩:=r.tup;exact⟨a,rfl,⟨xs,q.sq⟩,k _ H1 P.1 E1 (Kt q rr)⟩
 |_=>cases e
end
noncomputable def kU(tg:Tg)(fb:FS):List D->FS
 |[],δ=>some (.nx δ)
 |d::ds,δ=>(tg d δ).bind fun δ1=>(fb δ1).bind fun o=>match o with
  | .nx δ2=>kU tg fb ds δ2
  | .ct δ2=>kU tg fb ds δ2
  | .bk δ2=>some (.nx δ2)
  | .rt r δ2=>some (.rt r δ2)
noncomputable def oX(fi:FIt)(tg:Tg)(fb:FS):FS:=fun δ=>(fi δ).bind fun p=>kU tg fb p.1 p.2
section
variable {X:Cx}{A L:jm}{H0:Hp}{tg iter:gM}{body:List Stmt}{fi:FIt}{t:Tg}{fb:FS}{pos:Pos}
theorem L6(hp:PassesOwn (model X.prog X.w) X.A X.env X.xe)(hc:X.calm=true)(hi:PIX X tg iter fi)(hg:PGX X A tg t)(hb:B9 X A L H0 body fb)(hs: ∀x,foldedSetIterable iter X.env x=pure x):
  PSX X A L H0 (.For tg iter body [] pos) (oX fi t fb):=PS.imp' (Og hp hc hi hg hb hs) fun D σ H hw=>by
 obtain⟨δ,T,out,E,gf,e,k⟩:=hw;obtain⟨⟨ds,δ1⟩,h1,e⟩:=gu e;refine⟨δ,T,ds,δ1,E,h1,fun J H1 K1 E1 ok=>?_⟩;have S1:SK A σ δ H σ δ1 H1:=K1.sk;refine⟨fun i m σ' H'=>m=ds.length-i/\i<=ds.length/\ ∃δ',SK A σ δ1 H1 σ' δ' H'/\ER X.K H' T σ' δ'/\kU t fb (ds.drop i) δ'=some out,⟨ds.length,by simp,lY _,δ1,.refl,E1,by simpa using e⟩,?_⟩;rintro i m σ2 H2 ⟨rfl,hle,δ2,S2,E2,e2⟩;have aX: ∀a o,H1 a=some o-> ¬(OwnA σ δ1 a\/T a)->H2 a=some o:=fun a o ea n=>S2.kp a o ea fun z=>n (.inl z);by_cases i6:i<ds.length
 ·refine .inr ?_;have hd:ds[i]?=some ds[i]:=jb i6;obtain⟨go,yl⟩:=ok.go i _ H2 hd aX;rw[sO i6] at e2;obtain⟨δ3,h3,e3⟩:=gu e2;obtain⟨o,h4,e4⟩:=gu e3;refine⟨go,fun σ' H'=> ∃δ',SK A σ δ1 H1 σ' δ' H'/\ER X.K H' T σ' δ'/\kU t fb (ds.drop (i+1)) δ'=some out,fun σ' H' ⟨δ',q1,q2,q3⟩=>⟨ds.length-(i+1),by lia,rfl,i6,δ',q1,q2,q3⟩,fun x H' hy=>?_⟩;obtain⟨ext,rep⟩:=yl x H' hy
  have ej:ER X.K H' T σ2 δ2:=E2.mono (fun b ob eb _=>ext b ob eb) (fun _ _ z=>z) (fun a z=>by
   cases hh:H2 a with
   |none=>exact absurd hh (E2.dom a z)
   |some ob=>rw[ext a ob hh];simp)
  have gk:SK A σ δ1 H1 σ2 δ2 H':=S2.trans (Keep.ext ext).sk;have rx:=rep (fun a=>OwnA σ2 δ2 a\/T a) (fun b hb z=>z.elim (fun z=>(S2.ow b z).elim Or.inl fun z=>absurd z hb) Or.inr) (fun b hb z=>z.elim (fun z=>E2.ownDom z hb) fun z=>E2.dom b z hb);refine⟨δ2,T,ds[i],δ3,ej,rx,h3,fun σ3 S3 E3=>?_⟩;have da:=gk.trans S3;refine⟨δ3,T,o,E3,(gf.step S1).step da,h4,?_⟩
  cases o with
  |nx δ4=>exact fun σ4 H4 S4 E4=>⟨δ4,da.trans S4,E4,e4⟩
  |ct δ4=>exact fun σ4 H4 S4 E4=>⟨δ4,da.trans S4,E4,e4⟩
  |bk δ4=>cases e4;exact fun σ4 H4 S4 E4=>k σ4 H4 (S1.trans (da.trans S4)) E4
  |rt r δ4=>cases e4;exact fun v σ4 H4 S4 R4=>k v σ4 H4 (S1.trans (da.trans S4)) R4
 ·refine .inl ⟨ok.stop i H2 (by lia) aX,?_⟩;rw[xg (by lia)] at e2;cases e2;exact k σ2 H2 (S1.trans S2) E2
end
noncomputable def nM(ft:FT)(fb:FS):Nat->FS
 |0,_=>none
 |n+1,δ=>(ft δ).bind fun p=>if p.1=true then(fb p.2).bind fun o=>(match o with
   | .nx δ2=>nM ft fb n δ2
   | .ct δ2=>nM ft fb n δ2
   | .bk δ2=>some (.nx δ2)
   | .rt r δ2=>some (.rt r δ2)) else some (.nx p.2)
noncomputable def BF(f g:FO):FIt:=fun δ=>(je [f,g] δ).bind fun p=>match tw p.2 p.1 with
 |some [.int i,.int j]=>if -(2^62)<=i/\i<2^62/\ -(2^62)<=j/\j<2^62 then some (iD i (j-i).toNat,p.2) else none
 |_=>none
section
variable {X:Cx}{A L:jm}{H0:Hp}{tg e c a b:gM}{body:List Stmt}{ft:FT}{fb:FS}{fa fo:FO}{pos p:Pos}
theorem Hd{n:Nat}(hp:PassesOwn (model X.prog X.w) X.A X.env X.xe)(hc:PTX X c ft)(hb:B9 X A L H0 body fb):PSX X A L H0 (.While c body [] pos) (nM ft fb n):=PS.imp' (JE hp hc hb) fun D σ H hw=>by
 obtain⟨δ,T,out,E,gf,e,k⟩:=hw;refine⟨fun m σ' H'=> ∃δ',SK A σ δ H σ' δ' H'/\ER X.K H' T σ' δ'/\nM ft fb m δ'=some out,⟨n,δ,.refl,E,e⟩,?_⟩;rintro m σ2 H2 ⟨δ2,S2,E2,e2⟩
 cases m with
 |zero=>cases e2
 |succ m=>
  obtain⟨⟨c1,δ3⟩,h3,e3⟩:=gu e2;refine⟨δ2,T,c1,δ3,E2,h3,fun H3 K3 E3=>?_⟩;have S3:SK A σ δ H σ2 δ3 H3:=S2.trans K3.sk
  cases c1 with
  |false=>
   rw[gF jB] at e3;cases e3;exact QH (k σ2 H3 S3 E3)
  |true=>
   rw[gD rfl] at e3;obtain⟨o,h4,e4⟩:=gu e3;refine QE ⟨fun σ' H'=> ∃δ',SK A σ δ H σ' δ' H'/\ER X.K H' T σ' δ'/\nM ft fb m δ'=some out,fun σ' H' q=>⟨m,ud _,q⟩,δ3,T,o,E3,gf.step S3,h4,?_⟩
   cases o with
   |nx δ4=>exact fun σ4 H4 S4 E4=>⟨δ4,S3.trans S4,E4,e4⟩
   |ct δ4=>exact fun σ4 H4 S4 E4=>⟨δ4,S3.trans S4,E4,e4⟩
   |bk δ4=>cases e4;exact fun σ4 H4 S4 E4=>k σ4 H4 (S3.trans S4) E4
   |rt r δ4=>cases e4;exact fun v σ4 H4 S4 R4=>k v σ4 H4 (S3.trans S4) R4
theorem qW{K:hC}{T T':AP'}{σ:L2.St}{δ δ':Dn}{H H':Hp}{os:List Opd}{vs:List V}{ds:List D}(B:Ops K T σ δ H os vs δ' H' T')(h:tw δ' os=some ds){j:Nat}{i:Int}(hd:ds[j]?=some (.int i)):vs[j]?=some (.int i):=by
 obtain⟨h1,h2⟩:=mG h;obtain⟨o,h3,h4⟩:=h2 j _ hd;have hj:j<vs.length:=by have:=(uY.mp h3).1;have:=B.len;lia
 have hv:vs[j]?=some vs[j]:=jb hj;have:=hJ (B.view h3 hv h4);rw[hv,this]
theorem EN(hg:Gl X "range")(hm:X.mg "range"=none)(ha:PA X [a] (tA X.K [fa]))(hs:starEach [a] X.env=[(false,eval a X.env)]):PIX X tg (.Call (.Name "range" p) [a] [] pos) (wy fa):=PI.imp' (Hl hg hm ha hs) fun σ H R hw=>by
 obtain⟨δ,T,ds,δ',E,e,k⟩:=hw;obtain⟨⟨os,δ1⟩,h1,e⟩:=gu e;refine⟨δ,T,os,δ1,E,h1,fun vs H1 T1 B=>?_⟩;dsimp only at e;split at e
 ·rename_i j hj;obtain⟨⟨c1,c2⟩,e⟩:=iu e;obtain⟨rfl,rfl⟩:=sP e;have hv:=qW B hj (j:=0) rfl;obtain⟨hl,_⟩:=mG hj
  have:vs=[.int j]:=by
   have hlen:=B.len
   cases vs with
   |nil=>simp at hv
   |cons v r=>
    cases r with
    |nil=>simp at hv;rw[hv]
    |cons _ _=>simp at hl hlen;lia
  exact⟨j,this,c1,c2,k _ H1 B.keep (B.er.mono (fun _ _ e _=>e) (fun b _ z=>B.tt b z) (fun a z=>B.er.dom a (B.tt a z))) (yg 0 j.toNat)⟩
 ·cases e
theorem EM(hg:Gl X "range")(hm:X.mg "range"=none)(ha:PA X [a,b] (tA X.K [fa,fo]))(hs:starEach [a,b] X.env=[(false,eval a X.env),(false,eval b X.env)])(r8:starEach [b] X.env=[(false,eval b X.env)]):PIX X tg (.Call (.Name "range" p) [a,b] [] pos) (BF fa fo):=PI.imp' (Hk hg hm ha hs r8) fun σ H R hw=>by
 obtain⟨δ,T,ds,δ',E,e,k⟩:=hw;obtain⟨⟨os,δ1⟩,h1,e⟩:=gu e;refine⟨δ,T,os,δ1,E,h1,fun vs H1 T1 B=>?_⟩;dsimp only at e;split at e
 ·rename_i i j hj;obtain⟨c1,e⟩:=iu e;obtain⟨rfl,rfl⟩:=sP e;have hv:=qW B hj (j:=0) rfl;have eM:=qW B hj (j:=1) rfl;obtain⟨hl,_⟩:=mG hj
  have:vs=[.int i,.int j]:=by
   have hlen:=B.len
   match vs,hv,eM with
   |[x,y],hv,eM=>simp at hv eM;rw[hv,eM]
   |x::y::z::r,_,_=>simp at hl hlen;lia
  exact⟨i,j,this,c1,k _ H1 B.keep (B.er.mono (fun _ _ e _=>e) (fun b _ z=>B.tt b z) (fun a z=>B.er.dom a (B.tt a z))) (yg i (j-i).toNat)⟩
 ·cases e
end
abbrev EvF:=List (D×Bool)->Option ((D×Bool)×Dn)
def spF(K:hC)(ev:EvF):Sp:=fun vs H Q _=> ∃T args r outs,ER K H T (vs.map some) (args.map some)/\ev args=some (r,outs)/\ ∀v H',Post K T (vs.map some) (args.map some) H r outs v H'->Q v H'
noncomputable def hX(args:List (D×Bool))(δ:Dn):Dn:=args.zipIdx.map fun p=>if p.1.2=true then(δ[p.2]?).join else some p.1
noncomputable def evF(n np:Nat)(asg:iF)(f:FS):EvF:=fun args=>
 if args.length=np/\np<=n/\(args.zipIdx.all fun p=>!(p.1.2&&asg.contains p.2))=true then
  match f (args.map some++List.replicate (n-np) none) with
  |some (.rt r δ)=>some (r,hX args δ)
  |some (.nx δ)=>some ((.non,false),hX args δ)
  |_=>none
 else none
theorem JX(args:List (D×Bool))(δ:Dn)(i:Nat):(hX args δ)[i]?=args[i]?.map fun x=>if x.2=true then(δ[i]?).join else some x:=by
 unfold hX;rw[lH,Iv]
 cases args[i]? with
 |none=>rfl
 |some x=>simp
theorem rA{x:Option Sl}{p:D×Bool}(h:x.join=some p):x=some (some p):=by
 cases x with
 |none=>cases h
 |some y=>exact rW some h
section
variable {K:hC}{T:AP'}{A:jm}{vs:List V}{args:List (D×Bool)}{H H':Hp}{m:Nat}{σ':L2.St}{δ':Dn}{r:D×Bool}{v:V}
theorem Ca{α:Type}{xs:List α}{m i:Nat}{y:α}:(xs.map some++List.replicate m none)[i]?=some (some y)↔xs[i]?=some y:=by
 by_cases h:i<xs.length
 ·rw[xk (by simpa using h),lH];cases xs[i]?<;>simp
 ·rw[vz (by simpa using h)];constructor
  ·intro e;rw[List.getElem?_replicate] at e;split at e<;>cases e
  ·intro e;exact absurd (uY.mp e).1 h
theorem rF{α:Type}{xs:List α}{i:Nat}{y:α}:(xs.map some)[i]?=some (some y)↔xs[i]?=some y:=by
 rw[lH];cases xs[i]?<;>simp
theorem HN{i:Nat}{a:gv}:OwnI (vs.map some++List.replicate m none) (args.map some++List.replicate m none) i a↔OwnI (vs.map some) (args.map some) i a:=by
 unfold OwnI;simp only[Ca,rF]
theorem CN{σ:L2.St}{δ:Dn}{a:gv}:OwnA σ δ a↔ ∃i,OwnI σ δ i a:=Iff.rfl
theorem Ll{a:gv}:OwnA (vs.map some++List.replicate m none) (args.map some++List.replicate m none) a↔OwnA (vs.map some) (args.map some) a:=by
 rw[CN,CN];exact exists_congr fun i=>HN
theorem ER.pad(E:ER K H T (vs.map some) (args.map some)):ER K H T (vs.map some++List.replicate m none) (args.map some++List.replicate m none):=by
 have len:vs.length=args.length:=by simpa using E.len
 refine⟨by simp[len],fun i d h=>?_,fun i d h=>?_,fun i j d e a h1 h2 h3 h4=>?_,fun a z=>E.nT a (Ll.mp z),E.dom⟩
 ·obtain⟨w,w1,w2⟩:=E.val i d (rF.mpr (Ca.mp h));exact⟨w,Ca.mpr (rF.mp w1),Rep.mono (fun _ _ e _=>e) (fun b _ z=>z.imp Ll.mp id) w2⟩
 ·obtain⟨w,w1,w2⟩:=E.own i d (rF.mpr (Ca.mp h));exact⟨w,Ca.mpr (rF.mp w1),w2.mono (fun _ _ e _=>e) (fun b _ z=>z.imp Ll.mp id) fun _ e=>e⟩
 ·exact E.inj i j d e a (rF.mpr (Ca.mp h1)) (rF.mpr (Ca.mp h2)) (rF.mpr (Ca.mp h3)) (rF.mpr (Ca.mp h4))
theorem Gg{T':AP'}(E:ER K H T (vs.map some) (args.map some))(S:SK A (vs.map some++List.replicate m none) (args.map some++List.replicate m none) H σ' δ' H')(hA: ∀(i:Nat) d,args[i]?=some (d,true)-> ¬A i)
  (E':ER K H' T' σ' δ')(hT: ∀b,H b≠none->T' b->T b):ER K H' T' (vs.map some) (hX args δ')/\(∀b,OwnA (vs.map some) (hX args δ') b->OwnA σ' δ' b)/\Keep (vs.map some) (args.map some) H (hX args δ') H':=by
 have len:vs.length=args.length:=by simpa using E.len
 have here: ∀(i:Nat) d w,args[i]?=some (d,true)->vs[i]?=some w->σ'[i]?=some (some w):=fun i d w h1 h2=>by
  rw[S.as i (hA i d h1)];exact Ca.mpr h2
 have outI: ∀(i:Nat) d b,(hX args δ')[i]?=some (some (d,b))->(∃e,args[i]?=some (e,true)/\δ'[i]?=some (some (d,b)))\/(b=false/\args[i]?=some (d,false)):=fun i d b h=>by
  rw[JX] at h;obtain⟨⟨e,c⟩,h1,h2⟩:=jf h
  cases c with
  |true=>
   left;exact⟨e,h1,rA (by simpa using h2)⟩
  |false=>
   right;have:some (e,false)=some (d,b):=by simpa using h2
   cases this;exact⟨rfl,h1⟩
 have aY: ∀i a,OwnI (vs.map some) (hX args δ') i a->OwnI σ' δ' i a/\OwnI (vs.map some) (args.map some) i a:=fun i a ⟨d,h1,h2⟩=>by
  rcases outI i d true h1 with⟨e,h3,h4⟩|⟨z,_⟩
  ·exact⟨⟨d,h4,here i e _ h3 (rF.mp h2)⟩,⟨e,rF.mpr h3,h2⟩⟩
  ·cases z
 have aF: ∀b,OwnA (vs.map some) (hX args δ') b->OwnA σ' δ' b:=fun b ⟨i,d,h1,h2⟩=>by
  obtain⟨⟨e,q1,q2⟩,_⟩:=aY i b ⟨d,h1,h2⟩;exact⟨i,e,q1,q2⟩
 have owA2: ∀b,OwnA (vs.map some) (hX args δ') b->OwnA (vs.map some) (args.map some) b:=fun b ⟨i,d,h1,h2⟩=>by
  obtain⟨_,⟨e,q1,q2⟩⟩:=aY i b ⟨d,h1,h2⟩;exact⟨i,e,q1,q2⟩
 have kp: ∀a o,H a=some o-> ¬OwnA (vs.map some) (args.map some) a->H' a=some o:=fun a o e n=>S.kp a o e fun z=>n (Ll.mp z);refine⟨⟨?_,fun i d h=>?_,fun i d h=>?_,fun i j d e a h1 h2 h3 h4=>?_,fun a z=>E'.nT a (aF a z),E'.dom⟩,aF,⟨kp,fun i a z=>(aY i a z).2,S.dm⟩⟩
 ·simp[hX,len]
 ·have hi:i<vs.length:=by
   have:=(uY.mp h).1;simp[hX] at this
   lia
  have hv:vs[i]?=some vs[i]:=jb hi;rcases outI i d false h with⟨e,h3,h4⟩|⟨_,h3⟩
  ·obtain⟨w,w1,w2⟩:=E'.val i d h4;rw[here i e _ h3 hv] at w1;cases w1;exact⟨_,rF.mpr hv,Rep.mono (fun _ _ e _=>e) (fun b _ z=>z.imp (aF b) id) w2⟩
  ·obtain⟨w,w1,w2⟩:=E.val i d (rF.mpr h3);exact⟨w,w1,Rep.mono (fun b o e n=>kp b o e fun z=>n (.inl z)) (fun b hb z=>z.imp (owA2 b) (hT b hb)) w2⟩
 ·have hi:i<vs.length:=by
   have:=(uY.mp h).1;simp[hX] at this
   lia
  have hv:vs[i]?=some vs[i]:=jb hi;rcases outI i d true h with⟨e,h3,h4⟩|⟨z,_⟩
  ·obtain⟨w,w1,w2⟩:=E'.own i d h4;rw[here i e _ h3 hv] at w1;have w1':vs[i]=V.ref w:=by simpa using w1
   exact⟨w,by rw[<-w1'];exact rF.mpr hv,w2.mono (fun _ _ e _=>e) (fun b _ z=>z.imp (aF b) id) fun _ e=>e⟩
  ·cases z
 ·obtain⟨_,⟨d1,q1,q2⟩⟩:=aY i a ⟨d,h1,h3⟩;obtain⟨_,⟨d2,q3,q4⟩⟩:=aY j a ⟨e,h2,h4⟩;exact E.inj i j d1 d2 a q1 q3 q2 q4
theorem vS(E:ER K H T (vs.map some) (args.map some))(S:SK A (vs.map some++List.replicate m none) (args.map some++List.replicate m none) H σ' δ' H')(hA: ∀(i:Nat) d,args[i]?=some (d,true)-> ¬A i)
  (R:RV K T H r σ' δ' v H'):Post K T (vs.map some) (args.map some) H r (hX args δ') v H':=by
 obtain⟨d,b⟩:=r
 cases b with
 |false=>
  obtain⟨E',rv⟩:=R;obtain⟨E2,ow,kp⟩:=Gg E S hA E' (fun _ _ z=>z);exact⟨kp,E2,Rep.mono (fun _ _ e _=>e) (fun b _ z=>z.imp (ow b) id) rv⟩
 |true=>
  obtain⟨p,rfl,hp,E',ok⟩:=R;obtain⟨E2,ow,kp⟩:=Gg E S hA E' (fun b hb z=>z.elim id fun z=>by subst z;exact absurd hp hb);exact⟨kp,p,rfl,hp,E2,ok.mono (fun _ _ e _=>e) (fun b _ z=>z.imp (ow b) id) fun _ e=>e⟩
end
section
variable {P:hG}{w:gS}{K:hC}{mg:lL}{base:gU}
theorem OW{x qual:Str}{st:Stmt}{f:gv}{fd:nS}{N ps:iG}{k:Nat}{asg:iF}{fs:FS}(F:Fun K x qual st f fd)(S:FnScope N ps (gP st))
  (y8: ∀(f9:gL) (A:gW) (outer:List Env) (s:gA) (H:Hp) (E:XK) (L:jm),(∀i,L i->i<ps.length)->Room k (A.deeper (envOfC qual (gP st) s.heap.objs.size f f9))->
   B9 (Di CX0 P w K mg base N qual (gP st) f f9 A outer s H E).nox (fun i=>i∈asg) L H (nA st) fs):FnOk P w K mg base CX0 (k+1) f fd ps (spF K (evF N.length ps.length asg fs)):=by
 refine F.ok S (fun vs H Q E h=>?_) (fun f9 A outer s H vs Q E hr h=>?_)
 ·obtain⟨T,args,r,outs,E0,e,_⟩:=h;unfold evF at e;split at e
  ·rename_i hc;have:=E0.len;simp at this;rw[this];exact hc.1
  ·cases e
 ·obtain⟨T,args,r,outs,E0,e,kq⟩:=h;unfold evF at e;split at e
  ·rename_i hc;obtain⟨h1,h2,h3⟩:=hc;have hlen:vs.length=args.length:=by simpa using E0.len
   refine⟨_,y8 f9 A outer s H E (fun i=> ∃d,args[i]?=some (d,true)) (fun i ⟨d,hd⟩=>by have:=(uY.mp hd).1;lia) hr,?_⟩;have t8:L2.qb N vs=vs.map some++List.replicate (N.length-ps.length) none:=by unfold L2.qb;rw[hlen,h1]
   have hA: ∀(i:Nat) d,args[i]?=some (d,true)-> ¬(i∈asg):=fun i d hd hm=>by
    have hz:(args.zipIdx)[i]?=some ((d,true),i):=by rw[Iv,hd];simp
    have:=lU.mp h3 _ (mV hz);simp at this;exact this hm
   rw[t8]
   have fi:FI (fun i=> ∃d,args[i]?=some (d,true)) H (vs.map some++List.replicate (N.length-ps.length) none) (args.map some++List.replicate (N.length-ps.length) none) H:=⟨fun i a z=>by
    obtain⟨d,q1,_⟩:=HN.mp z;exact .inl ⟨d,rF.mp q1⟩,fun _ z=>z⟩
   cases hf:fs (args.map some++List.replicate (N.length-ps.length) none) with
   |none=>rw[hf] at e;cases e
   |some out=>
    rw[hf] at e;refine⟨_,T,out,E0.pad,fi,hf,?_⟩
    cases out with
    |rt r1 δ1=>
     obtain⟨rfl,rfl⟩:=gX e;exact fun v σ' H' S1 R1=>kq v H' (vS E0 S1 hA R1)
    |nx δ1=>
     obtain⟨rfl,rfl⟩:=gX e;exact fun σ' H' S1 E1=>kq .non H' (vS (r:=(.non,false)) E0 S1 hA ⟨E1,Rep.mkNon⟩)
    |bk δ1=>cases e
    |ct δ1=>cases e
  ·cases e
end
noncomputable def yH(δ:Dn):Opd->Option (D×Bool)
 | .val r=>some (r.1,false)
 | .slot i=>(δ[i]?).join
noncomputable def ku(δ:Dn):List Opd->Option (List (D×Bool))
 |[]=>some []
 |o::os=>(yH δ o).bind fun a=>(ku δ os).bind fun l=>some (a::l)
noncomputable def hW:List Opd->List (D×Bool)->List Nat
 | .slot i::os,(_,true)::as=>i::hW os as
 |_::os,_::as=>hW os as
 |_,_=>[]
noncomputable def wb:List Opd->List (D×Bool)->Dn->Dn->Dn
 | .slot i::os,(_,true)::as,o::outs,δ=>wb os as outs (δ.set i o)
 |_::os,_::as,_::outs,δ=>wb os as outs δ
 |_,_,_,δ=>δ
noncomputable def gJ(ev:EvF)(fs:List FO):F:=fun δ=>(je fs δ).bind fun p=>(ku p.2 p.1).bind fun args=>if(hW p.1 args).Nodup then(ev args).bind fun q=>some (q.1,wb p.1 args q.2 p.2) else none
theorem nP{δ:Dn}: ∀{os:List Opd} {as:List (D×Bool)},ku δ os=some as->as.length=os.length/\ ∀(j:Nat) a,as[j]?=some a-> ∃o,os[j]?=some o/\yH δ o=some a
 |[],as,h=>by cases h;exact⟨rfl,fun j d h=>by simp at h⟩
 |o::os,as,h=>by
  unfold ku at h;obtain⟨d,h1,h⟩:=gu h;obtain⟨l,h2,h⟩:=gu h;cases h;obtain⟨h3,h4⟩:=nP h2;refine⟨by simp[h3],fun j e he=>?_⟩
  cases j with
  |zero=>simp at he;subst he;exact⟨o,rfl,h1⟩
  |succ j=>
   obtain⟨o',q1,q2⟩:=h4 j e (by simpa using he);exact⟨o',by simpa using q1,q2⟩
theorem rq: ∀{os:List Opd} {as:List (D×Bool)} {j i:Nat} {d:D},os[j]?=some (.slot i)->as[j]?=some (d,true)->i∈hW os as
 |[],_,_,_,_,h,_=>by simp at h
 |_::_,[],_,_,_,_,h=>by simp at h
 |o::os,(e,b)::as,0,i,d,h1,h2=>by
  simp at h1 h2;obtain⟨rfl,rfl⟩:=h2;subst h1;simp[hW]
 |o::os,(e,b)::as,j+1,i,d,h1,h2=>by
  have ih:=rq (os:=os) (as:=as) (j:=j) (i:=i) (d:=d) (by simpa using h1) (by simpa using h2)
  cases o with
  |val r=>simpa[hW] using ih
  |slot k=>
   cases b with
   |true=>simp[hW,ih]
   |false=>simpa[hW] using ih
theorem zO: ∀{os:List Opd} {as:List (D×Bool)} {i:Nat},i∈hW os as-> ∃(j:Nat) (d:D),os[j]?=some (.slot i)/\as[j]?=some (d,true)
 |[],_,_,h=>by simp[hW] at h
 |o::_,[],_,h=>by cases o<;>simp[hW] at h
 |o::os,(e,b)::as,i,h=>by
  have cE:i∈hW os as-> ∃(j:Nat) (d:D),(o::os)[j]?=some (.slot i)/\((e,b)::as)[j]?=some (d,true):=fun h=>by
   obtain⟨j,d,h1,h2⟩:=zO h;exact⟨j+1,d,by simpa using h1,by simpa using h2⟩
  cases o with
  |val r=>exact cE (by simpa[hW] using h)
  |slot k=>
   cases b with
   |true=>
    simp[hW] at h;rcases h with rfl|h
    ·exact⟨0,e,rfl,rfl⟩
    ·exact cE h
   |false=>exact cE (by simpa[hW] using h)
theorem zP: ∀{os:List Opd} {as:List (D×Bool)} {j k i:Nat} {d e:D},(hW os as).Nodup->os[j]?=some (.slot i)->as[j]?=some (d,true)->os[k]?=some (.slot i)->as[k]?=some (e,true)->j=k
 |[],_,_,_,_,_,_,_,h,_,_,_=>by simp at h
 |_::_,[],_,_,_,_,_,_,_,h,_,_=>by simp at h
 |o::os,(e0,b)::as,j,k,i,d,e,nd,h1,h2,h3,h4=>by
  cases j with
  |zero=>
   cases k with
   |zero=>rfl
   |succ k=>
    simp at h1 h2;obtain⟨rfl,rfl⟩:=h2;subst h1;have:=rq (os:=os) (as:=as) (j:=k) (by simpa using h3) (by simpa using h4);simp[hW] at nd;exact absurd this nd.1
  |succ j=>
   cases k with
   |zero=>
    simp at h3 h4;obtain⟨rfl,rfl⟩:=h4;subst h3;have:=rq (os:=os) (as:=as) (j:=j) (by simpa using h1) (by simpa using h2);simp[hW] at nd;exact absurd this nd.1
   |succ k=>
    have dJ:(hW os as).Nodup:=by
     cases o with
     |val r=>simpa[hW] using nd
     |slot m=>
      cases b with
      |true=>simp[hW] at nd;exact nd.2
      |false=>simpa[hW] using nd
    have:=zP (os:=os) (as:=as) (j:=j) (k:=k) dJ (by simpa using h1) (by simpa using h2) (by simpa using h3) (by simpa using h4)
    lia
theorem xo: ∀{os:List Opd} {as:List (D×Bool)} {outs δ:Dn} {i:Nat},i∉hW os as->(wb os as outs δ)[i]?=δ[i]?
 |[],_,_,_,_,_=>by simp[wb]
 |o::_,[],_,_,_,_=>by cases o<;>simp[wb]
 |o::os,(e,b)::as,[],_,_,_=>by cases o<;>cases b<;>simp[wb]
 |o::os,(e,b)::as,x::outs,δ,i,h=>by
  cases o with
  |val r=>simp only[wb];exact xo (by simpa[hW] using h)
  |slot k=>
   cases b with
   |true=>
    simp[hW] at h;rw[wb,xo h.2,rX (pV h.1)]
   |false=>simp only[wb];exact xo (by simpa[hW] using h)
theorem xp: ∀{os:List Opd} {as:List (D×Bool)} {outs δ:Dn},(wb os as outs δ).length=δ.length
 |[],_,_,_=>by simp[wb]
 |o::_,[],_,_=>by cases o<;>simp[wb]
 |o::os,(e,b)::as,[],_=>by cases o<;>cases b<;>simp[wb]
 |o::os,(e,b)::as,x::outs,δ=>by
  cases o with
  |val r=>simp only[wb];exact xp
  |slot k=>
   cases b with
   |true=>simp only[wb];rw[xp,rS]
   |false=>simp only[wb];exact xp
theorem FX: ∀{os:List Opd} {as:List (D×Bool)} {outs δ:Dn} {i j:Nat} {d:D} {x:Sl},(hW os as).Nodup->os[j]?=some (.slot i)->as[j]?=some (d,true)->outs[j]?=some x->i<δ.length->(wb os as outs δ)[i]?=some x
 |[],_,_,_,_,_,_,_,_,h,_,_,_=>by simp at h
 |o::_,[],_,_,_,_,_,_,_,_,h,_,_=>by simp at h
 |o::os,(e,b)::as,[],_,_,_,_,_,_,_,_,h,_=>by simp at h
 |o::os,(e,b)::as,y::outs,δ,i,0,d,x,nd,h1,h2,h3,hi=>by
  simp at h1 h2 h3;obtain⟨rfl,rfl⟩:=h2;subst h1;subst h3;simp[hW] at nd;rw[wb,xo nd.1,qo hi]
 |o::os,(e,b)::as,y::outs,δ,i,j+1,d,x,nd,h1,h2,h3,hi=>by
  have dJ:(hW os as).Nodup:=by
   cases o with
   |val r=>simpa[hW] using nd
   |slot m=>
    cases b with
    |true=>simp[hW] at nd;exact nd.2
    |false=>simpa[hW] using nd
  cases o with
  |val r=>simp only[wb];exact FX dJ (by simpa using h1) (by simpa using h2) (by simpa using h3) hi
  |slot k=>
   cases b with
   |true=>simp only[wb];exact FX dJ (by simpa using h1) (by simpa using h2) (by simpa using h3) (by rw[rS];exact hi)
   |false=>simp only[wb];exact FX dJ (by simpa using h1) (by simpa using h2) (by simpa using h3) hi
section
variable {K:hC}{T T1:AP'}{σ:L2.St}{δ δ1:Dn}{H H1 H':Hp}{os:List Opd}{vs:List V}{args:List (D×Bool)}{outs:Dn}{r:D×Bool}{v:V}
noncomputable def Tc(T:AP')(σ:L2.St)(δ1:Dn)(vs:List V)(args:List (D×Bool)):AP':=fun a=>T a\/(OwnA σ δ1 a/\ ¬OwnA (vs.map some) (args.map some) a)
theorem uD(B:Ops K T σ δ H os vs δ1 H1 T1)(ha:ku δ1 os=some args){j:Nat}{d:D}(h:args[j]?=some (d,true)): ∃(i:Nat) (a:gv),os[j]?=some (.slot i)/\δ1[i]?=some (some (d,true))/\vs[j]?=some (.ref a)/\σ[i]?=some (some (.ref a)):=by
 obtain⟨hl,hg⟩:=nP ha;obtain⟨o,h1,h2⟩:=hg j _ h
 cases o with
 |val r=>cases h2
 |slot i=>
  have h3:δ1[i]?=some (some (d,true)):=rA h2;have hj:j<vs.length:=by have:=(uY.mp h1).1;have:=B.len;lia
  have hv:vs[j]?=some vs[j]:=jb hj;have h4:=B.slt j i _ h1 hv;obtain⟨a,h5,_⟩:=B.er.own i d h3;rw[h4] at h5;have:vs[j]=V.ref a:=by simpa using h5
  exact⟨i,a,h1,h3,by rw[hv,this],by rw[h4,this]⟩
theorem Gq(B:Ops K T σ δ H os vs δ1 H1 T1)(ha:ku δ1 os=some args){j:Nat}{a:gv}(h:OwnI (vs.map some) (args.map some) j a): ∃(i:Nat) (d:D),os[j]?=some (.slot i)/\args[j]?=some (d,true)/\OwnI σ δ1 i a:=by
 obtain⟨d,h1,h2⟩:=h;have h1':=rF.mp h1;obtain⟨i,b,q1,q2,q3,q4⟩:=uD B ha h1';have:=rF.mp h2;rw[q3] at this;cases this;exact⟨i,d,q1,h1',d,q2,q4⟩
theorem Gr(B:Ops K T σ δ H os vs δ1 H1 T1)(ha:ku δ1 os=some args){a:gv}(h:OwnA (vs.map some) (args.map some) a):OwnA σ δ1 a:=by
 obtain⟨j,d,h1,h2⟩:=h;obtain⟨i,_,_,_,e,q1,q2⟩:=Gq B ha ⟨d,h1,h2⟩;exact⟨i,e,q1,q2⟩
theorem GL(E:ER K H T σ δ)(B:Ops K T σ δ H os vs δ1 H1 T1)(ha:ku δ1 os=some args)(nd:(hW os args).Nodup):ER K H1 (Tc T σ δ1 vs args) (vs.map some) (args.map some):=by
 obtain⟨hl,hg⟩:=nP ha
 have sub: ∀b,(OwnA (vs.map some) (args.map some) b\/Tc T σ δ1 vs args b)->OwnA σ δ1 b\/T b:=fun b z=>by
  rcases z with z|z|z
  ·exact .inl (Gr B ha z)
  ·exact .inr z
  ·exact .inl z.1
 refine⟨by simp[hl,B.len],fun j d h=>?_,fun j d h=>?_,fun j k d e a h1 h2 h3 h4=>?_,fun a z t=>?_,fun a z=>?_⟩
 ·have h:=rF.mp h;obtain⟨o,h1,h2⟩:=hg j _ h;have hj:j<vs.length:=by have:=(uY.mp h1).1;have:=B.len;lia
  have hv:vs[j]?=some vs[j]:=jb hj;refine⟨_,rF.mpr hv,?_⟩
  cases o with
  |val q=>
   have:q.1=d:=by cases h2;rfl
   subst this;exact Rep.mono (fun _ _ e _=>e) (fun b _ z=>sub b z) (B.rep E h1 hv)
  |slot i=>
   have h3:δ1[i]?=some (some (d,false)):=rA h2;have h4:=B.slt j i _ h1 hv;obtain⟨w,w1,w2⟩:=B.er.val i d h3;rw[h4] at w1;have:vs[j]=w:=by simpa using w1
   rw[this];exact Rep.mono (fun _ _ e _=>e) (fun b _ z=>(sub b z).imp id (B.tt b)) w2
 ·obtain⟨i,a,q1,q2,q3,q4⟩:=uD B ha (rF.mp h);obtain⟨b,h5,h6⟩:=B.er.own i d q2;rw[q4] at h5;cases h5;exact⟨a,rF.mpr q3,h6.mono (fun _ _ e _=>e) (fun b _ z=>(sub b z).imp id (B.tt b)) fun _ e=>e⟩
 ·obtain⟨i,d1,q1,q2,e1,q3,q4⟩:=Gq B ha ⟨d,h1,h3⟩;obtain⟨i2,d2,g1,g2,e2,g3,g4⟩:=Gq B ha ⟨e,h2,h4⟩;have:=B.er.inj i i2 e1 e2 a q3 g3 q4 g4;subst this;exact zP nd q1 q2 g1 g2
 ·rcases t with t|t
  ·exact B.er.nT a (Gr B ha z) (B.tt a t)
  ·exact t.2 z
 ·rcases z with z|z
  ·exact B.er.dom a (B.tt a z)
  ·exact B.er.ownDom z.1
theorem GN{T' Td:AP'}(E:ER K H T σ δ)(B:Ops K T σ δ H os vs δ1 H1 T1)(ha:ku δ1 os=some args)(nd:(hW os args).Nodup)(kC:Keep (vs.map some) (args.map some) H1 outs H')
  (E':ER K H' Td (vs.map some) outs)(t1: ∀b,Tc T σ δ1 vs args b->Td b)(t2: ∀b,T' b->Td b)(t3: ∀b,H1 b≠none->T' b->T b):
  ER K H' T' σ (wb os args outs δ1)/\(∀b,OwnA σ (wb os args outs δ1) b->OwnA (vs.map some) outs b\/Tc T σ δ1 vs args b)/\Keep σ δ1 H1 (wb os args outs δ1) H':=by
 obtain⟨hl,hg⟩:=nP ha;have ol:outs.length=args.length:=by have:=E'.len;have:=B.len;simp at*;lia
 have aW: ∀(i:Nat) (x:Sl),(wb os args outs δ1)[i]?=some x->(i∉hW os args/\δ1[i]?=some x)\/ ∃(j:Nat) (d:D),os[j]?=some (.slot i)/\args[j]?=some (d,true)/\outs[j]?=some x:=fun i x h=>by
  by_cases hm:i∈hW os args
  ·right;obtain⟨j,d,h1,h2⟩:=zO hm;have hj:j<outs.length:=by have:=(uY.mp h2).1;lia
   have ho:outs[j]?=some outs[j]:=jb hj;have hi:i<δ1.length:=by have:=(uY.mp h).1;rwa [xp] at this
   have:=FX (δ:=δ1) nd h1 h2 ho hi;rw[h] at this;cases this;exact⟨j,d,h1,h2,ho⟩
  ·left;rw[xo hm] at h;exact⟨hm,h⟩
 have notL: ∀{i:Nat} {a:gv},i∉hW os args->OwnI σ δ1 i a-> ¬OwnA (vs.map some) (args.map some) a:=fun {i a} hm ⟨e,q1,q2⟩ ⟨j,d,h1,h2⟩=>by
  obtain⟨i2,d2,g1,g2,e2,g3,g4⟩:=Gq B ha ⟨d,h1,h2⟩;have:=B.er.inj i i2 e e2 a q1 g3 q2 g4;subst this;exact hm (rq g1 g2)
 have aY: ∀i a,OwnI σ (wb os args outs δ1) i a->OwnI σ δ1 i a/\(OwnA (vs.map some) outs a\/Tc T σ δ1 vs args a):=fun i a ⟨d,h1,h2⟩=>by
  rcases aW i _ h1 with⟨hm,h3⟩|⟨j,e,g1,g2,g3⟩
  ·exact⟨⟨d,h3,h2⟩,.inr (.inr ⟨⟨i,d,h3,h2⟩,notL hm ⟨d,h3,h2⟩⟩)⟩
  ·obtain⟨i2,b,q1,q2,q3,q4⟩:=uD B ha g2;rw[g1] at q1;cases q1;rw[h2] at q4;cases q4;exact⟨⟨e,q2,h2⟩,.inl ⟨j,d,g3,rF.mpr q3⟩⟩
 have aF: ∀b,OwnA σ (wb os args outs δ1) b->OwnA (vs.map some) outs b\/Tc T σ δ1 vs args b:=fun b ⟨i,d,h1,h2⟩=>(aY i b ⟨d,h1,h2⟩).2
 have eB: ∀b,OwnA σ (wb os args outs δ1) b->OwnA σ δ1 b:=fun b ⟨i,d,h1,h2⟩=>by
  obtain⟨⟨e,q1,q2⟩,_⟩:=aY i b ⟨d,h1,h2⟩;exact⟨i,e,q1,q2⟩
 have kp: ∀a o,H1 a=some o-> ¬OwnA σ δ1 a->H' a=some o:=fun a o e n=>kC.kp a o e fun z=>n (Gr B ha z)
 have subO: ∀b,(OwnA σ (wb os args outs δ1) b\/T' b)->OwnA (vs.map some) outs b\/Td b:=fun b z=>by
  rcases z with z|z
  ·exact(aF b z).imp id (t1 b)
  ·exact .inr (t2 b z)
 refine⟨⟨by rw[xp];exact B.er.len,fun i d h=>?_,fun i d h=>?_,fun i k d e a h1 h2 h3 h4=>?_,fun a z t=>?_,fun a z=>E'.dom a (t2 a z)⟩,aF,⟨kp,fun i a z=>(aY i a z).1,kC.dm⟩⟩
 ·rcases aW i _ h with⟨hm,h3⟩|⟨j,e,g1,g2,g3⟩
  ·obtain⟨w,w1,w2⟩:=B.er.val i d h3;exact⟨w,w1,Rep.mono (fun b o e n=>kp b o e fun z=>n (.inl z)) (fun b hb z=>z.imp (eB b) fun z=>B.tt b (t3 b hb z)) w2⟩
  ·obtain⟨i2,b,q1,q2,q3,q4⟩:=uD B ha g2;rw[g1] at q1;cases q1;obtain⟨w,w1,w2⟩:=E'.val j d g3;have:=rF.mp w1;rw[q3] at this;cases this;exact⟨_,q4,Rep.mono (fun _ _ e _=>e) (fun b _ z=>subO b z) w2⟩
 ·rcases aW i _ h with⟨hm,h3⟩|⟨j,e,g1,g2,g3⟩
  ·obtain⟨a,w1,w2⟩:=B.er.own i d h3;exact⟨a,w1,w2.mono (fun b o e n=>kp b o e fun z=>n (.inl z)) (fun b hb z=>z.imp (eB b) fun z=>B.tt b (t3 b hb z)) fun o e=>kC.kp a o e (notL hm ⟨d,h3,w1⟩)⟩
  ·obtain⟨i2,b,q1,q2,q3,q4⟩:=uD B ha g2;rw[g1] at q1;cases q1;obtain⟨a,w1,w2⟩:=E'.own j d g3;have:=rF.mp w1;rw[q3] at this;cases this;exact⟨_,q4,w2.mono (fun _ _ e _=>e) (fun b _ z=>subO b z) fun _ e=>e⟩
 ·obtain⟨⟨e1,q1,q2⟩,_⟩:=aY i a ⟨d,h1,h3⟩;obtain⟨⟨e2,q3,q4⟩,_⟩:=aY k a ⟨e,h2,h4⟩;exact B.er.inj i k e1 e2 a q1 q3 q2 q4
 ·exact B.er.nT a (eB a z) (B.tt a (t3 a (B.er.ownDom (eB a z)) t))
theorem Ds(E:ER K H T σ δ)(B:Ops K T σ δ H os vs δ1 H1 T1)(ha:ku δ1 os=some args)(nd:(hW os args).Nodup)(P:Post K (Tc T σ δ1 vs args) (vs.map some) (args.map some) H1 r outs v H'):
  Post K T σ δ H r (wb os args outs δ1) v H':=by
 obtain⟨d,b⟩:=r
 cases b with
 |false=>
  obtain⟨kC,E',rv⟩:=P;obtain⟨E2,ow,k2⟩:=GN (T':=T) E B ha nd kC E' (fun _ z=>z) (fun _ z=> .inl z) (fun _ _ z=>z);refine⟨B.keep.trans k2,E2,Rep.mono (fun _ _ e _=>e) (fun b _ z=>?_) rv⟩;rcases z with z|z
  ·exact ow b z
  ·exact .inr (.inl z)
 |true=>
  obtain⟨kC,p,rfl,hp,E',ok⟩:=P;obtain⟨E2,ow,k2⟩:=GN (T':=fun a=>T a\/a=p) E B ha nd kC E' (fun _ z=> .inl z) (fun b z=>z.elim (fun z=> .inl (.inl z)) .inr) (fun b hb z=>z.elim id fun z=>by subst z;exact absurd hp hb);refine⟨B.keep.trans k2,p,rfl,?_,E2,ok.mono (fun _ _ e _=>e) (fun b _ z=>?_) fun _ e=>e⟩
  ·cases hH:H p with
   |none=>rfl
   |some ob=>exact absurd hp (B.keep.dm p (by rw[hH];simp))
  ·rcases z with z|z|z
   ·exact(ow b z).imp id .inl
   ·exact .inr (.inl (.inl z))
   ·exact .inr (.inr z)
end
section
variable {X:Cx}{e:gM}{es:jF}{fs:List FO}{pos p:Pos}{k:Nat}{f:gv}{fd:nS}{ps:iG}{ev:EvF}{x:Str}
theorem LI(F:FnOk X.prog X.w X.K X.mg X.base CX0 k f fd ps (spF X.K ev))(hr:Room k X.A)(hg:Gl X x)(hm:X.mg x=some (.ref f))(hk:PySem.W.keepIn X.K (.ref f)=true)(hb:Binds X.K fd ps [])
  (ha:PA X (e::es) (tA X.K fs))(p7:(x==("__debug__":Str))=false)(he:starEach (e::es) X.env=(false,eval e X.env)::starEach es X.env)(i8:(backTo pos (starEach es X.env)).any (·.1)=false):
  PX X (.Call (.Name x p) (e::es) [] pos) (gJ ev fs):=PX.imp (Mi F hr hg hm hk hb (.nil) Qm ha p7 he i8) fun σ H Q hw=>by
 obtain⟨δ,T,rr,δ',E,e,k⟩:=hw;obtain⟨⟨os,δ1⟩,h1,e⟩:=gu e;obtain⟨args,h2,e⟩:=gu e;dsimp only at e;split at e
 ·rename_i nd;obtain⟨⟨r,outs⟩,h3,e⟩:=gu e;obtain⟨rfl,rfl⟩:=gX e;refine⟨δ,T,os,δ1,E,h1,fun vs H1 T1 B=>?_⟩;show spF X.K ev (vs++[]) H1 Q E0;rw[sX];exact⟨Tc T σ δ1 vs args,args,r,outs,GL E B h2 nd,h3,fun v H' P=>k v H' (Ds E B h2 nd P)⟩
 ·cases e
end
structure SKd(A:jm)(d:gv)(σ:L2.St)(δ:Dn)(H:Hp)(σ':L2.St)(δ':Dn)(H':Hp):Prop where
 kp: ∀a o,H a=some o-> ¬OwnA σ δ a->a≠d->H' a=some o
 owi: ∀i a,OwnI σ' δ' i a->OwnI σ δ i a\/H a=none
 dm: ∀a,H a≠none->H' a≠none
 as: ∀i,¬A i->σ'[i]?=σ[i]?
section
variable {A:jm}{d:gv}{σ σ1 σ2:L2.St}{δ δ1 δ2:Dn}{H H1 H2:Hp}
theorem SK.skd(k:SK A σ δ H σ1 δ1 H1):SKd A d σ δ H σ1 δ1 H1:=⟨fun a o e n _=>k.kp a o e n,k.owi,k.dm,k.as⟩
theorem SKd.ow(k:SKd A d σ δ H σ1 δ1 H1)(a:gv)(h:OwnA σ1 δ1 a):OwnA σ δ a\/H a=none:=by
 obtain⟨i,e,h1,h2⟩:=h;rcases k.owi i a ⟨e,h1,h2⟩ with⟨e,h3,h4⟩|z
 ·exact .inl ⟨i,e,h3,h4⟩
 ·exact .inr z
theorem SKd.trans(x:SKd A d σ δ H σ1 δ1 H1)(y:SKd A d σ1 δ1 H1 σ2 δ2 H2):SKd A d σ δ H σ2 δ2 H2 where
 kp:=fun a o e n nd=>y.kp a o (x.kp a o e n nd) (fun z=>(x.ow a z).elim n fun z=>by rw[z] at e;cases e) nd
 owi:=fun i a z=>(y.owi i a z).elim (x.owi i a) fun z=> .inr (by
  cases h:H a with
  |none=>rfl
  |some o=>exact absurd z (x.dm a (by rw[h];simp)))
 dm:=fun a z=>y.dm a (x.dm a z)
 as:=fun i h=>(y.as i h).trans (x.as i h)
end
structure BS(K:hC)(d:gv)(T:AP')(σ:L2.St)(δ:Dn)(acc:List D)(H:Hp):Prop where
 er:ER K H T σ δ
 td:T d
 at': ∃ys,H d=some (.lst ys)/\RepL K H (fun a=>OwnA σ δ a\/T a) acc ys
abbrev FB:=List D->Dn->Option (List D×Dn)
def tBx(K:hC)(A:jm)(d:gv)(f:FB):TB:=fun σ H N=> ∃δ T acc i3 δ',BS K d T σ δ acc H/\f acc δ=some (i3,δ')/\ ∀σ' H',SKd A d σ δ H σ' δ' H'->BS K d T σ' δ' i3 H'->N σ' H'
noncomputable def jq(f:F):FB:=fun acc δ=>(f δ).bind fun p=>if acc.length<sizeLine then some (acc++[p.1.1],p.2) else none
noncomputable def mJ(tg:Tg)(ti:FT)(fb:FB):List D->FB
 |[],acc,δ=>some (acc,δ)
 |x::xs,acc,δ=>(tg x δ).bind fun δ1=>(ti δ1).bind fun p=>(if p.1=true then fb acc p.2 else some (acc,p.2)).bind fun q=>mJ tg ti fb xs q.1 q.2
section
variable {K:hC}{A:jm}{d:gv}{T:AP'}{σ σ1:L2.St}{δ δ1:Dn}{acc:List D}{H H1:Hp}
theorem BS.step(b:BS K d T σ δ acc H)(k:SK A σ δ H σ1 δ1 H1)(E1:ER K H1 T σ1 δ1):BS K d T σ1 δ1 acc H1:=by
 obtain⟨ys,h1,h2⟩:=b.at';refine⟨E1,b.td,ys,k.kp d _ h1 fun z=>b.er.nT d z b.td,RepL.mono (fun b o e n=>k.kp b o e fun z=>n (.inl z)) (fun c hc z=>?_) h2⟩;rcases z with z|z
 ·exact(k.ow c z).elim Or.inl fun z=>absurd z hc
 ·exact .inr z
theorem Mx{g:TG}{ti:TT}{tb:TB}{tg:Tg}{ft:FT}{fb:FB}{J:It}{ds:List D}{N:L2.St->Hp->Prop}{i3:List D}{δ':Dn}(hg: ∀v σ H Q,tG K A tg v σ H Q->g v σ H Q)(hi: ∀σ H Q,tT K ft σ H Q->ti σ H Q)(hb: ∀σ H N,tBx K A d fb σ H N->tb σ H N)
  (b:BS K d T σ δ acc H)(O:AP')(ok:ItOk K J ds O H1)(s1: ∀a o,H1 a=some o-> ¬O a->H a=some o)(s2: ∀a,H1 a≠none->(OwnA σ δ a\/T a)->O a)(s3: ∀a,H1 a≠none->H a≠none)(e:mJ tg ft fb ds acc δ=some (i3,δ'))
  (k: ∀σ' H',SKd A d σ δ H σ' δ' H'->BS K d T σ' δ' i3 H'->N σ' H'):Jc J g ti tb σ H N:=by
 refine⟨fun i m σ2 H2=>m=ds.length-i/\i<=ds.length/\ ∃δ2 bB,SKd A d σ δ H σ2 δ2 H2/\BS K d T σ2 δ2 bB H2/\mJ tg ft fb (ds.drop i) bB δ2=some (i3,δ'),⟨ds.length,by simp,lY _,δ,acc,SK.refl.skd,b,by simpa using e⟩,?_⟩;rintro i m σ2 H2 ⟨rfl,hle,δ2,bB,S2,B2,e2⟩
 have hO: ∀a,H1 a≠none->(OwnA σ2 δ2 a\/T a)->O a:=fun a ha z=>by
  rcases z with z|z
  ·exact(S2.ow a z).elim (fun z=>s2 a ha (.inl z)) fun z=>absurd z (s3 a ha)
  ·exact s2 a ha (.inr z)
 have aX: ∀a o,H1 a=some o-> ¬O a->H2 a=some o:=fun a o ea n=>S2.kp a o (s1 a o ea n) (fun z=>n (s2 a (by rw[ea];simp) (.inl z))) (fun z=>n (s2 a (by rw[ea];simp) (.inr (by rw[z];exact b.td))));by_cases i6:i<ds.length
 ·refine .inr ?_;have hd:ds[i]?=some ds[i]:=jb i6;obtain⟨go,yl⟩:=ok.go i _ H2 hd aX;rw[sO i6] at e2;obtain⟨δ3,h3,e3⟩:=gu e2;obtain⟨⟨c,δ4⟩,h4,e4⟩:=gu e3;obtain⟨⟨acc5,δ5⟩,h5,e5⟩:=gu e4;refine⟨go,fun x H' hy=>?_⟩;obtain⟨ext,rep⟩:=yl x H' hy
  have ej:ER K H' T σ2 δ2:=B2.er.mono (fun b ob eb _=>ext b ob eb) (fun _ _ z=>z) (fun a z=>by
   cases hh:H2 a with
   |none=>exact absurd hh (B2.er.dom a z)
   |some ob=>rw[ext a ob hh];simp)
  have SX:SK A σ2 δ2 H2 σ2 δ2 H':=(Keep.ext ext).sk;have B2':=B2.step SX ej;have gk:SKd A d σ δ H σ2 δ2 H':=S2.trans SX.skd;have rx:=rep (fun a=>OwnA σ2 δ2 a\/T a) hO (fun b hb z=>z.elim (fun z=>B2.er.ownDom z hb) fun z=>B2.er.dom b z hb);refine hg _ _ _ _ ⟨δ2,T,ds[i],δ3,ej,rx,h3,fun σ3 S3 E3=>?_⟩;have B3:=B2'.step S3 E3;have da:=gk.trans S3.skd;refine hi _ _ _ ⟨δ3,T,c,δ4,E3,h4,fun H4 K4 E4=>?_⟩;have S4:SK A σ3 δ3 H' σ3 δ4 H4:=K4.sk;have B4:=B3.step S4 E4;have S4':=da.trans S4.skd
  cases c with
  |false=>
   rw[gF jB] at h5;obtain⟨rfl,rfl⟩:=gX h5;exact QH ⟨ds.length-(i+1),by lia,rfl,i6,δ4,bB,S4',B4,e5⟩
  |true=>
   rw[gD rfl] at h5;exact QE (hb _ _ _ ⟨δ4,T,bB,acc5,δ5,B4,h5,fun σ5 H5 S5 B5=>⟨ds.length-(i+1),by lia,rfl,i6,δ5,acc5,S4'.trans S5,B5,e5⟩⟩)
 ·refine .inl ⟨ok.stop i H2 (by lia) aX,?_⟩;rw[xg (by lia)] at e2;obtain⟨rfl,rfl⟩:=gX e2;exact k σ2 H2 S2 B2
end
section
variable {X:Cx}{A:jm}{d:gv}{elt:gM}{f:F}
theorem PB.imp'{code:Sem Unit}{t t':TB}(h:PB X code t)(k: ∀σ H N,t' σ H N->t σ H N):PB X code t':=fun pins s σ H N I hw=>h pins s σ H N I (k σ H N hw)
theorem JW{gens:rO}{sc:jZ}{p:Pos}{depth:Nat}(hn:gens[depth+1]?=none)(he:PX X elt f):PB X (jU (.ListComp elt gens sc p) depth (.ref d) X.env) (tBx X.K A d (jq f)):=PB.imp' (Mk hn he) fun σ H N hw=>by
 obtain⟨δ,T,acc,i3,δ',B,e,k⟩:=hw;obtain⟨⟨r,δ1⟩,h1,e⟩:=gu e;obtain⟨hz,e⟩:=iu e;obtain⟨rfl,rfl⟩:=sP e;refine⟨δ,T,r,δ1,B.er,h1,fun v H1 P=>?_⟩;obtain⟨E1,rv⟩:=P.rep B.er;have S1:SK A σ δ H σ δ1 H1:=P.1.sk;have B1:=B.step S1 E1;obtain⟨ys,hy,ry⟩:=B1.at';refine⟨ys,hy,by rw[ry.length];exact hz,k σ _ ?_ ?_⟩
 ·have:SKd A d σ δ1 H1 σ δ1 (upd H1 d (.lst (ys++[v]))):=⟨fun a o e n nd=>by rw[iE nd];exact e,fun i a z=> .inl z,fun a z=>by
   by_cases ha:a=d
   ·subst ha;rw[iC];simp
   ·rw[iE ha];exact z,fun _ _=>rfl⟩
  exact S1.skd.trans this
 ·have hk: ∀b o,H1 b=some o-> ¬T b->upd H1 d (.lst (ys++[v])) b=some o:=fun b o e n=>by rw[iE (by intro z;subst z;exact n B.td)];exact e
  have hd: ∀a,T a->upd H1 d (.lst (ys++[v])) a≠none:=fun a z=>by
   by_cases ha:a=d
   ·subst ha;rw[iC];simp
   ·rw[iE ha];exact E1.dom a z
  refine⟨E1.mono hk (fun _ _ z=>z) hd,B.td,ys++[v],iC,?_⟩;exact RepL.mono (fun b o e n=>hk b o e fun z=>n (.inr z)) (fun _ _ z=>z) (ry.append (RepL.one rv))
end
noncomputable def iY(caps:iF)(k:Nat)(fi:FIt)(tg:Tg)(ti:FT)(fb:FB):F:=fun δ=>(fi δ).bind fun p=>(ku p.2 (caps.map .slot)).bind fun args=>
 if(hW (caps.map .slot) args).Nodup then(mJ tg ti fb p.1 [] (args.map some++List.replicate k none)).bind fun q=>some ((.lst q.1,true),wb (caps.map .slot) args (hX args q.2) p.2) else none
noncomputable def Hh(caps:iF)(k:Nat)(σ:L2.St):L2.St:=(caps.map fun j=>(σ[j]?).join)++List.replicate k none
theorem Dp{K:hC}{caps:iF}{k:Nat}{fi:FIt}{tg:Tg}{ti:FT}{fb:FB}{σ:L2.St}{H:Hp}{Q:VK}(h:tF K (iY caps k fi tg ti fb) σ H Q):
  Jd (tI K fi) (tG K (fun i=>caps.length<=i) tg) (tT K ti) (fun d=>tBx K (fun i=>caps.length<=i) d fb) (Hh caps k) σ H Q:=by
 obtain⟨δ,T,rr,δr,E,e,kq⟩:=h;obtain⟨⟨ds,δ1⟩,h1,e⟩:=gu e;obtain⟨args,ha,e⟩:=gu e;dsimp only at e ha;split at e
 case isFalse=>cases e
 rename_i nd;obtain⟨⟨acc,δ'⟩,h2,e⟩:=gu e;obtain⟨rfl,rfl⟩:=gX e;refine⟨δ,T,ds,δ1,E,h1,fun J H1 K1 E1 ok d hd=>?_⟩;obtain⟨hl,hg⟩:=nP ha;have dS:args.length=caps.length:=by simpa using hl
 let vs:List V:=caps.map fun j=>((σ[j]?).join).getD .non
 have there: ∀(i j:Nat),caps[i]?=some j-> ∃v,σ[j]?=some (some v):=fun i j hj=>by
  have hi:i<args.length:=by have:=(uY.mp hj).1;lia
  obtain⟨o,q1,q2⟩:=hg i _ (jb hi);rw[lH,hj] at q1;cases q1;have q3:=rA q2;generalize args[i]=y at q3;obtain⟨x,b⟩:=y
  cases b with
  |false=>obtain⟨v,h,_⟩:=E1.val j x q3;exact⟨v,h⟩
  |true=>obtain⟨a,h,_⟩:=E1.own j x q3;exact⟨_,h⟩
 have hvs: ∀(i j:Nat),caps[i]?=some j-> ∃v,vs[i]?=some v/\σ[j]?=some (some v):=fun i j hj=>by
  obtain⟨v,hv⟩:=there i j hj;refine⟨v,?_,hv⟩;show(caps.map fun j=>((σ[j]?).join).getD .non)[i]?=some v;rw[lH,hj];simp[hv]
 have aH:Hh caps k σ=vs.map some++List.replicate k none:=by
  unfold Hh
  congr 1
  apply xf;intro i;show _=((caps.map fun j=>((σ[j]?).join).getD .non).map some)[i]?;rw[lH,lH,lH]
  cases hj:caps[i]? with
  |none=>rfl
  |some j=>obtain⟨v,hv⟩:=there i j hj;simp[hv]
 have B0:Ops K T σ δ1 H1 (caps.map Opd.slot) vs δ1 H1 T:=by
  refine⟨by simp[vs],.refl,E1,fun _ z=>z,fun j x v hj=>?_,fun j x v hj=>?_,fun j i v hj hv=>?_⟩
  ·rw[lH] at hj;obtain⟨_,_,z⟩:=jf hj;cases z
  ·rw[lH] at hj;obtain⟨_,_,z⟩:=jf hj;cases z
  ·rw[lH] at hj;obtain⟨c,hc,z⟩:=jf hj;cases z;obtain⟨v',q1,q2⟩:=hvs j i hc;rw[hv] at q1;cases q1;exact q2
 have Ec:=GL E1 B0 ha nd
 have hA: ∀(i:Nat) x,args[i]?=some (x,true)-> ¬(caps.length<=i):=fun i x hx=>by
  have:=(uY.mp hx).1
  lia
 rw[aH];have hx:=kR (o:= .lst []) hd
 have nz: ∀a,H1 a≠none->upd H1 d (.lst []) a≠none:=fun a z=>by
  cases hh:H1 a with
  |none=>exact absurd hh z
  |some o=>rw[hx a o hh];simp
 have b0:BS K d (fun a=>Tc T σ δ1 vs args a\/a=d) (vs.map some++List.replicate k none) (args.map some++List.replicate k none) [] (upd H1 d (.lst [])):=by
  refine⟨(Ec.pad).mono (fun b o eb _=>hx b o eb) (fun b hb z=>z.elim id fun z=>by subst z;exact absurd hd hb) (fun a z=>?_),.inr rfl,[],iC,RepL.nil⟩;rcases z with z|z
  ·exact nz a (Ec.dom a z)
  ·subst z;rw[iC];simp
 refine Mx (fun _ _ _ _ h=>h) (fun _ _ _ h=>h) (fun _ _ _ h=>h) b0 _ ok (fun a o ea _=>hx a o ea) (fun a ha0 z=>?_) nz h2 fun σ' H2 S2 B2=>?_
 ·rcases z with z|z|z
  ·exact .inl (Gr B0 ha (Ll.mp z))
  ·rcases z with z|z
   ·exact .inr z
   ·exact .inl z.1
  ·subst z;exact absurd hd ha0
 ·have SS:SK (fun i=>caps.length<=i) (vs.map some++List.replicate k none) (args.map some++List.replicate k none) H1 σ' δ' H2:=
   ⟨fun a o ea n=>S2.kp a o (hx a o ea) n (by intro z;subst z;rw[ea] at hd;cases hd),fun i a z=>(S2.owi i a z).imp id fun z=>by
    cases hh:H1 a with
    |none=>rfl
    |some o=>exact absurd z (nz a (by rw[hh];simp)),fun a z=>S2.dm a (nz a z),S2.as⟩
  obtain⟨ys,hy,ry⟩:=B2.at';have P:=vS (r:=(.lst acc,true)) (v:= .ref d) Ec SS hA ⟨d,rfl,hd,B2.er,ys,hy,RepL.mono (fun _ _ e _=>e) (fun b _ z=>z) ry⟩;exact kq (.ref d) H2 ((Ds E1 B0 ha nd P).pre K1)
section
variable {X:Cx}{elt:gM}{c:rN}{ie:rO}{scope:jZ}{pos d9 py:Pos}{N':iG}{caps:iF}{k:Nat}{fi:FIt}{tg:Tg}{ti:FT}{fb:FB}{A L:jm}{H0:Hp}
structure CompOk(X:Cx)(N':iG)(scope:jZ)(caps:iF)(k:Nat):Prop where
 cell: ∀y∈scope.names,y.2≠ .cell
 kind:scope.kind= .function
 names: ∀y∈scope.names,y.2= .local->scope.names.lookup y.1=some .local
 free: ∀y∈scope.names,y.2= .free->X.env.scope.names.lookup y.1=some .cell\/X.env.scope.names.lookup y.1=some .free
 len:caps.length+k=N'.length
 caps: ∀(i j:Nat) (x:Str),caps[i]?=some j->N'[i]?=some x->X.N[j]?=some x/\scope.names.lookup x=some .free
theorem CompOk.sco(C:CompOk X N' scope caps k):CompScope X N' scope (Hh caps k):=by
 refine⟨C.cell,C.kind,C.names,C.free,fun σ=>by simp[Hh,C.len],fun σ i v x h1 h2=>?_⟩;unfold Hh at h1;by_cases hi:i<caps.length
 ·rw[xk (by simpa using hi),lH,jb hi] at h1;obtain⟨q1,q2⟩:=C.caps i caps[i] x (jb hi) h2;refine⟨q2,caps[i],q1,?_⟩;have h3:(σ[caps[i]]?).join=some v:=by simpa using h1
  cases hs:σ[caps[i]]? with
  |none=>rw[hs] at h3;cases h3
  |some y=>rw[hs] at h3;exact rW some h3
 ·rw[vz (by simpa using hi),List.getElem?_replicate] at h1;split at h1<;>cases h1
theorem LQ(C:CompOk X N' scope caps k)(hc:X.calm=true)(ha:c.is_async=0)(v8: ∀g',ie[0]?=some g'->g'.is_async=0)
  (hs: ∀x,foldedSetIterable c.iter X.env x=pure x)(pi:PIX X c.target c.iter fi)
  (aN: ∀(cl:qc) (C:gv) (s3:gA) (H3:Hp) (fp:kb) (pins:ik),let X':=X.comp N' scope cl C s3 H3 fp pins
   PGX X' (fun i=>caps.length<=i) c.target tg/\PIf X' c.ifs (tT X.K ti)/\ ∀d,PB X' (jU (.ListComp elt (c::ie) scope pos) 0 (.ref d) X'.env) (tBx X.K (fun i=>caps.length<=i) d fb)):
  PX X (.ListComp elt (c::ie) scope pos) (iY caps k fi tg ti fb):=PX.imp (JS (g:=tG X.K (fun i=>caps.length<=i) tg) (ti:=tT X.K ti) (tb:=fun d=>tBx X.K (fun i=>caps.length<=i) d fb) C.sco hc ha v8 hs pi aN) fun σ H Q h=>Dp h
theorem JB{y:Str}{i:Nat}(dO:swapsWith (.ListComp elt (c::ie) scope pos) (some (.Name y py)) d9.line X.env=pure true)
  (C:CompOk X N' scope caps k)(hc:X.calm=true)(ha:c.is_async=0)(v8: ∀g',ie[0]?=some g'->g'.is_async=0)
  (hs: ∀x,foldedSetIterable c.iter X.env x=pure x)(pi:PIX X c.target c.iter fi)(fv:PG X (.Name y py) (C6 i))(hA:A i)
  (aN: ∀(cl:qc) (C:gv) (s3:gA) (H3:Hp) (fp:kb) (pins:ik),let X':=X.comp N' scope cl C s3 H3 fp pins
   PGX X' (fun i=>caps.length<=i) c.target tg/\PIf X' c.ifs (tT X.K ti)/\ ∀d,PB X' (jU (.ListComp elt (c::ie) scope pos) 0 (.ref d) X'.env) (tBx X.K (fun i=>caps.length<=i) d fb)):
  PSX X A L H0 (.Assign [.Name y py] (.ListComp elt (c::ie) scope pos) d9) (ir i (iY caps k fi tg ti fb)):=PS.imp' (JG (g:=tG X.K (fun i=>caps.length<=i) tg) (ti:=tT X.K ti) (tb:=fun d=>tBx X.K (fun i=>caps.length<=i) d fb) dO C.sco hc ha v8 hs pi fv aN) fun D σ H hw=>by
 obtain⟨δ,T,out,E,fi,e,k⟩:=hw;obtain⟨⟨r,δ1⟩,h3,e⟩:=gu e;obtain⟨hi,rfl⟩:=iu e;refine Dp ⟨δ,T,r,δ1,E,h3,fun v H1 P=>?_⟩;obtain⟨h1,h2⟩:=xu (A:=A) E P hi hA;exact k _ H1 h1 h2
end
section
variable {K:hC}{T:AP'}{σ:L2.St}{δ:Dn}{H:Hp}{i:Nat}{l l':List D}{a:gv}{cA:List V}
theorem OwnI.write{j:Nat}{b:gv}(hd:δ[i]?=some (some (.lst l,true)))(h:OwnI σ (δ.set i (some (.lst l',true))) j b):OwnI σ δ j b:=by
 obtain⟨e,h1,h2⟩:=h;rcases kF h1 with⟨rfl,_,_⟩|⟨_,q⟩
 ·exact⟨_,hd,h2⟩
 ·exact⟨e,q,h2⟩
theorem ER.write(E:ER K H T σ δ)(hd:δ[i]?=some (some (.lst l,true)))(hs:σ[i]?=some (some (.ref a)))(r:RepL K H (fun b=>OwnA σ δ b\/T b) l' cA):
  ER K (upd H a (.lst cA)) T σ (δ.set i (some (.lst l',true)))/\Keep σ δ H (δ.set i (some (.lst l',true))) (upd H a (.lst cA)):=by
 have hi:i<δ.length:=(uY.mp hd).1;have oa:OwnA σ δ a:=⟨i,_,hd,hs⟩
 have aF: ∀b,OwnA σ (δ.set i (some (.lst l',true))) b->OwnA σ δ b:=fun b ⟨j,e,h1,h2⟩=>by
  obtain⟨e',q1,q2⟩:=OwnI.write hd ⟨e,h1,h2⟩;exact⟨j,e',q1,q2⟩
 have kp: ∀b o,H b=some o-> ¬(OwnA σ δ b\/T b)->upd H a (.lst cA) b=some o:=fun b o e n=>by rw[iE (by intro z;subst z;exact n (.inl oa))];exact e
 have dm: ∀b,H b≠none->upd H a (.lst cA) b≠none:=fun b z=>by
  by_cases hb:b=a
  ·subst hb;rw[iC];simp
  ·rw[iE hb];exact z
 have sub: ∀b,H b≠none->(OwnA σ (δ.set i (some (.lst l',true))) b\/T b)->OwnA σ δ b\/T b:=fun b _ z=>z.imp (aF b) id;refine⟨⟨by rw[rS];exact E.len,fun j e hj=>?_,fun j e hj=>?_,fun j k e f b hj hk h1 h2=>?_,fun b z=>E.nT b (aF b z),fun b z=>dm b (E.dom b z)⟩,⟨fun b o e n=>by rw[iE (by intro z;subst z;exact n oa)];exact e,fun j b z=>OwnI.write hd z,dm⟩⟩
 ·rcases kF hj with⟨_,_,q⟩|⟨_,q⟩
  ·cases q
  ·obtain⟨w,w1,w2⟩:=E.val j e q;exact⟨w,w1,Rep.mono kp sub w2⟩
 ·rcases kF hj with⟨rfl,_,q⟩|⟨ne,q⟩
  ·cases q;exact⟨a,hs,cA,iC,RepL.mono kp sub r⟩
  ·obtain⟨b,w1,w2⟩:=E.own j e q;refine⟨b,w1,w2.mono kp sub fun o eo=>?_⟩;rw[iE]
   ·exact eo
   ·intro z;subst z;exact ne (E.inj i j _ _ _ hd q hs w1)
 ·obtain⟨e1,q1,q2⟩:=OwnI.write hd ⟨e,hj,h1⟩;obtain⟨e2,q3,q4⟩:=OwnI.write hd ⟨f,hk,h2⟩;exact E.inj j k e1 e2 b q1 q3 q2 q4
end
noncomputable def kH(i:Nat)(f:F):F:=fun δ=>match δ[i]? with
 |some (some (.lst _,true))=>(f δ).bind fun p=>match p.2[i]? with
  |some (some (.lst l,true))=>if l.length<sizeLine then some ((.non,false),p.2.set i (some (.lst (l++[p.1.1]),true))) else none
  |_=>none
 |_=>none
noncomputable def tR(i:Nat)(f:FO):F:=fun δ=>match δ[i]? with
 |some (some (.lst _,true))=>(f δ).bind fun p=>match res p.2 p.1,p.2[i]? with
  |some (.int k),some (some (.lst l,true))=>if -(2^63)<=k/\k<2^63 then(ixN l.length k).bind fun j=>(l[j]?).bind fun d=>some ((d,false),p.2.set i (some (.lst (l.eraseIdx j),true))) else none
  |_,_=>none
 |_=>none
noncomputable def vH(i:Nat)(f:F)(g:FO):FS:=fun δ=>(f δ).bind fun p=>match p.2[i]? with
 |some (some _)=>(g p.2).bind fun q=>match res q.2 q.1,q.2[i]? with
  |some (.int k),some (some (.lst l,true))=>(ixN l.length k).bind fun j=>some (.nx (q.2.set i (some (.lst (l.set j p.1.1),true))))
  |_,_=>none
 |_=>none
section
variable {X:Cx}{e ix:gM}{f:F}{fo:FO}{pos b9 apos h9:Pos}{i:Nat}{x:Str}{A L:jm}{H0:Hp}
theorem RepL.erase{K H}{O:AP'}: ∀{l:List D} {vs:List V} (j:Nat),RepL K H O l vs->RepL K H O (l.eraseIdx j) (vs.eraseIdx j)
 |[],vs,j,h=>by rw[RepL] at h;subst h;simp[RepL]
 |d::l,vs,0,h=>by
  rw[RepL] at h;obtain⟨v,r,rfl,h1,h2⟩:=h;exact h2
 |d::l,vs,j+1,h=>by
  rw[RepL] at h;obtain⟨v,r,rfl,h1,h2⟩:=h;exact RepL.cons h1 (RepL.erase j h2)
theorem Hb(hv:PO X (.Name x b9) (gq i))(he:PX X e f)(j0:attributeBase (.Name x b9) "append" X.env (eval (.Name x b9) X.env)=eval (.Name x b9) X.env)
  (o8:((backTo h9 (starEach [e] X.env)).all (fun x=>!x.1)&&(backToKw h9 (keywordEach [] X.env)).all (fun x=>x.1.isSome)&&decide ([e].length+([]:List Keyword).length+(if([]:List Keyword).isEmpty then 0 else 1)<30))=true)
  (i9:(apos.endLine==h9.line)=true)(hs:starEach [e] X.env=(false,eval e X.env)::starEach [] X.env)(g9:(backTo h9 (starEach [] X.env)).any (·.1)=false):
  PX X (.Call (.Attribute (.Name x b9) "append" apos) [e] [] h9) (kH i f):=
 PX.imp (JV D4 PySem.F.slot_list_append PySem.F.type_list_append Ht hv (oo he tE hs) j0 o8 i9 hs g9) fun σ H Q hw=>by
 obtain⟨δ,T,rr,δ',E,e,k⟩:=hw;unfold kH at e;split at e
 ·rename_i l0 h0;obtain⟨⟨r,δ1⟩,h1,e⟩:=gu e;dsimp only at e;split at e
  ·rename_i l h2;obtain⟨hz,e⟩:=iu e;obtain⟨rfl,rfl⟩:=sP e;refine⟨δ,T,.slot i,δ,E,by unfold gq;rw[h0],fun v H1 P=>?_⟩;obtain⟨K1,E1,hσ⟩:=P;obtain⟨a,g1,dB,g2,g3⟩:=E1.own i _ h0;rw[hσ] at g1;cases g1;refine⟨.inl ⟨rfl,dB,SqL.of g2⟩,δ,T,r,δ1,E1,h1,fun y H2 P2=>?_⟩;obtain⟨E2,ry⟩:=P2.rep E1;obtain⟨a',q1,xs,q2,q3⟩:=E2.own i _ h2;rw[hσ] at q1;cases q1;refine⟨_,xs,y,rfl,rfl,q2,by rw[q3.length];exact hz,?_⟩;obtain⟨E3,K3⟩:=E2.write h2 hσ (q3.append (RepL.one ry));exact k _ _ (Post.val ((K1.trans P2.1).trans K3) E3 Rep.mkNon)
  ·cases e
 ·cases e
theorem Jw(hv:PO X (.Name x b9) (gq i))(he:PO X e fo)(j0:attributeBase (.Name x b9) "pop" X.env (eval (.Name x b9) X.env)=eval (.Name x b9) X.env)
  (o8:((backTo h9 (starEach [e] X.env)).all (fun x=>!x.1)&&(backToKw h9 (keywordEach [] X.env)).all (fun x=>x.1.isSome)&&decide ([e].length+([]:List Keyword).length+(if([]:List Keyword).isEmpty then 0 else 1)<30))=true)
  (i9:(apos.endLine==h9.line)=true)(hs:starEach [e] X.env=(false,eval e X.env)::starEach [] X.env)(g9:(backTo h9 (starEach [] X.env)).any (·.1)=false):
  PX X (.Call (.Attribute (.Name x b9) "pop" apos) [e] [] h9) (tR i fo):=
 PX.imp (JV D4 PySem.F.slot_list_pop PySem.F.type_list_pop Kb hv (oo he tE hs) j0 o8 i9 hs g9) fun σ H Q hw=>by
 obtain⟨δ,T,rr,δ',E,e,k⟩:=hw;unfold tR at e;split at e
 ·rename_i l0 h0;obtain⟨⟨o,δ1⟩,h1,e⟩:=gu e;dsimp only at e;split at e
  ·rename_i kk l hk h2;split at e
   case isFalse=>cases e
   rename_i hb;obtain⟨j,hj,e⟩:=gu e;obtain⟨d,hd,e⟩:=gu e;obtain⟨rfl,rfl⟩:=gX e;refine⟨δ,T,.slot i,δ,E,by unfold gq;rw[h0],fun v H1 P=>?_⟩;obtain⟨K1,E1,hσ⟩:=P;obtain⟨a,g1,dB,g2,g3⟩:=E1.own i _ h0;rw[hσ] at g1;cases g1;refine⟨.inl ⟨rfl,dB,SqL.of g2⟩,δ,T,o,δ1,E1,h1,fun y H2 P2=>?_⟩;have B:=Ops.cons E1 P2 (Ops.nil (P2.er E1));have vy:=hJ (B.view (j:=0) rfl rfl hk);have E2:ER X.K H2 T σ δ1:=B.er.mono (fun _ _ e _=>e) (fun b _ z=>B.tt b z) (fun a z=>B.er.dom a (B.tt a z));obtain⟨a',q1,xs,q2,q3⟩:=E2.own i _ h2;rw[hσ] at q1;cases q1;obtain⟨w,w1,w2⟩:=q3.get hd;have hl:=q3.length;have fP:ixN xs.length kk=some j:=by rw[hl];exact hj
   obtain⟨s1,s2,s3,s4⟩:=BE fP;obtain⟨E3,K3⟩:=E2.write h2 hσ (RepL.erase j q3);refine⟨_,xs,kk,j,w,rfl,by rw[vy],q2,hb.1,hb.2,s1,w1,?_⟩;exact k _ _ (Post.val ((K1.trans B.keep).trans K3) E3 (Rep.mono (fun b o e n=>K3.kp b o e fun z=>n (.inl z)) (fun b _ z=>z.imp (K3.ow b) id) w2))
  ·cases e
 ·cases e
theorem He{d9:Pos}(hv:PO X (.Name x b9) (gq i))(he:PX X e f)(hi:PO X ix fo)
  (ha: ∀v,assign (.Subscript (.Name x b9) ix d9) X.env v=(do
   let ov <-holding [v] (eval (.Name x b9) X.env)
   let iv <-holding [v,ov] (eval ix X.env)
   standAt d9
   holding [v,ov,iv] (setItem ov iv v)
   release [v,ov,iv] []))
  (hs:swapsWithSole [.Subscript (.Name x b9) ix d9] e pos.line X.env=pure false)(hw:swappedStores [.Subscript (.Name x b9) ix d9] e X.env=pure none)
  (h1:(assignEach [.Subscript (.Name x b9) ix d9] X.env).map (·.2)=[assign (.Subscript (.Name x b9) ix d9) X.env]):
  PSX X A L H0 (.Assign [.Subscript (.Name x b9) ix d9] e pos) (vH i f fo):=PS.imp' (EJ he (JR hv hi Jj ha) hs hw h1) fun D σ H hw=>by
 obtain⟨δ,T,out,E,fi,e,k⟩:=hw;obtain⟨⟨r,δ1⟩,h1,e⟩:=gu e;dsimp only at e;split at e
 case h_2=>cases e
 rename_i y0 h0;obtain⟨⟨o,δ2⟩,h2,e⟩:=gu e;dsimp only at e;split at e
 ·rename_i kk l hk h3;obtain⟨j,hj,e⟩:=gu e;cases e;refine⟨δ,T,r,δ1,E,h1,fun v H1 P1=>⟨δ1,Tmp T r v,.slot i,δ1,P1.er E,by unfold gq;rw[h0],fun v2 H2 P2=>⟨δ1,Tmp T r v,o,δ2,P2.er (P1.er E),h2,fun v3 H3 P3=>?_⟩⟩⟩;have gm:PostO X.K T σ δ H (.val r) δ1 v H1:=P1;have B:=Ops.cons E gm (Ops.cons (P1.er E) P2 (Ops.cons (P2.er (P1.er E)) P3 (Ops.nil (P3.er (P2.er (P1.er E))))));have E3:ER X.K H3 T σ δ2:=B.er.mono (fun _ _ e _=>e) (fun b _ z=>B.tt b z) (fun a z=>B.er.dom a (B.tt a z));have hσ:σ[i]?=some (some v2):=P2.2.2;obtain⟨a,q1,xs,q2,q3⟩:=E3.own i _ h3;rw[hσ] at q1;cases q1;have vk:=hJ (B.view (j:=2) rfl rfl hk);have rv:=B.rep E (j:=0) (r:=r) rfl rfl;refine⟨a,xs,kk,j,rfl,vk,q2,by rw[q3.length];exact hj,?_⟩;obtain⟨E4,K4⟩:=E3.write h3 hσ (RepL.set rv j q3);exact k _ _ (B.keep.trans K4).sk E4
 ·cases e
end
noncomputable def G8(tg:Tg)(f:F):FS:=fun δ=>(f δ).bind fun p=>(tg p.1.1 p.2).bind fun δ1=>some (.nx δ1)
section
variable {X:Cx}{A L:jm}{H0:Hp}{a b tg e:gM}{fs:List F}{f:F}{t:Tg}{pos px py pt pt2:Pos}{x y:Str}{i j:Nat}{kt k2}
theorem L3(he:PX X e f)(hg:PGX X A tg t)(hs:swapsWithSole [tg] e pos.line X.env=pure false)(hw:swappedStores [tg] e X.env=pure none)(h1:(assignEach [tg] X.env).map (·.2)=[assign tg X.env]):
  PSX X A L H0 (.Assign [tg] e pos) (G8 t f):=PS.imp' (EJ he hg hs hw h1) fun D σ H hw=>by
 obtain⟨δ,T,out,E,fi,e,k⟩:=hw;obtain⟨⟨r,δ1⟩,h1,e⟩:=gu e;obtain⟨δ2,h2,e⟩:=gu e;cases e;refine⟨δ,T,r,δ1,E,h1,fun v H1 P=>?_⟩;obtain⟨E1,rv⟩:=P.rep E;exact⟨δ1,T,r.1,δ2,E1,rv,h2,fun σ' S' E'=>k σ' H1 (P.1.sk.trans S') E'⟩
theorem LU{id:String}{p:Pos}{es:jF}{fo:List FO}{g:List D->Option (D×Bool)}{z:Str}(hc:jI X (.builtin id) (rDn X.K g))(hg:Gl X z)(hm:X.mg z=none)(hv:bootBuiltins z=some (.builtin id))(ha:PA X (e::es) (tA X.K fo))(hn:z≠"__name__")(p7:(z==("__debug__":Str))=false)
  (he:starEach (e::es) X.env=(false,eval e X.env)::starEach es X.env)(i8:(backTo pos (starEach es X.env)).any (·.1)=false):PX X (.Call (.Name z p) (e::es) [] pos) (gO g fo):=pxn (CM hc hg hm hv ha hn p7 he i8)
theorem LJ{id:String}{p:Pos}{es:jF}{fo:List FO}{g:List D->Option (D×Bool)}{z:Str}(hc:jI X (.type id) (rDn X.K g))(hg:Gl X z)(hm:X.mg z=none)(hv:bootBuiltins z=some (.type id))(ha:PA X (e::es) (tA X.K fo))(hn:z≠"__name__")(p7:(z==("__debug__":Str))=false)
  (he:starEach (e::es) X.env=(false,eval e X.env)::starEach es X.env)(i8:(backTo pos (starEach es X.env)).any (·.1)=false):PX X (.Call (.Name z p) (e::es) [] pos) (gO g fo):=pxn (oZ hc hg hm hv ha hn p7 he i8)
end
noncomputable def BP(N:iG)(sc scope:jZ)(N':iG)(caps:iF)(k:Nat):Bool:=
 (scope.names.all fun y=>y.2 != .cell)&&decide (scope.kind= .function)&&(scope.names.all fun y=>y.2 != .local||scope.names.lookup y.1==some .local)&&
 (scope.names.all fun y=>y.2 != .free||(sc.names.lookup y.1==some .cell||sc.names.lookup y.1==some .free))&&decide (caps.length+k=N'.length)&&
 ((caps.zip N').all fun p=>N[p.1]?==some p.2&&scope.names.lookup p.2==some .free)
theorem KQ{X:Cx}{N:iG}{sc scope:jZ}{N':iG}{caps:iF}{k:Nat}(hN:X.N=N)(hs:X.env.scope=sc)(h:BP N sc scope N' caps k=true):CompOk X N' scope caps k:=by
 subst hN;subst hs;unfold BP at h;simp only[jr,lU,mE] at h;obtain⟨⟨⟨⟨⟨h1,h2⟩,h3⟩,h4⟩,h5⟩,h6⟩:=h;refine⟨fun y hy e=>?_,h2,fun y hy e=>?_,fun y hy e=>?_,h5,fun i j x hi hx=>?_⟩
 ·have:=h1 y hy;rw[e] at this;simp at this
 ·have:=h3 y hy;rw[e] at this;simpa using this
 ·have:=h4 y hy;rw[e] at this;simpa using this
 ·have hm:(j,x)∈caps.zip N':=by
   have:(caps.zip N')[i]?=some (j,x):=by rw[DD];exact⟨hi,hx⟩
   exact mV this
  have:=h6 _ hm;simpa using this
noncomputable def jx:FT:=fun δ=>some (true,δ)
theorem JL{X:Cx}:PIf X [] (tT X.K jx):=fun pins s σ H Q I h=>by
 obtain⟨δ,T,b,δ',E,e,k⟩:=h;cases e;exact Mc pins s σ H Q I (k H .refl E)
inductive Ty where
 |int|bool|str|tuple|list|dict
noncomputable def Ty.n:Ty->String
 | .int=>"int"| .bool=>"bool"| .str=>"str"| .tuple=>"tuple"| .list=>"list"| .dict=>"dict"
noncomputable def isT:D->Ty->Bool
 | .bl _,.bool=>true
 | .bl _,.int=>true
 | .int _,.int=>true
 | .str _,.str=>true
 | .tup _,.tuple=>true
 | .lst _,.list=>true
 | .oth .dct _ _,.dict=>true
 |_,_=>false
noncomputable def tyD:D->String
 | .non=>"NoneType"| .bl _=>"bool"| .int _=>"int"| .str _=>"str"| .tup _=>"tuple"| .lst _=>"list"| .oth .dct _ _=>"dict"| .oth .set _ _=>"set"| .oth _ _ _=>"NoneType"
section
variable {X:Cx}{pins:ik}{σ:L2.St}{H:Hp}{s:gA}
theorem CZ(K:hC)(d:D)(t:Ty):PySem.W.kitOne K (.type (tyD d)) (.type t.n)=some (isT d t):=by
 cases d with
 |oth k _ _=>cases k<;>cases t<;>with_unfolding_all rfl
 |_=>cases t<;>with_unfolding_all rfl
theorem JY(I:Inv X pins σ H s){a:gv}{us:List V}{k:OK}{ks vs:List D}(h:OthB (H a) k ks vs us):s.TypeIs (.ref a) (tyD (.oth k ks vs)):=by
 cases k with
 |dct=>
  rcases h with⟨kvs,e,_⟩|⟨kvs,e,_⟩
  ·obtain⟨_,_,vs,_,o,es,ep,h1,h2,_⟩:=(show ObjOk X.prog X.w H s.heap a (.dK kvs) from I.hok a _ e)
   exact⟨o,h1,h2.1⟩
  ·obtain⟨_,_,xs,_,o,es,ep,h1,h2,_⟩:=(show ObjOk X.prog X.w H s.heap a (.dT kvs) from I.hok a _ e)
   exact⟨o,h1,h2.1⟩
 |set=>
  obtain⟨_,zs,e,_⟩:=h;obtain⟨es,n,t,h1,_⟩:=(show ObjOk X.prog X.w H s.heap a (.stt zs) from I.hok a _ e)
  exact⟨_,h1,rfl⟩
 |_=>exact h.elim
theorem uk{K H}{O:AP'}{k:OK}{ks vs:List D}{v:V}(h:jh K H O (.oth k ks vs) v): ∃a us,v= .ref a/\OthB (H a) k ks vs us/\RepL K H O vs us:=by
 rcases h with h|⟨a,rfl,h⟩
 ·obtain⟨a,us,e,q,r⟩:=h.oth;exact⟨a,us,e,q.2,r⟩
 ·obtain⟨us,e,r⟩:=h;exact⟨a,us,rfl,e,r⟩
theorem SO{A:gW}{E:hV}{Q:hV}(I:Inv X pins σ H s){O:AP'}{d:D}{x:V}{u:gL}{t:Ty}(hd:jh X.K H O d x)(rx:RelV x u)(h: ∀tk,Q (.bool (isT d t)) {s with toks:=tk}):
  wpAny (model X.prog X.w) A (call (.builtin "isinstance") [u,.type t.n]) Q E s:=by
 cases d with
 |non=>have:=IS hd;subst this;cases rx;exact qu PySem.W.kitx_none I.kIn True.intro (CZ X.K .non t) (fun z=>nomatch z) h
 |bl b=>have:=FY hd;subst this;cases rx;exact qu PySem.W.kitx_bool I.kIn True.intro (CZ X.K (.bl b) t) (fun z=>nomatch z) h
 |int b=>have:=hJ hd;subst this;obtain⟨tk,rfl⟩:=rx;exact qu PySem.W.kitx_int I.kIn True.intro (CZ X.K (.int b) t) (fun z=>nomatch z) h
 |str b=>have:=xq hd;subst this;obtain⟨tk,rfl⟩:=rx;exact qu PySem.W.kitx_str I.kIn True.intro (CZ X.K (.str b) t) (fun z=>nomatch z) h
 |tup l=>
  obtain⟨a,xs,rfl,q,_⟩:=lu hd;cases rx;obtain⟨b6,_,⟨o,h1,h2,_⟩,_⟩:=I.tuple q;exact qu PySem.W.kitx_tuple I.kIn ⟨o,h1,h2⟩ (CZ X.K (.tup l) t) (fun z=>nomatch z) h
 |lst l=>
  obtain⟨a,xs,rfl,q,_⟩:=kn hd;cases rx;obtain⟨b6,_,⟨o,n,h1,h2,_⟩,_⟩:=I.list q;exact qu PySem.W.kitx_list I.kIn ⟨o,h1,h2⟩ (CZ X.K (.lst l) t) (fun z=>nomatch z) h
 |oth k ks vs=>
  obtain⟨a,us,rfl,q,_⟩:=uk hd;cases rx;have ht:=JY I q
  cases k with
  |dct=>exact qu PySem.W.kitx_dict I.kIn ht (CZ X.K (.oth .dct ks vs) t) (fun z=>nomatch z) h
  |set=>exact qu PySem.W.kitx_set I.kIn ht (CZ X.K (.oth .set ks vs) t) (fun z=>nomatch z) h
  |_=>exact q.elim
end
noncomputable def oJ(ts:List Ty)(d:D):Option (D×Bool):=some (.bl (ts.any (isT d)),false)
section
variable {X:Cx}{e:gM}{fa:FO}{pos p p2:Pos}{z:Str}
theorem N3{t:Ty}(ha:PO X e fa)(hg:Gl X "isinstance")(hm:X.mg "isinstance"=none)(fR:Gl X z)(hmz:X.mg z=none)(hz:bootBuiltins z=some (.type t.n))(hn:z≠"__name__")(p7:(z==("__debug__":Str))=false)(hv:bootBuiltins "isinstance"=some (.builtin "isinstance"))
  (s1:starEach [e,.Name z p2] X.env=(false,eval e X.env)::starEach [.Name z p2] X.env)(s2:starEach [.Name z p2] X.env=(false,eval (.Name z p2) X.env)::starEach [] X.env)(i8:(backTo pos (starEach [.Name z p2] X.env)).any (·.1)=false):
  PX X (.Call (.Name "isinstance" p) [e,.Name z p2] [] pos) (jD (oJ [t]) fa):=by
 have hc:jI X (.builtin "isinstance") (fun xs H Q=> ∃(O:AP') (d:D) (x:V),xs=[x,.ty t.n]/\jh X.K H O d x/\Q (.bl (isT d t)) H):=by
  intro pins s σ H xs us Q I r h;obtain⟨O,d,x,rfl,hd,q⟩:=h;obtain⟨u,w',rfl,ru,aj⟩:=Ck r;cases aj;exact SO I hd ru fun tk=>⟨.bl _,H,I.tok _,rfl,q⟩
 refine PX.imp (CM hc hg hm hv (oo ha (oo (Mj (v:= .ty t.n) fR hmz hz rfl hn p7) tE s2) s1) (by decide) (by decide) s1 i8) fun σ H Q hw=>?_;obtain⟨δ,T,rr,δ',E,e,k⟩:=hw;obtain⟨⟨o,δ1⟩,h1,e⟩:=gu e;obtain⟨x,h2,e⟩:=gu e;obtain⟨zz,h3,e⟩:=gu e;cases h3;obtain⟨rfl,rfl⟩:=gX e;refine⟨δ,T,o,δ1,E,h1,fun v H1 P1=>?_⟩;have B:=Ops.cons E P1 (Ops.nil (P1.er E));refine⟨_,x,v,rfl,B.view (j:=0) rfl rfl h2,?_⟩;have:=(B.done k).bl;simpa using this
end
noncomputable def oF:List D->Option (List Bool)
 |[]=>some []
 | .bl b::l=>(oF l).map (b:: ·)
 |_::_=>none
noncomputable def C8:D->Option (D×Bool)
 | .lst l=>(oF l).map fun bs=>(.bl (bs.all id),false)
 |_=>none
theorem wk{K H}{O:AP'}: ∀{l:List D} {bs:List Bool} {xs:List V} {b6:iL},oF l=some bs->RepL K H O l xs->Vals xs b6->LSm.BoolsAre b6 bs
 |[],bs,xs,b6,h,r,v=>by
  cases h;rw[RepL] at r;subst r;cases v;exact .nil
 | .bl b::l,bs,xs,b6,h,r,v=>by
  obtain⟨bs',h1,rfl⟩:=jf h;rw[RepL] at r;obtain⟨x,xr,rfl,r1,r2⟩:=r;have:=r1.bl;subst this
  cases v with
  |cons a c=>cases a;exact .cons b (wk h1 r2 c)
 | .non::l,_,_,_,h,_,_=>by cases h
 | .int _::l,_,_,_,h,_,_=>by cases h
 | .str _::l,_,_,_,h,_,_=>by cases h
 | .tup _::l,_,_,_,h,_,_=>by cases h
 | .lst _::l,_,_,_,h,_,_=>by cases h
 | .oth _ _ _::l,_,_,_,h,_,_=>by cases h
section
variable {X:Cx}
theorem BD{h h':gU}{o:Obj}(hk: ∀b x,b∉[h.objs.size]->(h.push o).get? b=some x->h'.get? b=some x)(b:gv)(x:Obj)(e:h.get? b=some x):h'.get? b=some x:=
 hk b x (fun z=>by have:=mZ.mp z;subst this;exact absurd (iq e) (oR _)) (iz _ e)
theorem vR(hc:X.calm=true):jI X (.builtin "all") (rDn X.K (g1 C8)):=oK fun pins s σ H x u Q O d z I ru np hd hg G=>by
 cases d with
 |lst l=>
  obtain⟨bs,hb,rfl⟩:=jf hg;obtain⟨p,xs,rfl,q,r⟩:=kn hd;cases ru;obtain⟨b6,v,pl,_⟩:=I.list q;have are:=wk hb r v;have hh:X.A.in1.handled=none:=I.ok.hd hc;have plt:p<s.heap.objs.size:=by obtain⟨_,e,_⟩:=pl.isList;exact iq e
  refine call_all_walk (A7 pl.isList ⟨s.heap.objs.size,[s.heap.objs.size,p],[s.heap.objs.size],b6.toArray.size,_,_,fun i=>(bs[i]?).getD true,rfl,Walks.list hh _ p (iK plt) b6.toArray,
   ⟨⟨_,jP _ rfl,rfl,rfl⟩,pl.isList.push _⟩,fun i w s' Q' E' hP hQ=>?_,fun h' tk hk=>?_⟩)
  ·obtain⟨b,e,rfl⟩:=are.get i w (by simpa using hP);dsimp only at hQ;rw[e] at hQ;exact qz hQ
  ·rw[iw,are.length,LSm.range_all];exact⟨.bl _,H,I.kept (BD hk),rfl,G.bl⟩
 |_=>cases hg
noncomputable def GB:=gI fun i j=>some (.int (if j>i then j else i))
noncomputable def Kz:=gI fun i j=>some (.int (if j<i then j else i))
theorem yz(hc:X.calm=true):jI X (.builtin "max") (rDn X.K (g2 GB)):=KS fun pins s σ H x y us Q O d e z I r np h1 h2 hg G=>by
 obtain⟨i,j,w,rfl,rfl,hf,rfl⟩:=wU hg;cases hf;exact HH hc pins s σ H [x,y] us Q I r ⟨i,j,by rw[hJ h1,hJ h2],G.int⟩
theorem Fy(hc:X.calm=true):jI X (.builtin "min") (rDn X.K (g2 Kz)):=KS fun pins s σ H x y us Q O d e z I r np h1 h2 hg G=>by
 obtain⟨i,j,w,rfl,rfl,hf,rfl⟩:=wU hg;cases hf;exact HG hc pins s σ H [x,y] us Q I r ⟨i,j,by rw[hJ h1,hJ h2],G.int⟩
theorem xG{lo:Int}{n:Nat}{acc:jW}(h:ItemsOf (fun i v=> ∃t,v= .int (lo+(i:Int)*1) t) acc n):Vals ((List.range n).map fun(k:Nat)=>V.int (lo+k)) acc.toList:=by
 have key: ∀(l:iL) (m:Nat),(∀(j:Nat) v,l[j]?=some v-> ∃t,v= .int (lo+((m+j:Nat):Int)) t)->Vals ((List.range' m l.length).map fun(k:Nat)=>V.int (lo+k)) l:=by
  intro l
  induction l with
  |nil=>intro m _;exact .nil
  |cons v l ih=>
   intro m hv;obtain⟨t,e⟩:=hv 0 v rfl;refine .cons ⟨t,by simpa using e⟩ (ih (m+1) fun j w hw=>?_);obtain⟨t',e'⟩:=hv (j+1) w (by simpa using hw);exact⟨t',by rw[e'];congr 2;first|done|lia⟩
 have:=key acc.toList 0 fun j v hv=>by
  obtain⟨t,e⟩:=h.2 j v (by simpa using hv);exact⟨t,by rw[e];congr 1⟩
 rw[jo,h.1,<-Iu] at this;exact this
theorem EE{K H}{O:AP'}(lo:Int)(n:Nat):RepL K H O (iD lo n) ((List.range n).map fun(k:Nat)=>V.int (lo+k)):=by
 unfold iD
 induction(List.range n) with
 |nil=>exact RepL.nil
 |cons k l ih=>exact RepL.cons Rep.mkInt ih
end
def RgOk(lo hi:Int):Prop:= -(2^62)<=lo/\lo<2^62/\ -(2^62)<=hi/\hi<2^62/\(hi-lo).toNat<=2^24
instance(lo hi:Int):Decidable (RgOk lo hi):=by unfold RgOk;infer_instance
noncomputable def rgV(lo hi:Int):List V:=(List.range (hi-lo).toNat).map fun(k:Nat)=>V.int (lo+k)
theorem RgOk.small{lo hi:Int}(h:RgOk lo hi):Builtin.Range.small lo hi 1=true:=small_one h.1 h.2.1 h.2.2.1 h.2.2.2.1
theorem Ga(lo hi:Int):Builtin.Range.rangeSize lo hi 1=((hi-lo).toNat:Nat):=by rw[rangeSize_one];split<;>lia
section
variable {prog:hG}{w:gS}{A:gW}{E:hV}{s:gA}
theorem Fx{Q:List Value->Shared->Prop}{r:gv}{lo hi:Int}{t u v:Tok}(hh:A.handled=none)(hr:IsRange s.heap r lo hi 1 t u v)(ok:RgOk lo hi)
  (hQ: ∀(h':gU) tk (acc:jW),(∀b o,s.heap.get? b=some o->h'.get? b=some o)->ItemsOf (fun i v=> ∃t,v= .int (lo+(i:Int)*1) t) acc (hi-lo).toNat->Q acc.toList {s with heap:=h',toks:=tk}):
  wpAny (model prog w) A (collect (.ref r)) Q E s:=by
 unfold collect;refine gw (AW (qi F.entry_proto_collect ?_));rw[rR F.plain_proto_collect _];refine gw (m:=newList []) (ll ?_);refine gK ⟨qt F.plain_list_iadd _,qi F.entry_list_iadd ?_⟩;rw[rR F.plain_list_iadd _];have e0:=jP s.heap (o:=({cls:= .type "list",data:= .seq ([]:List Value).toArray}:Obj)) rfl
 let R:Result->Shared->Prop:=fun r s'=> ∃(h':gU) (tk:Nat) (acc:jW) (c':Nat),r= .ok (.ret (.ref s.heap.objs.size))/\s'={s with heap:=h',toks:=tk}/\(∀b o,s.heap.get? b=some o->h'.get? b=some o)/\
  h'.get? s.heap.objs.size=some {cls:= .type "list",dict:=none,data:= .seq acc c',slots:= #[]}/\ItemsOf (fun i v=> ∃t,v= .int (lo+(i:Int)*1) t) acc (hi-lo).toNat
 have fin: ∀{r s'},R r s'-> ∃v,r= .ok (.ret v)/\wpAny (model prog w) A (match v with
   |Value.ref a=>do
    match(<-load a).data with
     |Data.seq xs _=>pure xs.toList
     |_=>unsupported "internal:collect"
   |_=>unsupported "internal:collect") Q E s':=fun {r s'} hR=>by
  obtain⟨h',tk,acc,c',rfl,rfl,hk,bz,p9⟩:=hR;exact⟨_,rfl,gw (m:=load s.heap.objs.size) (vA bz (gK (hQ h' tk acc hk p9)))⟩
 refine pU (wpAny_extend_range (A:=A) (R:=R) (s:={s with heap:=s.heap.push {cls:= .type "list",data:= .seq ([]:List Value).toArray}}) hh (iz _ hr) ok.small (Ga lo hi) ok.2.2.2.2 _ _ 0 e0 fun h' tk i3 c' hk bz p9=>
  ⟨h',tk,i3,c',rfl,rfl,fun b o e=>hk b o (iK (iq e)) (iz _ e),bz,p9⟩) (fun f s' h=>?_) (fun e s' h=>?_)
 ·cases f with
  |done f=>
   obtain⟨v,hv,h2⟩:=fin h;cases hv;exact h2
  |again c'=>exact⟨h.1,sV h.2 fun r cc hr=>by obtain⟨v,rfl,h2⟩:=fin hr;exact h2⟩
 ·obtain⟨v,hv,_⟩:=fin h;cases hv
theorem Bb{Q₁:hV}{r:gv}{lo hi:Int}{t u v:Tok}(hh:A.handled=none)(hr:IsRange s.heap r lo hi 1 t u v)(ok:RgOk lo hi)
  (h: ∀(h':gU) tk (acc:jW),(∀b o,s.heap.get? b=some o->h'.get? b=some o)->ItemsOf (fun i v=> ∃t,v= .int (lo+(i:Int)*1) t) acc (hi-lo).toNat->Q₁ (.ref h'.objs.size) {s with heap:=h'.push {cls:= .type "tuple",data:= .seq acc},toks:=tk}):
  codeAny (model prog w) A (.call (.builtin "tuple.__new__") ⟨[.type "tuple",.ref r],[]⟩) (wants Q₁ E) s:=by
 refine xh ?_;refine gw (m:=checkBuiltinCall "tuple.__new__" _) (qh (F.newCall_tuple_1 _) (gK ⟨qt F.plain_tuple_new _,qi F.entry_tuple_new ?_⟩));rw[rR F.plain_tuple_new _];have aG:=sub_tuple_self;have hinit:=init_tuple_lookup;have hmh:=madeHere_tuple;have v5:s.TypeIs (.ref r) "range":=⟨_,hr,rfl⟩
 have hh1:A.in1.handled=none:=hh
 wp_walk using rV v5,Fx hh1 hr ok
 intro h' tk acc hk p9;have hz:acc.size<=sizeLine:=by rw[p9.1,ic];have:=ok.2.2.2.2;lia
 refine gw (m:=Builtin.Tuple.tupleExact acc.toList.toArray) ?_;unfold Builtin.Tuple.tupleExact;refine ll ?_ (by show acc.toList.toArray.size<=sizeLine;simpa using hz);refine gK ?_;have e:acc.toList.toArray=acc:=by simp
 rw[e];exact h h' tk acc hk p9
theorem zd{Q:hV}{r:gv}{lo hi:Int}{t u v:Tok}(hh:A.handled=none)(hr:IsRange s.heap r lo hi 1 t u v)(ok:RgOk lo hi)
  (h: ∀(h':gU) tk (acc:jW),(∀b o,s.heap.get? b=some o->h'.get? b=some o)->ItemsOf (fun i v=> ∃t,v= .int (lo+(i:Int)*1) t) acc (hi-lo).toNat->Q (.ref h'.objs.size) {s with heap:=h'.push {cls:= .type "tuple",data:= .seq acc},toks:=tk}):
  wpAny (model prog w) A (call (.type "tuple") [.ref r]) Q E s:=by
 refine callType_codes (Q₁:=fun obj s₁=>s₁.TypeIs obj "tuple"/\Q obj s₁) Lo (F.typeCall_tuple_1 _) F.entry_object_init
  (Bb hh hr ok fun h' tk acc hm p9=>⟨⟨_,jP _ rfl,rfl⟩,h h' tk acc hm p9⟩) fun obj s₁ h₁=>?_
 exact⟨h₁.1,F.args_object_init_2 obj _,object_init_meets Lo.init.lookup Lo.made (by decide) prog w A.in1 _ s₁ ⟨h₁.1,rfl,h₁.2⟩⟩
end
section
variable {X:Cx}
theorem Aj:jI X (.type "range") (fun xs H Q=> ∃i j,xs=[.int i,.int j]/\ ∀r,H r=none->Q (.ref r) (upd H r (.rng i j))):=by
 intro pins s σ H xs us Q I r h;obtain⟨i,j,rfl,h⟩:=h;obtain⟨u,u',rfl,⟨t,rfl⟩,⟨t',rfl⟩⟩:=Ck r;exact call_range_2 ⟨.ref _,_,I.laid (o:= .rng i j) (fun b o e=>iz _ e) (ip _) ⟨_,_,_,jP _ rfl⟩,rfl,h _ I.fresh⟩
theorem ze(hc:X.calm=true):jI X (.type "list") (fun xs H Q=> ∃r lo hi,xs=[.ref r]/\H r=some (.rng lo hi)/\RgOk lo hi/\ ∀l,H l=none->Q (.ref l) (upd H l (.lst (rgV lo hi)))):=by
 intro pins s σ H xs us Q I fq h;obtain⟨r,lo,hi,rfl,hr,ok,h⟩:=h;obtain⟨u,rfl,ru⟩:=um fq;cases ru;obtain⟨t,u,v,er⟩:=I.hok r _ hr;refine call_list_range (A:=X.A) (I.ok.hd hc) er ok.small (Ga lo hi) ok.2.2.2.2 fun h' tk acc c kp e items=>?_;have rv:=xG items;refine⟨.ref _,_,I.laid kp (ip _) (show ObjOk X.prog X.w _ _ _ (.lst (rgV lo hi)) from⟨?_,acc.toList,c,rv,by simpa using e⟩),rfl,h _ I.fresh⟩;have:=ok.2.2.2.2;simp only[rgV,jw,List.length_range,ic];lia
theorem yy(hc:X.calm=true):jI X (.type "tuple") (fun xs H Q=> ∃r lo hi,xs=[.ref r]/\H r=some (.rng lo hi)/\RgOk lo hi/\ ∀l,H l=none->Q (.ref l) (upd H l (.tup (rgV lo hi)))):=by
 intro pins s σ H xs us Q I fq h;obtain⟨r,lo,hi,rfl,hr,ok,h⟩:=h;obtain⟨u,rfl,ru⟩:=um fq;cases ru;obtain⟨t,u,v,er⟩:=I.hok r _ hr;refine zd (A:=X.A) (I.ok.hd hc) er ok fun h' tk acc kp items=>?_;have rv:=xG items;have I1:Inv X pins σ H {s with heap:=h',toks:=tk}:=I.kept kp;refine⟨.ref _,_,I1.laid (fun b o e=>iz _ e) (ip _) (show ObjOk X.prog X.w _ _ _ (.tup (rgV lo hi)) from⟨?_,acc.toList,rv,by have:=xj h' acc;simpa using this⟩),rfl,h _ I1.fresh⟩;have:=ok.2.2.2.2;simp only[rgV,jw,List.length_range,ic];lia
noncomputable def gRg(mk:List D->D)(o:Bool):List D->Option (D×Bool)
 |[.int j]=>if RgOk 0 j then some (mk (iD 0 j.toNat),o) else none
 |[.int i,.int j]=>if RgOk i j then some (mk (iD i (j-i).toNat),o) else none
 |_=>none
theorem Gb{K H}{O:AP'}(lo hi:Int):RepL K H O (iD lo (hi-lo).toNat) (rgV lo hi):=EE lo _
variable {a b:gM}{fa fb:FO}{p p2 pos bP:Pos}
theorem Cn{H:Hp}{r l:gv}{o:HO}(h:upd H r o l=none):H l=none:=by
 by_cases e:l=r
 ·subst e;rw[iC] at h;cases h
 ·rwa [iE e] at h
theorem Aq{K:hC}{T T':AP'}{σ:L2.St}{δ δ':Dn}{H H':Hp}{os:List Opd}{vs:List V}{ds:List D}(B:Ops K T σ δ H os vs δ' H' T')(h:tw δ' os=some ds){is:hU}(hd:ds=is.map .int):vs=is.map .int:=by
 obtain⟨h1,h2⟩:=mG h;apply xf;intro j;by_cases hj:j<is.length
 ·rw[qW B h (j:=j) (i:=is[j]) (by rw[hd];simp[hj])];simp[hj]
 ·have l1:=B.len;subst hd;simp at h1;rw[AV (by lia),AV (by simp;lia)]
theorem NU{T:String}{z:Str}{mk:List D->D}{o:Bool}(hT:(T="list"/\mk= .lst/\o=true)\/(T="tuple"/\mk= .tup/\o=false))(hc:X.calm=true)(hg:Gl X z)(hm:X.mg z=none)(hv:bootBuiltins z=some (.type T))(hn:z≠"__name__")(p7:(z==("__debug__":Str))=false)
  (dr:Gl X "range")(bT:X.mg "range"=none)(ha:PA X [a,b] (tA X.K [fa,fb]))
  (s1:starEach [.Call (.Name "range" p2) [a,b] [] bP] X.env=(false,eval (.Call (.Name "range" p2) [a,b] [] bP) X.env)::starEach [] X.env)(s2:starEach [a,b] X.env=(false,eval a X.env)::starEach [b] X.env)
  (i8:(backTo pos (starEach [] X.env)).any (·.1)=false)(bS:(backTo bP (starEach [b] X.env)).any (·.1)=false):
  PX X (.Call (.Name z p) [.Call (.Name "range" p2) [a,b] [] bP] [] pos) (gO (gRg mk o) [fa,fb]):=by
 have len2: ∀{δ δ1:Dn} {os:List Opd},je [fa,fb] δ=some (os,δ1)->os.length=2:=fun {δ δ1 os} h1=>by
  unfold je at h1;obtain⟨p,q1,h1⟩:=gu h1;obtain⟨q,q2,h1⟩:=gu h1;unfold je at q2;obtain⟨p3,q3,q2⟩:=gu q2;obtain⟨q4,q5,q2⟩:=gu q2;unfold je at q5;cases q5;obtain⟨rfl,rfl⟩:=gX h1;cases q2;rfl
 rcases hT with⟨rfl,rfl,rfl⟩|⟨rfl,rfl,rfl⟩
 ·refine PX.imp (oZ (ze hc) hg hm hv (oo (oZ Aj dr bT A6 ha (by decide) (by decide) s2 bS) tE s1) hn p7 s1 i8) fun σ H Q hw=>?_;obtain⟨δ,T,rr,δ',E,e,k⟩:=hw;obtain⟨⟨os,δ1⟩,h1,e⟩:=gu e;obtain⟨ds,h2,e⟩:=gu e;obtain⟨zz,h3,e⟩:=gu e;obtain⟨rfl,rfl⟩:=gX e;refine⟨δ,T,os,δ1,E,h1,fun vs H1 T1 B=>?_⟩;unfold gRg at h3;split at h3
  ·obtain⟨hl,_⟩:=mG h2;have:=len2 h1;simp at hl;lia
  ·rename_i i j;obtain⟨ok,rfl⟩:=iu h3;refine⟨i,j,Aq B h2 (is:=[i,j]) rfl,fun r hr=>⟨r,i,j,rfl,iC,ok,fun l hl=>?_⟩⟩;have hx: ∀a u,H1 a=some u->upd (upd H1 r (.rng i j)) l (.lst (rgV i j)) a=some u:=fun a u e=>kR hl a u (kR hr a u e);exact(B.done k) l _ (Cn hl) hx ⟨rgV i j,iC,Gb i j⟩
  ·cases h3
 ·refine PX.imp (oZ (yy hc) hg hm hv (oo (oZ Aj dr bT A6 ha (by decide) (by decide) s2 bS) tE s1) hn p7 s1 i8) fun σ H Q hw=>?_;obtain⟨δ,T,rr,δ',E,e,k⟩:=hw;obtain⟨⟨os,δ1⟩,h1,e⟩:=gu e;obtain⟨ds,h2,e⟩:=gu e;obtain⟨zz,h3,e⟩:=gu e;obtain⟨rfl,rfl⟩:=gX e;refine⟨δ,T,os,δ1,E,h1,fun vs H1 T1 B=>?_⟩;unfold gRg at h3;split at h3
  ·obtain⟨hl,_⟩:=mG h2;have:=len2 h1;simp at hl;lia
  ·rename_i i j;obtain⟨ok,rfl⟩:=iu h3;refine⟨i,j,Aq B h2 (is:=[i,j]) rfl,fun r hr=>⟨r,i,j,rfl,iC,ok,fun l hl=>?_⟩⟩;have hx: ∀a u,H1 a=some u->upd (upd H1 r (.rng i j)) l (.tup (rgV i j)) a=some u:=fun a u e=>kR hl a u (kR hr a u e);exact(B.done k) _ _ hx (Rep.mkTup ⟨iC,B.np (Cn hl)⟩ (Gb i j))
  ·cases h3
end
def Src(h:gU)(it l:gv)(i:Nat)(xs:jW):Prop:=(h.IsListIter it l i/\h.IsList l xs)\/(h.IsTupleIter it l i/\h.IsTuple l xs)
section
variable {prog:hG}{w:gS}{A:gW}{E:hV}{s:gA}{it l:gv}{i:Nat}{xs:jW}
theorem Src.ne{h:gU}(x:Src h it l i xs):l≠it:=by
 intro e;subst e;rcases x with⟨⟨o,h1,h2,h3⟩,o',g1,g2,n,g3⟩|⟨⟨o,h1,h2,h3⟩,o',g1,g2,n,g3⟩<;>(rw[h1] at g1;cases g1;rw[h3] at g3;cases g3)
theorem Src.lt{h:gU}(x:Src h it l i xs):it<h.objs.size/\l<h.objs.size:=by
 rcases x with⟨⟨o,h1,_⟩,o',g1,_⟩|⟨⟨o,h1,_⟩,o',g1,_⟩<;>exact⟨iq h1,iq g1⟩
theorem Src.keep{h h':gU}(x:Src h it l i xs)(k1: ∀o,h.get? it=some o->h'.get? it=some o)(k2: ∀o,h.get? l=some o->h'.get? l=some o):Src h' it l i xs:=by
 rcases x with⟨⟨o,h1,r⟩,o',g1,r'⟩|⟨⟨o,h1,r⟩,o',g1,r'⟩
 ·exact .inl ⟨⟨o,k1 _ h1,r⟩,o',k2 _ g1,r'⟩
 ·exact .inr ⟨⟨o,k1 _ h1,r⟩,o',k2 _ g1,r'⟩
theorem xt{x:gL}{Q:hV}(hit:s.heap.IsTupleIter it l i)(hl:s.heap.IsTuple l xs)(hx:xs[i]?=some x)
  (hQ: ∀h',h'.IsTupleIter it l (i+1)->Heap.SameBut it s.heap h'->Q x {s with heap:=h'}):wpAny (model prog w) A (Builtin.SmallTypes.nextOf (.ref it)) Q E s:=by
 obtain⟨o,ho,hc,hd⟩:=id hit;obtain⟨ol,df,_,nl,aA⟩:=hl;unfold Builtin.SmallTypes.nextOf;refine gw (qj (name:=Str.ofString "__next__") hit.typeIs AU (mU AU hit.typeIs Ir ?_ (Iq _)));refine gw (m:=field (.ref it) 0) (lZ ho hd (x:= .ref l) rfl ?_);show wpAny _ _ (if(Value.ref l==Value.none)=true then _ else _) _ _ s;rw[gF (by show ¬(Value.ref l==Value.none)=true;exact jB)];refine gw (m:=field (.ref it) 1) (lZ ho hd (x:= .int i 0) rfl ?_);refine gw (m:=seqItems? (.ref l)) (qg df aA ?_);simp only[qk,hx];refine gw (sN ho hd (by simp) (gK ⟨x,rfl,gK (hQ _ ⟨_,rT _ ho (AS (rQ hd _)),(AR ..).trans hc,?_⟩ (uc ..))⟩));rw[rQ hd];simp[rawInt]
theorem yP{Q:hV}(hh:A.handled=none)(hit:s.heap.IsTupleIter it l i)(hl:s.heap.IsTuple l xs)(hx:xs[i]?=none)
  (hE: ∀h' e,Heap.ExtBut it s.heap h'->(∃o,h'.get? e=some o/\o.cls= .type "StopIteration")->E (.ref e) {s with heap:=h'}):wpAny (model prog w) A (Builtin.SmallTypes.nextOf (.ref it)) Q E s:=by
 obtain⟨o,ho,hc,hd⟩:=id hit;obtain⟨ol,df,_,nl,aA⟩:=hl;unfold Builtin.SmallTypes.nextOf;refine gw (qj (name:=Str.ofString "__next__") hit.typeIs AU (mU AU hit.typeIs Ir ?_ (Iq _)));refine gw (m:=field (.ref it) 0) (lZ ho hd (x:= .ref l) rfl ?_);show wpAny _ _ (if(Value.ref l==Value.none)=true then _ else _) _ _ s;rw[gF (by show ¬(Value.ref l==Value.none)=true;exact jB)];refine gw (m:=field (.ref it) 1) (lZ ho hd (x:= .int i 0) rfl ?_);refine gw (m:=seqItems? (.ref l)) (qg df aA ?_);simp only[qk,hx];refine gw (ug (gw (sN ho hd (by simp) ?_)));refine gw (m:=newExc (.type "StopIteration") []) ?_;simp only[newExc,newTuple];refine gw (ll (gw (m:=firstArgMember _ _) (qh (a:=Value.none) (by first|rfl|(simp only[firstArgMember];rfl)) ?_)) (by size_fits));refine ll ?_ (by size_fits);simp only[raiseNew];refine gw (D3 ?_)
 first|rw[show A.in1.handled=none from hh]|rw[hh]
 exact gw (gK (D2 (hE _ _ (((uc ..).extBut.push _).push _) ⟨_,jP _ rfl,rfl⟩)))
theorem Src.item{x:gL}{Q:hV}(st:Src s.heap it l i xs)(hx:xs[i]?=some x)(hQ: ∀h',Src h' it l (i+1) xs->Heap.SameBut it s.heap h'->Q x {s with heap:=h'}):
  wpAny (model prog w) A (Builtin.SmallTypes.nextOf (.ref it)) Q E s:=by
 have ne:=st.ne;rcases st with⟨a,b⟩|⟨a,b⟩
 ·exact wpAny_nextOf_list_item a b hx fun h' a' sb=>hQ h' (.inl ⟨a',b.extBut sb.extBut ne⟩) sb
 ·exact xt a b hx fun h' a' sb=>hQ h' (.inr ⟨a',b.extBut sb.extBut ne⟩) sb
theorem Src.stop{Q:hV}(hh:A.handled=none)(st:Src s.heap it l i xs)(hx:xs[i]?=none)
  (hE: ∀h' e,Heap.ExtBut it s.heap h'->(∃o,h'.get? e=some o/\o.cls= .type "StopIteration")->E (.ref e) {s with heap:=h'}):wpAny (model prog w) A (Builtin.SmallTypes.nextOf (.ref it)) Q E s:=by
 rcases st with⟨a,b⟩|⟨a,b⟩
 ·exact wpAny_nextOf_list_end hh a b hx hE
 ·exact yP hh a b hx hE
theorem Src.new{Q:hV}(hl:s.heap.IsList l xs\/s.heap.IsTuple l xs)(hQ: ∀h',Src h' s.heap.objs.size l 0 xs->h'.objs.size=s.heap.objs.size+1->(∀b o,s.heap.get? b=some o->h'.get? b=some o)->Q (.ref s.heap.objs.size) {s with heap:=h'}):
  wpAny (model prog w) A (pyIter (.ref l)) Q E s:=by
 rcases hl with hl|hl
 ·exact A7 hl (hQ _ (.inl ⟨⟨_,jP _ rfl,rfl,rfl⟩,hl.push _⟩) (uf ..) fun b o e=>iz _ e)
 ·exact wpAny_pyIter_tuple hl (hQ _ (.inr ⟨⟨_,jP _ rfl,rfl,rfl⟩,hl.push _⟩) (uf ..) fun b o e=>iz _ e)
end
section
variable {prog:hG}{w:gS}{A:gW}{E:hV}{s:gA}{e it l:gv}{i:Nat}{c:Int}{xs:jW}
end
section
variable {X:Cx}{pins:ik}{σ:L2.St}{H:Hp}{s:gA}{h':gU}
theorem GZ{t':Nat}{ch:kb}{a:gv}{o:HO}(I:Inv X pins σ H s)(hf: ∀b∈ch,qS X pins H b)(k: ∀b u,b∉ch->s.heap.get? b=some u->h'.get? b=some u)(ha:s.heap.objs.size<=a)(new:ObjOk X.prog X.w (upd H a o) h' a o):
  Inv X pins σ (upd H a o) {s with heap:=h',toks:=t'}:=by
 have hn:=I.hok.fresh ha;have bf: ∀b u,H b=some u->b∉ch:=fun b u e z=>by have:=(hf b z).1;rw[this] at e;cases e
 have up: ∀b u,H b=some u->upd H a o b=some u:=fun b u e=>by rw[iE (md e hn)];exact e
 have fr: ∀b u,s.heap.get? b=some u->H b=none->upd H a o b=none:=fun b u e n=>by
  rw[iE (fun z=>by subst z;exact absurd (iq e) (Nat.not_lt.mpr ha))];exact n
 refine I.step (g':=s.gens) (d':=s.drawn) (ch:=ch) (fun b hb=>?_) (fun b u _ _ hc e _=>k b u hc e) (fun b u _ _ hc e _=>⟨u.slots,k b u hc e⟩) (fun b u _ e n=>fr b u e n)
  (fun b u hc e=>⟨u,k b u hc e⟩) (fun b xs e=>up b _ e) (fun b _ _ e=>up b _ e) (fun b ps e=>⟨#[],by rw[up b _ e];simp⟩) (fun m hm=>?_) (fun b u e=>?_) I.bare
 ·obtain⟨_,f1,f2,f3,f4,f5⟩:=hf b hb;exact⟨f3,f1,f4,f5⟩
 ·obtain⟨u,es,ep,ho,r⟩:=hm;exact⟨u,es,ep,k _ u (fun z=>(hf _ z).2.1 rfl) ho,r⟩
 ·by_cases hb:b=a
  ·subst hb;rw[iC] at e;cases e;exact new
  ·rw[iE hb] at e;refine(I.hok b u e).stay (fun c v hc q=>k c v ?_ q) (fun c q=>up c _ q) fun c xs q=>up c _ q;rcases hc with z|z
   ·rw[z];exact bf b u e
   ·exact bf c _ z
theorem G0{t':Nat}{ch:kb}(I:Inv X pins σ H s)(hf: ∀b∈ch,qS X pins H b)(k: ∀b u,b∉ch->s.heap.get? b=some u->h'.get? b=some u):Inv X pins σ H {s with heap:=h',toks:=t'}:=by
 have bf: ∀b u,H b=some u->b∉ch:=fun b u e z=>by have:=(hf b z).1;rw[this] at e;cases e
 refine I.step (g':=s.gens) (d':=s.drawn) (ch:=ch) (fun b hb=>?_) (fun b u _ _ hc e _=>k b u hc e) (fun b u _ _ hc e _=>⟨u.slots,k b u hc e⟩) (fun b u _ e n=>n)
  (fun b u hc e=>⟨u,k b u hc e⟩) (fun b xs e=>e) (fun b _ _ e=>e) (fun b ps e=>⟨#[],by rw[e];simp⟩) (fun m hm=>?_) (fun b u e=>?_) I.bare
 ·obtain⟨_,f1,f2,f3,f4,f5⟩:=hf b hb;exact⟨f3,f1,f4,f5⟩
 ·obtain⟨u,es,ep,ho,r⟩:=hm;exact⟨u,es,ep,k _ u (fun z=>(hf _ z).2.1 rfl) ho,r⟩
 ·refine(I.hok b u e).stay (fun c v hc q=>k c v ?_ q) (fun c q=>q) fun c xs q=>q;rcases hc with z|z
  ·rw[z];exact bf b u e
  ·exact bf c _ z
end
def SqX(b:Bool)(K:hC)(H:Hp)(l:gv)(xs:List V):Prop:=if b=true then SqL K H l xs else SqT K H l xs
def ItX(b:Bool)(h:gU)(it l:gv)(i:Nat):Prop:=if b=true then h.IsListIter it l i else h.IsTupleIter it l i
theorem ItX.keep{b:Bool}{h h':gU}{it l:gv}{i:Nat}(x:ItX b h it l i)(k: ∀o,h.get? it=some o->h'.get? it=some o):ItX b h' it l i:=by
 cases b
 ·exact PySem.Heap.IsTupleIter.at (show h.IsTupleIter it l i from x) k
 ·exact PySem.Heap.IsListIter.at (show h.IsListIter it l i from x) k
theorem ItX.obj{b:Bool}{h:gU}{it l:gv}{i:Nat}(x:ItX b h it l i): ∃o,h.get? it=some o/\ ∀v,o.data≠ .cell v:=by
 cases b<;>(obtain⟨o,e,c,d⟩:=x;exact⟨o,e,fun v z=>by rw[d] at z;cases z⟩)
section
variable {X:Cx}{pins:ik}{σ:L2.St}{H:Hp}{s:gA}
theorem wH{b:Bool}{it l:gv}{i:Nat}{xs:List V}(I:Inv X pins σ H s)(q:SqX b X.K H l xs)(t:ItX b s.heap it l i): ∃b6,Vals xs b6/\Src s.heap it l i b6.toArray:=by
 cases b with
 |true=>obtain⟨b6,v,p,_⟩:=I.list q;exact⟨b6,v,.inl ⟨t,p.isList⟩⟩
 |false=>obtain⟨b6,v,p,_⟩:=I.tuple q;exact⟨b6,v,.inr ⟨t,p⟩⟩
theorem F6{b:Bool}{l:gv}{xs ys:List V}(I:Inv X pins σ H s)(q:SqX b X.K H l xs)(q':SqX b X.K H l ys):xs=ys:=by
 cases b with
 |true=>exact I.list_inj q q'
 |false=>exact I.tuple_inj q q'
theorem Kq{b:Bool}{h:gU}{it l:gv}{i:Nat}{xs:jW}{i':Nat}{h':gU}(t:ItX b h it l i)(hs:Src h it l i xs)(aP:Src h' it l i' xs)(kl: ∀o,h.get? l=some o->h'.get? l=some o):ItX b h' it l i':=by
 cases b with
 |true=>
  rcases aP with⟨a,_⟩|⟨a,c⟩
  ·exact a
  ·rcases hs with⟨_,o,h1,h2,_⟩|⟨⟨o,h1,h2,_⟩,_⟩
   ·obtain⟨o',g1,g2,_⟩:=c;rw[kl _ h1] at g1;cases g1;rw[h2] at g2;injection g2 with g2;exact absurd g2 (by decide)
   ·obtain⟨o',g1,g2,_⟩:=t;rw[h1] at g1;cases g1;rw[h2] at g2;injection g2 with g2;exact absurd g2 (by decide)
 |false=>
  rcases aP with⟨a,c⟩|⟨a,_⟩
  ·rcases hs with⟨⟨o,h1,h2,_⟩,_⟩|⟨_,o,h1,h2,_⟩
   ·obtain⟨o',g1,g2,_⟩:=t;rw[h1] at g1;cases g1;rw[h2] at g2;injection g2 with g2;exact absurd g2 (by decide)
   ·obtain⟨o',g1,g2,_⟩:=c;rw[kl _ h1] at g1;cases g1;rw[h2] at g2;injection g2 with g2;exact absurd g2 (by decide)
  ·exact a
end
open AutoSeq1 (wpAny_loadPart')
section
variable {prog:hG}{w:gS}{A:gW}{E:hV}{s:gA}
end
section
variable {X:Cx}{pins:ik}{σ:L2.St}{H:Hp}{s:gA}{elts:jF}{k1:Nat}{aE:Pos}
theorem Jh{b:Bool}{l:gv}{xs:List V}(I:Inv X pins σ H s)(q:SqX b X.K H l xs): ∃b6,Vals xs b6/\(s.heap.IsList l b6.toArray\/s.heap.IsTuple l b6.toArray):=by
 cases b with
 |true=>obtain⟨b6,v,p,_⟩:=I.list q;exact⟨b6,v,.inl p.isList⟩
 |false=>obtain⟨b6,v,p,_⟩:=I.tuple q;exact⟨b6,v,.inr p⟩
end
section
variable {prog:hG}{w:gS}{A:gW}{E:hV}{s:gA}{z TI TO i1 i2 l1 l2:gv}{k:Nat}{xs ys:jW}{x y a b:gL}
theorem II{Q:hV}(D:ZipApart z TI TO i1 i2 l1 l2)(hz:IsZip s.heap z TI TO .none)(v5:IsPair s.heap TI (.ref i1) (.ref i2))(x8:IsPair s.heap TO a b)(h1:Src s.heap i1 l1 k xs)(h2:Src s.heap i2 l2 k ys)(hx:xs[k]?=some x)(hy:ys[k]?=some y)
  (hQ: ∀h',IsZip h' z TI TO (rawInt s.heap.objs.size)->IsPair h' TO x y->Src h' i1 l1 (k+1) xs->Src h' i2 l2 (k+1) ys->IsPair h' s.heap.objs.size x y->(∀c o,c≠z->c≠TO->c≠i1->c≠i2->s.heap.get? c=some o->h'.get? c=some o)->Q (.ref s.heap.objs.size) {s with heap:=h'}):
  wpAny (model prog w) A (Builtin.«zip.__next__» ⟨[.ref z],[]⟩) (fun fin s'=> ∃v,fin= .done (.ret v)/\Q v s') E s:=by
 refine gw (m:=field (.ref z) 2) (lZ hz rfl (x:= .bool false) rfl (gw (m:=field (.ref z) 3) (lZ hz rfl (x:= .ref TI) rfl (gw (qg v5 rfl (gw (m:=Builtin.SmallTypes.ownedTupleIsFree (.ref z)) ?_))))));unfold Builtin.SmallTypes.ownedTupleIsFree;refine gw (lZ hz rfl (x:= .none) rfl (gK ?_));simp only[iH];refine gw (ug (gw (lZ hz rfl (x:= .ref TO) rfl (gw (vm hz (by simp) fun h₁ cg ai=>?_)))));replace cg:IsZip h₁ z TI TO .ellipsis:=cg;refine gw ?_;simp only[List.zipIdx_cons,List.zipIdx_nil,xi,List.forIn_nil];have c1:Src h₁ i1 l1 k xs:=h1.keep (fun o e=>ai.extBut _ o D.i1z e) (fun o e=>ai.extBut _ o D.l1z e);refine gw (gw (xc (gw (m:=Builtin.SmallTypes.nextOf (.ref i1)) (c1.item (s:={s with heap:=h₁}) hx fun h₂ c1₂ ah=>gK ?_))));have bx:IsPair h₂ TO a b:=ah.extBut _ _ D.TOi1 (ai.extBut _ _ D.TOz x8);refine gw (qg (s:={s with heap:=h₂}) bx rfl (gw (D1 (s:={s with heap:=h₂}) bx fun h₃ bY ag=>gw (D0 (gK ?_)))));replace bY:IsPair h₃ TO x b:=bY;have c2:Src h₃ i2 l2 k ys:=h2.keep (fun o e=>ag.extBut _ o D.TOi2.symm (ah.extBut _ o D.i12.symm (ai.extBut _ o D.i2z e))) (fun o e=>ag.extBut _ o D.l2TO (ah.extBut _ o D.l2i1 (ai.extBut _ o D.l2z e)));refine gw (gw (xc (gw (m:=Builtin.SmallTypes.nextOf (.ref i2)) (c2.item (s:={s with heap:=h₃}) hy fun h₄ c2₄ bO=>gK ?_))));have hTO₄:IsPair h₄ TO x b:=bO.extBut _ _ D.TOi2 bY;refine gw (qg (s:={s with heap:=h₄}) hTO₄ rfl (gw (D1 (s:={s with heap:=h₄}) hTO₄ fun h₅ bX bF=>gw (D0 (gK (gK ?_))))));replace bX:IsPair h₅ TO x y:=bX;refine gw (qg (s:={s with heap:=h₅}) bX rfl (gw (wpAny_newTuple (s:={s with heap:=h₅}) ?_)));have hsz:h₅.objs.size=s.heap.objs.size:=by rw[bF.1,bO.1,ag.1,ah.1,ai.1]
 have hz₅:IsZip h₅ z TI TO .ellipsis:=bF.extBut _ _ D.TOz.symm (bO.extBut _ _ D.i2z.symm (ag.extBut _ _ D.TOz.symm (ah.extBut _ _ D.i1z.symm cg)));have hk₅: ∀c o,c≠z->c≠TO->c≠i1->c≠i2->s.heap.get? c=some o->h₅.get? c=some o:=fun c o d1 d2 d3 d4 e=>bF.extBut _ _ d2 (bO.extBut _ _ d4 (ag.extBut _ _ d2 (ah.extBut _ _ d3 (ai.extBut _ _ d1 e))));have c1₅:Src h₅ i1 l1 (k+1) xs:=c1₂.keep (fun o e=>bF.extBut _ o D.TOi1.symm (bO.extBut _ o D.i12 (ag.extBut _ o D.TOi1.symm e))) (fun o e=>bF.extBut _ o D.l1TO (bO.extBut _ o D.l1i2 (ag.extBut _ o D.l1TO e)));have c2₅:Src h₅ i2 l2 (k+1) ys:=c2₄.keep (fun o e=>bF.extBut _ o D.TOi2.symm e) (fun o e=>bF.extBut _ o D.l2TO e);have hzlt:z<h₅.objs.size:=iq hz₅;refine gw (m:=Builtin.SmallTypes.ownedTupleHandOut (.ref z) (.ref h₅.objs.size)) ?_;unfold Builtin.SmallTypes.ownedTupleHandOut;have hz₆:IsZip (h₅.push {cls:= .type "tuple",data:= .seq #[x,y]}) z TI TO .ellipsis:=iz _ hz₅;refine gw (vm (s:={s with heap:=h₅.push {cls:= .type "tuple",data:= .seq #[x,y]}}) hz₆ (by simp) fun h₇ fG sb₇=>?_);replace fG:IsZip h₇ z TI TO (rawInt h₅.objs.size):=fG;refine vm (s:={s with heap:=h₇}) fG (by simp) fun h₈ eK sb₈=>?_;replace eK:IsZip h₈ z TI TO (rawInt h₅.objs.size):=eK;have up: ∀c o,c≠z->h₅.get? c=some o->h₈.get? c=some o:=fun c o d1 e=>sb₈.extBut _ _ d1 (sb₇.extBut _ _ d1 (iz _ e));have hT₈:IsPair h₈ h₅.objs.size x y:=sb₈.extBut _ _ (qm hzlt) (sb₇.extBut _ _ (qm hzlt) (jP _ rfl));rw[hsz] at eK hT₈;refine gK ⟨_,rfl,?_⟩;show Q (.ref h₅.objs.size) _;rw[hsz];exact hQ h₈ eK (up _ _ D.TOz bX) (c1₅.keep (fun o e=>up _ o D.i1z e) fun o e=>up _ o D.l1z e) (c2₅.keep (fun o e=>up _ o D.i2z e) fun o e=>up _ o D.l2z e) hT₈ fun c o d1 d2 d3 d4 e=>up c o d1 (hk₅ c o d1 d2 d3 d4 e)
theorem IH{Q:Fin->Shared->Prop}(hh:A.handled=none)(D:ZipApart z TI TO i1 i2 l1 l2)(hz:IsZip s.heap z TI TO .none)(v5:IsPair s.heap TI (.ref i1) (.ref i2))(x8:IsPair s.heap TO a b)(h1:Src s.heap i1 l1 k xs)(h2:Src s.heap i2 l2 k ys)(u7:xs[k]?=none\/ys[k]?=none)
  (hE: ∀h' e,(∀c o,c≠z->c≠TO->c≠i1->c≠i2->s.heap.get? c=some o->h'.get? c=some o)->(∃o,h'.get? e=some o/\o.cls= .type "StopIteration")->E (.ref e) {s with heap:=h'}):wpAny (model prog w) A (Builtin.«zip.__next__» ⟨[.ref z],[]⟩) Q E s:=by
 have notzip: ∀{h:gU} {e:gv} {oe:Obj} {f0:gL},IsZip h z TI TO f0->h.get? e=some oe->oe.cls= .type "StopIteration"->e≠z:=fun hzz cQ bV q=>by
  subst q;have hzz':_=_:=hzz;rw[cQ] at hzz';cases hzz';injection bV with bV;exact absurd bV (by decide)
 refine gw (m:=field (.ref z) 2) (lZ hz rfl (x:= .bool false) rfl (gw (m:=field (.ref z) 3) (lZ hz rfl (x:= .ref TI) rfl (gw (qg v5 rfl (gw (m:=Builtin.SmallTypes.ownedTupleIsFree (.ref z)) ?_))))));unfold Builtin.SmallTypes.ownedTupleIsFree;refine gw (lZ hz rfl (x:= .none) rfl (gK ?_));simp only[iH];refine gw (ug (gw (lZ hz rfl (x:= .ref TO) rfl (gw (vm hz (by simp) fun h₁ cg ai=>?_)))));replace cg:IsZip h₁ z TI TO .ellipsis:=cg;refine gw ?_;simp only[List.zipIdx_cons,List.zipIdx_nil,xi,List.forIn_nil];have c1:Src h₁ i1 l1 k xs:=h1.keep (fun o e=>ai.extBut _ o D.i1z e) (fun o e=>ai.extBut _ o D.l1z e)
 cases hx:xs[k]? with
 |none=>
  refine gw (gw (xc (gw (m:=Builtin.SmallTypes.nextOf (.ref i1)) (c1.stop (s:={s with heap:=h₁}) hh hx fun h₂ e ah ⟨oe,cQ,bV⟩=>?_))));have hz₂:IsZip h₂ z TI TO .ellipsis:=ah _ _ D.i1z.symm cg;exact vm (s:={s with heap:=h₂}) hz₂ (by simp) fun h₃ _ ag=>hE h₃ e (fun c o d1 _ d3 _ q=>ag.extBut _ _ d1 (ah _ _ d3 (ai.extBut _ _ d1 q))) ⟨oe,ag.extBut _ _ (notzip hz₂ cQ bV) cQ,bV⟩
 |some x=>
  have hy:ys[k]?=none:=by rcases u7 with h|h;rw[hx] at h;cases h;exact h
  refine gw (gw (xc (gw (m:=Builtin.SmallTypes.nextOf (.ref i1)) (c1.item (s:={s with heap:=h₁}) hx fun h₂ c1₂ ah=>gK ?_))));have bx:IsPair h₂ TO a b:=ah.extBut _ _ D.TOi1 (ai.extBut _ _ D.TOz x8);refine gw (qg (s:={s with heap:=h₂}) bx rfl (gw (D1 (s:={s with heap:=h₂}) bx fun h₃ bY ag=>gw (D0 (gK ?_)))));have c2:Src h₃ i2 l2 k ys:=h2.keep (fun o e=>ag.extBut _ o D.TOi2.symm (ah.extBut _ o D.i12.symm (ai.extBut _ o D.i2z e))) (fun o e=>ag.extBut _ o D.l2TO (ah.extBut _ o D.l2i1 (ai.extBut _ o D.l2z e)));refine gw (gw (xc (gw (m:=Builtin.SmallTypes.nextOf (.ref i2)) (c2.stop (s:={s with heap:=h₃}) hh hy fun h₄ e bO ⟨oe,cQ,bV⟩=>?_))));have hz₄:IsZip h₄ z TI TO .ellipsis:=bO _ _ D.i2z.symm (ag.extBut _ _ D.TOz.symm (ah.extBut _ _ D.i1z.symm cg));exact vm (s:={s with heap:=h₄}) hz₄ (by simp) fun h₅ _ bF=>hE h₅ e (fun c o d1 d2 d3 d4 q=>bF.extBut _ _ d1 (bO _ _ d4 (ag.extBut _ _ d2 (ah.extBut _ _ d3 (ai.extBut _ _ d1 q))))) ⟨oe,bF.extBut _ _ (notzip hz₄ cQ bV) cQ,bV⟩
theorem EH{Q:zm}(D:ZipApart z TI TO i1 i2 l1 l2)(hz:IsZip s.heap z TI TO .none)(v5:IsPair s.heap TI (.ref i1) (.ref i2))(x8:IsPair s.heap TO a b)(h1:Src s.heap i1 l1 k xs)(h2:Src s.heap i2 l2 k ys)(hx:xs[k]?=some x)(hy:ys[k]?=some y)
  (hQ: ∀h',IsZip h' z TI TO (rawInt s.heap.objs.size)->IsPair h' TO x y->Src h' i1 l1 (k+1) xs->Src h' i2 l2 (k+1) ys->IsPair h' s.heap.objs.size x y->(∀c o,c≠z->c≠TO->c≠i1->c≠i2->s.heap.get? c=some o->h'.get? c=some o)->Q (some (.ref s.heap.objs.size)) {s with heap:=h'}):
  wpAny (model prog w) A (pyNext (.ref z)) Q E s:=by
 have hT:s.TypeIs (.ref z) "zip":=⟨_,hz,rfl⟩
 unfold pyNext
 exact gw (sM (qj (name:=Str.ofString "__next__") hT AQ (mU AQ hT F.entry_zip_next
  (II D hz v5 x8 h1 h2 hx hy fun h' a1 a2 a3 a4 a5 a6=>gK (hQ h' a1 a2 a3 a4 a5 a6)) (F.args_zip_next_1 _))))
theorem xH{Q:zm}(hh:A.handled=none)(D:ZipApart z TI TO i1 i2 l1 l2)(hz:IsZip s.heap z TI TO .none)(v5:IsPair s.heap TI (.ref i1) (.ref i2))(x8:IsPair s.heap TO a b)(h1:Src s.heap i1 l1 k xs)(h2:Src s.heap i2 l2 k ys)(u7:xs[k]?=none\/ys[k]?=none)
  (hQ: ∀h',(∀c o,c≠z->c≠TO->c≠i1->c≠i2->s.heap.get? c=some o->h'.get? c=some o)->Q none {s with heap:=h'}):wpAny (model prog w) A (pyNext (.ref z)) Q E s:=by
 have hT:s.TypeIs (.ref z) "zip":=⟨_,hz,rfl⟩
 unfold pyNext
 exact gw (sM (qj (name:=Str.ofString "__next__") hT AQ (mU AQ hT F.entry_zip_next
  (IH hh D hz v5 x8 h1 h2 u7 fun h' e hk ⟨o,ho,hc⟩=>gw (vh (T:="StopIteration") (b:=true) ⟨o,ho,hc⟩ DZ (gK (hQ _ hk)))) (F.args_zip_next_1 _))))
end
theorem Lp(l1 l2:gv)(xs ys:jW):Meets (Builtin.«zip.__new__» ⟨[.type "zip",.ref l1,.ref l2],[]⟩) (fun _ R s=>(s.heap.IsList l1 xs\/s.heap.IsTuple l1 xs)/\(s.heap.IsList l2 ys\/s.heap.IsTuple l2 ys)/\
  ∀h1 h2,Src h1 s.heap.objs.size l1 0 xs->h1.objs.size=s.heap.objs.size+1->(∀b o,s.heap.get? b=some o->h1.get? b=some o)->Src h2 h1.objs.size l2 0 ys->h2.objs.size=h1.objs.size+1->(∀b o,h1.get? b=some o->h2.get? b=some o)->
   R (.ok (.ret (.ref ((h2.push {cls:= .type "tuple",data:= .seq #[.ref s.heap.objs.size,.ref h1.objs.size]}).push {cls:= .type "tuple",data:= .seq #[.none,.none]}).objs.size)))
    {s with heap:=((h2.push {cls:= .type "tuple",data:= .seq #[.ref s.heap.objs.size,.ref h1.objs.size]}).push {cls:= .type "tuple",data:= .seq #[.none,.none]}).push {cls:= .type "zip",data:= .fields #[.none,.bool false,.bool false,.ref h2.objs.size,.ref (h2.push {cls:= .type "tuple",data:= .seq #[.ref s.heap.objs.size,.ref h1.objs.size]}).objs.size]}}):=
 .of_wp fun prog w A R s h=>by
  obtain⟨hp,g,d,tk,os⟩:=s;obtain⟨aQ,ax,h⟩:=h;have aG:=sub_zip
  wp_walk using Src.new aQ
  intro h1 a1 a2 a3
  have hl2':h1.IsList l2 ys\/h1.IsTuple l2 ys:=by
   rcases ax with⟨o,e,r⟩|⟨o,e,r⟩
   ·exact .inl ⟨o,a3 _ _ e,r⟩
   ·exact .inr ⟨o,a3 _ _ e,r⟩
  wp_walk using Src.new (s:=⟨h1,g,d,tk,os⟩) hl2'
  intro h2 b1 b2 b3
  wp_walk
  exact⟨_,rfl,h h1 h2 a1 a2 a3 b1 b2 b3⟩
noncomputable def ItZ(b1 b2:Bool)(K:hC)(l1 l2:gv):It:=⟨fun i H=> ∃xs ys x y,SqX b1 K H l1 xs/\SqX b2 K H l2 ys/\xs[i]?=some x/\ys[i]?=some y,
 fun i H x H'=> ∃(T:gv) (u v:V),x= .ref T/\H T=none/\H'=upd H T (.tup [u,v])/\ ∀xs ys,SqX b1 K H l1 xs->SqX b2 K H l2 ys->xs[i]?=some u/\ys[i]?=some v,
 fun i H=> ∃xs ys,SqX b1 K H l1 xs/\SqX b2 K H l2 ys/\(xs.length<=i\/ys.length<=i)⟩
structure ZA(z TI TO i1 i2:gv):Prop where
 a1:TI≠z
 a2:TO≠z
 a3:i1≠z
 a4:i2≠z
 a5:TI≠TO
 a6:TI≠i1
 a7:TI≠i2
 a8:TO≠i1
 a9:TO≠i2
 a10:i1≠i2
theorem uo{b:Bool}{K:hC}{H:Hp}{l:gv}{xs:List V}{X:Cx}{pins:ik}{σ:L2.St}{s:gA}(I:Inv X pins σ H s)(hK:X.K=K)(q:SqX b K H l xs){fp:kb}(hf: ∀a∈fp,qS X pins H a):l∉fp:=by
 subst hK;intro hm;have hn:=(hf l hm).1
 have base: ∀o,X.K.lookup l=some o->False:=fun o e=>by
  have e1:=I.mod.kin l o e;rcases(hf l hm).2.2.2.1 with z|z
  ·exact I.ok.noex l o e1 z
  ·have:=(I.ok.bs l o e1).1;exact absurd (iq this) (Nat.not_lt.mpr z)
 cases b with
 |true=>
  rcases q with(q|⟨o,q⟩)|⟨o,b6,n,e,_⟩
  ·rw[hn] at q;cases q
  ·rw[hn] at q;cases q
  ·exact base o e
 |false=>
  rcases q with(q|⟨o,q⟩)|⟨o,b6,n,e,_⟩
  ·rw[hn] at q;cases q
  ·rw[hn] at q;cases q
  ·exact base o e
theorem IU{P:hG}{w:gS}{K:hC}{elts:jF}{k1}{pos:Pos}(b1 b2:Bool)(z TI TO i1 i2 l1 l2:gv)(D:ZA z TI TO i1 i2):
  Turn P w K (.Tuple elts k1 pos) (ItZ b1 b2 K l1 l2) [z,TI,TO,i1,i2] z (fun i h=>IsZip h z TI TO .none/\IsPair h TI (.ref i1) (.ref i2)/\(∃a b,IsPair h TO a b)/\ItX b1 h i1 l1 i/\ItX b2 h i2 l2 i) where
 mem:=by simp
 obj:=fun i h st a ha=>by
  obtain⟨hz,v5,⟨u,v,x8⟩,s1,s2⟩:=st;simp only[jj,jL,kJ] at ha;rcases ha with rfl|rfl|rfl|rfl|rfl
  ·exact⟨_,hz,fun v e=>by have e':Data.fields _=Data.cell v:=e;cases e'⟩
  ·exact⟨_,v5,fun v e=>by have e':Data.seq _ _=Data.cell v:=e;cases e'⟩
  ·exact⟨_,x8,fun v e=>by have e':Data.seq _ _=Data.cell v:=e;cases e'⟩
  ·exact s1.obj
  ·exact s2.obj
 keep:=fun i h h' st k=>by
  obtain⟨hz,v5,⟨u,v,x8⟩,s1,s2⟩:=st;exact⟨k z (by simp) _ hz,k TI (by simp) _ v5,⟨u,v,k TO (by simp) _ x8⟩,s1.keep fun o q=>k i1 (by simp) o q,s2.keep fun o q=>k i2 (by simp) o q⟩
 item:=by
  intro X hP hw hK hc i pins s σ H E I hf st hg;obtain⟨hz,v5,⟨a0,b0,x8⟩,s1,s2⟩:=st;obtain⟨xs,ys,x,y,bR,bQ,hx,hy⟩:=hg;have n1:=uo I hK bR hf;have n2:=uo I hK bQ hf;simp only[jj,jL,kJ,oO] at n1 n2;subst hP hw hK;obtain⟨cH,fm,aV⟩:=wH I bR s1;obtain⟨c8,fk,aU⟩:=wH I bQ s2;obtain⟨u,hu,ru⟩:=fm.get hx;obtain⟨v,hv,rv⟩:=fk.get hy;have AP:ZipApart z TI TO i1 i2 l1 l2:=⟨D.a1,D.a2,D.a3,D.a4,D.a5,D.a6,D.a7,D.a8,D.a9,D.a10,n1.1,n1.2.2.1,n1.2.2.2.1,n1.2.2.2.2,n2.1,n2.2.2.1,n2.2.2.2.1,n2.2.2.2.2⟩
  refine EH AP hz v5 x8 aV aU (x:=u) (y:=v) (by simpa using hu) (by simpa using hv) fun h' z' t1 c1 c2 hT kp=>⟨.ref s.heap.objs.size,rfl,?_⟩
  refine wpAny_letOwnedTupleGo_zip (s:={s with heap:=h'}) z' fun dw z'' sb=>?_;replace sb:Heap.SameBut z h' dw:=sb
  have fD: ∀a o,a∉[z,TI,TO,i1,i2]->s.heap.get? a=some o->dw.get? a=some o:=fun a o na q=>by
   simp only[jj,jL,kJ,oO] at na;exact sb.extBut a o na.1 (kp a o na.1 na.2.2.1 na.2.2.2.1 na.2.2.2.2 q)
  have lt: ∀{c o},s.heap.get? c=some o->s.heap.objs.size≠c:=fun e=>qm (iq e);have hT'':IsPair dw s.heap.objs.size u v:=sb.extBut _ _ (lt hz) hT
  have I1:Inv X pins σ (upd H s.heap.objs.size (.tup [x,y])) {s with heap:=dw}:=
   GZ (t':=s.toks) I hf fD (ip _) (show ObjOk X.prog X.w _ _ _ (.tup [x,y]) from⟨by show 2<=sizeLine;decide,[u,v],.cons ru (.cons rv .nil),_,hT'',rfl,0,rfl⟩)
  have t1'':ItX b1 dw i1 l1 (i+1):=Kq s1 aV (c1.keep (fun o q=>sb.extBut _ o D.a3 q) fun o q=>sb.extBut _ o n1.1 q) fun o q=>fD l1 o (by simp only[jj,jL,kJ,oO];exact n1) q;have t2'':ItX b2 dw i2 l2 (i+1):=Kq s2 aU (c2.keep (fun o q=>sb.extBut _ o D.a4 q) fun o q=>sb.extBut _ o n2.1 q) fun o q=>fD l2 o (by simp only[jj,jL,kJ,oO];exact n2) q;refine⟨.ref s.heap.objs.size,_,I1,rfl,⟨_,x,y,rfl,I.fresh,rfl,fun cA ys' q1 q2=>by rw[F6 I q1 bR,F6 I q2 bQ];exact⟨hx,hy⟩⟩,⟨z'',sb.extBut _ _ D.a1 (kp _ _ D.a1 D.a5 D.a6 D.a7 v5),⟨u,v,sb.extBut _ _ D.a2 t1⟩,t1'',t2''⟩,fun a ha=>?_⟩;have n0:=(hf a ha).1;rw[iE]
  ·exact n0
  ·intro e;simp only[jj,jL,kJ] at ha;rcases ha with rfl|rfl|rfl|rfl|rfl
   ·exact lt hz e.symm
   ·exact lt v5 e.symm
   ·exact lt x8 e.symm
   ·exact absurd e (iK aV.lt.1)
   ·exact absurd e (iK aU.lt.1)
 done:=by
  intro X hP hw hK hc i pins s σ H E I hf st hg;obtain⟨hz,v5,⟨a0,b0,x8⟩,s1,s2⟩:=st;obtain⟨xs,ys,bR,bQ,u7⟩:=hg;have n1:=uo I hK bR hf;have n2:=uo I hK bQ hf;simp only[jj,jL,kJ,oO] at n1 n2;subst hP hw hK;obtain⟨cH,fm,aV⟩:=wH I bR s1;obtain⟨c8,fk,aU⟩:=wH I bQ s2;have e1:=fm.length;have e2:=fk.length;have AP:ZipApart z TI TO i1 i2 l1 l2:=⟨D.a1,D.a2,D.a3,D.a4,D.a5,D.a6,D.a7,D.a8,D.a9,D.a10,n1.1,n1.2.2.1,n1.2.2.2.1,n1.2.2.2.2,n2.1,n2.2.2.1,n2.2.2.2.1,n2.2.2.2.2⟩
  refine xH (I.ok.hd hc) AP hz v5 x8 aV aU (u7.imp (fun h=>by simp;lia) fun h=>by simp;lia) fun h' kp=>⟨rfl,G0 (t':=s.toks) I hf fun a o na q=>?_⟩
  simp only[jj,jL,kJ,oO] at na;exact kp a o na.1 na.2.2.1 na.2.2.2.1 na.2.2.2.2 q
 self:=fun _ _ _ _ _ st h=>wpAny_pyIter_zip st.1 h
theorem Ks{K:hC}{O:AP'}{H1:Hp}{a1 a2:gv}{xs ys:List V}{ds es:List D}{b1 b2:Bool}(q1:if b1=true then SqLO K H1 O a1 xs else SqTO K H1 O a1 xs)(r1:RepL K H1 O ds xs)(q2:if b2=true then SqLO K H1 O a2 ys else SqTO K H1 O a2 ys)(r2:RepL K H1 O es ys):
  ItOk K (ItZ b1 b2 K a1 a2) ((ds.zip es).map fun p=> .tup [p.1,p.2]) O H1:=by
 have sq: ∀{b:Bool} {a:gv} {xs:List V},(if b=true then SqLO K H1 O a xs else SqTO K H1 O a xs)-> ∀Hi,(∀a o,H1 a=some o-> ¬O a->Hi a=some o)->SqX b K Hi a xs:=fun {b a xs} q Hi hp=>by
  cases b with
  |true=>exact(SqLO.mono (O':=O) q hp (fun _ _ z=>z)).sq
  |false=>exact(SqTO.mono (O':=O) q hp (fun _ _ z=>z)).sq
 refine⟨fun i d Hi hd hp=>?_,fun i Hi hi hp=>⟨xs,ys,sq q1 Hi hp,sq q2 Hi hp,by rw[r1.length,r2.length];simp at hi;lia⟩⟩;rw[lH] at hd;obtain⟨⟨d1,d2⟩,h1,h2⟩:=jf hd;obtain⟨h3,h4⟩:=DD.mp h1;obtain⟨x,hx,rx⟩:=r1.get h3;obtain⟨y,hy,ry⟩:=r2.get h4;refine⟨⟨xs,ys,x,y,sq q1 Hi hp,sq q2 Hi hp,hx,hy⟩,fun v H' hy'=>?_⟩;obtain⟨T,u,w,rfl,hT,rfl,hz⟩:=hy';obtain⟨g1,g2⟩:=hz xs ys (sq q1 Hi hp) (sq q2 Hi hp);rw[hx] at g1;cases g1;rw[hy] at g2;cases g2;have ext:=kR (o:= .tup [x,y]) hT;refine⟨ext,fun O' h1 cv=>?_⟩;subst h2;exact Rep.mkTup ⟨iC,cv T hT⟩ (RepL.cons (Rep.mono (fun b o e n=>ext b o (hp b o e n)) (fun b hb z=>h1 b hb z) rx) (RepL.cons (Rep.mono (fun b o e n=>ext b o (hp b o e n)) (fun b hb z=>h1 b hb z) ry) RepL.nil))
section
variable {X:Cx}{elts:jF}{k1:Nat}{aE:Pos}
theorem Pj:bootBuiltins "zip"=some (.type "zip"):=by decide+kernel
def SQ(K:hC)(ta:TA):TI:=fun σ H R=>ta σ H fun vs H1=> ∃b1 b2 l1 l2 xs ys,vs=[.ref l1,.ref l2]/\SqX b1 K H1 l1 xs/\SqX b2 K H1 l2 ys/\R (ItZ b1 b2 K l1 l2) H1
theorem Gw{b:Bool}{pins:ik}{σ:L2.St}{H:Hp}{s:gA}{l it:gv}{xs:List V}{b6:jW}{i:Nat}(I:Inv X pins σ H s)(hq:SqX b X.K H l xs)(src:Src s.heap it l i b6):ItX b s.heap it l i:=by
 cases b with
 |true=>
  rcases src with⟨a,_⟩|⟨_,o,h1,h2,_⟩
  ·exact a
  ·obtain⟨_,_,p,_⟩:=I.list hq;obtain⟨o',g1,g2,_⟩:=p.isList;rw[h1] at g1;cases g1;rw[h2] at g2;injection g2 with g2;exact absurd g2 (by decide)
 |false=>
  rcases src with⟨_,o,h1,h2,_⟩|⟨a,_⟩
  ·obtain⟨_,_,p,_⟩:=I.tuple hq;obtain⟨o',g1,g2,_⟩:=p;rw[h1] at g1;cases g1;rw[h2] at g2;injection g2 with g2;exact absurd g2 (by decide)
  ·exact a
theorem Oj{a b:gM}{ta:TA}{p pos:Pos}(hg:Gl X "zip")(hm:X.mg "zip"=none)(ha:PA X [a,b] ta)(hs:starEach [a,b] X.env=(false,eval a X.env)::starEach [b] X.env)(i8:(backTo pos (starEach [b] X.env)).any (·.1)=false):
  PI X (.Tuple elts k1 aE) (.Call (.Name "zip" p) [a,b] [] pos) (SQ X.K ta):=by
 intro pins s0 σ H0 R I0 h;refine A4 (vM I0 hg hm Pj (A5 (thn (ha pos pins s0 σ H0 _ I0 h) fun us s ⟨vs,H,I,r1,b1,b2,l1,l2,xs,ys,hv,bR,bQ,q⟩=>?_) hs i8));subst hv;obtain⟨u,v,rfl,ru,rv⟩:=Ck r1;cases ru;cases rv;obtain⟨cH,_,aQ⟩:=Jh I bR;obtain⟨c8,_,ax⟩:=Jh I bQ;refine callType_new F.called_zip (by decide) (F.typeCall_zip_2 _ _) (F.newCall_zip_2 _ _) (fun obj=>F.args_object_init_3 obj _ _) F.entry_zip_new (Lp l1 l2 cH.toArray c8.toArray) ⟨aQ,ax,fun h1 h2 c1 z1 k1 c2 z2 k2=>?_⟩;generalize ho3:({cls:= .type "tuple",data:= .seq #[.ref s.heap.objs.size,.ref h1.objs.size]}:Obj)=o3;generalize ho4:({cls:= .type "tuple",data:= .seq #[.none,.none]}:Obj)=o4;have z3:(h2.push o3).objs.size=h2.objs.size+1:=uf ..;have z4:((h2.push o3).push o4).objs.size=h2.objs.size+2:=by rw[uf,z3]
 generalize ho5:({cls:= .type "zip",data:= .fields #[.none,.bool false,.bool false,.ref h2.objs.size,.ref (h2.push o3).objs.size]}:Obj)=o5;have g5:(((h2.push o3).push o4).push o5).get? ((h2.push o3).push o4).objs.size=some o5:=jP _ (by rw[<-ho5];rfl);have g4:(((h2.push o3).push o4).push o5).get? (h2.push o3).objs.size=some o4:=iz _ (jP _ (by rw[<-ho4];rfl));have g3:(((h2.push o3).push o4).push o5).get? h2.objs.size=some o3:=iz _ (iz _ (jP _ (by rw[<-ho3];rfl)));have kp: ∀c o,h2.get? c=some o->(((h2.push o3).push o4).push o5).get? c=some o:=fun c o e=>iz _ (iz _ (iz _ e));have cI:IsZip (((h2.push o3).push o4).push o5) ((h2.push o3).push o4).objs.size h2.objs.size (h2.push o3).objs.size .none:=by show _=_;rw[g5,<-ho5]
 have v5:IsPair (((h2.push o3).push o4).push o5) h2.objs.size (.ref s.heap.objs.size) (.ref h1.objs.size):=by show _=_;rw[g3,<-ho3]
 have x8:IsPair (((h2.push o3).push o4).push o5) (h2.push o3).objs.size .none .none:=by show _=_;rw[g4,<-ho4]
 have I1:Inv X pins σ H {s with heap:=((h2.push o3).push o4).push o5}:=I.kept (t':=s.toks) fun c o e=>kp c o (k2 c o (k1 c o e));have d1:=c1.keep (h':=((h2.push o3).push o4).push o5) (fun o e=>kp _ o (k2 _ o e)) (fun o e=>kp _ o (k2 _ o e));have d2:=c2.keep (h':=((h2.push o3).push o4).push o5) (fun o e=>kp _ o e) (fun o e=>kp _ o e);refine⟨⟨_,cI,rfl⟩,wpAny_pyIter_zip (s:={s with heap:=((h2.push o3).push o4).push o5}) cI ?_⟩;refine⟨((h2.push o3).push o4).objs.size,[((h2.push o3).push o4).objs.size,h2.objs.size,(h2.push o3).objs.size,s.heap.objs.size,h1.objs.size],_,_,H,rfl,I1,IU b1 b2 _ _ _ _ _ l1 l2 ⟨?_,?_,?_,?_,?_,?_,?_,?_,?_,?_⟩,⟨cI,v5,⟨_,_,x8⟩,Gw I1 bR d1,Gw I1 bQ d2⟩,fun a ha=>?_,q⟩
 ·rw[z4];exact iK (Nat.lt_add_of_pos_right (by decide))
 ·rw[z4,z3];exact iK (ud _)
 ·rw[z4,z2,z1];exact iK (by
   have:s.heap.objs.size<s.heap.objs.size+1+1+2:=by lia
   exact this)
 ·rw[z4,z2];exact iK (by
   have:h1.objs.size<h1.objs.size+1+2:=by lia
   exact this)
 ·rw[z3];exact iK (ud _)
 ·rw[z2,z1];exact qm (by
   have:s.heap.objs.size<s.heap.objs.size+1+1:=by lia
   exact this)
 ·rw[z2];exact qm (ud _)
 ·rw[z3,z2,z1];exact qm (by
   have:s.heap.objs.size<s.heap.objs.size+1+1+1:=by lia
   exact this)
 ·rw[z3,z2];exact qm (by
   have:h1.objs.size<h1.objs.size+1+1:=by lia
   exact this)
 ·rw[z1];exact iK (ud _)
 ·have le:s.heap.objs.size<=a:=by
   simp only[jj,jL,kJ] at ha;rcases ha with rfl|rfl|rfl|rfl|rfl
   ·rw[z4,z2,z1];have:s.heap.objs.size<=s.heap.objs.size+1+1+2:=by lia
    exact this
   ·rw[z2,z1];have:s.heap.objs.size<=s.heap.objs.size+1+1:=by lia
    exact this
   ·rw[z3,z2,z1];have:s.heap.objs.size<=s.heap.objs.size+1+1+1:=by lia
    exact this
   ·exact ip _
   ·rw[z1];exact vt _
  exact I.fpOk le (I.hok.fresh le)
noncomputable def xx:D->Option (List D)
 | .tup l=>some l
 | .lst l=>some l
 |_=>none
noncomputable def zT(f g:F):FIt:=fun δ=>(f δ).bind fun p=>(g p.2).bind fun q=>(xx p.1.1).bind fun l=>(xx q.1.1).bind fun m=>some ((l.zip m).map fun p=> .tup [p.1,p.2],q.2)
theorem zA{K H}{O:AP'}{d:D}{l:List D}{v:V}(h:xx d=some l)(r:Rep K H O d v): ∃b a xs,v= .ref a/\(if b=true then SqLO K H O a xs else SqTO K H O a xs)/\RepL K H O l xs:=by
 cases d with
 |tup m=>cases h;obtain⟨a,xs,rfl,q,rr⟩:=r.tup;exact⟨false,a,xs,rfl,q,rr⟩
 |lst m=>cases h;obtain⟨a,xs,rfl,q,rr⟩:=r.lst;exact⟨true,a,xs,rfl,q,rr⟩
 |_=>cases h
theorem Jg{K H}{O:AP'}{b:Bool}{a:gv}{xs:List V}(q:if b=true then SqLO K H O a xs else SqTO K H O a xs):SqX b K H a xs:=by
 cases b with
 |true=>exact SqLO.sq q
 |false=>exact SqTO.sq q
theorem L9{a b:gM}{f g:F}{p pos:Pos}(hg:Gl X "zip")(hm:X.mg "zip"=none)(ha:PX X a f)(hb:PX X b g)(hs:starEach [a,b] X.env=(false,eval a X.env)::starEach [b] X.env)(r8:starEach [b] X.env=(false,eval b X.env)::starEach [] X.env)(i8:(backTo pos (starEach [b] X.env)).any (·.1)=false):
  PIX X (.Tuple elts k1 aE) (.Call (.Name "zip" p) [a,b] [] pos) (zT f g):=PI.imp' (Oj hg hm (uy (PX.po ha) (uy (PX.po hb) Br r8) hs) hs i8) fun σ H R hw=>by
 obtain⟨δ,T,ds,δ',E,e,k⟩:=hw;obtain⟨⟨r1,δ1⟩,h1,e⟩:=gu e;obtain⟨⟨r2,δ2⟩,h2,e⟩:=gu e;obtain⟨l,h3,e⟩:=gu e;obtain⟨m,h4,e⟩:=gu e;obtain⟨rfl,rfl⟩:=gX e;refine⟨δ,T,[.val r1,.val r2],δ2,E,?_,fun vs H1 T1 B=>?_⟩
 ·simp only[je,gp,h1,h2,Option.bind]
 ·have hl:=B.len
  match vs,hl with
  |[v,u],_=>
   obtain⟨b1,a1,xs,rfl,q1,rr1⟩:=zA h3 (B.rep E (j:=0) rfl rfl);obtain⟨b2,a2,ys,rfl,q2,rr2⟩:=zA h4 (B.rep E (j:=1) rfl rfl);exact⟨b1,b2,a1,a2,xs,ys,rfl,Jg q1,Jg q2,k _ H1 B.keep (B.er.mono (fun _ _ e _=>e) (fun b _ z=>B.tt b z) (fun a z=>B.er.dom a (B.tt a z))) (Ks q1 rr1 q2 rr2)⟩
end
end PX
namespace TS
open PySem PyProof.Rows
section
variable(M:Model)(A:gW)(E:hV)(G:Shared->Prop){σ:Type}
def wpI{α:Type}(m:StateT σ Sem α)(Q:α->σ->Prop)(st:σ):Prop:= ∀s,G s->wpAny M A (m.run st) (fun r s'=>G s'/\Q r.1 r.2) E s
variable {M A E G}
theorem gy{α:Type}{a:α}{Q:α->σ->Prop}{st:σ}(h:Q a st):wpI M A E G (pure a:StateT σ Sem α) Q st:=fun s g=>by rw[StateT.run_pure];exact gK ⟨g,h⟩
theorem gx{α β:Type}{m:StateT σ Sem α}{f:α->StateT σ Sem β}{Q:β->σ->Prop}{st:σ}(h:wpI M A E G m (fun a b8=>wpI M A E G (f a) Q b8) st):wpI M A E G (m>>=f) Q st:=fun s g=>by
 rw[StateT.run_bind];exact gw (pU (h s g) (fun r s' h'=>h'.2 s' h'.1) fun _ _ e=>e)
theorem iP{α:Type}{m:StateT σ Sem α}{Q Q':α->σ->Prop}{st:σ}(h:wpI M A E G m Q st)(hq: ∀a b8,Q a b8->Q' a b8):wpI M A E G m Q' st:=fun s g=>pU (h s g) (fun r _ h'=>⟨h'.1,hq _ _ h'.2⟩) fun _ _ e=>e
theorem ly{Q:σ->σ->Prop}{st:σ}(h:Q st st):wpI M A E G (get:StateT σ Sem σ) Q st:=fun s g=>by rw[StateT.run_get];exact gK ⟨g,h⟩
theorem Lq{Q:PUnit->σ->Prop}{st b8:σ}(h:Q ⟨⟩ b8):wpI M A E G (set b8:StateT σ Sem PUnit) Q st:=fun s g=>by rw[StateT.run_set];exact gK ⟨g,h⟩
theorem jV{f:σ->σ}{Q:PUnit->σ->Prop}{st:σ}(h:Q ⟨⟩ (f st)):wpI M A E G (modify f:StateT σ Sem PUnit) Q st:=fun s g=>by rw[StateT.run_modify];exact gK ⟨g,h⟩
theorem Cd{α:Type}{m:Sem α}{Q:α->σ->Prop}{st:σ}(h: ∀s,G s->wpAny M A m (fun a s'=>G s'/\Q a st) E s):wpI M A E G (liftM m:StateT σ Sem α) Q st:=fun s g=>by
 show wpAny M A ((StateT.lift m:StateT σ Sem α).run st) _ E s;rw[StateT.run_lift];exact gw (pU (h s g) (fun a s' h'=>gK h') fun _ _ e=>e)
theorem oS{x:String}{Q:Unit->σ->Prop}{st:σ}(h:Q () st):wpI M A E G (liftM (rule x):StateT σ Sem Unit) Q st:=Cd fun s g=>ug ⟨g,h⟩
theorem Cc{β:Type}(f:Nat->β->StateT σ Sem (ForInStep β))(I:List Nat->β->σ->Prop)(Q:β->σ->Prop)
  (av: ∀x ie b st,I (x::ie) b st->wpI M A E G (f x b) (fun r b8=>match r with| .done b'=>Q b' b8| .yield b'=>I ie b' b8) st)(u7: ∀b st,I [] b st->Q b st):
  ∀(l:iF) (b:β) (st:σ),I l b st->wpI M A E G (forIn l b f) Q st
 |[],b,st,h=>by rw[List.forIn_nil];exact gy (u7 _ _ h)
 |x::ie,b,st,h=>by
  rw[xi];refine gx (iP (av x ie b st h) fun r b8 h'=>?_)
  cases r with
  |done b'=>exact gy h'
  |yield b'=>exact Cc f I Q av u7 ie b' b8 h'
theorem iX{β:Type}{a b:Nat}{f:Nat->β->StateT σ Sem (ForInStep β)}(I:Nat->β->σ->Prop){Q:β->σ->Prop}
  (av: ∀i c st,a<=i->i<b->I i c st->wpI M A E G (f i c) (fun r b8=>match r with| .done c'=>Q c' b8| .yield c'=>I (i+1) c' b8) st)
  (u7: ∀c st,I (max a b) c st->Q c st){c:β}{st:σ}(h:I a c st):wpI M A E G (forIn [a:b] c f) Q st:=by
 rw[Std.Legacy.Range.forIn_eq_forIn_range'];have hsz:([a:b]:Std.Legacy.Range).size=b-a:=by simp[Std.Legacy.Range.size]
 show wpI M A E G (forIn (List.range' a ([a:b]:Std.Legacy.Range).size 1) c f) Q st;rw[hsz];refine Cc f (fun l c st=> ∃i,a<=i/\i<=max a b/\l=List.range' i (max a b-i) 1/\I i c st) Q ?_ ?_ _ c st ⟨a,ip _,by lia,by congr 1;lia,h⟩
 ·rintro x ie c st ⟨i,hai,hib,hl,hI⟩
  cases hn:max a b-i with
  |zero=>rw[hn] at hl;simp at hl
  |succ n=>
   rw[hn,xb] at hl;obtain⟨rfl,rfl⟩:=xa hl;refine iP (av x c st hai (by lia) hI) fun r b8 h'=>?_
   cases r with
   |done c'=>exact h'
   |yield c'=>exact⟨x+1,by lia,by lia,by congr 1;lia,h'⟩
 ·rintro c st ⟨i,hai,hib,hl,hI⟩
  have:max a b-i=0:=by
   cases hn:max a b-i with
   |zero=>rfl
   |succ n=>rw[hn,xb] at hl;cases hl
  have:i=max a b:=by lia
  subst this;exact u7 _ _ hI
end
structure Wk(lt:lJ):Prop where
 irr: ∀i,lt i i=false
 tr: ∀i j k,lt i j=true->lt j k=true->lt i k=true
 nt: ∀i j k,lt i k=true->lt i j=true\/lt j k=true
def SL(lt:lJ)(i j:Nat):Prop:=lt i j=true\/(lt j i=false/\i<j)
section
variable {lt:lJ}(W:Wk lt)
include W
theorem Wk.asym{i j:Nat}(h:lt i j=true):lt j i=false:=by
 cases h2:lt j i with
 |false=>rfl
 |true=>have:=W.tr _ _ _ h h2;rw[W.irr] at this;cases this
theorem Wk.le_tr{i j k:Nat}(h1:lt j i=false)(h2:lt k j=false):lt k i=false:=by
 cases h:lt k i with
 |false=>rfl
 |true=>
   rcases W.nt _ j _ h with q|q
   ·rw[h2] at q;cases q
   ·rw[h1] at q;cases q
theorem Wk.lt_le{i j k:Nat}(h1:lt i j=true)(h2:lt k j=false):lt i k=true:=by
 rcases W.nt _ k _ h1 with q|q
 ·exact q
 ·rw[h2] at q;cases q
theorem Wk.le_lt{i j k:Nat}(h1:lt j i=false)(h2:lt j k=true):lt i k=true:=by
 rcases W.nt _ i _ h2 with q|q
 ·rw[h1] at q;cases q
 ·exact q
theorem SL.trans{i j k:Nat}(h1:SL lt i j)(h2:SL lt j k):SL lt i k:=by
 rcases h1 with h1|⟨h1,e1⟩<;>rcases h2 with h2|⟨h2,e2⟩
 ·exact .inl (W.tr _ _ _ h1 h2)
 ·exact .inl (W.lt_le h1 h2)
 ·exact .inl (W.le_lt h1 h2)
 ·exact .inr ⟨W.le_tr h1 h2,by lia⟩
theorem SL.le{i j:Nat}(h:SL lt i j):lt j i=false:=h.elim W.asym fun h=>h.1
theorem SL.asym{i j:Nat}(h1:SL lt i j)(h2:SL lt j i):False:=by
 have a:=SL.le W h1;have b:=SL.le W h2;rcases h1 with h1|⟨_,e1⟩
 ·rw[b] at h1;cases h1
 ·rcases h2 with h2|⟨_,e2⟩
  ·rw[a] at h2;cases h2
  ·lia
end
noncomputable def P(p:jy)(k:Nat):Nat:=p.getD k 0
theorem Lh{p q:jy}{i j:Nat}(h:p[i]?=q[j]?):P p i=P q j:=by
 simp only[P,qr,h]
theorem wm{p:jy}{i:Nat}(h:i<p.size):p[i]?=some (P p i):=by simp[P,h]
def Up(lt:lJ)(p:jy)(a b:Nat):Prop:= ∀i j,a<=i->i<j->j<b->SL lt (P p i) (P p j)
def Dn(lt:lJ)(p:jy)(a b:Nat):Prop:= ∀i j,a<=i->i<j->j<b->SL lt (P p j) (P p i)
def Reg(p:jy)(a b:Nat):Prop:= ∀k,a<=k->k<b->a<=P p k/\P p k<b
section
variable {prog:hG}{w:gS}{A:gW}{E:hV}{G:Shared->Prop}{it:nB}{lt:lJ}{κ:SortKind}{N:Nat}
structure Rp(it:nB)(κ:SortKind)(N:Nat)(st:iT)(p:jy):Prop where
 arr:arrOf st=p.map it
 kind:kindOf st=κ
 ok:failedOf st=none
 size:p.size=N
 perm:p.Perm (Array.range N)
def Ask(prog:hG)(w:gS)(A:gW)(E:hV)(G:Shared->Prop)(it:nB)(κ:SortKind)(N:Nat)(lt:lJ):Prop:=
 ∀i j,i<N->j<N-> ∀s,G s-> ∀E',wpAny (model prog w) A (keyLt' κ (it i).1 (it j).1) (fun b s'=>G s'/\b=lt i j) E' s
theorem Rp.bound{st:iT}{p:jy}(R:Rp it κ N st p){i:Nat}(h:i<N):P p i<N:=by
 have hm:P p i∈p.toList:=by
  have:=wm (p:=p) (i:=i) (by rw[R.size];exact h);exact Pr.mpr (Array.mem_of_getElem? this)
 have:=(MV.mp R.perm).mem_iff.mp hm;simpa using this
theorem xm(H:Ask prog w A E G it κ N lt){st:iT}(hk:kindOf st=κ){i j:Nat}(hi:i<N)(hj:j<N){Q:Option Bool->SortSt->Prop}(h:Q (some (lt i j)) st):wpI (model prog w) A E G (lt' (it i) (it j)) Q st:=by
 rw[lt'_eq];refine gx (ly ?_);rw[hk];refine gx (Cd fun s g=>sM (pU (H i j hi hj s g fun _ _=>False) (fun b s' hb=>?_) fun e s' he=>he.elim));obtain⟨g',rfl⟩:=hb;exact⟨g',gy h⟩
theorem xn{xs:nC}{q:jy}(hx:xs=q.map it){i:Nat}(hi:i<q.size){st:iT}{Q:Keyed->SortSt->Prop}(h:Q (it (P q i)) st):wpI (model prog w) A E G (elem' xs i) Q st:=by
 rw[elem'_eq,hx];have:(q.map it)[i]?=some (it (P q i)):=by rw[Array.getElem?_map,wm hi];rfl
 rw[this];exact gy h
theorem qA(H:Ask prog w A E G it κ N lt){st:iT}{p:jy}(R:Rp it κ N st p){i j:Nat}(hi:i<N)(hj:j<N){Q:Option Bool->SortSt->Prop}(h:Q (some (lt (P p i) (P p j))) st):wpI (model prog w) A E G (ltAt' i j) Q st:=by
 rw[ltAt'_eq];refine gx (ly ?_);refine gx (xn R.arr (by rw[R.size];exact hi) (gx (xn R.arr (by rw[R.size];exact hj) ?_)));exact xm H R.kind (R.bound hi) (R.bound hj) h
theorem E5(p:jy)(i j d:Nat):mirror (p.map it) i j d=(mirror p i j d).map it:=Ip it _ _ _ _
theorem FA(p:jy)(i d:Nat):bubble (p.map it) i d=(bubble p i d).map it:=Ip it _ _ _ _
theorem Rp.mirror{st:iT}{p:jy}(R:Rp it κ N st p)(i j d:Nat):Rp it κ N (setArr st (PyProof.Rows.mirror (arrOf st) i j d)) (PyProof.Rows.mirror p i j d):=
 ⟨by show PyProof.Rows.mirror (arrOf st) i j d=_;rw[R.arr,E5],R.kind,R.ok,by rw[mirror_size,R.size],(mirror_perm _ _ _ _).trans R.perm⟩
theorem Rp.bubble{st:iT}{p:jy}(R:Rp it κ N st p)(i d:Nat):Rp it κ N (setArr st (PyProof.Rows.bubble (arrOf st) i d)) (PyProof.Rows.bubble p i d):=
 ⟨by show PyProof.Rows.bubble (arrOf st) i d=_;rw[R.arr,FA],R.kind,R.ok,by rw[bubble_size,R.size],(bubble_perm _ _ _).trans R.perm⟩
theorem wF{st:iT}{i j:Nat}{Q:Unit->SortSt->Prop}(h:Q () (setArr st (mirror (arrOf st) i j ((j-i) / 2)))):wpI (model prog w) A E G (reverseSlice' i j) Q st:=by
 rw[reverseSlice'_eq];exact jV h
theorem IL{st:iT}{i j:Nat}{Q:Unit->SortSt->Prop}(h:Q () (setArr st (bubble (arrOf st) i (i-j)))):wpI (model prog w) A E G (moveDown' i j) Q st:=by
 rw[moveDown'_eq];exact jV h
theorem jH{p:jy}{i j:Nat}(hj:j<=p.size)(k:Nat):P (mirror p i j ((j-i) / 2)) k=if i<=k/\k<j then P p (i+j-1-k) else P p k:=by
 have e:=getElem?_mirror_all (i:=i) hj k;split at e
 ·rename_i h;rw[gD h];exact Lh e
 ·rename_i h;rw[gF h];exact Lh e
theorem Li{p:jy}{src d:Nat}(hs:src<p.size)(hd:d<=src)(k:Nat):P (bubble p src d) k=if k=src-d then P p src else if src-d<k/\k<=src then P p (k-1) else P p k:=by
 have e:=getElem?_bubble hs d hd k;split at e
 ·rename_i h;rw[gD h];exact Lh e
 ·rename_i h;rw[gF h];split at e
  ·rename_i h2;rw[gD h2];exact Lh e
  ·rename_i h2;rw[gF h2];exact Lh e
theorem Up.mirror{p:jy}{a b:Nat}(h:Up lt p a b)(hb:b<=p.size):Dn lt (PyProof.Rows.mirror p a b ((b-a) / 2)) a b:=fun i j h1 h2 h3=>by
 rw[jH hb,jH hb,gD ⟨by lia,h3⟩,gD ⟨h1,by lia⟩];exact h _ _ (by lia) (by lia) (by lia)
theorem Dn.mirror{p:jy}{a b:Nat}(h:Dn lt p a b)(hb:b<=p.size):Up lt (PyProof.Rows.mirror p a b ((b-a) / 2)) a b:=fun i j h1 h2 h3=>by
 rw[jH hb,jH hb,gD ⟨h1,by lia⟩,gD ⟨by lia,h3⟩];exact h _ _ (by lia) (by lia) (by lia)
theorem Reg.mirror{p:jy}{a b i j:Nat}(h:Reg p a b)(hj:j<=p.size)(h1:a<=i)(h2:j<=b):Reg (PyProof.Rows.mirror p i j ((j-i) / 2)) a b:=fun k h3 h4=>by
 rw[jH hj];split
 ·exact h _ (by lia) (by lia)
 ·exact h _ h3 h4
theorem FW(W:Wk lt)(H:Ask prog w A E G it κ N lt){lo d8 a:Nat}(hN:lo+d8=N)(h1:1<=a)(ha:a<=d8){st:iT}{p:jy}(R:Rp it κ N st p)(rg:Reg p lo (lo+a))(fx: ∀k,lo+a<=k->k<N->P p k=k)(up:Up lt p lo (lo+a)){Q:Option (Option Nat)×Nat->SortSt->Prop}
  (h: ∀m,a<=m->m<=d8->Reg p lo (lo+m)->Up lt p lo (lo+m)->(m=d8\/lt (P p (lo+m)) (P p (lo+m-1))=true)->Q (none,m) st):
  wpI (model prog w) A E G (forIn [a:d8] ((none,a):Option (Option Nat)×Nat) fun _ r=>do
   let x <-ltAt' (lo+r.2) (lo+r.2-1)
   match x with
   |some j4=>if j4=true then pure (ForInStep.done (none,r.2)) else pure (ForInStep.yield (none,r.2+1))
   |_=>pure (ForInStep.done (some none,r.2))) Q st:=by
 refine iX (I:=fun x c b8=>b8=st/\c=(none,x)/\Reg p lo (lo+x)/\Up lt p lo (lo+x)) ?step ?fin ⟨rfl,rfl,rg,up⟩
 case fin=>
  rintro c b8 ⟨rfl,rfl,r1,u1⟩;rw[show max a d8=d8 by lia] at r1 u1 ⊢;exact h d8 ha (ip _) r1 u1 (.inl rfl)
 case step=>
  rintro x c b8 fY hxn ⟨rfl,rfl,r1,u1⟩;refine gx (qA H R (by lia) (by lia) ?_);dsimp only
  cases hl:lt (P p (lo+x)) (P p (lo+x-1)) with
  |true=>simp only[iH];exact gy (h x fY (by lia) r1 u1 (.inr hl))
  |false=>
   simp only[iM,ja];have hx:P p (lo+x)=lo+x:=fx _ (by lia) (by lia);have br:=r1 (lo+x-1) (by lia) (by lia);have sl:SL lt (P p (lo+x-1)) (P p (lo+x)):= .inr ⟨hl,by lia⟩;refine gy ⟨rfl,rfl,fun k k1 k2=>?_,fun i j i1 ij j2=>?_⟩
   ·rcases AO k (lo+x) with q|q
    ·have:=r1 k k1 q;lia
    ·have:k=lo+x:=by lia
     subst this;lia
   ·rcases AO j (lo+x) with q|q
    ·exact u1 i j i1 ij q
    ·have:j=lo+x:=by lia
     subst this;rcases AO i (lo+x-1) with q2|q2
     ·exact SL.trans W (u1 i _ i1 q2 (by lia)) sl
     ·have:i=lo+x-1:=by lia
      subst this;exact sl
structure Fall(lt:lJ)(p:jy)(lo x q N:Nat):Prop where
 le:q+1<=x
 fx: ∀k,lo+x<=k->k<N->P p k=k
 rg:Reg p lo (lo+x)
 dn:Dn lt p lo (lo+x-(q+1))
 st: ∀i j,lo<=i->i<lo+x-(q+1)->lo+x-(q+1)<=j->j<lo+x->lt (P p j) (P p i)=true
 eq: ∀i j,lo+x-(q+1)<=i->i<j->j<lo+x->lt (P p i) (P p j)=false/\lt (P p j) (P p i)=false/\P p i<P p j
theorem Fall.turn{p:jy}{lo x q:Nat}(F:Fall lt p lo x q N)(hz:lo+x<=p.size):Dn lt (PyProof.Rows.mirror p (lo+x-(q+1)) (lo+x) ((lo+x-(lo+x-(q+1))) / 2)) lo (lo+x):=fun i j i1 ij j2=>by
 have hle:=F.le;rw[jH hz,jH hz];by_cases hj:lo+x-(q+1)<=j
 ·rw[gD ⟨hj,j2⟩];by_cases hi:lo+x-(q+1)<=i
  ·rw[gD ⟨hi,by lia⟩];obtain⟨e1,e2,e3⟩:=F.eq (lo+x-(q+1)+(lo+x)-1-j) (lo+x-(q+1)+(lo+x)-1-i) (by lia) (by lia) (by lia);exact .inr ⟨e2,e3⟩
  ·rw[gF (fun z=>hi z.1)];exact .inl (F.st _ _ i1 (by lia) (by lia) (by lia))
 ·rw[gF (fun z=>hj z.1),gF (fun z=>by lia)];exact F.dn i j i1 ij (by lia)
theorem Fall.flat{p:jy}{lo x:Nat}(F:Fall lt p lo x 0 N):Dn lt p lo (lo+x):=fun i j i1 ij j2=>by
 have hle:=F.le;by_cases hj:lo+x-1<=j
 ·exact .inl (F.st i j i1 (by lia) (by lia) (by lia))
 ·exact F.dn i j i1 ij (by lia)
def Ran(it:nB)(lt:lJ)(κ:SortKind)(N lo d8:Nat)(p0:jy)(bD:iT)(Q:zk):Prop:=
 ∀n st p,Rp it κ N st p->pendingOf st=pendingOf bD->1<=n->n<=d8->(∀k,k<lo->P p k=P p0 k)->(∀k,lo+n<=k->k<N->P p k=k)->Reg p lo (lo+n)->Up lt p lo (lo+n)->Q (some n) st
theorem IQ(W:Wk lt)(H:Ask prog w A E G it κ N lt){lo d8 n:Nat}(hN:lo+d8=N)(hn:n<=d8){st:iT}{p:jy}(R:Rp it κ N st p)(F:Fall lt p lo n 0 N){Q:Option (Option Nat)×Nat×Nat->SortSt->Prop}
  (h: ∀x q b8 p',Rp it κ N b8 p'->pendingOf b8=pendingOf st->n<=x->x<=d8->(∀k,k<lo->P p' k=P p k)->Fall lt p' lo x q N->Q (none,x,q) b8):
  wpI (model prog w) A E G (forIn [n:d8] ((none,n,0):Option (Option Nat)×Nat×Nat) fun _ r=>do
   let x <-ltAt' (lo+r.2.1) (lo+r.2.1-1)
   match x with
   |some j4=>
    if j4=true then
     if r.2.2>0 then do
      reverseSlice' (lo+r.2.1-(r.2.2+1)) (lo+r.2.1)
      pure (ForInStep.yield (none,r.2.1+1,0))
     else pure (ForInStep.yield (none,r.2.1+1,0))
    else do
     let x <-ltAt' (lo+r.2.1-1) (lo+r.2.1)
     match x with
     |some ak=>if ak=true then pure (ForInStep.done (none,r.2.1,r.2.2)) else pure (ForInStep.yield (none,r.2.1+1,r.2.2+1))
     |_=>pure (ForInStep.done (some none,r.2.1,r.2.2))
   |_=>pure (ForInStep.done (some none,r.2.1,r.2.2))) Q st:=by
 refine iX (I:=fun x c b8=> ∃q p',c=(none,x,q)/\Rp it κ N b8 p'/\pendingOf b8=pendingOf st/\(∀k,k<lo->P p' k=P p k)/\Fall lt p' lo x q N) ?step ?fin ⟨0,p,rfl,R,rfl,fun _ _=>rfl,F⟩
 case fin=>
  rintro c b8 ⟨q,p',rfl,R',e',f',F'⟩;rw[show max n d8=d8 by lia] at F' ⊢;exact h d8 q b8 p' R' e' hn (ip _) f' F'
 case step=>
  rintro x c b8 fY hxn ⟨q,p',rfl,R',e',f',F'⟩;have hle:=F'.le;have hx:P p' (lo+x)=lo+x:=F'.fx _ (by lia) (by lia);dsimp only;refine gx (qA H R' (by lia) (by lia) ?_);dsimp only
  have next:lt (P p' (lo+x)) (P p' (lo+x-1))=true-> ∀i,lo<=i->i<lo+x->lt (P p' (lo+x)) (P p' i)=true:=fun hl i i1 i2=>by
   by_cases hi:lo+x-(q+1)<=i
   ·by_cases aR:i=lo+x-1
    ·subst aR;exact hl
    ·exact W.lt_le hl (F'.eq i (lo+x-1) hi (by lia) (by lia)).1
   ·exact W.tr _ _ _ hl (F'.st i (lo+x-1) i1 (by lia) (by lia) (by lia))
  have grow: ∀p2:Array Nat,(∀k,¬(lo<=k/\k<lo+x)->P p2 k=P p' k)->(∀i,lo<=i->i<lo+x-> ∃j,lo<=j/\j<lo+x/\P p2 i=P p' j)->Dn lt p2 lo (lo+x)->lt (P p' (lo+x)) (P p' (lo+x-1))=true->Fall lt p2 lo (x+1) 0 N:=fun p2 h1 h2 h3 hl=>by
   refine⟨by lia,fun k k1 k2=>by rw[h1 k (by lia)];exact F'.fx k (by lia) k2,fun k k1 k2=>?_,?_,fun i j i1 i2 j1 j2=>?_,fun i j i1 i2 j2=>by lia⟩
   ·by_cases hk:k<lo+x
    ·obtain⟨j,j1,j2,e⟩:=h2 k k1 hk;have:=F'.rg j j1 j2
     lia
    ·have:k=lo+x:=by lia
     subst this;rw[h1 _ (by lia),hx];lia
   ·rw[show lo+(x+1)-(0+1)=lo+x by lia];exact h3
   ·have:j=lo+x:=by lia
    subst this;rw[h1 (lo+x) (by lia)];obtain⟨j,j1,j2,e⟩:=h2 i i1 (by lia);rw[e];exact next hl j j1 j2
  cases hl:lt (P p' (lo+x)) (P p' (lo+x-1)) with
  |true=>
   simp only[iH];have hz:lo+x<=p'.size:=by rw[R'.size];lia
   by_cases hq:q>0
   ·rw[gD hq];refine gx (wF (gy ⟨0,_,rfl,R'.mirror _ _ _,e',fun k hk=>?_,grow _ (fun k hk=>?_) (fun i i1 i2=>?_) (F'.turn hz) hl⟩))
    ·rw[jH hz,gF (by lia)];exact f' k hk
    ·rw[jH hz,gF (by lia)]
    ·rw[jH hz];split
     ·exact⟨_,by lia,by lia,rfl⟩
     ·exact⟨i,i1,i2,rfl⟩
   ·rw[gF hq];have:q=0:=by lia
    subst this;exact gy ⟨0,p',rfl,R',e',f',grow p' (fun _ _=>rfl) (fun i i1 i2=>⟨i,i1,i2,rfl⟩) F'.flat hl⟩
  |false=>
   simp only[iM,ja];refine gx (qA H R' (by lia) (by lia) ?_);dsimp only
   cases ax:lt (P p' (lo+x-1)) (P p' (lo+x)) with
   |true=>simp only[iH];exact gy (h x q b8 p' R' e' fY (by lia) f' F')
   |false=>
    simp only[iM,ja];have br:=F'.rg (lo+x-1) (by lia) (by lia)
    have same: ∀i,lo+x-(q+1)<=i->i<lo+x->lt (P p' i) (P p' (lo+x))=false/\lt (P p' (lo+x)) (P p' i)=false:=fun i i1 i2=>by
     by_cases hi:i=lo+x-1
     ·subst hi;exact⟨ax,hl⟩
     ·obtain⟨e1,e2,_⟩:=F'.eq i (lo+x-1) i1 (by lia) (by lia);exact⟨W.le_tr ax e1,W.le_tr e2 hl⟩
    refine gy ⟨q+1,p',rfl,R',e',f',by lia,fun k k1 k2=>F'.fx k (by lia) k2,fun k k1 k2=>?_,?_,fun i j i1 i2 j1 j2=>?_,fun i j i1 ij j2=>?_⟩
    ·by_cases hk:k<lo+x
     ·have:=F'.rg k k1 hk;lia
     ·have:k=lo+x:=by lia
      subst this;lia
    ·rw[show lo+(x+1)-(q+1+1)=lo+x-(q+1) by lia];exact F'.dn
    ·by_cases hj:j<lo+x
     ·exact F'.st i j i1 (by lia) (by lia) hj
     ·have:j=lo+x:=by lia
      subst this;have:=F'.st i (lo+x-1) i1 (by lia) (by lia) (by lia);exact W.le_lt ax this
    ·by_cases hj:j<lo+x
     ·exact F'.eq i j (by lia) ij hj
     ·have:j=lo+x:=by lia
      subst this;obtain⟨e1,e2⟩:=same i (by lia) (by lia);have:=F'.rg i (by lia) (by lia);exact⟨e1,e2,by lia⟩
noncomputable def FH(lo a d8:Nat):StateT SortSt Sem (Option (Option Nat)×Nat):=forIn [a:d8] ((none,a):Option (Option Nat)×Nat) fun _ r=>do
   let x <-ltAt' (lo+r.2) (lo+r.2-1)
   match x with
   |some j4=>if j4=true then pure (ForInStep.done (none,r.2)) else pure (ForInStep.yield (none,r.2+1))
   |_=>pure (ForInStep.done (some none,r.2))
noncomputable def KJ(lo n d8:Nat):StateT SortSt Sem (Option (Option Nat)×Nat×Nat):=forIn [n:d8] ((none,n,0):Option (Option Nat)×Nat×Nat) fun _ r=>do
   let x <-ltAt' (lo+r.2.1) (lo+r.2.1-1)
   match x with
   |some j4=>
    if j4=true then
     if r.2.2>0 then do
      reverseSlice' (lo+r.2.1-(r.2.2+1)) (lo+r.2.1)
      pure (ForInStep.yield (none,r.2.1+1,0))
     else pure (ForInStep.yield (none,r.2.1+1,0))
    else do
     let x <-ltAt' (lo+r.2.1-1) (lo+r.2.1)
     match x with
     |some ak=>if ak=true then pure (ForInStep.done (none,r.2.1,r.2.2)) else pure (ForInStep.yield (none,r.2.1+1,r.2.2+1))
     |_=>pure (ForInStep.done (some none,r.2.1,r.2.2))
   |_=>pure (ForInStep.done (some none,r.2.1,r.2.2))
noncomputable def Df(lo n d8:Nat):StateT SortSt Sem (Option Nat):=do
 reverseSlice' lo (lo+n)
 let r <-FH lo n d8
 match r.1 with
 |some r=>pure r
 |none=>pure (some r.2)
noncomputable def Aa(lo n d8:Nat):StateT SortSt Sem (Option Nat):=do
 liftM (rule "list.sort.descending-run")
 let r <-KJ lo (n+1) d8
 match r.1 with
 |some r=>pure r
 |none=>
  if r.2.2>0 then do
   reverseSlice' (lo+r.2.1-(r.2.2+1)) (lo+r.2.1)
   Df lo r.2.1 d8
  else Df lo r.2.1 d8
theorem Dk(lo d8:Nat):countRun' lo d8=(do
  let r <-FH lo 1 d8
  match r.1 with
  |some r=>pure r
  |none=>
   if(r.2==d8)=true then pure (some r.2)
   else if r.2>1 then do
    let x <-ltAt' lo (lo+r.2-1)
    match x with
    |some cC=>if cC=true then pure (some r.2) else do
      reverseSlice' lo (lo+r.2)
      Aa lo r.2 d8
    |_=>pure none
   else Aa lo r.2 d8):=by
 rw[countRun'_eq];dsimp only;unfold FH
 congr 1
 funext r;obtain⟨r,n⟩:=r
 cases r with
 |some r=>rfl
 |none=>
  dsimp only;by_cases h1:(n==d8)=true
  ·rw[gD h1,gD h1]
  ·rw[gF h1,gF h1];by_cases h2:n>1
   ·rw[gD h2,gD h2]
    congr 1
    funext x
    cases x with
    |none=>rfl
    |some cC=>
     dsimp only
     cases cC with
     |true=>rfl
     |false=>
      simp only[iM,ja]
      congr 1
      funext _;unfold Aa KJ
      congr 1
      funext _
      congr 1
      funext r2;obtain⟨r2,n2,q2⟩:=r2
      cases r2 with
      |some r=>rfl
      |none=>
       dsimp only;by_cases h3:q2>0
       ·rw[gD h3,gD h3]
        congr 1
        funext _;unfold Df FH
        congr 1
        funext _
        congr 1
        funext r3;obtain⟨r3,n3⟩:=r3;cases r3<;>rfl
       ·rw[gF h3,gF h3];unfold Df FH
        congr 1
        funext _
        congr 1
        funext r3;obtain⟨r3,n3⟩:=r3;cases r3<;>rfl
   ·rw[gF h2,gF h2];unfold Aa KJ
    congr 1
    funext _
    congr 1
    funext r2;obtain⟨r2,n2,q2⟩:=r2
    cases r2 with
    |some r=>rfl
    |none=>
     dsimp only;by_cases h3:q2>0
     ·rw[gD h3,gD h3]
      congr 1
      funext _;unfold Df FH
      congr 1
      funext _
      congr 1
      funext r3;obtain⟨r3,n3⟩:=r3;cases r3<;>rfl
     ·rw[gF h3,gF h3];unfold Df FH
      congr 1
      funext _
      congr 1
      funext r3;obtain⟨r3,n3⟩:=r3;cases r3<;>rfl
theorem FV(W:Wk lt)(H:Ask prog w A E G it κ N lt){lo d8 n:Nat}(hN:lo+d8=N)(h1:1<=n)(hn:n<=d8){st bD:iT}{p p0:jy}(R:Rp it κ N st p)(e0:pendingOf st=pendingOf bD)(f0: ∀k,k<lo->P p k=P p0 k)(fx: ∀k,lo+n<=k->k<N->P p k=k)(rg:Reg p lo (lo+n))(dn:Dn lt p lo (lo+n))
  {Q:zk}(h:Ran it lt κ N lo d8 p0 bD Q):wpI (model prog w) A E G (Df lo n d8) Q st:=by
 unfold Df;have hz:lo+n<=p.size:=by rw[R.size];lia
 have out: ∀k,¬(lo<=k/\k<lo+n)->P (PyProof.Rows.mirror p lo (lo+n) ((lo+n-lo) / 2)) k=P p k:=fun k hk=>by rw[jH hz,gF hk]
 refine gx (wF ?_);have R1:=R.mirror lo (lo+n) ((lo+n-lo) / 2);refine gx (FW W H hN h1 hn R1 (rg.mirror hz (ip _) (ip _)) (fun k k1 k2=>by rw[out k (by lia)];exact fx k k1 k2) (dn.mirror hz) fun m m1 m2 dG cB _=>?_);exact gy (h m _ _ R1 e0 (by lia) m2 (fun k hk=>by rw[out k (by lia)];exact f0 k hk) (fun k k1 k2=>by rw[out k (by lia)];exact fx k (by lia) k2) dG cB)
theorem Cf(W:Wk lt)(H:Ask prog w A E G it κ N lt){lo d8 n:Nat}(hN:lo+d8=N)(hn:n+1<=d8){st bD:iT}{p p0:jy}(R:Rp it κ N st p)(e0:pendingOf st=pendingOf bD)(f0: ∀k,k<lo->P p k=P p0 k)(F:Fall lt p lo (n+1) 0 N)
  {Q:zk}(h:Ran it lt κ N lo d8 p0 bD Q):wpI (model prog w) A E G (Aa lo n d8) Q st:=by
 unfold Aa;refine gx (oS (gx (IQ W H hN hn R F fun x q b8 p' R' e' x1 x2 f' F'=>?_)));dsimp only;have hle:=F'.le;have hz:lo+x<=p'.size:=by rw[R'.size];lia
 by_cases hq:q>0
 ·rw[gD hq];refine gx (wF (FV W H hN (by lia) x2 (R'.mirror _ _ _) (e'.trans e0) (fun k hk=>?_) (fun k k1 k2=>?_) (F'.rg.mirror hz (by lia) (ip _)) (F'.turn hz) h))
  ·rw[jH hz,gF (by lia)];exact(f' k hk).trans (f0 k hk)
  ·rw[jH hz,gF (by lia)];exact F'.fx k k1 k2
 ·rw[gF hq];have:q=0:=by lia
  subst this;exact FV W H hN (by lia) x2 R' (e'.trans e0) (fun k hk=>(f' k hk).trans (f0 k hk)) F'.fx F'.rg F'.flat h
theorem GY(W:Wk lt)(H:Ask prog w A E G it κ N lt){lo d8:Nat}(hN:lo+d8=N)(h1:1<=d8){st:iT}{p:jy}(R:Rp it κ N st p)(fx: ∀k,lo<=k->k<N->P p k=k){Q:zk}(h:Ran it lt κ N lo d8 p st Q):
  wpI (model prog w) A E G (countRun' lo d8) Q st:=by
 rw[Dk];refine gx (FW W H hN (ip _) h1 R (fun k k1 k2=>by rw[fx k k1 (by lia)];lia) (fun k k1 k2=>fx k (by lia) k2) (fun i j i1 ij j2=>by lia) fun n n1 n2 rg up hl=>?_);dsimp only;by_cases he:(n==d8)=true
 ·rw[gD he];exact gy (h n st p R rfl n1 n2 (fun _ _=>rfl) (fun k k1 k2=>fx k (by lia) k2) rg up)
 ·rw[gF he];have r9:n≠d8:=fun z=>he (by simp[z]);have hl:lt (P p (lo+n)) (P p (lo+n-1))=true:=hl.resolve_left r9;have hx:P p (lo+n)=lo+n:=fx _ (by lia) (by lia);by_cases hg:n>1
  ·rw[gD hg];refine gx (qA H R (by lia) (by lia) ?_);dsimp only
   cases hr:lt (P p lo) (P p (lo+n-1)) with
   |true=>simp only[iH];exact gy (h n st p R rfl n1 n2 (fun _ _=>rfl) (fun k k1 k2=>fx k (by lia) k2) rg up)
   |false=>
    simp only[iM,ja];have hz:lo+n<=p.size:=by rw[R.size];lia
    have out: ∀k,¬(lo<=k/\k<lo+n)->P (PyProof.Rows.mirror p lo (lo+n) ((lo+n-lo) / 2)) k=P p k:=fun k hk=>by rw[jH hz,gF hk]
    have small: ∀i,lo<=i->i<lo+n->lt (P p (lo+n)) (P p i)=true:=fun i i1 i2=>by
     have hi:lt (P p i) (P p (lo+n-1))=false:=by
      by_cases hi:i=lo
      ·subst hi;exact hr
      ·exact W.le_tr hr (SL.le W (up lo i (ip _) (by lia) i2)) |> fun z=>by
        cases hc:lt (P p i) (P p (lo+n-1)) with
        |false=>rfl
        |true=>
         have:=W.le_lt (SL.le W (up lo i (ip _) (by lia) i2)) hc;rw[hr] at this;cases this
     exact W.lt_le hl hi
    refine gx (wF (Cf W H hN (by lia) (R.mirror _ _ _) rfl (fun k hk=>out k (by lia)) ⟨by lia,fun k k1 k2=>by rw[out k (by lia)];exact fx k (by lia) k2,fun k k1 k2=>?_,?_,fun i j i1 i2 j1 j2=>?_,fun i j i1 ij j2=>by lia⟩ h))
    ·by_cases hk:k<lo+n
     ·have:=rg.mirror (i:=lo) (j:=lo+n) hz (ip _) (ip _) k k1 hk;lia
     ·have:k=lo+n:=by lia
      subst this;rw[out _ (by lia),hx];lia
    ·rw[show lo+(n+1)-(0+1)=lo+n by lia];exact up.mirror hz
    ·have:j=lo+n:=by lia
     subst this;rw[out (lo+n) (by lia),jH hz,gD ⟨i1,by lia⟩];exact small _ (by lia) (by lia)
  ·rw[gF hg];have:n=1:=by lia
   subst this;refine Cf W H hN (by lia) R rfl (fun _ _=>rfl) ⟨by lia,fun k k1 k2=>fx k (by lia) k2,fun k k1 k2=>by rw[fx k k1 (by lia)];lia,fun i j i1 ij j2=>by lia,fun i j i1 i2 j1 j2=>?_,fun i j i1 ij j2=>by lia⟩ h;have e1:j=lo+1:=by lia
   have e2:i=lo:=by lia
   subst e1;subst e2;exact hl
theorem Lr(W:Wk lt)(H:Ask prog w A E G it κ N lt){lo n ok:Nat}(h1:1<=ok)(hok:ok<=n)(hn:lo+n<=N){st:iT}{p:jy}(R:Rp it κ N st p)(fx: ∀k,lo+ok<=k->k<N->P p k=k)(rg:Reg p lo (lo+ok))(up:Up lt p lo (lo+ok)){Q:Bool->SortSt->Prop}
  (h: ∀b8 p',Rp it κ N b8 p'->pendingOf b8=pendingOf st->(∀k,k<lo->P p' k=P p k)->(∀k,lo+n<=k->k<N->P p' k=k)->Reg p' lo (lo+n)->Up lt p' lo (lo+n)->Q true b8):wpI (model prog w) A E G (binarySort' lo n ok) Q st:=by
 rw[binarySort'_eq];dsimp only;rw[show max ok 1=ok by lia]
 refine gx (iP (iX (I:=fun k c b8=>c=(none,())/\ ∃p',Rp it κ N b8 p'/\pendingOf b8=pendingOf st/\(∀i,i<lo->P p' i=P p i)/\(∀i,lo+k<=i->i<N->P p' i=i)/\Reg p' lo (lo+k)/\Up lt p' lo (lo+k))
  (Q:=fun c b8=>c=(none,())/\ ∃p',Rp it κ N b8 p'/\pendingOf b8=pendingOf st/\(∀i,i<lo->P p' i=P p i)/\(∀i,lo+n<=i->i<N->P p' i=i)/\Reg p' lo (lo+n)/\Up lt p' lo (lo+n)) ?step ?fin ⟨rfl,p,R,rfl,fun _ _=>rfl,fx,rg,up⟩) ?post)
 case post=>
  rintro c b8 ⟨rfl,p',a1,a2,a3,a4,a5,a6⟩;exact gy (h b8 p' a1 a2 a3 a4 a5 a6)
 case fin=>
  rintro c b8 hc;rw[show max ok n=n by lia] at hc;exact hc
 case step=>
  rintro k c b8 ay fO ⟨rfl,p',R',e',f',fx',dG,cB⟩;have hkey:P p' (lo+k)=lo+k:=fx' _ (by lia) (by lia)
  refine gx (iP (iX (I:=fun i c g8=>g8=b8/\ ∃l r,c=(none,l,r)/\l<=r/\r<=k/\r-l<=k-i/\(∀i,i<l->lt (P p' (lo+k)) (P p' (lo+i))=false)/\(∀i,r<=i->i<k->lt (P p' (lo+k)) (P p' (lo+i))=true))
   (Q:=fun c g8=>g8=b8/\ ∃l r,c=(none,l,r)/\l<=k/\(∀i,i<l->lt (P p' (lo+k)) (P p' (lo+i))=false)/\(∀i,l<=i->i<k->lt (P p' (lo+k)) (P p' (lo+i))=true)) ?s2 ?f2 ⟨rfl,0,k,rfl,by lia,by lia,by lia,fun i hi=>by lia,fun i i1 i2=>by lia⟩) ?p2)
  case f2=>
   rintro c g8 ⟨rfl,l,r,rfl,a1,a2,a3,a4,a5⟩;have:l=r:=by lia
   subst this;exact⟨rfl,l,l,rfl,a2,a4,a5⟩
  case s2=>
   rintro i c g8 _ hi ⟨rfl,l,r,rfl,a1,a2,a3,a4,a5⟩;dsimp only;by_cases hlr:l>=r
   ·rw[gD hlr];have:l=r:=by lia
    subst this;exact gy ⟨rfl,l,l,rfl,a2,a4,a5⟩
   ·rw[gF hlr];refine gx (qA H R' (by lia) (by lia) ?_);dsimp only
    cases hl:lt (P p' (lo+k)) (P p' (lo+(l+r) / 2)) with
    |true=>
     simp only[iH];refine gy ⟨rfl,l,(l+r) / 2,rfl,by lia,by lia,by lia,a4,fun i i1 i2=>?_⟩;by_cases hi:i=(l+r) / 2
     ·subst hi;exact hl
     ·exact W.lt_le hl (SL.le W (cB (lo+(l+r) / 2) (lo+i) (by lia) (by lia) (by lia)))
    |false=>
     simp only[iM,ja];refine gy ⟨rfl,(l+r) / 2+1,r,rfl,by lia,a2,by lia,fun i i1=>?_,a5⟩;by_cases hi:i=(l+r) / 2
     ·subst hi;exact hl
     ·exact W.le_tr (SL.le W (cB (lo+i) (lo+(l+r) / 2) (by lia) (by lia) (by lia))) hl
  case p2=>
   rintro c g8 ⟨rfl,l,r,rfl,hl,a4,a5⟩;dsimp only;have hz:lo+k<p'.size:=by rw[R'.size];lia
   have hd:lo+k-(lo+l)<=lo+k:=by lia
   have ib: ∀i,P (PyProof.Rows.bubble p' (lo+k) (lo+k-(lo+l))) i=if i=lo+l then P p' (lo+k) else if lo+l<i/\i<=lo+k then P p' (i-1) else P p' i:=fun i=>by
    rw[Li hz hd,show lo+k-(lo+k-(lo+l))=lo+l by lia]
   refine gx (IL (gy ⟨rfl,_,R'.bubble _ _,e',fun i hi=>?_,fun i i1 i2=>?_,fun i i1 i2=>?_,fun i j i1 ij j2=>?_⟩))
   ·rw[ib,gF (by lia),gF (by lia)];exact f' i hi
   ·rw[ib,gF (by lia),gF (by lia)];exact fx' i (by lia) i2
   ·rw[ib];split
    ·rw[hkey];lia
    ·split
     ·have:=dG (i-1) (by lia) (by lia);lia
     ·have:=dG i i1 (by lia);lia
   ·
    have above: ∀m,l<=m->m<k->SL lt (P p' (lo+k)) (P p' (lo+m)):=fun m m1 m2=> .inl (a5 m m1 m2);have below: ∀m,m<l->SL lt (P p' (lo+m)) (P p' (lo+k)):=fun m m1=> .inr ⟨a4 m m1,by have:=dG (lo+m) (by lia) (by lia);lia⟩;rw[ib,ib];by_cases hi:i=lo+l
    ·subst hi;rw[gD rfl,gF (by lia),gD (by lia)];have:=above (j-1-lo) (by lia) (by lia)
     rwa [show lo+(j-1-lo)=j-1 by lia] at this
    ·rw[gF hi];by_cases hj:j=lo+l
     ·subst hj;rw[gD rfl,gF (by lia)];have:=below (i-lo) (by lia)
      rwa [show lo+(i-lo)=i by lia] at this
     ·rw[gF hj];by_cases ci:lo+l<i/\i<=lo+k
      ·rw[gD ci,gD (by lia)];exact cB _ _ (by lia) (by lia) (by lia)
      ·rw[gF ci];by_cases cj:lo+l<j/\j<=lo+k
       ·rw[gD cj];exact cB _ _ i1 (by lia) (by lia)
       ·rw[gF cj];exact cB _ _ i1 ij (by lia)
end
noncomputable def kT:Bool->Keyed->Array Keyed->Nat->Nat->Nat->StateT SortSt Sem (Option Nat):=sortPriv%PySem.Builtin.gallop
noncomputable def ya:Array Keyed->Array Keyed->StateT SortSt Sem (Array Keyed):=sortPriv%PySem.Builtin.mergeLo
noncomputable def yb:Array Keyed->Array Keyed->StateT SortSt Sem (Array Keyed):=sortPriv%PySem.Builtin.mergeHi
noncomputable def ur:Nat->StateT SortSt Sem Unit:=sortPriv%PySem.Builtin.setMinGallop
noncomputable def bey(left:Bool)(key:Keyed)(arr:nC)(base i:Nat):StateT SortSt Sem (Option Bool):=do
 let y <-elem' arr (base+i)
 if left=true then lt' y key else do
  let r <-lt' key y
  pure (Option.map (fun x=>!x) r)
theorem HD(left:Bool)(key:Keyed)(arr:nC)(base n hint:Nat):kT left key arr base n hint=(do
 let mut lastofs:=0
 let mut ofs:=1
 let mut lo:=0
 let mut hi:=0
 let some right <-bey left key arr base hint|return none
 if right then
  let t6:=n-hint
  for _ in [0:n] do
   if ofs>=t6 then break
   let some more <-bey left key arr base (hint+ofs)|return none
   if !more then break
   lastofs:=ofs
   ofs:=2*ofs+1
  lo:=hint+lastofs+1
  hi:=hint+min ofs t6
 else
  let t6:=hint+1
  for _ in [0:n] do
   if ofs>=t6 then break
   let some found <-bey left key arr base (hint-ofs)|return none
   if found then break
   lastofs:=ofs
   ofs:=2*ofs+1
  lo:=hint+1-min ofs t6
  hi:=hint-lastofs
 for _ in [0:n] do
  if lo>=hi then break
  let m:=lo+(hi-lo) / 2
  let some more <-bey left key arr base m|return none
  if more then lo:=m+1 else hi:=m
 return some hi):=rfl
section
variable {prog:hG}{w:gS}{A:gW}{E:hV}{G:Shared->Prop}{it:nB}{lt:lJ}{κ:SortKind}{N:Nat}
noncomputable def Bq(lt:lJ)(left:Bool)(x:Nat)(q:jy)(base i:Nat):Bool:=if left=true then lt (P q (base+i)) x else !lt x (P q (base+i))
theorem wG(H:Ask prog w A E G it κ N lt){left:Bool}{x:Nat}{q:jy}{base i:Nat}(hx:x<N)(hq: ∀k,k<q.size->P q k<N)(hi:base+i<q.size){st:iT}(hk:kindOf st=κ){Q:Option Bool->SortSt->Prop}(h:Q (some (Bq lt left x q base i)) st):
  wpI (model prog w) A E G (bey left (it x) (q.map it) base i) Q st:=by
 unfold bey;refine gx (xn rfl hi ?_);unfold Bq at h
 cases left with
 |true=>simp only[iH] at h ⊢;exact xm H hk (hq _ hi) hx h
 |false=>simp only[iM,ja] at h ⊢;exact gx (xm H hk hx (hq _ hi) (gy h))
theorem Ce(H:Ask prog w A E G it κ N lt){left:Bool}{x:Nat}{q:jy}{base n:Nat}(hx:x<N)(hq: ∀k,k<q.size->P q k<N)(hn:base+n<=q.size){st:iT}(hk:kindOf st=κ)(mono: ∀i j,i<=j->j<n->Bq lt left x q base j=true->Bq lt left x q base i=true)
  {lo hi:Nat}(h1:lo<=hi)(h2:hi<=n)(h3: ∀i,i<lo->Bq lt left x q base i=true)(h4: ∀i,hi<=i->i<n->Bq lt left x q base i=false){Q:Option (Option Nat)×Nat×Nat->SortSt->Prop}
  (h: ∀r,r<=n->(∀i,i<r->Bq lt left x q base i=true)->(∀i,r<=i->i<n->Bq lt left x q base i=false)->Q (none,r,r) st):
  wpI (model prog w) A E G (forIn [:n] ((none,lo,hi):Option (Option Nat)×Nat×Nat) fun _ r=>
    if r.2.1>=r.2.2 then pure (ForInStep.done (none,r.2.1,r.2.2))
    else do
     let y <-bey left (it x) (q.map it) base (r.2.1+(r.2.2-r.2.1) / 2)
     match y with
     |some more=>if more=true then pure (ForInStep.yield (none,r.2.1+(r.2.2-r.2.1) / 2+1,r.2.2)) else pure (ForInStep.yield (none,r.2.1,r.2.1+(r.2.2-r.2.1) / 2))
     |_=>pure (ForInStep.done (some none,r.2.1,r.2.2))) Q st:=by
 refine(iP (iX (I:=fun i c g8=>g8=st/\ ∃lo hi,c=(none,lo,hi)/\lo<=hi/\hi<=n/\hi-lo<=n-i/\(∀i,i<lo->Bq lt left x q base i=true)/\(∀i,hi<=i->i<n->Bq lt left x q base i=false))
  (Q:=fun c g8=>g8=st/\ ∃r,c=(none,r,r)/\r<=n/\(∀i,i<r->Bq lt left x q base i=true)/\(∀i,r<=i->i<n->Bq lt left x q base i=false)) ?step ?fin ⟨rfl,lo,hi,rfl,h1,h2,by lia,h3,h4⟩) ?post)
 case post=>
  rintro c g8 ⟨rfl,r,rfl,a1,a2,a3⟩;exact h r a1 a2 a3
 case fin=>
  rintro c g8 ⟨rfl,lo,hi,rfl,a1,a2,a3,a4,a5⟩;have:lo=hi:=by lia
  subst this;exact⟨rfl,lo,rfl,a2,a4,a5⟩
 case step=>
  rintro i c g8 _ dq ⟨rfl,lo,hi,rfl,a1,a2,a3,a4,a5⟩;dsimp only;by_cases hlh:lo>=hi
  ·rw[gD hlh];have:lo=hi:=by lia
   subst this;exact gy ⟨rfl,lo,rfl,a2,a4,a5⟩
  ·rw[gF hlh];refine gx (wG (i:=lo+(hi-lo) / 2) H hx hq (by lia) hk ?_);dsimp only
   cases hb:Bq lt left x q base (lo+(hi-lo) / 2) with
   |true=>
    simp only[iH];exact gy ⟨rfl,_,hi,rfl,by lia,a2,by lia,fun i aR=>mono i (lo+(hi-lo) / 2) (by lia) (by lia) hb,a5⟩
   |false=>
    simp only[iM,ja];refine gy ⟨rfl,lo,_,rfl,by lia,by lia,by lia,a4,fun i i1 i2=>?_⟩
    cases hc:Bq lt left x q base i with
    |false=>rfl
    |true=>have:=mono _ _ i1 i2 hc;rw[hb] at this;cases this
theorem Eo(H:Ask prog w A E G it κ N lt){left:Bool}{x:Nat}{q:jy}{base n hint:Nat}(hx:x<N)(hq: ∀k,k<q.size->P q k<N)(hn:base+n<=q.size)(hh:hint<n){st:iT}(hk:kindOf st=κ)(mono: ∀i j,i<=j->j<n->Bq lt left x q base j=true->Bq lt left x q base i=true)
  {Q:zk}(h: ∀r,r<=n->(∀i,i<r->Bq lt left x q base i=true)->(∀i,r<=i->i<n->Bq lt left x q base i=false)->Q (some r) st):
  wpI (model prog w) A E G (kT left (it x) (q.map it) base n hint) Q st:=by
 have anti: ∀i j,i<=j->j<n->Bq lt left x q base i=false->Bq lt left x q base j=false:=fun i j ij jn hi=>by
  cases hc:Bq lt left x q base j with
  |false=>rfl
  |true=>have:=mono _ _ ij jn hc;rw[hi] at this;cases this
 rw[HD];dsimp only;refine gx (wG (i:=hint) H hx hq (by lia) hk ?_);dsimp only
 cases hb:Bq lt left x q base hint with
 |true=>
  simp only[iH]
  refine gx (iP (iX (I:=fun i c g8=>g8=st/\ ∃last ofs,c=(none,last,ofs)/\last<ofs/\i+1<=ofs/\hint+last<n/\Bq lt left x q base (hint+last)=true)
   (Q:=fun c g8=>g8=st/\ ∃last ofs,c=(none,last,ofs)/\last<ofs/\hint+last<n/\Bq lt left x q base (hint+last)=true/\(ofs>=n-hint\/Bq lt left x q base (hint+ofs)=false)) ?step ?fin ⟨rfl,0,1,rfl,by lia,by lia,by lia,hb⟩) ?post)
  case post=>
   rintro c g8 ⟨rfl,last,ofs,rfl,a1,a2,a3,a4⟩;dsimp only;refine gx (Ce H hx hq hn hk mono (lo:=hint+last+1) (hi:=hint+min ofs (n-hint)) (by lia) (by lia) (fun i hi=>mono i _ (by lia) a2 a3) (fun i i1 i2=>?_) fun r b1 b2 b3=>gy (h r b1 b2 b3));rcases a4 with a4|a4
   ·lia
   ·exact anti (hint+ofs) i (by lia) i2 a4
  case fin=>
   rintro c g8 ⟨rfl,last,ofs,rfl,a1,a2,a3,a4⟩;exact⟨rfl,last,ofs,rfl,a1,a3,a4,.inl (by lia)⟩
  case step=>
   rintro i c g8 _ hi ⟨rfl,last,ofs,rfl,a1,a2,a3,a4⟩;dsimp only;by_cases ho:ofs>=n-hint
   ·rw[gD ho];exact gy ⟨rfl,last,ofs,rfl,a1,a3,a4,.inl ho⟩
   ·rw[gF ho];refine gx (wG (i:=hint+ofs) H hx hq (by lia) hk ?_);dsimp only
    cases hc:Bq lt left x q base (hint+ofs) with
    |false=>simp only[Bool.not_false,iH];exact gy ⟨rfl,last,ofs,rfl,a1,a3,a4,.inr hc⟩
    |true=>simp only[lX,iM,ja];exact gy ⟨rfl,ofs,2*ofs+1,rfl,by lia,by lia,by lia,hc⟩
 |false=>
  simp only[iM,ja]
  refine gx (iP (iX (I:=fun i c g8=>g8=st/\ ∃last ofs,c=(none,last,ofs)/\last<ofs/\i+1<=ofs/\last<=hint/\Bq lt left x q base (hint-last)=false)
   (Q:=fun c g8=>g8=st/\ ∃last ofs,c=(none,last,ofs)/\last<ofs/\last<=hint/\Bq lt left x q base (hint-last)=false/\(ofs>=hint+1\/Bq lt left x q base (hint-ofs)=true)) ?step ?fin ⟨rfl,0,1,rfl,by lia,by lia,by lia,hb⟩) ?post)
  case post=>
   rintro c g8 ⟨rfl,last,ofs,rfl,a1,a2,a3,a4⟩;dsimp only;refine gx (Ce H hx hq hn hk mono (lo:=hint+1-min ofs (hint+1)) (hi:=hint-last) (by lia) (by lia) (fun i hi=>?_) (fun i i1 i2=>anti _ i i1 i2 a3) fun r b1 b2 b3=>gy (h r b1 b2 b3));rcases a4 with a4|a4
   ·lia
   ·by_cases ho:ofs>=hint+1
    ·lia
    ·exact mono i _ (by lia) (by lia) a4
  case fin=>
   rintro c g8 ⟨rfl,last,ofs,rfl,a1,a2,a3,a4⟩;exact⟨rfl,last,ofs,rfl,a1,a3,a4,.inl (by lia)⟩
  case step=>
   rintro i c g8 _ hi ⟨rfl,last,ofs,rfl,a1,a2,a3,a4⟩;dsimp only;by_cases ho:ofs>=hint+1
   ·rw[gD ho];exact gy ⟨rfl,last,ofs,rfl,a1,a3,a4,.inl ho⟩
   ·rw[gF ho];refine gx (wG (i:=hint-ofs) H hx hq (by lia) hk ?_);dsimp only
    cases hc:Bq lt left x q base (hint-ofs) with
    |true=>simp only[iH];exact gy ⟨rfl,last,ofs,rfl,a1,a3,a4,.inr hc⟩
    |false=>simp only[iM,ja];exact gy ⟨rfl,ofs,2*ofs+1,rfl,by lia,by lia,by lia,hc⟩
end
theorem E6(a b:nC):ya a b=(do
 rule "list.sort.merge-lo"
 let total:=a.size+b.size
 let done (out:nC) (ia ib:Nat):=out++a.extract ia a.size++b.extract ib b.size
 let r6 (out:nC) (ia ib:Nat):=out++b.extract ib b.size++a.extract ia a.size
 let mut out:Array Keyed:= #[<-elem' b 0]
 let mut ia:=0
 let mut ib:=1
 if ib==b.size then return done out ia ib
 if ia+1==a.size then return r6 out ia ib
 let mut minGallop:=gallopOf (<-get)
 for _ in [0:total] do
  let mut acount:=0
  let mut bcount:=0
  for _ in [0:total] do
   let some bWins <-lt' (<-elem' b ib) (<-elem' a ia)|return done out ia ib
   if bWins then
    out:=out.push (<-elem' b ib);ib:=ib+1;bcount:=bcount+1;acount:=0
    if ib==b.size then return done out ia ib
    if bcount>=minGallop then break
   else
    out:=out.push (<-elem' a ia);ia:=ia+1;acount:=acount+1;bcount:=0
    if ia+1==a.size then return r6 out ia ib
    if acount>=minGallop then break
  rule "list.sort.gallop"
  minGallop:=minGallop+1
  for _ in [0:total] do
   if minGallop>1 then minGallop:=minGallop-1
   ur minGallop
   let some k <-kT false (<-elem' b ib) a ia (a.size-ia) 0|return done out ia ib
   acount:=k
   if k>0 then
    out:=out++a.extract ia (ia+k);ia:=ia+k
    if ia+1==a.size then return r6 out ia ib
    if ia==a.size then return done out ia ib
   out:=out.push (<-elem' b ib);ib:=ib+1
   if ib==b.size then return done out ia ib
   let some k <-kT true (<-elem' a ia) b ib (b.size-ib) 0|return done out ia ib
   bcount:=k
   if k>0 then
    out:=out++b.extract ib (ib+k);ib:=ib+k
    if ib==b.size then return done out ia ib
   out:=out.push (<-elem' a ia);ia:=ia+1
   if ia+1==a.size then return r6 out ia ib
   if acount<7&&bcount<7 then break
  minGallop:=minGallop+1
  ur minGallop
 unsupported "internal:list.sort.merge-bound"):=rfl
section
variable {prog:hG}{w:gS}{A:gW}{E:hV}{G:Shared->Prop}{it:nB}{lt:lJ}{κ:SortKind}{N:Nat}
structure Pre(lt:lJ)(N:Nat)(q r:iF):Prop where
 sq:q.Pairwise (SL lt)
 sr:r.Pairwise (SL lt)
 ix: ∀x∈q,∀y∈r,x<y
 nq: ∀x∈q,x<N
 nr: ∀x∈r,x<N
structure MG(lt:lJ)(q r o:iF)(ia ib:Nat):Prop where
 srt:o.Pairwise (SL lt)
 low: ∀x∈o,∀y,(y∈q.drop ia\/y∈r.drop ib)->SL lt x y
 pm:(o++(q.drop ia++r.drop ib)).Perm (q++r)
def Res(lt:lJ)(it:nB)(q r:iF)(out:nC):Prop:= ∃o:List Nat,out=(o.map it).toArray/\o.Pairwise (SL lt)/\o.Perm (q++r)
theorem kh{l:iF}{i:Nat}(h:i<l.length):l.drop i=l[i]::l.drop (i+1):=sO h
theorem oz{l:iF}{i j:Nat}{x:Nat}(h:x∈l.drop j)(u2:i<=j):x∈l.drop i:=by
 rw[show j=i+(j-i) by lia,<-oN] at h;exact lG h
section
variable {q r o:iF}{ia ib:Nat}(W:Wk lt)(B:Pre lt N q r)
include W B
theorem Fe(h:ia<q.length): ∀y∈q.drop (ia+1),SL lt q[ia] y:=fun y hy=>by
 have:=B.sq.sublist (oM ia q);rw[kh h,nX] at this;exact this.1 y hy
theorem BI(h:ib<r.length): ∀y∈r.drop (ib+1),SL lt r[ib] y:=fun y hy=>by
 have:=B.sr.sublist (oM ib r);rw[kh h,nX] at this;exact this.1 y hy
theorem MG.putB(m:MG lt q r o ia ib)(hb:ib<r.length)(h: ∀y∈q.drop ia,SL lt r[ib] y):MG lt q r (o++[r[ib]]) ia (ib+1):=by
 have hm:r[ib]∈r.drop ib:=by rw[kh hb];exact iW
 refine⟨mw.mpr ⟨m.srt,AN _ _,fun x hx y hy=>?_⟩,fun x hx y hy=>?_,?_⟩
 ·rw[mZ] at hy;subst hy;exact m.low x hx _ (.inr hm)
 ·rcases lK.mp hx with hx|hx
  ·exact m.low x hx y (hy.imp id fun z=>oz z (vt _))
  ·rw[mZ] at hx;subst hx;exact hy.elim (h y) (BI W B hb y)
 ·refine List.Perm.trans ?_ m.pm;rw[kh hb,ky];refine ub o ?_;exact(DC (l₁:=q.drop ia) (l₂:=r.drop (ib+1)) (a:=r[ib])).symm
theorem MG.putA(m:MG lt q r o ia ib)(ha:ia<q.length)(h: ∀y∈r.drop ib,SL lt q[ia] y):MG lt q r (o++[q[ia]]) (ia+1) ib:=by
 have hm:q[ia]∈q.drop ia:=by rw[kh ha];exact iW
 refine⟨mw.mpr ⟨m.srt,AN _ _,fun x hx y hy=>?_⟩,fun x hx y hy=>?_,?_⟩
 ·rw[mZ] at hy;subst hy;exact m.low x hx _ (.inl hm)
 ·rcases lK.mp hx with hx|hx
  ·exact m.low x hx y (hy.imp (fun z=>oz z (vt _)) id)
  ·rw[mZ] at hx;subst hx;exact hy.elim (Fe W B ha y) (h y)
 ·refine List.Perm.trans ?_ m.pm;rw[kh ha,ky];exact sL _
theorem MG.putBs(m:MG lt q r o ia ib)(h: ∀x∈(r.drop ib).take k,∀y∈q.drop ia,SL lt x y):MG lt q r (o++(r.drop ib).take k) ia (ib+k):=by
 have hs:=B.sr.sublist (oM ib r);rw[<-lW k (r.drop ib),mw] at hs;obtain⟨s1,s2,s3⟩:=hs;have e:r.drop (ib+k)=(r.drop ib).drop k:=by rw[oN]
 refine⟨mw.mpr ⟨m.srt,s1,fun x hx y hy=>m.low x hx y (.inr (lV hy))⟩,fun x hx y hy=>?_,?_⟩
 ·rcases lK.mp hx with hx|hx
  ·exact m.low x hx y (hy.imp id fun z=>oz z (Nat.le_add_right _ _))
  ·exact hy.elim (h x hx y) fun z=>s3 x hx y (by rw[<-e];exact z)
 ·refine List.Perm.trans ?_ m.pm;rw[e,ky];refine ub o ?_
  have:(List.take k (r.drop ib)++(q.drop ia++List.drop k (r.drop ib))).Perm (q.drop ia++(List.take k (r.drop ib)++List.drop k (r.drop ib))):=by
   rw[<-ky,<-ky];exact vg _ AM
  rw[lW] at this;exact this
theorem MG.putAs(m:MG lt q r o ia ib)(h: ∀x∈(q.drop ia).take k,∀y∈r.drop ib,SL lt x y):MG lt q r (o++(q.drop ia).take k) (ia+k) ib:=by
 have hs:=B.sq.sublist (oM ia q);rw[<-lW k (q.drop ia),mw] at hs;obtain⟨s1,s2,s3⟩:=hs;have e:q.drop (ia+k)=(q.drop ia).drop k:=by rw[oN]
 refine⟨mw.mpr ⟨m.srt,s1,fun x hx y hy=>m.low x hx y (.inl (lV hy))⟩,fun x hx y hy=>?_,?_⟩
 ·rcases lK.mp hx with hx|hx
  ·exact m.low x hx y (hy.imp (fun z=>oz z (Nat.le_add_right _ _)) id)
  ·exact hy.elim (fun z=>s3 x hx y (by rw[<-e];exact z)) (h x hx y)
 ·refine List.Perm.trans ?_ m.pm;rw[e,ky];refine ub o ?_;rw[<-ky,lW]
theorem MG.endA(m:MG lt q r o ia ib)(h:r.drop ib=[]):(o++q.drop ia).Pairwise (SL lt)/\(o++q.drop ia).Perm (q++r):=by
 have pm:=m.pm;rw[h,sX] at pm;exact⟨mw.mpr ⟨m.srt,B.sq.sublist (oM ia q),fun x hx y hy=>m.low x hx y (.inl hy)⟩,pm⟩
theorem MG.endB(m:MG lt q r o ia ib)(h:q.drop ia=[]):(o++r.drop ib).Pairwise (SL lt)/\(o++r.drop ib).Perm (q++r):=by
 have pm:=m.pm;rw[h,nU] at pm;exact⟨mw.mpr ⟨m.srt,B.sr.sublist (oM ib r),fun x hx y hy=>m.low x hx y (.inr hy)⟩,pm⟩
theorem MG.endL(m:MG lt q r o ia ib)(h: ∀x∈r.drop ib,∀y∈q.drop ia,SL lt x y):(o++(r.drop ib++q.drop ia)).Pairwise (SL lt)/\(o++(r.drop ib++q.drop ia)).Perm (q++r):=by
 refine⟨mw.mpr ⟨m.srt,mw.mpr ⟨B.sr.sublist (oM ib r),B.sq.sublist (oM ia q),h⟩,fun x hx y hy=>m.low x hx y ((lK.mp hy).symm)⟩,?_⟩;exact List.Perm.trans (ub o AM) m.pm
end
theorem kc{q:iF}{i:Nat}(hi:i<q.length){st:iT}{Q:Keyed->SortSt->Prop}(h:Q (it q[i]) st):wpI (model prog w) A E G (elem' (q.map it).toArray i) Q st:=by
 rw[elem'_eq];have:(q.map it).toArray[i]?=some (it q[i]):=by simp[hi]
 rw[this];exact gy h
theorem Lg{q:iF}{i:Nat}(hi:i<q.length):P q.toArray i=q[i]:=by simp[P,hi]
theorem qU(W:Wk lt)(H:Ask prog w A E G it κ N lt){left:Bool}{x:Nat}{q:iF}{base n hint:Nat}(hx:x<N)(hq: ∀y∈q,y<N)(hn:base+n<=q.length)(hh:hint<n){st:iT}(hk:kindOf st=κ)(srt:((q.drop base).take n).Pairwise (SL lt)){Q:zk}
  (h: ∀r,r<=n->(∀y∈((q.drop base).take n).take r,(if left=true then lt y x else !lt x y)=true)->(∀y∈((q.drop base).take n).drop r,(if left=true then lt y x else !lt x y)=false)->Q (some r) st):
  wpI (model prog w) A E G (kT left (it x) (q.map it).toArray base n hint) Q st:=by
 have ea:(q.map it).toArray=q.toArray.map it:=by simp
 rw[ea];have hl:((q.drop base).take n).length=n:=by simp;lia
 have get: ∀i (hi:i<n),P q.toArray (base+i)=((q.drop base).take n)[i]:=fun i hi=>by
  rw[Lg (by lia)];simp
 have bq: ∀i (hi:i<n),Bq lt left x q.toArray base i=(if left=true then lt (((q.drop base).take n)[i]) x else !lt x (((q.drop base).take n)[i])):=fun i hi=>by unfold Bq;rw[get i hi]
 refine Eo H hx (fun k hk=>?_) (by simpa using hn) hh hk (fun i j ij jn hb=>?_) fun r r1 r2 r3=>h r r1 (fun y hy=>?_) (fun y hy=>?_)
 ·have dh:k<q.length:=by simpa using hk
  rw[Lg dh];exact hq _ (kx dh)
 ·rcases AO i j with i6|fS
  ·rw[bq j jn] at hb;rw[bq i (by lia)];have sl:=FU.mp srt i j (by lia) (by lia) i6
   cases left with
   |true=>
    simp only[iH] at hb ⊢;exact W.le_lt (SL.le W sl) hb
   |false=>
    simp only[iM,ja,Bool.not_eq_true'] at hb ⊢;exact W.le_tr (SL.le W sl) hb
  ·have:i=j:=by lia
   subst this;exact hb
 ·obtain⟨i,hi,e⟩:=wZ hy;have aR:i<r:=by simp at hi;lia
  have:=r2 i aR;rw[bq i (by lia)] at this;rw[<-e,List.getElem_take];exact this
 ·obtain⟨i,hi,e⟩:=wZ hy;have aR:r+i<n:=by simp at hi;lia
  have:=r3 (r+i) (by lia) aR;rw[bq (r+i) aR] at this;rw[<-e,List.getElem_drop];exact this
theorem uS{o:iF}{x:Nat}:((o.map it).toArray.push (it x))=((o++[x]).map it).toArray:=by simp
theorem GU{o q r:iF}{i j:Nat}:((o.map it).toArray++(q.map it).toArray.extract i (q.map it).toArray.size++(r.map it).toArray.extract j (r.map it).toArray.size)=((o++(q.drop i++r.drop j)).map it).toArray:=by
 simp[vf,ve];rw[sJ (by simp),sJ (by simp)]
theorem GS{o q:iF}{i k:Nat}:((o.map it).toArray++(q.map it).toArray.extract i (i+k))=((o++(q.drop i).take k).map it).toArray:=by
 simp[vf,ve]
def Same(st b8:iT):Prop:=kindOf b8=kindOf st/\arrOf b8=arrOf st/\pendingOf b8=pendingOf st/\failedOf b8=failedOf st
theorem Same.refl{st:iT}:Same st st:=⟨rfl,rfl,rfl,rfl⟩
theorem Same.trans{a b c:iT}(x:Same a b)(y:Same b c):Same a c:=⟨y.1.trans x.1,y.2.1.trans x.2.1,y.2.2.1.trans x.2.2.1,y.2.2.2.trans x.2.2.2⟩
theorem qT{n:Nat}{st:iT}{Q:Unit->SortSt->Prop}(h: ∀b8,Same st b8->Q () b8):wpI (model prog w) A E G (ur n) Q st:=
 jV (f:=fun s=>SortSt.mk' (kindOf s) (arrOf s) (pendingOf s) n (failedOf s)) (h _ ⟨rfl,rfl,rfl,rfl⟩)
theorem qE(W:Wk lt){q r o:iF}{ia ib:Nat}(B:Pre lt N q r)(m:MG lt q r o ia ib)(h:q.length<=ia\/r.length<=ib):Res lt it q r ((o.map it).toArray++(q.map it).toArray.extract ia (q.map it).toArray.size++(r.map it).toArray.extract ib (r.map it).toArray.size):=by
 refine⟨_,GU,?_⟩;rcases h with h|h
 ·have e:q.drop ia=[]:=xg h;have:=m.endB W B e;rw[e,nU];exact this
 ·have e:r.drop ib=[]:=xg h;have:=m.endA W B e;rw[e,sX];exact this
theorem CD(W:Wk lt){q r o:iF}{ia ib:Nat}(B:Pre lt N q r)(m:MG lt q r o ia ib)(h: ∀x∈r.drop ib,∀y∈q.drop ia,SL lt x y):Res lt it q r ((o.map it).toArray++(r.map it).toArray.extract ib (r.map it).toArray.size++(q.map it).toArray.extract ia (q.map it).toArray.size):=
 ⟨_,GU,m.endL W B h⟩
abbrev sz(q:iF)(it:nB):(q.map it).toArray.size=q.length:=by simp
abbrev LoS:=Option (Array Keyed)×Array Keyed×Nat×Nat×Nat×Nat×Nat
noncomputable def F4(a b out:nC)(ia ib mg k k2:Nat):StateT SortSt Sem (ForInStep LoS):=do
 let y <-elem' a ia
 if(ia+1+1==a.size)=true then pure (ForInStep.done (some (out.push y++b.extract ib b.size++a.extract (ia+1) a.size),out.push y,ia+1,ib,mg,k,k2))
 else if(decide (k<7)&&decide (k2<7))=true then pure (ForInStep.done (none,out.push y,ia+1,ib,mg,k,k2)) else pure (ForInStep.yield (none,out.push y,ia+1,ib,mg,k,k2))
noncomputable def Kc(a b out:nC)(ia ib mg k bc:Nat):StateT SortSt Sem (ForInStep LoS):=do
 let y <-elem' b ib
 if(ib+1==b.size)=true then pure (ForInStep.done (some (out.push y++a.extract ia a.size++b.extract (ib+1) b.size),out.push y,ia,ib+1,mg,k,bc))
 else do
  let z <-elem' a ia
  let x <-kT true z b (ib+1) (b.size-(ib+1)) 0
  match x with
  |some k2=>
   if k2>0 then
    if(ib+1+k2==b.size)=true then pure (ForInStep.done (some (out.push y++b.extract (ib+1) (ib+1+k2)++a.extract ia a.size++b.extract (ib+1+k2) b.size),out.push y++b.extract (ib+1) (ib+1+k2),ia,ib+1+k2,mg,k,k2))
    else F4 a b (out.push y++b.extract (ib+1) (ib+1+k2)) ia (ib+1+k2) mg k k2
   else F4 a b (out.push y) ia (ib+1) mg k k2
  |_=>pure (ForInStep.done (some (out.push y++a.extract ia a.size++b.extract (ib+1) b.size),out.push y,ia,ib+1,mg,k,bc))
def GW(lt:lJ)(it:nB)(q r:iF)(c st:Nat)(S:SortSt->Prop)(x:ForInStep LoS)(b8:iT):Prop:=
 match x with
 | .done c'=>S b8/\((∃res x,c'=(some res,x)/\Res lt it q r res)\/ ∃o2 g0 j9 s9 ac bc,c'=(none,(o2.map it).toArray,g0,j9,s9,ac,bc)/\MG lt q r o2 g0 j9/\g0+1<q.length/\j9<r.length/\c<=g0+j9)
 | .yield c'=> ∃o2 g0 j9 s9 ac bc,c'=(none,(o2.map it).toArray,g0,j9,s9,ac,bc)/\MG lt q r o2 g0 j9/\g0+1<q.length/\j9<r.length/\st<=g0+j9/\S b8
section
variable(W:Wk lt)(H:Ask prog w A E G it κ N lt){q r:iF}(B:Pre lt N q r)(top: ∀x∈r,∀y∈q.drop (q.length-1),SL lt x y){S:SortSt->Prop}{o:iF}{ia ib mg k k2 bc c cy:Nat}{st:iT}
include W H B top
theorem zp(m:MG lt q r o ia ib)(ha:ia+1<q.length)(hb:ib<r.length)(fb: ∀y∈r.drop ib,SL lt q[ia] y)(hs:S st)(hc:c<=ia+1+ib)(hy:cy<=ia+1+ib):
  wpI (model prog w) A E G (F4 (q.map it).toArray (r.map it).toArray (o.map it).toArray ia ib mg k k2) (GW lt it q r c cy S) st:=by
 unfold F4;refine gx (kc (i:=ia) (by lia) ?_);have m2:=m.putA W B (by lia) fb;rw[uS];by_cases he:(ia+1+1==(q.map it).toArray.size)=true
 ·rw[gD he];have:ia+1+1=q.length:=by simpa using he
  exact gy ⟨hs,.inl ⟨_,_,rfl,CD W B m2 fun x hx y hy=>top x (lG hx) y (by rw[show q.length-1=ia+1 by lia];exact hy)⟩⟩
 ·rw[gF he];have:ia+1+1≠q.length:=by simpa using he
  by_cases h7:(decide (k<7)&&decide (k2<7))=true
  ·rw[gD h7];exact gy ⟨hs,.inr ⟨_,_,_,_,_,_,rfl,m2,by lia,hb,hc⟩⟩
  ·rw[gF h7];exact gy ⟨_,_,_,_,_,_,rfl,m2,by lia,hb,hy,hs⟩
theorem IM(hk:kindOf st=κ)(m:MG lt q r o ia ib)(ha:ia+1<q.length)(hb:ib<r.length)(fa: ∀y∈q.drop ia,SL lt r[ib] y)(hs:S st)(hc:c<=ia+ib)(hy:cy<=ia+1+ib):
  wpI (model prog w) A E G (Kc (q.map it).toArray (r.map it).toArray (o.map it).toArray ia ib mg k bc) (GW lt it q r c cy S) st:=by
 unfold Kc;refine gx (kc hb ?_);have m2:=m.putB W B hb fa;rw[uS];by_cases he:(ib+1==(r.map it).toArray.size)=true
 ·rw[gD he];have:ib+1=r.length:=by simpa using he
  exact gy ⟨hs,.inl ⟨_,_,rfl,qE W B m2 (.inr (by lia))⟩⟩
 ·rw[gF he];have he:ib+1≠r.length:=by simpa using he
  have en:(r.drop (ib+1)).take ((r.map it).toArray.size-(ib+1))=r.drop (ib+1):=sJ (by simp);refine gx (kc (i:=ia) (by lia) (gx (qU W H (B.nq _ (kx _)) B.nr (by rw[sz];lia) (by rw[sz];lia) hk (by rw[en];exact B.sr.sublist (oM _ _)) fun k' k1 k2 k3=>?_)));rw[en] at k2 k3;rw[sz] at k1;simp only[iH] at k2 k3
  have m3:=m2.putBs W B (k:=k') fun x hx y hy=>by
   rw[kh (show ia<q.length by lia)] at hy;rcases jj.mp hy with rfl|hy
   ·exact .inl (k2 x hx)
   ·exact SL.trans W (.inl (k2 x hx)) (Fe W B (by lia) y hy)
  have fb: ∀y∈r.drop (ib+1+k'),SL lt q[ia] y:=fun y hy=>by
   rw[<-oN] at hy;exact .inr ⟨k3 y hy,B.ix _ (kx _) _ (lG (lG hy))⟩
  dsimp only;by_cases hp:k'>0
  ·rw[gD hp];rw[GS];by_cases hf:(ib+1+k'==(r.map it).toArray.size)=true
   ·rw[gD hf];have:ib+1+k'=r.length:=by simpa using hf
    exact gy ⟨hs,.inl ⟨_,_,rfl,qE W B m3 (.inr (by lia))⟩⟩
   ·rw[gF hf];have:ib+1+k'≠r.length:=by simpa using hf
    exact zp W H B top m3 ha (by lia) fb hs (by lia) (by lia)
  ·rw[gF hp];have hz:k'=0:=by lia
   subst hz;exact zp W H B top m2 ha (by lia) fb hs (by lia) (by lia)
end
theorem Nm(W:Wk lt)(H:Ask prog w A E G it κ N lt){q r:iF}(B:Pre lt N q r)(h1:1<=q.length)(h2:1<=r.length)(hd: ∀y∈q,SL lt r[0] y)(top: ∀x∈r,∀y∈q.drop (q.length-1),SL lt x y){st:iT}(hk:kindOf st=κ){Q:Array Keyed->SortSt->Prop}
  (h: ∀out b8,Res lt it q r out->Same st b8->Q out b8):wpI (model prog w) A E G (ya (q.map it).toArray (r.map it).toArray) Q st:=by
 have bg: ∀{o ia ib},MG lt q r o ia ib->ia+1=q.length->Res lt it q r ((o.map it).toArray++(r.map it).toArray.extract ib (r.map it).toArray.size++(q.map it).toArray.extract ia (q.map it).toArray.size):=fun {o ia ib} m e=>CD W B m fun x hx y hy=>top x (lG hx) y (by rw[show q.length-1=ia by lia];exact hy);rw[E6];dsimp only;refine gx (oS (gx (kc (by lia) ?_)))
 have m0:MG lt q r [r[0]] 0 1:=by
  have:=MG.putB (o:=[]) (ia:=0) (ib:=0) W B ⟨List.Pairwise.nil,fun x hx=>absurd hx jL,by simp⟩ (by lia) (by simpa using hd);simpa using this
 have e0: #[it r[0]]=(([r[0]]:List Nat).map it).toArray:=rfl;rw[e0];by_cases bw:(1==(r.map it).toArray.size)=true
 ·rw[gD bw];have:1=r.length:=by simpa using bw
  exact gy (h _ _ (qE W B m0 (.inr (by lia))) .refl)
 ·rw[gF bw];have bw:1≠r.length:=by simpa using bw
  by_cases aC:(0+1==(q.map it).toArray.size)=true
  ·rw[gD aC];have:0+1=q.length:=by simpa using aC
   exact gy (h _ _ (bg m0 this) .refl)
  ·rw[gF aC];have aC:1≠q.length:=by simpa using aC
   refine gx (ly ?_)
   refine gx (iP (iX (I:=fun i c b8=> ∃o ia ib mg,c=(none,(o.map it).toArray,ia,ib,mg)/\MG lt q r o ia ib/\ia+1<q.length/\ib<r.length/\i+1<=ia+ib/\Same st b8)
    (Q:=fun c b8=> ∃res x,c=(some res,x)/\Res lt it q r res/\Same st b8) ?step ?fin ⟨_,0,1,_,rfl,m0,by lia,by lia,by lia,.refl⟩) ?post)
   case post=>
    rintro c b8 ⟨res,x,rfl,hr,hs⟩;exact gy (h res b8 hr hs)
   case fin=>
    rintro c b8 ⟨o,ia,ib,mg,rfl,m,b1,b2,b3,hs⟩;rw[sz,sz] at b3
    lia
   case step=>
    rintro i c aO _ _ ⟨o,ia,ib,mg,rfl,m,b1,b2,b3,hs⟩;dsimp only
    refine gx (iP (iX (I:=fun j c b8=>b8=aO/\ ∃o' u5 x6 ac bc,c=(none,(o'.map it).toArray,u5,x6,ac,bc)/\MG lt q r o' u5 x6/\u5+1<q.length/\x6<r.length/\ia+ib+j<=u5+x6)
     (Q:=fun c b8=>b8=aO/\((∃res x,c=(some res,x)/\Res lt it q r res)\/ ∃o' u5 x6 ac bc,c=(none,(o'.map it).toArray,u5,x6,ac,bc)/\MG lt q r o' u5 x6/\u5+1<q.length/\x6<r.length/\ia+ib+1<=u5+x6)) ?step1 ?fin1 ⟨rfl,o,ia,ib,0,0,rfl,m,b1,b2,by lia⟩) ?post1)
    case fin1=>
     rintro c b8 ⟨rfl,o',u5,x6,ac,bc,rfl,m',c1,c2,c3⟩;rw[sz,sz] at c3
     lia
    case step1=>
     rintro j c b8 _ _ ⟨rfl,o',u5,x6,ac,bc,rfl,m',c1,c2,c3⟩;dsimp only;refine gx (kc c2 (gx (kc (i:=u5) (by lia) (gx (xm H (hs.1.trans hk) (B.nr _ (kx _)) (B.nq _ (kx _)) ?_)))));dsimp only
     cases hl:lt r[x6] q[u5] with
     |true=>
      simp only[iH];refine gx (kc c2 ?_)
      have m2:=m'.putB W B c2 fun y hy=>by
       rw[kh (show u5<q.length by lia)] at hy;rcases jj.mp hy with rfl|hy
       ·exact .inl hl
       ·exact SL.trans W (.inl hl) (Fe W B (by lia) y hy)
      rw[uS];by_cases he:(x6+1==(r.map it).toArray.size)=true
      ·rw[gD he];have:x6+1=r.length:=by simpa using he
       exact gy ⟨rfl,.inl ⟨_,_,rfl,qE W B m2 (.inr (by lia))⟩⟩
      ·rw[gF he];have:x6+1≠r.length:=by simpa using he
       by_cases hg:bc+1>=mg
       ·rw[gD hg];exact gy ⟨rfl,.inr ⟨_,_,_,_,_,rfl,m2,c1,by lia,by lia⟩⟩
       ·rw[gF hg];exact gy ⟨rfl,_,_,_,_,_,rfl,m2,c1,by lia,by lia⟩
     |false=>
      simp only[iM,ja];refine gx (kc (i:=u5) (by lia) ?_)
      have m2:=m'.putA W B (by lia) fun y hy=>by
       rw[kh c2] at hy;have first:SL lt q[u5] r[x6]:= .inr ⟨hl,B.ix _ (kx _) _ (kx _)⟩;rcases jj.mp hy with rfl|hy
       ·exact first
       ·exact SL.trans W first (BI W B c2 y hy)
      rw[uS];by_cases he:(u5+1+1==(q.map it).toArray.size)=true
      ·rw[gD he];have:u5+1+1=q.length:=by simpa using he
       exact gy ⟨rfl,.inl ⟨_,_,rfl,bg m2 this⟩⟩
      ·rw[gF he];have:u5+1+1≠q.length:=by simpa using he
       by_cases hg:ac+1>=mg
       ·rw[gD hg];exact gy ⟨rfl,.inr ⟨_,_,_,_,_,rfl,m2,by lia,c2,by lia⟩⟩
       ·rw[gF hg];exact gy ⟨rfl,_,_,_,_,_,rfl,m2,by lia,c2,by lia⟩
    case post1=>
     rintro c b8 ⟨rfl,⟨res,x,rfl,hr⟩|⟨o',u5,x6,ac,bc,rfl,m',c1,c2,c3⟩⟩
     ·exact gy ⟨res,_,rfl,hr,hs⟩
     ·dsimp only
      refine gx (oS (gx (iP (iX (I:=fun j c b8=> ∃o2 g0 j9 s9 ac bc,c=(none,(o2.map it).toArray,g0,j9,s9,ac,bc)/\MG lt q r o2 g0 j9/\g0+1<q.length/\j9<r.length/\ia+ib+1+j<=g0+j9/\Same st b8)
       (Q:=fun c b8=>Same st b8/\((∃res x,c=(some res,x)/\Res lt it q r res)\/ ∃o2 g0 j9 s9 ac bc,c=(none,(o2.map it).toArray,g0,j9,s9,ac,bc)/\MG lt q r o2 g0 j9/\g0+1<q.length/\j9<r.length/\ia+ib+1<=g0+j9)) ?step2 ?fin2 ⟨o',u5,x6,_,_,_,rfl,m',c1,c2,by lia,hs⟩) ?post2)))
      case fin2=>
       rintro c b8 ⟨o2,g0,j9,s9,ac,bc,rfl,m2,d1,d2,d3,r8⟩;rw[sz,sz] at d3
       lia
      case post2=>
       rintro c b8 ⟨r8,⟨res,x,rfl,hr⟩|⟨o2,g0,j9,s9,ac,bc,rfl,m2,d1,d2,d3⟩⟩
       ·exact gy ⟨res,_,rfl,hr,r8⟩
       ·dsimp only;exact gx (qT fun k0 o7=>gy ⟨o2,g0,j9,_,rfl,m2,d1,d2,by lia,r8.trans o7⟩)
      case step2=>
       rintro j c g8 _ _ ⟨o2,g0,j9,s9,ac,bc,rfl,m2,d1,d2,d3,r8⟩;dsimp only;have en:(q.drop g0).take ((q.map it).toArray.size-g0)=q.drop g0:=sJ (by simp)
       have mid: ∀(y2 k:Nat) (k0:iT),Same st k0->k<=(q.map it).toArray.size-g0->(∀y∈(q.drop g0).take k,lt r[j9] y=false)->(∀y∈(q.drop g0).drop k,lt r[j9] y=true)->g0+k+1≠q.length->g0+k≠q.length->
         wpI (model prog w) A E G (Kc (q.map it).toArray (r.map it).toArray ((o2++(q.drop g0).take k).map it).toArray (g0+k) j9 y2 k bc) (GW lt it q r (ia+ib+1) (ia+ib+1+(j+1)) (Same st)) k0:=fun y2 k k0 o7 k1 k2 k3 e1 e2=>by
        rw[sz] at k1;refine IM W H B top (o7.1.trans hk) (m2.putAs W B fun x hx y hy=>?_) (by lia) d2 (fun y hy=>?_) o7 (by lia) (by lia)
        ·have first:SL lt x r[j9]:= .inr ⟨k2 x hx,B.ix x (lG (lV hx)) _ (kx _)⟩;rw[kh d2] at hy;rcases jj.mp hy with rfl|hy
         ·exact first
         ·exact SL.trans W first (BI W B d2 y hy)
        ·rw[<-oN] at hy;exact .inl (k3 y hy)
       have body: ∀(y2:Nat) (k0:iT),Same st k0->wpI (model prog w) A E G (do
         let y <-elem' (r.map it).toArray j9
         let x <-kT false y (q.map it).toArray g0 ((q.map it).toArray.size-g0) 0
         match x with
         |some k=>
          if k>0 then
           if(g0+k+1==(q.map it).toArray.size)=true then pure (ForInStep.done (some ((o2.map it).toArray++(q.map it).toArray.extract g0 (g0+k)++(r.map it).toArray.extract j9 (r.map it).toArray.size++(q.map it).toArray.extract (g0+k) (q.map it).toArray.size),(o2.map it).toArray++(q.map it).toArray.extract g0 (g0+k),g0+k,j9,y2,k,bc))
           else if(g0+k==(q.map it).toArray.size)=true then pure (ForInStep.done (some ((o2.map it).toArray++(q.map it).toArray.extract g0 (g0+k)++(q.map it).toArray.extract (g0+k) (q.map it).toArray.size++(r.map it).toArray.extract j9 (r.map it).toArray.size),(o2.map it).toArray++(q.map it).toArray.extract g0 (g0+k),g0+k,j9,y2,k,bc))
           else Kc (q.map it).toArray (r.map it).toArray ((o2.map it).toArray++(q.map it).toArray.extract g0 (g0+k)) (g0+k) j9 y2 k bc
          else Kc (q.map it).toArray (r.map it).toArray (o2.map it).toArray g0 j9 y2 k bc
         |_=>pure (ForInStep.done (some ((o2.map it).toArray++(q.map it).toArray.extract g0 (q.map it).toArray.size++(r.map it).toArray.extract j9 (r.map it).toArray.size),(o2.map it).toArray,g0,j9,y2,ac,bc))) (GW lt it q r (ia+ib+1) (ia+ib+1+(j+1)) (Same st)) k0:=fun y2 k0 o7=>by
        refine gx (kc d2 (gx (qU W H (B.nr _ (kx _)) B.nq (by rw[sz];lia) (by rw[sz];lia) (o7.1.trans hk) (by rw[en];exact B.sq.sublist (oM _ _)) fun k k1 k2 k3=>?_)));rw[en] at k2 k3;simp only[iM,ja,Bool.not_eq_true',Bool.not_eq_false'] at k2 k3;have eR:=k1;rw[sz] at eR
        have mA:MG lt q r (o2++(q.drop g0).take k) (g0+k) j9:=m2.putAs W B fun x hx y hy=>by
         have first:SL lt x r[j9]:= .inr ⟨k2 x hx,B.ix x (lG (lV hx)) _ (kx _)⟩;rw[kh d2] at hy;rcases jj.mp hy with rfl|hy
         ·exact first
         ·exact SL.trans W first (BI W B d2 y hy)
        dsimp only;by_cases hp:k>0
        ·rw[gD hp,GS];by_cases he:(g0+k+1==(q.map it).toArray.size)=true
         ·rw[gD he];exact gy ⟨o7,.inl ⟨_,_,rfl,bg mA (by simpa using he)⟩⟩
         ·rw[gF he];by_cases hf:(g0+k==(q.map it).toArray.size)=true
          ·rw[gD hf];have:g0+k=q.length:=by simpa using hf
           exact gy ⟨o7,.inl ⟨_,_,rfl,qE W B mA (.inl (by lia))⟩⟩
          ·rw[gF hf];exact mid y2 k k0 o7 k1 k2 k3 (by simpa using he) (by simpa using hf)
        ·rw[gF hp];have hz:k=0:=by lia
         subst hz;have:=mid y2 0 k0 o7 k1 k2 k3 (by lia) (by lia);simpa using this
       by_cases hm:s9>1
       ·rw[gD hm];refine gx (qT fun k0 o7=>?_);exact iP (body _ k0 (r8.trans o7)) fun x b8 hx=>by cases x<;>exact hx
       ·rw[gF hm];refine gx (qT fun k0 o7=>?_);exact iP (body _ k0 (r8.trans o7)) fun x b8 hx=>by cases x<;>exact hx
end
theorem E7(a b:nC):yb a b=(do
 rule "list.sort.merge-hi"
 let total:=a.size+b.size
 let done (out:nC) (na nb:Nat):=a.extract 0 na++b.extract 0 nb++out.reverse
 let n6 (out:nC) (na nb:Nat):=b.extract 0 nb++a.extract 0 na++out.reverse
 let mut na:=a.size-1
 let mut nb:=b.size
 let mut out:Array Keyed:= #[<-elem' a na]
 if na==0 then return done out na nb
 if nb==1 then return n6 out na nb
 let mut minGallop:=gallopOf (<-get)
 for _ in [0:total] do
  let mut acount:=0
  let mut bcount:=0
  for _ in [0:total] do
   let some aWins <-lt' (<-elem' b (nb-1)) (<-elem' a (na-1))|return done out na nb
   if aWins then
    na:=na-1;out:=out.push (<-elem' a na);acount:=acount+1;bcount:=0
    if na==0 then return done out na nb
    if acount>=minGallop then break
   else
    nb:=nb-1;out:=out.push (<-elem' b nb);bcount:=bcount+1;acount:=0
    if nb==1 then return n6 out na nb
    if bcount>=minGallop then break
  rule "list.sort.gallop"
  minGallop:=minGallop+1
  for _ in [0:total] do
   if minGallop>1 then minGallop:=minGallop-1
   ur minGallop
   let some at_ <-kT false (<-elem' b (nb-1)) a 0 na (na-1)|return done out na nb
   let k:=na-at_
   acount:=k
   if k>0 then
    out:=out++(a.extract at_ na).reverse;na:=at_
    if na==0 then return done out na nb
   nb:=nb-1;out:=out.push (<-elem' b nb)
   if nb==1 then return n6 out na nb
   let some at_ <-kT true (<-elem' a (na-1)) b 0 nb (nb-1)|return done out na nb
   let k:=nb-at_
   bcount:=k
   if k>0 then
    out:=out++(b.extract at_ nb).reverse;nb:=at_
    if nb==1 then return n6 out na nb
    if nb==0 then return done out na nb
   na:=na-1;out:=out.push (<-elem' a na)
   if na==0 then return done out na nb
   if acount<7&&bcount<7 then break
  minGallop:=minGallop+1
  ur minGallop
 unsupported "internal:list.sort.merge-bound"):=rfl
section
variable {prog:hG}{w:gS}{A:gW}{E:hV}{G:Shared->Prop}{it:nB}{lt:lJ}{κ:SortKind}{N:Nat}
structure MH(lt:lJ)(q r s:iF)(na nb:Nat):Prop where
 srt:s.Pairwise (SL lt)
 high: ∀y,(y∈q.take na\/y∈r.take nb)-> ∀x∈s,SL lt y x
 pm:(q.take na++r.take nb++s).Perm (q++r)
theorem kr{l:iF}{n:Nat}(h1:0<n)(h:n<=l.length):l.take n=l.take (n-1)++[l[n-1]]:=by
 obtain⟨m,rfl⟩: ∃m,n=m+1:=⟨n-1,by lia⟩
 rw[AL,jb (by lia)];rfl
theorem oy{l:iF}{i j x:Nat}(h:x∈l.take i)(u2:i<=j):x∈l.take j:=by
 have:=List.take_sublist_take_left (l:=l) u2;exact this.subset h
section
variable {q r s:iF}{na nb k:Nat}(W:Wk lt)(B:Pre lt N q r)
include W B
theorem Fn(h0:0<na)(h:na<=q.length): ∀y∈q.take (na-1),SL lt y q[na-1]:=fun y hy=>by
 have:=B.sq.sublist (mW na q);rw[kr h0 h,mw] at this;exact this.2.2 y hy _ (mZ.mpr rfl)
theorem Fm(h0:0<nb)(h:nb<=r.length): ∀y∈r.take (nb-1),SL lt y r[nb-1]:=fun y hy=>by
 have:=B.sr.sublist (mW nb r);rw[kr h0 h,mw] at this;exact this.2.2 y hy _ (mZ.mpr rfl)
theorem MH.putA(m:MH lt q r s na nb)(h0:0<na)(h1:na<=q.length)(h: ∀y∈r.take nb,SL lt y q[na-1]):MH lt q r (q[na-1]::s) (na-1) nb:=by
 have hm:q[na-1]∈q.take na:=by rw[kr h0 h1];exact oQ _ (mZ.mpr rfl)
 refine⟨nX.mpr ⟨fun x hx=>m.high _ (.inl hm) x hx,m.srt⟩,fun y hy x hx=>?_,?_⟩
 ·rcases jj.mp hx with rfl|hx
  ·exact hy.elim (Fn W B h0 h1 y) (h y)
  ·exact m.high y (hy.imp (fun z=>oy z (Nat.sub_le _ _)) id) x hx
 ·refine List.Perm.trans ?_ m.pm;rw[kr h0 h1]
  have e:(q.take (na-1)++r.take nb++q[na-1]::s).Perm (q.take (na-1)++(q[na-1]::(r.take nb++s))):=by
   rw[ky];exact ub _ DC
  refine e.trans (AK ?_);rw[ky,ky,DY]
theorem MH.putB(m:MH lt q r s na nb)(h0:0<nb)(h1:nb<=r.length)(h: ∀y∈q.take na,SL lt y r[nb-1]):MH lt q r (r[nb-1]::s) na (nb-1):=by
 have hm:r[nb-1]∈r.take nb:=by rw[kr h0 h1];exact oQ _ (mZ.mpr rfl)
 refine⟨nX.mpr ⟨fun x hx=>m.high _ (.inr hm) x hx,m.srt⟩,fun y hy x hx=>?_,?_⟩
 ·rcases jj.mp hx with rfl|hx
  ·exact hy.elim (h y) (Fm W B h0 h1 y)
  ·exact m.high y (hy.imp id fun z=>oy z (Nat.sub_le _ _)) x hx
 ·refine List.Perm.trans ?_ m.pm;refine AK ?_;rw[kr h0 h1,ky,ky,ky,DY]
theorem MH.putAs(m:MH lt q r s na nb)(hk:k<=na)(h: ∀y∈r.take nb,∀x∈(q.take na).drop k,SL lt y x):MH lt q r ((q.take na).drop k++s) k nb:=by
 have e:q.take k=(q.take na).take k:=by rw[sH,qq hk]
 have hs:=B.sq.sublist (mW na q);rw[<-lW k (q.take na),mw] at hs;obtain⟨s1,s2,s3⟩:=hs;refine⟨mw.mpr ⟨s2,m.srt,fun y hy x hx=>m.high y (.inl (lG hy)) x hx⟩,fun y hy x hx=>?_,?_⟩
 ·rcases lK.mp hx with hx|hx
  ·exact hy.elim (fun z=>s3 y (by rw[<-e];exact z) x hx) fun z=>h y z x hx
  ·exact m.high y (hy.imp (fun z=>oy z hk) id) x hx
 ·refine List.Perm.trans ?_ m.pm;rw[<-ky];refine vg s ?_;rw[e]
  have:((q.take na).take k++r.take nb++(q.take na).drop k).Perm ((q.take na).take k++(q.take na).drop k++r.take nb):=by
   rw[ky,ky];exact ub _ AM
  rwa [lW] at this
theorem MH.putBs(m:MH lt q r s na nb)(hk:k<=nb)(h: ∀y∈q.take na,∀x∈(r.take nb).drop k,SL lt y x):MH lt q r ((r.take nb).drop k++s) na k:=by
 have e:r.take k=(r.take nb).take k:=by rw[sH,qq hk]
 have hs:=B.sr.sublist (mW nb r);rw[<-lW k (r.take nb),mw] at hs;obtain⟨s1,s2,s3⟩:=hs;refine⟨mw.mpr ⟨s2,m.srt,fun y hy x hx=>m.high y (.inr (lG hy)) x hx⟩,fun y hy x hx=>?_,?_⟩
 ·rcases lK.mp hx with hx|hx
  ·exact hy.elim (fun z=>h y z x hx) fun z=>s3 y (by rw[<-e];exact z) x hx
  ·exact m.high y (hy.imp id fun z=>oy z hk) x hx
 ·refine List.Perm.trans ?_ m.pm;rw[e,<-ky];refine vg s ?_;rw[ky,lW]
theorem MH.endA(m:MH lt q r s na nb)(h:na=0\/nb=0):(q.take na++r.take nb++s).Pairwise (SL lt):=by
 refine mw.mpr ⟨?_,m.srt,fun y hy x hx=>m.high y (lK.mp hy) x hx⟩;rcases h with rfl|rfl
 ·rw[List.take_zero,nU];exact B.sr.sublist (mW _ _)
 ·rw[List.take_zero,sX];exact B.sq.sublist (mW _ _)
theorem MH.endL(m:MH lt q r s na nb)(h: ∀x∈r.take nb,∀y∈q.take na,SL lt x y):(r.take nb++q.take na++s).Pairwise (SL lt)/\(r.take nb++q.take na++s).Perm (q++r):=
 ⟨mw.mpr ⟨mw.mpr ⟨B.sr.sublist (mW _ _),B.sq.sublist (mW _ _),h⟩,m.srt,fun y hy x hx=>m.high y ((lK.mp hy).symm) x hx⟩,(vg s AM).trans m.pm⟩
end
theorem rK{s:iF}{x:Nat}:((s.reverse.map it).toArray.push (it x))=((x::s).reverse.map it).toArray:=by simp
theorem DA{s q r:iF}{i j:Nat}:((q.map it).toArray.extract 0 i++(r.map it).toArray.extract 0 j++(s.reverse.map it).toArray.reverse)=((q.take i++r.take j++s).map it).toArray:=by
 simp[vf,ve]
theorem Dz{s q:iF}{i k:Nat}:((s.reverse.map it).toArray++((q.map it).toArray.extract k i).reverse)=(((q.take i).drop k++s).reverse.map it).toArray:=by
 simp[vf,ve,List.drop_take]
theorem oY(W:Wk lt){q r s:iF}{na nb:Nat}(B:Pre lt N q r)(m:MH lt q r s na nb)(h:na=0\/nb=0):Res lt it q r ((q.map it).toArray.extract 0 na++(r.map it).toArray.extract 0 nb++(s.reverse.map it).toArray.reverse):=⟨_,DA,m.endA W B h,m.pm⟩
theorem ED(W:Wk lt){q r s:iF}{na nb:Nat}(B:Pre lt N q r)(m:MH lt q r s na nb)(h: ∀x∈r.take nb,∀y∈q.take na,SL lt x y):Res lt it q r ((r.map it).toArray.extract 0 nb++(q.map it).toArray.extract 0 na++(s.reverse.map it).toArray.reverse):=⟨_,DA,m.endL W B h⟩
end
abbrev HiS:=Option (Array Keyed)×Nat×Nat×Array Keyed×Nat×Nat×Nat
noncomputable def F5(a b out:nC)(na nb mg k k2:Nat):StateT SortSt Sem (ForInStep HiS):=do
 let y <-elem' a (na-1)
 if(na-1==0)=true then pure (ForInStep.done (some (a.extract 0 (na-1)++b.extract 0 nb++(out.push y).reverse),na-1,nb,out.push y,mg,k,k2))
 else if(decide (k<7)&&decide (k2<7))=true then pure (ForInStep.done (none,na-1,nb,out.push y,mg,k,k2)) else pure (ForInStep.yield (none,na-1,nb,out.push y,mg,k,k2))
noncomputable def Mu(a b out:nC)(na nb mg k bc:Nat):StateT SortSt Sem (ForInStep HiS):=do
 let y <-elem' b (nb-1)
 if(nb-1==1)=true then pure (ForInStep.done (some (b.extract 0 (nb-1)++a.extract 0 na++(out.push y).reverse),na,nb-1,out.push y,mg,k,bc))
 else do
  let z <-elem' a (na-1)
  let x <-kT true z b 0 (nb-1) (nb-1-1)
  match x with
  |some at_=>
   if nb-1-at_>0 then
    if(at_==1)=true then pure (ForInStep.done (some (b.extract 0 at_++a.extract 0 na++(out.push y++(b.extract at_ (nb-1)).reverse).reverse),na,at_,out.push y++(b.extract at_ (nb-1)).reverse,mg,k,nb-1-at_))
    else if(at_==0)=true then pure (ForInStep.done (some (a.extract 0 na++b.extract 0 at_++(out.push y++(b.extract at_ (nb-1)).reverse).reverse),na,at_,out.push y++(b.extract at_ (nb-1)).reverse,mg,k,nb-1-at_))
    else F5 a b (out.push y++(b.extract at_ (nb-1)).reverse) na at_ mg k (nb-1-at_)
   else F5 a b (out.push y) na (nb-1) mg k (nb-1-at_)
  |_=>pure (ForInStep.done (some (a.extract 0 na++b.extract 0 (nb-1)++(out.push y).reverse),na,nb-1,out.push y,mg,k,bc))
def Lj(lt:lJ)(it:nB)(q r:iF)(c cy:Nat)(S:SortSt->Prop)(x:ForInStep HiS)(b8:iT):Prop:=
 match x with
 | .done c'=>S b8/\((∃res x,c'=(some res,x)/\Res lt it q r res)\/ ∃s2 i7 j5 s9 ac bc,c'=(none,i7,j5,(s2.reverse.map it).toArray,s9,ac,bc)/\MH lt q r s2 i7 j5/\1<=i7/\i7<=q.length/\2<=j5/\j5<=r.length/\i7+j5+c<=q.length+r.length)
 | .yield c'=> ∃s2 i7 j5 s9 ac bc,c'=(none,i7,j5,(s2.reverse.map it).toArray,s9,ac,bc)/\MH lt q r s2 i7 j5/\1<=i7/\i7<=q.length/\2<=j5/\j5<=r.length/\i7+j5+cy<=q.length+r.length/\S b8
section
variable {prog:hG}{w:gS}{A:gW}{E:hV}{G:Shared->Prop}{it:nB}{lt:lJ}{κ:SortKind}{N:Nat}
section
variable(W:Wk lt)(H:Ask prog w A E G it κ N lt){q r:iF}(B:Pre lt N q r)(bot: ∀x∈r.take 1,∀y∈q,SL lt x y){S:SortSt->Prop}{s:iF}{na nb mg k k2 bc c cy:Nat}{st:iT}
include W H B bot
theorem zq(m:MH lt q r s na nb)(ha:1<=na)(dv:na<=q.length)(hb:2<=nb)(eU:nb<=r.length)(fa: ∀y∈r.take nb,SL lt y q[na-1])(hs:S st)(hc:na-1+nb+c<=q.length+r.length)(hy:na-1+nb+cy<=q.length+r.length):
  wpI (model prog w) A E G (F5 (q.map it).toArray (r.map it).toArray (s.reverse.map it).toArray na nb mg k k2) (Lj lt it q r c cy S) st:=by
 unfold F5;refine gx (kc (i:=na-1) (by lia) ?_);have m2:=m.putA W B (by lia) dv fa;rw[rK];by_cases he:(na-1==0)=true
 ·rw[gD he];exact gy ⟨hs,.inl ⟨_,_,rfl,oY W B m2 (.inl (by simpa using he))⟩⟩
 ·rw[gF he];have:na-1≠0:=fun z=>he (by simp[z]);by_cases h7:(decide (k<7)&&decide (k2<7))=true
  ·rw[gD h7];exact gy ⟨hs,.inr ⟨_,_,_,_,_,_,rfl,m2,by lia,by lia,hb,eU,hc⟩⟩
  ·rw[gF h7];exact gy ⟨_,_,_,_,_,_,rfl,m2,by lia,by lia,hb,eU,hy,hs⟩
theorem ym(m:MH lt q r s na nb)(h:nb=1):Res lt it q r ((r.map it).toArray.extract 0 nb++(q.map it).toArray.extract 0 na++(s.reverse.map it).toArray.reverse):=ED W B m fun x hx y hy=>bot x (by rw[<-h];exact hx) y (lV hy)
theorem Cb(hk:kindOf st=κ)(m:MH lt q r s na nb)(ha:1<=na)(dv:na<=q.length)(hb:2<=nb)(eU:nb<=r.length)(fb: ∀y∈q.take na,SL lt y r[nb-1])(hs:S st)(hc:na+nb+c<=q.length+r.length+1)(hy:na+nb+cy<=q.length+r.length+2):
  wpI (model prog w) A E G (Mu (q.map it).toArray (r.map it).toArray (s.reverse.map it).toArray na nb mg k bc) (Lj lt it q r c cy S) st:=by
 unfold Mu;refine gx (kc (i:=nb-1) (by lia) ?_);have m2:=m.putB W B (by lia) eU fb;rw[rK];by_cases he:(nb-1==1)=true
 ·rw[gD he];exact gy ⟨hs,.inl ⟨_,_,rfl,ym W H B bot m2 (by simpa using he)⟩⟩
 ·rw[gF he];have he:nb-1≠1:=fun z=>he (by simp[z]);have en:(r.drop 0).take (nb-1)=r.take (nb-1):=by rw[wY]
  refine gx (kc (i:=na-1) (by lia) (gx (qU W H (B.nq _ (kx _)) B.nr (by lia) (by lia) hk (by rw[en];exact B.sr.sublist (mW _ _)) fun k' k1 k2 k3=>?_)));rw[en] at k2 k3;simp only[iH] at k2 k3
  have m3:=m2.putBs W B (k:=k') k1 fun y hy x hx=>by
   have first:SL lt q[na-1] x:= .inr ⟨k3 x hx,B.ix _ (kx _) _ (lV (lG hx))⟩;rw[kr ha dv] at hy;rcases lK.mp hy with hy|hy
   ·exact SL.trans W (Fn W B ha dv y hy) first
   ·rw[mZ] at hy;subst hy;exact first
  have e2:r.take k'=(r.take (nb-1)).take k':=by rw[sH,qq k1]
  have fa: ∀y∈r.take k',SL lt y q[na-1]:=fun y hy=> .inl (k2 y (by rw[<-e2];exact hy));dsimp only;by_cases hp:nb-1-k'>0
  ·rw[gD hp,Dz];by_cases hf:(k'==1)=true
   ·rw[gD hf];exact gy ⟨hs,.inl ⟨_,_,rfl,ym W H B bot m3 (by simpa using hf)⟩⟩
   ·rw[gF hf];have hf:k'≠1:=fun z=>hf (by simp[z]);by_cases hg:(k'==0)=true
    ·rw[gD hg];exact gy ⟨hs,.inl ⟨_,_,rfl,oY W B m3 (.inr (by simpa using hg))⟩⟩
    ·rw[gF hg];have hg:k'≠0:=fun z=>hg (by simp[z]);exact zq W H B bot m3 ha dv (by lia) (by lia) fa hs (by lia) (by lia)
  ·rw[gF hp];have hz:k'=nb-1:=by lia
   subst hz;exact zq W H B bot m2 ha dv (by lia) (by lia) fa hs (by lia) (by lia)
end
theorem Nn(W:Wk lt)(H:Ask prog w A E G it κ N lt){q r:iF}(B:Pre lt N q r)(h1:1<=q.length)(h2:1<=r.length)(bot: ∀x∈r.take 1,∀y∈q,SL lt x y)(top: ∀x∈r,SL lt x q[q.length-1]){st:iT}(hk:kindOf st=κ){Q:Array Keyed->SortSt->Prop}
  (h: ∀out b8,Res lt it q r out->Same st b8->Q out b8):wpI (model prog w) A E G (yb (q.map it).toArray (r.map it).toArray) Q st:=by
 have firstB: ∀{s na nb},MH lt q r s na nb->nb=1->Res lt it q r ((r.map it).toArray.extract 0 nb++(q.map it).toArray.extract 0 na++(s.reverse.map it).toArray.reverse):=fun m e=>ym W H B bot m e;rw[E7];dsimp only;have e1:(q.map it).toArray.size=q.length:=sz q it;have e2:(r.map it).toArray.size=r.length:=sz r it;rw[e1,e2];refine gx (oS (gx (kc (i:=q.length-1) (by lia) ?_)))
 have m0:MH lt q r [q[q.length-1]] (q.length-1) r.length:=by
  have:=MH.putA (s:=[]) (na:=q.length) (nb:=r.length) W B ⟨List.Pairwise.nil,fun y hy x hx=>absurd hx jL,by simp⟩ (by lia) (ip _) (fun y hy=>top y (lV hy));exact this
 have e0: #[it q[q.length-1]]=(([q[q.length-1]]:List Nat).reverse.map it).toArray:=rfl;rw[e0];by_cases aC:(q.length-1==0)=true
 ·rw[gD aC];exact gy (h _ _ (oY W B m0 (.inl (by simpa using aC))) .refl)
 ·rw[gF aC];have aC:q.length-1≠0:=fun z=>aC (by simp[z]);by_cases bw:(r.length==1)=true
  ·rw[gD bw];exact gy (h _ _ (firstB m0 (by simpa using bw)) .refl)
  ·rw[gF bw];have bw:r.length≠1:=fun z=>bw (by simp[z]);refine gx (ly ?_)
   refine gx (iP (iX (I:=fun i c b8=> ∃s na nb mg,c=(none,na,nb,(s.reverse.map it).toArray,mg)/\MH lt q r s na nb/\1<=na/\na<=q.length/\2<=nb/\nb<=r.length/\na+nb+(i+1)<=q.length+r.length/\Same st b8)
    (Q:=fun c b8=> ∃res x,c=(some res,x)/\Res lt it q r res/\Same st b8) ?step ?fin ⟨_,q.length-1,r.length,_,rfl,m0,by lia,by lia,by lia,by lia,by lia,.refl⟩) ?post)
   case post=>
    rintro c b8 ⟨res,x,rfl,hr,hs⟩;exact gy (h res b8 hr hs)
   case fin=>
    rintro c b8 ⟨s,na,nb,mg,rfl,m,b1,b2,b3,b4,b5,hs⟩
    lia
   case step=>
    rintro i c aO _ _ ⟨s,na,nb,mg,rfl,m,b1,b2,b3,b4,b5,hs⟩;dsimp only
    refine gx (iP (iX (I:=fun j c b8=>b8=aO/\ ∃s' u4 g7 ac bc,c=(none,u4,g7,(s'.reverse.map it).toArray,ac,bc)/\MH lt q r s' u4 g7/\1<=u4/\u4<=q.length/\2<=g7/\g7<=r.length/\u4+g7+j<=na+nb)
     (Q:=fun c b8=>b8=aO/\((∃res x,c=(some res,x)/\Res lt it q r res)\/ ∃s' u4 g7 ac bc,c=(none,u4,g7,(s'.reverse.map it).toArray,ac,bc)/\MH lt q r s' u4 g7/\1<=u4/\u4<=q.length/\2<=g7/\g7<=r.length/\u4+g7+1<=na+nb)) ?step1 ?fin1 ⟨rfl,s,na,nb,0,0,rfl,m,b1,b2,b3,b4,by lia⟩) ?post1)
    case fin1=>
     rintro c b8 ⟨rfl,s',u4,g7,ac,bc,rfl,m',c1,c2,c3,c4,c5⟩
     lia
    case step1=>
     rintro j c b8 _ _ ⟨rfl,s',u4,g7,ac,bc,rfl,m',c1,c2,c3,c4,c5⟩;dsimp only;refine gx (kc (i:=g7-1) (by lia) (gx (kc (i:=u4-1) (by lia) (gx (xm H (hs.1.trans hk) (B.nr _ (kx _)) (B.nq _ (kx _)) ?_)))));dsimp only
     cases hl:lt r[g7-1] q[u4-1] with
     |true=>
      simp only[iH];refine gx (kc (i:=u4-1) (by lia) ?_)
      have m2:=m'.putA W B c1 c2 fun y hy=>by
       rw[kr (show 0<g7 by lia) c4] at hy;rcases lK.mp hy with hy|hy
       ·exact SL.trans W (Fm W B (by lia) c4 y hy) (.inl hl)
       ·rw[mZ] at hy;subst hy;exact .inl hl
      rw[rK];by_cases he:(u4-1==0)=true
      ·rw[gD he];exact gy ⟨rfl,.inl ⟨_,_,rfl,oY W B m2 (.inl (by simpa using he))⟩⟩
      ·rw[gF he];have:u4-1≠0:=fun z=>he (by simp[z]);by_cases hg:ac+1>=mg
       ·rw[gD hg];exact gy ⟨rfl,.inr ⟨_,_,_,_,_,rfl,m2,by lia,by lia,c3,c4,by lia⟩⟩
       ·rw[gF hg];exact gy ⟨rfl,_,_,_,_,_,rfl,m2,by lia,by lia,c3,c4,by lia⟩
     |false=>
      simp only[iM,ja];refine gx (kc (i:=g7-1) (by lia) ?_)
      have m2:=m'.putB W B (by lia) c4 fun y hy=>by
       have first:SL lt q[u4-1] r[g7-1]:= .inr ⟨hl,B.ix _ (kx _) _ (kx _)⟩;rw[kr c1 c2] at hy;rcases lK.mp hy with hy|hy
       ·exact SL.trans W (Fn W B c1 c2 y hy) first
       ·rw[mZ] at hy;subst hy;exact first
      rw[rK];by_cases he:(g7-1==1)=true
      ·rw[gD he];exact gy ⟨rfl,.inl ⟨_,_,rfl,firstB m2 (by simpa using he)⟩⟩
      ·rw[gF he];have:g7-1≠1:=fun z=>he (by simp[z]);by_cases hg:bc+1>=mg
       ·rw[gD hg];exact gy ⟨rfl,.inr ⟨_,_,_,_,_,rfl,m2,c1,c2,by lia,by lia,by lia⟩⟩
       ·rw[gF hg];exact gy ⟨rfl,_,_,_,_,_,rfl,m2,c1,c2,by lia,by lia,by lia⟩
    case post1=>
     rintro c b8 ⟨rfl,⟨res,x,rfl,hr⟩|⟨s',u4,g7,ac,bc,rfl,m',c1,c2,c3,c4,c5⟩⟩
     ·exact gy ⟨res,_,rfl,hr,hs⟩
     ·dsimp only
      refine gx (oS (gx (iP (iX (I:=fun j c b8=> ∃s2 i7 j5 s9 ac bc,c=(none,i7,j5,(s2.reverse.map it).toArray,s9,ac,bc)/\MH lt q r s2 i7 j5/\1<=i7/\i7<=q.length/\2<=j5/\j5<=r.length/\i7+j5+(i+2+j)<=q.length+r.length/\Same st b8)
       (Q:=fun c b8=>Same st b8/\((∃res x,c=(some res,x)/\Res lt it q r res)\/ ∃s2 i7 j5 s9 ac bc,c=(none,i7,j5,(s2.reverse.map it).toArray,s9,ac,bc)/\MH lt q r s2 i7 j5/\1<=i7/\i7<=q.length/\2<=j5/\j5<=r.length/\i7+j5+(i+2)<=q.length+r.length)) ?step2 ?fin2 ⟨s',u4,g7,_,_,_,rfl,m',c1,c2,c3,c4,by lia,hs⟩) ?post2)))
      case fin2=>
       rintro c b8 ⟨s2,i7,j5,s9,ac,bc,rfl,m2,d1,d2,d3,d4,d5,r8⟩
       lia
      case post2=>
       rintro c b8 ⟨r8,⟨res,x,rfl,hr⟩|⟨s2,i7,j5,s9,ac,bc,rfl,m2,d1,d2,d3,d4,d5⟩⟩
       ·exact gy ⟨res,_,rfl,hr,r8⟩
       ·dsimp only;exact gx (qT fun k0 o7=>gy ⟨s2,i7,j5,_,rfl,m2,d1,d2,d3,d4,by lia,r8.trans o7⟩)
      case step2=>
       rintro j c g8 _ _ ⟨s2,i7,j5,s9,ac,bc,rfl,m2,d1,d2,d3,d4,d5,r8⟩;dsimp only;have en:(q.drop 0).take i7=q.take i7:=by rw[wY]
       have body: ∀(y2:Nat) (k0:iT),Same st k0->wpI (model prog w) A E G (do
         let y <-elem' (r.map it).toArray (j5-1)
         let x <-kT false y (q.map it).toArray 0 i7 (i7-1)
         match x with
         |some at_=>
          if i7-at_>0 then
           if(at_==0)=true then pure (ForInStep.done (some ((q.map it).toArray.extract 0 at_++(r.map it).toArray.extract 0 j5++((s2.reverse.map it).toArray++((q.map it).toArray.extract at_ i7).reverse).reverse),at_,j5,(s2.reverse.map it).toArray++((q.map it).toArray.extract at_ i7).reverse,y2,i7-at_,bc))
           else Mu (q.map it).toArray (r.map it).toArray ((s2.reverse.map it).toArray++((q.map it).toArray.extract at_ i7).reverse) at_ j5 y2 (i7-at_) bc
          else Mu (q.map it).toArray (r.map it).toArray (s2.reverse.map it).toArray i7 j5 y2 (i7-at_) bc
         |_=>pure (ForInStep.done (some ((q.map it).toArray.extract 0 i7++(r.map it).toArray.extract 0 j5++(s2.reverse.map it).toArray.reverse),i7,j5,(s2.reverse.map it).toArray,y2,ac,bc))) (Lj lt it q r (i+2) (i+2+(j+1)) (Same st)) k0:=fun y2 k0 o7=>by
        refine gx (kc (i:=j5-1) (by lia) (gx (qU W H (B.nr _ (kx _)) B.nq (by lia) (by lia) (o7.1.trans hk) (by rw[en];exact B.sq.sublist (mW _ _)) fun k k1 k2 k3=>?_)));rw[en] at k2 k3;simp only[iM,ja,Bool.not_eq_true',Bool.not_eq_false'] at k2 k3
        have mA:MH lt q r ((q.take i7).drop k++s2) k j5:=m2.putAs W B k1 fun y hy x hx=>by
         have first:SL lt r[j5-1] x:= .inl (k3 x hx);rw[kr (show 0<j5 by lia) d4] at hy;rcases lK.mp hy with hy|hy
         ·exact SL.trans W (Fm W B (by lia) d4 y hy) first
         ·rw[mZ] at hy;subst hy;exact first
        have ek:q.take k=(q.take i7).take k:=by rw[sH,qq k1]
        have fb: ∀y∈q.take k,SL lt y r[j5-1]:=fun y hy=> .inr ⟨k2 y (by rw[<-ek];exact hy),B.ix _ (lV hy) _ (kx _)⟩;dsimp only;by_cases hp:i7-k>0
        ·rw[gD hp,Dz];by_cases he:(k==0)=true
         ·rw[gD he];exact gy ⟨o7,.inl ⟨_,_,rfl,oY W B mA (.inl (by simpa using he))⟩⟩
         ·rw[gF he];have he:k≠0:=fun z=>he (by simp[z]);exact Cb W H B bot (o7.1.trans hk) mA (by lia) (by lia) d3 d4 fb o7 (by lia) (by lia)
        ·rw[gF hp];have hz:k=i7:=by lia
         subst hz;exact Cb W H B bot (o7.1.trans hk) m2 d1 d2 d3 d4 fb o7 (by lia) (by lia)
       by_cases hm:s9>1
       ·rw[gD hm];refine gx (qT fun k0 o7=>?_);exact iP (body _ k0 (r8.trans o7)) fun x b8 hx=>by cases x<;>exact hx
       ·rw[gF hm];refine gx (qT fun k0 o7=>?_);exact iP (body _ k0 (r8.trans o7)) fun x b8 hx=>by cases x<;>exact hx
end
theorem E8(i:Nat):mergeAt' i=(do
 let s <-get
 let(some (sa,na,power),some (sb,nb,_)):=((pendingOf s)[i]?,(pendingOf s)[i+1]?)|unsupported "internal:list.sort.pending"
 set (setPending s (((pendingOf s).setIfInBounds i (sa,na+nb,power)).eraseIdxIfInBounds (i+1)))
 let some k <-kT false (<-elem' (arrOf s) sb) (arrOf s) sa na 0|return false
 let(sa,na):=(sa+k,na-k)
 if na==0 then return true
 let some nb <-kT true (<-elem' (arrOf s) (sa+na-1)) (arrOf s) sb nb (nb-1)|return false
 if nb==0 then return true
 let x:=(arrOf s).extract sa sb
 let y:=(arrOf s).extract sb (sb+nb)
 let merged <-if na<=nb then ya x y else yb x y
 modify fun s=>setArr s (merged.toList.zipIdx.foldl (fun a (p,j)=>a.setIfInBounds (sa+j) p) (arrOf s))
 return (failedOf (<-get)).isNone):=rfl
noncomputable def seg(L:iF)(a n:Nat):List Nat:=(L.drop a).take n
section
variable {lt:lJ}{p:jy}{a b n m:Nat}{L:iF}
theorem wI(h:a+n<=L.length):(seg L a n).length=n:=by simp[seg];lia
theorem Bg{i:Nat}(hi:i<n):(seg L a n)[i]?=L[a+i]?:=by
 simp only[seg,List.getElem?_take,hi,iH,vd]
theorem Nu(h:a+n<=p.size):Up lt p a (a+n)↔(seg p.toList a n).Pairwise (SL lt):=by
 have hl:(seg p.toList a n).length=n:=wI (by simpa using h)
 have get: ∀i (hi:i<n),(seg p.toList a n)[i]'(by lia)=P p (a+i):=fun i hi=>by
  have:(seg p.toList a n)[i]?=some (P p (a+i)):=by
   rw[Bg hi];have:=wm (p:=p) (i:=a+i) (by lia);simpa using this
  rw[jb (by lia)] at this;exact iO this
 rw[FU];constructor
 ·intro u i j hi hj u2;rw[get i (by lia),get j (by lia)];exact u _ _ (by lia) (by lia) (by lia)
 ·intro u i j h1 h2 h3;have:=u (i-a) (j-a) (by lia) (by lia) (by lia);rw[get _ (by lia),get _ (by lia),show a+(i-a)=i by lia,show a+(j-a)=j by lia] at this;exact this
theorem LA(h:a+n<=p.size)(lo hi:Nat):(∀k,a<=k->k<a+n->lo<=P p k/\P p k<hi)↔ ∀x∈seg p.toList a n,lo<=x/\x<hi:=by
 have hl:(seg p.toList a n).length=n:=wI (by simpa using h)
 have get: ∀i (hi:i<n),(seg p.toList a n)[i]'(by lia)=P p (a+i):=fun i hi=>by
  have:(seg p.toList a n)[i]?=some (P p (a+i)):=by
   rw[Bg hi];have:=wm (p:=p) (i:=a+i) (by lia);simpa using this
  rw[jb (by lia)] at this;exact iO this
 constructor
 ·intro u x hx;obtain⟨i,hi,e⟩:=wZ hx;rw[<-e,get i (by lia)];exact u _ (by lia) (by lia)
 ·intro u k k1 k2;have:=u _ (kx (l:=seg p.toList a n) (n:=k-a) (by lia));rw[get _ (by lia),show a+(k-a)=k by lia] at this;exact this
theorem tj(h:a+n+m<=L.length):seg L a (n+m)=seg L a n++seg L (a+n) m:=by
 unfold seg;rw[List.take_add,oN]
theorem Ki(h:a+n<=L.length):L=L.take a++(seg L a n++L.drop (a+n)):=by
 unfold seg;rw[show L.drop (a+n)=(L.drop a).drop n by rw[oN],lW,lW]
theorem C9{α:Type}: ∀(m:List α) (j a:Nat) (L:List α),a+j+m.length<=L.length->((m.zipIdx j).foldl (fun(x:Array α) (p:α×Nat)=>x.setIfInBounds (a+p.2) p.1) L.toArray).toList=L.take (a+j)++(m++L.drop (a+j+m.length))
 |[],j,a,L,h=>by simp
 |x::m,j,a,L,h=>by
  simp only[jO] at h;rw[List.zipIdx_cons,sG];dsimp only;rw[List.setIfInBounds_toArray,C9 m (j+1) a (L.set (a+j) x) (by rw[rS];lia)]
  have e1:(L.set (a+j) x).take (a+(j+1))=L.take (a+j)++[x]:=by
   rw[show a+(j+1)=a+j+1 by lia,AL,Io (ip _),qo (by lia)];rfl
  have e2:(L.set (a+j) x).drop (a+(j+1)+m.length)=L.drop (a+(j+1)+m.length):=Im (by lia);rw[e1,e2];simp only[jO];rw[show a+j+(m.length+1)=a+(j+1)+m.length by lia,ky,DY];rfl
end
section
variable {prog:hG}{w:gS}{A:gW}{E:hV}{G:Shared->Prop}{it:nB}{lt:lJ}{κ:SortKind}{N:Nat}
theorem BN{T M D:iF}{a n:Nat}(hT:T.length=a)(hM:M.length=n):seg (T++(M++D)) a n=M/\(T++(M++D)).take a=T/\(T++(M++D)).drop (a+n)=D:=by
 subst hT hM;refine⟨?_,List.take_left,?_⟩
 ·unfold seg;rw[DX,List.take_left]
 ·rw[<-oN,DX,DX]
def Run(lt:lJ)(L:iF)(a n:Nat):Prop:=1<=n/\(seg L a n).Pairwise (SL lt)/\ ∀x∈seg L a n,a<=x/\x<a+n
theorem Np(W:Wk lt)(H:Ask prog w A E G it κ N lt){i sa na sb nb pw dH:Nat}{st:iT}{p:jy}(R:Rp it κ N st p)(e1:(pendingOf st)[i]?=some (sa,na,pw))(e2:(pendingOf st)[i+1]?=some (sb,nb,dH))(hs:sb=sa+na)(hn:sb+nb<=N)(r1:Run lt p.toList sa na)(r2:Run lt p.toList sb nb)
  {Q:Bool->SortSt->Prop}(h: ∀b8 p',Rp it κ N b8 p'->pendingOf b8=((pendingOf st).setIfInBounds i (sa,na+nb,pw)).eraseIdxIfInBounds (i+1)->Run lt p'.toList sa (na+nb)->p'.toList.take sa=p.toList.take sa->p'.toList.drop (sa+(na+nb))=p.toList.drop (sa+(na+nb))->Q true b8):
  wpI (model prog w) A E G (mergeAt' i) Q st:=by
 rw[E8];refine gx (ly ?_);rw[e1,e2];dsimp only;refine gx (Lq ?_);rw[R.arr];obtain⟨n1,s1,x1⟩:=r1;obtain⟨n2,s2,x2⟩:=r2;have hL:p.toList.length=N:=by simp[R.size]
 have hp:p=p.toList.toArray:=by simp
 generalize hLL:p.toList=L at*;subst hp;have ea:(L.toArray.map it)=(L.map it).toArray:=by simp
 rw[ea]
 have eW: ∀y∈L,y<N:=fun y hy=>by
  have:=(MV.mp R.perm).mem_iff.mp (by simpa using hy);simpa using this
 generalize t8:setPending st (((pendingOf st).setIfInBounds i (sa,na+nb,pw)).eraseIdxIfInBounds (i+1))=aO;have ay:kindOf aO=κ:=by rw[<-t8];exact R.kind
 have aC:arrOf aO=(L.map it).toArray:=by rw[<-t8];show arrOf st=_;rw[R.arr,ea]
 have hp1:pendingOf aO=((pendingOf st).setIfInBounds i (sa,na+nb,pw)).eraseIdxIfInBounds (i+1):=by rw[<-t8]
 have fW:failedOf aO=none:=by rw[<-t8];exact R.ok
 have hlen1:(seg L sa na).length=na:=wI (by lia);have hlen2:(seg L sb nb).length=nb:=wI (by lia);have bj:sb<L.length:=by lia
 have r0:seg L sb nb=L[sb]::seg L (sb+1) (nb-1):=by
  unfold seg;rw[sO bj,show nb=nb-1+1 by lia,Il];rfl
 have key_mem:L[sb]∈seg L sb nb:=by rw[r0];exact iW
 have key_le: ∀z∈seg L sb nb,z=L[sb]\/SL lt L[sb] z:=fun z hz=>by
  rw[r0] at s2 hz;rcases jj.mp hz with hz|hz
  ·exact .inl hz
  ·exact .inr ((nX.mp s2).1 z hz)
 have idx: ∀y∈seg L sa na,∀z∈seg L sb nb,y<z:=fun y hy z hz=>by
  have:=x1 y hy;have:=x2 z hz;lia
 have up: ∀y∈seg L sa na,lt L[sb] y=false-> ∀z∈seg L sb nb,SL lt y z:=fun y hy hl z hz=>by
  have first:SL lt y L[sb]:= .inr ⟨hl,idx y hy _ key_mem⟩;rcases key_le z hz with rfl|hz
  ·exact first
  ·exact SL.trans W first hz
 refine gx (kc bj (gx (qU W H (eW _ (kx _)) eW (by lia) (by lia) ay s1 fun k k1 k2 k3=>?_)));dsimp only;change ∀y∈(seg L sa na).take k,_ at k2;change ∀y∈(seg L sa na).drop k,_ at k3;simp only[iM,ja,Bool.not_eq_true',Bool.not_eq_false'] at k2 k3;by_cases hz:(na-k==0)=true
 ·rw[gD hz];have hz:na-k=0:=by simpa using hz
  have k2': ∀y∈seg L sa na,lt L[sb] y=false:=fun y hy=>k2 y (by rw[sJ (by lia)];exact hy);refine gy (h aO L.toArray ⟨by rw[aC,ea],ay,fW,R.size,R.perm⟩ hp1 ?_ rfl rfl);show Run lt L sa (na+nb);refine⟨by lia,?_,fun x hx=>?_⟩
  ·rw[tj (by lia),<-hs];exact mw.mpr ⟨s1,s2,fun y hy z hz=>up y hy (k2' y hy) z hz⟩
  ·rw[tj (by lia),<-hs] at hx;rcases lK.mp hx with hx|hx
   ·have:=x1 x hx;lia
   ·have:=x2 x hx;lia
 ·rw[gF hz];have hz:na-k≠0:=fun z=>hz (by simp[z]);have br:sa+k+(na-k)-1<L.length:=by lia
  have i4:(seg L sa na)[na-1]?=some L[sa+k+(na-k)-1]:=by
   rw[Bg (by lia),jb (by lia)]
   congr 2;lia
  have t7:L[sa+k+(na-k)-1]∈(seg L sa na).drop k:=by
   refine mV (i:=na-1-k) ?_;rw[vd,show k+(na-1-k)=na-1 by lia];exact i4
  generalize cu:L[sa+k+(na-k)-1]=la at i4 t7
  have le_last: ∀y∈seg L sa na,y=la\/SL lt y la:=fun y hy=>by
   obtain⟨j,hj,e⟩:=wZ hy;by_cases dk:j=na-1
   ·left;subst dk;rw[jb hj] at i4;rw[<-e];exact iO i4
   ·right;have:=FU.mp s1 j (na-1) hj (by lia) (by lia);rw[jb (by lia)] at i4;rw[e,iO i4] at this;exact this
  have la_seg:la∈seg L sa na:=lG t7;refine gx (kc br ?_);rw[cu];refine gx (qU W H (eW _ (by rw[<-cu];exact kx _)) eW (by lia) (by lia) ay s2 fun g7 j1 j2 j3=>?_);dsimp only;change ∀y∈(seg L sb nb).take g7,_ at j2;change ∀y∈(seg L sb nb).drop g7,_ at j3;simp only[iH] at j2 j3;by_cases hy:(g7==0)=true
  ·have hy:g7=0:=by simpa using hy
   subst hy;have:=j3 L[sb] (by rw[wY];exact key_mem);rw[k3 la t7] at this;cases this
  ·rw[gF hy];have hy:g7≠0:=fun z=>hy (by simp[z])
   have ex:(L.map it).toArray.extract (sa+k) sb=(((seg L sa na).drop k).map it).toArray:=by
    simp only[vf,ve,seg,List.drop_take,oN,vc,List.map_drop];rw[show sb-(sa+k)=na-k by lia]
   have ey:(L.map it).toArray.extract sb (sb+g7)=(((seg L sb nb).take g7).map it).toArray:=by
    simp only[vf,ve,seg,sH,vc,List.map_drop];rw[show sb+g7-sb=g7 by lia,qq j1]
   rw[ex,ey];have hq:((seg L sa na).drop k).length=na-k:=by simp[hlen1]
   have hr:((seg L sb nb).take g7).length=g7:=by rw[nW,hlen2,qq j1]
   have B:Pre lt N ((seg L sa na).drop k) ((seg L sb nb).take g7):=
    ⟨s1.sublist (oM _ _),s2.sublist (mW _ _),fun x hx y hy=>idx x (lG hx) y (lV hy),fun x hx=>by have:=x1 x (lG hx);lia,fun x hx=>by have:=x2 x (lV hx);lia⟩
   have rz:((seg L sb nb).take g7)[0]'(by lia)=L[sb]:=by
    rw[List.getElem_take];have:(seg L sb nb)[0]?=some L[sb]:=by rw[r0];rfl
    rw[jb (by lia)] at this;exact iO this
   have ql:((seg L sa na).drop k)[((seg L sa na).drop k).length-1]'(by lia)=la:=by
    rw[List.getElem_drop];have:(seg L sa na)[k+(((seg L sa na).drop k).length-1)]?=some la:=by rw[hq,show k+(na-k-1)=na-1 by lia];exact i4
    rw[jb (by lia)] at this;exact iO this
   have fin: ∀merged b8,Res lt it ((seg L sa na).drop k) ((seg L sb nb).take g7) merged->Same aO b8->wpI (model prog w) A E G (do
     modify fun s=>setArr s (List.foldl (fun a x=>a.setIfInBounds (sa+k+x.snd) x.fst) (arrOf s) merged.toList.zipIdx)
     let r <-get
     pure (failedOf r).isNone) Q b8:=fun merged b8 cM y6=>by
    obtain⟨o,rfl,so,po⟩:=cM;have ol:o.length=na-k+g7:=by rw[po.length_eq,kZ,hq,hr]
    refine gx (jV (gx (ly (gy ?_))));have arr':arrOf b8=(L.map it).toArray:=y6.2.1.trans aC
    have c1:L.take (sa+k)=L.take sa++(seg L sa na).take k:=by
     unfold seg;rw[sH,qq k1,<-List.take_add]
    have c2:L.drop (sa+k+o.length)=(seg L sb nb).drop g7++L.drop (sa+(na+nb)):=by
     have e3:L.drop (sa+(na+nb))=(L.drop (sb+g7)).drop (nb-g7):=by rw[oN];congr 1;lia
     rw[ol,show sa+k+(na-k+g7)=sb+g7 by lia,e3];unfold seg;rw[List.drop_take,oN,lW]
    have fold:List.foldl (fun(a:nC) (x:Keyed×Nat)=>a.setIfInBounds (sa+k+x.snd) x.fst) (arrOf b8) (o.map it).toArray.toList.zipIdx=(((L.take sa++(((seg L sa na).take k++(o++(seg L sb nb).drop g7))++L.drop (sa+(na+nb)))):List Nat).toArray).map it:=by
     rw[arr'];apply Array.toList_inj.mp;have:=C9 (o.map it) 0 (sa+k) (L.map it) (by simp only[jw,ol];lia);rw[DV] at this;refine this.trans ?_;simp only[Array.toList_map,jw];rw[<-vc,<-List.map_drop,c1,c2];simp only[pT,ky]
    have hpm:(L.take sa++(((seg L sa na).take k++(o++(seg L sb nb).drop g7))++L.drop (sa+(na+nb)))).Perm L:=by
     have cut:=Ki (L:=L) (a:=sa) (n:=na+nb) (by lia);refine List.Perm.trans ?_ (AK cut.symm);refine ub _ (vg _ ?_);rw[tj (by lia),<-hs];have e1:=lW k (seg L sa na);have e2:=lW g7 (seg L sb nb);have:((seg L sa na).take k++(o++(seg L sb nb).drop g7)).Perm ((seg L sa na).take k++(((seg L sa na).drop k++(seg L sb nb).take g7)++(seg L sb nb).drop g7)):=ub _ (vg _ po);refine this.trans (AK ?_);rw[ky,e2,<-ky,e1]
    have fL:((seg L sa na).take k++(o++(seg L sb nb).drop g7)).length=na+nb:=by
     simp only[kZ,nW,qy,hlen1,hlen2,ol];lia
    have dN:(L.take sa).length=sa:=by simp;lia
    show Q (failedOf b8).isNone _;rw[y6.2.2.2,fW];refine h _ (L.take sa++(((seg L sa na).take k++(o++(seg L sb nb).drop g7))++L.drop (sa+(na+nb)))).toArray ⟨fold,y6.1.trans ay,y6.2.2.2.trans fW,by rw[iw,hpm.length_eq,hL],MV.mpr (hpm.trans (MV.mp R.perm))⟩ (y6.2.2.1.trans hp1) ?_ ?_ ?_
    ·have hseg:=(BN (D:=L.drop (sa+(na+nb))) dN fL).1;show Run lt (L.take sa++_) sa (na+nb);unfold Run;rw[hseg];have om: ∀x∈o,x∈(seg L sa na).drop k\/x∈(seg L sb nb).take g7:=fun x hx=>lK.mp (po.mem_iff.mp hx);refine⟨by lia,mw.mpr ⟨s1.sublist (mW _ _),mw.mpr ⟨so,s2.sublist (oM _ _),fun x hx z hz=>?_⟩,fun y hy x hx=>?_⟩,fun x hx=>?_⟩
     ·rcases om x hx with hx|hx
      ·have lz:SL lt la z:= .inr ⟨j3 z hz,idx la la_seg z (lG hz)⟩;rcases le_last x (lG hx) with rfl|hx
       ·exact lz
       ·exact SL.trans W hx lz
      ·have:=s2;rw[<-lW g7 (seg L sb nb),mw] at this;exact this.2.2 x hx z hz
     ·have hyl:=k2 y hy;have hys:=lV hy;rcases lK.mp hx with hx|hx
      ·rcases om x hx with hx|hx
       ·have:=s1;rw[<-lW k (seg L sa na),mw] at this;exact this.2.2 y hy x hx
       ·exact up y hys hyl x (lV hx)
      ·exact up y hys hyl x (lG hx)
     ·have in1:x∈seg L sa na\/x∈seg L sb nb:=by
       rcases lK.mp hx with hx|hx
       ·exact .inl (lV hx)
       ·rcases lK.mp hx with hx|hx
        ·exact(om x hx).imp lG lV
        ·exact .inr (lG hx)
      rcases in1 with hx|hx
      ·have:=x1 x hx;lia
      ·have:=x2 x hx;lia
    ·show(L.take sa++_).take sa=L.take sa;exact(BN dN fL).2.1
    ·show(L.take sa++_).drop (sa+(na+nb))=L.drop (sa+(na+nb));exact(BN dN fL).2.2
   by_cases hle:na-k<=g7
   ·rw[gD hle];refine gx (Nm W H B (by lia) (by lia) (fun y hy=>by rw[rz];exact .inl (k3 y hy)) (fun x hx y hy=>?_) ay fin)
    have:y=la:=by
     have e:((seg L sa na).drop k).drop (((seg L sa na).drop k).length-1)=[la]:=by
      rw[sO (by lia),ql,xg (by lia)]
     rw[e] at hy;exact mZ.mp hy
    subst this;exact .inl (j2 x hx)
   ·rw[gF hle];refine gx (Nn W H B (by lia) (by lia) (fun x hx y hy=>?_) (fun x hx=>by rw[ql];exact .inl (j2 x hx)) ay fin)
    have:x=L[sb]:=by
     have e:((seg L sb nb).take g7).take 1=[L[sb]]:=by
      rw[r0,show g7=g7-1+1 by lia,Il];rfl
     rw[e] at hx;exact mZ.mp hx
    subst this;exact .inl (k3 y hy)
def Chain(lt:lJ)(L:iF):Nat->List (Nat×Nat×Nat)->Nat->Prop
 |a,[],b=>a=b
 |a,(s,n,_)::r,b=>s=a/\Run lt L a n/\Chain lt L (a+n) r b
theorem Chain.le{L:iF}: ∀{l:List (Nat×Nat×Nat)} {a b:Nat},Chain lt L a l b->a+l.length<=b
 |[],a,b,h=>by have:a=b:=h;simp;lia
 |(s,n,x)::r,a,b,h=>by
  obtain⟨_,r1,h2⟩:=h;have:=Chain.le h2;have:=r1.1;simp only[jO];lia
theorem Jl{L L':iF}{a n c:Nat}(h:Run lt L a n)(hc:a+n<=c)(e:L'.take c=L.take c):Run lt L' a n:=by
 have:seg L' a n=seg L a n:=by
  have q: ∀X:List Nat,seg X a n=seg (X.take c) a n:=fun X=>by
   unfold seg;rw[List.drop_take,sH,qq (by lia)]
  rw[q L',q L,e]
 unfold Run;rw[this];exact h
theorem xF{L L':iF}{a n c:Nat}(h:Run lt L a n)(hc:c<=a)(e:L'.drop c=L.drop c):Run lt L' a n:=by
 have:seg L' a n=seg L a n:=by
  have q: ∀X:List Nat,seg X a n=seg (X.drop c) (a-c) n:=fun X=>by
   unfold seg;rw[oN,show c+(a-c)=a by lia]
  rw[q L',q L,e]
 unfold Run;rw[this];exact h
theorem Chain.take{L L':iF}{c:Nat}(e:L'.take c=L.take c): ∀{l:List (Nat×Nat×Nat)} {a b:Nat},Chain lt L a l b->b<=c->Chain lt L' a l b
 |[],a,b,h,_=>h
 |(s,n,x)::r,a,b,h,hc=>by
  obtain⟨h1,h2,h3⟩:=h;have:=Chain.le h3;exact⟨h1,Jl h2 (by lia) e,Chain.take e h3 hc⟩
theorem Chain.drop{L L':iF}{c:Nat}(e:L'.drop c=L.drop c): ∀{l:List (Nat×Nat×Nat)} {a b:Nat},Chain lt L a l b->c<=a->Chain lt L' a l b
 |[],a,b,h,_=>h
 |(s,n,x)::r,a,b,h,hc=>by
  obtain⟨h1,h2,h3⟩:=h;exact⟨h1,xF h2 hc e,Chain.drop e h3 (by lia)⟩
theorem Chain.append{L:iF}: ∀{l m:List (Nat×Nat×Nat)} {a b:Nat},Chain lt L a (l++m) b↔ ∃c,Chain lt L a l c/\Chain lt L c m b
 |[],m,a,b=>⟨fun h=>⟨a,rfl,h⟩,fun⟨c,h1,h2⟩=>by have:a=c:=h1;subst this;exact h2⟩
 |(s,n,x)::r,m,a,b=>by
  constructor
  ·rintro⟨h1,h2,h3⟩;obtain⟨c,h4,h5⟩:=Chain.append.mp h3;exact⟨c,⟨h1,h2,h4⟩,h5⟩
  ·rintro⟨c,⟨h1,h2,h4⟩,h5⟩;exact⟨h1,h2,Chain.append.mpr ⟨c,h4,h5⟩⟩
theorem vB(W:Wk lt)(H:Ask prog w A E G it κ N lt){i lo:Nat}{st:iT}{p:jy}(R:Rp it κ N st p)(ch:Chain lt p.toList 0 (pendingOf st).toList lo)(hlo:lo<=N)(hi:i+1<(pendingOf st).size){Q:Bool->SortSt->Prop}
  (h: ∀b8 p',Rp it κ N b8 p'->Chain lt p'.toList 0 (pendingOf b8).toList lo->(pendingOf b8).size+1=(pendingOf st).size->p'.toList.drop lo=p.toList.drop lo->Q true b8):wpI (model prog w) A E G (mergeAt' i) Q st:=by
 obtain⟨⟨sa,na,pw⟩,e1⟩: ∃x,(pendingOf st)[i]?=some x:=⟨_,mT (by lia)⟩
 obtain⟨⟨sb,nb,dH⟩,e2⟩: ∃x,(pendingOf st)[i+1]?=some x:=⟨_,mT hi⟩
 have f1:(pendingOf st).toList[i]?=some (sa,na,pw):=by simpa using e1
 have f2:(pendingOf st).toList[i+1]?=some (sb,nb,dH):=by simpa using e2
 have hl:(pendingOf st).toList.length=(pendingOf st).size:=by simp
 have cut:(pendingOf st).toList=(pendingOf st).toList.take i++((sa,na,pw)::(sb,nb,dH)::(pendingOf st).toList.drop (i+2)):=by
  have a1:(pendingOf st).toList.drop i=(sa,na,pw)::(pendingOf st).toList.drop (i+1):=by
   rw[sO (by lia)];rw[jb (by lia)] at f1;rw[iO f1]
  have a2:(pendingOf st).toList.drop (i+1)=(sb,nb,dH)::(pendingOf st).toList.drop (i+2):=by
   rw[sO (by lia)];rw[jb (by lia)] at f2;rw[iO f2]
  rw[<-a2,<-a1,lW]
 rw[cut] at ch;obtain⟨c,c1,c2⟩:=Chain.append.mp ch;obtain⟨rfl,r1,rfl,r2,c3⟩:=c2;have le3:=Chain.le c3;refine Np W H R e1 e2 rfl (by lia) r1 r2 fun b8 p' R' ep rn et ed=>?_
 have lst:(pendingOf b8).toList=(pendingOf st).toList.take i++((sa,na+nb,pw)::(pendingOf st).toList.drop (i+2)):=by
  rw[ep];have hx:i+1<((pendingOf st).setIfInBounds i (sa,na+nb,pw)).size:=by simpa using hi
  rw[Array.eraseIdxIfInBounds,dif_pos hx]
  have: ∀(l:List (Nat×Nat×Nat)) (z:Nat×Nat×Nat),i+1<l.length->(l.set i z).eraseIdx (i+1)=l.take i++(z::l.drop (i+2)):=fun l z hz=>by
   rw[List.eraseIdx_eq_take_drop_succ];rw[show i+1+1=i+2 from rfl,Im (by lia),AL,Io (ip _),qo (by lia)];simp
  have q:=this (pendingOf st).toList (sa,na+nb,pw) (by lia);simpa using q
 refine h b8 p' R' ?_ ?_ ?_
 ·rw[lst];refine Chain.append.mpr ⟨sa,Chain.take et c1 (ip _),rfl,rn,?_⟩;rw[<-Nat.add_assoc];exact Chain.drop ed c3 (by lia)
 ·have:=rW List.length lst;simp only[jo,kZ,nW,jO,qy] at this
  lia
 ·have q: ∀X:List Nat,X.drop lo=(X.drop (sa+(na+nb))).drop (lo-(sa+(na+nb))):=fun X=>by rw[oN];congr 1;lia
  rw[q,q p.toList,ed]
theorem G2{p p':jy}{lo:Nat}(hs:p'.size=p.size)(h: ∀k,k<lo->P p' k=P p k):p'.toList.take lo=p.toList.take lo:=by
 apply xf;intro k;rw[List.getElem?_take,List.getElem?_take];split
 ·rename_i hk;by_cases hz:k<p.size
  ·have a:=wm (p:=p) hz;have b:=wm (p:=p') (by rw[hs];exact hz);have a':p.toList[k]?=some (P p k):=by simpa using a
   have b':p'.toList[k]?=some (P p' k):=by simpa using b
   rw[a',b',h k hk]
  ·rw[AV (by simp;lia),AV (by simp;lia)]
 ·rfl
theorem GC{p p':jy}{lo n:Nat}(hs:p'.size=p.size)(e:p'.toList.drop lo=p.toList.drop lo)(h: ∀k,lo+n<=k->k<p.size->P p k=k): ∀k,lo+n<=k->k<p'.size->P p' k=k:=fun k k1 k2=>by
 have a:=wm (p:=p) (i:=k) (by lia);have b:=wm (p:=p') k2;have a':p.toList[k]?=some (P p k):=by simpa using a
 have b':p'.toList[k]?=some (P p' k):=by simpa using b
 have q: ∀X:List Nat,X[k]?=(X.drop lo)[k-lo]?:=fun X=>by rw[vd,show lo+(k-lo)=k by lia]
 rw[q,e,<-q,a'] at b';rw[<-iO b'];exact h k k1 (by lia)
theorem MA{c:Prop}[Decidable c]{a b m:Nat}(ha:a<=m)(hb:b<=m):(if c then a else b)<=m:=by
 by_cases h:c
 ·rw[gD h];exact ha
 ·rw[gF h];exact hb
structure Mid(it:nB)(lt:lJ)(κ:SortKind)(N lo:Nat)(st:iT)(p:jy):Prop where
 R:Rp it κ N st p
 ch:Chain lt p.toList 0 (pendingOf st).toList lo
 le:lo<=N
 fx: ∀k,lo<=k->k<N->P p k=k
structure Mid2(it:nB)(lt:lJ)(κ:SortKind)(N lo n:Nat)(st:iT)(p:jy):Prop where
 R:Rp it κ N st p
 ch:Chain lt p.toList 0 (pendingOf st).toList lo
 le:lo+n<=N
 fx: ∀k,lo+n<=k->k<N->P p k=k
 rn:Run lt p.toList lo n
theorem Mid2.of{lo n:Nat}{bD st:iT}{p0 p:jy}(M:Mid it lt κ N lo bD p0)(R:Rp it κ N st p)(e:pendingOf st=pendingOf bD)(h1:1<=n)(h2:lo+n<=N)(f: ∀k,k<lo->P p k=P p0 k)(fx: ∀k,lo+n<=k->k<N->P p k=k)(rg:Reg p lo (lo+n))(up:Up lt p lo (lo+n)):Mid2 it lt κ N lo n st p:=by
 have hz:lo+n<=p.size:=by rw[R.size];exact h2
 refine⟨R,?_,h2,fx,h1,(Nu hz).mp up,(LA hz lo (lo+n)).mp rg⟩;rw[e];exact Chain.take (G2 (by rw[R.size,M.R.size]) f) M.ch (ip _)
theorem Mid2.push{lo n pw:Nat}{st:iT}{p:jy}(M:Mid2 it lt κ N lo n st p):Mid it lt κ N (lo+n) (setPending st ((pendingOf st).push (lo,n,pw))) p:=by
 refine⟨⟨M.R.arr,M.R.kind,M.R.ok,M.R.size,M.R.perm⟩,?_,M.le,M.fx⟩;show Chain lt p.toList 0 ((pendingOf st).push (lo,n,pw)).toList (lo+n);rw[Array.toList_push];exact Chain.append.mpr ⟨lo,M.ch,rfl,M.rn,rfl⟩
theorem Dq{L:iF}{f:Nat×Nat×Nat->Nat×Nat×Nat}(hf: ∀x,(f x).1=x.1/\(f x).2.1=x.2.1): ∀{l:List (Nat×Nat×Nat)} {a b:Nat} (i:Nat),Chain lt L a l b->Chain lt L a (l.modify i f) b
 |[],a,b,i,h=>by cases i<;>exact h
 |(s,n,x)::r,a,b,0,h=>by
  obtain⟨h1,h2,h3⟩:=h;have e:=hf (s,n,x);show Chain lt L a (f (s,n,x)::r) b;rcases hq:f (s,n,x) with⟨s',n',x'⟩
  rw[hq] at e;obtain⟨rfl,rfl⟩:=e;exact⟨h1,h2,h3⟩
 |(s,n,x)::r,a,b,i+1,h=>by
  obtain⟨h1,h2,h3⟩:=h;exact⟨h1,h2,Dq hf i h3⟩
theorem Mid2.pw{lo n pw i:Nat}{st:iT}{p:jy}(M:Mid2 it lt κ N lo n st p):Mid2 it lt κ N lo n (setPending st ((pendingOf st).modify i fun x=>(x.fst,x.2.fst,pw))) p:=by
 refine⟨⟨M.R.arr,M.R.kind,M.R.ok,M.R.size,M.R.perm⟩,?_,M.le,M.fx,M.rn⟩;show Chain lt p.toList 0 ((pendingOf st).modify i fun x=>(x.fst,x.2.fst,pw)).toList lo;rw[Array.toList_modify];exact Dq (f:=fun x=>(x.fst,x.2.fst,pw)) (fun x=>⟨rfl,rfl⟩) i M.ch
theorem IK(W:Wk lt)(H:Ask prog w A E G it κ N lt)(h2:1<=N){st:iT}{p:jy}(R:Rp it κ N st p)(e0:pendingOf st= #[])(fx0: ∀k,k<N->P p k=k){Q:Unit->SortSt->Prop}
  (h: ∀b8 p',Rp it κ N b8 p'->p'.toList.Pairwise (SL lt)->Q () b8):wpI (model prog w) A E G sortRuns' Q st:=by
 rw[sortRuns'_eq];refine gx (ly ?_);dsimp only;have hz:(arrOf st).size=N:=by rw[R.arr,Array.size_map,R.size]
 rw[hz];generalize hmr:minRun' N N 0=mr;have m0:Mid it lt κ N 0 st p:=⟨R,by rw[e0];rfl,lY _,fun k _ k2=>fx0 k k2⟩
 refine gx (iP (iX (I:=fun x c b8=> ∃lo p',c=(none,lo)/\x<=lo/\Mid it lt κ N lo b8 p') (Q:=fun c b8=> ∃p',c=(none,N)/\Mid it lt κ N N b8 p') ?step ?fin ⟨0,p,rfl,ip _,m0⟩) ?post)
 case fin=>
  rintro c b8 ⟨lo,p',rfl,hx,M⟩;have:=M.le;have:lo=N:=by lia
  subst this;exact⟨p',rfl,M⟩
 case step=>
  rintro x c b8 _ hx ⟨lo,p',rfl,hlo,M⟩;dsimp only;by_cases fS:lo>=N
  ·rw[gD fS];have:=M.le;have:lo=N:=by lia
   subst this;exact gy ⟨p',rfl,M⟩
  ·rw[gF fS];refine gx (GY W H (by lia) (by lia) M.R M.fx fun n g8 p2 R2 e2 n1 n2 f2 fx2 rg2 up2=>?_);dsimp only;by_cases i6:n<mr
   ·rw[gD i6];refine gx (oS (gx (Lr W H n1 (by lia) (by lia) R2 fx2 rg2 up2 fun k0 p3 R3 e3 f3 fx3 rg3 up3=>?_)));simp only[lX,iM,ja];have M3:Mid2 it lt κ N lo (min (N-lo) mr) k0 p3:=Mid2.of M R3 (e3.trans e2) (by lia) (by lia) (fun k hk=>(f3 k hk).trans (f2 k hk)) fx3 rg3 up3;have hn1:1<=min (N-lo) mr:=by lia
    generalize min (N-lo) mr=n' at*;refine gx (ly ?_)
    cases hb:(pendingOf k0).back? with
    |none=>
     dsimp only;exact gx (jV (gy ⟨lo+n',p3,rfl,by lia,M3.push⟩))
    |some x1=>
     obtain⟨s1,m1,y1⟩:=x1;dsimp only;generalize power' N (2*s1+m1) (2*s1+m1+m1+n') N=pw;refine gx (iP (iX (I:=fun x c v7=>c=(none,())/\ ∃p4,Mid2 it lt κ N lo n' v7 p4) (Q:=fun c v7=>c=(none,())/\ ∃p4,Mid2 it lt κ N lo n' v7 p4) ?_ (fun _ _ q=>q) ⟨rfl,p3,M3⟩) ?_)
     ·rintro y c v7 _ _ ⟨rfl,p4,M4⟩;refine gx (ly ?_);by_cases h1:(pendingOf v7).size>1
      ·rw[gD h1]
       cases hc:(pendingOf v7)[(pendingOf v7).size-2]? with
       |none=>dsimp only;exact gy ⟨rfl,p4,M4⟩
       |some z=>
        obtain⟨z1,z2,ba⟩:=z;dsimp only;by_cases ho:ba<=pw
        ·rw[gD ho];exact gy ⟨rfl,p4,M4⟩
        ·rw[gF ho];refine gx (vB W H M4.R M4.ch (by have:=M4.le;lia) (by lia) fun bN p5 R5 gi _ ef=>?_);simp only[lX,iM,ja];refine gy ⟨rfl,p5,R5,gi,M4.le,?_,xF M4.rn (ip _) ef⟩;have:=GC (p:=p4) (p':=p5) (lo:=lo) (n:=n') (by rw[R5.size,M4.R.size]) ef (by rw[M4.R.size];exact M4.fx);rw[R5.size] at this;exact this
      ·rw[gF h1];dsimp only;exact gy ⟨rfl,p4,M4⟩
     ·rintro c v7 ⟨rfl,p4,M4⟩;dsimp only;exact gx (jV (gx (jV (gy ⟨lo+n',p4,rfl,by lia,(M4.pw).push⟩))))
   ·rw[gF i6];have M3:Mid2 it lt κ N lo n g8 p2:=Mid2.of M R2 e2 n1 (by lia) f2 fx2 rg2 up2;have hn1:=n1;generalize n=n' at*;generalize g8=k0 at*;generalize p2=p3 at*;refine gx (ly ?_)
    cases hb:(pendingOf k0).back? with
    |none=>
     dsimp only;exact gx (jV (gy ⟨lo+n',p3,rfl,by lia,M3.push⟩))
    |some x1=>
     obtain⟨s1,m1,y1⟩:=x1;dsimp only;generalize power' N (2*s1+m1) (2*s1+m1+m1+n') N=pw;refine gx (iP (iX (I:=fun x c v7=>c=(none,())/\ ∃p4,Mid2 it lt κ N lo n' v7 p4) (Q:=fun c v7=>c=(none,())/\ ∃p4,Mid2 it lt κ N lo n' v7 p4) ?_ (fun _ _ q=>q) ⟨rfl,p3,M3⟩) ?_)
     ·rintro y c v7 _ _ ⟨rfl,p4,M4⟩;refine gx (ly ?_);by_cases h1:(pendingOf v7).size>1
      ·rw[gD h1]
       cases hc:(pendingOf v7)[(pendingOf v7).size-2]? with
       |none=>dsimp only;exact gy ⟨rfl,p4,M4⟩
       |some z=>
        obtain⟨z1,z2,ba⟩:=z;dsimp only;by_cases ho:ba<=pw
        ·rw[gD ho];exact gy ⟨rfl,p4,M4⟩
        ·rw[gF ho];refine gx (vB W H M4.R M4.ch (by have:=M4.le;lia) (by lia) fun bN p5 R5 gi _ ef=>?_);simp only[lX,iM,ja];refine gy ⟨rfl,p5,R5,gi,M4.le,?_,xF M4.rn (ip _) ef⟩;have:=GC (p:=p4) (p':=p5) (lo:=lo) (n:=n') (by rw[R5.size,M4.R.size]) ef (by rw[M4.R.size];exact M4.fx);rw[R5.size] at this;exact this
      ·rw[gF h1];dsimp only;exact gy ⟨rfl,p4,M4⟩
     ·rintro c v7 ⟨rfl,p4,M4⟩;dsimp only;exact gx (jV (gx (jV (gy ⟨lo+n',p4,rfl,by lia,(M4.pw).push⟩))))
 case post=>
  rintro c b8 ⟨p',rfl,M⟩;dsimp only;refine gx (iP (iX (I:=fun x c g8=> ∃p2,c=(none,())/\Mid it lt κ N N g8 p2/\(pendingOf g8).size<=max 1 (N-x)) (Q:=fun c g8=> ∃p2,c=(none,())/\Mid it lt κ N N g8 p2/\(pendingOf g8).size<=1) ?step2 ?fin2 ⟨p',rfl,M,?init⟩) ?post2)
  case init=>
   have:=M.ch.le;simp only[jo] at this
   lia
  case fin2=>
   rintro c g8 ⟨p2,rfl,M2,hs⟩;exact⟨p2,rfl,M2,by lia⟩
  case post2=>
   rintro c g8 ⟨p2,rfl,M2,hs⟩;refine gy (h g8 p2 M2.R ?_);have ch:=M2.ch;have hl:p2.toList.length=N:=by simp[M2.R.size]
   match hq:(pendingOf g8).toList,ch with
   |[],ch=>have:0=N:=ch;lia
   |[(s,n,pw)],ch=>
    obtain⟨rfl,r,e⟩:=ch;have e:0+n=N:=e;have:seg p2.toList 0 n=p2.toList:=by unfold seg;rw[wY,sJ (by lia)]
    have q:=r.2.1
    rwa [this] at q
   |_::_::_,ch=>
    have:(pendingOf g8).toList.length<=1:=by simpa using hs
    rw[hq] at this;simp at this
  case step2=>
   rintro x c g8 _ hx ⟨p2,rfl,M2,hs⟩;refine gx (ly ?_);by_cases h1:(pendingOf g8).size<=1
   ·rw[gD h1];exact gy ⟨p2,rfl,M2,h1⟩
   ·rw[gF h1];refine gx (vB W H M2.R M2.ch (ip _) ?_ fun k0 p3 R3 ch3 sz3 dr3=>?_)
    ·exact Nat.lt_of_le_of_lt (Nat.add_le_add_right (MA (m:=(pendingOf g8).size-2) (by lia) (ip _)) 1) (by lia)
    ·simp only[lX,iM,ja];exact gy ⟨p3,rfl,⟨R3,ch3,ip _,fun k k1 k2=>by lia⟩,by lia⟩
end
end TS
namespace PX
open PySem PySem.Spec PyProof.Rows L2 PySem.SeqAt
open PySem.AutoSeq1 (wpAny_loadPart')
open PySem.MeetsSeq PySem.MeetsSeq2 PySem.MeetsSeq3
noncomputable def jc(op:CmpOp)(i j:Int):Bool:=match op with
 | .Lt=>decide (i<j)| .LtE=>decide (i<=j)| .Gt=>decide (i>j)|_=>decide (i>=j)
def pf(op:CmpOp):Prop:=op= .Lt\/op= .LtE\/op= .Gt\/op= .GtE
def MT(op:CmpOp)(A:gW)(s:gA)(y x:gL)(b:Bool):Prop:= ∀(prog:hG) (w:gS) (E:hV) (Q:hV),Q (.bool b) s->wpAny (model prog w) A (richCompare op y x) Q E s
def yL(op:CmpOp)(A:gW)(s:gA)(fin:Bool):List (Value×Value)->Bool->Prop
 |[],r=>r=fin
 |(y,x)::ie,r=> ∃e,EqAt A s y x e/\(if e=true then yL op A s fin ie r else MT op A s y x r)
theorem IY(l b:gv)(items c9:jW)(n n2:Nat)(dd w9:Option Addr)(sl v9:vU)(r:Bool):
  Meets (Builtin.«tuple.__lt__» ⟨[.ref l,.ref b],[]⟩) (fun A R s=>s.heap.get? l=some {cls:= .type "tuple",dict:=dd,data:= .seq items n,slots:=sl}/\s.heap.get? b=some {cls:= .type "tuple",dict:=w9,data:= .seq c9 n2,slots:=v9}/\
   yL .Lt A.in1 s (jc .Lt items.size c9.size) (items.toList.zip c9.toList) r/\R (.ok (.ret (.bool r))) s):=
 .of_wp fun prog w A R s h=>by
  obtain⟨hp,g,d,tk,os⟩:=s;obtain⟨hl,hb,hx,h⟩:=h;have f2:=AJ
  wp_walk using wpAny_loadPart' hl,wpAny_loadPart' hb,pk _ (fun ie b s'=>b.1=none/\s'=⟨hp,g,d,tk,os⟩/\yL .Lt A.in1 ⟨hp,g,d,tk,os⟩ (jc .Lt items.size c9.size) ie r) _
  case turn=>
   rintro⟨y,x⟩ ie b s' ⟨u3,rfl,e,he,hx⟩;refine gw (he prog w _ _ ?_)
   cases e with
   |true=>
    simp only[iH] at hx
    wp_walk
    exact⟨rfl,rfl,hx⟩
   |false=>
    simp only[iM,ja] at hx;have cK:=hx prog w
    wp_walk using cK
    exact⟨_,rfl,by simpa using h⟩
  case fin=>
   rintro⟨b1,b2⟩ s' ⟨u3,rfl,hx⟩;simp only at u3;subst u3;have hx:r=jc .Lt items.size c9.size:=hx;rw[hx] at h
   wp_walk
   exact⟨_,rfl,by simpa[Builtin.Tuple.tupleCompareSizes,jc] using h⟩
  case h=>exact⟨rfl,rfl,hx⟩
theorem IZ(l b:gv)(items c9:jW)(n n2:Nat)(dd w9:Option Addr)(sl v9:vU)(r:Bool):
  Meets (Builtin.«tuple.__le__» ⟨[.ref l,.ref b],[]⟩) (fun A R s=>s.heap.get? l=some {cls:= .type "tuple",dict:=dd,data:= .seq items n,slots:=sl}/\s.heap.get? b=some {cls:= .type "tuple",dict:=w9,data:= .seq c9 n2,slots:=v9}/\
   yL .LtE A.in1 s (jc .LtE items.size c9.size) (items.toList.zip c9.toList) r/\R (.ok (.ret (.bool r))) s):=
 .of_wp fun prog w A R s h=>by
  obtain⟨hp,g,d,tk,os⟩:=s;obtain⟨hl,hb,hx,h⟩:=h;have f2:=AJ
  wp_walk using wpAny_loadPart' hl,wpAny_loadPart' hb,pk _ (fun ie b s'=>b.1=none/\s'=⟨hp,g,d,tk,os⟩/\yL .LtE A.in1 ⟨hp,g,d,tk,os⟩ (jc .LtE items.size c9.size) ie r) _
  case turn=>
   rintro⟨y,x⟩ ie b s' ⟨u3,rfl,e,he,hx⟩;refine gw (he prog w _ _ ?_)
   cases e with
   |true=>
    simp only[iH] at hx
    wp_walk
    exact⟨rfl,rfl,hx⟩
   |false=>
    simp only[iM,ja] at hx;have cK:=hx prog w
    wp_walk using cK
    exact⟨_,rfl,by simpa using h⟩
  case fin=>
   rintro⟨b1,b2⟩ s' ⟨u3,rfl,hx⟩;simp only at u3;subst u3;have hx:r=jc .LtE items.size c9.size:=hx;rw[hx] at h
   wp_walk
   exact⟨_,rfl,by simpa[Builtin.Tuple.tupleCompareSizes,jc] using h⟩
  case h=>exact⟨rfl,rfl,hx⟩
theorem I9(l b:gv)(items c9:jW)(n n2:Nat)(dd w9:Option Addr)(sl v9:vU)(r:Bool):
  Meets (Builtin.«tuple.__gt__» ⟨[.ref l,.ref b],[]⟩) (fun A R s=>s.heap.get? l=some {cls:= .type "tuple",dict:=dd,data:= .seq items n,slots:=sl}/\s.heap.get? b=some {cls:= .type "tuple",dict:=w9,data:= .seq c9 n2,slots:=v9}/\
   yL .Gt A.in1 s (jc .Gt items.size c9.size) (items.toList.zip c9.toList) r/\R (.ok (.ret (.bool r))) s):=
 .of_wp fun prog w A R s h=>by
  obtain⟨hp,g,d,tk,os⟩:=s;obtain⟨hl,hb,hx,h⟩:=h;have f2:=AJ
  wp_walk using wpAny_loadPart' hl,wpAny_loadPart' hb,pk _ (fun ie b s'=>b.1=none/\s'=⟨hp,g,d,tk,os⟩/\yL .Gt A.in1 ⟨hp,g,d,tk,os⟩ (jc .Gt items.size c9.size) ie r) _
  case turn=>
   rintro⟨y,x⟩ ie b s' ⟨u3,rfl,e,he,hx⟩;refine gw (he prog w _ _ ?_)
   cases e with
   |true=>
    simp only[iH] at hx
    wp_walk
    exact⟨rfl,rfl,hx⟩
   |false=>
    simp only[iM,ja] at hx;have cK:=hx prog w
    wp_walk using cK
    exact⟨_,rfl,by simpa using h⟩
  case fin=>
   rintro⟨b1,b2⟩ s' ⟨u3,rfl,hx⟩;simp only at u3;subst u3;have hx:r=jc .Gt items.size c9.size:=hx;rw[hx] at h
   wp_walk
   exact⟨_,rfl,by simpa[Builtin.Tuple.tupleCompareSizes,jc] using h⟩
  case h=>exact⟨rfl,rfl,hx⟩
theorem Ja(l b:gv)(items c9:jW)(n n2:Nat)(dd w9:Option Addr)(sl v9:vU)(r:Bool):
  Meets (Builtin.«tuple.__ge__» ⟨[.ref l,.ref b],[]⟩) (fun A R s=>s.heap.get? l=some {cls:= .type "tuple",dict:=dd,data:= .seq items n,slots:=sl}/\s.heap.get? b=some {cls:= .type "tuple",dict:=w9,data:= .seq c9 n2,slots:=v9}/\
   yL .GtE A.in1 s (jc .GtE items.size c9.size) (items.toList.zip c9.toList) r/\R (.ok (.ret (.bool r))) s):=
 .of_wp fun prog w A R s h=>by
  obtain⟨hp,g,d,tk,os⟩:=s;obtain⟨hl,hb,hx,h⟩:=h;have f2:=AJ
  wp_walk using wpAny_loadPart' hl,wpAny_loadPart' hb,pk _ (fun ie b s'=>b.1=none/\s'=⟨hp,g,d,tk,os⟩/\yL .GtE A.in1 ⟨hp,g,d,tk,os⟩ (jc .GtE items.size c9.size) ie r) _
  case turn=>
   rintro⟨y,x⟩ ie b s' ⟨u3,rfl,e,he,hx⟩;refine gw (he prog w _ _ ?_)
   cases e with
   |true=>
    simp only[iH] at hx
    wp_walk
    exact⟨rfl,rfl,hx⟩
   |false=>
    simp only[iM,ja] at hx;have cK:=hx prog w
    wp_walk using cK
    exact⟨_,rfl,by simpa using h⟩
  case fin=>
   rintro⟨b1,b2⟩ s' ⟨u3,rfl,hx⟩;simp only at u3;subst u3;have hx:r=jc .GtE items.size c9.size:=hx;rw[hx] at h
   wp_walk
   exact⟨_,rfl,by simpa[Builtin.Tuple.tupleCompareSizes,jc] using h⟩
  case h=>exact⟨rfl,rfl,hx⟩
section
variable {A:gW}{s:gA}{l b:gv}{items c9:jW}{r:Bool}
theorem Jp{op:CmpOp}(ho:pf op)(hl:s.heap.IsTuple l items)(hb:s.heap.IsTuple b c9)(hu:A.units<cLine)(hx:yL op A.in1 s (jc op items.size c9.size) (items.toList.zip c9.toList) r):MT op A s (.ref l) (.ref b) r:=fun prog w E Q h=>by
 obtain⟨⟨cls,dd,data,sl⟩,w6,hc,n,hd⟩:=id hl;obtain⟨⟨cZ,w9,data2,v9⟩,u6,aM,n2,hd2⟩:=id hb;simp only at hc hd aM hd2;subst hc hd aM hd2;rcases ho with rfl|rfl|rfl|rfl
 ·exact AI (op:= .Lt) ⟨_,w6,rfl⟩ ⟨_,u6,rfl⟩ PySem.F.slot_tuple_lt PySem.F.entry_tuple_lt (PySem.F.args_tuple_lt_2 _ _) (IY l b items c9 n n2 dd w9 sl v9 r) ⟨w6,u6,hx,show Value.bool r≠Value.notImplemented/\Q (.bool r) s from⟨(fun x=>nomatch x),h⟩⟩ hu
 ·exact AI (op:= .LtE) ⟨_,w6,rfl⟩ ⟨_,u6,rfl⟩ PySem.F.slot_tuple_le PySem.F.entry_tuple_le (PySem.F.args_tuple_le_2 _ _) (IZ l b items c9 n n2 dd w9 sl v9 r) ⟨w6,u6,hx,show Value.bool r≠Value.notImplemented/\Q (.bool r) s from⟨(fun x=>nomatch x),h⟩⟩ hu
 ·exact AI (op:= .Gt) ⟨_,w6,rfl⟩ ⟨_,u6,rfl⟩ PySem.F.slot_tuple_gt PySem.F.entry_tuple_gt (PySem.F.args_tuple_gt_2 _ _) (I9 l b items c9 n n2 dd w9 sl v9 r) ⟨w6,u6,hx,show Value.bool r≠Value.notImplemented/\Q (.bool r) s from⟨(fun x=>nomatch x),h⟩⟩ hu
 ·exact AI (op:= .GtE) ⟨_,w6,rfl⟩ ⟨_,u6,rfl⟩ PySem.F.slot_tuple_ge PySem.F.entry_tuple_ge (PySem.F.args_tuple_ge_2 _ _) (Ja l b items c9 n n2 dd w9 sl v9 r) ⟨w6,u6,hx,show Value.bool r≠Value.notImplemented/\Q (.bool r) s from⟨(fun x=>nomatch x),h⟩⟩ hu
end
mutual
noncomputable def kX(op:CmpOp):D->D->Option Bool
 | .int i,.int j=>some (jc op i j)
 | .tup l,.tup m=>lF op l m
 |_,_=>none
noncomputable def lF(op:CmpOp):List D->List D->Option Bool
 |[],m=>some (jc op 0 m.length)
 |x::l,[]=>some (jc op ((x::l).length) 0)
 |x::l,y::m=>if D.eqb x y=true then lF op l m else kX op x y
end
theorem pH(op:CmpOp)(a b k:Int):jc op (a+k) (b+k)=jc op a b:=by
 cases op<;>simp[jc]
section
variable {X:Cx}{pins:ik}{σ:L2.St}{H:Hp}{s:gA}
theorem CH{op:CmpOp}(ho:pf op){A:gW}{i j:Int}{t u:Tok}:MT op A s (.int i t) (.int j u) (jc op i j):=fun prog w E Q h=>by
 rcases ho with rfl|rfl|rfl|rfl
 ·exact(PyProof.Rows.lt_int h:wpAny (model prog w) A (compareOp .Lt _ _) Q E s)
 ·exact(PyProof.Rows.le_int h:wpAny (model prog w) A (compareOp .LtE _ _) Q E s)
 ·exact(PyProof.Rows.gt_int h:wpAny (model prog w) A (compareOp .Gt _ _) Q E s)
 ·exact(PyProof.Rows.ge_int h:wpAny (model prog w) A (compareOp .GtE _ _) Q E s)
theorem Jq{op:CmpOp}(ho:pf op)(I:Inv X pins σ H s): ∀(n:Nat) (d e:D) (v u:V) (a b:gL) (O O':AP') (A:gW) (r:Bool),jh X.K H O d v->jh X.K H O' e u->RelV v a->RelV u b->d.dep<=n->e.dep<20000->A.units+n<cLine->kX op d e=some r->MT op A s a b r:=by
 intro n
 induction n with
 |zero=>
  intro d e v u a b O O' A r hd he ra rb hn u9 hA hc
  cases d with
  |int i=>
   cases e with
   |int j=>
    have:=hJ hd;subst this;have:=hJ he;subst this;obtain⟨t,rfl⟩:=ra;obtain⟨t',rfl⟩:=rb;rw[kX] at hc;rw[<-iO hc];exact CH ho
   |_=>rw[kX] at hc<;>first|cases hc|(intros;simp_all)
  |tup l=>rw[D.dep] at hn;lia
  |_=>rw[kX] at hc<;>first|cases hc|(intros;simp_all)
 |succ n ih=>
  intro d e v u a b O O' A r hd he ra rb hn u9 hA hc
  cases d with
  |int i=>
   cases e with
   |int j=>
    have:=hJ hd;subst this;have:=hJ he;subst this;obtain⟨t,rfl⟩:=ra;obtain⟨t',rfl⟩:=rb;rw[kX] at hc;rw[<-iO hc];exact CH ho
   |_=>rw[kX] at hc<;>first|cases hc|(intros;simp_all)
  |tup l=>
   cases e with
   |tup m=>
    rw[kX] at hc;rw[D.dep] at hn u9;obtain⟨p,xs,rfl,q,r1⟩:=lu hd;obtain⟨p2,ys,rfl,q2,r2⟩:=lu he;cases ra;cases rb;obtain⟨b6,v1,pl,_⟩:=I.tuple q;obtain⟨c8,v2,e9,_⟩:=I.tuple q2;have m8:A.in1.units=A.units+1:=rfl
    have key: ∀(l m:List D) (xs ys:List V) (b6 c8:iL) (k:Int),D.depL l+1<=n+1->D.depL m<20000->RepL X.K H O l xs->RepL X.K H O' m ys->Vals xs b6->Vals ys c8->lF op l m=some r->yL op A.in1 s (jc op (b6.length+k) (c8.length+k)) (b6.zip c8) r:=by
     intro l
     induction l with
     |nil=>
      intro m xs ys b6 c8 k aL aS r1 r2 v1 v2 hc;rw[RepL] at r1;subst r1;cases v1;rw[lF] at hc;have e1:=r2.length;have e2:=v2.length;show r=_;rw[pH,<-iO hc]
      congr 1
      lia
     |cons x l ihl=>
      intro m xs ys b6 c8 k aL aS r1 r2 v1 v2 hc;rw[RepL] at r1;obtain⟨vx,xr,rfl,g1,g2⟩:=r1
      cases v1 with
      |cons a1 a2=>
       cases m with
       |nil=>
        rw[RepL] at r2;subst r2;cases v2;rw[lF] at hc;have e1:=g2.length;have e2:=a2.length;rw[List.zip_nil_right];show r=_;rw[pH,<-iO hc]
        congr 1
        simp only[jO];lia
       |cons y m=>
        rw[RepL] at r2;obtain⟨vy,yr,rfl,g3,g4⟩:=r2
        cases v2 with
        |cons b1 b2=>
         rw[lF] at hc;rw[D.depL] at aL aS;rw[sD];refine⟨D.eqb x y,yq I n x y vx vy _ _ O O' A.in1 (.inl g1) (.inl g3) a1 b1 (by lia) (by lia) (by rw[m8];lia),?_⟩
         cases hq:D.eqb x y with
         |true=>
          rw[hq,gD rfl] at hc;rw[gD rfl];have:=ihl m xr yr _ _ (k+1) (by lia) (by lia) g2 g4 a2 b2 hc;simp only[jO];have e: ∀a:Nat,(((a+1:Nat):Int)+k)=(a:Int)+(k+1):=fun a=>by lia
          rw[e,e];exact this
         |false=>
          rw[hq,gF jB] at hc;rw[gF jB];exact ih x y vx vy _ _ O O' A.in1 r (.inl g1) (.inl g3) a1 b1 (by lia) (by lia) (by rw[m8];lia) hc
    have:=key l m xs ys b6 c8 0 (by lia) (by lia) r1 r2 v1 v2 hc;refine Jp ho pl e9 (by lia) ?_;simpa using this
   |_=>rw[kX] at hc<;>first|cases hc|(intros;simp_all)
  |_=>rw[kX] at hc<;>first|cases hc|(intros;simp_all)
def jM(op:CmpOp)(d e:D):Option (D×Bool):=if d.dep<=50/\e.dep<=50 then(kX op d e).map fun b=>(.bl b,false) else none
theorem kD{op:CmpOp}(ho:pf op)(hu:X.A.units+60<cLine):OpR X (compareOp op) (rD X.K (jM op)):=by
 intro pins s σ H x y v u Q I rx ry h;obtain⟨O,d,e,z,np,h1,h2,hg,G⟩:=h;unfold jM at hg;split at hg
 ·rename_i hd;obtain⟨r,hr,rfl⟩:=jf hg;have:=Jq ho I 50 d e x y v u O O X.A r h1 h2 rx ry hd.1 (by lia) (by lia) hr X.prog X.w X.xe (EP X pins σ Q) ⟨.bl r,H,I,rfl,G.bl⟩;rcases ho with rfl|rfl|rfl|rfl<;>exact this
 ·cases hg
end
open TS
section
variable {prog:hG}{w:gS}{A:gW}{E:hV}{s:gA}
def pW(h:gU)(a:gv)(vs:iL):Heap:=((h.update a (Obj.mapSeq fun _=> #[])).push (seqObj "tuple" vs.toArray 0)).push (seqObj "list" #[] 0)
def HA(vs:iL)(i:Nat):Keyed:=(vs.getD i Value.none,vs.getD i Value.none)
theorem se{a:gv}{vs:iL}{n:Nat}{P:PySem.Fin->Shared->Prop}{κ:SortKind}{lt:lJ}(ho:s.heap.get? a=some (seqObj "list" vs.toArray n))(hz:vs.length<=sizeLine)(W:Wk lt)
  (hk:2<=vs.length->wpAny (model prog w) A (keyKind' vs.toArray) (fun κ' s'=>s'={s with heap:=pW s.heap a vs}/\κ'=κ) (fun _ _=>False) {s with heap:=pW s.heap a vs})
  (ask:2<=vs.length->Ask prog w A E (fun s'=>s'={s with heap:=pW s.heap a vs}) (HA vs) κ vs.length lt)
  (h: ∀p:List Nat,p.Perm (List.range vs.length)->p.Pairwise (SL lt)->P (.done (.ret .none)) {s with heap:=(pW s.heap a vs).update a (Obj.mapSeq fun _=>(p.map fun i=>vs.getD i Value.none).toArray)}):
  wpAny (model prog w) A (Builtin.«list.sort» ⟨[.ref a],[]⟩) P E s:=by
 rw[list_sort_plain];have ha:a<s.heap.objs.size:=iq ho;refine gw (listItems_at ho rfl (gw (DU ho rfl ?_ (by rw[iw];exact hz) (lY _))));obtain⟨e1,w6⟩: ∃e1,(s.heap.update a (Obj.mapSeq fun _=>(#[]:Array Value))).get? a=some (seqObj "list" #[] e1):=⟨_,DT ho fun _=> #[]⟩
 refine gw (DS w6 rfl (gw (wpAny_newTuple ?_ (by show vs.length<=_;exact hz))));refine gw (wpAny_newList ?_ (lY _));refine mX ?_;have eQ:(pW s.heap a vs).get? a=some (seqObj "list" #[] e1):=iz _ (iz _ w6);show wpAny (model prog w) A _ P E {s with heap:=pW s.heap a vs};dsimp only;by_cases h2:vs.toArray.size<2
 ·rw[gD h2,gD h2];refine gw (gK ?_);rw[StateT.run_pure];refine gw (gK ?_);dsimp only;refine gw (DS eQ rfl (gw (DU eQ rfl ?_ (lY _) ?_)))
  ·simp only[uh,iM,ja];refine gK ?_;have cv:vs.length<2:=by simpa using h2
   have:=h (List.range vs.length) (sL _) (by
    rw[FU];intro i j hi hj u2;simp at hi hj;lia)
   have e:((vs.toArray.zip vs.toArray).map (·.2))=((List.range vs.length).map fun i=>vs.getD i Value.none).toArray:=by
    apply Array.ext
    ·simp
    ·intro i h1 h3;have hi:i<vs.length:=by simpa using h1
     simp[hi]
   rw[e];exact this
  ·rw[Array.size_map,Array.size_zip];simp;lia
 ·rw[gF h2,gF h2];have cv:2<=vs.length:=by simpa using h2
  refine gw (pU (hk cv) (fun κ' s' hκ=>?_) fun _ _ x=>x.elim);obtain⟨rfl,rfl⟩:=hκ
  have R:Rp (HA vs) κ' vs.length (SortSt.mk' κ' (vs.toArray.zip vs.toArray) #[] 7 none) (Array.range vs.length):=by
   refine⟨?_,rfl,rfl,by simp,Array.Perm.refl _⟩;show vs.toArray.zip vs.toArray=_;apply Array.ext
   ·simp
   ·intro i h1 h3;have hi:i<vs.length:=by simpa using h1
    simp[HA,hi]
  refine gw (pU (IK (lt:=lt) W (ask cv) (by lia) R rfl (fun k hk=>by simp[TS.P,hk]) (Q:=fun _ b8=> ∃p',Rp (HA vs) κ' vs.length b8 p'/\p'.toList.Pairwise (SL lt)) (fun b8 p' R' hp=>⟨p',R',hp⟩) _ rfl) ?_ fun _ _ e=>e);rintro⟨⟨⟩,b8⟩ s' ⟨rfl,p',R',hp⟩;dsimp only;have aP:failedOf b8=none:=R'.ok
  have out:(arrOf b8).map (·.2)=(p'.toList.map fun i=>vs.getD i Value.none).toArray:=by
   rw[R'.arr,Array.map_map];apply Array.toList_inj.mp;simp[HA]
  have pl:p'.toList.length=vs.length:=by simp[R'.size]
  refine gw (DS eQ rfl (gw (DU eQ rfl ?_ (lY _) ?_)))
  ·rw[aP];simp only[uh,iM,ja];rw[out];refine gK (h p'.toList ?_ hp);have:=MV.mp R'.perm;simpa using this
  ·rw[out,iw,jw,pl];lia
end
mutual
def cT:D->D->Ordering
 | .int i,.int j=>if i<j then .lt else if i=j then .eq else .gt
 | .int _,_=> .lt
 | .tup _,.int _=> .gt
 | .tup l,.tup m=>cL l m
 | .tup _,_=> .lt
 |_,.int _=> .gt
 |_,.tup _=> .gt
 |_,_=> .eq
def cL:List D->List D->Ordering
 |[],[]=> .eq
 |[],_::_=> .lt
 |_::_,[]=> .gt
 |x::l,y::m=>match cT x y with
  | .lt=> .lt
  | .gt=> .gt
  | .eq=>cL l m
end
mutual
theorem BR: ∀x:D,cT x x= .eq
 | .int i=>by simp[cT]
 | .tup l=>by rw[cT];exact GP l
 | .non=>by simp[cT]
 | .bl _=>by simp[cT]
 | .str _=>by simp[cT]
 | .lst _=>by simp[cT]
 | .oth _ _ _=>by simp[cT]
theorem GP: ∀l:List D,cL l l= .eq
 |[]=>by simp[cL]
 |x::l=>by rw[cL,BR x];exact GP l
end
mutual
theorem kI: ∀x y:D,cT y x=(cT x y).swap
 | .int i,.int j=>by
  rw[cT,cT];by_cases h1:i<j
  ·rw[gD h1,gF (by lia),gF (by lia)];rfl
  ·rw[gF h1];by_cases h2:i=j
   ·rw[gD h2,gF (by lia),gD h2.symm];rfl
   ·rw[gF h2,gD (by lia)];rfl
 | .tup l,.tup m=>by rw[cT,cT];exact GO l m
 | .int _,.tup _=>by simp[cT]
 | .int _,.non=>by simp[cT]
 | .int _,.bl _=>by simp[cT]
 | .int _,.str _=>by simp[cT]
 | .int _,.lst _=>by simp[cT]
 | .int _,.oth _ _ _=>by simp[cT]
 | .tup _,.int _=>by simp[cT]
 | .tup _,.non=>by simp[cT]
 | .tup _,.bl _=>by simp[cT]
 | .tup _,.str _=>by simp[cT]
 | .tup _,.lst _=>by simp[cT]
 | .tup _,.oth _ _ _=>by simp[cT]
 | .non,y=>by cases y<;>simp[cT]
 | .bl _,y=>by cases y<;>simp[cT]
 | .str _,y=>by cases y<;>simp[cT]
 | .lst _,y=>by cases y<;>simp[cT]
 | .oth _ _ _,y=>by cases y<;>simp[cT]
theorem GO: ∀l m:List D,cL m l=(cL l m).swap
 |[],[]=>by simp[cL]
 |[],_::_=>by simp[cL]
 |_::_,[]=>by simp[cL]
 |x::l,y::m=>by
  rw[cL,cL,kI x y];cases h:cT x y<;>simp[Ordering.swap]
  exact GO l m
end
theorem Nc{x y:D}(h1:cT x y≠ .gt)(h2:cT y x≠ .gt):cT x y= .eq:=by
 rw[kI x y] at h2
 cases h:cT x y with
 |lt=>rw[h] at h2;exact absurd rfl h2
 |eq=>rfl
 |gt=>exact absurd h h1
mutual
theorem qP: ∀x y z:D,cT x y≠ .gt->cT y z≠ .gt->cT x z≠ .gt
 | .int i,y,z,h1,h2=>by
  cases z with
  |int k=>
   cases y with
   |int j=>
    rw[cT] at h1 h2 ⊢
    have a:i<=j:=by
     by_cases a:i<j
     ·lia
     ·rw[gF a] at h1;by_cases b:i=j
      ·lia
      ·rw[gF b] at h1;exact absurd rfl h1
    have b:j<=k:=by
     by_cases a:j<k
     ·lia
     ·rw[gF a] at h2;by_cases b:j=k
      ·lia
      ·rw[gF b] at h2;exact absurd rfl h2
    by_cases c:i<k
    ·rw[gD c];simp
    ·rw[gF c,gD (by lia)];simp
   |_=>simp[cT] at h2
  |_=>simp[cT]
 | .tup l,y,z,h1,h2=>by
  cases y with
  |int j=>simp[cT] at h1
  |tup m=>
   cases z with
   |int k=>simp[cT] at h2
   |tup n=>rw[cT] at h1 h2 ⊢;exact Dt l m n h1 h2
   |_=>simp[cT]
  |_=>cases z<;>simp_all [cT]
 | .non,y,z,h1,h2=>by cases y<;>cases z<;>simp_all [cT]
 | .bl _,y,z,h1,h2=>by cases y<;>cases z<;>simp_all [cT]
 | .str _,y,z,h1,h2=>by cases y<;>cases z<;>simp_all [cT]
 | .lst _,y,z,h1,h2=>by cases y<;>cases z<;>simp_all [cT]
 | .oth _ _ _,y,z,h1,h2=>by cases y<;>cases z<;>simp_all [cT]
 termination_by x y z=>sizeOf x+sizeOf y+sizeOf z
theorem Dt: ∀l m n:List D,cL l m≠ .gt->cL m n≠ .gt->cL l n≠ .gt
 |[],m,n,_,_=>by cases n<;>simp[cL]
 |x::l,[],n,h1,_=>by simp[cL] at h1
 |x::l,y::m,[],_,h2=>by simp[cL] at h2
 |x::l,y::m,z::n,h1,h2=>by
  have a1:cT x y≠ .gt:=fun h=>by rw[cL,h] at h1;exact h1 rfl
  have a2:cT y z≠ .gt:=fun h=>by rw[cL,h] at h2;exact h2 rfl
  have a3:=qP x y z a1 a2;rw[cL]
  cases hxz:cT x z with
  |lt=>simp
  |gt=>exact absurd hxz a3
  |eq=>
   have zx:cT z x≠ .gt:=by rw[kI x z,hxz];simp[Ordering.swap]
   have exy:cT x y= .eq:=Nc a1 (qP y z x a2 zx);have eyz:cT y z= .eq:=Nc a2 (qP z x y zx a1);rw[cL,exy] at h1;rw[cL,eyz] at h2;exact Dt l m n h1 h2
 termination_by l m n=>sizeOf l+sizeOf m+sizeOf n
end
def ltT(x y:D):Bool:=cT x y== .lt
theorem zN{x y:D}:ltT x y=true↔cT x y= .lt:=by simp[ltT]
theorem lI{x y:D}:ltT x y=false↔cT x y≠ .lt:=by simp[ltT]
theorem Nq(f:Nat->D):Wk fun i j=>ltT (f i) (f j):=by
 have key: ∀x y z:D,ltT x z=true->ltT x y=true\/ltT y z=true:=fun x y z h=>by
  cases h1:ltT x y with
  |true=>exact .inl rfl
  |false=>
   cases h2:ltT y z with
   |true=>exact .inr rfl
   |false=>
    exfalso
    have yx:cT y x≠ .gt:=by
     rw[kI x y];intro e;rw[lI] at h1
     cases hc:cT x y with
     |lt=>exact h1 hc
     |eq=>rw[hc] at e;cases e
     |gt=>rw[hc] at e;cases e
    have zy:cT z y≠ .gt:=by
     rw[kI y z];intro e;rw[lI] at h2
     cases hc:cT y z with
     |lt=>exact h2 hc
     |eq=>rw[hc] at e;cases e
     |gt=>rw[hc] at e;cases e
    have:=qP z y x zy yx;rw[kI x z,zN.mp h] at this;exact this rfl
 refine⟨fun i=>by rw[lI,BR];simp,fun i j k h1 h2=>?_,fun i j k h=>key _ _ _ h⟩;rcases key (f i) (f k) (f j) h1 with h|h
 ·exact h
 ·
  rw[zN] at h h2;rw[kI,h] at h2;cases h2
mutual
/-- ints,and tuples of such -/
def D.pr:D->Bool
 | .int _=>true
 | .tup l=>D.prL l
 |_=>false
def D.prL:List D->Bool
 |[]=>true
 |x::l=>D.pr x&&D.prL l
end
mutual
theorem Ft: ∀x y:D,D.pr x=true->D.pr y=true->D.eqb x y=(cT x y== .eq)
 | .int i,.int j,_,_=>by
  rw[D.eqb,cT];by_cases h:i=j
  ·subst h;simp
  ·rw[gF h];by_cases h2:i<j<;>simp[h,h2]
 | .int _,.tup _,_,_=>by simp[D.eqb,cT]
 | .tup _,.int _,_,_=>by simp[D.eqb,cT]
 | .tup l,.tup m,h1,h2=>by rw[D.eqb,cT];rw[D.pr] at h1 h2;exact GG l m h1 h2
 | .non,_,h,_=>by simp[D.pr] at h
 | .bl _,_,h,_=>by simp[D.pr] at h
 | .str _,_,h,_=>by simp[D.pr] at h
 | .lst _,_,h,_=>by simp[D.pr] at h
 | .oth _ _ _,_,h,_=>by simp[D.pr] at h
 |_,.non,_,h=>by simp[D.pr] at h
 |_,.bl _,_,h=>by simp[D.pr] at h
 |_,.str _,_,h=>by simp[D.pr] at h
 |_,.lst _,_,h=>by simp[D.pr] at h
 |_,.oth _ _ _,_,h=>by simp[D.pr] at h
theorem GG: ∀l m:List D,D.prL l=true->D.prL m=true->D.eqbL l m=(cL l m== .eq)
 |[],[],_,_=>by simp[D.eqbL,cL]
 |[],_::_,_,_=>by simp[D.eqbL,cL]
 |_::_,[],_,_=>by simp[D.eqbL,cL]
 |x::l,y::m,h1,h2=>by
  rw[D.prL,jr] at h1 h2;rw[D.eqbL,cL,Ft x y h1.1 h2.1,GG l m h1.2 h2.2];cases cT x y<;>simp
end
mutual
theorem uM: ∀x y:D,D.pr x=true->D.pr y=true-> ∀b,kX .Lt x y=some b->b=ltT x y
 | .int i,.int j,_,_,b,h=>by
  rw[kX] at h;rw[<-iO h,ltT,cT,jc];by_cases h1:i<j
  ·simp[h1]
  ·rw[gF h1];by_cases h2:i=j<;>simp[h1,h2]
 | .int _,.tup _,_,_,b,h=>by simp[kX] at h
 | .tup _,.int _,_,_,b,h=>by simp[kX] at h
 | .tup l,.tup m,h1,h2,b,h=>by
  rw[kX] at h;rw[D.pr] at h1 h2;rw[ltT,cT];exact GJ l m h1 h2 b h
 | .non,_,h,_,_,_=>by simp[D.pr] at h
 | .bl _,_,h,_,_,_=>by simp[D.pr] at h
 | .str _,_,h,_,_,_=>by simp[D.pr] at h
 | .lst _,_,h,_,_,_=>by simp[D.pr] at h
 |_,.non,_,h,_,_=>by simp[D.pr] at h
 |_,.bl _,_,h,_,_=>by simp[D.pr] at h
 |_,.str _,_,h,_,_=>by simp[D.pr] at h
 |_,.lst _,_,h,_,_=>by simp[D.pr] at h
theorem GJ: ∀l m:List D,D.prL l=true->D.prL m=true-> ∀b,lF .Lt l m=some b->b=(cL l m== .lt)
 |[],[],_,_,b,h=>by rw[lF] at h;rw[<-iO h];simp[jc,cL]
 |[],_::_,_,_,b,h=>by rw[lF] at h;rw[<-iO h];simp[jc,cL]<;>lia
 |_::_,[],_,_,b,h=>by rw[lF] at h;rw[<-iO h];simp[jc,cL]<;>lia
 |x::l,y::m,h1,h2,b,h=>by
  rw[D.prL,jr] at h1 h2;rw[lF,Ft x y h1.1 h2.1] at h;rw[cL]
  cases hc:cT x y with
  |eq=>rw[hc] at h;simp at h;exact GJ l m h1.2 h2.2 b h
  |lt=>rw[hc] at h;simp at h;have:=uM x y h1.1 h2.1 b h;rw[this,ltT,hc]
  |gt=>rw[hc] at h;simp at h;have:=uM x y h1.1 h2.1 b h;rw[this,ltT,hc]
end
section
variable {α:Type}(lt:α->α->Bool)
def wA(x:α):List α->List α
 |[]=>[x]
 |y::l=>if lt y x=true then y::wA x l else x::y::l
def mF:List α->List α
 |[]=>[]
 |x::l=>wA lt x (mF l)
theorem rE(x:α): ∀l:List α,(wA lt x l).Perm (x::l)
 |[]=>sL _
 |y::l=>by
  rw[wA];split
  ·exact((rE x l).cons y).trans (List.Perm.swap x y l)
  ·exact sL _
theorem jt: ∀l:List α,(mF lt l).Perm l
 |[]=>sL _
 |x::l=>(rE lt x _).trans ((jt l).cons x)
theorem C5{β:Type}(cf:β->β->Bool)(f:α->β)(x:α): ∀l:List α,(∀y∈l,cf (f y) (f x)=lt y x)->wA cf (f x) (l.map f)=(wA lt x l).map f
 |[],_=>rfl
 |y::l,h=>by
  rw[iJ,wA,wA,h y iW];split
  ·rw[iJ,C5 cf f x l fun z hz=>h z (jd _ hz)]
  ·rfl
theorem zu{β:Type}(cf:β->β->Bool)(f:α->β): ∀l:List α,(∀x∈l,∀y∈l,cf (f y) (f x)=lt y x)->mF cf (l.map f)=(mF lt l).map f
 |[],_=>rfl
 |x::l,h=>by
  rw[iJ,mF,mF,zu cf f l fun a ha b hb=>h a (jd _ ha) b (jd _ hb)];exact C5 lt cf f x _ fun y hy=>h x iW y (jd _ ((jt lt l).mem_iff.mp hy))
end
theorem Gy{lt:lJ}(W:Wk lt){x:Nat}: ∀{l:iF},l.Pairwise (SL lt)->(∀y∈l,x<y)->(wA lt x l).Pairwise (SL lt)
 |[],_,_=>AN _ _
 |y::l,h,hx=>by
  rw[nX] at h;rw[wA]
  cases hl:lt y x with
  |true=>
   rw[gD rfl,nX];refine⟨fun z hz=>?_,Gy W h.2 fun z hz=>hx z (jd _ hz)⟩;rcases jj.mp ((rE lt x l).mem_iff.mp hz) with rfl|hz
   ·exact .inl hl
   ·exact h.1 z hz
  |false=>
   rw[gF jB,nX];have first:SL lt x y:= .inr ⟨hl,hx y iW⟩;refine⟨fun z hz=>?_,nX.mpr h⟩;rcases jj.mp hz with rfl|hz
   ·exact first
   ·exact SL.trans W first (h.1 z hz)
theorem Ct{lt:lJ}(W:Wk lt): ∀{l:iF},l.Pairwise (· < ·)->(mF lt l).Pairwise (SL lt)
 |[],_=>List.Pairwise.nil
 |x::l,h=>by
  rw[nX] at h;exact Gy W (Ct W h.2) fun y hy=>h.1 y ((jt lt l).mem_iff.mp hy)
theorem Cs{lt:lJ}(W:Wk lt){n:Nat}{p:iF}(hp:p.Perm (List.range n))(hs:p.Pairwise (SL lt)):p=mF lt (List.range n):=by
 refine Ik (fun x y _ _ h1 h2=>(SL.asym W h1 h2).elim) hs (Ct W MU) (hp.trans (jt lt _).symm)
theorem G4{ds:List D}{p:iF}(hp:p.Perm (List.range ds.length))(hs:p.Pairwise (SL fun i j=>ltT (ds.getD i .non) (ds.getD j .non))):p.map (fun i=>ds.getD i .non)=mF ltT ds:=by
 rw[Cs (Nq fun i=>ds.getD i .non) hp hs,<-zu _ ltT (fun i=>ds.getD i .non) _ fun x _ y _=>rfl]
 congr 1
 apply xf;intro i;by_cases hi:i<ds.length
 ·simp[hi]
 ·simp[hi]
def kd:D->Option Nat
 | .int _=>some 0
 | .tup (.int _::_)=>some 1
 | .tup (.tup _::_)=>some 2
 |_=>none
def Gv:Nat->SortKind
 |0=>oneType'
 |1=>tuples' true
 |_=>tuples' false
structure SortsBy(k:Nat)(l:List D):Prop where
 hd: ∀x∈l,kd x=some k
 pr: ∀x∈l,D.pr x=true
 dp: ∀x∈l,x.dep<=50
 cm: ∀x∈l,∀y∈l,(kX .Lt x y).isSome=true
def mM(l:List D):Bool:=l.length<=1||match l with
 |[]=>true
 |x::_=>(kd x).isSome&&(l.all fun y=>kd y==kd x&&D.pr y&&decide (y.dep<=50))&&l.all fun y=>l.all fun z=>(kX .Lt y z).isSome
theorem zw{l:List D}(h:mM l=true):l.length<=1\/ ∃k,SortsBy k l:=by
 unfold mM at h;rw[vb] at h;rcases h with h|h
 ·left;simpa using h
 ·right
  cases l with
  |nil=>exact⟨0,fun x hx=>absurd hx jL,fun x hx=>absurd hx jL,fun x hx=>absurd hx jL,fun x hx=>absurd hx jL⟩
  |cons x m=>
   simp only[jr,lU,mE] at h;obtain⟨⟨h1,h2⟩,h3⟩:=h;obtain⟨k,hk⟩:=IG.mp h1;refine⟨k,fun y hy=>?_,fun y hy=>(h2 y hy).1.2,fun y hy=>(h2 y hy).2,fun y hy z hz=>h3 y hy z hz⟩;have:=(h2 y hy).1.1;rw[hk] at this;simpa using this
section
variable {X:Cx}{pins:ik}{σ:L2.St}{H:Hp}{s:gA}
theorem qX{xs:List V}{b6:iL}(v:Vals xs b6){i:Nat}(hi:i<b6.length):RelV (xs.getD i .non) (b6.getD i Value.none):=by
 have e:=v.length;have hx:xs[i]?=some xs[i]:=jb (by lia);obtain⟨w,w1,w2⟩:=v.get hx;have h1:xs.getD i .non=xs[i]:=by simp[show i<xs.length by lia]
 have h2:b6.getD i Value.none=w:=by
  rw[jb hi] at w1;have:=iO w1;simp[hi,this]
 rw[h1,h2];exact w2
theorem rl{O:AP'}{ds:List D}{xs:List V}(r:RepL X.K H O ds xs){i:Nat}(hi:i<ds.length):Rep X.K H O (ds.getD i .non) (xs.getD i .non):=by
 have e:=r.length;have hd:ds[i]?=some ds[i]:=jb hi;obtain⟨v,v1,v2⟩:=r.get hd;have h1:ds.getD i .non=ds[i]:=by simp[hi]
 have h2:xs.getD i .non=v:=by
  rw[jb (by lia)] at v1;have:=iO v1;simp[show i<xs.length by lia,this]
 rw[h1,h2];exact v2
theorem yc{ds:List D}{i:Nat}(hi:i<ds.length):ds.getD i .non∈ds:=by simp[hi]
theorem C3(I:Inv X pins σ H s){A:gW}{b:Bool}{O O':AP'}(hA:A.units+60<cLine){r:Bool}{Q:pS}(hQ:Q r s): ∀(l m:List D) (xs ys:List V) (b6 c8:iL) (k:Int) (i:Nat),D.depL l<=50->D.depL m<=50->
  ((b&&i==0)=true-> ∀x y l' m',l=x::l'->m=y::m'->(∃a,x= .int a)/\ ∃c,y= .int c)->RepL X.K H O l xs->RepL X.K H O' m ys->Vals xs b6->Vals ys c8->lF .Lt l m=some r->
  ∀fin:Bool,fin=jc .Lt (b6.length+k) (c8.length+k)->PySem.W.KatLex X.prog X.w A b fin Q (b6.zip c8) i s
 |[],m,xs,ys,b6,c8,k,i,_,_,_,r1,r2,v1,v2,hc,fin,hf=>by
  rw[RepL] at r1;subst r1;cases v1;rw[lF] at hc;have e1:=r2.length;have e2:=v2.length;show Q fin s;rw[hf,pH];rw[<-iO hc] at hQ;have:jc .Lt ((([]:List Value).length:Nat):Int) (c8.length:Int)=jc .Lt 0 (m.length:Int):=by congr 1;lia
  rw[this];exact hQ
 |x::l,[],xs,ys,b6,c8,k,i,_,_,_,r1,r2,v1,v2,hc,fin,hf=>by
  rw[RepL] at r2;subst r2;cases v2;rw[lF] at hc;have e1:=r1.length;have e2:=v1.length;rw[List.zip_nil_right];show Q fin s;rw[hf,pH];rw[<-iO hc] at hQ;have:jc .Lt (b6.length:Int) ((([]:List Value).length:Nat):Int)=jc .Lt (((x::l).length:Nat):Int) 0:=by congr 1;lia
  rw[this];exact hQ
 |x::l,y::m,xs,ys,b6,c8,k,i,aL,aS,hb,r1,r2,v1,v2,hc,fin,hf=>by
  rw[RepL] at r1 r2;obtain⟨vx,xr,rfl,g1,g2⟩:=r1;obtain⟨vy,yr,rfl,g3,g4⟩:=r2
  cases v1 with
  |cons a1 a2=>
   cases v2 with
   |cons b1 b2=>
    rw[lF] at hc;rw[D.depL] at aL aS;rw[sD];refine PySem.W.kat_cons (yq I 50 x y vx vy _ _ O O' A (.inl g1) (.inl g3) a1 b1 (by lia) (by lia) (by lia) X.prog X.w _ _ ?_)
    cases hq:D.eqb x y with
    |true=>
     rw[hq,gD rfl] at hc;refine PySem.W.kat_yes (C3 I hA hQ l m xr yr _ _ (k+1) (i+1) (by lia) (by lia) (fun h=>by simp at h) g2 g4 a2 b2 hc fin ?_);rw[hf];simp only[jO];have e: ∀a:Nat,(((a+1:Nat):Int)+k)=(a:Int)+(k+1):=fun a=>by lia
     rw[e,e]
    |false=>
     rw[hq,gF jB] at hc;refine PySem.W.kat_no ?_
     cases hbi:(b&&i==0) with
     |true=>
      obtain⟨⟨a,rfl⟩,c,rfl⟩:=hb hbi x y l m rfl rfl;have:=g1.int;subst this;have:=g3.int;subst this;obtain⟨t,rfl⟩:=a1;obtain⟨t',rfl⟩:=b1;rw[kX] at hc;rw[<-iO hc] at hQ;exact oneLt_int hQ
     |false=>
      exact PySem.W.kat_one _ _ (Jq (.inl rfl) I 50 x y vx vy _ _ O O' A r (.inl g1) (.inl g3) a1 b1 (by lia) (by lia) (by lia) hc X.prog X.w _ _ hQ)
theorem Q9(I:Inv X pins σ H s){O:AP'}{ds:List D}{xs:List V}{b6:iL}{A:gW}{E:hV}(hA:A.units+60<cLine)(rr:RepL X.K H O ds xs)(v:Vals xs b6){k:Nat}(B:SortsBy k ds):
  Ask X.prog X.w A E (fun s'=>s'=s) (HA b6) (Gv k) b6.length (fun i j=>ltT (ds.getD i .non) (ds.getD j .non)):=by
 intro i j hi hj s' aP E';subst aP;have e1:=rr.length;have e2:=v.length;have mi:ds.getD i .non∈ds:=yc (by lia);have mj:ds.getD j .non∈ds:=yc (by lia);have ri:=rl rr (i:=i) (by lia);have rj:=rl rr (i:=j) (by lia);have vi:=qX v hi;have vj:=qX v hj;obtain⟨b,hb⟩:=IG.mp (B.cm _ mi _ mj);have i6:=uM _ _ (B.pr _ mi) (B.pr _ mj) b hb;have bI:=B.hd _ mi;have bH:=B.hd _ mj;have di:=B.dp _ mi;have dj:=B.dp _ mj;show wpAny _ _ (keyLt' (Gv k) (b6.getD i Value.none) (b6.getD j Value.none)) _ _ _;dsimp only;rw[<-i6];generalize ds.getD i .non=x at*;generalize ds.getD j .non=y at*;generalize xs.getD i .non=vx at*;generalize xs.getD j .non=vy at*;generalize b6.getD i Value.none=a at*;generalize b6.getD j Value.none=c at*
 have tups: ∀(l m:List D) (bb:Bool),x= .tup l->y= .tup m->(bb=true-> ∀x y l' m',l=x::l'->m=y::m'->(∃a,x= .int a)/\ ∃c,y= .int c)->wpAny (model X.prog X.w) A (keyLt' (tuples' bb) a c) (fun b' cc=>cc=s'/\b'=b) E' s':=fun l m bb hl hm hh=>by
  subst hl hm;obtain⟨p,us,rfl,q,r1⟩:=ri.tup;obtain⟨p2,ws,rfl,q2,r2⟩:=rj.tup;cases vi;cases vj;obtain⟨eJ,w1,⟨o,ho,hc,n,hd⟩,_⟩:=I.tuple q.sq;obtain⟨is2,w2,⟨o2,u6,aM,n2,hd2⟩,_⟩:=I.tuple q2.sq;rw[kX] at hb;rw[D.dep] at di dj;refine PySem.W.kat_lt ho hd u6 hd2 ?_;have:=C3 I (b:=bb) hA (Q:=fun b' cc=>cc=s'/\b'=b) ⟨rfl,rfl⟩ l m us ws eJ is2 0 0 (by lia) (by lia) (fun h=>hh (by simpa using h)) r1 r2 w1 w2 hb (decide (eJ.toArray.size<is2.toArray.size)) (by simp[jc]);simpa using this
 match k,bI,bH with
 |0,bI,bH=>
  cases x with
  |int ix=>
   cases y with
   |int iy=>
    have:=ri.int;subst this;have:=rj.int;subst this;obtain⟨t,rfl⟩:=vi;obtain⟨t',rfl⟩:=vj;rw[kX] at hb;rw[<-iO hb];show wpAny _ _ (keyLt' oneType' _ _) _ _ _;rw[keyLt'_oneType];exact oneLt_int ⟨rfl,rfl⟩
   |tup m=>cases m with
    |nil=>simp[kd] at bH
    |cons z m=>cases z<;>simp[kd] at bH
   |_=>simp[kd] at bH
  |tup m=>cases m with
   |nil=>simp[kd] at bI
   |cons z m=>cases z<;>simp[kd] at bI
  |_=>simp[kd] at bI
 |1,bI,bH=>
  cases x with
  |tup l=>
   cases y with
   |tup m=>
    refine tups l m true rfl rfl fun _ x y l' m' hl hm=>?_;subst hl hm;refine⟨?_,?_⟩
    ·cases x with
     |int a=>exact⟨a,rfl⟩
     |_=>simp[kd] at bI
    ·cases y with
     |int a=>exact⟨a,rfl⟩
     |_=>simp[kd] at bH
   |_=>simp[kd] at bH
  |_=>simp[kd] at bI
 |(n+2),bI,bH=>
  cases x with
  |tup l=>
   cases y with
   |tup m=>exact tups l m false rfl rfl fun h=>absurd h jB
   |_=>simp[kd] at bH
  |_=>simp[kd] at bI
end
open PySem.W
section
variable {X:Cx}{pins:ik}{σ:L2.St}{H:Hp}{s:gA}
theorem yk(I:Inv X pins σ H s){O:AP'}{T:gL}(P:D->Prop)(hP: ∀x v u,P x->Rep X.K H O x v->RelV v u->Looks (model X.prog X.w) s.heap (typeOf u) T): ∀{ds:List D} {xs:List V} {b6:iL},RepL X.K H O ds xs->Vals xs b6->
  (∀d∈ds,∃x l,d= .tup (x::l)/\P x)-> ∃fs,KatTups s.heap b6 fs/\fs.length=b6.length/\ ∀f∈fs,Looks (model X.prog X.w) s.heap (typeOf f) T
 |[],xs,b6,r,v,_=>by
  rw[RepL] at r;subst r;cases v;exact⟨[],KatTups.nil,rfl,fun f hf=>absurd hf jL⟩
 |d::ds,xs,b6,r,v,h=>by
  rw[RepL] at r;obtain⟨vx,xr,rfl,g1,g2⟩:=r
  cases v with
  |cons a1 a2=>
   obtain⟨fs,k1,k2,k3⟩:=yk I P hP g2 a2 fun d hd=>h d (jd _ hd);obtain⟨x,l,rfl,px⟩:=h d iW;obtain⟨p,us,rfl,q,r1⟩:=g1.tup;cases a1;obtain⟨eJ,w1,⟨o,ho,hc,n,hd⟩,_⟩:=I.tuple q.sq;rw[RepL] at r1;obtain⟨vy,yr,rfl,g3,g4⟩:=r1
   cases w1 with
   |cons b1 b2=>
    rename_i f fr;refine⟨f::fs,KatTups.cons ho hc hd (by simp) k1,by simp[k2],fun g hg=>?_⟩;rcases jj.mp hg with rfl|hg
    ·exact hP x vy _ px g3 b1
    ·exact k3 g hg
theorem OR(I:Inv X pins σ H s){O:AP'}{ds:List D}{xs:List V}{b6:iL}{A:gW}(rr:RepL X.K H O ds xs)(v:Vals xs b6){k:Nat}(B:SortsBy k ds)(h2:2<=b6.length):
  wpAny (model X.prog X.w) A (keyKind' b6.toArray) (fun κ' s'=>s'=s/\κ'=Gv k) (fun _ _=>False) s:=by
 have e1:=rr.length;have e2:=v.length
 match k,B with
 |0,B=>
  refine kas_kind (T:= .type "int") h2 (fun u hu=>?_) rfl rfl ⟨rfl,rfl⟩;obtain⟨i,hi,e⟩:=wZ hu;have ri:=rl rr (i:=i) (by lia);have vi:=qX v hi;have hd:=B.hd _ (yc (ds:=ds) (i:=i) (by lia));have:b6.getD i Value.none=u:=by simp[hi,e]
  rw[this] at vi
  cases hx:ds.getD i .non with
  |int a=>
   rw[hx] at ri;have:=ri.int;rw[this] at vi;obtain⟨t,rfl⟩:=vi;exact Looks.of_pure rfl
  |tup l=>
   rw[hx] at hd
   cases l with
   |nil=>simp[kd] at hd
   |cons z m=>cases z<;>simp[kd] at hd
  |_=>rw[hx] at hd;simp[kd] at hd
 |1,B=>
  obtain⟨fs,f1,f2,f3⟩:=yk I (T:= .type "int") (fun x=> ∃a,x= .int a) (fun x vv u px rx rv=>by
   obtain⟨a,rfl⟩:=px;have:=rx.int;subst this;obtain⟨t,rfl⟩:=rv
   exact Looks.of_pure rfl) rr v fun d hd=>by
    have:=B.hd d hd
    cases d with
    |tup l=>
     cases l with
     |nil=>simp[kd] at this
     |cons z m=>
      cases z with
      |int a=>exact⟨_,m,rfl,a,rfl⟩
      |_=>simp[kd] at this
    |_=>simp[kd] at this
  exact kat_kind f1 (by lia) f3 rfl ⟨rfl,rfl⟩
 |(n+2),B=>
  obtain⟨fs,f1,f2,f3⟩:=yk I (T:= .type "tuple") (fun x=> ∃a,x= .tup a) (fun x vv u px rx rv=>by
   obtain⟨a,rfl⟩:=px;obtain⟨p,us,rfl,q,r1⟩:=rx.tup;cases rv;obtain⟨eJ,w1,⟨o,ho,hc,n,hd⟩,_⟩:=I.tuple q.sq;have:Looks (model X.prog X.w) s.heap (typeOf (.ref p)) o.cls:=(Looks.ld ho).andThen .now
   rw[hc] at this;exact this) rr v fun d hd=>by
    have:=B.hd d hd
    cases d with
    |tup l=>
     cases l with
     |nil=>simp[kd] at this
     |cons z m=>
      cases z with
      |tup a=>exact⟨_,m,rfl,a,rfl⟩
      |_=>simp[kd] at this
    |_=>simp[kd] at this
  exact kat_kind f1 (by lia) f3 rfl ⟨rfl,rfl⟩
def jG(l:List D):Option (D×Bool):=if mM l=true/\l.length<=sizeLine then some (.lst (mF ltT l),true) else none
def oB(d:D):Option (D×Bool):=(xx d).bind jG
theorem Cj{xs:List V}{b6:iL}(v:Vals xs b6): ∀(p:iF),(∀i∈p,i<b6.length)->Vals (p.map fun i=>xs.getD i .non) (p.map fun i=>b6.getD i Value.none)
 |[],_=> .nil
 |i::p,h=> .cons (qX v (h i iW)) (Cj v p fun j hj=>h j (jd _ hj))
theorem CF{O:AP'}{ds:List D}{xs:List V}(r:RepL X.K H O ds xs): ∀(p:iF),(∀i∈p,i<ds.length)->RepL X.K H O (p.map fun i=>ds.getD i .non) (p.map fun i=>xs.getD i .non)
 |[],_=>RepL.nil
 |i::p,h=>RepL.cons (rl r (h i iW)) (CF r p fun j hj=>h j (jd _ hj))
theorem Eu{ds:List D}{n:Nat}(hl:n=ds.length)(h1:ds.length<=1){p:iF}(hp:p.Perm (List.range n)):p.map (fun i=>ds.getD i .non)=mF ltT ds:=by
 subst hl
 match ds,h1,hp with
 |[],_,hp=>
  have:p=[]:=by simpa using hp.length_eq
  subst this;rfl
 |[d],_,hp=>
  have hl:p.length=1:=by simpa using hp.length_eq
  match p,hl,hp with
  |[i],_,hp=>
   have:i=0:=by have:=hp.mem_iff.mp (mZ.mpr rfl);simpa using this
   subst this;rfl
theorem qZ(hu:X.A.units+62<cLine)(I:Inv X pins σ H s){O:AP'}{ds:List D}{xs:List V}{b6:iL}{x:gL}{Q:VK}{z:D×Bool}(rr:RepL X.K H O ds xs)(v:Vals xs b6)(hg:jG ds=some z)(G:Gen X.K H O z Q)
  (hc: ∀(Q':List Value->Shared->Prop) (E':hV) (A':gW),A'.handled=X.A.handled->(∀(h':gU) (tk:Nat),(∀b o,s.heap.get? b=some o->h'.get? b=some o)->Q' b6 {s with heap:=h',toks:=tk})->wpAny (model X.prog X.w) A' (collect x) Q' E' s):
  wpAny (model X.prog X.w) X.A (call (.builtin "sorted") [x]) (EP X pins σ Q) X.xe s:=by
 unfold jG at hg;obtain⟨⟨hok,hz⟩,rfl⟩:=iu hg;have e1:=rr.length;have e2:=v.length;refine Calls.call_function_entry kind_sorted plain_sorted entry_sorted (args_sorted1 _) ?_;unfold Builtin.«sorted»;refine gw (m:=checkCount "sorted" 1 1 _) (gK ?_);refine gw (hc _ _ _ rfl fun h1 tk k1=>?_);refine gw (wpAny_newList ?_ (by lia));have ho:(h1.push (seqObj "list" b6.toArray 0)).get? h1.objs.size=some (seqObj "list" b6.toArray 0):=jP _ rfl;have I1:Inv X pins σ H {s with heap:=h1,toks:=tk}:=I.kept k1
 have keep: ∀b o,h1.get? b=some o->(pW (h1.push (seqObj "list" b6.toArray 0)) h1.objs.size b6).get? b=some o:=fun b o e'=>by
  have hb:b≠h1.objs.size:=iK (iq e');refine iz _ (iz _ ?_);rw[Ij _ _ _ _ hb];exact iz _ e'
 have I2:Inv X pins σ H {s with heap:=pW (h1.push (seqObj "list" b6.toArray 0)) h1.objs.size b6,toks:=tk}:=I1.kept keep;have aQ: ∀i∈List.range b6.length,i<b6.length:=fun i hi=>by simpa using hi
 refine gw (mX (mU (s:={s with heap:=h1.push (seqObj "list" b6.toArray 0),toks:=tk}) slot_list_sort ⟨_,ho,rfl⟩ entry_list_sort ?body (args_list_sort _)))
 case body=>
  have fin: ∀p:List Nat,p.Perm (List.range b6.length)->p.map (fun i=>ds.getD i .non)=mF ltT ds->EP X pins σ Q (.ref h1.objs.size) {s with heap:=(pW (h1.push (seqObj "list" b6.toArray 0)) h1.objs.size b6).update h1.objs.size (Obj.mapSeq fun _=>(p.map fun i=>b6.getD i Value.none).toArray),toks:=tk}:=fun p hp hs=>by
   have pi: ∀i∈p,i<b6.length:=fun i hi=>by simpa using hp.mem_iff.mp hi
   have ob: ∃n,(pW (h1.push (seqObj "list" b6.toArray 0)) h1.objs.size b6).get? h1.objs.size=some (seqObj "list" #[] n):=by
    obtain⟨e1,w6⟩: ∃e1,((h1.push (seqObj "list" b6.toArray 0)).update h1.objs.size (Obj.mapSeq fun _=>(#[]:Array Value))).get? h1.objs.size=some (seqObj "list" #[] e1):=⟨_,DT ho fun _=> #[]⟩
    exact⟨e1,iz _ (iz _ w6)⟩
   obtain⟨n,ob⟩:=ob;obtain⟨c2,aM⟩: ∃c2,((pW (h1.push (seqObj "list" b6.toArray 0)) h1.objs.size b6).update h1.objs.size (Obj.mapSeq fun _=>(p.map fun i=>b6.getD i Value.none).toArray)).get? h1.objs.size=some (seqObj "list" (p.map fun i=>b6.getD i Value.none).toArray c2):=⟨_,DT ob fun _=>(p.map fun i=>b6.getD i Value.none).toArray⟩
   have keep2: ∀b o,h1.get? b=some o->((pW (h1.push (seqObj "list" b6.toArray 0)) h1.objs.size b6).update h1.objs.size (Obj.mapSeq fun _=>(p.map fun i=>b6.getD i Value.none).toArray)).get? b=some o:=fun b o e'=>by
    rw[Ij _ _ _ _ (iK (iq e'))];exact keep b o e'
   have pl:p.length=b6.length:=by simpa using hp.length_eq
   refine⟨.ref h1.objs.size,_,I1.laid (t':=tk) keep2 (ip _) (show ObjOk X.prog X.w _ _ _ (.lst (p.map fun i=>xs.getD i .non)) from⟨by rw[jw];lia,_,c2,Cj v p pi,aM⟩),rfl,?_⟩;refine G.lst I1.fresh ?_;rw[<-hs];exact CF rr p fun i hi=>by have:=pi i hi;lia
  rcases zw hok with hlen|⟨k,B⟩
  ·refine se (κ:=general') (lt:=fun _ _=>false) (s:={s with heap:=h1.push (seqObj "list" b6.toArray 0),toks:=tk}) ho (by lia) (Wk.mk (fun _=>rfl) (fun _ _ _ h=>absurd h jB) (fun _ _ _ h=>absurd h jB)) (fun h=>by lia) (fun h=>by lia) fun p hp _=>⟨_,rfl,gK ⟨_,rfl,fin p hp ?_⟩⟩
   exact Eu (by lia) hlen hp
  ·refine se (κ:=Gv k) (lt:=fun i j=>ltT (ds.getD i .non) (ds.getD j .non)) (s:={s with heap:=h1.push (seqObj "list" b6.toArray 0),toks:=tk}) ho (by lia) (Nq _) (fun h=>OR I2 rr v B h) (fun _=>Q9 (A:=X.A.in1.in1) I2 (by show X.A.units+1+1+60<cLine;lia) rr v B) fun p hp hs=>⟨_,rfl,gK ⟨_,rfl,fin p hp (G4 (by rw[show ds.length=b6.length by lia];exact hp) hs)⟩⟩
theorem uN(hu:X.A.units+62<cLine):jI X (.builtin "sorted") (rDn X.K (g1 oB)):=oK fun pins s σ H x u Q O d z I ru np hd hg G=>by
 obtain⟨l,hl,hg⟩:=gu hg
 have hz:l.length<=sizeLine:=by
  unfold jG at hg;exact(iu hg).1.2
 cases d with
 |lst m=>
  cases hl;obtain⟨p,xs,rfl,q,r⟩:=kn hd;cases ru;obtain⟨b6,v,pl,_⟩:=I.list q;have e1:=r.length;have e2:=v.length;obtain⟨o,ho,hc,n,hd⟩:=pl.isList;refine qZ hu I r v hg G fun Q' E' A' _ hQ=>wpAny_collect_seq p (.inl rfl) ho hc hd (fun h' k=>by simpa using hQ h' s.toks k) (by rw[iw];lia)
 |tup m=>
  cases hl;obtain⟨p,xs,rfl,q,r⟩:=lu hd;cases ru;obtain⟨b6,v,⟨o,ho,hc,n,hd⟩,_⟩:=I.tuple q;have e1:=r.length;have e2:=v.length;refine qZ hu I r v hg G fun Q' E' A' _ hQ=>wpAny_collect_seq p (.inr rfl) ho hc hd (fun h' k=>by simpa using hQ h' s.toks k) (by rw[iw];lia)
 |_=>cases hl
end
theorem zf:bootBuiltins "isinstance"=some (.builtin "isinstance"):=by decide+kernel
structure Tx(mg:lL):Prop where
 n_len:mg "len"=none
 n_abs:mg "abs"=none
 n_int:mg "int"=none
 n_tuple:mg "tuple"=none
 n_list:mg "list"=none
 n_range:mg "range"=none
 n_isinstance:mg "isinstance"=none
 n_bool:mg "bool"=none
 n_max:mg "max"=none
 n_min:mg "min"=none
 n_all:mg "all"=none
 n_any:mg "any"=none
 n_sorted:mg "sorted"=none
 n_enumerate:mg "enumerate"=none
 n_zip:mg "zip"=none
 n_set:mg "set"=none
theorem zD{K:hC}{H:Hp}{O:AP'}: ∀ns:List Int,RepL K H O (ns.map .int) (ns.map V.int)
 |[]=>RepL.nil
 |n::ns=>RepL.cons Rep.mkInt (zD ns)
theorem OQ{K:hC}{ev:EvF}{H:Hp}{a:gv}{ns:hU}(hS:SqL K H a (ns.map V.int)){o:Bool}{outs:Dn}(h:ev [(.lst (ns.map .int),false)]=some ((.bl true,o),outs)):spF K ev [.ref a] H (fun v _=>v= .bl true) fun _ _ _=>False:=by
 have no: ∀b,¬OwnA [some (V.ref a)] [some (D.lst (ns.map .int),false)] b:=fun b ⟨i,d,h1,h2⟩=>by
  cases i with
  |zero=>simp at h1
  |succ i=>simp at h1
 refine⟨fun _=>False,[(.lst (ns.map .int),false)],_,outs,⟨rfl,fun i d hd=>?_,fun i d hd=>?_,fun i j d e b h1=>?_,fun b z=>absurd z (no b),fun b z=>z.elim⟩,h,fun v H' P=>?_⟩
 ·cases i with
  |zero=>
   simp at hd;subst hd;refine⟨_,rfl,Rep.mkLst (a:=a) (xs:=ns.map V.int) ?_ (zD ns)⟩;exact hS.imp (fun z=>⟨z,fun z=>z.elim (no a) id⟩) id
  |succ i=>simp at hd
 ·cases i with
  |zero=>simp at hd
  |succ i=>simp at hd
 ·cases i with
  |zero=>simp at h1
  |succ i=>simp at h1
 ·cases o with
  |false=>exact P.2.2.bl
  |true=>
   obtain⟨p,_,_,_,ok⟩:=P.2;exact ok.elim
def lD(op m6:CmpOp)(fa fb fc:FO):F:=fun δ=>(fa δ).bind fun p=>(fb p.2).bind fun q=>match res q.2 p.1,res q.2 q.1 with
 |some (.int i),some (.int j)=>if jc op i j=true then(fc q.2).bind fun r=>match res r.2 r.1 with
   |some (.int k)=>some ((.bl (jc m6 j k),false),r.2)
   |_=>none
  else some ((.bl false,false),q.2)
 |_,_=>none
section
variable {X:Cx}{a b c:gM}{fa fb fc:FO}{pos:Pos}{op m6:CmpOp}
theorem wO(h:pf op):OpR X (compareOp op) (rI0 fun i j=> .bl (jc op i j)):=by
 rcases h with rfl|rfl|rfl|rfl
 ·exact Qo
 ·exact Qp
 ·exact Qq
 ·exact Qr
theorem Ah{σ:L2.St}{H:Hp}{Q:VK}(hw:tF X.K (lD op m6 fa fb fc) σ H Q):Et (rI0 fun i j=> .bl (jc op i j)) (rI0 fun i j=> .bl (jc m6 i j)) (tO X.K fa) (tO X.K fb) (tO X.K fc) σ H Q:=by
 obtain⟨δ,T,rr,δ',E,e,k⟩:=hw;unfold lD at e;obtain⟨⟨o1,δ1⟩,h1,e⟩:=gu e;obtain⟨⟨o2,δ2⟩,h2,e⟩:=gu e;refine⟨δ,T,o1,δ1,E,h1,fun v H1 P1=>⟨δ1,wC T o1 v,o2,δ2,P1.er E,h2,fun u H2 P2=>?_⟩⟩;have B:=Ops.cons E P1 (Ops.cons (P1.er E) P2 (Ops.nil (P2.er (P1.er E))));dsimp only at e;split at e
 ·rename_i i j hx hy;have hv:=hJ (B.view (j:=0) rfl rfl hx);have hu:=hJ (B.view (j:=1) rfl rfl hy);refine⟨i,j,hv,hu,jc op i j,rfl,?_⟩;by_cases c:jc op i j=true
  ·rw[gD c] at e ⊢;obtain⟨⟨o3,δ3⟩,h3,e⟩:=gu e;dsimp only at e;split at e
   ·rename_i k' hz;obtain⟨rfl,rfl⟩:=gX e;refine⟨δ2,_,o3,δ3,P2.er (P1.er E),h3,fun w H3 P3=>?_⟩;have B3:=Ops.cons E P1 (Ops.cons (P1.er E) P2 (Ops.cons (P2.er (P1.er E)) P3 (Ops.nil (P3.er (P2.er (P1.er E))))));exact⟨j,k',hu,hJ (B3.view (j:=2) rfl rfl hz),(B3.done k).bl⟩
   ·cases e
  ·rw[gF c] at e ⊢;obtain⟨rfl,rfl⟩:=gX e;exact(B.done k).bl
 ·cases e
theorem Jx(ho:pf op)(ao:pf m6)(ha:PO X a fa)(hb:PO X b fb)(hc:PO X c fc)(hm:lastMarks [op,m6] [b,c]=false:=by with_unfolding_all rfl):PX X (.Compare a [op,m6] [b,c] pos) (lD op m6 fa fb fc):=
 PX.imp (JU (wO ho) (wO ao) ha hb hc hm) fun σ H Q hw=>Ah hw
theorem Hc(ho:pf op)(ao:pf m6)(ha:PO X a fa)(hb:PO X b fb)(hc:PO X c fc)(hm:lastMarks [op,m6] [b,c]=false:=by with_unfolding_all rfl):PTX X (.Compare a [op,m6] [b,c] pos) (fT (lD op m6 fa fb fc)):=
 PT.imp' (Jy (wO ho) (wO ao) ha hb hc hm) fun σ H Q hw=>Ah (Jb hw)
end
def vIs(x:V)(c:Bool):Bool:=match x with
 | .bl b=>b==c
 |_=>false
def gIs:D->D->Option (D×Bool)
 | .bl b,.bl c=>some (.bl (b==c),false)
 |_,.bl _=>some (.bl false,false)
 | .non,.non=>some (.bl true,false)
 |_,.non=>some (.bl false,false)
 |_,_=>none
def Fl:D->D->Option (D×Bool)
 | .bl b,.bl c=>some (.bl (!(b==c)),false)
 |_,.bl _=>some (.bl true,false)
 | .non,.non=>some (.bl false,false)
 |_,.non=>some (.bl true,false)
 |_,_=>none
section
variable {X:Cx}
theorem FZ{x:V}{v:gL}(rx:RelV x v)(c:Bool):plainIs v (.bool c)=true/\(v== .bool c)=vIs x c:=by
 cases x<;>first
  |(cases rx;exact⟨rfl,rfl⟩)
  |(obtain⟨t,rfl⟩:=rx;exact⟨rfl,rfl⟩)
  |(rename_i b;cases rx;refine⟨rfl,?_⟩;cases b<;>cases c<;>rfl)
theorem J3:OpR X (compareOp .Is) (fun x y H Q=> ∃c,y= .bl c/\Q (.bl (vIs x c)) H):=by
 intro pins s σ H x y v u Q I rx ry h;obtain⟨c,rfl,q⟩:=h;cases ry;obtain⟨h1,h2⟩:=FZ rx c;exact wpAny_is_plain h1 (BL I q (by rw[h2]))
theorem zH:OpR X (compareOp .IsNot) (fun x y H Q=> ∃c,y= .bl c/\Q (.bl (!vIs x c)) H):=by
 intro pins s σ H x y v u Q I rx ry h;obtain⟨c,rfl,q⟩:=h;cases ry;obtain⟨h1,h2⟩:=FZ rx c;exact wpAny_isNot_plain h1 (BL I q (by rw[h2]))
theorem qB{K H}{O:AP'}{b:Bool}{v:V}(h:jh K H O (.bl b) v):v= .bl b:=h.elim (fun h=>h.bl) fun⟨_,_,h⟩=>h.elim
theorem oT{K H}{O:AP'}{v:V}(h:jh K H O .non v):v= .non:=h.elim (fun h=>h.non) fun⟨_,_,h⟩=>h.elim
theorem Ci{K H}{O:AP'}{d:D}{v:V}(h:jh K H O d v)(nb: ∀b,d≠ .bl b)(c:Bool):vIs v c=false:=by
 cases d with
 |bl b=>exact absurd rfl (nb b)
 |non=>rw[oT h];rfl
 |int i=>rw[hJ h];rfl
 |str x=>
   rcases h with h|⟨a,_,h⟩
   ·rw[h.str];rfl
   ·exact h.elim
 |tup l=>
   rcases h with h|⟨a,_,h⟩
   ·rw[Rep] at h;obtain⟨a,xs,rfl,_⟩:=h;rfl
   ·exact h.elim
 |lst l=>
   rcases h with h|⟨a,rfl,h⟩
   ·rw[Rep] at h;obtain⟨a,xs,rfl,_⟩:=h;rfl
   ·rfl
 |oth _ _ _=>
   rcases h with h|⟨a,rfl,h⟩
   ·rw[Rep] at h;obtain⟨a,xs,rfl,_⟩:=h;rfl
   ·rfl
theorem vW{K H}{O:AP'}{d:D}{v:V}(h:jh K H O d v)(nb:d≠ .non):v≠ .non:=by
 cases d with
 |bl b=>rw[qB h];intro z;cases z
 |non=>exact absurd rfl nb
 |int i=>rw[hJ h];intro z;cases z
 |str x=>
   rcases h with h|⟨a,_,h⟩
   ·rw[h.str];intro z;cases z
   ·exact h.elim
 |tup l=>
   rcases h with h|⟨a,_,h⟩
   ·rw[Rep] at h;obtain⟨a,xs,rfl,_⟩:=h;intro z;cases z
   ·exact h.elim
 |lst l=>
   rcases h with h|⟨a,rfl,h⟩
   ·rw[Rep] at h;obtain⟨a,xs,rfl,_⟩:=h;intro z;cases z
   ·intro z;cases z
 |oth _ _ _=>
   rcases h with h|⟨a,rfl,h⟩
   ·rw[Rep] at h;obtain⟨a,xs,rfl,_⟩:=h;intro z;cases z
   ·intro z;cases z
theorem ET:OpR X (compareOp .Is) (rD X.K gIs):=by
 intro pins s σ H x y v u Q I rx ry h;obtain⟨O,d,e,z,np,h1,h2,hg,G⟩:=h
 cases e with
 |bl c=>
  have hy:=qB h2;by_cases hb: ∃b,d= .bl b
  ·obtain⟨b,rfl⟩:=hb;cases hg;refine J3 pins s σ H x y v u Q I rx ry ⟨c,hy,?_⟩;rw[qB h1];exact G.bl
  ·have nb: ∀b,d≠ .bl b:=fun b z=>hb ⟨b,z⟩;have hz:z=(.bl false,false):=by cases d<;>first|exact absurd rfl (nb _)|(cases hg;rfl)
   subst hz;refine J3 pins s σ H x y v u Q I rx ry ⟨c,hy,?_⟩;rw[Ci h1 nb c];exact G.bl
 |non=>
  have hy:=oT h2;by_cases hb:d= .non
  ·subst hb;cases hg;refine J2 pins s σ H x y v u Q I rx ry ⟨hy,?_⟩;rw[oT h1];exact G.bl
  ·have hz:z=(.bl false,false):=by cases d<;>first|exact absurd rfl hb|(cases hg;rfl)
   subst hz;refine J2 pins s σ H x y v u Q I rx ry ⟨hy,?_⟩;rw[ji (vW h1 hb)];exact G.bl
 |_=>cases d<;>cases hg
theorem Hn:OpR X (compareOp .IsNot) (rD X.K Fl):=by
 intro pins s σ H x y v u Q I rx ry h;obtain⟨O,d,e,z,np,h1,h2,hg,G⟩:=h
 cases e with
 |bl c=>
  have hy:=qB h2;by_cases hb: ∃b,d= .bl b
  ·obtain⟨b,rfl⟩:=hb;cases hg;refine zH pins s σ H x y v u Q I rx ry ⟨c,hy,?_⟩;rw[qB h1];exact G.bl
  ·have nb: ∀b,d≠ .bl b:=fun b z=>hb ⟨b,z⟩;have hz:z=(.bl true,false):=by cases d<;>first|exact absurd rfl (nb _)|(cases hg;rfl)
   subst hz;refine zH pins s σ H x y v u Q I rx ry ⟨c,hy,?_⟩;rw[Ci h1 nb c];exact G.bl
 |non=>
  have hy:=oT h2;by_cases hb:d= .non
  ·subst hb;cases hg;refine Gi pins s σ H x y v u Q I rx ry ⟨hy,?_⟩;rw[oT h1];exact G.bl
  ·have hz:z=(.bl true,false):=by cases d<;>first|exact absurd rfl hb|(cases hg;rfl)
   subst hz;refine Gi pins s σ H x y v u Q I rx ry ⟨hy,?_⟩;rw[ji (vW h1 hb)];exact G.bl
 |_=>cases d<;>cases hg
end
end PX
namespace HT
open PySem PySem.Spec PyProof.Rows L2
section
variable {prog:hG}{w:gS}{A:gW}{E:hV}{s:gA}
theorem Fi{t sl:gv}{items:jW}{vl vu:gL}{lo hi:Option Int}{Q:hV}(ht:IsTup s.heap t items)(hs:s.heap.IsSliceOf sl vl vu .none)(pl:IsPart vl lo)(pu:IsPart vu hi)
  (hw:sIx items.size 0 lo=0/\sIx items.size items.size hi=items.size)(h:Q (.ref t) s):wpAny (model prog w) A (getItem (.ref t) (.ref sl)) Q E s:=by
 obtain⟨os,y9,aT,bK⟩:=id hs;have dY:s.TypeIs (.ref sl) "slice":=⟨os,y9,aT⟩
 unfold getItem
 try with_reducible refine mX ?_
 first|refine gw (gK ?_)|skip
 refine gw (Ed ht.typeIs (by decide) ?_)
 refine gw (qj (name:=Str.ofString "__getitem__") ht.typeIs wX
  (mU wX ht.typeIs Eb ?_ (Ea _ _)))
 show wpAny _ _ (Builtin.Tuple.tupleItemsOf (.ref t)>>=_) _ _ s;refine gw (D9 ht ?_);refine gw (rV dY ?_);rw[gD (by decide)];refine gw (oW hs pl pu ?_);rw[hw.1,hw.2];show wpAny _ _ (if((((0:Nat):Int)==0&&(1:Int)==1&&(items.size-0)==items.size)=true) then _ else _) _ _ s;rw[gD (by simp)];refine gw (m:=Builtin.Tuple.tupleIsExact _) ?_;unfold Builtin.Tuple.tupleIsExact;refine gw (rV ht.typeIs ?_);refine gK ?_;rw[gD (by decide)];refine gw (ug ?_)
 first
  |exact gw (gK ⟨_,rfl,gK h⟩)
  |exact gK ⟨_,rfl,gK h⟩
  |exact gw (gK (gK ⟨_,rfl,gK h⟩))
  |(refine gw ?_;trace_state;done)
end
end HT
namespace PX
open PySem PySem.Spec PyProof.Rows L2 PySem.SeqAt
def lh(l:List D)(lo hi:Option Int):List D:=(l.drop (HT.sIx l.length 0 lo)).take (HT.sIx l.length l.length hi-HT.sIx l.length 0 lo)
def gSl(lo hi:Option Int):D->Option (D×Bool)
 | .tup l=>some (.tup (lh l lo hi),false)
 | .lst l=>some (.lst (lh l lo hi),true)
 |_=>none
def SF(K:hC):V->Option Int->Option Int->Hp->VK->Prop:=fun x lo hi H Q=> ∃(O:AP') (d:D) (z:D×Bool),(∀p,H p=none-> ¬O p)/\jh K H O d x/\gSl lo hi d=some z/\Gen K H O z Q
theorem RepL.cut{K H}{O:AP'}{l:List D}{xs:List V}(r:RepL K H O l xs)(lo hi:Option Int):RepL K H O (lh l lo hi) (Dj xs lo hi):=by
 unfold lh Dj;rw[r.length];exact(r.drop _).take _
section
variable {X:Cx}
theorem Cw{pins:ik}{s:gA}{σ:L2.St}{H:Hp}{a:gv}{v vl vu:gL}{lo hi:Option Int}{sl:gv}{Q:VK}{O:AP'}{l:List D}{xs:List V}(I:Inv X pins σ H s)(rx:RelV (.ref a) v)(hs:s.heap.IsSliceOf sl vl vu .none)(pl:IsPart vl lo)(pu:IsPart vu hi)
  (q:SqL X.K H a xs)(r:RepL X.K H O l xs)(G:Gen X.K H O (.lst (lh l lo hi),true) Q): ∃T id,typeLookup (.type T) "__getitem__"=pure (some (.builtin id))/\s.TypeIs v T/\wpAny (model X.prog X.w) X.A (getItem v (.ref sl)) (EP X pins σ Q) X.xe s:=
 Lw pins s σ H (.ref a) v vl vu lo hi sl Q I rx hs pl pu ⟨a,xs,rfl,q,fun p hp=>G.lst hp (r.cut lo hi)⟩
theorem NF:SlR X (SF X.K):=by
 intro pins s σ H x v vl vu lo hi sl Q I rx hs pl pu h;obtain⟨O,d,z,np,hd,hg,G⟩:=h
 cases d with
 |tup l=>
  cases hg;rcases hd with hd|⟨a,_,h⟩
  ·obtain⟨a,xs,rfl,q,r⟩:=hd.tup;by_cases hw:HT.sIx xs.length 0 lo=0/\HT.sIx xs.length xs.length hi=xs.length
   ·cases rx;obtain⟨b6,rv,ht,hz⟩:=I.tuple q.sq;have hlen:b6.toArray.size=xs.length:=by rw[iw];exact rv.length.symm
    refine⟨"tuple",_,wX.lookup,ht.typeIs,?_⟩;refine HT.Fi ht hs pl pu (by rw[hlen];exact hw) ⟨.ref a,H,I,rfl,?_⟩
    have e:lh l lo hi=l:=by
     unfold lh;rw[<-r.length,hw.1,hw.2];simp[r.length]
    rw[e] at G;exact G (.ref a) H (fun _ _ e=>e) hd
   ·exact ND pins s σ H (.ref a) v vl vu lo hi sl Q I rx hs pl pu ⟨a,xs,rfl,q.sq,hw,fun p hp=>G.tup hp (np p hp) (r.cut lo hi)⟩
  ·exact h.elim
 |lst l=>
  cases hg;rcases hd with hd|⟨a,rfl,h⟩
  ·obtain⟨a,xs,rfl,q,r⟩:=hd.lst;exact Cw I rx hs pl pu q.sq r G
  ·obtain⟨xs,e,r⟩:=h;exact Cw I rx hs pl pu (.inl (.inl e)) r G
 |_=>cases hg
end
def kG(fa fl:FO):F:=fun δ=>(fa δ).bind fun p=>(fl p.2).bind fun q=>match res q.2 q.1 with
 |some (.int i)=>(res q.2 p.1).bind fun x=>(gSl (some i) none x).bind fun z=>some (z,q.2)
 |_=>none
def kf(fa fh:FO):F:=fun δ=>(fa δ).bind fun p=>(fh p.2).bind fun q=>match res q.2 q.1 with
 |some (.int i)=>(res q.2 p.1).bind fun x=>(gSl none (some i) x).bind fun z=>some (z,q.2)
 |_=>none
def fSl(fa fl fh:FO):F:=fun δ=>(fa δ).bind fun p=>(fl p.2).bind fun q=>(fh q.2).bind fun r=>match res q.2 q.1,res r.2 r.1 with
 |some (.int i),some (.int j)=>(res r.2 p.1).bind fun x=>(gSl (some i) (some j) x).bind fun z=>some (z,r.2)
 |_,_=>none
section
variable {X:Cx}{a lo hi:gM}{fa fl fh:FO}{pos p2:Pos}
theorem LL(ha:PO X a fa)(hl:PO X lo fl):PX X (.Subscript a (.Slice (some lo) none none p2) pos) (kG fa fl):=
 PX.imp (xN NF ha (wK hl) Ge) fun σ H Q hw=>by
  obtain⟨δ,T,rr,δ',E,e,k⟩:=hw;unfold kG at e;obtain⟨⟨o1,δ1⟩,h1,e⟩:=gu e;obtain⟨⟨o2,δ2⟩,h2,e⟩:=gu e;dsimp only at e;split at e
  ·rename_i i hi;obtain⟨x,hx,e⟩:=gu e;obtain⟨z,hz,e⟩:=gu e;obtain⟨rfl,rfl⟩:=gX e;refine⟨δ,T,o1,δ1,E,h1,fun v H1 P1=>⟨δ1,wC T o1 v,o2,δ2,P1.er E,h2,fun u H2 P2=>?_⟩⟩;have B:=Ops.cons E P1 (Ops.cons (P1.er E) P2 (Ops.nil (P2.er (P1.er E))));exact⟨i,hJ (B.view (j:=1) rfl rfl hi),_,x,z,fun p hp=>B.np hp,B.view (j:=0) rfl rfl hx,hz,B.done k⟩
  ·cases e
theorem LM(ha:PO X a fa)(hl:PO X hi fh):PX X (.Subscript a (.Slice none (some hi) none p2) pos) (kf fa fh):=
 PX.imp (xN NF ha Ge (wK hl)) fun σ H Q hw=>by
  obtain⟨δ,T,rr,δ',E,e,k⟩:=hw;unfold kf at e;obtain⟨⟨o1,δ1⟩,h1,e⟩:=gu e;obtain⟨⟨o2,δ2⟩,h2,e⟩:=gu e;dsimp only at e;split at e
  ·rename_i i hi;obtain⟨x,hx,e⟩:=gu e;obtain⟨z,hz,e⟩:=gu e;obtain⟨rfl,rfl⟩:=gX e;refine⟨δ,T,o1,δ1,E,h1,fun v H1 P1=>⟨δ1,wC T o1 v,o2,δ2,P1.er E,h2,fun u H2 P2=>?_⟩⟩;have B:=Ops.cons E P1 (Ops.cons (P1.er E) P2 (Ops.nil (P2.er (P1.er E))));exact⟨i,hJ (B.view (j:=1) rfl rfl hi),_,x,z,fun p hp=>B.np hp,B.view (j:=0) rfl rfl hx,hz,B.done k⟩
  ·cases e
theorem Qd(ha:PO X a fa)(hl:PO X lo fl)(hh:PO X hi fh):PX X (.Subscript a (.Slice (some lo) (some hi) none p2) pos) (fSl fa fl fh):=
 PX.imp (xN NF ha (wK hl) (wK hh)) fun σ H Q hw=>by
  obtain⟨δ,T,rr,δ',E,e,k⟩:=hw;unfold fSl at e;obtain⟨⟨o1,δ1⟩,h1,e⟩:=gu e;obtain⟨⟨o2,δ2⟩,h2,e⟩:=gu e;obtain⟨⟨o3,δ3⟩,h3,e⟩:=gu e;dsimp only at e;split at e
  ·rename_i i j hi hj;obtain⟨x,hx,e⟩:=gu e;obtain⟨z,hz,e⟩:=gu e;obtain⟨rfl,rfl⟩:=gX e;refine⟨δ,T,o1,δ1,E,h1,fun v H1 P1=>⟨δ1,wC T o1 v,o2,δ2,P1.er E,h2,fun u H2 P2=>?_⟩⟩;have B2:=Ops.cons E P1 (Ops.cons (P1.er E) P2 (Ops.nil (P2.er (P1.er E))));have aR:u= .int i:=hJ (B2.view (j:=1) rfl rfl hi);refine⟨i,aR,δ2,_,o3,δ3,P2.er (P1.er E),h3,fun w H3 P3=>?_⟩;have B:=Ops.cons E P1 (Ops.cons (P1.er E) P2 (Ops.cons (P2.er (P1.er E)) P3 (Ops.nil (P3.er (P2.er (P1.er E))))));exact⟨j,hJ (B.view (j:=2) rfl rfl hj),_,x,z,fun p hp=>B.np hp,B.view (j:=0) rfl rfl hx,hz,B.done k⟩
  ·cases e
end
end PX
namespace L2
open PySem PySem.Spec PyProof.Rows
section
variable {X:Cx}
end
end L2
namespace PX
open PySem PySem.Spec PyProof.Rows L2 PySem.SeqAt
section
variable {K:hC}{A:jm}{d:gv}{T:AP'}{σ σ1:L2.St}{δ δ1:Dn}{acc:List D}{H H1:Hp}
end
section
variable {X:Cx}{A:jm}{d:gv}{elt:gM}{f:F}
end
section
variable {X:Cx}{elt:gM}{c:rN}{ie:rO}{scope:jZ}{pos pos' p:Pos}{N':iG}{caps:iF}{k:Nat}{fi:FIt}{tg:Tg}{ti:FT}{fb:FB}
end
end PX
namespace HT
open PySem PySem.Spec PyProof.Rows L2
section
variable {prog:hG}{w:gS}{A:gW}{E:hV}{s:gA}
theorem FK(n:Nat):Builtin.Slice.sliceAdjust none none (-1) (n:Int)=((n:Int)-1, -1):=by
 unfold Builtin.Slice.sliceAdjust;rfl
theorem EK(n:Nat):Builtin.Slice.slicePlaces ((n:Int)-1) (-1) (-1)=n:=by
 unfold Builtin.Slice.slicePlaces;rw[gF (by decide)];by_cases h:n=0
 ·subst h;rfl
 ·rw[gD (by lia)];simp only[Int.neg_neg,Int.ediv_one]
  lia
theorem KD{α β:Type}{f:α->Option β}{g:α->β}: ∀{l:List α},(∀m∈l,f m=some (g m))->l.filterMap f=l.map g
 |[],_=>rfl
 |x::l,h=>by rw[List.filterMap_cons_some (h x (iW ..)),iJ,KD fun m hm=>h m (jd _ hm)]
theorem JM(xs:jW):((List.range xs.size).filterMap fun(m:Nat)=>xs[((xs.size:Int)-1+(m:Int)*(-1)).toNat]?).toArray=xs.toList.reverse.toArray:=by
 congr 1
 have e:(List.range xs.size).filterMap (fun(m:Nat)=>xs[((xs.size:Int)-1+(m:Int)*(-1)).toNat]?)=(List.range xs.size).map fun m=>xs.toList.reverse.getD m .none:=by
  refine KD fun m hm=>?_;have hm:=uX.1 hm;have:((xs.size:Int)-1+(m:Int)*(-1)).toNat=xs.size-1-m:=by lia
  rw[this];have h2:xs.size-1-m<xs.size:=by lia
  simp[hm,h2,List.getElem_reverse]
 rw[e];apply xf;intro i;by_cases hi:i<xs.size
 ·simp[hi]
 ·simp[hi]
theorem vF{sl:gv}{t:Tok}{n:Nat}{Q:Int×Int×Nat->Shared->Prop}(hs:s.heap.IsSliceOf sl .none .none (.int (-1) t))
  (h:Q ((n:Int)-1, -1,n) s):wpAny (model prog w) A (Builtin.Slice.sliceApplied (.ref sl) (pure (n:Int))) Q E s:=by
 obtain⟨os,y9,aT,bK⟩:=id hs;unfold Builtin.Slice.sliceApplied Builtin.Slice.sliceFields;refine gw (gw (lZ y9 bK (x:= .none) rfl (gw (lZ y9 bK (x:= .none) rfl (gw (lZ y9 bK (x:= .int (-1) t) rfl (gK ?_)))))));refine gw (slicePart_int ?_);show wpAny _ _ (if((-1:Int)==0)=true then _ else _) _ _ s;rw[gF (by decide)];refine gw (A2 (gw (A2 (gw (gK ?_)))));show wpAny _ _ (match Builtin.Slice.sliceAdjust none none (-1) (n:Int) with|(lo,hi)=>pure (lo,(-1:Int),Builtin.Slice.slicePlaces lo hi (-1))) _ _ s;rw[FK n];show wpAny _ _ (pure ((n:Int)-1,(-1:Int),Builtin.Slice.slicePlaces ((n:Int)-1) (-1) (-1))) _ _ s;rw[EK];exact gK h
theorem Fg{t sl:gv}{items:jW}{u:Tok}{Q:hV}(ht:IsTup s.heap t items)(hs:s.heap.IsSliceOf sl .none .none (.int (-1) u))
  (h:Q (.ref s.heap.objs.size) {s with heap:=s.heap.push {cls:= .type "tuple",data:= .seq items.toList.reverse.toArray}})
  (hsz:items.size<=sizeLine):wpAny (model prog w) A (getItem (.ref t) (.ref sl)) Q E s:=by
 have m9:sizeOk (.seq items.toList.reverse.toArray):=by
  show items.toList.reverse.toArray.size<=sizeLine;rw[iw,Ii,jo];exact hsz
 obtain⟨os,y9,aT,bK⟩:=id hs;have dY:s.TypeIs (.ref sl) "slice":=⟨os,y9,aT⟩
 unfold getItem
 try with_reducible refine mX ?_
 first|refine gw (gK ?_)|skip
 refine gw (Ed ht.typeIs (by decide) ?_)
 refine gw (qj (name:=Str.ofString "__getitem__") ht.typeIs wX
  (mU wX ht.typeIs Eb ?_ (Ea _ _)))
 show wpAny _ _ (Builtin.Tuple.tupleItemsOf (.ref t)>>=_) _ _ s;refine gw (D9 ht ?_);refine gw (rV dY ?_);rw[gD (by decide)];refine gw (vF hs ?_);show wpAny _ _ (if((((items.size:Int)-1)==0&&(-1:Int)==1&&items.size==items.size)=true) then _ else _) _ _ s;rw[gF (by simp),JM]
 first
  |exact gw (m:=Builtin.Tuple.tupleExact _) (ll (gK ⟨_,rfl,gK h⟩) m9)
  |exact gw (m:=Builtin.Tuple.tupleExact _) (ll (gw (gK (gK ⟨_,rfl,gK h⟩))) m9)
  |exact gw (gw (m:=Builtin.Tuple.tupleExact _) (ll (gK (gK ⟨_,rfl,gK h⟩)) m9))
  |exact gw (gw (m:=Builtin.Tuple.tupleExact _) (ll (gK ⟨_,rfl,gK h⟩) m9))
end
end HT
namespace L2
open PySem PySem.Spec PyProof.Rows
section
variable {X:Cx}{e st:gM}{te ts:TE}{pos p2:Pos}
def RF(K:hC)(te ts:TE):TE:=fun σ H Q=>te σ H fun x H1=>ts σ H1 fun y H2=>y= .int (-1)/\ ∃a xs,x= .ref a/\SqT K H2 a xs/\ ∀p,H2 p=none->Q (.ref p) (upd H2 p (.tup xs.reverse))
theorem CL(he:PE X e te)(t8:PE X st ts):PE X (.Subscript e (.Slice none none (some st) p2) pos) (RF X.K te ts):=by
 intro pins s σ H Q I h;refine Subscript_ (thn (he pins s σ H _ I h) fun v s1 ⟨x,H1,I1,r1,q1⟩=>?_);refine wpAny_Slice ?_;rw[D8];refine gK (gK ?_);rw[evalPart_some];refine thn (t8 pins s1 σ H1 _ I1 q1) fun u s3 ⟨y,H3,I3,ry,ey,a,xs,ex,hx,q⟩=>?_;subst ey ex;obtain⟨t,rfl⟩:=ry;cases r1;have I4:Inv X pins σ H3 {s3 with heap:=s3.heap.push {cls:= .type "slice",data:= .fields #[.none,.none,.int (-1) t]}}:=I3.kept (t':=s3.toks) fun b ob q=>iz _ q;obtain⟨b6,r,ht,hz⟩:=I4.tuple hx;have hlen:b6.toArray.size=xs.length:=by rw[iw];exact r.length.symm
 show wpAny (model X.prog X.w) X.A (subscriptTail e (.Slice none none (some st) p2) (.ref a) (.ref s3.heap.objs.size)) (EP X pins σ Q) X.xe {s3 with heap:=s3.heap.push {cls:= .type "slice",data:= .fields #[.none,.none,.int (-1) t]}};refine tail_any (ops:=[.ref a,.ref s3.heap.objs.size]) ht.typeIs wX.lookup (HT.Fg ht (Heap.IsSliceOf.new ..) ?_ (by rw[hlen];exact hz)) (by with_unfolding_all rfl);refine⟨.ref _,_,I4.laid (t':=s3.toks) (o:= .tup xs.reverse) (fun b ob q=>iz _ q) (ip _) ?_,rfl,q _ (I4.hok.fresh (ip _))⟩;exact⟨by rw[Ii];exact hz,_,r.reverse,xj _ _⟩
end
end L2
namespace PX
open PySem PySem.Spec PyProof.Rows L2 PySem.SeqAt
def OV:D->Option (D×Bool)
 | .tup l=>some (.tup l.reverse,false)
 |_=>none
theorem RepL.reverse{K H}{O:AP'}: ∀{l:List D} {vs:List V},RepL K H O l vs->RepL K H O l.reverse vs.reverse
 |[],vs,h=>by rw[RepL] at h;subst h;exact RepL.nil
 |d::l,vs,h=>by
  rw[RepL] at h;obtain⟨v,r,rfl,h1,h2⟩:=h;rw[A1,A1];exact(RepL.reverse h2).append (RepL.one h1)
def Fp(fa fs:FO):F:=fun δ=>(fa δ).bind fun p=>(fs p.2).bind fun q=>match res q.2 q.1 with
 |some (.int i)=>if i= -1 then(res q.2 p.1).bind fun x=>(OV x).bind fun z=>some (z,q.2) else none
 |_=>none
section
variable {X:Cx}{a st:gM}{fa fs:FO}{pos p2:Pos}
theorem NV(ha:PO X a fa)(hs:PO X st fs):PX X (.Subscript a (.Slice none none (some st) p2) pos) (Fp fa fs):=
 PX.imp (CL ha hs) fun σ H Q hw=>by
  obtain⟨δ,T,rr,δ',E,e,k⟩:=hw;unfold Fp at e;obtain⟨⟨o1,δ1⟩,h1,e⟩:=gu e;obtain⟨⟨o2,δ2⟩,h2,e⟩:=gu e;dsimp only at e;split at e
  ·rename_i i hi;split at e
   case isFalse=>cases e
   rename_i hi1;subst hi1;obtain⟨x,hx,e⟩:=gu e;obtain⟨z,hz,e⟩:=gu e;obtain⟨rfl,rfl⟩:=gX e;refine⟨δ,T,o1,δ1,E,h1,fun v H1 P1=>⟨δ1,wC T o1 v,o2,δ2,P1.er E,h2,fun u H2 P2=>?_⟩⟩;have B:=Ops.cons E P1 (Ops.cons (P1.er E) P2 (Ops.nil (P2.er (P1.er E))));have hv:=B.view (j:=0) rfl rfl hx;refine⟨hJ (B.view (j:=1) rfl rfl hi),?_⟩
   cases x with
   |tup l=>
    cases hz;rcases hv with hv|⟨_,_,hv⟩
    ·obtain⟨p,xs,rfl,q,r⟩:=hv.tup;exact⟨p,xs,rfl,q.sq,fun p' hp=>(B.done k).tup hp (B.np hp) r.reverse⟩
    ·exact hv.elim
   |_=>cases hz
  ·cases e
end
section
variable {es:jF}{env:Env}
end
end PX
namespace TT
open PySem
def S:Nat->Nat
 |0=>0
 |n+1=>5*S n+1
theorem GV(m:Nat): ∀n:Nat,S (m+n)=5^n*S m+S n
 |0=>by simp[S]
 |n+1=>by
  rw[<-Nat.add_assoc,S,GV m n,S,pj,sA,<-qf,qp 5 (5^n)];lia
theorem yj: ∀n:Nat,∃c,5^n=4*c+1
 |0=>⟨0,rfl⟩
 |n+1=>by
  obtain⟨c,e⟩:=yj n;exact⟨5*c+1,by rw[pj,e];lia⟩
theorem Le: ∀k:Nat,∃c,S (2^k)=2^k*(2*c+1)
 |0=>⟨0,rfl⟩
 |k+1=>by
  obtain⟨c,e⟩:=Le k;obtain⟨d,f⟩:=yj (2^k)
  have h:S (2^(k+1))=(5^2^k+1)*S (2^k):=by
   rw[pj,Nat.mul_two,GV,DR,DQ]
  refine⟨2*(d*c)+d+c,?_⟩;rw[h,f,e,pj];have:4*d+1+1=2*(2*d+1):=by lia
  rw[this,qf 2,qp (2*d+1),qf (2^k),qf (2^k),<-qf 2 (2^k),qp 2 (2^k),qf (2^k) 2]
  congr 2
  rw[DR,sA,DQ,va,qf 2 c,AH c 2 d,qp c d]
  lia
theorem Lf(k n:Nat):S (2^k+n)%2^k=S n%2^k:=by
 obtain⟨c,e⟩:=Le k;rw[GV,e,AH,Nat.mul_add_mod]
theorem B8: ∀(k e:Nat),e<2^k-> ∃n,n<2^k/\S n%2^k=e
 |0,e,h=>⟨0,by simp,by simp at h;subst h;rfl⟩
 |k+1,e,h=>by
  have hP:0<2^k:=Nat.two_pow_pos k;obtain⟨n,hn,hs⟩:=B8 k (e%2^k) (uZ _ hP);obtain⟨c,e1⟩:=Le k;obtain⟨d,e2⟩:=yj n
  have h2:S (2^k+n)=2^(k+1)*(4*d*c+2*d+c)+2^k+S n:=by
   rw[GV,e1,e2,pj,AH,qf (2^k) 2]
   have:(4*d+1)*(2*c+1)=2*(4*d*c+2*d+c)+1:=by
    rw[DR,sA,DQ,va,AH (4*d) 2 c];lia
   rw[this,sA,va]
  rw[pj] at h h2 ⊢;generalize 2^k=P at*;have d1:=Nat.div_add_mod (S n) P;have d2:=Nat.div_add_mod e P;rw[hs] at d1;have hq:e / P<2:=Nat.div_lt_of_lt_mul (by rw[qp] at h;lia)
  have mk: ∀a q x,a=P*2*q+x->x<P*2->a%(P*2)=x:=fun a q x h1 h2=>by
   rw[h1,Nat.mul_add_mod,Nat.mod_eq_of_lt h2]
  have hm:=uZ e hP;have q2:S n / P=2*(S n / P / 2)+S n / P%2:=by lia
  have sn:S n=P*2*(S n / P / 2)+(P*(S n / P%2)+e%P):=by
   rw[qf,<-Nat.add_assoc,<-sA,<-q2];exact d1.symm
  generalize S n / P / 2=q at sn;have r2:S n / P%2<2:=uZ _ (by decide);generalize S n / P%2=r at sn r2;generalize e / P=f at*;by_cases hr:r=f
  ·exact⟨n,by lia,mk _ q _ (by rw[sn,hr,d2]) h⟩
  ·refine⟨P+n,by lia,mk _ (4*d*c+2*d+c+q+r) _ ?_ h⟩;rw[h2,sn,sA (P*2) _ r,sA (P*2) _ q];rcases(show r=0\/r=1 by lia) with rfl|rfl
   ·have:f=1:=by lia
    subst this;rw[DP,DP];rw[va] at d2;lia
   ·have:f=0:=by lia
    subst this;rw[va,va];rw[DP] at d2;lia
def ls(mask:Nat)(h:Int):Nat->Nat×Nat
 |0=>(SetTable.bits h%(mask+1),SetTable.bits h)
 |k+1=>SetTable.leap mask (ls mask h k).1 (ls mask h k).2
theorem ML(h:Int):SetTable.bits h<2^64:=by
 unfold SetTable.bits;have:=DO h (show(0:Int)<2^64 by decide);have:=DN h (show(2^64:Int)≠0 by decide)
 lia
theorem Gp(mask:Nat)(h:Int): ∀k,(ls mask h k).1<=mask
 |0=>by have:=uZ (SetTable.bits h) (show 0<mask+1 by lia);show _%(mask+1)<=_;lia
 |k+1=>by
  show(_%(mask+1))<=_;have:=uZ ((ls mask h k).1*5+1+(ls mask h k).2 / 32) (show 0<mask+1 by lia);lia
theorem Gn(mask:Nat)(h:Int): ∀k,(ls mask h k).2=SetTable.bits h / 32^k
 |0=>by simp[ls]
 |k+1=>by
  show(ls mask h k).2 / 32=_;rw[Gn mask h k,pj,Nat.div_div_eq_div_mul]
theorem Mv(mask:Nat)(h:Int)(k:Nat)(hk:13<=k):(ls mask h k).2=0:=by
 rw[Gn];refine Nat.div_eq_of_lt (mY (ML h) ?_);exact lq (show 2^64<=32^13 by decide) (AG (by decide) hk)
theorem Kd(mask:Nat)(h:Int)(m:Nat)(h0:(ls mask h 13).1=S m%(mask+1)): ∀n,(ls mask h (13+n)).1=S (m+n)%(mask+1)
 |0=>h0
 |n+1=>by
  show(((ls mask h (13+n)).1*5+1+(ls mask h (13+n)).2 / 32)%(mask+1))=_;rw[Mv mask h _ (by lia),Kd mask h m h0 n,Nat.zero_div,DV,<-Nat.add_assoc m n 1,S,Nat.add_mod,Nat.mod_mul_mod,<-Nat.add_mod,qp 5]
theorem CV{mask k:Nat}(hk:mask+1=2^k)(h:Int){e:Nat}(he:e<=mask): ∃n,n<mask+14/\(ls mask h n).1=e:=by
 have hl:=Gp mask h 13;obtain⟨m,hm,em⟩:=B8 k (ls mask h 13).1 (by lia);obtain⟨q,hq,eq⟩:=B8 k e (by lia);rw[<-hk] at em eq hm hq;have far:=Kd mask h m em.symm;by_cases hqm:m<=q
 ·exact⟨13+(q-m),by lia,by rw[far,show m+(q-m)=q by lia];exact eq⟩
 ·refine⟨13+(q+(mask+1)-m),by lia,?_⟩;rw[far,show m+(q+(mask+1)-m)=2^k+q by lia,hk,Lf,<-hk];exact eq
theorem EB(mask i:Nat)(h:i<=mask):i<=SetTable.runEnd mask i/\SetTable.runEnd mask i<=mask/\SetTable.runEnd mask i<=i+9:=by
 unfold SetTable.runEnd;split<;>lia
def tm(mask:Nat)(h:Int):Nat->Nat
 |0=>0
 |k+1=>tm mask h k+(SetTable.runEnd mask (ls mask h k).1-(ls mask h k).1)+1
theorem MW(mask:Nat)(h:Int): ∀k,tm mask h k<=10*k
 |0=>ip _
 |k+1=>by
  have:=MW mask h k;have:=EB mask _ (Gp mask h k);unfold tm;lia
def at_(mask:Nat)(h:Int)(k t:Nat):SetTable.Probe:=⟨(ls mask h k).1+t,SetTable.runEnd mask (ls mask h k).1-(ls mask h k).1-t,(ls mask h k).1,(ls mask h k).2,none⟩
theorem tx(mask:Nat)(h:Int): ∀k t,t<=SetTable.runEnd mask (ls mask h k).1-(ls mask h k).1->pr mask h (tm mask h k+t)=at_ mask h k t
 |0,0,_=>rfl
 |k+1,0,_=>by
  have e:=tx mask h k (SetTable.runEnd mask (ls mask h k).1-(ls mask h k).1) (ip _);show adv mask (pr mask h (tm mask h k+(SetTable.runEnd mask (ls mask h k).1-(ls mask h k).1)))=_;rw[e];unfold adv at_;simp only[Nat.sub_self,oR,ja,gt_iff_lt];rfl
 |k,t+1,ht=>by
  have e:=tx mask h k t (by lia);show adv mask (pr mask h (tm mask h k+t))=_;rw[e];unfold adv at_;rw[gD (show SetTable.runEnd mask (ls mask h k).1-(ls mask h k).1-t>0 by lia)];simp only[SetTable.Probe.mk.injEq,and_true,true_and]
  lia
theorem JJ{mask k:Nat}(hk:mask+1=2^k)(h:Int){e:Nat}(he:e<=mask): ∃n,n<10*(mask+14)/\(pr mask h n).j=e:=by
 obtain⟨r,hr,er⟩:=CV hk h he;have:=MW mask h r;refine⟨tm mask h r,by lia,?_⟩;have:=tx mask h r 0 (lY _);rw[DV] at this;rw[this];exact er
theorem JI(mask:Nat)(h:Int): ∀n,(pr mask h n).dummy=none
 |0=>rfl
 |n+1=>by
  show(adv mask (pr mask h n)).dummy=none;unfold adv;split<;>exact JI mask h n
theorem CK(mask:Nat)(h:Int): ∀n,∃k t,n=tm mask h k+t/\t<=SetTable.runEnd mask (ls mask h k).1-(ls mask h k).1
 |0=>⟨0,0,rfl,lY _⟩
 |n+1=>by
  obtain⟨k,t,e,ht⟩:=CK mask h n;by_cases hq:t+1<=SetTable.runEnd mask (ls mask h k).1-(ls mask h k).1
  ·exact⟨k,t+1,by lia,hq⟩
  ·exact⟨k+1,0,by unfold tm;lia,lY _⟩
theorem JH(mask:Nat)(h:Int)(n:Nat):(pr mask h n).j<=mask:=by
 obtain⟨k,t,e,ht⟩:=CK mask h n;rw[e,tx mask h k t ht];have:=EB mask _ (Gp mask h k);show(ls mask h k).1+t<=mask;lia
theorem Bn{xs:jy}(hr:xs.toList.Pairwise (· < ·)){i j:Nat}{a b:Nat}(u2:i<j)(h1:xs[i]?=some a)(h2:xs[j]?=some b):a<b:=by
 rw[<-lj] at h1 h2;obtain⟨hi,rfl⟩:=uY.mp h1;obtain⟨hj,rfl⟩:=uY.mp h2;exact FU.mp hr i j hi hj u2
theorem yB{xs:jy}(hr:xs.toList.Pairwise (· < ·))(j:Nat): ∀(fuel lo hi:Nat),lo<=hi->hi<=xs.size->hi-lo<=fuel->
  (∀i a,i<lo->xs[i]?=some a->a<j)->(∀i a,hi<=i->xs[i]?=some a->j<=a)->
  let p:=SetTable.below.go xs j fuel lo hi
  p<=xs.size/\(∀i a,i<p->xs[i]?=some a->a<j)/\(∀i a,p<=i->xs[i]?=some a->j<=a)
 |0,lo,hi,h1,h2,h3,h4,h5=>by
  have:lo=hi:=by lia
  subst this;exact⟨h2,h4,h5⟩
 |fuel+1,lo,hi,h1,h2,h3,h4,h5=>by
  unfold SetTable.below.go;by_cases i6:lo<hi
  ·rw[gD i6];have hm:(lo+hi) / 2<xs.size:=by lia
   have hg:xs[(lo+hi) / 2]?=some xs[(lo+hi) / 2]:=mT hm;have hd:xs.getD ((lo+hi) / 2) j=xs[(lo+hi) / 2]:=by simp[Array.getD,hm]
   dsimp only;rw[hd];by_cases hc:xs[(lo+hi) / 2]<j
   ·rw[gD hc];refine yB hr j fuel ((lo+hi) / 2+1) hi (by lia) h2 (by lia) (fun i a dq ha=>?_) h5;by_cases e:i=(lo+hi) / 2
    ·subst e;rw[hg] at ha;cases ha;exact hc
    ·exact Nat.lt_trans (Bn hr (by lia) ha hg) hc
   ·rw[gF hc];refine yB hr j fuel lo ((lo+hi) / 2) (by lia) (by lia) (by lia) h4 (fun i a dq ha=>?_);by_cases e:i=(lo+hi) / 2
    ·subst e;rw[hg] at ha;cases ha;lia
    ·have:=Bn hr (show(lo+hi) / 2<i by lia) hg ha;lia
  ·rw[gF i6];have:lo=hi:=by lia
   subst this;exact⟨h2,h4,h5⟩
theorem nO{xs:jy}(hr:xs.toList.Pairwise (· < ·))(j:Nat):SetTable.below xs j<=xs.size/\(∀i a,i<SetTable.below xs j->xs[i]?=some a->a<j)/\(∀i a,SetTable.below xs j<=i->xs[i]?=some a->j<=a):=
 yB hr j xs.size 0 xs.size (lY _) (ip _) (by lia) (fun i a h=>by lia) (fun i a h1 h2=>by
  have:=(Lk.mp h2).1;lia)
theorem yC{xs:jy}(hr:xs.toList.Pairwise (· < ·)){i j:Nat}(h:xs[i]?=some j):SetTable.below xs j=i:=by
 obtain⟨h1,h2,h3⟩:=nO hr j;by_cases hl:i<SetTable.below xs j
 ·exact absurd (h2 i j hl h) (oR _)
 ·by_cases hg:SetTable.below xs j<i
  ·have hi:=(Lk.mp h).1;have hb:xs[SetTable.below xs j]?=some xs[SetTable.below xs j]:=mT (by lia);have:=h3 _ _ (ip _) hb;have:=Bn hr hg hb h
   lia
  ·lia
theorem BJ(j:Nat):SetTable.has #[] j=false:=rfl
theorem oV{t:jK}(hr:t.place.toList.Pairwise (· < ·)){i j:Nat}(h:t.place[i]?=some j):t.slot j= .live i:=by
 unfold SetTable.slot;dsimp only;rw[yC hr h,h];simp
theorem Ew{t:jK}(hd:t.dummies= #[]){j:Nat}(h:j∉t.place.toList):t.slot j= .empty:=by
 unfold SetTable.slot;dsimp only
 have:(t.place[SetTable.below t.place j]?==some j)=false:=by
  rw[yM];intro e;rw[<-lj] at e;exact h (mV e)
 rw[this,hd,BJ];rfl
theorem K7(t:jK)(p:SetTable.Probe):t.advance p=adv t.mask p:=by
 unfold SetTable.advance adv;split<;>rfl
theorem CJ{hs:hU}{t:jK}(ok:TabOk hs t)(hashAt:Nat->Int)(h:Int): ∀(fuel n:Nat),(∃M,n<=M/\M<n+fuel/\(pr t.mask h M).j∉t.place.toList)->
    ∃m,n<=m/\(∀q,n<=q->q<m-> ∃i,t.place[i]?=some (pr t.mask h q).j/\hashAt i≠h)/\
      (((pr t.mask h m).j∉t.place.toList/\SetTable.probe.go t hashAt h fuel (pr t.mask h n)=some (.empty (pr t.mask h m).j none))\/
       (∃i,t.place[i]?=some (pr t.mask h m).j/\hashAt i=h/\SetTable.probe.go t hashAt h fuel (pr t.mask h n)=some (.candidate (pr t.mask h m).j i (pr t.mask h (m+1)))))
  |0,n,⟨M,h1,h2,h3⟩=>by lia
  |fuel+1,n,⟨M,h1,h2,h3⟩=>by
    unfold SetTable.probe.go;by_cases hm:(pr t.mask h n).j∈t.place.toList
    · obtain⟨i,hi⟩:=ue hm
      rw[lj] at hi;rw[oV ok.ris hi];dsimp only;by_cases hh:hashAt i=h
      · refine⟨n,ip _,fun q h1 h2=>by lia,.inr ⟨i,hi,hh,?_⟩⟩
        rw[gD (by simpa using hh),K7];rfl
      · rw[gF (by simpa using hh),K7]
        have hn:M≠n:=fun e=>h3 (e▸hm);obtain⟨m,g1,g2,g3⟩:=CJ ok hashAt h fuel (n+1) ⟨M,by lia,by lia,h3⟩;refine⟨m,by lia,fun q k1 k2=>?_,g3⟩;by_cases e:q=n
        · subst e;exact⟨i,hi,hh⟩
        · exact g2 q (by lia) k2
    · rw[Ew ok.dum hm]
      dsimp only;rw[JI];exact⟨n,ip _,fun q h1 h2=>by lia,.inl ⟨hm,rfl⟩⟩
theorem yd: ∀(n:Nat) (l:iF),l.length<=n-> ∃e,e<=n/\e∉l
 |0,l,h=>⟨0,ip _,by cases l with|nil=>simp|cons _ _=>simp at h⟩
 |n+1,l,h=>by
  by_cases hm:n+1∈l
  ·obtain⟨e,h1,h2⟩:=yd n (l.erase (n+1)) (by rw[List.length_erase_of_mem hm];lia);exact⟨e,by lia,fun z=>h2 ((Ih (by lia)).mpr z)⟩
  ·exact⟨n+1,ip _,hm⟩
theorem TabOk.free{hs:hU}{t:jK}(ok:TabOk hs t)(h:Int): ∃M,M<10*(t.mask+14)/\(pr t.mask h M).j∉t.place.toList:=by
 obtain⟨k,_,_,hk⟩:=ok.pow
 have h1:t.place.toList.length<=t.mask:=by
  have:=ok.len;have:=ok.room;rw[jo];lia
 obtain⟨e,he,hn⟩:=yd t.mask _ h1;obtain⟨n,h2,h3⟩:=JJ hk h he;exact⟨n,h2,by rw[h3];exact hn⟩
theorem kK{α:Type}(xs:Array α)(p:Nat)(x:α):(SetTable.insertAt xs p x).toList=xs.toList.take p++x::xs.toList.drop p:=by
 unfold SetTable.insertAt;simp[Array.toList_extract,List.extract];rw[sJ (by simp)]
theorem EC{xs:jy}(hr:xs.toList.Pairwise (· < ·)){j:Nat}(hj:j∉xs.toList):(SetTable.insertAt xs (SetTable.below xs j) j).toList.Pairwise (· < ·):=by
 obtain⟨h1,h2,h3⟩:=nO hr j;rw[kK,mw];refine⟨hr.sublist (mW _ _),?_,?_⟩
 ·rw[nX];refine⟨fun a ha=>?_,hr.sublist (oM _ _)⟩;obtain⟨i,hi⟩:=ue ha;rw[vd] at hi;have h4:=h3 _ _ (show SetTable.below xs j<=SetTable.below xs j+i by lia) (by rw[<-lj];exact hi);have:a≠j:=fun e=>hj (e▸mV hi)
  lia
 ·intro a ha b hb
  have haj:a<j:=by
   obtain⟨i,hi⟩:=ue ha;rw[List.getElem?_take] at hi;split at hi
   ·rename_i i6;exact h2 i a i6 (by rw[<-lj];exact hi)
   ·cases hi
  rcases jj.mp hb with rfl|hb
  ·exact haj
  ·obtain⟨i,hi⟩:=ue hb;rw[vd] at hi;have h4:=h3 _ _ (show SetTable.below xs j<=SetTable.below xs j+i by lia) (by rw[<-lj];exact hi)
   lia
theorem TabOk.fresh(finger moves:Nat)(led:Bool):TabOk [] (SetTable.fresh finger moves led) where
 pow:=⟨3,by lia,by lia,rfl⟩
 dum:=rfl
 len:=rfl
 room:=by show 5*0<3*7;lia
 ris:= .nil
 bd:=fun j h=>by simp[SetTable.fresh] at h
 road:=fun i h j h1=>by simp at h1
theorem TabOk.put{hs:hU}{t:jK}(ok:TabOk hs t){h:Int}{n:Nat}(he:(pr t.mask h n).j∉t.place.toList)(hb: ∀m,m<n->(pr t.mask h m).j∈t.place.toList)(hr:5*(hs.length+1)<3*t.mask){j p:Nat}(hj:j=(pr t.mask h n).j)(hp:p=SetTable.below t.place j):
  TabOk (hs.take p++h::hs.drop p) (t.put j).1/\(t.put j).2=p:=by
 subst hj;subst hp
 have e1:(t.put (pr t.mask h n).j).1={t with place:=SetTable.insertAt t.place (SetTable.below t.place (pr t.mask h n).j) (pr t.mask h n).j,dummies:= #[]}:=by
  unfold SetTable.put;dsimp only;rw[ok.dum,BJ];rfl
 obtain⟨h1,_,_⟩:=nO ok.ris (pr t.mask h n).j;have hl:=ok.len
 have mem: ∀x,x∈t.place.toList->x∈(SetTable.insertAt t.place (SetTable.below t.place (pr t.mask h n).j) (pr t.mask h n).j).toList:=fun x hx=>by
  rw[kK];rw[<-lW (SetTable.below t.place (pr t.mask h n).j) t.place.toList] at hx;rcases lK.mp hx with hx|hx
  ·exact lK.mpr (.inl hx)
  ·exact lK.mpr (.inr (jd _ hx))
 refine⟨?_,rfl⟩;rw[e1];generalize hP:SetTable.below t.place (pr t.mask h n).j=P at*;refine⟨ok.pow,rfl,?_,?_,?_,fun x hx=>?_,fun i h' j' g1 g2=>?_⟩
 ·show(SetTable.insertAt t.place P (pr t.mask h n).j).size=_;rw[<-jo,kK];simp only[kZ,jO,nW,qy,jo];lia
 ·show 5*_<3*t.mask;simp only[kZ,jO,nW,qy];lia
 ·have:=EC ok.ris he;rw[hP] at this;exact this
 ·have bh:x∈(SetTable.insertAt t.place P (pr t.mask h n).j).toList:=hx;rw[kK] at bh;show x<=t.mask;rcases lK.mp bh with hx|hx
  ·exact ok.bd x (lV hx)
  ·rcases jj.mp hx with rfl|hx
   ·exact JH _ _ _
   ·exact ok.bd x (lG hx)
 ·have q9:(SetTable.insertAt t.place P (pr t.mask h n).j).toList[i]?=some j':=by rw[lj];exact g2
  rw[kK] at q9;show ∃n',(pr t.mask h' n').j=j'/\ ∀m,m<n'->(pr t.mask h' m).j∈(SetTable.insertAt t.place P (pr t.mask h n).j).toList;have fB:(t.place.toList.take P).length=P:=by rw[nW,jo];lia
  have lt2:(hs.take P).length=P:=by rw[nW];lia
  by_cases hi:i<P
  ·rw[xk (by lia),IB hi] at g1 q9;rw[lj] at q9;obtain⟨q,q1,q2⟩:=ok.road i h' j' g1 q9;exact⟨q,q1,fun m hm=>mem _ (q2 m hm)⟩
  ·rw[vz (by lia),fB] at q9;rw[vz (by lia),lt2] at g1
   cases hd:i-P with
   |zero=>
    rw[hd] at g1 q9;simp at g1 q9;subst g1;subst q9;exact⟨n,rfl,fun m hm=>mem _ (hb m hm)⟩
   |succ d=>
    rw[hd] at g1 q9;simp only[AF,vd] at g1 q9;rw[lj] at q9;obtain⟨q,q1,q2⟩:=ok.road _ h' j' g1 q9;exact⟨q,q1,fun m hm=>mem _ (q2 m hm)⟩
def occ(ow:qd)(j:Nat):Prop:= ∃i,ow.getD j none=some i
theorem BK{ow:qd}{j:Nat}{d:Option Nat}(h:j<ow.size):ow.getD j d=ow.getD j none:=by simp[Array.getD,h]
theorem zY{mask:Nat}{ow:qd}(hz:ow.size=mask+1)(h:Int): ∀(fuel k:Nat),(∃r,k<=r/\r<k+fuel/\ ¬occ ow (ls mask h r).1)->(∀m,m<tm mask h k->occ ow (pr mask h m).j)->
  ∃n,SetTable.layClean.free mask ow fuel (ls mask h k).1 (ls mask h k).2=some (pr mask h n).j/\ ¬occ ow (pr mask h n).j/\ ∀m,m<n->occ ow (pr mask h m).j
 |0,k,⟨r,h1,h2,_⟩,_=>by lia
 |fuel+1,k,⟨r,h1,h2,h3⟩,hb=>by
  unfold SetTable.layClean.free;have hl:=Gp mask h k;have hrn:=EB mask _ hl
  cases hf:(List.range (SetTable.runEnd mask (ls mask h k).1+1-(ls mask h k).1)).find? fun t=>(ow.getD ((ls mask h k).1+t) (some 0)).isNone with
  |some t=>
   rw[List.find?_range_eq_some] at hf;obtain⟨a1,a2,a3⟩:=hf;rw[uX] at a2;have ht:t<=SetTable.runEnd mask (ls mask h k).1-(ls mask h k).1:=by lia
   have e:=tx mask h k t ht;refine⟨tm mask h k+t,by rw[e];rfl,?_,fun m hm=>?_⟩
   ·rw[e];rintro⟨i,hi⟩;rw[BK (by show(ls mask h k).1+t<_;lia)] at a1;have dq:ow.getD ((ls mask h k).1+t) none=some i:=hi;rw[dq] at a1;simp at a1
   ·by_cases i6:m<tm mask h k
    ·exact hb m i6
    ·have e2:=tx mask h k (m-tm mask h k) (by lia);rw[show tm mask h k+(m-tm mask h k)=m by lia] at e2;rw[e2];have:=a3 (m-tm mask h k) (by lia);rw[BK (by show(ls mask h k).1+(m-tm mask h k)<_;lia)] at this;show occ ow ((ls mask h k).1+(m-tm mask h k));unfold occ
     cases hq:ow.getD ((ls mask h k).1+(m-tm mask h k)) none with
     |none=>rw[hq] at this;simp at this
     |some i=>exact⟨i,rfl⟩
  |none=>
   rw[List.find?_range_eq_none] at hf
   have all: ∀t,t<=SetTable.runEnd mask (ls mask h k).1-(ls mask h k).1->occ ow ((ls mask h k).1+t):=fun t ht=>by
    have:=hf t (by lia);rw[BK (by lia)] at this;unfold occ
    cases hq:ow.getD ((ls mask h k).1+t) none with
    |none=>rw[hq] at this;simp at this
    |some i=>exact⟨i,rfl⟩
   have hr:r≠k:=fun e=>h3 (by subst e;have:=all 0 (lY _);simpa using this)
   have:=zY hz h fuel (k+1) ⟨r,by lia,by lia,h3⟩ (fun m hm=>by
    by_cases i6:m<tm mask h k
    ·exact hb m i6
    ·unfold tm at hm;have e2:=tx mask h k (m-tm mask h k) (by lia);rw[show tm mask h k+(m-tm mask h k)=m by lia] at e2;rw[e2];exact all _ (by lia))
   exact this
theorem yi{α β:Type}{f g:α->Option β}: ∀{l:List α},(∀x∈l,f x=g x)->l.filterMap f=l.filterMap g
 |[],_=>rfl
 |x::l,h=>by rw[ui,ui,h x iW,yi fun y hy=>h y (jd _ hy)]
def nH(mask:Nat)(ow:qd):List (Nat×Nat):=(List.range (mask+1)).filterMap fun j=>(ow.getD j none).map (j,·)
theorem Lm{mask:Nat}{ow:qd}{j i:Nat}:(j,i)∈nH mask ow↔j<=mask/\ow.getD j none=some i:=by
 unfold nH;simp only[List.mem_filterMap,uX,Option.map_eq_some_iff,Prod.mk.injEq];constructor
 ·rintro⟨a,h1,b,h2,rfl,rfl⟩;exact⟨by lia,h2⟩
 ·rintro⟨h1,h2⟩;exact⟨j,by lia,i,h2,rfl,rfl⟩
theorem Kh(mask:Nat)(ow:qd):((nH mask ow).map (·.1)).Pairwise (· < ·):=by
 unfold nH;rw[List.map_filterMap,List.pairwise_filterMap];refine MU.imp fun {a b} hab x hx y hy=>?_;simp only[Option.mem_def,Option.map_map,Option.map_eq_some_iff,Function.comp] at hx hy;obtain⟨_,_,rfl⟩:=hx;obtain⟨_,_,rfl⟩:=hy;exact hab
theorem Kg{mask:Nat}{ow:qd}(hz:ow.size=mask+1){j k:Nat}(hj:j<=mask)(hn:ow.getD j none=none):(nH mask (ow.setIfInBounds j (some k))).Perm ((j,k)::nH mask ow):=by
 have g: ∀i,(ow.setIfInBounds j (some k)).getD i none=if i=j then some k else ow.getD i none:=fun i=>by
  simp only[qr,AE];by_cases e:i=j
  ·subst e;simp[show i<ow.size by lia]
  ·rw[gF (fun z=>e z.symm),gF e]
 have split:List.range (mask+1)=List.range j++j::(List.range (mask-j)).map (fun x=>j+1+x):=by
  rw[show mask+1=j+(mask-j+1) by lia,List.range_add,List.range_succ_eq_map];simp[Function.comp_def,Nat.add_assoc,Nat.add_comm 1]
 unfold nH;rw[split,Ig,Ig,ui,ui];simp only[g,hn,gD rfl,Option.map_none,Option.map_some]
 have a1:(List.range j).filterMap (fun i=>(if i=j then some k else ow.getD i none).map (i,·))=(List.range j).filterMap (fun i=>(ow.getD i none).map (i,·)):=
  yi fun i hi=>by rw[uX] at hi;rw[gF (by lia)]
 have a2:((List.range (mask-j)).map (fun x=>j+1+x)).filterMap (fun i=>(if i=j then some k else ow.getD i none).map (i,·))=((List.range (mask-j)).map (fun x=>j+1+x)).filterMap (fun i=>(ow.getD i none).map (i,·)):=
  yi fun i hi=>by
   obtain⟨x,_,rfl⟩:=nQ.mp hi;rw[gF (by lia)]
 rw[a1,a2];exact DC
structure LayOk(mask:Nat)(hs:hU)(ow:qd):Prop where
 size:ow.size=mask+1
 perm:((nH mask ow).map (·.2)).Perm (List.range hs.length)
 road: ∀j i h,ow.getD j none=some i->hs[i]?=some h-> ∃n,(pr mask h n).j=j/\ ∀m,m<n->occ ow (pr mask h m).j
theorem Gk{ow:qd}{j k x:Nat}(h:occ ow x):occ (ow.setIfInBounds j (some k)) x:=by
 obtain⟨i,hi⟩:=h;unfold occ;simp only[qr,AE] at hi ⊢;by_cases e:j=x
 ·subst e;rw[gD rfl];split
  ·exact⟨k,rfl⟩
  ·rename_i hz;rw[AD (by lia)] at hi;simp at hi
 ·rw[gF e];exact⟨i,hi⟩
theorem LayOk.step{mask k:Nat}(hk:mask+1=2^k){hs:hU}{ow:qd}(ok:LayOk mask hs ow)(h:Int)(hr:hs.length<=mask):
  ∃j,SetTable.layClean.free mask ow (SetTable.turns mask) (SetTable.bits h%(mask+1)) (SetTable.bits h)=some j/\LayOk mask (hs++[h]) (ow.setIfInBounds j (some hs.length)):=by
 have hlen:(nH mask ow).length=hs.length:=by have:=ok.perm.length_eq;simpa using this
 obtain⟨e,he,hn⟩:=yd mask ((nH mask ow).map (·.1)) (by rw[jw];lia)
 have cp: ¬occ ow e:=by
  rintro⟨i,hi⟩;exact hn (nQ.mpr ⟨(e,i),Lm.mpr ⟨he,hi⟩,rfl⟩)
 obtain⟨r,hr1,hr2⟩:=CV hk h he;obtain⟨n,f1,f2,f3⟩:=zY ok.size h (SetTable.turns mask) 0 ⟨r,lY _,by unfold SetTable.turns;lia,by rw[hr2];exact cp⟩ (fun m hm=>by simp[tm] at hm);have hj:=JH mask h n
 have bo:ow.getD (pr mask h n).j none=none:=by
  cases hq:ow.getD (pr mask h n).j none with
  |none=>rfl
  |some i=>exact absurd ⟨i,hq⟩ f2
 refine⟨_,f1,⟨by rw[Array.size_setIfInBounds];exact ok.size,?_,fun j i h' g1 g2=>?_⟩⟩
 ·refine((Kg ok.size hj bo).map _).trans ?_;rw[iJ,kZ,sQ,List.range_succ];exact(List.Perm.cons _ ok.perm).trans (Ie _ _).symm
 ·by_cases hjj:j=(pr mask h n).j
  ·subst hjj
   have:i=hs.length:=by
    simp only[qr,AE,gD rfl] at g1;rw[gD True.intro,gD (by rw[ok.size];lia)] at g1;exact(iO g1).symm
   subst this;rw[vz (ip _)] at g2;simp at g2;subst g2;exact⟨n,rfl,fun m hm=>Gk (f3 m hm)⟩
  ·have ar:ow.getD j none=some i:=by
    simp only[qr,AE] at g1 ⊢;rw[gF (fun z=>hjj z.symm)] at g1;exact g1
   have hi:i<hs.length:=by
    have hjm:j<=mask:=by
     by_cases q:j<ow.size
     ·have:=ok.size;lia
     ·rw[qr,AD (by lia)] at ar;simp at ar
    have:=ok.perm.mem_iff.mp (nQ.mpr ⟨(j,i),Lm.mpr ⟨hjm,ar⟩,rfl⟩);exact uX.mp this
   rw[xk hi] at g2;obtain⟨q,q1,q2⟩:=ok.road j i h' ar g2;exact⟨q,q1,fun m hm=>Gk (q2 m hm)⟩
theorem LayOk.start(mask:Nat):LayOk mask [] (Array.replicate (mask+1) none) where
 size:=by simp
 perm:=by
  have:nH mask (Array.replicate (mask+1) none)=[]:=by
   unfold nH;refine List.filterMap_eq_nil_iff.mpr fun j hj=>?_;rw[qr,Ic];split<;>rfl
  rw[this];exact sL _
 road:=fun j i h h1=>by
  rw[qr,Ic] at h1;split at h1<;>cases h1
def uE(mask:Nat)(acc:Option (Array (Option Nat)×Nat))(h:Int):Option (Array (Option Nat)×Nat):=do
 let(owner,k) <-acc
 let j <-SetTable.layClean.free mask owner (SetTable.turns mask) (SetTable.bits h%(mask+1)) (SetTable.bits h)
 pure (owner.setIfInBounds j (some k),k+1)
theorem CW{mask k:Nat}(hk:mask+1=2^k): ∀(l hs:hU) (ow:qd),LayOk mask hs ow->hs.length+l.length<=mask+1->
  ∃eC,l.foldl (uE mask) (some (ow,hs.length))=some (eC,hs.length+l.length)/\LayOk mask (hs++l) eC
 |[],hs,ow,ok,_=>⟨ow,rfl,by rw[sX];exact ok⟩
 |h::l,hs,ow,ok,hl=>by
  rw[jO] at hl;obtain⟨j,e,ok'⟩:=ok.step hk h (by lia);obtain⟨eC,e',ok''⟩:=CW hk l (hs++[h]) _ ok' (by rw[kZ,sQ];lia);refine⟨eC,?_,by rw[ky] at ok'';exact ok''⟩;rw[sG]
  have:uE mask (some (ow,hs.length)) h=some (ow.setIfInBounds j (some hs.length),hs.length+1):=by
   unfold uE;show(SetTable.layClean.free mask ow (SetTable.turns mask) (SetTable.bits h%(mask+1)) (SetTable.bits h)>>=_)=_;rw[e];rfl
  rw[this];rw[kZ,sQ] at e';rw[e',jO]
  congr 2;lia
theorem CY{mask k:Nat}(hk:mask+1=2^k)(hs:hU)(hl:hs.length<=mask): ∃ow,SetTable.layClean mask hs.toArray=some ow/\LayOk mask hs ow:=by
 obtain⟨ow,e,ok⟩:=CW hk hs [] _ (LayOk.start mask) (by simp;lia);refine⟨ow,?_,by simpa using ok⟩;unfold SetTable.layClean;rw[<-Array.foldl_toList];show Option.map _ (List.foldl (uE mask) _ hs)=_;have e':List.foldl (uE mask) (some (Array.replicate (mask+1) none,0)) hs=some (ow,hs.length):=by simpa using e
 rw[e'];rfl
theorem My{mask k:Nat}(hk:mask+1=2^k)(h3:3<=k)(h11:k<=11)(finger moves:Nat)(led plain:Bool)(hs:hU)(hl:5*hs.length<3*mask):
  ∃t order,SetTable.laid mask finger moves led plain hs.toArray=some (t,order)/\order.toList.Perm (List.range hs.length)/\TabOk (order.toList.map fun i=>hs.getD i 0) t/\t.plain=plain/\t.led=led:=by
 obtain⟨ow,e,ok⟩:=CY hk hs (by lia);refine⟨{mask,place:=((nH mask ow).map (·.1)).toArray,dummies:= #[],finger,led,moves,plain},((nH mask ow).map (·.2)).toArray,?_,by simpa using ok.perm,?_,rfl,rfl⟩
 ·unfold SetTable.laid;rw[e];rfl
 ·have hlen:(nH mask ow).length=hs.length:=by have:=ok.perm.length_eq;simpa using this
  refine⟨⟨k,h3,h11,hk⟩,rfl,by simp,by simp[hlen];lia,by simpa using Kh mask ow,fun j hj=>?_,fun i h j g1 g2=>?_⟩
  ·have fP:j∈(nH mask ow).map (·.1):=by simpa using hj
   obtain⟨⟨a,b⟩,hm,rfl⟩:=nQ.mp fP;exact(Lm.mp hm).1
  ·have ar:((nH mask ow).map (·.2)).map (fun i=>hs.getD i 0)=(((nH mask ow).map (·.2)).toArray).toList.map fun i=>hs.getD i 0:=by simp
   rw[<-ar,lH,lH] at g1;have q9:((nH mask ow).map (·.1))[i]?=some j:=by simpa using g2
   rw[lH] at q9
   cases hq:(nH mask ow)[i]? with
   |none=>rw[hq] at q9;cases q9
   |some p=>
    obtain⟨a,b⟩:=p;rw[hq] at g1 q9;simp at g1 q9;subst q9;have hm:=Lm.mp (mV hq)
    have hb:b<hs.length:=by
     have:=ok.perm.mem_iff.mp (nQ.mpr ⟨(a,b),mV hq,rfl⟩);exact uX.mp this
    have hh:hs[b]?=some h:=by rw[jb hb] at g1 ⊢;simpa using g1
    obtain⟨n,q1,q2⟩:=ok.road a b h hm.2 hh;refine⟨n,q1,fun m hm'=>?_⟩;obtain⟨i',dq⟩:=q2 m hm';show(pr mask h m).j∈(((nH mask ow).map (·.1)).toArray).toList;have:(pr mask h m).j∈(nH mask ow).map (·.1):=nQ.mpr ⟨(_,i'),Lm.mpr ⟨JH mask h m,dq⟩,rfl⟩;simpa using this
theorem Be: ∀n,n<2048-> ∃k,3<=k/\k<=11/\SetTable.sizeAbove n=2^k/\n<2^k:=by
 intro n hn
 have step: ∀(f k:Nat),3<=k->k<=11->11<k+f-> ∃k',3<=k'/\k'<=11/\SetTable.sizeAbove.go n f (2^k)=2^k'/\n<2^k':=by
  intro f
  induction f with
  |zero=>intro k h1 h2 h3;lia
  |succ f ih=>
   intro k h1 h2 h3;unfold SetTable.sizeAbove.go;by_cases hle:2^k<=n
   ·rw[gD hle,<-pj];have:k≠11:=fun e=>by subst e;lia
    exact ih (k+1) (by lia) (by lia) (by lia)
   ·rw[gF hle];exact⟨k,h1,h2,rfl,by lia⟩
 exact step 64 3 (by lia) (by lia) (by lia)
open PyProof.Rows PySem.SeqAt
theorem Hg{hs:hU}{t:jK}(ok:TabOk hs t){hashAt:Nat->Int}{h:Int}{p:SetTable.Probe}{n:Nat}(hp:p=pr t.mask h n)(hn: ∀m,m<n->(pr t.mask h m).j∈t.place.toList):
    ∃m,n<=m/\m<10*(t.mask+14)/\(∀q,n<=q->q<m-> ∃i,t.place[i]?=some (pr t.mask h q).j/\hashAt i≠h)/\
      (((pr t.mask h m).j∉t.place.toList/\t.probe hashAt h p=some (.empty (pr t.mask h m).j none))\/
       (∃i,t.place[i]?=some (pr t.mask h m).j/\hashAt i=h/\t.probe hashAt h p=some (.candidate (pr t.mask h m).j i (pr t.mask h (m+1))))):=by
  subst hp;obtain⟨M,h1,h2⟩:=ok.free h
  have hM:n<=M:=by
    by_cases hq:M<n
    · exact absurd (hn M hq) h2
    · lia
  obtain⟨m,g1,g2,g3⟩:=CJ ok hashAt h (10*SetTable.turns t.mask) n ⟨M,hM,by unfold SetTable.turns;lia,h2⟩
  have hm:m<=M:=by
    by_cases hq:M<m
    · obtain⟨i,hi,_⟩:=g2 M hM hq
      rw[<-lj] at hi;exact absurd (mV hi) h2
    · lia
  exact⟨m,g1,by lia,g2,g3⟩
section
variable {prog:hG}{w:gS}{A:gW}{E:hV}{s:gA}
structure Srch(A:gW)(s:gA)(a:gv)(es:lM)(n:Nat)(t:jK)(x:gL)(h:Int)(eqs:Nat->Bool):Prop where
 at_: ∃o,s.heap.get? a=some o/\o.data= .set es n t
 tab:TabOk (es.toList.map (·.1)) t
 refs: ∀(i:Nat) (e:Int×Value),es[i]?=some e-> ∃b,e.2= .ref b
 eq: ∀(i:Nat) (e:Int×Value),es[i]?=some e->EqAt A s e.2 x (eqs i)
 hash: ∀(i:Nat) (e:Int×Value),es[i]?=some e->eqs i=true->e.1=h
 quiet: ∀(l:iL) (prog:hG) (w:gS) (E:hV) (Q:pS),(∀v∈l,∃e∈es.toList,e.2=v)->Q false s->wpAny (model prog w) A (searchCouldBeSeen x l) Q E s
theorem J7{hs:hU}{t:jK}(ok:TabOk hs t):t.gaveWay=false:=by
 obtain⟨k,h1,_,h3⟩:=ok.pow;obtain⟨k',rfl⟩: ∃k',k=k'+1:=⟨k-1,by lia⟩
 rw[pj] at h3;unfold SetTable.gaveWay;rw[yM];lia
theorem GF{hs:hU}{t:jK}(ok:TabOk hs t){n:Nat}(h:hs.length=n):t.fits n=true:=by
 have:=ok.len;have:=ok.room;unfold SetTable.fits SetTable.fill;rw[ok.dum];simp only[jr,beq_iff_eq,mE];exact⟨by lia,by show _+0<=_;lia⟩
theorem Srch.fits{a es n t x h eqs}(S:Srch A s a es n t x h eqs):t.fits es.size=true:=GF S.tab (by simp)
theorem qD{a:gv}{es:lM}{nn:Nat}{t:jK}{x:gL}{h:Int}{eqs:Nat->Bool}{adding:Bool}(S:Srch A s a es nn t x h eqs){Q:SetFound->Shared->Prop}
  (o6: ∀i r,eqs i=true->i<es.size->(r=none\/r=some i)->(adding=false->r=some i)->Q (.there r) s)
  (n4:(∀i,i<es.size->eqs i=false)-> ∀n,(pr t.mask h n).j∉t.place.toList->(∀m,m<n->(pr t.mask h m).j∈t.place.toList)->Q (.free (pr t.mask h n).j false) s):
  ∀(fuel n:Nat) (x9:Option SetTable.Probe),x9.getD (t.probeStart h)=pr t.mask h n->(∀q,q<n-> ∃i,t.place[i]?=some (pr t.mask h q).j/\eqs i=false)->10*(t.mask+14)<n+fuel->n<=10*(t.mask+14)->
   wpAny (model prog w) A (setSearchFrom a x h adding fuel x9) Q E s
 |0,n,x9,_,_,hf,hn=>by lia
 |fuel+1,n,x9,t8,hb,hf,hn=>by
  obtain⟨o,ho,hd⟩:=S.at_
  have occ: ∀m,m<n->(pr t.mask h m).j∈t.place.toList:=fun m hm=>by
   obtain⟨i,hi,_⟩:=hb m hm;rw[<-lj] at hi;exact mV hi
  unfold setSearchFrom;refine gw (rP ho hd S.fits ?_);dsimp only;rw[J7 S.tab];simp only[iM,↓reduceIte];generalize hP:t.probe _ h _=P;obtain⟨m,m1,m2,m3,m4⟩:=Hg S.tab t8 occ (hashAt:=fun i=>(es[i]?.map (·.1)).getD 0);have hP':t.probe (fun i=>(es[i]?.map (·.1)).getD 0) h (x9.getD (t.probeStart h))=P:=hP;rw[hP'] at m4
  have eN: ∀(i:Nat) (j:Nat),t.place[i]?=some j-> ∃e,es[i]?=some e/\(es[i]?.map (·.1)).getD 0=e.1:=fun i j hi=>by
   have h1:=(Lk.mp hi).1;have h2:=S.tab.len;rw[jw,jo] at h2;exact⟨es[i],mT (by lia),by rw[mT (by lia)];rfl⟩
  have ne: ∀(i:Nat) (j:Nat),t.place[i]?=some j->(es[i]?.map (·.1)).getD 0≠h->eqs i=false:=fun i j hi r9=>by
   obtain⟨e,he,hh⟩:=eN i j hi
   cases hq:eqs i with
   |false=>rfl
   |true=>exact absurd (hh.trans (S.hash i e he hq)) r9
  have seen: ∀q,q<m-> ∃i,t.place[i]?=some (pr t.mask h q).j/\eqs i=false:=fun q hq=>by
   by_cases i6:q<n
   ·exact hb q i6
   ·obtain⟨i,hi,r9⟩:=m3 q (by lia) hq;exact⟨i,hi,ne i _ hi r9⟩
  rcases m4 with⟨a1,a2⟩|⟨i,a1,a2,a3⟩
  ·subst a2;dsimp only;refine gK (n4 (fun i hi=>?_) m a1 fun q hq=>?_)
   ·cases hq:eqs i with
    |false=>rfl
    |true=>
     exfalso;have he:es[i]?=some es[i]:=mT hi;have h1:=S.hash i _ he hq;have h2:=S.tab.len;rw[jw,jo] at h2;have i8:t.place[i]?=some t.place[i]:=mT (by lia);obtain⟨n',r1,r2⟩:=S.tab.road i h t.place[i] (by rw[lH,lj,he];exact rW some h1) i8
     have:n'<m:=by
      by_cases i6:n'<m
      ·exact i6
      ·exfalso;rcases Nat.lt_or_eq_of_le (Nat.not_lt.mp i6) with i6|heq
       ·exact a1 (r2 m i6)
       ·subst heq;rw[<-lj] at i8;rw[r1] at a1;exact a1 (mV i8)
     obtain⟨i',g1,g2⟩:=seen n' this;rw[r1] at g1;have:i'=i:=by rw[<-yC S.tab.ris g1,yC S.tab.ris i8]
     rw[this,hq] at g2;cases g2
   ·obtain⟨i,hi,_⟩:=seen q hq;rw[<-lj] at hi;exact mV hi
  ·subst a3;dsimp only;obtain⟨e,he,hh⟩:=eN i _ a1;obtain⟨h',y⟩:=e;obtain⟨b,hy⟩:=S.refs i _ he;dsimp only at hy;subst hy;have sm:t.sameMemory t.moves t.mask=some true:=by simp[SetTable.sameMemory]
   have eI:i<es.size:=(Lk.mp he).1;cases hl:t.led
   ·simp only[Bool.not_false,↓reduceIte];refine gw (S.quiet _ _ _ _ _ (fun v hv=>?_) ?_)
    ·obtain⟨e,bJ,rfl⟩:=nQ.mp hv;exact⟨e,(Pr.mp (by simpa using(Array.mem_filter.mp (Pr.mp bJ)).1) |> fun z=>by simpa using z),rfl⟩
    simp only[iM,↓reduceIte];rw[he];dsimp only;refine gw (mX (S.eq i _ he _ _ _ _ ?_));refine gw (rP ho hd S.fits ?_);dsimp only
    cases hq:eqs i with
    |true=>
     cases adding with
     |true=>simp only[Bool.and_self,↓reduceIte];exact gK (o6 i none hq eI (.inl rfl) (fun z=>by cases z))
     |false=>
      simp only[sY,iM,↓reduceIte,sm,oV S.tab.ris a1,he];refine gw (AB ?_);simp only[↓reduceIte];exact gw (gK (gK (o6 i _ hq eI (.inr rfl) fun _=>rfl)))
    |false=>
     simp only[vq,iM,↓reduceIte,sm,oV S.tab.ris a1,he];refine gw (AB ?_);simp only[↓reduceIte];refine gw (gK ?_)
     exact qD S o6 n4 fuel (m+1) _ rfl (fun q fK=>by
      by_cases e:q=m
      ·subst e;exact⟨i,a1,hq⟩
      ·exact seen q (by lia)) (by lia) (by lia)
   ·simp only[lX,iM,↓reduceIte];rw[he];dsimp only;refine gw (mX (S.eq i _ he _ _ _ _ ?_));refine gw (rP ho hd S.fits ?_);dsimp only
    cases hq:eqs i with
    |true=>
     cases adding with
     |true=>simp only[Bool.and_self,↓reduceIte];exact gK (o6 i none hq eI (.inl rfl) (fun z=>by cases z))
     |false=>
      simp only[sY,iM,↓reduceIte,sm,oV S.tab.ris a1,he];refine gw (AB ?_);simp only[↓reduceIte];exact gw (gK (gK (o6 i _ hq eI (.inr rfl) fun _=>rfl)))
    |false=>
     simp only[vq,iM,↓reduceIte,sm,oV S.tab.ris a1,he];refine gw (AB ?_);simp only[↓reduceIte];refine gw (gK ?_)
     exact qD S o6 n4 fuel (m+1) _ rfl (fun q fK=>by
      by_cases e:q=m
      ·subst e;exact⟨i,a1,hq⟩
      ·exact seen q (by lia)) (by lia) (by lia)
end
abbrev ki(es:lM)(n:Nat)(t:jK):Obj:={cls:= .type "set",data:= .set es n t}
section
variable {prog:hG}{w:gS}{A:gW}{E:hV}{s:gA}
theorem Cq{h:gU}{a:gv}{es es':lM}{n:Nat}{t t':jK}(ho:h.get? a=some (ki es n t)):(h.update a (Obj.putSet es' t')).get? a=some (ki es' (n+1) t'):=by
 have:=rT (Obj.putSet es' t') ho (by rw[putSet_of es' t' rfl];rfl);rw[putSet_of es' t' rfl] at this;exact this
theorem Js{α:Type}(es:Array α):(List.range es.size).filterMap (fun i=>es[i]?)=es.toList:=by
 have: ∀(l:List α),(List.range l.length).filterMap (fun i=>l[i]?)=l:=by
  intro l
  induction l with
  |nil=>rfl
  |cons x l ih=>
   rw[jO,List.range_succ_eq_map,ui];simp only[List.getElem?_cons_zero,List.filterMap_map,Function.comp_def,AF,ih]
 have h:=this es.toList;simpa using h
theorem GD{es:lM}: ∀(l:iF),(∀i∈l,i<es.size)->(l.filterMap (fun i=>es[i]?)).map (·.1)=l.map fun i=>(es.toList.map (·.1)).getD i 0
 |[],_=>rfl
 |i::l,h=>by
  have hi:=h i iW;rw[ui,mT hi];simp only[iJ];rw[GD l fun j hj=>h j (jd _ hj)]
  congr 1
  simp[hi]
theorem Jo{a:gv}{es:lM}{n:Nat}{t:jK}(ho:s.heap.get? a=some (ki es n t))(hf:t.fits es.size=true)(h5:5<=es.size)(hz:es.size<=500){Q:Unit->Shared->Prop}
  (h: ∀h' es' n' t',Heap.SameBut a s.heap h'->h'.get? a=some (ki es' n' t')->es'.toList.Perm es.toList->TabOk (es'.toList.map (·.1)) t'->t'.plain=t.plain->t'.led=t.led->Q () {s with heap:=h'}):
  wpAny (model prog w) A (setRelay a (SetTable.grown es.size)) Q E s:=by
 have hg:SetTable.grown es.size=es.size*4:=by unfold SetTable.grown;rw[gF (by lia)]
 obtain⟨k,k3,eF,ek,lk⟩:=Be (es.size*4) (by lia);have hm:SetTable.sizeAbove (es.size*4)-1+1=2^k:=by have:=Nat.two_pow_pos k;lia
 obtain⟨t',order,e1,e2,e3,e4,e5⟩:=My hm k3 eF t.finger (t.movedTo (SetTable.sizeAbove (es.size*4)-1)) t.led t.plain (es.toList.map (·.1)) (by rw[jw,jo];lia);rw[jw,jo] at e2
 have er:t.relaid (es.map (·.1)) (es.size*4)=some (t',order):=by
  unfold SetTable.relaid;rw[<-e1,<-Array.toList_map]
 have hmem: ∀i∈order.toList,i<es.size:=fun i hi=>uX.mp (e2.mem_iff.mp hi);have pl:(order.filterMap (es[·]?)).toList=order.toList.filterMap (fun i=>es[i]?):=by simp
 have perm:(order.filterMap (es[·]?)).toList.Perm es.toList:=by
  rw[pl];refine(e2.filterMap _).trans ?_;rw[Js]
 have sz:(order.filterMap (es[·]?)).size=es.size:=by rw[<-jo,perm.length_eq,jo]
 rw[hg];unfold setRelay;refine gw (rP ho rfl hf ?_);dsimp only
 have hs:2^k<=sizeLine:=by
  have:2^k<=2^11:=AG (by decide) eF;rw[ic];lia
 rw[gF (by rw[ek];lia),er];refine gw ?_;change wpAny _ _ (if((order.filterMap (es[·]?)).size !=es.size)=true then _ else _) _ _ _;rw[gF (by rw[sz];simp)];refine gK ?_;dsimp only;refine wpAny_storeSet_of ho rfl ?_ (by rw[sz,ic];lia);refine h _ (order.filterMap (es[·]?)) (n+1) t' (uc s.heap a _) (Cq ho) perm ?_ e4 e5;rw[pl,GD _ hmem];exact e3
theorem oA{α:Type}(xs:Array α)(p:Nat)(x:α):(SetTable.insertAt xs p x).toList.Perm (x::xs.toList):=by
 rw[kK];refine DC.trans ?_;rw[lW]
theorem Rx{a b:gv}{es:lM}{n:Nat}{t:jK}{h:Int}{eqs:Nat->Bool}(S:Srch A s a es n t (.ref b) h eqs)(ho:s.heap.get? a=some (ki es n t))(i8:t.plain=true)(hz:es.size+1<=500)
  (hbv: ∀(Q':pS),Q' true s->wpAny (model prog w) A (hashByValue 8 (.ref b)) Q' E s){Q:pS}
  (hold:(∃i,i<es.size/\eqs i=true)->Q false s)
  (aq:(∀i,i<es.size->eqs i=false)-> ∀h' es' n' t',Heap.SameBut a s.heap h'->h'.get? a=some (ki es' n' t')->es'.toList.Perm ((h,.ref b)::es.toList)->TabOk (es'.toList.map (·.1)) t'->t'.plain=true->t'.led=t.led->Q true {s with heap:=h'}):
  wpAny (model prog w) A (setAddHashed a (.ref b) h) Q E s:=by
 unfold setAddHashed setAddHashedIn;refine mX (gw (rP ho rfl S.fits ?_));dsimp only;have hbs:byScan (.ref b) es=false:=rfl;rw[hbs];simp only[iM,↓reduceIte]
 have hm:t.mask+1<=2048:=by
  obtain⟨k,_,eF,ek⟩:=S.tab.pow;have:2^k<=2^11:=AG (by decide) eF
  lia
 refine gw (qD S (adding:=true) (fun i r h1 h2 _ _=>?_) (fun cp m h1 h2=>?_) 100000 0 none rfl (fun q hq=>by lia) (by lia) (by lia))
 ·dsimp only;exact gK (hold ⟨i,h2,h1⟩)
 ·dsimp only;refine gw (rP ho rfl S.fits ?_);dsimp only
  have e1:(t.put (pr t.mask h m).j).1={t with place:=SetTable.insertAt t.place (SetTable.below t.place (pr t.mask h m).j) (pr t.mask h m).j,dummies:= #[]}:=by
   unfold SetTable.put;dsimp only;rw[S.tab.dum,BJ];rfl
  have e2:(t.put (pr t.mask h m).j).2=SetTable.below t.place (pr t.mask h m).j:=rfl;have cN:(t.put (pr t.mask h m).j).1.plain=true:=by rw[e1];exact i8
  rw[gD cN];refine gw (hbv _ ?_);simp only[↓reduceIte]
  have dE:(SetTable.insertAt es (t.put (pr t.mask h m).j).2 (h,Value.ref b)).size=es.size+1:=by
   rw[<-jo,(oA es _ _).length_eq,jO,jo]
  refine gw (wpAny_storeSet_of ho rfl ?_ (by rw[dE,ic];lia));have w6:=Cq (es':=SetTable.insertAt es (t.put (pr t.mask h m).j).2 (h,Value.ref b)) (t':=(t.put (pr t.mask h m).j).1) ho;have sb1:=uc s.heap a (Obj.putSet (SetTable.insertAt es (t.put (pr t.mask h m).j).2 (h,Value.ref b)) (t.put (pr t.mask h m).j).1);have hlen:es.toList.length=es.size:=jo;have tlen:=S.tab.len;rw[jw,hlen] at tlen
  have hpsz:(t.put (pr t.mask h m).j).1.place.size=es.size+1:=by
   rw[e1];show(SetTable.insertAt t.place _ _).size=_;rw[<-jo,(oA t.place _ _).length_eq,jO,jo,tlen]
  have bu:(t.put (pr t.mask h m).j).1.fill=es.size+1:=by
   unfold SetTable.fill;rw[hpsz,e1];rfl
  have bp:(t.put (pr t.mask h m).j).1.mask=t.mask:=by rw[e1]
  have hled:(t.put (pr t.mask h m).j).1.led=t.led:=by rw[e1]
  by_cases htf:(t.put (pr t.mask h m).j).1.tooFull=true
  ·rw[htf];simp only[Bool.not_false,Bool.and_self,↓reduceIte];have hroom:=S.tab.room;rw[jw,hlen] at hroom
   have hbig:3*t.mask<=5*(es.size+1):=by
    unfold SetTable.tooFull at htf;rw[bu,bp] at htf;have:=of_decide_eq_true htf;lia
   have m7:7<=t.mask:=by
    obtain⟨k,k3,_,ek⟩:=S.tab.pow;have:2^3<=2^k:=AG (by decide) k3
    lia
   have hfit:(t.put (pr t.mask h m).j).1.fits (SetTable.insertAt es (t.put (pr t.mask h m).j).2 (h,Value.ref b)).size=true:=by
    unfold SetTable.fits;rw[hpsz,dE,bu,bp];simp only[BEq.rfl,ph,mE];lia
   rw[<-dE];refine gw (Jo w6 hfit (by rw[dE];lia) (by rw[dE];lia) fun h' es' n' t' g1 g2 g3 g4 g5 g6=>?_);exact gK (aq cp h' es' n' t' (sb1.trans g1) g2 (g3.trans (oA es _ _)) g4 (by rw[g5];exact cN) (by rw[g6];exact hled))
  ·have htf':(t.put (pr t.mask h m).j).1.tooFull=false:=by simpa using htf
   rw[htf'];simp only[vq,iM,↓reduceIte]
   have hsm:5*(es.size+1)<3*t.mask:=by
    unfold SetTable.tooFull at htf;rw[bu,bp] at htf;have: ¬(es.size+1)*5>=t.mask*3:=fun z=>htf (lN z)
    lia
   obtain⟨p1,p2⟩:=S.tab.put h1 h2 (by rw[jw,hlen];exact hsm) rfl rfl;refine gK (aq cp _ _ _ _ sb1 w6 (oA es _ _) ?_ cN hled);rw[kK,pT,iJ,<-vc,<-List.map_drop] at*;rw[e2];exact p1
end
theorem yt:entryFor table "set.__iter__"=some Builtin.«frozenset.__iter__»:=entryFor_alias (id':="frozenset.__iter__") (by kernel_rfl) rfl (by decide+kernel) (by kernel_rfl)
theorem mN:Slot "set_iterator" "__next__" "set_iterator.__next__":= .of (owner:="set_iterator") (n:="__next__") (by rw[typeLookup_type,Ib];kernel_rfl) (by decide+kernel) (by decide+kernel) (by decide+kernel) (by first|exact .inl (by decide+kernel)|exact .inr (by decide+kernel)) (by rw[AA];kernel_rfl)
theorem uq:Slot "set_iterator" "__iter__" "set_iterator.__iter__":= .of (owner:="set_iterator") (n:="__iter__") (by rw[typeLookup_type,Ib];kernel_rfl) (by decide+kernel) (by decide+kernel) (by decide+kernel) (by first|exact .inl (by decide+kernel)|exact .inr (by decide+kernel)) (by rw[AA];kernel_rfl)
theorem sj:entryFor table "set_iterator.__next__"=some Builtin.«set_iterator.__next__»:=entryFor_of_fast (by kernel_rfl)
theorem zb:entryFor table "set_iterator.__iter__"=some Builtin.«dict_keyiterator.__iter__»:=entryFor_alias (id':="dict_keyiterator.__iter__") (by kernel_rfl) rfl (by decide+kernel) (by kernel_rfl)
theorem uT(a:gL):argsOk "set_iterator.__next__" ⟨[a],[]⟩:=by unfold argsOk;kernel_rfl
theorem B7(a:gL):argsOk "set_iterator.__iter__" ⟨[a],[]⟩:=by unfold argsOk;kernel_rfl
theorem pY{α:Type}: ∀(l:List α) {i:Nat} (h:i<l.length),(l[i]::l.eraseIdx i).Perm l
 |x::l,0,_=>by simp
 |x::l,i+1,h=>by
  have:=pY l (i:=i) (by simpa using h);simp only[List.getElem_cons_succ,List.eraseIdx_cons_succ];exact(List.Perm.swap x _ _).trans (List.Perm.cons x this)
theorem ux{α:Type}(next:Nat->Nat): ∀(fuel k:Nat) (left:List α) (out:Array α),left.length<=fuel->(pickOrder.go next fuel k left out).toList.Perm (out.toList++left)
 |0,k,left,out,h=>by
  have:left=[]:=Pq.mp (by lia);subst this;unfold pickOrder.go;simp
 |fuel+1,k,left,out,h=>by
  unfold pickOrder.go
  cases left with
  |nil=>simp
  |cons y l=>
   have i6:next k%(y::l).length<(y::l).length:=uZ _ (by simp);rw[jb i6];dsimp only;refine(ux next fuel (k+1) _ _ (by rw[Az,gD i6];simp at h ⊢;lia)).trans ?_;rw[Array.toList_push,ky];refine ub _ ?_;exact pY _ i6
theorem xM{α:Type}(next:Nat->Nat)(xs:Array α):(pickOrder next xs).toList.Perm xs.toList:=by
 unfold pickOrder;have:=ux next xs.size 0 xs.toList #[] (by simp);simpa using this
def mK(w:gS)(a:gv)(n:Nat)(es:lM):Array (Int×Value):=if w.params.followText "set-order"=true then pickOrder (w.params.setOrder a n) es else es
theorem DE(w:gS)(a:gv)(n:Nat)(es:lM):(mK w a n es).toList.Perm es.toList:=by
 unfold mK;split
 ·exact xM _ _
 ·exact sL _
theorem nE(w:gS)(a:gv)(n:Nat)(es:lM):(mK w a n es).size=es.size:=by
 rw[<-jo,(DE w a n es).length_eq,jo]
def F7(t:jK):Nat->Nat
 |0=>0
 |i+1=>t.place.getD i 0+1
def lb(w:gS)(t:jK)(i:Nat):Nat:=if w.params.followText "set-order"=true then 0 else F7 t i
structure SetIs(w:gS)(h:gU)(a:gv)(es:lM)(n:Nat)(t:jK):Prop where
 at_:h.get? a=some (ki es n t)
 tab:TabOk (es.toList.map (·.1)) t
 plain:t.plain=true
 led:t.led=!w.params.followText "set-order"
def SetIter(w:gS)(h:gU)(it a:gv)(t:jK)(size n i:Nat):Prop:= ∃o,h.get? it=some o/\o.cls= .type "set_iterator"/\o.data= .fields #[.int (lb w t i) 0,.int i 0,.ref a,.int size 0,.int n 0]
section
variable {prog:hG}{w:gS}{A:gW}{E:hV}{s:gA}
theorem SetIs.fits{h a es n t}(S:SetIs w h a es n t):t.fits es.size=true:=GF S.tab (by simp)
theorem FC{t:jK}(hr:t.place.toList.Pairwise (· < ·)){i:Nat}(hi:i<=t.place.size):SetTable.below t.place (F7 t i)=i:=by
 cases i with
 |zero=>
  obtain⟨h1,h2,_⟩:=nO hr 0
  cases hb:SetTable.below t.place 0 with
  |zero=>exact hb
  |succ k=>
   have hz:0<t.place.size:=by lia
   have:=h2 0 _ (by lia) (mT hz)
   lia
 |succ i=>
  have hd:t.place.getD i 0=t.place[i]:=by simp[Array.getD,show i<t.place.size by lia]
  show SetTable.below t.place (t.place.getD i 0+1)=i+1;rw[hd];have hg:t.place[i]?=some t.place[i]:=mT (by lia);obtain⟨h1,h2,h3⟩:=nO hr (t.place[i]+1);by_cases i6:SetTable.below t.place (t.place[i]+1)<i+1
  ·have:=h3 i _ (by lia) hg;lia
  ·by_cases hgt:i+1<SetTable.below t.place (t.place[i]+1)
   ·have dt:t.place[i+1]?=some t.place[i+1]:=mT (by lia);have:=h2 (i+1) _ hgt dt;have:=Bn hr (ud i) hg dt
    lia
   ·lia
theorem xw{a:gv}{es:lM}{n:Nat}{t:jK}(S:SetIs w s.heap a es n t){i:Nat}(hi:i<=es.size){Q:Option (Value×Nat)->Shared->Prop}
  (h1: ∀e,(mK w a n es)[i]?=some e->Q (some (e.2,lb w t (i+1))) s)(h2:i=es.size->Q none s):wpAny (model prog w) A (setNext a (lb w t i) i n) Q E s:=by
 have tl:=S.tab.len;rw[jw,jo] at tl;unfold setNext;refine gw (rP S.at_ rfl S.fits ?_);dsimp only;unfold setsByText;refine gw (gw (vp (gK ?_)));by_cases hb:w.params.followText "set-order"=true
 ·have u3:(model prog w).w.params.followText "set-order"=true:=hb;rw[gD u3,gF (by simp)];unfold setWalk setsByText;refine gw (gw (rP S.at_ rfl S.fits ?_));dsimp only;refine gw (gw (vp (gK ?_)));rw[gD u3];refine gw (vp (gK (gK ?_)));have e1:mK w a n es=pickOrder (w.params.setOrder a n) es:=by unfold mK;rw[gD hb]
  have e2: ∀k,lb w t k=0:=fun k=>by unfold lb;rw[gD hb]
  show Q (((pickOrder (w.params.setOrder a n) es)[i]?).map fun e=>(e.2,lb w t i)) s;rw[<-e1];rw[e2] at h1;rw[e2]
  cases hg:(mK w a n es)[i]? with
  |some e=>exact h1 e hg
  |none=>
   have:=Array.getElem?_eq_none_iff.mp hg;rw[nE] at this;exact h2 (by lia)
 ·have u3: ¬(model prog w).w.params.followText "set-order"=true:=hb;rw[gF u3];change wpAny _ _ (if(!t.plain&&decide (es.size>1))=true then _ else _) _ _ _;rw[gF (by rw[S.plain];simp)];have hl:t.led=true:=by rw[S.led];simpa using hb
  refine gw ?_;change wpAny _ _ (if(!t.led&&!es.isEmpty)=true then _ else _) _ _ _;rw[gF (by rw[hl];simp)];refine gK ?_;have e1:mK w a n es=es:=by unfold mK;rw[gF hb]
  have e2: ∀k,lb w t k=F7 t k:=fun k=>by unfold lb;rw[gF hb]
  have e3:SetTable.below t.place (lb w t i)=i:=by rw[e2];exact FC S.tab.ris (by lia)
  rw[e3];rw[e1] at h1;by_cases i6:i<es.size
  ·have g1:es[i]?=some es[i]:=mT i6;have g2:t.place[i]?=some t.place[i]:=mT (by lia);rw[g1,g2];have:=h1 es[i] g1;rw[e2] at this;rw[show F7 t (i+1)=t.place.getD i 0+1 from rfl] at this;have hd:t.place.getD i 0=t.place[i]:=by simp[Array.getD,show i<t.place.size by lia]
   rw[hd] at this;exact gK this
  ·rw[AD (by lia)];exact gK (h2 (by lia))
theorem SetIs.typeIs{a es n t}(S:SetIs w s.heap a es n t):s.TypeIs (.ref a) "set":=⟨_,S.at_,rfl⟩
theorem SetIter.typeIs{it a t z n i}(S:SetIter w s.heap it a t z n i):s.TypeIs (.ref it) "set_iterator":=let⟨o,ho,hc,_⟩:=S;⟨o,ho,hc⟩
theorem Kr{a:gv}{es:lM}{n:Nat}{t:jK}(S:SetIs w s.heap a es n t){Q:hV}
  (hQ: ∀h',SetIter w h' s.heap.objs.size a t es.size n 0->(∀b o,s.heap.get? b=some o->h'.get? b=some o)->h'.objs.size=s.heap.objs.size+1->Q (.ref s.heap.objs.size) {s with heap:=h'}):
  wpAny (model prog w) A (pyIter (.ref a)) Q E s:=by
 refine DM S.typeIs Ia (mU Ia S.typeIs yt ?_ (PySem.F.args_set_iter_1 _));unfold Builtin.«frozenset.__iter__» Builtin.Frozenset.slot0 slotArgs;simp only[List.isEmpty_nil,lX,iM,↓reduceIte,qw,nD,uh];unfold Builtin.Frozenset.addrOf Builtin.Frozenset.sizeOf;refine gw (gK ?_);dsimp only;refine gw (gK ?_);refine gw (gw (DL S.at_ rfl S.fits (gK ?_)));unfold setDrawn setsByText;refine gw (gw (rP S.at_ rfl S.fits ?_));dsimp only;refine gw (gw (vp (gK ?_)));refine gK ?_;change wpAny _ _ (if(!w.params.followText "set-order"&&(!t.plain&&decide (es.size>1)))=true then _ else _) _ _ _;rw[gF (by rw[S.plain];simp)];refine gw (gK ?_);unfold setEpoch;refine gw (gw (rP S.at_ rfl S.fits (gK ?_)));refine gw (ll (gK ⟨_,rfl,"set_iterator",_,⟨_,jP _ rfl,rfl⟩,mN.lookup,?_⟩));refine hQ _ ⟨_,jP _ rfl,rfl,?_⟩ (fun b o e=>iz _ e) (uf _ _);have:lb w t 0=0:=by unfold lb;split<;>rfl
 rw[this];rfl
theorem yX{it a:gv}{es:lM}{n:Nat}{t:jK}(S:SetIs w s.heap a es n t){i:Nat}(hI:SetIter w s.heap it a t es.size n i)(r9:it≠a){e:Int×Value}(he:(mK w a n es)[i]?=some e){Q:zm}
  (hQ: ∀h',SetIter w h' it a t es.size n (i+1)->Heap.SameBut it s.heap h'->Q (some e.2) {s with heap:=h'}):wpAny (model prog w) A (pyNext (.ref it)) Q E s:=by
 obtain⟨o,ho,hc,hd⟩:=id hI;have hi:i<es.size:=by have:=(Lk.mp he).1;rw[nE] at this;exact this
 unfold pyNext;refine gw (sM (qj (name:=Str.ofString "__next__") hI.typeIs mN (mU mN hI.typeIs sj ?_ (uT _))));unfold Builtin.«set_iterator.__next__» slotArgs;simp only[List.isEmpty_nil,lX,iM,↓reduceIte,qw,nD,uh];refine gw (gK ?_);unfold fieldsOf;simp only[qw];refine gw (vA ho ?_);rw[hd];refine gw (gK ?_);dsimp only;refine gw (DL S.at_ rfl S.fits ?_);rw[gF (by simp)];have h1:((lb w t i:Nat):Int).toNat=lb w t i:=qk _;have h2:((i:Nat):Int).toNat=i:=qk _;have h3:((n:Nat):Int).toNat=n:=qk _;rw[h1,h2,h3];refine gw (xw S (A9 hi) (fun e' bJ=>?_) fun z=>by lia);rw[he] at bJ;cases bJ;dsimp only;refine gw (sN ho hd (by simp) ?_);have w6:=rT (Obj.mapFields fun vs=>vs.setIfInBounds 0 (rawInt (lb w t (i+1)))) ho (AS (rQ hd _));refine gw (sN w6 (rQ hd _) (by simp) (gK ⟨_,rfl,gK (hQ _ ?_ ((uc ..).trans (uc ..)))⟩));refine⟨_,rT _ w6 (AS (rQ (rQ hd _) _)),?_,?_⟩
 ·rw[AR,AR];exact hc
 ·rw[rQ (rQ hd _)];simp[rawInt]
theorem Bz{it a:gv}{es:lM}{n:Nat}{t:jK}(hh:A.handled=none)(S:SetIs w s.heap a es n t)(hI:SetIter w s.heap it a t es.size n es.size)(r9:it≠a){Q:zm}
  (hQ: ∀h',Heap.ExtBut it s.heap h'->Q none {s with heap:=h'}):wpAny (model prog w) A (pyNext (.ref it)) Q E s:=by
 obtain⟨o,ho,hc,hd⟩:=id hI;unfold pyNext;refine gw (sM (qj (name:=Str.ofString "__next__") hI.typeIs mN (mU mN hI.typeIs sj ?_ (uT _))));unfold Builtin.«set_iterator.__next__» slotArgs;simp only[List.isEmpty_nil,lX,iM,↓reduceIte,qw,nD,uh];refine gw (gK ?_);unfold fieldsOf;simp only[qw];refine gw (vA ho ?_);rw[hd];refine gw (gK ?_);dsimp only;refine gw (DL S.at_ rfl S.fits ?_);rw[gF (by simp)];have h1:((lb w t es.size:Nat):Int).toNat=lb w t es.size:=qk _;have h2:((es.size:Nat):Int).toNat=es.size:=qk _;have h3:((n:Nat):Int).toNat=n:=qk _;rw[h1,h2,h3];refine gw (xw S (ip _) (fun e' bJ=>?_) fun _=>?_)
 ·have:=(Lk.mp bJ).1;rw[nE] at this;lia
 dsimp only;refine gw (sN ho hd (by simp) ?_);show wpAny _ _ (newExc (.type "StopIteration") []>>=_) _ _ _;refine gw ?_;simp only[newExc,newTuple];refine gw (ll ?_ (by size_fits));refine gw (m:=firstArgMember _ _) (qh (a:=Value.none) (by first|rfl|(simp only[firstArgMember];rfl)) ?_);refine ll ?_ (by size_fits);simp only[raiseNew];refine gw (D3 ?_);rw[show A.in1.handled=none from hh];refine gw (gK (D2 ?_));refine gw (vh (T:="StopIteration") (b:=true) ⟨_,jP _ rfl,rfl⟩ DZ ?_);exact gK (hQ _ (((uc ..).extBut.push _).push _))
theorem Hx{it a:gv}{t:jK}{z n i:Nat}(hI:SetIter w s.heap it a t z n i){Q:hV}(hQ:Q (.ref it) s):wpAny (model prog w) A (pyIter (.ref it)) Q E s:=by
 refine DM hI.typeIs uq (mU uq hI.typeIs zb ?_ (B7 _));unfold Builtin.«dict_keyiterator.__iter__» slotArgs;simp only[List.isEmpty_nil,lX,iM,↓reduceIte,qw,nD,uh];exact gw (gK (gK ⟨_,rfl,"set_iterator",_,hI.typeIs,mN.lookup,hQ⟩))
theorem SetIs.stay{h h':gU}{a es n t}(S:SetIs w h a es n t)(k: ∀o,h.get? a=some o->h'.get? a=some o):SetIs w h' a es n t:=⟨k _ S.at_,S.tab,S.plain,S.led⟩
theorem G6(hh:A.handled=none)(I a:gv)(r9:I≠a)(es:lM)(n:Nat)(t:jK):
  Walks prog w A I [I,a] [I] es.size (fun i v=> ∃e,(mK w a n es)[i]?=some e/\v=e.2) (fun i h=>SetIter w h I a t es.size n i/\SetIs w h a es n t) where
 sub:=fun b hb=>by simp at hb;simp[hb]
 frame:=fun _ _ _ st hk=>⟨(by obtain⟨o,h1,h2⟩:=st.1;exact⟨o,hk I (by simp) o h1,h2⟩),st.2.stay fun o e=>hk a (by simp) o e⟩
 item:=fun i s Q E hi st hQ=>by
  have i6:i<(mK w a n es).size:=by rw[nE];exact hi
  have hg:(mK w a n es)[i]?=some (mK w a n es)[i]:=mT i6;refine yX st.2 st.1 r9 hg fun h' aJ aP=>?_;exact hQ _ h' s.toks ⟨_,hg,rfl⟩ ⟨aJ,st.2.stay fun o e=>aP.extBut a o (fun h=>r9 h.symm) e⟩ fun b o hb e=>aP.extBut b o (fun h=>hb (by simp[h])) e
 done:=fun s Q E st hQ=>Bz hh st.2 st.1 r9 fun h' bJ=>hQ h' s.toks fun b o hb e=>bJ b o (fun h=>hb (by simp[h])) e
 self:=fun _ _ _ _ st hQ=>Hx st.1 hQ
theorem MJ{a:gv}{es:lM}{n:Nat}{t:jK}(hh:A.handled=none)(S:SetIs w s.heap a es n t)(hn:es.size<=sizeLine){Q:List Value->Shared->Prop}
  (hQ: ∀h' tk,(∀b o,s.heap.get? b=some o->h'.get? b=some o)->Q ((mK w a n es).toList.map (·.2)) {s with heap:=h',toks:=tk}):wpAny (model prog w) A (collect (.ref a)) Q E s:=by
 have cu:a<s.heap.objs.size:=iq S.at_;have cU:a≠s.heap.objs.size:=iK cu;have cS:a≠s.heap.objs.size+1:=iK (qv cu);have dP:s.heap.objs.size≠s.heap.objs.size+1:=iK (ud _);unfold collect;refine gw (AW (qi H9 ?_));rw[rR HZ _];show wpAny _ A.in1 (newList []>>=fun l=>again (.builtin "list.__iadd__" ⟨[l,.ref a],[]⟩)) _ _ s;refine gw (ll ?_);refine gK ⟨qt Ay _,qi HY ?_⟩;rw[rR Ay _];show wpAny _ A.in1 (Builtin.List.listExtendWith (.ref s.heap.objs.size) (.ref a) (.ref s.heap.objs.size)) _ _ _;generalize dR:({cls:= .type "list",data:= .seq ([]:List Value).toArray}:Obj)=l0;have S1:SetIs w (s.heap.push l0) a es n t:=S.stay fun o e=>iz _ e;unfold Builtin.List.listExtendWith;refine gw (rV (T:="set") (s:={s with heap:=s.heap.push l0}) S1.typeIs ?_);have h1:Builtin.List.listSameRef (.ref s.heap.objs.size) (.ref a)=false:=by simp only[Builtin.List.listSameRef,yM];exact cU.symm
 have h2:(Value.type "set"==Value.type "list")=false:=by decide
 have h3:(Value.type "set"==Value.type "tuple")=false:=by decide
 simp only[h1,h2,h3,Bool.or_false,iM,ja];refine gw (Kr (s:={s with heap:=s.heap.push l0}) S1 fun h2 dM k2 z2=>?_);have dF:(s.heap.push l0).objs.size=s.heap.objs.size+1:=uf _ _;have S2:SetIs w h2 a es n t:=S1.stay fun o e=>k2 _ _ e;refine gw (mX ?_);unfold Builtin.List.listLengthHint;refine gw (sy (T:="set") (s:={s with heap:=h2}) S2.typeIs PySem.F.slot_set_len.lookup ?_);generalize dW:("set.__len__":String)=id0;dsimp only;rw[show splitId id0=some ("set","__len__") from by subst dW;decide+kernel];dsimp only;refine gw (vh (T:="set") (s:={s with heap:=h2}) (b:=true) S2.typeIs (by rw[AA];kernel_rfl) ?_);simp only[lX,iM,ja];change wpAny _ _ (if _=true then _ else _) _ _ _;rw[gD (by subst dW;decide+kernel)];refine gw (rV (T:="set") (s:={s with heap:=h2}) S2.typeIs ?_);dsimp only;refine gK ?_;change wpAny _ _ (if _=true then _ else _) _ _ _;rw[gD (by decide+kernel)];refine gw (ug ?_);have ee:h2.get? s.heap.objs.size=some l0:=k2 _ _ (jP _ (by subst dR;rfl));subst dR;refine gw ?_;show wpAny _ A.in1 (updateSeq s.heap.objs.size (·.push .none)>>=fun _=>updateSeq s.heap.objs.size (·.pop)) _ _ _;refine gw (Ax (s:={s with heap:=h2}) ee rfl ?_);have dZ:=rT (Obj.mapSeq (·.push Value.none)) ee rfl;refine Ax dZ rfl ?_;have fZ:=rT (Obj.mapSeq (·.pop)) dZ rfl
 have oth: ∀b o,b≠s.heap.objs.size->h2.get? b=some o->((h2.update s.heap.objs.size (Obj.mapSeq (·.push Value.none))).update s.heap.objs.size (Obj.mapSeq (·.pop))).get? b=some o:=
  fun b o hb e=>(vw _ _ (pV hb)).trans ((vw _ _ (pV hb)).trans e)
 have W:=(G6 (prog:=prog) (w:=w) (A:=A.in1) (by show A.handled=none;exact hh) (s.heap.objs.size+1) a cS.symm es n t).toS;rw[dF] at dM;refine gK ⟨qt HX _,?_⟩;rw[dF];refine HW W hn s.heap.objs.size (by simp only[jj,jL,kJ,oO];exact⟨dP,cU.symm⟩) _ es.size 0 _ _ _ rfl (lY _) ?_ fZ (ItemsOf.nil _) fun s' i3 c' hm bz p9=>?_
 ·refine⟨?_,S2.stay fun o e=>oth a o cU e⟩;obtain⟨o,g1,g2⟩:=dM;exact⟨o,oth _ o dP.symm g1,g2⟩
 show wpAny _ A (load s.heap.objs.size>>=_) _ _ s';refine gw (vA bz ?_);obtain⟨h',g',d',bZ,cF⟩:=s';have eg:g'=s.gens:=hm.gens;have ed:d'=s.drawn:=hm.drawn;have eo:cF=s.os:=hm.os;subst eg;subst ed;subst eo
 have cY:i3.toList=(mK w a n es).toList.map (·.2):=by
  obtain⟨a1,a2⟩:=p9;apply D5
  ·rw[jw,jo,jo,a1,nE]
  ·intro j g1 g2;have gj:i3[j]?=some i3.toList[j]:=by rw[<-lj];exact jb g1
   obtain⟨e,he,hv⟩:=a2 j _ gj;rw[hv];rw[jw,jo] at g2;rw[List.getElem_map];rw[<-lj,jb (by rw[jo];exact g2)] at he;cases he;rfl
 refine gK ?_;show Q i3.toList _;rw[cY];refine hQ h' bZ fun b o e=>?_;have hb:=iq e;exact hm.heap b o (by simp only[jj,jL,kJ,oO];exact⟨iK hb,iK (qv hb)⟩) (oth b o (iK hb) (k2 _ _ (iz _ e)))
end
section
variable {prog:hG}{w:gS}{A:gW}{R:Result->Shared->Prop}{I:gv}{fp wr:kb}{G:Array GenState->Array GenState->Prop}{n:Nat}{P:Nat->Value->Prop}{St:Nat->Shared->Prop}
theorem IT(W:WalksS prog w A.in1 I fp wr G n P St)(S:gv)(eV:S∉fp)(s0:gA)(SI:Nat->Heap->Prop)(stay: ∀i h h',SI i h->(∀o,h.get? S=some o->h'.get? S=some o)->SI i h')
  (step: ∀i v (s':gA) (Q:pS) (E:hV),i<n->P i v->SI i s'.heap->Moved (S::wr) G s0 s'->(∀r h' tk,s'.toks<=tk->Heap.SameBut S s'.heap h'->SI (i+1) h'->Q r {s' with heap:=h',toks:=tk})->wpAny (model prog w) A.in1 (setAdd S v) Q E s'):
  ∀(k i:Nat) (s:gA),n-i=k->i<=n->St i s->SI i s.heap->Moved (S::wr) G s0 s->(∀s',Moved (S::wr) G s0 s'->SI n s'.heap->R (.ok (.ret .none)) s')->
   codeAny (model prog w) A (.builtin "set.update.loop" ⟨[.ref S,.ref I],[]⟩) R s:=by
 have hSw:S∉wr:=fun h=>eV (W.sub _ h);have aG: ∀b∈wr,b∈S::wr:=fun b hb=>jd _ hb;intro k
 induction k with
 |zero=>
  intro i s hk hi t8 hS fM hR;have hin:i=n:=by lia
  subst hin;refine qi HV ?_;rw[rR DK _];show wpAny _ A.in1 (pyNext (.ref I)>>=_) _ _ s;refine gw (W.done s _ _ t8 fun s' hm=>?_);show wpAny _ A.in1 (ret Value.none) _ _ s';exact gK (hR s' (Moved.trans W.gtrans fM (hm.mono aG)) (stay _ _ _ hS fun o e=>hm.heap S o hSw e))
 |succ k ih=>
  intro i s hk hi t8 hS fM hR;have i6:i<n:=by lia
  refine qi HV ?_;rw[rR DK _];show wpAny _ A.in1 (pyNext (.ref I)>>=_) _ _ s;refine gw (W.item i s _ _ i6 t8 fun v s' hP hst' hm=>?_);have hm1:=Moved.trans W.gtrans fM (hm.mono aG);show wpAny _ A.in1 (holding [v] (setAdd S v)>>=_) _ _ s';refine gw (mX (step i v s' _ _ i6 hP (stay _ _ _ hS fun o e=>hm.heap S o hSw e) hm1 fun r h' tk bG bj hS2=>?_));refine gK ⟨qt DK _,ih (i+1) _ (by lia) i6 (W.frame _ s' _ _ hst' bG fun b hb o e=>?_) hS2 (hm1.then_heap bG fun b o hb e=>?_) hR⟩
  ·rw[bj.2 b (fun h:b=S=>eV (by rw[<-h];exact hb))];exact e
  ·rw[bj.2 b (fun h:b=S=>hb (by rw[h];exact iW))];exact e
end
section
variable {prog:hG}{w:gS}{A:gW}{E:hV}{s:gA}
theorem Mt(a:gL){Q₁:hV}(h:Q₁ (.ref s.heap.objs.size) {s with heap:=s.heap.push (ki #[] 0 (.fresh 0 0 (!w.params.followText "set-order")))}):
  codeAny (model prog w) A (.call (.builtin "set.__new__") ⟨[.type "set",a],[]⟩) (wants Q₁ E) s:=by
 refine xh ?_;show wpAny _ A.in1 (do checkBuiltinCall "set.__new__" ⟨[.type "set",a],[]⟩;again (.builtin "set.__new__" ⟨[.type "set",a],[]⟩)) _ _ s;refine gw (qh (PySem.F.newCall_set_1 a) (gK ⟨qt HU _,qi PySem.F.entry_set_new ?_⟩));rw[rR HU _];unfold Builtin.«set.__new__» Builtin.Frozenset.newClass;have aG:=sub_set_self;obtain⟨hp,g,d,tk,os⟩:=s;dsimp only
 wp_walk
 refine vp (gK ?_);dsimp only;simp only[newObj];refine gw (wpAny_alloc (gK ?_));exact gK h
abbrev mQ(w:gS):SetTable:= .fresh 0 0 (!w.params.followText "set-order")
theorem Pw{h:gU}{a:gv}(e:h.get? a=some (ki #[] 0 (mQ w))):SetIs w h a #[] 0 (mQ w):=⟨e,TabOk.fresh _ _ _,rfl,rfl⟩
set_option maxHeartbeats 8000000 in
theorem Px{l:gv}{items:jW}{Q:hV}(hh:A.handled=none)(hl:s.heap.IsList l items)(SI:Nat->Heap->Prop)
  (stay: ∀i h h',SI i h->(∀o,h.get? s.heap.objs.size=some o->h'.get? s.heap.objs.size=some o)->SI i h')
  (qb: ∀h',h'.get? s.heap.objs.size=some (ki #[] 0 (mQ w))->SI 0 h')
  (step: ∀i v (s':gA) (B:gW) (Q:pS) (E:hV),B.units<=A.units+20->items[i]?=some v->SI i s'.heap->(∀b o,s.heap.get? b=some o->s'.heap.get? b=some o)->s'.gens=s.gens->s'.drawn=s.drawn->s'.os=s.os->
   (∀r h' tk,s'.toks<=tk->Heap.SameBut s.heap.objs.size s'.heap h'->SI (i+1) h'->Q r {s' with heap:=h',toks:=tk})->wpAny (model prog w) B (setAdd s.heap.objs.size v) Q E s')
  (h: ∀(h':gU) (tk:Nat),SI items.size h'->(∀b o,s.heap.get? b=some o->h'.get? b=some o)->Q (.ref s.heap.objs.size) {s with heap:=h',toks:=tk}):
  wpAny (model prog w) A (call (.type "set") [.ref l]) Q E s:=by
 obtain⟨c,tl,hmro⟩:=IF.mro;have hmade:=IF.made;have aG:=IF.sub;refine wpAny_call (xh ?_);show wpAny _ _ (callAny (.type "set") _) _ _ _;refine gK ⟨Code.quiet_builtin _ (by decide+kernel),qi PySem.F.entry_type_call ?_⟩;rw[Around.under_plain (weight_type_call_type "set" [.ref l] []) rfl];have h1:=IF.notType;have h2:=IF.canCreate;have hct:=PySem.F.typeCall_set_1 (.ref l)
 repeat (any_goals (first|assumption|wp_step))
 refine sV (Mt (.ref l) (E:=E) (Q₁:=fun obj s₁=>obj= .ref s.heap.objs.size/\s₁={s with heap:=s.heap.push (ki #[] 0 (mQ w))}) ⟨rfl,rfl⟩) fun r s₁ hr=>?_
 cases r with
 |error e=>exact hr
 |ok fl=>
  cases fl with
  |ret obj=>
   obtain⟨rfl,rfl⟩:=hr;have hS:(s.heap.push (ki #[] 0 (mQ w))).get? s.heap.objs.size=some (ki #[] 0 (mQ w)):=jP _ rfl;have hT:Shared.TypeIs {s with heap:=s.heap.push (ki #[] 0 (mQ w))} (.ref s.heap.objs.size) "set":=⟨_,hS,rfl⟩
   have hli:=IF.init.lookup;have hbi:=IF.init.bind (.ref s.heap.objs.size)
   repeat (any_goals (first|assumption|wp_step))
   refine sV (codeAny_call_builtin (R:=wants (fun r s₂=>r= .none/\ ∃h' tk,s₂={s with heap:=h',toks:=tk}/\SI items.size h'/\(∀b o,s.heap.get? b=some o->h'.get? b=some o)) E) IF.init.plain PySem.F.entry_set_init (check_set_init_1 hT ?_)) fun r₂ s₂ fJ=>?_
   ·obtain⟨ol,df,p8,nl,aA⟩:=hl;obtain⟨ocls,odict,odata,oslots⟩:=ol;simp only at p8 aA;subst p8;subst aA;have hol':(s.heap.push (ki #[] 0 (mQ w))).get? l=some {cls:= .type "list",dict:=odict,data:= .seq items nl,slots:=oslots}:=iz _ df;have hsls:=PySem.F.sub_list_set;have hslf:=PySem.F.sub_list_frozenset;have r9:(Value.type "list"==Value.type "dict")=false:=by decide
    have aQ:(s.heap.push (ki #[] 0 (mQ w))).IsList l items:=⟨_,hol',rfl,nl,rfl⟩
    unfold Builtin.«set.__init__» noKeywords Builtin.Frozenset.updateFrom;generalize hPI:pyIter=PI
    wp_walk
    subst hPI;refine A7 aQ ?_;refine gw (AW ?_);have hlS:l<s.heap.objs.size:=iq df;have hh3:A.in1.in1.in1.handled=none:=by simp[hh]
    have sz:(s.heap.push (ki #[] 0 (mQ w))).objs.size=s.heap.objs.size+1:=uf _ _;have hneI:l≠(s.heap.push (ki #[] 0 (mQ w))).objs.size:=by rw[sz];exact iK (qv hlS)
    have eV:s.heap.objs.size∉[(s.heap.push (ki #[] 0 (mQ w))).objs.size,l]:=by
     rw[sz];simp only[jj,jL,kJ,oO];exact⟨iK (ud _),qm hlS⟩
    refine IT ((Walks.list hh3 _ l hneI items).toS) s.heap.objs.size eV _ SI stay (fun i v s' Q' E' hi hP hSI hm hk=>?_) (items.size-0) 0 _ (by lia) (lY _) ⟨⟨_,jP _ rfl,rfl,rfl⟩,(aQ.push _)⟩ (qb _ (iz _ hS)) (Moved.refl fun _=>rfl) ?hR
    ·refine step i v s' _ Q' E' ?_ hP hSI (fun b o e=>?_) hm.gens hm.drawn hm.os hk
     ·show A.units+1+1+1<=A.units+20;lia
     ·have hb:=iq e;exact hm.heap b o (by rw[sz];simp only[jj,jL,kJ,oO];exact⟨iK hb,iK (qv hb)⟩) (iz _ (iz _ e))
    case hR=>
     intro s' hm bz;obtain⟨h',g',d',bZ,cF⟩:=s';have eg:g'=s.gens:=hm.gens;have ed:d'=s.drawn:=hm.drawn;have eo:cF=s.os:=hm.os;subst eg;subst ed;subst eo;show wpAny _ _ _ _ _ _;refine gK ?_;show wpAny _ _ (ret Value.none) _ _ _;refine gK ⟨rfl,h',bZ,rfl,bz,fun b o e=>?_⟩;have hb:=iq e;exact hm.heap b o (by rw[sz];simp only[jj,jL,kJ,oO];exact⟨iK hb,iK (qv hb)⟩) (iz _ (iz _ e))
   ·cases r₂ with
    |error e=>exact fJ
    |ok fl₂=>
     cases fl₂ with
     |ret r=>
      obtain⟨rfl,h',tk,rfl,bz,dh⟩:=fJ
      repeat (any_goals (first|assumption|wp_step))
      exact h _ _ bz dh
     |_=>exact fJ.elim
  |_=>exact hr.elim
end
structure DRaw(h:gU)(d:gv)(es:Array DictEntry)(ep:Nat):Prop where
 at_: ∃o,h.get? d=some o/\o.ExactDict/\o.data= .dict es ep
theorem DRaw.stay{h h':gU}{d es ep}(x:DRaw h d es ep)(k: ∀o,h.get? d=some o->h'.get? d=some o):DRaw h' d es ep:=let⟨o,h1,r⟩:=x.at_;⟨o,k _ h1,r⟩
section
variable {prog:hG}{w:gS}{A:gW}{E:hV}{s:gA}
theorem DRaw.typeIs{d es ep}(x:DRaw s.heap d es ep):s.TypeIs (.ref d) "dict":=let⟨o,h1,r,_⟩:=x.at_;⟨o,h1,r.1⟩
theorem Hy{d:gv}{es:Array DictEntry}{ep:Nat}{Q:hV}(hd:(d==sysModules)=false)(hm:DRaw s.heap d es ep)
  (hQ:Q (.ref s.heap.objs.size) {s with heap:=s.heap.push {cls:= .type "dict_keyiterator",data:= .fields #[.ref d,.int 0 0,.int es.size 0,.int ep 0]}}):wpAny (model prog w) A (pyIter (.ref d)) Q E s:=by
 have hT:=hm.typeIs;obtain⟨o,ho,hc,hdat⟩:=hm.at_;refine DM hT HS (mU HS hT PySem.F.entry_dict_iter ?_ (PySem.F.args_dict_iter_1 _));unfold Builtin.«dict.__iter__»;refine gw ?_;unfold Builtin.Dict.dictSlotNone;refine gw (wpAny_notOrdered_dict hT ?_);change wpAny _ _ (pure (Value.ref d)) _ _ s;refine gK ?_;change wpAny _ _ (Builtin.Dict.showsAll d>>=_) _ _ s;unfold Builtin.Dict.showsAll;rw[gF (by rw[hd];exact jB)];refine gw (gK ?_);refine gw (DJ ho hdat ?_);refine gw (DI ho hdat ?_);refine gw (ll (gK ⟨_,rfl,"dict_keyiterator",_,⟨_,jP _ rfl,rfl⟩,zo.lookup,?_⟩));simpa[rawInt] using hQ
theorem xZ{it d:gv}{i ep:Nat}{es:Array DictEntry}{e:DictEntry}{Q:zm}(hit:s.heap.IsKeyIter it d i es.size ep)(hm:DRaw s.heap d es ep)(hx:es[i]?=some e)
  (hQ: ∀h',h'.IsKeyIter it d (i+1) es.size ep->Heap.SameBut it s.heap h'->Q (some e.key) {s with heap:=h'}):wpAny (model prog w) A (pyNext (.ref it)) Q E s:=by
 obtain⟨o,ho,hc,hd⟩:=id hit;obtain⟨od,dQ,y7,bU⟩:=hm.at_;unfold pyNext;refine gw (sM (qj (name:=Str.ofString "__next__") hit.typeIs zo (mU zo hit.typeIs HR ?_ (HQ _))));refine gw (gK ?_);refine gw ?_;refine gw ?_;refine gw (Aw hit.typeIs (gK ?_));refine gw (wpAny_fieldsOf ho hd ?_);have cP:Builtin.Dict_items.ownsTuple "dict_keyiterator"=false:=by decide
 simp only[cP,iM,ja];change wpAny _ _ (if(Value.ref d==Value.none)=true then _ else _) _ _ s;rw[gF (show ¬((Value.ref d==Value.none)=true) from jB)];refine gw (gK ?_);refine gw (DJ dQ bU ?_);rw[gF (by simp)];refine gw (gK ?_);refine gw (DI dQ bU ?_);rw[gF (by simp)];refine gK ?_;simp only[show ¬((i:Int)<0) from by lia,ja,qk,hx];refine gw ?_;refine gw (Aw hit.typeIs (gK ?_));refine gw (HP hit.typeIs ?_);change wpAny _ _ (setField (.ref it) 1 (rawInt ((i:Int)+1))>>=_) _ _ s;refine gw (sN ho hd (by simp) ?_)
 have aJ:(s.heap.update it (Obj.mapFields (·.setIfInBounds 1 (rawInt ((i:Int)+1))))).IsKeyIter it d (i+1) es.size ep:=
  ⟨_,rT _ ho (AS (rQ hd _)),(AR ..).trans hc,by rw[rQ hd];simp[rawInt]⟩
 refine gw (mX ?_);refine gw (HP (s:={s with heap:=s.heap.update it (Obj.mapFields (·.setIfInBounds 1 (rawInt ((i:Int)+1))))}) aJ.typeIs ?_);change wpAny _ _ (pure e.key) _ _ _;exact gK (gK ⟨_,rfl,gK (hQ _ aJ (uc ..))⟩)
theorem yY{it d:gv}{ep:Nat}{es:Array DictEntry}{Q:zm}(hh:A.handled=none)(hit:s.heap.IsKeyIter it d es.size es.size ep)(hm:DRaw s.heap d es ep)
  (hQ: ∀h',Heap.ExtBut it s.heap h'->Q none {s with heap:=h'}):wpAny (model prog w) A (pyNext (.ref it)) Q E s:=by
 obtain⟨o,ho,hc,hd⟩:=id hit;obtain⟨od,dQ,y7,bU⟩:=hm.at_;unfold pyNext;refine gw (sM (qj (name:=Str.ofString "__next__") hit.typeIs zo (mU zo hit.typeIs HR ?_ (HQ _))));refine gw (gK ?_);refine gw ?_;refine gw ?_;refine gw (Aw hit.typeIs (gK ?_));refine gw (wpAny_fieldsOf ho hd ?_);have cP:Builtin.Dict_items.ownsTuple "dict_keyiterator"=false:=by decide
 simp only[cP,iM,ja];change wpAny _ _ (if(Value.ref d==Value.none)=true then _ else _) _ _ s;rw[gF (show ¬((Value.ref d==Value.none)=true) from jB)];refine gw (gK ?_);refine gw (DJ dQ bU ?_);rw[gF (by simp)];refine gw (gK ?_);refine gw (DI dQ bU ?_);rw[gF (by simp)];refine gK ?_;simp only[show ¬((es.size:Int)<0) from by lia,ja,qk,AD (ip es.size)];refine gw ?_;refine gw (Aw hit.typeIs (gK ?_));change wpAny _ _ (setField (.ref it) 0 .none>>=_) _ _ s;refine gw (sN ho hd (by simp) ?_);change wpAny _ _ (newExc (.type "StopIteration") []>>=_) _ _ _;refine gw ?_;simp only[newExc,newTuple];refine gw (ll ?_ (by size_fits));refine gw (m:=firstArgMember _ _) (qh (a:=Value.none) (by first|rfl|(simp only[firstArgMember];rfl)) ?_);refine ll ?_ (by size_fits);simp only[raiseNew];refine gw (D3 ?_);rw[show A.in1.handled=none from hh];refine gw (gK (D2 ?_));refine gw (vh (T:="StopIteration") (b:=true) ⟨_,jP _ rfl,rfl⟩ DZ ?_);exact gK (hQ _ (((uc ..).extBut.push _).push _))
theorem Fv(hh:A.handled=none)(I d:gv)(r9:I≠d)(es:Array DictEntry)(ep:Nat):Walks prog w A I [I,d] [I] es.size (fun i v=> ∃e,es[i]?=some e/\v=e.key) (fun i h=>h.IsKeyIter I d i es.size ep/\DRaw h d es ep) where
 sub:=fun b hb=>by simp at hb;simp[hb]
 frame:=fun _ _ _ st hk=>⟨st.1.at fun o e=>hk I (by simp) o e,st.2.stay fun o e=>hk d (by simp) o e⟩
 item:=fun i s Q E hi st hQ=>by
  have hg:es[i]?=some es[i]:=mT hi;refine xZ st.1 st.2 hg fun h' aJ aP=>?_;exact hQ _ h' s.toks ⟨_,hg,rfl⟩ ⟨aJ,st.2.stay fun o e=>aP.extBut d o (fun h=>r9 h.symm) e⟩ fun b o hb e=>aP.extBut b o (fun h=>hb (by simp[h])) e
 done:=fun s Q E st hQ=>yY hh st.1 st.2 fun h' bJ=>hQ h' s.toks fun b o hb e=>bJ b o (fun h=>hb (by simp[h])) e
 self:=fun _ _ _ _ st hQ=>wpAny_pyIter_keyiter st.1 hQ
theorem Ln{a:gv}{es:Array DictEntry}{n:Nat}(hd:(a==sysModules)=false)(hh:A.handled=none)(S:DRaw s.heap a es n)(hn:es.size<=sizeLine){Q:List Value->Shared->Prop}
  (hQ: ∀h' tk,(∀b o,s.heap.get? b=some o->h'.get? b=some o)->Q (es.toList.map (·.key)) {s with heap:=h',toks:=tk}):wpAny (model prog w) A (collect (.ref a)) Q E s:=by
 have cu:a<s.heap.objs.size:=let⟨_,h1,_⟩:=S.at_;iq h1;have cU:a≠s.heap.objs.size:=iK cu;have cS:a≠s.heap.objs.size+1:=iK (qv cu);have dP:s.heap.objs.size≠s.heap.objs.size+1:=iK (ud _);unfold collect;refine gw (AW (qi H9 ?_));rw[rR HZ _];show wpAny _ A.in1 (newList []>>=fun l=>again (.builtin "list.__iadd__" ⟨[l,.ref a],[]⟩)) _ _ s;refine gw (ll ?_);refine gK ⟨qt Ay _,qi HY ?_⟩;rw[rR Ay _];show wpAny _ A.in1 (Builtin.List.listExtendWith (.ref s.heap.objs.size) (.ref a) (.ref s.heap.objs.size)) _ _ _;generalize dR:({cls:= .type "list",data:= .seq ([]:List Value).toArray}:Obj)=l0;have S1:DRaw (s.heap.push l0) a es n:=S.stay fun o e=>iz _ e;unfold Builtin.List.listExtendWith;refine gw (rV (T:="dict") (s:={s with heap:=s.heap.push l0}) S1.typeIs ?_);have h1:Builtin.List.listSameRef (.ref s.heap.objs.size) (.ref a)=false:=by simp only[Builtin.List.listSameRef,yM];exact cU.symm
 have h2:(Value.type "dict"==Value.type "list")=false:=by decide
 have h3:(Value.type "dict"==Value.type "tuple")=false:=by decide
 simp only[h1,h2,h3,Bool.or_false,iM,ja];refine gw (Hy (s:={s with heap:=s.heap.push l0}) hd S1 ?_);obtain⟨h2,fQ⟩: ∃h2,h2=(s.heap.push l0).push {cls:= .type "dict_keyiterator",data:= .fields #[.ref a,.int 0 0,.int es.size 0,.int n 0]}:=⟨_,rfl⟩
 have dM:h2.IsKeyIter (s.heap.push l0).objs.size a 0 es.size n:=by rw[fQ];exact⟨_,jP _ rfl,rfl,rfl⟩
 have k2: ∀b o,(s.heap.push l0).get? b=some o->h2.get? b=some o:=fun b o e=>by rw[fQ];exact iz _ e
 rw[<-fQ];have dF:(s.heap.push l0).objs.size=s.heap.objs.size+1:=uf _ _;have S2:DRaw h2 a es n:=S1.stay fun o e=>k2 _ _ e;refine gw (mX ?_);unfold Builtin.List.listLengthHint;refine gw (sy (T:="dict") (s:={s with heap:=h2}) S2.typeIs PySem.F.slot_dict_len.lookup ?_);generalize dW:("dict.__len__":String)=id0;dsimp only;rw[show splitId id0=some ("dict","__len__") from by subst dW;decide+kernel];dsimp only;refine gw (vh (T:="dict") (s:={s with heap:=h2}) (b:=true) S2.typeIs (by rw[AA];kernel_rfl) ?_);simp only[lX,iM,ja];change wpAny _ _ (if _=true then _ else _) _ _ _;rw[gD (by subst dW;decide+kernel)];refine gw (rV (T:="dict") (s:={s with heap:=h2}) S2.typeIs ?_);dsimp only;refine gK ?_;change wpAny _ _ (if _=true then _ else _) _ _ _;rw[gD (by decide+kernel)];refine gw (ug ?_);have ee:h2.get? s.heap.objs.size=some l0:=k2 _ _ (jP _ (by subst dR;rfl));subst dR;refine gw ?_;show wpAny _ A.in1 (updateSeq s.heap.objs.size (·.push .none)>>=fun _=>updateSeq s.heap.objs.size (·.pop)) _ _ _;refine gw (Ax (s:={s with heap:=h2}) ee rfl ?_);have dZ:=rT (Obj.mapSeq (·.push Value.none)) ee rfl;refine Ax dZ rfl ?_;have fZ:=rT (Obj.mapSeq (·.pop)) dZ rfl
 have oth: ∀b o,b≠s.heap.objs.size->h2.get? b=some o->((h2.update s.heap.objs.size (Obj.mapSeq (·.push Value.none))).update s.heap.objs.size (Obj.mapSeq (·.pop))).get? b=some o:=
  fun b o hb e=>(vw _ _ (pV hb)).trans ((vw _ _ (pV hb)).trans e)
 have W:=(Fv (prog:=prog) (w:=w) (A:=A.in1) (by show A.handled=none;exact hh) (s.heap.objs.size+1) a cS.symm es n).toS;rw[dF] at dM;refine gK ⟨qt HX _,?_⟩;rw[dF];refine HW W hn s.heap.objs.size (by simp only[jj,jL,kJ,oO];exact⟨dP,cU.symm⟩) _ es.size 0 _ _ _ rfl (lY _) ?_ fZ (ItemsOf.nil _) fun s' i3 c' hm bz p9=>?_
 ·refine⟨?_,S2.stay fun o e=>oth a o cU e⟩;obtain⟨o,g1,g2⟩:=dM;exact⟨o,oth _ o dP.symm g1,g2⟩
 show wpAny _ A (load s.heap.objs.size>>=_) _ _ s';refine gw (vA bz ?_);obtain⟨h',g',d',bZ,cF⟩:=s';have eg:g'=s.gens:=hm.gens;have ed:d'=s.drawn:=hm.drawn;have eo:cF=s.os:=hm.os;subst eg;subst ed;subst eo
 have cY:i3.toList=es.toList.map (·.key):=by
  obtain⟨a1,a2⟩:=p9;apply D5
  ·rw[jw,jo,jo,a1]
  ·intro j g1 g2;have gj:i3[j]?=some i3.toList[j]:=by rw[<-lj];exact jb g1
   obtain⟨e,he,hv⟩:=a2 j _ gj;rw[hv];rw[jw,jo] at g2;rw[List.getElem_map];rw[<-lj,jb (by rw[jo];exact g2)] at he;cases he;rfl
 refine gK ?_;show Q i3.toList _;rw[cY];refine hQ h' bZ fun b o e=>?_;have hb:=iq e;exact hm.heap b o (by simp only[jj,jL,kJ,oO];exact⟨iK hb,iK (qv hb)⟩) (oth b o (iK hb) (k2 _ _ (iz _ e)))
end
end TT
namespace PX
open PySem PySem.Spec PyProof.Rows L2 PySem.SeqAt TS
theorem D.hashL_map: ∀l:List D,D.hashL l=l.map D.hash
 |[]=>by rw[D.hashL];rfl
 |d::l=>by rw[D.hashL,D.hashL_map l];rfl
theorem xJ: ∀{l:List D} {d:D},D.prL l=true->d∈l->D.pr d=true
 |[],d,_,h=>by simp at h
 |e::l,d,hp,h=>by
  rw[D.prL,jr] at hp;rcases jj.mp h with rfl|h
  ·exact hp.1
  ·exact xJ hp.2 h
theorem pO: ∀{l:List D} {d:D},d∈l->d.dep<=D.depL l:=fun {l d} h=>by
 obtain⟨j,hj⟩:=ue h;exact D.dep_mem hj
section
variable {X:Cx}{pins:ik}{σ:L2.St}{H:Hp}{s:gA}
def RepV(X:Cx)(H:Hp)(O:AP')(ds:List D)(b6:iL):Prop:= ∃xs,RepL X.K H O ds xs/\Vals xs b6
theorem RepV.cons{O:AP'}{d:D}{ds:List D}{v:gL}{b6:iL}(h:RepV X H O (d::ds) (v::b6)):(∃x,Rep X.K H O d x/\RelV x v)/\RepV X H O ds b6:=by
 obtain⟨xs,r,vs⟩:=h;rw[RepL] at r;obtain⟨x,xr,rfl,r1,r2⟩:=r
 cases vs with
 |cons a b=>exact⟨⟨x,r1,a⟩,xr,r2,b⟩
theorem RepV.nil_of{O:AP'}{ds:List D}(h:RepV X H O ds []):ds=[]:=by
 obtain⟨xs,r,vs⟩:=h;cases vs
 cases ds with
 |nil=>rfl
 |cons d ds=>rw[RepL] at r;obtain⟨_,_,e,_⟩:=r;cases e
theorem RepV.cons_of{O:AP'}{ds:List D}{v:gL}{b6:iL}(h:RepV X H O ds (v::b6)): ∃d ds',ds=d::ds':=by
 cases ds with
 |nil=>obtain⟨xs,r,vs⟩:=h;rw[RepL] at r;subst r;cases vs
 |cons d ds=>exact⟨d,ds,rfl⟩
theorem OT: ∀(n:Nat) {s:gA} (I:Inv X pins σ H s) (d:D) (v:V) (u:gL) (O:AP') (A:gW) (E:hV) (Q:Int->Shared->Prop),Rep X.K H O d v->RelV v u->D.pr d=true->d.dep<=n->A.units+n<cLine->(∀tk,s.toks<=tk->Q d.hash {s with toks:=tk})->
  wpAny (model X.prog X.w) A (pyHash u) Q E s:=by
 intro n
 induction n with
 |zero=>
  intro s I d v u O A E Q hr rv hp hd hA hQ
  cases d with
  |int i=>
   have:=hr.int;subst this;obtain⟨t,rfl⟩:=rv;have:=hQ (s.toks+1) (vt _);rw[D.hash] at this;exact Em this
  |tup l=>rw[D.dep] at hd;lia
  |_=>simp[D.pr] at hp
 |succ n ih=>
  intro s I d v u O A E Q hr rv hp hd hA hQ
  cases d with
  |int i=>
   have:=hr.int;subst this;obtain⟨t,rfl⟩:=rv;have:=hQ (s.toks+1) (vt _);rw[D.hash] at this;exact Em this
  |tup l=>
   rw[D.pr] at hp;rw[D.dep] at hd;obtain⟨a,xs,rfl,q,r⟩:=hr.tup;cases rv;obtain⟨b6,vs,⟨o,ho,hc,nn,cV⟩,_⟩:=I.tuple q.sq;have hT:s.TypeIs (.ref a) "tuple":=⟨o,ho,hc⟩
   have hu:A.units<cLine:=by lia
   unfold pyHash;unfold pyHashByItsType;refine gw (wpAny_cRoomFor_or (.inr hu) ?_);refine gw (sy hT FR.lookup ?_);show wpAny _ _ (if(some (Value.builtin "tuple.__hash__")==some Value.none)=true then _ else _) Q E s;rw[gF (by rw[beq_builtin_none];exact jB)];refine gw (sy hT FR.lookup ?_);show wpAny _ _ (callSpecialIfBoundUnlessNone? (.ref a) "__hash__" _>>=_) Q E s;refine gw (wpAny_callSpecialIfBoundUnlessNone?_slot hT FR (mU FR hT PySem.F.entry_tuple_hash ?_ (PySem.F.args_tuple_hash_1 _)));show wpAny _ _ (Builtin.Tuple.tupleItemsOf (.ref a)>>=_) _ _ s;refine gw (wpAny_tupleItemsOf ho cV ?_);refine gw ?_;rw[<-Av]
   refine pk _
    (fun ie (b:Array Int) s'=> ∃done left,l=done++left/\RepV X H (fun a=>O a) left ie/\b.toList=done.map D.hash/\ ∃tk,s.toks<=tk/\s'={s with toks:=tk})
    _ ?_ ?_ _ _ ⟨[],l,rfl,⟨xs,r,by simpa using vs⟩,rfl,s.toks,ip _,rfl⟩
   ·rintro x ie b s' ⟨done,left,rfl,hl,hb,tk,bG,rfl⟩;obtain⟨d,left,rfl⟩:=hl.cons_of;obtain⟨⟨y,h1,h2⟩,h3⟩:=hl.cons;have hm:d∈done++d::left:=by simp
    have bU:=pO hm;refine gw (ih (I.kept (h':=s.heap) (t':=tk) fun _ _ e=>e) d y x O A.in1 E _ h1 h2 (xJ hp hm) (by lia) (by show A.units+1+n<cLine;lia) fun bZ htk'=>?_)
    first
     |exact gK ⟨done++[d],left,by simp,h3,by simp[hb],bZ,lq bG htk',rfl⟩
     |exact gw (gK (gK ⟨done++[d],left,by simp,h3,by simp[hb],bZ,lq bG htk',rfl⟩))
   ·rintro b s' ⟨done,left,rfl,hl,hb,tk,bG,rfl⟩;have:=hl.nil_of;subst this;have h:=hQ (tk+1) (Nat.le_succ_of_le bG);rw[D.hash,D.hashL_map,sX] at h;show wpAny _ _ (retInt (Builtin.Tuple.tupleHashOf b.toList)) _ _ _;rw[hb];refine wpAny_ret_mkInt ?_;show wpAny _ _ (if(decide (-(2:Int)^63<=Builtin.Tuple.tupleHashOf (done.map D.hash))&&decide (Builtin.Tuple.tupleHashOf (done.map D.hash)<2^63))=true then _ else _) Q E _;unfold reduceHash at h;by_cases hr:(decide (-(2:Int)^63<=Builtin.Tuple.tupleHashOf (done.map D.hash))&&decide (Builtin.Tuple.tupleHashOf (done.map D.hash)<2^63))=true
    ·rw[gD hr];rw[gD hr] at h;exact gK h
    ·rw[gF hr];rw[gF hr] at h;exact gw (ug (gK h))
  |_=>simp[D.pr] at hp
theorem QN(I:Inv X pins σ H s): ∀(n:Nat) (d:D) (v:V) (u:gL) (O:AP') (A:gW) (E:hV) (Q:pS),Rep X.K H O d v->RelV v u->D.pr d=true->d.dep<=n->Q true s->wpAny (model X.prog X.w) A (hashByValue n u) Q E s:=by
 intro n
 induction n with
 |zero=>
  intro d v u O A E Q hr rv hp hd hQ
  cases d with
  |int i=>
   have:=hr.int;subst this;obtain⟨t,rfl⟩:=rv;exact qh (show hashByValue 0 (.int i t)=pure true by simp[hashByValue]) hQ
  |tup l=>rw[D.dep] at hd;lia
  |_=>simp[D.pr] at hp
 |succ n ih=>
  intro d v u O A E Q hr rv hp hd hQ
  cases d with
  |int i=>
   have:=hr.int;subst this;obtain⟨t,rfl⟩:=rv;exact qh (show hashByValue (n+1) (.int i t)=pure true by simp[hashByValue]) hQ
  |tup l=>
   rw[D.pr] at hp;rw[D.dep] at hd;obtain⟨a,xs,rfl,q,r⟩:=hr.tup;cases rv;obtain⟨b6,vs,⟨o,ho,hc,nn,cV⟩,_⟩:=I.tuple q.sq;have hT:s.TypeIs (.ref a) "tuple":=⟨o,ho,hc⟩
   unfold hashByValue;refine gw (sy hT FR.lookup ?_);dsimp only;refine gw (qg ho cV ?_);refine gw ?_;show wpAny _ _ (forIn b6.toArray _ _) _ _ s;rw[<-Av];refine pk _ (fun ie rr s'=>rr.1=none/\s'=s/\ ∃left,(∀d∈left,d∈l)/\RepV X H O left ie) _ ?_ ?_ _ _ ⟨rfl,rfl,l,fun d h=>h,xs,r,by simpa using vs⟩
   ·rintro x ie rr s' ⟨h0,rfl,left,hm,hl⟩;obtain⟨d,left,rfl⟩:=hl.cons_of;obtain⟨⟨y,h1,h2⟩,h3⟩:=hl.cons;have cq:=hm d iW;have bU:=pO cq;refine gw (ih d y x O A E _ h1 h2 (xJ hp cq) (by lia) ?_);simp only[lX,iM,ja];exact gK ⟨rfl,rfl,left,fun d h=>hm d (jd _ h),h3⟩
   ·rintro⟨r1,r2⟩ s' ⟨h0,rfl,_⟩;simp only at h0;subst h0;exact gK hQ
  |_=>simp[D.pr] at hp
theorem LG{P:hG}{W:gS}(I:Inv X pins σ H s): ∀(n:Nat) (d:D) (v:V) (u:gL) (O:AP') (A:gW) (E:hV) (Q:pS),Rep X.K H O d v->RelV v u->D.pr d=true->d.dep<=n->Q true s->wpAny (model P W) A (eqIsQuiet n u) Q E s:=by
 intro n
 induction n with
 |zero=>
  intro d v u O A E Q hr rv hp hd hQ
  cases d with
  |int i=>
   have:=hr.int;subst this;obtain⟨t,rfl⟩:=rv;exact qh (eqIsQuiet_byValue 0 rfl) hQ
  |tup l=>rw[D.dep] at hd;lia
  |_=>simp[D.pr] at hp
 |succ n ih=>
  intro d v u O A E Q hr rv hp hd hQ
  cases d with
  |int i=>
   have:=hr.int;subst this;obtain⟨t,rfl⟩:=rv;exact qh (eqIsQuiet_byValue (n+1) rfl) hQ
  |tup l=>
   rw[D.pr] at hp;rw[D.dep] at hd;obtain⟨a,xs,rfl,q,r⟩:=hr.tup;cases rv;obtain⟨b6,vs,⟨o,ho,hc,nn,cV⟩,_⟩:=I.tuple q.sq;have hT:s.TypeIs (.ref a) "tuple":=⟨o,ho,hc⟩
   unfold eqIsQuiet;refine gw (sy hT PySem.F.slot_tuple_eq.lookup ?_);show wpAny _ _ (isInstance (.ref a) (.type "tuple")>>=_) _ _ s;refine gw (vh hT isSubtype_tuple_tuple ?_);simp only[lX,iM,ja];refine gw (qg ho cV ?_);refine gw ?_;show wpAny _ _ (forIn b6.toArray _ _) _ _ s;rw[<-Av];refine pk _ (fun ie rr s'=>rr.1=none/\s'=s/\ ∃left,(∀d∈left,d∈l)/\RepV X H O left ie) _ ?_ ?_ _ _ ⟨rfl,rfl,l,fun d h=>h,xs,r,by simpa using vs⟩
   ·rintro x ie rr s' ⟨h0,rfl,left,hm,hl⟩;obtain⟨d,left,rfl⟩:=hl.cons_of;obtain⟨⟨y,h1,h2⟩,h3⟩:=hl.cons;have cq:=hm d iW;have bU:=pO cq;refine gw (ih d y x O A E _ h1 h2 (xJ hp cq) (by lia) ?_);simp only[lX,iM,ja];exact gK ⟨rfl,rfl,left,fun d h=>hm d (jd _ h),h3⟩
   ·rintro⟨r1,r2⟩ s' ⟨h0,rfl,_⟩;simp only at h0;subst h0;exact gK hQ
  |_=>simp[D.pr] at hp
theorem Hr{P:hG}{W:gS}(I:Inv X pins σ H s): ∀(n:Nat) (d:D) (v:V) (u:gL) (O:AP') (A:gW) (E:hV) (Q:pS),Rep X.K H O d v->RelV v u->D.pr d=true->d.dep<=n->Q false s->wpAny (model P W) A (ofAClassStatement n u) Q E s:=by
 intro n
 induction n with
 |zero=>
  intro d v u O A E Q hr rv hp hd hQ
  cases d with
  |int i=>
   have:=hr.int;subst this;obtain⟨t,rfl⟩:=rv;exact qh (show ofAClassStatement 0 (.int i t)=pure false by simp[ofAClassStatement]) hQ
  |tup l=>rw[D.dep] at hd;lia
  |_=>simp[D.pr] at hp
 |succ n ih=>
  intro d v u O A E Q hr rv hp hd hQ
  cases d with
  |int i=>
   have:=hr.int;subst this;obtain⟨t,rfl⟩:=rv;exact qh (show ofAClassStatement (n+1) (.int i t)=pure false by simp[ofAClassStatement]) hQ
  |tup l=>
   rw[D.pr] at hp;rw[D.dep] at hd;obtain⟨a,xs,rfl,q,r⟩:=hr.tup;cases rv;obtain⟨b6,vs,⟨o,ho,hc,nn,cV⟩,_⟩:=I.tuple q.sq;have hT:s.TypeIs (.ref a) "tuple":=⟨o,ho,hc⟩
   unfold ofAClassStatement;refine gw (rV hT ?_);dsimp only;rw[gD (by decide)];refine gw (gK ?_);simp only[lX,iM,ja];refine gw (qg ho cV ?_);dsimp only;refine gw ?_;show wpAny _ _ (forIn b6.toArray _ _) _ _ s;rw[<-Av];refine pk _ (fun ie rr s'=>rr.1=none/\s'=s/\ ∃left,(∀d∈left,d∈l)/\RepV X H O left ie) _ ?_ ?_ _ _ ⟨rfl,rfl,l,fun d h=>h,xs,r,by simpa using vs⟩
   ·rintro x ie rr s' ⟨h0,rfl,left,hm,hl⟩;obtain⟨d,left,rfl⟩:=hl.cons_of;obtain⟨⟨y,h1,h2⟩,h3⟩:=hl.cons;have cq:=hm d iW;have bU:=pO cq;refine gw (ih d y x O A E _ h1 h2 (xJ hp cq) (by lia) ?_);simp only[iM,ja];exact gK ⟨rfl,rfl,left,fun d h=>hm d (jd _ h),h3⟩
   ·rintro⟨r1,r2⟩ s' ⟨h0,rfl,_⟩;simp only at h0;subst h0;exact gK hQ
  |_=>simp[D.pr] at hp
end
def okS:D->Bool
 | .tup l=>D.prL l&&decide (D.depL l<=6)
 |_=>false
theorem pE{d:D}(h:okS d=true): ∃l,d= .tup l:=by cases d<;>first|exact⟨_,rfl⟩|(simp[okS] at h)
theorem tL{d:D}(h:okS d=true):D.pr d=true:=by
 obtain⟨l,rfl⟩:=pE h;simp only[okS,jr] at h;rw[D.pr];exact h.1
theorem rp{d:D}(h:okS d=true):d.dep<=7:=by
 obtain⟨l,rfl⟩:=pE h;simp only[okS,jr,mE] at h;rw[D.dep];lia
mutual
theorem uQ: ∀x y:D,D.pr x=true->D.pr y=true->cT x y= .eq->x=y
 | .int i,.int j,_,_,h=>by
  rw[cT] at h;by_cases h1:i<j
  ·rw[gD h1] at h;cases h
  ·rw[gF h1] at h;by_cases h2:i=j
   ·rw[h2]
   ·rw[gF h2] at h;cases h
 | .tup l,.tup m,h1,h2,h=>by rw[D.pr] at h1 h2;rw[cT] at h;rw[Du l m h1 h2 h]
 | .int _,.tup _,_,_,h=>by simp[cT] at h
 | .tup _,.int _,_,_,h=>by simp[cT] at h
 | .non,_,h,_,_=>by simp[D.pr] at h
 | .bl _,_,h,_,_=>by simp[D.pr] at h
 | .str _,_,h,_,_=>by simp[D.pr] at h
 | .lst _,_,h,_,_=>by simp[D.pr] at h
 | .oth _ _ _,_,h,_,_=>by simp[D.pr] at h
 |_,.non,_,h,_=>by simp[D.pr] at h
 |_,.bl _,_,h,_=>by simp[D.pr] at h
 |_,.str _,_,h,_=>by simp[D.pr] at h
 |_,.lst _,_,h,_=>by simp[D.pr] at h
 |_,.oth _ _ _,_,h,_=>by simp[D.pr] at h
theorem Du: ∀l m:List D,D.prL l=true->D.prL m=true->cL l m= .eq->l=m
 |[],[],_,_,_=>rfl
 |[],_::_,_,_,h=>by simp[cL] at h
 |_::_,[],_,_,h=>by simp[cL] at h
 |x::l,y::m,h1,h2,h=>by
  rw[D.prL,jr] at h1 h2;rw[cL] at h
  cases hc:cT x y with
  |lt=>rw[hc] at h;cases h
  |gt=>rw[hc] at h;cases h
  |eq=>
   rw[hc] at h;rw[uQ x y h1.1 h2.1 hc,Du l m h1.2 h2.2 h]
end
theorem Fs{x y:D}(h1:D.pr x=true)(h2:D.pr y=true):D.eqb x y=true↔x=y:=by
 rw[Ft x y h1 h2];constructor
 ·intro h;exact uQ x y h1 h2 (by simpa using h)
 ·rintro rfl;rw[BR];rfl
def qR(vs:List D)(d:D):List D:=if vs.any (D.eqb · d)=true then vs else vs++[d]
def pP(l:List D):List D:=l.foldl qR []
theorem MP{vs:List D}{d:D}(h1:vs.all okS=true)(h2:okS d=true):(qR vs d).all okS=true:=by
 unfold qR;split
 ·exact h1
 ·rw[List.all_append,h1];simp[h2]
theorem La(vs:List D)(d:D):(qR vs d).length<=vs.length+1:=by unfold qR;split<;>simp
theorem mB{α β:Type}(f:α->β){zs m:List β}(h:zs.Perm m): ∀l:List α,m=l.map f-> ∃l':List α,l'.Perm l/\zs=l'.map f:=by
 induction h with
 |nil=>
  intro l e;have:l=[]:=by simpa using e.symm
  subst this;exact⟨[],.refl _,rfl⟩
 |cons x _ ih=>
  intro l e
  cases l with
  |nil=>simp at e
  |cons y l=>
   simp only[iJ,List.cons.injEq] at e;obtain⟨l',p,q⟩:=ih l e.2;exact⟨y::l',p.cons y,by rw[q,e.1];rfl⟩
 |swap x y l0=>
  intro l e
  cases l with
  |nil=>simp at e
  |cons a l=>
   cases l with
   |nil=>simp at e
   |cons b l=>
    simp only[iJ,List.cons.injEq] at e;exact⟨b::a::l,.swap a b l,by rw[e.1,e.2.1,e.2.2];rfl⟩
 |trans _ _ fF fE=>
  intro l e;obtain⟨l1,p1,q1⟩:=fE l e;obtain⟨l2,p2,q2⟩:=fF l1 q1;exact⟨l2,p2.trans p1,q2⟩
theorem vY{α β:Type}{F:α->β->Prop}{es m:List β}(h:es.Perm m): ∀{z:List α},Paired F z m-> ∃z':List α,Paired F z' es/\z'.Perm z:=by
 induction h with
 |nil=>intro z p;exact⟨z,p,.refl _⟩
 |cons x _ ih=>
  intro z p
  cases p with
  |cons r t=>
   obtain⟨z',h1,h2⟩:=ih t;exact⟨_::z',.cons r h1,h2.cons _⟩
 |swap x y l0=>
  intro z p
  cases p with
  |cons r t=>
   cases t with
   |cons r' t=>exact⟨_,.cons r' (.cons r t),.swap _ _ _⟩
 |trans _ _ fF fE=>
  intro z p;obtain⟨z1,p1,q1⟩:=fE p;obtain⟨z2,p2,q2⟩:=fF p1;exact⟨z2,p2,q2.trans q1⟩
theorem RepL.zip{K H}{O:AP'}: ∀{l:List D} {vs:List V},RepL K H O l vs-> ∀p∈l.zip vs,Rep K H O p.1 p.2
 |[],vs,h,p,hp=>by simp at hp
 |d::l,vs,h,p,hp=>by
  rw[RepL] at h;obtain⟨v,r,rfl,h1,h2⟩:=h;rw[sD] at hp;rcases jj.mp hp with rfl|hp
  ·exact h1
  ·exact RepL.zip h2 p hp
theorem RepL.ofZip{K H}{O:AP'}: ∀{l:List (D×V)},(∀p∈l,Rep K H O p.1 p.2)->RepL K H O (l.map (·.1)) (l.map (·.2))
 |[],_=>RepL.nil
 |p::l,h=>RepL.cons (h p iW) (RepL.ofZip fun q hq=>h q (jd _ hq))
abbrev hv(p:D×V):Int×V:=(D.hash p.1,p.2)
theorem xl: ∀(vs:List D) (us:List V),(D.hashL vs).zip us=(vs.zip us).map hv
 |[],us=>by simp[D.hashL]
 |d::vs,[]=>by simp
 |d::vs,u::us=>by rw[D.hashL,sD,sD,iJ,xl vs us]
section
variable {X:Cx}{pins:ik}{σ:L2.St}{H:Hp}{s:gA}
structure SetV(X:Cx)(H:Hp)(O:AP')(h:gU)(a:gv)(vs:List D)(es:lM)(n:Nat)(t:jK)(l:List (D×V)):Prop where
 is:TT.SetIs X.w h a es n t
 perm:(l.map (·.1)).Perm vs
 rep: ∀p∈l,Rep X.K H O p.1 p.2
 par:Paired (fun(z:Int×V) (e:Int×Value)=>z.1=e.1/\RelV z.2 e.2) (l.map hv) es.toList
theorem SetV.stay{O:AP'}{h h':gU}{a vs es n t l}(S:SetV X H O h a vs es n t l)(k: ∀o,h.get? a=some o->h'.get? a=some o):SetV X H O h' a vs es n t l:=⟨S.is.stay k,S.perm,S.rep,S.par⟩
theorem xQ{α β:Type}{F:α->β->Prop}: ∀{l:List α} {m:List β},Paired F l m-> ∀{i:Nat} {b:β},m[i]?=some b-> ∃a,l[i]?=some a/\F a b
 |_,_,.nil,i,b,h=>by simp at h
 |_,_,.cons r t,0,b,h=>by simp at h;subst h;exact⟨_,rfl,r⟩
 |_,_,.cons r t,i+1,b,h=>by
  obtain⟨a,h1,h2⟩:=xQ t (i:=i) (b:=b) (by simpa using h);exact⟨a,by simpa using h1,h2⟩
theorem xP{α β:Type}{F:α->β->Prop}: ∀{l:List α} {m:List β},Paired F l m->l.length=m.length
 |_,_,.nil=>rfl
 |_,_,.cons r t=>by simp[xP t]
theorem tD: ∀{l:List (Int×V)} {m:List (Int×Value)},Paired (fun(z:Int×V) (e:Int×Value)=>z.1=e.1/\RelV z.2 e.2) l m->l.map (·.1)=m.map (·.1)
 |_,_,.nil=>rfl
 |_,_,.cons r t=>by rw[iJ,iJ,r.1,tD t]
theorem SetV.srch(I:Inv X pins σ H s){O O':AP'}{a:gv}{vs:List D}{es n t l}(S:SetV X H O s.heap a vs es n t l)(hok:vs.all okS=true){d:D}{v:V}{u:gL}(hd:jh X.K H O' d v)(ru:RelV v u)(aK:okS d=true){A:gW}(hA:A.units+60<cLine):
  ∃b,u= .ref b/\TT.Srch A s a es n t u d.hash (fun i=>match l[i]? with|some p=>D.eqb p.1 d|none=>false):=by
 obtain⟨ld,rfl⟩:=pE aK;obtain⟨b,xs,rfl,q,r⟩:=lu hd;cases ru;have hdp:=rp aK;have eP:=tL aK;have mem: ∀p∈l,okS p.1=true:=fun p hp=>lU.mp hok _ (S.perm.mem_iff.mp (DH hp))
 have at_: ∀(i:Nat) (e:Int×Value),es[i]?=some e-> ∃p,l[i]?=some p/\p∈l/\D.hash p.1=e.1/\RelV p.2 e.2:=fun i e he=>by
  obtain⟨z,h1,h2,h3⟩:=xQ S.par (i:=i) (b:=e) (by rw[lj];exact he);rw[lH] at h1
  cases hl:l[i]? with
  |none=>rw[hl] at h1;cases h1
  |some p=>rw[hl] at h1;cases h1;exact⟨p,rfl,mV hl,h2,h3⟩
 have hqu: ∀(e:D) (y:V) (uu:gL) (OO:AP') (B:gW) (P:hG) (W:gS) (Q:pS) (E:hV),okS e=true->jh X.K H OO e y->RelV y uu->Q true s->wpAny (model P W) B (eqIsQuiet 8 uu) Q E s:=fun e y uu OO B P W Q E ho hv hr hq=>by
  obtain⟨le,rfl⟩:=pE ho;rcases hv with hv|⟨_,_,hv⟩
  ·exact LG I 8 _ _ _ OO B E Q hv hr (tL ho) (by have:=rp ho;lia) hq
  ·exact hv.elim
 have p8: ∀(e:D) (y:V) (uu:gL) (OO:AP') (B:gW) (P:hG) (W:gS) (Q:pS) (E:hV),okS e=true->jh X.K H OO e y->RelV y uu->Q false s->wpAny (model P W) B (ofAClassStatement 8 uu) Q E s:=fun e y uu OO B P W Q E ho hv hr hq=>by
  obtain⟨le,rfl⟩:=pE ho;rcases hv with hv|⟨_,_,hv⟩
  ·exact Hr I 8 _ _ _ OO B E Q hv hr (tL ho) (by have:=rp ho;lia) hq
  ·exact hv.elim
 refine⟨b,rfl,⟨_,S.is.at_,rfl⟩,S.is.tab,fun i e he=>?_,fun i e he=>?_,fun i e he hq=>?_,fun ls prog w E Q hls hq=>?_⟩
 ·obtain⟨p,h1,h2,h3,h4⟩:=at_ i e he;obtain⟨lp,hp⟩:=pE (mem p h2);have:=S.rep p h2;rw[hp] at this;obtain⟨c,xs,e1,_⟩:=this.tup;rw[e1] at h4;exact⟨c,h4⟩
 ·obtain⟨p,h1,h2,h3,h4⟩:=at_ i e he;rw[h1];have:=rp (mem p h2);exact yq I 50 p.1 (.tup ld) p.2 (.ref b) _ _ O O' A (.inl (S.rep p h2)) hd h4 rfl (by lia) (by lia) (by lia)
 ·obtain⟨p,h1,h2,h3,h4⟩:=at_ i e he;rw[h1] at hq;rw[(Fs (tL (mem p h2)) eP).mp hq] at h3;exact h3.symm
 ·unfold searchCouldBeSeen;refine gw ?_;refine pk _ (fun ie rr s'=>rr.1=none/\s'=s/\ ∀v∈ie,∃e∈es.toList,e.2=v) _ ?_ ?_ _ _ ⟨rfl,rfl,hls⟩
  ·rintro y ie rr s' ⟨h0,rfl,hm⟩;have hrest: ∀v∈ie,∃e∈es.toList,e.2=v:=fun v hv=>hm v (jd _ hv);obtain⟨e,he,rfl⟩:=hm y iW;obtain⟨i,hi⟩:=ue he;rw[lj] at hi;obtain⟨p,h1,h2,h3,h4⟩:=at_ i e hi;obtain⟨lp,hp⟩:=pE (mem p h2);have eO:=S.rep p h2
   obtain⟨c,ec⟩: ∃c,e.2= .ref c:=by
    rw[hp] at eO;obtain⟨c,xs,e1,_⟩:=eO.tup;rw[e1] at h4;exact⟨c,h4⟩
   rw[ec] at h4 ⊢;dsimp only;split
   ·exact gK ⟨rfl,rfl,hrest⟩
   ·refine gw (hqu _ _ _ O' A prog w _ _ aK hd rfl ?_);simp only[lX,iM,ja];refine gw (hqu _ _ _ O A prog w _ _ (mem p h2) (.inl eO) h4 ?_);simp only[lX,iM,ja];refine gw (p8 _ _ _ O' A prog w _ _ aK hd rfl ?_);simp only[iM,ja];refine gw (p8 _ _ _ O A prog w _ _ (mem p h2) (.inl eO) h4 ?_);simp only[iM,ja];exact gK ⟨rfl,rfl,hrest⟩
  ·rintro⟨r1,r2⟩ s' ⟨h0,rfl,_⟩;simp only at h0;subst h0;exact gK hq
theorem OthB.setV(I:Inv X pins σ H s){O:AP'}{a:gv}{ks vs:List D}{us:List V}(h:OthB (H a) .set ks vs us)(r:RepL X.K H O vs us): ∃es n t l,SetV X H O s.heap a vs es n t l:=by
 obtain⟨_,zs,e,p⟩:=h;obtain⟨es,n,t,h1,h2,h3,h4,h5⟩:=(show ObjOk X.prog X.w H s.heap a (.stt zs) from I.hok a _ e)
 rw[xl] at p;obtain⟨l,p1,rfl⟩:=mB hv p _ rfl;refine⟨es,n,t,l,⟨h1,by rw[<-tD h2];exact h3,h4,h5⟩,?_,fun q hq=>r.zip q (p1.mem_iff.mp hq),h2⟩;have:=p1.map (·.1);rw[List.map_fst_zip (by rw[r.length];exact ip _)] at this;exact this
theorem SetV.objOk{O:AP'}{h:gU}{a:gv}{vs:List D}{es n t l}{H':Hp}(S:SetV X H O h a vs es n t l):ObjOk X.prog X.w H' h a (.stt (l.map hv)):=
 ⟨es,n,t,S.is.at_,S.par,by rw[tD S.par];exact S.is.tab,S.is.plain,S.is.led⟩
theorem SetV.lens{O:AP'}{h:gU}{a:gv}{vs:List D}{es n t l}(S:SetV X H O h a vs es n t l):es.size=vs.length/\l.length=vs.length:=by
 have h1:=xP S.par;have h2:=S.perm.length_eq;simp only[jw,jo] at h1 h2
 lia
theorem SetV.oth{O:AP'}{h:gU}{a:gv}{vs:List D}{es n t l}(S:SetV X H O h a vs es n t l){K H'}{O':AP'}(hr: ∀p∈l,Rep K H' O' p.1 p.2)(hH:H' a=some (.stt (l.map hv))): ∃us,OthB (H' a) .set [] vs us/\RepL K H' O' vs us:=by
 obtain⟨l',p1,p2⟩:=mB (·.1) S.perm.symm l rfl;refine⟨l'.map (·.2),⟨rfl,l.map hv,hH,?_⟩,?_⟩
 ·rw[p2,xl]
  have:(l'.map (·.1)).zip (l'.map (·.2))=l':=by
   clear p1 p2
   induction l' with
   |nil=>rfl
   |cons x l ih=>rw[iJ,iJ,sD,ih]
  rw[this];exact(p1.map hv).symm
 ·rw[p2];exact RepL.ofZip fun p hp=>hr p (p1.mem_iff.mp hp)
theorem SetV.add(I:Inv X pins σ H s){O O':AP'}{a:gv}{vs:List D}{es n t l}(S:SetV X H O s.heap a vs es n t l)(hok:vs.all okS=true){d:D}{v:V}{u:gL}(hd:jh X.K H O' d v)(cW:Rep X.K H O d v)(ru:RelV v u)(aK:okS d=true)(hz:vs.length<500)
  {A:gW}(hA:A.units+60<cLine){E:hV}{Q:pS}
  (h: ∀r h' tk es' n' t' l',s.toks<=tk->Heap.SameBut a s.heap h'->SetV X H O h' a (qR vs d) es' n' t' l'->Q r {s with heap:=h',toks:=tk}):wpAny (model X.prog X.w) A (setAdd a u) Q E s:=by
 obtain⟨aQ,ax⟩:=S.lens;unfold setAdd;refine mX (gw (OT 50 I d v u O A E _ cW ru (tL aK) (by have:=rp aK;lia) (by lia) fun tk bG=>?_));have I1:Inv X pins σ H {s with toks:=tk}:=I.kept (h':=s.heap) (t':=tk) fun _ _ e=>e;obtain⟨b,rfl,Sr⟩:=SetV.srch (s:={s with toks:=tk}) I1 S hok hd ru aK hA;have mem: ∀p∈l,p.1∈vs:=fun p hp=>S.perm.mem_iff.mp (DH hp);refine TT.Rx Sr S.is.at_ S.is.plain (by lia) (fun Q' hq=>QN I1 8 d v _ O A E Q' cW ru (tL aK) (by have:=rp aK;lia) hq) (fun⟨i,hi,hq⟩=>?_) (fun cp h' es' n' t' g1 g2 g3 g4 g5 g6=>?_)
 ·have:qR vs d=vs:=by
   unfold qR
   cases hl:l[i]? with
   |none=>rw[hl] at hq;cases hq
   |some p=>
    rw[hl] at hq;rw[gD (List.any_eq_true.mpr ⟨p.1,mem p (mV hl),hq⟩)]
  exact h false s.heap tk es n t l bG (AZ a s.heap) (by rw[this];exact S)
 ·have bo:vs.any (D.eqb · d)=false:=by
   rw[List.any_eq_false];intro x hx;have bh:=S.perm.mem_iff.mpr hx;obtain⟨p,hp,rfl⟩:=nQ.mp bh;obtain⟨i,hi⟩:=ue hp;have:=cp i (by have:=(uY.mp hi).1;lia);rw[hi] at this;simpa using this
  have hadd:qR vs d=vs++[d]:=by unfold qR;rw[bo,gF jB]
  have par:Paired (fun(z:Int×V) (e:Int×Value)=>z.1=e.1/\RelV z.2 e.2) (((d,v)::l).map hv) ((d.hash,Value.ref b)::es.toList):= .cons ⟨rfl,ru⟩ S.par;obtain⟨z',p1,p2⟩:=vY g3 par;obtain⟨l',p3,rfl⟩:=mB hv p2 _ rfl;refine h true h' tk es' n' t' l' bG g1 ⟨⟨g2,g4,g5,g6.trans S.is.led⟩,?_,fun p hp=>?_,p1⟩
  ·rw[hadd];refine(p3.map (·.1)).trans ?_;rw[iJ];exact(S.perm.cons d).trans (Ie d vs).symm
  ·rcases jj.mp (p3.mem_iff.mp hp) with rfl|hp
   ·exact cW
   ·exact S.rep p hp
def Fj:D->Option (D×Bool)
 | .lst l=>if l.all okS=true/\l.length<500 then some (.oth .set [] (pP l),true) else none
 |_=>none
theorem Fw{l:List D}{i:Nat}{d:D}(h:l[i]?=some d):pP (l.take (i+1))=qR (pP (l.take i)) d:=by
 unfold pP;rw[AL,h,List.foldl_append];rfl
theorem Dg: ∀(l acc:List D),l.all okS=true->acc.all okS=true->(l.foldl qR acc).all okS=true
 |[],acc,_,h=>h
 |d::l,acc,h1,h2=>by
  rw[vn,jr] at h1;exact Dg l _ h1.2 (MP h2 h1.1)
theorem Ae: ∀(l acc:List D),(l.foldl qR acc).length<=acc.length+l.length
 |[],acc=>by simp
 |d::l,acc=>by
  have:=Ae l (qR acc d);have:=La acc d;simp only[sG,jO];lia
theorem K6{l:List D}(h:l.all okS=true)(i:Nat):(l.take i).all okS=true:=by
 rw[lU] at h ⊢;exact fun x hx=>h x (lV hx)
theorem Ai(hc:X.calm=true)(hu:X.A.units+90<cLine):jI X (.type "set") (rDn X.K (g1 Fj)):=oK fun pins s σ H x u Q O d z I ru np hd hg G=>by
 cases d with
 |lst l=>
  obtain⟨⟨hok,hz⟩,rfl⟩:=iu hg;obtain⟨p,xs,rfl,q,r⟩:=kn hd;cases ru;obtain⟨b6,v,pl,_⟩:=I.list q;have e1:=r.length;have e2:=v.length;have hh:X.A.handled=none:=I.ok.hd hc;have aq:=I.fresh
  refine TT.Px hh pl.isList (fun i h=> ∃es n t l',SetV X H O h s.heap.objs.size (pP (l.take i)) es n t l') (fun i h h' ⟨es,n,t,l',S⟩ k=>⟨es,n,t,l',S.stay k⟩)
   (fun h' e=>⟨#[],0,_,[],⟨TT.Pw e,by simp[pP],fun p hp=>by simp at hp,.nil⟩⟩) (fun i w s' B Q' E' hB hi hS hk hg hdr y9 hQ'=>?_) (fun h' tk hS hk=>?_)
  ·obtain⟨es,n,t,l',S⟩:=hS
   have hil:i<b6.length:=by
    have:=(Lk.mp hi).1;simpa using this
   have hw:b6[i]?=some w:=by simpa using hi
   have hxi:xs[i]?=some xs[i]:=jb (by lia);have fX:l[i]?=some l[i]:=jb (by lia);obtain⟨w',w1,w2⟩:=v.get hxi;rw[hw] at w1;cases w1;have hrep:Rep X.K H O l[i] xs[i]:=r.views fX hxi;have aK:okS l[i]=true:=lU.mp hok _ (kx _);obtain⟨h1,g1,dr1,tk1,os1⟩:=s';dsimp only at hk hg hdr y9 hQ' S;subst hg;subst hdr;subst y9;have I':Inv X pins σ H {s with heap:=h1,toks:=tk1}:=I.kept hk;refine SetV.add I' S (Dg _ _ (K6 hok i) rfl) (.inl hrep) hrep w2 aK ?_ (by lia) fun rr h2 tk2 es' n' t' l'' a1 a2 a3=>?_
   ·have:=Ae (l.take i) [];rw[nW] at this;unfold pP;simp only[nD] at this
    lia
   ·rw[<-Fw fX] at a3;exact hQ' rr h2 tk2 a1 a2 ⟨es',n',t',l'',a3⟩
  ·obtain⟨es,n,t,l',S⟩:=hS;have hsz:b6.toArray.size=l.length:=by simp;lia
   rw[hsz,List.take_length] at S;refine⟨.ref s.heap.objs.size,upd H s.heap.objs.size (.stt (l'.map hv)),I.laid hk (ip _) S.objOk,rfl,?_⟩;refine G s.heap.objs.size _ aq (kR aq) ?_;exact S.oth (fun p hp=>Rep.mono (fun b o e _=>kR aq b o e) (fun b hb z=>z.elim id fun z=>absurd (z▸aq) hb) (S.rep p hp)) iC
 |_=>cases hg
end
theorem C4{x:D}: ∀{l:List D},l.Pairwise (fun a b=>ltT b a=false)->(wA ltT x l).Pairwise (fun a b=>ltT b a=false)
 |[],_=>AN _ _
 |y::l,h=>by
  rw[nX] at h;have W:=Nq fun i:Nat=>match i with|0=>x|1=>y|_=>x
  rw[wA]
  cases hl:ltT y x with
  |true=>
   rw[gD rfl,nX];refine⟨fun z hz=>?_,C4 h.2⟩;rcases jj.mp ((rE ltT x l).mem_iff.mp hz) with rfl|hz
   ·rw[zN] at hl;rw[lI,kI,hl];simp
   ·exact h.1 z hz
  |false=>
   rw[gF jB,nX];refine⟨fun z hz=>?_,nX.mpr h⟩;rcases jj.mp hz with rfl|hz
   ·exact hl
   ·have h1:=h.1 z hz;rw[lI] at h1 hl ⊢;have a1:cT x y≠ .gt:=by rw[kI y x];cases hc:cT y x<;>simp_all
    have a2:cT y z≠ .gt:=by rw[kI z y];cases hc:cT z y<;>simp_all
    have a3:=qP x y z a1 a2;rw[kI x z];cases hc:cT x z<;>simp_all
theorem oU: ∀l:List D,(mF ltT l).Pairwise (fun a b=>ltT b a=false)
 |[]=> .nil
 |x::l=>by rw[mF];exact C4 (oU l)
theorem Ji{l m:List D}(hp:l.Perm m)(eP: ∀x∈l,D.pr x=true):mF ltT l=mF ltT m:=by
 refine Ik (fun x y hx hy h1 h2=>?_) (oU l) (oU m) ((jt ltT l).trans (hp.trans (jt ltT m).symm));have px:=eP x ((jt ltT l).mem_iff.mp hx);have py:=eP y (hp.mem_iff.mpr ((jt ltT m).mem_iff.mp hy));rw[lI] at h1 h2;refine uQ x y px py ?_;rw[kI x y] at h1;cases hc:cT x y<;>simp_all
theorem G5{k:Nat}{l:List D}(h:SortsBy k l):mM l=true:=by
 unfold mM;rw[vb];right
 cases l with
 |nil=>rfl
 |cons x m=>
  simp only[jr,lU,mE];refine⟨⟨by rw[h.hd x iW];rfl,fun y hy=>⟨⟨?_,h.pr y hy⟩,h.dp y hy⟩⟩,fun y hy z hz=>h.cm y hy z hz⟩;rw[h.hd x iW,h.hd y hy];simp
theorem Cu{l m:List D}(hp:l.Perm m)(h:mM m=true):mM l=true:=by
 rcases zw h with hl|⟨k,B⟩
 ·unfold mM;rw[vb];left;rw[hp.length_eq];simpa using hl
 ·exact G5 (k:=k) ⟨fun x hx=>B.hd x (hp.mem_iff.mp hx),fun x hx=>B.pr x (hp.mem_iff.mp hx),fun x hx=>B.dp x (hp.mem_iff.mp hx),fun x hx y hy=>B.cm x (hp.mem_iff.mp hx) y (hp.mem_iff.mp hy)⟩
def qK(d:D):Option (D×Bool):=match d with
 | .oth .set [] vs=>if vs.all okS=true then jG vs else none
 |_=>oB d
section
variable {X:Cx}
theorem BQ(hc:X.calm=true)(hu:X.A.units+62<cLine):jI X (.builtin "sorted") (rDn X.K (g1 qK)):=oK fun pins s σ H x u Q O d z I ru np hd hg G=>by
 by_cases hs: ∃vs,d= .oth .set [] vs
 ·obtain⟨vs,rfl⟩:=hs;have t9:(if vs.all okS=true then jG vs else none)=some z:=hg;split at t9
  ·rename_i hok;obtain⟨a,us,rfl,q,r⟩:=uk hd;cases ru;obtain⟨es,n,t,l,S⟩:=q.setV I r;obtain⟨aQ,ax⟩:=S.lens;have wp:=TT.DE X.w a n es;obtain⟨z',p1,p2⟩:=vY wp S.par;obtain⟨l',p3,rfl⟩:=mB hv p2 _ rfl;have rr:RepL X.K H O (l'.map (·.1)) (l'.map (·.2)):=RepL.ofZip fun p hp=>S.rep p (p3.mem_iff.mp hp)
   have vv:Vals (l'.map (·.2)) ((TT.mK X.w a n es).toList.map (·.2)):=by
    clear p2 p3 rr wp;generalize (TT.mK X.w a n es).toList=m at p1;revert p1;generalize hz:l'.map hv=zz;intro p1
    induction p1 generalizing l' with
    |nil=>
      have:l'=[]:=by simpa using hz
      subst this;exact .nil
    |cons r t ih=>
     cases l' with
     |nil=>simp at hz
     |cons p l'=>
      simp only[iJ,List.cons.injEq] at hz;rw[iJ,iJ];refine .cons ?_ (ih l' hz.2);have:=r.2;rw[<-hz.1] at this;exact this
   have aw:(l'.map (·.1)).Perm vs:=(p3.map (·.1)).trans S.perm
   have dr:jG (l'.map (·.1))=some z:=by
    unfold jG at t9 ⊢;obtain⟨⟨h1,h2⟩,rfl⟩:=iu t9;rw[gD ⟨Cu aw h1,by rw[aw.length_eq];exact h2⟩,Ji aw fun x hx=>tL (lU.mp hok x (aw.mem_iff.mp hx))]
   have hh:X.A.handled=none:=I.ok.hd hc
   have hz:es.size<=sizeLine:=by
    unfold jG at t9;rw[aQ];exact(iu t9).1.2
   exact qZ hu I rr vv dr G fun Q' E' A' gc hQ=>TT.MJ (by rw[gc];exact hh) S.is hz fun h' tk k=>hQ h' tk k
  ·cases t9
 ·have t9:g1 oB [d]=some z:=by
   have:qK d=oB d:=by
    unfold qK;split
    ·exact absurd ⟨_,rfl⟩ hs
    ·rfl
   show oB d=some z;rw[<-this];exact hg
  exact uN hu pins s σ H [x] [u] Q I (.cons ru .nil) ⟨O,[d],z,np,rfl,(fun j d' v' a b=>by
   cases j with
   |zero=>simp at a b;subst a;subst b;exact hd
   |succ j=>simp at a),t9,G⟩
end
def tN:D->Option Key
 | .int i=>some (.inl i)
 | .str x=>some (.inr x)
 |_=>none
def Ko:List D->Option (List Key)
 |[]=>some []
 |d::l=>(tN d).bind fun k=>(Ko l).map (k:: ·)
def Fd:D->Option (List Key)
 | .tup l=>Ko l
 |_=>none
theorem pe{d:D}{k:Key}(h:tN d=some k):d=jz k:=by
 cases d<;>simp[tN] at h<;>subst h<;>rfl
theorem C1: ∀{l:List D} {ks:List Key},Ko l=some ks->l=ks.map jz
 |[],ks,h=>by cases h;rfl
 |d::l,ks,h=>by
  rw[Ko] at h;obtain⟨k,h1,h⟩:=gu h;obtain⟨m,h2,rfl⟩:=jf h;rw[pe h1,C1 h2];rfl
theorem uF{d:D}{ks:List Key}(h:Fd d=some ks):d= .tup (ks.map jz):=by
 cases d with
 |tup l=>rw[C1 (show Ko l=some ks from h)]
 |_=>cases h
theorem uK(a b:Key):D.eqb (jz a) (jz b)=decide (a=b):=by
 cases a with
 |inl i=>cases b with
  |inl j=>simp only[jz,D.eqb,Kn]
  |inr y=>simp only[jz,D.eqb,Km]
 |inr x=>cases b with
  |inl j=>simp only[jz,D.eqb,Kl]
  |inr y=>simp only[jz,D.eqb,Kk];rfl
theorem rG: ∀a b:List Key,D.eqbL (a.map jz) (b.map jz)=decide (a=b)
 |[],[]=>by simp[D.eqbL]
 |[],_::_=>by simp[D.eqbL]
 |_::_,[]=>by simp[D.eqbL]
 |x::a,y::b=>by
  simp only[iJ];rw[D.eqbL,uK,rG a b];simp only[List.cons.injEq,Bool.decide_and]
def ma:List D->List D->D->Option D
 |k'::ks,v::vs,k=>if D.eqb k' k=true then some v else ma ks vs k
 |_,_,_=>none
def qF:List D->List D->D->D->List D
 |k'::ks,v::vs,k,w=>(if D.eqb k' k=true then w else v)::qF ks vs k w
 |_,vs,_,_=>vs
def rM(ks vs:List D)(k w:D):List D×List D:=if ks.any (D.eqb · k)=true then(ks,qF ks vs k w) else(ks++[k],vs++[w])
def we(ks:List D)(k:D):Bool:=((tN k).isSome&&ks.all fun x=>(tN x).isSome)||((Fd k).isSome&&ks.all fun x=>(Fd x).isSome)
section
variable {K:hC}{H:Hp}{O:AP'}
theorem CG{k:Key}{v:V}(h:Rep K H O (jz k) v):v=kV k:=by
 cases k with
 |inl i=>exact Rep.int h
 |inr x=>exact Rep.str h
theorem zE: ∀{ks:List Key} {vs:List V},RepL K H O (ks.map jz) vs->vs=ks.map kV
 |[],vs,h=>by rw[oP,RepL] at h;exact h
 |k::ks,vs,h=>by
  rw[iJ,RepL] at h;obtain⟨v,r,rfl,h1,h2⟩:=h;rw[CG h1,zE h2];rfl
theorem vD{d:D}{k:Key}{v:V}(hk:tN d=some k)(h:jh K H O d v):v=kV k:=by
 rw[pe hk] at h;rcases h with h|⟨a,rfl,h⟩
 ·exact CG h
 ·cases k<;>exact h.elim
theorem vC{d:D}{ks:List Key}{v:V}(hk:Fd d=some ks)(h:jh K H O d v): ∃b,v= .ref b/\H b=some (.tup (ks.map kV)):=by
 rw[uF hk] at h;rcases h with h|⟨a,rfl,h⟩
 ·obtain⟨b,xs,rfl,q,r⟩:=h.tup;rw[zE r] at q;exact⟨b,rfl,q.1⟩
 ·exact h.elim
theorem Kf{k:Key}: ∀{kvs:List (Key×V)} {vs:List D},RepL K H O vs (kvs.map (·.2))->(∀d,ma (kvs.map fun p=>jz p.1) vs (jz k)=some d-> ∃v,rL kvs k=some v/\Rep K H O d v)/\(ma (kvs.map fun p=>jz p.1) vs (jz k)=none->rL kvs k=none)
 |[],vs,_=>⟨fun d h=>by cases vs<;>simp[ma] at h,fun _=>rfl⟩
 |(k',v)::kvs,[],h=>by rw[iJ,RepL] at h;cases h
 |(k',v)::kvs,d'::vs,h=>by
  rw[iJ,RepL] at h;obtain⟨w,r,e,h1,h2⟩:=h;obtain⟨rfl,rfl⟩:=xa e;obtain⟨i1,i2⟩:=Kf (k:=k) h2;simp only[iJ,ma,uK];by_cases hk:k'=k
  ·simp only[hk,decide_true,iH];exact⟨fun d h=>by cases h;exact⟨v,qC (p:=(k,v)) rfl,h1⟩,fun h=>by cases h⟩
  ·simp only[hk,decide_false,iM,ja];refine⟨fun d h=>?_,fun h=>?_⟩
   ·obtain⟨u,h3,h4⟩:=i1 d h;exact⟨u,by rw[nF (p:=(k',v)) hk];exact h3,h4⟩
   ·rw[nF (p:=(k',v)) hk];exact i2 h
theorem Ke{k:List Key}: ∀{kvs:List (List Key×V)} {vs:List D},RepL K H O vs (kvs.map (·.2))->(∀d,ma (kvs.map fun p=> .tup (p.1.map jz)) vs (.tup (k.map jz))=some d-> ∃v,rL kvs k=some v/\Rep K H O d v)/\(ma (kvs.map fun p=> .tup (p.1.map jz)) vs (.tup (k.map jz))=none->rL kvs k=none)
 |[],vs,_=>⟨fun d h=>by cases vs<;>simp[ma] at h,fun _=>rfl⟩
 |(k',v)::kvs,[],h=>by rw[iJ,RepL] at h;cases h
 |(k',v)::kvs,d'::vs,h=>by
  rw[iJ,RepL] at h;obtain⟨w,r,e,h1,h2⟩:=h;obtain⟨rfl,rfl⟩:=xa e;obtain⟨i1,i2⟩:=Ke (k:=k) h2;simp only[iJ,ma,D.eqb,rG];by_cases hk:k'=k
  ·simp only[hk,decide_true,iH];exact⟨fun d h=>by cases h;exact⟨v,qC (p:=(k,v)) rfl,h1⟩,fun h=>by cases h⟩
  ·simp only[hk,decide_false,iM,ja];refine⟨fun d h=>?_,fun h=>?_⟩
   ·obtain⟨u,h3,h4⟩:=i1 d h;exact⟨u,by rw[nF (p:=(k',v)) hk];exact h3,h4⟩
   ·rw[nF (p:=(k',v)) hk];exact i2 h
end
section
variable {P:hG}{w:gS}{H H':Hp}{h:gU}{a:gv}
theorem Q5(x:ObjOk P w H h a (.dT [])):ObjOk P w H' h a (.dK []):=by
 obtain⟨z,y,xs,r,o,es,ep,h1,h2,h3,h4,h5⟩:=x;cases r
 have:es= #[]:=by
  have:es.toList=[]:=by simpa using h4
  exact Py.mp this
 subst this;refine⟨z,y,[],.nil,o,#[],ep,h1,h2,h3,?_,?_,km⟩
 ·first|exact fun e he=>by simp at he|(intro;simp)
 ·first|exact .nil|trivial|simp[Pairs]
theorem Q6(x:ObjOk P w H h a (.dK [])):ObjOk P w H' h a (.dT []):=by
 obtain⟨z,y,vs,r,o,es,ep,h1,h2,h3,h4,h5,h6⟩:=x;cases r
 have:es= #[]:=by
  have hl:es.toList.length=0:=by
   first
    |simpa using h5.length
    |simpa using(Ba h5)
    |(
      cases he:es.toList with
      |nil=>rfl
      |cons e l=>rw[he] at h5;cases h5)
  exact Py.mp (Pq.mp hl)
 subst this;exact⟨z,y,[],.nil,o,#[],ep,h1,h2,h3,rfl,km⟩
end
section
variable {X:Cx}{pins:ik}{σ:L2.St}{H:Hp}{s:gA}
theorem uG{ks:List D}{k:D}(h:we ks k=true):(∃κ,tN k=some κ/\ ∀x∈ks,∃c,tN x=some c)\/(∃τ,Fd k=some τ/\ ∀x∈ks,∃c,Fd x=some c):=by
 unfold we at h;rw[vb,jr,jr,lU,lU] at h;rcases h with⟨h1,h2⟩|⟨h1,h2⟩
 ·exact .inl ⟨_,(IG.mp h1).choose_spec,fun x hx=>IG.mp (h2 x hx)⟩
 ·exact .inr ⟨_,(IG.mp h1).choose_spec,fun x hx=>IG.mp (h2 x hx)⟩
theorem F1{ks:List Key}{c:Key}(h:tN (.tup (ks.map jz))=some c):False:=by cases h
theorem C2{k:Key}{c:List Key}(h:Fd (jz k)=some c):False:=by cases k<;>cases h
theorem Pg{A:gW}{E:hV}(hu:A.units+1<cLine)(I:Inv X pins σ H s){O:AP'}{a:gv}{ks vs:List D}{us:List V}(q:OthB (H a) .dct ks vs us)(r:RepL X.K H O vs us){k d:D}{y:V}{u:gL}(hk:we ks k=true)(hl:ma ks vs k=some d)(vk:jh X.K H O k y)(ry:RelV y u){Q:hV}
  (h: ∀v w s',Inv X pins σ H s'->Rep X.K H O d v->RelV v w->Q w s'):wpAny (model X.prog X.w) A (getItem (.ref a) u) Q E s:=by
 have nil: ∀vs:List D,ma [] vs k=none:=fun vs=>by cases vs<;>rfl
 rcases q with⟨kvs,e,rfl,rfl⟩|⟨kvs,e,rfl,rfl⟩
 ·rcases uG hk with⟨κ,h1,_⟩|⟨τ,h1,h2⟩
  ·have:=vD h1 vk;subst this;have bt:=pe h1;subst bt;obtain⟨v,h3,h4⟩:=(Kf (k:=κ) r).1 d hl;refine Af hu I (v:=v) (y:=kV κ) ?_ ry fun w s' I' aj=>h v w s' I' h4 aj;rw[<-h3];exact DGet.k e
  ·cases kvs with
   |nil=>rw[oP,nil] at hl;cases hl
   |cons p kvs=>obtain⟨c,hc⟩:=h2 (jz p.1) (by simp);exact(C2 hc).elim
 ·rcases uG hk with⟨κ,h1,h2⟩|⟨τ,h1,_⟩
  ·cases kvs with
   |nil=>rw[oP,nil] at hl;cases hl
   |cons p kvs=>obtain⟨c,hc⟩:=h2 (.tup (p.1.map jz)) (by simp);exact(F1 hc).elim
  ·obtain⟨b,rfl,eb⟩:=vC h1 vk;have bt:=uF h1;subst bt;obtain⟨v,h3,h4⟩:=(Ke (k:=τ) r).1 d hl;refine Af hu I (v:=v) (y:= .ref b) ?_ ry fun w s' I' aj=>h v w s' I' h4 aj;rw[<-h3];exact DGet.t e eb
end
def C7(d k:D):Option (D×Bool):=match d with
 | .oth .dct ks vs=>if we ks k=true then(ma ks vs k).map fun v=>(v,false) else none
 |_=>gIx d k
section
variable {X:Cx}
theorem Qz(hu:X.A.units+1<cLine):IxR X (rD X.K C7):=by
 intro value slice pins s σ H x y v u Q I rx ry h hs;obtain⟨O,d,e,z,np,h1,h2,hg,G⟩:=h;by_cases hd: ∃ks vs,d= .oth .dct ks vs
 ·obtain⟨ks,vs,rfl⟩:=hd;have t9:(if we ks e=true then(ma ks vs e).map fun v=>(v,false) else none)=some z:=hg;split at t9
  case isFalse=>cases t9
  rename_i hk;obtain⟨w,hw,rfl⟩:=jf t9;obtain⟨a,us,rfl,q,r⟩:=uk h1;cases rx;have hT:s.TypeIs (.ref a) "dict":=JY I q;unfold subscriptTail;refine gw ?_;rw[getitemInPython_of_ne hT.not_modules];refine gw (sy hT PySem.F.slot_dict_getitem.lookup ?_)
  have fin:wpAny (model X.prog X.w) X.A (subscripted slice false (.ref a) u) (fun r s₃=>wpAny (model X.prog X.w) X.A (letTemporaryGo value (.ref a) r>>=fun _=>pure r) (EP X pins σ Q) X.xe s₃) X.xe s:=by
   rw[hs];exact wpAny_operating (Pg hu I q r hk hw h2 ry fun v' w' s' I' hr rv=>gw (wpAny_letTemporaryGo (gK ⟨v',H,I',rv,G v' H (fun _ _ e=>e) hr⟩)))
  first
   |exact gK (gw fin)
   |exact gw (gK (gw fin))
   |exact gw fin
 ·have:C7 d e=gIx d e:=by
   unfold C7;split
   ·exact absurd ⟨_,_,rfl⟩ hd
   ·rfl
  rw[this] at hg;exact Nd value slice pins s σ H x y v u Q I rx ry ⟨O,d,e,z,np,h1,h2,hg,G⟩ hs
theorem N2{a b:gM}{fa fb:FO}{pos:Pos}(hu:X.A.units+1<cLine)(ha:PO X a fa)(hb:PO X b fb)(hs:uW b):PX X (.Subscript a b pos) (gB C7 fa fb):=px2 (M7 (Qz hu) ha hb hs)
def yo:F:=fun δ=>some ((.oth .dct [] [],true),δ)
theorem LP{pos:Pos}:PX X (.Dict [] [] pos) yo:=PX.imp JT fun σ H Q hw=>by
 obtain⟨δ,T,rr,δ',E,e,k⟩:=hw;cases e;intro p hp;have B:=Ops.nil E;exact(B.done k) p _ hp (kR hp) ⟨[],.inl ⟨[],iC,rfl,rfl⟩,RepL.nil⟩
end
section
variable {K:hC}{T:AP'}{σ:L2.St}{δ:Dn}{H:Hp}{i:Nat}{d0 d':D}{a:gv}{o:HO}
theorem OwnI.writeG{j:Nat}{b:gv}(hd:δ[i]?=some (some (d0,true)))(h:OwnI σ (δ.set i (some (d',true))) j b):OwnI σ δ j b:=by
 obtain⟨e,h1,h2⟩:=h;rcases kF h1 with⟨rfl,_,_⟩|⟨_,q⟩
 ·exact⟨_,hd,h2⟩
 ·exact⟨e,q,h2⟩
theorem ER.writeG(E:ER K H T σ δ)(hd:δ[i]?=some (some (d0,true)))(hs:σ[i]?=some (some (.ref a)))(r:OwnOk K (upd H a o) (fun b=>OwnA σ δ b\/T b) d' a):
  ER K (upd H a o) T σ (δ.set i (some (d',true)))/\Keep σ δ H (δ.set i (some (d',true))) (upd H a o):=by
 have hi:i<δ.length:=(uY.mp hd).1;have oa:OwnA σ δ a:=⟨i,_,hd,hs⟩
 have aF: ∀b,OwnA σ (δ.set i (some (d',true))) b->OwnA σ δ b:=fun b ⟨j,e,h1,h2⟩=>by
  obtain⟨e',q1,q2⟩:=OwnI.writeG hd ⟨e,h1,h2⟩;exact⟨j,e',q1,q2⟩
 have kp: ∀b u,H b=some u-> ¬(OwnA σ δ b\/T b)->upd H a o b=some u:=fun b u e n=>by rw[iE (by intro z;subst z;exact n (.inl oa))];exact e
 have dm: ∀b,H b≠none->upd H a o b≠none:=fun b z=>by
  by_cases hb:b=a
  ·subst hb;rw[iC];simp
  ·rw[iE hb];exact z
 have sub: ∀b,(OwnA σ (δ.set i (some (d',true))) b\/T b)->OwnA σ δ b\/T b:=fun b z=>z.imp (aF b) id;refine⟨⟨by rw[rS];exact E.len,fun j e hj=>?_,fun j e hj=>?_,fun j k e f b hj hk h1 h2=>?_,fun b z=>E.nT b (aF b z),fun b z=>dm b (E.dom b z)⟩,⟨fun b u e n=>by rw[iE (by intro z;subst z;exact n oa)];exact e,fun j b z=>OwnI.writeG hd z,dm⟩⟩
 ·rcases kF hj with⟨_,_,q⟩|⟨_,q⟩
  ·cases q
  ·obtain⟨w,w1,w2⟩:=E.val j e q;exact⟨w,w1,Rep.mono kp (fun b _ z=>sub b z) w2⟩
 ·rcases kF hj with⟨rfl,_,q⟩|⟨ne,q⟩
  ·cases q;exact⟨a,hs,r.mono (fun _ _ e _=>e) (fun b _ z=>sub b z) fun _ e=>e⟩
  ·obtain⟨b,w1,w2⟩:=E.own j e q;refine⟨b,w1,w2.mono kp (fun b _ z=>sub b z) fun u eo=>?_⟩;rw[iE]
   ·exact eo
   ·intro z;subst z;exact ne (E.inj i j _ _ _ hd q hs w1)
 ·obtain⟨e1,q1,q2⟩:=OwnI.writeG hd ⟨e,hj,h1⟩;obtain⟨e2,q3,q4⟩:=OwnI.writeG hd ⟨f,hk,h2⟩;exact E.inj j k e1 e2 b q1 q3 q2 q4
end
section
variable {X:Cx}{pins:ik}{σ:L2.St}{H:Hp}{s:gA}{a:gv}
theorem NN(I:Inv X pins σ H s)(e:H a=some (.dT [])):Inv X pins σ (upd H a (.dK [])) s:=by
 have:=wV (t':=s.toks) (h':=s.heap) I (by rw[e];exact True.intro) (AZ a s.heap) (by obtain⟨z,y,xs,r,o,es,ep,h1,_⟩:=(show ObjOk X.prog X.w H s.heap a (.dT []) from I.hok a _ e);exact⟨o,h1⟩) (Q5 (H':=upd H a (.dK [])) (I.hok a _ e));exact this
theorem NM(I:Inv X pins σ H s)(e:H a=some (.dK [])):Inv X pins σ (upd H a (.dT [])) s:=by
 have:=wV (t':=s.toks) (h':=s.heap) I (by rw[e];exact True.intro) (AZ a s.heap) (by obtain⟨z,y,xs,r,o,es,ep,h1,_⟩:=(show ObjOk X.prog X.w H s.heap a (.dK []) from I.hok a _ e);exact⟨o,h1⟩) (Q6 (H':=upd H a (.dT [])) (I.hok a _ e));exact this
def P9:MS:=fun o i v H Q=> ∃a,o= .ref a/\((∃H',DPut H a i v H'/\Q H')\/(∃κ,H a=some (.dT [])/\i=kV κ/\Q (upd H a (.dK [(κ,v)])))\/
 (∃τ b,H a=some (.dK [])/\i= .ref b/\H b=some (.tup (τ.map kV))/\Q (upd H a (.dT [(τ,v)]))))
theorem Jk(hu:X.A.units+1<cLine):Po X P9:=by
 intro pins s σ H o i v ov iv u Q I ro ri rv h;obtain⟨a,rfl,h⟩:=h;cases ro;rcases h with⟨H',g,q⟩|⟨κ,e,rfl,q⟩|⟨τ,b,e,rfl,eb,q⟩
 ·exact vP hu I g ri rv fun s' I'=>⟨H',I',q⟩
 ·refine vP hu (NN I e) (DPut.k (k:=κ) (v:=v) iC (by rw[ic];decide)) ri rv fun s' I'=>⟨_,I',?_⟩
  rw[F0];exact q
 ·have hb:b≠a:=M8 eb e (fun z=>nomatch z);refine vP hu (NM I e) (DPut.t (k:=τ) (v:=v) (b:=b) iC (by rw[iE hb];exact eb) (by rw[ic];decide)) ri rv fun s' I'=>⟨_,I',?_⟩
  rw[F0];exact q
end
section
variable {K:hC}{H:Hp}{O:AP'}
theorem Jn{k:Key}{w:D}{v:V}(hw:Rep K H O w v): ∀{kvs:List (Key×V)} {vs:List D},RepL K H O vs (kvs.map (·.2))->RepL K H O (qF (kvs.map fun p=>jz p.1) vs (jz k) w) ((kvs.map fun kv=>if kv.1=k then(kv.1,v) else kv).map (·.2))
 |[],vs,h=>by cases vs<;>simpa[qF] using h
 |(k',u)::kvs,[],h=>by rw[iJ,RepL] at h;cases h
 |(k',u)::kvs,d'::vs,h=>by
  rw[iJ,RepL] at h;obtain⟨x,r,e,h1,h2⟩:=h;obtain⟨rfl,rfl⟩:=xa e;simp only[iJ,qF,uK];refine RepL.cons ?_ (Jn hw h2);by_cases hk:k'=k
  ·simp only[hk,decide_true,iH];exact hw
  ·simp only[hk,decide_false,iM,ja];exact h1
theorem Jm{k:List Key}{w:D}{v:V}(hw:Rep K H O w v): ∀{kvs:List (List Key×V)} {vs:List D},RepL K H O vs (kvs.map (·.2))->RepL K H O (qF (kvs.map fun p=> .tup (p.1.map jz)) vs (.tup (k.map jz)) w) ((kvs.map fun kv=>if kv.1=k then(kv.1,v) else kv).map (·.2))
 |[],vs,h=>by cases vs<;>simpa[qF] using h
 |(k',u)::kvs,[],h=>by rw[iJ,RepL] at h;cases h
 |(k',u)::kvs,d'::vs,h=>by
  rw[iJ,RepL] at h;obtain⟨x,r,e,h1,h2⟩:=h;obtain⟨rfl,rfl⟩:=xa e;simp only[iJ,qF,D.eqb,rG];refine RepL.cons ?_ (Jm hw h2);by_cases hk:k'=k
  ·simp only[hk,decide_true,iH];exact hw
  ·simp only[hk,decide_false,iM,ja];exact h1
theorem M1{k:Key}{w:D}{v:V}(hw:Rep K H O w v){kvs:List (Key×V)}{vs:List D}(h:RepL K H O vs (kvs.map (·.2))):
  (rM (kvs.map fun p=>jz p.1) vs (jz k) w).1=(pZ kvs k v).map (fun p=>jz p.1)/\RepL K H O (rM (kvs.map fun p=>jz p.1) vs (jz k) w).2 ((pZ kvs k v).map (·.2)):=by
 have ha:(kvs.map fun p=>jz p.1).any (D.eqb · (jz k))=kvs.any fun kv=>decide (kv.1=k):=by
  rw[AX];congr 1;funext p;exact uK _ _
 unfold rM pZ;rw[ha];split
 ·refine⟨?_,Jn hw h⟩;rw[kY];apply qe;intro p _;simp only[Function.comp];split<;>rfl
 ·exact⟨by simp,by rw[pT];exact h.append (RepL.one hw)⟩
theorem M0{k:List Key}{w:D}{v:V}(hw:Rep K H O w v){kvs:List (List Key×V)}{vs:List D}(h:RepL K H O vs (kvs.map (·.2))):
  (rM (kvs.map fun p=> .tup (p.1.map jz)) vs (.tup (k.map jz)) w).1=(pZ kvs k v).map (fun p=> .tup (p.1.map jz))/\RepL K H O (rM (kvs.map fun p=> .tup (p.1.map jz)) vs (.tup (k.map jz)) w).2 ((pZ kvs k v).map (·.2)):=by
 have ha:(kvs.map fun p=>D.tup (p.1.map jz)).any (D.eqb · (.tup (k.map jz)))=kvs.any fun kv=>decide (kv.1=k):=by
  rw[AX];congr 1;funext p;simp only[Function.comp,D.eqb,rG]
 unfold rM pZ;rw[ha];split
 ·refine⟨?_,Jm hw h⟩;rw[kY];apply qe;intro p _;simp only[Function.comp];split<;>rfl
 ·exact⟨by simp,by rw[pT];exact h.append (RepL.one hw)⟩
end
def CC(i:Nat)(f:F)(g:FO):FS:=fun δ=>(f δ).bind fun p=>match p.2[i]? with
 |some (some _)=>(g p.2).bind fun q=>match res q.2 q.1,q.2[i]? with
  |some k,some (some (.oth .dct ks vs,true))=>if we ks k=true/\ks.length<10000 then some (.nx (q.2.set i (some (.oth .dct (rM ks vs k p.1.1).1 (rM ks vs k p.1.1).2,true)))) else none
  |_,_=>none
 |_=>none
section
variable {X:Cx}{e ix:gM}{f:F}{fo:FO}{pos b9 apos h9:Pos}{i:Nat}{x:Str}{A L:jm}{H0:Hp}
theorem JA{d9:Pos}(hu:X.A.units+1<cLine)(hv:PO X (.Name x b9) (gq i))(he:PX X e f)(hi:PO X ix fo)
  (ha: ∀v,assign (.Subscript (.Name x b9) ix d9) X.env v=(do
   let ov <-holding [v] (eval (.Name x b9) X.env)
   let iv <-holding [v,ov] (eval ix X.env)
   standAt d9
   holding [v,ov,iv] (setItem ov iv v)
   release [v,ov,iv] []))
  (hs:swapsWithSole [.Subscript (.Name x b9) ix d9] e pos.line X.env=pure false)(hw:swappedStores [.Subscript (.Name x b9) ix d9] e X.env=pure none)
  (h1:(assignEach [.Subscript (.Name x b9) ix d9] X.env).map (·.2)=[assign (.Subscript (.Name x b9) ix d9) X.env]):
  PSX X A L H0 (.Assign [.Subscript (.Name x b9) ix d9] e pos) (CC i f fo):=PS.imp' (EJ he (JR hv hi (Jk hu) ha) hs hw h1) fun D σ H hw=>by
 obtain⟨δ,T,out,E,fi,e,k⟩:=hw;obtain⟨⟨r,δ1⟩,h1,e⟩:=gu e;dsimp only at e;split at e
 case h_2=>cases e
 rename_i y0 h0;obtain⟨⟨o,δ2⟩,h2,e⟩:=gu e;dsimp only at e;split at e
 ·rename_i kk ks vs hk h3;obtain⟨⟨hok,hlen⟩,e⟩:=iu e;cases e;refine⟨δ,T,r,δ1,E,h1,fun v H1 P1=>⟨δ1,Tmp T r v,.slot i,δ1,P1.er E,by unfold gq;rw[h0],fun v2 H2 P2=>⟨δ1,Tmp T r v,o,δ2,P2.er (P1.er E),h2,fun v3 H3 P3=>?_⟩⟩⟩;have gm:PostO X.K T σ δ H (.val r) δ1 v H1:=P1;have B:=Ops.cons E gm (Ops.cons (P1.er E) P2 (Ops.cons (P2.er (P1.er E)) P3 (Ops.nil (P3.er (P2.er (P1.er E))))));have E3:ER X.K H3 T σ δ2:=B.er.mono (fun _ _ e _=>e) (fun b _ z=>B.tt b z) (fun a z=>B.er.dom a (B.tt a z));have hσ:σ[i]?=some (some v2):=P2.2.2;obtain⟨a,q1,us,q2,q3⟩:=E3.own i _ h3;rw[hσ] at q1;cases q1;have vk:=B.view (j:=2) rfl rfl hk;have rv:=B.rep E (j:=0) (r:=r) rfl rfl;have oa:OwnA σ δ2 a:=⟨i,_,h3,hσ⟩
  have kp: ∀(ho:HO) b u,H3 b=some u-> ¬(OwnA σ δ2 b\/T b)->upd H3 a ho b=some u:=fun ho b u e n=>by rw[iE (by intro z;subst z;exact n (.inl oa))];exact e
  have ks10:10000<sizeLine:=by rw[ic];decide
  have fin: ∀ho ez,OthB (some ho) .dct (rM ks vs kk r.1).1 (rM ks vs kk r.1).2 ez->RepL X.K H3 (fun a=>OwnA σ δ2 a\/T a) (rM ks vs kk r.1).2 ez->D.nx σ (upd H3 a ho):=fun ho ez g1 g2=>by
   obtain⟨E4,K4⟩:=E3.writeG (o:=ho) (d':= .oth .dct (rM ks vs kk r.1).1 (rM ks vs kk r.1).2) h3 hσ ⟨ez,by rw[iC];exact g1,RepL.mono (kp ho) (fun _ _ z=>z) g2⟩;exact k _ _ (B.keep.trans K4).sk E4
  refine⟨a,rfl,?_⟩;rcases q2 with⟨kvs,eH,rfl,rfl⟩|⟨kvs,eH,rfl,rfl⟩
  ·rw[jw] at hlen;rcases uG hok with⟨κ,g1,_⟩|⟨τ,g1,g2⟩
   ·have hy:=vD g1 vk;have bt:=pe g1;subst bt;obtain⟨p1,p2⟩:=M1 (k:=κ) rv q3;refine .inl ⟨_,by rw[hy];exact DPut.k eH (by lia),fin _ _ (.inl ⟨_,rfl,p1,rfl⟩) p2⟩
   ·have fN:kvs=[]:=by
     cases kvs with
     |nil=>rfl
     |cons p kvs=>obtain⟨c,hc⟩:=g2 (jz p.1) (by simp);exact(C2 hc).elim
    subst fN;obtain⟨b,hy,eb⟩:=vC g1 vk;have bt:=uF g1;subst bt;obtain⟨p1,p2⟩:=M0 (k:=τ) (kvs:=[]) rv q3;exact .inr (.inr ⟨τ,b,eH,hy,eb,fin _ _ (.inr ⟨[(τ,v)],rfl,p1,rfl⟩) p2⟩)
  ·rw[jw] at hlen;rcases uG hok with⟨κ,g1,g2⟩|⟨τ,g1,_⟩
   ·have fN:kvs=[]:=by
     cases kvs with
     |nil=>rfl
     |cons p kvs=>obtain⟨c,hc⟩:=g2 (.tup (p.1.map jz)) (by simp);exact(F1 hc).elim
    subst fN;have hy:=vD g1 vk;have bt:=pe g1;subst bt;obtain⟨p1,p2⟩:=M1 (k:=κ) (kvs:=[]) rv q3;exact .inr (.inl ⟨κ,eH,hy,fin _ _ (.inl ⟨[(κ,v)],rfl,p1,rfl⟩) p2⟩)
   ·obtain⟨b,hy,eb⟩:=vC g1 vk;have bt:=uF g1;subst bt;obtain⟨p1,p2⟩:=M0 (k:=τ) rv q3;refine .inl ⟨_,by rw[hy];exact DPut.t eH eb (by lia),fin _ _ (.inr ⟨_,rfl,p1,rfl⟩) p2⟩
 ·cases e
end
def jQ(d:D):Option (D×Bool):=match d with
 | .oth .dct ks vs=>if(ks.all fun k=>(tN k).isSome)=true/\ks≠[] then jG ks else none
 |_=>qK d
section
variable {X:Cx}
theorem zr{P:hG}{w:gS}: ∀{es:List DictEntry} {vs:List (Key×Value)} {kvs:List (Key×V)},Pairs (kE P w) es vs->KV kvs vs->Vals (kvs.map fun p=>kV p.1) (es.map (·.key))
 |_,_,_,.nil,.nil=> .nil
 |_,_,_,.cons h1 h2 t,.cons r q=>by
  refine .cons ?_ (zr t q);dsimp only;rw[r.1];rcases jC (show yf _ _=true from h1) with⟨i,tk,e1,e2⟩|⟨x,tk,e1,e2⟩
  ·rw[e1,e2];exact⟨tk,rfl⟩
  ·rw[e1,e2];exact⟨tk,rfl⟩
theorem zC{K:hC}{H:Hp}{O:AP'}: ∀(kvs:List (Key×V)),RepL K H O (kvs.map fun p=>jz p.1) (kvs.map fun p=>kV p.1)
 |[]=>RepL.nil
 |(k,v)::kvs=>by
  refine RepL.cons ?_ (zC kvs)
  cases k with
  |inl i=>exact Rep.mkInt
  |inr x=>exact Rep.mkStr
theorem Ql{X:Cx}{id:String}{g g':D->Option (D×Bool)}(hr:jI X (.builtin id) (rDn X.K (g1 g'))){pins:ik}{s:gA}{σ:L2.St}{H:Hp}{x:V}{u:gL}{Q:VK}{O:AP'}{d:D}{z:D×Bool}(I:Inv X pins σ H s)(ru:L2.RelV x u)(np: ∀p,H p=none-> ¬O p)(hd:jh X.K H O d x)(hg:g' d=some z)(G:Gen X.K H O z Q):
  wpAny (model X.prog X.w) X.A (call (.builtin id) [u]) (EP X pins σ Q) X.xe s:=
 hr pins s σ H [x] [u] Q I (.cons ru .nil) ⟨O,[d],z,np,rfl,(fun j d' v' a b=>by
   cases j with
   |zero=>simp at a b;subst a;subst b;exact hd
   |succ j=>simp at a),hg,G⟩
theorem pQ(hc:X.calm=true)(hu:X.A.units+62<cLine):jI X (.builtin "sorted") (rDn X.K (g1 jQ)):=oK fun pins s σ H x u Q O d z I ru np hd hg G=>by
 by_cases hs: ∃ks vs,d= .oth .dct ks vs
 ·obtain⟨ks,vs,rfl⟩:=hs;have t9:(if(ks.all fun k=>(tN k).isSome)=true/\ks≠[] then jG ks else none)=some z:=hg;split at t9
  ·rename_i hok;obtain⟨a,us,rfl,q,r⟩:=uk hd;cases ru;rcases q with⟨kvs,e,rfl,rfl⟩|⟨kvs,e,rfl,rfl⟩
   ·obtain⟨zl,cW,vs',rel,o,es,ep,h1,h2,h3,h4,h5,h6⟩:=Nl I.hok e;have vv:=zr h5 rel;have hl:=vv.length;simp only[jw,jo] at hl;have hh:X.A.handled=none:=I.ok.hd hc;exact qZ hu I (zC (O:=O) kvs) vv t9 G fun Q' E' A' gc hQ=>TT.Ln cW (by rw[gc];exact hh) ⟨o,h1,h2,h3⟩ (by lia) fun h' tk k=>hQ h' tk k
   ·exfalso
    cases kvs with
    |nil=>exact hok.2 rfl
    |cons p kvs=>
     have:=lU.mp hok.1 (.tup (p.1.map jz)) (by simp);simp[tN] at this
  ·cases t9
 ·have:jQ d=qK d:=by
   unfold jQ;split
   ·exact absurd ⟨_,_,rfl⟩ hs
   ·rfl
  exact Ql (g:=jQ) (BQ hc hu) I ru np hd (by rw[<-this];exact hg) G
theorem LO{x:Str}{i:Int}{t:Tok}{pos:Pos}(hg:Gl X x)(hm:X.mg x=some (.int i t))(hd:(x==("__debug__":Str))=false):PX X (.Name x pos) (fC (.int i)):=PX.imp (Mg (v:= .int i) hg hm ⟨t,rfl⟩ hd) fun σ H Q h=>by
 obtain⟨δ,T,r,δ',E,e,k⟩:=h;cases e;exact k _ _ (Post.val .refl E Rep.mkInt)
end
def pK(i:Nat)(f:F):F:=fun δ=>match δ[i]? with
 |some (some (.lst _,true))=>(f δ).bind fun p=>match p.1,p.2[i]? with
  |(.lst m,true),some (some (.lst l,true))=>if l.length+m.length<=sizeLine then some ((.non,false),p.2.set i (some (.lst (l++m),true))) else none
  |_,_=>none
 |_=>none
section
variable {X:Cx}{e:gM}{f:F}{pos b9 apos h9:Pos}{i:Nat}{x:Str}
theorem Ha(hv:PO X (.Name x b9) (gq i))(he:PX X e f)(j0:attributeBase (.Name x b9) "extend" X.env (eval (.Name x b9) X.env)=eval (.Name x b9) X.env)
  (o8:((backTo h9 (starEach [e] X.env)).all (fun x=>!x.1)&&(backToKw h9 (keywordEach [] X.env)).all (fun x=>x.1.isSome)&&decide ([e].length+([]:List Keyword).length+(if([]:List Keyword).isEmpty then 0 else 1)<30))=true)
  (i9:(apos.endLine==h9.line)=true)(hs:starEach [e] X.env=(false,eval e X.env)::starEach [] X.env)(g9:(backTo h9 (starEach [] X.env)).any (·.1)=false):
  PX X (.Call (.Attribute (.Name x b9) "extend" apos) [e] [] h9) (pK i f):=
 PX.imp (JV D4 PySem.F.slot_list_extend PySem.F.type_list_extend Hs hv (oo he tE hs) j0 o8 i9 hs g9) fun σ H Q hw=>by
 obtain⟨δ,T,rr,δ',E,e,k⟩:=hw;unfold pK at e;split at e
 ·rename_i l0 h0;obtain⟨⟨r,δ1⟩,h1,e⟩:=gu e;dsimp only at e;split at e
  ·rename_i m l h2;obtain⟨hz,e⟩:=iu e;obtain⟨rfl,rfl⟩:=sP e;refine⟨δ,T,.slot i,δ,E,by unfold gq;rw[h0],fun v H1 P=>?_⟩;obtain⟨K1,E1,hσ⟩:=P;obtain⟨a,g1,dB,g2,g3⟩:=E1.own i _ h0;rw[hσ] at g1;cases g1;refine⟨.inl ⟨rfl,dB,SqL.of g2⟩,δ,T,_,δ1,E1,h1,fun y H2 P2=>?_⟩;obtain⟨E2,ry⟩:=P2.rep E1;obtain⟨p,rfl,hp,ej,zs,o1,o2⟩:=P2.2;obtain⟨a',q1,xs,q2,q3⟩:=E2.own i _ h2;rw[hσ] at q1;cases q1;have hrl:RepL X.K H2 (fun b=>OwnA σ δ1 b\/T b) m zs:=RepL.mono (fun _ _ e _=>e) (fun b _ z=>z.elim Or.inl fun z=>Or.inr (Or.inl z)) o2;refine⟨_,p,xs,zs,rfl,rfl,q2,o1,by rw[q3.length,o2.length];exact hz,?_⟩;obtain⟨E3,K3⟩:=E2.write h2 hσ (q3.append hrl);exact k _ _ (Post.val ((K1.trans P2.1).trans K3) E3 Rep.mkNon)
  ·cases e
 ·cases e
end
structure PXs(X:Cx)(es:jF)(fs:List F):Prop where
 pa:PA X es (tA X.K (fs.map gp))
section
variable {X:Cx}{e:gM}{es:jF}{f:F}{fs:List F}{pos:Pos}
theorem LH:PXs X [] []:=⟨Br⟩
theorem Jv(h:PX X e f)(hr:PXs X es fs)(hs:starEach (e::es) X.env=(false,eval e X.env)::starEach es X.env):PXs X (e::es) (f::fs):=⟨uy (PX.po h) hr.pa hs⟩
theorem LN(h:PXs X es fs):PX X (.List es pos) (kj fs):=N1 h.pa
theorem LK{x1}(h:PXs X es fs):PX X (.Tuple es x1 pos) (jk fs):=NS h.pa
theorem JK{fe:FT}(h:PTX X e fe):PIf X [e] (tT X.K fe):=Mb h
theorem N8{fe:FT}(h:PWX X e fe):PTX X e fe:=PW.pt h
end
structure QX(X:Cx)(e:gM)(f:F):Prop where
 h:PX X e f
structure QO(X:Cx)(e:gM)(f:FO):Prop where
 h:PX.PO X e f
structure QA(X:Cx)(es:jF)(fs:List FO):Prop where
 h:PA X es (tA X.K fs)
structure QL(X:Cx)(es:jF)(fs:List F):Prop where
 h:PXs X es fs
structure QT(X:Cx)(e:gM)(f:FT):Prop where
 h:PTX X e f
structure QW(X:Cx)(e:gM)(f:FT):Prop where
 h:PWX X e f
structure QG(X:Cx)(A:jm)(e:gM)(t:Tg):Prop where
 h:PGX X A e t
structure QI(X:Cx)(tg e:gM)(f:FIt):Prop where
 h:PIX X tg e f
structure QF(X:Cx)(es:jF)(f:FT):Prop where
 h:PIf X es (tT X.K f)
structure QB(X:Cx)(A:jm)(d:gv)(e:gM)(n:Nat)(f:FB):Prop where
 h:PB X (jU e n (.ref d) X.env) (tBx X.K A d f)
structure QS(X:Cx)(A L:jm)(H0:Hp)(st:Stmt)(f:FS):Prop where
 h:PSX X A L H0 st f
structure QQ(X:Cx)(A L:jm)(H0:Hp)(st:List Stmt)(f:FS):Prop where
 h:B9 X A L H0 st f
structure QC(X:Cx)(v:gL)(g:List D->Option (D×Bool)):Prop where
 h:jI X v (rDn X.K g)
structure QP(X:Cx)(o:vV)(g:D->D->Option (D×Bool)):Prop where
 h:OpR X o (rD X.K g)
abbrev SE(X:Cx)(e:gM)(es:jF):Prop:=starEach (e::es) X.env=(false,eval e X.env)::starEach es X.env
abbrev BA(X:Cx)(p:Pos)(es:jF):Prop:=(backTo p (starEach es X.env)).any (·.1)=false
abbrev DB(x:Str):Prop:=(x==("__debug__":Str))=false
abbrev un(A:gW)(n:Nat):Prop:=A.units+n<cLine
structure ZZ where
 P:Program
 w:World
 K:PySem.W.Frag
 mg:Str->Option Value
 base:Heap
def Oz(Z:ZZ)(k:Nat)(x:Str)(ps:iG)(ev:EvF):Prop:= ∃f fd,FnOk Z.P Z.w Z.K Z.mg Z.base CX0 k f fd ps (spF Z.K ev)/\Z.mg x=some (.ref f)/\PySem.W.keepIn Z.K (.ref f)=true/\Binds Z.K fd ps []
theorem Oz.up{Z:ZZ}{k j:Nat}{x:Str}{ps:iG}{ev:EvF}(o:Oz Z k x ps ev)(h:k<=j:=by decide):Oz Z j x ps ev:=let⟨f,fd,a,b⟩:=o;⟨f,fd,a.mono h,b⟩
abbrev zX(X:Cx):ZZ:=⟨X.prog,X.w,X.K,X.mg,X.base⟩
def btT:List (Str×Value):=[("len",.builtin "len"),("abs",.builtin "abs"),("int",.type "int"),("tuple",.type "tuple"),("list",.type "list"),("bool",.type "bool"),("max",.builtin "max"),("min",.builtin "min"),("all",.builtin "all"),("any",.builtin "any"),("sorted",.builtin "sorted"),("set",.type "set")]
theorem btA{mg:lL}(T:Tx mg): ∀p∈btT,mg p.1=none/\bootBuiltins p.1=some p.2:=by
 have h: ∀p∈btT,bootBuiltins p.1=some p.2:=by decide+kernel
 intro p hp;refine⟨?_,h p hp⟩;have cO:p∈btT:=hp;unfold btT at cO;simp only[jj,jL,kJ] at cO;rcases cO with rfl|rfl|rfl|rfl|rfl|rfl|rfl|rfl|rfl|rfl|rfl|rfl
 ·exact T.n_len
 ·exact T.n_abs
 ·exact T.n_int
 ·exact T.n_tuple
 ·exact T.n_list
 ·exact T.n_bool
 ·exact T.n_max
 ·exact T.n_min
 ·exact T.n_all
 ·exact T.n_any
 ·exact T.n_sorted
 ·exact T.n_set
theorem Fb{z:Str}{v:gL}: ∀{l:List (Str×Value)},l.lookup z=some v->(z,v)∈l
 |[],h=>by cases h
 |(y,u)::l,h=>by
  rw[nV] at h;split at h
  ·rename_i q;cases h;rw[qx q];exact .head _
  ·exact .tail _ (Fb h)
theorem btM{mg:lL}{z:Str}{v:gL}(T:Tx mg)(h:btT.lookup z=some v):mg z=none:=(btA T _ (Fb h)).1
theorem btN{z:Str}{v:gL}(h:btT.lookup z=some v):bootBuiltins z=some v:=(show ∀p∈btT,bootBuiltins p.1=some p.2 from by decide+kernel) _ (Fb h)
section
variable {X:Cx}{x z:Str}{e a b c st lo hi:gM}{es:jF}{fa fb fc fo fl fh:FO}{f g:F}{ft fu:FT}{p p2 p3 pos b9 apos:Pos}{A L:jm}{H0:Hp}{fs:List FO}{dz:List F}{i j k:Nat}{tg:gM}{S:Stmt}{Ss Ts:List Stmt}{u v:FS}
theorem xV(h1:X.N[i]?=some x:=by rfl)(h2:Vis X.env.scope x:=by first|exact Or.inl rfl|exact Or.inr (Or.inl rfl)|exact Or.inr (Or.inr rfl))(h3:DB x:=by decide)(h4:(x==("__classdict__":Str))=false:=by decide):QO X (.Name x pos) (gq i):=⟨Oi h1 h2 h3 h4⟩
theorem xW(h1:X.N[i]?=some x:=by rfl)(h2:Vis X.env.scope x:=by first|exact Or.inl rfl|exact Or.inr (Or.inl rfl)|exact Or.inr (Or.inr rfl))(h3:DB x:=by decide)(h4:(x==("__classdict__":Str))=false:=by decide):QX X (.Name x pos) (ig i):=⟨NR h1 h2 h3 h4⟩
theorem xO(h:QX X e f):QO X e (gp f):=⟨PX.po h.h⟩
theorem x1{j}:QX X (.Constant .none j pos) (fC .non):=⟨NZ⟩
theorem x2{i j}:QX X (.Constant (.bool i) j pos) (fC (.bl i)):=⟨Qf⟩
theorem x3{i j}:QX X (.Constant (.int i) j pos) (fC (.int i)):=⟨N4⟩
theorem x4{i j}:QX X (.Constant (.str i) j pos) (fC (.str i)):=⟨NT⟩
theorem x5{i:Int}(h: ∃t,X.mg x=some (.int i t))(g:Gl X x:=by rfl)(h3:DB x:=by decide):QX X (.Name x pos) (fC (.int i)):=let⟨_,h⟩:=h;⟨LO g h h3⟩
theorem x7:QX X (.Dict [] [] pos) yo:=⟨LP⟩
theorem iI{op:Operator}{g:D->D->Option (D×Bool)}(o:QP X (binaryOp op) g)(ha:QO X a fa)(hb:QO X b fb):QX X (.BinOp a op b pos) (gB g fa fb):=⟨N6 o.h ha.h hb.h⟩
theorem wq(ha:QO X a fa):QX X (.UnaryOp .USub a pos) (jD mf fa):=⟨N0 ha.h⟩
theorem PC(ha:QX X a f):QX X (.UnaryOp .Not a pos) (KG f):=⟨NY ha.h⟩
theorem GX{op:CmpOp}{g:D->D->Option (D×Bool)}(o:QP X (compareOp op) g)(ha:QO X a fa)(hb:QO X b fb)(hm:behindInMarks op b=false:=by first|exact Ka _|with_unfolding_all rfl):QX X (.Compare a [op] [b] pos) (gB g fa fb):=⟨N5 o.h ha.h hb.h hm⟩
theorem tCmp{op:CmpOp}{g:D->D->Option (D×Bool)}(o:QP X (compareOp op) g)(ha:QO X a fa)(hb:QO X b fb)(hm:behindInMarks op b=false:=by first|exact Ka _|with_unfolding_all rfl):QT X (.Compare a [op] [b] pos) (fT (gB g fa fb)):=⟨L0 o.h ha.h hb.h hm⟩
theorem xCh{op m6:CmpOp}(ha:QO X a fa)(hb:QO X b fb)(hc:QO X c fc)(o1:pf op:=by first|exact .inl rfl|exact .inr (.inl rfl)|exact .inr (.inr (.inl rfl))|exact .inr (.inr (.inr rfl)))(o2:pf m6:=by first|exact .inl rfl|exact .inr (.inl rfl)|exact .inr (.inr (.inl rfl))|exact .inr (.inr (.inr rfl)))(hm:lastMarks [op,m6] [b,c]=false:=by with_unfolding_all rfl):QX X (.Compare a [op,m6] [b,c] pos) (lD op m6 fa fb fc):=⟨Jx o1 o2 ha.h hb.h hc.h hm⟩
theorem tCh{op m6:CmpOp}(ha:QO X a fa)(hb:QO X b fb)(hc:QO X c fc)(o1:pf op:=by first|exact .inl rfl|exact .inr (.inl rfl)|exact .inr (.inr (.inl rfl))|exact .inr (.inr (.inr rfl)))(o2:pf m6:=by first|exact .inl rfl|exact .inr (.inl rfl)|exact .inr (.inr (.inl rfl))|exact .inr (.inr (.inr rfl)))(hm:lastMarks [op,m6] [b,c]=false:=by with_unfolding_all rfl):QT X (.Compare a [op,m6] [b,c] pos) (fT (lD op m6 fa fb fc)):=⟨Hc o1 o2 ha.h hb.h hc.h hm⟩
theorem xBo{op}(ha:QX X a f):QX X (.BoolOp op [a] pos) f:=⟨LS ha.h⟩
theorem yO(ha:QX X a f)(hb:QX X (.BoolOp .And (b::es) pos) g):QX X (.BoolOp .And (a::b::es) pos) (tX f g):=⟨N7 ha.h hb.h⟩
theorem wOr(ha:QT X a ft)(hb:QW X (.BoolOp .Or (b::es) pos) fu):QW X (.BoolOp .Or (a::b::es) pos) (mH ft fu):=⟨N9 ha.h hb.h⟩
theorem Cg(ha:QT X a ft):QW X (.BoolOp .Or [a] pos) ft:=⟨LW ha.h⟩
theorem tW{op}(h:QW X (.BoolOp op es pos) ft):QT X (.BoolOp op es pos) ft:=⟨N8 h.h⟩
theorem tNot(ha:QT X a ft):QT X (.UnaryOp .Not a pos) (jX ft):=⟨LZ ha.h⟩
theorem wt(h:QX X e f)(he: ∀whole,isTrue e X.env whole=(do let v <-whole;standAt e.pos;holding [v] (truthy v)):=by intro _;rfl):QT X e (fT f):=⟨LY h.h he⟩
theorem xIx(ha:QO X a fa)(hb:QO X b fb)(hs:uW b:=by exact fun _ _=>rfl):QX X (.Subscript a b pos) (gB gIx fa fb):=⟨Qe ha.h hb.h hs⟩
theorem RA(hu:un X.A 1)(ha:QO X a fa)(hb:QO X b fb)(hs:uW b:=by exact fun _ _=>rfl):QX X (.Subscript a b pos) (gB C7 fa fb):=⟨N2 hu ha.h hb.h hs⟩
theorem xSl(ha:QO X a fa)(hl:QO X lo fl)(hh:QO X hi fh):QX X (.Subscript a (.Slice (some lo) (some hi) none p2) pos) (fSl fa fl fh):=⟨Qd ha.h hl.h hh.h⟩
theorem yN(ha:QO X a fa)(hl:QO X lo fl):QX X (.Subscript a (.Slice (some lo) none none p2) pos) (kG fa fl):=⟨LL ha.h hl.h⟩
theorem wo(ha:QO X a fa)(hh:QO X hi fh):QX X (.Subscript a (.Slice none (some hi) none p2) pos) (kf fa fh):=⟨LM ha.h hh.h⟩
theorem Pz(ha:QO X a fa)(hs:QO X st fb):QX X (.Subscript a (.Slice none none (some st) p2) pos) (Fp fa fb):=⟨NV ha.h hs.h⟩
theorem xL0:QL X [] []:=⟨LH⟩
theorem xL(ha:QX X e f)(hr:QL X es dz)(hs:SE X e es:=by rfl):QL X (e::es) (f::dz):=⟨Jv ha.h hr.h hs⟩
theorem xA0:QA X [] []:=⟨Br⟩
theorem xA(ha:QO X e fa)(hr:QA X es fs)(hs:SE X e es:=by rfl):QA X (e::es) (fa::fs):=⟨uy ha.h hr.h hs⟩
theorem lr{k}(h:QL X es dz):QX X (.Tuple es k pos) (jk dz):=⟨LK h.h⟩
theorem oG(h:QL X es dz):QX X (.List es pos) (kj dz):=⟨LN h.h⟩
theorem xB{id:String}{g:List D->Option (D×Bool)}(T:Tx X.mg)(hv:btT.lookup z=some (.builtin id))(hc:QC X (.builtin id) g)(ha:QA X (e::es) fs)(hg:Gl X z:=by rfl)(hn:z≠"__name__":=by decide)(p7:DB z:=by decide)(he:SE X e es:=by rfl)(i8:BA X pos es:=by rfl):QX X (.Call (.Name z p) (e::es) [] pos) (gO g fs):=⟨LU hc.h hg (btM T hv) (btN hv) ha.h hn p7 he i8⟩
theorem xT{id:String}{g:List D->Option (D×Bool)}(T:Tx X.mg)(hv:btT.lookup z=some (.type id))(hc:QC X (.type id) g)(ha:QA X (e::es) fs)(hg:Gl X z:=by rfl)(hn:z≠"__name__":=by decide)(p7:DB z:=by decide)(he:SE X e es:=by rfl)(i8:BA X pos es:=by rfl):QX X (.Call (.Name z p) (e::es) [] pos) (gO g fs):=⟨LJ hc.h hg (btM T hv) (btN hv) ha.h hn p7 he i8⟩
theorem xI{t:Ty}(T:Tx X.mg)(hz:btT.lookup z=some (.type t.n))(ha:QO X e fa)(hg:Gl X "isinstance":=by rfl)(fR:Gl X z:=by rfl)(hn:z≠"__name__":=by decide)(p7:DB z:=by decide)
  (s1:SE X e [.Name z p2]:=by rfl)(s2:SE X (.Name z p2) []:=by rfl)(i8:BA X pos [.Name z p2]:=by rfl):
  QX X (.Call (.Name "isinstance" p) [e,.Name z p2] [] pos) (jD (oJ [t]) fa):=⟨N3 ha.h hg T.n_isinstance fR (btM T hz) (btN hz) hn p7 zf s1 s2 i8⟩
theorem xU{k:Nat}{ps:iG}{ev:EvF}(O:Oz (zX X) k x ps ev)(hr:Room k X.A)(ha:QA X (e::es) fs)(hg:Gl X x:=by rfl)(p7:DB x:=by decide)
  (he:SE X e es:=by rfl)(i8:BA X pos es:=by rfl):QX X (.Call (.Name x p) (e::es) [] pos) (gJ ev fs):=
 let⟨_,_,ok,hm,kp,bi⟩:=O;⟨LI ok hr hg hm kp bi ha.h p7 he i8⟩
theorem Ry{T:String}{mk:List D->D}{o:Bool}(X0:Tx X.mg)(hv:btT.lookup z=some (.type T))(ha:QA X [a,b] [fa,fb])(hT:(T="list"/\mk= .lst/\o=true)\/(T="tuple"/\mk= .tup/\o=false):=by first|exact .inl ⟨rfl,rfl,rfl⟩|exact .inr ⟨rfl,rfl,rfl⟩)(hc:X.calm=true:=by rfl)(hg:Gl X z:=by rfl)(hn:z≠"__name__":=by decide)(p7:DB z:=by decide)(dr:Gl X "range":=by rfl)
  (s1:SE X (.Call (.Name "range" p2) [a,b] [] p3) []:=by rfl)(s2:SE X a [b]:=by rfl)
  (i8:BA X pos []:=by rfl)(bS:BA X p3 [b]:=by rfl):
  QX X (.Call (.Name z p) [.Call (.Name "range" p2) [a,b] [] p3] [] pos) (gO (gRg mk o) [fa,fb]):=⟨NU hT hc hg (btM X0 hv) (btN hv) hn p7 dr X0.n_range ha.h s1 s2 i8 bS⟩
theorem IJ(hv:QO X (.Name x b9) (gq i))(he:QX X e f)(j0:attributeBase (.Name x b9) "append" X.env (eval (.Name x b9) X.env)=eval (.Name x b9) X.env:=by rfl)
  (o8:((backTo pos (starEach [e] X.env)).all (fun x=>!x.1)&&(backToKw pos (keywordEach [] X.env)).all (fun x=>x.1.isSome)&&decide ([e].length+([]:List Keyword).length+(if([]:List Keyword).isEmpty then 0 else 1)<30))=true:=by rfl)
  (i9:(apos.endLine==pos.line)=true:=by rfl)(hs:SE X e []:=by rfl)(g9:BA X pos []:=by rfl):QX X (.Call (.Attribute (.Name x b9) "append" apos) [e] [] pos) (kH i f):=⟨Hb hv.h he.h j0 o8 i9 hs g9⟩
theorem RB(hv:QO X (.Name x b9) (gq i))(he:QX X e f)(j0:attributeBase (.Name x b9) "extend" X.env (eval (.Name x b9) X.env)=eval (.Name x b9) X.env:=by rfl)
  (o8:((backTo pos (starEach [e] X.env)).all (fun x=>!x.1)&&(backToKw pos (keywordEach [] X.env)).all (fun x=>x.1.isSome)&&decide ([e].length+([]:List Keyword).length+(if([]:List Keyword).isEmpty then 0 else 1)<30))=true:=by rfl)
  (i9:(apos.endLine==pos.line)=true:=by rfl)(hs:SE X e []:=by rfl)(g9:BA X pos []:=by rfl):QX X (.Call (.Attribute (.Name x b9) "extend" apos) [e] [] pos) (pK i f):=⟨Ha hv.h he.h j0 o8 i9 hs g9⟩
theorem Rz(hv:QO X (.Name x b9) (gq i))(he:QO X e fo)(j0:attributeBase (.Name x b9) "pop" X.env (eval (.Name x b9) X.env)=eval (.Name x b9) X.env:=by rfl)
  (o8:((backTo pos (starEach [e] X.env)).all (fun x=>!x.1)&&(backToKw pos (keywordEach [] X.env)).all (fun x=>x.1.isSome)&&decide ([e].length+([]:List Keyword).length+(if([]:List Keyword).isEmpty then 0 else 1)<30))=true:=by rfl)
  (i9:(apos.endLine==pos.line)=true:=by rfl)(hs:SE X e []:=by rfl)(g9:BA X pos []:=by rfl):QX X (.Call (.Attribute (.Name x b9) "pop" apos) [e] [] pos) (tR i fo):=⟨Jw hv.h he.h j0 o8 i9 hs g9⟩
theorem iR1(T:Tx X.mg)(ha:QA X [a] [fa])(hg:Gl X "range":=by rfl)(hs:starEach [a] X.env=[(false,eval a X.env)]:=by rfl):QI X tg (.Call (.Name "range" p) [a] [] pos) (wy fa):=⟨EN hg T.n_range ha.h hs⟩
theorem iR2(T:Tx X.mg)(ha:QA X [a,b] [fa,fb])(hg:Gl X "range":=by rfl)(hs:starEach [a,b] X.env=[(false,eval a X.env),(false,eval b X.env)]:=by rfl)(r8:starEach [b] X.env=[(false,eval b X.env)]:=by rfl):QI X tg (.Call (.Name "range" p) [a,b] [] pos) (BF fa fb):=⟨EM hg T.n_range ha.h hs r8⟩
theorem iZ{elts:jF}{k1:Nat}{aE:Pos}(T:Tx X.mg)(ha:QX X a f)(hb:QX X b g)(hg:Gl X "zip":=by rfl)(hs:SE X a [b]:=by rfl)(r8:SE X b []:=by rfl)(i8:BA X pos [b]:=by rfl):
  QI X (.Tuple elts k1 aE) (.Call (.Name "zip" p) [a,b] [] pos) (zT f g):=⟨L9 hg T.n_zip ha.h hb.h hs r8 i8⟩
theorem iS(h:QX X e f):QI X tg e (iU f):=⟨Ma h.h⟩
theorem gN(hN:X.N.Nodup)(hi:X.N[i]?=some x:=by rfl)(hx:Loc X.env.scope x:=by first|exact Or.inl rfl|exact Or.inr rfl)(hf:X.fn x=true\/X.env.scope.names.lookup x=some .local:=by first|exact Or.inl rfl|exact Or.inr rfl)(ha:A i:=by decide):QG X A (.Name x pos) (gG i):=⟨JO hN hi hx hf ha⟩
theorem gT{t1 t2:Tg}{k:Nat}(h1:QG X A a t1)(h2:QG X A b t2)(hc:X.calm=true:=by rfl)(q1:(assignEach [a,b] X.env).map (·.2)=assign a X.env::(assignEach [b] X.env).map (·.2):=by rfl)(q2:(assignEach [b] X.env).map (·.2)=assign b X.env::(assignEach [] X.env).map (·.2):=by rfl)
  (hn:(assignEach [a,b] X.env).length=2:=by rfl)(t8:(assignEach [a,b] X.env).findIdx? (·.1)=none:=by rfl):QG X A (.Tuple [a,b] k pos) (vX [t1,t2]):=⟨Me hc (zF h1.h (zF h2.h JP q2) q1) hn rfl t8⟩
theorem f0:QF X [] jx:=⟨JL⟩
theorem f1(h:QT X e ft):QF X [e] ft:=⟨JK h.h⟩
theorem bE{gens:rO}{sc:jZ}{d:gv}{n:Nat}(he:QX X e f)(hn:gens[n+1]?=none:=by rfl):QB X A d (.ListComp e gens sc p) n (jq f):=⟨JW hn he.h⟩
theorem cOk{N P:iG}{sc scope:jZ}{N':iG}{caps:iF}(S:FnScope N P sc)(h:BP N sc scope N' caps k=true:=by decide+kernel)(hN:X.N=N:=by rfl)(hs:X.env.scope=sc:=by rfl):CompOk X N' scope caps k:=KQ hN hs h
theorem xC{c:rN}{ie:rO}{elt:gM}{scope:jZ}{fi:FIt}{tt:Tg}{ti:FT}{fb:FB}{caps:iF}{N':iG}(C:CompOk X N' scope caps k)(nd:N'.Nodup)(pi:QI X c.target c.iter fi)
  (aN: ∀(cl:qc) (C:gv) (s3:gA) (H3:Hp) (fp:kb) (pins:ik),(X.comp N' scope cl C s3 H3 fp pins).N.Nodup->
   QG (X.comp N' scope cl C s3 H3 fp pins) (fun i=>caps.length<=i) c.target tt/\QF (X.comp N' scope cl C s3 H3 fp pins) c.ifs ti/\ ∀d,QB (X.comp N' scope cl C s3 H3 fp pins) (fun i=>caps.length<=i) d (.ListComp elt (c::ie) scope pos) 0 fb)
  (hc:X.calm=true:=by rfl)(ha:c.is_async=0:=by rfl)(v8: ∀g',ie[0]?=some g'->g'.is_async=0:=by intro g' h;cases h;try rfl)(hs: ∀x,foldedSetIterable c.iter X.env x=pure x:=by intro _;rfl):QX X (.ListComp elt (c::ie) scope pos) (iY caps k fi tt ti fb):=⟨LQ C hc ha v8 hs pi.h fun cl C s3 H3 fp pins=>let⟨a,b,c⟩:=aN cl C s3 H3 fp pins nd;⟨a.h,b.h,fun d=>(c d).h⟩⟩
theorem sC{c:rN}{ie:rO}{elt:gM}{scope:jZ}{fi:FIt}{tt:Tg}{ti:FT}{fb:FB}{caps:iF}{N':iG}{py d9:Pos}(hN:X.N.Nodup)(C:CompOk X N' scope caps k)(nd:N'.Nodup)(pi:QI X c.target c.iter fi)
  (aN: ∀(cl:qc) (C:gv) (s3:gA) (H3:Hp) (fp:kb) (pins:ik),(X.comp N' scope cl C s3 H3 fp pins).N.Nodup->
   QG (X.comp N' scope cl C s3 H3 fp pins) (fun i=>caps.length<=i) c.target tt/\QF (X.comp N' scope cl C s3 H3 fp pins) c.ifs ti/\ ∀d,QB (X.comp N' scope cl C s3 H3 fp pins) (fun i=>caps.length<=i) d (.ListComp elt (c::ie) scope pos) 0 fb)
  (dO:swapsWith (.ListComp elt (c::ie) scope pos) (some (.Name x py)) d9.line X.env=pure true:=by rfl)(hi:X.N[i]?=some x:=by rfl)(hx:X.env.scope.names.lookup x=some .local:=by rfl)(hf:X.fn x=true:=by rfl)(hA:A i:=by decide)
  (hc:X.calm=true:=by rfl)(ha:c.is_async=0:=by rfl)(v8: ∀g',ie[0]?=some g'->g'.is_async=0:=by intro g' h;cases h;try rfl)(hs: ∀x,foldedSetIterable c.iter X.env x=pure x:=by intro _;rfl):QS X A L H0 (.Assign [.Name x py] (.ListComp elt (c::ie) scope pos) d9) (ir i (iY caps k fi tt ti fb)):=⟨JB dO C hc ha v8 hs pi.h (Gf hN hi (Or.inl hx) (Or.inl hf)) hA fun cl C s3 H3 fp pins=>let⟨a,b,c⟩:=aN cl C s3 H3 fp pins nd;⟨a.h,b.h,fun d=>(c d).h⟩⟩
theorem s0:QQ X A L H0 [] gR:=⟨JC⟩
theorem s1(h:QS X A L H0 S u)(hr:QQ X A L H0 Ss v):QQ X A L H0 (S::Ss) (gE u v):=⟨Hf h.h hr.h⟩
theorem sR(h:QX X e f):QS X A L H0 (.Return (some e) pos) (ju f):=⟨L5 h.h⟩
theorem sRV(hl: ¬L i)(h1:X.N[i]?=some x:=by rfl)(h2:Vis X.env.scope x:=by first|exact Or.inl rfl|exact Or.inr (Or.inl rfl)|exact Or.inr (Or.inr rfl))(h3:DB x:=by decide)(h4:(x==("__classdict__":Str))=false:=by decide):QS X A L H0 (.Return (some (.Name x p)) pos) (pA i):=⟨EI h1 h2 h3 h4 hl⟩
theorem sE(h:QX X e f)(hs:swapsWith e none pos.line X.env=pure false:=by rfl):QS X A L H0 (.Expr e pos) (nc f):=⟨Jz h.h hs⟩
theorem sI(hc:QT X c ft)(ha:QQ X A L H0 Ss u)(hb:QQ X A L H0 Ts v):QS X A L H0 (.If c Ss Ts pos) (sIf ft u v):=⟨Oe hc.h ha.h hb.h⟩
theorem sW{n:Nat}(hc:QT X c ft)(hb:QQ X A L H0 Ss u)(hp:PassesOwn (model X.prog X.w) X.A X.env X.xe:=by exact PassesOwn.never):QS X A L H0 (.While c Ss [] pos) (nM ft u n):=⟨Hd hp hc.h hb.h⟩
theorem sF{fi:FIt}{t:Tg}(hi:QI X tg e fi)(hg:QG X A tg t)(hb:QQ X A L H0 Ss u)(hp:PassesOwn (model X.prog X.w) X.A X.env X.xe:=by exact PassesOwn.never)(hc:X.calm=true:=by rfl)(hs: ∀x,foldedSetIterable e X.env x=pure x:=by intro _;rfl):QS X A L H0 (.For tg e Ss [] pos) (oX fi t u):=⟨L6 hp hc hi.h hg.h hb.h hs⟩
theorem sS(hN:X.N.Nodup)(he:QX X e f)(hi:X.N[i]?=some x:=by rfl)(hx:Loc X.env.scope x:=by first|exact Or.inl rfl|exact Or.inr rfl)(hf:X.fn x=true\/X.env.scope.names.lookup x=some .local:=by first|exact Or.inl rfl|exact Or.inr rfl)(ha:A i:=by decide)(hs:swapsWith e (some (.Name x p)) pos.line X.env=pure false:=by rfl):QS X A L H0 (.Assign [.Name x p] e pos) (ir i f):=⟨L4 hN hi hx he.h hs hf ha⟩
theorem sT{t:Tg}{pt:Pos}(he:QX X e f)(hg:QG X A (.Tuple es k pt) t)(hs:swapsWithSole [.Tuple es k pt] e pos.line X.env=pure false:=by rfl)(hw:swappedStores [.Tuple es k pt] e X.env=pure none:=by rfl)(h1:(assignEach [.Tuple es k pt] X.env).map (·.2)=[assign (.Tuple es k pt) X.env]:=by rfl):QS X A L H0 (.Assign [.Tuple es k pt] e pos) (G8 t f):=⟨L3 he.h hg.h hs hw h1⟩
theorem sIx{d9:Pos}(hv:QO X (.Name x b9) (gq i))(he:QX X e f)(hi:QO X a fo)
  (ha: ∀v,assign (.Subscript (.Name x b9) a d9) X.env v=(do
   let ov <-holding [v] (eval (.Name x b9) X.env)
   let iv <-holding [v,ov] (eval a X.env)
   standAt d9
   holding [v,ov,iv] (setItem ov iv v)
   release [v,ov,iv] []):=by intro _;rfl)
  (hs:swapsWithSole [.Subscript (.Name x b9) a d9] e pos.line X.env=pure false:=by rfl)(hw:swappedStores [.Subscript (.Name x b9) a d9] e X.env=pure none:=by rfl)
  (h1:(assignEach [.Subscript (.Name x b9) a d9] X.env).map (·.2)=[assign (.Subscript (.Name x b9) a d9) X.env]:=by rfl):QS X A L H0 (.Assign [.Subscript (.Name x b9) a d9] e pos) (vH i f fo):=⟨He hv.h he.h hi.h ha hs hw h1⟩
theorem sDP{d9:Pos}(hu:un X.A 1)(hv:QO X (.Name x b9) (gq i))(he:QX X e f)(hi:QO X a fo)
  (ha: ∀v,assign (.Subscript (.Name x b9) a d9) X.env v=(do
   let ov <-holding [v] (eval (.Name x b9) X.env)
   let iv <-holding [v,ov] (eval a X.env)
   standAt d9
   holding [v,ov,iv] (setItem ov iv v)
   release [v,ov,iv] []):=by intro _;rfl)
  (hs:swapsWithSole [.Subscript (.Name x b9) a d9] e pos.line X.env=pure false:=by rfl)(hw:swappedStores [.Subscript (.Name x b9) a d9] e X.env=pure none:=by rfl)
  (h1:(assignEach [.Subscript (.Name x b9) a d9] X.env).map (·.2)=[assign (.Subscript (.Name x b9) a d9) X.env]:=by rfl):QS X A L H0 (.Assign [.Subscript (.Name x b9) a d9] e pos) (CC i f fo):=⟨JA hu hv.h he.h hi.h ha hs hw h1⟩
end
def Fz(K:hC)(mg:lL)(x:Str)(st:Stmt):Prop:= ∃f fd,mg x=some (.ref f)/\Fun K x x st f fd
theorem fz{K:hC}{h:gU}{mg:lL}{x:Str}{st:Stmt}{f:gv}{oc:gL}{od an:Option Addr}{aZ:vU}{kV doc pm f9 ct:gL}(X:K.In h)(G:h.Ns mainGlobals mg)(a:PySem.W.nsIn K mainGlobals x=some (some (.ref f)))
  (l:K.lookup f=some ⟨oc,od,.func (PySem.W.fnOf x x (rH st) (nA st) (gP st) .none kV doc pm an f9 ct),aZ⟩)(c:PySem.W.codeIn K f9 x=true)(k:PySem.W.keepIn K (.ref f)=true):Fz K mg x st:=⟨f,_,PySem.W.mg_of X G a,OX l c k⟩
def BdA(x:Str)(st:Stmt)(ps:iG):Prop:= ∀(kV doc pm:gL) (an:Option Addr) (f9 ct:gL) (us:iL),us.length=ps.length->bindArgs (PySem.W.fnOf x x (rH st) (nA st) (gP st) .none kV doc pm an f9 ct) ⟨us,[]⟩=pure (ps.zip us)
theorem scM{N P:iG}{sc:jZ}(h1:sc.kind= .function:=by rfl)(h2:sc.isCoroutine=false:=by rfl)(h3:sc.isGenerator=false:=by rfl)(h4:N.Nodup:=by decide+kernel)(h5:N.take P.length=P:=by rfl)(h6: ∀x∈P,sc.names.lookup x=some .local\/sc.names.lookup x=some .cell:=by decide+kernel)(h7: ∀y∈sc.names,y.2≠ .free:=by decide+kernel):FnScope N P sc:=⟨h1,h2,h3,h4,h5,h6,h7⟩
def Bd(Z:ZZ)(k:Nat)(x:Str)(st:Stmt)(N ps:iG)(asg:iF)(fs:FS):Prop:= ∀(f:gv) (f9:gL) (A:gW) (outer:List Env) (s:gA) (H:Hp) (E:XK) (L:jm),(∀i,L i->i<ps.length)->Room k (A.deeper (envOfC x (gP st) s.heap.objs.size f f9))->
 un (A.deeper (envOfC x (gP st) s.heap.objs.size f f9)) 60->un (A.deeper (envOfC x (gP st) s.heap.objs.size f f9)) 1->un (A.deeper (envOfC x (gP st) s.heap.objs.size f f9)) 62->un (A.deeper (envOfC x (gP st) s.heap.objs.size f f9)) 90->N.Nodup->
 QQ (Di CX0 Z.P Z.w Z.K Z.mg Z.base N x (gP st) f f9 A outer s H E).nox (fun i=>i∈asg) L H (nA st) fs
theorem fnB{Z:ZZ}{k:Nat}{x:Str}{st:Stmt}{N ps:iG}{asg:iF}{fs:FS}{f:gv}{fd:nS}(F:Fun Z.K x x st f fd)(S:FnScope N ps (gP st))(hb:Bd Z k x st N ps asg fs):FnOk Z.P Z.w Z.K Z.mg Z.base CX0 (k+1) f fd ps (spF Z.K (evF N.length ps.length asg fs)):=
 OW F S fun f9 A outer s H E L hL hr=>by
  have:=hr.un;exact(hb f f9 A outer s H E L hL hr (by unfold un;omega) (by unfold un;omega) (by unfold un;omega) (by unfold un;omega) S.nd).h
theorem ozB{Z:ZZ}{k:Nat}{x:Str}{st:Stmt}{N ps:iG}{asg:iF}{fs:FS}(a:Fz Z.K Z.mg x st)(S:FnScope N ps (gP st))(b:BdA x st ps)(hb:Bd Z k x st N ps asg fs):Oz Z (k+1) x ps (evF N.length ps.length asg fs):=
 let⟨f,fd,m,F⟩:=a;⟨f,fd,fnB F S hb,m,F.kp,F.binds b⟩
theorem us0{P:List Value->Prop}(h:P []): ∀us:List Value,us.length=0->P us:=fun us e=>by cases us with|nil=>exact h|cons a l=>cases e
theorem us1{P:List Value->Prop}{n:Nat}(h: ∀a,∀us:List Value,us.length=n->P (a::us)): ∀us:List Value,us.length=n+1->P us:=fun us e=>by cases us with|nil=>cases e|cons a l=>exact h a l (Nat.succ.inj e)
theorem fzL{K:hC}{mg:lL}{x y:Str}{st:Stmt}{fa:gv}(a:Fz K mg x st)(fV:mg x=some (.ref fa))(b:BdA x st [y]): ∃fd,Fun K x x st fa fd/\ ∀(s:gA) (v:gL),BindsTo s fd ⟨[v],[]⟩ [(y,v)]:=by
 obtain⟨f,fd,m,F⟩:=a;have e:=fV.symm.trans m;cases e;obtain⟨oc,od,kV,doc,pm,an,f9,ct,aZ,e,_⟩:=F.ex;exact⟨fd,F,fun s v=>by subst e;exact .of_eq (b kV doc pm an f9 ct [v] rfl)⟩
theorem mgI{K:hC}{h:gU}{mg:lL}{x:Str}{i:Int}{t:Tok}(X:K.In h)(G:h.Ns mainGlobals mg)(a:PySem.W.nsIn K mainGlobals x=some (some (.int i t))): ∃t,mg x=some (.int i t):=⟨t,PySem.W.mg_of X G a⟩
theorem txK{K:hC}{h:gU}{mg:lL}(X:K.In h)(G:h.Ns mainGlobals mg)(z0:PySem.W.nsIn K mainGlobals "len"=some none)(z1:PySem.W.nsIn K mainGlobals "abs"=some none)(z2:PySem.W.nsIn K mainGlobals "int"=some none)(z3:PySem.W.nsIn K mainGlobals "tuple"=some none)(z4:PySem.W.nsIn K mainGlobals "list"=some none)(z5:PySem.W.nsIn K mainGlobals "range"=some none)(z6:PySem.W.nsIn K mainGlobals "isinstance"=some none)(z7:PySem.W.nsIn K mainGlobals "bool"=some none)(z8:PySem.W.nsIn K mainGlobals "max"=some none)(z9:PySem.W.nsIn K mainGlobals "min"=some none)(z10:PySem.W.nsIn K mainGlobals "all"=some none)(z11:PySem.W.nsIn K mainGlobals "any"=some none)(z12:PySem.W.nsIn K mainGlobals "sorted"=some none)(z13:PySem.W.nsIn K mainGlobals "enumerate"=some none)(z14:PySem.W.nsIn K mainGlobals "zip"=some none)(z15:PySem.W.nsIn K mainGlobals "set"=some none):Tx mg:=⟨mS X G z0,mS X G z1,mS X G z2,mS X G z3,mS X G z4,mS X G z5,mS X G z6,mS X G z7,mS X G z8,mS X G z9,mS X G z10,mS X G z11,mS X G z12,mS X G z13,mS X G z14,mS X G z15⟩
theorem walkG{l:PySem.W.OpenLaw}{q:hG}{loose:iG}{XP:(Str->Option Value)->Heap->Prop}{YP:World->Heap->Prop}{d:DefRec}{K:Params->PySem.W.Frag}{LV:Nat}{x:Str}{ev:EvF}(hk:Room LV callerA)(hn:l.most=some 63)(dX:d.params.defaults=[])(hY: ∀(w:gS) (h:gU),YP w h->(K w.params).In h)
  (F: ∀(w:gS) (mg:lL) (fa:gv) (h:gU),(K w.params).In h->h.Ns mainGlobals mg->mg d.name=some (.ref fa)-> ∃fd:FuncData,(∀(s:gA) (u:gL),BindsTo s fd ⟨[u],[]⟩ [(x,u)])/\ ∀base:Heap,(K w.params).In base->base.Ns mainGlobals mg->FnOk l.prog w (K w.params) mg base CX0 LV fa fd [x] (spF (K w.params) ev))
  (M: ∀ns:List Int,ns.length<=63-> ∃o outs,ev [(.lst (ns.map .int),false)]=some ((.bl true,o),outs)):PySem.W.WalkO q loose XP YP l.row.toRowW d [] (fun f vs=>PySem.call f vs):=
 L2.PD (n:=63) (k:=LV) (x:=x) (CX:=fun _=>CX0) (sp:=fun w=>spF (K w.params) ev) hn (by decide) dX hk hY F (fun _ _ a ns hl _ hS=>by obtain⟨o,outs,e⟩:=M ns hl;exact OQ hS e) fun _ _ _ _ _ z=>z
end PX
namespace PV
open PySem PySem.Spec PyProof.Rows L2 PX
abbrev Rb:Nat:=100000
def qM:FS:=(gE (ju (tX (jD (oJ [.int]) (gq 0)) (KG (jD (oJ [.bool]) (gq 0))))) gR)
def mI:EvF:=evF 1 1 [] qM
def nv:FS:=(gE (ju (tX (gJ mI [(gq 0)]) (lD .LtE .LtE (gq 1) (gq 0) (gq 2)))) gR)
def jT:EvF:=evF 3 3 [] nv
def tQ:FS:=(gE (ju (gJ jT [(gq 1),(gp (fC (.int 1))),(gq 0)])) gR)
def pN:EvF:=evF 2 2 [] tQ
def pI:FS:=(gE (ju (tX (gJ mI [(gq 1)]) (gJ pN [(gq 0),(gp (gO (g1 nR) [(gq 1)]))]))) gR)
def kO:EvF:=evF 2 2 [] pI
def lS:FS:=(gE (sIf (fT (gB (jM .Lt) (gq 1) (gp (gO (g1 mO) [(gq 0)])))) (gE (ju (gB gIx (gq 0) (gq 1))) gR) gR) (gE (ju (fC (.int 0))) gR))
def kN:EvF:=evF 2 2 [] lS
def nu:FS:=(gE (ir 2 (gJ kN [(gq 0),(gq 1)])) (gE (sIf (fT (gB (jM .GtE) (gq 2) (gp (gB za (gp (fC (.int 10))) (gp (fC (.int 18))))))) (gE (ju (kj [(gB gSub (gq 2) (gp (gB za (gp (fC (.int 10))) (gp (fC (.int 18)))))),(fC (.bl true))])) gR) gR) (gE (ju (kj [(gB uH (gq 2) (gp (fC (.int 2147483647)))),(fC (.bl false))])) gR)))
def kW:EvF:=evF 3 2 [2] nu
def oD:FS:=(gE (sIf (fT (gB gIx (gq 0) (gp (fC (.int 1))))) (gE (ir 2 (gB uH (gp (gB gIx (gq 0) (gp (fC (.int 0))))) (gq 1))) (gE (vH 0 (gB KA (gp (gB gIx (gq 0) (gp (fC (.int 0))))) (gq 1)) (gp (fC (.int 0)))) (gE (pA 2) gR))) gR) (gE (vH 0 (gB uH (gp (gB iB (gp (gB qa (gp (gB gIx (gq 0) (gp (fC (.int 0))))) (gp (fC (.int 48271))))) (gp (fC (.int 29))))) (gp (fC (.int 2147483647)))) (gp (fC (.int 0)))) (gE (ir 3 (gB uH (gp (gB iB (gp (gB iB (gp (gB qa (gp (gB gIx (gq 0) (gp (fC (.int 0))))) (gp (gB gIx (gq 0) (gp (fC (.int 0))))))) (gp (gB qa (gp (fC (.int 39373))) (gp (gB gIx (gq 0) (gp (fC (.int 0))))))))) (gp (fC (.int 7))))) (gp (fC (.int 2147483629))))) (gE (ir 3 (gB uH (gp (gB iB (gp (gB qa (gq 3) (gq 3))) (gp (gB qa (gp (fC (.int 16807))) (gq 3))))) (gp (fC (.int 2147483587))))) (gE (ju (gB uH (gp (gB KA (gq 3) (gp (fC (.int 8))))) (gq 1))) gR)))))
def gC:EvF:=evF 4 2 [2,3] oD
def qL:FS:=(gE (ir 2 (gO (gRg .lst true) [(gp (fC (.int 1))),(gp (gB iB (gq 1) (gp (fC (.int 1)))))])) (gE (ir 3 (kj [])) (gE (oX (wy (gq 1)) (gG 4) (gE (nc (kH 3 (gB qa (gp (tR 2 (gp (gJ gC [(gq 0),(gp (gO (g1 mO) [(gq 2)]))])))) (gp (gB gIx (gp (kj [(fC (.int 1)),(jD mf (gp (fC (.int 1))))])) (gp (gJ gC [(gq 0),(gp (fC (.int 2)))]))))))) gR)) (gE (ju (gO (g1 kL) [(gq 3)])) gR))))
def kM:EvF:=evF 5 2 [2,3,4] qL
def nK:FS:=(gE (ju (tX (jD (oJ [.tuple]) (gq 0)) (gB gEq (gp (gO (g1 mO) [(gq 0)])) (gp (fC (.int 2)))))) gR)
def mn:EvF:=evF 1 1 [] nK
def uI:FS:=(gE (ju (gO (g1 C8) [(gp (iY [] 2 (zT (ig 0) (kG (gq 0) (gp (fC (.int 1))))) (vX [(gG 0),(gG 1)]) jx (jq (gB (jM .Lt) (gq 0) (gq 1)))))])) gR)
def ny:EvF:=evF 1 1 [] uI
def lT:FS:=(gE (sIf (mH (jX (fT (jD (oJ [.tuple]) (gq 1)))) (jX (fT (lD .LtE .LtE (gp (fC (.int 1))) (gp (gO (g1 mO) [(gq 1)])) (gp (fC (.int 5))))))) (gE (ju (fC (.bl false))) gR) gR) (gE (sIf (jX (fT (gO (g1 C8) [(gp (iY [0] 1 (iU (ig 1)) (gG 1) jx (jq (gJ kO [(gq 0),(gq 1)]))))]))) (gE (ju (fC (.bl false))) gR) gR) (gE (ju (gJ ny [(gp (iY [] 1 (iU (ig 1)) (gG 0) jx (jq (gO (g1 nR) [(gq 0)]))))])) gR)))
def jA:EvF:=evF 2 2 [] lT
def nL:FS:=(gE (sIf (mH (jX (fT (jD (oJ [.tuple]) (gq 1)))) (fT (gB (jM .Gt) (gp (gO (g1 mO) [(gq 1)])) (gp (fC (.int 30)))))) (gE (ju (fC (.bl false))) gR) gR) (gE (ju (tX (gO (g1 C8) [(gp (iY [0] 1 (iU (ig 1)) (gG 1) jx (jq (gJ jA [(gq 0),(gq 1)]))))]) (gJ ny [(gq 1)]))) gR))
def kP:EvF:=evF 2 2 [] nL
def pJ:FS:=(gE (sIf (jX (fT (gJ mn [(gq 0)]))) (gE (ju (fC (.bl false))) gR) gR) (gE (G8 (vX [(gG 1),(gG 2)]) (ig 0)) (gE (ju (tX (gJ jT [(gq 1),(gp (fC (.int 0))),(gp (fC (.int 5)))]) (gJ kP [(gq 1),(gq 2)]))) gR)))
def iR:EvF:=evF 3 1 [1,2] pJ
def si:FS:=(gE (ir 2 (gB gIx (gp (kj [(fC (.int 3)),(fC (.int 4)),(fC (.int 6))])) (gp (gJ gC [(gq 0),(gp (fC (.int 3)))])))) (gE (ir 3 (kj [])) (gE (oX (BF (gp (fC (.int 1))) (gp (gB iB (gq 1) (gp (fC (.int 1)))))) (gG 4) (gE (ir 5 (gJ gC [(gq 0),(gq 2)])) (gE (sIf (fT (gB (jM .Lt) (gq 5) (gp (fC (.int 2))))) (gE (nc (kH 3 (gB gIx (gp (kj [(ig 4),(jD mf (gq 4))])) (gq 5)))) gR) gR) gR))) (gE (sIf (fT (gB gEq (gq 3) (gp (kj [])))) (gE (nc (kH 3 (gB qa (gp (gB gIx (gp (kj [(fC (.int 1)),(jD mf (gp (fC (.int 1))))])) (gp (gJ gC [(gq 0),(gp (fC (.int 2)))])))) (gp (gB iB (gp (fC (.int 1))) (gp (gJ gC [(gq 0),(gq 1)]))))))) gR) gR) (gE (ju (gO (g1 kL) [(gq 3)])) gR)))))
def lx:EvF:=evF 6 2 [2,3,4,5] si
def mP:FS:=(gE (ju (gB qa (gp (gB gIx (gq 0) (gp (gB gSub (gp (gO (g1 nR) [(gq 1)])) (gp (fC (.int 1))))))) (gp (gB gIx (gp (kj [(jD mf (gp (fC (.int 1)))),(fC (.int 1))])) (gp (gO (g1 MD) [(gp (gB (jM .Gt) (gq 1) (gp (fC (.int 0)))))])))))) gR)
def ko:EvF:=evF 2 2 [] mP
def oE:FS:=(gE (ir 2 yo) (gE (oX (iU (ig 1)) (gG 3) (gE (ir 4 (gJ ko [(gq 0),(gq 3)])) (gE (CC 2 (ig 4) (gp (gO (g1 nR) [(gq 4)]))) gR))) (gE (ju (gO (g1 kL) [(gp (iY [2] 1 (iU (gO (g1 jQ) [(gq 2)])) (gG 1) jx (jq (gB C7 (gq 0) (gq 1)))))])) gR)))
def jR:EvF:=evF 5 2 [2,3,4] oE
def sh:FS:=(gE (ir 2 (gO (g1 yh) [(gq 0)])) (gE (ir 3 (fC (.int 0))) (gE (nM (fT (gB (jM .Lt) (gq 3) (gp (gO (g1 mO) [(gq 2)])))) (gE (oX (iU (ig 1)) (gG 4) (gE (ir 5 (gJ jR [(gq 4),(gp (gB gIx (gq 2) (gq 3)))])) (gE (sIf (fT (gB vO (gq 5) (gq 2))) (gE (nc (kH 2 (ig 5))) gR) gR) gR))) (gE (ir 3 (gB iB (gq 3) (gp (fC (.int 1))))) gR)) Rb) (gE (pA 2) gR))))
def mD:EvF:=evF 6 2 [2,3,4,5] sh
def sf:FS:=(gE (ir 3 (gB iB (gq 1) (gp (gJ gC [(gq 0),(gp (gB iB (gp (gB gSub (gq 2) (gq 1))) (gp (fC (.int 1)))))])))) (gE (ir 4 (gJ gC [(gq 0),(gp (fC (.int 4)))])) (gE (sIf (fT (gB gEq (gq 3) (gp (fC (.int 0))))) (gE (ju (jk [(fC (.int 0)),(jk [])])) gR) gR) (gE (ir 5 (gJ gC [(gq 0),(gp (gB gIx (gp (kj [(fC (.int 4)),(fC (.int 8)),(fC (.int 13))])) (gp (gJ gC [(gq 0),(gp (fC (.int 3)))]))))])) (gE (ir 6 (iY [0,3] 1 (wy (gq 5)) (gG 2) jx (jq (gJ lx [(gq 0),(gq 1)])))) (gE (sIf (fT (gB (jM .Gt) (gq 4) (gp (fC (.int 0))))) (gE (ir 7 (iY [0,3] 1 (wy (gp (gB iB (gp (fC (.int 1))) (gp (gB uH (gq 4) (gp (fC (.int 2)))))))) (gG 2) jx (jq (gJ kM [(gq 0),(gq 1)])))) (gE (sIf (fT (gB gEq (gq 4) (gp (fC (.int 3))))) (gE (ir 7 (iY [] 1 (iU (ig 7)) (gG 0) jx (jq (gO (g1 kL) [(gp (iY [] 1 (iU (ig 0)) (gG 0) jx (jq (gO (g1 nR) [(gq 0)]))))])))) gR) gR) (gE (ir 6 (gJ mD [(gp (kf (gp (gO (g1 jQ) [(gp (gO (g1 Fj) [(gq 6)]))])) (gp (fC (.int 2))))),(gq 7)])) gR))) gR) (gE (ir 6 (gO (g1 jQ) [(gp (gO (g1 Fj) [(gq 6)]))])) (gE (sIf (fT (gB (jM .Gt) (gp (gO (g1 mO) [(gq 6)])) (gp (fC (.int 30))))) (gE (ir 6 (kf (gq 6) (gp (gJ gC [(gq 0),(gp (fC (.int 30)))])))) gR) gR) (gE (ju (jk [(ig 3),(gO (g1 kL) [(gq 6)])])) gR)))))))))
def mC:EvF:=evF 8 3 [3,4,5,6,7] sf
def nk:FS:=(gE (ju (tX (jD (oJ [.int]) (gq 0)) (tX (KG (jD (oJ [.bool]) (gq 0))) (lD .LtE .LtE (gq 1) (gq 0) (gq 2))))) gR)
def jl:EvF:=evF 3 3 [] nk
def mh:FS:=(gE (sIf (mH (jX (fT (jD (oJ [.tuple]) (gq 1)))) (fT (gB gEq (gq 1) (gp (jk []))))) (gE (ju (fC (.bl false))) gR) gR) (gE (ir 2 (fC (.int 0))) (gE (oX (iU (ig 1)) (gG 3) (gE (sIf (mH (jX (fT (gJ jl [(gq 3),(gp (jD mf (gq 0))),(gq 0)]))) (fT (gB (jM .LtE) (gp (gO (g1 nR) [(gq 3)])) (gq 2)))) (gE (ju (fC (.bl false))) gR) gR) (gE (ir 2 (gO (g1 nR) [(gq 3)])) gR))) (gE (ju (fC (.bl true))) gR))))
def jE:EvF:=evF 4 2 [2,3] mh
def tP:FS:=(gE (sIf (mH (jX (fT (jD (oJ [.tuple]) (gq 0)))) (mH (fT (gB gNe (gp (gO (g1 mO) [(gq 0)])) (gp (fC (.int 2))))) (jX (fT (gJ jl [(gp (gB gIx (gq 0) (gp (fC (.int 0))))),(gp (fC (.int 0))),(gp (fC (.int 5)))]))))) (gE (ju (fC (.bl false))) gR) gR) (gE (sIf (mH (jX (fT (jD (oJ [.tuple]) (gp (gB gIx (gq 0) (gp (fC (.int 1)))))))) (fT (gB (jM .Gt) (gp (gO (g1 mO) [(gp (gB gIx (gq 0) (gp (fC (.int 1)))))])) (gp (fC (.int 30)))))) (gE (ju (fC (.bl false))) gR) gR) (gE (ir 1 (jk [])) (gE (oX (iU (gB gIx (gq 0) (gp (fC (.int 1))))) (gG 2) (gE (sIf (mH (jX (fT (gJ jE [(gp (gB gIx (gq 0) (gp (fC (.int 0))))),(gq 2)]))) (fT (gB (jM .LtE) (gq 2) (gq 1)))) (gE (ju (fC (.bl false))) gR) gR) (gE (ir 1 (ig 2)) gR))) (gE (ju (fC (.bl true))) gR)))))
def ml:EvF:=evF 3 1 [1,2] tP
def nI:FS:=(gE (ir 3 (gJ gC [(gq 0),(gp (gB iB (gp (gO (g1 mO) [(gq 1)])) (gp (fC (.int 1)))))])) (gE (ir 4 (gB gIx (gp (kj [(fC (.int 0)),(gB iB (gq 2) (gp (fC (.int 1)))),(gB gSub (gp (jD mf (gq 2))) (gp (fC (.int 1)))),(fC (.bl true)),(fC .non),(fC (.str "1")),(jk [(fC (.int 1))]),(gB za (gp (fC (.int 10))) (gp (fC (.int 29)))),(fC (.bl false)),(fC (.int 1)),(jD mf (gp (fC (.int 1))))])) (gp (gJ gC [(gq 0),(gp (fC (.int 11)))])))) (gE (ir 5 (kj [(gB iB (gp (gB iB (gp (kf (gq 1) (gq 3))) (gp (jk [(ig 4)])))) (gp (kG (gq 1) (gq 3)))),(gB iB (gp (gB iB (gp (kf (gq 1) (gq 3))) (gp (jk [(ig 4)])))) (gp (kG (gq 1) (gp (gB iB (gq 3) (gp (fC (.int 1)))))))),(gB iB (gp (kf (gq 1) (gq 3))) (gp (kG (gq 1) (gp (gB iB (gq 3) (gp (fC (.int 1))))))))])) (gE (ir 5 (gB iB (gq 5) (gp (kj [(Fp (gq 1) (gp (jD mf (gp (fC (.int 1)))))),(gO (g1 yh) [(gq 1)]),(gB iB (gp (kf (gq 1) (gq 3))) (gp (kG (gq 1) (gp (gB gSub (gq 3) (gp (fC (.int 1)))))))),(ig 4),(jk [])])))) (gE (nc (kH 5 (gB iB (gp (gB iB (gp (kf (gq 1) (gq 3))) (gp (gO (g1 kL) [(gp (iY [] 1 (iU (fSl (gq 1) (gq 3) (gp (gB iB (gq 3) (gp (fC (.int 1))))))) (gG 0) jx (jq (jD mf (gq 0)))))])))) (gp (kG (gq 1) (gq 3)))))) (gE (ju (gB gIx (gq 5) (gp (gJ gC [(gq 0),(gp (fC (.int 9)))])))) gR))))))
def lE:EvF:=evF 6 3 [3,4,5] nI
def wg:FS:=(gE (G8 (vX [(gG 2),(gG 3)]) (ig 1)) (gE (ir 4 (gJ gC [(gq 0),(gp (gB iB (gp (gO (g1 mO) [(gq 3)])) (gp (fC (.int 1)))))])) (gE (ir 5 (gJ gC [(gq 0),(gp (fC (.int 9)))])) (gE (sIf (fT (gB (jM .Lt) (gq 5) (gp (fC (.int 4))))) (gE (ir 6 (gJ lE [(gq 0),(gp (gB gIx (gp (gB iB (gq 3) (gp (jk [(jk [(fC (.int 1))])])))) (gq 4))),(gq 2)])) (gE (ju (jk [(ig 2),(gB iB (gp (gB iB (gp (kf (gq 3) (gq 4))) (gp (jk [(ig 6)])))) (gp (kG (gq 3) (gp (gB iB (gq 4) (gp (fC (.int 1))))))))])) gR)) gR) (gE (sIf (fT (gB (jM .Lt) (gq 5) (gp (fC (.int 6))))) (gE (ir 7 (gJ lx [(gq 0),(gp (gO (g2 GB) [(gp (fC (.int 1))),(gq 2)]))])) (gE (ju (jk [(ig 2),(gB iB (gp (gB iB (gp (kf (gq 3) (gq 4))) (gp (jk [(ig 7)])))) (gp (kG (gq 3) (gp (gB iB (gq 4) (gp (gJ gC [(gq 0),(gp (fC (.int 2)))])))))))])) gR)) gR) (gE (sIf (fT (gB gEq (gq 5) (gp (fC (.int 6))))) (gE (ir 8 (kj [(gB iB (gp (kf (gq 3) (gq 4))) (gp (kG (gq 3) (gp (gB gSub (gq 4) (gp (fC (.int 1)))))))),(Fp (gq 3) (gp (jD mf (gp (fC (.int 1)))))),(gO (g1 yh) [(gq 3)]),(gB iB (gp (kG (gq 3) (gq 4))) (gp (kf (gq 3) (gq 4)))),(fC .non),yo])) (gE (ju (jk [(ig 2),(gB gIx (gq 8) (gp (gJ gC [(gq 0),(gp (fC (.int 6)))])))])) gR)) gR) (gE (sIf (fT (gB gEq (gq 5) (gp (fC (.int 7))))) (gE (ju (jk [(gB gIx (gp (kj [(gB gSub (gq 2) (gp (fC (.int 1)))),(gB iB (gq 2) (gp (fC (.int 1)))),(fC (.int 6)),(jD mf (gp (fC (.int 1)))),(fC (.bl true)),(fC .non),(fC (.str "3")),(fC (.int 5)),(gB za (gp (fC (.int 10))) (gp (fC (.int 29))))])) (gp (gJ gC [(gq 0),(gp (fC (.int 9)))]))),(ig 3)])) gR) gR) (gE (ir 8 (kj [(gO (g1 yh) [(gq 1)]),(gB iB (gq 1) (gp (jk [(jk [])]))),(kf (gq 1) (gp (fC (.int 1)))),(jk [(ig 3),(ig 2)]),(fC .non),yo,(fC (.int 7)),(jk [(ig 1)]),(ig 2),(ig 3)])) (gE (ju (gB gIx (gq 8) (gp (gJ gC [(gq 0),(gp (fC (.int 10)))])))) gR)))))))))
def jS:EvF:=evF 9 2 [2,3,4,5,6,7,8] wg
def nJ:FS:=(gE (ir 1 (kj [(jk [])])) (gE (oX (BF (gp (fC (.int 1))) (gp (gB iB (gq 0) (gp (fC (.int 1)))))) (gG 2) (gE (ir 3 (kj [])) (gE (oX (iU (ig 1)) (gG 4) (gE (nc (pK 3 (kj [(ig 4),(gB iB (gq 4) (gp (jk [(ig 2)]))),(gB iB (gq 4) (gp (jk [(jD mf (gq 2))])))]))) gR)) (gE (ir 1 (ig 3)) gR)))) (gE (ju (gO (g1 oB) [(gp (iY [] 1 (iU (ig 1)) (gG 0) (fT (gB gNe (gq 0) (gp (jk [])))) (jq (ig 0))))])) gR)))
def jg:EvF:=evF 5 1 [1,2,3,4] nJ
def KC:FS:=(gE (oX (wy (gp (gO (g2 GB) [(gp (fC (.int 1))),(gp (gO (g2 Kz) [(gp (gO (g1 mO) [(gq 0)])),(gp (fC (.int 12)))]))]))) (gG 1) (gE (ir 2 (gJ kW [(gq 0),(gq 1)])) (gE (ir 3 (gJ mC [(gq 2),(gp (fC (.int 0))),(gp (fC (.int 5)))])) (gE (sIf (fT (gB Fl (gp (gJ iR [(gq 3)])) (gp (fC (.bl true))))) (gE (ju (fC (.bl false))) gR) gR) (gE (ir 4 (gJ gC [(gq 2),(gp (fC (.int 49)))])) (gE (ir 5 (jk [(fC (.int 4)),(gO (g1 kL) [(gp (fSl (gp (gJ jg [(gp (fC (.int 4)))])) (gq 4) (gp (gB iB (gp (gB iB (gq 4) (gp (fC (.int 29))))) (gp (gJ gC [(gq 2),(gp (fC (.int 3)))]))))))])])) (gE (oX (iU (kj [(gJ jS [(gq 2),(gq 3)]),(gJ jS [(gq 2),(gq 3)]),(gJ jS [(gq 2),(gq 3)]),(ig 5)])) (gG 6) (gE (ir 7 (gJ iR [(gq 6)])) (gE (sIf (mH (jX (fT (jD (oJ [.bool]) (gq 7)))) (fT (gB gNe (gq 7) (gp (gJ ml [(gq 6)]))))) (gE (ju (fC (.bl false))) gR) gR) gR))) gR))))))) (gE (ju (tX (gB gIs (gp (gJ iR [(gp (jk [(fC (.int 0)),(jk [])]))])) (gp (fC (.bl true)))) (tX (gB gIs (gp (gJ iR [(gp (jk [(fC (.int 5)),(jk [])]))])) (gp (fC (.bl true)))) (gB gIs (gp (gJ iR [(gp (jk [(fC (.int 6)),(jk [])]))])) (gp (fC (.bl false))))))) gR))
def Ab:EvF:=evF 8 1 [1,2,3,4,5,6,7] KC
end PV
namespace K11
open PySem PySem.Spec PyProof.Rows L2 PX PV
def top(i:Nat):Stmt:=PySem.Challenge.pw_twinriddles_k11_riddles_looked_at.main.body.getD i (.Pass ⟨0,0,0,0⟩)
section
variable {Z:ZZ}{k:Nat}
abbrev pz:Stmt:=top 4
theorem CB:FnScope ["thing"] ["thing"] (gP pz):=scM
abbrev tM(Z:ZZ)(k:Nat):Prop:=Oz Z k "is_whole" ["thing"] mI
theorem Dy:BdA "is_whole" pz ["thing"]:=fun _ _ _ _ _ _=>us1 fun _=>us0 rfl
theorem CQ(a:Fz Z.K Z.mg "is_whole" pz)(T:Tx Z.mg):tM Z (k+1):=by
 have S:=CB;refine ozB (asg:=[]) (fs:=qM) a S Dy fun f f9 A outer s H E L hL hr hu m8 n8 p6 nd=>?_;exact(s1 (sR (yO (xI T rfl xV) (xBo (PC (xI T rfl xV))))) s0)
abbrev oi:Stmt:=top 5
theorem Bl:FnScope ["thing","least","most"] ["thing","least","most"] (gP oi):=scM
abbrev qJ(Z:ZZ)(k:Nat):Prop:=Oz Z k "is_number" ["thing","least","most"] jT
theorem BZ:BdA "is_number" oi ["thing","least","most"]:=fun _ _ _ _ _ _=>us1 fun _=>us1 fun _=>us1 fun _=>us0 rfl
theorem Bx(a:Fz Z.K Z.mg "is_number" oi)(T:Tx Z.mg)(l8:tM Z k):qJ Z (k+1):=by
 have S:=Bl;refine ozB (asg:=[]) (fs:=nv) a S BZ fun f f9 A outer s H E L hL hr hu m8 n8 p6 nd=>?_;exact(s1 (sR (yO (xU l8 hr (xA xV xA0)) (xBo (xCh xV xV xV)))) s0)
abbrev rk:Stmt:=top 6
theorem EA:FnScope ["names","thing"] ["names","thing"] (gP rk):=scM
abbrev zL(Z:ZZ)(k:Nat):Prop:=Oz Z k "is_name" ["names","thing"] pN
theorem FG:BdA "is_name" rk ["names","thing"]:=fun _ _ _ _ _ _=>us1 fun _=>us1 fun _=>us0 rfl
theorem EZ(a:Fz Z.K Z.mg "is_name" rk)(T:Tx Z.mg)(l5:qJ Z k):zL Z (k+1):=by
 have S:=EA;refine ozB (asg:=[]) (fs:=tQ) a S FG fun f f9 A outer s H E L hL hr hu m8 n8 p6 nd=>?_;exact(s1 (sR (xU l5 hr (xA xV (xA (xO x3) (xA xV xA0))))) s0)
abbrev rf:Stmt:=top 7
theorem Ey:FnScope ["names","thing"] ["names","thing"] (gP rf):=scM
abbrev zJ(Z:ZZ)(k:Nat):Prop:=Oz Z k "is_sign" ["names","thing"] kO
theorem FE:BdA "is_sign" rf ["names","thing"]:=fun _ _ _ _ _ _=>us1 fun _=>us1 fun _=>us0 rfl
theorem EX(a:Fz Z.K Z.mg "is_sign" rf)(T:Tx Z.mg)(l8:tM Z k)(O_is_name:zL Z k):zJ Z (k+1):=by
 have S:=Ey;refine ozB (asg:=[]) (fs:=pI) a S FE fun f f9 A outer s H E L hL hr hu m8 n8 p6 nd=>?_;exact(s1 (sR (yO (xU l8 hr (xA xV xA0)) (xBo (xU O_is_name hr (xA xV (xA (xO (xB T rfl ⟨mv⟩ (xA xV xA0))) xA0)))))) s0)
abbrev rh:Stmt:=top 8
theorem Ez:FnScope ["thing"] ["thing"] (gP rh):=scM
abbrev zK(Z:ZZ)(k:Nat):Prop:=Oz Z k "is_pair" ["thing"] mn
theorem FF:BdA "is_pair" rh ["thing"]:=fun _ _ _ _ _ _=>us1 fun _=>us0 rfl
theorem EY(a:Fz Z.K Z.mg "is_pair" rh)(T:Tx Z.mg):zK Z (k+1):=by
 have S:=Ez;refine ozB (asg:=[]) (fs:=nK) a S FF fun f f9 A outer s H E L hL hr hu m8 n8 p6 nd=>?_;exact(s1 (sR (yO (xI T rfl xV) (xBo (GX ⟨(tH hu)⟩ (xO (xB T rfl ⟨jN⟩ (xA xV xA0))) (xO x3))))) s0)
abbrev og:Stmt:=top 9
theorem Bj:FnScope ["things"] ["things"] (gP og):=scM
abbrev qI(Z:ZZ)(k:Nat):Prop:=Oz Z k "is_rising" ["things"] ny
theorem BX:BdA "is_rising" og ["things"]:=fun _ _ _ _ _ _=>us1 fun _=>us0 rfl
theorem Bv(a:Fz Z.K Z.mg "is_rising" og)(T:Tx Z.mg):qI Z (k+1):=by
 have S:=Bj;refine ozB (asg:=[]) (fs:=uI) a S BX fun f f9 A outer s H E L hL hr hu m8 n8 p6 nd=>?_;exact(s1 (sR (xB T rfl ⟨(vR rfl)⟩ (xA (xO (by exact xC (N':=["one","other"]) (cOk S) (by decide+kernel) (iZ T xW (yN xV (xO x3))) fun _ _ _ _ _ _ nd=>⟨(gT (gN nd) (gN nd)),f0,fun _=>bE (GX ⟨(kD (.inl rfl) hu)⟩ xV xV)⟩)) xA0))) s0)
abbrev oj:Stmt:=top 10
theorem Bm:FnScope ["names","thing"] ["names","thing"] (gP oj):=scM
abbrev wc(Z:ZZ)(k:Nat):Prop:=Oz Z k "is_clause" ["names","thing"] jA
theorem B6:BdA "is_clause" oj ["names","thing"]:=fun _ _ _ _ _ _=>us1 fun _=>us1 fun _=>us0 rfl
theorem By(a:Fz Z.K Z.mg "is_clause" oj)(T:Tx Z.mg)(j7: ∃t,Z.mg "MOST_SIGNS"=some (.int 5 t))(O_is_sign:zJ Z k)(k9:qI Z k):wc Z (k+1):=by
 have S:=Bm;refine ozB (asg:=[]) (fs:=lT) a S B6 fun f f9 A outer s H E L hL hr hu m8 n8 p6 nd=>?_;exact(s1 (sI (tW (wOr (tNot (wt (xI T rfl xV))) (Cg (tNot (tCh (xO x3) (xO (xB T rfl ⟨jN⟩ (xA xV xA0))) (xO (x5 j7))))))) (s1 (sR x2) s0) s0) (s1 (sI (tNot (wt (xB T rfl ⟨(vR rfl)⟩ (xA (xO (by exact xC (N':=["names","sign"]) (cOk S) (by decide+kernel) (iS xW) fun _ _ _ _ _ _ nd=>⟨(gN nd),f0,fun _=>bE (xU O_is_sign hr (xA xV (xA xV xA0)))⟩)) xA0)))) (s1 (sR x2) s0) s0) (s1 (sR (xU k9 hr (xA (xO (by exact xC (N':=["sign"]) (cOk S) (by decide+kernel) (iS xW) fun _ _ _ _ _ _ nd=>⟨(gN nd),f0,fun _=>bE (xB T rfl ⟨mv⟩ (xA xV xA0))⟩)) xA0))) s0)))
abbrev mz:Stmt:=top 11
theorem xE:FnScope ["names","thing"] ["names","thing"] (gP mz):=scM
abbrev sd(Z:ZZ)(k:Nat):Prop:=Oz Z k "are_clauses" ["names","thing"] kP
theorem yF:BdA "are_clauses" mz ["names","thing"]:=fun _ _ _ _ _ _=>us1 fun _=>us1 fun _=>us0 rfl
theorem xX(a:Fz Z.K Z.mg "are_clauses" mz)(T:Tx Z.mg)(i5: ∃t,Z.mg "MOST_CLAUSES"=some (.int 30 t))(O_is_clause:wc Z k)(k9:qI Z k):sd Z (k+1):=by
 have S:=xE;refine ozB (asg:=[]) (fs:=nL) a S yF fun f f9 A outer s H E L hL hr hu m8 n8 p6 nd=>?_;exact(s1 (sI (tW (wOr (tNot (wt (xI T rfl xV))) (Cg (tCmp ⟨(kD (.inr (.inr (.inl rfl))) hu)⟩ (xO (xB T rfl ⟨jN⟩ (xA xV xA0))) (xO (x5 i5)))))) (s1 (sR x2) s0) s0) (s1 (sR (yO (xB T rfl ⟨(vR rfl)⟩ (xA (xO (by exact xC (N':=["names","clause"]) (cOk S) (by decide+kernel) (iS xW) fun _ _ _ _ _ _ nd=>⟨(gN nd),f0,fun _=>bE (xU O_is_clause hr (xA xV (xA xV xA0)))⟩)) xA0)) (xBo (xU k9 hr (xA xV xA0))))) s0))
abbrev oh:Stmt:=top 12
theorem Bk:FnScope ["thing","names","clauses"] ["thing"] (gP oh):=scM
abbrev wa(Z:ZZ)(k:Nat):Prop:=Oz Z k "is_riddle" ["thing"] iR
theorem BY:BdA "is_riddle" oh ["thing"]:=fun _ _ _ _ _ _=>us1 fun _=>us0 rfl
theorem Bw(a:Fz Z.K Z.mg "is_riddle" oh)(T:Tx Z.mg)(j8: ∃t,Z.mg "MOST_NAMES"=some (.int 5 t))(O_is_pair:zK Z k)(l5:qJ Z k)(O_are_clauses:sd Z k):wa Z (k+1):=by
 have S:=Bk;refine ozB (asg:=[1,2]) (fs:=pJ) a S BY fun f f9 A outer s H E L hL hr hu m8 n8 p6 nd=>?_;exact(s1 (sI (tNot (wt (xU O_is_pair hr (xA xV xA0)))) (s1 (sR x2) s0) s0) (s1 (sT xW (gT (gN nd) (gN nd))) (s1 (sR (yO (xU l5 hr (xA xV (xA (xO x3) (xA (xO (x5 j8)) xA0)))) (xBo (xU O_are_clauses hr (xA xV (xA xV xA0)))))) s0)))
abbrev my:Stmt:=top 14
theorem xD:FnScope ["_law_script","_law_k"] ["_law_script","_law_k"] (gP my):=scM
abbrev rZ(Z:ZZ)(k:Nat):Prop:=Oz Z k "_law_cell_at" ["_law_script","_law_k"] kN
theorem yE:BdA "_law_cell_at" my ["_law_script","_law_k"]:=fun _ _ _ _ _ _=>us1 fun _=>us1 fun _=>us0 rfl
theorem xS(a:Fz Z.K Z.mg "_law_cell_at" my)(T:Tx Z.mg):rZ Z (k+1):=by
 have S:=xD;refine ozB (asg:=[]) (fs:=lS) a S yE fun f f9 A outer s H E L hL hr hu m8 n8 p6 nd=>?_;exact(s1 (sI (tCmp ⟨(kD (.inl rfl) hu)⟩ xV (xO (xB T rfl ⟨jN⟩ (xA xV xA0)))) (s1 (sR (xIx xV xV)) s0) s0) (s1 (sR x3) s0))
abbrev nZ:Stmt:=top 15
theorem Bi:FnScope ["_law_script","_law_k","_law_cell"] ["_law_script","_law_k"] (gP nZ):=scM
abbrev vZ(Z:ZZ)(k:Nat):Prop:=Oz Z k "_law_state" ["_law_script","_law_k"] kW
theorem BW:BdA "_law_state" nZ ["_law_script","_law_k"]:=fun _ _ _ _ _ _=>us1 fun _=>us1 fun _=>us0 rfl
theorem Bu(a:Fz Z.K Z.mg "_law_state" nZ)(T:Tx Z.mg)(O_law_cell_at:rZ Z k):vZ Z (k+1):=by
 have S:=Bi;refine ozB (asg:=[2]) (fs:=nu) a S BW fun f f9 A outer s H E L hL hr hu m8 n8 p6 nd=>?_;exact(s1 (sS nd (xU O_law_cell_at hr (xA xV (xA xV xA0)))) (s1 (sI (tCmp ⟨(kD (.inr (.inr (.inr rfl))) hu)⟩ xV (xO (iI ⟨wM⟩ (xO x3) (xO x3)))) (s1 (sR (oG (xL (iI ⟨pB⟩ xV (xO (iI ⟨wM⟩ (xO x3) (xO x3)))) (xL x2 xL0)))) s0) s0) (s1 (sR (oG (xL (iI ⟨pD⟩ xV (xO x3)) (xL x2 xL0)))) s0)))
abbrev pq:Stmt:=top 16
theorem Cy:FnScope ["_law_state_here","_law_many","_law_found","_law_mixed"] ["_law_state_here","_law_many"] (gP pq):=scM
abbrev lB(Z:ZZ)(k:Nat):Prop:=Oz Z k "_law_take" ["_law_state_here","_law_many"] gC
theorem Dw:BdA "_law_take" pq ["_law_state_here","_law_many"]:=fun _ _ _ _ _ _=>us1 fun _=>us1 fun _=>us0 rfl
theorem CO(a:Fz Z.K Z.mg "_law_take" pq)(T:Tx Z.mg):lB Z (k+1):=by
 have S:=Cy;refine ozB (asg:=[2,3]) (fs:=oD) a S Dw fun f f9 A outer s H E L hL hr hu m8 n8 p6 nd=>?_;exact(s1 (sI (wt (xIx xV (xO x3))) (s1 (sS nd (iI ⟨pD⟩ (xO (xIx xV (xO x3))) xV)) (s1 (sIx xV (iI ⟨Gh⟩ (xO (xIx xV (xO x3))) xV) (xO x3)) (s1 (sRV (fun h=>absurd (hL _ h) (by decide))) s0))) s0) (s1 (sIx xV (iI ⟨pD⟩ (xO (iI ⟨gZ⟩ (xO (iI ⟨oq⟩ (xO (xIx xV (xO x3))) (xO x3))) (xO x3))) (xO x3)) (xO x3)) (s1 (sS nd (iI ⟨pD⟩ (xO (iI ⟨gZ⟩ (xO (iI ⟨gZ⟩ (xO (iI ⟨oq⟩ (xO (xIx xV (xO x3))) (xO (xIx xV (xO x3))))) (xO (iI ⟨oq⟩ (xO x3) (xO (xIx xV (xO x3))))))) (xO x3))) (xO x3))) (s1 (sS nd (iI ⟨pD⟩ (xO (iI ⟨gZ⟩ (xO (iI ⟨oq⟩ xV xV)) (xO (iI ⟨oq⟩ (xO x3) xV)))) (xO x3))) (s1 (sR (iI ⟨pD⟩ (xO (iI ⟨Gh⟩ xV (xO x3))) xV)) s0)))))
abbrev nj:Stmt:=top 17
theorem yT:FnScope ["_law_state_here","_law_names","_law_far","_law_found","_law_name","_law_kind"] ["_law_state_here","_law_names"] (gP nj):=scM
abbrev pF(Z:ZZ)(k:Nat):Prop:=Oz Z k "_law_clause" ["_law_state_here","_law_names"] lx
theorem zi:BdA "_law_clause" nj ["_law_state_here","_law_names"]:=fun _ _ _ _ _ _=>us1 fun _=>us1 fun _=>us0 rfl
theorem yW(a:Fz Z.K Z.mg "_law_clause" nj)(T:Tx Z.mg)(b7:lB Z k):pF Z (k+1):=by
 have S:=yT;refine ozB (asg:=[2,3,4,5]) (fs:=si) a S zi fun f f9 A outer s H E L hL hr hu m8 n8 p6 nd=>?_;exact(s1 (sS nd (xIx (xO (oG (xL x3 (xL x3 (xL x3 xL0))))) (xO (xU b7 hr (xA xV (xA (xO x3) xA0)))))) (s1 (sS nd (oG xL0)) (s1 (sF (iR2 T (xA (xO x3) (xA (xO (iI ⟨gZ⟩ xV (xO x3))) xA0))) (gN nd) (s1 (sS nd (xU b7 hr (xA xV (xA xV xA0)))) (s1 (sI (tCmp ⟨(kD (.inl rfl) hu)⟩ xV (xO x3)) (s1 (sE (IJ xV (xIx (xO (oG (xL xW (xL (wq xV) xL0)))) xV))) s0) s0) s0))) (s1 (sI (tCmp ⟨(tH hu)⟩ xV (xO (oG xL0))) (s1 (sE (IJ xV (iI ⟨oq⟩ (xO (xIx (xO (oG (xL x3 (xL (wq (xO x3)) xL0)))) (xO (xU b7 hr (xA xV (xA (xO x3) xA0)))))) (xO (iI ⟨gZ⟩ (xO x3) (xO (xU b7 hr (xA xV (xA xV xA0))))))))) s0) s0) (s1 (sR (xT T rfl ⟨kQ⟩ (xA xV xA0))) s0)))))
abbrev mx:Stmt:=top 18
theorem xy:FnScope ["_law_state_here","_law_names","_law_rest","_law_found","_law_turn"] ["_law_state_here","_law_names"] (gP mx):=scM
abbrev rY(Z:ZZ)(k:Nat):Prop:=Oz Z k "_law_turning" ["_law_state_here","_law_names"] kM
theorem yD:BdA "_law_turning" mx ["_law_state_here","_law_names"]:=fun _ _ _ _ _ _=>us1 fun _=>us1 fun _=>us0 rfl
theorem xR(a:Fz Z.K Z.mg "_law_turning" mx)(T:Tx Z.mg)(b7:lB Z k):rY Z (k+1):=by
 have S:=xy;refine ozB (asg:=[2,3,4]) (fs:=qL) a S yD fun f f9 A outer s H E L hL hr hu m8 n8 p6 nd=>?_;exact(s1 (sS nd (Ry T rfl (xA (xO x3) (xA (xO (iI ⟨gZ⟩ xV (xO x3))) xA0)))) (s1 (sS nd (oG xL0)) (s1 (sF (iR1 T (xA xV xA0)) (gN nd) (s1 (sE (IJ xV (iI ⟨oq⟩ (xO (Rz xV (xO (xU b7 hr (xA xV (xA (xO (xB T rfl ⟨jN⟩ (xA xV xA0))) xA0)))))) (xO (xIx (xO (oG (xL x3 (xL (wq (xO x3)) xL0)))) (xO (xU b7 hr (xA xV (xA (xO x3) xA0))))))))) s0)) (s1 (sR (xT T rfl ⟨kQ⟩ (xA xV xA0))) s0))))
abbrev lO:Stmt:=top 19
theorem wu:FnScope ["_law_turning_here","_law_sign"] ["_law_turning_here","_law_sign"] (gP lO):=scM
abbrev qH(Z:ZZ)(k:Nat):Prop:=Oz Z k "_law_led_sign" ["_law_turning_here","_law_sign"] ko
theorem wB:BdA "_law_led_sign" lO ["_law_turning_here","_law_sign"]:=fun _ _ _ _ _ _=>us1 fun _=>us1 fun _=>us0 rfl
theorem wx(a:Fz Z.K Z.mg "_law_led_sign" lO)(T:Tx Z.mg):qH Z (k+1):=by
 have S:=wu;refine ozB (asg:=[]) (fs:=mP) a S wB fun f f9 A outer s H E L hL hr hu m8 n8 p6 nd=>?_;exact(s1 (sR (iI ⟨oq⟩ (xO (xIx xV (xO (iI ⟨pB⟩ (xO (xB T rfl ⟨mv⟩ (xA xV xA0))) (xO x3))))) (xO (xIx (xO (oG (xL (wq (xO x3)) (xL x3 xL0)))) (xO (xT T rfl ⟨HI⟩ (xA (xO (GX ⟨(kD (.inr (.inr (.inl rfl))) hu)⟩ xV (xO x3))) xA0))))))) s0)
abbrev kS:Stmt:=top 20
theorem uv:FnScope ["_law_turning_here","_law_clause_here","_law_found","_law_sign","_law_there"] ["_law_turning_here","_law_clause_here"] (gP kS):=scM
abbrev pd(Z:ZZ)(k:Nat):Prop:=Oz Z k "_law_led_clause" ["_law_turning_here","_law_clause_here"] jR
theorem uR:BdA "_law_led_clause" kS ["_law_turning_here","_law_clause_here"]:=fun _ _ _ _ _ _=>us1 fun _=>us1 fun _=>us0 rfl
theorem uA(a:Fz Z.K Z.mg "_law_led_clause" kS)(T:Tx Z.mg)(O_law_led_sign:qH Z k):pd Z (k+1):=by
 have S:=uv;refine ozB (asg:=[2,3,4]) (fs:=oE) a S uR fun f f9 A outer s H E L hL hr hu m8 n8 p6 nd=>?_;exact(s1 (sS nd x7) (s1 (sF (iS xW) (gN nd) (s1 (sS nd (xU O_law_led_sign hr (xA xV (xA xV xA0)))) (s1 (sDP m8 xV xW (xO (xB T rfl ⟨mv⟩ (xA xV xA0)))) s0))) (s1 (sR (xT T rfl ⟨kQ⟩ (xA (xO (by exact xC (N':=["_law_found","_law_name"]) (cOk S) (by decide+kernel) (iS (xB T rfl ⟨(pQ rfl n8)⟩ (xA xV xA0))) fun _ _ _ _ _ _ nd=>⟨(gN nd),f0,fun _=>bE (RA m8 xV xV)⟩)) xA0))) s0)))
abbrev ni:Stmt:=top 22
theorem yS:FnScope ["_law_clauses","_law_turnings","_law_found","_law_at","_law_turning_here","_law_there"] ["_law_clauses","_law_turnings"] (gP ni):=scM
abbrev uC(Z:ZZ)(k:Nat):Prop:=Oz Z k "_law_closed" ["_law_clauses","_law_turnings"] mD
theorem zh:BdA "_law_closed" ni ["_law_clauses","_law_turnings"]:=fun _ _ _ _ _ _=>us1 fun _=>us1 fun _=>us0 rfl
theorem yV(a:Fz Z.K Z.mg "_law_closed" ni)(T:Tx Z.mg)(O_law_led_clause:pd Z k):uC Z (k+1):=by
 have S:=yS;refine ozB (asg:=[2,3,4,5]) (fs:=sh) a S zh fun f f9 A outer s H E L hL hr hu m8 n8 p6 nd=>?_;exact(s1 (sS nd (xT T rfl ⟨pR⟩ (xA xV xA0))) (s1 (sS nd x3) (s1 (sW (tCmp ⟨(kD (.inl rfl) hu)⟩ xV (xO (xB T rfl ⟨jN⟩ (xA xV xA0)))) (s1 (sF (iS xW) (gN nd) (s1 (sS nd (xU O_law_led_clause hr (xA xV (xA (xO (xIx xV xV)) xA0)))) (s1 (sI (tCmp ⟨(Hm hu)⟩ xV xV) (s1 (sE (IJ xV xW)) s0) s0) s0))) (s1 (sS nd (iI ⟨gZ⟩ xV (xO x3))) s0))) (s1 (sRV (fun h=>absurd (hL _ h) (by decide))) s0))))
abbrev nh:Stmt:=top 23
theorem yR:FnScope ["_law_state_here","_law_least","_law_most","_law_names","_law_kind","_law_many","_law_clauses","_law_turnings"] ["_law_state_here","_law_least","_law_most"] (gP nh):=scM
abbrev uB(Z:ZZ)(k:Nat):Prop:=Oz Z k "_law_riddle" ["_law_state_here","_law_least","_law_most"] mC
theorem zg:BdA "_law_riddle" nh ["_law_state_here","_law_least","_law_most"]:=fun _ _ _ _ _ _=>us1 fun _=>us1 fun _=>us1 fun _=>us0 rfl
theorem yU(a:Fz Z.K Z.mg "_law_riddle" nh)(T:Tx Z.mg)(b7:lB Z k)(j6:pF Z k)(O_law_turning:rY Z k)(O_law_closed:uC Z k):uB Z (k+1):=by
 have S:=yR;refine ozB (asg:=[3,4,5,6,7]) (fs:=sf) a S zg fun f f9 A outer s H E L hL hr hu m8 n8 p6 nd=>?_;exact(s1 (sS nd (iI ⟨gZ⟩ xV (xO (xU b7 hr (xA xV (xA (xO (iI ⟨gZ⟩ (xO (iI ⟨pB⟩ xV xV)) (xO x3))) xA0)))))) (s1 (sS nd (xU b7 hr (xA xV (xA (xO x3) xA0)))) (s1 (sI (tCmp ⟨(tH hu)⟩ xV (xO x3)) (s1 (sR (lr (xL x3 (xL (lr xL0) xL0)))) s0) s0) (s1 (sS nd (xU b7 hr (xA xV (xA (xO (xIx (xO (oG (xL x3 (xL x3 (xL x3 xL0))))) (xO (xU b7 hr (xA xV (xA (xO x3) xA0)))))) xA0)))) (s1 (sC (N':=["_law_state_here","_law_names","_law_turn"]) nd (cOk S) (by decide+kernel) (iR1 T (xA xV xA0)) fun _ _ _ _ _ _ nd=>⟨(gN nd),f0,fun _=>bE (xU j6 hr (xA xV (xA xV xA0)))⟩) (s1 (sI (tCmp ⟨(kD (.inr (.inr (.inl rfl))) hu)⟩ xV (xO x3)) (s1 (sC (N':=["_law_state_here","_law_names","_law_turn"]) nd (cOk S) (by decide+kernel) (iR1 T (xA (xO (iI ⟨gZ⟩ (xO x3) (xO (iI ⟨pD⟩ xV (xO x3))))) xA0)) fun _ _ _ _ _ _ nd=>⟨(gN nd),f0,fun _=>bE (xU O_law_turning hr (xA xV (xA xV xA0)))⟩) (s1 (sI (tCmp ⟨(tH hu)⟩ xV (xO x3)) (s1 (sC (N':=["_law_turning_here"]) nd (cOk S) (by decide+kernel) (iS xW) fun _ _ _ _ _ _ nd=>⟨(gN nd),f0,fun _=>bE (xT T rfl ⟨kQ⟩ (xA (xO (by exact xC (N':=["_law_sign"]) (KQ rfl rfl (by with_unfolding_all rfl)) (by decide+kernel) (iS xW) fun _ _ _ _ _ _ nd=>⟨(gN nd),f0,fun _=>bE (xB T rfl ⟨mv⟩ (xA xV xA0))⟩)) xA0))⟩) s0) s0) (s1 (sS nd (xU O_law_closed hr (xA (xO (wo (xO (xB T rfl ⟨(pQ rfl n8)⟩ (xA (xO (xT T rfl ⟨(Ai rfl p6)⟩ (xA xV xA0))) xA0))) (xO x3))) (xA xV xA0)))) s0))) s0) (s1 (sS nd (xB T rfl ⟨(pQ rfl n8)⟩ (xA (xO (xT T rfl ⟨(Ai rfl p6)⟩ (xA xV xA0))) xA0))) (s1 (sI (tCmp ⟨(kD (.inr (.inr (.inl rfl))) hu)⟩ (xO (xB T rfl ⟨jN⟩ (xA xV xA0))) (xO x3)) (s1 (sS nd (wo xV (xO (xU b7 hr (xA xV (xA (xO x3) xA0)))))) s0) s0) (s1 (sR (lr (xL xW (xL (xT T rfl ⟨kQ⟩ (xA xV xA0)) xL0)))) s0)))))))))
abbrev nY:Stmt:=top 24
theorem Bh:FnScope ["_law_thing","_law_least","_law_most"] ["_law_thing","_law_least","_law_most"] (gP nY):=scM
abbrev qG(Z:ZZ)(k:Nat):Prop:=Oz Z k "_law_whole" ["_law_thing","_law_least","_law_most"] jl
theorem BV:BdA "_law_whole" nY ["_law_thing","_law_least","_law_most"]:=fun _ _ _ _ _ _=>us1 fun _=>us1 fun _=>us1 fun _=>us0 rfl
theorem Bt(a:Fz Z.K Z.mg "_law_whole" nY)(T:Tx Z.mg):qG Z (k+1):=by
 have S:=Bh;refine ozB (asg:=[]) (fs:=nk) a S BV fun f f9 A outer s H E L hL hr hu m8 n8 p6 nd=>?_;exact(s1 (sR (yO (xI T rfl xV) (yO (PC (xI T rfl xV)) (xBo (xCh xV xV xV))))) s0)
abbrev lA:Stmt:=top 25
theorem vG:FnScope ["_law_names","_law_thing","_law_last","_law_sign"] ["_law_names","_law_thing"] (gP lA):=scM
abbrev pX(Z:ZZ)(k:Nat):Prop:=Oz Z k "_law_is_clause" ["_law_names","_law_thing"] jE
theorem vT:BdA "_law_is_clause" lA ["_law_names","_law_thing"]:=fun _ _ _ _ _ _=>us1 fun _=>us1 fun _=>us0 rfl
theorem vK(a:Fz Z.K Z.mg "_law_is_clause" lA)(T:Tx Z.mg)(k5:qG Z k):pX Z (k+1):=by
 have S:=vG;refine ozB (asg:=[2,3]) (fs:=mh) a S vT fun f f9 A outer s H E L hL hr hu m8 n8 p6 nd=>?_;exact(s1 (sI (tW (wOr (tNot (wt (xI T rfl xV))) (Cg (tCmp ⟨(tH hu)⟩ xV (xO (lr xL0)))))) (s1 (sR x2) s0) s0) (s1 (sS nd x3) (s1 (sF (iS xW) (gN nd) (s1 (sI (tW (wOr (tNot (wt (xU k5 hr (xA xV (xA (xO (wq xV)) (xA xV xA0)))))) (Cg (tCmp ⟨(kD (.inr (.inl rfl)) hu)⟩ (xO (xB T rfl ⟨mv⟩ (xA xV xA0))) xV)))) (s1 (sR x2) s0) s0) (s1 (sS nd (xB T rfl ⟨mv⟩ (xA xV xA0))) s0))) (s1 (sR x2) s0))))
abbrev rd:Stmt:=top 26
theorem Ex:FnScope ["_law_thing","_law_last","_law_clause_here"] ["_law_thing"] (gP rd):=scM
abbrev zI(Z:ZZ)(k:Nat):Prop:=Oz Z k "_law_due" ["_law_thing"] ml
theorem FD:BdA "_law_due" rd ["_law_thing"]:=fun _ _ _ _ _ _=>us1 fun _=>us0 rfl
theorem EW(a:Fz Z.K Z.mg "_law_due" rd)(T:Tx Z.mg)(k5:qG Z k)(O_law_is_clause:pX Z k):zI Z (k+1):=by
 have S:=Ex;refine ozB (asg:=[1,2]) (fs:=tP) a S FD fun f f9 A outer s H E L hL hr hu m8 n8 p6 nd=>?_;exact(s1 (sI (tW (wOr (tNot (wt (xI T rfl xV))) (wOr (tCmp ⟨(ES hu)⟩ (xO (xB T rfl ⟨jN⟩ (xA xV xA0))) (xO x3)) (Cg (tNot (wt (xU k5 hr (xA (xO (xIx xV (xO x3))) (xA (xO x3) (xA (xO x3) xA0)))))))))) (s1 (sR x2) s0) s0) (s1 (sI (tW (wOr (tNot (wt (xI T rfl (xO (xIx xV (xO x3)))))) (Cg (tCmp ⟨(kD (.inr (.inr (.inl rfl))) hu)⟩ (xO (xB T rfl ⟨jN⟩ (xA (xO (xIx xV (xO x3))) xA0))) (xO x3))))) (s1 (sR x2) s0) s0) (s1 (sS nd (lr xL0)) (s1 (sF (iS (xIx xV (xO x3))) (gN nd) (s1 (sI (tW (wOr (tNot (wt (xU O_law_is_clause hr (xA (xO (xIx xV (xO x3))) (xA xV xA0))))) (Cg (tCmp ⟨(kD (.inr (.inl rfl)) hu)⟩ xV xV)))) (s1 (sR x2) s0) s0) (s1 (sS nd xW) s0))) (s1 (sR x2) s0)))))
abbrev kz:Stmt:=top 27
theorem tq:FnScope ["_law_state_here","_law_clause_here","_law_names","_law_at","_law_odd","_law_some"] ["_law_state_here","_law_clause_here","_law_names"] (gP kz):=scM
abbrev ou(Z:ZZ)(k:Nat):Prop:=Oz Z k "_law_bent_clause" ["_law_state_here","_law_clause_here","_law_names"] lE
theorem tZ:BdA "_law_bent_clause" kz ["_law_state_here","_law_clause_here","_law_names"]:=fun _ _ _ _ _ _=>us1 fun _=>us1 fun _=>us1 fun _=>us0 rfl
theorem tJ(a:Fz Z.K Z.mg "_law_bent_clause" kz)(T:Tx Z.mg)(b7:lB Z k):ou Z (k+1):=by
 have S:=tq;refine ozB (asg:=[3,4,5]) (fs:=nI) a S tZ fun f f9 A outer s H E L hL hr hu m8 n8 p6 nd=>?_;exact(s1 (sS nd (xU b7 hr (xA xV (xA (xO (iI ⟨gZ⟩ (xO (xB T rfl ⟨jN⟩ (xA xV xA0))) (xO x3))) xA0)))) (s1 (sS nd (xIx (xO (oG (xL x3 (xL (iI ⟨gZ⟩ xV (xO x3)) (xL (iI ⟨pB⟩ (xO (wq xV)) (xO x3)) (xL x2 (xL x1 (xL x4 (xL (lr (xL x3 xL0)) (xL (iI ⟨wM⟩ (xO x3) (xO x3)) (xL x2 (xL x3 (xL (wq (xO x3)) xL0))))))))))))) (xO (xU b7 hr (xA xV (xA (xO x3) xA0)))))) (s1 (sS nd (oG (xL (iI ⟨gZ⟩ (xO (iI ⟨gZ⟩ (xO (wo xV xV)) (xO (lr (xL xW xL0))))) (xO (yN xV xV))) (xL (iI ⟨gZ⟩ (xO (iI ⟨gZ⟩ (xO (wo xV xV)) (xO (lr (xL xW xL0))))) (xO (yN xV (xO (iI ⟨gZ⟩ xV (xO x3)))))) (xL (iI ⟨gZ⟩ (xO (wo xV xV)) (xO (yN xV (xO (iI ⟨gZ⟩ xV (xO x3)))))) xL0))))) (s1 (sS nd (iI ⟨gZ⟩ xV (xO (oG (xL (Pz xV (xO (wq (xO x3)))) (xL (xT T rfl ⟨pR⟩ (xA xV xA0)) (xL (iI ⟨gZ⟩ (xO (wo xV xV)) (xO (yN xV (xO (iI ⟨pB⟩ xV (xO x3)))))) (xL xW (xL (lr xL0) xL0))))))))) (s1 (sE (IJ xV (iI ⟨gZ⟩ (xO (iI ⟨gZ⟩ (xO (wo xV xV)) (xO (xT T rfl ⟨kQ⟩ (xA (xO (by exact xC (N':=["_law_sign"]) (cOk S) (by decide+kernel) (iS (xSl xV xV (xO (iI ⟨gZ⟩ xV (xO x3))))) fun _ _ _ _ _ _ nd=>⟨(gN nd),f0,fun _=>bE (wq xV)⟩)) xA0))))) (xO (yN xV xV))))) (s1 (sR (xIx xV (xO (xU b7 hr (xA xV (xA (xO x3) xA0)))))) s0))))))
abbrev pv:Stmt:=top 28
theorem Cz:FnScope ["_law_state_here","_law_riddle_here","_law_names","_law_clauses","_law_at","_law_kind","_law_other","_law_good","_law_some"] ["_law_state_here","_law_riddle_here"] (gP pv):=scM
abbrev xY(Z:ZZ)(k:Nat):Prop:=Oz Z k "_law_bent" ["_law_state_here","_law_riddle_here"] jS
theorem Dx:BdA "_law_bent" pv ["_law_state_here","_law_riddle_here"]:=fun _ _ _ _ _ _=>us1 fun _=>us1 fun _=>us0 rfl
theorem CP(a:Fz Z.K Z.mg "_law_bent" pv)(T:Tx Z.mg)(b7:lB Z k)(O_law_bent_clause:ou Z k)(j6:pF Z k):xY Z (k+1):=by
 have S:=Cz;refine ozB (asg:=[2,3,4,5,6,7,8]) (fs:=wg) a S Dx fun f f9 A outer s H E L hL hr hu m8 n8 p6 nd=>?_;exact(s1 (sT xW (gT (gN nd) (gN nd))) (s1 (sS nd (xU b7 hr (xA xV (xA (xO (iI ⟨gZ⟩ (xO (xB T rfl ⟨jN⟩ (xA xV xA0))) (xO x3))) xA0)))) (s1 (sS nd (xU b7 hr (xA xV (xA (xO x3) xA0)))) (s1 (sI (tCmp ⟨(kD (.inl rfl) hu)⟩ xV (xO x3)) (s1 (sS nd (xU O_law_bent_clause hr (xA xV (xA (xO (xIx (xO (iI ⟨gZ⟩ xV (xO (lr (xL (lr (xL x3 xL0)) xL0))))) xV)) (xA xV xA0))))) (s1 (sR (lr (xL xW (xL (iI ⟨gZ⟩ (xO (iI ⟨gZ⟩ (xO (wo xV xV)) (xO (lr (xL xW xL0))))) (xO (yN xV (xO (iI ⟨gZ⟩ xV (xO x3)))))) xL0)))) s0)) s0) (s1 (sI (tCmp ⟨(kD (.inl rfl) hu)⟩ xV (xO x3)) (s1 (sS nd (xU j6 hr (xA xV (xA (xO (xB T rfl ⟨(yz rfl)⟩ (xA (xO x3) (xA xV xA0)))) xA0)))) (s1 (sR (lr (xL xW (xL (iI ⟨gZ⟩ (xO (iI ⟨gZ⟩ (xO (wo xV xV)) (xO (lr (xL xW xL0))))) (xO (yN xV (xO (iI ⟨gZ⟩ xV (xO (xU b7 hr (xA xV (xA (xO x3) xA0))))))))) xL0)))) s0)) s0) (s1 (sI (tCmp ⟨(tH hu)⟩ xV (xO x3)) (s1 (sS nd (oG (xL (iI ⟨gZ⟩ (xO (wo xV xV)) (xO (yN xV (xO (iI ⟨pB⟩ xV (xO x3)))))) (xL (Pz xV (xO (wq (xO x3)))) (xL (xT T rfl ⟨pR⟩ (xA xV xA0)) (xL (iI ⟨gZ⟩ (xO (yN xV xV)) (xO (wo xV xV))) (xL x1 (xL x7 xL0)))))))) (s1 (sR (lr (xL xW (xL (xIx xV (xO (xU b7 hr (xA xV (xA (xO x3) xA0))))) xL0)))) s0)) s0) (s1 (sI (tCmp ⟨(tH hu)⟩ xV (xO x3)) (s1 (sR (lr (xL (xIx (xO (oG (xL (iI ⟨pB⟩ xV (xO x3)) (xL (iI ⟨gZ⟩ xV (xO x3)) (xL x3 (xL (wq (xO x3)) (xL x2 (xL x1 (xL x4 (xL x3 (xL (iI ⟨wM⟩ (xO x3) (xO x3)) xL0))))))))))) (xO (xU b7 hr (xA xV (xA (xO x3) xA0))))) (xL xW xL0)))) s0) s0) (s1 (sS nd (oG (xL (xT T rfl ⟨pR⟩ (xA xV xA0)) (xL (iI ⟨gZ⟩ xV (xO (lr (xL (lr xL0) xL0)))) (xL (wo xV (xO x3)) (xL (lr (xL xW (xL xW xL0))) (xL x1 (xL x7 (xL x3 (xL (lr (xL xW xL0)) (xL xW (xL xW xL0)))))))))))) (s1 (sR (xIx xV (xO (xU b7 hr (xA xV (xA (xO x3) xA0)))))) s0)))))))))
abbrev kA:Stmt:=top 29
theorem tu:FnScope ["_law_names","_law_found","_law_name","_law_longer","_law_begun"] ["_law_names"] (gP kA):=scM
abbrev ox(Z:ZZ)(k:Nat):Prop:=Oz Z k "_law_all_clauses" ["_law_names"] jg
theorem ua:BdA "_law_all_clauses" kA ["_law_names"]:=fun _ _ _ _ _ _=>us1 fun _=>us0 rfl
theorem tK(a:Fz Z.K Z.mg "_law_all_clauses" kA)(T:Tx Z.mg):ox Z (k+1):=by
 have S:=tu;refine ozB (asg:=[1,2,3,4]) (fs:=nJ) a S ua fun f f9 A outer s H E L hL hr hu m8 n8 p6 nd=>?_;exact(s1 (sS nd (oG (xL (lr xL0) xL0))) (s1 (sF (iR2 T (xA (xO x3) (xA (xO (iI ⟨gZ⟩ xV (xO x3))) xA0))) (gN nd) (s1 (sS nd (oG xL0)) (s1 (sF (iS xW) (gN nd) (s1 (sE (RB xV (oG (xL xW (xL (iI ⟨gZ⟩ xV (xO (lr (xL xW xL0)))) (xL (iI ⟨gZ⟩ xV (xO (lr (xL (wq xV) xL0)))) xL0)))))) s0)) (s1 (sS nd xW) s0)))) (s1 (sR (xB T rfl ⟨(uN n8)⟩ (xA (xO (by exact xC (N':=["_law_clause_here"]) (cOk S) (by decide+kernel) (iS xW) fun _ _ _ _ _ _ nd=>⟨(gN nd),(f1 (tCmp ⟨(ES hu)⟩ xV (xO (lr xL0)))),fun _=>bE xW⟩)) xA0))) s0)))
abbrev F9:Stmt:=top 30
theorem NH:FnScope ["_law_script","_law_k","_law_state_here","_law_riddle_here","_law_first","_law_great","_law_thing","_law_found"] ["_law_script"] (gP F9):=scM
abbrev o_law(Z:ZZ)(k:Nat):Prop:=Oz Z k "law" ["_law_script"] Ab
theorem Pl:BdA "law" F9 ["_law_script"]:=fun _ _ _ _ _ _=>us1 fun _=>us0 rfl
theorem OJ{f:gv}{fd:nS}(F:Fun Z.K "law" "law" F9 f fd)(T:Tx Z.mg)(O_law_state:vZ Z k)(O_law_riddle:uB Z k)(h8:wa Z k)(b7:lB Z k)(O_law_all_clauses:ox Z k)(l7:xY Z k)(O_law_due:zI Z k):FnOk Z.P Z.w Z.K Z.mg Z.base CX0 (k+1) f fd ["_law_script"] (spF Z.K Ab):=by
 have S:=NH;refine fnB (asg:=[1,2,3,4,5,6,7]) (fs:=KC) F S fun f f9 A outer s H E L hL hr hu m8 n8 p6 nd=>?_;exact(s1 (sF (iR1 T (xA (xO (xB T rfl ⟨(yz rfl)⟩ (xA (xO x3) (xA (xO (xB T rfl ⟨(Fy rfl)⟩ (xA (xO (xB T rfl ⟨jN⟩ (xA xV xA0))) (xA (xO x3) xA0)))) xA0)))) xA0)) (gN nd) (s1 (sS nd (xU O_law_state hr (xA xV (xA xV xA0)))) (s1 (sS nd (xU O_law_riddle hr (xA xV (xA (xO x3) (xA (xO x3) xA0))))) (s1 (sI (tCmp ⟨Hn⟩ (xO (xU h8 hr (xA xV xA0))) (xO x2)) (s1 (sR x2) s0) s0) (s1 (sS nd (xU b7 hr (xA xV (xA (xO x3) xA0)))) (s1 (sS nd (lr (xL x3 (xL (xT T rfl ⟨kQ⟩ (xA (xO (xSl (xO (xU O_law_all_clauses hr (xA (xO x3) xA0))) xV (xO (iI ⟨gZ⟩ (xO (iI ⟨gZ⟩ xV (xO x3))) (xO (xU b7 hr (xA xV (xA (xO x3) xA0)))))))) xA0)) xL0)))) (s1 (sF (iS (oG (xL (xU l7 hr (xA xV (xA xV xA0))) (xL (xU l7 hr (xA xV (xA xV xA0))) (xL (xU l7 hr (xA xV (xA xV xA0))) (xL xW xL0)))))) (gN nd) (s1 (sS nd (xU h8 hr (xA xV xA0))) (s1 (sI (tW (wOr (tNot (wt (xI T rfl xV))) (Cg (tCmp ⟨(ES hu)⟩ xV (xO (xU O_law_due hr (xA xV xA0))))))) (s1 (sR x2) s0) s0) s0))) s0))))))) (s1 (sR (yO (GX ⟨ET⟩ (xO (xU h8 hr (xA (xO (lr (xL x3 (xL (lr xL0) xL0)))) xA0))) (xO x2)) (yO (GX ⟨ET⟩ (xO (xU h8 hr (xA (xO (lr (xL x3 (xL (lr xL0) xL0)))) xA0))) (xO x2)) (xBo (GX ⟨ET⟩ (xO (xU h8 hr (xA (xO (lr (xL x3 (xL (lr xL0) xL0)))) xA0))) (xO x2)))))) s0))
end
theorem all_mk{l:PySem.W.OpenLaw}{w:gS}{K:hC}{mg:lL}{fa:gv}(fV:mg "law"=some (.ref fa))(T:Tx mg)
  (a0:Fz K mg "is_whole" pz)
  (a1:Fz K mg "is_number" oi)
  (a2:Fz K mg "is_name" rk)
  (a3:Fz K mg "is_sign" rf)
  (a4:Fz K mg "is_pair" rh)
  (a5:Fz K mg "is_rising" og)
  (a6:Fz K mg "is_clause" oj)
  (a7:Fz K mg "are_clauses" mz)
  (a8:Fz K mg "is_riddle" oh)
  (a9:Fz K mg "_law_cell_at" my)
  (a10:Fz K mg "_law_state" nZ)
  (a11:Fz K mg "_law_take" pq)
  (a12:Fz K mg "_law_clause" nj)
  (a13:Fz K mg "_law_turning" mx)
  (a14:Fz K mg "_law_led_sign" lO)
  (a15:Fz K mg "_law_led_clause" kS)
  (a16:Fz K mg "_law_closed" ni)
  (a17:Fz K mg "_law_riddle" nh)
  (a18:Fz K mg "_law_whole" nY)
  (a19:Fz K mg "_law_is_clause" lA)
  (a20:Fz K mg "_law_due" rd)
  (a21:Fz K mg "_law_bent_clause" kz)
  (a22:Fz K mg "_law_bent" pv)
  (a23:Fz K mg "_law_all_clauses" kA)
  (a24:Fz K mg "law" F9)
  (j7: ∃t,mg "MOST_SIGNS"=some (.int 5 t))
  (i5: ∃t,mg "MOST_CLAUSES"=some (.int 30 t))
  (j8: ∃t,mg "MOST_NAMES"=some (.int 5 t))
  : ∃fd:FuncData,(∀(s:gA) (v:gL),BindsTo s fd ⟨[v],[]⟩ [("_law_script",v)])/\ ∀base:Heap,K.In base->base.Ns mainGlobals mg->FnOk l.prog w K mg base CX0 8 fa fd ["_law_script"] (spF K Ab):=by
 obtain⟨fd,F,hb⟩:=fzL a24 fV Pl;refine⟨fd,hb,fun base _ _=>?_⟩;have O0:=CQ (Z:=⟨l.prog,w,K,mg,base⟩) (k:=0) a0 T;have O1:=Bx (Z:=⟨l.prog,w,K,mg,base⟩) (k:=1) a1 T O0.up;have O2:=EZ (Z:=⟨l.prog,w,K,mg,base⟩) (k:=2) a2 T O1.up;have O3:=EX (Z:=⟨l.prog,w,K,mg,base⟩) (k:=3) a3 T O0.up O2.up;have O4:=EY (Z:=⟨l.prog,w,K,mg,base⟩) (k:=0) a4 T;have O5:=Bv (Z:=⟨l.prog,w,K,mg,base⟩) (k:=0) a5 T;have O6:=By (Z:=⟨l.prog,w,K,mg,base⟩) (k:=4) a6 T j7 O3.up O5.up;have O7:=xX (Z:=⟨l.prog,w,K,mg,base⟩) (k:=5) a7 T i5 O6.up O5.up;have O8:=Bw (Z:=⟨l.prog,w,K,mg,base⟩) (k:=6) a8 T j8 O4.up O1.up O7.up;have O9:=xS (Z:=⟨l.prog,w,K,mg,base⟩) (k:=0) a9 T;have O10:=Bu (Z:=⟨l.prog,w,K,mg,base⟩) (k:=1) a10 T O9.up;have dA:=CO (Z:=⟨l.prog,w,K,mg,base⟩) (k:=0) a11 T;have O12:=yW (Z:=⟨l.prog,w,K,mg,base⟩) (k:=1) a12 T dA.up;have O13:=xR (Z:=⟨l.prog,w,K,mg,base⟩) (k:=1) a13 T dA.up;have O14:=wx (Z:=⟨l.prog,w,K,mg,base⟩) (k:=0) a14 T;have O15:=uA (Z:=⟨l.prog,w,K,mg,base⟩) (k:=1) a15 T O14.up;have O16:=yV (Z:=⟨l.prog,w,K,mg,base⟩) (k:=2) a16 T O15.up;have O17:=yU (Z:=⟨l.prog,w,K,mg,base⟩) (k:=3) a17 T dA.up O12.up O13.up O16.up;have O18:=Bt (Z:=⟨l.prog,w,K,mg,base⟩) (k:=0) a18 T;have O19:=vK (Z:=⟨l.prog,w,K,mg,base⟩) (k:=1) a19 T O18.up;have O20:=EW (Z:=⟨l.prog,w,K,mg,base⟩) (k:=2) a20 T O18.up O19.up;have O21:=tJ (Z:=⟨l.prog,w,K,mg,base⟩) (k:=1) a21 T dA.up;have O22:=CP (Z:=⟨l.prog,w,K,mg,base⟩) (k:=2) a22 T dA.up O21.up O12.up;have O23:=tK (Z:=⟨l.prog,w,K,mg,base⟩) (k:=0) a23 T;exact OJ (Z:=⟨l.prog,w,K,mg,base⟩) (k:=7) F T O10.up O17.up O8.up dA.up O23.up O22.up O20.up
end K11
namespace PV
open PySem PySem.Spec PyProof.Rows L2 PX
@[simp] theorem Tt(d:D)(δ:Dn):fC d δ=some ((d,false),δ):=rfl
@[simp] theorem Sa(f:F)(δ:Dn):gp f δ=(f δ).bind fun p=>some (.val p.1,p.2):=rfl
@[simp] theorem Ro(x:D×Bool)(δ:Dn):gq 0 (some x::δ)=some (.slot 0,some x::δ):=rfl
@[simp] theorem Rn(a:Sl)(x:D×Bool)(δ:Dn):gq 1 (a::some x::δ)=some (.slot 1,a::some x::δ):=rfl
@[simp] theorem Rm(a b:Sl)(x:D×Bool)(δ:Dn):gq 2 (a::b::some x::δ)=some (.slot 2,a::b::some x::δ):=rfl
@[simp] theorem Rl(a b c:Sl)(x:D×Bool)(δ:Dn):gq 3 (a::b::c::some x::δ)=some (.slot 3,a::b::c::some x::δ):=rfl
@[simp] theorem Rk(a b c d:Sl)(x:D×Bool)(δ:Dn):gq 4 (a::b::c::d::some x::δ)=some (.slot 4,a::b::c::d::some x::δ):=rfl
@[simp] theorem Rj(a b c d e:Sl)(x:D×Bool)(δ:Dn):gq 5 (a::b::c::d::e::some x::δ)=some (.slot 5,a::b::c::d::e::some x::δ):=rfl
@[simp] theorem Ri(a b c d e f:Sl)(x:D×Bool)(δ:Dn):gq 6 (a::b::c::d::e::f::some x::δ)=some (.slot 6,a::b::c::d::e::f::some x::δ):=rfl
@[simp] theorem Rh(a b c d e f g:Sl)(x:D×Bool)(δ:Dn):gq 7 (a::b::c::d::e::f::g::some x::δ)=some (.slot 7,a::b::c::d::e::f::g::some x::δ):=rfl
@[simp] theorem Rg(a b c d e f g h:Sl)(x:D×Bool)(δ:Dn):gq 8 (a::b::c::d::e::f::g::h::some x::δ)=some (.slot 8,a::b::c::d::e::f::g::h::some x::δ):=rfl
@[simp] theorem EF(δ:Dn)(r:D×Bool):res δ (.val r)=some r.1:=rfl
@[simp] theorem R9(x:D×Bool)(δ:Dn):res (some x::δ) (.slot 0)=some x.1:=rfl
@[simp] theorem R8(a:Sl)(x:D×Bool)(δ:Dn):res (a::some x::δ) (.slot 1)=some x.1:=rfl
@[simp] theorem R7(a b:Sl)(x:D×Bool)(δ:Dn):res (a::b::some x::δ) (.slot 2)=some x.1:=rfl
@[simp] theorem R6(a b c:Sl)(x:D×Bool)(δ:Dn):res (a::b::c::some x::δ) (.slot 3)=some x.1:=rfl
@[simp] theorem R0(a b c d:Sl)(x:D×Bool)(δ:Dn):res (a::b::c::d::some x::δ) (.slot 4)=some x.1:=rfl
@[simp] theorem RZ(a b c d e:Sl)(x:D×Bool)(δ:Dn):res (a::b::c::d::e::some x::δ) (.slot 5)=some x.1:=rfl
@[simp] theorem RY(a b c d e f:Sl)(x:D×Bool)(δ:Dn):res (a::b::c::d::e::f::some x::δ) (.slot 6)=some x.1:=rfl
@[simp] theorem RX(a b c d e f g:Sl)(x:D×Bool)(δ:Dn):res (a::b::c::d::e::f::g::some x::δ) (.slot 7)=some x.1:=rfl
@[simp] theorem RW(a b c d e f g h:Sl)(x:D×Bool)(δ:Dn):res (a::b::c::d::e::f::g::h::some x::δ) (.slot 8)=some x.1:=rfl
@[simp] theorem Sv(g:D->Option (D×Bool))(fa:FO)(δ:Dn):jD g fa δ=(fa δ).bind fun p=>(res p.2 p.1).bind fun x=>(g x).bind fun z=>some (z,p.2):=rfl
@[simp] theorem Su(g:D->D->Option (D×Bool))(fa fb:FO)(δ:Dn):gB g fa fb δ=(fa δ).bind fun p=>(fb p.2).bind fun q=>(res q.2 p.1).bind fun x=>(res q.2 q.1).bind fun y=>(g x y).bind fun z=>some (z,q.2):=rfl
@[simp] theorem P4(δ:Dn):je [] δ=some ([],δ):=rfl
@[simp] theorem Rv(f:FO)(fs:List FO)(δ:Dn):je (f::fs) δ=(f δ).bind fun p=>(je fs p.2).bind fun q=>some (p.1::q.1,q.2):=rfl
@[simp] theorem LB(δ:Dn):tw δ []=some []:=rfl
@[simp] theorem NP(δ:Dn)(o:Opd)(os:List Opd):tw δ (o::os)=(res δ o).bind fun d=>(tw δ os).bind fun l=>some (d::l):=rfl
@[simp] theorem Ru(g:List D->Option (D×Bool))(fs:List FO)(δ:Dn):gO g fs δ=(je fs δ).bind fun p=>(tw p.2 p.1).bind fun ds=>(g ds).bind fun z=>some (z,p.2):=rfl
@[simp] theorem Rc:oH []=some []:=rfl
@[simp] theorem RL(r:D×Bool)(os:List Opd):oH (.val r::os)=(oH os).map (r.1:: ·):=rfl
@[simp] theorem So(fs:List F)(δ:Dn):jk fs δ=(je (fs.map gp) δ).bind fun p=>(oH p.1).bind fun ds=>if ds.length<=sizeLine then some ((.tup ds,false),p.2) else none:=rfl
@[simp] theorem Sx(fs:List F)(δ:Dn):kj fs δ=(je (fs.map gp) δ).bind fun p=>(oH p.1).bind fun ds=>if ds.length<=sizeLine then some ((.lst ds,true),p.2) else none:=rfl
@[simp] theorem P5(b o:Bool)(δ:Dn):asB ((.bl b,o),δ)=some (b,δ):=rfl
@[simp] theorem Tr(f:F)(δ:Dn):fT f δ=(f δ).bind asB:=rfl
@[simp] theorem Rw(f g:FT)(δ:Dn):Q3 f g δ=(f δ).bind fun p=>if p.1=true then g p.2 else some (false,p.2):=rfl
@[simp] theorem Sq(f g:FT)(δ:Dn):mH f g δ=(f δ).bind fun p=>if p.1=true then some (true,p.2) else g p.2:=rfl
@[simp] theorem Rt(f:FT)(δ:Dn):jX f δ=(f δ).bind fun p=>some (!p.1,p.2):=rfl
@[simp] theorem EG(f g:F)(δ:Dn):tX f g δ=(f δ).bind fun p=>(asB p).bind fun q=>if q.1=true then g q.2 else some ((.bl false,false),q.2):=rfl
@[simp] theorem Ti(f g:F)(δ:Dn):fOr f g δ=(f δ).bind fun p=>(asB p).bind fun q=>if q.1=true then some ((.bl true,false),q.2) else g q.2:=rfl
@[simp] theorem Sw(f:F)(δ:Dn):KG f δ=(f δ).bind fun p=>(asB p).bind fun q=>some ((.bl (!q.1),false),q.2):=rfl
@[simp] theorem Tj(t:FT)(f g:F)(δ:Dn):fIf t f g δ=(t δ).bind fun p=>if p.1=true then f p.2 else g p.2:=rfl
@[simp] theorem RT(δ:Dn):gR δ=some (.nx δ):=rfl
def nxt(g:FS):Out->Option Out
 | .nx δ1=>g δ1
 |o=>some o
@[simp] theorem Sd(g:FS)(δ:Dn):nxt g (.nx δ)=g δ:=rfl
@[simp] theorem Sb(g:FS)(r:D×Bool)(δ:Dn):nxt g (.rt r δ)=some (.rt r δ):=rfl
@[simp] theorem RQ(f g:FS)(δ:Dn):gE f g δ=(f δ).bind (nxt g):=by
 unfold gE
 cases f δ with
 |none=>rfl
 |some o=>cases o<;>rfl
@[simp] theorem Rf(f:F)(δ:Dn):nc f δ=(f δ).bind fun p=>some (.nx p.2):=rfl
@[simp] theorem RS(f:F)(δ:Dn):ju f δ=(f δ).bind fun p=>some (.rt p.1 p.2):=rfl
@[simp] theorem Ta(t:FT)(f g:FS)(δ:Dn):sIf t f g δ=(t δ).bind fun p=>if p.1=true then f p.2 else g p.2:=rfl
@[simp] theorem RP(i:Nat)(f:F)(δ:Dn):ir i f δ=(f δ).bind fun p=>if i<p.2.length then some (.nx (p.2.set i (some p.1))) else none:=rfl
@[simp] theorem RO(tg:Tg)(f:F)(δ:Dn):G8 tg f δ=(f δ).bind fun p=>(tg p.1.1 p.2).bind fun δ1=>some (.nx δ1):=rfl
@[simp] theorem Tq(g:D->Option (D×Bool))(d:D):g1 g [d]=g d:=rfl
@[simp] theorem Sn(g:D->D->Option (D×Bool))(d e:D):g2 g [d,e]=g d e:=rfl
@[simp] theorem P7(i j:Int):iB (.int i) (.int j)=some (.int (i+j),false):=rfl
@[simp] theorem S9(i j:Int):PX.gSub (.int i) (.int j)=some (.int (i-j),false):=rfl
@[simp] theorem Tb(i:Int):mf (.int i)=some (.int (-i),false):=rfl
@[simp] theorem To(i:Int):nR (.int i)=some (.int (if i<0 then -i else i),false):=rfl
@[simp] theorem Sg(l:List D):mO (.tup l)=some (.int l.length,false):=rfl
@[simp] theorem Si(l:List D):mO (.lst l)=some (.int l.length,false):=rfl
@[simp] theorem RN(l:List D):kL (.lst l)=some (.tup l,false):=rfl
@[simp] theorem RM(l:List D):kL (.tup l)=some (.tup l,false):=rfl
@[simp] theorem Se(l:List D):yh (.tup l)=some (.lst l,true):=rfl
@[simp] theorem Sf(l:List D):yh (.lst l)=some (.lst l,true):=rfl
@[simp] theorem Sm(b:Bool):MD (.bl b)=some (.int (if b then 1 else 0),false):=rfl
@[simp] theorem Sk(b:Int):MD (.int b)=some (.int b,false):=rfl
@[simp] theorem P0(i j:Int):GB (.int i) (.int j)=some (.int (if j>i then j else i),false):=rfl
@[simp] theorem Tf(i j:Int):Kz (.int i) (.int j)=some (.int (if j<i then j else i),false):=rfl
@[simp] theorem Th(ts:List Ty)(d:D):oJ ts d=some (.bl (ts.any (isT d)),false):=rfl
@[simp] theorem Ju(i j:Int):gEq (.int i) (.int j)=some (.bl (i==j),false):=by unfold gEq;rw[gD (by simp[D.dep])];simp[D.eqb]
@[simp] theorem Te(i j:Int):gNe (.int i) (.int j)=some (.bl (!(i==j)),false):=by unfold gNe;rw[gD (by simp[D.dep])];simp[D.eqb]
@[simp] theorem Tn(i j:Bool):gEq (.bl i) (.bl j)=some (.bl (i==j),false):=by unfold gEq;rw[gD (by simp[D.dep])];simp[D.eqb]
@[simp] theorem PZ(i j:Bool):gNe (.bl i) (.bl j)=some (.bl (!(i==j)),false):=by unfold gNe;rw[gD (by simp[D.dep])];simp[D.eqb]
@[simp] theorem LC(i j:Int):jM .Lt (.int i) (.int j)=some (.bl (decide (i<j)),false):=by simp[jM,kX,jc,D.dep]
@[simp] theorem Sj(i j:Int):jM .LtE (.int i) (.int j)=some (.bl (decide (i<=j)),false):=by simp[jM,kX,jc,D.dep]
@[simp] theorem Jt(i j:Int):jM .Gt (.int i) (.int j)=some (.bl (decide (i>j)),false):=by simp[jM,kX,jc,D.dep]
@[simp] theorem Tp(i j:Int):jM .GtE (.int i) (.int j)=some (.bl (decide (i>=j)),false):=by simp[jM,kX,jc,D.dep]
@[simp] theorem Rq(f:F)(δ:Dn):iU f δ=(f δ).bind fun p=>match p.1.1 with| .lst l=>some (l,p.2)| .tup l=>some (l,p.2)|_=>none:=rfl
@[simp] theorem RU(fi:FIt)(tg:Tg)(fb:FS)(δ:Dn):oX fi tg fb δ=(fi δ).bind fun p=>kU tg fb p.1 p.2:=rfl
@[simp] theorem Bo(δ:Dn):jx δ=some (true,δ):=rfl
@[simp] theorem wJ(f:F)(acc:List D)(δ:Dn):jq f acc δ=(f δ).bind fun p=>if acc.length<sizeLine then some (acc++[p.1.1],p.2) else none:=rfl
theorem Lx{n:Nat}(h:n<=10000):n<=sizeLine:=by rw[ic];lia
theorem F8{n:Nat}(h:n<=10000):n<sizeLine:=by rw[ic];lia
abbrev enc(t:hU):D×Bool:=(.tup (t.map .int),false)
abbrev stt(a:Int)(b:Bool):Sl:=some (.lst [.int a,.bl b],true)
abbrev lsi(l:hU):Sl:=some (.lst (l.map .int),true)
@[simp] theorem Rr(ev:EvF)(fs:List FO)(δ:Dn):gJ ev fs δ=(je fs δ).bind fun p=>(ku p.2 p.1).bind fun args=>if(hW p.1 args).Nodup then(ev args).bind fun q=>some (q.1,wb p.1 args q.2 p.2) else none:=rfl
@[simp] theorem rm(δ:Dn):ku δ []=some []:=rfl
@[simp] theorem P6(δ:Dn)(o:Opd)(os:List Opd):ku δ (o::os)=(yH δ o).bind fun a=>(ku δ os).bind fun l=>some (a::l):=rfl
@[simp] theorem Sy(δ:Dn)(r:D×Bool):yH δ (.val r)=some (r.1,false):=rfl
@[simp] theorem Sz(δ:Dn)(i:Nat):yH δ (.slot i)=(δ[i]?).join:=rfl
theorem qY(a:Int)(b:Bool)(m:Int)(hm:0<m)(bT:m<1073741824):
  ∃v a',0<=v/\v<m/\gC [(.lst [.int a,.bl b],true),(.int m,false)]=some ((.int v,false),[some (.lst [.int a',.bl b],true),some (.int m,false)]):=by
 cases b
 ·have h1: ∀x:Int, -18446744073709551616<x%2147483647/\x%2147483647<18446744073709551616:=fun x=>by lia
  have h2: ∀x:Int, -18446744073709551616<x%2147483629/\x%2147483629<18446744073709551616:=fun x=>by lia
  simp only[gC,oD];simp[evF,gIx,atI,ixN,uH,gI,KA,qa,za,vH,pA,hX,hW,wb,HM,wD,CMul,hm,bT,h1,h2];exact⟨DN _ (by lia),DO _ hm⟩
 ·simp only[gC,oD];simp[evF,gIx,atI,ixN,uH,gI,KA,qa,za,vH,pA,hX,hW,wb,HM,wD,CMul,hm,bT];exact⟨DN _ (by lia),DO _ hm⟩
theorem wW(x y:Int):(x==y)=decide (x=y):=rfl
theorem iQ{g:List D->Option (D×Bool)}{fs:List FO}{δ δ':Dn}{os:List Opd}{ds:List D}{z:D×Bool}(h1:je fs δ=some (os,δ'))(h2:tw δ' os=some ds)(h3:g ds=some z):gO g fs δ=some (z,δ'):=by
 unfold gO;rw[h1];simp only[iA];rw[h2];simp only[iA];rw[h3];rfl
theorem iV{n np:Nat}{asg:iF}{f:FS}{args:List (D×Bool)}{r:D×Bool}{δ:Dn}(h1:args.length=np/\np<=n/\(args.zipIdx.all fun p=>!(p.1.2&&asg.contains p.2))=true)(h2:f (args.map some++List.replicate (n-np) none)=some (.rt r δ)):evF n np asg f args=some (r,hX args δ):=by
 unfold evF;rw[gD h1,h2]
theorem gz{f g:FS}{δ δ1:Dn}(h:f δ=some (.nx δ1)):gE f g δ=g δ1:=by unfold gE;rw[h];rfl
theorem gQ{f g:FS}{δ δ1:Dn}{r}(h:f δ=some (.rt r δ1)):gE f g δ=some (.rt r δ1):=by unfold gE;rw[h];rfl
theorem il{f:F}{δ δ1:Dn}{r}(h:f δ=some (r,δ1)):ju f δ=some (.rt r δ1):=by unfold ju;rw[h];rfl
theorem iN{i:Nat}{f:F}{δ δ1:Dn}{r}(h:f δ=some (r,δ1))(hi:i<δ1.length):ir i f δ=some (.nx (δ1.set i (some r))):=by unfold ir;rw[h];simp only[iA];rw[gD hi]
theorem ke{f:F}{δ δ1:Dn}{b o:Bool}(h:f δ=some ((.bl b,o),δ1)):fT f δ=some (b,δ1):=by unfold fT;rw[h];rfl
theorem gH{f:F}{δ δ1:Dn}{r}(h:f δ=some (r,δ1)):gp f δ=some (.val r,δ1):=by unfold gp;rw[h];rfl
theorem gY{g:D->D->Option (D×Bool)}{fa fb:FO}{δ δ1 δ2:Dn}{o1 o2:Opd}{x y:D}{z:D×Bool}(h1:fa δ=some (o1,δ1))(h2:fb δ1=some (o2,δ2))(h3:res δ2 o1=some x)(h4:res δ2 o2=some y)(h5:g x y=some z):gB g fa fb δ=some (z,δ2):=by
 unfold gB;rw[h1];simp only[iA];rw[h2];simp only[iA];rw[h3,h4];simp only[iA];rw[h5];rfl
theorem hZ{ev:EvF}{fs:List FO}{δ δ1:Dn}{os:List Opd}{args:List (D×Bool)}{r:D×Bool}{outs:Dn}(h1:je fs δ=some (os,δ1))(h2:ku δ1 os=some args)(h3:(hW os args).Nodup)(h4:ev args=some (r,outs)):gJ ev fs δ=some (r,wb os args outs δ1):=by
 unfold gJ;rw[h1];simp only[iA];rw[h2];simp only[iA];rw[gD h3,h4];rfl
theorem nN{f g:FT}{δ δ1:Dn}(h:f δ=some (false,δ1)):mH f g δ=g δ1:=by unfold mH;rw[h];rfl
theorem yn{f g:FT}{δ δ1:Dn}(h:f δ=some (true,δ1)):mH f g δ=some (true,δ1):=by unfold mH;rw[h];rfl
theorem kg{f:FT}{δ δ1:Dn}{b:Bool}(h:f δ=some (b,δ1)):jX f δ=some (!b,δ1):=by unfold jX;rw[h];rfl
theorem js{t:FT}{f g:FS}{δ δ1:Dn}(h:t δ=some (false,δ1)):sIf t f g δ=g δ1:=by unfold sIf;rw[h];rfl
theorem kB{t:FT}{f g:FS}{δ δ1:Dn}(h:t δ=some (true,δ1)):sIf t f g δ=f δ1:=by unfold sIf;rw[h];rfl
theorem pM{fa fb:FO}{δ δ1 δ2:Dn}{o1 o2:Opd}(h1:fa δ=some (o1,δ1))(h2:fb δ1=some (o2,δ2)):je [fa,fb] δ=some ([o1,o2],δ2):=by
 simp only[je];rw[h1];simp only[iA];rw[h2];rfl
theorem mR{fa:FO}{δ δ1:Dn}{o1:Opd}(h1:fa δ=some (o1,δ1)):je [fa] δ=some ([o1],δ1):=by
 simp only[je];rw[h1];rfl
theorem lP{fi:FIt}{tg:Tg}{fb:FS}{δ δ1:Dn}{ds:List D}(h:fi δ=some (ds,δ1)):oX fi tg fb δ=kU tg fb ds δ1:=by unfold oX;rw[h];rfl
theorem pL{fa:FO}{fs:List FO}{δ δ1 δ2:Dn}{o1:Opd}{os}(h1:fa δ=some (o1,δ1))(h2:je fs δ1=some (os,δ2)):je (fa::fs) δ=some (o1::os,δ2):=by
 simp only[je];rw[h1];simp only[iA];rw[h2];rfl
theorem MF{fs:List F}{δ δ1:Dn}{os:List Opd}{ds:List D}(h1:je (fs.map gp) δ=some (os,δ1))(h2:oH os=some ds)(h3:ds.length<=sizeLine):kj fs δ=some ((.lst ds,true),δ1):=by
 unfold kj;rw[h1];simp only[iA];rw[h2];simp only[iA];rw[gD h3]
theorem MK(ns:hU)(k:Nat): ∃c,kN [(.lst (ns.map .int),false),(.int k,false)]=some ((.int c,false),[some (.lst (ns.map .int),false),some (.int k,false)]):=by
 by_cases hk:k<ns.length
 ·refine⟨ns[k],?_⟩;simp[kN,lS,evF,gIx,atI,ixN,hX,hk]
 ·refine⟨0,?_⟩;simp[kN,lS,evF,hX,hk]
theorem M6:za (.int 10) (.int 18)=some (.int 1000000000000000000,false):=by
 have:wD 10 18:=by unfold wD;decide+kernel
 show((if wD 10 18 then some (D.int (10^(18:Int).toNat)) else none).map fun z=>(z,false))=_;rw[gD this];rfl
theorem M5:za (.int 10) (.int 29)=some (.int 100000000000000000000000000000,false):=by
 have:wD 10 29:=by unfold wD;decide+kernel
 show((if wD 10 29 then some (D.int (10^(29:Int).toNat)) else none).map fun z=>(z,false))=_;rw[gD this];rfl
theorem Je(ns:hU)(k:Nat): ∃a b,kW [(.lst (ns.map .int),false),(.int k,false)]=some ((.lst [.int a,.bl b],true),[some (.lst (ns.map .int),false),some (.int k,false)]):=by
 obtain⟨c,hc⟩:=MK ns k;by_cases h:c>=1000000000000000000
 ·refine⟨c-1000000000000000000,true,?_⟩;simp[kW,nu,evF,hc,hW,wb,M6,h,ic,hX]
 ·refine⟨c%2147483647,false,?_⟩;simp[kW,nu,evF,hc,hW,wb,M6,h,ic,hX,uH,gI]
def st(n:Nat):List Int:=(List.range n).map fun(k:Nat)=>(1+(k:Int))
theorem NB(n:Nat):(st n).map D.int=iD 1 n:=by simp[st,iD]
def nG:Nat->List Int->List Int->List (List Int)
 |0,_,f=>[f]
 |k+1,r,f=>(List.range r.length).flatMap fun v=>nG k (r.eraseIdx v) (f++[r.getD v 0*1])++nG k (r.eraseIdx v) (f++[r.getD v 0* -1])
theorem Ac(f:Int->D): ∀(l:hU) (k:Nat),(l.map f).eraseIdx k=(l.eraseIdx k).map f
 |[],k=>by simp
 |x::l,0=>by simp
 |x::l,k+1=>by simp[Ac f l k]
theorem HE{i:Nat}{f:FO}{δ δ1:Dn}{o:Opd}{l0 l:List D}{k:Int}{j:Nat}{d:D}(h0:δ[i]?=some (some (.lst l0,true)))(h1:f δ=some (o,δ1))(h2:res δ1 o=some (.int k))(h3:δ1[i]?=some (some (.lst l,true)))(h4: -(2^63)<=k/\k<2^63)(h5:ixN l.length k=some j)(h6:l[j]?=some d):
  tR i f δ=some ((d,false),δ1.set i (some (.lst (l.eraseIdx j),true))):=by
 unfold tR;rw[h0];simp only[];rw[h1];simp only[iA];rw[h2,h3];simp only[];rw[gD h4,h5];simp only[iA];rw[h6];rfl
theorem tV{i:Nat}{f:F}{δ δ1:Dn}{r:D×Bool}{l0 l:List D}(h0:δ[i]?=some (some (.lst l0,true)))(h1:f δ=some (r,δ1))(h3:δ1[i]?=some (some (.lst l,true)))(h4:l.length<sizeLine):
  kH i f δ=some ((.non,false),δ1.set i (some (.lst (l++[r.1]),true))):=by
 unfold kH;rw[h0];simp only[];rw[h1];simp only[iA];rw[h3];simp only[];rw[gD h4]
theorem uw{f:F}{δ δ1:Dn}{r}(h:f δ=some (r,δ1)):nc f δ=some (.nx δ1):=by unfold nc;rw[h];rfl
abbrev Q2:F:=(tR 2 (gp (gJ gC [(gq 0),(gp (gO (g1 mO) [(gq 2)]))])))
abbrev Q1:F:=(gB gIx (gp (kj [(fC (.int 1)),(jD mf (gp (fC (.int 1))))])) (gp (gJ gC [(gq 0),(gp (fC (.int 2)))])))
abbrev fbT:FS:=(gE (nc (kH 3 (gB qa (gp Q2) (gp Q1)))) gR)
theorem Oh(a:Int)(b:Bool)(n:Sl)(r f:hU)(x:Sl)(h0:0<r.length)(h5:r.length<=5): ∃v a',v<r.length/\Q2 [stt a b,n,lsi r,lsi f,x]=some ((.int (r.getD v 0),false),[stt a' b,n,lsi (r.eraseIdx v),lsi f,x]):=by
 obtain⟨v,a',hv0,hv,e⟩:=qY a b r.length (by lia) (by lia);have hn:v.toNat<r.length:=by lia
 refine⟨v.toNat,a',hn,?_⟩;have e1:(lsi (r.eraseIdx v.toNat):Sl)=some (.lst ((r.map D.int).eraseIdx v.toNat),true):=by rw[Ac]
 rw[e1];refine HE (k:=v) (δ1:=[stt a' b,n,lsi r,lsi f,x]) rfl (gH (r:=(.int v,false)) (hZ (δ1:=[stt a b,n,lsi r,lsi f,x]) (os:=[.slot 0,.val (.int r.length,false)]) (args:=[(.lst [.int a,.bl b],true),(.int r.length,false)]) ?_ rfl (show([0]:List Nat).Nodup from by decide) e)) rfl rfl ⟨by lia,by lia⟩ (j:=v.toNat) ?_ ?_
 ·show some ([Opd.slot 0,Opd.val (D.int ((r.map D.int).length:Nat),false)],_)=_;rw[jw]
 ·unfold ixN;rw[gD hv0,gD (by simpa using hv)]
 ·simp[hn]
theorem NG(a:Int)(b:Bool)(n y z x:Sl): ∃s a',(s=1\/s= -1)/\Q1 [stt a b,n,y,z,x]=some ((.int s,false),[stt a' b,n,y,z,x]):=by
 obtain⟨v,a',hv0,hv,e⟩:=qY a b 2 (by lia) (by lia);have hl: ∀δ:Dn,kj [(fC (.int 1)),(jD mf (gp (fC (.int 1))))] δ=some ((.lst [.int 1,.int (-1)],true),δ):=fun δ=>rfl;refine⟨if v=0 then 1 else -1,a',by split<;>simp,?_⟩;refine gY (δ1:=[stt a b,n,y,z,x]) (gH (hl _)) (gH (δ1:=[stt a' b,n,y,z,x]) (hZ (δ1:=[stt a b,n,y,z,x]) (os:=[.slot 0,.val (.int 2,false)]) (args:=[(.lst [.int a,.bl b],true),(.int 2,false)]) rfl rfl (show([0]:List Nat).Nodup from by decide) e)) rfl rfl ?_;rcases(show v=0\/v=1 by lia) with rfl|rfl<;>rfl
theorem OZ(a:Int)(b:Bool)(n:Sl)(r f:hU)(x:Sl)(h0:0<r.length)(h5:r.length<=5)(hf:f.length<=5): ∃v s a',v<r.length/\(s=1\/s= -1)/\fbT [stt a b,n,lsi r,lsi f,x]=some (.nx [stt a' b,n,lsi (r.eraseIdx v),lsi (f++[r.getD v 0*s]),x]):=by
 obtain⟨v,a1,hv,e1⟩:=Oh a b n r f x h0 h5;obtain⟨s,a2,hs,e2⟩:=NG a1 b n (lsi (r.eraseIdx v)) (lsi f) x;refine⟨v,s,a2,hv,hs,?_⟩
 have hm:qa (.int (r.getD v 0)) (.int s)=some (.int (r.getD v 0*s),false):=by
  have:CMul (r.getD v 0) s:= .inr (by lia);show((if CMul (r.getD v 0) s then some (D.int (r.getD v 0*s)) else none).map fun z=>(z,false))=_;rw[gD this];rfl
 have hl:(f.map D.int).length<sizeLine:=by rw[jw];exact Nat.lt_of_le_of_lt hf (by decide)
 have e3:=tV (i:=3) (δ:=[stt a b,n,lsi r,lsi f,x]) (l0:=f.map .int) rfl (gY (gH e1) (gH e2) rfl rfl hm) (l:=f.map .int) rfl hl;refine(gz (uw e3)).trans ?_;simp[gR,lsi]
theorem Nf(b:Bool)(n:Sl): ∀(ds:List D) (a:Int) (r f:hU) (x:Sl),ds.length=r.length->f.length+r.length<=5->
  ∃a' t r' x',t∈nG ds.length r f/\kU (gG 4) fbT ds [stt a b,n,lsi r,lsi f,x]=some (.nx [stt a' b,n,lsi r',lsi t,x'])
 |[],a,r,f,x,_,_=>⟨a,f,r,x,by simp[nG],rfl⟩
 |d::ds,a,r,f,x,h,hl=>by
  simp only[jO] at h;obtain⟨v,s,a1,hv,hs,e⟩:=OZ a b n r f (some (d,false)) (by lia) (by lia) (by lia);obtain⟨a',t,r',x',ht,e'⟩:=Nf b n ds a1 (r.eraseIdx v) (f++[r.getD v 0*s]) (some (d,false)) (by rw[Az,gD hv];lia) (by rw[Az,gD hv,kZ];simp only[jO,nD];lia);refine⟨a',t,r',x',?_,?_⟩
  ·simp only[jO,nG,List.mem_flatMap,lK,uX];refine⟨v,hv,?_⟩;rcases hs with rfl|rfl
   ·exact .inl ht
   ·exact .inr ht
  ·unfold kU;rw[show gG 4 d [stt a b,n,lsi r,lsi f,x]=some [stt a b,n,lsi r,lsi f,some (d,false)] from rfl];simp only[iA];rw[e];simp only[iA];exact e'
theorem NL(n:Nat)(hn:n<=5):gRg .lst true [.int 1,.int ((n:Int)+1)]=some (.lst ((st n).map .int),true):=by
 have:n=0\/n=1\/n=2\/n=3\/n=4\/n=5:=by lia
 have h1:RgOk 1 ((n:Int)+1):=by rcases this with rfl|rfl|rfl|rfl|rfl|rfl<;>decide+kernel
 have h2:((n:Int)+1-1).toNat=n:=by lia
 show(if RgOk 1 ((n:Int)+1) then some (D.lst (iD 1 ((n:Int)+1-1).toNat),true) else none)=_;rw[gD h1,h2,<-NB]
theorem wR{f:FO}{δ δ1:Dn}{o:Opd}{n:Nat}(h1:f δ=some (o,δ1))(h2:res δ1 o=some (.int n))(hn:n<=63):wy f δ=some (iD 0 n,δ1):=by
 have hb:(-(2^62)<=(n:Int)/\(n:Int)<2^62):=⟨by lia,by lia⟩
 have h3:je [f] δ=some ([o],δ1):=by simp[je,h1]
 have h4:tw δ1 [o]=some [.int n]:=by simp[tw,h2]
 unfold wy;rw[h3];simp only[iA];rw[h4];simp only[];rw[gD hb];rfl
theorem Ep(a:Int)(b:Bool)(n:Nat)(hn:n<=5): ∃a' t,t∈nG n (st n) []/\kM [(.lst [.int a,.bl b],true),(.int n,false)]=some (enc t,[stt a' b,some (.int n,false)]):=by
 have hlen:(iD 0 n).length=n:=by simp[iD]
 have t8:(st n).length=n:=by simp[st]
 obtain⟨a',t,r',x',ht,e⟩:=Nf b (some (.int n,false)) (iD 0 n) a (st n) [] none (by rw[hlen,t8]) (by rw[t8];simpa using hn);rw[hlen] at ht;refine⟨a',t,ht,?_⟩;refine iV (δ:=[stt a' b,some (.int n,false),lsi r',lsi t,x']) ⟨rfl,by decide,rfl⟩ ?_;refine(gz (δ1:=[stt a b,some (.int n,false),lsi (st n),none,none]) (iN (i:=2) (δ1:=[stt a b,some (.int n,false),none,none,none]) (iQ (os:=[.val (.int 1,false),.val (.int ((n:Int)+1),false)]) rfl rfl (NL n hn)) (show 2<5 by decide))).trans ?_;refine(gz (δ1:=[stt a b,some (.int n,false),lsi (st n),lsi [],none]) rfl).trans ?_;refine(gz ((lP (wR (o:= .slot 1) rfl rfl (by lia))).trans e)).trans ?_;exact gQ (il (iQ (os:=[.slot 3]) rfl rfl rfl))
theorem vI: ∀(k:Nat) (r f t:hU),r.length=k->t∈nG k r f->t.length=f.length+k
 |0,r,f,t,_,h=>by simp[nG] at h;subst h;simp
 |k+1,r,f,t,hr,h=>by
  simp only[nG,List.mem_flatMap,lK,uX] at h;obtain⟨v,hv,h⟩:=h;have hl:(r.eraseIdx v).length=k:=by rw[Az,gD hv];lia
  rcases h with h|h
  ·have:=vI k _ _ t hl h;simp at this;lia
  ·have:=vI k _ _ t hl h;simp at this;lia
theorem IV{n:Nat}{t:hU}(h:t∈nG n (st n) []):t.length=n:=by
 have:=vI n (st n) [] t (by simp[st]) h;simpa using this
theorem uL: ∀t:List Int,D.depL (t.map .int)=0
 |[]=>by simp[D.depL]
 |s::t=>by simp[D.depL,D.dep,uL t]
theorem yp: ∀a b:List Int,D.eqbL (a.map .int) (b.map .int)=decide (a=b)
 |[],[]=>by simp[D.eqbL]
 |[],_::_=>by simp[D.eqbL]
 |_::_,[]=>by simp[D.eqbL]
 |x::a,y::b=>by simp[D.eqbL,D.eqb,yp a b,Bool.decide_and,wW]
@[simp] theorem zW(a b:hU):gEq (.lst (a.map .int)) (.lst (b.map .int))=some (.bl (decide (a=b)),false):=by unfold gEq;rw[gD (by simp[D.dep,uL])];simp[D.eqb,yp]
theorem NA{n:Nat}{x:Int}:x∈st n↔1<=x/\x<=n:=by
 simp only[st,nQ,uX];constructor
 ·rintro⟨k,h,rfl⟩;lia
 ·rintro⟨h1,h2⟩;exact⟨(x-1).toNat,by lia,by lia⟩
theorem BG{l:hU}{m:List D}(h:m.Perm (l.map D.int)): ∃k:List Int,m=k.map .int:=by
 refine⟨m.map fun d=>match d with|D.int i=>i|_=>0,?_⟩;rw[kY]
 symm
 rw[qe (g:=id),sx];intro d hd;obtain⟨i,_,rfl⟩:=nQ.mp (h.mem_iff.mp hd);rfl
theorem Cv(l:hU):mM (l.map .int)=true:=by
 unfold mM
 cases l with
 |nil=>rfl
 |cons x l=>
  rw[vb];right;simp only[iJ];simp[kd,D.pr,D.dep,kX]
theorem Lu(pre:Dn)(x:Sl)(d:D):gG pre.length d (pre++[x])=some (pre++[some (d,false)]):=by
 unfold gG;rw[gD (by simp)];simp[List.set_append]
theorem qQ(f:F)(g:D->D)(pre:Dn): ∀(l acc:List D) (x:Sl),(∀d∈l,∃o,f (pre++[some (d,false)])=some ((g d,o),pre++[some (d,false)]))->acc.length+l.length<=sizeLine->
  ∃x',mJ (gG pre.length) jx (jq f) l acc (pre++[x])=some (acc++l.map g,pre++[x'])
 |[],acc,x,_,_=>⟨x,by simp[mJ]⟩
 |d::l,acc,x,h,hl=>by
  obtain⟨o,hd⟩:=h d iW;obtain⟨x',e⟩:=qQ f g pre l (acc++[g d]) (some (d,false)) (fun d' h'=>h d' (jd _ h')) (by simp at hl ⊢;lia);refine⟨x',?_⟩;have hs:acc.length<sizeLine:=by simp at hl;lia
  rw[mJ,Lu];simp only[iA,Bo,iH,wJ];rw[hd];simp only[iA];rw[gD hs];simp only[iA];rw[e];simp
theorem Al(p:D->Bool): ∀l:List D,oF (l.map fun d=> .bl (p d))=some (l.map p)
 |[]=>rfl
 |d::l=>by simp[oF,Al p l]
theorem DF(p:D->Bool)(l:List D):C8 (.lst (l.map fun d=> .bl (p d)))=some (.bl (l.all p),false):=by
 simp[C8,Al,List.all_map,Function.comp_def]
def ab(s:Int):Int:=if s<0 then -s else s
def wh:D->Bool
 | .int _=>true
 |_=>false
def sg(n:Int):D->Bool
 | .int s=>decide (1<=ab s)&&decide (ab s<=n)
 |_=>false
def iOf:D->Int
 | .int s=>s
 |_=>0
theorem uj(d:D):mI [(d,false)]=some ((.bl (wh d),false),[some (d,false)]):=by
 cases d<;>simp[mI,qM,evF,hX,wh,isT]
theorem zM(d:D)(lo hi:Int):jT [(d,false),(.int lo,false),(.int hi,false)]=some ((.bl (match d with| .int s=>decide (lo<=s)&&decide (s<=hi)|_=>false),false),[some (d,false),some (.int lo,false),some (.int hi,false)]):=by
 cases d with
 |int s=>by_cases h:lo<=s<;>simp[jT,nv,evF,hX,uj,wh,hW,wb,lD,jc,h]
 |_=>simp[jT,nv,evF,hX,uj,wh,hW,wb]
theorem Gm(d:D)(n:Int):pN [(.int n,false),(d,false)]=some ((.bl (match d with| .int s=>decide (1<=s)&&decide (s<=n)|_=>false),false),[some (.int n,false),some (d,false)]):=by
 simp[pN,tQ,evF,hX,zM,hW,wb]
theorem Ly(n:Int)(d:D):kO [(.int n,false),(d,false)]=some ((.bl (sg n d),false),[some (.int n,false),some (d,false)]):=by
 cases d with
 |int s=>
  simp[kO,pI,evF,hX,uj,Gm,wh,hW,wb,sg,ab];rfl
 |_=>simp[kO,pI,evF,hX,uj,Gm,wh,hW,wb,sg,ab]
theorem Bf{n:Int}{d:D}(h:sg n d=true):d= .int (iOf d):=by cases d<;>simp_all [sg,iOf]
theorem Nt{d:D}(h:wh d=true):d= .int (iOf d):=by cases d<;>simp_all [wh,iOf]
theorem ixl{L:List D}{v:Int}(h0:0<=v)(h:v<L.length):gIx (.lst L) (.int v)=some (L.getD v.toNat .non,false):=by
 have h1:v.toNat<L.length:=by lia
 simp[gIx,atI,ixN,h0,h,h1]
theorem ixi{t:hU}{v:Int}(h0:0<=v)(h:v<t.length):gIx (.tup (t.map .int)) (.int v)=some (.int (t.getD v.toNat 0),false):=by
 have h1:v.toNat<t.length:=by lia
 simp[gIx,atI,ixN,h0,h,h1]
theorem QD{t:hU}{v:Int}(h0:0<=v)(h:v<t.length):gIx (.lst (t.map .int)) (.int v)=some (.int (t.getD v.toNat 0),false):=by
 have h1:v.toNat<t.length:=by lia
 simp[gIx,atI,ixN,h0,h,h1]
theorem uU{P:D->Prop}{L:List D}(hn:P .non)(h: ∀d∈L,P d)(k:Nat):P (L.getD k .non):=by
 rw[Au]
 cases e:L[k]? with
 |none=>exact hn
 |some d=>exact h d (mV e)
theorem yK{l m:List D}(h1:l.length<=1000)(h2:m.length<=1000):iB (.tup l) (.tup m)=some (.tup (l++m),false):=by
 simp only[iB];rw[gD (by rw[ic];lia)]
theorem SY{l m:List D}(h1:l.length<=1000)(h2:m.length<=1000):iB (.lst l) (.lst m)=some (.lst (l++m),true):=by
 simp only[iB];rw[gD (by rw[ic];lia)]
theorem jJ(a:Int)(b:Bool)(m:Int)(hm:0<m)(bT:m<1073741824): ∃v a',0<=v/\v<m/\ ∀(fo:FO) (δ:Dn) (o:Opd),fo (stt a b::δ)=some (o,stt a b::δ)->yH (stt a b::δ) o=some (.int m,false)->gJ gC [gq 0,fo] (stt a b::δ)=some ((.int v,false),stt a' b::δ):=by
 obtain⟨v,a',h0,h1,e⟩:=qY a b m hm bT;refine⟨v,a',h0,h1,fun fo δ o h2 h3=>?_⟩;refine(hZ (os:=[.slot 0,o]) (args:=[(.lst [.int a,.bl b],true),(.int m,false)]) (pM rfl h2) ?_ ?_ e).trans ?_
 ·simp[h3]
 ·cases o<;>simp[hW]
 ·cases o<;>simp[wb]
theorem rJ(l:List D)(lo hi:Option Int):(lh l lo hi).length<=l.length:=by
 unfold PX.lh;rw[nW,qy];lia
def led(u:hU)(s:Int):Int:=if 0<s then u.getD (s-1).toNat 0 else -(u.getD (-s-1).toNat 0)
theorem SM(x:Int):qa (.int x) (.int 1)=some (.int x,false):=by
 have:CMul x 1:= .inr (by lia);show((if CMul x 1 then some (D.int (x*1)) else none).map fun z=>(z,false))=_;rw[gD this,Ek];rfl
theorem SJ(x:Int):qa (.int x) (.int (-1))=some (.int (-x),false):=by
 have:CMul x (-1):= .inr (by lia);show((if CMul x (-1) then some (D.int (x*(-1))) else none).map fun z=>(z,false))=_;rw[gD this,Int.mul_neg,Ek];rfl
theorem Co(a:Int)(b:Bool)(m:Int)(hm:0<m)(bT:m<1073741824): ∃v a',0<=v/\v<m/\ ∀(fo:FO) (c0 c1:Sl) (δ:Dn) (o:Opd),fo (c0::c1::stt a b::δ)=some (o,c0::c1::stt a b::δ)->yH (c0::c1::stt a b::δ) o=some (.int m,false)->gJ gC [gq 2,fo] (c0::c1::stt a b::δ)=some ((.int v,false),c0::c1::stt a' b::δ):=by
 obtain⟨v,a',h0,h1,e⟩:=qY a b m hm bT;refine⟨v,a',h0,h1,fun fo c0 c1 δ o h2 h3=>?_⟩;refine(hZ (os:=[.slot 2,o]) (args:=[(.lst [.int a,.bl b],true),(.int m,false)]) (pM rfl h2) ?_ ?_ e).trans ?_
 ·simp[h3]
 ·cases o<;>simp[hW]
 ·cases o<;>simp[wb]
theorem zU{f:F}{δ δ1:Dn}{l:List D}{o:Bool}(h:f δ=some ((.lst l,o),δ1)):iU f δ=some (l,δ1):=by unfold iU;rw[h];rfl
def ClOk(n:Nat)(c:hU):Prop:=c≠[]/\(c.map ab).Pairwise (· < ·)/\ ∀s∈c,1<=ab s/\ab s<=n
def CA(j:Int)(c:hU):Prop:=(c.map ab).Pairwise (· < ·)/\ ∀s∈c,1<=ab s/\ab s<j
theorem FN{i:Int}(h:0<=i):ab i=i:=by unfold ab;rw[gF (by lia)]
theorem Ld{i:Int}(h:0<=i):ab (-i)=i:=by unfold ab;split<;>lia
theorem CA.snoc{j s:Int}{c:hU}(h:CA j c)(h1:ab s=j)(h0:1<=j):CA (j+1) (c++[s]):=by
 refine⟨?_,fun x hx=>?_⟩
 ·rw[pT,mw];refine⟨h.1,by simp,fun x hx y hy=>?_⟩;obtain⟨z,hz,rfl⟩:=nQ.mp hx;simp at hy;subst hy;have:=h.2 z hz;lia
 ·rcases lK.mp hx with hx|hx
  ·have:=h.2 x hx;lia
  ·simp at hx;subst hx;lia
theorem CA.up{j:Int}{c:hU}(h:CA j c):CA (j+1) c:=⟨h.1,fun x hx=>by have:=h.2 x hx;lia⟩
abbrev fbC:FS:=(gE (ir 5 (gJ gC [(gq 0),(gq 2)])) (gE (sIf (fT (gB (jM .Lt) (gq 5) (gp (fC (.int 2))))) (gE (nc (kH 3 (gB gIx (gp (kj [(ig 4),(jD mf (gq 4))])) (gq 5)))) gR) gR) gR))
theorem tU{i:Nat}{f:F}{δ δ1:Dn}{r:D×Bool}{l0 l:List D}(h0:δ[i]?=some (some (.lst l0,true)))(h1:f δ=some (r,δ1))(h3:δ1[i]?=some (some (.lst l,true)))(h4:l.length<=10000):
  gE (nc (kH i f)) gR δ=some (.nx (δ1.set i (some (.lst (l++[r.1]),true)))):=
 (gz (uw (tV h0 h1 h3 (F8 h4)))).trans rfl
theorem Pd(a:Int)(b:Bool)(n w:Int)(hw:0<w)(fI:w<100)(j:Int)(hj:1<=j)(c:hU)(hc:CA j c)(hl:c.length<=10)(x:Sl): ∃a' c' x',CA (j+1) c'/\c'.length<=c.length+1/\fbC [stt a b,some (.int n,false),some (.int w,false),lsi c,some (.int j,false),x]=some (.nx [stt a' b,some (.int n,false),some (.int w,false),lsi c',some (.int j,false),x']):=by
 obtain⟨v,a',v0,v1,e⟩:=jJ a b w hw (by lia)
 have s1: ∀g,gE (ir 5 (gJ gC [(gq 0),(gq 2)])) g [stt a b,some (.int n,false),some (.int w,false),lsi c,some (.int j,false),x]=g [stt a' b,some (.int n,false),some (.int w,false),lsi c,some (.int j,false),some (.int v,false)]:=fun g=>
  gz (iN (i:=5) (δ1:=[stt a' b,some (.int n,false),some (.int w,false),lsi c,some (.int j,false),x]) (e _ [some (.int n,false),some (.int w,false),lsi c,some (.int j,false),x] (.slot 2) rfl rfl) (show 5<6 by decide))
 by_cases h:v<2
 ·have hix:gIx (.lst [.int j,.int (-j)]) (.int v)=some (.int (if v=0 then j else -j),false):=by
   rcases(show v=0\/v=1 by lia) with rfl|rfl<;>rfl
  refine⟨a',c++[if v=0 then j else -j],some (.int v,false),hc.snoc (by split;exact FN (by lia);exact Ld (by lia)) hj,by simp,?_⟩;refine(s1 _).trans ((gz ((kB (δ1:=[stt a' b,some (.int n,false),some (.int w,false),lsi c,some (.int j,false),some (.int v,false)]) (by simp[h])).trans (tU (δ1:=[stt a' b,some (.int n,false),some (.int w,false),lsi c,some (.int j,false),some (.int v,false)]) (r:=(.int (if v=0 then j else -j),false)) (l0:=c.map .int) (l:=c.map .int) rfl (by simp[ig,ic,hix]) rfl (by simp;lia)))).trans ?_);simp[lsi]
 ·refine⟨a',c,some (.int v,false),hc.up,by lia,?_⟩;exact(s1 _).trans ((gz ((js (by simp[h])).trans rfl)).trans rfl)
theorem QZ(b:Bool)(n w:Int)(hw:0<w)(fI:w<100): ∀(m:Nat) (j:Nat) (a:Int) (c:hU) (x4 x5:Sl),1<=j->CA j c->c.length+m<=10-> ∃a' c' l9 ae,CA (j+m:Nat) c'/\c'.length<=10/\kU (gG 4) fbC ((List.range' j m).map fun(k:Nat)=>D.int (k:Int)) [stt a b,some (.int n,false),some (.int w,false),lsi c,x4,x5]=some (.nx [stt a' b,some (.int n,false),some (.int w,false),lsi c',l9,ae])
 |0,j,a,c,x4,x5,hj,hc,hl=>⟨a,c,x4,x5,by simpa using hc,by lia,rfl⟩
 |m+1,j,a,c,x4,x5,hj,hc,hl=>by
  obtain⟨a1,c1,x1,h1,l1,e1⟩:=Pd a b n w hw fI j (by lia) c hc (by lia) x5;obtain⟨a',c',l9,ae,h2,l2,e2⟩:=QZ b n w hw fI m (j+1) a1 c1 (some (.int j,false)) x1 (by lia) (by simpa using h1) (by lia);refine⟨a',c',l9,ae,by rw[show j+(m+1)=j+1+m by lia];exact h2,l2,?_⟩;rw[xb,iJ];unfold kU;rw[show gG 4 (.int (j:Int)) [stt a b,some (.int n,false),some (.int w,false),lsi c,x4,x5]=some [stt a b,some (.int n,false),some (.int w,false),lsi c,some (.int j,false),x5] from rfl];simp only[iA];rw[e1];simp only[iA];exact e2
theorem Gx{f g:FO}{δ δ1 δ2:Dn}{o1 o2:Opd}{i j:Int}(h1:f δ=some (o1,δ1))(h2:g δ1=some (o2,δ2))(h3:res δ2 o1=some (.int i))(h4:res δ2 o2=some (.int j))(hi:0<=i/\i<=1000)(hj:0<=j/\j<=1000):BF f g δ=some (iD i (j-i).toNat,δ2):=by
 unfold BF;rw[pM h1 h2];simp only[iA,NP,LB,h3,h4];rw[gD ⟨by lia,by lia,by lia,by lia⟩]
theorem Ag(a:Int)(b:Bool)(n:Nat)(h1:1<=n)(h5:n<=5): ∃a' c,ClOk n c/\lx [(.lst [.int a,.bl b],true),(.int n,false)]=some (enc c,[stt a' b,some (.int n,false)]):=by
 obtain⟨v,a1,v0,v1,e1⟩:=jJ a b 3 (by lia) (by lia)
 let wL:List Int:=[3,4,6]
 let w:=wL.getD v.toNat 0
 have hw:0<w/\w<100:=by
  rcases(show v=0\/v=1\/v=2 by lia) with rfl|rfl|rfl<;>decide
 obtain⟨a2,c,x4,x5,hc,hl,e2⟩:=QZ b n w hw.1 hw.2 n 1 a1 [] none none (by lia) ⟨by simp,by simp⟩ (by simp;lia)
 have r1:BF (gp (fC (.int 1))) (gp (gB iB (gq 1) (gp (fC (.int 1))))) [stt a1 b,some (.int n,false),some (.int w,false),lsi [],none,none]=some (((List.range' 1 n).map fun(k:Nat)=>D.int (k:Int)),[stt a1 b,some (.int n,false),some (.int w,false),lsi [],none,none]):=by
  rw[Gx (o1:= .val (.int 1,false)) (o2:= .val (.int ((n:Int)+1),false)) (i:=1) (j:=(n:Int)+1) rfl rfl rfl rfl (by lia) (by lia)];rw[show((n:Int)+1-1).toNat=n by lia]
  congr 2
  unfold iD;rw[List.range'_eq_map_range,kY];apply qe;intro k _;simp
 have pre: ∀g,(gE (ir 2 (gB gIx (gp (kj [(fC (.int 3)),(fC (.int 4)),(fC (.int 6))])) (gp (gJ gC [(gq 0),(gp (fC (.int 3)))])))) (gE (ir 3 (kj [])) (gE (oX (BF (gp (fC (.int 1))) (gp (gB iB (gq 1) (gp (fC (.int 1)))))) (gG 4) fbC) g))) [stt a b,some (.int n,false),none,none,none,none]=g [stt a2 b,some (.int n,false),some (.int w,false),lsi c,x4,x5]:=by
  intro g;refine(gz (δ1:=[stt a1 b,some (.int n,false),some (.int w,false),none,none,none]) ?_).trans ?_
  ·refine iN (i:=2) (δ1:=[stt a1 b,some (.int n,false),none,none,none,none]) (gY (o1:= .val (.lst (wL.map .int),true)) (o2:= .val (.int v,false)) (gH (δ1:=[stt a b,some (.int n,false),none,none,none,none]) (by simp[wL,ic])) (gH (e1 _ [some (.int n,false),none,none,none,none] _ rfl rfl)) rfl rfl (QD v0 (by simpa[wL] using v1))) (show 2<6 by decide)
  refine(gz (δ1:=[stt a1 b,some (.int n,false),some (.int w,false),lsi [],none,none]) (by simp[lsi,ic])).trans ?_;exact gz ((lP r1).trans e2)
 by_cases hn:c=[]
 ·subst hn;obtain⟨s,a3,s0,s1,e3⟩:=jJ a2 b 2 (by lia) (by lia);obtain⟨i,a4,i0,i1,e4⟩:=jJ a3 b n (by lia) (by lia);refine⟨a4,[if s=0 then 1+i else -(1+i)],?_,?_⟩
  ·refine⟨by simp,by simp,fun x hx=>?_⟩;simp at hx;subst hx;split
   ·rw[FN (by lia)];lia
   ·rw[show -(1+i)= -(1+i) from rfl,Ld (by lia)];lia
  ·refine iV (δ:=[stt a4 b,some (.int n,false),some (.int w,false),lsi [if s=0 then 1+i else -(1+i)],x4,x5]) ⟨rfl,by decide,rfl⟩ ((pre _).trans ?_)
   have hm: ∀q,gIx (.lst [.int 1,.int (-1)]) (.int s)=some q->qa q.1 (.int (1+i))=some (.int (if s=0 then 1+i else -(1+i)),false):=by
    intro q hq;have k1:CMul 1 (1+i):=by unfold CMul;lia
    have k2:CMul (-1) (1+i):=by unfold CMul;lia
    rcases(show s=0\/s=1 by lia) with rfl|rfl
    ·cases hq;simp[qa,gI,k1]
    ·cases hq;simp[qa,gI,k2]
   have hs:gIx (.lst [.int 1,.int (-1)]) (.int s)=some (.int (if s=0 then 1 else -1),false):=by
    rcases(show s=0\/s=1 by lia) with rfl|rfl<;>rfl
   refine(gz ((kB (δ1:=[stt a2 b,some (.int n,false),some (.int w,false),lsi [],x4,x5]) (ke (gY (o1:= .slot 3) (o2:= .val (.lst [],true)) (δ2:=[stt a2 b,some (.int n,false),some (.int w,false),lsi [],x4,x5]) rfl (gH (by simp[ic])) rfl rfl (zW [] [])))).trans (tU (r:=(.int (if s=0 then 1+i else -(1+i)),false)) (δ1:=[stt a4 b,some (.int n,false),some (.int w,false),lsi [],x4,x5]) (l0:=[]) (l:=[]) rfl ?_ rfl (by simp)))).trans ?_
   ·refine gY (δ1:=[stt a3 b,some (.int n,false),some (.int w,false),lsi [],x4,x5]) (gH (gY (δ1:=[stt a2 b,some (.int n,false),some (.int w,false),lsi [],x4,x5]) (o1:= .val (.lst [.int 1,.int (-1)],true)) (gH (by simp[ic])) (gH (e3 _ _ _ rfl rfl)) rfl rfl hs)) (gH (gY (o1:= .val (.int 1,false)) rfl (gH (e4 _ _ (.slot 1) rfl rfl)) rfl rfl rfl)) rfl rfl (hm _ hs)
   ·exact gQ (il (iQ (os:=[.slot 3]) rfl rfl rfl))
 ·refine⟨a2,c,⟨hn,hc.1,fun s hs=>by have:=hc.2 s hs;lia⟩,?_⟩;refine iV (δ:=[stt a2 b,some (.int n,false),some (.int w,false),lsi c,x4,x5]) ⟨rfl,by decide,rfl⟩ ((pre _).trans ?_);refine(gz ((js (δ1:=[stt a2 b,some (.int n,false),some (.int w,false),lsi c,x4,x5]) (ke (o:=false) (gY (o1:= .slot 3) (o2:= .val (.lst [],true)) (δ2:=[stt a2 b,some (.int n,false),some (.int w,false),lsi c,x4,x5]) rfl (gH (by simp[ic])) rfl rfl ((zW c []).trans (by rw[ji hn]))))).trans rfl)).trans ?_;exact gQ (il (iQ (os:=[.slot 3]) rfl rfl rfl))
theorem vL{α:Type}[BEq α][LawfulBEq α]: ∀(l m:List α),l.Nodup->(∀x∈l,x∈m)->l.length<=m.length
 |[],m,_,_=>lY _
 |x::l,m,nd,hs=>by
  rw[En] at nd;have hx:=hs x iW;have hp:=List.perm_cons_erase hx
  have:=vL l (m.erase x) nd.2 (fun y hy=>by
   have hy2:=hs y (jd _ hy);have r9:y≠x:=fun e=>nd.1 (e▸hy);exact(Ih r9).mpr hy2)
  have h2:=hp.length_eq;simp only[jO] at h2 ⊢
  lia
theorem MZ{l:hU}(h:l.Pairwise (· < ·)):l.Nodup:=h.imp fun h=>by lia
theorem ClOk.len{n:Nat}{c:hU}(h:ClOk n c):c.length<=n:=by
 have:=vL (c.map ab) (st n) (MZ h.2.1) (fun x hx=>by
  obtain⟨s,hs,rfl⟩:=nQ.mp hx;exact NA.mpr (h.2.2 s hs))
 simpa[st] using this
def TOk(n:Nat)(t:hU):Prop:=t.length=n/\ ∀x∈t,1<=ab x/\ab x<=n
theorem mp0:gIx (.lst [.int (-1),.int 1]) (.int 0)=some (.int (-1),false):=rfl
theorem mp1:gIx (.lst [.int (-1),.int 1]) (.int 1)=some (.int 1,false):=rfl
theorem Qw(u:hU)(s:Int)(h0:s≠0)(h1: -(u.length:Int)<=s)(h2:s<=u.length):
  ko [enc u,(.int s,false)]=some ((.int (led u s),false),[some (enc u),some (.int s,false)]):=by
 simp only[ko,mP];by_cases h:0<s
 ·have:=ixi (t:=u) (v:=s-1) (by lia) (by lia);have e0: ¬s<0:=by lia
  simp only[evF];simp[h,e0,led,this,hX,ic,mp1,SM]
 ·have:=ixi (t:=u) (v:= -s-1) (by lia) (by lia);have e0:s<0:=by lia
  simp only[evF];simp[h,e0,led,this,hX,ic,mp0,SJ]
theorem HL(i:Int):ab (-i)=ab i:=by unfold ab;split<;>split<;>lia
theorem vN{l:hU}{k:Nat}(h:k<l.length):l.getD k 0∈l:=by
 rw[Au,jb h];exact kx h
theorem OP{n:Nat}{t:hU}(ht:TOk n t){s:Int}(h1:1<=ab s)(h2:ab s<=n):1<=ab (led t s)/\ab (led t s)<=n:=by
 unfold led;unfold ab at h1 h2;have hl:=ht.1;split
 ·rename_i h;rw[gF (by lia)] at h1 h2;exact ht.2 _ (vN (by lia))
 ·rename_i h;rw[HL];split at h1
  ·rw[gD (by assumption)] at h2;exact ht.2 _ (vN (by lia))
  ·lia
def dD(ws:hU):D:= .oth .dct (ws.map fun w=> .int (ab w)) (ws.map .int)
def Bp(ws:hU)(w:Int):List Int:=if ab w∈ws.map ab then ws.map fun x=>if ab x=ab w then w else x else ws++[w]
theorem K5(w:Int): ∀ws:List Int,((ws.map fun w=>D.int (ab w)).any (D.eqb · (.int (ab w))))=decide (ab w∈ws.map ab)
 |[]=>by simp
 |x::ws=>by
  simp only[iJ,List.any_cons,K5 w ws,D.eqb,jj];by_cases h:ab x=ab w
  ·simp[h]
  ·have: ¬ab w=ab x:=fun e=>h e.symm;simp[h,this]
theorem Gd(w:Int): ∀ws:List Int,qF (ws.map fun w=>D.int (ab w)) (ws.map .int) (.int (ab w)) (.int w)=(ws.map fun x=>if ab x=ab w then w else x).map .int
 |[]=>by simp[qF]
 |x::ws=>by
  simp only[iJ,qF,Gd w ws,D.eqb];by_cases h:ab x=ab w<;>simp[h]
theorem Ob(ws:hU)(w:Int):D.oth .dct (rM (ws.map fun w=> .int (ab w)) (ws.map .int) (.int (ab w)) (.int w)).1 (rM (ws.map fun w=> .int (ab w)) (ws.map .int) (.int (ab w)) (.int w)).2=dD (Bp ws w):=by
 unfold rM Bp dD;rw[K5];by_cases h:ab w∈ws.map ab
 ·rw[gD (by simpa using h),gD h,Gd]
  congr 1
  show(ws.map fun w=>D.int (ab w))=List.map (fun w=>D.int (ab w)) (ws.map fun x=>if ab x=ab w then w else x);rw[kY];apply qe;intro x _;simp only[Function.comp];split
  ·rename_i e;rw[e]
  ·rfl
 ·rw[gF (by simpa using h),gF h];simp
def DW(n:Nat)(ws:hU):Prop:=(ws.map ab).Nodup/\ ∀w∈ws,1<=ab w/\ab w<=n
theorem DW.put{n:Nat}{ws:hU}{w:Int}(h:DW n ws)(h1:1<=ab w/\ab w<=n):DW n (Bp ws w):=by
 unfold Bp;split
 ·rename_i hm;refine⟨?_,fun x hx=>?_⟩
  ·have:((ws.map fun x=>if ab x=ab w then w else x).map ab)=ws.map ab:=by
    rw[kY];apply qe;intro x _;simp only[Function.comp];split
    ·rename_i e;rw[e]
    ·rfl
   rw[this];exact h.1
  ·obtain⟨y,hy,rfl⟩:=nQ.mp hx;split
   ·exact h1
   ·exact h.2 y hy
 ·rename_i hm;refine⟨?_,fun x hx=>?_⟩
  ·rw[pT,DG];refine⟨h.1,by simp,fun x hx y hy e=>?_⟩;simp at hy;subst hy;subst e;exact hm hx
  ·rcases lK.mp hx with hx|hx
   ·exact h.2 x hx
   ·simp at hx;subst hx;exact h1
theorem LX(ws:hU)(w:Int):Bp ws w≠[]:=by
 unfold Bp;split
 ·rename_i h
  cases ws with
  |nil=>simp at h
  |cons=>simp
 ·simp
theorem DW.len{n:Nat}{ws:hU}(h:DW n ws):ws.length<=n:=by
 have:=vL (ws.map ab) (st n) h.1 (fun x hx=>by
  obtain⟨s,hs,rfl⟩:=nQ.mp hx;exact NA.mpr (h.2 s hs))
 simpa[st] using this
theorem BB(k:Int): ∀ws:List Int,k∈ws.map ab-> ∃w∈ws,ab w=k/\ma (ws.map fun w=>D.int (ab w)) (ws.map .int) (.int k)=some (.int w)
 |[],h=>by simp at h
 |x::ws,h=>by
  simp only[iJ,ma,D.eqb];by_cases e:ab x=k
  ·exact⟨x,by simp,e,by simp[e]⟩
  ·have:k∈ws.map ab:=by
    simp only[iJ,jj] at h;rcases h with h|h
    ·exact absurd h.symm e
    ·exact h
   obtain⟨w,hw,h1,h2⟩:=BB k ws this;exact⟨w,by simp[hw],h1,by simp[e,h2]⟩
theorem C0(ws:hU)(k:Int):we (ws.map fun w=>D.int (ab w)) (.int k)=true:=by simp[we,tN]
abbrev fbL:FS:=(gE (ir 4 (gJ ko [(gq 0),(gq 3)])) (gE (CC 2 (ig 4) (gp (gO (g1 nR) [(gq 4)]))) gR))
theorem Pc{n:Nat}{t:hU}(ht:TOk n t)(hn:n<=5){s:Int}(h1:1<=ab s/\ab s<=n){ws:hU}(hw:DW n ws)(c1 x4:Sl):fbL [some (enc t),c1,some (dD ws,true),some (.int s,false),x4]=some (.nx [some (enc t),c1,some (dD (Bp ws (led t s)),true),some (.int s,false),some (.int (led t s),false)]):=by
 have hl:=ht.1
 have h0:s≠0/\ -(t.length:Int)<=s/\s<=t.length:=by
  have:=h1;unfold ab at this;split at this<;>lia
 refine(gz (δ1:=[some (enc t),c1,some (dD ws,true),some (.int s,false),some (.int (led t s),false)]) ?_).trans ?_
 ·exact iN (i:=4) (δ1:=[some (enc t),c1,some (dD ws,true),some (.int s,false),x4]) (hZ (δ1:=[some (enc t),c1,some (dD ws,true),some (.int s,false),x4]) (os:=[.slot 0,.slot 3]) (args:=[enc t,(.int s,false)]) rfl rfl km (Qw t s h0.1 h0.2.1 h0.2.2)) (show 4<5 by decide)
 ·refine(gz (δ1:=[some (enc t),c1,some (dD (Bp ws (led t s)),true),some (.int s,false),some (.int (led t s),false)]) ?_).trans rfl;have e1:ig 4 [some (enc t),c1,some (dD ws,true),some (.int s,false),some (.int (led t s),false)]=some ((.int (led t s),false),[some (enc t),c1,some (dD ws,true),some (.int s,false),some (.int (led t s),false)]):=rfl;have e2:gp (gO (g1 nR) [(gq 4)]) [some (enc t),c1,some (dD ws,true),some (.int s,false),some (.int (led t s),false)]=some (.val (.int (ab (led t s)),false),[some (enc t),c1,some (dD ws,true),some (.int s,false),some (.int (led t s),false)]):=rfl;unfold CC;rw[e1];simp only[iA,AF,List.getElem?_cons_zero];rw[e2];simp only[iA,EF,AF,List.getElem?_cons_zero,dD];rw[gD ⟨C0 ws _,by have:=hw.len;simp;lia⟩,Ob];rfl
theorem Nh{n:Nat}{t:hU}(ht:TOk n t)(hn:n<=5)(c1:Sl): ∀(c ws:hU) (x3 x4:Sl),(∀s∈c,1<=ab s/\ab s<=n)->DW n ws-> ∃dC au l9,DW n dC/\(ws≠[]\/c≠[]->dC≠[])/\kU (gG 3) fbL (c.map .int) [some (enc t),c1,some (dD ws,true),x3,x4]=some (.nx [some (enc t),c1,some (dD dC,true),au,l9])
 |[],ws,x3,x4,_,hw=>⟨ws,x3,x4,hw,fun h=>h.elim id fun h=>absurd rfl h,rfl⟩
 |s::c,ws,x3,x4,h,hw=>by
  have hs:=h s iW;obtain⟨dC,au,l9,h1,h2,e⟩:=Nh ht hn c1 c (Bp ws (led t s)) (some (.int s,false)) (some (.int (led t s),false)) (fun x hx=>h x (jd _ hx)) (hw.put (OP ht hs.1 hs.2));refine⟨dC,au,l9,h1,fun _=>h2 (.inl (LX _ _)),?_⟩;rw[iJ];unfold kU;rw[show gG 3 (.int s) [some (enc t),c1,some (dD ws,true),x3,x4]=some [some (enc t),c1,some (dD ws,true),some (.int s,false),x4] from rfl];simp only[iA];rw[Pc ht hn hs hw];simp only[iA];exact e
theorem NC{l k:hU}(nd:l.Nodup)(h:mF ltT (l.map .int)=k.map .int):k.Perm l/\k.Pairwise (· < ·):=by
 have hp:=jt ltT (l.map D.int);rw[h] at hp;have de:=(hp.map fun d=>match d with|D.int i=>i|_=>0)
 simp only[kY] at de;have e:((fun d=>match d with|D.int i=>i|_=>0)∘D.int)=id:=rfl;rw[e,sx,sx] at de;refine⟨de,?_⟩;have hs:=oU (l.map D.int);rw[h,List.pairwise_map] at hs;have nd2:=de.symm.nodup nd;have:=hs.and nd2;refine this.imp fun {a b} h=>?_;have h1:=h.1;rw[lI] at h1;simp only[cT] at h1;by_cases q:b<a
 ·simp[q] at h1
 ·have:=h.2;lia
theorem zR(ws:hU): ∀k:List Int,(∀x∈k,x∈ws.map ab)-> ∃c:List Int,c.map ab=k/\(∀w∈c,w∈ws)/\k.map (fun x=>(ma (ws.map fun w=>D.int (ab w)) (ws.map .int) (.int x)).getD .non)=c.map .int
 |[],_=>⟨[],rfl,by simp,rfl⟩
 |x::k,h=>by
  obtain⟨w,hw,h1,h2⟩:=BB x ws (h x iW);obtain⟨c,e1,e2,e3⟩:=zR ws k fun y hy=>h y (jd _ hy);exact⟨w::c,by simp[h1,e1],by simp[hw];exact e2,by simp[h2,e3]⟩
theorem yZ{n:Nat}(hn:n<=5){t c:hU}(ht:TOk n t)(hc:ClOk n c): ∃c',ClOk n c'/\jR [enc t,enc c]=some (enc c',[some (enc t),some (enc c)]):=by
 obtain⟨ws,x3,x4,hw,r9,e⟩:=Nh ht hn (some (enc c)) c [] none none hc.2.2 ⟨by simp,by simp⟩;have r9:=r9 (.inr hc.1);have hlen:=hw.len;obtain⟨k,hk⟩:=BG (jt ltT ((ws.map ab).map D.int));obtain⟨kp,kl⟩:=NC hw.1 hk;obtain⟨c',e1,e2,e3⟩:=zR ws k fun x hx=>kp.mem_iff.mp hx;refine⟨c',⟨?_,by rw[e1];exact kl,fun s hs=>hw.2 s (e2 s hs)⟩,?_⟩
 ·intro z;have:k=[]:=by rw[<-e1,z];rfl
  have h2:=kp.length_eq;rw[this] at h2;simp at h2;exact r9 (Pq.mp h2.symm)
 ·have klen:k.length<=5:=by have:=kp.length_eq;simp at this;lia
  have s1:jQ (dD ws)=some (.lst (k.map .int),true):=by
   unfold jQ dD;have q:((ws.map fun w=>D.int (ab w)).all fun k=>(tN k).isSome)=true:=by simp[tN]
   have q2:(ws.map fun w=>D.int (ab w))≠[]:=by simpa using r9
   simp only;rw[gD ⟨q,q2⟩];have em:(ws.map fun w=>D.int (ab w))=(ws.map ab).map D.int:=by rw[kY];rfl
   unfold jG;rw[em,gD ⟨Cv _,by rw[ic];simp;lia⟩,hk]
  obtain⟨x',b1⟩:=qQ (gB C7 (gq 0) (gq 1)) (fun d=>match d with| .int x=>(ma (ws.map fun w=>D.int (ab w)) (ws.map .int) (.int x)).getD .non|_=> .non) [some (dD ws,true)] (k.map .int) [] none (by
    intro d hd;obtain⟨x,hx,rfl⟩:=nQ.mp hd;obtain⟨w,hw',h1,h2⟩:=BB x ws (kp.mem_iff.mp hx);refine⟨false,gY (o1:= .slot 0) (o2:= .slot 1) rfl rfl rfl rfl ?_⟩;simp only[C7,dD];rw[gD (C0 ws x),h2];rfl) (by rw[ic];simp;lia)
  have m1:((k.map D.int).map fun d=>match d with| .int x=>(ma (ws.map fun w=>D.int (ab w)) (ws.map .int) (.int x)).getD .non|_=> .non)=c'.map .int:=by
   rw[kY,<-e3];rfl
  rw[m1] at b1;simp only[sv,nU,jO,nD,Nat.zero_add] at b1;refine iV (δ:=[some (enc t),some (enc c),some (dD ws,true),x3,x4]) ⟨rfl,by decide,rfl⟩ ?_;refine(gz (δ1:=[some (enc t),some (enc c),some (dD [],true),none,none]) rfl).trans ?_;refine(gz ((lP (ds:=c.map .int) (δ1:=[some (enc t),some (enc c),some (dD [],true),none,none]) rfl).trans e)).trans ?_;refine gQ (il (iQ (os:=[.val (.lst (c'.map .int),true)]) (mR (gH ?_)) rfl rfl));have i1:iU (gO (g1 jQ) [(gq 2)]) [some (enc t),some (enc c),some (dD ws,true),x3,x4]=some (k.map .int,[some (enc t),some (enc c),some (dD ws,true),x3,x4]):=zU (iQ (os:=[.slot 2]) rfl rfl s1);unfold iY;rw[i1];simp only[iA,iJ,oP];rw[show ku [some (enc t),some (enc c),some (dD ws,true),x3,x4] [.slot 2]=some [(dD ws,true)] from rfl];simp only[iA];rw[gD (show(hW [Opd.slot 2] [(dD ws,true)]).Nodup from(show([2]:List Nat).Nodup by decide))];rw[show(List.map some [(dD ws,true)]++List.replicate 1 none:Dn)=[some (dD ws,true),none] from rfl,b1];rfl
abbrev cD(c:hU):D:= .tup (c.map .int)
theorem qO(c:hU):D.dep (cD c)=1:=by simp[D.dep,uL]
theorem GH: ∀cs:List (List Int),D.depL (cs.map cD)<=1
 |[]=>by simp[D.depL]
 |c::cs=>by
  have:=GH cs;simp only[iJ,D.depL,qO];lia
theorem Pe(a b:hU):D.eqb (cD a) (cD b)=decide (a=b):=by simp[D.eqb,yp]
theorem FJ(c:hU): ∀cs:List (List Int),(cs.map cD).any (fun d=>D.eqb d (cD c))=decide (c∈cs)
 |[]=>by simp
 |x::cs=>by
  simp only[iJ,List.any_cons,FJ c cs,Pe,jj];by_cases h:x=c
  ·simp[h]
  ·have: ¬c=x:=fun e=>h e.symm;simp[h,this]
theorem J9(c:hU)(cs:jv):vO (cD c) (.lst (cs.map cD))=some (.bl (!decide (c∈cs)),false):=by
 have:inD (cD c) (.lst (cs.map cD))=some (decide (c∈cs)):=by
  have hd:=GH cs;show(if D.depL (cs.map cD)<=50/\(cD c).dep<=50 then some ((cs.map cD).any fun d=>D.eqb d (cD c)) else none)=_;rw[gD ⟨by lia,by rw[qO];lia⟩,FJ]
 unfold vO;rw[this];rfl
def yJ:Nat->List (List Int)
 |0=>[[]]
 |k+1=>yJ k++((yJ k).map fun c=>c++[((k:Int)+1)])++((yJ k).map fun c=>c++[-((k:Int)+1)])
theorem uV: ∀(k:Nat) (c:hU),(c.map ab).Pairwise (· < ·)->(∀s∈c,1<=ab s/\ab s<=k)->c∈yJ k
 |0,c,_,h=>by
  cases c with
  |nil=>simp[yJ]
  |cons s c=>have:=h s iW;lia
 |k+1,c,hp,h=>by
  simp only[yJ,lK,nQ];by_cases hn:c=[]
  ·subst hn;exact .inl (.inl (uV k [] (by simp) (by simp)))
  ·have hd:=List.dropLast_concat_getLast hn;generalize c.dropLast=i at hd;generalize c.getLast hn=s at hd;subst hd;rw[pT,mw] at hp;have hs:=h s (by simp);have hi: ∀x∈i,1<=ab x/\ab x<ab s:=fun x hx=>⟨(h x (by simp[hx])).1,hp.2.2 (ab x) (DH hx) (ab s) (by simp)⟩
   by_cases q:ab s<=k
   ·refine .inl (.inl (uV k _ ?_ fun x hx=>?_))
    ·rw[pT,mw];exact hp
    ·rcases lK.mp hx with hx|hx
     ·have:=hi x hx;lia
     ·simp at hx;subst hx;lia
   ·have e:ab s=(k:Int)+1:=by lia
    have hk:=uV k i hp.1 fun x hx=>by have:=hi x hx;lia
    unfold ab at e;split at e
    ·exact .inr ⟨i,hk,by rw[show s= -((k:Int)+1) by lia]⟩
    ·exact .inl (.inr ⟨i,hk,by rw[show s=((k:Int)+1) by lia]⟩)
theorem Ar: ∀(k:Nat) (n:Nat),n<=k->(yJ n).length<=(yJ k).length
 |0,n,h=>by rw[show n=0 by lia];exact ip _
 |k+1,n,h=>by
  by_cases e:n=k+1
  ·subst e;exact ip _
  ·have:=Ar k n (by lia);simp only[yJ,kZ,jw];lia
def CsOk(n:Nat)(cs:jv):Prop:=cs.Nodup/\ ∀c∈cs,ClOk n c
theorem CsOk.len{n:Nat}{cs:jv}(hn:n<=5)(h:CsOk n cs):cs.length<=243:=by
 have h1:=vL cs (yJ n) h.1 fun c hc=>uV n c (h.2 c hc).2.1 (h.2 c hc).2.2;have h2:=Ar 5 n hn;have h3:(yJ 5).length=243:=by decide
 lia
theorem CsOk.snoc{n:Nat}{cs:jv}{c:hU}(h:CsOk n cs)(hc:ClOk n c)(hm:c∉cs):CsOk n (cs++[c]):=by
 refine⟨?_,fun x hx=>?_⟩
 ·rw[DG];exact⟨h.1,by simp,fun x hx y hy e=>by simp at hy;subst hy;subst e;exact hm hx⟩
 ·rcases lK.mp hx with hx|hx
  ·exact h.2 x hx
  ·simp at hx;subst hx;exact hc
abbrev lsC(cs:jv):Sl:=some (.lst (cs.map cD),true)
abbrev Pa:FS:=(gE (ir 5 (gJ jR [(gq 4),(gp (gB gIx (gq 2) (gq 3)))])) (gE (sIf (fT (gB vO (gq 5) (gq 2))) (gE (nc (kH 2 (ig 5))) gR) gR) gR))
theorem ixc{cs:jv}{i:Nat}(h:i<cs.length):gIx (.lst (cs.map cD)) (.int i)=some (cD (cs.getD i []),false):=by
 have:(i:Int)<cs.length:=by lia
 simp[gIx,atI,ixN,h]
theorem zV{cs:jv}{i:Nat}(h:i<cs.length):cs.getD i []∈cs:=by
 rw[Au,jb h];exact kx h
theorem ME{n:Nat}(hn:n<=5){t:hU}(ht:TOk n t){cs:jv}(hc:CsOk n cs){i:Nat}(hi:i<cs.length)(c0 c1 x5:Sl): ∃n9 ae,CsOk n n9/\cs.length<=n9.length/\Pa [c0,c1,lsC cs,some (.int i,false),some (enc t),x5]=some (.nx [c0,c1,lsC n9,some (.int i,false),some (enc t),ae]):=by
 obtain⟨c',bM,e⟩:=yZ hn ht (hc.2 _ (zV hi));have hl:=hc.len hn
 have s1: ∀g,gE (ir 5 (gJ jR [(gq 4),(gp (gB gIx (gq 2) (gq 3)))])) g [c0,c1,lsC cs,some (.int i,false),some (enc t),x5]=g [c0,c1,lsC cs,some (.int i,false),some (enc t),some (enc c')]:=fun g=>
  gz (iN (i:=5) (δ1:=[c0,c1,lsC cs,some (.int i,false),some (enc t),x5]) (hZ (δ1:=[c0,c1,lsC cs,some (.int i,false),some (enc t),x5]) (os:=[.slot 4,.val (enc (cs.getD i []))]) (args:=[enc t,enc (cs.getD i [])]) (pM rfl (gH (gY (o1:= .slot 2) (o2:= .slot 3) rfl rfl rfl rfl (ixc hi)))) rfl km e) (show 5<6 by decide))
 have t1:(fT (gB vO (gq 5) (gq 2))) [c0,c1,lsC cs,some (.int i,false),some (enc t),some (enc c')]=some (!decide (c'∈cs),[c0,c1,lsC cs,some (.int i,false),some (enc t),some (enc c')]):=
  ke (o:=false) (gY (o1:= .slot 5) (o2:= .slot 2) rfl rfl rfl rfl (J9 c' cs))
 by_cases h:c'∈cs
 ·refine⟨cs,some (enc c'),hc,ip _,(s1 _).trans ((gz ((js ?_).trans rfl)).trans rfl)⟩;rw[t1,lN h];rfl
 ·refine⟨cs++[c'],some (enc c'),hc.snoc bM h,by simp,(s1 _).trans ?_⟩;rw[ji h] at t1;refine(gz ((kB t1).trans (tU (δ1:=[c0,c1,lsC cs,some (.int i,false),some (enc t),some (enc c')]) (r:=enc c') (l0:=cs.map cD) (l:=cs.map cD) rfl rfl rfl (by simp;lia)))).trans ?_;simp[lsC,gR]
theorem Ng{n:Nat}(hn:n<=5)(i:Nat)(c0 c1:Sl): ∀(ts:jv) (cs:jv) (x4 x5:Sl),(∀t∈ts,TOk n t)->CsOk n cs->i<cs.length-> ∃n9 l9 ae,CsOk n n9/\cs.length<=n9.length/\kU (gG 4) Pa (ts.map cD) [c0,c1,lsC cs,some (.int i,false),x4,x5]=some (.nx [c0,c1,lsC n9,some (.int i,false),l9,ae])
 |[],cs,x4,x5,_,hc,hi=>⟨cs,x4,x5,hc,ip _,rfl⟩
 |t::ts,cs,x4,x5,ht,hc,hi=>by
  obtain⟨eh,y5,h1,l1,e1⟩:=ME hn (ht t iW) hc hi c0 c1 x5;obtain⟨n9,l9,ae,h2,l2,e2⟩:=Ng hn i c0 c1 ts eh (some (enc t)) y5 (fun u hu=>ht u (jd _ hu)) h1 (by lia);refine⟨n9,l9,ae,h2,by lia,?_⟩;rw[iJ];unfold kU;rw[show gG 4 (cD t) [c0,c1,lsC cs,some (.int i,false),x4,x5]=some [c0,c1,lsC cs,some (.int i,false),some (enc t),x5] from rfl];simp only[iA];rw[e1];simp only[iA];exact e2
abbrev ftW:FT:=(fT (gB (jM .Lt) (gq 3) (gp (gO (g1 mO) [(gq 2)]))))
abbrev fbW:FS:=(gE (oX (iU (ig 1)) (gG 4) Pa) (gE (ir 3 (gB iB (gq 3) (gp (fC (.int 1))))) gR))
theorem Nr{n:Nat}(hn:n<=5)(c0:Sl)(ts:jv)(cJ: ∀t∈ts,TOk n t): ∀(m fuel i:Nat) (o:Bool) (cs:jv) (x4 x5:Sl),i+m=243->m<fuel->CsOk n cs-> ∃n9 o' i' l9 ae,CsOk n n9/\cs.length<=n9.length/\nM ftW fbW fuel [c0,some (.lst (ts.map cD),o),lsC cs,some (.int i,false),x4,x5]=some (.nx [c0,some (.lst (ts.map cD),o'),lsC n9,some (.int i',false),l9,ae]):=by
 intro m
 induction m with
 |zero=>
  intro fuel i o cs x4 x5 him hf hc;have hl:=hc.len hn;obtain⟨f,rfl⟩: ∃f,fuel=f+1:=⟨fuel-1,by lia⟩
  refine⟨cs,o,i,x4,x5,hc,ip _,?_⟩;have h: ¬((i:Int)<cs.length):=by lia
  have t1:ftW [c0,some (.lst (ts.map cD),o),lsC cs,some (.int i,false),x4,x5]=some (false,[c0,some (.lst (ts.map cD),o),lsC cs,some (.int i,false),x4,x5]):=
   ke (o:=false) (gY (o1:= .slot 3) (o2:= .val (.int cs.length,false)) rfl (gH (iQ (os:=[.slot 2]) rfl rfl (by simp))) rfl rfl (by rw[LC,ji h]))
  unfold nM;rw[t1];rfl
 |succ m ih=>
  intro fuel i o cs x4 x5 him hf hc;obtain⟨f,rfl⟩: ∃f,fuel=f+1:=⟨fuel-1,by lia⟩
  have t1:ftW [c0,some (.lst (ts.map cD),o),lsC cs,some (.int i,false),x4,x5]=some (decide ((i:Int)<cs.length),[c0,some (.lst (ts.map cD),o),lsC cs,some (.int i,false),x4,x5]):=
   ke (o:=false) (gY (o1:= .slot 3) (o2:= .val (.int cs.length,false)) rfl (gH (iQ (os:=[.slot 2]) rfl rfl (by simp))) rfl rfl (by rw[LC]))
  by_cases h:((i:Int)<cs.length)
  ·rw[lN h] at t1;obtain⟨eh,y4,y5,h1,l1,e1⟩:=Ng hn i c0 (some (.lst (ts.map cD),false)) ts cs x4 x5 cJ hc (by lia);obtain⟨n9,o',i',l9,ae,h2,l2,e2⟩:=ih f (i+1) false eh y4 y5 (by lia) (by lia) h1;refine⟨n9,o',i',l9,ae,h2,by lia,?_⟩;unfold nM;rw[t1];simp only[iA,iH]
   have b1:fbW [c0,some (.lst (ts.map cD),o),lsC cs,some (.int i,false),x4,x5]=some (.nx [c0,some (.lst (ts.map cD),false),lsC eh,some (.int (i+1:Nat),false),y4,y5]):=by
    refine(gz ((lP (ds:=ts.map cD) (δ1:=[c0,some (.lst (ts.map cD),false),lsC cs,some (.int i,false),x4,x5]) rfl).trans e1)).trans ?_;refine(gz (iN (i:=3) (δ1:=[c0,some (.lst (ts.map cD),false),lsC eh,some (.int i,false),y4,y5]) (gY (o1:= .slot 3) (o2:= .val (.int 1,false)) rfl rfl rfl rfl rfl) (show 3<6 by decide))).trans ?_;simp[gR]
   rw[b1];simp only[iA];exact e2
  ·rw[ji h] at t1;refine⟨cs,o,i,x4,x5,hc,ip _,?_⟩;unfold nM;rw[t1];rfl
theorem HF{n:Nat}(hn:n<=5){ts cs:jv}(cJ: ∀t∈ts,TOk n t)(hc:CsOk n cs)(o:Bool): ∃n9 sl,CsOk n n9/\cs.length<=n9.length/\mD [(.lst (cs.map cD),false),(.lst (ts.map cD),o)]=some ((.lst (n9.map cD),true),[some (.lst (cs.map cD),false),sl]):=by
 obtain⟨n9,o',i',l9,ae,h2,l2,e⟩:=Nr hn (some (.lst (cs.map cD),false)) ts cJ 243 Rb 0 o cs none none (by lia) (by decide) hc;refine⟨n9,if o=true then some (.lst (ts.map cD),o') else some (.lst (ts.map cD),o),h2,l2,?_⟩;refine(iV (r:=(.lst (n9.map cD),true)) (δ:=[some (.lst (cs.map cD),false),some (.lst (ts.map cD),o'),none,some (.int i',false),l9,ae]) ⟨rfl,(show 2<=6 by decide),by cases o<;>rfl⟩ ?_).trans ?_
 ·refine(gz (δ1:=[some (.lst (cs.map cD),false),some (.lst (ts.map cD),o),lsC cs,none,none,none]) rfl).trans ?_;refine(gz (δ1:=[some (.lst (cs.map cD),false),some (.lst (ts.map cD),o),lsC cs,some (.int 0,false),none,none]) rfl).trans ?_;exact(gz e).trans (gQ rfl)
 ·cases o<;>rfl
def zj(vs:jv)(c:hU):List (List Int):=if c∈vs then vs else vs++[c]
def dd(cs:jv):List (List Int):=cs.foldl zj []
theorem MQ(vs:jv)(c:hU):qR (vs.map cD) (cD c)=(zj vs c).map cD:=by
 unfold qR zj;rw[show(vs.map cD).any (D.eqb · (cD c))=decide (c∈vs) from FJ c vs];by_cases h:c∈vs<;>simp[h]
theorem Dh: ∀(cs vs:jv),(cs.map cD).foldl qR (vs.map cD)=(cs.foldl zj vs).map cD
 |[],vs=>rfl
 |c::cs,vs=>by rw[iJ,sG,sG,MQ,Dh cs]
theorem Lb{vs:jv}{c x:hU}:x∈zj vs c↔x∈vs\/x=c:=by
 unfold zj;by_cases h:c∈vs
 ·rw[gD h];constructor
  ·exact .inl
  ·rintro(h1|rfl)
   ·exact h1
   ·exact h
 ·rw[gF h];simp
theorem zZ: ∀(cs vs:jv) (x:hU),x∈cs.foldl zj vs↔x∈vs\/x∈cs
 |[],vs,x=>by simp
 |c::cs,vs,x=>by rw[sG,zZ cs,Lb,jj,or_assoc]
theorem MR{vs:jv}{c:hU}(h:vs.Nodup):(zj vs c).Nodup:=by
 unfold zj;split
 ·exact h
 ·rename_i hm;rw[DG];exact⟨h,by simp,fun x hx y hy e=>by simp at hy;subst hy;subst e;exact hm hx⟩
theorem Dc: ∀(cs vs:jv),vs.Nodup->(cs.foldl zj vs).Nodup
 |[],vs,h=>h
 |c::cs,vs,h=>by rw[sG];exact Dc cs _ (MR h)
theorem lQ: ∀l:List Int,D.prL (l.map .int)=true
 |[]=>by simp[D.prL]
 |x::l=>by simp[D.prL,D.pr,lQ l]
theorem OL(c:hU):okS (cD c)=true:=by simp[okS,lQ,uL]
theorem J6(cs:jv):(cs.map cD).all okS=true:=by
 rw[lU];intro d hd;obtain⟨c,_,rfl⟩:=nQ.mp hd;exact OL c
theorem vQ(op:CmpOp): ∀a b:List Int,(lF op (a.map .int) (b.map .int)).isSome=true
 |[],b=>by simp[lF]
 |x::a,[]=>by simp[lF]
 |x::a,y::b=>by
  simp only[iJ,lF];split
  ·exact vQ op a b
  ·simp[kX]
theorem zv(cs:jv)(h: ∀c∈cs,c≠[]):mM (cs.map cD)=true:=by
 have hk: ∀c:List Int,c≠[]->kd (cD c)=some 1:=fun c hc=>by
  cases c with
  |nil=>exact absurd rfl hc
  |cons=>rfl
 unfold mM
 cases cs with
 |nil=>rfl
 |cons c cs=>
  rw[vb];right;simp only[iJ];rw[jr,jr,hk c (h c iW)];refine⟨⟨rfl,?_⟩,?_⟩
  ·rw[lU];intro d hd;rw[<-iJ (f:=cD)] at hd;obtain⟨x,hx,rfl⟩:=nQ.mp hd;rw[hk x (h x hx),qO];simp[D.pr,lQ]
  ·rw[lU];intro d hd;rw[lU];intro e he;rw[<-iJ (f:=cD)] at hd he;obtain⟨x,hx,rfl⟩:=nQ.mp hd;obtain⟨y,hy,rfl⟩:=nQ.mp he;simp only[kX];exact vQ _ _ _
def unC:D->List Int
 | .tup l=>l.map iOf
 |_=>[]
theorem vE(c:hU):unC (cD c)=c:=by
 simp only[unC,kY];rw[qe (g:=id),sx];intro x _;rfl
theorem yu{cs:jv}{m:List D}(h:m.Perm (cs.map cD)): ∃ks:List (List Int),m=ks.map cD/\ks.Perm cs:=by
 refine⟨m.map unC,?_,?_⟩
 ·rw[kY]
  symm
  rw[qe (g:=id),sx];intro d hd;obtain⟨c,_,rfl⟩:=nQ.mp (h.mem_iff.mp hd);simp only[Function.comp,vE];rfl
 ·have:=h.map unC;rw[kY] at this;rw[show List.map (unC∘cD) cs=List.map id cs from qe (fun c _=>vE c),sx] at this;exact this
def SrtC(ks:jv):Prop:=ks.Pairwise fun a b=>ltT (cD b) (cD a)=false
theorem PY{n:Nat}{cs:jv}(hc: ∀c∈cs,ClOk n c)(hl:cs.length<500): ∃vs ks:List (List Int),CsOk n ks/\SrtC ks/\(∀c,c∈ks↔c∈cs)/\ks.length<=cs.length/\Fj (.lst (cs.map cD))=some (.oth .set [] (vs.map cD),true)/\jQ (.oth .set [] (vs.map cD))=some (.lst (ks.map cD),true):=by
 have hm: ∀c,c∈dd cs↔c∈cs:=fun c=>by unfold dd;rw[zZ];simp
 have hnd:(dd cs).Nodup:=Dc cs [] (by simp);obtain⟨ks,e,hp⟩:=yu (jt ltT ((dd cs).map cD));have hlen:(dd cs).length<=cs.length:=vL _ _ hnd fun c h=>(hm c).mp h;refine⟨dd cs,ks,⟨hp.symm.nodup hnd,fun c h=>hc c ((hm c).mp (hp.mem_iff.mp h))⟩,?_,fun c=>hp.mem_iff.trans (hm c),by rw[hp.length_eq];exact hlen,?_,?_⟩
 ·have:=oU ((dd cs).map cD);rw[e,List.pairwise_map] at this;exact this
 ·show(if(cs.map cD).all okS=true/\(cs.map cD).length<500 then some (D.oth .set [] (pP (cs.map cD)),true) else none)=_;rw[gD ⟨J6 cs,by simpa using hl⟩];unfold pP;rw[show([]:List D)=([]:List (List Int)).map cD from rfl,Dh];rfl
 ·show(if((dd cs).map cD).all okS=true then jG ((dd cs).map cD) else none)=_;rw[gD (J6 _)];unfold jG;rw[gD ⟨zv _ fun c h=>(hc c ((hm c).mp h)).1,by rw[ic];simp;lia⟩,e]
theorem zG: ∀(k:Nat) (r f t:hU),t∈nG k r f-> ∀x∈t,x∈f\/ ∃y∈r,x=y*1\/x=y* -1
 |0,r,f,t,h,x,hx=>by simp[nG] at h;subst h;exact .inl hx
 |k+1,r,f,t,h,x,hx=>by
  simp only[nG,List.mem_flatMap,lK,uX] at h;obtain⟨v,hv,h⟩:=h
  have key: ∀s:Int,(s=1\/s= -1)->t∈nG k (r.eraseIdx v) (f++[r.getD v 0*s])->x∈f\/ ∃y∈r,x=y*1\/x=y* -1:=by
   intro s hs h;rcases zG k _ _ t h x hx with h1|⟨y,hy,h1⟩
   ·rcases lK.mp h1 with h1|h1
    ·exact .inl h1
    ·simp at h1;refine .inr ⟨r.getD v 0,vN hv,?_⟩;rw[Au];rcases hs with rfl|rfl<;>simp[h1]
   ·exact .inr ⟨y,List.mem_of_mem_eraseIdx hy,h1⟩
  rcases h with h|h
  ·exact key 1 (.inl rfl) h
  ·exact key (-1) (.inr rfl) h
theorem IW{n:Nat}{t:hU}(h:t∈nG n (st n) []):TOk n t:=by
 refine⟨IV h,fun x hx=>?_⟩;rcases zG n _ _ t h x hx with h1|⟨y,hy,h1⟩
 ·simp at h1
 ·have:=NA.mp hy;unfold ab;rcases h1 with rfl|rfl<;>split<;>lia
theorem TOk.abs{n:Nat}{t:hU}(h:TOk n t):TOk n (t.map ab):=by
 refine⟨by simpa using h.1,fun x hx=>?_⟩;obtain⟨y,hy,rfl⟩:=nQ.mp hx;have:=h.2 y hy;rw[FN (i:=ab y) (by lia)];exact this
theorem Dv(ev:EvF)(P:List Int->Prop)(b:Bool)(n:Int)(h: ∀a,∃a' c,P c/\ev [(.lst [.int a,.bl b],true),(.int n,false)]=some (enc c,[stt a' b,some (.int n,false)])): ∀(ds:List D) (acc:jv) (a:Int) (x:Sl),(∀c∈acc,P c)->acc.length+ds.length<=1000->
  ∃(a':Int) (i3:jv) (x':Sl),(∀c∈i3,P c)/\i3.length=acc.length+ds.length/\mJ (gG 2) jx (jq (gJ ev [gq 0,gq 1])) ds (acc.map cD) [stt a b,some (.int n,false),x]=some (i3.map cD,[stt a' b,some (.int n,false),x'])
 |[],acc,a,x,hp,_=>⟨a,acc,x,hp,by simp,rfl⟩
 |d::ds,acc,a,x,hp,hl=>by
  obtain⟨a1,z,hz,e1⟩:=h a
  obtain⟨a',i3,x',h',dS,e⟩:=Dv ev P b n h ds (acc++[z]) a1 (some (d,false)) (fun y hy=>by
   rcases lK.mp hy with hy|hy
   ·exact hp y hy
   ·simp at hy;subst hy;exact hz) (by simp at hl ⊢;lia)
  refine⟨a',i3,x',h',by simp at dS ⊢;lia,?_⟩;have hs:(acc.map cD).length<sizeLine:=by rw[ic];simp at hl ⊢;lia
  have e2:gJ ev [gq 0,gq 1] [stt a b,some (.int n,false),some (d,false)]=some (enc z,[stt a1 b,some (.int n,false),some (d,false)]):=
   hZ (δ1:=[stt a b,some (.int n,false),some (d,false)]) (os:=[.slot 0,.slot 1]) (args:=[(.lst [.int a,.bl b],true),(.int n,false)]) rfl rfl (show([0]:List Nat).Nodup by decide) e1
  rw[mJ,show gG 2 d [stt a b,some (.int n,false),x]=some [stt a b,some (.int n,false),some (d,false)] from rfl];simp only[iA,Bo,iH,wJ];rw[e2];simp only[iA];rw[gD hs];rw[pT] at e;exact e
theorem yv(ev:EvF)(P:List Int->Prop)(b:Bool)(n:Int)(h: ∀a,∃a' c,P c/\ev [(.lst [.int a,.bl b],true),(.int n,false)]=some (enc c,[stt a' b,some (.int n,false)]))(ds:List D)(hd:ds.length<=1000)(a:Int)(c1 c2:Sl)(ie:Dn)(fi:FIt)(hfi:fi (stt a b::c1::c2::some (.int n,false)::ie)=some (ds,stt a b::c1::c2::some (.int n,false)::ie)):
  ∃(a':Int) (cs:jv),(∀c∈cs,P c)/\cs.length=ds.length/\iY [0,3] 1 fi (gG 2) jx (jq (gJ ev [gq 0,gq 1])) (stt a b::c1::c2::some (.int n,false)::ie)=some ((.lst (cs.map cD),true),stt a' b::c1::c2::some (.int n,false)::ie):=by
 obtain⟨a',cs,x',h1,h2,e⟩:=Dv ev P b n h ds [] a none (by simp) (by simpa using hd);refine⟨a',cs,h1,by simpa using h2,?_⟩;unfold iY;rw[hfi];simp only[iA,iJ,oP];rw[show ku (stt a b::c1::c2::some (.int n,false)::ie) [.slot 0,.slot 3]=some [(.lst [.int a,.bl b],true),(.int n,false)] from rfl];simp only[iA];rw[gD (show(hW [Opd.slot 0,Opd.slot 3] [(D.lst [.int a,.bl b],true),(.int n,false)]).Nodup from(show([0]:List Nat).Nodup by decide))];rw[show(List.map some [(D.lst [.int a,.bl b],true),(D.int n,false)]++List.replicate 1 none:Dn)=[stt a b,some (.int n,false),none] from rfl];rw[show([]:List D)=([]:List (List Int)).map cD from rfl,e];rfl
theorem KP(ks:jv)(v:Nat): ∃m,m<=v/\PX.lh (ks.map cD) none (some (v:Int))=(ks.take m).map cD:=by
 refine⟨min v ks.length,by lia,?_⟩;unfold PX.lh;rw[HT.NI,HT.Pt,vc,jw,wY,Nat.sub_zero]
theorem SrtC.take{ks:jv}(h:SrtC ks)(m:Nat):SrtC (ks.take m):=List.Pairwise.sublist (mW m ks) h
theorem CsOk.take{n:Nat}{ks:jv}(h:CsOk n ks)(m:Nat):CsOk n (ks.take m):=⟨List.Nodup.sublist (mW m ks) h.1,fun c hc=>h.2 c (lV hc)⟩
theorem Lc(t:hU)(ht:t.length<=100):gO (g1 kL) [(gp (iY [] 1 (iU (ig 0)) (gG 0) jx (jq (gO (g1 nR) [(gq 0)]))))] [some (cD t,false)]=some ((cD (t.map ab),false),[some (cD t,false)]):=by
 obtain⟨x',e⟩:=qQ (gO (g1 nR) [gq 0]) (fun d=> .int (ab (iOf d))) [] (t.map .int) [] none (by
  intro d hd;obtain⟨i,_,rfl⟩:=nQ.mp hd;exact⟨false,rfl⟩) (by rw[ic];simp;lia)
 simp only[sv,nU,jO,nD,kY] at e;refine iQ (os:=[.val (.lst ((t.map ab).map .int),true)]) (mR (gH ?_)) rfl rfl;unfold iY;rw[show iU (ig 0) [some (cD t,false)]=some (t.map .int,[some (cD t,false)]) from rfl];simp only[iA,oP,rm,hW,km,iH,nU,List.replicate_succ,List.replicate_zero];rw[e,kY];rfl
theorem KR{f:F}{fi:FIt}{δ δ1:Dn}{ds rs:List D}{x':Sl}(h1:fi δ=some (ds,δ1))(h2:mJ (gG 0) jx (jq f) ds [] [none]=some (rs,[x'])):iY [] 1 fi (gG 0) jx (jq f) δ=some ((.lst rs,true),δ1):=by
 unfold iY;rw[h1];simp only[iA,oP,rm,hW,km,iH,nU,List.replicate_succ,List.replicate_zero];rw[h2];rfl
theorem HK(ts:jv)(hl:ts.length<=1000)(ht: ∀t∈ts,t.length<=100)(c0 c1 c2 c3 c4 c5 c6:Sl)(o:Bool):iY [] 1 (iU (ig 7)) (gG 0) jx (jq (gO (g1 kL) [(gp (iY [] 1 (iU (ig 0)) (gG 0) jx (jq (gO (g1 nR) [(gq 0)]))))])) [c0,c1,c2,c3,c4,c5,c6,some (.lst (ts.map cD),o)]=some ((.lst ((ts.map (List.map ab)).map cD),true),[c0,c1,c2,c3,c4,c5,c6,some (.lst (ts.map cD),false)]):=by
 obtain⟨x',e⟩:=qQ (gO (g1 kL) [(gp (iY [] 1 (iU (ig 0)) (gG 0) jx (jq (gO (g1 nR) [(gq 0)]))))]) (fun d=>cD ((unC d).map ab)) [] (ts.map cD) [] none (by
  intro d hd;obtain⟨t,h,rfl⟩:=nQ.mp hd;refine⟨false,?_⟩;rw[vE];exact Lc t (ht t h)) (by rw[ic];simp;lia)
 simp only[sv,nU,jO,nD,kY] at e;have:(ts.map ((fun d=>cD ((unC d).map ab))∘cD))=ts.map (cD∘List.map ab):=qe fun t _=>by simp only[Function.comp,vE]
 rw[this] at e;rw[kY];exact KR rfl e
def FP(n:Nat)(ks:jv):Prop:=n<=5/\CsOk n ks/\SrtC ks/\ks.length<=30
abbrev rD'(n:Nat)(ks:jv):D:= .tup [.int n,.tup (ks.map cD)]
abbrev lv(L:List D):Sl:=some (.lst L,true)
abbrev ii(n:Int):Sl:=some (.int n,false)
theorem Fo{ev:EvF}{fs eX:List FO}{δ δ':Dn}(h:je fs δ=je eX δ'):gJ ev fs δ=gJ ev eX δ':=by unfold gJ;rw[h]
theorem G9(a:Int)(b:Bool)(lo hi:Nat)(h1:lo<=hi)(h5:hi<=5): ∃a' n ks,FP n ks/\lo<=n/\n<=hi/\mC [(.lst [.int a,.bl b],true),(.int lo,false),(.int hi,false)]=some ((rD' n ks,false),[stt a' b,ii lo,ii hi]):=by
 obtain⟨v,a1,v0,v1,e1⟩:=jJ a b ((hi:Int)-lo+1) (by lia) (by lia);obtain⟨w,a2,w0,w1,e2⟩:=jJ a1 b 4 (by lia) (by lia);obtain⟨n,hn⟩: ∃n:Nat,(lo:Int)+v=n:=⟨(lo+v).toNat,by lia⟩
 have pre: ∀g,gE (ir 3 (gB iB (gq 1) (gp (gJ gC [(gq 0),(gp (gB iB (gp (gB gSub (gq 2) (gq 1))) (gp (fC (.int 1)))))])))) (gE (ir 4 (gJ gC [(gq 0),(gp (fC (.int 4)))])) g) [stt a b,ii lo,ii hi,none,none,none,none,none]=g [stt a2 b,ii lo,ii hi,ii n,ii w,none,none,none]:=by
  intro g;refine(gz (δ1:=[stt a1 b,ii lo,ii hi,ii n,none,none,none,none]) ?_).trans ?_
  ·refine iN (i:=3) (δ1:=[stt a1 b,ii lo,ii hi,none,none,none,none,none]) (gY (o1:= .slot 1) (o2:= .val (.int v,false)) rfl (gH (e1 _ _ _ rfl rfl)) rfl rfl ?_) (show 3<8 by decide);rw[P7,hn]
  ·exact gz (iN (i:=4) (δ1:=[stt a2 b,ii lo,ii hi,ii n,none,none,none,none]) (e2 _ [ii lo,ii hi,ii n,none,none,none,none] _ rfl rfl) (show 4<8 by decide))
 by_cases hz:n=0
 ·subst hz;refine⟨a2,0,[],⟨by lia,⟨by simp,by simp⟩,List.Pairwise.nil,by simp⟩,by lia,by lia,?_⟩;refine iV (δ:=[stt a2 b,ii lo,ii hi,ii (0:Nat),ii w,none,none,none]) ⟨rfl,by decide,rfl⟩ ((pre _).trans ?_);refine gQ ((kB (δ1:=[stt a2 b,ii lo,ii hi,ii (0:Nat),ii w,none,none,none]) (by simp)).trans (gQ (il ?_)));simp[ic]
 ·have n1:1<=n:=by lia
  have n5:n<=5:=by lia
  obtain⟨u,a3,u0,u1,e3⟩:=jJ a2 b 3 (by lia) (by lia)
  let mL:List Int:=[4,8,13]
  let m:=mL.getD u.toNat 0
  have hm:0<m/\m<=13:=by
   rcases(show u=0\/u=1\/u=2 by lia) with rfl|rfl|rfl<;>decide
  obtain⟨c,a4,q0,q1,e4⟩:=jJ a3 b m hm.1 (by lia);obtain⟨cn,rfl⟩: ∃cn:Nat,c=cn:=⟨c.toNat,by lia⟩
  have i1:wy (gq 5) [stt a4 b,ii lo,ii hi,ii n,ii w,ii cn,none,none]=some (iD 0 cn,[stt a4 b,ii lo,ii hi,ii n,ii w,ii cn,none,none]):=wR (o:= .slot 5) rfl rfl (by lia);obtain⟨a5,cs,aT,p8,e5⟩:=yv lx (ClOk n) b n (fun a=>Ag a b n n1 n5) (iD 0 cn) (by simp[iD];lia) a4 (ii lo) (ii hi) [ii w,ii cn,none,none] (wy (gq 5)) i1;have l6:cs.length<13:=by simp[iD] at p8;lia
  have mid: ∃(a6:Int) (cx:jv) (sl:Sl),(∀c∈cx,ClOk n c)/\cx.length<500/\(sIf (fT (gB (jM .Gt) (gq 4) (gp (fC (.int 0))))) (gE (ir 7 (iY [0,3] 1 (wy (gp (gB iB (gp (fC (.int 1))) (gp (gB uH (gq 4) (gp (fC (.int 2)))))))) (gG 2) jx (jq (gJ kM [(gq 0),(gq 1)])))) (gE (sIf (fT (gB gEq (gq 4) (gp (fC (.int 3))))) (gE (ir 7 (iY [] 1 (iU (ig 7)) (gG 0) jx (jq (gO (g1 kL) [(gp (iY [] 1 (iU (ig 0)) (gG 0) jx (jq (gO (g1 nR) [(gq 0)]))))])))) gR) gR) (gE (ir 6 (gJ mD [(gp (kf (gp (gO (g1 jQ) [(gp (gO (g1 Fj) [(gq 6)]))])) (gp (fC (.int 2))))),(gq 7)])) gR))) gR) [stt a5 b,ii lo,ii hi,ii n,ii w,ii cn,lv (cs.map cD),none]=some (.nx [stt a6 b,ii lo,ii hi,ii n,ii w,ii cn,lv (cx.map cD),sl]):=by
   by_cases hw:0<w
   ·obtain⟨k,hk,fO⟩: ∃k:Nat,(1:Int)+w%2=k/\k<=2:=⟨(1+w%2).toNat,by lia,by lia⟩
    have i2:wy (gp (gB iB (gp (fC (.int 1))) (gp (gB uH (gq 4) (gp (fC (.int 2))))))) [stt a5 b,ii lo,ii hi,ii n,ii w,ii cn,lv (cs.map cD),none]=some (iD 0 k,[stt a5 b,ii lo,ii hi,ii n,ii w,ii cn,lv (cs.map cD),none]):=by
     refine wR (o:= .val (.int k,false)) (gH ?_) rfl (by lia);rw[<-hk];simp[uH,gI]
    obtain⟨a6,ts,cJ,dN,e6⟩:=yv kM (TOk n) b n (fun a=>by
     obtain⟨a',t,ht,e⟩:=Ep a b n n5;exact⟨a',t,IW ht,e⟩) (iD 0 k) (by simp[iD];lia) a5 (ii lo) (ii hi) [ii w,ii cn,lv (cs.map cD),none] _ i2
    have htl2:ts.length<=1000:=by simp[iD] at dN;lia
    have th: ∃bC:List (List Int),(∀t∈bC,TOk n t)/\ ∀g,gE (sIf (fT (gB gEq (gq 4) (gp (fC (.int 3))))) (gE (ir 7 (iY [] 1 (iU (ig 7)) (gG 0) jx (jq (gO (g1 kL) [(gp (iY [] 1 (iU (ig 0)) (gG 0) jx (jq (gO (g1 nR) [(gq 0)]))))])))) gR) gR) g [stt a6 b,ii lo,ii hi,ii n,ii w,ii cn,lv (cs.map cD),lv (ts.map cD)]=g [stt a6 b,ii lo,ii hi,ii n,ii w,ii cn,lv (cs.map cD),lv (bC.map cD)]:=by
     by_cases h3:w=3
     ·refine⟨ts.map (List.map ab),fun t ht=>?_,fun g=>?_⟩
      ·obtain⟨t',ht',rfl⟩:=nQ.mp ht;exact(cJ t' ht').abs
      ·refine gz ((kB (δ1:=[stt a6 b,ii lo,ii hi,ii n,ii w,ii cn,lv (cs.map cD),lv (ts.map cD)]) (ke (o:=false) (gY (o1:= .slot 4) (o2:= .val (.int 3,false)) rfl rfl rfl rfl (by rw[Ju,h3];rfl)))).trans ((gz (iN (i:=7) (δ1:=[stt a6 b,ii lo,ii hi,ii n,ii w,ii cn,lv (cs.map cD),some (.lst (ts.map cD),false)]) (HK ts htl2 (fun t ht=>by have:=(cJ t ht).1;lia) _ _ _ _ _ _ _ true) (show 7<8 by decide))).trans rfl))
     ·refine⟨ts,cJ,fun g=>gz ((js (δ1:=[stt a6 b,ii lo,ii hi,ii n,ii w,ii cn,lv (cs.map cD),lv (ts.map cD)]) (ke (o:=false) (gY (o1:= .slot 4) (o2:= .val (.int 3,false)) rfl rfl rfl rfl (by rw[Ju,wW,ji h3])))).trans rfl)⟩
    obtain⟨bC,hts2,th⟩:=th;obtain⟨vs,ks,ay,dU,hkm,eR,ar,q9⟩:=PY aT (by lia);obtain⟨mm,hmm,ct⟩:=KP ks 2;obtain⟨cx,sl,aM,_,e7⟩:=HF n5 hts2 (ay.take mm) true;refine⟨a6,cx,sl,aM.2,by have:=aM.len n5;lia,?_⟩;refine(kB (δ1:=[stt a5 b,ii lo,ii hi,ii n,ii w,ii cn,lv (cs.map cD),none]) (ke (o:=false) (gY (o1:= .slot 4) (o2:= .val (.int 0,false)) rfl rfl rfl rfl (by rw[Jt,lN (show w>0 from hw)])))).trans ?_;refine(gz (iN (i:=7) e6 (show 7<8 by decide))).trans ((th _).trans ((gz (iN (i:=6) (δ1:=[stt a6 b,ii lo,ii hi,ii n,ii w,ii cn,lv (cs.map cD),sl]) (hZ (δ1:=[stt a6 b,ii lo,ii hi,ii n,ii w,ii cn,lv (cs.map cD),lv (bC.map cD)]) (os:=[.val (.lst ((ks.take mm).map cD),true),.slot 7]) (args:=[(.lst ((ks.take mm).map cD),false),(.lst (bC.map cD),true)]) (pM (δ1:=[stt a6 b,ii lo,ii hi,ii n,ii w,ii cn,lv (cs.map cD),lv (bC.map cD)]) (gH ?_) rfl) rfl (show([7]:List Nat).Nodup by decide) e7) (show 6<8 by decide))).trans rfl))
    have f1:gO (g1 jQ) [(gp (gO (g1 Fj) [(gq 6)]))] [stt a6 b,ii lo,ii hi,ii n,ii w,ii cn,lv (cs.map cD),lv (bC.map cD)]=some ((.lst (ks.map cD),true),[stt a6 b,ii lo,ii hi,ii n,ii w,ii cn,lv (cs.map cD),lv (bC.map cD)]):=
     iQ (os:=[.val (.oth .set [] (vs.map cD),true)]) (mR (gH (iQ (os:=[.slot 6]) rfl rfl ar))) rfl q9
    unfold kf;rw[gH f1];simp only[iA];rw[show gp (fC (.int 2)) [stt a6 b,ii lo,ii hi,ii n,ii w,ii cn,lv (cs.map cD),lv (bC.map cD)]=some (.val (.int 2,false),[stt a6 b,ii lo,ii hi,ii n,ii w,ii cn,lv (cs.map cD),lv (bC.map cD)]) from rfl];simp only[iA,EF];rw[show gSl none (some 2) (.lst (ks.map cD))=some (.lst (PX.lh (ks.map cD) none (some 2)),true) from rfl];simp only[iA];rw[show PX.lh (ks.map cD) none (some 2)=(ks.take mm).map cD from ct]
   ·refine⟨a5,cs,none,aT,by lia,?_⟩;exact(js (δ1:=[stt a5 b,ii lo,ii hi,ii n,ii w,ii cn,lv (cs.map cD),none]) (ke (o:=false) (gY (o1:= .slot 4) (o2:= .val (.int 0,false)) rfl rfl rfl rfl (by rw[Jt,ji (show ¬w>0 from hw)])))).trans rfl
  obtain⟨a6,cx,sl,aM,ax,mid⟩:=mid;obtain⟨vs,ks,ay,dU,hkm,eR,ar,q9⟩:=PY aM ax
  have f1:gO (g1 jQ) [(gp (gO (g1 Fj) [(gq 6)]))] [stt a6 b,ii lo,ii hi,ii n,ii w,ii cn,lv (cx.map cD),sl]=some ((.lst (ks.map cD),true),[stt a6 b,ii lo,ii hi,ii n,ii w,ii cn,lv (cx.map cD),sl]):=
   iQ (os:=[.val (.oth .set [] (vs.map cD),true)]) (mR (gH (iQ (os:=[.slot 6]) rfl rfl ar))) rfl q9
  have last: ∃(a7:Int) (cG:jv),CsOk n cG/\SrtC cG/\cG.length<=30/\sIf (fT (gB (jM .Gt) (gp (gO (g1 mO) [(gq 6)])) (gp (fC (.int 30))))) (gE (ir 6 (kf (gq 6) (gp (gJ gC [(gq 0),(gp (fC (.int 30)))])))) gR) gR [stt a6 b,ii lo,ii hi,ii n,ii w,ii cn,lv (ks.map cD),sl]=some (.nx [stt a7 b,ii lo,ii hi,ii n,ii w,ii cn,lv (cG.map cD),sl]):=by
   have t1:(fT (gB (jM .Gt) (gp (gO (g1 mO) [(gq 6)])) (gp (fC (.int 30))))) [stt a6 b,ii lo,ii hi,ii n,ii w,ii cn,lv (ks.map cD),sl]=some (decide ((ks.length:Int)>30),[stt a6 b,ii lo,ii hi,ii n,ii w,ii cn,lv (ks.map cD),sl]):=
    ke (o:=false) (gY (o1:= .val (.int ks.length,false)) (o2:= .val (.int 30,false)) (gH (iQ (os:=[.slot 6]) rfl rfl (by simp))) rfl rfl rfl (Jt _ _))
   by_cases hb:(ks.length:Int)>30
   ·obtain⟨p,a7,p0,p1,e8⟩:=jJ a6 b 30 (by lia) (by lia);obtain⟨pn,rfl⟩: ∃pn:Nat,p=pn:=⟨p.toNat,by lia⟩
    obtain⟨mm,hmm,ct⟩:=KP ks pn;refine⟨a7,ks.take mm,ay.take mm,dU.take mm,by rw[nW];lia,?_⟩;rw[lN hb] at t1;refine(kB t1).trans ((gz (iN (i:=6) (δ1:=[stt a7 b,ii lo,ii hi,ii n,ii w,ii cn,lv (ks.map cD),sl]) (r:=(.lst ((ks.take mm).map cD),true)) ?_ (show 6<8 by decide))).trans rfl);unfold kf;rw[show gq 6 [stt a6 b,ii lo,ii hi,ii n,ii w,ii cn,lv (ks.map cD),sl]=some (.slot 6,[stt a6 b,ii lo,ii hi,ii n,ii w,ii cn,lv (ks.map cD),sl]) from rfl];simp only[iA];rw[gH (e8 _ [ii lo,ii hi,ii n,ii w,ii cn,lv (ks.map cD),sl] _ rfl rfl)];simp only[iA,EF];rw[show res (stt a7 b::[ii lo,ii hi,ii n,ii w,ii cn,lv (ks.map cD),sl]) (.slot 6)=some (.lst (ks.map cD)) from rfl];simp only[iA];rw[show gSl none (some (pn:Int)) (.lst (ks.map cD))=some (.lst (PX.lh (ks.map cD) none (some (pn:Int))),true) from rfl,ct];rfl
   ·rw[ji hb] at t1;exact⟨a6,ks,ay,dU,by lia,(js t1).trans rfl⟩
  obtain⟨a7,cG,k1,k2,k3,last⟩:=last;refine⟨a7,n,cG,⟨n5,k1,k2,k3⟩,by lia,by lia,?_⟩;refine iV (δ:=[stt a7 b,ii lo,ii hi,ii n,ii w,ii cn,lv (cG.map cD),sl]) ⟨rfl,by decide,rfl⟩ ((pre _).trans ?_);refine(gz ((js (δ1:=[stt a2 b,ii lo,ii hi,ii n,ii w,none,none,none]) (by simp[hz])).trans rfl)).trans ?_;refine(gz (δ1:=[stt a4 b,ii lo,ii hi,ii n,ii w,ii cn,none,none]) ?_).trans ?_
  ·refine iN (i:=5) (δ1:=[stt a4 b,ii lo,ii hi,ii n,ii w,none,none,none]) ?_ (show 5<8 by decide)
   have em:gp (gB gIx (gp (kj [(fC (.int 4)),(fC (.int 8)),(fC (.int 13))])) (gp (gJ gC [(gq 0),(gp (fC (.int 3)))]))) [stt a2 b,ii lo,ii hi,ii n,ii w,none,none,none]=some (.val (.int m,false),[stt a3 b,ii lo,ii hi,ii n,ii w,none,none,none]):=
    gH (gY (o1:= .val (.lst (mL.map .int),true)) (o2:= .val (.int u,false)) (gH (δ1:=[stt a2 b,ii lo,ii hi,ii n,ii w,none,none,none]) (by simp[mL,ic])) (gH (e3 _ [ii lo,ii hi,ii n,ii w,none,none,none] _ rfl rfl)) rfl rfl (QD u0 (by simpa[mL] using u1)))
   have e4':=e4 (fun _=>some (.val (.int m,false),[stt a3 b,ii lo,ii hi,ii n,ii w,none,none,none])) [ii lo,ii hi,ii n,ii w,none,none,none] (.val (.int m,false)) rfl rfl
   have hf:je [gq 0,gp (gB gIx (gp (kj [(fC (.int 4)),(fC (.int 8)),(fC (.int 13))])) (gp (gJ gC [(gq 0),(gp (fC (.int 3)))])))] [stt a2 b,ii lo,ii hi,ii n,ii w,none,none,none]=je [gq 0,fun _=>some (.val (.int m,false),[stt a3 b,ii lo,ii hi,ii n,ii w,none,none,none])] (stt a3 b::[ii lo,ii hi,ii n,ii w,none,none,none]):=by
    rw[pM (o1:= .slot 0) rfl em];rfl
   exact(Fo hf).trans e4'
  refine(gz (iN (i:=6) e5 (show 6<8 by decide))).trans ?_;refine(gz mid).trans ?_;refine(gz (iN (i:=6) f1 (show 6<8 by decide))).trans ?_;refine(gz last).trans (gQ (il ?_));simp[ig,ic]
def adj(lt:D->D->Bool):List D->Bool
 |x::y::l=>lt x y&&adj lt (y::l)
 |_=>true
theorem K0(lt:D->D->Bool): ∀(l acc:List D) (u v:Sl),(∀x∈l,∀y∈l,jM .Lt x y=some (.bl (lt x y),false))->acc.length+l.length<=10000-> ∃rs u' v',(oF rs=some (rs.map fun d=>match d with| .bl b=>b|_=>false))/\((rs.map fun d=>match d with| .bl b=>b|_=>false).all id=adj lt l)/\mJ (vX [(gG 0),(gG 1)]) jx (jq (gB (jM .Lt) (gq 0) (gq 1))) ((l.zip l.tail).map fun p=> .tup [p.1,p.2]) acc [u,v]=some (acc++rs,[u',v'])
 |[],acc,u,v,_,_=>⟨[],u,v,rfl,rfl,by simp[mJ]⟩
 |[x],acc,u,v,_,_=>⟨[],u,v,rfl,rfl,by simp[mJ]⟩
 |x::y::l,acc,u,v,h,hl=>by
  obtain⟨rs,u',v',h1,h2,e⟩:=K0 lt (y::l) (acc++[.bl (lt x y)]) (some (x,false)) (some (y,false)) (fun a ha b hb=>h a (jd _ ha) b (jd _ hb)) (by simp at hl ⊢;lia);refine⟨.bl (lt x y)::rs,u',v',?_,?_,?_⟩
  ·simp[oF,h1]
  ·simp only[iJ,vn,id,adj,h2]
  ·have hs:acc.length<sizeLine:=by rw[ic];simp at hl;lia
   have e2:gB (jM .Lt) (gq 0) (gq 1) [some (x,false),some (y,false)]=some ((.bl (lt x y),false),[some (x,false),some (y,false)]):=
    gY (o1:= .slot 0) (o2:= .slot 1) rfl rfl rfl rfl (h x (by simp) y (by simp))
   simp only[List.tail_cons,sD,iJ,mJ];rw[show vX [(gG 0),(gG 1)] (.tup [x,y]) [u,v]=some [some (x,false),some (y,false)] from rfl];simp only[iA,Bo,iH,wJ];rw[e2];simp only[iA];rw[gD hs];simp only[iA];rw[List.tail_cons] at e;rw[e];simp
theorem Q7(l:List D):PX.lh l (some 1) none=l.tail:=by
 unfold PX.lh;rw[show(some (1:Int))=some ((1:Nat):Int) from rfl,HT.Pt,HT.NI]
 cases l with
 |nil=>rfl
 |cons x l=>
  rw[show min 1 (x::l).length=1 from by simp];simp
theorem zB(lt:D->D->Bool)(l:List D)(d:D)(hd:d= .lst l\/d= .tup l)(h: ∀x∈l,∀y∈l,jM .Lt x y=some (.bl (lt x y),false))(hl:l.length<=1000):ny [(d,false)]=some ((.bl (adj lt l),false),[some (d,false)]):=by
 obtain⟨rs,u',v',h1,h2,e⟩:=K0 lt l [] none none h (by simp;lia)
 have hz:zT (ig 0) (kG (gq 0) (gp (fC (.int 1)))) [some (d,false)]=some ((l.zip l.tail).map fun p=> .tup [p.1,p.2],[some (d,false)]):=by
  rcases hd with rfl|rfl
  ·have:kG (gq 0) (gp (fC (.int 1))) [some (.lst l,false)]=some ((.lst l.tail,true),[some (.lst l,false)]):=by
    rw[<-Q7 l];rfl
   simp[zT,ig,this,xx]
  ·have:kG (gq 0) (gp (fC (.int 1))) [some (.tup l,false)]=some ((.tup l.tail,false),[some (.tup l,false)]):=by
    rw[<-Q7 l];rfl
   simp[zT,ig,this,xx]
 refine iV (δ:=[some (d,false)]) ⟨rfl,by decide,rfl⟩ (gQ (il (iQ (os:=[.val (.lst rs,true)]) (mR (gH ?_)) rfl ?_)))
 ·show iY [] 2 _ _ _ _ [some (d,false)]=_;unfold iY;rw[hz];simp only[iA,oP,rm,hW,km,iH,nU,List.replicate_succ,List.replicate_zero];rw[e];rfl
 ·show(oF rs).map _=_;rw[h1];simp only[Option.map_some];rw[h2]
def ltI:D->D->Bool
 | .int i,.int j=>decide (i<j)
 |_,_=>false
theorem K8: ∀l:List Int,adj ltI (l.map .int)=true↔l.Pairwise (· < ·)
 |[]=>by simp[adj]
 |[x]=>by simp[adj]
 |x::y::l=>by
  simp only[iJ,adj,jr];rw[<-iJ (f:=D.int),K8 (y::l)];simp only[ltI,mE];constructor
  ·rintro⟨h1,h2⟩;refine nX.mpr ⟨fun z hz=>?_,h2⟩;have h3:=(nX.mp h2).1;rcases jj.mp hz with rfl|hz
   ·exact h1
   ·have:=h3 z hz;lia
  ·intro h;have h:=nX.mp h;exact⟨h.1 y iW,h.2⟩
def aI(l:List D):List Int:=l.map fun d=>ab (iOf d)
def pC(n:Int):D->Bool
 | .tup l=>decide (1<=l.length/\l.length<=5)&&(l.all (sg n)&&decide ((aI l).Pairwise (· < ·)))
 |_=>false
def lC(n:Int):D->Bool
 | .tup l=>decide (l≠[])&&(l.all (sg n)&&decide ((aI l).Pairwise (· < ·)))
 |_=>false
theorem Qn(n:Nat)(hn:n<=5)(d:D):pC n d=lC n d:=by
 cases d with
 |tup l=>
  rw[pC,lC,As];simp only[jr,mE,lU];constructor
  ·rintro⟨h1,h2,h3⟩;exact⟨fun e=>by subst e;simp at h1,h2,h3⟩
  ·rintro⟨h1,h2,h3⟩
   have h4:=vL (aI l) (st n) (MZ h3) (fun x hx=>by
    obtain⟨d,hd,rfl⟩:=nQ.mp hx;have:=h2 d hd;rw[Bf this] at this;exact NA.mpr (by simpa[sg] using this))
   have h5:0<l.length:=List.length_pos_iff.mpr h1;simp only[aI,st,jw,List.length_range] at h4;exact⟨⟨h5,by lia⟩,h2,h3⟩
 |_=>rfl
theorem zc(n:Int)(d:D)(hd: ∀l,d= .tup l->l.length<=100):jA [(.int n,false),(d,false)]=some ((.bl (pC n d),false),[some (.int n,false),some (d,false)]):=by
 cases d with
 |tup l=>
  have hl:=hd l rfl;by_cases h1:1<=l.length/\l.length<=5
  ·have k1:(1:Int)<=l.length:=by lia
   have k2:(l.length:Int)<=5:=by lia
   have ar:(mH (jX (fT (jD (oJ [.tuple]) (gq 1)))) (jX (fT (lD .LtE .LtE (gp (fC (.int 1))) (gp (gO (g1 mO) [(gq 1)])) (gp (fC (.int 5))))))) [some (.int n,false),some (.tup l,false)]=some (false,[some (.int n,false),some (.tup l,false)]):=by
    simp[isT,lD,jc,k1,k2]
   obtain⟨x1,e1⟩:=qQ (gJ kO [gq 0,gq 1]) (fun d=> .bl (sg n d)) [some (.int n,false)] l [] none (fun d _=>⟨false,by simp[Ly,hW,wb]⟩) (by rw[ic];simp;lia);simp only[sv,nU,jO,nD,Nat.zero_add] at e1
   have c1:iY [0] 1 (iU (ig 1)) (gG 1) jx (jq (gJ kO [(gq 0),(gq 1)])) [some (.int n,false),some (.tup l,false)]=some ((.lst (l.map fun d=> .bl (sg n d)),true),[some (.int n,false),some (.tup l,false)]):=by
    simp[iY,ig,e1,hW,wb,hX]
   have c2:gO (g1 C8) [(gp (iY [0] 1 (iU (ig 1)) (gG 1) jx (jq (gJ kO [(gq 0),(gq 1)]))))] [some (.int n,false),some (.tup l,false)]=some ((.bl (l.all (sg n)),false),[some (.int n,false),some (.tup l,false)]):=
    iQ (mR (gH c1)) rfl (DF (sg n) l)
   by_cases h2:l.all (sg n)=true
   ·have hi: ∀d∈l,∃o,gO (g1 nR) [gq 0] ([]++[some (d,false)])=some ((.int (ab (iOf d)),o),([]++[some (d,false)]:Dn)):=fun d hd=>⟨false,by
     rw[lU] at h2;rw[Bf (h2 d hd)];rfl⟩
    obtain⟨x2,e2⟩:=qQ (gO (g1 nR) [gq 0]) (fun d=> .int (ab (iOf d))) [] l [] none hi (by rw[ic];simp;lia);simp only[sv,nU,jO,nD] at e2;have c3:=KR (fi:=iU (ig 1)) (δ:=[some (.int n,false),some (.tup l,false)]) (δ1:=[some (.int n,false),some (.tup l,false)]) (ds:=l) rfl e2;have em:(l.map fun d=>D.int (ab (iOf d)))=(aI l).map .int:=by rw[aI,kY];rfl
    rw[em] at c3
    have r:=zB ltI ((aI l).map .int) (.lst ((aI l).map .int)) (.inl rfl) (by
     intro x hx y hy;obtain⟨i,_,rfl⟩:=nQ.mp hx;obtain⟨j,_,rfl⟩:=nQ.mp hy;rw[LC];rfl) (by simp[aI];lia)
    have hB:pC n (.tup l)=adj ltI ((aI l).map .int):=by
     rw[pC,h2,lN h1,ph,ph,As,mE];exact(K8 _).symm
    rw[hB];rw[h2] at c2;refine iV (δ:=[some (.int n,false),some (.tup l,false)]) ⟨rfl,by decide,rfl⟩ ?_;refine(gz ((js ar).trans rfl)).trans ?_;refine(gz ((js (kg (ke c2))).trans rfl)).trans ?_;exact gQ (il (hZ (δ1:=[some (.int n,false),some (.tup l,false)]) (os:=[.val (.lst ((aI l).map .int),true)]) (args:=[(.lst ((aI l).map .int),false)]) (mR (gH c3)) rfl km r))
   ·have cv:l.all (sg n)=false:=by simpa using h2
    have hB:pC n (.tup l)=false:=by rw[pC,cv,sY,vq]
    rw[hB];rw[cv] at c2;refine iV (δ:=[some (.int n,false),some (.tup l,false)]) ⟨rfl,by decide,rfl⟩ ?_;refine(gz ((js ar).trans rfl)).trans ?_;exact gQ ((kB (kg (ke c2))).trans (gQ (il rfl)))
  ·have hB:pC n (.tup l)=false:=by rw[pC,ji h1,sY]
   rw[hB];by_cases k1:(1:Int)<=l.length
   ·have k2: ¬(l.length:Int)<=5:=by lia
    simp[jA,lT,evF,isT,lD,jc,k1,k2,hX]
   ·simp[jA,lT,evF,isT,lD,jc,k1,hX]
 |_=>simp[jA,lT,evF,isT,hX,pC]
def inB(lo hi:Int):D->Bool
 | .int s=>decide (lo<=s)&&decide (s<=hi)
 |_=>false
theorem M9(d:D)(lo hi:Int):jl [(d,false),(.int lo,false),(.int hi,false)]=some ((.bl (inB lo hi d),false),[some (d,false),some (.int lo,false),some (.int hi,false)]):=by
 cases d with
 |int s=>by_cases h:lo<=s<;>simp[jl,nk,evF,hX,isT,lD,jc,h,inB]
 |_=>simp[jl,nk,evF,hX,isT,inB]
abbrev fbI:FS:=(gE (sIf (mH (jX (fT (gJ jl [(gq 3),(gp (jD mf (gq 0))),(gq 0)]))) (fT (gB (jM .LtE) (gp (gO (g1 nR) [(gq 3)])) (gq 2)))) (gE (ju (fC (.bl false))) gR) gR) (gE (ir 2 (gO (g1 nR) [(gq 3)])) gR))
def goC(n:Int):Int->List D->Bool
 |_,[]=>true
 |last,d::l=>(sg n d&&decide (last<ab (iOf d)))&&goC n (ab (iOf d)) l
theorem Lz{n last s:Int}(h0:0<=last):((decide (-n<=s)&&decide (s<=n))&&decide (last<ab s))=(sg n (.int s)&&decide (last<ab s)):=by
 rw[As];simp only[sg,jr,mE];unfold ab;split<;>constructor<;>rintro⟨⟨h1,h2⟩,h3⟩<;>refine⟨⟨?_,?_⟩,?_⟩<;>lia
theorem QY(n:Int)(c1:Sl): ∀(l:List D) (last:Int) (x3:Sl),0<=last-> ∃aD au,kU (gG 3) fbI l [some (.int n,false),c1,some (.int last,false),x3]=if goC n last l=true then some (.nx [some (.int n,false),c1,aD,au]) else some (.rt (.bl false,false) [some (.int n,false),c1,aD,au])
 |[],last,x3,_=>⟨_,_,rfl⟩
 |d::l,last,x3,h0=>by
  have lwd:=M9 d (-n) n
  have a1:(fT (gJ jl [(gq 3),(gp (jD mf (gq 0))),(gq 0)])) [some (.int n,false),c1,some (.int last,false),some (d,false)]=some (inB (-n) n d,[some (.int n,false),c1,some (.int last,false),some (d,false)]):=
   ke (o:=false) (hZ (δ1:=[some (.int n,false),c1,some (.int last,false),some (d,false)]) (os:=[.slot 3,.val (.int (-n),false),.slot 0]) (args:=[(d,false),(.int (-n),false),(.int n,false)]) rfl rfl km lwd)
  by_cases hd:wh d=true
  ·obtain⟨s,rfl⟩: ∃s,d= .int s:=⟨_,Nt hd⟩
   have a2:(fT (gB (jM .LtE) (gp (gO (g1 nR) [(gq 3)])) (gq 2))) [some (.int n,false),c1,some (.int last,false),some (.int s,false)]=some (decide (ab s<=last),[some (.int n,false),c1,some (.int last,false),some (.int s,false)]):=
    ke (o:=false) (gY (o1:= .val (.int (ab s),false)) (o2:= .slot 2) rfl rfl rfl rfl (Sj _ _))
   have e0:=Lz (n:=n) (s:=s) h0;by_cases hg:(decide (-n<=s)&&decide (s<=n))=true
   ·by_cases hl:last<ab s
    ·have hq: ¬ab s<=last:=by lia
     rw[ji hq] at a2;obtain⟨aD,au,e⟩:=QY n c1 l (ab s) (some (.int s,false)) (by lia);refine⟨aD,au,?_⟩
     have gg:goC n last (.int s::l)=goC n (ab s) l:=by
      rw[goC,iOf,<-e0,hg,lN hl];rfl
     rw[gg,<-e]
     conv=>lhs;unfold kU
     rw[show gG 3 (.int s) [some (.int n,false),c1,some (.int last,false),x3]=some [some (.int n,false),c1,some (.int last,false),some (.int s,false)] from rfl];simp only[iA]
     have b1:fbI [some (.int n,false),c1,some (.int last,false),some (.int s,false)]=some (.nx [some (.int n,false),c1,some (.int (ab s),false),some (.int s,false)]):=by
      refine(gz ((js ((nN (kg a1 |>.trans (by rw[inB,hg];rfl))).trans a2)).trans rfl)).trans ?_;exact(gz (δ1:=[some (.int n,false),c1,some (.int (ab s),false),some (.int s,false)]) rfl).trans rfl
     rw[b1];rfl
    ·have hq:ab s<=last:=by lia
     rw[lN hq] at a2;refine⟨some (.int last,false),some (.int s,false),?_⟩
     have gg:goC n last (.int s::l)=false:=by
      rw[goC,iOf,<-e0,hg,ji hl];rfl
     rw[gg];unfold kU;rw[show gG 3 (.int s) [some (.int n,false),c1,some (.int last,false),x3]=some [some (.int n,false),c1,some (.int last,false),some (.int s,false)] from rfl];simp only[iA]
     have b1:fbI [some (.int n,false),c1,some (.int last,false),some (.int s,false)]=some (.rt (.bl false,false) [some (.int n,false),c1,some (.int last,false),some (.int s,false)]):=
      gQ ((kB ((nN (kg a1 |>.trans (by rw[inB,hg];rfl))).trans a2)).trans (gQ (il rfl)))
     rw[b1];rfl
   ·have t9:(decide (-n<=s)&&decide (s<=n))=false:=by simpa using hg
    refine⟨some (.int last,false),some (.int s,false),?_⟩
    have gg:goC n last (.int s::l)=false:=by
     rw[goC,iOf,<-e0,t9];rfl
    rw[gg];unfold kU;rw[show gG 3 (.int s) [some (.int n,false),c1,some (.int last,false),x3]=some [some (.int n,false),c1,some (.int last,false),some (.int s,false)] from rfl];simp only[iA]
    have b1:fbI [some (.int n,false),c1,some (.int last,false),some (.int s,false)]=some (.rt (.bl false,false) [some (.int n,false),c1,some (.int last,false),some (.int s,false)]):=
     gQ ((kB (yn (kg a1 |>.trans (by rw[inB,t9];rfl)))).trans (gQ (il rfl)))
    rw[b1];rfl
  ·refine⟨some (.int last,false),some (d,false),?_⟩;have hs:sg n d=false:=by cases d<;>first|rfl|(exact absurd rfl hd)
   have gg:goC n last (d::l)=false:=by rw[goC,hs];rfl
   have a1':(fT (gJ jl [(gq 3),(gp (jD mf (gq 0))),(gq 0)])) [some (.int n,false),c1,some (.int last,false),some (d,false)]=some (false,[some (.int n,false),c1,some (.int last,false),some (d,false)]):=by
    rw[a1];cases d<;>first|rfl|(exact absurd rfl hd)
   rw[gg];unfold kU;rw[show gG 3 d [some (.int n,false),c1,some (.int last,false),x3]=some [some (.int n,false),c1,some (.int last,false),some (d,false)] from rfl];simp only[iA]
   have b1:fbI [some (.int n,false),c1,some (.int last,false),some (d,false)]=some (.rt (.bl false,false) [some (.int n,false),c1,some (.int last,false),some (d,false)]):=
    gQ ((kB (yn (kg a1'))).trans (gQ (il rfl)))
   rw[b1];rfl
theorem GA(n:Int): ∀(l:List D) (last:Int),goC n last l=true↔(∀x∈aI l,last<x)/\l.all (sg n)=true/\(aI l).Pairwise (· < ·)
 |[],last=>by simp[goC,aI]
 |d::l,last=>by
  rw[goC,jr,jr,mE,GA n l];have e:aI (d::l)=ab (iOf d)::aI l:=rfl;rw[e,vn,jr,nX];constructor
  ·rintro⟨⟨h1,h2⟩,h3,h4,h5⟩;refine⟨fun x hx=>?_,⟨h1,h4⟩,h3,h5⟩;rcases jj.mp hx with rfl|hx
   ·exact h2
   ·have:=h3 x hx;lia
  ·rintro⟨h1,⟨h2,h3⟩,h4,h5⟩;exact⟨⟨h2,h1 _ iW⟩,h4,h3,h5⟩
theorem SU(n:Int)(l:List D):goC n 0 l=(l.all (sg n)&&decide ((aI l).Pairwise (· < ·))):=by
 rw[As,GA,jr,mE];constructor
 ·rintro⟨_,h2,h3⟩;exact⟨h2,h3⟩
 ·rintro⟨h2,h3⟩;refine⟨fun x hx=>?_,h2,h3⟩;obtain⟨d,hd,rfl⟩:=nQ.mp hx;rw[lU] at h2;have:=h2 d hd;rw[Bf this] at this;have h:=(by simpa[sg] using this:1<=ab (iOf d)/\ab (iOf d)<=n)
  lia
theorem ye(n:Int)(d:D)(hd:d.dep<=50):jE [(.int n,false),(d,false)]=some ((.bl (lC n d),false),[some (.int n,false),some (d,false)]):=by
 cases d with
 |tup l=>
  have hq:gEq (.tup l) (.tup [])=some (.bl (decide (l=[])),false):=by
   unfold gEq;rw[gD ⟨hd,by simp[D.dep,D.depL]⟩];cases l<;>simp[D.eqb,D.eqbL]
  have t1:(mH (jX (fT (jD (oJ [.tuple]) (gq 1)))) (fT (gB gEq (gq 1) (gp (jk []))))) [some (.int n,false),some (.tup l,false),none,none]=some (decide (l=[]),[some (.int n,false),some (.tup l,false),none,none]):=by
   refine(nN (δ1:=[some (.int n,false),some (.tup l,false),none,none]) rfl).trans (ke (o:=false) (gY (o1:= .slot 1) (o2:= .val (.tup [],false)) rfl (gH (by simp[ic])) rfl rfl hq))
  by_cases hl:l=[]
  ·subst hl;rw[show lC n (.tup [])=false from rfl];exact iV (δ:=[some (.int n,false),some (.tup [],false),none,none]) ⟨rfl,by decide,rfl⟩ (gQ ((kB t1).trans (gQ (il rfl))))
  ·rw[ji hl] at t1;have hB:lC n (.tup l)=goC n 0 l:=by rw[lC,SU,lN hl,ph]
   obtain⟨x2,x3,e⟩:=QY n (some (.tup l,false)) l 0 none (by lia);rw[hB];by_cases hg:goC n 0 l=true
   ·rw[gD hg] at e;rw[hg];refine iV (δ:=[some (.int n,false),some (.tup l,false),x2,x3]) ⟨rfl,by decide,rfl⟩ ?_;refine(gz ((js t1).trans rfl)).trans ?_;refine(gz (δ1:=[some (.int n,false),some (.tup l,false),some (.int 0,false),none]) rfl).trans ?_;exact(gz ((lP (ds:=l) (δ1:=[some (.int n,false),some (.tup l,false),some (.int 0,false),none]) rfl).trans e)).trans (gQ (il rfl))
   ·rw[gF hg] at e;have t9:goC n 0 l=false:=by simpa using hg
    rw[t9];refine iV (δ:=[some (.int n,false),some (.tup l,false),x2,x3]) ⟨rfl,by decide,rfl⟩ ?_;refine(gz ((js t1).trans rfl)).trans ?_;refine(gz (δ1:=[some (.int n,false),some (.tup l,false),some (.int 0,false),none]) rfl).trans ?_;exact gQ ((lP (ds:=l) (δ1:=[some (.int n,false),some (.tup l,false),some (.int 0,false),none]) rfl).trans e)
 |_=>simp[jE,mh,evF,isT,hX,lC]
theorem Qv(a b:hU):jM .Lt (cD a) (cD b)=some (.bl (ltT (cD a) (cD b)),false):=by
 have h: ∃r,kX .Lt (cD a) (cD b)=some r:=by
  have:=vQ .Lt a b;exact IG.mp this
 obtain⟨r,hr⟩:=h;have e:=uM (cD a) (cD b) (by simp[D.pr,lQ]) (by simp[D.pr,lQ]) r hr;unfold jM;rw[gD ⟨by rw[qO];lia,by rw[qO];lia⟩,hr,e];rfl
theorem Hu: ∀a b:List Int,∃r,lF .LtE (a.map .int) (b.map .int)=some (!r)/\lF .Lt (b.map .int) (a.map .int)=some r
 |[],[]=>⟨false,by simp[lF,jc],by simp[lF,jc]⟩
 |[],y::b=>⟨false,by simp[lF,jc];lia,by simp[lF,jc];lia⟩
 |x::a,[]=>⟨true,by simp[lF,jc]<;>lia,by simp[lF,jc]<;>lia⟩
 |x::a,y::b=>by
  obtain⟨r,h1,h2⟩:=Hu a b;by_cases h:x=y
  ·subst h;exact⟨r,by simp[lF,D.eqb,h1],by simp[lF,D.eqb,h2]⟩
  ·have h': ¬y=x:=fun e=>h e.symm;refine⟨decide (y<x),?_,?_⟩
   ·simp only[iJ,lF,D.eqb,wW,ji h,kX,jc];simp;by_cases q:y<x
    ·have: ¬x<=y:=by lia
     simp[q,this]
    ·have:x<=y:=by lia
     simp[q,this]
   ·simp[lF,D.eqb,h',kX,jc]
theorem Qx(a b:hU):jM .LtE (cD a) (cD b)=some (.bl (!ltT (cD b) (cD a)),false):=by
 obtain⟨r,h1,h2⟩:=Hu a b;have e:=uM (cD b) (cD a) (by simp[D.pr,lQ]) (by simp[D.pr,lQ]) r (by simpa[kX] using h2);unfold jM;rw[gD ⟨by rw[qO];lia,by rw[qO];lia⟩,show kX .LtE (cD a) (cD b)=some (!r) from by simpa[kX] using h1,e];rfl
theorem Gu{n:Int}{d:D}(h:lC n d=true): ∃c,d=cD c/\c≠[]:=by
 cases d with
 |tup l=>
  rw[lC,jr,mE,jr,lU] at h;refine⟨l.map iOf,?_,by simpa using h.1⟩;simp only[cD,kY]
  congr 1
  symm
  rw[show l=l.map id from(sx l).symm,kY];apply qe;intro d hd;exact(Bf (h.2.1 d hd)).symm
 |_=>simp[lC] at h
theorem ON{c:hU}(h:c≠[]):ltT (cD []) (cD c)=true:=by
 cases c with
 |nil=>exact absurd rfl h
 |cons x c=>rfl
def rC(n:Int)(l:List D):Bool:=l.all (lC n)&&adj ltT l
def goR(n:Int):D->List D->Bool
 |_,[]=>true
 |last,d::l=>(lC n d&&ltT last d)&&goR n d l
theorem Ky(n:Int): ∀(l:List D) (last:D),goR n last l=(l.all (lC n)&&adj ltT (last::l))
 |[],last=>by simp[goR,adj]
 |d::l,last=>by
  rw[goR,Ky n l d,vn,adj];cases lC n d<;>cases ltT last d<;>simp
theorem MB(n:Int)(l:List D):goR n (cD []) l=rC n l:=by
 rw[Ky,rC]
 cases h:l.all (lC n) with
 |false=>rfl
 |true=>
  simp only[ph]
  cases l with
  |nil=>rfl
  |cons d l=>
   rw[adj];rw[vn,jr] at h;obtain⟨c,rfl,hc⟩:=Gu h.1;rw[ON hc,ph]
def rB:D->Bool
 | .tup [x,.tup l]=>inB 0 5 x&&(decide (l.length<=30)&&rC (iOf x) l)
 |_=>false
def OkR(d:D):Prop:= ∀x l,d= .tup [x,.tup l]->l.length<=100/\ ∀c∈l,c.dep<=50/\ ∀m,c= .tup m->m.length<=100
theorem Pm(n:Nat)(hn:n<=5)(l:List D)(hl:l.length<=100)(hc: ∀c∈l,∀m,c= .tup m->m.length<=100):kP [(.int n,false),(.tup l,false)]=some ((.bl (decide (l.length<=30)&&rC n l),false),[some (.int n,false),some (.tup l,false)]):=by
 have t1:(mH (jX (fT (jD (oJ [.tuple]) (gq 1)))) (fT (gB (jM .Gt) (gp (gO (g1 mO) [(gq 1)])) (gp (fC (.int 30)))))) [some (.int n,false),some (.tup l,false)]=some (decide ((l.length:Int)>30),[some (.int n,false),some (.tup l,false)]):=
  (nN (δ1:=[some (.int n,false),some (.tup l,false)]) rfl).trans (ke (o:=false) (gY (o1:= .val (.int l.length,false)) (o2:= .val (.int 30,false)) rfl rfl rfl rfl (Jt _ _)))
 by_cases h1:(l.length:Int)>30
 ·rw[lN h1] at t1;rw[ji (show ¬l.length<=30 by lia),sY];exact iV (δ:=[some (.int n,false),some (.tup l,false)]) ⟨rfl,by decide,rfl⟩ (gQ ((kB t1).trans (gQ (il rfl))))
 ·rw[ji h1] at t1;rw[lN (show l.length<=30 by lia),ph]
  obtain⟨x1,e1⟩:=qQ (gJ jA [gq 0,gq 1]) (fun d=> .bl (lC n d)) [some (.int n,false)] l [] none (fun d hd=>⟨false,by
   have:=zc n d (hc d hd);rw[Qn n hn] at this;exact hZ (δ1:=[some (.int n,false),some (d,false)]) (os:=[.slot 0,.slot 1]) (args:=[(.int n,false),(d,false)]) rfl rfl km this⟩) (by rw[ic];simp;lia)
  simp only[sv,nU,jO,nD,Nat.zero_add] at e1
  have c1:iY [0] 1 (iU (ig 1)) (gG 1) jx (jq (gJ jA [(gq 0),(gq 1)])) [some (.int n,false),some (.tup l,false)]=some ((.lst (l.map fun d=> .bl (lC n d)),true),[some (.int n,false),some (.tup l,false)]):=by
   simp[iY,ig,e1,hW,wb,hX]
  have c2:gO (g1 C8) [(gp (iY [0] 1 (iU (ig 1)) (gG 1) jx (jq (gJ jA [(gq 0),(gq 1)]))))] [some (.int n,false),some (.tup l,false)]=some ((.bl (l.all (lC n)),false),[some (.int n,false),some (.tup l,false)]):=
   iQ (mR (gH c1)) rfl (DF (lC n) l)
  refine iV (δ:=[some (.int n,false),some (.tup l,false)]) ⟨rfl,by decide,rfl⟩ ?_;refine(gz ((js t1).trans rfl)).trans (gQ (il ?_))
  have r_and: ∀{f g:F} {δ δ1:Dn} {b o:Bool},f δ=some ((.bl b,o),δ1)->tX f g δ=if b=true then g δ1 else some ((.bl false,false),δ1):=by
   intro f g δ δ1 b o h;rw[EG,h];simp
  refine(r_and c2).trans ?_
  cases h2:l.all (lC n) with
  |false=>rw[rC,h2];rfl
  |true=>
   rw[rC,h2,gD rfl,ph];rw[lU] at h2;refine hZ (δ1:=[some (.int n,false),some (.tup l,false)]) (os:=[.slot 1]) (args:=[(.tup l,false)]) rfl rfl km (zB ltT l (.tup l) (.inr rfl) (fun x hx y hy=>?_) (by lia));obtain⟨a,rfl,_⟩:=Gu (h2 x hx);obtain⟨b,rfl,_⟩:=Gu (h2 y hy);exact Qv a b
theorem Gz{x:D}(h:inB 0 5 x=true): ∃n:Nat,x= .int n/\n<=5:=by
 cases x with
 |int s=>
  simp only[inB,jr,mE] at h;exact⟨s.toNat,by rw[Int.toNat_of_nonneg h.1],by lia⟩
 |_=>simp[inB] at h
theorem OM(d:D)(lo hi:Int):jT [(d,false),(.int lo,false),(.int hi,false)]=some ((.bl (inB lo hi d),false),[some (d,false),some (.int lo,false),some (.int hi,false)]):=by
 rw[zM];cases d<;>rfl
theorem MN(n:Int)(y:D)(h: ∀l,y≠ .tup l):kP [(.int n,false),(y,false)]=some ((.bl false,false),[some (.int n,false),some (y,false)]):=by
 cases y with
 |tup l=>exact absurd rfl (h l)
 |_=>simp[kP,nL,evF,isT,hX]
theorem oI(d:D)(hd:OkR d):iR [(d,false)]=some ((.bl (rB d),false),[some (d,false)]):=by
 have hp: ∀l:List D,mn [(.tup l,false)]=some ((.bl (decide (l.length=2)),false),[some (.tup l,false)]):=by
  intro l;by_cases h:l.length=2
  ·have:(l.length:Int)=2:=by lia
   simp[mn,nK,evF,isT,hX,h,this]
  ·have: ¬(l.length:Int)=2:=by lia
   simp[mn,nK,evF,isT,hX,h,this]
 have key: ∀x y:D,d= .tup [x,y]->iR [(d,false)]=some ((.bl (rB d),false),[some (d,false)]):=by
  rintro x y rfl;refine iV (δ:=[some (.tup [x,y],false),some (x,false),some (y,false)]) ⟨rfl,by decide,rfl⟩ ?_;refine(gz ((js (δ1:=[some (.tup [x,y],false),none,none]) (kg (b:=true) (ke (o:=false) (hZ (δ1:=[some (.tup [x,y],false),none,none]) (os:=[.slot 0]) (args:=[(.tup [x,y],false)]) rfl rfl km (hp [x,y]))))).trans rfl)).trans ?_;refine(gz (δ1:=[some (.tup [x,y],false),some (x,false),some (y,false)]) rfl).trans (gQ (il ?_))
  have a1:gJ jT [(gq 1),(gp (fC (.int 0))),(gp (fC (.int 5)))] [some (.tup [x,y],false),some (x,false),some (y,false)]=some ((.bl (inB 0 5 x),false),[some (.tup [x,y],false),some (x,false),some (y,false)]):=
   hZ (δ1:=[some (.tup [x,y],false),some (x,false),some (y,false)]) (os:=[.slot 1,.val (.int 0,false),.val (.int 5,false)]) (args:=[(x,false),(.int 0,false),(.int 5,false)]) rfl rfl km (OM x 0 5)
  rw[EG,a1];simp only[iA,P5];by_cases hx:inB 0 5 x=true
  ·rw[gD hx];obtain⟨n,rfl,hn⟩:=Gz hx;by_cases hy: ∃l,y= .tup l
   ·obtain⟨l,rfl⟩:=hy;have hh:=hd (.int n) l rfl;rw[show rB (.tup [.int n,.tup l])=(decide (l.length<=30)&&rC n l) from by rw[rB,hx];rfl];exact hZ (δ1:=[some (.tup [.int n,.tup l],false),some (.int n,false),some (.tup l,false)]) (os:=[.slot 1,.slot 2]) (args:=[(.int n,false),(.tup l,false)]) rfl rfl km (Pm n hn l hh.1 fun c hc=>(hh.2 c hc).2)
   ·rw[show rB (.tup [.int n,y])=false from by
     cases y with
     |tup l=>exact absurd ⟨l,rfl⟩ hy
     |_=>rfl]
    exact hZ (δ1:=[some (.tup [.int n,y],false),some (.int n,false),some (y,false)]) (os:=[.slot 1,.slot 2]) (args:=[(.int n,false),(y,false)]) rfl rfl km (MN n y fun l e=>hy ⟨l,e⟩)
  ·have bh:inB 0 5 x=false:=by simpa using hx
   rw[gF hx]
   rw[show rB (.tup [x,y])=false from by
    cases y with
    |tup l=>rw[rB,bh];rfl
    |_=>rfl]
 cases d with
 |tup l=>
  by_cases h2:l.length=2
  ·obtain⟨x,y,rfl⟩: ∃x y,l=[x,y]:=by
    match l,h2 with
    |[x,y],_=>exact⟨x,y,rfl⟩
   exact key x y rfl
  ·rw[show rB (.tup l)=false from by
    match l,h2 with
    |[],_=>rfl
    |[_],_=>rfl
    |[_,_],h2=>exact absurd rfl h2
    |_::y::_::_,_=>cases y<;>rfl]
   refine iV (δ:=[some (.tup l,false),none,none]) ⟨rfl,by decide,rfl⟩ ?_;refine gQ ((kB (δ1:=[some (.tup l,false),none,none]) (kg (b:=false) (ke (o:=false) (hZ (δ1:=[some (.tup l,false),none,none]) (os:=[.slot 0]) (args:=[(.tup l,false)]) rfl rfl km ((hp l).trans (by rw[ji h2])))))).trans (gQ (il rfl)))
 |_=>simp[iR,pJ,mn,nK,evF,isT,hX,hW,wb,rB]
abbrev fbR:FS:=(gE (sIf (mH (jX (fT (gJ jE [(gp (gB gIx (gq 0) (gp (fC (.int 0))))),(gq 2)]))) (fT (gB (jM .LtE) (gq 2) (gq 1)))) (gE (ju (fC (.bl false))) gR) gR) (gE (ir 1 (ig 2)) gR))
theorem QV(n:Int)(y:D): ∀(l:List D) (last:hU) (x2:Sl),(∀c∈l,c.dep<=50)-> ∃eu aD,kU (gG 2) fbR l [some (.tup [.int n,y],false),some (cD last,false),x2]=if goR n (cD last) l=true then some (.nx [some (.tup [.int n,y],false),eu,aD]) else some (.rt (.bl false,false) [some (.tup [.int n,y],false),eu,aD])
 |[],last,x2,_=>⟨_,_,rfl⟩
 |d::l,last,x2,h=>by
  have a1:(fT (gJ jE [(gp (gB gIx (gq 0) (gp (fC (.int 0))))),(gq 2)])) [some (.tup [.int n,y],false),some (cD last,false),some (d,false)]=some (lC n d,[some (.tup [.int n,y],false),some (cD last,false),some (d,false)]):=
   ke (o:=false) (hZ (δ1:=[some (.tup [.int n,y],false),some (cD last,false),some (d,false)]) (os:=[.val (.int n,false),.slot 2]) (args:=[(.int n,false),(d,false)]) rfl rfl km (ye n d (h d iW)))
  by_cases hc:lC n d=true
  ·obtain⟨c,rfl,r9⟩:=Gu hc
   have a2:(fT (gB (jM .LtE) (gq 2) (gq 1))) [some (.tup [.int n,y],false),some (cD last,false),some (cD c,false)]=some (!ltT (cD last) (cD c),[some (.tup [.int n,y],false),some (cD last,false),some (cD c,false)]):=
    ke (o:=false) (gY (o1:= .slot 2) (o2:= .slot 1) rfl rfl rfl rfl (Qx c last))
   by_cases hl:ltT (cD last) (cD c)=true
   ·obtain⟨eu,aD,e⟩:=QV n y l c (some (cD c,false)) fun z hz=>h z (jd _ hz);refine⟨eu,aD,?_⟩;have gg:goR n (cD last) (cD c::l)=goR n (cD c) l:=by rw[goR,hc,hl];rfl
    rw[gg,<-e]
    conv=>lhs;unfold kU
    rw[show gG 2 (cD c) [some (.tup [.int n,y],false),some (cD last,false),x2]=some [some (.tup [.int n,y],false),some (cD last,false),some (cD c,false)] from rfl];simp only[iA]
    have b1:fbR [some (.tup [.int n,y],false),some (cD last,false),some (cD c,false)]=some (.nx [some (.tup [.int n,y],false),some (cD c,false),some (cD c,false)]):=by
     refine(gz ((js ((nN (kg a1 |>.trans (by rw[hc];rfl))).trans (a2.trans (by rw[hl];rfl)))).trans rfl)).trans ?_;exact(gz (δ1:=[some (.tup [.int n,y],false),some (cD c,false),some (cD c,false)]) rfl).trans rfl
    rw[b1];rfl
   ·have dS:ltT (cD last) (cD c)=false:=by simpa using hl
    refine⟨some (cD last,false),some (cD c,false),?_⟩;have gg:goR n (cD last) (cD c::l)=false:=by rw[goR,dS,vq];rfl
    rw[gg];unfold kU;rw[show gG 2 (cD c) [some (.tup [.int n,y],false),some (cD last,false),x2]=some [some (.tup [.int n,y],false),some (cD last,false),some (cD c,false)] from rfl];simp only[iA]
    have b1:fbR [some (.tup [.int n,y],false),some (cD last,false),some (cD c,false)]=some (.rt (.bl false,false) [some (.tup [.int n,y],false),some (cD last,false),some (cD c,false)]):=
     gQ ((kB ((nN (kg a1 |>.trans (by rw[hc];rfl))).trans (a2.trans (by rw[dS];rfl)))).trans (gQ (il rfl)))
    rw[b1];rfl
  ·have bM:lC n d=false:=by simpa using hc
   refine⟨some (cD last,false),some (d,false),?_⟩;have gg:goR n (cD last) (d::l)=false:=by rw[goR,bM];rfl
   rw[gg];unfold kU;rw[show gG 2 d [some (.tup [.int n,y],false),some (cD last,false),x2]=some [some (.tup [.int n,y],false),some (cD last,false),some (d,false)] from rfl];simp only[iA]
   have b1:fbR [some (.tup [.int n,y],false),some (cD last,false),some (d,false)]=some (.rt (.bl false,false) [some (.tup [.int n,y],false),some (cD last,false),some (d,false)]):=
    gQ ((kB (yn (kg a1 |>.trans (by rw[bM];rfl)))).trans (gQ (il rfl)))
   rw[b1];rfl
theorem Fu(d:D)(hd:OkR d):ml [(d,false)]=some ((.bl (rB d),false),[some (d,false)]):=by
 have key: ∀x y:D,d= .tup [x,y]->ml [(d,false)]=some ((.bl (rB d),false),[some (d,false)]):=by
  rintro x y rfl
  have a1:(mH (jX (fT (jD (oJ [.tuple]) (gq 0)))) (mH (fT (gB gNe (gp (gO (g1 mO) [(gq 0)])) (gp (fC (.int 2))))) (jX (fT (gJ jl [(gp (gB gIx (gq 0) (gp (fC (.int 0))))),(gp (fC (.int 0))),(gp (fC (.int 5)))]))))) [some (.tup [x,y],false),none,none]=some (!inB 0 5 x,[some (.tup [x,y],false),none,none]):=by
   refine(nN (δ1:=[some (.tup [x,y],false),none,none]) rfl).trans ((nN (δ1:=[some (.tup [x,y],false),none,none]) (by simp)).trans (kg (ke (o:=false) ?_)));exact hZ (δ1:=[some (.tup [x,y],false),none,none]) (os:=[.val (x,false),.val (.int 0,false),.val (.int 5,false)]) (args:=[(x,false),(.int 0,false),(.int 5,false)]) rfl rfl km (M9 x 0 5)
  by_cases hx:inB 0 5 x=true
  ·rw[hx] at a1;obtain⟨n,rfl,hn⟩:=Gz hx;by_cases hy: ∃l,y= .tup l
   ·obtain⟨l,rfl⟩:=hy;have hh:=hd (.int n) l rfl
    have a2:(mH (jX (fT (jD (oJ [.tuple]) (gp (gB gIx (gq 0) (gp (fC (.int 1)))))))) (fT (gB (jM .Gt) (gp (gO (g1 mO) [(gp (gB gIx (gq 0) (gp (fC (.int 1)))))])) (gp (fC (.int 30)))))) [some (.tup [.int n,.tup l],false),none,none]=some (decide ((l.length:Int)>30),[some (.tup [.int n,.tup l],false),none,none]):=
     (nN (δ1:=[some (.tup [.int n,.tup l],false),none,none]) rfl).trans (ke (o:=false) (gY (o1:= .val (.int l.length,false)) (o2:= .val (.int 30,false)) rfl rfl rfl rfl (Jt _ _)))
    rw[show rB (.tup [.int n,.tup l])=(decide (l.length<=30)&&rC n l) from by rw[rB,hx];rfl];by_cases h1:(l.length:Int)>30
    ·rw[lN h1] at a2;rw[ji (show ¬l.length<=30 by lia),sY];exact iV (δ:=[some (.tup [.int n,.tup l],false),none,none]) ⟨rfl,by decide,rfl⟩ ((gz ((js a1).trans rfl)).trans (gQ ((kB a2).trans (gQ (il rfl)))))
    ·rw[ji h1] at a2;rw[lN (show l.length<=30 by lia),ph,<-MB];obtain⟨x1,x2,e⟩:=QV n (.tup l) l [] none fun c hc=>(hh.2 c hc).1
     have pre: ∀g,(gE (ir 1 (jk [])) (gE (oX (iU (gB gIx (gq 0) (gp (fC (.int 1))))) (gG 2) fbR) g)) [some (.tup [.int n,.tup l],false),none,none]=(gE (kU (gG 2) fbR l) g) [some (.tup [.int n,.tup l],false),some (cD [],false),none]:=by
      intro g;refine(gz (δ1:=[some (.tup [.int n,.tup l],false),some (cD [],false),none]) (by simp[ic])).trans ?_;unfold gE;rw[lP (ds:=l) (δ1:=[some (.tup [.int n,.tup l],false),some (cD [],false),none]) rfl]
     by_cases hg:goR n (cD []) l=true
     ·rw[gD hg] at e;rw[hg];exact iV (δ:=[some (.tup [.int n,.tup l],false),x1,x2]) ⟨rfl,by decide,rfl⟩ ((gz ((js a1).trans rfl)).trans ((gz ((js a2).trans rfl)).trans ((pre _).trans ((gz e).trans (gQ (il rfl))))))
     ·rw[gF hg] at e;rw[show goR n (cD []) l=false from by simpa using hg];exact iV (δ:=[some (.tup [.int n,.tup l],false),x1,x2]) ⟨rfl,by decide,rfl⟩ ((gz ((js a1).trans rfl)).trans ((gz ((js a2).trans rfl)).trans ((pre _).trans (gQ e))))
   ·rw[show rB (.tup [.int n,y])=false from by
     cases y with
     |tup l=>exact absurd ⟨l,rfl⟩ hy
     |_=>rfl]
    have a2:(mH (jX (fT (jD (oJ [.tuple]) (gp (gB gIx (gq 0) (gp (fC (.int 1)))))))) (fT (gB (jM .Gt) (gp (gO (g1 mO) [(gp (gB gIx (gq 0) (gp (fC (.int 1)))))])) (gp (fC (.int 30)))))) [some (.tup [.int n,y],false),none,none]=some (true,[some (.tup [.int n,y],false),none,none]):=by
     refine yn ?_
     cases y with
     |tup l=>exact absurd ⟨l,rfl⟩ hy
     |oth k _ _=>cases k<;>rfl
     |_=>rfl
    exact iV (δ:=[some (.tup [.int n,y],false),none,none]) ⟨rfl,by decide,rfl⟩ ((gz ((js a1).trans rfl)).trans (gQ ((kB a2).trans (gQ (il rfl)))))
  ·have bh:inB 0 5 x=false:=by simpa using hx
   rw[bh] at a1
   rw[show rB (.tup [x,y])=false from by
    cases y with
    |tup l=>rw[rB,bh];rfl
    |_=>rfl]
   exact iV (δ:=[some (.tup [x,y],false),none,none]) ⟨rfl,by decide,rfl⟩ (gQ ((kB a1).trans (gQ (il rfl))))
 cases d with
 |tup l=>
  by_cases h2:l.length=2
  ·obtain⟨x,y,rfl⟩: ∃x y,l=[x,y]:=by
    match l,h2 with
    |[x,y],_=>exact⟨x,y,rfl⟩
   exact key x y rfl
  ·rw[show rB (.tup l)=false from by
    match l,h2 with
    |[],_=>rfl
    |[_],_=>rfl
    |[_,_],h2=>exact absurd rfl h2
    |_::y::_::_,_=>cases y<;>rfl]
   have hz: ¬(l.length:Int)=2:=by lia
   exact iV (δ:=[some (.tup l,false),none,none]) ⟨rfl,by decide,rfl⟩ (gQ ((kB (δ1:=[some (.tup l,false),none,none]) ((nN (δ1:=[some (.tup l,false),none,none]) rfl).trans (yn (by simp[hz])))).trans (gQ (il rfl))))
 |_=>simp[ml,tP,evF,isT,hX,rB]
theorem Ra(c:hU):aI (c.map .int)=c.map ab:=by
 rw[aI,kY];rfl
theorem Qy{n:Nat}{c:hU}(h:ClOk n c):lC n (cD c)=true:=by
 rw[lC,jr,jr,mE,mE,lU,Ra];refine⟨by simpa using h.1,fun d hd=>?_,h.2.1⟩;obtain⟨s,hs,rfl⟩:=nQ.mp hd;have:=h.2.2 s hs;simp[sg,this]
theorem Qu{a b:hU}(h1:ltT (cD b) (cD a)=false)(h2:a≠b):ltT (cD a) (cD b)=true:=by
 rw[lI] at h1;rw[zN];have e:=kI (cD b) (cD a)
 cases hc:cT (cD a) (cD b) with
 |lt=>rfl
 |eq=>
  have:=uQ (cD a) (cD b) (by simp[D.pr,lQ]) (by simp[D.pr,lQ]) hc;have:=rW unC this;rw[vE,vE] at this;exact absurd this h2
 |gt=>
  have e':=kI (cD a) (cD b);rw[hc] at e';cases hb:cT (cD b) (cD a)<;>simp_all
theorem K9: ∀ks:List (List Int),ks.Nodup->SrtC ks->adj ltT (ks.map cD)=true
 |[],_,_=>rfl
 |[a],_,_=>rfl
 |a::b::ks,nd,h=>by
  rw[En] at nd;unfold SrtC at h;have h':=nX.mp h;simp only[iJ,adj,jr];exact⟨Qu (h'.1 b iW) (fun e=>nd.1 (e▸iW)),K9 (b::ks) nd.2 h'.2⟩
theorem Qc{n:Nat}{ks:jv}(h:FP n ks):rB (rD' n ks)=true:=by
 obtain⟨h1,h2,h3,h4⟩:=h;have e:rB (rD' n ks)=(inB 0 5 (.int n)&&(decide ((ks.map cD).length<=30)&&rC n (ks.map cD))):=rfl;rw[e,jr,jr,rC,jr,mE,lU];refine⟨by simp[inB];lia,by simpa using h4,fun d hd=>?_,K9 ks h2.1 h3⟩;obtain⟨c,hc,rfl⟩:=nQ.mp hd;exact Qy (h2.2 c hc)
def OkC(d:D):Prop:=d.dep<=50/\ ∀m,d= .tup m->m.length<=100
theorem BM{k:Nat}: ∀{l:List D},(∀x∈l,x.dep<=k)->D.depL l<=k
 |[],_=>by simp[D.depL]
 |x::l,h=>by
  have h1:=h x iW;have h2:=BM (l:=l) fun y hy=>h y (jd _ hy);simp only[D.depL];lia
theorem ot{l:List D}(h: ∀x∈l,x.dep<=10)(hl:l.length<=100):OkC (.tup l):=by
 refine⟨?_,fun m e=>by cases e;exact hl⟩;have:=BM h;simp only[D.dep];lia
theorem EV{c:hU}(h:c.length<=100):OkC (cD c):=ot (fun x hx=>by
 obtain⟨i,_,rfl⟩:=nQ.mp hx;simp[D.dep]) (by simpa using h)
theorem GI{l:List D}{lo hi:Option Int}{x:D}(h:x∈PX.lh l lo hi):x∈l:=by
 unfold PX.lh at h;exact lG (lV h)
theorem KO(c:hU)(lo hi:Option Int): ∃m:List Int,m.length<=c.length/\PX.lh (c.map .int) lo hi=m.map .int:=by
 unfold PX.lh;refine⟨(c.drop (HT.sIx (c.map D.int).length 0 lo)).take (HT.sIx (c.map D.int).length (c.map D.int).length hi-HT.sIx (c.map D.int).length 0 lo),?_,?_⟩
 ·rw[nW,qy];lia
 ·rw[vc,List.map_drop]
def bcL(c:hU)(p:Int)(x:D)(q:hU):List D:=
  let k:=c.map D.int
  [.tup (PX.lh k none (some p)++[x]++PX.lh k (some p) none),.tup (PX.lh k none (some p)++[x]++PX.lh k (some (p+1)) none),.tup (PX.lh k none (some p)++PX.lh k (some (p+1)) none),
   .tup k.reverse,.lst k,.tup (PX.lh k none (some p)++PX.lh k (some (p-1)) none),x,.tup [],.tup (PX.lh k none (some p)++q.map .int++PX.lh k (some p) none)]
theorem OI(c:hU)(hc:c.length<=10)(p:Int)(x:D)(hx:x.dep<=10/\OkC x)(q:hU)(hq:q.length<=10): ∀d∈bcL c p x q,OkC d:=by
 have hl: ∀lo hi,(PX.lh (c.map D.int) lo hi).length<=10:=fun lo hi=>lq (rJ _ _ _) (by simpa using hc)
 have hd: ∀lo hi,∀y∈PX.lh (c.map D.int) lo hi,y.dep<=10:=fun lo hi y hy=>by
  obtain⟨i,_,rfl⟩:=nQ.mp (GI hy);simp[D.dep]
 have hk: ∀y∈c.map D.int,y.dep<=10:=fun y hy=>by
  obtain⟨i,_,rfl⟩:=nQ.mp hy;simp[D.dep]
 have fK: ∀y∈q.map D.int,y.dep<=10:=fun y hy=>by
  obtain⟨i,_,rfl⟩:=nQ.mp hy;simp[D.dep]
 intro d h;simp only[bcL,jj,jL,kJ] at h;have l1:=hl none (some p);have l2:=hl (some p) none;have l3:=hl (some (p+1)) none;have l4:=hl (some (p-1)) none;rcases h with rfl|rfl|rfl|rfl|rfl|rfl|rfl|rfl|rfl
 ·refine ot (fun y hy=>?_) (by simp;lia);simp only[lK,mZ] at hy;rcases hy with(hy|rfl)|hy
  ·exact hd _ _ y hy
  ·exact hx.1
  ·exact hd _ _ y hy
 ·refine ot (fun y hy=>?_) (by simp;lia);simp only[lK,mZ] at hy;rcases hy with(hy|rfl)|hy
  ·exact hd _ _ y hy
  ·exact hx.1
  ·exact hd _ _ y hy
 ·refine ot (fun y hy=>?_) (by simp;lia);rcases lK.mp hy with hy|hy<;>exact hd _ _ y hy
 ·exact ot (fun y hy=>hk y (by simpa using hy)) (by simp;lia)
 ·refine⟨?_,fun m e=>by cases e⟩;have:=BM hk;simp only[D.dep];lia
 ·refine ot (fun y hy=>?_) (by simp;lia);rcases lK.mp hy with hy|hy<;>exact hd _ _ y hy
 ·exact hx.2
 ·exact ot (by simp) (by simp)
 ·refine ot (fun y hy=>?_) (by simp;lia);simp only[lK] at hy;rcases hy with(hy|hy)|hy
  ·exact hd _ _ y hy
  ·exact fK y hy
  ·exact hd _ _ y hy
theorem Gj:OkC .non:=⟨by simp[D.dep],fun m e=>by cases e⟩
theorem yA(a:Int)(b:Bool)(c:hU)(hc:c.length<=5)(n:Int): ∃a' d,OkC d/\lE [(.lst [.int a,.bl b],true),enc c,(.int n,false)]=some ((d,false),[stt a' b,some (enc c),ii n]):=by
 obtain⟨p,a1,p0,p1,e1⟩:=jJ a b ((c.length:Int)+1) (by lia) (by lia);obtain⟨w,a2,w0,w1,e2⟩:=jJ a1 b 11 (by lia) (by lia);obtain⟨v,a3,v0,v1,e3⟩:=jJ a2 b 9 (by lia) (by lia)
 let oL:List D:=[.int 0,.int (n+1),.int (-n-1),.bl true,.non,.str "1",.tup [.int 1],.int 100000000000000000000000000000,.bl false,.int 1,.int (-1)]
 let x:=oL.getD w.toNat .non
 have hx:x.dep<=10/\OkC x:=by
  refine uU (P:=fun d=>d.dep<=10/\OkC d) ⟨by simp[D.dep],Gj⟩ (fun d hd=>?_) _;simp only[oL,jj,jL,kJ] at hd;rcases hd with rfl|rfl|rfl|rfl|rfl|rfl|rfl|rfl|rfl|rfl|rfl<;>refine⟨by simp[D.dep,D.depL],by simp[D.dep,D.depL],fun m e=>?_⟩<;>cases e<;>decide
 obtain⟨q,hq,eq⟩:=KO c (some p) (some (p+1));have aa: ∀lo hi,(PX.lh (c.map D.int) lo hi).length<=999:=fun lo hi=>lq (rJ _ _ _) (by simp;lia);have bW: ∀lo hi,(PX.lh (c.map D.int) lo hi).length<=1000:=fun lo hi=>lq (rJ _ _ _) (by simp;lia)
 let q':=q.map fun s=> -s
 refine⟨a3,(bcL c p x q').getD v.toNat .non,uU Gj (OI c (by lia) p x hx q' (by simp[q'];lia)) _,?_⟩;refine iV (δ:=[stt a3 b,some (enc c),ii n,ii p,some (x,false),lv (bcL c p x q')]) ⟨rfl,by decide,rfl⟩ ?_;refine(gz (δ1:=[stt a1 b,some (enc c),ii n,ii p,none,none]) ?_).trans ?_
 ·refine iN (i:=3) (δ1:=[stt a1 b,some (enc c),ii n,none,none,none]) (e1 _ [some (enc c),ii n,none,none,none] (.val (.int ((c.length:Int)+1),false)) ?_ rfl) (show 3<6 by decide);simp
 refine(gz (δ1:=[stt a2 b,some (enc c),ii n,ii p,some (x,false),none]) ?_).trans ?_
 ·refine iN (i:=4) (δ1:=[stt a2 b,some (enc c),ii n,ii p,none,none]) (gY (o1:= .val (.lst oL,true)) (o2:= .val (.int w,false)) (gH (δ1:=[stt a1 b,some (enc c),ii n,ii p,none,none]) ?_) (gH (e2 _ _ _ rfl rfl)) rfl rfl (ixl (L:=oL) w0 (by simpa[oL] using w1))) (show 4<6 by decide);simp[oL,M5,ic]
 refine(gz (δ1:=[stt a2 b,some (enc c),ii n,ii p,some (x,false),lv ((bcL c p x q').take 3)]) ?_).trans ?_
 ·generalize x=y;simp[kf,kG,gSl,yK,aa,bW,ic,bcL,ig]
 refine(gz (δ1:=[stt a2 b,some (enc c),ii n,ii p,some (x,false),lv ((bcL c p x q').take 8)]) ?_).trans ?_
 ·generalize x=y;simp[kf,kG,gSl,yK,SY,aa,bW,ic,bcL,ig,Fp,OV]
 refine(gz (δ1:=[stt a2 b,some (enc c),ii n,ii p,some (x,false),lv (bcL c p x q')]) ?_).trans ?_
 ·obtain⟨x',eb⟩:=qQ (jD mf (gq 0)) (fun d=> .int (-(iOf d))) [] (q.map .int) [] none (by
   intro d hd;obtain⟨i,_,rfl⟩:=nQ.mp hd;exact⟨false,rfl⟩) (by rw[ic];simp;lia)
  simp only[sv,nU,jO,nD,kY] at eb;have em:(q.map ((fun d=>D.int (-(iOf d)))∘D.int))=q'.map .int:=by simp only[q',kY];rfl
  rw[em] at eb
  have hsl:fSl (gq 1) (gq 3) (gp (gB iB (gq 3) (gp (fC (.int 1))))) [stt a2 b,some (enc c),ii n,ii p,some (x,false),lv ((bcL c p x q').take 8)]=some ((.tup (q.map .int),false),[stt a2 b,some (enc c),ii n,ii p,some (x,false),lv ((bcL c p x q').take 8)]):=by
   rw[<-eq];rfl
  have hi:iU (fSl (gq 1) (gq 3) (gp (gB iB (gq 3) (gp (fC (.int 1)))))) [stt a2 b,some (enc c),ii n,ii p,some (x,false),lv ((bcL c p x q').take 8)]=some (q.map .int,[stt a2 b,some (enc c),ii n,ii p,some (x,false),lv ((bcL c p x q').take 8)]):=by
   unfold iU;rw[hsl];rfl
  have hcm:=KR hi eb
  have ht:gO (g1 kL) [(gp (iY [] 1 (iU (fSl (gq 1) (gq 3) (gp (gB iB (gq 3) (gp (fC (.int 1))))))) (gG 0) jx (jq (jD mf (gq 0)))))] [stt a2 b,some (enc c),ii n,ii p,some (x,false),lv ((bcL c p x q').take 8)]=some ((.tup (q'.map .int),false),[stt a2 b,some (enc c),ii n,ii p,some (x,false),lv ((bcL c p x q').take 8)]):=
   iQ (os:=[.val (.lst (q'.map .int),true)]) (mR (gH hcm)) rfl rfl
  have h1:kf (gq 1) (gq 3) [stt a2 b,some (enc c),ii n,ii p,some (x,false),lv ((bcL c p x q').take 8)]=some ((.tup (PX.lh (c.map .int) none (some p)),false),[stt a2 b,some (enc c),ii n,ii p,some (x,false),lv ((bcL c p x q').take 8)]):=rfl;have h2:kG (gq 1) (gq 3) [stt a2 b,some (enc c),ii n,ii p,some (x,false),lv ((bcL c p x q').take 8)]=some ((.tup (PX.lh (c.map .int) (some p) none),false),[stt a2 b,some (enc c),ii n,ii p,some (x,false),lv ((bcL c p x q').take 8)]):=rfl;have hq9:(q'.map D.int).length<=10:=by simp[q'];lia
  have l1:=rJ (c.map D.int) none (some p);have l1':(c.map D.int).length<=5:=by simpa using hc
  refine uw (r:=(.non,false)) ?_;rw[tV (i:=5) (l0:=(bcL c p x q').take 8) (l:=(bcL c p x q').take 8) (δ1:=[stt a2 b,some (enc c),ii n,ii p,some (x,false),lv ((bcL c p x q').take 8)]) (r:=(.tup (PX.lh (c.map .int) none (some p)++q'.map .int++PX.lh (c.map .int) (some p) none),false)) rfl (gY (gH (gY (gH h1) (gH ht) rfl rfl (yK (bW _ _) (by lia)))) (gH h2) rfl rfl (yK (by rw[kZ];lia) (bW _ _))) rfl (F8 (by simp[bcL]))];rfl
 exact gQ (il (gY (o1:= .slot 5) (o2:= .val (.int v,false)) rfl (gH (e3 _ [some (enc c),ii n,ii p,some (x,false),lv (bcL c p x q')] _ rfl rfl)) rfl rfl (ixl (L:=bcL c p x q') v0 (by simpa[bcL] using v1))))
def OkL(l:List D):Prop:=l.length<=100/\ ∀c∈l,OkC c
theorem lR{x:D}{l:List D}(h:OkL l):OkR (.tup [x,.tup l]):=by
 intro x' l' e;cases e;exact h
theorem uz{x y:D}(h: ∀l,y≠ .tup l):OkR (.tup [x,y]):=by
 intro x' l' e;cases e;exact absurd rfl (h _)
theorem Bs{l:List D}(h:l.length≠2):OkR (.tup l):=by
 intro x' l' e;cases e;exact absurd rfl h
theorem vJ{d:D}(h: ∀l,d≠ .tup l):OkR d:=fun x l e=>absurd e (h _)
theorem OkL.cut{l:List D}(h:OkL l)(lo hi:Option Int):OkL (PX.lh l lo hi):=⟨lq (rJ _ _ _) h.1,fun c hc=>h.2 c (GI hc)⟩
theorem wQ{l m:List D}(h1: ∀c∈l,OkC c)(h2: ∀c∈m,OkC c)(hl:l.length+m.length<=100):OkL (l++m):=⟨by rw[kZ];exact hl,fun c hc=>(lK.mp hc).elim (h1 c) (h2 c)⟩
theorem J5{n:Nat}{ks:jv}(h:FP n ks):OkL (ks.map cD):=⟨by have:=h.2.2.2;simp;lia,fun d hd=>by
 obtain⟨c,hc,rfl⟩:=nQ.mp hd;exact EV (by have:=(h.2.1.2 c hc).len;have:=h.1;lia)⟩
theorem Qt{n:Nat}{ks:jv}(h:FP n ks):OkR (.tup (ks.map cD)):=by
 intro x l e;have e2:ks.map cD=[x,.tup l]:=D.tup.inj e;have hm:D.tup l∈ks.map cD:=by rw[e2];simp
 obtain⟨c,hc,ec⟩:=nQ.mp hm;cases ec;refine⟨by have:=(h.2.1.2 c hc).len;have:=h.1;simp;lia,fun d hd=>?_⟩;obtain⟨i,_,rfl⟩:=nQ.mp hd;exact⟨by simp[D.dep],fun m e=>by cases e⟩
def b3L(k:List D)(p:Int):List D:=[.tup (PX.lh k none (some p)++PX.lh k (some (p-1)) none),.tup k.reverse,.lst k,.tup (PX.lh k (some p) none++PX.lh k none (some p)),.non,.oth .dct [] []]
def b4L(n:Int):List D:=[.int (n-1),.int (n+1),.int 6,.int (-1),.bl true,.non,.str "3",.int 5,.int 100000000000000000000000000000]
def b5L(n:Int)(k:List D):List D:=[.lst [.int n,.tup k],.tup [.int n,.tup k,.tup []],.tup (PX.lh [.int n,.tup k] none (some 1)),.tup [.tup k,.int n],.non,.oth .dct [] [],.int 7,.tup [.tup [.int n,.tup k]],.int n,.tup k]
theorem Dd{fa fb:F}{δ δ1 δ2:Dn}{x y:D}{o1 o2:Bool}(h1:fa δ=some ((x,o1),δ1))(h2:fb δ1=some ((y,o2),δ2)):jk [fa,fb] δ=some ((.tup [x,y],false),δ2):=by
 unfold jk;simp only[iJ,oP];rw[pM (gH h1) (gH h2)];simp[ic]
theorem HJ(a:Int)(b:Bool)(n:Nat)(ks:jv)(h:FP n ks): ∃a' d,OkR d/\jS [(.lst [.int a,.bl b],true),(rD' n ks,false)]=some ((d,false),[stt a' b,some (rD' n ks,false)]):=by
 have hK:=J5 h;have dU:=h.2.2.2;have hn:=h.1;have aa: ∀lo hi,(PX.lh (ks.map cD) lo hi).length<=30:=fun lo hi=>lq (rJ _ _ _) (by simpa using dU);have eT: ∀lo hi,(PX.lh (ks.map cD) lo hi).length<=1000:=fun lo hi=>lq (aa lo hi) (by lia);have eS: ∀lo hi,(PX.lh (ks.map cD) lo hi).length<=999:=fun lo hi=>lq (aa lo hi) (by lia);have ay:ks.length<=1000:=by lia
 obtain⟨p,a1,p0,p1,e1⟩:=jJ a b ((ks.length:Int)+1) (by lia) (by lia);obtain⟨w,a2,w0,w1,e2⟩:=jJ a1 b 9 (by lia) (by lia)
 have pre: ∀g,gE (G8 (vX [(gG 2),(gG 3)]) (ig 1)) (gE (ir 4 (gJ gC [(gq 0),(gp (gB iB (gp (gO (g1 mO) [(gq 3)])) (gp (fC (.int 1)))))])) (gE (ir 5 (gJ gC [(gq 0),(gp (fC (.int 9)))])) g)) [stt a b,some (rD' n ks,false),none,none,none,none,none,none,none]=g [stt a2 b,some (rD' n ks,false),ii n,some (.tup (ks.map cD),false),ii p,ii w,none,none,none]:=by
  intro g;refine(gz (δ1:=[stt a b,some (rD' n ks,false),ii n,some (.tup (ks.map cD),false),none,none,none,none,none]) rfl).trans ?_;refine(gz (δ1:=[stt a1 b,some (rD' n ks,false),ii n,some (.tup (ks.map cD),false),ii p,none,none,none,none]) ?_).trans ?_
  ·refine iN (i:=4) (δ1:=[stt a1 b,some (rD' n ks,false),ii n,some (.tup (ks.map cD),false),none,none,none,none,none]) (e1 _ [some (rD' n ks,false),ii n,some (.tup (ks.map cD),false),none,none,none,none,none] (.val (.int ((ks.length:Int)+1),false)) ?_ rfl) (show 4<9 by decide);simp
  ·exact gz (iN (i:=5) (δ1:=[stt a2 b,some (rD' n ks,false),ii n,some (.tup (ks.map cD),false),ii p,none,none,none,none]) (e2 _ [some (rD' n ks,false),ii n,some (.tup (ks.map cD),false),ii p,none,none,none,none] _ rfl rfl) (show 5<9 by decide))
 have w5: ∀(m:Int) (c:Bool) (s6 s7 s8:Sl),decide (w<m)=c->(fT (gB (jM .Lt) (gq 5) (gp (fC (.int m))))) [stt a2 b,some (rD' n ks,false),ii n,some (.tup (ks.map cD),false),ii p,ii w,s6,s7,s8]=some (c,[stt a2 b,some (rD' n ks,false),ii n,some (.tup (ks.map cD),false),ii p,ii w,s6,s7,s8]):=by
  intro m c s6 s7 s8 hm;exact ke (o:=false) (gY (o1:= .slot 5) (o2:= .val (.int m,false)) rfl rfl rfl rfl (by rw[LC,hm]))
 have bA: ∀(m:Int) (c:Bool) (s6 s7 s8:Sl),decide (w=m)=c->(fT (gB gEq (gq 5) (gp (fC (.int m))))) [stt a2 b,some (rD' n ks,false),ii n,some (.tup (ks.map cD),false),ii p,ii w,s6,s7,s8]=some (c,[stt a2 b,some (rD' n ks,false),ii n,some (.tup (ks.map cD),false),ii p,ii w,s6,s7,s8]):=by
  intro m c s6 s7 s8 hm;exact ke (o:=false) (gY (o1:= .slot 5) (o2:= .val (.int m,false)) rfl rfl rfl rfl (by rw[Ju,wW,hm]))
 by_cases k4:w<4
 ·
  obtain⟨pn,rfl⟩: ∃pn:Nat,p=pn:=⟨p.toNat,by lia⟩
  have i8:pn<(ks++[[1]]).length:=by simp;lia
  have p8:((ks++[[1]]).getD pn []).length<=5:=by
   have:=zV i8;rcases lK.mp this with hm|hm
   ·have:=(h.2.1.2 _ hm).len;lia
   ·simp only[mZ] at hm;rw[hm];decide
  obtain⟨a3,d,hd,e3⟩:=yA a2 b ((ks++[[1]]).getD pn []) p8 n;refine⟨a3,.tup [.int n,.tup (PX.lh (ks.map cD) none (some (pn:Int))++[d]++PX.lh (ks.map cD) (some ((pn:Int)+1)) none)],lR (wQ (fun c hc=>?_) (hK.cut _ _).2 ?_),?_⟩
  ·rcases lK.mp hc with hc|hc
   ·exact(hK.cut _ _).2 c hc
   ·simp only[mZ] at hc;rw[hc];exact hd
  ·have l1:=aa none (some (pn:Int));have l2:=aa (some ((pn:Int)+1)) none;rw[kZ];simp only[sQ];lia
  ·refine iV (δ:=[stt a3 b,some (rD' n ks,false),ii n,some (.tup (ks.map cD),false),ii pn,ii w,some (d,false),none,none]) ⟨rfl,by decide,rfl⟩ ((pre _).trans (gQ ((kB (w5 4 true _ _ _ (lN k4))).trans ?_)));have ix:gIx (.tup ((ks++[[1]]).map cD)) (.int pn)=some (cD ((ks++[[1]]).getD pn []),false):=ixc (cs:=ks++[[1]]) i8
   have t1:gB gIx (gp (gB iB (gq 3) (gp (jk [(jk [(fC (.int 1))])])))) (gq 4) [stt a2 b,some (rD' n ks,false),ii n,some (.tup (ks.map cD),false),ii pn,ii w,none,none,none]=some ((cD ((ks++[[1]]).getD pn []),false),[stt a2 b,some (rD' n ks,false),ii n,some (.tup (ks.map cD),false),ii pn,ii w,none,none,none]):=by
    refine gY (δ1:=[stt a2 b,some (rD' n ks,false),ii n,some (.tup (ks.map cD),false),ii pn,ii w,none,none,none]) (o1:= .val (.tup ((ks++[[1]]).map cD),false)) (o2:= .slot 4) (gH ?_) rfl rfl rfl ix;rw[pT];refine gY (o1:= .slot 3) (o2:= .val (.tup [cD [1]],false)) rfl (gH (by simp[ic])) rfl rfl (yK (by simpa using ay) (by simp))
   refine(gz (δ1:=[stt a3 b,some (rD' n ks,false),ii n,some (.tup (ks.map cD),false),ii pn,ii w,some (d,false),none,none]) ?_).trans (gQ (il ?_))
   ·exact iN (i:=6) (δ1:=[stt a3 b,some (rD' n ks,false),ii n,some (.tup (ks.map cD),false),ii pn,ii w,none,none,none]) (hZ (δ1:=[stt a2 b,some (rD' n ks,false),ii n,some (.tup (ks.map cD),false),ii pn,ii w,none,none,none]) (os:=[.slot 0,.val (cD ((ks++[[1]]).getD pn []),false),.slot 2]) (args:=[(.lst [.int a2,.bl b],true),enc ((ks++[[1]]).getD pn []),(.int n,false)]) (pL rfl (pM (gH t1) rfl)) rfl (show([0]:List Nat).Nodup by decide) e3) (show 6<9 by decide)
   ·generalize d=y;simp[kf,kG,gSl,yK,eT,eS,ic,ig]
 ·by_cases k6:w<6
  ·obtain⟨m,hm,m1,m5⟩: ∃m:Nat,(if(n:Int)>1 then(n:Int) else 1)=m/\1<=m/\m<=5:=by
    by_cases q:(n:Int)>1
    ·exact⟨n,by rw[gD q],by lia,hn⟩
    ·exact⟨1,by rw[gF q];rfl,by lia,by lia⟩
   obtain⟨a3,c,hc,e3⟩:=Ag a2 b m m1 m5;obtain⟨v,a4,v0,v1,e4⟩:=jJ a3 b 2 (by lia) (by lia);refine⟨a4,.tup [.int n,.tup (PX.lh (ks.map cD) none (some p)++[cD c]++PX.lh (ks.map cD) (some (p+v)) none)],lR (wQ (fun x hx=>?_) (hK.cut _ _).2 ?_),?_⟩
   ·rcases lK.mp hx with hx|hx
    ·exact(hK.cut _ _).2 x hx
    ·simp only[mZ] at hx;rw[hx];exact EV (by have:=hc.len;lia)
   ·have l1:=aa none (some p);have l2:=aa (some (p+v)) none;rw[kZ];simp only[sQ];lia
   ·refine iV (δ:=[stt a4 b,some (rD' n ks,false),ii n,some (.tup (ks.map cD),false),ii p,ii w,none,some (enc c),none]) ⟨rfl,by decide,rfl⟩ ((pre _).trans ((gz ((js (w5 4 false _ _ _ (ji k4))).trans rfl)).trans (gQ ((kB (w5 6 true _ _ _ (lN k6))).trans ?_))));refine(gz (δ1:=[stt a3 b,some (rD' n ks,false),ii n,some (.tup (ks.map cD),false),ii p,ii w,none,some (enc c),none]) ?_).trans (gQ (il ?_))
    ·exact iN (i:=7) (δ1:=[stt a3 b,some (rD' n ks,false),ii n,some (.tup (ks.map cD),false),ii p,ii w,none,none,none]) (hZ (δ1:=[stt a2 b,some (rD' n ks,false),ii n,some (.tup (ks.map cD),false),ii p,ii w,none,none,none]) (os:=[.slot 0,.val (.int m,false)]) (args:=[(.lst [.int a2,.bl b],true),(.int m,false)]) (pM rfl (gH (iQ (os:=[.val (.int 1,false),.slot 2]) rfl rfl (by rw[Sn,P0,hm])))) rfl (show([0]:List Nat).Nodup by decide) e3) (show 7<9 by decide)
    ·have t4:=e4 (gp (fC (.int 2))) [some (rD' n ks,false),ii n,some (.tup (ks.map cD),false),ii p,ii w,none,some (enc c),none] _ rfl rfl
     have s1:gB iB (gp (gB iB (gp (kf (gq 3) (gq 4))) (gp (jk [(ig 7)])))) (gp (kG (gq 3) (gp (gB iB (gq 4) (gp (gJ gC [(gq 0),(gp (fC (.int 2)))])))))) [stt a3 b,some (rD' n ks,false),ii n,some (.tup (ks.map cD),false),ii p,ii w,none,some (enc c),none]=some ((.tup (PX.lh (ks.map cD) none (some p)++[cD c]++PX.lh (ks.map cD) (some (p+v)) none),false),[stt a4 b,some (rD' n ks,false),ii n,some (.tup (ks.map cD),false),ii p,ii w,none,some (enc c),none]):=by
      refine gY (δ1:=[stt a3 b,some (rD' n ks,false),ii n,some (.tup (ks.map cD),false),ii p,ii w,none,some (enc c),none]) (o1:= .val (.tup (PX.lh (ks.map cD) none (some p)++[cD c]),false)) (o2:= .val (.tup (PX.lh (ks.map cD) (some (p+v)) none),false)) (gH ?_) (gH ?_) rfl rfl (yK (by simp[eS]) (eT _ _))
      ·simp[kf,gSl,yK,eT,eS,ic,ig]
      ·have t5:gB iB (gq 4) (gp (gJ gC [(gq 0),(gp (fC (.int 2)))])) [stt a3 b,some (rD' n ks,false),ii n,some (.tup (ks.map cD),false),ii p,ii w,none,some (enc c),none]=some ((.int (p+v),false),[stt a4 b,some (rD' n ks,false),ii n,some (.tup (ks.map cD),false),ii p,ii w,none,some (enc c),none]):=
        gY (o1:= .slot 4) (o2:= .val (.int v,false)) rfl (gH t4) rfl rfl rfl
       unfold kG;rw[show gq 3 [stt a3 b,some (rD' n ks,false),ii n,some (.tup (ks.map cD),false),ii p,ii w,none,some (enc c),none]=some (.slot 3,[stt a3 b,some (rD' n ks,false),ii n,some (.tup (ks.map cD),false),ii p,ii w,none,some (enc c),none]) from rfl];simp only[iA];rw[gH t5];rfl
     exact Dd (δ1:=[stt a3 b,some (rD' n ks,false),ii n,some (.tup (ks.map cD),false),ii p,ii w,none,some (enc c),none]) (o1:=false) rfl s1
  ·by_cases k7:w=6
   ·obtain⟨v,a3,v0,v1,e3⟩:=jJ a2 b 6 (by lia) (by lia);refine⟨a3,.tup [.int n,(b3L (ks.map cD) p).getD v.toNat .non],?_,?_⟩
    ·refine uU (P:=fun d=>OkR (.tup [.int n,d])) (uz (fun l e=>by cases e)) (fun d hd=>?_) _;simp only[b3L,jj,jL,kJ] at hd;rcases hd with rfl|rfl|rfl|rfl|rfl|rfl
     ·exact lR (wQ (hK.cut _ _).2 (hK.cut _ _).2 (by have l1:=aa none (some p);have l2:=aa (some (p-1)) none;lia))
     ·exact lR ⟨by simp;lia,fun c hc=>hK.2 c (by simpa using hc)⟩
     ·exact uz fun l e=>by cases e
     ·exact lR (wQ (hK.cut _ _).2 (hK.cut _ _).2 (by have l1:=aa none (some p);have l2:=aa (some p) none;lia))
     ·exact uz fun l e=>by cases e
     ·exact uz fun l e=>by cases e
    ·refine iV (δ:=[stt a3 b,some (rD' n ks,false),ii n,some (.tup (ks.map cD),false),ii p,ii w,none,none,lv (b3L (ks.map cD) p)]) ⟨rfl,by decide,rfl⟩ ((pre _).trans ((gz ((js (w5 4 false _ _ _ (ji k4))).trans rfl)).trans ((gz ((js (w5 6 false _ _ _ (ji k6))).trans rfl)).trans (gQ ((kB (bA 6 true _ _ _ (lN k7))).trans ?_)))));refine(gz (δ1:=[stt a2 b,some (rD' n ks,false),ii n,some (.tup (ks.map cD),false),ii p,ii w,none,none,lv (b3L (ks.map cD) p)]) ?_).trans (gQ (il ?_))
     ·simp[kf,kG,gSl,yK,eT,eS,ic,ig,Fp,OV,b3L,yo]
     ·have t3:gB gIx (gq 8) (gp (gJ gC [(gq 0),(gp (fC (.int 6)))])) [stt a2 b,some (rD' n ks,false),ii n,some (.tup (ks.map cD),false),ii p,ii w,none,none,lv (b3L (ks.map cD) p)]=some (((b3L (ks.map cD) p).getD v.toNat .non,false),[stt a3 b,some (rD' n ks,false),ii n,some (.tup (ks.map cD),false),ii p,ii w,none,none,lv (b3L (ks.map cD) p)]):=
       gY (o1:= .slot 8) (o2:= .val (.int v,false)) rfl (gH (e3 _ [some (rD' n ks,false),ii n,some (.tup (ks.map cD),false),ii p,ii w,none,none,lv (b3L (ks.map cD) p)] _ rfl rfl)) rfl rfl (ixl (L:=b3L (ks.map cD) p) v0 (by simpa[b3L] using v1))
      exact Dd (δ1:=[stt a2 b,some (rD' n ks,false),ii n,some (.tup (ks.map cD),false),ii p,ii w,none,none,lv (b3L (ks.map cD) p)]) (o1:=false) rfl t3
   ·by_cases k8:w=7
    ·obtain⟨v,a3,v0,v1,e3⟩:=jJ a2 b 9 (by lia) (by lia);refine⟨a3,.tup [(b4L n).getD v.toNat .non,.tup (ks.map cD)],lR hK,?_⟩;refine iV (δ:=[stt a3 b,some (rD' n ks,false),ii n,some (.tup (ks.map cD),false),ii p,ii w,none,none,none]) ⟨rfl,by decide,rfl⟩ ((pre _).trans ((gz ((js (w5 4 false _ _ _ (ji k4))).trans rfl)).trans ((gz ((js (w5 6 false _ _ _ (ji k6))).trans rfl)).trans ((gz ((js (bA 6 false _ _ _ (ji k7))).trans rfl)).trans (gQ ((kB (bA 7 true _ _ _ (lN k8))).trans (gQ (il ?_))))))))
     have t2:kj [(gB gSub (gq 2) (gp (fC (.int 1)))),(gB iB (gq 2) (gp (fC (.int 1)))),(fC (.int 6)),(jD mf (gp (fC (.int 1)))),(fC (.bl true)),(fC .non),(fC (.str "3")),(fC (.int 5)),(gB za (gp (fC (.int 10))) (gp (fC (.int 29))))] [stt a2 b,some (rD' n ks,false),ii n,some (.tup (ks.map cD),false),ii p,ii w,none,none,none]=some ((.lst (b4L n),true),[stt a2 b,some (rD' n ks,false),ii n,some (.tup (ks.map cD),false),ii p,ii w,none,none,none]):=by
      simp[ic,M5,b4L]
     have t3:=gY (g:=gIx) (o1:= .val (.lst (b4L n),true)) (o2:= .val (.int v,false)) (gH t2) (gH (e3 (gp (fC (.int 9))) [some (rD' n ks,false),ii n,some (.tup (ks.map cD),false),ii p,ii w,none,none,none] _ rfl rfl)) rfl rfl (ixl (L:=b4L n) v0 (by simpa[b4L] using v1));exact Dd (o2:=false) t3 rfl
    ·obtain⟨v,a3,v0,v1,e3⟩:=jJ a2 b 10 (by lia) (by lia);refine⟨a3,(b5L n (ks.map cD)).getD v.toNat .non,?_,?_⟩
     ·refine uU (P:=OkR) (vJ (fun l e=>by cases e)) (fun d hd=>?_) _;simp only[b5L,jj,jL,kJ] at hd;rcases hd with rfl|rfl|rfl|rfl|rfl|rfl|rfl|rfl|rfl|rfl
      ·exact vJ fun l e=>by cases e
      ·exact Bs (by simp)
      ·exact Bs (show ¬(1:Nat)=2 by decide)
      ·exact uz fun l e=>by cases e
      ·exact vJ fun l e=>by cases e
      ·exact vJ fun l e=>by cases e
      ·exact vJ fun l e=>by cases e
      ·exact Bs (by simp)
      ·exact vJ fun l e=>by cases e
      ·exact Qt h
     ·refine iV (δ:=[stt a3 b,some (rD' n ks,false),ii n,some (.tup (ks.map cD),false),ii p,ii w,none,none,lv (b5L n (ks.map cD))]) ⟨rfl,by decide,rfl⟩ ((pre _).trans ((gz ((js (w5 4 false _ _ _ (ji k4))).trans rfl)).trans ((gz ((js (w5 6 false _ _ _ (ji k6))).trans rfl)).trans ((gz ((js (bA 6 false _ _ _ (ji k7))).trans rfl)).trans ((gz ((js (bA 7 false _ _ _ (ji k8))).trans rfl)).trans ?_)))));refine(gz (δ1:=[stt a2 b,some (rD' n ks,false),ii n,some (.tup (ks.map cD),false),ii p,ii w,none,none,lv (b5L n (ks.map cD))]) ?_).trans (gQ (il ?_))
      ·simp[kf,kG,gSl,yK,ic,ig,b5L,yo]
      ·exact gY (o1:= .slot 8) (o2:= .val (.int v,false)) rfl (gH (e3 _ [some (rD' n ks,false),ii n,some (.tup (ks.map cD),false),ii p,ii w,none,none,lv (b5L n (ks.map cD))] _ rfl rfl)) rfl rfl (ixl (L:=b5L n (ks.map cD)) v0 (by simpa[b5L] using v1))
theorem Fq{i:Nat}{f:F}{δ δ1:Dn}{l0 l m:List D}(h0:δ[i]?=some (some (.lst l0,true)))(h1:f δ=some ((.lst m,true),δ1))(h3:δ1[i]?=some (some (.lst l,true)))(h4:l.length+m.length<=10000):
  pK i f δ=some ((.non,false),δ1.set i (some (.lst (l++m),true))):=by
 have h5:l.length+m.length<=sizeLine:=Lx h4;unfold pK;simp[h0,h1,h3,h5]
abbrev fbX:FS:=(gE (nc (pK 3 (kj [(ig 4),(gB iB (gq 4) (gp (jk [(ig 2)]))),(gB iB (gq 4) (gp (jk [(jD mf (gq 2))])))]))) gR)
def gr(i:Int)(cs:jv):List (List Int):=cs.flatMap fun c=>[c,c++[i],c++[-i]]
theorem Kv(n f:Sl)(i:Int): ∀(cs ls:jv) (x4:Sl),ls.length+3*cs.length<=5000->(∀c∈cs,c.length<=100)-> ∃l9,kU (gG 4) fbX (cs.map cD) [n,f,ii i,lv (ls.map cD),x4]=some (.nx [n,f,ii i,lv ((ls++gr i cs).map cD),l9])
 |[],ls,x4,_,_=>⟨x4,by simp[kU,gr]⟩
 |c::cs,ls,x4,hl,hc=>by
  have p8:=hc c iW;obtain⟨l9,e⟩:=Kv n f i cs (ls++[c,c++[i],c++[-i]]) (some (cD c,false)) (by simp at hl ⊢;lia) fun d hd=>hc d (jd _ hd);refine⟨l9,?_⟩;rw[iJ];unfold kU;rw[show gG 4 (cD c) [n,f,ii i,lv (ls.map cD),x4]=some [n,f,ii i,lv (ls.map cD),some (cD c,false)] from rfl];simp only[iA]
  have hL:kj [(ig 4),(gB iB (gq 4) (gp (jk [(ig 2)]))),(gB iB (gq 4) (gp (jk [(jD mf (gq 2))])))] [n,f,ii i,lv (ls.map cD),some (cD c,false)]=some ((.lst ([c,c++[i],c++[-i]].map cD),true),[n,f,ii i,lv (ls.map cD),some (cD c,false)]):=by
   have h1:(c.map D.int).length<=1000:=by simp;lia
   have h2:c.length<=1000:=by lia
   simp[ig,yK,ic,h2]
  have b1:fbX [n,f,ii i,lv (ls.map cD),some (cD c,false)]=some (.nx [n,f,ii i,lv ((ls++[c,c++[i],c++[-i]]).map cD),some (cD c,false)]):=by
   refine(gz (uw (Fq (i:=3) (l0:=ls.map cD) (l:=ls.map cD) rfl hL rfl (by simp at hl ⊢;lia)))).trans ?_;rw[pT];rfl
  rw[b1];simp only[iA];rw[e];simp[gr]
abbrev fbY:FS:=(gE (ir 3 (kj [])) (gE (oX (iU (ig 1)) (gG 4) fbX) (gE (ir 1 (ig 3)) gR)))
theorem Ff(i:Int): ∀cs:List (List Int),(gr i cs).length=3*cs.length
 |[]=>rfl
 |c::cs=>by
  have:=Ff i cs;simp only[gr,List.flatMap_cons,kZ,jO,nD] at this ⊢
  lia
theorem OU{i:Int}{cs:jv}{B:Nat}(h: ∀c∈cs,c.length<=B): ∀c∈gr i cs,c.length<=B+1:=by
 intro c hc;simp only[gr,List.mem_flatMap,jj,jL,kJ] at hc;obtain⟨d,hd,hc⟩:=hc;have:=h d hd;rcases hc with rfl|rfl|rfl<;>simp<;>lia
theorem OY(n:Sl)(i:Int)(cs:jv)(o:Bool)(x3 x4:Sl)(hl:cs.length<=1000)(hc: ∀c∈cs,c.length<=100): ∃au l9,fbY [n,some (.lst (cs.map cD),o),ii i,x3,x4]=some (.nx [n,some (.lst ((gr i cs).map cD),false),ii i,au,l9]):=by
 obtain⟨l9,e⟩:=Kv n (some (.lst (cs.map cD),false)) i cs [] x4 (by simp;lia) hc;refine⟨some (.lst ((gr i cs).map cD),false),l9,?_⟩;refine(gz (δ1:=[n,some (.lst (cs.map cD),o),ii i,lv ([].map cD),x4]) (by simp[ic])).trans ?_;refine(gz ((lP (ds:=cs.map cD) (δ1:=[n,some (.lst (cs.map cD),false),ii i,lv ([].map cD),x4]) rfl).trans e)).trans ?_;exact(gz (δ1:=[n,some (.lst ((gr i cs).map cD),false),ii i,some (.lst ((gr i cs).map cD),false),l9]) rfl).trans rfl
theorem QU(n:Sl): ∀(m j:Nat) (cs:jv) (o:Bool) (x2 x3 x4:Sl),cs.length*3^m<=1000->(∀c∈cs,c.length+m<=100)-> ∃(n9:jv) (o':Bool) (aD au l9:Sl),n9.length=cs.length*3^m/\(∀c∈n9,c.length<=100)/\kU (gG 2) fbY ((List.range' j m).map fun(k:Nat)=>D.int (k:Int)) [n,some (.lst (cs.map cD),o),x2,x3,x4]=some (.nx [n,some (.lst (n9.map cD),o'),aD,au,l9])
 |0,j,cs,o,x2,x3,x4,_,hc=>⟨cs,o,x2,x3,x4,by simp,fun c h=>by have:=hc c h;lia,rfl⟩
 |m+1,j,cs,o,x2,x3,x4,hl,hc=>by
  have hp:1<=3^m:=Nat.one_le_pow _ _ (by lia)
  have aQ:cs.length<=1000:=by
   have:cs.length*1<=cs.length*3^(m+1):=Nat.mul_le_mul_left _ (Nat.one_le_pow _ _ (by lia))
   lia
  obtain⟨y3,y4,e1⟩:=OY n j cs o x3 x4 aQ fun c h=>by have:=hc c h;lia
  have ax:(gr j cs).length*3^m<=1000:=by rw[Ff,qp 3,qf,<-Nat.pow_succ'];exact hl
  obtain⟨n9,o',aD,au,l9,h1,h2,e2⟩:=QU n m (j+1) (gr j cs) false (ii j) y3 y4 ax (fun c h=>by
   have h3: ∀d∈cs,d.length<=100-(m+1):=fun d hd=>by have:=hc d hd;lia
   have:=OU h3 c h
   have:m+1<=100:=by
    by_cases q:cs=[]
    ·subst q;simp[gr] at h
    ·obtain⟨d,hd⟩:=List.exists_mem_of_ne_nil cs q;have:=hc d hd;lia
   lia)
  refine⟨n9,o',aD,au,l9,by rw[h1,Ff,qp 3,qf,<-Nat.pow_succ'],h2,?_⟩;rw[xb,iJ];unfold kU;rw[show gG 2 (.int (j:Int)) [n,some (.lst (cs.map cD),o),x2,x3,x4]=some [n,some (.lst (cs.map cD),o),ii j,x3,x4] from rfl];simp only[iA];rw[e1];simp only[iA];exact e2
theorem MC(c:hU):gNe (cD c) (.tup [])=some (.bl (!decide (c=[])),false):=by
 unfold gNe;rw[gD ⟨by rw[qO];lia,by simp[D.dep,D.depL]⟩];cases c<;>simp[D.eqb,D.eqbL]
theorem KZ(x:Sl): ∀(cs acc:jv) (x:Sl),acc.length+cs.length<=10000-> ∃x',mJ (gG 0) (fT (gB gNe (gq 0) (gp (jk [])))) (jq (ig 0)) (cs.map cD) (acc.map cD) [x]=some ((acc++cs.filter fun c=>!decide (c=[])).map cD,[x'])
 |[],acc,x,_=>⟨x,by simp[mJ]⟩
 |c::cs,acc,x,hl=>by
  have hs:(acc.map cD).length<sizeLine:=by rw[ic];simp at hl ⊢;lia
  have t1:(fT (gB gNe (gq 0) (gp (jk [])))) [some (cD c,false)]=some (!decide (c=[]),[some (cD c,false)]):=
   ke (o:=false) (gY (o1:= .slot 0) (o2:= .val (.tup [],false)) rfl (gH (by simp[ic])) rfl rfl (MC c))
  rw[iJ,mJ,show gG 0 (cD c) [x]=some [some (cD c,false)] from rfl];simp only[iA];rw[t1];simp only[iA];by_cases h:c=[]
  ·obtain⟨x',e⟩:=KZ x cs acc (some (cD c,false)) (by simp at hl ⊢;lia);refine⟨x',?_⟩;rw[gF (by simp[h])];simp only[iA];rw[e];simp[h]
  ·obtain⟨x',e⟩:=KZ x cs (acc++[c]) (some (cD c,false)) (by simp at hl ⊢;lia);refine⟨x',?_⟩;rw[gD (by simp[h]),wJ,show ig 0 [some (cD c,false)]=some ((cD c,false),[some (cD c,false)]) from rfl];simp only[iA];rw[gD hs];simp only[iA];rw[pT] at e;rw[show acc.map cD++[cD c]=acc.map cD++[c].map cD from rfl,e];simp[h]
theorem yI: ∃cs:List (List Int),cs.length<=100/\(∀c∈cs,c.length<=100)/\jg [(.int 4,false)]=some ((.lst (cs.map cD),true),[ii 4]):=by
 obtain⟨cs,o',x2,x3,x4,h1,h2,e⟩:=QU (ii 4) 4 1 [[]] true none none none (by decide) (by simp);obtain⟨x',eb⟩:=KZ none cs [] none (by simp[h1])
 let fs:=cs.filter fun c=>!decide (c=[])
 have hf: ∀c∈fs,c∈cs/\c≠[]:=fun c h=>by simpa[fs] using h
 have hlen:fs.length<=cs.length:=List.length_filter_le _ _;obtain⟨ks,ek,hp⟩:=yu (jt ltT (fs.map cD));have eR:=hp.length_eq;refine⟨ks,by simp at h1;lia,fun c h=>h2 c (hf c (hp.mem_iff.mp h)).1,?_⟩;refine iV (δ:=[ii 4,some (.lst (cs.map cD),false),x2,x3,x4]) ⟨rfl,by decide,rfl⟩ ?_;refine(gz (δ1:=[ii 4,some (.lst ([[]].map cD),true),none,none,none]) (by simp[ic])).trans ?_
 have r1:BF (gp (fC (.int 1))) (gp (gB iB (gq 0) (gp (fC (.int 1))))) [ii 4,some (.lst ([[]].map cD),true),none,none,none]=some (((List.range' 1 4).map fun(k:Nat)=>D.int (k:Int)),[ii 4,some (.lst ([[]].map cD),true),none,none,none]):=by
  rw[Gx (o1:= .val (.int 1,false)) (o2:= .val (.int 5,false)) (i:=1) (j:=5) rfl rfl rfl rfl (by lia) (by lia)];rfl
 refine(gz ((lP r1).trans e)).trans (gQ (il (iQ (os:=[.val (.lst (fs.map cD),true)]) (mR (gH ?_)) rfl ?_)))
 ·unfold iY;rw[show iU (ig 1) [ii 4,some (.lst (cs.map cD),o'),x2,x3,x4]=some (cs.map cD,[ii 4,some (.lst (cs.map cD),false),x2,x3,x4]) from rfl];simp only[iA,oP,rm,hW,km,iH,nU,List.replicate_succ,List.replicate_zero];rw[show([]:List D)=([]:List (List Int)).map cD from rfl,eb];rfl
 ·show oB (.lst (fs.map cD))=_;simp only[oB,xx,iA,jG];rw[gD ⟨zv fs fun c h=>(hf c h).2,by rw[ic];simp at h1 ⊢;lia⟩,ek]
abbrev KY:FS:=(gE (ir 7 (gJ iR [(gq 6)])) (gE (sIf (mH (jX (fT (jD (oJ [.bool]) (gq 7)))) (fT (gB gNe (gq 7) (gp (gJ ml [(gq 6)]))))) (gE (ju (fC (.bl false))) gR) gR) gR))
theorem KW(d:D)(hd:OkR d)(c0 c1 c2 c3 c4 c5 c7:Sl): ∃cz,KY [c0,c1,c2,c3,c4,c5,some (d,false),c7]=some (.nx [c0,c1,c2,c3,c4,c5,some (d,false),cz]):=by
 refine⟨some (.bl (rB d),false),?_⟩;refine(gz (δ1:=[c0,c1,c2,c3,c4,c5,some (d,false),some (.bl (rB d),false)]) ?_).trans ?_
 ·exact iN (i:=7) (δ1:=[c0,c1,c2,c3,c4,c5,some (d,false),c7]) (hZ (δ1:=[c0,c1,c2,c3,c4,c5,some (d,false),c7]) (os:=[.slot 6]) (args:=[(d,false)]) rfl rfl km (oI d hd)) (show 7<8 by decide)
 ·refine(gz ((js (δ1:=[c0,c1,c2,c3,c4,c5,some (d,false),some (.bl (rB d),false)]) ((nN (kg (b:=true) rfl)).trans (ke (o:=false) ?_))).trans rfl)).trans rfl;refine gY (o1:= .slot 7) (y:= .bl (rB d)) rfl (gH (hZ (δ1:=[c0,c1,c2,c3,c4,c5,some (d,false),some (.bl (rB d),false)]) (os:=[.slot 6]) (args:=[(d,false)]) rfl rfl km (Fu d hd))) rfl rfl ?_;rw[PZ];simp
theorem Na(c0 c1 c2 c3 c4 c5:Sl): ∀(ds:List D) (c6 c7:Sl),(∀d∈ds,OkR d)-> ∃eZ cz,kU (gG 6) KY ds [c0,c1,c2,c3,c4,c5,c6,c7]=some (.nx [c0,c1,c2,c3,c4,c5,eZ,cz])
 |[],c6,c7,_=>⟨c6,c7,rfl⟩
 |d::ds,c6,c7,h=>by
  obtain⟨cz,e⟩:=KW d (h d iW) c0 c1 c2 c3 c4 c5 c7;obtain⟨c6'',c7'',e'⟩:=Na c0 c1 c2 c3 c4 c5 ds (some (d,false)) cz fun x hx=>h x (jd _ hx);refine⟨c6'',c7'',?_⟩;unfold kU;rw[show gG 6 d [c0,c1,c2,c3,c4,c5,c6,c7]=some [c0,c1,c2,c3,c4,c5,some (d,false),c7] from rfl];simp only[iA];rw[e];simp only[iA];exact e'
abbrev fbM:FS:=(gE (ir 2 (gJ kW [(gq 0),(gq 1)])) (gE (ir 3 (gJ mC [(gq 2),(gp (fC (.int 0))),(gp (fC (.int 5)))])) (gE (sIf (fT (gB Fl (gp (gJ iR [(gq 3)])) (gp (fC (.bl true))))) (gE (ju (fC (.bl false))) gR) gR) (gE (ir 4 (gJ gC [(gq 2),(gp (fC (.int 49)))])) (gE (ir 5 (jk [(fC (.int 4)),(gO (g1 kL) [(gp (fSl (gp (gJ jg [(gp (fC (.int 4)))])) (gq 4) (gp (gB iB (gp (gB iB (gq 4) (gp (fC (.int 29))))) (gp (gJ gC [(gq 2),(gp (fC (.int 3)))]))))))])])) (gE (oX (iU (kj [(gJ jS [(gq 2),(gq 3)]),(gJ jS [(gq 2),(gq 3)]),(gJ jS [(gq 2),(gq 3)]),(ig 5)])) (gG 6) KY) gR))))))
theorem OH{n:Nat}{ks:jv}(h:FP n ks):OkR (rD' n ks):=lR (J5 h)
theorem BU(a:Int)(b:Bool)(n:Nat)(ks:jv)(h:FP n ks): ∃d a',OkR d/\ ∀(c0 c1:Sl) (δ:Dn),gJ jS [(gq 2),(gq 3)] (c0::c1::stt a b::some (rD' n ks,false)::δ)=some ((d,false),c0::c1::stt a' b::some (rD' n ks,false)::δ):=by
 obtain⟨a',d,hd,e⟩:=HJ a b n ks h;refine⟨d,a',hd,fun c0 c1 δ=>?_⟩;exact hZ (δ1:=c0::c1::stt a b::some (rD' n ks,false)::δ) (os:=[.slot 2,.slot 3]) (args:=[(.lst [.int a,.bl b],true),(rD' n ks,false)]) rfl rfl (show([2]:List Nat).Nodup by decide) e
theorem Pb(ns:hU)(k:Nat)(c2 c3 c4 c5 c6 c7:Sl): ∃d2 d3 d4 d5 d6 d7,fbM [some (.lst (ns.map .int),false),some (.int k,false),c2,c3,c4,c5,c6,c7]=some (.nx [some (.lst (ns.map .int),false),some (.int k,false),d2,d3,d4,d5,d6,d7]):=by
 let z0:Sl:=some (.lst (ns.map .int),false)
 let z1:Sl:=some (.int k,false)
 obtain⟨a,b,e0⟩:=Je ns k;obtain⟨a1,n,ks,hr,_,_,e1⟩:=G9 a b 0 5 (by omega) (by omega);obtain⟨v,a2,v0,v1,e2⟩:=Co a1 b 49 (by omega) (by omega);obtain⟨cs,p8,aT,e3⟩:=yI;obtain⟨u,a3,u0,u1,e4⟩:=Co a2 b 3 (by omega) (by omega);obtain⟨x1,b1,hx1,f1⟩:=BU a3 b n ks hr;obtain⟨x2,b2,eL,f2⟩:=BU b1 b n ks hr;obtain⟨x3,b3,hx3,f3⟩:=BU b2 b n ks hr
 let gt:D:= .tup [.int 4,.tup (PX.lh (cs.map cD) (some v) (some (v+29+u)))]
 have hg:OkR gt:=lR (OkL.cut ⟨by simpa using p8,fun d hd=>by
  obtain⟨c,hc,rfl⟩:=nQ.mp hd;exact EV (aT c hc)⟩ _ _)
 let R:Sl:=some (rD' n ks,false)
 obtain⟨eZ,cz,e7⟩:=Na z0 z1 (stt b3 b) R (ii v) (some (gt,false)) [x1,x2,x3,gt] c6 c7 (by
  intro d hd;simp only[jj,jL,kJ] at hd;rcases hd with rfl|rfl|rfl|rfl
  ·exact hx1
  ·exact eL
  ·exact hx3
  ·exact hg)
 refine⟨stt b3 b,R,ii v,some (gt,false),eZ,cz,?_⟩;refine(gz (δ1:=[z0,z1,stt a b,c3,c4,c5,c6,c7]) ?_).trans ?_
 ·exact iN (i:=2) (δ1:=[z0,z1,c2,c3,c4,c5,c6,c7]) (hZ (δ1:=[z0,z1,c2,c3,c4,c5,c6,c7]) (os:=[.slot 0,.slot 1]) (args:=[(.lst (ns.map .int),false),(.int k,false)]) rfl rfl km e0) (show 2<8 by decide)
 refine(gz (δ1:=[z0,z1,stt a1 b,R,c4,c5,c6,c7]) ?_).trans ?_
 ·exact iN (i:=3) (δ1:=[z0,z1,stt a1 b,c3,c4,c5,c6,c7]) (hZ (δ1:=[z0,z1,stt a b,c3,c4,c5,c6,c7]) (os:=[.slot 2,.val (.int 0,false),.val (.int 5,false)]) (args:=[(.lst [.int a,.bl b],true),(.int 0,false),(.int 5,false)]) rfl rfl (show([2]:List Nat).Nodup by decide) e1) (show 3<8 by decide)
 refine(gz ((js (δ1:=[z0,z1,stt a1 b,R,c4,c5,c6,c7]) (ke (o:=false) (gY (x:= .bl (rB (rD' n ks))) (o2:= .val (.bl true,false)) (gH (hZ (δ1:=[z0,z1,stt a1 b,R,c4,c5,c6,c7]) (os:=[.slot 3]) (args:=[(rD' n ks,false)]) rfl rfl km (oI _ (OH hr)))) rfl rfl rfl (by rw[Qc hr];rfl)))).trans rfl)).trans ?_;refine(gz (δ1:=[z0,z1,stt a2 b,R,ii v,c5,c6,c7]) ?_).trans ?_
 ·exact iN (i:=4) (δ1:=[z0,z1,stt a2 b,R,c4,c5,c6,c7]) (e2 _ z0 z1 [R,c4,c5,c6,c7] (.val (.int 49,false)) rfl rfl) (show 4<8 by decide)
 refine(gz (δ1:=[z0,z1,stt a3 b,R,ii v,some (gt,false),c6,c7]) ?_).trans ?_
 ·refine iN (i:=5) (δ1:=[z0,z1,stt a3 b,R,ii v,c5,c6,c7]) (r:=(gt,false)) ?_ (show 5<8 by decide)
  have ar:gJ jg [(gp (fC (.int 4)))] [z0,z1,stt a2 b,R,ii v,c5,c6,c7]=some ((.lst (cs.map cD),true),[z0,z1,stt a2 b,R,ii v,c5,c6,c7]):=
   hZ (δ1:=[z0,z1,stt a2 b,R,ii v,c5,c6,c7]) (os:=[.val (.int 4,false)]) (args:=[(.int 4,false)]) rfl rfl km e3
  have q9:gB iB (gp (gB iB (gq 4) (gp (fC (.int 29))))) (gp (gJ gC [(gq 2),(gp (fC (.int 3)))])) [z0,z1,stt a2 b,R,ii v,c5,c6,c7]=some ((.int (v+29+u),false),[z0,z1,stt a3 b,R,ii v,c5,c6,c7]):=
   gY (δ1:=[z0,z1,stt a2 b,R,ii v,c5,c6,c7]) (o1:= .val (.int (v+29),false)) (o2:= .val (.int u,false)) rfl (gH (e4 _ z0 z1 [R,ii v,c5,c6,c7] (.val (.int 3,false)) rfl rfl)) rfl rfl rfl
  have g3':fSl (gp (gJ jg [(gp (fC (.int 4)))])) (gq 4) (gp (gB iB (gp (gB iB (gq 4) (gp (fC (.int 29))))) (gp (gJ gC [(gq 2),(gp (fC (.int 3)))])))) [z0,z1,stt a2 b,R,ii v,c5,c6,c7]=some ((.lst (PX.lh (cs.map cD) (some v) (some (v+29+u))),true),[z0,z1,stt a3 b,R,ii v,c5,c6,c7]):=by
   unfold fSl;rw[gH ar];simp only[iA];rw[show gq 4 [z0,z1,stt a2 b,R,ii v,c5,c6,c7]=some (.slot 4,[z0,z1,stt a2 b,R,ii v,c5,c6,c7]) from rfl];simp only[iA];rw[gH q9];rfl
  exact Dd (o1:=false) (δ1:=[z0,z1,stt a2 b,R,ii v,c5,c6,c7]) rfl (iQ (os:=[.val (.lst (PX.lh (cs.map cD) (some v) (some (v+29+u))),true)]) (mR (gH g3')) rfl rfl)
 refine(gz (δ1:=[z0,z1,stt b3 b,R,ii v,some (gt,false),eZ,cz]) ?_).trans rfl;refine(lP (zU (o:=true) (l:=[x1,x2,x3,gt]) (δ1:=[z0,z1,stt b3 b,R,ii v,some (gt,false),c6,c7]) (MF (os:=[.val (x1,false),.val (x2,false),.val (x3,false),.val (gt,false)]) ?_ rfl (by rw[ic];simp)))).trans e7;simp only[iJ,oP];refine pL (gH (f1 z0 z1 [ii v,some (gt,false),c6,c7])) (pL (gH (f2 z0 z1 [ii v,some (gt,false),c6,c7])) (pL (gH (f3 z0 z1 [ii v,some (gt,false),c6,c7])) ?_));rfl
theorem Nb(ns:hU): ∀(m j:Nat) (c1 c2 c3 c4 c5 c6 c7:Sl),∃d1 d2 d3 d4 d5 d6 d7,kU (gG 1) fbM ((List.range' j m).map fun(k:Nat)=>D.int (0+(k:Int))) [some (.lst (ns.map .int),false),c1,c2,c3,c4,c5,c6,c7]=some (.nx [some (.lst (ns.map .int),false),d1,d2,d3,d4,d5,d6,d7])
 |0,j,c1,c2,c3,c4,c5,c6,c7=>⟨c1,c2,c3,c4,c5,c6,c7,rfl⟩
 |m+1,j,c1,c2,c3,c4,c5,c6,c7=>by
  obtain⟨d2,d3,d4,d5,d6,d7,e⟩:=Pb ns j c2 c3 c4 c5 c6 c7;obtain⟨f1,f2,f3,f4,f5,f6,f7,e'⟩:=Nb ns m (j+1) (some (.int j,false)) d2 d3 d4 d5 d6 d7;refine⟨f1,f2,f3,f4,f5,f6,f7,?_⟩;rw[xb,iJ];unfold kU;rw[show gG 1 (.int (0+(j:Int))) [some (.lst (ns.map .int),false),c1,c2,c3,c4,c5,c6,c7]=some [some (.lst (ns.map .int),false),some (.int j,false),c2,c3,c4,c5,c6,c7] from by rw[Int.zero_add];rfl];simp only[iA];rw[e];simp only[iA];exact e'
theorem Ph(m:Int)(b:Bool)(δ:Dn)(h:rB (.tup [.int m,.tup []])=b):gB gIs (gp (gJ iR [(gp (jk [(fC (.int m)),(jk [])]))])) (gp (fC (.bl b))) δ=some ((.bl true,false),δ):=by
 have t:jk [(fC (.int m)),(jk [])] δ=some ((.tup [.int m,.tup []],false),δ):=Dd (o1:=false) (o2:=false) (δ1:=δ) rfl (by simp[ic]);refine gY (δ1:=δ) (gH (r:=(.bl (rB (.tup [.int m,.tup []])),false)) (hZ (δ1:=δ) (os:=[.val (.tup [.int m,.tup []],false)]) (args:=[(.tup [.int m,.tup []],false)]) (mR (gH t)) rfl km (oI _ (lR ⟨by simp,by simp⟩)))) rfl rfl rfl ?_;rw[h];cases b<;>rfl
theorem KH{f g:F}{δ δ1:Dn}{o:Bool}(h:f δ=some ((.bl true,o),δ1)):tX f g δ=g δ1:=by rw[EG,h];rfl
theorem Pu(ns:hU)(hl:ns.length<=63): ∃o outs,Ab [(.lst (ns.map .int),false)]=some ((.bl true,o),outs):=by
 let z0:Sl:=some (.lst (ns.map .int),false)
 let N:Nat:=if 1<min ns.length 12 then min ns.length 12 else 1
 obtain⟨d1,d2,d3,d4,d5,d6,d7,e⟩:=Nb ns N 0 none none none none none none none;refine⟨false,_,iV (δ:=[z0,d1,d2,d3,d4,d5,d6,d7]) ⟨rfl,by decide,rfl⟩ ?_⟩;refine(gz (δ1:=[z0,d1,d2,d3,d4,d5,d6,d7]) ((lP (ds:=(List.range' 0 N).map fun(k:Nat)=>D.int (0+(k:Int))) (δ1:=[z0,none,none,none,none,none,none,none]) ?_).trans e)).trans (gQ (il ?_))
 ·have:iD 0 N=(List.range' 0 N).map fun(k:Nat)=>D.int (0+(k:Int)):=by
   unfold iD;rw[Iu]
  rw[<-this];refine wR (o:= .val (.int N,false)) (gH ?_) rfl (by simp only[N];split<;>omega)
  have hN:(N:Int)=if(if(12:Int)<ns.length then 12 else(ns.length:Int))>1 then(if(12:Int)<ns.length then 12 else(ns.length:Int)) else 1:=by
   simp only[N];split<;>split<;>split<;>omega
  rw[hN];simp[z0]
 ·exact(KH (Ph 0 true _ rfl)).trans ((KH (Ph 5 true _ rfl)).trans (Ph 6 false _ rfl))
end PV
theorem K11.main(ns:hU)(hl:ns.length<=63): ∃o outs,PV.Ab [(.lst (ns.map .int),false)]=some ((.bl true,o),outs):=PV.Pu ns hl
namespace PySem.W.Fast
def tw12740244472066088380:=()
def tw10713236160273277763:=()
def tw18194936996877295681:=()
def tw2619747878306908131:=()
def tw12458943343326994882:=()
def tw1144660346434200732:=()
def tw5968165860470151244:=()
def tw2155335277685542909:=()
def tw18398458770940613718:=()
def tw11786695477693434199:=()
def tw12053341215841551567:=()
def tw3690070821741456223:=()
def tw14684650233455268743:=()
def tw18287314961784929929:=()
def tw10515376471631102674:=()
def tw2681690275680639786:=()
def tw16812506800646740195:=()
def tw3868106066699143227:=()
def tw8396900008452302841:=()
def tw5246670233213453172:=()
def tw11379267674815917368:=()
def tw1438794767627393362:=()
def tw13158934236219891063:=()
def tw3600432012620886659:=()
def tw13140189700185675123:=()
def tw15496533599630897864:=()
def tw12628932429365919385:=()
def tw9660243721914631340:=()
def tw11645740360031465671:=()
def tw13352721579464024285:=()
def tw7218979735714796052:=()
def tw16613696814539696686:=()
def tw7952352845538135132:=()
def tw11556372926549089278:=()
def tw244501836657446178:=()
def tw780674011626324424:=()
def tw2638123536956615004:=()
def tw5033962810665132453:=()
def tw257072117510885447:=()
def tw18197171942246074880:=()
def tw1700982857858602173:=()
def tw17141759691275790494:=()
def tw15488774938183504432:=()
def tw68290689972304951:=()
def tw10961902208725582400:=()
def tw10532731967271180878:=()
def tw227065647560447991:=()
def tw13890160722050413329:=()
def tw12922052745097990129:=()
def tw5433391352403995246:=()
def tw7694805261383599169:=()
def tw12298386089665853756:=()
def tw8528119202660708535:=()
def tw14615679133040643129:=()
def tw14769052375935997005:=()
def tw14927332634390887497:=()
def tw1015131064381943128:=()
def tw14691844768500364708:=()
def tw5691144954934024013:=()
def tw6372353315570889118:=()
def tw8675543136272113233:=()
end PySem.W.Fast
open PySem PySem.W PyProof.Rows PX
set_option maxRecDepth 100000 in
set_option maxHeartbeats 0 in
theorem PySem.Challenge.cw_twinriddles_k11_riddles_looked_at_holds : PySem.Challenge.rw_twinriddles_k11_riddles_looked_at.Holds := by
  w_on; o_law; k_head; (case hw => w_witness2)
  k_fill
  refine walkG (l := PySem.Challenge.rw_twinriddles_k11_riddles_looked_at) (LV := 8) (x := "_law_script") ⟨rfl, by decide, by decide⟩ rfl rfl (fun w h Y => PySem.W.kIn_of Y) ?F K11.main
  case F =>
   intro w mg fa h KX G hmg
   refine' K11.all_mk hmg (txK KX G ?_ ?_ ?_ ?_ ?_ ?_ ?_ ?_ ?_ ?_ ?_ ?_ ?_ ?_ ?_ ?_) ?_ ?_ ?_ ?_ ?_ ?_ ?_ ?_ ?_ ?_ ?_ ?_ ?_ ?_ ?_ ?_ ?_ ?_ ?_ ?_ ?_ ?_ ?_ ?_ ?_ ?_ ?_ ?_
   all_goals first|k_is|(refine' fz KX G ?_ ?_ ?_ ?_<;>try k_is)|(refine' mgI KX G ?_<;>try k_is)
