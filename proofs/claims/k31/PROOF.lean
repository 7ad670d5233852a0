import PyProof.Rows.All
import Wide.All
import OpenK.AllK
import Wide.FinOn
import PyProof.EqAt
import PyProof.EqKinds
import PyProof.TupleCall
import Lean
import PySem.Challenge.RW_twinriddles_k31_likenesses
set_option Elab.async false
set_option linter.all false
set_option maxRecDepth 100000
set_option maxHeartbeats 8000000
noncomputable section
section
open PySem PySem.Spec PyProof.Rows
abbrev hC:=Value->Shared->Prop
abbrev gZ:=List (Addr×Obj)
abbrev gK:=PySem.W.Frag
abbrev ik:=List (List Int)
abbrev gB:=List Int
abbrev iL:=List Value
abbrev lL:=Str->Option Value
abbrev jf:=List Nat
abbrev sM:=Array (Int×Value)
abbrev lU:=Array Value
abbrev hW:=List Str
abbrev jm:=List Expr
abbrev qM:=Bool->Shared->Prop
abbrev Hn:=Option Value->Shared->Prop
abbrev xi:=Value->Value->Sem Value
abbrev uL:=Array (Option Nat)
abbrev uK:=Array (Option Value)
abbrev kg:=List (Str×Addr)
abbrev oi:=List Comprehension
abbrev AB:=Array Keyed
abbrev iZ:=Nat->Prop
abbrev jl:=List Addr
abbrev gn:=Shared
abbrev gR:=Program
abbrev gM:=Around
abbrev gJ:=World
abbrev qL:=SortSt
abbrev ll:=SetTable
abbrev gA:=Value
abbrev nD:=Comprehension
abbrev lW:=FuncData
abbrev jb:=Scope
abbrev gy:=Expr
abbrev gP:=Heap
abbrev gm:=Addr
end
section
open PySem PySem.Spec PyProof.Rows PySem.SeqAt
def gk:=@wpAny_bind
def gw:=@wpAny_pure
theorem gD:type_of% @if_pos:=@if_pos
theorem gL:type_of% @if_neg:=@if_neg
theorem iu:type_of% @List.map_cons:=@List.map_cons
theorem ir:type_of% @Option.bind_some:=@Option.bind_some
theorem iO:type_of% @Nat.le_refl:=@Nat.le_refl
theorem iN:type_of% @sizeLine_eq:=@sizeLine_eq
def iW:=@Heap.get?_push_of_some
def ja:=@Heap.lt_size
theorem hX:type_of% @List.getElem?_eq_getElem:=@List.getElem?_eq_getElem
theorem kZ:type_of% @List.mem_map:=@List.mem_map
theorem jr:type_of% @List.mem_cons:=@List.mem_cons
theorem iz:type_of% @List.size_toArray:=@List.size_toArray
theorem iw:type_of% @Bool.false_eq_true:=@Bool.false_eq_true
def iD:=@Nat.ne_of_lt
def iF:=@List.mem_cons_self
def iK:=@List.mem_cons_of_mem
theorem iJ:type_of% @List.length_map:=@List.length_map
theorem iI:type_of% @List.map_map:=@List.map_map
theorem iQ:type_of% @if_false:=@if_false
def je:=@Bool.false_ne_true
theorem ji:type_of% @Array.length_toList:=@Array.length_toList
theorem jh:type_of% @if_true:=@if_true
def jw:=@Option.some.inj
def jv:=@Heap.get?_push_size
theorem ju:type_of% @List.length_cons:=@List.length_cons
theorem kn:type_of% @List.all_eq_true:=@List.all_eq_true
theorem pK:type_of% @List.mem_append:=@List.mem_append
def uQ:=@List.getElem?_eq_some_iff
theorem jT:type_of% @List.not_mem_nil:=@List.not_mem_nil
def kb:=@Nat.zero_le
def ku:=@Nat.le_trans
def kr:=@wpAny_holding
theorem kY:type_of% @List.getElem?_map:=@List.getElem?_map
theorem kX:type_of% @Bool.and_eq_true:=@Bool.and_eq_true
def kW:=@wpAny_newObj_type
theorem kU:type_of% @or_false:=@or_false
theorem lr:type_of% @decide_eq_false:=@decide_eq_false
def lq:=@Array.getElem?_toList
def lN:=@List.mem_of_getElem?
theorem lM:type_of% @List.length_append:=@List.length_append
def lX:=@congrArg
def nI:=@List.pairwise_map
theorem mF:type_of% @List.map_append:=@List.map_append
theorem mE:type_of% @List.nodup_nil:=@List.nodup_nil
def mS:=@Nat.lt_of_lt_of_le
theorem mR:type_of% @List.map_nil:=@List.map_nil
def rR:=@List.pairwise_append
theorem mQ:type_of% @List.map_congr_left:=@List.map_congr_left
def mP:=@PySem.W.mg_none_of
def nH:=@wpAny_call_entry
theorem nG:type_of% @decide_eq_true:=@decide_eq_true
theorem nF:type_of% @not_or:=@not_or
def nE:=@List.map_id
theorem rQ:type_of% @List.mem_range:=@List.mem_range
theorem oq:type_of% @List.lookup_cons:=@List.lookup_cons
theorem oo:type_of% @List.getD_eq_getElem?_getD:=@List.getD_eq_getElem?_getD
def om:=@Array.getElem?_eq_getElem
theorem oj:type_of% @Bool.not_true:=@Bool.not_true
theorem ph:type_of% @Nat.lt_irrefl:=@Nat.lt_irrefl
def pe:=@wpAny_mono
def pd:=@Nat.ne_of_gt
def oZ:=@List.mem_append_right
theorem oY:type_of% @List.length_take:=@List.length_take
def oX:=@List.getElem?_append_right
theorem oW:type_of% @List.append_assoc:=@List.append_assoc
theorem oV:type_of% @List.length_nil:=@List.length_nil
def oU:=@codeAny_builtin
def Dz:=@List.pairwise_cons
def qA:=@Ne.symm
theorem qz:type_of% @List.getElem?_append_left:=@List.getElem?_append_left
def qy:=@wpAny_field
def qx:=@wpAny_typeOf
def qw:=@Heap.size_push
def qv:=@wpAny_of_eq
def qu:=@Around.under_plainId
def qt:=@Heap.SameBut.update
theorem qr:type_of% @List.nil_append:=@List.nil_append
theorem qQ:type_of% @Int.toNat_natCast:=@Int.toNat_natCast
def qP:=@List.getElem?_of_mem
theorem qO:type_of% @decide_eq_true_eq:=@decide_eq_true_eq
def qN:=@wpAny_setState_of
def tE:=@List.getElem?_set_ne
def tD:=@eq_of_beq
def tx:=@Heap.get?_update_self
theorem tw:type_of% @bne_self_eq_false:=@bne_self_eq_false
def tq:=@wpAny_rule
def tj:=@Nat.lt_succ_of_lt
def tf:=@plainId_quiet
def sZ:=@Obj.data_mapFields
def JV:=@Array.getElem?_eq_some_iff
def sY:=@List.mem_map_of_mem
theorem Fb:type_of% @List.mem_filter:=@List.mem_filter
def uP:=@List.filterMap_cons
def uO:=@List.getElem?_set_self
theorem zU:type_of% @List.nodup_cons:=@List.nodup_cons
def uN:=@wpAny_callSpecial?_slot
def ye:=@PyProof.Rows.slot_tuple_getitem
theorem uM:type_of% @List.length_set:=@List.length_set
theorem pT:type_of% @bind_assoc:=@bind_assoc
def pS:=@Nat.lt_succ_self
def pR:=@PySem.W.kia_one
def pQ:=@PySem.W.kia_tup
def pP:=@wpAny_seqItems
def pO:=@wpAny_forIn_list
def pN:=@Nat.pow_succ
def pM:=@Nat.mul_assoc
def qY:=@codeAny_mono
def Kz:=@Option.isSome_iff_exists
def qX:=@PySem.mem_of_lookup
theorem qW:type_of% @List.any_cons:=@List.any_cons
theorem qV:type_of% @List.foldl_cons:=@List.foldl_cons
def qU:=@List.exists_cons_of_length_pos
theorem qT:type_of% @List.zip_cons_cons:=@List.zip_cons_cons
def qR:=@wpAny_specialOf
def Ky:=@PySem.F.called_set
theorem xH:type_of% @beq_eq_false_iff_ne:=@beq_eq_false_iff_ne
def uv:=@wpAny_truthy_bool
def ur:=@wpAny_passesOwn
def IL:=@List.mem_singleton
theorem uq:type_of% @List.all_cons:=@List.all_cons
def uo:=@Prod.mk.inj
def um:=@wpAny_setField
def uk:=@wpAny_attempt
def uj:=@List.take_append_drop
def ui:=@List.cons.inj
def uh:=@listUpdate_at
def ug:=@List.Perm.refl
def uf:=@Nat.mul_add
theorem ue:type_of% @Array.getD_eq_getD_getElem?:=@Array.getD_eq_getD_getElem?
theorem ud:type_of% @Bool.true_and:=@Bool.true_and
def ND:=@List.length_eq_zero_iff
theorem xG:type_of% @List.mem_flatMap:=@List.mem_flatMap
def wz:=@Nat.le_of_lt
def wy:=@wpAny_standAt
def wx:=@wpAny_load
def wu:=@List.take_sublist
def wt:=@Heap.get?_update_other
theorem wq:type_of% @List.length_singleton:=@List.length_singleton
def wo:=@wpAny_askSetting
theorem wm:type_of% @List.find?_cons:=@List.find?_cons
def wk:=@tupleKind_room_in1
theorem Dx:type_of% @List.getElem?_zip_eq_some:=@List.getElem?_zip_eq_some
def wj:=@List.drop_eq_getElem_cons
def wg:=@wpAny_isInstance
theorem F9:type_of% @List.pairwise_reverse:=@List.pairwise_reverse
def we:=@List.mem_of_mem_take
theorem wd:type_of% @Nat.add_assoc:=@Nat.add_assoc
theorem wc:type_of% @Nat.zero_add:=@Nat.zero_add
def wa:=@get?_update_seq
def vZ:=@Bool.or_eq_true
def vY:=@Nat.mul_comm
def vX:=@Nat.mul_one
def vW:=@Nat.mod_lt
theorem vV:type_of% @List.cons_append:=@List.cons_append
def vU:=@List.length_filter_le
def yA:=@Int.mul_one
def yz:=@wpAny_pyIter_list
theorem yy:type_of% @List.append_nil:=@List.append_nil
def yx:=@wpAny_Call_Name_kw
theorem yw:type_of% @List.length_drop:=@List.length_drop
def yv:=@IsTup.new
def yu:=@List.reverse_cons
def yt:=@codeAny_of_tree
theorem yq:type_of% @Function.comp_def:=@Function.comp_def
def yp:=@List.drop_eq_nil_of_le
def yo:=@wpAny_setField_rec
def yn:=@List.reverse_perm
def ym:=@List.eq_nil_of_length_eq_zero
def P5:=@List.length_pos_iff
def yk:=@seqEpoch_at
def yj:=@Nat.pow_le_pow_right
theorem yi:type_of% @Bool.not_false:=@Bool.not_false
def yh:=@List.length_eraseIdx
theorem yg:type_of% @List.isEmpty_nil:=@List.isEmpty_nil
def AD:=@PySem.F.slot_dict_keyiterator_next
def Ho:=@PySem.F.slot_tuple_hash
def yf:=@List.nodup_append
def Co:=@Paired.length
def Cn:=@List.mem_append_left
def Cm:=@boot_range
def Ck:=@PyProof.Rows.callWith_type1
def Cj:=@PySem.W.cellsFrom_some
def Ci:=@concat_meets
def Cg:=@slicePart_none
def Cf:=@Nat.le_succ
def Ce:=@call_meets
def Cd:=@Nat.lt_trans
def Cc:=@Heap.SameBut.refl
def Cb:=@List.getElem?_set
def Ca:=@List.any_map
def B9:=@List.ext_getElem?
def B8:=@wpAny_runValue
def B7:=@Obj.isFreed_of_fields
def B6:=@Obj.cls_mapFields
def BZ:=@wpAny_onRaise
def BY:=@List.range'_succ
def BX:=@List.length_reverse
def NC:=@List.perm_middle
def BW:=@List.eq_nil_or_concat
theorem BV:type_of% @List.concat_eq_append:=@List.concat_eq_append
def NB:=@List.pairwise_iff_getElem
def BU:=@List.getElem_of_mem
theorem BR:type_of% @List.extract_eq_take_drop:=@List.extract_eq_take_drop
def BQ:=@List.mem_of_mem_drop
def BP:=@List.take_succ
def BO:=@AutoSeq1.sub_tuple_tuple
def BN:=@richCompare_meets_room
def BM:=@wpAny_newList
def BL:=@Nat.mul_left_comm
def BK:=@List.mem_erase_of_ne
theorem BJ:type_of% @List.getElem?_cons_succ:=@List.getElem?_cons_succ
theorem BI:type_of% @Array.getElem?_setIfInBounds:=@Array.getElem?_setIfInBounds
theorem BH:type_of% @Array.getElem?_eq_none:=@Array.getElem?_eq_none
def BG:=@wpAny_isSame_ref_self
def BF:=@isSubtype_type
def BE:=@PySem.F.plain_list_iadd
def BD:=@wpAny_updateSeq
def BC:=@Moved.trans
def BB:=@wpAny_typeNameOfWhole_keyiter
def Bz:=@Array.forIn_toList
def By:=@List.getElem_mem
theorem Bx:type_of% @List.filter_cons_of_pos:=@List.filter_cons_of_pos
def Bw:=@List.filter_cons_of_neg
def F8:=@wpAny_pyHash_int
def F7:=@List.getElem_inj
def F6:=@wpAny_execs_nil
def F5:=@wpAny_pyIter_tuple
def F4:=@List.of_mem_zip
def F3:=@noFill_tuple_add
def F1:=@seq_tuple_add
def F0:=@PySem.F.slot_tuple_add
def FZ:=@PySem.F.entry_tuple_add
def FY:=@PySem.F.args_tuple_add_2
def FX:=@wpAny_sequenceKey
def FW:=@entry_tuple_getitem
def FV:=@args_tuple_getitem
def FU:=@tupleItemsOf_
def FR:=@evalPart_none
def FQ:=@seqIndex_of
def FP:=@seqIndex_neg
def FN:=@Nat.lt_asymm
def FL:=@wpAny_comprehension_free
def FK:=@Option.isSome_map
def FH:=@List.ext_getElem
def NJ:=@F.called_tuple
def FG:=@wpAny_handled
def FF:=@wpAny_throw
def FE:=@wpAny_letGo
def FD:=@wpAny_newTuple
def FC:=@isSubtype_stop
def FA:=@StateT.run_pure
def Fy:=@Nat.add_sub_cancel_left
def JY:=@Bool.eq_false_iff
def Fx:=@List.drop_sublist
def Fw:=@listItems_at
def Fv:=@Heap.get?_update_ne
def Fu:=@wpAny_collect_seq
def Ft:=@Nat.add_mul
def Fs:=@Nat.one_mul
def Fq:=@Nat.mul_zero
def Fp:=@Int.emod_lt_of_pos
def Fo:=@Int.emod_nonneg
def Fn:=@typeLookup_type
def Fm:=@builtinLookup_eq_fast
def Fl:=@wpAny_pyIter_slot
def Fj:=@wpAny_setEntries_of
def Fi:=@PyProof.Rows.F.plain_set_update_loop
def Fh:=@wpAny_dictEntries
def Fg:=@wpAny_dictEpoch
def JX:=@PySem.F.slot_set_contains
def NI:=@F.slot_list_getattribute
def Ff:=@List.perm_cons_erase
def Fe:=@Bool.eq_iff_iff
def Fd:=@List.filter_map
def JW:=@List.nodup_iff_pairwise_ne
def Fc:=@List.flatMap_cons
def Kx:=@Calls.Name_function_global
def Kw:=@List.getElem?_take_of_lt
def Kv:=@subscriptTail_builtinR
def Ku:=@F.entry_list_append
def Kt:=@F.args_list_append_2
def Ks:=@List.getElem?_zipIdx
def Kr:=@PySem.F.plainAttrs_list
def Kq:=@F.slot_tuple_iterator_next
def Kp:=@wpAny_updateSeq_pair
def Ko:=@List.pairwise_singleton
def P4:=@List.perm_append_comm
def Kn:=@List.Perm.eq_of_pairwise
def Km:=@List.length_erase_of_mem
def TQ:=@List.pairwise_lt_range
def Kl:=@List.filterMap_append
def Kk:=@List.perm_append_singleton
def Kj:=@Array.getElem?_replicate
def TN:=@Array.mem_toList_iff
def Ki:=@List.Perm.append_left
def Kh:=@PySem.F.slot_set_iter
def Kg:=@PySem.F.entry_proto_collect
def Kf:=@PySem.F.plain_proto_collect
def Ke:=@PySem.F.entry_list_iadd
def Kd:=@PySem.F.plain_extend_loop
def Kc:=@codeAny_extend_loopS
def Kb:=@PyProof.Rows.F.entry_set_update_loop
def Ka:=@PySem.F.plain_set_new
def J9:=@PySem.F.slot_dict_iter
def J8:=@wpAny_notOrdered_dict
def J7:=@PySem.F.entry_dict_keyiterator_next
def J6:=@PySem.F.args_dict_keyiterator_next_1
def J5:=@wpAny_isOneOf_keyiter
def TM:=@Array.toList_eq_nil_iff
def J3:=@List.range'_eq_map_range
def J2:=@List.mem_of_mem_eraseIdx
def TL:=@List.filter_eq_self
def J1:=@List.Pairwise.imp_of_mem
end
namespace TT
open PySem
noncomputable def adv(mask:Nat)(p:SetTable.Probe):SetTable.Probe:=
 if p.more>0 then {p with j:=p.j+1,more:=p.more-1} else
 {p with j:=(SetTable.leap mask p.i p.perturb).1,more:=SetTable.runEnd mask (SetTable.leap mask p.i p.perturb).1-(SetTable.leap mask p.i p.perturb).1,i:=(SetTable.leap mask p.i p.perturb).1,perturb:=(SetTable.leap mask p.i p.perturb).2}
noncomputable def stt(mask:Nat)(h:Int):SetTable.Probe:={j:=SetTable.bits h%(mask+1),more:=SetTable.runEnd mask (SetTable.bits h%(mask+1))-SetTable.bits h%(mask+1),i:=SetTable.bits h%(mask+1),perturb:=SetTable.bits h,dummy:=none}
noncomputable def pr(mask:Nat)(h:Int):Nat->SetTable.Probe
 |0=>stt mask h
 |n+1=>adv mask (pr mask h n)
structure TabOk(hs:gB)(t:ll):Prop where
 pow: ∃k,3<=k/\k<=11/\t.mask+1=2^k
 dum:t.dummies= #[]
 len:t.place.size=hs.length
 room:5*hs.length<3*t.mask
 ris:t.place.toList.Pairwise (· < ·)
 bd: ∀j∈t.place.toList,j<=t.mask
 road: ∀(i:Nat) (h:Int) (j:Nat),hs[i]?=some h->t.place[i]?=some j-> ∃n,(pr t.mask h n).j=j/\ ∀m,m<n->(pr t.mask h m).j∈t.place.toList
end TT
namespace L2
open PySem PySem.Spec PyProof.Rows
abbrev Key:=Sum Int Str
noncomputable def zj:Key->Value->Bool
 | .inl k,v=>Value.isInt k v
 | .inr x,v=>Value.isStrOf x v
noncomputable def WH(w:gJ):Key->Int
 | .inl k=>hashInt k
 | .inr x=>hashStr w x
def jF: ∀{k:Key} {v:gA},zj k v=true->(∃i t,k=Sum.inl i/\v=Value.int i t)\/(∃x t,k=Sum.inr x/\v=Value.str x t)
 | .inl i,v,h=>by
  obtain⟨t,e⟩:=Value.isInt_shape (k:=i) (v:=v) h;exact .inl ⟨i,t,rfl,e⟩
 | .inr x,v,h=>by
  obtain⟨t,e⟩:=Value.isStrOf_shape (x:=x) (v:=v) h;exact .inr ⟨x,t,rfl,e⟩
def Jz(i:Int)(t:Tok):zj (.inl i) (.int i t)=true:=by simp[zj,Value.isInt]
def Jy(x:Str)(t:Tok):zj (.inr x) (.str x t)=true:=by simp[zj,Value.isStrOf]
theorem MM(a b:Int):decide ((Sum.inl a:Key)=Sum.inl b)=(a==b):=by
 by_cases e:a=b
 ·subst e;simp
 ·have h: ¬(Sum.inl a:Key)=Sum.inl b:=λq=>e (Sum.inl.inj q);rw[lr h];exact(xH.mpr e).symm
theorem MJ(a b:Str):decide ((Sum.inr a:Key)=Sum.inr b)=decide (a=b):=by
 by_cases e:a=b
 ·subst e;simp
 ·have h: ¬(Sum.inr a:Key)=Sum.inr b:=λq=>e (Sum.inr.inj q);rw[lr h,lr e]
theorem ML(a:Int)(b:Str):decide ((Sum.inl a:Key)=Sum.inr b)=false:=lr (λq=>nomatch q)
theorem MK(a:Str)(b:Int):decide ((Sum.inr a:Key)=Sum.inl b)=false:=lr (λq=>nomatch q)
noncomputable def jB(d:gR)(w:gJ):PySem.KeyKind d w Key where
 is:=zj
 hash:=WH w
 inj:=λv a b g f=>by
  rcases jF g with⟨i,t,rfl,rfl⟩|⟨x,t,rfl,rfl⟩
  ·rcases jF f with⟨j,u,rfl,e⟩|⟨y,u,rfl,e⟩
   ·injection e with c _;rw[c]
   ·exact nomatch e
  ·rcases jF f with⟨j,u,rfl,e⟩|⟨y,u,rfl,e⟩
   ·exact nomatch e
   ·injection e with c _;rw[c]
 byValue:=λk v h=>by
  rcases jF h with⟨i,t,rfl,rfl⟩|⟨x,t,rfl,rfl⟩<;>rfl
 pyHash:=λhv h=>by
  rcases jF hv with⟨i,t,rfl,rfl⟩|⟨x,t,rfl,rfl⟩
  ·exact F8 h
  ·exact wpAny_pyHash_str h
 eqBool:=λl hv h=>by
  rcases jF l with⟨i,t,rfl,rfl⟩|⟨x,t,rfl,rfl⟩
  ·rcases jF hv with⟨j,u,rfl,rfl⟩|⟨y,u,rfl,rfl⟩
   ·rw[MM] at h;exact wpAny_eqBool_int h
   ·rw[ML] at h;exact SeqAt.EqAt.int_str i t y u _ _ _ _ h
  ·rcases jF hv with⟨j,u,rfl,rfl⟩|⟨y,u,rfl,rfl⟩
   ·rw[MK] at h;exact SeqAt.EqAt.str_int x t j u _ _ _ _ h
   ·rw[MJ] at h;exact wpAny_eqBool_str h
 «strs»:=λk x t v h=>by
  rcases jF h with⟨i,u,rfl,e⟩|⟨y,u,rfl,e⟩
  ·exact nomatch e
  ·injection e with c _
   subst c;cases v<;>rfl
def Ei(a:gR)(w:gJ)(i:Int)(t:Tok):(jB a w).is (.inl i) (.int i t)=true:=Jz i t
def Eh(a:gR)(w:gJ)(x:Str)(t:Tok):(jB a w).is (.inr x) (.str x t)=true:=Jy x t
inductive V where
 |non|bl(b:Bool)|int(i:Int)|str(x:Str)|byt(b:Array UInt8)|flt(b:UInt64)|ref(a:gm)|ty(n:String)
 deriving DecidableEq
def RelV:V->Value->Prop
 | .non,u=>u=Value.none
 | .bl b,u=>u=Value.bool b
 | .int i,u=> ∃t,u=Value.int i t
 | .str x,u=> ∃t,u=Value.str x t
 | .byt b,u=> ∃t,u=Value.bytes b t
 | .flt b,u=> ∃t,u=Value.float b t
 | .ref a,u=>u=Value.ref a
 | .ty n,u=>u=Value.type n
abbrev Vals:List V->List Value->Prop:=Paired RelV
theorem Vals.length{xs:List V}{a:iL}(r:Vals xs a):xs.length=a.length:=Co r
theorem Vals.get: ∀{xs:List V} {a:iL} {i:Nat} {x:V},Vals xs a->xs[i]?=some x-> ∃u,a[i]?=some u/\RelV x u
 |_,_,_,_,.nil,e=>by simp at e
 |_,_,0,_,.cons r _,e=>by simp at e;subst e;exact⟨_,rfl,r⟩
 |_,_,i+1,x,.cons _ t,e=>by
  obtain⟨u,h1,b⟩:=Vals.get (i:=i) (x:=x) t (by simpa using e);exact⟨u,by simpa using h1,b⟩
theorem Vals.set{x:V}{u:gA}(r:RelV x u): ∀{b:List V} {a:iL} (i:Nat),Vals b a->Vals (b.set i x) (a.set i u)
 |_,_,_,.nil=> .nil
 |_,_,0,.cons _ t=> .cons r t
 |_,_,i+1,.cons q t=> .cons q (Vals.set r i t)
theorem Vals.append: ∀{c d:List V} {a b:iL},Vals c a->Vals d b->Vals (c++d) (a++b)
 |_,_,_,_,.nil,s=>s
 |_,_,_,_,.cons r t,s=> .cons r (Vals.append t s)
theorem Vals.take: ∀{xs:List V} {a:iL} (n:Nat),Vals xs a->Vals (xs.take n) (a.take n)
 |_,_,0,_=> .nil
 |_,_,_+1,.nil=> .nil
 |_,_,n+1,.cons r t=> .cons r (Vals.take n t)
theorem Vals.drop: ∀{b:List V} {a:iL} (n:Nat),Vals b a->Vals (b.drop n) (a.drop n)
 |_,_,0,r=>r
 |_,_,_+1,.nil=> .nil
 |_,_,n+1,.cons _ t=>Vals.drop n t
def RelO:Option V->Option Value->Prop
 |some v,some u=>RelV v u
 |none,none=>True
 |_,_=>False
def KV{a:Type}:List (a×V)->List (a×Value)->Prop:=Paired λ(p:a×V) (q:a×Value)=>p.1=q.1/\RelV p.2 q.2
noncomputable def kV:Key->V
 | .inl i=> .int i
 | .inr x=> .str x
inductive HO where
 /-- a list -/
 |lst(xs:List V)
 /-- a tuple(never changes) -/
 |tup(xs:List V)
 /-- a dict whose keys are ints and texts;one whose keys are tuples of ints and texts(the empty one is both) -/
 |dK(kvs:List (Key×V))|dT(kvs:List (List Key×V))
 /-- a set of ints:its members,its size -/
 |set (S:Int->Bool) (n:Nat)
 |stt (zs:List (Int×V))
 /-- an instance of the class at C,its dict at dx,its attributes -/
 |ins (C dx:gm) (fs:List (Str×V))
 /-- the dict of the instance at x -/
 |own (x:gm)
 /-- the dict of an exception -/
 |xd (fs:List (Str×V))
 /-- a bound method,f of x -/
 |met (f x:gm)
 /-- a range object lo,lo+1,.. below hi -/
 |rng (lo hi:Int)
 /-- a thing that is known to the object (the script;a dict while a loop walks it):read,never written while it is so -/
 |frz (o:Obj) (u:HO)
 /-- a code object's table -/
 |tbl (ps:lU)
 /-- any other thing,by what is true of its one object (a def of one's own:SetO a S n:=HO.ext λh=> ..) -/
 |ext (φ:Heap->Prop)
abbrev Hp:=Addr->Option HO
noncomputable def upd(H:Hp)(a:gm)(o:HO):Hp:=λb=>if b=a then some o else H b
theorem hG{H:Hp}{a:gm}{o:HO}:upd H a o a=some o:=by unfold upd;rw[gD rfl]
theorem hJ{H:Hp}{a b:gm}{o:HO}(h:b≠a):upd H a o b=H b:=by unfold upd;rw[gL h]
theorem Hv{H:Hp}{a:gm}{o u:HO}:upd (upd H a o) a u=upd H a u:=by
 funext b;unfold upd;split<;>rfl
theorem Qk{H:Hp}{a b:gm}{o u:HO}(h:H a=some o)(c:H b=some u)(d:o≠u):a≠b:=by
 intro e;subst e;rw[h] at c;exact d (jw c)
theorem kz{H:Hp}{a b:gm}{o:HO}(h:H a=some o)(c:H b=none):a≠b:=by
 intro e;subst e;rw[h] at c;cases c
section
variable(P:gR)(w:gJ)
def ObjOk(H:Hp)(h:gP)(a:gm):HO->Prop
 | .lst g=>g.length<=sizeLine/\ ∃(b:iL) (n:Nat),Vals g b/\h.get? a=some {cls:= .type "list",data:= .seq b.toArray n}
 | .tup g=>g.length<=sizeLine/\ ∃b:List Value,Vals g b/\IsTup h a b.toArray
 | .dK d=>d.length<=sizeLine/\(a==sysModules)=false/\ ∃k,KV d k/\h.DictOf (jB P w) a k
 | .dT d=>d.length<=sizeLine/\(a==sysModules)=false/\ ∃g:List (List Key×Addr×Value),
   Paired (λ(p:List Key×V) (q:List Key×Addr×Value)=>p.1=q.1/\H q.2.1=some (.tup (p.1.map kV))/\RelV p.2 q.2.2) d g/\
   ∃o j G,h.get? a=some o/\o.ExactDict/\o.data= .dict j G/\j.toList=g.map (entryOfKey (tupleKind (jB P w)))/\(g.map (·.1)).Nodup
 | .set S n=>h.SetOf (intKind P w) a S n
 | .stt E=> ∃(j:sM) (n:Nat) (t:ll),h.get? a=some {cls:= .type "set",data:= .set j n t}/\Paired (λ(z:Int×V) (e:Int×Value)=>z.1=e.1/\RelV z.2 e.2) E j.toList/\
   TT.TabOk (E.map (·.1)) t/\t.plain=true/\t.led=!w.params.followText "set-order"
 | .ins C l fs=>H l=some (.own a)/\fs.length<=1000/\l≠a/\h.get? a=some (PySem.W.instObj C l)/\
   ∃i,h.Ns1 l i/\(∀f,RelO (fs.lookup f) (i f))/\PySem.Within i (fs.map (·.1))
 | .own _=> ∃o,h.get? a=some o
 | .xd fs=> ∃i,h.Ns1 a i/\ ∀f,RelO (fs.lookup f) (i f)
 | .rng lo I=> ∃t u v,h.get? a=some {cls:= .type "range",data:= .fields #[.int lo t,.int I u,.int 1 v]}
 | .frz o u=>h.get? a=some o/\ObjOk H h a u
 | .tbl J=> ∃q t r,J[0]?=some (.str q t)/\h.get? a=some {cls:= .none,data:= .fields r}/\TriplesOk r.toList/\ ∀m y,codeAmong m r.toList=some y-> ∃c B u k t,y= .ref c/\H c=some (.frz B u)/\B.data= .fields k/\k[1]?=some (.str q t)
 | .met f x=>h.get? a=some (PySem.W.methodObj (.ref f) (.ref x))
 | .ext s=>s h/\(∃o,h.get? a=some o)/\ ∀h1 A:Heap,s h1->(∀o,h1.get? a=some o->A.get? a=some o)->s A
def HOk(H:Hp)(h:gP):Prop:= ∀a o,H a=some o->ObjOk P w H h a o
end
section
variable {P:gR}{w:gJ}{H g:Hp}{h h':gP}{a:gm}{o:HO}
def ObjOk.lt(x:ObjOk P w H h a o):a<h.objs.size:=by
 cases o with
 |lst c=>obtain⟨_,_,_,_,e⟩:=x;exact ja e
 |tup c=>obtain⟨_,_,_,p⟩:=x;exact p.lt
 |dK b=>obtain⟨_,_,_,_,o,_,_,e,_⟩:=x;exact ja e
 |dT b=>obtain⟨_,_,_,_,o,_,_,e,_⟩:=x;exact ja e
 |set S n=>obtain⟨o,_,_,_,e,_⟩:=x;exact ja e
 |stt l=>obtain⟨_,_,_,e,_⟩:=x;exact ja e
 |ins C d fs=>obtain⟨_,_,_,e,_⟩:=x;exact ja e
 |own y=>obtain⟨_,e⟩:=x;exact ja e
 |xd fs=>obtain⟨_,⟨_,_,_,e,_⟩,_⟩:=x;exact ja e
 |rng lo i=>obtain⟨_,_,_,e⟩:=x;exact ja e
 |frz j u=>obtain⟨e,_⟩:=x;exact ja e
 |tbl k=>obtain⟨_,_,_,_,e,_⟩:=x;exact ja e
 |met f y=>exact ja (show h.get? a=some _ from x)
 |ext m=>obtain⟨_,⟨_,e⟩,_⟩:=x;exact ja e
theorem Paired.mapP{e i:Type}{F G:e->i->Prop}: ∀{c:List e} {d:List i},Paired F c d->(∀a b,F a b->G a b)->Paired G c d
 |_,_,.nil,_=> .nil
 |_,_,.cons r t,f=> .cons (f _ _ r) (Paired.mapP t f)
def ObjOk.stay(x:ObjOk P w H h a o)(k: ∀b u,(b=a\/H b=some (.own a))->h.get? b=some u->h'.get? b=some u)
  (T: ∀b,H b=some (.own a)->g b=some (.own a))(U: ∀b A,H b=some (.tup A)->g b=some (.tup A))(Y: ∀b i u,H b=some (.frz i u)->g b=some (.frz i u):=by exact λ_ _ _ q=>q):ObjOk P w g h' a o:=by
 induction o with
 |lst A=>obtain⟨z,s,n,r,e⟩:=x;exact⟨z,s,n,r,k _ _ (.inl rfl) e⟩
 |tup A=>obtain⟨z,s,r,i,e,c⟩:=x;exact⟨z,s,r,i,k _ _ (.inl rfl) e,c⟩
 |dK B=>obtain⟨z,y,J,r,i,j,l,e,c⟩:=x;exact⟨z,y,J,r,i,j,l,k _ _ (.inl rfl) e,c⟩
 |dT B=>
  obtain⟨z,y,A,r,i,j,l,e,c⟩:=x;exact⟨z,y,A,Paired.mapP r λp q z=>⟨z.1,U _ _ z.2.1,z.2.2⟩,i,j,l,k _ _ (.inl rfl) e,c⟩
 |set S n=>obtain⟨i,j,l,t,e,c⟩:=x;exact⟨i,j,l,t,k _ _ (.inl rfl) e,c⟩
 |stt zs=>obtain⟨j,n,t,e,c⟩:=x;exact⟨j,n,t,k _ _ (.inl rfl) e,c⟩
 |ins C dx fs=>
  obtain⟨d,z,ne,e,E,⟨G,j,l,N,c⟩,r⟩:=x;exact⟨T _ d,z,ne,k _ _ (.inl rfl) e,E,⟨G,j,l,k _ _ (.inr d) N,c⟩,r⟩
 |own y=>obtain⟨i,e⟩:=x;exact⟨i,k _ _ (.inl rfl) e⟩
 |xd fs=>obtain⟨E,⟨G,j,l,e,c⟩,r⟩:=x;exact⟨E,⟨G,j,l,k _ _ (.inl rfl) e,c⟩,r⟩
 |rng lo hi=>obtain⟨t,u,v,e⟩:=x;exact⟨t,u,v,k _ _ (.inl rfl) e⟩
 |frz i u ih=>obtain⟨e,q⟩:=x;exact⟨k _ _ (.inl rfl) e,ih q⟩
 |tbl ps=>obtain⟨q,t,D,M,e,F,m⟩:=x;exact⟨q,t,D,M,k _ _ (.inl rfl) e,F,λI L z=>let⟨c,i,u,J,t,h1,O,Q⟩:=m I L z;⟨c,i,u,J,t,h1,Y _ _ _ O,Q⟩⟩
 |met f y=>
  have e:h.get? a=some (PySem.W.methodObj (.ref f) (.ref y)):=x;show h'.get? a=some (PySem.W.methodObj (.ref f) (.ref y));exact k a _ (.inl rfl) e
 |ext φ=>obtain⟨p,⟨o,e⟩,st⟩:=x;exact⟨st _ _ p λo q=>k _ _ (.inl rfl) q,⟨o,k _ _ (.inl rfl) e⟩,st⟩
def HOk.lt(x:HOk P w H h)(e:H a=some o):a<h.objs.size:=(x a o e).lt
theorem HOk.fresh(x:HOk P w H h)(e:h.objs.size<=a):H a=none:=by
 cases q:H a with
 |none=>rfl
 |some u=>exact absurd (mS (x.lt q) e) (ph _)
def HOk.kept(x:HOk P w H h)(k: ∀b u,h.get? b=some u->h'.get? b=some u):HOk P w H h':=λa o e=>
 (x a o e).stay (λb u _ q=>k b u q) (λ_ q=>q) λ_ _ q=>q
def HOk.laid(x:HOk P w H h)(k: ∀b u,h.get? b=some u->h'.get? b=some u)(i:h.objs.size<=a)(new:ObjOk P w (upd H a o) h' a o):HOk P w (upd H a o) h':=λb u e=>by
 have d:=x.fresh i;by_cases f:b=a
 ·subst f;rw[hG] at e;cases e;exact new
 ·rw[hJ f] at e;exact(x b u e).stay (λc v _ q=>k c v q) (λc q=>by rw[hJ (kz q d)];exact q) (λc xs q=>by rw[hJ (kz q d)];exact q) λc _ _ q=>by rw[hJ (kz q d)];exact q
end
def Rd(H:Hp)(a:gm)(u:HO):Prop:=H a=some u\/ ∃o,H a=some (.frz o u)
theorem Rd.ok{P:gR}{w:gJ}{H:Hp}{h:gP}{a:gm}{u:HO}(r:Rd H a u)(x:HOk P w H h):ObjOk P w H h a u:=by
 rcases r with r|⟨o,r⟩
 ·exact x a u r
 ·obtain⟨_,q⟩:=x a _ r;exact q
def Mut:Option HO->Prop
 |some (.lst _)=>True
 |some (.dK _)=>True
 |some (.dT _)=>True
 |some (.set _ _)=>True
 |some (.stt _)=>True
 |some (.ins _ _ _)=>True
 |some (.ext _)=>True
 |_=>False
section
variable {P:gR}{w:gJ}{H:Hp}{h a:gP}{x e:gm}{d:HO}
def HOk.write(ok:HOk P w H h)(g:Mut (H x))(o:e=x\/H e=some (.own x))(k: ∀b u,b≠e->h.get? b=some u->a.get? b=some u)(s: ∃u,a.get? e=some u)
  (new:ObjOk P w (upd H x d) a x d):HOk P w (upd H x d) a:=λb u q=>by
 have f: ∀c y,H c=some (.own y)->c≠x:=λc y r z=>by subst z;rw[r] at g;exact g
 have i: ∀c n,H c=some (.tup n)->c≠x:=λc n r z=>by subst z;rw[r] at g;exact g
 by_cases l:b=x
 ·subst l;rw[hG] at q;cases q;exact new
 ·rw[hJ l] at q;by_cases j:b=e
  ·have p:H b=some (.own x):=by
    rcases o with z|z
    ·exact absurd (j.trans z) l
    ·rw[j];exact z
   rw[q] at p;cases p;obtain⟨v,hv⟩:=s;exact⟨v,by rw[j];exact hv⟩
  ·refine(ok b u q).stay (λc v m r=>k c v ?_ r) (λc r=>by rw[hJ (f c b r)];exact r) (λc n r=>by rw[hJ (i c n r)];exact r) λc _ _ r=>by rw[hJ (λz=>by subst z;rw[r] at g;exact g)];exact r
   rcases m with rfl|m
   ·exact j
   ·rintro rfl;rcases o with z|z
    ·exact f c b m z
    ·rw[m] at z;cases z;exact l rfl
end
structure Un(fs ex:jl)(H H':Hp)(h h':gP):Prop where
 keep: ∀b o,h.get? b=some o->H b=none->b∉fs->b∉ex->h'.get? b=some o
 slot: ∀b o,h.get? b=some o->H b=none->b∈fs->b∉ex-> ∃sl,h'.get? b=some {o with slots:=sl}
 free: ∀b o,h.get? b=some o->H b=none->b∉ex->H' b=none
 there: ∀b o,h.get? b=some o->b∉ex-> ∃o',h'.get? b=some o'
 tups: ∀b xs,H b=some (.tup xs)->H' b=some (.tup xs)
 frzs: ∀b o u,H b=some (.frz o u)->H' b=some (.frz o u)
 tbls: ∀b ps,H b=some (.tbl ps)-> ∃more,H' b=some (.tbl (ps++more))
section
variable {fs g ex c:jl}{H d i:Hp}{h h1 f h':gP}{a x e:gm}{o:HO}
theorem Un.any(u:Un fs ex H d h h1){b:gm}{j:Obj}(q:h.get? b=some j)(n:H b=none)(l:b∉ex): ∃m,h1.get? b=some {j with slots:=m}:=by
 by_cases k:b∈fs
 ·exact u.slot b j q n k l
 ·exact⟨j.slots,u.keep b j q n k l⟩
def Un.kept(k: ∀b u,h.get? b=some u->h'.get? b=some u):Un fs ex H H h h':=
 ⟨λb j q _ _ _=>k b j q,λb j q _ _ _=>⟨j.slots,k b j q⟩,λ_ _ _ n _=>n,λb j q _=>⟨j,k b j q⟩,λ_ _ q=>q,λ_ _ _ q=>q,λ_ l q=>⟨#[],by rw[q];simp⟩⟩
def Un.refl:Un fs ex H H h h:=Un.kept λ_ _ q=>q
def Un.laid(k: ∀b u,h.get? b=some u->h'.get? b=some u)(r:h.objs.size<=a)(j:H a=none):Un fs ex H (upd H a o) h h' where
 keep:=λb u q _ _ _=>k b u q
 slot:=λb u q _ _ _=>⟨u.slots,k b u q⟩
 free:=λb u q n _=>by rw[hJ (iD (mS (ja q) r))];exact n
 there:=λb u q _=>⟨u,k b u q⟩
 tups:=λb xs q=>by rw[hJ (kz q j)];exact q
 frzs:=λb u xs q=>by rw[hJ (kz q j)];exact q
 tbls:=λb s q=>⟨#[],by rw[hJ (kz q j),q];simp⟩
def Un.write(j:Mut (H x))(v:e=x\/H e=some (.own x))(k: ∀b u,b≠e->h.get? b=some u->h'.get? b=some u)(t: ∃u,h'.get? e=some u):Un fs ex H (upd H x o) h h':=by
 have s: ∀b,H b=none->b≠x:=λb n z=>by subst z;rw[n] at j;exact j
 have p: ∀b,H b=none->b≠e:=λb n z=>by
  subst z;rcases v with r|r
  ·exact s b n r
  ·rw[n] at r;cases r
 have l: ∀b u,H b=some u-> ¬Mut (some u)->b≠x:=λb u q w z=>by subst z;rw[q] at j;exact w j
 refine⟨λb u q n _ _=>k b u (p b n) q,λb u q n _ _=>⟨u.slots,k b u (p b n) q⟩,λb u q n _=>by rw[hJ (s b n)];exact n,λb u q _=>?_,
  λb y q=>by rw[hJ (l b _ q λz=>z)];exact q,λb u y q=>by rw[hJ (l b _ q λz=>z)];exact q,λb A q=>⟨#[],by rw[hJ (l b _ q λz=>z),q];simp⟩⟩
 by_cases m:b=e
 ·subst m;exact t
 ·exact⟨u,k b u m q⟩
end
noncomputable def trk(h:gP)(H:Hp):List Addr:=(List.range h.objs.size).filter λa=>(H a).isSome
noncomputable def C6(h:gP)(H:Hp):Heap:=PySem.W.hideAll h (trk h H)
def JF(h:gP)(H:Hp):(C6 h H).objs.size=h.objs.size:=PySem.W.hideAll_size _ _
def MU{h:gP}{H:Hp}{b:gm}{o:Obj}(e:h.get? b=some o)(n:H b=none):(C6 h H).get? b=some o:=
 PySem.W.hideAll_get _ e λa=>by
  have q:(H b).isSome=true:=(Fb.mp a).2;rw[n] at q;simp at q
def Pb{h:gP}{H:Hp}{b:gm}{o:Obj}(e:(C6 h H).get? b=some o):h.get? b=some o/\H b=none:=by
 have a:h.get? b=some o:=PySem.W.of_hideAll (trk h H) e;refine⟨a,?_⟩
 cases q:H b with
 |none=>rfl
 |some x=>
  have c:b∈trk h H:=Fb.mpr ⟨rQ.mpr (ja a),by simp[q]⟩;have z:(C6 h H).get? b=none:=PySem.W.hideAll_none (trk h H) c;rw[z] at e;cases e
noncomputable def PQ(g h:gP)(L:gm):List (Addr×Obj):=(List.range h.objs.size).filterMap λa=>if a=L\/(g.get? a).isSome=true then none else(h.get? a).map λo=>(a,o)
noncomputable def hV(g h:gP)(L d:gm):List (Addr×Obj):=(PQ g h L).filter λp=>decide (p.1≠d)
structure Mod(K:gK)(mg:lL)(base:gP):Prop where
 kin:K.In base
 glob:base.Ns mainGlobals mg
 blt: ∃mb,base.Ns builtinsNs mb/\ ∀x:Str,x≠"__name__"->mb x=bootBuiltins x
 nolimit:base.NoLimit
structure Cx where
 prog:Program
 w:World
 K:PySem.W.Frag
 mg:Str->Option Value
 base:Heap
 A:Around
 N:List Str
 s₀:Shared
 H₀:Hp
 env:Env
 outer:List Env
 stack:List Env
 ex:List Addr
 fn:Str->Bool
 calm:Bool
 pn:List (Addr×Obj)
 xe:Value->Shared->Prop
noncomputable def frs(l:List Env):List Addr:=l.filterMap (·.frame)
abbrev Cx.fs(X:Cx):List Addr:=frs X.outer
def Vis(a:jb)(x:Str):Prop:=a.names.lookup x=some .local\/a.names.lookup x=some .cell\/a.names.lookup x=some .free
def Loc(a:jb)(x:Str):Prop:=a.names.lookup x=some .local\/a.names.lookup x=some .cell
def WV(a:Env)(h:gP)(m:lL)(x:Str)(u:gA):Prop:=
 (a.kindOf x=some .local/\m x=some u)\/((a.kindOf x=some .cell\/a.kindOf x=some .free)/\ ∃c,a.cells.lookup x=some c/\h.IsCell c (some u))
structure Cx.Ok(X:Cx):Prop where
 mod:Mod X.K X.mg X.base
 kind:X.env.scope.kind= .function
 glob:X.env.globals=mainGlobals
 blt:X.env.builtins=builtinsNs
 above:X.s₀.heap.objs.size<=X.env.locals
 inj: ∀x y c,X.env.cells.lookup x=some c->X.env.cells.lookup y=some c->x=y
 has: ∀x,(X.env.kindOf x=some .cell\/X.env.kindOf x=some .free)-> ∃c,X.env.cells.lookup x=some c
 cab: ∀x c,X.fn x=true->X.env.cells.lookup x=some c->X.s₀.heap.objs.size<=c
 hd:X.calm=true->X.A.handled=none
 frames:X.A.frames=some X.stack
 stk:X.stack=X.outer\/(X.stack=X.env::X.outer/\X.env.frame=some X.env.locals)
 exf: ∀b∈X.ex,b≠X.env.locals/\ ∀x c,X.env.cells.lookup x=some c->c≠b
 bs: ∀b o,X.base.get? b=some o->X.s₀.heap.get? b=some o/\X.H₀ b=none
 bsz:X.base.objs.size<=X.s₀.heap.objs.size
 noex: ∀b o,X.base.get? b=some o->b∉X.ex
 exfs: ∀b∈X.ex,b∉X.fs
 funs:X.s₀.heap.FunFrames X.base X.outer
 frf: ∀b∈X.fs,X.H₀ b=none
structure Inv(X:Cx)(pins:gZ)(σ:List (Option V))(H:Hp)(s:gn):Prop where
 ok:X.Ok
 os:s.os=X.s₀.os
 bare:AllBare s.gens
 base:Un X.fs X.ex X.H₀ H X.s₀.heap s.heap
 loc: ∃m,s.heap.Ns X.env.locals m/\ ∀(i:Nat) (x:Str) (v:V),X.N[i]?=some x->σ[i]?=some (some v)->Vis X.env.scope x-> ∃u,RelV v u/\WV X.env s.heap m x u
 cell: ∀x c,X.env.cells.lookup x=some c-> ∃v,s.heap.IsCell c v
 free:H X.env.locals=none
 freeC: ∀x c,X.env.cells.lookup x=some c->H c=none
 pin: ∀p∈X.pn++pins,s.heap.get? p.1=some p.2/\H p.1=none/\p.1≠X.env.locals/\p.1∉X.fs/\ ∀v,p.2.data≠ .cell v
 hok:HOk X.prog X.w H s.heap
 len:σ.length=X.N.length
section
variable {X:Cx}{f:gZ}{g:List (Option V)}{H B:Hp}{s:gn}{h':gP}
def Cx.Ok.nofr(ok:X.Ok){b:gm}{o:Obj}(e:X.base.get? b=some o):b∉X.fs:=λa=>by
 have:=(ok.funs.mem a).1;rw[e] at this;cases this
def Inv.bs(I:Inv X f g H s): ∀b o,X.base.get? b=some o->s.heap.get? b=some o/\H b=none:=λb o e=>
 ⟨I.base.keep b o (I.ok.bs b o e).1 (I.ok.bs b o e).2 (I.ok.nofr e) (I.ok.noex b o e),I.base.free b o (I.ok.bs b o e).1 (I.ok.bs b o e).2 (I.ok.noex b o e)⟩
def Inv.bk(I:Inv X f g H s): ∀b o,X.base.get? b=some o->s.heap.get? b=some o:=λb o e=>(I.bs b o e).1
def Inv.mod(I:Inv X f g H s):Mod X.K X.mg X.base:=I.ok.mod
def Inv.kIn(I:Inv X f g H s):X.K.In s.heap:=I.ok.mod.kin.keeps I.bk
def Inv.lt(I:Inv X f g H s):X.env.locals<s.heap.objs.size:=let⟨_,a,_⟩:=I.loc;a.lt
theorem Inv.sz(I:Inv X f g H s):X.s₀.heap.objs.size<=s.heap.objs.size:=ku I.ok.above (wz I.lt)
def Inv.nofs(I:Inv X f g H s){a:gm}(h:s.heap.objs.size<=a):a∉X.fs:=λb=>by
 obtain⟨_,o,c,_⟩:=I.ok.funs.mem b;exact absurd (mS (ja c) (ku I.sz h)) (ph _)
def Inv.cne(I:Inv X f g H s): ∀x c,X.env.cells.lookup x=some c->c≠X.env.locals:=λx c e z=>by
 obtain⟨v,o,a,hd⟩:=I.cell x c e;obtain⟨m,⟨j,i,h,b,d,_⟩,_⟩:=I.loc;rw[z,b] at a;cases a;rw[d] at hd;cases hd
def Inv.funs(I:Inv X f g H s):s.heap.FunFrames X.base X.outer:=by
 have all: ∀(l:List Env),(∀b∈frs l,b∈X.fs)->X.s₀.heap.FunFrames X.base l->s.heap.FunFrames X.base l:=by
  intro l
  induction l with
  |nil=>intro _ _;trivial
  |cons i r p=>
   intro h j;obtain⟨hk,⟨L,o,d,k,m,hd⟩,n⟩:=j;have a:L∈X.fs:=h L (by unfold frs;rw[uP,d];exact iF);obtain⟨q,e⟩:=I.base.slot L o m (I.ok.frf L a) a λz=>I.ok.exfs L z a;exact⟨hk,⟨L,_,d,k,e,hd⟩,p (λb c=>h b (by unfold frs;rw[uP,d];exact iK _ c)) n⟩
 exact all X.outer (λ_ c=>c) I.ok.funs
def Inv.stack(I:Inv X f g H s):s.heap.FunFrames X.base X.stack:=by
 rcases I.ok.stk with e|⟨e,hf⟩
 ·rw[e];exact I.funs
 ·rw[e];obtain⟨m,a,_⟩:=I.loc;refine .cons (by rw[I.ok.kind];decide) hf a ?_ I.funs;exact Heap.get?_none_of_le (ku I.ok.bsz I.ok.above)
def Inv.stkSub(I:Inv X f g H s): ∀b∈frs X.stack,b∈X.env.locals::X.fs:=λb a=>by
 rcases I.ok.stk with e|⟨e,hf⟩
 ·rw[e] at a;exact iK _ a
 ·rw[e] at a;unfold frs at a;rw[uP,hf] at a;exact a
def Inv.stkFree(I:Inv X f g H s): ∀b∈frs X.stack,H b=none:=λb a=>by
 rcases jr.mp (I.stkSub b a) with e|a
 ·rw[e];exact I.free
 ·obtain⟨_,o,c,_⟩:=I.ok.funs.mem a;exact I.base.free b o c (I.ok.frf b a) λz=>I.ok.exfs b z a
def Inv.step{g':Array GenState}{t':Nat}{d':Drawn}{ch:jl}(I:Inv X f g H s)
  (E: ∀b∈ch,(b∈X.ex\/X.s₀.heap.objs.size<=b)/\b≠X.env.locals/\(∀x c,X.env.cells.lookup x=some c->c≠b)/\ ∀p∈X.pn++f,p.1≠b)
  (keep: ∀b o,b≠X.env.locals->b∉X.fs->b∉ch->s.heap.get? b=some o->H b=none->h'.get? b=some o)
  (slot: ∀b o,b≠X.env.locals->b∈X.fs->b∉ch->s.heap.get? b=some o->H b=none-> ∃sl,h'.get? b=some {o with slots:=sl})(free: ∀b o,b∉ch->s.heap.get? b=some o->H b=none->B b=none)
  (A: ∀b o,b∉ch->s.heap.get? b=some o-> ∃N,h'.get? b=some N)
  (Q: ∀b t,H b=some (.tup t)->B b=some (.tup t))(L: ∀b o u,H b=some (.frz o u)->B b=some (.frz o u))(O: ∀b U,H b=some (.tbl U)-> ∃more,B b=some (.tbl (U++more)))
  (ns: ∀m,s.heap.Ns X.env.locals m->h'.Ns X.env.locals m)(Y:HOk X.prog X.w B h')(hg:AllBare g'):
  Inv X f g B {s with heap:=h',gens:=g',drawn:=d',toks:=t'}:=by
 have M: ∀b o,X.s₀.heap.get? b=some o->b≠X.env.locals:=λb o e=>iD (mS (ja e) I.ok.above)
 have T: ∀b o,X.s₀.heap.get? b=some o->b∉X.ex->b∉ch:=λb o e a y=>by
  rcases(E b y).1 with z|z
  ·exact a z
  ·exact absurd (mS (ja e) z) (ph _)
 have h: ∀x c,X.env.cells.lookup x=some c-> ∀v,s.heap.IsCell c v->h'.IsCell c v:=λx c e v ⟨o,C,hd⟩=>by
  have G:c∉ch:=λz=>(E c z).2.2.1 x c e rfl;by_cases F:c∈X.fs
  ·obtain⟨sl,q⟩:=slot c o (I.cne x c e) F G C (I.freeC x c e);exact⟨_,q,hd⟩
  ·exact⟨o,keep c o (I.cne x c e) F G C (I.freeC x c e),hd⟩
 refine⟨I.ok,I.os,hg,⟨λb o e n y a=>?_,λb o e n y a=>?_,λb o e n a=>?_,λb o e a=>?_,λb t e=>Q b t (I.base.tups b t e),λb o t e=>L b o t (I.base.frzs b o t e),λb U e=>?_⟩,?_,λx c e=>?_,?_,λx c e=>?_,λp K=>?_,Y,I.len⟩
 ·exact keep b o (M b o e) y (T b o e a) (I.base.keep b o e n y a) (I.base.free b o e n a)
 ·obtain⟨sl,j⟩:=I.base.slot b o e n y a;obtain⟨D,J⟩:=slot b _ (M b o e) y (T b o e a) j (I.base.free b o e n a);exact⟨D,J⟩
 ·obtain⟨N,j⟩:=I.base.there b o e a;exact free b N (T b o e a) j (I.base.free b o e n a)
 ·obtain⟨N,j⟩:=I.base.there b o e a;exact A b N (T b o e a) j
 ·obtain⟨W,j⟩:=I.base.tbls b U e;obtain⟨Z,J⟩:=O b _ j;exact⟨W++Z,by rw[J,Array.append_assoc]⟩
 ·obtain⟨m,V,S⟩:=I.loc;refine⟨m,ns m V,λi x v j J R=>?_⟩;obtain⟨u,r,l⟩:=S i x v j J R;refine⟨u,r,?_⟩;rcases l with l|⟨k,c,e,z⟩
  ·exact .inl l
  ·exact .inr ⟨k,c,e,h x c e _ z⟩
 ·obtain⟨v,z⟩:=I.cell x c e;exact⟨v,h x c e v z⟩
 ·obtain⟨m,⟨o,_,_,C,_⟩,_⟩:=I.loc;exact free _ o (λz=>(E _ z).2.1 rfl) C I.free
 ·obtain⟨v,o,C,hd⟩:=I.cell x c e;exact free c o (λz=>(E c z).2.2.1 x c e rfl) C (I.freeC x c e)
 ·obtain⟨e,n,ne,P,d⟩:=I.pin p K;have G:p.1∉ch:=λz=>(E p.1 z).2.2.2 p K rfl;exact⟨keep p.1 p.2 ne P G e n,free p.1 p.2 G e n,ne,P,d⟩
def Inv.un{t':Nat}(I:Inv X f g H s)(u:Un X.fs [] H B s.heap h')(d:HOk X.prog X.w B h'):Inv X f g B {s with heap:=h',toks:=t'}:=by
 obtain⟨m,⟨o,t,q,i,r⟩,_⟩:=id I.loc;obtain⟨y,k⟩:=u.any i I.free (by simp)
 exact I.step (g':=s.gens) (d':=s.drawn) (ch:=[]) (λ_ z=>nomatch z) (λb o _ c _ e n=>u.keep b o e n c (by simp)) (λb o _ c _ e n=>u.slot b o e n c (by simp)) (λb o _ e n=>u.free b o e n (by simp)) (λb o _ e=>u.there b o e (by simp)) u.tups u.frzs u.tbls (λv l=>by
  obtain⟨x,a,j,h,p⟩:=l;rw[i] at h;cases h;exact⟨_,a,j,k,p⟩) d I.bare
def Inv.call{g':Array GenState}{t':Nat}{d':Drawn}{ch:jl}(I:Inv X f g H s)(u:Un (frs X.stack) ch H B s.heap h')(i:HOk X.prog X.w B h')(v:AllBare g')
  (j: ∀b∈ch,(b∈X.ex\/X.s₀.heap.objs.size<=b)/\b≠X.env.locals/\(∀x c,X.env.cells.lookup x=some c->c≠b)/\ ∀p∈X.pn++f,p.1≠b):
  Inv X f g B {s with heap:=h',gens:=g',drawn:=d',toks:=t'}:=by
 obtain⟨m,⟨o,E,C,l,r⟩,_⟩:=id I.loc;obtain⟨L,h⟩:=u.any l I.free λz=>(j _ z).2.1 rfl
 exact I.step (ch:=ch) j (λb o h t a e n=>u.keep b o e n (λz=>(jr.mp (I.stkSub b z)).elim h t) a) (λb o _ _ a e n=>u.any e n a) (λb o a e n=>u.free b o e n a) (λb o a e=>u.there b o e a) u.tups u.frzs u.tbls (λG y=>by
  obtain⟨J,d,q,k,A⟩:=y;rw[l] at k;cases k;exact⟨_,d,q,h,A⟩) i v
def Inv.turned{t':Nat}{it:gm}(I:Inv X f g H s)(k: ∀b o,b≠it->s.heap.get? b=some o->h'.get? b=some o)(A:H it=none)(h:it≠X.env.locals)
  (h1:it∈X.ex\/X.s₀.heap.objs.size<=it)(l: ∀x c,X.env.cells.lookup x=some c->c≠it)(t: ∀p∈X.pn++f,p.1≠it):Inv X f g H {s with heap:=h',toks:=t'}:=by
 have d: ∀b u,H b=some u->b≠it:=λb u e z=>by rw[z,A] at e;cases e
 refine I.step (g':=s.gens) (d':=s.drawn) (ch:=[it]) (λb w=>?_) (λb o _ _ a e _=>k b o (λz=>a (by simp[z])) e) (λb o _ _ a e _=>⟨o.slots,k b o (λz=>a (by simp[z])) e⟩) (λ_ _ _ _ n=>n)
  (λb o a e=>⟨o,k b o (λz=>a (by simp[z])) e⟩) (λ_ _ e=>e) (λ_ _ _ e=>e) (λb E e=>⟨#[],by rw[e];simp⟩) (λm y=>?_) (λb u e=>?_) I.bare
 ·have e:b=it:=by simpa using w
  subst e;exact⟨h1,h,l,t⟩
 ·obtain⟨o,j,i,C,r⟩:=y;exact⟨o,j,i,k _ o (qA h) C,r⟩
 ·refine(I.hok b u e).stay (λc v a q=>k c v ?_ q) (λ_ q=>q) λ_ _ q=>q;rcases a with z|z
  ·rw[z];exact d b u e
  ·exact d c _ z
def Inv.tok(I:Inv X f g H s)(t:Nat):Inv X f g H {s with toks:=t}:=I.un (h':=s.heap) (t':=t) Un.refl I.hok
def Inv.kept{t':Nat}(I:Inv X f g H s)(k: ∀b u,s.heap.get? b=some u->h'.get? b=some u):Inv X f g H {s with heap:=h',toks:=t'}:=I.un (Un.kept k) (I.hok.kept k)
def Inv.laid{a:gm}{o:HO}{t':Nat}(I:Inv X f g H s)(k: ∀b u,s.heap.get? b=some u->h'.get? b=some u)(c:s.heap.objs.size<=a)(new:ObjOk X.prog X.w (upd H a o) h' a o):
  Inv X f g (upd H a o) {s with heap:=h',toks:=t'}:=I.un (Un.laid k c (I.hok.fresh c)) (I.hok.laid k c new)
def Inv.write{x e:gm}{o:HO}{h:Nat}(I:Inv X f g H s)(d:Mut (H x))(c:e=x\/H e=some (.own x))(k: ∀b u,b≠e->s.heap.get? b=some u->h'.get? b=some u)(a: ∃u,h'.get? e=some u)
  (new:ObjOk X.prog X.w (upd H x o) h' x o):Inv X f g (upd H x o) {s with heap:=h',toks:=h}:=I.un (Un.write d c k a) (I.hok.write d c k a new)
def Inv.pins_of{a:gZ}(I:Inv X f g H s)(h: ∀p∈a,s.heap.get? p.1=some p.2/\H p.1=none/\p.1≠X.env.locals/\p.1∉X.fs/\ ∀v,p.2.data≠ .cell v):Inv X a g H s:=
 ⟨I.ok,I.os,I.bare,I.base,I.loc,I.cell,I.free,I.freeC,λp b=>(pK.mp b).elim (λz=>I.pin p (Cn _ z)) (h p),I.hok,I.len⟩
def Ef{N:hW}(e:N.Nodup){i j:Nat}{x:Str}(a:N[i]?=some x)(b:N[j]?=some x):i=j:=by
 obtain⟨h1,c⟩:=uQ.mp a;obtain⟨h,d⟩:=uQ.mp b;exact(F7 e).mp (c.trans d.symm)
def IU{M:Model}{A:gM}{E:hC}{i:Nat}{x:Str}{v:V}{u:gA}{Q:Unit->Shared->Prop}(I:Inv X f g H s)(hN:X.N.Nodup)(hi:X.N[i]?=some x)(J:Loc X.env.scope x)(r:RelV v u)
  (h: ∀s',Inv X f (g.set i (some v)) H s'->(∃a,Heap.SameBut a s.heap s'.heap/\(a=X.env.locals\/X.env.cells.lookup x=some a))->Q () s')(hf:X.fn x=true\/X.env.scope.names.lookup x=some .local:=by first|exact .inl rfl|exact .inr rfl|assumption):wpAny M A (storeName X.env x u) Q E s:=by
 obtain⟨m,Z,hl⟩:=id I.loc;have D:(X.env.scope.kind== .class||(X.env.scope.kind== .module&&X.env.locals !=X.env.globals))=false:=by rw[I.ok.kind];rfl
 have O:i<g.length:=by rw[I.len];exact(uQ.mp hi).1
 have cne:=I.cne
 have C: ∀{a:gm} {h':gP},(∃o,s.heap.get? a=some o/\H a=none)->Heap.SameBut a s.heap h'->HOk X.prog X.w H h':=λ{a h'} ha l b ob e=>by
  obtain⟨_,_,k9⟩:=ha;refine(I.hok b ob e).stay (λc R G q=>(l.2 c ?_).trans q) (λ_ q=>q) λ_ _ q=>q;rintro rfl;rcases G with rfl|G
  ·rw[k9] at e;cases e
  ·rw[k9] at G;cases G
 rcases J with hk|hk
 ·refine wpAny_storeName_local hk Z (λh' dh l=>?_) D;obtain⟨oL,_,_,en,_⟩:=id Z;refine h _ ⟨I.ok,I.os,I.bare,⟨λb o e n T J=>?_,λb o e n T J=>?_,I.base.free,λb o e J=>?_,I.base.tups,I.base.frzs,I.base.tbls⟩,⟨_,dh,λj y v' t L S=>?_⟩,λy c e=>?_,I.free,I.freeC,λp hp=>?_,C ⟨oL,en,I.free⟩ l,by simpa using I.len⟩ ⟨_,l,.inl rfl⟩
  ·exact(l.2 b (iD (mS (ja e) I.ok.above))).trans (I.base.keep b o e n T J)
  ·obtain⟨sl,t⟩:=I.base.slot b o e n T J;exact⟨sl,(l.2 b (iD (mS (ja e) I.ok.above))).trans t⟩
  ·obtain⟨o',t⟩:=I.base.there b o e J;exact⟨o',(l.2 b (iD (mS (ja e) I.ok.above))).trans t⟩
  ·by_cases U:j=i
   ·subst U;rw[hi] at t;cases t;rw[uO O] at L;cases L;exact⟨u,r,.inl ⟨hk,by simp⟩⟩
   ·rw[tE (qA U)] at L;obtain⟨u',r',q⟩:=hl j y v' t L S;refine⟨u',r',?_⟩;rcases q with⟨k,e⟩|⟨k,c,e,z⟩
    ·refine .inl ⟨k,?_⟩;have:y≠x:=λe=>U (Ef hN t (e▸hi));simp[this,e]
    ·exact .inr ⟨k,c,e,z.sameBut l (cne y c e)⟩
  ·obtain⟨R,z⟩:=I.cell y c e;exact⟨R,z.sameBut l (cne y c e)⟩
  ·obtain⟨e,n,ne,nf,d⟩:=I.pin p hp;exact⟨(l.2 p.1 ne).trans e,n,ne,nf,d⟩
 ·have W:X.fn x=true:=by
   rcases hf with z|z
   ·exact z
   ·rw[z] at hk;cases hk
  obtain⟨c,G⟩:=I.ok.has x (.inl hk);obtain⟨R,z⟩:=I.cell x c G;refine wpAny_storeName_cell I.ok.kind hk G z (λh' cp l=>?_);obtain⟨oc,F,K⟩:=id z;refine h {s with heap:=h'} ⟨I.ok,I.os,I.bare,⟨λb o e n T J=>?_,λb o e n T J=>?_,I.base.free,λb o e J=>?_,I.base.tups,I.base.frzs,I.base.tbls⟩,⟨m,Z.sameBut l (qA (cne x c G)),λj y v' t L S=>?_⟩,λy P e=>?_,I.free,I.freeC,λp hp=>?_,C ⟨oc,F,I.freeC x c G⟩ l,by simpa using I.len⟩ ⟨c,l,.inr G⟩
  ·exact(l.2 b (iD (mS (ja e) (I.ok.cab x c W G)))).trans (I.base.keep b o e n T J)
  ·obtain⟨sl,t⟩:=I.base.slot b o e n T J;exact⟨sl,(l.2 b (iD (mS (ja e) (I.ok.cab x c W G)))).trans t⟩
  ·obtain⟨o',t⟩:=I.base.there b o e J;exact⟨o',(l.2 b (iD (mS (ja e) (I.ok.cab x c W G)))).trans t⟩
  ·by_cases U:j=i
   ·subst U;rw[hi] at t;cases t;rw[uO O] at L;cases L;exact⟨u,r,.inr ⟨.inl hk,c,G,cp⟩⟩
   ·rw[tE (qA U)] at L;obtain⟨u',r',q⟩:=hl j y v' t L S;refine⟨u',r',?_⟩;rcases q with q|⟨k,P,e,z'⟩
    ·exact .inl q
    ·refine .inr ⟨k,P,e,z'.sameBut l ?_⟩;rintro rfl;exact U (Ef hN t (I.ok.inj _ _ _ e G▸hi))
  ·by_cases Y:P=c
   ·subst Y;exact⟨_,cp⟩
   ·obtain⟨w2,z2⟩:=I.cell y P e;exact⟨w2,z2.sameBut l Y⟩
  ·obtain⟨e,n,ne,nf,d⟩:=I.pin p hp;refine⟨(l.2 p.1 ?_).trans e,n,ne,nf,d⟩;intro q;rw[q,F] at e;have q':oc=p.2:=jw e;exact d R (by rw[<-q'];exact K)
def DL{M:Model}{A:gM}{E:hC}{i:Nat}{x:Str}{v:V}{u:gA}{Q:Unit->Shared->Prop}(I:Inv X f g H s)(c:X.N.Nodup)(e:X.N[i]?=some x)(j:Loc X.env.scope x)(r:RelV v u)
  (h: ∀a,Inv X f (g.set i (some v)) H a->Q () a)(d:X.fn x=true\/X.env.scope.names.lookup x=some .local:=by first|exact .inl rfl|exact .inr rfl|assumption):wpAny M A (storeName X.env x u) Q E s:=
 IU I c e j r (λa b _=>h a b) d
def Inv.call'{s':gn}{ch:jl}(I:Inv X f g H s)(i:s'.os=s.os)(u:Un (frs X.stack) ch H B s.heap s'.heap)(a:HOk X.prog X.w B s'.heap)(h:AllBare s'.gens)
  (d: ∀b∈ch,(b∈X.ex\/X.s₀.heap.objs.size<=b)/\b≠X.env.locals/\(∀x c,X.env.cells.lookup x=some c->c≠b)/\ ∀p∈X.pn++f,p.1≠b):Inv X f g B s':=by
 obtain⟨h',g',d',t',j⟩:=s';have e:j=s.os:=i;subst e;exact I.call (g':=g') (t':=t') (d':=d') u a h d
end
abbrev XK:=Value->Option Addr->Hp->Prop
abbrev St:=List (Option V)
abbrev VK:=V->Hp->Prop
abbrev TE:=St->Hp->VK->Prop
abbrev TT:=St->Hp->(Bool->Hp->Prop)->Prop
abbrev TA:=St->Hp->(List V->Hp->Prop)->Prop
structure Ends where
 nx:St->Hp->Prop
 rt:VK
 bk:St->Hp->Prop:=λ_ _=>False
 ct:St->Hp->Prop:=λ_ _=>False
abbrev TS:=Ends->St->Hp->Prop
def EP(X:Cx)(a:gZ)(d:St)(Q:VK)(u:gA)(c:gn):Prop:= ∃v b,Inv X a d b c/\RelV v u/\Q v b
def TP(X:Cx)(a:gZ)(e:St)(Q:Bool->Hp->Prop)(b:Bool)(d:gn):Prop:= ∃c,Inv X a e c d/\Q b c
def AP(X:Cx)(a:gZ)(f:St)(Q:List V->Hp->Prop)(e:iL)(d:gn):Prop:= ∃c b,Inv X a f b d/\Vals c e/\Q c b
def SP(X:Cx)(b:gZ)(D:Ends)(f:Flow)(d:gn):Prop:=
 match f with
 | .next=> ∃a c,Inv X b a c d/\D.nx a c
 | .brk=> ∃a c,Inv X b a c d/\D.bk a c
 | .cont=> ∃a c,Inv X b a c d/\D.ct a c
 | .ret u=> ∃v a c,Inv X b a c d/\RelV v u/\D.rt v c
def PE(X:Cx)(e:gy)(t:TE):Prop:=
 ∀(a:gZ) (s:gn) (b:St) (H:Hp) (Q:VK),Inv X a b H s->t b H Q->wpAny (model X.prog X.w) X.A (eval e X.env) (EP X a b Q) X.xe s
def PT(X:Cx)(e:gy)(t:TT):Prop:=
 ∀(a:gZ) (s:gn) (b:St) (H:Hp) (Q:Bool->Hp->Prop),Inv X a b H s->t b H Q->wpAny (model X.prog X.w) X.A (isTrue e X.env (eval e X.env)) (TP X a b Q) X.xe s
def PW(X:Cx)(e:gy)(t:TT):Prop:=
 ∀(b:Sem Value) (a:gZ) (s:gn) (c:St) (H:Hp) (Q:Bool->Hp->Prop),Inv X a c H s->t c H Q->wpAny (model X.prog X.w) X.A (isTrue e X.env b) (TP X a c Q) X.xe s
def PW.pt{X:Cx}{e:gy}{t:TT}(h:PW X e t):PT X e t:=h _
def PA(X:Cx)(d:jm)(t:TA):Prop:=
 ∀(b:Pos) (a:gZ) (s:gn) (c:St) (H:Hp) (Q:List V->Hp->Prop),Inv X a c H s->t c H Q->wpAny (model X.prog X.w) X.A (spliced (backTo b (starEach d X.env))) (AP X a c Q) X.xe s
def PS(X:Cx)(st:Stmt)(t:TS):Prop:=
 ∀(a:gZ) (s:gn) (b:St) (H:Hp) (D:Ends),Inv X a b H s->t D b H->wpAny (model X.prog X.w) X.A (exec st X.env) (SP X a D) X.xe s
def PSs(X:Cx)(st:List Stmt)(t:TS):Prop:=
 ∀(a:gZ) (s:gn) (b:St) (H:Hp) (D:Ends),Inv X a b H s->t D b H->wpAny (model X.prog X.w) X.A (execs st X.env) (SP X a D) X.xe s
def thn{c:Type}{t:Sem c}{Q b:c->Shared->Prop}{M:Model}{A:gM}{E:hC}{s:gn}(h:wpAny M A t Q E s)(d: ∀a s,Q a s->b a s):wpAny M A t b E s:=pe h d λ_ _ x=>x
section
variable {X:Cx}
def VR(i:Nat):TE:=λa H Q=> ∃v,a[i]?=some (some v)/\Q v H
noncomputable def tC(v:V):TE:=λ_ H Q=>Q v H
def GC{i:Nat}{x:Str}{f:Pos}(g:X.N[i]?=some x)(hv:Vis X.env.scope x)(hd:(x==("__debug__":Str))=false:=by decide)(n:(x==("__classdict__":Str))=false:=by decide):PE X (.Name x f) (VR i):=by
 intro a s o H Q I h;obtain⟨v,e,h⟩:=h;obtain⟨m,k,j⟩:=I.loc;obtain⟨u,r,l⟩:=j i x v g e hv;have fin:EP X a o Q u s:=⟨v,H,I,r,h⟩
 rcases l with⟨hk,hm⟩|⟨hk,c,b,d⟩
 ·exact wpAny_Name (wpAny_loadName_local I.ok.kind hk k hm fin) hd
 ·rcases hk with hk|hk
  ·exact wpAny_Name (wpAny_loadName_cell I.ok.kind hk b d fin) hd
  ·exact wpAny_Name (wpAny_loadName_free I.ok.kind hk b d fin n) hd
def Sb{i j f}:PE X (.Constant (.int i) j f) (tC (.int i)):=λ_ _ _ H _ I h=>wpAny_Constant_int ⟨.int i,H,I.tok _,⟨_,rfl⟩,h⟩
def UL{b j f}:PE X (.Constant (.bool b) j f) (tC (.bl b)):=λ_ _ _ H _ I h=>Constant_bool ⟨.bl b,H,I,rfl,h⟩
def R9{j f}:PE X (.Constant .none j f) (tC .non):=λ_ _ _ H _ I h=>Constant_none ⟨.non,H,I,rfl,h⟩
def R6{x j f}:PE X (.Constant (.str x) j f) (tC (.str x)):=λ_ _ _ H _ I h=>Calls.Constant_str ⟨.str x,H,I.tok _,⟨_,rfl⟩,h⟩
def Gl(X:Cx)(x:Str):Prop:=X.env.kindOf x=some .globalImplicit
def Ig{E:hC}{a:gZ}{s:gn}{d:St}{H:Hp}{x:Str}{u:gA}{f:Pos}{Q:hC}(I:Inv X a d H s)(b:Gl X x)(c:X.mg x=some u)(h:Q u s)
  (hd:(x==("__debug__":Str))=false:=by decide):wpAny (model X.prog X.w) X.A (eval (.Name x f) X.env) Q E s:=
 Kx I.ok.kind b (Calls.loadGlobal_global (by rw[I.ok.glob];exact I.mod.glob.keeps I.bk) c h) hd
def rz{E:hC}{a:gZ}{s:gn}{g:St}{H:Hp}{x:Str}{u:gA}{f:Pos}{Q:hC}(I:Inv X a g H s)(c:Gl X x)(d:X.mg x=none)(hv:bootBuiltins x=some u)(h:Q u s)
  (e:x≠"__name__":=by decide)(hd:(x==("__debug__":Str))=false:=by decide):wpAny (model X.prog X.w) X.A (eval (.Name x f) X.env) Q E s:=by
 obtain⟨i,h1,b⟩:=I.mod.blt;exact Kx I.ok.kind c (Calls.loadGlobal_builtin (by rw[I.ok.glob];exact I.mod.glob.keeps I.bk) d (by rw[I.ok.blt];exact h1.keeps I.bk) ((b x e).trans hv) h) hd
def OQ{x:Str}{v:V}{u:gA}{f:Pos}(a:Gl X x)(b:X.mg x=some u)(r:RelV v u)(hd:(x==("__debug__":Str))=false:=by decide):PE X (.Name x f) (tC v):=
 λ_ _ _ H _ I h=>Ig I a b ⟨v,H,I,r,h⟩ hd
def CK{x:Str}{v:V}{u:gA}{f:Pos}(a:Gl X x)(b:X.mg x=none)(hv:bootBuiltins x=some u)(r:RelV v u)(c:x≠"__name__":=by decide)(hd:(x==("__debug__":Str))=false:=by decide):PE X (.Name x f) (tC v):=
 λ_ _ _ H _ I h=>rz I a b hv ⟨v,H,I,r,h⟩ c hd
def t2I(g d:TE)(k:Int->Int->Hp->Prop):St->Hp->Prop:=λa H=>g a H λx b=>d a b λy c=> ∃i j,x= .int i/\y= .int j/\k i j c
variable {a b:gy}{g tb:TE}{f:Pos}
noncomputable def tCmp(p:Int->Int->Bool)(g tb:TE):TE:=λd H Q=>t2I g tb (λi j c=>Q (.bl (p i j)) c) d H
def tB(t:TE):TT:=λe H Q=>t e H λx d=> ∃c,x= .bl c/\Q c d
def RS{e:gy}{t:TE}(h:PE X e t)(l: ∀c,isTrue e X.env c=(do let v <-c;standAt e.pos;holding [v] (truthy v)):=by intro _;rfl):PT X e (tB t):=by
 intro i s p H Q I m;refine isTrue_plain (thn (h i s p H _ I m) λv s1 ⟨x,j,k,o,n⟩=>?_) (l _);obtain⟨d,rfl,q⟩:=n;cases o;exact uv ⟨j,k,q⟩
variable {tA n:TT}{hV:jm}
noncomputable def V1(t u:TT):TT:=λe H Q=>t e H λc d=>if c=true then u e d Q else Q false d
noncomputable def tOr(t u:TT):TT:=λe H Q=>t e H λc d=>if c=true then Q true d else u e d Q
noncomputable def tNot(t:TT):TT:=λe H Q=>t e H λc d=>Q (!c) d
def Ou(i:PT X a tA):PW X (.BoolOp .And [a] f) tA:=by
 intro wh d s j H Q I h;refine isTrue_and (thn (i d s j H Q I h) λc s1 e=>?_)
 cases c with
 |true=>exact isTrue_and_nil e
 |false=>exact e
def RO(i:PT X a tA):PW X (.BoolOp .Or [a] f) tA:=by
 intro wh d s j H Q I h;refine isTrue_or (thn (i d s j H Q I h) λc s1 e=>?_)
 cases c with
 |false=>exact isTrue_or_nil e
 |true=>exact e
def RP(l:PT X a tA)(m:PW X (.BoolOp .And (b::hV) f) n):PW X (.BoolOp .And (a::b::hV) f) (V1 tA n):=by
 intro wh d s k H Q I h;refine isTrue_and (thn (l d s k H _ I h) λc s1 ⟨e,i,j⟩=>?_)
 cases c with
 |true=>exact m wh d s1 k e Q i j
 |false=>exact⟨e,i,j⟩
def UG(l:PT X a tA)(m:PW X (.BoolOp .Or (b::hV) f) n):PW X (.BoolOp .Or (a::b::hV) f) (tOr tA n):=by
 intro wh d s k H Q I h;refine isTrue_or (thn (l d s k H _ I h) λc s1 ⟨e,i,j⟩=>?_)
 cases c with
 |true=>exact⟨e,i,j⟩
 |false=>exact m wh d s1 k e Q i j
def RT(i:PT X a tA):PT X (.UnaryOp .Not a f) (tNot tA):=by
 intro d s j H Q I h;exact isTrue_not (i d s j H (λc e=>Q (!c) e) I h)
def Uh(g tb:TE):TE:=λe H Q=>g e H λx d=> ∃c,x= .bl c/\if c=true then tb e d Q else Q (.bl false) d
def T9(g:TE):TE:=λe H Q=>g e H λx d=> ∃c,x= .bl c/\Q (.bl (!c)) d
def R7{op}{t:TE}(h:PE X a t):PE X (.BoolOp op [a] f) t:=λc s e H Q I d=>BoolOp_one (h c s e H Q I d)
def Sd(l:PE X a g)(m:PE X (.BoolOp .And (b::hV) f) tb):PE X (.BoolOp .And (a::b::hV) f) (Uh g tb):=by
 intro d s k H Q I h;refine BoolOp_and (thn (l d s k H _ I h) λv s1 ⟨x,i,j,o,e⟩=>?_);obtain⟨c,rfl,e⟩:=e;cases o;refine uv ?_
 cases c with
 |true=>exact m d s1 k i Q j e
 |false=>exact⟨.bl false,i,j,rfl,e⟩
def R8(k:PE X a g):PE X (.UnaryOp .Not a f) (T9 g):=by
 intro d s m H Q I h;refine UnaryOp_ (thn (k d s m H _ I h) λv s1 ⟨x,i,j,l,e⟩=>?_);obtain⟨c,rfl,e⟩:=e;cases l;exact not_of (uv ⟨.bl (!c),i,j,rfl,e⟩)
noncomputable def tIf(t:TT)(g tb:TE):TE:=λd H Q=>t d H λc e=>if c=true then g d e Q else tb d e Q
def L8{c:gy}(p:PT X c tA)(m:PE X a g)(o:PE X b tb):PE X (.IfExp c a b f) (tIf tA g tb):=by
 intro e s i H Q I h;refine wpAny_IfExp (thn (p e s i H _ I h) λd s1 ⟨j,k,l⟩=>?_)
 cases d with
 |true=>exact m e s1 i j Q k l
 |false=>exact o e s1 i j Q k l
end
def SqL(K:gK)(H:Hp)(a:gm)(xs:List V):Prop:=
 Rd H a (.lst xs)\/
  ∃(o:Obj) (b:lU) (n:Nat),K.lookup a=some o/\o.cls= .type "list"/\o.dict=none/\o.data= .seq b n/\b.size<=sizeLine/\Vals xs b.toList
def SqT(K:gK)(H:Hp)(a:gm)(c:List V):Prop:=
 Rd H a (.tup c)\/
  ∃(o:Obj) (b:lU) (n:Nat),K.lookup a=some o/\o.cls= .type "tuple"/\o.data= .seq b n/\b.size<=sizeLine/\Vals c b.toList
noncomputable def WS:Value->Option V
 | .none=>some .non
 | .bool b=>some (.bl b)
 | .int i _=>some (.int i)
 | .str x _=>some (.str x)
 | .bytes b _=>some (.byt b)
 | .float b _=>some (.flt b)
 | .ref a=>some (.ref a)
 | .type n=>some (.ty n)
 |_=>none
def RelV.abs{x:V}{u:gA}(r:RelV x u):WS u=some x:=by
 cases x with
 |non=>cases r;rfl
 |bl _=>cases r;rfl
 |int _=>obtain⟨t,rfl⟩:=r;rfl
 |str _=>obtain⟨t,rfl⟩:=r;rfl
 |byt _=>obtain⟨t,rfl⟩:=r;rfl
 |flt _=>obtain⟨t,rfl⟩:=r;rfl
 |ref _=>cases r;rfl
 |ty _=>cases r;rfl
theorem RelV.inj{x y:V}{u:gA}(r:RelV x u)(q:RelV y u):x=y:=jw (r.abs.symm.trans q.abs)
theorem Vals.inj: ∀{b c:List V} {a:iL},Vals b a->Vals c a->b=c
 |_,_,_,.nil,.nil=>rfl
 |_,_,_,.cons r t,.cons d e=>by rw[r.inj d,Vals.inj t e]
section
variable {X:Cx}{b:gZ}{c:St}{H:Hp}{s:gn}{a:gm}{xs f:List V}
def SqL.of{K:gK}(h:H a=some (.lst xs)):SqL K H a xs:= .inl (.inl h)
def Inv.list(I:Inv X b c H s)(h:SqL X.K H a xs): ∃d:List Value,Vals xs d/\PlainL s.heap a d.toArray/\xs.length<=sizeLine:=by
 rcases h with h|⟨o,d,n,hk,g,hd,i,j,r⟩
 ·obtain⟨z,d,n,r,e⟩:=h.ok I.hok;exact⟨d,r,⟨_,n,e,rfl,rfl,rfl⟩,z⟩
 ·refine⟨d.toList,r,⟨o,n,I.kIn a o hk,g,hd,by simpa using i⟩,?_⟩;have e:=r.length;simp only[ji] at e
  lia
def Inv.tuple(I:Inv X b c H s)(h:SqT X.K H a xs): ∃d:List Value,Vals xs d/\IsTup s.heap a d.toArray/\xs.length<=sizeLine:=by
 rcases h with h|⟨o,d,n,hk,g,i,j,r⟩
 ·obtain⟨z,d,r,p⟩:=h.ok I.hok;exact⟨d,r,p,z⟩
 ·refine⟨d.toList,r,⟨o,I.kIn a o hk,g,n,by simpa using i⟩,?_⟩;have e:=r.length;simp only[ji] at e
  lia
theorem Inv.list_inj(I:Inv X b c H s)(h:SqL X.K H a xs)(m:SqL X.K H a f):xs=f:=by
 obtain⟨i,r,⟨o,n,e,_,_,d⟩,_⟩:=I.list h;obtain⟨g,p,⟨t,q,k,_,_,j⟩,_⟩:=I.list m;rw[e] at k;cases k;rw[d] at j;injection j with l _
 have:i=g:=by simpa using lX Array.toList l
 subst this;exact r.inj p
theorem Inv.tuple_inj(I:Inv X b c H s)(h:SqT X.K H a xs)(m:SqT X.K H a f):xs=f:=by
 obtain⟨i,r,⟨o,e,_,n,d⟩,_⟩:=I.tuple h;obtain⟨g,p,⟨t,k,_,q,j⟩,_⟩:=I.tuple m;rw[e] at k;cases k;rw[d] at j;injection j with l _
 have:i=g:=by simpa using lX Array.toList l
 subst this;exact r.inj p
end
abbrev Cx.wish(X:Cx)(E:hC):Cx:={X with xe:=E}
abbrev Cx.nox(X:Cx):Cx:=X.wish λ_ _=>False
def Cx.Ok.wish{X:Cx}(ok:X.Ok)(E:hC):(X.wish E).Ok:=
 ⟨ok.mod,ok.kind,ok.glob,ok.blt,ok.above,ok.inj,ok.has,ok.cab,ok.hd,ok.frames,ok.stk,ok.exf,ok.bs,ok.bsz,ok.noex,ok.exfs,ok.funs,ok.frf⟩
def Cx.Ok.unwish{X:Cx}{E:hC}(ok:(X.wish E).Ok):X.Ok:=
 ⟨ok.mod,ok.kind,ok.glob,ok.blt,ok.above,ok.inj,ok.has,ok.cab,ok.hd,ok.frames,ok.stk,ok.exf,ok.bs,ok.bsz,ok.noex,ok.exfs,ok.funs,ok.frf⟩
section
variable {X:Cx}{a:gZ}{b:St}{H:Hp}{s:gn}{E:hC}
def Inv.wish(I:Inv X a b H s)(E:hC):Inv (X.wish E) a b H s:=⟨I.ok.wish E,I.os,I.bare,I.base,I.loc,I.cell,I.free,I.freeC,I.pin,I.hok,I.len⟩
def Inv.unwish(I:Inv (X.wish E) a b H s):Inv X a b H s:=⟨I.ok.unwish,I.os,I.bare,I.base,I.loc,I.cell,I.free,I.freeC,I.pin,I.hok,I.len⟩
def SP.unwish{D:Ends}{f:Flow}{e:gn}(h:SP (X.wish E) a D f e):SP X a D f e:=by
 cases f with
 |next=>obtain⟨c,d,I,q⟩:=h;exact⟨c,d,I.unwish,q⟩
 |brk=>obtain⟨c,d,I,q⟩:=h;exact⟨c,d,I.unwish,q⟩
 |cont=>obtain⟨c,d,I,q⟩:=h;exact⟨c,d,I.unwish,q⟩
 |ret u=>obtain⟨v,c,d,I,r,q⟩:=h;exact⟨v,c,d,I.unwish,r,q⟩
def PSs.nox{st:List Stmt}{t:TS}(h:PSs X.nox st t):PSs X st t:=λa s b H D I c=>
 pe (h a s b H D (I.wish _) c) (λ_ _ q=>q.unwish) λ_ _ z=>False.elim z
end
section
variable {X:Cx}{st:Stmt}{hV:List Stmt}{t u:TS}{e:gy}{i:TE}{g:Pos}
noncomputable def Ua:TS:=λD a H=>D.nx a H
noncomputable def VT(t u:TS):TS:=λD a H=>t {D with nx:=u D} a H
def OG:PSs X [] Ua:=λ_ _ a H _ I h=>F6 ⟨a,H,I,h⟩
def LI(h1:PS X st t)(j:PSs X hV u):PSs X (st::hV) (VT t u):=by
 intro a s k H D I h;refine wpAny_execs_cons (thn (h1 a s k H {D with nx:=u D} I h) λf s1 q=>?_)
 cases f with
 |next=>
  obtain⟨b,c,d,q⟩:=q;exact j a s1 b c D d q
 |ret v=>exact q
 |brk=>exact q
 |cont=>exact q
def Inv.quiet{a:gZ}{b:St}{H:Hp}{s:gn}(I:Inv X a b H s):interactive X.env=false:=by simp[interactive,I.ok.kind]
noncomputable def Uc(i:TE):TS:=λD a H=>i a H λ_ b=>D.nx a b
def OH(f:PE X e i)(j:swapsWith e none g.line X.env=pure false:=by rfl):PS X (.Expr e g) (Uc i):=by
 intro a s b H D I h;exact wpAny_Expr_any (thn (f a s b H _ I h) λv s1 ⟨x,c,d,l,k⟩=>⟨b,c,d,k⟩) I.quiet j
noncomputable def VV(i:TE):TS:=λD a H=>i a H D.rt
def LK(f:PE X e i):PS X (.Return (some e) g) (VV i):=by
 intro a s b H D I h;exact wpAny_Return_some (thn (f a s b H _ I h) λv s1 ⟨x,c,d,k,j⟩=>⟨x,b,c,d,k,j⟩)
noncomputable def VY(c:TT)(t u:TS):TS:=λD a H=>c a H λb d=>if b=true then t D a d else u D a d
def UH{c:gy}{a b:List Stmt}{n:TT}(q:PT X c n)(o:PSs X a t)(p:PSs X b u):PS X (.If c a b g) (VY n t u):=by
 intro f s j H D I h;refine wpAny_If (thn (q f s j H _ I h) λd s1 ⟨k,l,m⟩=>?_)
 cases d with
 |true=>exact o f s1 j k D l m
 |false=>exact p f s1 j k D l m
end
abbrev TG:=V->St->Hp->(St->Hp->Prop)->Prop
abbrev TGs:=List V->St->Hp->(St->Hp->Prop)->Prop
def PG(X:Cx)(a:gy)(t:TG):Prop:=
 ∀(b:gZ) (s:gn) (e:St) (H:Hp) (v:V) (u:gA) (Q:St->Hp->Prop),Inv X b e H s->RelV v u->t v e H Q->
  wpAny (model X.prog X.w) X.A (assign a X.env u) (λ_ f=> ∃c d,Inv X b c d f/\Q c d) X.xe s
def PGs(X:Cx)(h:jm)(t:TGs):Prop:=
 ∀(a:gZ) (s:gn) (f:St) (H:Hp) (e:List V) (d:iL) (Q:St->Hp->Prop),Inv X a f H s->Vals e d->t e f H Q->
  wpAny (model X.prog X.w) X.A (assignInOrder ((assignEach h X.env).map (·.2)) d) (λ_ g=> ∃b c,Inv X a b c g/\Q b c) X.xe s
abbrev PZ:=V->V->V->Hp->(Hp->Prop)->Prop
def Tz(X:Cx)(t:PZ):Prop:=
 ∀(a:gZ) (s:gn) (e:St) (H:Hp) (o i v:V) (d c u:gA) (Q:Hp->Prop),Inv X a e H s->RelV o d->RelV i c->RelV v u->t o i v H Q->
  wpAny (model X.prog X.w) X.A (setItem d c u) (λ_ f=> ∃b,Inv X a e b f/\Q b) X.xe s
section
variable {X:Cx}{d:Pos}
noncomputable def EC(i:Nat):TG:=λv a H Q=>Q (a.set i (some v)) H
def HL{i:Nat}{x:Str}(c:X.N.Nodup)(f:X.N[i]?=some x)(g:Loc X.env.scope x)(e:X.fn x=true\/X.env.scope.names.lookup x=some .local:=by first|exact .inl rfl|exact .inr rfl|assumption):PG X (.Name x d) (EC i):=by
 intro a s k H v u Q I r h;exact wpAny_assign_Name (DL I c f g r (λj b=>⟨_,H,b,h⟩) e)
noncomputable def WQ:TGs:=λa b H Q=>a=[]/\Q b H
def Vd(t:TG)(u:TGs):TGs:=λc e H Q=> ∃v r,c=v::r/\t v e H λa b=>u r a b Q
def OP:PGs X [] WQ:=by
 intro a s b H f c Q I r h;obtain⟨e,h⟩:=h;subst e;cases r;exact assignInOrder_nil ⟨b,H,I,h⟩
def L0{e:gy}{b:jm}{t:TG}{u:TGs}(h1:PG X e t)(j:PGs X b u)
  (k:(assignEach (e::b) X.env).map (·.2)=assign e X.env::(assignEach b X.env).map (·.2):=by rfl):PGs X (e::b) (Vd t u):=by
 intro a s n H q o Q I r h;obtain⟨v,p,i,h⟩:=h;subst i
 cases r with
 |cons r m=>
  rw[k];refine assignInOrder_cons (thn (h1 a s n H _ _ _ I r h) λ_ s1 ⟨c,f,g,l⟩=>?_);exact j a s1 c f _ _ Q g m l
def WO(K:gK)(n:Nat)(t:TGs):TG:=λv c H Q=> ∃a b,v= .ref a/\SqT K H a b/\b.length=n/\t b c H Q
def R5{f:jm}{k:Nat}{t:TGs}{n:Nat}(q:X.calm=true)(h:PGs X f t)
  (x:(assignEach f X.env).length=n:=by rfl)(C:(assignEach f X.env).findIdx? (·.1)=none:=by rfl):PG X (.Tuple f k d) (WO X.K n t):=by
 intro c s j H v u Q I r g;obtain⟨a,E,m,y,w,g⟩:=g;subst m;cases r;obtain⟨B,i,z,G⟩:=I.tuple y;refine assign_Tuple_tuple (I.ok.hd q) z (by simp[x,<-w,i.length]) C λp A=>?_;have l:Inv X c j H {s with heap:=p}:=I.kept (t':=s.toks) λb o e=>A b o (iD (ja e)) e;exact h c _ j H E _ Q l (by simpa using i) g
noncomputable def gSub(g f:TE)(t:PZ):TG:=λv a H Q=>g a H λo b=>f a b λi c=>t o i v c λe=>Q a e
def L3{o i:gy}{g f:TE}{t:PZ}(z:PE X o g)(w:PE X i f)(A:Tz X t)
  (q: ∀v,assign (.Subscript o i d) X.env v=(do
   let b <-holding [v] (eval o X.env)
   let c <-holding [v,b] (eval i X.env)
   standAt d
   holding [v,b,c] (setItem b c v)
   release [v,b,c] []):=by intro _;rfl):PG X (.Subscript o i d) (gSub g f t):=by
 intro a s e H v u Q I r h;rw[q];refine gk (kr (thn (z a s e H _ I h) λb s1 ⟨x,j,m,G,B⟩=>?_));refine gk (kr (thn (w a s1 e j _ m B) λc L ⟨y,k,n,J,C⟩=>?_));refine gk (wy (gk (kr (thn (A a L e k x y v b c u _ n G J r C) λ_ M ⟨l,p,E⟩=>?_))));exact wpAny_release ⟨e,l,p,E⟩
noncomputable def Q0(c:TE)(g:TG):TS:=λD a H=>c a H λx b=>g x a b D.nx
def Gx{b e:gy}{c:TE}{g:TG}(k:PE X e c)(l:PG X b g)(m:swapsWithSole [b] e d.line X.env=pure false:=by rfl)(n:swappedStores [b] e X.env=pure none:=by rfl)
  (h1:(assignEach [b] X.env).map (·.2)=[assign b X.env]:=by rfl):PS X (.Assign [b] e d) (Q0 c g):=by
 intro a s f H D I h;refine wpAny_Assign_stores (thn (k a s f H _ I h) λv s1 ⟨x,i,j,p,o⟩=>?_) m n;rw[h1];exact thn (l a s1 f i x v _ j p o) λ_ r q=>q
def RW{i:Nat}{x:Str}{e:gy}{c:TE}{a:Pos}(k:X.N.Nodup)(n:X.N[i]?=some x)(p:Loc X.env.scope x)(l:PE X e c)(o:swapsWith e (some (.Name x a)) d.line X.env=pure false:=by rfl)(m:X.fn x=true\/X.env.scope.names.lookup x=some .local:=by first|exact .inl rfl|exact .inr rfl|assumption):
  PS X (.Assign [.Name x a] e d) (Q0 c (EC i)):=by
 intro b s t H D I h;refine wpAny_Assign_Name (thn (l b s t H _ I h) λv s1 ⟨y,f,g,r,q⟩=>?_) o;exact DL g k n p r (λu j=>⟨_,f,j,q⟩) m
def QV(c:TT)(i:TS):TS:=λD a H=> ∃W:Nat->St->Hp->Prop,(∃m,W m a H)/\ ∀m a H,W m a H->
 c a H λb g=>if b=true then ∃N:St->Hp->Prop,(∀e f,N e f-> ∃h,h<m/\W h e f)/\i {D with nx:=N,ct:=N,bk:=D.nx} a g else D.nx a g
def LJ{c:gy}{i:List Stmt}{G:TT}{E:TS}(C:PassesOwn (model X.prog X.w) X.A X.env X.xe)(M:PT X c G)(L:PSs X i E):PS X (.While c i [] d) (QV G E):=by
 intro a s F H D I h;obtain⟨W,⟨O,U⟩,k⟩:=h;refine wpAny_While (codeAny_whileLoop (λn Q=> ∃l x,Inv X a l x Q/\W n l x) ?_ O ⟨F,H,I,U⟩);rintro n s1 ⟨g,H1,J,Y⟩;refine ur C (thn (M a s1 g H1 _ J (k n g H1 Y)) λb T ⟨y,z,m⟩=>?_)
 cases b with
 |true=>
  obtain⟨N,B,m⟩:=m;rw[gD rfl];refine ur C (thn (L a T g y _ z m) λf K o=>?_)
  cases f with
  |next=>
   obtain⟨e,j,p,t⟩:=o;obtain⟨r,q,u⟩:=B e j t;exact⟨r,q,e,j,p,u⟩
  |cont=>
   obtain⟨e,j,p,t⟩:=o;obtain⟨r,q,u⟩:=B e j t;exact⟨r,q,e,j,p,u⟩
  |brk=>exact o
  |ret v=>exact o
 |false=>
  rw[gL je];exact F6 ⟨g,y,z,m⟩
end
structure It where
 go:Nat->Hp->Prop
 yld:Nat->Hp->V->Hp->Prop
 stop:Nat->Hp->Prop
def rP(X:Cx)(a:gZ)(H:Hp)(b:gm):Prop:=
 H b=none/\b≠X.env.locals/\b∉X.fs/\(b∈X.ex\/X.s₀.heap.objs.size<=b)/\(∀x c,X.env.cells.lookup x=some c->c≠b)/\ ∀p∈X.pn++a,p.1≠b
def Inv.fpOk{X:Cx}{a:gZ}{i:St}{H f:Hp}{s:gn}{b:gm}(I:Inv X a i H s)(d:s.heap.objs.size<=b)(g:f b=none):rP X a f b:=by
 refine⟨g,pd (mS I.lt d),I.nofs d,.inr (ku I.sz d),λx c e z=>?_,λp h z=>?_⟩
 ·obtain⟨v,q⟩:=I.cell x c e;exact absurd (mS q.lt (by rw[z];exact d)) (ph _)
 ·exact absurd (mS (ja (I.pin p h).1) (by rw[z];exact d)) (ph _)
structure Turn(P:gR)(w:gJ)(K:gK)(tg:gy)(J:It)(fp:jl)(it:gm)(tn:Nat->Heap->Prop):Prop where
 mem:it∈fp
 obj: ∀i h,tn i h-> ∀b∈fp,∃o,h.get? b=some o/\ ∀v,o.data≠ .cell v
 keep: ∀i h h',tn i h->(∀b∈fp,∀o,h.get? b=some o->h'.get? b=some o)->tn i h'
 item: ∀(X:Cx),X.prog=P->X.w=w->X.K=K->X.calm=true-> ∀(i:Nat) (pins:gZ) (s:gn) (σ:St) (H:Hp) (E:hC),Inv X pins σ H s->(∀b∈fp,rP X pins H b)->tn i s.heap->J.go i H->
  wpAny (model P w) X.A (pyNext (.ref it)) (λr s1=> ∃u,r=some u/\
   wpAny (model P w) X.A (letOwnedTupleGo tg (.ref it) u) (λ_ s2=> ∃x H',Inv X pins σ H' s2/\RelV x u/\J.yld i H x H'/\tn (i+1) s2.heap/\ ∀b∈fp,H' b=none) E s1) E s
 done: ∀(X:Cx),X.prog=P->X.w=w->X.K=K->X.calm=true-> ∀(i:Nat) (pins:gZ) (s:gn) (σ:St) (H:Hp) (E:hC),Inv X pins σ H s->(∀b∈fp,rP X pins H b)->tn i s.heap->J.stop i H->
  wpAny (model P w) X.A (pyNext (.ref it)) (λr s1=>r=none/\Inv X pins σ H s1) E s
 self: ∀(A:gM) (i:Nat) (s:gn) (Q:hC) (E:hC),tn i s.heap->Q (.ref it) s->wpAny (model P w) A (pyIter (.ref it)) Q E s
abbrev TI:=St->Hp->(It->Hp->Prop)->Prop
def PIE(X:Cx)(a:gZ)(j:St)(i:gy)(R:It->Hp->Prop)(h:gA)(f:gn):Prop:=
 ∃(e:gm) (d:jl) (g:Nat->Heap->Prop) (J:It) (c:Hp),h= .ref e/\Inv X a j c f/\Turn X.prog X.w X.K i J d e g/\g 0 f.heap/\(∀b∈d,rP X a c b)/\R J c
def PI(X:Cx)(tg iter:gy)(c:TI):Prop:=
 ∀(a:gZ) (s:gn) (b:St) (H:Hp) (R:It->Hp->Prop),Inv X a b H s->c b H R->
  wpAny (model X.prog X.w) X.A (eval iter X.env) (λv s1=>wpAny (model X.prog X.w) X.A (pyIter v) (PIE X a b tg R) X.xe s1) X.xe s
def MW{M:Model}{A:gM}{E:hC}{s:gn}{c:gy}{b:gm}{u:gA}{o:Obj}{n:String}{d:lU}{Q:Unit->Shared->Prop}(g:s.heap.get? b=some o)(e:o.cls= .type n)(hd:o.data= .fields d)
  (f:["enumerate","zip","dict_itemiterator","dict_reverseitemiterator","odict_iterator","itertools.zip_longest","itertools.pairwise"].contains n=false)(a:Q () s):wpAny M A (letOwnedTupleGo c (.ref b) u) Q E s:=by
 unfold letOwnedTupleGo
 cases c<;>first
  |exact gw a
  |(cases u<;>first
    |exact gw a
    |(
      refine gk (wx g ?_);rw[e,hd];show wpAny M A (if(["enumerate","zip","dict_itemiterator","dict_reverseitemiterator","odict_iterator","itertools.zip_longest","itertools.pairwise"].contains n&&d[0]?==some (rawInt _))=true then _ else _) Q E s;rw[gL (by intro h;rw[f,Bool.false_and] at h;cases h)];exact gw a))
noncomputable def Itl(K:gK)(a:gm):It:=
 ⟨λi H=> ∃b x,SqL K H a b/\b[i]?=some x,λi H x c=>c=H/\ ∀b,SqL K H a b->b[i]?=some x,λi H=> ∃b,SqL K H a b/\b.length<=i⟩
noncomputable def Itt(K:gK)(a:gm):It:=
 ⟨λi H=> ∃b x,SqT K H a b/\b[i]?=some x,λi H x c=>c=H/\ ∀b,SqT K H a b->b[i]?=some x,λi H=> ∃b,SqT K H a b/\b.length<=i⟩
noncomputable def Itr(lo:Int)(n:Nat):It:=⟨λi _=>i<n,λi H x a=>a=H/\x= .int (lo+i),λi _=>n<=i⟩
def IT{P:gR}{w:gJ}{K:gK}{tg:gy}(a j:gm):Turn P w K tg (Itl K a) [j] j (λi h=>h.IsListIter j a i) where
 mem:=by simp
 obj:=λi h st b g=>by
  have e:b=j:=by simpa using g
  subst e;obtain⟨o,e,c,d⟩:=st;exact⟨o,e,λv z=>by rw[d] at z;cases z⟩
 keep:=λi h l st k=>st.at λo e=>k j (by simp) o e
 item:=by
  intro X A C y N i f s O H E I m st B;subst A C y;obtain⟨S,x,n,G⟩:=B;obtain⟨J,L,p,D⟩:=I.list n;obtain⟨u,U,F⟩:=L.get G;obtain⟨f0,f1,f2,q,r,t⟩:=m j (by simp);refine wpAny_pyNext_list_item st p.isList (x:=u) (by simpa using U) λl M R=>?_;have Q:Inv X f O H {s with heap:=l}:=I.turned (t':=s.toks) (λb o g e=>(R.2 b g).trans e) f0 f1 q r t;obtain⟨o,e,c,d⟩:=id M;exact⟨u,rfl,MW (s:={s with heap:=l}) e c d (by decide) ⟨x,H,Q,F,⟨rfl,λW Y=>by rw[I.list_inj Y n];exact G⟩,M,λb g=>(m b g).1⟩⟩
 done:=by
  intro X A C y N i f s O H E I m st B;subst A C y;obtain⟨S,n,G⟩:=B;obtain⟨J,L,p,D⟩:=I.list n;obtain⟨f0,f1,f2,q,r,t⟩:=m j (by simp);have V:=L.length;exact wpAny_pyNext_list_end (I.ok.hd N) st p.isList (by simp;lia) λl T=>⟨rfl,I.turned (t':=s.toks) (λb o g e=>T b o g e) f0 f1 q r t⟩
 self:=λ_ _ _ _ _ st h=>wpAny_pyIter_listiter st h
def Ge{P:gR}{w:gJ}{K:gK}{tg:gy}(a j:gm):Turn P w K tg (Itt K a) [j] j (λi h=>h.IsTupleIter j a i) where
 mem:=by simp
 obj:=λi h st b g=>by
  have e:b=j:=by simpa using g
  subst e;obtain⟨o,e,c,d⟩:=st;exact⟨o,e,λv z=>by rw[d] at z;cases z⟩
 keep:=λi h m st k=>st.at λo e=>k j (by simp) o e
 item:=by
  intro X B G A N i f s O H E I n st C;subst B G A;obtain⟨S,x,q,J⟩:=C;obtain⟨l,L,p,D⟩:=I.tuple q;obtain⟨u,U,F⟩:=L.get J;obtain⟨f0,f1,f2,r,t,y⟩:=n j (by simp);refine wpAny_pyNext_tuple_item st (show s.heap.IsTuple a l.toArray from p) (x:=u) (by simpa using U) λm M R=>?_;have Q:Inv X f O H {s with heap:=m}:=I.turned (t':=s.toks) (λb o g e=>(R.2 b g).trans e) f0 f1 r t y;obtain⟨o,e,c,d⟩:=id M;exact⟨u,rfl,MW (s:={s with heap:=m}) e c d (by decide) ⟨x,H,Q,F,⟨rfl,λW Y=>by rw[I.tuple_inj Y q];exact J⟩,M,λb g=>(n b g).1⟩⟩
 done:=by
  intro X B G A N i f s O H E I n st C;subst B G A;obtain⟨S,q,J⟩:=C;obtain⟨l,L,p,D⟩:=I.tuple q;obtain⟨f0,f1,f2,r,t,y⟩:=n j (by simp);have V:=L.length;exact wpAny_pyNext_tuple_end (I.ok.hd N) st (show s.heap.IsTuple a l.toArray from p) (by simp;lia) λm T=>⟨rfl,I.turned (t':=s.toks) (λb o g e=>T b o g e) f0 f1 r t y⟩
 self:=λ_ _ _ _ _ st h=>wpAny_pyIter_tupleiter st h
def Gf{P:gR}{w:gJ}{K:gK}{L:gy}(a:gm)(lo:Int)(n:Nat):Turn P w K L (Itr lo n) [a] a (λi h=>IsRangeIter h a (lo+(i:Nat)*1) ((n:Int)-(i:Nat)) 1) where
 mem:=by simp
 obj:=λi h st b d=>by
  have e:b=a:=by simpa using d
  subst e
  exact⟨_,st,λv z=>by
   have M:Data.fields _=Data.cell v:=z;cases M⟩
 keep:=λi h f st k=>k a (by simp) _ st
 item:=by
  intro X q x p r i c s B H E I g st u;subst q x p;obtain⟨f0,f1,f2,j,l,m⟩:=g a (by simp);have W:=Walks.range (prog:=X.prog) (w:=X.w) (I.ok.hd r) a lo 1 n;refine W.item i s _ _ u st λv f A hv y J=>?_;obtain⟨t,rfl⟩:=hv;have C:Inv X c B H {s with heap:=f,toks:=A}:=I.turned (λb o d e=>J b o (by simpa using d) e) f0 f1 j l m;refine⟨_,rfl,MW (s:={s with heap:=f,toks:=A}) (n:="range_iterator") y rfl rfl (by decide) ⟨.int (lo+i),H,C,⟨t,?_⟩,⟨rfl,rfl⟩,y,λb d=>(g b d).1⟩⟩;rw[yA]
 done:=by
  intro X q x p r i c s B H E I g st u;subst q x p;obtain⟨f0,f1,f2,j,l,m⟩:=g a (by simp);exact wpAny_pyNext_range_end (I.ok.hd r) st (by have:n<=i:=u;lia) λf G=>⟨rfl,I.turned (t':=s.toks) (λb o d e=>G b o d e) f0 f1 j l m⟩
 self:=λ_ _ _ _ _ st h=>wpAny_pyIter_rangeiter st h
section
variable {X:Cx}{tg:gy}
def Va(K:gK)(c:TE):TI:=λe H R=>c e H λx b=> ∃a,x= .ref a/\(∃d,SqL K b a d)/\R (Itl K a) b
def WN(K:gK)(c:TE):TI:=λe H R=>c e H λx b=> ∃a,x= .ref a/\(∃d,SqT K b a d)/\R (Itt K a) b
def OM{l:gy}{f:TE}(j:PE X l f):PI X tg l (Va X.K f):=by
 intro c s t H R I h;refine thn (j c s t H _ I h) λv s1 ⟨x,g,d,r,n⟩=>?_;obtain⟨a,e,⟨y,k⟩,q⟩:=n;subst e;cases r;obtain⟨m,w,p,u⟩:=d.list k;refine yz p.isList ?_;refine⟨s1.heap.objs.size,[s1.heap.objs.size],_,_,g,rfl,d.kept (t':=s1.toks) λb o e=>iW _ e,IT a _,⟨_,jv _ rfl,rfl,rfl⟩,λb i=>?_,q⟩;have e:b=s1.heap.objs.size:=by simpa using i
 subst e;exact d.fpOk (iO _) (d.hok.fresh (iO _))
def R3{l:gy}{g:TE}(k:PE X l g):PI X tg l (WN X.K g):=by
 intro c s t H R I h;refine thn (k c s t H _ I h) λv s1 ⟨x,i,d,r,n⟩=>?_;obtain⟨a,e,⟨y,m⟩,q⟩:=n;subst e;cases r;obtain⟨f,w,p,u⟩:=d.tuple m;refine F5 (show s1.heap.IsTuple a f.toArray from p) ?_;refine⟨s1.heap.objs.size,[s1.heap.objs.size],_,_,i,rfl,d.kept (t':=s1.toks) λb o e=>iW _ e,Ge a _,⟨_,jv _ rfl,rfl,rfl⟩,λb j=>?_,q⟩;have e:b=s1.heap.objs.size:=by simpa using j
 subst e;exact d.fpOk (iO _) (d.hok.fresh (iO _))
def D3{c:gZ}{g:St}{H:Hp}{s:gn}{R:It->Hp->Prop}{E:hC}{lo a:Int}{t u v:Tok}{f:Nat}(I:Inv X c g H s)(h1: -(2^62)<=lo)(j:lo<2^62)(k: -(2^62)<=a)(l:a<2^62)
  (q:R (Itr lo (a-lo).toNat) H):wpAny (model X.prog X.w) X.A (pyIter (.ref s.heap.objs.size)) (PIE X c g tg R) E {s with heap:=s.heap.push {cls:= .type "range",data:= .fields #[.int lo t,.int a u,.int 1 v]},toks:=f}:=by
 refine wpAny_pyIter_range (IsRange.new ..) (small_one h1 j k l) ?_;have d:Inv X c g H {s with heap:=s.heap.push {cls:= .type "range",data:= .fields #[.int lo t,.int a u,.int 1 v]},toks:=f}:=I.kept λb o e=>iW _ e
 refine⟨(s.heap.push {cls:= .type "range",data:= .fields #[.int lo t,.int a u,.int 1 v]}).objs.size,[(s.heap.push {cls:= .type "range",data:= .fields #[.int lo t,.int a u,.int 1 v]}).objs.size],_,_,H,rfl,
  d.kept (t':=f) λb o e=>iW _ e,Gf _ lo (a-lo).toNat,?_,λb m=>?_,q⟩
 ·have h:lo+((0:Nat):Int)*1=lo:=by simp
  have i:(((a-lo).toNat:Nat):Int)-((0:Nat):Int)=Builtin.Range.rangeSize lo a 1:=by rw[rangeSize_one];split<;>lia
  show IsRangeIter _ _ (lo+((0:Nat):Int)*1) ((((a-lo).toNat:Nat):Int)-((0:Nat):Int)) 1;rw[h,i];exact jv _ rfl
 ·have e:b=(s.heap.push {cls:= .type "range",data:= .fields #[.int lo t,.int a u,.int 1 v]}).objs.size:=by simpa using m
  subst e;exact d.fpOk (iO _) (d.hok.fresh (iO _))
def U9(b:TA):TI:=λd H R=>b d H λc a=> ∃j:Int,c=[.int j]/\ -(2^62)<=j/\j<2^62/\R (Itr 0 j.toNat) a
def U8(b:TA):TI:=λd H R=>b d H λc a=> ∃i j:Int,c=[.int i,.int j]/\(-(2^62)<=i/\i<2^62/\ -(2^62)<=j/\j<2^62)/\R (Itr i (j-i).toNat) a
def Jn{a:gy}{f:TA}{p c:Pos}(k:Gl X "range")(l:X.mg "range"=none)(i:PA X [a] f)(m:starEach [a] X.env=[(false,eval a X.env)]:=by rfl):PI X tg (.Call (.Name "range" p) [a] [] c) (U9 f):=by
 intro b s v H R I h;refine Call_ (rz I k l Cm (Ck (thn (i c b s v H _ I h) λx s1 ⟨y,w,g,o,d⟩=>?_) m rfl));obtain⟨j,e,d,n,q⟩:=d;subst e
 cases o with
 |cons r u=>
  cases u;obtain⟨t,rfl⟩:=r;exact call_range_1 (D3 g (by lia) (by lia) d n (by simpa using q))
def Jm{a b:gy}{l:TA}{p d:Pos}(o:Gl X "range")(u:X.mg "range"=none)(n:PA X [a,b] l)(v:starEach [a,b] X.env=[(false,eval a X.env),(false,eval b X.env)]:=by rfl)(k:starEach [b] X.env=[(false,eval b X.env)]:=by rfl):
  PI X tg (.Call (.Name "range" p) [a,b] [] d) (U8 l):=by
 intro c s B H R I h;refine Call_ (rz I o u Cm (Ck (thn (n d c s B H _ I h) λG s1 ⟨J,C,m,A,f⟩=>?_) (by rw[v,k]) (by rw[k];rfl)));obtain⟨i,j,e,⟨f,w,x,y⟩,q⟩:=f;subst e
 cases A with
 |cons r g=>
  cases g with
  |cons z g=>
   cases g;obtain⟨t,rfl⟩:=r;obtain⟨E,rfl⟩:=z;exact call_range_2 (D3 m f w x y q)
def VZ(k:TI)(g:TG)(j:TS):TS:=λD a H=>k a H λJ f=> ∃W:Nat->Nat->St->Hp->Prop,(∃m,W 0 m a f)/\ ∀i m a H,W i m a H->
 (J.stop i H/\D.nx a H)\/(J.go i H/\ ∃N:St->Hp->Prop,(∀c b,N c b-> ∃e,e<m/\W (i+1) e c b)/\ ∀x b,J.yld i H x b->g x a b λd h=>j {D with nx:=N,ct:=N,bk:=D.nx} d h)
noncomputable def yT(a:jl)(h:gP):List (Addr×Obj):=a.filterMap λb=>(h.get? b).map λo=>(b,o)
def qd{a:jl}{h:gP}{b:gm}{o:Obj}(c:b∈a)(e:h.get? b=some o):(b,o)∈yT a h:=List.mem_filterMap.mpr ⟨b,c,by rw[e];rfl⟩
def Jr{a:jl}{h:gP}{p:Addr×Obj}(f:p∈yT a h):p.1∈a/\h.get? p.1=some p.2:=by
 obtain⟨b,d,e⟩:=List.mem_filterMap.mp f
 cases q:h.get? b with
 |none=>rw[q] at e;cases e
 |some o=>
  rw[q] at e;have c:(b,o)=p:=jw e;subst c;exact⟨d,q⟩
def Inv.pinned{a:gZ}{h:St}{H:Hp}{s:gn}{c:jl}(I:Inv X a h H s)(i: ∀b∈c,rP X a H b)(j: ∀b∈c,∃o,s.heap.get? b=some o/\ ∀v,o.data≠ .cell v):Inv X (a++yT c s.heap) h H s:=
 I.pins_of λp k=>(pK.mp k).elim (λz=>I.pin p (oZ _ z)) λz=>by
  obtain⟨g,e⟩:=Jr z;obtain⟨f0,f1,f2,_⟩:=i p.1 g;obtain⟨o,f,d⟩:=j p.1 g;rw[e] at f;cases f;exact⟨e,f0,f1,f2,d⟩
def Inv.unpinned{a d:gZ}{b:St}{H:Hp}{s:gn}(I:Inv X (a++d) b H s):Inv X a b H s:=I.pins_of λp c=>I.pin p (oZ _ (Cn _ c))
def RX{iter:gy}{y:List Stmt}{wi:TI}{g:TG}{tb:TS}{Q:Pos}(C:PassesOwn (model X.prog X.w) X.A X.env X.xe)(hc:X.calm=true)(hi:PI X tg iter wi)(hg:PG X tg g)(l:PSs X y tb)
  (hs: ∀x,foldedSetIterable iter X.env x=pure x:=by intro _;rfl):PS X (.For tg iter y [] Q) (VZ wi g tb):=by
 intro a s P H D I h;refine wpAny_For (thn (hi a s P H _ I h) λv s1 h1=>thn h1 λcE s2 Z=>?_) hs;obtain⟨it,B,K,J,R,e,S,T,x6,f2,W,⟨m0,w0⟩,G⟩:=Z;subst e;have Y: ∀{t:Hp},(∀b∈B,t b=none)-> ∀b∈B,rP X a t b:=λhn b l=>⟨hn b l,(f2 b l).2⟩
 refine codeAny_forLoop_any (λn F=> ∃i p t,Inv X a p t F/\K i F.heap/\(∀b∈B,t b=none)/\W i n p t) ?_ m0 ⟨0,P,R,S,x6,λb l=>(f2 b l).1,w0⟩;rintro n s3 ⟨i,q,L,I3,cW,cQ,w3⟩;rcases G i n q L w3 with⟨stop,qn⟩|⟨go,N,hN,step⟩
 ·refine ur C (thn (T.done X rfl rfl rfl hc i a s3 q L X.xe I3 (Y cQ) cW stop) λr s4 ⟨O,I4⟩=>?_);subst O;exact F6 ⟨q,L,I4,qn⟩
 ·refine ur C (thn (T.item X rfl rfl rfl hc i a s3 q L X.xe I3 (Y cQ) cW go) λr s4 ⟨u,O,h4⟩=>?_);subst O;refine ur C (thn h4 λ_ s5 ⟨x,H5,I5,r5,y5,M,fV⟩=>?_);have V:=I5.pinned (Y fV) (T.obj _ _ M);refine ur C (thn (hg _ s5 q H5 x u _ V r5 (step x H5 y5)) λ_ s6 ⟨σ6,H6,I6,q6⟩=>?_);refine ur C (thn (l _ s6 σ6 H6 _ I6 q6) λf U z=>?_)
  have again: ∀{c:St} {j:Hp},Inv X (a++yT B s5.heap) c j U->N c j-> ∃m,m<n/\ ∃i p t,Inv X a p t U/\K i U.heap/\(∀b∈B,t b=none)/\W i m p t:=λ{c j} k E=>by
   obtain⟨m',hm,w7⟩:=hN c j E;refine⟨m',hm,i+1,c,j,k.unpinned,T.keep _ _ _ M λb l o e=>(k.pin (b,o) (oZ _ (oZ _ (qd l e)))).1,λb l=>?_,w7⟩;obtain⟨o,e,d⟩:=T.obj _ _ M b l;exact(k.pin (b,o) (oZ _ (oZ _ (qd l e)))).2.1
  cases f with
  |next=>obtain⟨c,j,k,E⟩:=z;exact again k E
  |cont=>obtain⟨c,j,k,E⟩:=z;exact again k E
  |brk=>obtain⟨c,j,k,z⟩:=z;exact⟨c,j,k.unpinned,z⟩
  |ret v=>obtain⟨x7,c,j,k,r7,z⟩:=z;exact⟨x7,c,j,k.unpinned,r7,z⟩
end
abbrev R2:=V->V->Hp->VK->Prop
def OpR(X:Cx)(f:xi)(r:R2):Prop:=
 ∀(a:gZ) (s:gn) (b:St) (H:Hp) (x y:V) (v u:gA) (Q:VK),Inv X a b H s->RelV x v->RelV y u->r x y H Q->
  wpAny (model X.prog X.w) X.A (f v u) (EP X a b Q) X.xe s
def UnR(X:Cx)(f:Value->Sem Value)(r:V->Hp->VK->Prop):Prop:=
 ∀(a:gZ) (s:gn) (b:St) (H:Hp) (x:V) (v:gA) (Q:VK),Inv X a b H s->RelV x v->r x H Q->
  wpAny (model X.prog X.w) X.A (f v) (EP X a b Q) X.xe s
def jx(X:Cx)(f:gA)(r:List V->Hp->VK->Prop):Prop:=
 ∀(a:gZ) (s:gn) (c:St) (H:Hp) (xs:List V) (b:iL) (Q:VK),Inv X a c H s->Vals xs b->r xs H Q->
  wpAny (model X.prog X.w) X.A (call f b) (EP X a c Q) X.xe s
noncomputable def tOp(r:R2)(d e:TE):TE:=λa H Q=>d a H λx b=>e a b λy c=>r x y c Q
def tUn(r:V->Hp->VK->Prop)(b:TE):TE:=λc H Q=>b c H λx a=>r x a Q
def rI(C:Int->Int->Prop)(g:Int->Int->V):R2:=λx y H Q=> ∃i j,x= .int i/\y= .int j/\C i j/\Q (g i j) H
def rI0(g:Int->Int->V):R2:=λx y H Q=> ∃i j,x= .int i/\y= .int j/\Q (g i j) H
def rU(g:Int->V):V->Hp->VK->Prop:=λx H Q=> ∃i,x= .int i/\Q (g i) H
section
variable {X:Cx}{a b c:gy}{l tb n:TE}{m:Pos}
def Tr(r:PE X a l)(t:PE X b tb){d:gZ}{s:gn}{g:St}{H:Hp}{R:V->V->Hp->Prop}(I:Inv X d g H s)
  (h:l g H λx o=>tb g o λy e=>R x y e){Q:hC}{f:xi}
  (z: ∀v u k x y e,Inv X d g e k->RelV x v->RelV y u->R x y e->wpAny (model X.prog X.w) X.A (f v u) Q X.xe k):
  wpAny (model X.prog X.w) X.A (eval a X.env) (λv i=>wpAny (model X.prog X.w) X.A (eval b X.env) (λu j=>wpAny (model X.prog X.w) X.A (f v u) Q X.xe j) X.xe i) X.xe s:=by
 refine thn (r d s g H _ I h) λv s1 ⟨x,o,p,E,B⟩=>?_;refine thn (t d s1 g o _ p B) λu k ⟨y,e,q,G,C⟩=>?_;exact z v u k x y e q E G C
def UK{e:Operator}{r:R2}(k:OpR X (binaryOp e) r)(i:PE X a l)(j:PE X b tb):PE X (.BinOp a e b m) (tOp r l tb):=by
 intro d s w H Q I h;exact wpAny_BinOp (Tr i j I h λv u t x y f g o p q=>k d t w f x y v u Q g o p q)
def UJ{e:UnaryOp}{r:V->Hp->VK->Prop}(k:UnR X (unaryOp e) r)(j:PE X a l):PE X (.UnaryOp e a m) (tUn r l):=by
 intro d s f H Q I h;exact UnaryOp_ (thn (j d s f H _ I h) λv s1 ⟨x,g,i,p,o⟩=>k d s1 f g x v Q i p o)
def opI{f:xi}{C:Int->Int->Prop}{g:Int->Int->Int}
  (rule: ∀(i j:Int) (t u:Tok) (s:gn) (Q:hC) (E:hC),C i j->Q (.int (g i j) s.toks) {s with toks:=s.toks+1}->wpAny (model X.prog X.w) X.A (f (.int i t) (.int j u)) Q E s):
  OpR X f (rI C λi j=> .int (g i j)):=by
 intro d s r H x y v u Q I k o h;obtain⟨i,j,rfl,rfl,e,q⟩:=h;obtain⟨t,rfl⟩:=k;obtain⟨p,rfl⟩:=o;exact rule i j t p s _ _ e ⟨.int (g i j),H,I.tok _,⟨_,rfl⟩,q⟩
def US{f:xi}{g:Int->Int->Int}
  (rule: ∀(i j:Int) (t u:Tok) (s:gn) (Q:hC) (E:hC),Q (.int (g i j) s.toks) {s with toks:=s.toks+1}->wpAny (model X.prog X.w) X.A (f (.int i t) (.int j u)) Q E s):
  OpR X f (rI0 λi j=> .int (g i j)):=by
 intro d s p H x y v u Q I e k h;obtain⟨i,j,rfl,rfl,q⟩:=h;obtain⟨t,rfl⟩:=e;obtain⟨o,rfl⟩:=k;exact rule i j t o s _ _ ⟨.int (g i j),H,I.tok _,⟨_,rfl⟩,q⟩
def OZ{f:xi}{g:Int->Int->Bool}
  (rule: ∀(i j:Int) (t u:Tok) (s:gn) (Q:hC) (E:hC),Q (.bool (g i j)) s->wpAny (model X.prog X.w) X.A (f (.int i t) (.int j u)) Q E s):
  OpR X f (rI0 λi j=> .bl (g i j)):=by
 intro d s p H x y v u Q I e k h;obtain⟨i,j,rfl,rfl,q⟩:=h;obtain⟨t,rfl⟩:=e;obtain⟨o,rfl⟩:=k;exact rule i j t o s _ _ ⟨.bl (g i j),H,I,rfl,q⟩
def JU(i j:Int):Prop:=0<j/\j<1073741824
def xX(i j:Int):Prop:=0<=j/\j<=1000000/\i.natAbs<2^64
def CMul(i j:Int):Prop:=(-(2^64)<i/\i<2^64)\/(-(2^64)<j/\j<2^64)
theorem CMul.ok{i j:Int}(h:CMul i j):IntMulOk i j:=by
 rcases h with⟨h1,d⟩|⟨h1,d⟩
 ·exact .of_left (intBits_le_64 h1 d)
 ·exact .of_right (intBits_le_64 h1 d)
def Su:OpR X (binaryOp .Add) (rI0 λi j=> .int (i+j)):=US λ_ _ _ _ _ _ _ q=>add_int q
def Si:OpR X (binaryOp .Sub) (rI0 λi j=> .int (i-j)):=US λ_ _ _ _ _ _ _ q=>sub_int q
def Sm:OpR X (binaryOp .Mult) (rI CMul λi j=> .int (i*j)):=opI λ_ _ _ _ _ _ _ d q=>mul_int q d.ok
def OX:OpR X (binaryOp .FloorDiv) (rI JU λi j=> .int (i / j)):=opI λi j _ _ _ _ _ d q=>by
 have h1:(0:Int)<j:=d.1;have e:j<1073741824:=d.2;exact floordiv_int (by lia) (by rw[Int.fdiv_eq_ediv_of_nonneg i (by lia)];exact q) (.inl (PyProof.noPylong_small (by lia)))
def Sn:OpR X (binaryOp .Mod) (rI (λ_ j=>0<j) λi j=> .int (i%j)):=opI λi j _ _ _ _ _ d q=>by
 have h1:(0:Int)<j:=d;exact mod_int' (by lia) (by rw[Int.fmod_eq_emod_of_nonneg i (by lia)];exact q)
def Sj:OpR X (binaryOp .Pow) (rI xX λi j=> .int (i^j.toNat)):=opI λ_ _ _ _ _ _ _ d q=>pow_int_small d.1 d.2.1 d.2.2 q
def unI{f:Value->Sem Value}{g:Int->Int}
  (rule: ∀(i:Int) (t:Tok) (s:gn) (Q:hC) (E:hC),Q (.int (g i) s.toks) {s with toks:=s.toks+1}->wpAny (model X.prog X.w) X.A (f (.int i t)) Q E s):
  UnR X f (rU λi=> .int (g i)):=by
 intro d s j H x v Q I e h;obtain⟨i,rfl,q⟩:=h;obtain⟨t,rfl⟩:=e;exact rule i t s _ _ ⟨.int (g i),H,I.tok _,⟨_,rfl⟩,q⟩
def QN:UnR X (unaryOp .USub) (rU λi=> .int (-i)):=unI λ_ _ _ _ _ q=>neg_int q
def M4{d:gZ}{g:St}{H:Hp}{s:gn}{Q:VK}{k f:Bool}(I:Inv X d g H s)(q:Q (.bl k) H)(e:k=f):EP X d g Q (.bool f) s:=by
 subst e;exact⟨.bl k,H,I,rfl,q⟩
def UO:OpR X (compareOp .Lt) (rI0 λi j=> .bl (decide (i<j))):=OZ λ_ _ _ _ _ _ _ q=>lt_int q
def UP:OpR X (compareOp .LtE) (rI0 λi j=> .bl (decide (i<=j))):=OZ λ_ _ _ _ _ _ _ q=>le_int q
def UQ:OpR X (compareOp .Gt) (rI0 λi j=> .bl (decide (j<i))):=OZ λ_ _ _ _ _ _ _ q=>gt_int q
def UR:OpR X (compareOp .GtE) (rI0 λi j=> .bl (decide (j<=i))):=OZ λ_ _ _ _ _ _ _ q=>ge_int q
def Mi:OpR X (compareOp .Is) (λx y H Q=>y= .non/\Q (.bl (decide (x= .non))) H):=by
 intro d s g H x y v u Q I e f h;obtain⟨rfl,q⟩:=h;cases f;refine is_none_gen (M4 I q ?_)
 cases x<;>first
  |(cases e;rfl)
  |(obtain⟨t,rfl⟩:=e;rfl)
def Mp(b:gy){d:CmpOp}(h:d≠ .In:=by decide)(g:d≠ .NotIn:=by decide):behindInMarks d b=false:=by
 have e:(d==CmpOp.In)=false:=by cases d<;>first|rfl|exact absurd rfl h
 have f:(d==CmpOp.NotIn)=false:=by cases d<;>first|rfl|exact absurd rfl g
 cases b<;>simp[behindInMarks,e,f]
def OR{e:CmpOp}{r:R2}(o:OpR X (compareOp e) r)(i:PE X a l)(j:PE X b tb)(k:behindInMarks e b=false):PE X (.Compare a [e] [b] m) (tOp r l tb):=by
 intro d s z H Q I h;exact wpAny_Compare1 (Tr i j I h λv u w x y f g p t q=>o d w z f x y v u Q g p t q) k
def T7(t:TE):TT:=λe H Q=>t e H λx d=> ∃k,x= .bl k/\Q k d
def OB{f:CmpOp}{r:R2}(C:OpR X (compareOp f) r)(w:PE X a l)(A:PE X b tb)(B:behindInMarks f b=false):PT X (.Compare a [f] [b] m) (T7 (tOp r l tb)):=by
 intro d s g H Q I h
 refine wpAny_isTrue_Compare1 (thn (w d s g H _ I h) λv s1 ⟨x,i,p,L,E⟩=>thn (A d s1 g i _ p E) λu O ⟨y,j,q,M,G⟩=>
  thn (C d O g j x y v u _ q L M G) λc T ⟨z,o,t,N,k,e,J⟩=>?_) B
 subst e;cases N;exact uv ⟨o,t,J⟩
def K0(r i:R2)(l tb n:TE):TE:=λd H Q=>l d H λx f=>tb d f λy g=>r x y g λz e=> ∃k,z= .bl k/\
 (if k=true then n d e λj h=>i y j h Q else Q (.bl false) e)
def Ma{i j:CmpOp}{r t:R2}(U:OpR X (compareOp i) r)(L:OpR X (compareOp j) t)(M:PE X a l)(N:PE X b tb)(O:PE X c n)
  (T:lastMarks [i,j] [b,c]=false:=by with_unfolding_all rfl):PE X (.Compare a [i,j] [b,c] m) (K0 r t l tb n):=by
 intro f s g H Q I h
 refine Compare_chain (thn (M f s g H _ I h) λv s1 ⟨x,A,E,r1,Y⟩=>chain_link (thn (N f s1 g A _ E Y) λu s2 ⟨y,B,G,w,q2⟩=>
  thn (U f s2 g B x y v u _ G r1 w q2) λd s3 ⟨z,o,p,r3,k,e,q⟩=>?_)) T
 subst e;cases r3;refine uv ?_
 cases k with
 |false=>exact ite_ff ⟨.bl false,o,p,rfl,q⟩
 |true=>exact ite_tt (chain_last (thn (O f s3 g o _ p q) λw' s4 ⟨z',C,J,r4,q4⟩=>L f s4 g C y z' u w' Q J w r4 q4))
def CZ:(sizeLine:Nat)<2^63:=by rw[iN];decide
def GG:OpR X (binaryOp .Add) (λx y H Q=> ∃i j,x= .str i/\y= .str j/\i.length+j.length<=sizeLine/\Q (.str (i++j)) H):=by
 intro d s o H x y v u Q I f g h;obtain⟨i,j,rfl,rfl,e,q⟩:=h;obtain⟨t,rfl⟩:=f;obtain⟨t',rfl⟩:=g;exact add_str (λt' k=>⟨.str (i++j),H,I.tok _,⟨_,rfl⟩,q⟩) e
def qZ{x:V}{d:iL}(r:Vals [x] d): ∃u,d=[u]/\RelV x u:=by
 cases r with
 |cons e f=>cases f;exact⟨_,rfl,e⟩
def xj{x y:V}{d:iL}(r:Vals [x,y] d): ∃u e,d=[u,e]/\RelV x u/\RelV y e:=by
 cases r with
 |cons f g=>
  cases g with
  |cons h i=>cases i;exact⟨_,_,rfl,f,h⟩
def Nk:jx X (.builtin "abs") (λe H Q=> ∃i,e=[.int i]/\Q (.int (if i<0 then -i else i)) H):=by
 intro d s j H e g Q I r h;obtain⟨i,rfl,q⟩:=h;obtain⟨u,rfl,t,rfl⟩:=qZ r;exact call_abs_int λu f=>⟨.int (if i<0 then -i else i),H,I.tok _,⟨_,rfl⟩,q⟩
def JO(g:X.calm=true):jx X (.builtin "max") (λf H Q=> ∃i j,f=[.int i,.int j]/\Q (.int (if j>i then j else i)) H):=by
 intro e s y H f w Q I r h;obtain⟨i,j,rfl,q⟩:=h;obtain⟨u,x,rfl,⟨t,rfl⟩,⟨p,rfl⟩⟩:=xj r;refine max_two_ints (I.ok.hd g) λo v k=>⟨_,H,I.kept k,?_,q⟩
 by_cases d:j>i
 ·rw[gD d,gD d];exact⟨_,rfl⟩
 ·rw[gL d,gL d];exact⟨_,rfl⟩
def JN(g:X.calm=true):jx X (.builtin "min") (λf H Q=> ∃i j,f=[.int i,.int j]/\Q (.int (if j<i then j else i)) H):=by
 intro e s y H f w Q I r h;obtain⟨i,j,rfl,q⟩:=h;obtain⟨u,x,rfl,⟨t,rfl⟩,⟨p,rfl⟩⟩:=xj r;refine min_two_ints (I.ok.hd g) λo v k=>⟨_,H,I.kept k,?_,q⟩
 by_cases d:j<i
 ·rw[gD d,gD d];exact⟨_,rfl⟩
 ·rw[gL d,gL d];exact⟨_,rfl⟩
def Bn:jx X (.type "int") (λd H Q=>(∃i,d=[.int i]/\Q (.int i) H)\/ ∃k,d=[.bl k]/\Q (.int (if k then 1 else 0)) H):=by
 intro e s j H d g Q I r h;rcases h with⟨i,rfl,q⟩|⟨k,rfl,q⟩
 ·obtain⟨u,rfl,t,rfl⟩:=qZ r;exact call_int_int ⟨.int i,H,I,⟨_,rfl⟩,q⟩
 ·obtain⟨u,rfl,f⟩:=qZ r;cases f;exact call_int_bool ⟨.int (if k then 1 else 0),H,I.tok _,⟨_,rfl⟩,q⟩
end
section
variable {a:gR}{w:gJ}{A:gM}{E:hC}{s:gn}{K:gK}{x d C f:gm}{c:lL}{b:Str}{v:gA}
end
def RelO.some_of{v:V}{o:Option Value}(r:RelO (some v) o): ∃u,o=some u/\RelV v u:=by
 cases o with
 |none=>exact(show False from r).elim
 |some u=>exact⟨u,rfl,r⟩
section
variable {P:gR}{w:gJ}{H e:Hp}{h b:gP}{a C d:gm}{fs c:List (Str×V)}
end
section
variable {X:Cx}{b:gZ}{c:St}{H:Hp}{s:gn}{a C d:gm}{fs:List (Str×V)}{f:Str}{v:V}{A:gM}{E:hC}
end
section
variable {X:Cx}{o e a:gy}{f:Str}{c b d:Pos}{h g:TE}
end
section
variable {X:Cx}{a:gZ}{d:St}{H:Hp}{s:gn}{A:gM}{E:hC}{Q:hC}{c:gA}{b:Bool}
end
structure Room(k:Nat)(A:gM):Prop where
 hd:A.handled=none
 dp:A.depth+3*k+5<recursionLimit
 un:A.units+16*k+200<cLine
 gd:A.guards=some []:=by rfl
def Room.mono{j k:Nat}{A:gM}(r:Room k A)(h:j<=k):Room j A:=⟨r.hd,by have:=r.dp;lia,by have:=r.un;lia,r.gd⟩
def Room.deeper{k:Nat}{A:gM}(r:Room (k+1) A)(a:Env):Room k (A.deeper a):=
 ⟨r.hd,by have:=r.dp;show A.depth+1+3*k+5<_;lia,by have:=r.un;show A.units+3+16*k+200<_;lia,r.gd⟩
theorem Room.depth{k:Nat}{A:gM}(r:Room k A):A.depth<recursionLimit:=by have:=r.dp;lia
noncomputable def VW:TA:=λ_ H Q=>Q [] H
noncomputable def Ud(d:TE)(e:TA):TA:=λa H Q=>d a H λx b=>e a b λf c=>Q (x::f) c
section
variable {X:Cx}{e:gy}{c:jm}{d:TE}{t:TA}{a:Pos}
def pY:PA X [] VW:=λ_ _ _ _ H Q I h=>Calls.spliced_nil ⟨[],H,I,.nil,h⟩
def lI(l:PE X e d)(m:PA X c t)(n:starEach (e::c) X.env=(false,eval e X.env)::starEach c X.env:=by rfl):PA X (e::c) (Ud d t):=by
 intro a b s f H Q I h;rw[n];show wpAny _ _ (spliced ((false,eval e X.env)::backTo a (starEach c X.env))) _ _ s;refine Calls.spliced_cons (thn (l b s f H _ I h) λu s1 ⟨x,g,j,q,o⟩=>?_);exact thn (m a b s1 f g _ j o) λy w ⟨v,i,k,r,p⟩=>⟨x::v,i,k,.cons q r,p⟩
noncomputable def VS(t:TA):TE:=λg H Q=>t g H λf b=>f.length<=sizeLine/\ ∀p,b p=none->Q (.ref p) (upd b p (.tup f))
noncomputable def VX(t:TA):TE:=λg H Q=>t g H λf b=>f.length<=sizeLine/\ ∀p,b p=none->Q (.ref p) (upd b p (.lst f))
def L4{x1}(h:PA X c t):PE X (.Tuple c x1 a) (VS t):=by
 intro f s n H Q I k;refine wpAny_Tuple_spliced (thn (h a f s n H _ I k) λl s1 ⟨m,g,i,r,z,q⟩=>⟨by rw[<-r.length];exact z,?_⟩);have j:g s1.heap.objs.size=none:=i.hok.fresh (iO _);refine⟨.ref s1.heap.objs.size,upd g s1.heap.objs.size (.tup m),i.laid (t':=s1.toks) (λb u e=>iW _ e) (iO _) ?_,rfl,q _ j⟩;exact⟨z,l,r,⟨_,jv _ rfl,rfl,_,rfl⟩⟩
def Sa(h:PA X c t):PE X (.List c a) (VX t):=by
 intro f s n H Q I k;refine wpAny_List_spliced (thn (h a f s n H _ I k) λl s1 ⟨m,g,i,r,z,q⟩=>⟨by rw[<-r.length];exact z,?_⟩);have j:g s1.heap.objs.size=none:=i.hok.fresh (iO _);refine⟨.ref s1.heap.objs.size,upd g s1.heap.objs.size (.lst m),i.laid (t':=s1.toks) (λb u e=>iW _ e) (iO _) ?_,rfl,q _ j⟩;exact⟨z,l,0,r,jv _ rfl⟩
end
abbrev Sp:=List V->Hp->VK->XK->Prop
abbrev CXT:=List Env->Hp->Shared->XK->Value->Shared->Prop
structure Env0(P:gR)(w:gJ)(K:gK)(mg:lL)(base:gP)(A:gM)(outer:List Env)(s:gn)(H:Hp):Prop where
 frames:A.frames=some outer
 mod:Mod K mg base
 bs: ∀b o,base.get? b=some o->s.heap.get? b=some o/\H b=none
 bsz:base.objs.size<=s.heap.objs.size
 funs:s.heap.FunFrames base outer
 frf: ∀b∈frs outer,H b=none
 hok:HOk P w H s.heap
 bare:AllBare s.gens
def CE(a:List Env)(P:gR)(w:gJ)(H:Hp)(s:gn)(Q:VK)(u:gA)(b:gn):Prop:=
 ∃v c,b.os=s.os/\AllBare b.gens/\Un (frs a) [] H c s.heap b.heap/\HOk P w c b.heap/\RelV v u/\Q v c
def CR(c:CXT)(a:List Env)(P:gR)(w:gJ)(H:Hp)(s:gn)(Q:VK)(E:XK)(r:Result)(b:gn):Prop:=
 match r with
 | .ok (.ret u)=>CE a P w H s Q u b
 | .ok _=>False
 | .error e=>c a H s E e b
structure FnOk(P:gR)(w:gJ)(K:gK)(mg:lL)(base:gP)(CX:CXT)(k:Nat)(f:gm)(fd:lW)(ps:hW)(sp:Sp):Prop where
 len: ∀vs H Q E,sp vs H Q E->vs.length=ps.length
 run: ∀(A:gM) (outer:List Env) (s:gn) (H:Hp) (args:Args) (us:iL) (vs:List V) (Q:VK) (E:XK),Room k A->Env0 P w K mg base A outer s H->BindsTo s fd args (ps.zip us)->Vals vs us->sp vs H Q E->
  codeAny (model P w) A (.call (.ref f) args) (CR CX outer P w H s Q E) s
def FnOk.mono{P:gR}{w:gJ}{K:gK}{e:lL}{base:gP}{c:CXT}{j k:Nat}{f:gm}{d:lW}{g:hW}{i:Sp}(F:FnOk P w K e base c j f d g i)(h:j<=k):
  FnOk P w K e base c k f d g i:=⟨F.len,λA a s H b m n Q E l=>F.run A a s H b m n Q E (l.mono h)⟩
section
variable {X:Cx}{a:gZ}{c:St}{H:Hp}{s e:gn}
def Inv.env0(I:Inv X a c H s):Env0 X.prog X.w X.K X.mg X.base X.A X.stack s H:=
 ⟨I.ok.frames,I.ok.mod,I.bs,ku I.ok.bsz I.sz,I.stack,I.stkFree,I.hok,I.bare⟩
def Inv.after{Q:VK}{u:gA}(I:Inv X a c H s)(h:CE X.stack X.prog X.w H s Q u e):EP X a c Q u e:=by
 obtain⟨v,j,os,f,un,i,r,q⟩:=h;obtain⟨l,g,d,t,k⟩:=e;obtain rfl:k=s.os:=os;exact⟨v,j,I.call (h':=l) (g':=g) (d':=d) (t':=t) (ch:=[]) un i f (λb z=>absurd z (by simp)),r,q⟩
end
noncomputable def Ue(c:Sp)(b:List V)(E:XK)(t:TA):TE:=λe H Q=>t e H λd a=>c (d++b) a Q E
def Binds(K:gK)(d:lW)(c:hW)(b:iL):Prop:=
 ∀(s:gn) (a:iL),K.In s.heap->(a++b).length=c.length->BindsTo s d ⟨a,[]⟩ (c.zip (a++b))
theorem Binds.all{K:gK}{c:lW}{b:hW}(h: ∀a:List Value,a.length=b.length->bindArgs c ⟨a,[]⟩=pure (b.zip a)):Binds K c b []:=λs a _ d=>by
 rw[yy] at d ⊢;exact .of_eq (h a d)
def Hm(c:CXT)(X:Cx)(E:XK):Prop:= ∀(a:gZ) (d:St) (H:Hp) (s:gn) (e:gA) (b:gn),Inv X a d H s->c X.stack H s E e b->X.xe e b
section
variable {X:Cx}{l:CXT}{k:Nat}{f C:gm}{j:lW}{d:hW}{i:Sp}{c:List V}{b:iL}{E:XK}{x m:Str}{p a n:Pos}{e o:gy}{g:jm}{v:TE}{t:TA}
def Rf{q:gZ}{G:St}{H:Hp}{s:gn}{Q:VK}{y:iL}{B:List V}(F:FnOk X.prog X.w X.K X.mg X.base l k f j d i)(O:Room k X.A)(M:Binds X.K j d b)(hd:Vals c b)(T:Hm l X E)
  (I:Inv X q G H s)(r:Vals B y)(h:i (B++c) H Q E):wpAny (model X.prog X.w) X.A (call (.ref f) y) (EP X q G Q) X.xe s:=by
 have J:Vals (B++c) (y++b):=r.append hd;have N:(y++b).length=d.length:=by rw[<-J.length];exact F.len _ _ _ _ h
 refine wpAny_call (qY (F.run X.A X.stack s H ⟨y,[]⟩ (y++b) (B++c) Q E O I.env0 (M s y I.kIn N) J h) λr U z=>?_)
 cases r with
 |error e=>exact T q G H s e U I z
 |ok L=>
  cases L with
  |ret u=>exact I.after z
  |next=>exact False.elim z
  |brk=>exact False.elim z
  |cont=>exact False.elim z
def OS(F:FnOk X.prog X.w X.K X.mg X.base l k f j d i)(M:Room k X.A)(J:Gl X x)(L:X.mg x=some (.ref f))(hk:PySem.W.keepIn X.K (.ref f)=true)(B:Binds X.K j d b)(hd:Vals c b)(N:Hm l X E)
  (z:PA X (e::g) t)(T:(x==("__debug__":Str))=false:=by decide)(G:starEach (e::g) X.env=(false,eval e X.env)::starEach g X.env:=by rfl)(O:(backTo a (starEach g X.env)).any (·.1)=false:=by rfl):
  PE X (.Call (.Name x p) (e::g) [] a) (Ue i c E t):=by
 intro u s U H Q I h;refine yx (Ig I J L ?_ T);refine PySem.W.callWith_K (h₀:=X.base) I.ok.mod.kin hk (thn (z a u s U H _ I h) λus s1 ⟨vs,Y,y,r,q⟩=>⟨y.kIn,?_⟩) G O;exact Rf F M B hd N y r q
end
section
variable {X:Cx}{w:CXT}{k:Nat}{f C:gm}{u:lW}{n r:hW}{l:Sp}{E:XK}{x m:Str}{p c b a:Pos}{e o:gy}{v:jm}{d:List Keyword}{i j:TE}{t h:TA}{q:Option Str}
variable {g:List Value->List Value->List Value}{s:List V->List V->List V}
end
structure FnScope(N P:hW)(sc:jb):Prop where
 kind:sc.kind= .function
 co:sc.isCoroutine=false
 gen:sc.isGenerator=false
 nd:N.Nodup
 pre:N.take P.length=P
 par: ∀x∈P,sc.names.lookup x=some .local\/sc.names.lookup x=some .cell
 nofree: ∀y∈sc.names,y.2≠ .free
theorem Bp{kindOf:Str->Option NameKind}{x:Str}: ∀{binds:List (Str×Value)} {m:lL},(∀v,(x,v)∉binds)->bindL kindOf binds m x=m x
 |[],_,_=>rfl
 |(n,v)::r,m,h=>by
  unfold bindL;rw[Bp λw a=>h w (iK _ a)];split
  ·have:x≠n:=by rintro rfl;exact h v iF
   simp[this]
  ·rfl
theorem Br{kindOf:Str->Option NameKind}{x:Str}: ∀{binds:List (Str×Value)} {m:lL},(∀v,(x,v)∉binds)->bindC kindOf binds m x=m x
 |[],_,_=>rfl
 |(n,v)::r,m,h=>by
  unfold bindC;rw[Br λw a=>h w (iK _ a)];split
  ·rfl
  ·have:x≠n:=by rintro rfl;exact h v iF
   simp[this]
theorem Bq{kindOf:Str->Option NameKind}{x:Str}{v:gA}: ∀{P:hW} {a:iL} {i:Nat} {m:lL},P.Nodup->P[i]?=some x->a[i]?=some v->kindOf x=some .local->
  bindL kindOf (P.zip a) m x=some v
 |[],_,_,_,_,h,_,_=>by simp at h
 |_::_,[],_,_,_,_,h,_=>by simp at h
 |p::P,w::a,0,m,c,h1,b,hk=>by
  simp at h1 b;subst h1;subst b;show bindL kindOf ((p,w)::P.zip a) m p=_;unfold bindL;rw[Bp λv hv=>(zU.mp c).1 (F4 hv).1,gD hk];simp
 |p::P,w::a,i+1,m,c,h1,b,hk=>by
  show bindL kindOf ((p,w)::P.zip a) m x=_;unfold bindL;exact Bq (i:=i) (zU.mp c).2 (by simpa using h1) (by simpa using b) hk
theorem Bs{kindOf:Str->Option NameKind}{x:Str}{v:gA}: ∀{P:hW} {a:iL} {i:Nat} {m:lL},P.Nodup->P[i]?=some x->a[i]?=some v->kindOf x≠some .local->
  bindC kindOf (P.zip a) m x=some v
 |[],_,_,_,_,h,_,_=>by simp at h
 |_::_,[],_,_,_,_,h,_=>by simp at h
 |p::P,w::a,0,m,c,h1,b,hk=>by
  simp at h1 b;subst h1;subst b;show bindC kindOf ((p,w)::P.zip a) m p=_;unfold bindC;rw[Br λv hv=>(zU.mp c).1 (F4 hv).1,gL hk];simp
 |p::P,w::a,i+1,m,c,h1,b,hk=>by
  show bindC kindOf ((p,w)::P.zip a) m x=_;unfold bindC;exact Bs (i:=i) (zU.mp c).2 (by simpa using h1) (by simpa using b) hk
noncomputable def oP(N:hW)(a:List V):St:=a.map some++List.replicate (N.length-a.length) none
noncomputable def EM(d:CXT)(P:gR)(w:gJ)(K:gK)(g:lL)(base:gP)(N:hW)(qual:Str)(scope:jb)(f:gm)(b:gA)(A:gM)(a:List Env)(s:gn)(H:Hp)(E:XK):Cx where
 prog:=P
 w:=w
 K:=K
 mg:=g
 base:=base
 A:=A.deeper (envOfC qual scope s.heap.objs.size f b)
 N:=N
 s₀:=s
 H₀:=H
 env:=envOfC qual scope s.heap.objs.size f b
 outer:=a
 stack:=envOfC qual scope s.heap.objs.size f b::a
 ex:=[]
 calm:=true
 fn:=λ_=>true
 pn:=[]
 xe:=λe j=>wpAny (model P w) (A.deeper (envOfC qual scope s.heap.objs.size f b)) (leaving (envOfC qual scope s.heap.objs.size f b) e) (λ_ c=>d a H s E e c) (λi c=>d a H s E i c) j
def ET{a:jb}{n:Nat}{x:Str}(h:a.names.lookup x=some .cell): ∃c,(cellsFrom n a.names []).lookup x=some c:=by
 have q:=Cj a.names n [] (.inl h);exact Kz.mp q
def JC{M:CXT}{P:gR}{w:gJ}{K:gK}{J:lL}{base:gP}{N m:hW}{qual:Str}{scope:jb}{f:gm}{C:gA}{A:gM}{d:List Env}{s s1:gn}{H:Hp}{E:XK}{L:iL}{o:List V}
  (S:FnScope N m scope)(hd:A.handled=none)(j:Env0 P w K J base A d s H)(Y:o.length=m.length)(r:Vals o L)
  (x:InCallC s s.heap.objs.size (bindL (envOfC qual scope s.heap.objs.size f C).kindOf (m.zip L) λ_=>none) (cellsFrom (s.heap.objs.size+1) scope.names []) (bindC (envOfC qual scope s.heap.objs.size f C).kindOf (m.zip L) λ_=>none) s1):
  Inv (EM M P w K J base N qual scope f C A d s H E) [] (oP N o) H s1:=by
 have D:m.length<=N.length:=by have:=lX List.length S.pre;rw[oY] at this;lia
 obtain⟨h1,F,rfl,hk⟩:=x.done;have I: ∀b:Addr,b∉(EM M P w K J base N qual scope f C A d s H E).ex:=λb z=>absurd (show b∈([]:List Addr) from z) (by simp)
 refine⟨⟨j.mod,S.kind,rfl,rfl,iO _,λy z c h1 g=>?_,λy l=>?_,λy c _ h=>?_,λ_=>hd,Around.frames_deeper j.frames,.inr ⟨rfl,rfl⟩,λb z=>absurd z (I b),j.bs,j.bsz,λb _ _=>I b,λb z=>absurd z (I b),j.funs,j.frf⟩,
  rfl,j.bare,Un.kept hk,⟨_,x.toInCall.ns,λi y v h1 g U=>?_⟩,λy c h=>⟨_,x.cell y c h⟩,j.hok.fresh (iO _),λy c h=>?_,λp t=>absurd (show p∈([]:List (Addr×Obj)) from t) (by simp),j.hok.kept hk,?_⟩
 ·exact name_of_addr x.apart (qX h1) (qX g)
 ·have l:scope.names.lookup y=some .cell\/scope.names.lookup y=some .free:=l;rcases l with l|l
  ·exact ET l
  ·exact absurd rfl (S.nofree _ (qX l))
 ·exact wz (x.above y c (qX h))
 ·have G:i<o.length:=by
   unfold oP at g;by_cases G:i<o.length
   ·exact G
   ·rw[oX (by simpa using G)] at g;rw[List.getElem?_replicate] at g;split at g<;>cases g
  have Q:o[i]?=some v:=by
   unfold oP at g;rw[qz (by simpa using G),kY] at g
   cases e:o[i]? with
   |none=>rw[e] at g;cases g
   |some a=>rw[e] at g;cases g;rfl
  obtain⟨u,O,T⟩:=r.get Q
  have t:m[i]?=some y:=by
   rw[<-S.pre,Kw (by lia)];exact h1
  have B:m.Nodup:=by rw[<-S.pre];exact S.nd.sublist (wu _ _)
  refine⟨u,T,?_⟩;rcases S.par y (lN t) with k|k
  ·exact .inl ⟨k,Bq B t O k⟩
  ·obtain⟨c,e⟩:=ET (n:=s.heap.objs.size+1) k;refine .inr ⟨.inl k,c,e,?_⟩;have q:=x.cell y c e;rw[Bs B t O (by show scope.names.lookup y≠_;rw[k];decide)] at q;exact q
 ·exact j.hok.fresh (wz (x.above y c (qX h)))
 ·unfold oP;show _=N.length;rw[lM,iJ,List.length_replicate]
  lia
def Vg{C:CXT}{P:gR}{w:gJ}{K:gK}{G:lL}{base:gP}{k:Nat}{f:gm}{j qual:Str}{c:Arguments}{d:List Stmt}{scope:jb}{dV kV z pm l ct oc:gA}{an od:Option Addr}
  {au:uK}{N L:hW}{Y:Sp}(lk:K.lookup f=some ⟨oc,od,.func (PySem.W.fnOf j qual c d scope dV kV z pm an l ct),au⟩)(t5:PySem.W.codeIn K l qual=true)(S:FnScope N L scope)
  (len: ∀g H Q E,Y g H Q E->g.length=L.length)
  (t7: ∀(A:gM) (a:List Env) (s:gn) (H:Hp) (g:List V) (Q:VK) (E:XK),Room k (A.deeper (envOfC qual scope s.heap.objs.size f l))->Y g H Q E->
   ∃t,PSs (EM C P w K G base N qual scope f l A a s H E) d t/\t {nx:=λ_ i=>Q .non i,rt:=Q} (oP N g) H):
  FnOk P w K G base C (k+1) f (PySem.W.fnOf j qual c d scope dV kV z pm an l ct) L Y:=by
 refine⟨len,λA a s H F us g Q E M B hb r R=>?_⟩;have hl:=len _ _ _ _ R;have D:K.In s.heap:=B.mod.kin.keeps λb o e=>(B.bs b o e).1;have O:s.heap.NoLimit:=B.mod.nolimit.keeps λb o e=>(B.bs b o e).1
 have m: ∀y∈L.zip us,scope.names.lookup y.1=some .local\/(scope.names.lookup y.1=some .cell/\((cellsFrom (s.heap.objs.size+1) scope.names []).lookup y.1).isSome=true):=λ⟨n,v⟩ hy=>by
  rcases S.par n (F4 hy).1 with q|q
  ·exact .inl q
  ·exact .inr ⟨q,Cj _ _ _ (.inl q)⟩
 refine codeAny_call_function M.depth (D _ _ lk) rfl S.co S.gen rfl (PySem.W.codeRec_of D t5) (hb _ _ _ _ ?_);refine wpAny_newFunctionEnv_cells S.kind m λX he s1 x=>?_;subst he;refine⟨O.keeps x.toInCall.keep,codeAny_func ?_⟩;obtain⟨t,ht,hq⟩:=t7 A a s H g Q E (M.deeper _) R;have I:Inv (EM C P w K G base N qual scope f l A a s H E) [] (oP N g) H s1:=JC S M.hd B hl r x;refine pe (ht [] s1 (oP N g) H _ I hq) (λZ U p=>?_) λe U p=>p
 have fin: ∀{h:St} {i:Hp} {v:V} {u:gA},Inv (EM C P w K G base N qual scope f l A a s H E) [] h i U->RelV v u->Q v i->CE a P w H s Q u U:=
  λ{h i v u} J T q=>⟨v,i,J.os,J.bare,J.base,J.hok,T,q⟩
 cases Z with
 |ret u=>
  obtain⟨v,h,i,J,T,q⟩:=p;exact fin J T q
 |next=>
  obtain⟨h,i,J,q⟩:=p;exact fin (v:=V.non) (u:=Value.none) J rfl q
 |brk=>
  obtain⟨_,_,_,q⟩:=p;exact False.elim q
 |cont=>
  obtain⟨_,_,_,q⟩:=p;exact False.elim q
section
variable {X:Cx}{x:Str}{p a:Pos}{e:gy}{b:jm}{t:TA}{id T:String}{r:List V->Hp->VK->Prop}
def tCB(r:List V->Hp->VK->Prop)(t:TA):TE:=λf H Q=>t f H λd c=>r d c Q
def ve(j:jx X (.builtin id) r)(l:Gl X x)(m:X.mg x=none)(hv:bootBuiltins x=some (.builtin id))(i:PA X (e::b) t)(n:x≠"__name__":=by decide)(q:(x==("__debug__":Str))=false:=by decide)
  (k:starEach (e::b) X.env=(false,eval e X.env)::starEach b X.env:=by rfl)(o:(backTo a (starEach b X.env)).any (·.1)=false:=by rfl):PE X (.Call (.Name x p) (e::b) [] a) (tCB r t):=by
 intro c s d H Q I h;refine yx (rz I l m hv ?_ n q);exact PyProof.Rows.callWith_builtin1 (thn (i a c s d H _ I h) λw s1 ⟨y,f,g,v,u⟩=>j c s1 d f y w Q g v u) k o
def pz(j:jx X (.type T) r)(l:Gl X x)(m:X.mg x=none)(hv:bootBuiltins x=some (.type T))(i:PA X (e::b) t)(n:x≠"__name__":=by decide)(q:(x==("__debug__":Str))=false:=by decide)
  (k:starEach (e::b) X.env=(false,eval e X.env)::starEach b X.env:=by rfl)(o:(backTo a (starEach b X.env)).any (·.1)=false:=by rfl):PE X (.Call (.Name x p) (e::b) [] a) (tCB r t):=by
 intro c s d H Q I h;refine yx (rz I l m hv ?_ n q);exact Ck (thn (i a c s d H _ I h) λw s1 ⟨y,f,g,v,u⟩=>j c s1 d f y w Q g v u) k o
end
end L2
namespace HT
open PySem PyProof.Rows
section
open PySem.SeqAt
open PySem.AutoSeq1 (wpAny_loadPart')
open PySem.MeetsSeq PySem.MeetsSeq2 PySem.MeetsSeq3
end
section
variable {a:gR}{w:gJ}{A:gM}{E:hC}{s:gn}
def Vr{t b:gm}{d c:iL}{Q:hC}(y:IsTup s.heap t d.toArray)(x:IsTup s.heap b c.toArray)(hv:d≠[])
  (h1:c=[]->Q (.ref t) s)(v:c≠[]->Q (.ref s.heap.objs.size) {s with heap:=s.heap.push {cls:= .type "tuple",data:= .seq (d++c).toArray}})
  (l:d.length+c.length<=sizeLine):wpAny (model a w) A (binaryOp .Add (.ref t) (.ref b)) Q E s:=by
 obtain⟨⟨k,dd,f,r⟩,h,m,n,hd⟩:=id y;obtain⟨⟨z,q,data2,p⟩,j,u,o,g⟩:=id x;simp only at m hd u g;subst m hd u g;have e:d.toArray++c.toArray=(d++c).toArray:=by simp
 by_cases i:c=[]
 ·exact Ci ⟨_,h,rfl⟩ ⟨_,j,rfl⟩ F3 F1 F0 FZ (FY _ _)
   (tuple_addW1 t b d.toArray c.toArray n o dd q r p (by simpa using hv) (by simp[i])) ⟨h,j,h1 i⟩
 ·refine Ci ⟨_,h,rfl⟩ ⟨_,j,rfl⟩ F3 F1 F0 FZ (FY _ _)
   (tuple_addW2 t b d.toArray c.toArray n o dd q r p (by simpa using hv) (by simpa using i) (by rw[iz,iz];exact l)) ⟨h,j,?_⟩
  rw[e];exact v i
noncomputable def sIx(n d:Nat):Option Int->Nat
 |none=>d
 |some v=>if v<0 then(v+(n:Int)).toNat else min v.toNat n
theorem TF(n d:Nat):sIx n d none=d:=rfl
theorem Us(n d k:Nat):sIx n d (some (k:Int))=min k n:=by
 show(if(k:Int)<0 then((k:Int)+(n:Int)).toNat else min (k:Int).toNat n)=min k n;rw[gL (by lia),qQ]
def Rc(n d:Nat)(hd:d<=n)(o:Option Int):sIx n d o<=n:=by
 cases o with
 |none=>exact hd
 |some v=>
  show(if v<0 then(v+(n:Int)).toNat else min v.toNat n)<=n;by_cases hv:v<0
  ·rw[gD hv];lia
  ·rw[gL hv];exact Nat.min_le_right _ _
def IB(v:Int)(n d:Nat):(if v<0 then max (v+(n:Int)) 0 else min v (n:Int))=((sIx n d (some v):Nat):Int):=by
 show(if v<0 then max (v+(n:Int)) 0 else min v (n:Int))=(((if v<0 then(v+(n:Int)).toNat else min v.toNat n):Nat):Int)
 by_cases hv:v<0
 ·simp only[gD hv];lia
 ·simp only[gL hv];lia
theorem Hk(lo b:Option Int)(n:Nat):Builtin.Slice.sliceAdjust lo b 1 (n:Int)=(((sIx n 0 lo:Nat):Int),((sIx n n b:Nat):Int)):=by
 have h1: ¬((1:Int)<0):=by lia
 unfold Builtin.Slice.sliceAdjust;simp only[h1,iQ];refine Prod.ext ?_ ?_
 ·cases lo with
  |none=>rfl
  |some v=>exact IB v n 0
 ·cases b with
  |none=>rfl
  |some v=>exact IB v n n
theorem Gz(i j:Nat):Builtin.Slice.slicePlaces (i:Int) (j:Int) 1=j-i:=by
 unfold Builtin.Slice.slicePlaces;have h1:(1:Int)>0:=by lia
 simp only[h1,jh,Int.ediv_one];split<;>lia
def yI{v:gA}{o:Option Int}{Q:Option Int->Shared->Prop}(p:IsPart v o)(h:Q o s):wpAny (model a w) A (Builtin.Slice.slicePartIndex v) Q E s:=by
 cases p with
 |none=>exact Cg h
 |int i t=>exact slicePart_int h
def pv{g:gm}{e f:gA}{lo b:Option Int}{n:Nat}{Q:Int×Int×Nat->Shared->Prop}(i:s.heap.IsSliceOf g e f .none)(j:IsPart e lo)(k:IsPart f b)
  (h:Q (((sIx n 0 lo:Nat):Int),1,sIx n n b-sIx n 0 lo) s):wpAny (model a w) A (Builtin.Slice.sliceApplied (.ref g) (pure (n:Int))) Q E s:=by
 obtain⟨os,d,l,c⟩:=id i;unfold Builtin.Slice.sliceApplied Builtin.Slice.sliceFields;refine gk (gk (qy d c (x:=e) rfl (gk (qy d c (x:=f) rfl (gk (qy d c (x:= .none) rfl (gw ?_)))))));refine gk (Cg ?_);show wpAny _ _ (if((1:Int)==0)=true then _ else _) _ _ s;rw[gL (by decide)];refine gk (yI j (gk (yI k (gk (gw ?_)))));show wpAny _ _ (match Builtin.Slice.sliceAdjust lo b 1 (n:Int) with|(lo,b)=>pure (lo,(1:Int),Builtin.Slice.slicePlaces lo b 1)) _ _ s;rw[Hk lo b n];show wpAny _ _ (pure (((sIx n 0 lo:Nat):Int),(1:Int),Builtin.Slice.slicePlaces ((sIx n 0 lo:Nat):Int) ((sIx n n b:Nat):Int) 1)) _ _ s;rw[Gz];exact gw h
theorem LX(b:lU)(i k:Nat):((List.range k).filterMap λ(m:Nat)=>b[((i:Int)+(m:Int)*1).toNat]?).toArray=((b.toList.drop i).take k).toArray:=by
 have e:(λ(m:Nat)=>b[((i:Int)+(m:Int)*1).toNat]?)=λm=>b[i+m]?:=by
  funext m;have:((i:Int)+(m:Int)*1).toNat=i+m:=by lia
  rw[this]
 rw[e];have:=pick_run b i k;rw[List.filterMap_map] at this;have c:((λx=>b[x]?)∘λx=>i+x)=λm=>b[i+m]?:=rfl;rw[c] at this;rw[this]
def GU{t f:gm}{b:lU}{i j:gA}{lo c:Option Int}{Q:hC}(d:IsTup s.heap t b)(g:s.heap.IsSliceOf f i j .none)(p:IsPart i lo)(r:IsPart j c)
  (o: ¬(sIx b.size 0 lo=0/\sIx b.size b.size c=b.size))
  (h:Q (.ref s.heap.objs.size) {s with heap:=s.heap.push {cls:= .type "tuple",data:= .seq ((b.toList.drop (sIx b.size 0 lo)).take (sIx b.size b.size c-sIx b.size 0 lo)).toArray}})
  (n:b.size<=sizeLine):wpAny (model a w) A (getItem (.ref t) (.ref f)) Q E s:=by
 have e:sizeOk (.seq ((b.toList.drop (sIx b.size 0 lo)).take (sIx b.size b.size c-sIx b.size 0 lo)).toArray):=by
  show((b.toList.drop (sIx b.size 0 lo)).take (sIx b.size b.size c-sIx b.size 0 lo)).toArray.size<=sizeLine;rw[iz,oY,yw,ji]
  lia
 have y:sIx b.size b.size c<=b.size:=Rc _ _ (iO _) c;obtain⟨os,u,k,x⟩:=id g;have l:s.TypeIs (.ref f) "slice":=⟨os,u,k⟩
 unfold getItem
 try with_reducible refine kr ?_
 first|refine gk (gw ?_)|skip
 refine gk (FX d.typeIs (by decide) ?_)
 refine gk (uN (name:=Str.ofString "__getitem__") d.typeIs ye
  (nH ye d.typeIs FW ?_ (FV _ _)))
 show wpAny _ _ (Builtin.Tuple.tupleItemsOf (.ref t)>>=_) _ _ s;refine gk (FU d ?_);refine gk (qx l ?_);rw[gD (by decide)];refine gk (pv g p r ?_)
 have v: ¬((((sIx b.size 0 lo:Nat):Int)==0&&(1:Int)==1&&(sIx b.size b.size c-sIx b.size 0 lo)==b.size)=true):=by
  intro q;rw[kX,kX] at q;have z:((sIx b.size 0 lo:Nat):Int)=0:=tD q.1.1;have B:sIx b.size b.size c-sIx b.size 0 lo=b.size:=tD q.2;exact o ⟨by lia,by lia⟩
 show wpAny _ _ (if(((sIx b.size 0 lo:Nat):Int)==0&&(1:Int)==1&&(sIx b.size b.size c-sIx b.size 0 lo)==b.size)=true then _ else _) _ _ s;rw[gL v,LX]
 first
  |exact gk (m:=Builtin.Tuple.tupleExact _) (kW (gw ⟨_,rfl,gw h⟩) e)
  |exact gk (m:=Builtin.Tuple.tupleExact _) (kW (gk (gw (gw ⟨_,rfl,gw h⟩))) e)
  |exact gk (gk (m:=Builtin.Tuple.tupleExact _) (kW (gw (gw ⟨_,rfl,gw h⟩)) e))
  |exact gk (gk (m:=Builtin.Tuple.tupleExact _) (kW (gw ⟨_,rfl,gw h⟩) e))
end
end HT
namespace L2
open PySem PySem.Spec PyProof.Rows
abbrev TO:=St->Hp->(Option Int->Hp->Prop)->Prop
def PO(X:Cx)(e:Option Expr)(t:TO):Prop:=
 ∀(a:gZ) (s:gn) (b:St) (H:Hp) (Q:Option Int->Hp->Prop),Inv X a b H s->t b H Q->
  wpAny (model X.prog X.w) X.A (evalPart e X.env) (λu d=> ∃o c,Inv X a b c d/\IsPart u o/\Q o c) X.xe s
noncomputable def NU:TO:=λ_ H Q=>Q none H
def T8(t:TE):TO:=λb H Q=>t b H λx a=> ∃i,x= .int i/\Q (some i) a
section
variable {X:Cx}{e:gy}{d:TE}{lo c:Option Expr}{f g:TO}{k j:Pos}
def HK:PO X none NU:=by
 intro a s b H Q I h;rw[FR];exact gw ⟨none,H,I,.none,h⟩
def HJ(h:PE X e d):PO X (some e) (T8 d):=by
 intro a s p H Q I m;rw[evalPart_some];refine thn (h a s p H _ I m) λu s1 ⟨x,b,l,o,n⟩=>?_;obtain⟨i,rfl,q⟩:=n;obtain⟨t,rfl⟩:=o;exact⟨some i,b,l,.int i t,q⟩
def SlR(X:Cx)(r:V->Option Int->Option Int->Hp->VK->Prop):Prop:=
 ∀(a:gZ) (s:gn) (l:St) (H:Hp) (x:V) (v h i:gA) (lo c:Option Int) (b:gm) (Q:VK),Inv X a l H s->RelV x v->s.heap.IsSliceOf b h i .none->IsPart h lo->IsPart i c->r x lo c H Q->
  ∃T id,typeLookup (.type T) "__getitem__"=pure (some (.builtin id))/\s.TypeIs v T/\wpAny (model X.prog X.w) X.A (getItem v (.ref b)) (EP X a l Q) X.xe s
def tSl(r:V->Option Int->Option Int->Hp->VK->Prop)(d:TE)(f g:TO):TE:=λa H Q=>d a H λx b=>f a b λl h=>g a h λu i=>r x l u i Q
def D7{r:V->Option Int->Option Int->Hp->VK->Prop}(N:SlR X r)(J:PE X e d)(M:PO X lo f)(U:PO X c g):PE X (.Subscript e (.Slice lo c none j) k) (tSl r d f g):=by
 intro a s m H Q I h;refine Subscript_ (thn (J a s m H _ I h) λv s1 ⟨x,t,z,r1,q1⟩=>?_);refine wpAny_Slice (thn (M a s1 m t _ z q1) λn s2 ⟨l,y,B,Y,q2⟩=>thn (U a s2 m y _ B q2) λo i ⟨u,p,C,pu,q3⟩=>?_);rw[FR];refine gw ?_;have E:Inv X a m p {i with heap:=i.heap.push {cls:= .type "slice",data:= .fields #[n,o,.none]}}:=C.kept (t':=i.toks) λb D q=>iW _ q;obtain⟨T,id,G,O,L⟩:=N a {i with heap:=i.heap.push {cls:= .type "slice",data:= .fields #[n,o,.none]}} m p x v n o l u i.heap.objs.size Q E r1 (Heap.IsSliceOf.new ..) Y pu q3;show wpAny (model X.prog X.w) X.A (subscriptTail e (.Slice lo c none j) v (.ref i.heap.objs.size)) (EP X a m Q) X.xe {i with heap:=i.heap.push {cls:= .type "slice",data:= .fields #[n,o,.none]}};exact tail_any (ops:=[.ref i.heap.objs.size,v]) O G L (by with_unfolding_all rfl)
noncomputable def EN(a:List V)(lo c:Option Int):List V:=(a.drop (HT.sIx a.length 0 lo)).take (HT.sIx a.length a.length c-HT.sIx a.length 0 lo)
def xw(a:List V)(lo c:Option Int):(EN a lo c).length<=a.length:=by
 unfold EN;rw[oY,yw]
 lia
def Wz(K:gK):V->Option Int->Option Int->Hp->VK->Prop:=λx lo c H Q=> ∃a b,x= .ref a/\SqT K H a b/\
 ¬(HT.sIx b.length 0 lo=0/\HT.sIx b.length b.length c=b.length)/\ ∀p,H p=none->Q (.ref p) (upd H p (.tup (EN b lo c)))
def Q7:SlR X (Wz X.K):=by
 intro t s L H x v G J lo c E Q I B u z A h;obtain⟨a,l,rfl,y,w,q⟩:=h;cases B;obtain⟨m,r,n,p⟩:=I.tuple y;have i:m.toArray.size=l.length:=by rw[iz];exact r.length.symm
 refine⟨"tuple",_,ye.lookup,n.typeIs,?_⟩;refine HT.GU n u z A (by rw[i];exact w) ?_ (by rw[i];exact p);rw[i];refine⟨.ref s.heap.objs.size,_,I.laid (t':=s.toks) (o:= .tup (EN l lo c)) (λb C q=>iW _ q) (iO _) ?_,rfl,q _ (I.hok.fresh (iO _))⟩;exact⟨ku (xw l lo c) p,_,(r.drop (HT.sIx l.length 0 lo)).take (HT.sIx l.length l.length c-HT.sIx l.length 0 lo),yv _ _⟩
def UB(K:gK):R2:=λx y H Q=> ∃a b i h,x= .ref a/\y= .ref b/\SqT K H a i/\SqT K H b h/\i≠[]/\i.length+h.length<=sizeLine/\
 (h=[]->Q (.ref a) H)/\(h≠[]-> ∀p,H p=none->Q (.ref p) (upd H p (.tup (i++h))))
def Vals.nil_iff{b:List V}{a:iL}(r:Vals b a):a=[]↔b=[]:=by
 cases r with
 |nil=>simp
 |cons _ _=>simp
def OY:OpR X (binaryOp .Add) (UB X.K):=by
 intro n s T H x y v u Q I G J h;obtain⟨a,b,L,M,rfl,rfl,p,r,t,m,C,E⟩:=h;cases G;cases J;obtain⟨A,l,B,_⟩:=I.tuple p;obtain⟨N,i,j,_⟩:=I.tuple r;refine HT.Vr B j (λz=>t (l.nil_iff.mp z)) (λz=>⟨.ref a,H,I,rfl,C (i.nil_iff.mp z)⟩) (λz=>?_) (by rw[<-l.length,<-i.length];exact m);refine⟨.ref s.heap.objs.size,_,I.laid (t':=s.toks) (o:= .tup (L++M)) (λb O q=>iW _ q) (iO _) ?_,rfl,E (λw=>z (i.nil_iff.mpr w)) _ (I.hok.fresh (iO _))⟩;exact⟨by rw[lM];exact m,_,l.append i,yv _ _⟩
end
noncomputable def ixN(n:Nat)(i:Int):Option Nat:=if 0<=i then(if i<n then some i.toNat else none) else if -(n:Int)<=i then some (i+n).toNat else none
noncomputable def atI{b:Type}(a:List b)(i:Int):Option b:=(ixN a.length i).bind λj=>a[j]?
def C3{n:Nat}{i:Int}{j:Nat}(h:ixN n i=some j):seqIndex? i n=some j/\j<n/\ -(n:Int)<=i/\i<n:=by
 unfold ixN at h;by_cases a:0<=i
 ·rw[gD a] at h;by_cases h1:i<n
  ·rw[gD h1] at h;have e:i.toNat=j:=jw h;exact⟨by rw[FQ a h1,e],by lia,by lia,h1⟩
  ·rw[gL h1] at h;cases h
 ·rw[gL a] at h;by_cases h1: -(n:Int)<=i
  ·rw[gD h1] at h;have e:(i+n).toNat=j:=jw h;exact⟨by rw[FP (by lia) h1,e],by lia,h1,by lia⟩
  ·rw[gL h1] at h;cases h
def IJ{b:Type}{a:List b}{i:Int}{v:b}(h:atI a i=some v): ∃j,seqIndex? i a.length=some j/\a[j]?=some v/\j<a.length/\ -(a.length:Int)<=i/\i<a.length:=by
 unfold atI at h
 cases e:ixN a.length i with
 |none=>rw[e] at h;cases h
 |some j=>
  rw[e] at h;obtain⟨h1,c,d,f⟩:=C3 e;exact⟨j,h1,h,c,d,f⟩
def vT(b:gy):Prop:= ∀o i,subscripted b false o i=operate [o,i] (getItem o i)
def IxR(X:Cx)(r:R2):Prop:=
 ∀(b slice:gy) (a:gZ) (s:gn) (c:St) (H:Hp) (x y:V) (v u:gA) (Q:VK),Inv X a c H s->RelV x v->RelV y u->r x y H Q->
  subscripted slice false v u=operate [v,u] (getItem v u)->wpAny (model X.prog X.w) X.A (subscriptTail b slice v u) (EP X a c Q) X.xe s
def MtR(X:Cx)(id:String)(r:V->List V->Hp->VK->Prop):Prop:=
 ∀(a:gZ) (s:gn) (d:St) (H:Hp) (x:V) (c:List V) (v:gA) (b:iL) (Q:VK),Inv X a d H s->RelV x v->Vals c b->r x c H Q->
  wpAny (model X.prog X.w) X.A (call (.builtin id) (v::b)) (EP X a d Q) X.xe s
section
variable {X:Cx}{a b:gy}{J G:TE}{E:Pos}
def Qh{r:R2}(i:IxR X r)(f:PE X a J)(g:PE X b G)(j:vT b):PE X (.Subscript a b E) (tOp r J G):=by
 intro c s n H Q I h;exact Subscript_ (Tr f g I h λv u m x y d e k l q=>i a b c m n d x y v u Q e k l q (j _ _))
def WD(K:gK):R2:=λx y H Q=> ∃p c i v,x= .ref p/\y= .int i/\SqL K H p c/\atI c i=some v/\Q v H
def WC(K:gK):R2:=λx y H Q=> ∃p c i v,x= .ref p/\y= .int i/\SqT K H p c/\atI c i=some v/\Q v H
def Pr:IxR X (WD X.K):=by
 intro g slice c s n H x y v u Q I O T h m;obtain⟨p,P,i,z,rfl,rfl,M,C,q⟩:=h;cases O;obtain⟨t,rfl⟩:=T;obtain⟨e,r,f,F⟩:=I.list M;obtain⟨j,h1,o,Y,A,B⟩:=IJ C;obtain⟨w,k,N⟩:=r.get o;have L:=r.length;have D:=CZ;have fin:EP X c n Q w s:=⟨z,H,I,N,q⟩
 by_cases l:0<=i
 ·have d:i.toNat=j:=by
   rw[FQ l B] at h1;exact jw h1
  exact item_listR f.isList l (by lia) (by rw[d];simpa using k) fin m
 ·have d:(i+(e.toArray.size:Int)).toNat=j:=by
   rw[FP (by lia) A] at h1;rw[iz,<-L];exact jw h1
  exact Kv (x:=w) f.isList.typeIs slot_list_getitem.lookup
   (wpAny_getItem_list_neg (Q:=λr U=>r=w/\EP X c n Q r U) f.isList (by lia) (by rw[iz]<;>lia) (by lia) (by rw[d];simpa using k) ⟨rfl,fin⟩) m
def SQ:IxR X (WC X.K):=by
 intro d slice c s f H x y v u Q I C L h o;obtain⟨p,D,i,z,rfl,rfl,n,l,q⟩:=h;cases C;obtain⟨t,rfl⟩:=L;obtain⟨A,r,e,Y⟩:=I.tuple n;obtain⟨j,h1,k,N,O,T⟩:=IJ l;obtain⟨w,g,B⟩:=r.get k;have m:=r.length;have U:=CZ;have fin:EP X c f Q w s:=⟨z,H,I,B,q⟩
 exact Kv (x:=w) e.typeIs slot_tuple_getitem.lookup
  (getItem_tuple (j:=j) (Q:=λr M=>r=w/\EP X c f Q r M) e (by lia) (by lia) (by rw[iz,<-m];exact h1) (by simpa using g) ⟨rfl,fin⟩) o
def GK(c:iL)(n j:Nat)(u:gA):Obj.mapSeq (·.setIfInBounds j u) {cls:= .type "list",data:= .seq c.toArray n}={cls:= .type "list",data:= .seq (c.set j u).toArray n}:=by
 simp[Obj.mapSeq]
theorem Inv.lst{d:gZ}{f:St}{H:Hp}{s:gn}{p:gm}{xs:List V}(I:Inv X d f H s)(h:H p=some (.lst xs)):
  ∃(c:iL) (n:Nat),Vals xs c/\s.heap.get? p=some {cls:= .type "list",data:= .seq c.toArray n}/\xs.length<=sizeLine:=by
 obtain⟨z,c,n,r,e⟩:=I.hok p _ h;exact⟨c,n,r,e,z⟩
def Inv.lstUpd{d:gZ}{l:St}{H:Hp}{s:gn}{p:gm}{w j:List V}{g c:iL}{n i:Nat}{f:Obj->Obj}(I:Inv X d l H s)(h:H p=some (.lst w))
  (o:s.heap.get? p=some {cls:= .type "list",data:= .seq g.toArray n})(k:f {cls:= .type "list",data:= .seq g.toArray n}={cls:= .type "list",data:= .seq c.toArray i})(r:Vals j c)(v:j.length<=sizeLine)(t:Nat):
  Inv X d l (upd H p (.lst j)) {s with heap:=s.heap.update p f,toks:=t}:=by
 have e:(s.heap.update p f).get? p=some {cls:= .type "list",data:= .seq c.toArray i}:=by
  rw[tx f o (by rw[k]<;>rfl),k]
 refine I.write (x:=p) (e:=p) (by rw[h];trivial) (.inl rfl) (λb u m q=>(wt _ _ (qA m)).trans q) ⟨_,e⟩ ?_;exact⟨v,c,i,r,e⟩
def Uy:V->V->V->Hp->(Hp->Prop)->Prop:=λo i v H Q=> ∃p c k j,o= .ref p/\i= .int k/\H p=some (.lst c)/\ixN c.length k=some j/\Q (upd H p (.lst (c.set j v)))
def Lg:Tz X Uy:=by
 intro d s M H o i v U T u Q I B A C h;obtain⟨p,L,k,j,rfl,rfl,x,y,q⟩:=h;cases B;obtain⟨t,rfl⟩:=A;obtain⟨c,n,r,f,z⟩:=I.lst x;obtain⟨h1,N,m,w⟩:=C3 y;have e:=r.length;have O:=CZ
 have g:Inv X d M (upd H p (.lst (L.set j v))) {s with heap:=s.heap.update p (Obj.mapSeq (·.setIfInBounds j u))}:=
  I.lstUpd x f (GK c n j u) (r.set C j) (by rw[uM];exact z) s.toks
 by_cases l:0<=k
 ·have hk:k.toNat=j:=by
   rw[FQ l w] at h1;exact jw h1
  exact PySem.W.ki_setAt f l (by lia) (by rw[iz,<-e];exact w) (by rw[hk];exact⟨_,g,q⟩)
 ·have hk:(k+(c.toArray.size:Int)).toNat=j:=by
   rw[FP (by lia) m] at h1;rw[iz,<-e];exact jw h1
  exact PySem.W.ki_setBack f (by lia) (by rw[iz,<-e];exact m) (by lia) (by rw[hk];exact⟨_,g,q⟩)
def Cy(lo c:Option Int)(n:Nat):(sliceBounds lo c none n).1=((HT.sIx n 0 lo:Nat):Int)/\(sliceBounds lo c none n).2.1=((HT.sIx n n c:Nat):Int)/\(sliceBounds lo c none n).2.2=1:=by
 refine⟨?_,?_,rfl⟩
 ·cases lo with
  |none=>simp[sliceBounds,HT.sIx]
  |some i=>
   simp only[sliceBounds,HT.sIx,Option.getD_none,show(1:Int)>0 by decide,jh];by_cases h:i<0
   ·simp only[h,jh]<;>lia
   ·simp only[h,iQ]<;>lia
 ·cases c with
  |none=>simp[sliceBounds,HT.sIx]
  |some i=>
   simp only[sliceBounds,HT.sIx,Option.getD_none,show(1:Int)>0 by decide,jh];by_cases h:i<0
   ·simp only[h,jh]<;>lia
   ·simp only[h,iQ]<;>lia
theorem zY(c:iL)(lo d:Option Int):slicePick c.toArray lo d none=((c.drop (HT.sIx c.length 0 lo)).take (HT.sIx c.length c.length d-HT.sIx c.length 0 lo)).toArray:=by
 obtain⟨h1,e,f⟩:=Cy lo d c.toArray.size;unfold slicePick;rw[h1,e,f];simp only[sliceRange_one,pick_run,iz]<;>rfl
def WA(K:gK):V->Option Int->Option Int->Hp->VK->Prop:=λx lo d H Q=> ∃a c,x= .ref a/\SqL K H a c/\ ∀p,H p=none->Q (.ref p) (upd H p (.lst (EN c lo d)))
def NY:SlR X (WA X.K):=by
 intro g s z H x v w y lo e u Q I p i m n h;obtain⟨a,c,rfl,j,q⟩:=h;cases p;obtain⟨l,r,f,k⟩:=I.list j;have d:=r.length;refine⟨"list",_,slot_list_getitem.lookup,f.isList.typeIs,?_⟩;refine wpAny_getItem_list_slice f.isList i m n .none (by simp) ?_ (by rw[iz]<;>lia);rw[zY,<-d];refine⟨.ref s.heap.objs.size,_,I.laid (t':=s.toks) (o:= .lst (EN c lo e)) (λb t q=>iW _ q) (iO _) ?_,rfl,q _ (I.hok.fresh (iO _))⟩;exact⟨ku (xw c lo e) k,_,0,(r.drop (HT.sIx c.length 0 lo)).take (HT.sIx c.length c.length e-HT.sIx c.length 0 lo),jv _ rfl⟩
noncomputable def Qs:V->Bool
 | .non=>true
 | .bl _=>true
 | .int _=>true
 | .str _=>true
 |_=>false
noncomputable def eqV:V->V->Bool
 | .non,.non=>true
 | .bl a,.bl b=>a==b
 | .bl a,.int b=>(if a then 1 else 0)==b
 | .int a,.bl b=>a==(if b then 1 else 0)
 | .int a,.int b=>a==b
 | .str a,.str b=>a==b
 |_,_=>false
def lj{A:gM}{s:gn}{y x:V}{u v:gA}(f:RelV y u)(c:RelV x v)(g:Qs y=true)(e:Qs x=true):SeqAt.EqAt A s u v (eqV y x):=by
 cases y with
 |non=>
  cases f
  cases x with
  |non=>cases c;exact SeqAt.EqAt.same _
  |bl b=>cases c;exact SeqAt.EqAt.none_bool b
  |int b=>obtain⟨t,rfl⟩:=c;exact SeqAt.EqAt.none_int b t
  |str b=>obtain⟨t,rfl⟩:=c;exact SeqAt.EqAt.none_str b t
  |_=>exact absurd (show false=true from e) je
 |bl a=>
  cases f
  cases x with
  |non=>cases c;exact SeqAt.EqAt.bool_none a
  |bl b=>cases c;exact SeqAt.EqAt.bool_bool a b
  |int b=>obtain⟨t,rfl⟩:=c;exact SeqAt.EqAt.bool_int a b t
  |str b=>obtain⟨t,rfl⟩:=c;exact SeqAt.EqAt.bool_str a b t
  |_=>exact absurd (show false=true from e) je
 |int a=>
  obtain⟨d,rfl⟩:=f
  cases x with
  |non=>cases c;exact SeqAt.EqAt.int_none a d
  |bl b=>cases c;exact SeqAt.EqAt.int_bool a d b
  |int b=>obtain⟨t,rfl⟩:=c;exact SeqAt.EqAt.int_int a d b t
  |str b=>obtain⟨t,rfl⟩:=c;exact SeqAt.EqAt.int_str a d b t
  |_=>exact absurd (show false=true from e) je
 |str a=>
  obtain⟨d,rfl⟩:=f
  cases x with
  |non=>cases c;exact SeqAt.EqAt.str_none a d
  |bl b=>cases c;exact SeqAt.EqAt.str_bool a d b
  |int b=>obtain⟨t,rfl⟩:=c;exact SeqAt.EqAt.str_int a d b t
  |str b=>obtain⟨t,rfl⟩:=c;exact SeqAt.EqAt.str_str a d b t
  |_=>exact absurd (show false=true from e) je
 |_=>exact absurd (show false=true from g) je
def vH:jx X (.builtin "len") (λk H Q=> ∃p d,k=[.ref p]/\(SqL X.K H p d\/SqT X.K H p d)/\Q (.int d.length) H):=by
 intro j s t H k o Q I r h;obtain⟨p,d,rfl,e,q⟩:=h;obtain⟨u,rfl,m⟩:=qZ r;cases m;have n:=CZ;rcases e with e|e
 ·obtain⟨f,i,g,l⟩:=I.list e;have c:=i.length;exact Calls.call_len_list g.isList (by simp only[iz]<;>lia) ⟨.int d.length,H,I.tok _,⟨s.toks+1,by rw[iz,c]⟩,q⟩
 ·obtain⟨f,i,g,l⟩:=I.tuple e;have c:=i.length;exact len_tuple g (by simp only[iz]<;>lia) ⟨.int d.length,H,I.tok _,⟨s.toks+1,by rw[iz,c]⟩,q⟩
def vG:jx X (.type "list") (λB H Q=> ∃p i,B=[.ref p]/\(SqL X.K H p i\/SqT X.K H p i)/\ ∀l,H l=none->Q (.ref l) (upd H l (.lst i))):=by
 intro v s L H B M Q I r h;obtain⟨p,i,rfl,k,q⟩:=h;obtain⟨u,rfl,C⟩:=qZ r;cases C
 have fin: ∀(c:iL),Vals i c->i.length<=sizeLine-> ∀(d:gP) (f:Nat),(∀b A,s.heap.get? b=some A->d.get? b=some A)->
   d.get? s.heap.objs.size=some {cls:= .type "list",dict:=none,data:= .seq c.toArray f,slots:= #[]}->EP X v L Q (.ref s.heap.objs.size) {s with heap:=d}:=λc g m d f t e=>
  ⟨.ref s.heap.objs.size,_,I.laid (t':=s.toks) t (iO _) (show ObjOk X.prog X.w _ d _ (.lst i) from⟨m,c,f,g,e⟩),rfl,q _ (I.hok.fresh (iO _))⟩
 rcases k with k|k
 ·obtain⟨c,g,z,m⟩:=I.list k;have j:=g.length;obtain⟨o,y,x,n,hd⟩:=z.isList;exact call_list_seq p (.inl rfl) y x hd (λd f t e=>fin c g m d f t e) (by simp only[iz]<;>lia)
 ·obtain⟨c,g,z,m⟩:=I.tuple k;have j:=g.length;obtain⟨o,y,x,n,hd⟩:=z;exact call_list_seq p (.inr rfl) y x hd (λd f t e=>fin c g m d f t e) (by simp only[iz]<;>lia)
def tZ:jx X (.type "tuple") (λv H Q=> ∃p f,v=[.ref p]/\((SqL X.K H p f/\ ∀l,H l=none->Q (.ref l) (upd H l (.tup f)))\/(SqT X.K H p f/\Q (.ref p) H))):=by
 intro c s x H v B Q I r h;obtain⟨p,f,rfl,h⟩:=h;obtain⟨u,rfl,A⟩:=qZ r;cases A;rcases h with⟨i,q⟩|⟨i,q⟩
 ·obtain⟨d,k,j,t⟩:=I.list i;have n:=k.length;refine call_tuple_list j.isList (λg z=>?_) (by simp only[iz]<;>lia);have m:Inv X c x H {s with heap:=g}:=I.kept (t':=s.toks) z
  have y:Inv X c x (upd H g.objs.size (.tup f)) {s with heap:=g.push {cls:= .type "tuple",data:= .seq d.toArray}}:=
   m.laid (t':=s.toks) (λb o e=>iW _ e) (iO _) (show ObjOk X.prog X.w _ _ _ (.tup f) from⟨t,d,k,yv _ _⟩)
  exact⟨.ref g.objs.size,_,y,rfl,q _ (m.hok.fresh (iO _))⟩
 ·obtain⟨d,k,j,t⟩:=I.tuple i;exact call_tuple_same j ⟨.ref p,H,I,rfl,q⟩
def tyV(K:gK)(T:String)(x:V)(H:Hp):Prop:=match x with
 | .str _=>T="str"
 | .int _=>T="int"
 | .ref p=>(T="list"/\ ∃d,SqL K H p d)\/(T="tuple"/\ ∃o,K.lookup p=some o/\o.cls= .type "tuple"/\o.dict=none)\/
   (T="dict"/\((∃c,H p=some (.dK c))\/ ∃c,H p=some (.dT c)))\/(T="set"/\ ∃S n,H p=some (.set S n))
 |_=>False
def QR{d:gZ}{q:St}{H:Hp}{s:gn}{T:String}{x:V}{v:gA}(I:Inv X d q H s)(r:RelV x v)(ty:tyV X.K T x H):
  s.TypeIs v T/\ ∀a,v= .ref a-> ∃h,s.heap.get? a=some h/\h.dict=none:=by
 cases x with
 |str z=>
  obtain⟨t,rfl⟩:=r;cases(show T="str" from ty);exact⟨typeIs_str s z t,λ_ e=>nomatch e⟩
 |int i=>
  obtain⟨t,rfl⟩:=r;cases(show T="int" from ty);exact⟨typeIs_int s i t,λ_ e=>nomatch e⟩
 |ref p=>
  cases r;rcases ty with⟨rfl,u,l⟩|⟨rfl,o,hk,k,hd⟩|⟨rfl,hk⟩|⟨rfl,S,n,hk⟩
  ·obtain⟨m,_,j,_⟩:=I.list l;refine⟨j.isList.typeIs,λa e=>?_⟩;cases e;obtain⟨o,n,e,c,hd,_⟩:=j;exact⟨o,e,hd⟩
  ·refine⟨⟨o,I.kIn p o hk,k⟩,λa e=>?_⟩;cases e;exact⟨o,I.kIn _ o hk,hd⟩
  ·have z: ∃o,s.heap.get? p=some o/\o.ExactDict:=by
    rcases hk with⟨g,hk⟩|⟨g,hk⟩
    ·obtain⟨_,_,_,_,o,_,_,e,ex,_⟩:=I.hok p _ hk;exact⟨o,e,ex⟩
    ·obtain⟨_,_,_,_,o,_,_,e,ex,_⟩:=I.hok p _ hk;exact⟨o,e,ex⟩
   obtain⟨o,e,ex⟩:=z;refine⟨⟨o,e,ex.1⟩,λa f=>?_⟩;cases f;exact⟨o,e,ex.2.1⟩
  ·obtain⟨o,_,_,_,e,ex,_⟩:=I.hok p _ hk;refine⟨⟨o,e,ex.1⟩,λa f=>?_⟩;cases f;exact⟨o,e,ex.2.1⟩
 |_=>exact False.elim ty
def tBM(K:gK)(T:String)(r:V->List V->Hp->VK->Prop)(C:TE)(t:TA):TE:=λd H Q=>C d H λx c=>tyV K T x c/\t d c λf e=>r x f e Q
variable {o e:gy}{g:jm}{C:TE}{t:TA}{d:Str}{m B:Pos}{T id:String}{r:V->List V->Hp->VK->Prop}
def Qi(U:PlainAttrs T)(slot:Slot T d id)(f:typeOf (.builtin id)=pure (.type "method_descriptor"))(z:MtR X id r)(A:PE X o C)(y:PA X (e::g) t)
  (N:attributeBase o d X.env (eval o X.env)=eval o X.env:=by rfl)
  (O:((backTo B (starEach (e::g) X.env)).all (λx=>!x.1)&&(backToKw B (keywordEach [] X.env)).all (λx=>x.1.isSome)
   &&decide ((e::g).length+([]:List Keyword).length+(if([]:List Keyword).isEmpty then 0 else 1)<30))=true:=by rfl)
  (M:(m.endLine==B.line)=true:=by rfl)(L:starEach (e::g) X.env=(false,eval e X.env)::starEach g X.env:=by rfl)(w:(backTo B (starEach g X.env)).any (·.1)=false:=by rfl):
  PE X (.Call (.Attribute o d m) (e::g) [] B) (tBM X.K T r C t):=by
 intro c s i H Q I h;refine wpAny_Call_method_late N O M rfl (thn (A c s i H _ I h) λv s1 ⟨x,n,j,l,ty,Y⟩=>?_);obtain⟨h1,u⟩:=QR j l ty;refine⟨T,id,U,slot,f,h1,u,?_⟩;have k:=y B c s1 i n _ j Y;rw[L] at k ⊢;refine Calls.callWith_builtin (by show(false||(backTo B (starEach g X.env)).any (·.1))=false;rw[w]<;>rfl) (Calls.evalArgs_plain ?_);exact thn k λus s2 ⟨vs,p,q,r2,q2⟩=>z c s2 i p x vs v us Q q l r2 q2
end
def MtM(X:Cx)(id:String)(r:V->List V->Hp->VK->Prop):Prop:=
 ∀(a:gZ) (s:gn) (d:St) (H:Hp) (x:V) (c:List V) (v:gA) (b:iL) (Q:VK),Inv X a d H s->RelV x v->Vals c b->r x c H Q->
  wpAny (model X.prog X.w) X.A (call (.builtin id) (v::b)) (EP X a d Q) X.xe s
def Vals.one: ∀{x:V} {a:iL},Vals [x] a-> ∃u,a=[u]/\RelV x u
 |_,_,.cons r .nil=>⟨_,rfl,r⟩
theorem Vals.eraseIdx: ∀{b:List V} {a:iL} (i:Nat),Vals b a->Vals (b.eraseIdx i) (a.eraseIdx i)
 |_,_,_,.nil=> .nil
 |_,_,0,.cons _ t=>t
 |_,_,i+1,.cons r t=> .cons r (Vals.eraseIdx i t)
theorem Vals.reverse{b:List V}{a:iL}(h:Vals b a):Vals b.reverse a.reverse:=by
 induction h with
 |nil=>exact .nil
 |cons r t c=>rw[yu,yu];exact Vals.append c (.cons r .nil)
theorem AZ{a:Type}: ∀(l:List a) (i:Nat),(l.eraseIdx i).length<=l.length
 |[],_=>iO _
 |_::_,0=>Cf _
 |_::r,i+1=>Nat.succ_le_succ (AZ r i)
section
variable {X:Cx}{a:gZ}{c:St}{H:Hp}{s:gn}{l b:gm}{xs d g:List V}
def Inv.lset{h its':iL}{n:Nat}{f:Array Value->Array Value}{p:Nat}(I:Inv X a c H s)(i:H l=some (.lst xs))
  (e:s.heap.get? l=some {cls:= .type "list",data:= .seq h.toArray n})(k:f h.toArray=its'.toArray)(hv:Vals d its')(o:d.length<=sizeLine):
  Inv X a c (upd H l (.lst d)) {s with heap:=s.heap.update l (Obj.mapSeq f),toks:=p}:=by
 have q:=PySem.IsL.update e f;rw[k] at q;refine I.write (x:=l) (e:=l) (by rw[i];exact trivial) (.inl rfl) (λr u j m=>(wt s.heap (Obj.mapSeq f) (qA j)).trans m) ⟨_,q⟩ ?_;exact⟨o,its',_,hv,q⟩
def Inv.lnew{e:iL}{t':Nat}(I:Inv X a c H s)(hv:Vals d e)(f:d.length<=sizeLine):
  Inv X a c (upd H s.heap.objs.size (.lst d)) {s with heap:=s.heap.push {cls:= .type "list",data:= .seq e.toArray},toks:=t'}:=
 I.laid (λ_ _ q=>iW _ q) (iO _) ⟨f,e,0,hv,jv _ rfl⟩
theorem Inv.fresh(I:Inv X a c H s):H s.heap.objs.size=none:=I.hok.fresh (iO _)
def Inv.lstM(I:Inv X a c H s)(h:H l=some (.lst xs)):xs.length<=sizeLine/\ ∃(f:iL) (n:Nat),Vals xs f/\xs.length=f.length/\s.heap.get? l=some {cls:= .type "list",data:= .seq f.toArray n}:=by
 obtain⟨z,f,n,r,e⟩:=I.hok l _ h;exact⟨z,f,n,r,r.length,e⟩
end
section
variable {X:Cx}
def N8:V->List V->Hp->VK->Prop:=λx b H Q=> ∃l a y,x= .ref l/\b=[y]/\H l=some (.lst a)/\a.length<sizeLine/\Q .non (upd H l (.lst (a++[y])))
def Jv:MtM X "list.append" N8:=by
 intro c s p H x m v k Q I g f h;obtain⟨l,o,y,rfl,rfl,b,j,q⟩:=h;cases g;obtain⟨u,rfl,d⟩:=f.one;obtain⟨z,a,n,r,i,e⟩:=I.lstM b;refine Ce F.slot_list_append ⟨_,e,rfl⟩ Ku (Kt _ _) (PySem.list_append l a.toArray n u (by rw[iz];lia)) ⟨e,?_⟩;refine⟨.non,_,I.lset (its':=a++[u]) b e (by simp) (r.append (.cons d .nil)) ?_,rfl,q⟩;rw[lM,wq]
 lia
def Rr:V->List V->Hp->VK->Prop:=λx b H Q=> ∃l a i k y,x= .ref l/\b=[.int i]/\H l=some (.lst a)/\ -(2^63)<=i/\i<2^63/\seqIndex? i a.length=some k/\a[k]?=some y/\Q y (upd H l (.lst (a.eraseIdx k)))
def Mq:MtM X "list.pop" Rr:=by
 intro c s G H x E v C Q I A p h;obtain⟨l,B,i,k,y,rfl,rfl,b,h1,d,hk,j,q⟩:=h;cases A;obtain⟨u,rfl,o⟩:=p.one;obtain⟨t,rfl⟩:=o;obtain⟨z,a,n,r,f,e⟩:=I.lstM b;obtain⟨w,g,m⟩:=r.get j
 refine Ce F.slot_list_pop ⟨_,e,rfl⟩ F.entry_list_pop (F.args_list_pop_2 _ _)
  (MeetsSeq.list_pop_at l a.toArray n i t k w (fitsIndex_both h1 d) (by rw[iz,<-f];exact hk) (by rw[<-lq];exact g) (by rw[iz];lia)) ⟨e,?_⟩
 refine⟨y,_,I.lset (its':=a.eraseIdx k) b e ?_ (r.eraseIdx k) ?_,m,q⟩
 ·show a.toArray.eraseIdxIfInBounds k=(a.eraseIdx k).toArray;rw[List.eraseIdxIfInBounds_toArray]
 ·have:=AZ B k
  lia
end
section
variable {a:gR}{w:gJ}{A:gM}{E:hC}{s:gn}
end
section
variable {X:Cx}
end
end L2
namespace Att
open PySem PySem.W PySem.Calls PyProof.Rows
def xP{P:Params}{h:gP}: ∀(c:gB) (d:iL),WellAll P h d (c.map WData.int)->IntsAre d c:=by
 intro c
 induction c with
 |nil=>
  intro d w;rw[mR] at w;cases w;exact .nil
 |cons n c e=>
  intro d w;rw[iu] at w
  cases w with
  |cons a b=>
   cases a;exact .cons _ _ (e _ b)
def Ja{l:OpenLaw}{n:Nat}(v:l.most=some n){P:Params}{h:gP}{b:List WData}{e:iL}
  (m:l.row.toRowW.claim.pre b=true)(p:WellAll P h e b):
  ∃a k c,e=[Value.ref a]/\b=[WData.list (c.map WData.int)]/\h.get? a=some {cls:= .type "list",data:= .seq k.toArray}/\IntsAre k c/\c.length<=n:=by
 have s:WShape.hasAll [] b [.list .int]=true:=(pre_splitW m).1;have j:l.pre.holds [] {args:=b}=true:=(pre_splitW m).2;obtain⟨d,r,rfl,h1,t⟩:=hasAllW_cons s;obtain rfl:=hasAllW_nil t;obtain⟨A,rfl,u⟩:=hasW_list h1;obtain⟨c,rfl⟩:=items_int u
 have f:c.length<=n:=by
  unfold OpenLaw.pre at j
  have g:(WTm.not (.lt (.lit (.int (n:Int))) (.len (.arg 0)))).holds [] {args:=[.list (c.map .int)]}=true:=by
   have g:=(holds_andW j).1;rw[v] at g;exact g
  have i:=condW_of g (w_not (w_lt w_lit (w_len_list (w_arg rfl))));rw[iJ] at i;refine Nat.le_of_not_lt λq=>?_;have x:(n:Int)<((c.length:Nat):Int):=by lia
  first
   |(rw[nG x] at i;exact absurd i (by decide))
   |(simp at i;lia)
 cases p with
 |cons y z=>
  cases z
  cases y with
  |list w o=>exact⟨_,_,c,rfl,rfl,w,xP c _ o,f⟩
def Jl(l:OpenLaw)(a:List WData):l.row.toRowW.claim.post a (.bool true) a=true:=
 postW_of (r:=l.row.toRowW) (X:=(true==true))
  (show WShape.has [] (.bool true) .bool=true by first|rfl|decide|simp[WShape.has,WShape.arms,WShape.armsAll])
  (show(WTm.eq .res (.lit (.bool true))).value [] {args:=a,res:=some (.bool true),after:=a}=some (.bool (true==true)) from w_eq_bool (w_res rfl) w_lit) rfl
def PN{l:OpenLaw}{n:Nat}{q:gR}{c:hW}{y:(Str->Option Value)->Heap->Prop}{z:World->Heap->Prop}{d:DefRec}
  (hn:l.most=some n)(J:d.params.defaults=[])
  (call: ∀(w:gJ) (e b:gn) (p v:lL) (j:gm) (o:Obj) (x m g:gA) (a:gm) (i:iL) (s:gB),
   Ground q c [] y w e p v b.heap->z w b.heap->
   b.heap.get? j=some o->o.data= .func (docDef d.name d.params d.body d.scope x m g)->b.heap.CodeRec m d.name->p d.name=some (.ref j)->
   b.heap.get? a=some {cls:= .type "list",data:= .seq i.toArray}->IntsAre i s->s.length<=n->b.gens= #[]->
   codeAny (model l.prog w) callerA (.call (.ref j) ⟨[.ref a],[]⟩) (λr t=>r= .ok (.ret (.bool true))/\OldK b.heap t.heap/\t.os=b.os/\AllBare t.gens) b):
  WalkO q c y z l.row.toRowW d [] (λf i=>PySem.call f i):=by
 intro w e b p v G Y j o x m g I kV D hd P B u Q A E S R C K L T;obtain rfl:I= .none:=Dflts.none B J;obtain rfl:kV= .none:=Dflts.noKw B;obtain⟨a,i,s,rfl,rfl,H,h,k⟩:=Ja hn R L;refine enter_call (qY (call w e b p v j o x m g a i s G Y D (fd_plain hd) P u H h k Q) λr t F=>?_);obtain⟨rfl,M,N,O⟩:=F;exact⟨.inl ⟨.bool true,.bool true,[],rfl,λ_=>rfl,.bool true,Jl l _,λ_=>⟨List.Pairwise.nil,λ_ U=>(nomatch U)⟩⟩,M,N,O⟩
section
variable {a:gR}{w:gJ}{A:gM}{E:hC}{s:gn}{K:Frag}
end
end Att
namespace L2
open PySem PySem.Spec PyProof.Rows
theorem AF: ∀{b:iL} {a:gB},IntsAre b a->Vals (a.map V.int) b
 |_,_,.nil=> .nil
 |_,_,.cons n t h=> .cons ⟨t,rfl⟩ (AF h)
def TC(H:Hp):Prop:= ∀b,H b=none\/ ∃o a,H b=some (.frz o (.lst a))
def MH{P:gR}{w:gJ}{K:gK}{J Y:lL}{CX:CXT}{k:Nat}{T a:gm}{fd:lW}{x:Str}{sp:Sp}{c:gn}{p:iL}{L:gB}
  (KX:K.In c.heap)(bu:c.heap.Ns mainGlobals J)(g:c.heap.Ns builtinsNs Y)(U: ∀x:Str,x≠"__name__"->Y x=bootBuiltins x)(C:c.heap.NoLimit)(hg:c.gens= #[])
  (O:c.heap.get? a=some {cls:= .type "list",data:= .seq p.toArray})(hi:IntsAre p L)(hl:L.length<=sizeLine)(hr:Room k callerA)
  (F: ∀base:Heap,K.In base->base.Ns mainGlobals J->FnOk P w K J base CX k T fd [x] sp)(l: ∀(s:gn) (u:gA),BindsTo s fd ⟨[u],[]⟩ [(x,u)])
  (bt: ∀H:Hp,TC H->SqL K H a (L.map V.int)->sp [.ref a] H (λv _=>v= .bl true) λ_ _ _=>False)
  (fR: ∀H e i,CX [] H c (λ_ _ _=>False) e i->False):
  codeAny (model P w) callerA (.call (.ref T) ⟨[.ref a],[]⟩) (λr i=>r= .ok (.ret (.bool true))/\OldK c.heap i.heap/\i.os=c.os/\AllBare i.gens) c:=by
 have W:=AF hi;have I:=hi.length
 have j: ∀H:Hp,TC H->SqL K H a (L.map V.int)->HOk P w H c.heap->(∀b,H b≠none->b=a)->(H a≠none->K.lookup a=none)->
   codeAny (model P w) callerA (.call (.ref T) ⟨[.ref a],[]⟩) (λr i=>r= .ok (.ret (.bool true))/\OldK c.heap i.heap/\i.os=c.os/\AllBare i.gens) c:=by
  intro H S hS E R hK;have f: ∀{b:gm} {o:Obj},c.heap.get? b=some o->H b=none->(C6 c.heap H).get? b=some o:=λe n=>MU e n
  have X: ∀{b:gm} {o:Obj} {A:Array DictEntry} {y:Nat},c.heap.get? b=some o->o.data= .dict A y->H b=none:=λ{b o A y} e d=>by
   cases q:H b with
   |none=>rfl
   |some u=>
    have Q:b=a:=R b (by rw[q];simp);subst Q;rw[O] at e;cases e;have Z:Data.seq p.toArray _=Data.dict A y:=d;cases Z
  have N: ∀{b:gm} {m:lL},c.heap.Ns b m->(C6 c.heap H).Ns b m:=λ{b m} ⟨o,A,y,e,d,r⟩=>⟨o,A,y,f e (X e d),d,r⟩
  have B:K.In (C6 c.heap H):=λb o e=>f (KX b o e) (by
   cases q:H b with
   |none=>rfl
   |some u=>
    have Q:b=a:=R b (by rw[q];simp);subst Q;rw[hK (by rw[q];simp)] at e;cases e)
  have hM:Mod K J (C6 c.heap H):=⟨B,N bu,⟨Y,N g,U⟩,let⟨mc,h1,h2⟩:=C;⟨mc,N h1,h2⟩⟩
  have e0:Env0 P w K J (C6 c.heap H) callerA [] c H:=⟨rfl,hM,λb o e=>Pb e,Nat.le_of_eq (JF _ _),trivial,λb g=>absurd (show b∈([]:List Addr) from g) (by simp),E,.of_eq hg⟩
  refine qY ((F _ B (N bu)).run callerA [] c H ⟨[.ref a],[]⟩ [.ref a] [.ref a] _ _ hr e0 (l c (.ref a)) (.cons rfl .nil) (bt H S hS)) λr i h=>?_
  cases r with
  |error e=>exact(fR H e i h).elim
  |ok fl=>
   cases fl with
   |next=>exact False.elim h
   |brk=>exact False.elim h
   |cont=>exact False.elim h
   |ret u=>
    obtain⟨v,H',os,t,un,G,r',q⟩:=h;have q':v= .bl true:=q;subst q';obtain rfl:u=Value.bool true:=r';refine⟨rfl,OldK.of_keep λb o e=>?_,os,t⟩
    cases q:H b with
    |none=>exact un.keep b o e q (by intro z;exact absurd (show b∈([]:List Addr) from z) (by simp)) (by simp)
    |some u=>
     rcases S b with z|⟨ob,xs,z⟩
     ·rw[q] at z;cases z
     ·have z2:=un.frzs b ob _ z;obtain⟨D,_⟩:=E b _ z;obtain⟨e2,_⟩:=G b _ z2;rw[e] at D;cases D;exact e2
 cases hk:K.lookup a with
 |some o=>
  have e:=KX a o hk;rw[O] at e;cases e;refine j (λ_=>none) (λ_=> .inl rfl) (.inr ⟨_,p.toArray,_,hk,rfl,rfl,rfl,by rw[iz,I];exact hl,by simpa using W⟩) (λb u z=>by have M:(none:Option HO)=some u:=z;cases M) (λb z=>absurd rfl z) λz=>absurd rfl z
 |none=>
  refine j (λb=>if b=a then some (.frz {cls:= .type "list",data:= .seq p.toArray} (.lst (L.map V.int))) else none) (λb=>?_) (.inl (.inr ⟨{cls:= .type "list",data:= .seq p.toArray},gD rfl⟩)) (λb u z=>?_) (λb z=>?_) λ_=>hk
  ·by_cases g:b=a
   ·exact .inr ⟨_,_,gD g⟩
   ·exact .inl (gL g)
  ·by_cases g:b=a
   ·have M:=(gD g).symm.trans z;cases M;subst g;exact⟨O,by rw[iJ];exact hl,p,_,W,O⟩
   ·have M:=(gL g).symm.trans z;cases M
  ·by_cases g:b=a
   ·exact g
   ·exact absurd (gL g) z
def T3{l:PySem.W.OpenLaw}{n k:Nat}{q:gR}{j:hW}{J:(Str->Option Value)->Heap->Prop}{C:World->Heap->Prop}{d:DefRec}{K:Params->PySem.W.Frag}{CX:World->CXT}{sp:World->Sp}{x:Str}
  (hn:l.most=some n)(U:n<=sizeLine)(O:d.params.defaults=[])(hr:Room k callerA)
  (hY: ∀(w:gJ) (h:gP),C w h->(K w.params).In h)
  (F: ∀(w:gJ) (m:lL) (r:gm) (h:gP),(K w.params).In h->h.Ns mainGlobals m->m d.name=some (.ref r)->
   ∃y:FuncData,(∀(s:gn) (u:gA),BindsTo s y ⟨[u],[]⟩ [(x,u)])/\
    ∀base:Heap,(K w.params).In base->base.Ns mainGlobals m->FnOk l.prog w (K w.params) m base (CX w) k r y [x] (sp w))
  (M: ∀(w:gJ) (H:Hp) (a:gm) (t:gB),t.length<=n->TC H->SqL (K w.params) H a (t.map V.int)->sp w [.ref a] H (λv _=>v= .bl true) λ_ _ _=>False)
  (Q: ∀(w:gJ) (H:Hp) (s:gn) (e:gA) (A:gn),CX w [] H s (λ_ _ _=>False) e A->False):
  PySem.W.WalkO q j J C l.row.toRowW d [] (λf I=>PySem.call f I):=by
 refine Att.PN hn O λw E p m mb r o pm Z N a I t G Y ho hd t5 z L i c X=>?_;have B:=hY w _ Y;obtain⟨y,S,D⟩:=F w m r _ B G.T.g z;exact MH B G.T.g G.T.b G.T.builtins G.T.nolimit X L i (ku c U) hr D S (λH P R=>M w H a t c P R) λH e A=>Q w H p e A
noncomputable def sH(s:Stmt):Arguments:=match s with
 | .FunctionDef _ a _ _ _ _ _ _ _ _=>a
 |_=>{posonlyargs:=[],args:=[],vararg:=none,kwonlyargs:=[],kw_defaults:=[],kwarg:=none,defaults:=[]}
noncomputable def ny(s:Stmt):List Stmt:=match s with
 | .FunctionDef _ _ b _ _ _ _ _ _ _=>b
 |_=>[]
noncomputable def gE(s:Stmt):Scope:=match s with
 | .FunctionDef _ _ _ _ _ _ a _ _ _=>a
 |_=>{kind:= .function,names:=[],isGenerator:=false,isCoroutine:=false}
abbrev CX0:CXT:=λ_ _ _ _ _ _=>False
abbrev E0:XK:=λ_ _ _=>False
def UN{X:Cx}:Hm CX0 X E0:=λ_ _ _ _ _ _ _ h=>h.elim
structure Fun(K:gK)(x qual:Str)(st:Stmt)(f:gm)(fd:lW):Prop where
 ex: ∃(oc:gA) (od:Option Addr) (kV doc pm:gA) (an:Option Addr) (g0 ct:gA) (au:uK),
  fd=PySem.W.fnOf x qual (sH st) (ny st) (gE st) .none kV doc pm an g0 ct/\K.lookup f=some ⟨oc,od,.func fd,au⟩/\PySem.W.codeIn K g0 qual=true
 kp:PySem.W.keepIn K (.ref f)=true
section
variable {P:gR}{w:gJ}{K:gK}{a:lL}{base:gP}
theorem Fun.ok{x qual:Str}{st:Stmt}{f:gm}{i:lW}{N e:hW}{k:Nat}{g:Sp}(F:Fun K x qual st f i)(S:FnScope N e (gE st))(len: ∀c H Q E,g c H Q E->c.length=e.length)
  (p: ∀(d:gA) (A:gM) (b:List Env) (s:gn) (H:Hp) (c:List V) (Q:VK) (E:XK),Room k (A.deeper (envOfC qual (gE st) s.heap.objs.size f d))->g c H Q E->
   ∃t,PSs (EM CX0 P w K a base N qual (gE st) f d A b s H E).nox (ny st) t/\t {nx:=λ_ j=>Q .non j,rt:=Q} (oP N c) H):FnOk P w K a base CX0 (k+1) f i e g:=by
 obtain⟨v,y,kV,m,z,r,d,ct,u,rfl,lk,o⟩:=F.ex;refine Vg lk o S len λA b s H c Q E n l=>?_;obtain⟨t,h,q⟩:=p d A b s H c Q E n l;exact⟨t,h.nox,q⟩
def Fun.binds{x qual:Str}{st:Stmt}{f:gm}{j:lW}{g:hW}(F:Fun K x qual st f j)
  (h: ∀(kV b e:gA) (c:Option Addr) (d ct:gA) (i:iL),i.length=g.length->bindArgs (PySem.W.fnOf x qual (sH st) (ny st) (gE st) .none kV b e c d ct) ⟨i,[]⟩=pure (g.zip i)):Binds K j g []:=by
 obtain⟨l,m,kV,b,e,c,d,ct,k,rfl,lk,n⟩:=F.ex;exact .all (h kV b e c d ct)
def S0{x qual:Str}{st:Stmt}{f:gm}{i:gA}{j e:Option Addr}{h:uK}{kV b g d ct:gA}(l:K.lookup f=some ⟨i,j,.func (PySem.W.fnOf x qual (sH st) (ny st) (gE st) .none kV b g e d ct),h⟩)
  (c:PySem.W.codeIn K d qual=true)(k:PySem.W.keepIn K (.ref f)=true):Fun K x qual st f (PySem.W.fnOf x qual (sH st) (ny st) (gE st) .none kV b g e d ct):=⟨⟨i,j,kV,b,g,e,d,ct,h,rfl,l,c⟩,k⟩
end
section
variable {X:Cx}
end
def U6{A B:Prop}(h:B):if false=true then A else B:=by
 rw[gL je];exact h
def U5{A B:Prop}(h:A):if true=true then A else B:=by
 rw[gD rfl];exact h
theorem uJ(b:Env): ∀(l:List (Str×NameKind)) (g:kg),(∀x∈l,x.2= .free-> ∃c,b.cells.lookup x.1=some c)->(∀x c,g.lookup x=some c->b.cells.lookup x=some c)->
  ∃cl,(forIn l g λx r=>if x.2==NameKind.free then do let a <-cellOf b x.1;pure (ForInStep.yield ((x.1,a)::r)) else pure (ForInStep.yield r))=(pure cl:Sem (List (Str×Addr)))/\
   (∀x c,cl.lookup x=some c->b.cells.lookup x=some c)/\(∀x,(x,NameKind.free)∈l-> ∃c,cl.lookup x=some c)/\ ∀x c,g.lookup x=some c-> ∃c,cl.lookup x=some c
 |[],g,_,m=>⟨g,rfl,m,λx h=>by simp at h,λx c h=>⟨c,h⟩⟩
 |(n,k)::l,g,h,m=>by
  by_cases hk:k= .free
  ·subst hk;obtain⟨c,e⟩:=h (n,.free) iF rfl;have q:b.cells.lookup n=some c:=e
   obtain⟨cl,h1,o,p,j⟩:=uJ b l ((n,c)::g) (λx f=>h x (iK _ f)) (λx d f=>by
    rw[oq] at f
    cases i:x==n with
    |true=>rw[i] at f;have:=tD i;subst this;cases f;exact q
    |false=>rw[i] at f;exact m x d f)
   refine⟨cl,?_,o,λx f=>?_,λx d f=>?_⟩
   ·rw[List.forIn_cons];have:cellOf b n=pure c:=by unfold cellOf;rw[q]
    simp only[this,pure_bind,beq_self_eq_true,jh];exact h1
   ·rcases jr.mp f with z|z
    ·cases z;exact j n c (by simp[oq])
    ·exact p x z
   ·cases i:x==n with
    |true=>have:=tD i;subst this;exact j x c (by simp[oq])
    |false=>exact j x d (by rw[oq,i];exact f)
  ·obtain⟨cl,h1,o,p,j⟩:=uJ b l g (λx f=>h x (iK _ f)) m;have i:(k==NameKind.free)=false:=by simpa using hk
   refine⟨cl,?_,o,λx f=>?_,j⟩
   ·rw[List.forIn_cons];simp only[i,iw,iQ,pure_bind];exact h1
   ·rcases jr.mp f with z|z
    ·cases z;exact absurd rfl hk
    ·exact p x z
def uI(b:Env)(scope:jb)(h: ∀x∈scope.names,x.2= .free-> ∃c,b.cells.lookup x.1=some c):
  ∃cl,closureFor scope b=pure cl/\(∀x c,cl.lookup x=some c->b.cells.lookup x=some c)/\ ∀x,(x,NameKind.free)∈scope.names-> ∃c,cl.lookup x=some c:=by
 obtain⟨cl,h1,d,e,_⟩:=uJ b scope.names [] h (λx c f=>by simp at f);refine⟨cl,?_,d,e⟩;unfold closureFor;have:(forIn scope.names ([]:List (Str×Addr)) λx r=>if x.2==NameKind.free then do let a <-cellOf b x.1;pure (ForInStep.yield ((x.1,a)::r)) else pure (ForInStep.yield r))=(pure cl:Sem (List (Str×Addr))):=h1
 first
  |exact(lX (· >>=λr=>pure r) this).trans (pure_bind _ _)
  |(simp only[bind_pure];exact this)
  |exact this
theorem lD: ∀(b:List (Str×NameKind)) (n:Nat) (a:kg),cellsFrom n b a=cellsFrom n b []++a
 |[],_,_=>rfl
 |(x,k)::r,n,a=>by
  unfold cellsFrom;split
  ·rw[lD r (n+1) ((x,n)::a),lD r (n+1) [(x,n)],oW];rfl
  ·exact lD r n a
theorem oT{x:Str}{c:gm}: ∀(a:List (Str×NameKind)) (n:Nat),(x,c)∈cellsFrom n a []->(x,NameKind.cell)∈a
 |[],_,h=>by simp[cellsFrom] at h
 |(y,k)::r,n,h=>by
  unfold cellsFrom at h;split at h
  ·rename_i hk;rw[lD] at h;rcases pK.mp h with z|z
   ·exact iK _ (oT r _ z)
   ·cases IL.mp z;rw[tD hk];exact iF
  ·exact iK _ (oT r _ h)
structure BCls(cells:kg)(scope:jb)(C:gm)(h:gP)(cl:kg):Prop where
 one: ∀x c,cl.lookup x=some c->(cells.lookup x=some c/\scope.names.lookup x≠some .cell)\/(C<c/\scope.names.lookup x=some .cell/\h.IsCell c none)
 all: ∀x,(x,NameKind.free)∈scope.names\/(x,NameKind.cell)∈scope.names-> ∃c,cl.lookup x=some c
 inj: ∀x y c,C<c->cl.lookup x=some c->cl.lookup y=some c->(∀z d,cells.lookup z=some d->d<C)->x=y
 ex: ∀x c,cl.lookup x=some c->cells.lookup x=some c\/C<c
def Pe{M:Model}{A:gM}{E:hC}{s:gn}{scope:jb}{globals:gm}{a:Env}{cl:kg}{qual:Str}{Q:Env->Shared->Prop}(u: ∀y∈scope.names,y.2= .cell->scope.names.lookup y.1=some .cell)
  (m: ∀x c,cl.lookup x=some c->a.cells.lookup x=some c)(H: ∀x,(x,NameKind.free)∈scope.names-> ∃c,cl.lookup x=some c)
  (B: ∀k r,k.Ns s.heap.objs.size (λ_=>none)->(∀b o,s.heap.get? b=some o->k.get? b=some o)->BCls a.cells scope s.heap.objs.size k r->
   Q {scope,locals:=s.heap.objs.size,globals,cells:=r,qual,func:=none,code:=a.code,frame:=a.frame,builtins:=a.builtins} {s with heap:=k}):
  wpAny M A (newFunctionEnv scope globals cl [] qual none .none (some a)) Q E s:=by
 simp only[newFunctionEnv,Option.isSome_some,jh];refine gk (wpAny_alloc ?_);refine gk (wpAny_layCells _ (λv j i=>by cases n:j==NameKind.cell<;>simp[n]) _ _ _ _ ?_);have ok:=cellsFrom_ok scope.names (s.heap.push {cls:= .type "dict",data:= .dict #[]}) (s.heap.objs.size+1) [] ⟨λ_ _ C=>(nomatch C),List.Pairwise.nil⟩ (by rw[qw];exact iO _);rw[qw] at ok;rw[show({s with heap:=s.heap.push {cls:= .type "dict",data:= .dict #[]}}:Shared).heap.objs.size=s.heap.objs.size+1 from qw ..];simp only[List.forIn_nil];have g: ∀x,(cellsFrom (s.heap.objs.size+1) scope.names cl).lookup x=((cellsFrom (s.heap.objs.size+1) scope.names []).lookup x).or (cl.lookup x):=λx=>by rw[lD,List.lookup_append]
 have f: ∀x c,(cellsFrom (s.heap.objs.size+1) scope.names cl).lookup x=some c->(cl.lookup x=some c/\(cellsFrom (s.heap.objs.size+1) scope.names []).lookup x=none)\/(x,c)∈cellsFrom (s.heap.objs.size+1) scope.names []:=λx c h=>by
  rw[g] at h
  cases p:(cellsFrom (s.heap.objs.size+1) scope.names []).lookup x with
  |none=>rw[p] at h;exact .inl ⟨h,rfl⟩
  |some d=>rw[p] at h;cases h;exact .inr (qX p)
 have lo: ∀{x:Str} {c:gm},(x,c)∈cellsFrom (s.heap.objs.size+1) scope.names []->s.heap.objs.size<c:=λ{x c} h=>(ok.empty x c h).2;refine gk (gw (gw (B _ _ ((Heap.Ns.new s.heap (.type "dict")).keeps (pushCells_keeps _ _)) (λb o e=>pushCells_keeps _ _ b o (iW _ e)) ⟨λx c h=>?_,λx h=>?_,λx y c l h1 w t=>?_,λx c h=>?_⟩)))
 ·rcases f x c h with⟨z,G⟩|z
  ·refine .inl ⟨m x c z,λe=>?_⟩;have:=Cj scope.names (s.heap.objs.size+1) [] (.inl e);rw[G] at this;cases this
  ·exact .inr ⟨lo z,u _ (oT _ _ z) rfl,(ok.empty x c z).1⟩
 ·rcases h with h|h
  ·obtain⟨c,l⟩:=H x h;rw[g,l];cases(cellsFrom (s.heap.objs.size+1) scope.names []).lookup x<;>exact⟨_,rfl⟩
  ·have:=Cj scope.names (s.heap.objs.size+1) cl (.inl (u _ h rfl));exact Kz.mp this
 ·rcases f x c h1 with⟨z,_⟩|z
  ·exact absurd (t x c (m x c z)) (FN l)
  ·rcases f y c w with⟨q,_⟩|q
   ·exact absurd (t y c (m y c q)) (FN l)
   ·exact name_of_addr ok.apart z q
 ·rcases f x c h with⟨z,_⟩|z
  ·exact .inl (m x c z)
  ·exact .inr (lo z)
noncomputable def Cx.comp(X:Cx)(d:hW)(scope:jb)(cl:kg)(C:gm)(f:gn)(c:Hp)(e:jl)(a:gZ):Cx:=
 {X with N:=d,s₀:=f,H₀:=c,env:=compEnvC scope cl C X.env,outer:=X.stack,stack:=X.stack,ex:=e,fn:=λx=>scope.names.lookup x==some .cell,pn:=X.pn++a,xe:=λ_ _=>False}
abbrev TB:=St->Hp->(St->Hp->Prop)->Prop
def PB(X:Cx)(code:Sem Unit)(t:TB):Prop:=
 ∀(a:gZ) (s:gn) (d:St) (H:Hp) (N:St->Hp->Prop),Inv X a d H s->t d H N->
  wpAny (model X.prog X.w) X.A code (λ_ e=> ∃b c,Inv X a b c e/\N b c) X.xe s
def PIf(X:Cx)(b:jm)(t:TT):Prop:=
 ∀(a:gZ) (s:gn) (d:St) (H:Hp) (Q:Bool->Hp->Prop),Inv X a d H s->t d H Q->
  wpAny (model X.prog X.w) X.A (forIn b true λc r=>if r=true then do let ok <-isTrue c X.env (eval c X.env);pure (ForInStep.yield ok) else pure (ForInStep.yield r)) (TP X a d Q) X.xe s
noncomputable def T6:TT:=λ_ H Q=>Q true H
section
variable {X:Cx}
def OL:PIf X [] T6:=λa s b H Q I h=>wpAny_tests_nil ⟨H,I,h⟩
def OJ{c:gy}{t:TT}(h:PT X c t):PIf X [c] t:=λa s d H Q I b=>wpAny_tests_one (h a s d H Q I b)
noncomputable def il(e:gy)(depth:Nat)(acc:gA)(a:Env):Sem Unit:=
 match(clausesOf e)[depth+1]? with
 |some c=>do
  let x <-eval c.iter a
  standAt c.iter.pos
  let x <-foldedSetIterable c.iter a x
  let _ <-runOwn (.compStart e (depth+1) (<-holding [x] (pyIter x)) acc a) a
 |none=>match e with
  | .ListComp b _ _ _=>do let _ <-call (.builtin "list.append") [acc,<-eval b a]
  | .SetComp b _ _ _=>do let v <-eval b a;standAt b.pos;let _ <-call (.builtin "set.add") [acc,v]
  |_=>unsupported "no"
def Hx(J:It)(g:TG)(n:TT)(l:TB):TB:=λd H N=> ∃W:Nat->Nat->St->Hp->Prop,(∃m,W 0 m d H)/\ ∀i m d H,W i m d H->
 (J.stop i H/\N d H)\/(J.go i H/\ ∀x f,J.yld i H x f->g x d f λa j=>n a j λb h=>if b=true then l a h λe k=> ∃c,c<m/\W (i+1) c e k else ∃c,c<m/\W (i+1) c a h)
theorem Dh(e:gy)(depth:Nat)(k f:gA)(b:Env)(g:nD)(q:(∃d a i p,e= .ListComp d a i p)\/(∃d a i p,e= .SetComp d a i p))
  (j:(clausesOf e)[depth]?=some g)(o:g.is_async=0)(l: ∀h,(clausesOf e)[depth+1]?=some h->h.is_async=0):
  compTurn e depth k f b=(do
   standAt g.iter.pos
   match <-pyNext k with
   |none=>pure (.done .next)
   |some v=>
    letOwnedTupleGo g.target k v
    assign g.target b v
    let ok <-forIn g.ifs true λc r=>if r=true then do let ok <-isTrue c b (eval c b);pure (ForInStep.yield ok) else pure (ForInStep.yield r)
    if ok=true then il e depth f b
    again (.compLoop e depth k f b)):=by
 rcases q with⟨d,a,i,p,rfl⟩|⟨d,a,i,p,rfl⟩
 ·have m:a[depth]?=some g:=j;unfold compTurn il;simp only[clausesOf] at j l ⊢;rw[m];simp only[o]
  cases n:a[depth+1]? with
  |none=>rfl
  |some h=>
   have:=l h n;simp only[this,tw,iw,iQ]
   congr 1;funext _;congr 1;funext r
   cases r with
   |none=>rfl
   |some v=>
    dsimp only
    congr 1;funext _;congr 1;funext _;congr 1;funext ok
    cases ok with
    |false=>rfl
    |true=>simp only[jh,pT];rfl
 ·have m:a[depth]?=some g:=j;unfold compTurn il;simp only[clausesOf] at j l ⊢;rw[m];simp only[o]
  cases n:a[depth+1]? with
  |none=>rfl
  |some h=>
   have:=l h n;simp only[this,tw,iw,iQ]
   congr 1;funext _;congr 1;funext r
   cases r with
   |none=>rfl
   |some v=>
    dsimp only
    congr 1;funext _;congr 1;funext _;congr 1;funext ok
    cases ok with
    |false=>rfl
    |true=>simp only[jh,pT];rfl
def Ng 
  (d:(∃b a c p,e= .ListComp b a c p)\/(∃b a c p,e= .SetComp b a c p))
  (h:wpAny (model prog w) A ((compTurn e depth it acc env).onRaise (λx=>do noteFrame x env;theTreesLotGoes x)) Q E s):
  wpAny (model prog w) (A.under (.compLoop e depth it acc env)) ((model prog w).den (.compLoop e depth it acc env)) Q E s:=by
 rcases d with⟨b,a,c,p,rfl⟩|⟨b,a,c,p,rfl⟩
 ·exact h
 ·exact h
def HX{e:gy}{depth:Nat}{acc:gA}{c:nD}{g:TG}{ti:TT}{tb:TB}{J:It}{y:jl}{it:gm}{tn:Nat->Heap->Prop}(bP:X.xe=λ_ _=>False)(hc:X.calm=true)
  (hl:(∃B k sc p,e= .ListComp B k sc p)\/(∃B k sc p,e= .SetComp B k sc p))(hg:(clausesOf e)[depth]?=some c)(ha:c.is_async=0)(k0: ∀g',(clausesOf e)[depth+1]?=some g'->g'.is_async=0)
  (T:Turn X.prog X.w X.K c.target J y it tn)(pg:PG X c.target g)(aT:PIf X c.ifs ti)(pb:PB X (il e depth acc X.env) tb)
  {a:gZ}{s:gn}{σ:St}{H:Hp}{N:St->Hp->Prop}(I:Inv X a σ H s)(f2: ∀b∈y,rP X a H b)(st:tn 0 s.heap)(h:Hx J g ti tb σ H N):
  codeAny (model X.prog X.w) X.A (.compLoop e depth (.ref it) acc X.env) (λr s'=>r= .ok .next/\ ∃f j,Inv X a f j s'/\(∀b∈y,j b=none)/\N f j) s:=by
 obtain⟨W,⟨m0,w0⟩,M⟩:=h;have P: ∀{j:Hp},(∀b∈y,j b=none)-> ∀b∈y,rP X a j b:=λhn b v=>⟨hn b v,(f2 b v).2⟩
 have D: ∀{Z:Type} {t:Sem Z} {Q:Z->Shared->Prop} {E:hC} {s:gn},wpAny (model X.prog X.w) X.A t Q X.xe s->wpAny (model X.prog X.w) X.A t Q E s:=λh=>pe h (λ_ _ x=>x) λ_ _ z=>by rw[bP] at z;exact z.elim
 refine codeAny_loop rfl (λn s'=> ∃i f j,Inv X a f j s'/\tn i s'.heap/\(∀b∈y,j b=none)/\W i n f j) (λn V hI=>?_) m0 ⟨0,σ,H,I,st,λb v=>(f2 b v).1,w0⟩;refine Ng hl ?_;refine wpAny_noted ?_;rw[Dh e depth (.ref it) acc X.env c hl hg ha k0];obtain⟨i,l,U,R,S,F,w3⟩:=hI;refine gk (wy ?_);rcases M i n l U w3 with⟨stop,qn⟩|⟨go,step⟩
 ·refine gk (thn (T.done X rfl rfl rfl hc i a V l U _ R (P F) S stop) λr s4 ⟨hr,I4⟩=>?_);subst hr;exact gw ⟨rfl,l,U,I4,F,qn⟩
 ·refine gk (thn (T.item X rfl rfl rfl hc i a V l U _ R (P F) S go) λr s4 ⟨u,hr,h4⟩=>?_);subst hr;refine gk (thn h4 λ_ s5 ⟨x,H5,I5,r5,y5,bI,fV⟩=>?_);have gf:=I5.pinned (P fV) (T.obj _ _ bI);refine gk (thn (D (pg _ s5 l H5 x u _ gf r5 (step x H5 y5))) λ_ s6 ⟨O,H6,I6,q6⟩=>?_);refine gk (thn (D (aT _ s6 O H6 _ I6 q6)) λok s7 ⟨H7,I7,q7⟩=>?_)
  have again: ∀{L:gn} {q:St} {C:Hp},Inv X (a++yT y s5.heap) q C L->(∃Y,Y<n/\W (i+1) Y q C)-> ∃m,m<n/\ ∃i f j,Inv X a f j L/\tn i L.heap/\(∀b∈y,j b=none)/\W i m f j:=λ{L q C} G ⟨Y,hm,w8⟩=>by
   refine⟨Y,hm,i+1,q,C,G.unpinned,T.keep _ _ _ bI λb v o e=>(G.pin (b,o) (oZ _ (oZ _ (qd v e)))).1,λb v=>?_,w8⟩;obtain⟨o,e,d⟩:=T.obj _ _ bI b v;exact(G.pin (b,o) (oZ _ (oZ _ (qd v e)))).2.1
  cases ok with
  |false=>
   rw[gL je] at q7;exact gw ⟨rfl,again I7 q7⟩
  |true=>
   rw[gD rfl] at q7;simp only[jh];refine gk (thn (D (pb _ s7 O H7 _ I7 q7)) λ_ L ⟨q,C,G,q8⟩=>?_);exact gw ⟨rfl,again G q8⟩
def Ub(d:gm)(e:TE):TB:=λc H N=>e c H λy b=> ∃a,b d=some (.lst a)/\a.length<sizeLine/\N c (upd b d (.lst (a++[y])))
def OU{b:gy}{a:oi}{i:jb}{p:Pos}{depth:Nat}{d:gm}{j:TE}(o:a[depth+1]?=none)(m:PE X b j):PB X (il (.ListComp b a i p) depth (.ref d) X.env) (Ub d j):=by
 intro f s k H N I h
 have l:il (.ListComp b a i p) depth (.ref d) X.env=(do let _ <-call (.builtin "list.append") [.ref d,<-eval b X.env]):=by
  unfold il;simp only[clausesOf];rw[o]
 rw[l];refine gk (thn (m f s k H _ I h) λu s1 ⟨y,v,g,t,A,hd,x,q⟩=>?_);obtain⟨z,c,n,r,w,e⟩:=g.lstM hd;refine gk (Ce F.slot_list_append ⟨_,e,rfl⟩ Ku (Kt _ _) (PySem.list_append d c.toArray n u (by rw[iz];omega)) ⟨e,?_⟩);refine gw ⟨k,_,g.lset (its':=c++[u]) hd e (by simp) (r.append (.cons t .nil)) ?_,q⟩;rw[lM,wq];omega
def DN{b:gR}{w:gJ}{A:gM}{e:gy}{depth:Nat}{i acc:gA}{d:Env}{R:Result->Shared->Prop}{s:gn}{c:nD}
  (r:(∃g a j p,e= .ListComp g a j p)\/(∃g a j p,e= .SetComp g a j p))(q:(clausesOf e)[depth]?=some c)(o:c.is_async=0)
  (m:codeAny (model b w) A (.compLoop e depth i acc d) R s)
  (k: ∀(Q:hC) (E:hC),Q i s->wpAny (model b w) A (pyIter i) Q E s):
  codeAny (model b w) A (.compStart e depth i acc d) R s:=by
 have h:wpAny (model b w) A (compStart e depth i acc d) (λfin l=>match fin with| .done f=>R (.ok f) l| .again n=>n.quiet=true/\codeAny (model b w) A n R l) (notedBy (model b w) A d λx l=>R (.error x) l) s:=by
  unfold compStart;rw[q];simp only[Option.elim,o,tw,iw,iQ];refine gk (wo (wpAny_ite ?_));split
  ·first
    |exact gk (gw (gw (And.intro rfl m)))
    |exact gw (And.intro rfl m)
  ·exact gk (tq (gk (wy (gk (k _ _ (gw (And.intro rfl m)))))))
 rcases r with⟨g,a,j,p,rfl⟩|⟨g,a,j,p,rfl⟩
 ·refine yt ?_;show wpAny _ A ((compStart (.ListComp g a j p) depth i acc d).onRaise (λx=>do noteFrame x d;standAt theWindowsPlace)) _ _ s;exact wpAny_notedAt h
 ·refine yt ?_;show wpAny _ A ((compStart (.SetComp g a j p) depth i acc d).onRaise (λx=>do noteFrame x d;standAt theWindowsPlace)) _ _ s;exact wpAny_notedAt h
noncomputable def KY(e:TI)(g:TG)(d:TT)(c:TB):TB:=λa H N=>e a H λJ b=>Hx J g d c a b N
def Se{e:gy}{depth:Nat}{b:gA}{c:nD}{u:TI}{g:TG}{t:TT}{o:TB}(G:X.xe=λ_ _=>False)(O:X.calm=true)
  (n:(∃d a j p,e= .ListComp d a j p)\/(∃d a j p,e= .SetComp d a j p))(i:(clausesOf e)[depth+1]?=some c)(m:c.is_async=0)(k0: ∀l,(clausesOf e)[depth+1+1]?=some l->l.is_async=0)
  (hs: ∀x,foldedSetIterable c.iter X.env x=pure x)(pi:PI X c.target c.iter u)(pg:PG X c.target g)(C:PIf X c.ifs t)(pb:PB X (il e (depth+1) b X.env) o):
  PB X (il e depth b X.env) (KY u g t o):=by
 intro f s K H N I h
 have L:il e depth b X.env=(do
  let x <-eval c.iter X.env
  standAt c.iter.pos
  let x <-foldedSetIterable c.iter X.env x
  let _ <-runOwn (.compStart e (depth+1) (<-holding [x] (pyIter x)) b X.env) X.env):=by
  unfold il;rw[i]
 rw[L];refine gk (thn (pi f s K H _ I h) λv s1 h1=>gk (wy (gk (qv (hs v) (gk (kr (thn h1 λR F M=>?_)))))));obtain⟨V,S,Z,J,P,rfl,z,T,w,f2,D⟩:=M;refine gk (wpAny_runOwn ?_);refine DN n i m ?_ (λQ E U=>T.self X.A 0 F Q E w U);refine qY (HX G O n i m k0 T pg C pb z f2 w D) λr W Y=>?_;obtain⟨rfl,k,y,B,_,q⟩:=Y;exact gw ⟨k,y,B,q⟩
end
theorem mU{a:Env}: ∀{b:List (Str×NameKind)} {x:Str},b.lookup x=some .free->
  (b.map λ(n,k)=>if(k==NameKind.free&&a.scope.kind== .function&&a.kindOf n==some .cell) then(n,NameKind.cell) else(n,k)).lookup x=some .cell\/
  (b.map λ(n,k)=>if(k==NameKind.free&&a.scope.kind== .function&&a.kindOf n==some .cell) then(n,NameKind.cell) else(n,k)).lookup x=some .free
 |[],_,h=>by simp at h
 |(n,k)::r,x,h=>by
  have e:= @mU a r x;rw[iu]
  cases c:x==n with
  |true=>
   simp only[oq,c] at h;cases h;by_cases d:(NameKind.free==NameKind.free&&a.scope.kind== .function&&a.kindOf n==some .cell)=true
   ·left;simp only[d,jh,oq,c]
   ·right;simp only[d,iQ,oq,c,iw]
  |false=>
   simp only[oq,c] at h;by_cases d:(k==NameKind.free&&a.scope.kind== .function&&a.kindOf n==some .cell)=true
   ·simp only[d,jh,oq,c];exact e h
   ·simp only[d,iQ,oq,c,iw];exact e h
theorem jS{a:Env}: ∀{b:List (Str×NameKind)} {x:Str} {g:NameKind},
  (b.map λ(n,k)=>if(k==NameKind.free&&a.scope.kind== .function&&a.kindOf n==some .cell) then(n,NameKind.cell) else(n,k)).lookup x=some g-> ∃k,(x,k)∈b/\(k=g\/k= .free)
 |[],_,_,h=>by simp at h
 |(n,k)::r,x,g,h=>by
  rw[iu] at h
  cases d:x==n with
  |true=>
   have e:=tD d;subst e;by_cases c:(k==NameKind.free&&a.scope.kind== .function&&a.kindOf x==some .cell)=true
   ·refine⟨k,iF,.inr ?_⟩
    have h1:(k==NameKind.free)=true:=by
     cases hk:(k==NameKind.free) with
     |true=>rfl
     |false=>rw[hk] at c;simp at c
    exact tD h1
   ·simp only[c,iQ,oq,d,iw] at h;exact⟨k,iF,.inl (by simpa using h)⟩
  |false=>
   by_cases c:(k==NameKind.free&&a.scope.kind== .function&&a.kindOf n==some .cell)=true
   ·simp only[c,jh,oq,d] at h;obtain⟨i,h1,f⟩:=jS h;exact⟨i,iK _ h1,f⟩
   ·simp only[c,iQ,oq,d,iw] at h;obtain⟨i,h1,f⟩:=jS h;exact⟨i,iK _ h1,f⟩
structure CompScope(X:Cx)(N':hW)(scope:jb)(pre:St->St):Prop where
 cell: ∀y∈scope.names,y.2= .cell->scope.names.lookup y.1=some .cell
 kind:scope.kind= .function
 names: ∀y∈scope.names,y.2= .local->scope.names.lookup y.1=some .local
 free: ∀y∈scope.names,y.2= .free->X.env.scope.names.lookup y.1=some .cell\/X.env.scope.names.lookup y.1=some .free
 len: ∀σ:St,(pre σ).length=N'.length
 pre: ∀(σ:St) (i:Nat) (v:V) (x:Str),(pre σ)[i]?=some (some v)->N'[i]?=some x->scope.names.lookup x=some .free/\ ∃j:Nat,X.N[j]?=some x/\σ[j]?=some (some v)
section
variable {X:Cx}
def PH{L:hW}{scope:jb}{pre:St->St}(S:CompScope X L scope pre){d:gZ}{f:gn}{H:St}{t:Hp}{E:jl}{cl:kg}{G:gP}{t':Nat}(I:Inv X d H t f)
  (B:BCls X.env.cells scope f.heap.objs.size G cl)
  (C: ∀b∈E,rP X d t b)(N: ∀b∈E,b<f.heap.objs.size)
  (Y:G.Ns f.heap.objs.size (λ_=>none))(hk: ∀b o,f.heap.get? b=some o->G.get? b=some o):
  Inv (X.comp L scope cl f.heap.objs.size f t E d) [] (pre H) t {f with heap:=G,toks:=t'}:=by
 have J: ∀b∈frs X.stack,t b=none:=I.stkFree;have w: ∀b,b≠X.env.locals->b∉X.fs->b∉frs X.stack:=λb h1 a z=>(jr.mp (I.stkSub b z)).elim h1 a;have A: ∀x c,X.env.cells.lookup x=some c->c<f.heap.objs.size:=λx c e=>(I.cell x c e).elim λ_ z=>z.lt
 refine⟨⟨I.ok.mod,?_,I.ok.glob,I.ok.blt,iO _,λx y c h1 a=>?_,λx h=>?_,λx c q e=>?_,I.ok.hd,I.ok.frames,.inl rfl,λb g=>?_,
  I.bs,ku I.ok.bsz I.sz,λb o e g=>?_,λb g=>w b (C b g).2.1 (C b g).2.2.1,I.stack,J⟩,rfl,I.bare,Un.kept hk,⟨_,Y,λi x v h1 a O=>?_⟩,λx c h=>?_,I.hok.fresh (iO _),λx c h=>?_,λp V=>?_,I.hok.kept hk,S.len H⟩
 ·show(relabel scope X.env).kind= .function;simp[relabel,S.kind]
 ·rcases B.ex x c h1 with z|z
  ·rcases B.ex y c a with s|s
   ·exact I.ok.inj x y c z s
   ·exact absurd (A x c z) (FN s)
  ·exact B.inj x y c z h1 a A
 ·
  have T:(relabel scope X.env).names.lookup x=some .cell\/(relabel scope X.env).names.lookup x=some .free:=h;refine B.all x ?_;rcases T with z|z
  ·obtain⟨k,h1,a⟩:=jS z;rcases a with a|a<;>subst a
   ·exact .inr h1
   ·exact .inl h1
  ·obtain⟨k,h1,a⟩:=jS z;rcases a with a|a<;>(subst a;exact .inl h1)
 ·rcases B.one x c e with⟨_,z⟩|⟨z,_⟩
  ·exact absurd (tD q) z
  ·exact wz z
 ·refine⟨iD (N b g),λx c h=>?_⟩;rcases B.ex x c h with z|z
  ·exact(C b g).2.2.2.2.1 x c z
  ·exact pd (Cd (N b g) z)
 ·
  have Z:b∈E:=g;rcases(C b Z).2.2.2.1 with z|z
  ·exact I.ok.noex b o e z
  ·exact absurd (mS (ja e) (ku I.ok.bsz z)) (ph _)
 ·obtain⟨q,j,P,hv⟩:=S.pre H i v x a h1;obtain⟨m,hn,R⟩:=I.loc;have Q:=S.free (x,.free) (qX q) rfl;obtain⟨u,r,l⟩:=R j x v P hv (by rcases Q with z|z;exact .inr (.inl z);exact .inr (.inr z));refine⟨u,r,.inr ⟨mU q,?_⟩⟩;rcases l with⟨fA,_⟩|⟨_,c,K,W⟩
  ·have F:X.env.scope.names.lookup x=some .local:=fA;rcases Q with z|z<;>(have s:X.env.scope.names.lookup x=_:=z;rw[F] at s;cases s)
  ·obtain⟨D,M⟩:=B.all x (.inl (qX q));rcases B.one x D M with⟨this,_⟩|⟨_,z,_⟩
   ·rw[K] at this;cases this;exact⟨c,M,W.keeps hk⟩
   ·rw[q] at z;cases z
 ·rcases B.one x c h with⟨z,_⟩|⟨_,_,z⟩
  ·obtain⟨v,hv⟩:=I.cell x c z;exact⟨v,hv.keeps hk⟩
  ·exact⟨_,z⟩
 ·rcases B.ex x c h with z|z
  ·exact I.freeC x c z
  ·exact I.hok.fresh (wz z)
 ·have U:p∈X.pn++d:=by simpa[Cx.comp] using V
  obtain⟨e,n,h1,a,O⟩:=I.pin p U;exact⟨hk _ _ e,n,iD (ja e),w _ h1 a,O⟩
def zB{q:hW}{scope:jb}{a:gZ}{f g:gn}{n k:St}{i l:Hp}{j:jl}{cl:kg}{m:gP}(I:Inv X a n i f)(h: ∀b∈j,rP X a i b)
  (J:Inv (X.comp q scope cl f.heap.objs.size f i j a) [] k l g)(t:Heap.SameBut f.heap.objs.size g.heap m):Inv X a n l {g with heap:=m}:=by
 have K:=I.call' (s':=g) (ch:=j) J.os J.base J.hok J.bare λb d=>⟨(h b d).2.2.2.1,(h b d).2.1,(h b d).2.2.2.2.1,(h b d).2.2.2.2.2⟩
 have r:X.env.locals<f.heap.objs.size:=I.lt;refine K.turned (it:=f.heap.objs.size) (t':=g.toks) (λb o d e=>by rw[t.2 b d];exact e) J.free (pd r) (.inr I.sz) (λx c u z=>?_) (λp s z=>?_)
 ·obtain⟨v,o,e,_⟩:=I.cell x c u;exact absurd (ja e) (by rw[z];exact ph _)
 ·obtain⟨e,_⟩:=I.pin p s;exact absurd (ja e) (by rw[z];exact ph _)
def Hy(o:HO)(J:It)(g:TG)(c:TT)(b:Addr->TB)(pre:St->St)(e:St)(H:Hp)(Q:VK):Prop:=
 ∀d,H d=none->Hx J g c (b d) (pre e) (upd H d o) λ_ a=>Q (.ref d) a
def V0(J:It)(g:TG)(b:TT)(a:Addr->TB)(pre:St->St)(c:St)(H:Hp)(Q:VK):Prop:=Hy (.lst []) J g b a pre c H Q
def wX{e:gy}{o:HO}{l:Obj}{c:nD}{hV:oi}{scope:jb}{u:hW}{pre:St->St}{g:TG}{ti:TT}{tb:Addr->TB}{U:kg}{J:It}{i:jl}{it:gm}{tn:Nat->Heap->Prop}
  (hl:(∃N k sc p,e= .ListComp N k sc p)\/ ∃N k sc p,e= .SetComp N k sc p)(hg:clausesOf e=c::hV)
  (S:CompScope X u scope pre)(hc:X.calm=true)(ha:c.is_async=0)(k0: ∀H,hV[0]?=some H->H.is_async=0)
  (r6: ∀(cl:kg) (C:gm) (s:gn) (t:Hp) (i:jl) (a:gZ),let G:=X.comp u scope cl C s t i a
   PG G c.target g/\PIf G c.ifs ti/\ ∀d,PB G (il e 0 (.ref d) G.env) (tb d))
  (l8: ∀x c,U.lookup x=some c->X.env.cells.lookup x=some c)(j6: ∀x,(x,NameKind.free)∈scope.names-> ∃c,U.lookup x=some c)
  {a:gZ}{f:gn}{I:St}{m:Hp}{Q:VK}{E:hC}{RR:Value->Addr->Result->Shared->Prop}(I2:Inv X a I m f)(T:Turn X.prog X.w X.K c.target J i it tn)(x6:tn 0 f.heap)(f2: ∀b∈i,rP X a m b)
  (M:Inv X a I (upd m f.heap.objs.size o) {f with heap:=f.heap.push l})
  (h:Hy o J g ti tb pre I m Q)
  (hRR: ∀(d:gm) (cl:kg) (s:gn) (t L:Hp) (σ':St) (s4:gn),Inv X a I t s->(∀b∈i,rP X a t b)->Inv (X.comp u scope cl s.heap.objs.size s t i a) [] σ' L s4->Q (.ref d) L->RR (.ref d) s.heap.objs.size (.ok .next) s4):
  wpAny (model X.prog X.w) X.A (newFunctionEnv scope X.env.globals U [] X.env.qual none .none (some X.env)) (λn y=>
   codeAny (model X.prog X.w) X.A (.compStart e 0 (.ref it) (.ref f.heap.objs.size) {n with scope:=relabel scope X.env}) (RR (.ref f.heap.objs.size) n.locals) y) E {f with heap:=f.heap.push l}:=by
 have P: ∀b∈i,b<f.heap.objs.size:=λb j=>by obtain⟨o,e,_⟩:=T.obj _ _ x6 b j;exact ja e
 have Y: ∀b∈i,rP X a (upd m f.heap.objs.size o) b:=λb j=>⟨by rw[hJ (iD (P b j))];exact(f2 b j).1,(f2 b j).2⟩
 refine Pe S.cell l8 j6 λh1 cl bu F B=>?_;have hk: ∀b o,(f.heap.push l).get? b=some o->h1.get? b=some o:=F;have O: ∀b∈i,b<(f.heap.push l).objs.size:=λb j=>by rw[qw];exact tj (P b j)
 have J0:=PH (t':=f.toks) S M B Y O bu hk;obtain⟨pg,aT,pb⟩:=r6 cl (f.heap.push l).objs.size {f with heap:=f.heap.push l} (upd m f.heap.objs.size o) i a;have v:tn 0 h1:=T.keep _ _ _ x6 λb j o e=>hk b o (iW _ e);have hw:=h f.heap.objs.size (I2.hok.fresh (iO _))
 have D: ∀b∈i,rP (X.comp u scope cl (f.heap.push l).objs.size {f with heap:=f.heap.push l} (upd m f.heap.objs.size o) i a) []
   (upd m f.heap.objs.size o) b:=λb j=>by
  obtain⟨z1,z2,z3,z4,z5,z6⟩:=Y b j;refine⟨z1,iD (O b j),λz=>(jr.mp (M.stkSub b z)).elim z2 z3,.inl j,λx c hx=>(B.ex x c hx).elim (z5 x c) λz=>pd (Cd (O b j) z),λp hp=>z6 p (by simpa[Cx.comp] using hp)⟩
 have R:(clausesOf e)[0]?=some c:=by rw[hg];rfl
 refine DN hl R ha ?_ (λQ' W hq=>T.self X.A 0 _ Q' W v hq)
 refine qY (HX (X:=X.comp u scope cl (f.heap.push l).objs.size {f with heap:=f.heap.push l} (upd m f.heap.objs.size o) i a)
  (depth:=0) (acc:= .ref f.heap.objs.size) rfl hc hl R ha (λH V=>k0 H (by rw[hg] at V;exact V)) T pg aT (pb _) J0 D v hw) λr s4 hr=>?_
 obtain⟨rfl,σ4,L,Z,_,q⟩:=hr;exact hRR _ _ _ _ _ _ _ M Y Z q
noncomputable def KZ(e:TI)(g:TG)(d:TT)(c:Addr->TB)(pre:St->St):TE:=λa H Q=>e a H λJ b=>V0 J g d c pre a b Q
def L7{b:gy}{c:nD}{hV:oi}{scope:jb}{e:Pos}{o:hW}{pre:St->St}{y:TI}{g:TG}{ti:TT}{tb:Addr->TB}
  (S:CompScope X o scope pre)(U:X.calm=true)(O:c.is_async=0)(k0: ∀t,hV[0]?=some t->t.is_async=0)
  (hs: ∀x,foldedSetIterable c.iter X.env x=pure x)(pi:PI X c.target c.iter y)
  (r6: ∀(cl:kg) (C:gm) (u:gn) (k:Hp) (r:jl) (a:gZ),let f:=X.comp o scope cl C u k r a
   PG f c.target g/\PIf f c.ifs ti/\ ∀d,PB f (il (.ListComp b (c::hV) scope e) 0 (.ref d) f.env) (tb d)):
  PE X (.ListComp b (c::hV) scope e) (KZ y g ti tb pre):=by
 intro a s z H Q I h;obtain⟨Z,p,j,G⟩:=c;obtain rfl:G=0:=O;obtain⟨cl,V,R,P⟩:=uI X.env scope λx K Y=>I.ok.has x.1 (S.free x K Y);rw[eval_ListComp];show wpAny _ X.A (comprehension _ scope X.env _ (newList []) false (eval p X.env)) _ _ s;refine FL (use:=none) (g:=⟨Z,p,j,0⟩) (gs:=hV) rfl hs V S.kind S.names (thn (pi a s z H _ I h) λv s1 h1=>thn h1 λcE W N=>?_);obtain⟨it,r,tn,J,H2,rfl,l,T,x6,f2,F⟩:=N;refine kW (wX (RR:=λi C=>compPost (model X.prog X.w) X.A X.xe none (EP X a z Q) i C) (.inl ⟨_,_,_,_,rfl⟩) rfl S U rfl k0 r6 R P l T x6 f2 (l.lnew (t':=W.toks) .nil (by simp)) F λd L u k B σ' s4 E M n q=>?_);obtain⟨m,D,_⟩:=id n.loc;exact⟨m,D,λh' u6=>⟨.ref d,B,zB E M n u6,rfl,q⟩⟩
def LL{f:gy}{c:nD}{hV:oi}{scope:jb}{j f7 k:Pos}{N':hW}{pre:St->St}{wi:TI}{g:TG}{ti:TT}{tb:Addr->TB}{y:Str}{i:Nat}
  (dc:swapsWith (.ListComp f (c::hV) scope j) (some (.Name y k)) f7.line X.env=pure true)
  (S:CompScope X N' scope pre)(hc:X.calm=true)(ha:c.is_async=0)(k0: ∀g',hV[0]?=some g'->g'.is_async=0)
  (hs: ∀x,foldedSetIterable c.iter X.env x=pure x)(pi:PI X c.target c.iter wi)(eN:PG X (.Name y k) (EC i))
  (r6: ∀(cl:kg) (C:gm) (l:gn) (H3:Hp) (fp:jl) (a:gZ),let u:=X.comp N' scope cl C l H3 fp a
   PG u c.target g/\PIf u c.ifs ti/\ ∀d,PB u (il (.ListComp f (c::hV) scope j) 0 (.ref d) u.env) (tb d)):
  PS X (.Assign [.Name y k] (.ListComp f (c::hV) scope j) f7) (Q0 (KZ wi g ti tb pre) (EC i)):=by
 intro a s E H D I h;obtain⟨W,M,t,az⟩:=c;obtain rfl:az=0:=ha;obtain⟨cl,n4,l8,j6⟩:=uI X.env scope λx Y hf=>I.ok.has x.1 (S.free x Y hf);rw[exec_Assign_Name_used _ _ _ _ dc];refine gk (wy (gk ?_));show wpAny _ X.A (do let _ <-comprehension (.ListComp f (⟨W,M,t,0⟩::hV) scope j) scope X.env _ (newList []) false (eval M X.env) (some (assign (.Name y k) X.env))) _ _ s
 refine gk (pe (FL (use:=some (assign (.Name y k) X.env)) (g:=⟨W,M,t,0⟩) (gs:=hV) (Q:=λ_ B=>SP X a D .next B) rfl hs n4 S.kind S.names
  (thn (pi a s E H _ I h) λv s1 h1=>thn h1 λcE s2 h2=>?_)) (λ_ B hq=>gw (gw hq)) λ_ _ e=>e)
 obtain⟨it,fp,tn,J,H2,rfl,P,T,x6,f2,hw⟩:=h2;refine kW (wX (RR:=λN C=>compPost (model X.prog X.w) X.A X.xe (some (assign (.Name y k) X.env)) (λ_ B=>SP X a D .next B) N C) (.inl ⟨_,_,_,_,rfl⟩) rfl S hc rfl k0 r6 l8 j6 P T x6 f2 (P.lnew (t':=s2.toks) .nil (by simp)) hw λd cl' l H3 G σ' K n ff L q=>?_);obtain⟨m,hn,_⟩:=id L.loc;obtain⟨F,es,ep,ho,hd,hr⟩:=id hn;have R:Inv X a E G K:=zB n ff L (Cc ..);have r:l.heap.objs.size≠X.env.locals:=pd n.lt;have O:l.heap.objs.size∉X.fs:=λz=>n.nofs (iO _) z
 have Z:Inv X (a++[(l.heap.objs.size,F)]) E G K:=R.pins_of λp U=>by
  rcases pK.mp U with z|z
  ·exact R.pin p (oZ _ z)
  ·rcases IL.mp z with rfl
   exact⟨ho,L.free,r,O,λv z=>by rw[hd] at z;cases z⟩
 show wpAny _ X.A (assign (.Name y k) X.env (.ref d)) _ _ _;refine thn (eN _ K E G (.ref d) (.ref d) _ Z rfl q) λ_ s5 ⟨σ5,H5,I5,q5⟩=>?_;have V:=I5.pin (l.heap.objs.size,F) (by simp);refine⟨m,⟨F,es,ep,V.1,hd,hr⟩,λh' u6=>⟨σ5,H5,?_,q5⟩⟩;refine I5.unpinned.turned (it:=l.heap.objs.size) (t':=s5.toks) (λb o hb e=>by rw[u6.2 b hb];exact e) V.2.1 r (.inr n.sz) (λx c Y z=>?_) (λp U z=>?_)
 ·obtain⟨v,o,e,_⟩:=n.cell x c Y;exact absurd (ja e) (by rw[z];exact ph _)
 ·obtain⟨e,_⟩:=n.pin p U;exact absurd (ja e) (by rw[z];exact ph _)
end
section
variable {κ:Type}[DecidableEq κ]
noncomputable def qI(a:List (κ×V))(k:κ):Option V:=(a.find? λb=>decide (b.1=k)).map (·.2)
noncomputable def qJ(a:List (κ×V))(k:κ)(v:V):List (κ×V):=
 if(a.any λb=>decide (b.1=k))=true then a.map (λb=>if b.1=k then(b.1,v) else b) else a++[(k,v)]
theorem rg{p:κ×V}{r:List (κ×V)}{k:κ}(e:p.1=k):qI (p::r) k=some p.2:=by simp[qI,wm,e]
theorem nN{p:κ×V}{r:List (κ×V)}{k:κ}(e: ¬p.1=k):qI (p::r) k=qI r k:=by simp[qI,wm,e]
theorem DH(k:κ): ∀a:List (κ×V),(a.any λb=>decide (b.1=k))=(qI a k).isSome
 |[]=>rfl
 |p::r=>by
  rw[qW];by_cases e:p.1=k
  ·simp only[rg e,nG e,Bool.true_or,Option.isSome_some]
  ·rw[nN e,lr e,Bool.false_or];exact DH k r
theorem xu(a:List (κ×V))(k:κ)(v:V):(qJ a k v).length<=a.length+1:=by
 unfold qJ;split
 ·rw[iJ];omega
 ·rw[lM,ju,oV];omega
theorem RelO.isSome_eq{o:Option V}{u:Option Value}(r:RelO o u):o.isSome=u.isSome:=by
 cases o with
 |none=>cases u with
  |none=>rfl
  |some _=>exact(show False from r).elim
 |some _=>cases u with
  |none=>exact(show False from r).elim
  |some _=>rfl
theorem KV.val{kvs:List (κ×V)}{d:List (κ×Value)}(r:KV kvs d)(k:κ):RelO (qI kvs k) (valueAt d k):=by
 unfold KV at r
 induction r with
 |nil=>exact True.intro
 | @cons p q i c h t g=>
  obtain⟨h1,f⟩:=h;by_cases e:p.1=k
  ·have a:q.1=k:=h1.symm.trans e;have b:valueAt (q::c) k=some q.2:=by simp[valueAt,wm,a]
   rw[rg e,b];exact f
  ·have a: ¬q.1=k:=λz=>e (h1.trans z);have b:valueAt (q::c) k=valueAt c k:=by simp[valueAt,wm,a]
   rw[nN e,b];exact g
theorem KV.any{a:List (κ×V)}{vs:List (κ×Value)}(r:KV a vs)(k:κ):(a.any λb=>decide (b.1=k))=vs.any λb=>decide (b.1=k):=by
 unfold KV at r
 induction r with
 |nil=>rfl
 |cons h t c=>rw[qW,qW,c,h.1]
theorem KV.repl{b:List (κ×V)}{c:List (κ×Value)}(r:KV b c)(k:κ){y:V}{u:gA}(g:RelV y u):
  KV (b.map λa=>if a.1=k then(a.1,y) else a) (c.map λa=>if a.1=k then(a.1,u) else a):=by
 unfold KV at r ⊢
 induction r with
 |nil=>exact .nil
 | @cons p q i j h t f=>
  rw[iu,iu];refine .cons ?_ f;obtain⟨h1,d⟩:=h;by_cases e:p.1=k
  ·rw[gD e,gD (h1.symm.trans e)];exact⟨h1,g⟩
  ·rw[gL e,gL (λz=>e (h1.trans z))];exact⟨h1,d⟩
theorem KV.put{a:List (κ×V)}{b:List (κ×Value)}(r:KV a b)(k:κ){y:V}{u:gA}(c:RelV y u):KV (qJ a k y) (stored b k u):=by
 unfold qJ stored;rw[r.any k];by_cases e:(b.any λd=>decide (d.1=k))=true
 ·rw[gD e,gD e];exact r.repl k c
 ·rw[gL e,gL e];exact Paired.snoc r ⟨rfl,c⟩
theorem KV.length{a:List (κ×V)}{b:List (κ×Value)}(r:KV a b):a.length=b.length:=Co r
end
def zm{P:gR}{w:gJ}{k:Key}{u:gA}(r:RelV (kV k) u):(jB P w).is k u=true:=by
 cases k with
 |inl i=>obtain⟨t,e⟩:=(show ∃t,u=Value.int i t from r);subst e;exact Ei P w i t
 |inr x=>obtain⟨t,e⟩:=(show ∃t,u=Value.str x t from r);subst e;exact Eh P w x t
theorem A5{P:gR}{w:gJ}: ∀{a:List Key} {b:iL},Vals (a.map kV) b->ItemsAre (jB P w) a b
 |[],_,r=>by rw[mR] at r;cases r;exact .nil
 |k::a,_,r=>by
  rw[iu] at r
  cases r with
  |cons h t=>exact .cons (zm h) (A5 t)
abbrev KT(H:Hp):List (List Key×V)->List (List Key×Addr×Value)->Prop:=Paired λp q=>p.1=q.1/\H q.2.1=some (.tup (p.1.map kV))/\RelV p.2 q.2.2
theorem KT.val{H:Hp}{kvs:List (List Key×V)}{d:List (List Key×Addr×Value)}(r:KT H kvs d)(k:List Key):RelO (qI kvs k) ((atKey d k).map (·.2)):=by
 induction r with
 |nil=>exact True.intro
 | @cons p q i c h t g=>
  obtain⟨h1,_,f⟩:=h;by_cases e:p.1=k
  ·have a:q.1=k:=h1.symm.trans e;have b:atKey (q::c) k=some q.2:=by simp[atKey,wm,a]
   rw[rg e,b];exact f
  ·have a: ¬q.1=k:=λz=>e (h1.trans z);have b:atKey (q::c) k=atKey c k:=by simp[atKey,wm,a]
   rw[nN e,b];exact g
def KT.repl{H:Hp}{a:List (List Key×V)}{d:List (List Key×Addr×Value)}(r:KT H a d)(k:List Key){y:V}{u:gA}(i:RelV y u):
  KT H (a.map λb=>if b.1=k then(b.1,y) else b) (d.map (putAt k u)):=by
 induction r with
 |nil=>exact .nil
 | @cons p q j l h t g=>
  rw[iu,iu];refine .cons ?_ g;obtain⟨h1,c,f⟩:=h;unfold putAt;by_cases e:p.1=k
  ·rw[gD e,gD (h1.symm.trans e)];exact⟨h1,c,i⟩
  ·rw[gL e,gL (λz=>e (h1.trans z))];exact⟨h1,c,f⟩
def KT.put{H:Hp}{a:List (List Key×V)}{c:List (List Key×Addr×Value)}(r:KT H a c)(k:List Key){b:gm}{y:V}{u:gA}(f:H b=some (.tup (k.map kV)))(d:RelV y u):
  KT H (qJ a k y) (storedH c k b u):=by
 have e:(a.any λg=>decide (g.1=k))=(atKey c k).isSome:=by
  rw[DH,(r.val k).isSome_eq,FK]
 unfold qJ storedH;rw[e];by_cases q:(atKey c k).isSome=true
 ·rw[gD q,gD q];exact r.repl k d
 ·rw[gL q,gL q];exact Paired.snoc r ⟨rfl,f,d⟩
def KT.keeps{H c:Hp}{a:List (List Key×V)}{d:List (List Key×Addr×Value)}(r:KT H a d)(f: ∀b e,H b=some (.tup e)->c b=some (.tup e)):KT c a d:=
 Paired.mapP r λ_ _ z=>⟨z.1,f _ _ z.2.1,z.2.2⟩
section
variable {P:gR}{w:gJ}{H:Hp}{h:gP}{a:gm}
def Qc{u:HO}(ok:HOk P w H h)(e:Rd H a u):ObjOk P w H h a u:=e.ok ok
def Iy{b:List (Key×V)}(ok:HOk P w H h)(e:Rd H a (.dK b)):b.length<=sizeLine/\(a==sysModules)=false/\ ∃c,KV b c/\h.DictOf (jB P w) a c:=
 show ObjOk P w H h a (.dK b) from Qc ok e
def Qv{b:List (Key×V)}(ok:HOk P w H h)(e:H a=some (.dK b)):b.length<=sizeLine/\(a==sysModules)=false/\ ∃c,KV b c/\h.DictOf (jB P w) a c:=Iy ok (.inl e)
def qe{c:List Key}(ok:HOk P w H h)(e:H a=some (.tup (c.map kV))):(tupleKind (jB P w)).is h c a:=by
 obtain⟨_,b,r,o,h1,d,n,f⟩:=(show ObjOk P w H h a (.tup (c.map kV)) from ok a _ e)
 exact⟨o,b.toArray,n,h1,d,f,by simpa using A5 r⟩
def Iw{b:List (List Key×V)}(ok:HOk P w H h)(e:Rd H a (.dT b)):b.length<=sizeLine/\(a==sysModules)=false/\
  ∃d,KT H b d/\h.DictOfH (tupleKind (jB P w)) a d:=by
 obtain⟨z,y,d,r,o,i,g,h1,j,k,n,s⟩:=(show ObjOk P w H h a (.dT b) from Qc ok e)
 refine⟨z,y,d,r,o,i,g,h1,j,k,n,λx c=>?_,s⟩
 have all: ∀{l:List (List Key×V)} {m:List (List Key×Addr×Value)},KT H l m-> ∀x∈m,(tupleKind (jB P w)).is h x.1 x.2.1:=by
  intro l m q
  induction q with
  |nil=>intro x c;exact nomatch c
  | @cons p q v A f t u=>
   intro x c;rcases jr.mp c with e|c
   ·subst e;exact qe ok (by rw[<-f.1];exact f.2.1)
   ·exact u x c
 exact all r x c
def Vn{b:List (List Key×V)}(ok:HOk P w H h)(e:H a=some (.dT b)):b.length<=sizeLine/\(a==sysModules)=false/\
  ∃c,KT H b c/\h.DictOfH (tupleKind (jB P w)) a c:=Iw ok (.inl e)
end
def DGet(H:Hp)(a:gm)(y:V)(r:Option V):Prop:=
 (∃c k,Rd H a (.dK c)/\y=kV k/\r=qI c k)\/ ∃c k b,Rd H a (.dT c)/\y= .ref b/\H b=some (.tup (k.map kV))/\r=qI c k
def DPut(H:Hp)(a:gm)(y v:V)(c:Hp):Prop:=
 (∃kvs k,H a=some (.dK kvs)/\y=kV k/\kvs.length<sizeLine/\c=upd H a (.dK (qJ kvs k v)))\/
 ∃kvs k b,H a=some (.dT kvs)/\y= .ref b/\H b=some (.tup (k.map kV))/\kvs.length<sizeLine/\c=upd H a (.dT (qJ kvs k v))
theorem DGet.k{H:Hp}{a:gm}{kvs:List (Key×V)}{k:Key}(e:H a=some (.dK kvs)):DGet H a (kV k) (qI kvs k):= .inl ⟨kvs,k,.inl e,rfl,rfl⟩
theorem DGet.t{H:Hp}{a b:gm}{kvs:List (List Key×V)}{k:List Key}(e:H a=some (.dT kvs))(c:H b=some (.tup (k.map kV))):DGet H a (.ref b) (qI kvs k):= .inr ⟨kvs,k,b,.inl e,rfl,c,rfl⟩
theorem DPut.k{H:Hp}{a:gm}{kvs:List (Key×V)}{k:Key}{v:V}(e:H a=some (.dK kvs))(b:kvs.length<sizeLine):DPut H a (kV k) v (upd H a (.dK (qJ kvs k v))):= .inl ⟨kvs,k,e,rfl,b,rfl⟩
theorem DPut.t{H:Hp}{a b:gm}{kvs:List (List Key×V)}{k:List Key}{v:V}(e:H a=some (.dT kvs))(c:H b=some (.tup (k.map kV)))(d:kvs.length<sizeLine):
  DPut H a (.ref b) v (upd H a (.dT (qJ kvs k v))):= .inr ⟨kvs,k,b,e,rfl,c,d,rfl⟩
section
variable {X:Cx}{d:gZ}{f:St}{H:Hp}{s:gn}{a:gm}{y v:V}{u r:gA}{o:Option V}{A:gM}{E:hC}
def Inv.big(I:Inv X d f H s):sysModules<s.heap.objs.size:=by
 have h:mainGlobals<s.heap.objs.size:=(I.mod.glob.keeps I.bk).lt;exact Cd (by decide) h
def Bh{Q:hC}(J:A.units+1<cLine)(I:Inv X d f H s)(g:DGet H a y (some v))(t:RelV y u)(h: ∀i x,Inv X d f H x->RelV v i->Q i x):
  wpAny (model X.prog X.w) A (getItem (.ref a) u) Q E s:=by
 rcases g with⟨n,k,e,j,l⟩|⟨n,k,b,e,j,C,l⟩
 ·subst j;obtain⟨z,hd,L,c,dd⟩:=Iy I.hok e;obtain⟨i,m,q⟩:=RelO.some_of (v:=v) (o:=valueAt L k) (by rw[l];exact c.val k);exact wpAny_getItem_of (zm t) dd.mapOf m (h i _ (I.tok _) q)
 ·subst j;cases(show u=Value.ref b from t);obtain⟨z,hd,M,c,dd⟩:=Iw I.hok e;obtain⟨i,m,q⟩:=RelO.some_of (v:=v) (o:=(atKey M k).map (·.2)) (by rw[l];exact c.val k);obtain⟨p,G,B⟩:=Option.map_eq_some_iff.mp m;refine wpAny_getItem_heap (wk J) (qe I.hok C) dd G ?_;rw[B];exact h i _ (I.tok _) q
def Vp{Q:hC}(t:A.units+1<cLine)(I:Inv X d f H s)(g:DGet H a y o)(m:RelV y u)(h: ∀n,Inv X d f H n->Q (.bool o.isSome) n):
  wpAny (model X.prog X.w) A (compareOp .In u (.ref a)) Q E s:=by
 rcases g with⟨j,k,e,i,l⟩|⟨j,k,b,e,i,p,l⟩
 ·subst i;obtain⟨z,hd,x,c,dd⟩:=Iy I.hok e;refine wpAny_in_of (zm m) hd dd.mapOf ?_;rw[<-(c.val k).isSome_eq,<-l];exact h _ (I.tok _)
 ·subst i;cases(show u=Value.ref b from m);obtain⟨z,hd,B,c,dd⟩:=Iw I.hok e;refine wpAny_in_heap (wk t) (qe I.hok p) hd dd ?_;have q:=(c.val k).isSome_eq;rw[FK] at q;rw[<-q,<-l];exact h _ (I.tok _)
def Iz{Q:hC}(t:A.units+1<cLine)(I:Inv X d f H s)(g:DGet H a y o)(m:RelV y u)(h: ∀n,Inv X d f H n->Q (.bool (!o.isSome)) n):
  wpAny (model X.prog X.w) A (compareOp .NotIn u (.ref a)) Q E s:=by
 rcases g with⟨j,k,e,i,l⟩|⟨j,k,b,e,i,p,l⟩
 ·subst i;obtain⟨z,hd,x,c,dd⟩:=Iy I.hok e;refine wpAny_notIn_of (zm m) hd dd.mapOf ?_;rw[<-(c.val k).isSome_eq,<-l];exact h _ (I.tok _)
 ·subst i;cases(show u=Value.ref b from m);obtain⟨z,hd,B,c,dd⟩:=Iw I.hok e;refine wpAny_notIn_heap (wk t) (qe I.hok p) hd dd ?_;have q:=(c.val k).isSome_eq;rw[FK] at q;rw[<-q,<-l];exact h _ (I.tok _)
def yd{h':gP}{t':Nat}{c:HO}(I:Inv X d f H s)(j:Mut (H a))(i:Heap.SameBut a s.heap h')(h: ∃q,h'.get? a=some q)(new:ObjOk X.prog X.w (upd H a c) h' a c):
  Inv X d f (upd H a c) {s with heap:=h',toks:=t'}:=
 I.write (x:=a) (e:=a) j (.inl rfl) (λb q g z=>(i.2 b g).trans z) h new
def Tj{P:gR}{w:gJ}{h:Hp}{g:gP}{b:List (Key×V)}{e:List (Key×Value)}(z:b.length<=sizeLine)(hd:(a==sysModules)=false)(c:KV b e)(dd:g.DictOf (jB P w) a e):
  ObjOk P w h g a (.dK b):=⟨z,hd,e,c,dd⟩
def wW{G:Hp}{Q:Unit->Shared->Prop}(hu:A.units+1<cLine)(I:Inv X d f H s)(g:DPut H a y v G)(O:RelV y u)(N:RelV v r)(h: ∀T,Inv X d f G T->Q () T):
  wpAny (model X.prog X.w) A (setItem (.ref a) u r) Q E s:=by
 rcases g with⟨i,k,e,t,l,p⟩|⟨i,k,b,e,t,J,l,p⟩
 ·subst t p;obtain⟨z,hd,S,j,dd⟩:=Qv I.hok e;have C:S.length<=sizeLine:=by rw[<-j.length];exact z
  have x:(qJ i k v).length<=sizeLine:=by have:=xu i k v;omega
  refine wpAny_setItem_pairs (hsz:=C) (zm O) dd λM m B=>h _ ?_;have R: ∃q,M.get? a=some q:=let⟨q,_,_,n,_⟩:=m;⟨q,n⟩
  exact yd I (by rw[e];exact True.intro) B R (Tj x hd (j.put k N) m)
 ·subst t p;cases(show u=Value.ref b from O);obtain⟨z,hd,V,j,dd⟩:=Vn I.hok e;have C:V.length<=sizeLine:=by rw[<-Co j];exact z
  have x:(qJ i k v).length<=sizeLine:=by have:=xu i k v;omega
  refine wpAny_setItem_heap (hsz:=C) (wk hu) (qe I.hok J) dd λM m B=>h _ ?_;obtain⟨q,Y,U,n,D,F,K,_,P⟩:=m;refine yd I (by rw[e];exact True.intro) B ⟨q,n⟩ ⟨x,hd,_,(j.put k J N).keeps λc W L=>?_,q,Y,U,n,D,F,K,P⟩;rw[hJ (Qk L e (λz=>nomatch z))];exact L
end
def Nd{P:gR}{w:gJ}{H:Hp}(h:gP)(a:sysModules<h.objs.size):ObjOk P w H (h.push {cls:= .type "dict",data:= .dict #[]}) h.objs.size (.dK []):=
 ⟨kb _,xH.mpr (qA (iD a)),[],.nil,Heap.DictOf.new h⟩
noncomputable def QZ:TE:=λ_ H Q=> ∀p,H p=none->Q (.ref p) (upd H p (.dK []))
section
variable {X:Cx}{b:Pos}
def L9:PE X (.Dict [] [] b) QZ:=λc s d H Q I h=>
 wpAny_Dict_empty ⟨.ref s.heap.objs.size,_,I.laid (a:=s.heap.objs.size) (o:= .dK []) (t':=s.toks) (λ_ _ q=>iW _ q) (iO _) (Nd s.heap I.big),rfl,h _ (I.hok.fresh (iO _))⟩
end
end L2
namespace PX
open PySem PySem.Spec PyProof.Rows L2
inductive OK where
 |dct|set|fn(i:Nat)|exc(c:Nat)
 deriving DecidableEq
inductive D where
 |non|bl(b:Bool)|int(i:Int)|str(x:Str)|tup(l:List D)|lst(l:List D)|oth(k:OK)(ks vs:List D)
mutual
/-- the hash of ints and of tuples of such -/
noncomputable def D.hash:D->Int
 | .int i=>hashInt i
 | .tup l=>reduceHash (Builtin.Tuple.tupleHashOf (D.hashL l))
 |_=>0
noncomputable def D.hashL:List D->List Int
 |[]=>[]
 |d::l=>D.hash d::D.hashL l
end
noncomputable def iX:Key->D
 | .inl i=> .int i
 | .inr x=> .str x
def WW(K:gK)(o:Obj)(C:Nat):Prop:=o.cls= .ref C/\(∀a:Addr,PySem.W.KitX K (.ref a) (.ref C) λh=>h.get? a=some o)/\ ∀n∈["int","bool","str","tuple","list","dict"],PySem.W.kitOne K (.ref C) (.type n)=some false
def OthB(K:gK)(h:Option HO)(k:OK)(a c:List D)(b:List V):Prop:=
 match k with
 | .dct=>(∃kvs:List (Key×V),h=some (.dK kvs)/\a=kvs.map (λp=>iX p.1)/\b=kvs.map (·.2))\/
   (∃kvs:List (List Key×V),h=some (.dT kvs)/\a=kvs.map (λp=> .tup (p.1.map iX))/\b=kvs.map (·.2))
 | .set=>a=[]/\ ∃d:List (Int×V),h=some (.stt d)/\d.Perm ((D.hashL c).zip b)
 | .exc C=>(a=[]/\c=[]/\b=[])/\ ∃o,h=some (.frz o (.own 0))/\WW K o C
 |_=>False
def OthB.ex{K h k a b us}(x:OthB K h k a b us): ∃o,h=some o:=by
 cases k with
 |dct=>rcases x with⟨_,e,_⟩|⟨_,e,_⟩<;>exact⟨_,e⟩
 |set=>obtain⟨_,_,e,_⟩:=x;exact⟨_,e⟩
 |exc C=>obtain⟨_,_,e,_⟩:=x;exact⟨_,e⟩
 |_=>exact x.elim
def OthB.keep{K k a b us}(x:OthB K h k a b us)(c: ∀o,h=some o->h'=some o):OthB K h' k a b us:=by
 obtain⟨o,e⟩:=x.ex;rw[c o e,<-e];exact x
abbrev AP':=Addr->Prop
def KT(K:gK)(a:gm)(xs:List V):Prop:= ∃(o:Obj) (b:lU) (n:Nat),K.lookup a=some o/\o.cls= .type "tuple"/\o.data= .seq b n/\b.size<=sizeLine/\Vals xs b.toList
def KL(K:gK)(a:gm)(c:List V):Prop:= ∃(o:Obj) (b:lU) (n:Nat),K.lookup a=some o/\o.cls= .type "list"/\o.dict=none/\o.data= .seq b n/\b.size<=sizeLine/\Vals c b.toList
def SqTO(K:gK)(H:Hp)(O:AP')(a:gm)(b:List V):Prop:=H a=some (.tup b)/\ ¬O a
def SqLO(K:gK)(H:Hp)(O:AP')(a:gm)(b:List V):Prop:=(Rd H a (.lst b)/\ ¬O a)\/KL K a b
theorem SqTO.sq{K H O a xs}(h:SqTO K H O a xs):SqT K H a xs:= .inl (.inl h.1)
theorem SqLO.sq{K H O a xs}(h:SqLO K H O a xs):SqL K H a xs:=h.elim (λz=> .inl z.1) .inr
def Rd.mono{a u}(h:Rd H a u)(k: ∀o,H a=some o->b a=some o):Rd b a u:=by
 rcases h with h|⟨o,h⟩
 ·exact .inl (k _ h)
 ·exact .inr ⟨o,k _ h⟩
def SqTO.mono{K H c}{a xs}(h:SqTO K H O a xs)(k: ∀b o,H b=some o-> ¬O b->c b=some o)(e: ∀b,H b≠none->d b->O b):SqTO K c d a xs:=
 ⟨k a _ h.1 h.2,λz=>h.2 (e a (by rw[h.1];simp) z)⟩
def SqLO.mono{K H c}{a xs}(h:SqLO K H O a xs)(k: ∀b o,H b=some o-> ¬O b->c b=some o)(f: ∀b,H b≠none->d b->O b):SqLO K c d a xs:=by
 rcases h with⟨r,n⟩|h
 ·refine .inl ⟨Rd.mono r λo e=>k a o e n,λz=>n (f a ?_ z)⟩;rcases r with r|⟨_,r⟩<;>(rw[r];simp)
 ·exact .inr h
mutual
/-- v is the datum,in H;nothing of it stands at an address of O -/
def Rep(K:gK)(H:Hp)(O:AP'):D->V->Prop
 | .non,v=>v= .non
 | .bl b,v=>v= .bl b
 | .int i,v=>v= .int i
 | .str x,v=>v= .str x
 | .tup l,v=> ∃a xs,v= .ref a/\SqTO K H O a xs/\RepL K H O l xs
 | .lst l,v=> ∃a xs,v= .ref a/\SqLO K H O a xs/\RepL K H O l xs
 | .oth k e d,v=> ∃a c,v= .ref a/\(¬O a/\OthB K (H a) k e d c)/\RepL K H O d c
def RepL(K:gK)(H:Hp)(O:AP'):List D->List V->Prop
 |[],a=>a=[]
 |d::l,a=> ∃v r,a=v::r/\Rep K H O d v/\RepL K H O l r
end
mutual
theorem Rep.mono{K H g}{O i:AP'}(k: ∀b o,H b=some o-> ¬O b->g b=some o)(c: ∀b,H b≠none->i b->O b): ∀{d:D} {v:V},Rep K H O d v->Rep K g i d v
 | .non,_,h=>h
 | .bl _,_,h=>h
 | .int _,_,h=>h
 | .str _,_,h=>h
 | .tup l,_,h=>by
  rw[Rep] at h ⊢;obtain⟨a,f,e,s,r⟩:=h;exact⟨a,f,e,s.mono k c,RepL.mono k c r⟩
 | .lst l,_,h=>by
  rw[Rep] at h ⊢;obtain⟨a,f,e,s,r⟩:=h;exact⟨a,f,e,s.mono k c,RepL.mono k c r⟩
 | .oth m n p,_,h=>by
  rw[Rep] at h ⊢;obtain⟨a,j,e,s,r⟩:=h;exact⟨a,j,e,⟨λz=>s.1 (c a (by obtain⟨o,q⟩:=s.2.ex;rw[q];simp) z),s.2.keep λo q=>k a o q s.1⟩,RepL.mono k c r⟩
theorem RepL.mono{K H a}{O c:AP'}(k: ∀b o,H b=some o-> ¬O b->a b=some o)(f: ∀b,H b≠none->c b->O b): ∀{l:List D} {g:List V},RepL K H O l g->RepL K a c l g
 |[],_,h=>h
 |d::l,_,h=>by
  rw[RepL] at h ⊢;obtain⟨v,r,e,h1,i⟩:=h;exact⟨v,r,e,Rep.mono k f h1,RepL.mono k f i⟩
end
def Rep.mkInt{K H O i}:Rep K H O (.int i) (.int i):=by rw[Rep]
def Rep.mkBl{K H O i}:Rep K H O (.bl i) (.bl i):=by rw[Rep]
def Rep.mkNon{K H O}:Rep K H O .non .non:=by rw[Rep]
def Rep.mkStr{K H O i}:Rep K H O (.str i) (.str i):=by rw[Rep]
theorem Rep.int{K H O i v}(h:Rep K H O (.int i) v):v= .int i:=by rwa [Rep] at h
theorem Rep.bl{K H O i v}(h:Rep K H O (.bl i) v):v= .bl i:=by rwa [Rep] at h
def Rep.non{K H O v}(h:Rep K H O .non v):v= .non:=by rwa [Rep] at h
theorem Rep.str{K H O i v}(h:Rep K H O (.str i) v):v= .str i:=by rwa [Rep] at h
theorem Rep.tup{K H O l v}(h:Rep K H O (.tup l) v): ∃a xs,v= .ref a/\SqTO K H O a xs/\RepL K H O l xs:=by rwa [Rep] at h
theorem Rep.lst{K H O l v}(h:Rep K H O (.lst l) v): ∃a xs,v= .ref a/\SqLO K H O a xs/\RepL K H O l xs:=by rwa [Rep] at h
def Rep.oth{K H O k ks vs v}(h:Rep K H O (.oth k ks vs) v): ∃a b,v= .ref a/\(¬O a/\OthB K (H a) k ks vs b)/\RepL K H O vs b:=by rwa [Rep] at h
def Rep.mkOth{K H O k c b a us}(n: ¬O a)(h:OthB K (H a) k c b us)(r:RepL K H O b us):Rep K H O (.oth k c b) (.ref a):=by rw[Rep];exact⟨a,us,rfl,⟨n,h⟩,r⟩
def Rep.mkTup{K H O l a xs}(h:SqTO K H O a xs)(r:RepL K H O l xs):Rep K H O (.tup l) (.ref a):=by rw[Rep];exact⟨a,xs,rfl,h,r⟩
def Rep.mkLst{K H O l a xs}(h:SqLO K H O a xs)(r:RepL K H O l xs):Rep K H O (.lst l) (.ref a):=by rw[Rep];exact⟨a,xs,rfl,h,r⟩
theorem RepL.length{K H O}: ∀{l:List D} {a:List V},RepL K H O l a->a.length=l.length
 |[],a,h=>by rw[RepL] at h;rw[h];rfl
 |d::l,a,h=>by
  rw[RepL] at h;obtain⟨v,r,rfl,_,b⟩:=h;simp[RepL.length b]
theorem RepL.get{K H O}: ∀{l:List D} {a:List V} {i:Nat} {d:D},RepL K H O l a->l[i]?=some d-> ∃v,a[i]?=some v/\Rep K H O d v
 |[],_,_,_,_,e=>by simp at e
 |d::l,a,0,b,h,e=>by
  rw[RepL] at h;obtain⟨v,r,rfl,h1,_⟩:=h;simp at e;subst e;exact⟨v,rfl,h1⟩
 |d::l,a,i+1,b,h,e=>by
  rw[RepL] at h;obtain⟨v,r,rfl,_,c⟩:=h;obtain⟨w,f,g⟩:=RepL.get (i:=i) c (by simpa using e);exact⟨w,by simpa using f,g⟩
theorem RepL.append{K H O}: ∀{l m:List D} {a c:List V},RepL K H O l a->RepL K H O m c->RepL K H O (l++m) (a++c)
 |[],_,a,_,h,b=>by rw[RepL] at h;subst h;exact b
 |d::l,_,a,_,h,b=>by
  rw[RepL] at h;obtain⟨v,r,rfl,h1,e⟩:=h;show RepL K H O (d::(l++_)) _;rw[RepL];exact⟨v,_,rfl,h1,RepL.append e b⟩
def RepL.one{K H O}{d:D}{v:V}(h:Rep K H O d v):RepL K H O [d] [v]:=by
 rw[RepL];exact⟨v,[],rfl,h,by rw[RepL]⟩
theorem RepL.nil{K H O}:RepL K H O [] []:=by rw[RepL]
theorem RepL.cons{K H O}{l a}(h:Rep K H O d v)(h':RepL K H O l a):RepL K H O (d::l) (v::a):=by
 rw[RepL];exact⟨v,a,rfl,h,h'⟩
theorem RepL.take{K H O}: ∀{l:List D} {a:List V} (n:Nat),RepL K H O l a->RepL K H O (l.take n) (a.take n)
 |_,_,0,_=>by simp[RepL]
 |[],a,n+1,h=>by rw[RepL] at h;subst h;simp[RepL]
 |d::l,a,n+1,h=>by
  rw[RepL] at h;obtain⟨v,r,rfl,h1,b⟩:=h;exact RepL.cons h1 (RepL.take n b)
theorem RepL.drop{K H O}: ∀{l:List D} {a:List V} (n:Nat),RepL K H O l a->RepL K H O (l.drop n) (a.drop n)
 |_,_,0,h=>h
 |[],a,n+1,h=>by rw[RepL] at h;subst h;simp[RepL]
 |d::l,a,n+1,h=>by
  rw[RepL] at h;obtain⟨v,r,rfl,h1,b⟩:=h;exact RepL.drop n b
theorem RepL.set{K H O}{d:D}{v:V}(hv:Rep K H O d v): ∀{l:List D} {a:List V} (i:Nat),RepL K H O l a->RepL K H O (l.set i d) (a.set i v)
 |[],a,i,h=>by rw[RepL] at h;subst h;simp[RepL]
 |e::l,a,0,h=>by
  rw[RepL] at h;obtain⟨w,r,rfl,h1,b⟩:=h;exact RepL.cons hv b
 |e::l,a,i+1,h=>by
  rw[RepL] at h;obtain⟨w,r,rfl,h1,b⟩:=h;exact RepL.cons h1 (RepL.set hv i b)
abbrev Sl:=Option (D×Bool)
abbrev Dn:=List Sl
def OwnA(b:L2.St)(δ:Dn)(a:gm):Prop:= ∃(i:Nat) (d:D),δ[i]?=some (some (d,true))/\b[i]?=some (some (V.ref a))
def OwnOk(K:gK)(H:Hp)(O:AP'):D->Addr->Prop
 | .lst l,a=> ∃d,H a=some (.lst d)/\RepL K H O l d
 | .oth k e c,a=> ∃b,OthB K (H a) k e c b/\RepL K H O c b
 |_,_=>False
def OwnOk.mono{K H c}(h:OwnOk K H O d a)(k: ∀b o,H b=some o-> ¬O b->c b=some o)(f: ∀b,H b≠none->i b->O b)(g: ∀o,H a=some o->c a=some o):OwnOk K c i d a:=by
 cases d with
 |lst l=>obtain⟨m,e,r⟩:=h;exact⟨m,g _ e,RepL.mono k f r⟩
 |oth n p q=>obtain⟨j,e,r⟩:=h;exact⟨j,e.keep g,RepL.mono k f r⟩
 |_=>exact h
def OwnOk.rep{K H}(h:OwnOk K H O d a)(g: ¬c a)(f: ∀b,H b≠none->c b->O b):Rep K H c d (.ref a):=by
 cases d with
 |lst l=>
  obtain⟨i,e,r⟩:=h;rw[Rep];exact⟨a,i,rfl,.inl ⟨.inl e,g⟩,RepL.mono (λb o e _=>e) f r⟩
 |oth j k n=>
  obtain⟨m,e,r⟩:=h;exact Rep.mkOth g e (RepL.mono (λb o e _=>e) f r)
 |_=>exact h.elim
def Ow:Option HO->Prop
 |none=>False
 |some (.tup _)=>False
 |_=>True
theorem Ow.ne{o:Option HO}(h:Ow o):o≠none:=λe=>by rw[e] at h;exact h
theorem Ow.up{o a:Option HO}(h:Ow o)(k: ∀x,o=some x->a=some x):Ow a:=by
 cases o with
 |none=>exact h.elim
 |some x=>rw[k x rfl];exact h
def nOw{o:Option HO}(h:o=none): ¬Ow o:=λz=>z.ne h
theorem OwnOk.ow{K H}{O:AP'}{d:D}{a:gm}(h:OwnOk K H O d a):Ow (H a):=by
 cases d with
 |lst l=>obtain⟨g,e,_⟩:=h;rw[e];trivial
 |oth k b f=>
  obtain⟨c,e,_⟩:=h
  cases k with
  |dct=>rcases e with⟨_,e,_⟩|⟨_,e,_⟩<;>(rw[e];trivial)
  |set=>obtain⟨_,_,e,_⟩:=e;rw[e];trivial
  |exc C=>obtain⟨_,_,e,_⟩:=e;rw[e];trivial
  |_=>exact e.elim
 |_=>exact h.elim
structure ER(K:gK)(H:Hp)(T:AP')(σ:L2.St)(δ:Dn):Prop where
 len:σ.length=δ.length
 val: ∀(i:Nat) (d:D),δ[i]?=some (some (d,false))-> ∃v,σ[i]?=some (some v)/\Rep K H (λa=>OwnA σ δ a\/T a) d v
 own: ∀(i:Nat) (d:D),δ[i]?=some (some (d,true))-> ∃a,σ[i]?=some (some (V.ref a))/\OwnOk K H (λa=>OwnA σ δ a\/T a) d a
 inj: ∀(i j:Nat) (d e:D) (a:gm),δ[i]?=some (some (d,true))->δ[j]?=some (some (e,true))->σ[i]?=some (some (V.ref a))->σ[j]?=some (some (V.ref a))->i=j
 nT: ∀a,OwnA σ δ a-> ¬T a
 dom: ∀a,T a->Ow (H a)
def ER.ownOw{K H T σ e}(E:ER K H T σ e)(h:OwnA σ e a):Ow (H a):=by
 obtain⟨i,d,h1,f⟩:=h;obtain⟨b,c,g⟩:=E.own i d h1;rw[f] at c;cases c;exact g.ow
def ER.ownDom{K H T σ δ}(E:ER K H T σ δ)(h:OwnA σ δ a):H a≠none:=(E.ownOw h).ne
def ER.mono{K H c σ δ}(E:ER K H T σ δ)(k: ∀b o,H b=some o-> ¬T b->c b=some o)(g: ∀b,H b≠none->T' b->T b)(hd: ∀a,T' a->Ow (c a)):ER K c T' σ δ where
 len:=E.len
 val:=λi d h=>by
  obtain⟨v,h1,f⟩:=E.val i d h;exact⟨v,h1,Rep.mono (λb o e n=>k b o e λz=>n (.inr z)) (λb j z=>z.elim .inl λz=> .inr (g b j z)) f⟩
 own:=λi d h=>by
  obtain⟨a,h1,f⟩:=E.own i d h;exact⟨a,h1,f.mono (λb o e n=>k b o e λz=>n (.inr z)) (λb j z=>z.elim .inl λz=> .inr (g b j z)) λo e=>k a o e (E.nT a ⟨i,d,h,h1⟩)⟩
 inj:=E.inj
 nT:=λa h z=>E.nT a h (g a (E.ownDom h) z)
 dom:=hd
def OwnA.set(h:OwnA σ (δ.set i (some (d,false))) a):OwnA σ δ a:=by
 obtain⟨j,e,h1,b⟩:=h;rw[Cb] at h1;split at h1
 ·split at h1<;>simp at h1
 ·exact⟨j,e,h1,b⟩
def ER.freeze{K H T σ m}(E:ER K H T σ m){i:Nat}{d:D}{b:Bool}(h:m[i]?=some (some (d,b))):ER K H T σ (m.set i (some (d,false)))/\ ∃v,σ[i]?=some (some v)/\Rep K H (λa=>OwnA σ (m.set i (some (d,false))) a\/T a) d v:=by
 have o:i<m.length:=(uQ.mp h).1
 have p: ∃v,σ[i]?=some (some v)/\Rep K H (λa=>OwnA σ (m.set i (some (d,false))) a\/T a) d v:=by
  cases b with
  |false=>
   obtain⟨v,h1,l⟩:=E.val i d h;exact⟨v,h1,Rep.mono (λ_ _ e _=>e) (λb _ z=>z.elim (λz=> .inl z.set) .inr) l⟩
  |true=>
   obtain⟨a,h1,l⟩:=E.own i d h;refine⟨.ref a,h1,l.rep (λz=>?_) λb _ z=>z.elim (λz=> .inl z.set) .inr⟩;rcases z with⟨j,e,n,q⟩|z
   ·rw[Cb] at n;split at n
    ·first
      |(split at n<;>simp at n)
      |simp at n
    ·rename_i r;exact r (E.inj i j d e a h n h1 q)
   ·exact E.nT a ⟨i,d,h,h1⟩ z
 refine⟨⟨by rw[uM];exact E.len,λj e c=>?_,λj e c=>?_,λj k e f a c hk h1 l=>?_,λa z=>E.nT a z.set,E.dom⟩,p⟩
 ·by_cases g:i=j
  ·subst g;rw[uO o] at c;cases c;exact p
  ·rw[tE g] at c;obtain⟨v,h1,l⟩:=E.val j e c;exact⟨v,h1,Rep.mono (λ_ _ e _=>e) (λb _ z=>z.elim (λz=> .inl z.set) .inr) l⟩
 ·by_cases g:i=j
  ·subst g;rw[uO o] at c;cases c
  ·rw[tE g] at c;obtain⟨a,h1,l⟩:=E.own j e c;exact⟨a,h1,l.mono (λ_ _ e _=>e) (λb _ z=>z.elim (λz=> .inl z.set) .inr) λ_ e=>e⟩
 ·have g1:m[j]?=some (some (e,true)):=by
   by_cases g:i=j
   ·subst g;rw[uO o] at c;cases c
   ·rwa [tE g] at c
  have g2:m[k]?=some (some (f,true)):=by
   by_cases g:i=k
   ·subst g;rw[uO o] at hk;cases hk
   ·rwa [tE g] at hk
  exact E.inj j k e f a g1 g2 h1 l
def OwnI(b:L2.St)(δ:Dn)(i:Nat)(a:gm):Prop:= ∃d:D,δ[i]?=some (some (d,true))/\b[i]?=some (some (V.ref a))
structure Keep(σ:L2.St)(δ:Dn)(H:Hp)(δ':Dn)(H':Hp):Prop where
 kp: ∀a o,H a=some o-> ¬OwnA σ δ a->H' a=some o
 owi: ∀i a,OwnI σ δ' i a->OwnI σ δ i a
 dm: ∀a,H a≠none->H' a≠none
theorem Keep.ow{σ c H b f}(k:Keep σ c H b f)(a:gm)(h:OwnA σ b a):OwnA σ c a:=by
 obtain⟨i,d,h1,g⟩:=h;obtain⟨e,j,l⟩:=k.owi i a ⟨d,h1,g⟩;exact⟨i,e,j,l⟩
def Keep.refl{σ a H}:Keep σ a H a H:=⟨λ_ _ e _=>e,λ_ _ z=>z,λ_ z=>z⟩
theorem Keep.trans{σ δ δ1 δ2 H H1 b}(x:Keep σ δ H δ1 H1)(y:Keep σ δ1 H1 δ2 b):Keep σ δ H δ2 b:=
 ⟨λa o e n=>y.kp a o (x.kp a o e n) λz=>n (x.ow a z),λi a z=>x.owi i a (y.owi i a z),λa z=>y.dm a (x.dm a z)⟩
def Keep.ext{σ b H H1}(k: ∀a o,H a=some o->H1 a=some o):Keep σ b H b H1:=⟨λa o e _=>k a o e,λ_ _ z=>z,λa z=>by
 cases h:H a with
 |none=>exact absurd h z
 |some o=>rw[k a o h];simp⟩
def OwnI.set(h:OwnI σ (δ.set i (some (d,false))) j a):OwnI σ δ j a:=by
 obtain⟨e,h1,b⟩:=h;rw[Cb] at h1;split at h1
 ·split at h1<;>simp at h1
 ·exact⟨e,h1,b⟩
def Keep.set{σ δ H i d}:Keep σ δ H (δ.set i (some (d,false))) H:=⟨λ_ _ e _=>e,λ_ _ z=>z.set,λ_ z=>z⟩
def Post(K:gK)(T:AP')(e:L2.St)(f:Dn)(H:Hp)(r:D×Bool)(b:Dn)(v:V)(c:Hp):Prop:=
 Keep e f H b c/\
 match r with
 |(d,false)=>ER K c T e b/\Rep K c (λa=>OwnA e b a\/T a) d v
 |(d,true)=> ∃p,v= .ref p/\H p=none/\ER K c (λa=>T a\/a=p) e b/\OwnOk K c (λa=>OwnA e b a\/T a\/a=p) d p
abbrev F:=Dn->Option ((D×Bool)×Dn)
def tF(K:gK)(f:F):TE:=λd H Q=> ∃b T r a,ER K H T d b/\f b=some (r,a)/\ ∀v c,Post K T d b H r a v c->Q v c
def PX(X:Cx)(e:gy)(f:F):Prop:=PE X e (tF X.K f)
noncomputable def Tmp(T:AP')(r:D×Bool)(v:V):AP':=λa=>T a\/(r.2=true/\v= .ref a)
section
variable {K:gK}{T:AP'}{c:L2.St}{δ δ1 δ2:Dn}{H f g:Hp}{x y:D×Bool}{v u:V}
theorem Post.er(E:ER K H T c δ)(P:Post K T c δ H x δ1 v f):ER K f (Tmp T x v) c δ1:=by
 obtain⟨d,b⟩:=x
 cases b with
 |false=>
  refine P.2.1.mono (λ_ _ e _=>e) (λb _ z=>z.elim id λz=>absurd z.1 (by simp)) (λa z=>?_);rcases z with z|z
  ·exact P.2.1.dom a z
  ·exact absurd z.1 (by simp)
 |true=>
  obtain⟨p,rfl,i,h,j⟩:=P.2;refine h.mono (λ_ _ e _=>e) (λb _ z=>z.elim .inl λz=> .inr (by have:=z.2;cases this;rfl)) (λa z=>?_);rcases z with z|z
  ·exact h.dom a (.inl z)
  ·have:=z.2;cases this;exact h.dom _ (.inr rfl)
def Post.rep(E:ER K H T c δ)(P:Post K T c δ H x δ1 v f):ER K f T c δ1/\Rep K f (λa=>OwnA c δ1 a\/T a) x.1 v:=by
 obtain⟨d,b⟩:=x
 cases b with
 |false=>exact P.2
 |true=>
  obtain⟨p,rfl,i,h,j⟩:=P.2;refine⟨h.mono (λ_ _ e _=>e) (λb _ z=> .inl z) (λa z=>h.dom a (.inl z)),j.rep (λz=>?_) λb _ z=>z.elim .inl λz=> .inr (.inl z)⟩;rcases z with z|z
  ·exact h.nT p z (.inr rfl)
  ·exact(E.dom p z).ne i
theorem Post.val(k:Keep c δ H δ2 g)(E:ER K g T c δ2)(r:Rep K g (λa=>OwnA c δ2 a\/T a) d w):Post K T c δ H (d,false) δ2 w g:=⟨k,E,r⟩
end
def gO{e f:Type}{a c:e}{b d:f}(h:some (a,b)=some (c,d)):a=c/\b=d:=by cases h;exact⟨rfl,rfl⟩
noncomputable def fC(d:D):F:=λδ=>some ((d,false),δ)
noncomputable def hU(i:Nat):F:=λδ=>match δ[i]? with
 |some (some (d,_))=>some ((d,false),δ.set i (some (d,false)))
 |_=>none
section
variable {X:Cx}{a b c:gy}{g:Pos}{n m l:F}
def PX.imp(h:PE X e t)(k: ∀i H Q,tF X.K f i H Q->t i H Q):PX X e f:=λd s i H Q I j=>h d s i H Q I (k i H Q j)
def RH{i j}:PX X (.Constant (.int i) j g) (fC (.int i)):=PX.imp Sb λo H Q h=>by
 obtain⟨f,T,r,d,E,e,k⟩:=h;cases e;exact k _ _ (Post.val .refl E (by first|exact Rep.mkInt|exact Rep.mkBl|exact Rep.mkNon|exact Rep.mkStr))
def UE{i j}:PX X (.Constant (.bool i) j g) (fC (.bl i)):=PX.imp UL λo H Q h=>by
 obtain⟨f,T,r,d,E,e,k⟩:=h;cases e;exact k _ _ (Post.val .refl E (by first|exact Rep.mkInt|exact Rep.mkBl|exact Rep.mkNon|exact Rep.mkStr))
def RB{j}:PX X (.Constant .none j g) (fC .non):=PX.imp R9 λi H Q h=>by
 obtain⟨f,T,r,d,E,e,k⟩:=h;cases e;exact k _ _ (Post.val .refl E (by first|exact Rep.mkInt|exact Rep.mkBl|exact Rep.mkNon|exact Rep.mkStr))
def Rv{i j}:PX X (.Constant (.str i) j g) (fC (.str i)):=PX.imp R6 λo H Q h=>by
 obtain⟨f,T,r,d,E,e,k⟩:=h;cases e;exact k _ _ (Post.val .refl E (by first|exact Rep.mkInt|exact Rep.mkBl|exact Rep.mkNon|exact Rep.mkStr))
def Rt{i:Nat}{x:Str}(s:X.N[i]?=some x)(hv:Vis X.env.scope x)(hd:(x==("__debug__":Str))=false)(t:(x==("__classdict__":Str))=false):PX X (.Name x g) (hU i):=PX.imp (GC s hv hd t) λy H Q h=>by
 obtain⟨u,T,r,w,E,e,k⟩:=h;unfold hU at e
 cases f:u[i]? with
 |none=>rw[f] at e;cases e
 |some o=>
  cases o with
  |none=>rw[f] at e;cases e
  |some p=>
   obtain⟨d,b⟩:=p;rw[f] at e;cases e;obtain⟨j,v,h1,q⟩:=E.freeze f;exact⟨v,h1,k v H (Post.val .set j q)⟩
end
inductive Opd where
 |val(r:D×Bool)|slot(i:Nat)
noncomputable def res(δ:Dn):Opd->Option D
 | .val r=>some r.1
 | .slot i=>match δ[i]? with
  |some (some (d,_))=>some d
  |_=>none
def iV(K:gK)(H:Hp)(O:AP')(d:D)(v:V):Prop:=Rep K H O d v\/ ∃a,v= .ref a/\OwnOk K H O d a
abbrev FO:=Dn->Option (Opd×Dn)
def PostO(K:gK)(T:AP')(b:L2.St)(d:Dn)(H:Hp)(o:Opd)(a:Dn)(v:V)(c:Hp):Prop:=
 match o with
 | .val r=>Post K T b d H r a v c
 | .slot i=>Keep b d H a c/\ER K c T b a/\b[i]?=some (some v)
noncomputable def zS(T:AP')(o:Opd)(v:V):AP':=match o with
 | .val r=>Tmp T r v
 | .slot _=>T
def tO(K:gK)(f:FO):TE:=λd H Q=> ∃b T o a,ER K H T d b/\f b=some (o,a)/\ ∀v c,PostO K T d b H o a v c->Q v c
def PO(X:Cx)(e:gy)(f:FO):Prop:=PE X e (tO X.K f)
noncomputable def gi(f:F):FO:=λδ=>(f δ).bind λp=>some (.val p.1,p.2)
noncomputable def gh(i:Nat):FO:=λδ=>match δ[i]? with
 |some (some _)=>some (.slot i,δ)
 |_=>none
def PE.imp'(h:PE X e t)(k: ∀b H Q,d b H Q->t b H Q):PE X e d:=λa s b H Q I c=>h a s b H Q I (k b H Q c)
section
variable {X:Cx}{a:Pos}
def PX.po(h:PX X e f):PO X e (gi f):=PE.imp' h λj H Q g=>by
 obtain⟨c,T,o,i,E,e,k⟩:=g;unfold gi at e
 cases h1:f c with
 |none=>rw[h1] at e;cases e
 |some p=>
  obtain⟨r,b⟩:=p;rw[h1] at e;obtain⟨rfl,rfl⟩:=gO e;exact⟨c,T,r,b,E,h1,λv d P=>k v d P⟩
def RZ{i:Nat}{x:Str}(f:X.N[i]?=some x)(hv:Vis X.env.scope x)(hd:(x==("__debug__":Str))=false)(g:(x==("__classdict__":Str))=false):PO X (.Name x a) (gh i):=PE.imp' (GC f hv hd g) λr H Q h=>by
 obtain⟨j,T,o,l,E,e,k⟩:=h;unfold gh at e
 cases c:j[i]? with
 |none=>rw[c] at e;cases e
 |some q=>
  cases q with
  |none=>rw[c] at e;cases e
  |some p=>
   obtain⟨d,b⟩:=p;rw[c] at e;obtain⟨rfl,rfl⟩:=gO e;obtain⟨m,v,h1,n⟩:=E.freeze c;exact⟨v,h1,k v H ⟨.refl,E,h1⟩⟩
end
structure Ops(K:gK)(T:AP')(σ:L2.St)(δ:Dn)(H:Hp)(os:List Opd)(vs:List V)(δ':Dn)(H':Hp)(T':AP'):Prop where
 len:os.length=vs.length
 keep:Keep σ δ H δ' H'
 er:ER K H' T' σ δ'
 tt: ∀a,T a->T' a
 val: ∀(j:Nat) (d:D) (v:V),os[j]?=some (.val (d,false))->vs[j]?=some v->Rep K H' (λa=>OwnA σ δ' a\/T a) d v
 tmp: ∀(j:Nat) (d:D) (v:V),os[j]?=some (.val (d,true))->vs[j]?=some v-> ∃p,v= .ref p/\T' p/\H p=none/\OwnOk K H' (λa=>OwnA σ δ' a\/T a) d p
 slt: ∀(j i:Nat) (v:V),os[j]?=some (.slot i)->vs[j]?=some v->σ[i]?=some (some v)
section
variable {K:gK}{T T':AP'}{b:L2.St}{δ a c:Dn}{H H' f:Hp}{os:List Opd}{e:List V}{o:Opd}{v:V}
theorem Ops.nil(E:ER K H T b δ):Ops K T b δ H [] [] δ H T:=⟨rfl,.refl,E,λ_ z=>z,λj d v h=>by simp at h,λj d v h=>by simp at h,λj i v h=>by simp at h⟩
def PostO.keep(P:PostO K T b δ H o a v H'):Keep b δ H a H':=by
 cases o with
 |val r=>exact P.1
 |slot i=>exact P.1
theorem PostO.er(E:ER K H T b δ)(P:PostO K T b δ H o a v H'):ER K H' (zS T o v) b a:=by
 cases o with
 |val r=>exact Post.er E P
 |slot i=>exact P.2.1
end
def Gen(K:gK)(H:Hp)(O:AP')(z:D×Bool)(Q:VK):Prop:=
 match z with
 |(d,false)=> ∀w b,(∀a o,H a=some o->b a=some o)->Rep K b O d w->Q w b
 |(d,true)=> ∀p b,H p=none->(∀a o,H a=some o->b a=some o)->OwnOk K b (λa=>O a\/a=p) d p->Q (.ref p) b
section
variable {K:gK}{T s:AP'}{f:L2.St}{δ δ1 c δ2:Dn}{H t H' h:Hp}{os:List Opd}{m:List V}{o:Opd}{v:V}{z:D×Bool}{Q:VK}
theorem Ops.cons(E:ER K H T f δ)(P:PostO K T f δ H o δ1 v t)(B:Ops K (zS T o v) f δ1 t os m δ2 h s):Ops K T f δ H (o::os) (v::m) δ2 h s:=by
 have C:=P.er E;have y:=B.keep.kp;have A:=B.keep.ow
 have u: ∀a,T a->zS T o v a:=λa z=>by
  cases o with
  |val r=>exact .inl z
  |slot i=>exact z
 refine⟨by simp[B.len],P.keep.trans B.keep,B.er,λa z=>B.tt a (u a z),λj d w h1 g=>?_,λj d w h1 g=>?_,λj i w h1 g=>?_⟩
 ·cases j with
  |zero=>
   simp at h1 g;subst h1;subst g;have q:Post K T f δ H (d,false) δ1 v t:=P;exact Rep.mono (λb k e n=>y b k e λz=>n (.inl z)) (λb _ z=>z.elim (λz=>Or.inl (A b z)) Or.inr) (q.rep E).2
  |succ j=>exact Rep.mono (λ_ _ e _=>e) (λb _ z=>z.elim Or.inl λz=>Or.inr (u b z)) (B.val j d w (by simpa using h1) (by simpa using g))
 ·cases j with
  |zero=>
   simp at h1 g;subst h1;subst g;have q:Post K T f δ H (d,true) δ1 v t:=P;obtain⟨p,rfl,x,I,ok⟩:=q.2;have l:zS T (.val (d,true)) (V.ref p) p:= .inr ⟨rfl,rfl⟩;refine⟨p,rfl,B.tt p l,x,ok.mono (λb k e n=>y b k e λz=>n (.inl z)) (λb _ z=>z.elim (λz=>Or.inl (A b z)) λz=>Or.inr (Or.inl z)) λk e=>y p k e λz=>C.nT p z l⟩
  |succ j=>
   obtain⟨p,rfl,l,x,ok⟩:=B.tmp j d w (by simpa using h1) (by simpa using g);refine⟨p,rfl,l,?_,ok.mono (λ_ _ e _=>e) (λb _ z=>z.elim Or.inl λz=>Or.inr (u b z)) λ_ e=>e⟩
   cases G:H p with
   |none=>rfl
   |some k=>exact absurd x (P.keep.dm p (by rw[G];simp))
 ·cases j with
  |zero=>
   simp at h1 g;subst h1;subst g;exact P.2.2
  |succ j=>exact B.slt j i w (by simpa using h1) (by simpa using g)
def Ops.view(B:Ops K T f δ H os m c H' s){j:Nat}{d:D}(h1:os[j]?=some o)(n:m[j]?=some v)(g:res c o=some d):iV K H' (λa=>OwnA f c a\/T a) d v:=by
 cases o with
 |val r=>
  obtain⟨e,b⟩:=r;have hd:e=d:=jw g;subst hd
  cases b with
  |false=>exact .inl (B.val j e v h1 n)
  |true=>
   obtain⟨p,rfl,_,_,ok⟩:=B.tmp j e v h1 n;exact .inr ⟨p,rfl,ok⟩
 |slot i=>
  have x:=B.slt j i v h1 n;unfold res at g;dsimp only at g
  cases l:c[i]? with
  |none=>rw[l] at g;cases g
  |some q=>
   cases q with
   |none=>rw[l] at g;cases g
   |some p=>
    obtain⟨e,b⟩:=p;rw[l] at g;have hd:e=d:=jw g;subst hd
    cases b with
    |false=>
     obtain⟨w,k,u⟩:=B.er.val i e l;rw[x] at k;cases k;exact .inl (Rep.mono (λ_ _ e _=>e) (λb _ z=>z.elim Or.inl λz=>Or.inr (B.tt b z)) u)
    |true=>
     obtain⟨a,k,u⟩:=B.er.own i e l;rw[x] at k;cases k;exact .inr ⟨a,rfl,u.mono (λ_ _ e _=>e) (λb _ z=>z.elim Or.inl λz=>Or.inr (B.tt b z)) λ_ e=>e⟩
def Ops.done(B:Ops K T f δ H os m c H' s)(k: ∀v h,Post K T f δ H z c v h->Q v h):Gen K H' (λa=>OwnA f c a\/T a) z Q:=by
 obtain⟨d,b⟩:=z;have i: ∀{h:Hp},(∀a o,H' a=some o->h a=some o)-> ∀a,T a->Ow (h a):=λ{h} g a z=>(B.er.dom a (B.tt a z)).up (g a)
 cases b with
 |false=>
  intro w h g r;exact k w h ⟨B.keep.trans (.ext g),B.er.mono (λb o e _=>g b o e) (λb _ z=>B.tt b z) (i g),r⟩
 |true=>
  intro p h l g ok
  have j:H p=none:=by
   cases n:H p with
   |none=>rfl
   |some u=>exact absurd l (B.keep.dm p (by rw[n];simp))
  refine k (.ref p) h ⟨B.keep.trans (.ext g),p,rfl,j,B.er.mono (λb o e _=>g b o e) (λb q z=>z.elim (B.tt b) λz=>absurd (z▸l) q) (λa z=>?_),ok.mono (λ_ _ e _=>e) (λb _ z=>?_) λ_ e=>e⟩
  ·rcases z with z|z
   ·exact i g a z
   ·subst z;exact ok.ow
  ·rcases z with z|z|z
   ·exact Or.inl (Or.inl z)
   ·exact Or.inl (Or.inr z)
   ·exact Or.inr z
theorem Gen.int(g:Gen K H O (.int i,false) Q):Q (.int i) H:=g _ H (λ_ _ e=>e) Rep.mkInt
theorem Gen.bl(g:Gen K H O (.bl i,false) Q):Q (.bl i) H:=g _ H (λ_ _ e=>e) Rep.mkBl
def jY{H:Hp}{p:gm}{o:HO}(b:H p=none): ∀a u,H a=some u->upd H p o a=some u:=λa u e=>by rw[hJ (by intro z;subst z;rw[e] at b;cases b)];exact e
theorem Gen.lst{O:AP'}{l:List D}{xs:List V}{p:gm}(g:Gen K H O (.lst l,true) Q)(a:H p=none)(r:RepL K H O l xs):Q (.ref p) (upd H p (.lst xs)):=
 g p _ a (jY a) ⟨xs,hG,RepL.mono (λb o e _=>jY a b o e) (λb d z=>z.elim id λz=>absurd (z▸a) d) r⟩
theorem Gen.tup(g:Gen K H O (.tup l,false) Q)(a:H p=none)(np: ¬O p)(r:RepL K H O l xs):Q (.ref p) (upd H p (.tup xs)):=
 g _ _ (jY a) (Rep.mkTup ⟨hG,np⟩ (RepL.mono (λb o e _=>jY a b o e) (λb d z=>z) r))
def Ops.np(B:Ops K T f δ H os m c H' s)(a: ¬Ow (H' p)): ¬(OwnA f c p\/T p):=λz=>a (z.elim (λz=>B.er.ownOw z) λz=>B.er.dom p (B.tt p z))
end
noncomputable def jk(g:D->Option (D×Bool))(a:FO):F:=λδ=>(a δ).bind λp=>(res p.2 p.1).bind λx=>(g x).bind λz=>some (z,p.2)
noncomputable def gr(g:D->D->Option (D×Bool))(a fb:FO):F:=λδ=>(a δ).bind λp=>(fb p.2).bind λq=>(res q.2 p.1).bind λx=>(res q.2 q.1).bind λy=>(g x y).bind λz=>some (z,q.2)
noncomputable def jj:List FO->Dn->Option (List Opd×Dn)
 |[],δ=>some ([],δ)
 |f::fs,δ=>(f δ).bind λp=>(jj fs p.2).bind λq=>some (p.1::q.1,q.2)
noncomputable def sO(a:Dn):List Opd->Option (List D)
 |[]=>some []
 |o::os=>(res a o).bind λd=>(sO a os).bind λl=>some (d::l)
noncomputable def gC(g:List D->Option (D×Bool))(fs:List FO):F:=λδ=>(jj fs δ).bind λp=>(sO p.2 p.1).bind λds=>(g ds).bind λz=>some (z,p.2)
def tA(K:gK)(fs:List FO):TA:=λe H Q=> ∃b T os a,ER K H T e b/\jj fs b=some (os,a)/\ ∀d c f,Ops K T e b H os d a c f->Q d c
section
variable {X:Cx}{e a b:gy}{m:jm}{i n:FO}{fs:List FO}{c:Pos}
def gg{d g:Type}{x:Option d}{f:d->Option g}{b:g}(h:x.bind f=some b): ∃a,x=some a/\f a=some b:=by
 cases x with
 |none=>cases h
 |some a=>exact⟨a,rfl,h⟩
def WU(K:gK)(r:V->Hp->VK->Prop)(g:D->Option (D×Bool)):Prop:=
 ∀x z v H (O:AP') (Q:VK),(∀p,¬Ow (H p)-> ¬O p)->iV K H O x v->g x=some z->Gen K H O z Q->r v H Q
def Tw(K:gK)(r:R2)(g:D->D->Option (D×Bool)):Prop:=
 ∀x y z v u H (O:AP') (Q:VK),(∀p,¬Ow (H p)-> ¬O p)->iV K H O x v->iV K H O y u->g x y=some z->Gen K H O z Q->r v u H Q
def WT(K:gK)(r:List V->Hp->VK->Prop)(g:List D->Option (D×Bool)):Prop:=
 ∀ds z f H (O:AP') (Q:VK),(∀p,¬Ow (H p)-> ¬O p)->ds.length=f.length->(∀(j:Nat) d v,ds[j]?=some d->f[j]?=some v->iV K H O d v)->g ds=some z->Gen K H O z Q->r f H Q
def Rz{r:V->Hp->VK->Prop}{g:D->Option (D×Bool)}(h:PE X e (tUn r (tO X.K i)))(u:WU X.K r g):PX X e (jk g i):=PX.imp h λG H Q w=>by
 obtain⟨y,T,C,A,E,e,k⟩:=w;obtain⟨⟨o,d⟩,h1,e⟩:=gg e;obtain⟨x,q,e⟩:=gg e;obtain⟨z,s,e⟩:=gg e;obtain⟨rfl,rfl⟩:=gO e;refine⟨y,T,o,d,E,h1,λv l f=>?_⟩;have B:=Ops.cons E f (Ops.nil (f.er E));exact u x z v l _ Q (λp t=>B.np t) (B.view (j:=0) rfl rfl q) s (B.done k)
def Ry{r:R2}{g:D->D->Option (D×Bool)}(h:PE X e (tOp r (tO X.K i) (tO X.K n)))(I:Tw X.K r g):PX X e (gr g i n):=PX.imp h λY H Q J=>by
 obtain⟨M,T,U,N,E,e,k⟩:=J;obtain⟨⟨o,d⟩,h1,e⟩:=gg e;obtain⟨⟨L,l⟩,t,e⟩:=gg e;obtain⟨x,w,e⟩:=gg e;obtain⟨y,A,e⟩:=gg e;obtain⟨z,C,e⟩:=gg e;obtain⟨rfl,rfl⟩:=gO e;refine⟨M,T,o,d,E,h1,λv O f=>⟨d,zS T o v,L,l,f.er E,t,λu s q=>?_⟩⟩;have B:=Ops.cons E f (Ops.cons (f.er E) q (Ops.nil (q.er (f.er E))));exact I x y z v u s _ Q (λp G=>B.np G) (B.view (j:=0) rfl rfl w) (B.view (j:=1) rfl rfl A) C (B.done k)
def CM:PA X [] (tA X.K []):=λc d s g H Q I h=>by
 obtain⟨j,T,os,f,E,e,k⟩:=h;obtain⟨rfl,rfl⟩:=gO e;exact pY c d s g H Q I (k [] H T (Ops.nil E))
def vf(t:PO X e i)(u:PA X m (tA X.K fs))(w:starEach (e::m) X.env=(false,eval e X.env)::starEach m X.env):PA X (e::m) (tA X.K (i::fs)):=λc d s z H Q I h=>by
 obtain⟨x,T,os,y,E,e,k⟩:=h;unfold jj at e;obtain⟨⟨o,f⟩,h1,e⟩:=gg e;obtain⟨⟨g,j⟩,r,e⟩:=gg e;obtain⟨rfl,rfl⟩:=gO e;exact lI t u w c d s z H Q I ⟨x,T,o,f,E,h1,λv A l=>⟨f,zS T o v,g,j,l.er E,r,λC p q B=>k _ p q (Ops.cons E l B)⟩⟩
theorem mG{k:Dn}: ∀{os:List Opd} {f:List D},sO k os=some f->f.length=os.length/\ ∀(j:Nat) d,f[j]?=some d-> ∃o,os[j]?=some o/\res k o=some d
 |[],f,h=>by cases h;exact⟨rfl,λj d h=>by simp at h⟩
 |o::os,f,h=>by
  unfold sO at h;obtain⟨d,h1,h⟩:=gg h;obtain⟨l,p,h⟩:=gg h;cases h;obtain⟨q,r⟩:=mG p;refine⟨by simp[q],λj e g=>?_⟩
  cases j with
  |zero=>simp at g;subst g;exact⟨o,rfl,h1⟩
  |succ j=>
   obtain⟨s,t,u⟩:=r j e (by simpa using g);exact⟨s,by simpa using t,u⟩
def Ol{r:List V->Hp->VK->Prop}{g:List D->Option (D×Bool)}(h:PE X e (tCB r (tA X.K fs)))(C:WT X.K r g):PX X e (gC g fs):=PX.imp h λO H Q G=>by
 obtain⟨J,T,N,L,E,e,k⟩:=G;obtain⟨⟨os,l⟩,h1,e⟩:=gg e;obtain⟨s,t,e⟩:=gg e;obtain⟨z,u,e⟩:=gg e;obtain⟨rfl,rfl⟩:=gO e;obtain⟨w,x⟩:=mG t;refine⟨J,T,os,l,E,h1,λI q M B=>?_⟩;refine C s z I q _ Q (λp A=>B.np A) (w.trans B.len) (λj d v hd hv=>?_) u (B.done k);obtain⟨o,y,f⟩:=x j d hd;exact B.view y hv f
end
open PySem.SeqAt
mutual
/-- ==of data -/
noncomputable def D.eqb:D->D->Bool
 | .non,.non=>true
 | .bl a,.bl b=>a==b
 | .bl a,.int b=>(if a then 1 else 0)==b
 | .int a,.bl b=>a==(if b then 1 else 0)
 | .int a,.int b=>a==b
 | .str a,.str b=>a==b
 | .tup l,.tup m=>D.eqbL l m
 | .lst l,.lst m=>D.eqbL l m
 | .oth _ _ _,.oth _ _ _=>true
 |_,_=>false
noncomputable def D.eqbL:List D->List D->Bool
 |[],[]=>true
 |a::l,b::m=>D.eqb a b&&D.eqbL l m
 |_,_=>false
end
mutual
noncomputable def D.dep:D->Nat
 | .tup l=>D.depL l+1
 | .lst l=>D.depL l+1
 | .oth _ _ _=>20000
 |_=>0
noncomputable def D.depL:List D->Nat
 |[]=>0
 |d::l=>max (D.dep d) (D.depL l)
end
mutual
theorem D.eqb_refl: ∀d:D,D.eqb d d=true
 | .non=>rfl
 | .bl a=>by simp[D.eqb]
 | .int a=>by simp[D.eqb]
 | .str a=>by simp[D.eqb]
 | .tup l=>by rw[D.eqb];exact D.eqbL_refl l
 | .lst l=>by rw[D.eqb];exact D.eqbL_refl l
 | .oth _ _ _=>by rw[D.eqb]
theorem D.eqbL_refl: ∀l:List D,D.eqbL l l=true
 |[]=>rfl
 |d::l=>by rw[D.eqbL,D.eqb_refl d,D.eqbL_refl l];rfl
end
theorem D.dep_mem{d:D}: ∀{l:List D} {j:Nat},l[j]?=some d->d.dep<=D.depL l
 |[],j,h=>by simp at h
 |e::l,0,h=>by simp at h;subst h;rw[D.depL];exact Nat.le_max_left _ _
 |e::l,j+1,h=>by rw[D.depL];exact ku (D.dep_mem (by simpa using h)) (Nat.le_max_right _ _)
noncomputable def rM(l m:List D)(j:Nat):Bool:=match l[j]?,m[j]? with
 |some d,some e=>D.eqb d e
 |_,_=>true
theorem mq: ∀l m:List D,((List.range (min l.length m.length)).all (rM l m)&&l.length==m.length)=D.eqbL l m
 |[],[]=>rfl
 |[],e::m=>by simp[D.eqbL]
 |d::l,[]=>by simp[D.eqbL]
 |d::l,e::m=>by
  rw[D.eqbL,<-mq l m];simp only[ju,Nat.succ_min_succ,List.range_succ_eq_map,uq,List.all_map,yq];have a:rM (d::l) (e::m) 0=D.eqb d e:=rfl;have h1:(λx=>rM (d::l) (e::m) (Nat.succ x))=rM l m:=by funext x;simp[rM]
  rw[a];simp only[h1,Bool.and_assoc]
  congr 2
  simp
section
variable {X:Cx}{pins:gZ}{σ:L2.St}{H:Hp}{s:gn}
def jM(h:iV X.K H O (.tup l) v): ∃a xs,v= .ref a/\SqT X.K H a xs/\RepL X.K H O l xs:=by
 rcases h with h|⟨a,rfl,h⟩
 ·obtain⟨a,xs,e,q,r⟩:=h.tup;exact⟨a,xs,e,q.sq,r⟩
 ·exact h.elim
def jz(h:iV X.K H O (.lst l) v): ∃a xs,v= .ref a/\SqL X.K H a xs/\RepL X.K H O l xs:=by
 rcases h with h|⟨a,rfl,h⟩
 ·obtain⟨a,xs,e,q,r⟩:=h.lst;exact⟨a,xs,e,q.sq,r⟩
 ·obtain⟨xs,e,r⟩:=h;exact⟨a,xs,rfl,.inl (.inl e),r⟩
def RepL.views{O:AP'}{l:List D}{xs:List V}(r:RepL X.K H O l xs){j:Nat}{d:D}{v:V}(h1:l[j]?=some d)(b:xs[j]?=some v):Rep X.K H O d v:=by
 obtain⟨w,a,c⟩:=r.get h1;rw[b] at a;cases a;exact c
def Mf(I:Inv X pins σ H s)(h:OthB X.K (H a) k l i us): ∃o,s.heap.get? a=some o/\(o.cls= .type "dict"\/o.cls= .type "set"\/ ∃C,o.cls= .ref C):=by
 cases k with
 |dct=>
  rcases h with⟨b,e,_⟩|⟨b,e,_⟩
  ·obtain⟨_,_,i,_,o,d,g,h1,c,_⟩:=(show ObjOk X.prog X.w H s.heap a (.dK b) from I.hok a _ e)
   exact⟨o,h1,.inl c.1⟩
  ·obtain⟨_,_,m,_,o,d,g,h1,c,_⟩:=(show ObjOk X.prog X.w H s.heap a (.dT b) from I.hok a _ e)
   exact⟨o,h1,.inl c.1⟩
 |set=>
  obtain⟨_,j,e,_⟩:=h;obtain⟨d,n,t,h1,_⟩:=(show ObjOk X.prog X.w H s.heap a (.stt j) from I.hok a _ e)
  exact⟨_,h1,.inr (.inl rfl)⟩
 |exc C=>
  obtain⟨_,o,e,h1,_⟩:=h;obtain⟨f,_⟩:=(show ObjOk X.prog X.w H s.heap a (.frz o (.own 0)) from I.hok a _ e)
  exact⟨o,f,.inr (.inr ⟨C,h1⟩)⟩
 |_=>exact h.elim
def DO(I:Inv X pins σ H s)(h1:SqT X.K H a xs)(f:SqL X.K H a k):False:=by
 obtain⟨g,_,⟨o,e,c,_⟩,_⟩:=I.tuple h1;obtain⟨h,_,⟨j,i,d,b,_⟩,_⟩:=I.list f;rw[e] at d;cases d;rw[c] at b;exact absurd b (by simp)
def OV(I:Inv X pins σ H s)(h1:SqT X.K H a xs)(f:OthB X.K (H a) k h j us):False:=by
 obtain⟨g,_,⟨o,e,c,_⟩,_⟩:=I.tuple h1;obtain⟨i,d,b⟩:=Mf I f;rw[e] at d;cases d;rw[c] at b;rcases b with b|b|⟨C,b⟩<;>exact absurd b (by simp)
def OW(I:Inv X pins σ H s)(h1:SqL X.K H a xs)(f:OthB X.K (H a) k h j us):False:=by
 obtain⟨g,_,⟨o,n,e,c,_⟩,_⟩:=I.list h1;obtain⟨i,d,b⟩:=Mf I f;rw[e] at d;cases d;rw[c] at b;rcases b with b|b|⟨C,b⟩<;>exact absurd b (by simp)
mutual
theorem Rep.inj(I:Inv X pins σ H s): ∀{d e:D} {v:V},d.dep<20000->Rep X.K H O d v->Rep X.K H u e v->d=e
 | .non,e,v,i,h,c=>by
  have:=h.non;subst this
  cases e with
  |non=>rfl
  |bl b=>have:=c.bl;cases this
  |int b=>have:=c.int;cases this
  |str b=>have:=c.str;cases this
  |tup m=>obtain⟨a,f,z,_⟩:=c.tup;cases z
  |lst m=>obtain⟨a,f,z,_⟩:=c.lst;cases z
  |oth m n o=>obtain⟨a,f,z,_⟩:=c.oth;cases z
 | .bl b,e,v,i,h,c=>by
  have:=h.bl;subst this
  cases e with
  |non=>have:=c.non;cases this
  |bl b=>have:=c.bl;cases this;rfl
  |int b=>have:=c.int;cases this
  |str b=>have:=c.str;cases this
  |tup m=>obtain⟨a,f,z,_⟩:=c.tup;cases z
  |lst m=>obtain⟨a,f,z,_⟩:=c.lst;cases z
  |oth m n o=>obtain⟨a,f,z,_⟩:=c.oth;cases z
 | .int b,e,v,i,h,c=>by
  have:=h.int;subst this
  cases e with
  |non=>have:=c.non;cases this
  |bl b=>have:=c.bl;cases this
  |int b=>have:=c.int;cases this;rfl
  |str b=>have:=c.str;cases this
  |tup m=>obtain⟨a,f,z,_⟩:=c.tup;cases z
  |lst m=>obtain⟨a,f,z,_⟩:=c.lst;cases z
  |oth m n o=>obtain⟨a,f,z,_⟩:=c.oth;cases z
 | .str b,e,v,i,h,c=>by
  have:=h.str;subst this
  cases e with
  |non=>have:=c.non;cases this
  |bl b=>have:=c.bl;cases this
  |int b=>have:=c.int;cases this
  |str b=>have:=c.str;cases this;rfl
  |tup m=>obtain⟨a,f,z,_⟩:=c.tup;cases z
  |lst m=>obtain⟨a,f,z,_⟩:=c.lst;cases z
  |oth m n o=>obtain⟨a,f,z,_⟩:=c.oth;cases z
 | .tup l,e,v,i,h,c=>by
  rw[D.dep] at i;obtain⟨a,f,rfl,q,r⟩:=h.tup
  cases e with
  |non=>have:=c.non;cases this
  |bl b=>have:=c.bl;cases this
  |int b=>have:=c.int;cases this
  |str b=>have:=c.str;cases this
  |tup m=>
   obtain⟨k,p,z,g,j⟩:=c.tup;cases z;have:=I.tuple_inj q.sq g.sq;subst this;rw[RepL.inj I (by omega) r j]
  |lst m=>
   obtain⟨k,p,z,g,j⟩:=c.lst;cases z;exact(DO I q.sq g.sq).elim
  |oth m n o=>
   obtain⟨k,t,z,g,j⟩:=c.oth;cases z;exact(OV I q.sq g.2).elim
 | .lst l,e,v,i,h,c=>by
  rw[D.dep] at i;obtain⟨a,f,rfl,q,r⟩:=h.lst
  cases e with
  |non=>have:=c.non;cases this
  |bl b=>have:=c.bl;cases this
  |int b=>have:=c.int;cases this
  |str b=>have:=c.str;cases this
  |tup m=>
   obtain⟨k,p,z,g,j⟩:=c.tup;cases z;exact(DO I g.sq q.sq).elim
  |lst m=>
   obtain⟨k,p,z,g,j⟩:=c.lst;cases z;have:=I.list_inj q.sq g.sq;subst this;rw[RepL.inj I (by omega) r j]
  |oth m n o=>
   obtain⟨k,t,z,g,j⟩:=c.oth;cases z;exact(OW I q.sq g.2).elim
 | .oth _ _ _,e,v,i,h,c=>by rw[D.dep] at i;omega
theorem RepL.inj(I:Inv X pins σ H s){O c:AP'}: ∀{l m:List D} {b:List V},D.depL l<20000->RepL X.K H O l b->RepL X.K H c m b->l=m
 |[],m,b,_,h,a=>by
  rw[RepL] at h;subst h
  cases m with
  |nil=>rfl
  |cons e m=>rw[RepL] at a;obtain⟨_,_,z,_⟩:=a;cases z
 |d::l,m,b,j,h,a=>by
  rw[D.depL] at j;rw[RepL] at h;obtain⟨v,r,rfl,h1,f⟩:=h
  cases m with
  |nil=>rw[RepL] at a;cases a
  |cons e m=>
   rw[RepL] at a;obtain⟨n,k,z,g,i⟩:=a;cases z;rw[Rep.inj I (by omega) h1 g,RepL.inj I (by omega) f i]
end
def vD(h:iV X.K H O d v)(hd:d.dep=0)(c: ∀l,d≠ .tup l)(b: ∀l,d≠ .lst l):Rep X.K H O d v:=by
 rcases h with h|⟨a,rfl,h⟩
 ·exact h
 ·cases d with
  |lst l=>exact absurd rfl (b l)
  |oth _ _ _=>rw[D.dep] at hd;omega
  |_=>exact h.elim
inductive Sh(X:Cx)(H:Hp)(s:gn)(O:AP'):D->V->Value->Prop
 |non:Sh X H s O .non .non .none
 |bl (b:Bool):Sh X H s O (.bl b) (.bl b) (.bool b)
 |int (i:Int) (t:Tok):Sh X H s O (.int i) (.int i) (.int i t)
 |str (x:Str) (t:Tok):Sh X H s O (.str x) (.str x) (.str x t)
 |tup {l:List D} {p:gm} {xs:List V} {its:iL} (q:SqT X.K H p xs) (r:RepL X.K H O l xs) (v:Vals xs its) (pl:IsTup s.heap p its.toArray):Sh X H s O (.tup l) (.ref p) (.ref p)
 |lst {l:List D} {p:gm} {xs:List V} {its:iL} (q:SqL X.K H p xs) (r:RepL X.K H O l xs) (v:Vals xs its) (pl:s.heap.IsList p its.toArray):Sh X H s O (.lst l) (.ref p) (.ref p)
def rV(I:Inv X pins σ H s)(h:iV X.K H O d v)(b:RelV v a)(i:d.dep<20000):Sh X H s O d v a:=by
 cases d with
 |oth m k n=>rw[D.dep] at i;omega
 |tup l=>obtain⟨p,j,rfl,q,r⟩:=jM h;cases b;obtain⟨e,g,f,_⟩:=I.tuple q;exact .tup q r g f
 |lst l=>obtain⟨p,j,rfl,q,r⟩:=jz h;cases b;obtain⟨e,g,f,_⟩:=I.list q;exact .lst q r g f.isList
 |non=>have:=(vD h rfl (by simp) (by simp)).non;subst this;cases b;exact .non
 |bl c=>have:=(vD h rfl (by simp) (by simp)).bl;subst this;cases b;exact .bl c
 |int c=>have:=(vD h rfl (by simp) (by simp)).int;subst this;obtain⟨t,rfl⟩:=b;exact .int c t
 |str c=>have:=(vD h rfl (by simp) (by simp)).str;subst this;obtain⟨t,rfl⟩:=b;exact .str c t
def Be(I:Inv X pins σ H s)(n:Nat)
  (ih: ∀(d e:D) (v u:V) (a b:gA) (O O':AP') (A:gM),iV X.K H O d v->iV X.K H O' e u->RelV v a->RelV u b->d.dep+1<=n->e.dep<20000->A.units+n<cLine+1->EqAt A s a b (D.eqb d e)):
  ∀(d e:D) (v u:V) (a b:gA) (O O':AP') (A:gM),iV X.K H O d v->iV X.K H O' e u->RelV v a->RelV u b->d.dep<=n->e.dep<20000->A.units+n<cLine->EqAt A s a b (D.eqb d e):=by
 intro d e v u a b O O' A hd he o t T o8 hA;have h:A.units<cLine:=by omega
 have n4:cLine=9900:=rfl
 have G: ∀(l m:List D) (L M:List V) (c C:iL) (R S:AP'),D.depL l+1<=n->D.depL m<20000->RepL X.K H R l L->RepL X.K H S m M->Vals L c->Vals M C->
   ∀j (h1:j<c.toArray.size) (J:j<C.toArray.size),EqAt A.in1 s c.toArray[j] C.toArray[j] (rM l m j):=λl m L M c C R S F P r1 i Q k j h1 J=>by
  have e1:=Q.length;have e2:=k.length;have e3:=r1.length;have e4:=i.length;simp only[iz] at h1 J;have hx:L[j]?=some L[j]:=hX (by omega);have hy:M[j]?=some M[j]:=hX (by omega);have Z:l[j]?=some l[j]:=hX (by omega);have W:m[j]?=some m[j]:=hX (by omega);obtain⟨w,w1,w2⟩:=Q.get hx;obtain⟨w',w3,w4⟩:=k.get hy
  have i1:c.toArray[j]=w:=by
   have:c[j]?=some c[j]:=hX (by omega);rw[this] at w1;simpa using w1
  have i2:C.toArray[j]=w':=by
   have:C[j]?=some C[j]:=hX (by omega);rw[this] at w3;simpa using w3
  rw[i1,i2];have hj:rM l m j=D.eqb l[j] m[j]:=by unfold rM;rw[Z,W]
  rw[hj];have y6:=D.dep_mem Z;have hdep2:=D.dep_mem W;exact ih _ _ _ _ _ _ R S A.in1 (.inl (r1.views Z hx)) (.inl (i.views W hy)) w2 w4 (by omega) (by omega) (by show A.units+1+n<cLine+1;omega)
 have h1:=rV I hd o (by omega);have J:=rV I he t o8
 cases h1 with
 |non=>
  cases J with
  |non=>exact lj o t rfl rfl
  |bl g=>exact lj o t rfl rfl
  |int g x=>exact lj o t rfl rfl
  |str g x=>exact lj o t rfl rfl
  |tup B i k f=>exact EqAt.none_tuple f h
  |lst B i k f=>exact EqAt.none_list f h
 |bl N=>
  cases J with
  |non=>exact lj o t rfl rfl
  |bl g=>exact lj o t rfl rfl
  |int g x=>exact lj o t rfl rfl
  |str g x=>exact lj o t rfl rfl
  |tup B i k f=>exact EqAt.bool_tuple N f h
  |lst B i k f=>exact EqAt.bool_list N f h
 |int N Y=>
  cases J with
  |non=>exact lj o t rfl rfl
  |bl g=>exact lj o t rfl rfl
  |int g x=>exact lj o t rfl rfl
  |str g x=>exact lj o t rfl rfl
  |tup B i k f=>exact EqAt.int_tuple N Y f h
  |lst B i k f=>exact EqAt.int_list N Y f h
 |str N Y=>
  cases J with
  |non=>exact lj o t rfl rfl
  |bl g=>exact lj o t rfl rfl
  |int g x=>exact lj o t rfl rfl
  |str g x=>exact lj o t rfl rfl
  |tup B i k f=>exact EqAt.str_tuple N Y f h
  |lst B i k f=>exact EqAt.str_list N Y f h
 | @tup l p L c q r Q y=>
  cases J with
  |non=>exact EqAt.tuple_none y h
  |bl g=>exact EqAt.tuple_bool g y h
  |int g x=>exact EqAt.tuple_int g x y h
  |str g x=>exact EqAt.tuple_str g x y h
  | @tup m p2 M C B i k f=>
   by_cases U:p=p2
   ·subst U;have:=I.tuple_inj q B;subst this;rw[RepL.inj I (by rw[D.dep] at T;omega) r i,D.eqb_refl];exact EqAt.same _
   ·refine .of_refs U ?_;have F:D.depL l+1<=n:=by rw[D.dep] at T;exact T
    have P:D.depL m<20000:=by rw[D.dep] at o8;omega
    have z:=RcAt.tuples y f h (G l m L M c C _ _ F P r i Q k);have e1:=Q.length;have e2:=k.length;have e3:=r.length;have e4:=i.length;simp only[iz] at z;rw[show c.length=l.length by omega,show C.length=m.length by omega,mq] at z;rw[D.eqb];exact z
  |lst B i k f=>exact EqAt.tuple_list y f h
 | @lst l p L c q r Q y=>
  cases J with
  |non=>exact EqAt.list_none y h
  |bl g=>exact EqAt.list_bool g y h
  |int g x=>exact EqAt.list_int g x y h
  |str g x=>exact EqAt.list_str g x y h
  |tup B i k f=>exact EqAt.list_tuple y f h
  | @lst m p2 M C B i k f=>
   by_cases U:p=p2
   ·subst U;have:=I.list_inj q B;subst this;rw[RepL.inj I (by rw[D.dep] at T;omega) r i,D.eqb_refl];exact EqAt.same _
   ·refine .of_refs U ?_;have F:D.depL l+1<=n:=by rw[D.dep] at T;exact T
    have P:D.depL m<20000:=by rw[D.dep] at o8;omega
    have e1:=Q.length;have e2:=k.length;have e3:=r.length;have e4:=i.length;have al:=mq l m;by_cases E:l.length=m.length
    ·have z:=RcAt.lists y f (by simp only[iz];omega) h (G l m L M c C _ _ F P r i Q k);simp only[iz] at z;rw[show c.length=min l.length m.length by omega] at z;rw[D.eqb,<-al,E];rw[E] at z;simpa using z
    ·have z:=RcAt.lists_lengths y f (by simp only[iz,bne_iff_ne,ne_eq];omega) h;rw[D.eqb,<-al];rw[show(l.length==m.length)=false by simpa using E];simpa using z
def zw(I:Inv X pins σ H s): ∀(n:Nat) (d e:D) (v u:V) (a b:gA) (O c:AP') (A:gM),iV X.K H O d v->iV X.K H c e u->RelV v a->RelV u b->d.dep<=n->e.dep<20000->A.units+n<cLine->EqAt A s a b (D.eqb d e):=by
 intro n
 induction n with
 |zero=>
  intro d e v u a b O c A hd f i j g h k;exact Be I 0 (λd e v u a b O c A hd f i j g h k=>absurd g (by omega)) d e v u a b O c A hd f i j g h k
 |succ n l=>
  intro d e v u a b O c A hd f i j g h k;exact Be I (n+1) (λd e v u a b O c A hd f i j g h k=>l d e v u a b O c A hd f i j (by omega) h (by omega)) d e v u a b O c A hd f i j g h k
end
section
variable {X:Cx}{c:gZ}{f:L2.St}{H:Hp}{s:gn}
def EJ(I:Inv X c f H s){A:gM}{n:Nat}(T:A.units+n<cLine): ∀(l m:List D) (d e:List V) (a b:iL) (g h:AP'),D.depL l+1<=n->D.depL m<20000->RepL X.K H g l d->RepL X.K H h m e->Vals d a->Vals e b->
   ∀j (h1:j<a.toArray.size) (p:j<b.toArray.size),EqAt A.in1 s a.toArray[j] b.toArray[j] (rM l m j):=λl m d e a b g h U Y t u v x j h1 p=>by
 have M:=v.length;have N:=x.length;have O:=t.length;have Q:=u.length;simp only[iz] at h1 p;have q:d[j]?=some d[j]:=hX (by omega);have r:e[j]?=some e[j]:=hX (by omega);have k:l[j]?=some l[j]:=hX (by omega);have i:m[j]?=some m[j]:=hX (by omega);obtain⟨w,y,J⟩:=v.get q;obtain⟨G,z,L⟩:=x.get r
 have C:a.toArray[j]=w:=by
  have:a[j]?=some a[j]:=hX (by omega);rw[this] at y;simpa using y
 have E:b.toArray[j]=G:=by
  have:b[j]?=some b[j]:=hX (by omega);rw[this] at z;simpa using z
 rw[C,E];have B:rM l m j=D.eqb l[j] m[j]:=by unfold rM;rw[k,i]
 rw[B];have F:=D.dep_mem k;have o:=D.dep_mem i;exact zw I (n-1) _ _ _ _ _ _ g h A.in1 (.inl (t.views k q)) (.inl (u.views i r)) J L (by omega) (by omega) (by show A.units+1+(n-1)<cLine;omega)
def Rj(I:Inv X c f H s)(hd:iV X.K H O d v)(he:iV X.K H O' e u)(ra:RelV v a)(rb:RelV u b)(M:d.dep<=n)(T:e.dep<20000)(hA:A.units+n<cLine):RcAt A s a b (D.eqb d e):=by
 have j:A.units<cLine:=by omega
 have B:=EJ I hA;have W:cLine=9900:=rfl;have h1:=rV I hd ra (by omega);have G:=rV I he rb T
 cases h1 with
 |non=>
  cases G with
  |non=>exact RcAt.none_none
  |bl g=>exact RcAt.none_bool g
  |int g i=>exact RcAt.none_int g i
  |str g i=>exact RcAt.none_str g i
  |tup E o t h=>exact RcAt.none_tuple h j
  |lst E o t h=>exact RcAt.none_list h j
 |bl k=>
  cases G with
  |non=>exact RcAt.bool_none k
  |bl g=>exact RcAt.bool_bool k g
  |int g i=>exact RcAt.bool_int k g i
  |str g i=>exact RcAt.bool_str k g i
  |tup E o t h=>exact RcAt.bool_tuple k h j
  |lst E o t h=>exact RcAt.bool_list k h j
 |int k x=>
  cases G with
  |non=>exact RcAt.int_none k x
  |bl g=>exact RcAt.int_bool k x g
  |int g i=>exact RcAt.int_int k x g i
  |str g i=>exact RcAt.int_str k x g i
  |tup E o t h=>exact RcAt.int_tuple k x h j
  |lst E o t h=>exact RcAt.int_list k x h j
 |str k x=>
  cases G with
  |non=>exact RcAt.str_none k x
  |bl g=>exact RcAt.str_bool k x g
  |int g i=>exact RcAt.str_int k x g i
  |str g i=>exact RcAt.str_str k x g i
  |tup E o t h=>exact RcAt.str_tuple k x h j
  |lst E o t h=>exact RcAt.str_list k x h j
 | @tup l p U C q r J w=>
  cases G with
  |non=>exact RcAt.tuple_none w j
  |bl g=>exact RcAt.tuple_bool g w j
  |int g i=>exact RcAt.tuple_int g i w j
  |str g i=>exact RcAt.tuple_str g i w j
  | @tup m p2 Y L E o t h=>
   have N:D.depL l+1<=n:=by rw[D.dep] at M;exact M
   have Q:D.depL m<20000:=by rw[D.dep] at T;omega
   have P:=J.length;have R:=t.length;have S:=r.length;have V:=o.length;have z:=RcAt.tuples w h j (B l m U Y C L _ _ N Q r o J t);simp only[iz] at z;rw[show C.length=l.length by omega,show L.length=m.length by omega,mq] at z;rw[D.eqb];exact z
  |lst E o t h=>exact RcAt.tuple_list w h j
 | @lst l p U C q r J w=>
  cases G with
  |non=>exact RcAt.list_none w j
  |bl g=>exact RcAt.list_bool g w j
  |int g i=>exact RcAt.list_int g i w j
  |str g i=>exact RcAt.list_str g i w j
  |tup E o t h=>exact RcAt.list_tuple w h j
  | @lst m p2 Y L E o t h=>
   have N:D.depL l+1<=n:=by rw[D.dep] at M;exact M
   have Q:D.depL m<20000:=by rw[D.dep] at T;omega
   have P:=J.length;have R:=t.length;have S:=r.length;have V:=o.length;have F:=mq l m;by_cases y:l.length=m.length
   ·have z:=RcAt.lists w h (by simp only[iz];omega) j (B l m U Y C L _ _ N Q r o J t);simp only[iz] at z;rw[show C.length=min l.length m.length by omega] at z;rw[D.eqb,<-F,y];rw[y] at z;simpa using z
   ·have z:=RcAt.lists_lengths w h (by simp only[iz,bne_iff_ne,ne_eq];omega) j;rw[D.eqb,<-F];rw[show(l.length==m.length)=false by simpa using y];simpa using z
def Lr(I:Inv X c f H s)(hd:iV X.K H O d v)(he:iV X.K H O' e u)(ra:RelV v a)(rb:RelV u b)(M:d.dep<=n)(T:e.dep<20000)(hA:A.units+n<cLine):RcNeAt A s a b (!D.eqb d e):=by
 have j:A.units<cLine:=by omega
 have B:=EJ I hA;have W:cLine=9900:=rfl;have h1:=rV I hd ra (by omega);have G:=rV I he rb T
 cases h1 with
 |non=>
  cases G with
  |non=>exact RcNeAt.none_none
  |bl g=>exact RcNeAt.none_bool g
  |int g i=>exact RcNeAt.none_int g i
  |str g i=>exact RcNeAt.none_str g i
  |tup E o t h=>exact RcNeAt.none_tuple h j
  |lst E o t h=>exact RcNeAt.none_list h j
 |bl k=>
  cases G with
  |non=>exact RcNeAt.bool_none k
  |bl g=>exact RcNeAt.bool_bool k g
  |int g i=>exact RcNeAt.bool_int k g i
  |str g i=>exact RcNeAt.bool_str k g i
  |tup E o t h=>exact RcNeAt.bool_tuple k h j
  |lst E o t h=>exact RcNeAt.bool_list k h j
 |int k x=>
  cases G with
  |non=>exact RcNeAt.int_none k x
  |bl g=>exact RcNeAt.int_bool k x g
  |int g i=>exact RcNeAt.int_int k x g i
  |str g i=>exact RcNeAt.int_str k x g i
  |tup E o t h=>exact RcNeAt.int_tuple k x h j
  |lst E o t h=>exact RcNeAt.int_list k x h j
 |str k x=>
  cases G with
  |non=>exact RcNeAt.str_none k x
  |bl g=>exact RcNeAt.str_bool k x g
  |int g i=>exact RcNeAt.str_int k x g i
  |str g i=>exact RcNeAt.str_str k x g i
  |tup E o t h=>exact RcNeAt.str_tuple k x h j
  |lst E o t h=>exact RcNeAt.str_list k x h j
 | @tup l p U C q r J w=>
  cases G with
  |non=>exact RcNeAt.tuple_none w j
  |bl g=>exact RcNeAt.tuple_bool g w j
  |int g i=>exact RcNeAt.tuple_int g i w j
  |str g i=>exact RcNeAt.tuple_str g i w j
  | @tup m p2 Y L E o t h=>
   have N:D.depL l+1<=n:=by rw[D.dep] at M;exact M
   have Q:D.depL m<20000:=by rw[D.dep] at T;omega
   have P:=J.length;have R:=t.length;have S:=r.length;have V:=o.length;have z:=RcNeAt.tuples w h j (B l m U Y C L _ _ N Q r o J t);simp only[iz] at z;rw[show C.length=l.length by omega,show L.length=m.length by omega,mq] at z;rw[D.eqb];exact z
  |lst E o t h=>exact RcNeAt.tuple_list w h j
 | @lst l p U C q r J w=>
  cases G with
  |non=>exact RcNeAt.list_none w j
  |bl g=>exact RcNeAt.list_bool g w j
  |int g i=>exact RcNeAt.list_int g i w j
  |str g i=>exact RcNeAt.list_str g i w j
  |tup E o t h=>exact RcNeAt.list_tuple w h j
  | @lst m p2 Y L E o t h=>
   have N:D.depL l+1<=n:=by rw[D.dep] at M;exact M
   have Q:D.depL m<20000:=by rw[D.dep] at T;omega
   have P:=J.length;have R:=t.length;have S:=r.length;have V:=o.length;have F:=mq l m;by_cases y:l.length=m.length
   ·have z:=RcNeAt.lists w h (by simp only[iz];omega) j (B l m U Y C L _ _ N Q r o J t);simp only[iz] at z;rw[show C.length=min l.length m.length by omega] at z;rw[D.eqb,<-F,y];rw[y] at z;simpa using z
   ·have z:=RcNeAt.lists_lengths w h (by simp only[iz,bne_iff_ne,ne_eq];omega) j;rw[D.eqb,<-F];rw[show(l.length==m.length)=false by simpa using y];simpa using z
def Sq(j:X.A.units+60<cLine):OpR X (compareOp .Eq) (λx y H Q=> ∃O d e,iV X.K H O d x/\iV X.K H O e y/\(d.dep<=50/\e.dep<=50)/\Q (.bl (D.eqb d e)) H):=by
 intro c s f H x y v u Q I g i h;obtain⟨O,d,e,h1,a,b,q⟩:=h;exact Rj (A:=X.A) I h1 a g i b.1 (by omega) (by omega) _ _ _ _ ⟨.bl _,H,I,rfl,q⟩
def Sk(j:X.A.units+60<cLine):OpR X (compareOp .NotEq) (λx y H Q=> ∃O d e,iV X.K H O d x/\iV X.K H O e y/\(d.dep<=50/\e.dep<=50)/\Q (.bl (!D.eqb d e)) H):=by
 intro c s f H x y v u Q I g i h;obtain⟨O,d,e,h1,a,b,q⟩:=h;exact Lr (A:=X.A) I h1 a g i b.1 (by omega) (by omega) _ _ _ _ ⟨.bl _,H,I,rfl,q⟩
end
def gX{e:Type}{c:Prop}[Decidable c]{a b:e}(h:(if c then some a else none)=some b):c/\a=b:=by
 split at h
 ·rename_i d;exact⟨d,jw h⟩
 ·cases h
section
variable {X:Cx}{c:gZ}{f:L2.St}{H:Hp}{s:gn}
def C5(I:Inv X c f H s){A:gM}{l:List D}{q:List V}{a:iL}{O E:AP'}{b:D}{L:V}{x:gA}(r:RepL X.K H O l q)(v:Vals q a)(hx:iV X.K H E b L)(rx:RelV L x)(hn:D.depL l<=50)(hxn:b.dep<=50)(hA:A.units+60<cLine):
  ∃e:Value->Bool,(∀y∈a,EqAt A.in1 s y x (e y))/\a.any e=l.any λd=>D.eqb d b:=by
 let e:Value->Bool:=λy=>match(a.zip l).find? (λp=>p.1==y) with
  |some p=>D.eqb p.2 b
  |none=>false
 have W:=v.length;have Z:=r.length
 have n: ∀(j:Nat) (g:j<a.length) (h:j<l.length),e a[j]=D.eqb l[j] b:=λj g h=>by
  show(match(a.zip l).find? (λp=>p.1==a[j]) with|some p=>D.eqb p.2 b|none=>false)=_
  cases u:(a.zip l).find? (λp=>p.1==a[j]) with
  |none=>
   have:=List.find?_eq_none.mp u (a[j],l[j]) (by
    have:(a.zip l)[j]?=some (a[j],l[j]):=by simp[Dx,hX g,hX h]
    exact lN this)
   simp at this
  |some p=>
   have F:=List.find?_some u;have Y:=List.mem_of_find?_eq_some u;obtain⟨i,J⟩:=qP Y;obtain⟨R,p2⟩:=p;rw[Dx] at J;have Q:R=a[j]:=tD F;obtain⟨h1,k⟩:=J;have G:i<q.length:=by have:=(uQ.mp h1).1;omega
   obtain⟨w,o,C⟩:=v.get (hX G);have t:j<q.length:=by omega
   obtain⟨w',M,S⟩:=v.get (hX t);rw[h1] at o;cases o;rw[hX g] at M;cases M;subst Q;have hv:=C.inj S;have a1:=r.views k (hX G);have N:=r.views (hX h) (hX t);rw[hv] at a1;have fK:=D.dep_mem k;have:=Rep.inj I (by omega) a1 N;exact lX (λz=>D.eqb z b) this
 refine⟨e,λy P=>?_,?_⟩
 ·obtain⟨j,g⟩:=qP P;have B:=(uQ.mp g).1;have t:=(uQ.mp g).2;have h:j<l.length:=by omega
  have m:j<q.length:=by omega
  obtain⟨w,o,C⟩:=v.get (hX m);rw[g] at o;cases o;have hk:=n j B h;rw[t] at hk;rw[hk];have hd:=D.dep_mem (hX h);exact zw I 50 _ _ _ _ _ _ O E A.in1 (.inl (r.views (hX h) (hX m))) hx C rx (by omega) (by omega) (by show A.units+1+50<cLine;omega)
 ·have:a.map e=l.map λd=>D.eqb d b:=by
   apply FH
   ·simp;omega
   ·intro j h1 k;simp only[iJ] at h1 k;simp only[List.getElem_map];exact n j h1 k
  have T:a.any e=(a.map e).any id:=by rw[Ca];rfl
  have U:(l.any λd=>D.eqb d b)=(l.map λd=>D.eqb d b).any id:=by rw[Ca];rfl
  rw[T,U,this]
noncomputable def inD(x:D):D->Option Bool
 | .tup l=>if D.depL l<=50/\x.dep<=50 then some (l.any λd=>D.eqb d x) else none
 | .lst l=>if D.depL l<=50/\x.dep<=50 then some (l.any λd=>D.eqb d x) else none
 |_=>none
def So(B:X.A.units+60<cLine):OpR X (compareOp .In) (λx y H Q=> ∃O d e b,iV X.K H O d x/\iV X.K H O e y/\inD d e=some b/\Q (.bl b) H):=by
 intro c s f H x y v u Q I C E h;obtain⟨O,d,e,b,h1,z,j,q⟩:=h
 cases e with
 |tup l=>
  obtain⟨i,rfl⟩:=gX j
  ·skip
   obtain⟨a,G,rfl,n,r⟩:=jM z;cases E;obtain⟨g,t,p,_⟩:=I.tuple n;obtain⟨e,m,k⟩:=C5 (A:=X.A) I r t h1 C i.1 i.2 B;refine in_tupleAt e p (λw o=>m w (by simpa using o)) ⟨.bl _,H,I,rfl,?_⟩;rw[show g.toArray.any e=g.any e by simp,k];exact q
 |lst l=>
  obtain⟨i,rfl⟩:=gX j
  ·skip
   obtain⟨a,G,rfl,n,r⟩:=jz z;cases E;obtain⟨g,t,p,_⟩:=I.list n;obtain⟨e,m,k⟩:=C5 (A:=X.A) I r t h1 C i.1 i.2 B;refine in_listAt e p.isList (λw o=>m w (by simpa using o)) ⟨.bl _,H,I,rfl,?_⟩;rw[show g.toArray.any e=g.any e by simp,k];exact q
 |_=>cases j
def AS(B:X.A.units+60<cLine):OpR X (compareOp .NotIn) (λx y H Q=> ∃O d e b,iV X.K H O d x/\iV X.K H O e y/\inD d e=some b/\Q (.bl (!b)) H):=by
 intro c s f H x y v u Q I C E h;obtain⟨O,d,e,b,h1,z,j,q⟩:=h
 cases e with
 |tup l=>
  obtain⟨i,rfl⟩:=gX j
  ·skip
   obtain⟨a,G,rfl,n,r⟩:=jM z;cases E;obtain⟨g,t,p,_⟩:=I.tuple n;obtain⟨e,m,k⟩:=C5 (A:=X.A) I r t h1 C i.1 i.2 B;refine notIn_tupleAt e p (λw o=>m w (by simpa using o)) ⟨.bl _,H,I,rfl,?_⟩;rw[show g.toArray.any e=g.any e by simp,k];exact q
 |lst l=>
  obtain⟨i,rfl⟩:=gX j
  ·skip
   obtain⟨a,G,rfl,n,r⟩:=jz z;cases E;obtain⟨g,t,p,_⟩:=I.list n;obtain⟨e,m,k⟩:=C5 (A:=X.A) I r t h1 C i.1 i.2 B;refine notIn_listAt e p.isList (λw o=>m w (by simpa using o)) ⟨.bl _,H,I,rfl,?_⟩;rw[show g.toArray.any e=g.any e by simp,k];exact q
 |_=>cases j
end
def rD1(K:gK)(g:D->Option (D×Bool)):V->Hp->VK->Prop:=λx H Q=> ∃(O:AP') (d:D) (z:D×Bool),(∀p,¬Ow (H p)-> ¬O p)/\iV K H O d x/\g d=some z/\Gen K H O z Q
def rD(K:gK)(g:D->D->Option (D×Bool)):R2:=λx y H Q=> ∃(O:AP') (d e:D) (z:D×Bool),(∀p,¬Ow (H p)-> ¬O p)/\iV K H O d x/\iV K H O e y/\g d e=some z/\Gen K H O z Q
def rDn(K:gK)(g:List D->Option (D×Bool)):List V->Hp->VK->Prop:=λb H Q=> ∃(O:AP') (a:List D) (z:D×Bool),(∀p,¬Ow (H p)-> ¬O p)/\a.length=b.length/\(∀(j:Nat) d v,a[j]?=some d->b[j]?=some v->iV K H O d v)/\g a=some z/\Gen K H O z Q
section
variable {X:Cx}{e a b:gy}{c fb:FO}{fs:List FO}{k:Pos}
def px1(h:PE X e (tUn (rD1 X.K g) (tO X.K c))):PX X e (jk g c):=Rz h λx z v H O Q np f d G=>⟨O,x,z,np,f,d,G⟩
def px2(h:PE X e (tOp (rD X.K g) (tO X.K c) (tO X.K fb))):PX X e (gr g c fb):=Ry h λx y z v u H O Q np f i d G=>⟨O,x,y,z,np,f,i,d,G⟩
def pxn(h:PE X e (tCB (rDn X.K g) (tA X.K fs))):PX X e (gC g fs):=Ol h λd z j H O Q np i hv f G=>⟨O,d,z,np,i,hv,f,G⟩
theorem gU{K H}{O:AP'}{i:Int}{v:V}(h:iV K H O (.int i) v):v= .int i:=h.elim (λh=>h.int) λ⟨_,_,h⟩=>h.elim
theorem Cr{K H}(h:iV K H O (.bl i) v):v= .bl i:=h.elim (λh=>h.bl) λ⟨_,_,h⟩=>h.elim
def uS{K H}(h:iV K H O (.str i) v):v= .str i:=h.elim (λh=>h.str) λ⟨_,_,h⟩=>h.elim
def DE{K H}(h:iV K H O .non v):v= .non:=h.elim (λh=>h.non) λ⟨_,_,h⟩=>h.elim
theorem Gen.str{K H}(g:Gen K H O (.str i,false) Q):Q (.str i) H:=g _ H (λ_ _ e=>e) Rep.mkStr
noncomputable def gI(f:Int->Int->Option D):D->D->Option (D×Bool)
 | .int i,.int j=>(f i j).map λz=>(z,false)
 |_,_=>none
def yc{f:Int->Int->Option D}{d e:D}{z:D×Bool}(h:gI f d e=some z): ∃i j y,d= .int i/\e= .int j/\f i j=some y/\z=(y,false):=by
 cases d with
 |int i=>
  cases e with
  |int j=>
   cases g:f i j with
   |none=>rw[gI,g] at h;cases h
   |some y=>rw[gI,g] at h;cases h;exact⟨i,j,y,rfl,rfl,g,rfl⟩
  |_=>cases h
 |_=>cases h
def ya{f:xi}{C:Int->Int->Prop}[∀i j,Decidable (C i j)]{g:Int->Int->Int}(q:OpR X f (rI C λi j=> .int (g i j))):OpR X f (rD X.K (gI λi j=>if C i j then some (.int (g i j)) else none)):=by
 intro l s A H x y v u Q I r t h;obtain⟨O,d,e,z,np,h1,m,p,G⟩:=h;obtain⟨i,j,w,rfl,rfl,o,rfl⟩:=yc p;obtain⟨n,rfl⟩:=gX o;exact q l s A H x y v u Q I r t ⟨i,j,gU h1,gU m,n,G.int⟩
def Mh{f:xi}{g:Int->Int->Int}(p:OpR X f (rI0 λi j=> .int (g i j))):OpR X f (rD X.K (gI λi j=>some (.int (g i j)))):=by
 intro l s t H x y v u Q I q r h;obtain⟨O,d,e,z,np,h1,m,o,G⟩:=h;obtain⟨i,j,w,rfl,rfl,n,rfl⟩:=yc o;cases n;exact p l s t H x y v u Q I q r ⟨i,j,gU h1,gU m,G.int⟩
instance(i j:Int):Decidable (CMul i j):=by unfold CMul;exact inferInstance
instance(i j:Int):Decidable (JU i j):=by unfold JU;exact inferInstance
instance(i j:Int):Decidable (xX i j):=by unfold xX;exact inferInstance
noncomputable def gSub:=gI λi j=>some (.int (i-j))
noncomputable def qK:=gI λi j=>if CMul i j then some (.int (i*j)) else none
noncomputable def MY:=gI λi j=>if JU i j then some (.int (i / j)) else none
noncomputable def vB:=gI λi j=>if 0<j then some (.int (i%j)) else none
noncomputable def EA:=gI λi j=>if xX i j then some (.int (i^j.toNat)) else none
def si:OpR X (binaryOp .Sub) (rD X.K gSub):=Mh Si
def oE:OpR X (binaryOp .Mult) (rD X.K qK):=ya Sm
def HN:OpR X (binaryOp .FloorDiv) (rD X.K MY):=ya OX
def pZ:OpR X (binaryOp .Mod) (rD X.K vB):=ya Sn
def CN:OpR X (binaryOp .Pow) (rD X.K EA):=ya Sj
noncomputable def jt:D->D->Option (D×Bool)
 | .int i,.int j=>some (.int (i+j),false)
 | .str i,.str j=>if i.length+j.length<=sizeLine then some (.str (i++j),false) else none
 | .tup l,.tup m=>if l.length+m.length<=sizeLine then some (.tup (l++m),false) else none
 | .lst l,.lst m=>if l.length+m.length<=sizeLine then some (.lst (l++m),true) else none
 |_,_=>none
def iB:OpR X (binaryOp .Add) (rD X.K jt):=by
 intro o s σ H x y v u Q I M N h;obtain⟨O,d,e,z,np,h1,T,q,G⟩:=h
 cases d with
 |int i=>
  cases e with
  |int j=>cases q;exact Su o s σ H x y v u Q I M N ⟨i,j,gU h1,gU T,G.int⟩
  |_=>cases q
 |str i=>
  cases e with
  |str j=>
   obtain⟨W,rfl⟩:=gX q;exact GG o s σ H x y v u Q I M N ⟨i,j,uS h1,uS T,W,G.str⟩
  |_=>cases q
 |tup l=>
  cases e with
  |tup m=>
   obtain⟨W,rfl⟩:=gX q;have k1:Rep X.K H O (.tup l) x:=h1.elim id λ⟨_,_,z⟩=>z.elim;have k2:Rep X.K H O (.tup m) y:=T.elim id λ⟨_,_,z⟩=>z.elim;obtain⟨U,xs,rfl,Y,J⟩:=k1.tup;obtain⟨E,ys,rfl,D,L⟩:=k2.tup;have l1:=J.length;have l2:=L.length;by_cases hx:xs=[]
   ·subst hx;have:l=[]:=by simpa using l1.symm
    subst this;cases M;cases N;obtain⟨g,P,S,_⟩:=I.tuple Y.sq;obtain⟨r,v2,V,_⟩:=I.tuple D.sq;have e1:g=[]:=by have:=P.length;simpa using this.symm
    subst e1;obtain⟨⟨R,dd,t,sl⟩,w,B,n,hd⟩:=id S;obtain⟨⟨cz,q9,data2,p5⟩,C,A,Z,f⟩:=id V;simp only at B hd A f;subst B hd A f
    refine Ci ⟨_,w,rfl⟩ ⟨_,C,rfl⟩ F3 F1 F0 FZ (FY _ _)
     (tuple_addW0 U E #[] r.toArray n Z dd q9 sl p5 (by simp)) ⟨w,C,⟨.ref E,H,I,rfl,?_⟩⟩
    exact G _ H (λ_ _ e=>e) (by simpa using k2)
   ·refine OY o s σ H _ _ v u Q I M N ⟨U,E,xs,ys,rfl,rfl,Y.sq,D.sq,hx,by omega,λhy=>?_,λhy p hp=>?_⟩
    ·subst hy;have:m=[]:=by simpa using l2.symm
     subst this;exact G _ H (λ_ _ e=>e) (by simpa using k1)
    ·exact G.tup hp (np p (nOw hp)) (J.append L)
  |_=>cases q
 |lst l=>
  cases e with
  |lst m=>
   obtain⟨W,rfl⟩:=gX q;obtain⟨U,xs,rfl,Y,J⟩:=jz h1;obtain⟨E,ys,rfl,D,L⟩:=jz T;have l1:=J.length;have l2:=L.length;cases M;cases N;obtain⟨g,P,S,_⟩:=I.list Y;obtain⟨r,v2,V,_⟩:=I.list D;have e1:=P.length;have e2:=v2.length;obtain⟨⟨R,dd,t,sl⟩,w,B,n,hd⟩:=id S.isList;obtain⟨⟨cz,q9,data2,p5⟩,C,A,Z,f⟩:=id V.isList;simp only at B hd A f;subst B hd A f
   refine Ci ⟨_,w,rfl⟩ ⟨_,C,rfl⟩ noFill_list_add seq_list_add PySem.F.slot_list_add PySem.F.entry_list_add (PySem.F.args_list_add_2 _ _)
    (list_addW U E g.toArray r.toArray n Z dd q9 sl p5 (by simp only[iz];omega)) ⟨w,C,?_⟩
   rw[show g.toArray++r.toArray=(g++r).toArray by simp];exact⟨.ref _,_,I.lnew (t':=s.toks) (P.append v2) (by rw[lM];omega),rfl,G.lst I.fresh (J.append L)⟩
  |_=>cases q
 |_=>cases q
noncomputable def gEq(d e:D):Option (D×Bool):=if d.dep<=50/\e.dep<=50 then some (.bl (D.eqb d e),false) else none
noncomputable def gNe(d e:D):Option (D×Bool):=if d.dep<=50/\e.dep<=50 then some (.bl (!D.eqb d e),false) else none
noncomputable def gIn(d e:D):Option (D×Bool):=(inD d e).map λb=>(.bl b,false)
noncomputable def jI(d e:D):Option (D×Bool):=(inD d e).map λb=>(.bl (!b),false)
def mN(l:X.A.units+60<cLine):OpR X (compareOp .Eq) (rD X.K gEq):=by
 intro f s o H x y v u Q I m n h;obtain⟨O,d,e,z,np,h1,g,j,G⟩:=h;obtain⟨i,rfl⟩:=gX j;exact Sq l f s o H x y v u Q I m n ⟨O,d,e,h1,g,i,G.bl⟩
def wM(l:X.A.units+60<cLine):OpR X (compareOp .NotEq) (rD X.K gNe):=by
 intro f s o H x y v u Q I m n h;obtain⟨O,d,e,z,np,h1,g,j,G⟩:=h;obtain⟨i,rfl⟩:=gX j;exact Sk l f s o H x y v u Q I m n ⟨O,d,e,h1,g,i,G.bl⟩
def iC{d g:Type}{x:Option d}{f:d->g}{b:g}(h:x.map f=some b): ∃a,x=some a/\f a=b:=by
 cases x with
 |none=>cases h
 |some a=>exact⟨a,rfl,jw h⟩
def Sg(l:X.A.units+60<cLine):OpR X (compareOp .In) (rD X.K gIn):=by
 intro f s o H x y v u Q I m n h;obtain⟨O,d,e,z,np,h1,g,j,G⟩:=h;obtain⟨b,i,rfl⟩:=iC j;exact So l f s o H x y v u Q I m n ⟨O,d,e,b,h1,g,i,G.bl⟩
def pA(l:X.A.units+60<cLine):OpR X (compareOp .NotIn) (rD X.K jI):=by
 intro f s o H x y v u Q I m n h;obtain⟨O,d,e,z,np,h1,g,j,G⟩:=h;obtain⟨b,i,rfl⟩:=iC j;exact AS l f s o H x y v u Q I m n ⟨O,d,e,b,h1,g,i,G.bl⟩
noncomputable def lz:D->Option (D×Bool)
 | .int i=>some (.int (-i),false)
 |_=>none
def NP:UnR X (unaryOp .USub) (rD1 X.K lz):=by
 intro f s l H x v Q I j h;obtain⟨O,d,z,np,h1,g,G⟩:=h
 cases d with
 |int i=>cases g;exact QN f s l H x v Q I j ⟨i,gU h1,G.int⟩
 |_=>cases g
noncomputable def gIx:D->D->Option (D×Bool)
 | .tup l,.int i=>(atI l i).map λd=>(d,false)
 | .lst l,.int i=>(atI l i).map λd=>(d,false)
 |_,_=>none
def II{K H}{O:AP'}{l:List D}{f:List V}{i:Int}{d:D}(r:RepL K H O l f)(h:atI l i=some d): ∃v,atI f i=some v/\Rep K H O d v:=by
 unfold atI at h ⊢;rw[r.length];obtain⟨j,h1,g⟩:=gg h;rw[h1];exact r.get g
def Qm:IxR X (rD X.K gIx):=by
 intro f slice g s J H x y v u Q I C E h B;obtain⟨O,d,e,z,np,h1,A,j,G⟩:=h
 cases d with
 |tup l=>
  cases e with
  |int i=>
   obtain⟨w,n,rfl⟩:=iC j;obtain⟨p,t,rfl,q,r⟩:=jM h1;obtain⟨o,hv,m⟩:=II r n;exact SQ f slice g s J H _ _ v u Q I C E ⟨p,t,i,o,rfl,gU A,q,hv,G _ H (λ_ _ e=>e) m⟩ B
  |_=>cases j
 |lst l=>
  cases e with
  |int i=>
   obtain⟨w,n,rfl⟩:=iC j;obtain⟨p,t,rfl,q,r⟩:=jz h1;obtain⟨o,hv,m⟩:=II r n;exact Pr f slice g s J H _ _ v u Q I C E ⟨p,t,i,o,rfl,gU A,q,hv,G _ H (λ_ _ e=>e) m⟩ B
  |_=>cases j
 |_=>cases j
def RK(h:OpR X (binaryOp op) (rD X.K g))(d:PO X a c)(f:PO X b fb):PX X (.BinOp a op b k) (gr g c fb):=px2 (UK h d f)
def RI{d:CmpOp}{g:D->D->Option (D×Bool)}(j:OpR X (compareOp d) (rD X.K g))(f:PO X a c)(h:PO X b fb)(i:behindInMarks d b=false):PX X (.Compare a [d] [b] k) (gr g c fb):=px2 (OR j f h i)
def RC(d:PO X a c):PX X (.UnaryOp .USub a k) (jk lz c):=px1 (UJ NP d)
def UC(d:PO X a c)(f:PO X b fb)(g:vT b):PX X (.Subscript a b k) (gr gIx c fb):=px2 (Qh Qm d f g)
end
noncomputable def oO:List Opd->Option (List D)
 |[]=>some []
 | .val r::os=>(oO os).map (r.1:: ·)
 | .slot _::_=>none
noncomputable def kO(fs:List F):F:=λδ=>(jj (fs.map gi) δ).bind λp=>(oO p.1).bind λds=>if ds.length<=sizeLine then some ((.tup ds,false),p.2) else none
noncomputable def kD(fs:List F):F:=λδ=>(jj (fs.map gi) δ).bind λp=>(oO p.1).bind λa=>if a.length<=sizeLine then some ((.lst a,true),p.2) else none
section
variable {K:gK}{T n:AP'}{g:L2.St}{m e:Dn}{H f:Hp}{os:List Opd}{c:List V}
def Ops.rep(E:ER K H T g m)(B:Ops K T g m H os c e f n){j:Nat}{r:D×Bool}{v:V}(h1:os[j]?=some (.val r))(h:c[j]?=some v):Rep K f (λa=>OwnA g e a\/T a) r.1 v:=by
 obtain⟨d,b⟩:=r
 cases b with
 |false=>exact B.val j d v h1 h
 |true=>
  obtain⟨p,rfl,k,i,ok⟩:=B.tmp j d v h1 h;refine ok.rep (λz=>?_) λb _ z=>z;rcases z with z|z
  ·exact B.er.nT p z k
  ·exact(E.dom p z).ne i
theorem uy{O:AP'}: ∀{os:List Opd} {c:List V} {d:List D},oO os=some d->os.length=c.length->(∀(j:Nat) (r:D×Bool) (v:V),os[j]?=some (.val r)->c[j]?=some v->Rep K f O r.1 v)->RepL K f O d c
 |[],c,d,h,o,_=>by
  cases h;have:c=[]:=by simpa using o.symm
  subst this;exact RepL.nil
 | .slot i::os,c,d,h,_,_=>by cases h
 | .val r::os,c,d,h,o,k=>by
  obtain⟨l,h1,rfl⟩:=iC h
  cases c with
  |nil=>simp at o
  |cons v c=>exact RepL.cons (k 0 r v rfl rfl) (uy h1 (by simpa using o) λj p q a b=>k (j+1) p q (by simpa using a) (by simpa using b))
end
section
variable {X:Cx}{e a b:gy}{m:jm}{n fb:FO}{fs:List F}{c:Pos}
def Ru{x1}(h:PA X m (tA X.K (fs.map gi))):PX X (.Tuple m x1 c) (kO fs):=PX.imp (L4 h) λy H Q l=>by
 obtain⟨o,T,w,q,E,e,k⟩:=l;obtain⟨⟨os,d⟩,h1,e⟩:=gg e;obtain⟨u,g,e⟩:=gg e;obtain⟨i,e⟩:=gX e;obtain⟨rfl,rfl⟩:=uo e;refine⟨o,T,os,d,E,h1,λx s t B=>?_⟩;have r:=uy g B.len λj r v a b=>B.rep E a b;exact⟨by rw[r.length];exact i,λp f=>(B.done k).tup f (B.np (nOw f)) r⟩
def RE(h:PA X m (tA X.K (fs.map gi))):PX X (.List m c) (kD fs):=PX.imp (Sa h) λy H Q l=>by
 obtain⟨o,T,w,q,E,e,k⟩:=l;obtain⟨⟨os,d⟩,h1,e⟩:=gg e;obtain⟨u,f,e⟩:=gg e;obtain⟨g,e⟩:=gX e;obtain⟨rfl,rfl⟩:=uo e;refine⟨o,T,os,d,E,h1,λx s t B=>?_⟩;have r:=uy f B.len λj r v a b=>B.rep E a b;exact⟨by rw[r.length];exact g,λp i=>(B.done k).lst i r⟩
def HQ{g:List D}{f:List V}{d:D}(h:g.length=f.length)(hd:g=[d]): ∃v,f=[v]:=by
 subst hd
 cases f with
 |nil=>simp at h
 |cons v r=>
  cases r with
  |nil=>exact⟨v,rfl⟩
  |cons _ _=>simp at h
noncomputable def g1(g:D->Option (D×Bool)):List D->Option (D×Bool)
 |[d]=>g d
 |_=>none
noncomputable def g2(g:D->D->Option (D×Bool)):List D->Option (D×Bool)
 |[d,e]=>g d e
 |_=>none
def nW{f:gA}{g:D->Option (D×Bool)}(h: ∀(i:gZ) (s:gn) (j:L2.St) (H:Hp) (x:V) (u:gA) (Q:VK) (O:AP') (d:D) (z:D×Bool),Inv X i j H s->RelV x u->(∀p,¬Ow (H p)-> ¬O p)->iV X.K H O d x->g d=some z->Gen X.K H O z Q->
  wpAny (model X.prog X.w) X.A (call f [u]) (EP X i j Q) X.xe s):jx X f (rDn X.K (g1 g)):=by
 intro i s j H xs y Q I r q;obtain⟨O,l,z,np,o,hv,k,G⟩:=q
 match l,k with
 |[d],k=>
  obtain⟨v,rfl⟩:=HQ o rfl;obtain⟨u,rfl,t⟩:=qZ r;exact h i s j H v u Q O d z I t np (hv 0 d v rfl rfl) k G
def Nj{f:gA}{g:D->D->Option (D×Bool)}(h: ∀(i:gZ) (s:gn) (k:L2.St) (H:Hp) (x y:V) (j:iL) (Q:VK) (O:AP') (d e:D) (z:D×Bool),Inv X i k H s->Vals [x,y] j->(∀p,¬Ow (H p)-> ¬O p)->iV X.K H O d x->iV X.K H O e y->g d e=some z->Gen X.K H O z Q->
  wpAny (model X.prog X.w) X.A (call f j) (EP X i k Q) X.xe s):jx X f (rDn X.K (g2 g)):=by
 intro i s k H u j Q I r t;obtain⟨O,o,z,np,q,hv,l,G⟩:=t
 match o,l,u,q with
 |[d,e],l,[x,y],_=>exact h i s k H x y j Q O d e z I r np (hv 0 d x rfl rfl) (hv 1 e y rfl rfl) l G
noncomputable def mh:D->Option (D×Bool)
 | .tup l=>some (.int l.length,false)
 | .lst l=>some (.int l.length,false)
 |_=>none
def jH:jx X (.builtin "len") (rDn X.K (g1 mh)):=nW λf s j H x u Q O d z I i np hd g G=>by
 cases d with
 |tup l=>
  cases g;obtain⟨p,h,rfl,q,r⟩:=jM hd;refine vH f s j H [_] [u] Q I (.cons i .nil) ⟨p,h,rfl,.inr q,?_⟩;rw[r.length];exact G.int
 |lst l=>
  cases g;obtain⟨p,h,rfl,q,r⟩:=jz hd;refine vH f s j H [_] [u] Q I (.cons i .nil) ⟨p,h,rfl,.inl q,?_⟩;rw[r.length];exact G.int
 |_=>cases g
noncomputable def oh:D->Option (D×Bool)
 | .int i=>some (.int (if i<0 then -i else i),false)
 |_=>none
def mr:jx X (.builtin "abs") (rDn X.K (g1 oh)):=nW λf s j H x u Q O d z I h np hd g G=>by
 cases d with
 |int i=>cases g;exact Nk f s j H [x] [u] Q I (.cons h .nil) ⟨i,by rw[gU hd],G.int⟩
 |_=>cases g
noncomputable def Pw:D->Option (D×Bool)
 | .int i=>some (.int i,false)
 | .bl b=>some (.int (if b then 1 else 0),false)
 |_=>none
def JQ:jx X (.type "int") (rDn X.K (g1 Pw)):=nW λf s j H x u Q O d z I h np hd g G=>by
 cases d with
 |int i=>cases g;exact Bn f s j H [x] [u] Q I (.cons h .nil) (.inl ⟨i,by rw[gU hd],G.int⟩)
 |bl i=>
  cases g;refine Bn f s j H [x] [u] Q I (.cons h .nil) (.inr ⟨i,by rw[Cr hd],?_⟩);have:=G.int;cases i<;>exact this
 |_=>cases g
noncomputable def lJ:D->Option (D×Bool)
 | .tup l=>some (.tup l,false)
 | .lst l=>some (.tup l,false)
 |_=>none
def kG:jx X (.type "tuple") (rDn X.K (g1 lJ)):=nW λf s o H x u Q O d z I k np hd g G=>by
 cases d with
 |tup l=>
  cases g;have j:Rep X.K H O (.tup l) x:=hd.elim id λ⟨_,_,z⟩=>z.elim;obtain⟨p,h,rfl,q,r⟩:=j.tup;exact tZ f s o H [_] [u] Q I (.cons k .nil) ⟨p,h,rfl,.inr ⟨q.sq,G _ H (λ_ _ e=>e) j⟩⟩
 |lst l=>
  cases g;obtain⟨p,h,rfl,q,r⟩:=jz hd;exact tZ f s o H [_] [u] Q I (.cons k .nil) ⟨p,h,rfl,.inl ⟨q,λt i=>G.tup i (np t (nOw i)) r⟩⟩
 |_=>cases g
noncomputable def ED:D->Option (D×Bool)
 | .tup l=>some (.lst l,true)
 | .lst l=>some (.lst l,true)
 |_=>none
def zH:jx X (.type "list") (rDn X.K (g1 ED)):=nW λf s k H x u Q O d z I j np hd g G=>by
 cases d with
 |tup l=>
  cases g;obtain⟨p,i,rfl,q,r⟩:=jM hd;exact vG f s k H [_] [u] Q I (.cons j .nil) ⟨p,i,rfl,.inr q,λt h=>G.lst h r⟩
 |lst l=>
  cases g;obtain⟨p,i,rfl,q,r⟩:=jz hd;exact vG f s k H [_] [u] Q I (.cons j .nil) ⟨p,i,rfl,.inl q,λt h=>G.lst h r⟩
 |_=>cases g
end
abbrev FT:=Dn->Option (Bool×Dn)
def tT(K:gK)(f:FT):TT:=λe H Q=> ∃d T b a,ER K H T e d/\f d=some (b,a)/\ ∀c,Keep e d H a c->ER K c T e a->Q b c
def PTX(X:Cx)(e:gy)(f:FT):Prop:=PT X e (tT X.K f)
def PWX(X:Cx)(e:gy)(f:FT):Prop:=PW X e (tT X.K f)
noncomputable def asB:(D×Bool)×Dn->Option (Bool×Dn)
 |((.bl b,_),a)=>some (b,a)
 |_=>none
noncomputable def fT(f:F):FT:=λδ=>(f δ).bind asB
def zQ(h:asB p=some q): ∃o,p=((.bl q.1,o),q.2):=by
 obtain⟨⟨d,o⟩,a⟩:=p
 cases d with
 |bl b=>cases h;exact⟨o,rfl⟩
 |_=>cases h
def Qa{K:gK}{f:F}{a:L2.St}{H:Hp}{Q:Bool->Hp->Prop}(h:tT K (fT f) a H Q):tF K f a H λx i=> ∃c,x= .bl c/\Q c i:=by
 obtain⟨l,T,b,m,E,e,k⟩:=h;obtain⟨p,h1,j⟩:=gg e;obtain⟨o,rfl⟩:=zQ j;refine⟨l,T,_,_,E,h1,λv g P=>?_⟩;obtain⟨d,r⟩:=P.rep E;exact⟨b,r.bl,k g P.1 d⟩
section
variable {X:Cx}{e a b c:gy}{m:jm}{C A:FO}{f g:F}{l n:FT}{i:Pos}
def PT.imp'(h:PT X e t)(k: ∀j H Q,p j H Q->t j H Q):PT X e p:=λd s j H Q I o=>h d s j H Q I (k j H Q o)
def PW.imp'(h:PW X e t)(k: ∀j H Q,p j H Q->t j H Q):PW X e p:=λwh d s j H Q I o=>h wh d s j H Q I (k j H Q o)
def Ox(h:PX X e f)(j: ∀d,isTrue e X.env d=(do let v <-d;standAt e.pos;holding [v] (truthy v))):PTX X e (fT f):=PT.imp' (RS h j) λo H Q k=>Qa k
def Pa{r:R2}{g:D->D->Option (D×Bool)}(N:Tw X.K r g){t:L2.St}{H:Hp}{Q:VK}(O:tF X.K (gr g C A) t H Q):tOp r (tO X.K C) (tO X.K A) t H Q:=by
 obtain⟨Y,T,R,F,E,e,k⟩:=O;obtain⟨⟨o,d⟩,h1,e⟩:=gg e;obtain⟨⟨U,q⟩,G,e⟩:=gg e;obtain⟨x,I,e⟩:=gg e;obtain⟨y,J,e⟩:=gg e;obtain⟨z,L,e⟩:=gg e;obtain⟨rfl,rfl⟩:=gO e;refine⟨Y,T,o,d,E,h1,λv P h=>⟨d,zS T o v,U,q,h.er E,G,λu w s=>?_⟩⟩;have B:=Ops.cons E h (Ops.cons (h.er E) s (Ops.nil (s.er (h.er E))));exact N x y z v u w _ Q (λp M=>B.np M) (B.view (j:=0) rfl rfl I) (B.view (j:=1) rfl rfl J) L (B.done k)
def UA{K:gK}{g:D->D->Option (D×Bool)}:Tw K (rD K g) g:=λx y z v u H O Q np h j d G=>⟨O,x,y,z,np,h,j,d,G⟩
def OA{d:CmpOp}{g:D->D->Option (D×Bool)}(o:OpR X (compareOp d) (rD X.K g))(h:PO X a C)(j:PO X b A)(k:behindInMarks d b=false):PTX X (.Compare a [d] [b] i) (fT (gr g C A)):=
 PT.imp' (OB o h j k) λq H Q p=>Pa UA (Qa p)
noncomputable def tV(f g:FT):FT:=λd=>(f d).bind λp=>if p.1=true then g p.2 else some (false,p.2)
noncomputable def xR(f g:FT):FT:=λδ=>(f δ).bind λp=>if p.1=true then some (true,p.2) else g p.2
noncomputable def mH(f:FT):FT:=λδ=>(f δ).bind λp=>some (!p.1,p.2)
def LB(d:PTX X a l):PWX X (.BoolOp .And [a] i) l:=Ou d
def Oq(d:PTX X a l):PWX X (.BoolOp .Or [a] i) l:=RO d
def Ot(u:PTX X a l)(v:PWX X (.BoolOp .And (b::m) i) n):PWX X (.BoolOp .And (a::b::m) i) (tV l n):=PW.imp' (RP u v) λy H Q w=>by
 obtain⟨x,T,c,h,E,e,k⟩:=w;obtain⟨⟨p,d⟩,h1,e⟩:=gg e;refine⟨x,T,p,d,E,h1,λr o j=>?_⟩
 cases p with
 |true=>
  rw[gD rfl] at e;rw[gD rfl];exact⟨d,T,c,h,j,e,λs t q=>k s (o.trans t) q⟩
 |false=>
  rw[gL je] at e;rw[gL je];obtain⟨rfl,rfl⟩:=gO e;exact k r o j
def RN(u:PTX X a l)(v:PWX X (.BoolOp .Or (b::m) i) n):PWX X (.BoolOp .Or (a::b::m) i) (xR l n):=PW.imp' (UG u v) λy H Q w=>by
 obtain⟨x,T,c,h,E,e,k⟩:=w;obtain⟨⟨p,d⟩,h1,e⟩:=gg e;refine⟨x,T,p,d,E,h1,λr o j=>?_⟩
 cases p with
 |true=>
  rw[gD rfl] at e;rw[gD rfl];obtain⟨rfl,rfl⟩:=gO e;exact k r o j
 |false=>
  rw[gL je] at e;rw[gL je];exact⟨d,T,c,h,j,e,λs t q=>k s (o.trans t) q⟩
def Oy(j:PTX X a l):PTX X (.UnaryOp .Not a i) (mH l):=PT.imp' (RT j) λr H Q o=>by
 obtain⟨p,T,c,q,E,e,k⟩:=o;obtain⟨⟨h,d⟩,h1,e⟩:=gg e;obtain⟨rfl,rfl⟩:=gO e;exact⟨p,T,h,d,E,h1,k⟩
noncomputable def sU(f g:F):F:=λd=>(f d).bind λp=>(asB p).bind λq=>if q.1=true then g q.2 else some ((.bl false,false),q.2)
noncomputable def fOr(f g:F):F:=λd=>(f d).bind λp=>(asB p).bind λq=>if q.1=true then some ((.bl true,false),q.2) else g q.2
noncomputable def M9(f:F):F:=λd=>(f d).bind λp=>(asB p).bind λq=>some ((.bl (!q.1),false),q.2)
theorem Post.pre{K:gK}{T:AP'}{h:L2.St}{δ δ1 δ2:Dn}{H j q:Hp}{r:D×Bool}{v:V}(k:Keep h δ H δ1 j)(P:Post K T h δ1 j r δ2 v q):Post K T h δ H r δ2 v q:=by
 refine⟨k.trans P.1,?_⟩;obtain⟨d,o⟩:=r
 cases o with
 |false=>exact P.2
 |true=>
  obtain⟨p,h1,s,t⟩:=P.2;refine⟨p,h1,?_,t⟩
  cases u:H p with
  |none=>rfl
  |some w=>exact absurd s (k.dm p (by rw[u];simp))
def RL(y:PX X a f)(z:PX X (.BoolOp .And (b::m) i) g):PX X (.BoolOp .And (a::b::m) i) (sU f g):=PX.imp (Sd y z) λJ H Q B=>by
 obtain⟨I,T,r,h,E,e,k⟩:=B;obtain⟨p,h1,e⟩:=gg e;obtain⟨⟨c,j⟩,x,d⟩:=gg e;obtain⟨o,rfl⟩:=zQ x;refine⟨I,T,_,_,E,h1,λv s P=>?_⟩;obtain⟨q,G⟩:=P.rep E;refine⟨c,G.bl,?_⟩
 cases c with
 |true=>
  rw[gD rfl] at d;rw[gD rfl];exact⟨j,T,r,h,q,d,λw t u=>k w t (u.pre P.1)⟩
 |false=>
  rw[gL je] at d;rw[gL je];obtain⟨rfl,rfl⟩:=gO d;exact k _ s (Post.val P.1 q Rep.mkBl)
def Om{op}(d:PX X a f):PX X (.BoolOp op [a] i) f:=R7 d
def RA(s:PX X a f):PX X (.UnaryOp .Not a i) (M9 f):=PX.imp (R8 s) λz H Q t=>by
 obtain⟨w,T,r,x,E,e,k⟩:=t;obtain⟨p,h1,e⟩:=gg e;obtain⟨⟨c,y⟩,q,j⟩:=gg e;obtain⟨o,rfl⟩:=zQ q;obtain⟨rfl,rfl⟩:=gO j;refine⟨w,T,_,_,E,h1,λv h P=>?_⟩;obtain⟨d,u⟩:=P.rep E;exact⟨c,u.bl,k _ h (Post.val P.1 d Rep.mkBl)⟩
noncomputable def fIf(t:FT)(f g:F):F:=λd=>(t d).bind λp=>if p.1=true then f p.2 else g p.2
def UD(u:PTX X c l)(s:PX X a f)(t:PX X b g):PX X (.IfExp c a b i) (fIf l f g):=PX.imp (L8 u s t) λz H Q v=>by
 obtain⟨x,T,r,h,E,e,k⟩:=v;obtain⟨⟨c,d⟩,h1,e⟩:=gg e;refine⟨x,T,c,d,E,h1,λy q p=>?_⟩
 cases c with
 |true=>rw[gD rfl] at e;rw[gD rfl];exact⟨d,T,r,h,p,e,λw j o=>k w j (o.pre q)⟩
 |false=>rw[gL je] at e;rw[gL je];exact⟨d,T,r,h,p,e,λw j o=>k w j (o.pre q)⟩
end
inductive Out where
 |nx(δ:Dn)|rt(r:D×Bool)(δ:Dn)|bk(δ:Dn)|ct(δ:Dn)
abbrev FS:=Dn->Option Out
structure SK(A:iZ)(σ:L2.St)(δ:Dn)(H:Hp)(σ':L2.St)(δ':Dn)(H':Hp):Prop where
 kp: ∀a o,H a=some o-> ¬OwnA σ δ a->H' a=some o
 owi: ∀i a,OwnI σ' δ' i a->OwnI σ δ i a\/H a=none
 dm: ∀a,H a≠none->H' a≠none
 as: ∀i,¬A i->σ'[i]?=σ[i]?
structure FI(L:iZ)(H0:Hp)(σ:L2.St)(δ:Dn)(H:Hp):Prop where
 ow: ∀i a,OwnI σ δ i a->L i\/H0 a=none
 dm: ∀a,H0 a≠none->H a≠none
def RV(K:gK)(T:AP')(f:Hp)(r:D×Bool)(c:L2.St)(b:Dn)(v:V)(e:Hp):Prop:=
 match r with
 |(d,false)=>ER K e T c b/\Rep K e (λa=>OwnA c b a\/T a) d v
 |(d,true)=> ∃p,v= .ref p/\f p=none/\ER K e (λa=>T a\/a=p) c b/\OwnOk K e (λa=>OwnA c b a\/T a\/a=p) d p
section
variable {A:iZ}{c b l:L2.St}{δ δ1 δ2:Dn}{H j g m:Hp}{L:iZ}{K:gK}{T:AP'}
def SK.refl:SK A c δ H c δ H:=⟨λ_ _ e _=>e,λ_ _ z=> .inl z,λ_ z=>z,λ_ _=>rfl⟩
theorem SK.ow(k:SK A c δ H b δ1 g)(a:gm)(h:OwnA b δ1 a):OwnA c δ a\/H a=none:=by
 obtain⟨i,d,h1,f⟩:=h;rcases k.owi i a ⟨d,h1,f⟩ with⟨e,n,o⟩|z
 ·exact .inl ⟨i,e,n,o⟩
 ·exact .inr z
theorem SK.trans(x:SK A c δ H b δ1 g)(y:SK A b δ1 g l δ2 m):SK A c δ H l δ2 m where
 kp:=λa o e n=>y.kp a o (x.kp a o e n) λz=>(x.ow a z).elim n λz=>by rw[z] at e;cases e
 owi:=λi a z=>(y.owi i a z).elim (x.owi i a) λz=> .inr (by
  cases h:H a with
  |none=>rfl
  |some o=>exact absurd z (x.dm a (by rw[h];simp)))
 dm:=λa z=>y.dm a (x.dm a z)
 as:=λi h=>(y.as i h).trans (x.as i h)
def Keep.sk(k:Keep c δ H δ1 g):SK A c δ H c δ1 g:=⟨k.kp,λi a z=> .inl (k.owi i a z),k.dm,λ_ _=>rfl⟩
def FI.step(f:FI L j c δ H)(k:SK A c δ H b δ1 g):FI L j b δ1 g where
 ow:=λi a z=>(k.owi i a z).elim (f.ow i a) λz=> .inr (by
  cases h:j a with
  |none=>rfl
  |some o=>exact absurd z (f.dm a (by rw[h];simp)))
 dm:=λa z=>k.dm a (f.dm a z)
theorem FI.fresh(f:FI L j c δ H)(a:H p=none):j p=none:=by
 cases h:j p with
 |none=>rfl
 |some o=>exact absurd a (f.dm p (by rw[h];simp))
end
def tS(K:gK)(A L:iZ)(h:Hp)(f:FS):TS:=λD e H=> ∃d T g,ER K H T e d/\FI L h e d H/\f d=some g/\
 match g with
 | .nx b=> ∀a c,SK A e d H a b c->ER K c T a b->D.nx a c
 | .bk b=> ∀a c,SK A e d H a b c->ER K c T a b->D.bk a c
 | .ct b=> ∀a c,SK A e d H a b c->ER K c T a b->D.ct a c
 | .rt r b=> ∀v a c,SK A e d H a b c->RV K T h r a b v c->D.rt v c
def PSX(X:Cx)(A L:iZ)(a:Hp)(st:Stmt)(f:FS):Prop:=PS X st (tS X.K A L a f)
def Dw(X:Cx)(A L:iZ)(a:Hp)(st:List Stmt)(f:FS):Prop:=PSs X st (tS X.K A L a f)
noncomputable def gH:FS:=λδ=>some (.nx δ)
noncomputable def gx(f g:FS):FS:=λδ=>(f δ).bind λo=>match o with
 | .nx δ1=>g δ1
 |o=>some o
noncomputable def lQ(f:F):FS:=λa=>(f a).bind λp=>some (.nx p.2)
noncomputable def jA(f:F):FS:=λa=>(f a).bind λp=>some (.rt p.1 p.2)
noncomputable def ni(i:Nat):FS:=λa=>match a[i]? with
 |some (some (d,true))=>some (.rt (d,true) (a.set i none))
 |some (some (d,false))=>some (.rt (d,false) a)
 |_=>none
noncomputable def sIf(t:FT)(f g:FS):FS:=λδ=>(t δ).bind λp=>if p.1=true then f p.2 else g p.2
noncomputable def iq(i:Nat)(f:F):FS:=λδ=>(f δ).bind λp=>if i<p.2.length then some (.nx (p.2.set i (some p.1))) else none
section
variable {X:Cx}{A L:iZ}{i:Hp}{st:Stmt}{sts:List Stmt}{f g:FS}{l:F}{m:FT}{e c:gy}{j:Pos}
def PS.imp'(h:PS X st t)(k: ∀D b H,n D b H->t D b H):PS X st n:=λa s b H D I d=>h a s b H D I (k D b H d)
def PSs.imp'(h:PSs X sts t)(k: ∀D b H,n D b H->t D b H):PSs X sts n:=λa s b H D I d=>h a s b H D I (k D b H d)
def LH:Dw X A L i [] gH:=PSs.imp' OG λD d H a=>by
 obtain⟨n,T,b,E,h,e,k⟩:=a;cases e;exact k d H .refl E
def Jj(h1:PSX X A L i st f)(w:Dw X A L i sts g):Dw X A L i (st::sts) (gx f g):=PSs.imp' (LI h1 w) λD G H y=>by
 obtain⟨z,T,s,E,t,e,k⟩:=y;obtain⟨o,x,e⟩:=gg e;refine⟨z,T,o,E,t,x,?_⟩
 cases o with
 |nx b=>
  intro B C q u;refine⟨b,T,s,u,t.step q,e,?_⟩
  cases s with
  |nx n=>exact λa d h p=>k a d (q.trans h) p
  |bk n=>exact λa d h p=>k a d (q.trans h) p
  |ct n=>exact λa d h p=>k a d (q.trans h) p
  |rt r n=>exact λv a d h R2=>k v a d (q.trans h) R2
 |rt r b=>cases e;exact k
 |bk b=>cases e;exact k
 |ct b=>cases e;exact k
def LD(h:PX X e l)(d:swapsWith e none j.line X.env=pure false):PSX X A L i (.Expr e j) (lQ l):=PS.imp' (OH h d) λD r H n=>by
 obtain⟨q,T,o,E,s,e,k⟩:=n;obtain⟨p,b,e⟩:=gg e;cases e;exact⟨q,T,p.1,p.2,E,b,λv a P=>k r a P.1.sk (P.rep E).1⟩
def OE(h:PX X e l):PSX X A L i (.Return (some e) j) (jA l):=PS.imp' (LK h) λD x H s=>by
 obtain⟨u,T,t,E,n,e,k⟩:=s;obtain⟨p,a,e⟩:=gg e;cases e;refine⟨u,T,p.1,p.2,E,a,λv b P=>k v x b P.1.sk ?_⟩;obtain⟨⟨d,o⟩,w⟩:=p
 cases o with
 |false=>exact P.2
 |true=>
  obtain⟨q,h1,r,a⟩:=P.2;exact⟨q,h1,n.fresh r,a⟩
def RU(J:PTX X c m)(G:Dw X A L i a f)(I:Dw X A L i b g):PSX X A L i (.If c a b j) (sIf m f g):=PS.imp' (UH J G I) λD w H N=>by
 obtain⟨y,T,q,E,C,e,k⟩:=N;obtain⟨⟨c,n⟩,h1,e⟩:=gg e;refine⟨y,T,c,n,E,h1,λx B z=>?_⟩;have u:SK A w y H w n x:=B.sk
 have fin: ∀(h:FS),h n=some q->tS X.K A L i h D w x:=λh M=>by
  refine⟨n,T,q,z,C.step u,M,?_⟩
  cases q with
  |nx s=>exact λd o p t=>k d o (u.trans p) t
  |bk s=>exact λd o p t=>k d o (u.trans p) t
  |ct s=>exact λd o p t=>k d o (u.trans p) t
  |rt r s=>exact λv d o p R2=>k v d o (u.trans p) R2
 cases c with
 |true=>rw[gD rfl] at e;exact(show(if true=true then tS X.K A L i f D w x else _) from by rw[gD rfl];exact fin f e)
 |false=>rw[gL je] at e;exact(show(if false=true then _ else tS X.K A L i g D w x) from by rw[gL je];exact fin g e)
end
def kj{b:Type}{l:List b}{i j:Nat}{x y:b}(h:(l.set i x)[j]?=some y):(i=j/\i<l.length/\y=x)\/(i≠j/\l[j]?=some y):=by
 rw[Cb] at h;split at h
 ·rename_i a;split at h
  ·rename_i c;exact .inl ⟨a,c,(jw h).symm⟩
  ·cases h
 ·rename_i a;exact .inr ⟨a,h⟩
section
variable {K:gK}{T:AP'}{f:L2.St}{l c:Dn}{H g:Hp}{x:D×Bool}{v:V}{i:Nat}
def OwnI.store{j:Nat}{a:gm}(h:OwnI (f.set i (some v)) (l.set i (some x)) j a):(i≠j/\OwnI f l j a)\/(i=j/\x.2=true/\v= .ref a):=by
 obtain⟨d,h1,m⟩:=h;rcases kj h1 with⟨e,_,q⟩|⟨ne,q⟩
 ·rcases kj m with⟨_,_,k⟩|⟨b,_⟩
  ·right;cases q;exact⟨e,rfl,(jw k).symm⟩
  ·exact absurd e b
 ·rcases kj m with⟨n,_,_⟩|⟨_,k⟩
  ·exact absurd n ne
  ·exact .inl ⟨ne,d,q,k⟩
def OwnA.store(h:OwnA (f.set i (some v)) (l.set i (some x)) a):OwnA f l a\/(x.2=true/\v= .ref a):=by
 obtain⟨j,d,h1,k⟩:=h;rcases OwnI.store ⟨d,h1,k⟩ with⟨_,e,b,m⟩|⟨_,b⟩
 ·exact .inl ⟨j,e,b,m⟩
 ·exact .inr b
def ER.store(h:ER K g (Tmp T x v) f c)(E:i<c.length)(u:match x with|(d,false)=>Rep K g (λa=>OwnA f c a\/T a) d v|(d,true)=> ∃p,v= .ref p/\ ¬T p/\OwnOk K g (λa=>OwnA f c a\/T a\/a=p) d p):
  ER K g T (f.set i (some v)) (c.set i (some x)):=by
 have r:i<f.length:=by rw[h.len];exact E
 have sub: ∀b,g b≠none->(OwnA (f.set i (some v)) (c.set i (some x)) b\/T b)->(OwnA f c b\/Tmp T x v b):=λb _ z=>by
  rcases z with z|z
  ·rcases z.store with z|z
   ·exact .inl z
   ·exact .inr (.inr z)
  ·exact .inr (.inl z)
 refine⟨by rw[uM,uM];exact h.len,λj d o=>?_,λj d o=>?_,λj k d e a o hk h1 n=>?_,λa z=>?_,λa z=>h.dom a (.inl z)⟩
 ·rcases kj o with⟨rfl,_,q⟩|⟨ne,q⟩
  ·have q:=jw q;subst q
   exact⟨v,uO r,Rep.mono (λ_ _ e _=>e) (λb C z=>by
    rcases z with z|z
    ·rcases z.store with z|z
     ·exact .inl z
     ·exact absurd z.1 (by simp)
    ·exact .inr z) u⟩
  ·obtain⟨w,h1,n⟩:=h.val j d q;exact⟨w,by rw[tE ne];exact h1,Rep.mono (λ_ _ e _=>e) sub n⟩
 ·rcases kj o with⟨rfl,_,q⟩|⟨ne,q⟩
  ·have q:=jw q;subst q;obtain⟨p,rfl,np,ok⟩:=u;refine⟨p,uO r,ok.mono (λ_ _ e _=>e) (λb C z=>?_) λ_ e=>e⟩;rcases z with z|z
   ·rcases z.store with z|z
    ·exact .inl z
    ·have:=z.2;cases this;exact .inr (.inr rfl)
   ·exact .inr (.inl z)
  ·obtain⟨a,h1,n⟩:=h.own j d q;exact⟨a,by rw[tE ne];exact h1,n.mono (λ_ _ e _=>e) sub λ_ e=>e⟩
 ·rcases OwnI.store ⟨d,o,h1⟩ with⟨I,y,g1,g2⟩|⟨B,g1,g2⟩
  ·rcases OwnI.store ⟨e,hk,n⟩ with⟨G,s,g3,m⟩|⟨A,g3,m⟩
   ·exact h.inj j k y s a g1 g3 g2 m
   ·exact absurd (Or.inr ⟨g3,m⟩) (h.nT a ⟨j,y,g1,g2⟩)
  ·rcases OwnI.store ⟨e,hk,n⟩ with⟨G,s,g3,m⟩|⟨A,g3,m⟩
   ·exact absurd (Or.inr ⟨g1,g2⟩) (h.nT a ⟨k,s,g3,m⟩)
   ·exact B.symm.trans A
 ·rcases z.store with z|z
  ·exact λt=>h.nT a z (.inl t)
  ·obtain⟨d,b⟩:=x
   cases b with
   |false=>exact absurd z.1 (by simp)
   |true=>
    obtain⟨p,rfl,np,_⟩:=u;have:=z.2;cases this;exact np
def SK.store(k:Keep f l H c g)(b:A i)(h:x.2=true-> ∀p,v= .ref p->H p=none):SK A f l H (f.set i (some v)) (c.set i (some x)) g where
 kp:=k.kp
 owi:=λj a z=>by
  rcases z.store with⟨_,z⟩|⟨_,m,n⟩
  ·exact .inl (k.owi j a z)
  ·exact .inr (h m a n)
 dm:=k.dm
 as:=λj d=>tE (λ(e:i=j)=>d (by subst e;exact b))
end
section
variable {X:Cx}{A L:iZ}{m:Hp}{l:F}{e c:gy}{g f:Pos}
def yH{K:gK}{T:AP'}{b:L2.St}{n a:Dn}{H j:Hp}{r:D×Bool}{v:V}{i:Nat}(E:ER K H T b n)(P:Post K T b n H r a v j)(u:i<a.length)(t:A i):
  SK A b n H (b.set i (some v)) (a.set i (some r)) j/\ER K j T (b.set i (some v)) (a.set i (some r)):=by
 have w:r.2=true-> ∀p,v= .ref p->H p=none:=λh p hv=>by
  obtain⟨d,o⟩:=r
  cases o with
  |false=>cases h
  |true=>obtain⟨q,h1,k,_⟩:=P.2;rw[hv] at h1;cases h1;exact k
 refine⟨SK.store P.1 t w,ER.store (P.er E) u ?_⟩;obtain⟨d,o⟩:=r
 cases o with
 |false=>exact P.2.2
 |true=>
  obtain⟨p,rfl,k,x,s⟩:=P.2;exact⟨p,rfl,λz=>(E.dom p z).ne k,s⟩
def OD{i:Nat}{x:Str}(n:X.N.Nodup)(a:X.N[i]?=some x)(u:Loc X.env.scope x)(p:PX X e l)(s:swapsWith e (some (.Name x f)) g.line X.env=pure false)(q:X.fn x=true\/X.env.scope.names.lookup x=some .local)(o:A i):
  PSX X A L m (.Assign [.Name x f] e g) (iq i l):=PS.imp' (RW n a u p s q) λD B H t=>by
 obtain⟨y,T,w,E,z,e,k⟩:=t;obtain⟨⟨r,b⟩,j,e⟩:=gg e;obtain⟨a,rfl⟩:=gX e;refine⟨y,T,r,b,E,j,λv d P=>?_⟩;obtain⟨h1,h⟩:=yH (A:=A) E P a o;exact k _ d h1 h
def Gw{i:Nat}{x:Str}(Y:X.N[i]?=some x)(hv:Vis X.env.scope x)(hd:(x==("__debug__":Str))=false)(t5:(x==("__classdict__":Str))=false)(hl: ¬L i):PSX X A L m (.Return (some (.Name x f)) g) (ni i):=PS.imp' (LK (GC Y hv hd t5)) λD u H K=>by
 obtain⟨s,T,P,E,U,e,k⟩:=K;unfold ni at e
 cases o:s[i]? with
 |none=>rw[o] at e;cases e
 |some q=>
  cases q with
  |none=>rw[o] at e;cases e
  |some p=>
   obtain⟨d,b⟩:=p;have F:i<s.length:=(uQ.mp o).1
   cases b with
   |false=>
    rw[o] at e;cases e;obtain⟨v,h1,C⟩:=E.val i d o;exact⟨v,h1,k v u H .refl ⟨E,C⟩⟩
   |true=>
    rw[o] at e;cases e;obtain⟨a,h1,C⟩:=E.own i d o
    have h: ∀j b,OwnI u (s.set i none) j b->i≠j/\OwnI u s j b:=λj b ⟨r,g1,g2⟩=>by
     rcases kj g1 with⟨_,_,q⟩|⟨ne,q⟩
     ·cases q
     ·exact⟨ne,r,q,g2⟩
    have n: ∀b,OwnA u (s.set i none) b->OwnA u s b/\b≠a:=λb ⟨j,r,g1,g2⟩=>by
     obtain⟨ne,B,g3,J⟩:=h j b ⟨r,g1,g2⟩;exact⟨⟨j,B,g3,J⟩,λz=>ne (by subst z;exact E.inj i j d B _ o g3 h1 J)⟩
    have M:OwnA u s a:=⟨i,d,o,h1⟩
    have sub: ∀b,H b≠none->(OwnA u (s.set i none) b\/(T b\/b=a))->(OwnA u s b\/T b):=λb _ z=>by
     rcases z with z|z|z
     ·exact .inl (n b z).1
     ·exact .inr z
     ·subst z;exact .inl M
    refine⟨.ref a,h1,k (.ref a) u H ⟨λ_ _ e _=>e,λj b z=> .inl (h j b z).2,λ_ z=>z,λ_ _=>rfl⟩ ⟨a,rfl,?_,?_,C.mono (λ_ _ e _=>e) sub λ_ e=>e⟩⟩
    ·rcases U.ow i a ⟨d,o,h1⟩ with z|z
     ·exact absurd z hl
     ·exact z
    ·refine⟨by rw[uM];exact E.len,λj r y=>?_,λj r y=>?_,λj k r Q b y hk g1 g2=>?_,λb z t=>?_,λb z=>?_⟩
     ·rcases kj y with⟨_,_,q⟩|⟨ne,q⟩
      ·cases q
      ·obtain⟨w,G,I⟩:=E.val j r q;exact⟨w,G,Rep.mono (λ_ _ e _=>e) sub I⟩
     ·rcases kj y with⟨_,_,q⟩|⟨ne,q⟩
      ·cases q
      ·obtain⟨w,G,I⟩:=E.own j r q;exact⟨w,G,I.mono (λ_ _ e _=>e) sub λ_ e=>e⟩
     ·obtain⟨_,B,R,S⟩:=h j b ⟨r,y,g1⟩;obtain⟨_,O,V,W⟩:=h k b ⟨Q,hk,g2⟩;exact E.inj j k B O b R V S W
     ·obtain⟨Z,z2⟩:=n b z;rcases t with t|t
      ·exact E.nT b Z t
      ·exact z2 t
     ·rcases z with z|z
      ·exact E.dom b z
      ·subst z;exact E.ownOw M
end
abbrev Tg:=D->Dn->Option Dn
def tG(K:gK)(A:iZ)(g:Tg):TG:=λv f H Q=> ∃e T d b,ER K H T f e/\Rep K H (λa=>OwnA f e a\/T a) d v/\g d e=some b/\ ∀c,SK A f e H c b H->ER K H T c b->Q c H
def PGX(X:Cx)(A:iZ)(e:gy)(a:Tg):Prop:=PG X e (tG X.K A a)
noncomputable def gq(i:Nat):Tg:=λd δ=>if i<δ.length then some (δ.set i (some (d,false))) else none
noncomputable def Hw:List Tg->List D->Dn->Option Dn
 |[],[],a=>some a
 |t::b,d::ds,a=>(t d a).bind (Hw b ds)
 |_,_,_=>none
noncomputable def uT(a:List Tg):Tg
 | .tup ds,δ=>Hw a ds δ
 |_,_=>none
def tGs(K:gK)(A:iZ)(g:List Tg):TGs:=λh e H Q=> ∃d T f b,ER K H T e d/\RepL K H (λa=>OwnA e d a\/T a) f h/\Hw g f d=some b/\ ∀c,SK A e d H c b H->ER K H T c b->Q c H
section
variable {X:Cx}{A:iZ}{g:Pos}{e:gy}{f:jm}{t:Tg}{c:List Tg}
def PG.imp'{t d:TG}(h:PG X e t)(k: ∀v b H Q,d v b H Q->t v b H Q):PG X e d:=λa s b H v u Q I r i=>h a s b H v u Q I r (k v b H Q i)
def PGs.imp'{t d:TGs}(h:PGs X f t)(k: ∀v b H Q,d v b H Q->t v b H Q):PGs X f d:=λa s b H v u Q I r i=>h a s b H v u Q I r (k v b H Q i)
def LY{i:Nat}{x:Str}(h:X.N.Nodup)(a:X.N[i]?=some x)(n:Loc X.env.scope x)(l:X.fn x=true\/X.env.scope.names.lookup x=some .local)(j:A i):PGX X A (.Name x g) (gq i):=PG.imp' (HL h a n l) λv q H Q m=>by
 obtain⟨p,T,d,o,E,r,e,k⟩:=m;obtain⟨a,rfl⟩:=gX e;obtain⟨h1,b⟩:=yH (A:=A) (r:=(d,false)) (v:=v) E (Post.val .refl E r) a j;exact k _ h1 b
def LZ:PGs X [] (tGs X.K A []):=PGs.imp' OP λv h H Q b=>by
 obtain⟨i,T,a,d,E,r,e,k⟩:=b
 cases a with
 |nil=>
  cases e;rw[RepL] at r;exact⟨r,k h .refl E⟩
 |cons _ _=>cases e
def AQ(h1:PGX X A e t)(p:PGs X f (tGs X.K A c))(u:(assignEach (e::f) X.env).map (·.2)=assign e X.env::(assignEach f X.env).map (·.2)):PGs X (e::f) (tGs X.K A (t::c)):=PGs.imp' (L0 h1 p u) λv J H Q w=>by
 obtain⟨G,T,h,i,E,r,e,k⟩:=w
 cases h with
 |nil=>cases e
 |cons d h=>
  rw[RepL] at r;obtain⟨B,C,rfl,x,y⟩:=r;obtain⟨a,q,e⟩:=gg e;refine⟨B,C,rfl,G,T,d,a,E,x,q,λI l m=>⟨a,T,h,i,m,?_,e,λj o n=>k j (l.trans o) n⟩⟩;exact RepL.mono (λ_ _ e _=>e) (λb s z=>z.elim (λz=>(l.ow b z).elim Or.inl λz=>absurd z s) Or.inr) y
def ON{k:Nat}(o:X.calm=true)(h:PGs X f (tGs X.K A c)){n:Nat}(s:(assignEach f X.env).length=n)(p:c.length=n)(x:(assignEach f X.env).findIdx? (·.1)=none):PGX X A (.Tuple f k g) (uT c):=PG.imp' (R5 o h s x) λv z H Q u=>by
 obtain⟨i,T,d,j,E,r,e,k⟩:=u
 cases d with
 |tup b=>
  obtain⟨a,y,rfl,q,m⟩:=r.tup;refine⟨a,y,rfl,q.sq,?_,i,T,b,j,E,m,e,k⟩
  have: ∀(c:List Tg) (b:List D) (i:Dn),Hw c b i=some j->b.length=c.length:=by
   intro c
   induction c with
   |nil=>intro b i h;cases b with|nil=>rfl|cons _ _=>cases h
   |cons t c w=>
    intro b i h
    cases b with
    |nil=>cases h
    |cons d b=>obtain⟨l,_,h⟩:=gg h;simp[w b l h]
  rw[m.length,this c b i e,p]
 |_=>cases e
end
abbrev SB:=Nat->Prop
def OwB(B:SB)(T:AP')(c:L2.St)(b:Dn):AP':=λa=>(∃i,¬B i/\OwnI c b i a)\/T a
def OwB.own(h:OwB B T σ δ a):OwnA σ δ a\/T a:=h.imp (λ⟨i,_,d,h1,b⟩=>⟨i,d,h1,b⟩) id
structure ItOk(K:gK)(J:It)(ds:List D)(P O:AP')(H1:Hp):Prop where
 go: ∀(i:Nat) d Hi,ds[i]?=some d->(∀a o,H1 a=some o-> ¬P a->Hi a=some o)->J.go i Hi/\ ∀x H',J.yld i Hi x H'->(∀a o,Hi a=some o->H' a=some o)/\
  ∀O':AP',(∀b,H1 b≠none->O' b->O b)->(∀b,Hi b=none-> ¬O' b)->Rep K H' O' d x
 stop: ∀(i:Nat) Hi,ds.length<=i->(∀a o,H1 a=some o-> ¬P a->Hi a=some o)->J.stop i Hi
abbrev FIt:=Dn->Option (List D×Dn)
def tI(K:gK)(B:SB)(g:FIt):TI:=λc H R=> ∃e T f b,ER K H T c e/\g e=some (f,b)/\ ∀J d,Keep c e H b d->ER K d T c b->ItOk K J f (OwB B T c b) (λa=>OwnA c b a\/T a) d->R J d
def PIX(X:Cx)(B:SB)(tg iter:gy)(a:FIt):Prop:=PI X tg iter (tI X.K B a)
noncomputable def yK:D->Option (List D)
 | .tup l=>some l
 | .lst l=>some l
 |_=>none
noncomputable def GR(f:FO):FIt:=λa=>(f a).bind λp=>(res p.2 p.1).bind λd=>(yK d).bind λl=>some (l,p.2)
noncomputable def ie(f:F):FIt:=λδ=>(f δ).bind λp=>match p.1.1 with
 | .lst l=>some (l,p.2)
 | .tup l=>some (l,p.2)
 |_=>none
noncomputable def gQ(lo:Int)(n:Nat):List D:=(List.range n).map λ(k:Nat)=> .int (lo+k)
noncomputable def uD(f:FO):FIt:=λδ=>(jj [f] δ).bind λp=>match sO p.2 p.1 with
 |some [.int j]=>if -(2^62)<=j/\j<2^62 then some (gQ 0 j.toNat,p.2) else none
 |_=>none
def SlB(B:SB)(f:FO):Prop:= ∀b i a,f b=some (.slot i,a)->B i
def NZ:SlB B (gi f):=λb i a h=>by
 obtain⟨p,_,h⟩:=gg h;cases h
def HB(h:B i):SlB B (gh i):=λb j a e=>by
 unfold gh at e;split at e<;>cases e
 exact h
noncomputable def isL:D->Bool
 | .lst _=>true
 |_=>false
def SqA(b:Bool)(K:gK)(H:Hp)(P:AP')(a:gm)(c:List V):Prop:=if b=true then SqLO K H P a c else SqTO K H P a c
def SqA.mono{K H c}{P d:AP'}(q:SqA b K H P a xs)(k: ∀b o,H b=some o-> ¬P b->c b=some o)(e: ∀b,d b->P b):SqA b K c d a xs:=by
 cases b with
 |true=>exact SqLO.mono q k λb _=>e b
 |false=>exact SqTO.mono (K:=K) q k λb _=>e b
theorem SqA.l{K H}(q:SqA true K H P a xs):SqL K H a xs:=SqLO.sq q
theorem SqA.t{K H}(q:SqA false K H P a xs):SqT K H a xs:=SqTO.sq (K:=K) q
def I9{K H}(h:yK d=some l)(r:Rep K H O d v): ∃a b,v= .ref a/\SqA (isL d) K H O a b/\RepL K H O l b:=by
 cases d with
 |tup m=>cases h;obtain⟨a,b,rfl,q,c⟩:=r.tup;exact⟨a,b,rfl,q,c⟩
 |lst m=>cases h;obtain⟨a,b,rfl,q,c⟩:=r.lst;exact⟨a,b,rfl,q,c⟩
 |_=>cases h
def Ops.seq{K:gK}{T C:AP'}{h:L2.St}{A c:Dn}{H n:Hp}{os:List Opd}{y:List V}(E:ER K H T h A)(W:Ops K T h A H os y c n C){j:Nat}(h1:os[j]?=some o)(x:y[j]?=some v)(s:res c o=some d)(t:yK d=some l)(I: ∀i,o= .slot i->B i):
  ∃a g,v= .ref a/\SqA (isL d) K n (OwB B T h c) a g/\RepL K n (λa=>OwnA h c a\/T a) l g:=by
 have fin:Rep K n (λa=>OwnA h c a\/T a) d v-> ∃a g,v= .ref a/\SqA (isL d) K n (OwB B T h c) a g/\RepL K n (λa=>OwnA h c a\/T a) l g:=λr=>by
  obtain⟨a,g,rfl,q,u⟩:=I9 t r;exact⟨a,g,rfl,q.mono (λ_ _ e _=>e) λa z=>z.own,u⟩
 cases o with
 |val r=>cases s;exact fin (W.rep E h1 x)
 |slot i=>
  have hk:=W.slt j i _ h1 x
  have hd: ∃f,c[i]?=some (some (d,f)):=by
   unfold res at s;dsimp only at s;split at s<;>cases s
   exact⟨_,by assumption⟩
  obtain⟨f,hd⟩:=hd
  cases f with
  |false=>
   obtain⟨w,p,G⟩:=W.er.val i _ hd;rw[hk] at p;cases p;exact fin (Rep.mono (λ_ _ e _=>e) (λb _ z=>z.imp id (W.tt b)) G)
  |true=>
   obtain⟨a,p,ok⟩:=W.er.own i _ hd;rw[hk] at p;cases p
   cases d with
   |lst m=>
    cases t;obtain⟨g,e,u⟩:=ok;exact⟨a,g,rfl,.inl ⟨.inl e,λz=>z.elim (λ⟨k,J,L,g1,g2⟩=>J (W.er.inj i k _ _ a hd g1 hk g2▸I i rfl)) λz=>W.er.nT a ⟨i,_,hd,hk⟩ (W.tt a z)⟩,RepL.mono (λ_ _ e _=>e) (λb _ z=>z.imp id (W.tt b)) u⟩
   |tup m=>exact ok.elim
   |_=>cases t
section
variable {X:Cx}{B:SB}{tg e:gy}{f:F}{c:FO}{g p:Pos}
def PI.imp'(h:PI X tg e t)(k: ∀b H R,i b H R->t b H R):PI X tg e i:=λa s b H R I d=>h a s b H R I (k b H R d)
def PI.or(h:PI X tg e t)(d:PI X tg e j):PI X tg e (λb H R=>t b H R\/j b H R):=λa s b H R I i=>i.elim (h a s b H R I) (d a s b H R I)
noncomputable def ItS(b:Bool)(K:gK)(a:gm):It:=if b=true then Itl K a else Itt K a
def MS{K:gK}{P O:AP'}{m:Hp}{a:gm}{k:List V}{l:List D}(q:SqA b K m P a k)(r:RepL K m O l k)(v: ∀a,P a->O a):ItOk K (ItS b K a) l P O m:=by
 cases b<;>(
  refine⟨λi d Hi hd j=>?_,λi Hi w j=>?_⟩
  ·have h:=SqA.mono q j λ_ z=>z
   first|replace h:=h.l|replace h:=h.t
   obtain⟨x,u,A⟩:=r.get hd;refine⟨⟨k,x,h,u⟩,λy C s=>?_⟩;obtain⟨rfl,s⟩:=s;have:=s k h;rw[u] at this;cases this;exact⟨λ_ _ e=>e,λE h1 G=>Rep.mono (λb o e n=>j b o e λz=>n (v b z)) h1 A⟩
  ·exact⟨k,by first|exact(SqA.mono q j λ_ z=>z).l|exact(SqA.mono q j λ_ z=>z).t,by rw[r.length];exact w⟩)
def zo{K:gK}{P O:AP'}{b:Hp}(lo:Int)(n:Nat):ItOk K (Itr lo n) (gQ lo n) P O b:=by
 refine⟨λi d Hi hd j=>?_,λi Hi a j=>?_⟩
 ·unfold gQ at hd;rw[kY] at hd;obtain⟨k,h1,h⟩:=iC hd;have a:i<n:=by have:=(uQ.mp h1).1;simpa using this
  have hk:k=i:=by rw[List.getElem?_range a] at h1;exact(jw h1).symm
  subst hk;refine⟨a,λy m l=>?_⟩;obtain⟨rfl,rfl⟩:=l;refine⟨λ_ _ e=>e,λo _ _=>?_⟩;rw[<-h];exact Rep.mkInt
 ·unfold gQ at a;have:n<=i:=by simpa using a
  exact this
def LQ(h:PO X e c)(G:SlB B c):PIX X B tg e (GR c):=PI.imp' (PI.or (OM (tg:=tg) h) (R3 h)) λA H R J=>by
 obtain⟨x,T,N,M,E,e,k⟩:=J;obtain⟨⟨o,w⟩,h1,e⟩:=gg e;obtain⟨d,C,e⟩:=gg e;obtain⟨l,y,e⟩:=gg e;obtain⟨rfl,rfl⟩:=gO e
 have u: ∀v n,PostO X.K T A x H o w v n-> ∃a s,v= .ref a/\SqA (isL d) X.K n (OwB B T A w) a s/\R (ItS (isL d) X.K a) n:=λv n P=>by
  have W:=Ops.cons E P (Ops.nil (P.er E));obtain⟨a,s,rfl,q,L⟩:=W.seq E (j:=0) rfl rfl C y λi I=>G _ _ _ (I▸h1);exact⟨a,s,rfl,q,k _ n W.keep (W.er.mono (λ_ _ e _=>e) (λb _ z=>W.tt b z) (λa z=>W.er.dom a (W.tt a z))) (MS q L λa z=>z.own)⟩
 cases d with
 |lst m=>exact .inl ⟨x,T,_,_,E,h1,λv n P=>let⟨a,s,e,q,r⟩:=u v n P;⟨a,e,⟨s,q.l⟩,r⟩⟩
 |tup m=>exact .inr ⟨x,T,_,_,E,h1,λv n P=>let⟨a,s,e,q,r⟩:=u v n P;⟨a,e,⟨s,q.t⟩,r⟩⟩
 |_=>cases y
def OI(h:PX X e f):PIX X B tg e (ie f):=PI.imp' (LQ (B:=B) (PX.po h) NZ) λj H R a=>by
 have:ie f=GR (gi f):=funext λb=>by
  unfold ie GR gi
  cases f b with
  |none=>rfl
  |some p=>obtain⟨⟨d,o⟩,i⟩:=p;cases d<;>rfl
 rwa [this] at a
end
noncomputable def lA(c:Tg)(b:FS):List D->FS
 |[],δ=>some (.nx δ)
 |d::ds,δ=>(c d δ).bind λδ1=>(b δ1).bind λo=>match o with
  | .nx a=>lA c b ds a
  | .ct a=>lA c b ds a
  | .bk a=>some (.nx a)
  | .rt r a=>some (.rt r a)
noncomputable def nQ(b:FIt)(c:Tg)(a:FS):FS:=λδ=>(b δ).bind λp=>lA c a p.1 p.2
section
variable {X:Cx}{A L:iZ}{l:Hp}{g iter:gy}{c:List Stmt}{j:FIt}{t:Tg}{f:FS}{h:Pos}
def OF(hp:PassesOwn (model X.prog X.w) X.A X.env X.xe)(hc:X.calm=true)(hi:PIX X (λ_=>False) g iter j)(hg:PGX X A g t)(N:Dw X A L l c f)(hs: ∀x,foldedSetIterable iter X.env x=pure x):
  PSX X A L l (.For g iter c [] h) (nQ j t f):=PS.imp' (RX hp hc hi hg N hs) λD O H hw=>by
 obtain⟨δ,T,R,E,fW,e,k⟩:=hw;obtain⟨⟨u,q⟩,h1,e⟩:=gg e;refine⟨δ,T,u,q,E,h1,λJ Y K1 E1 ok=>?_⟩;have V:SK A O δ H O q Y:=K1.sk;refine⟨λi m s C=>m=u.length-i/\i<=u.length/\ ∃p,SK A O q Y s p C/\ER X.K C T s p/\lA t f (u.drop i) p=some R,⟨u.length,by simp,kb _,q,.refl,E1,by simpa using e⟩,?_⟩;rintro i m I H2 ⟨rfl,hle,G,S2,Q,e2⟩;have ao: ∀a o,Y a=some o-> ¬OwB (λ_=>False) T O q a->H2 a=some o:=λa o ea n=>S2.kp a o ea λ⟨i,d,z⟩=>n (.inl ⟨i,id,d,z⟩);by_cases Z:i<u.length
 ·refine .inr ?_;have hd:u[i]?=some u[i]:=hX Z;obtain⟨go,yl⟩:=ok.go i _ H2 hd ao;rw[wj Z] at e2;obtain⟨S,h3,e3⟩:=gg e2;obtain⟨o,h4,W⟩:=gg e3;refine⟨go,λs C=> ∃p,SK A O q Y s p C/\ER X.K C T s p/\lA t f (u.drop (i+1)) p=some R,λs C ⟨p,q1,q2,q3⟩=>⟨u.length-(i+1),by omega,rfl,Z,p,q1,q2,q3⟩,λx C hy=>?_⟩;obtain⟨ext,rep⟩:=yl x C hy;have eE:ER X.K C T I G:=Q.mono (λb ob eb _=>ext b ob eb) (λ_ _ z=>z) (λa z=>(Q.dom a z).up (ext a));have fY:SK A O q Y I G C:=S2.trans (Keep.ext ext).sk;have rx:=rep (λa=>OwnA I G a\/T a) (λb N z=>z.elim (λz=>(S2.ow b z).elim Or.inl λz=>absurd z N) Or.inr) (λb N z=>z.elim (λz=>Q.ownDom z N) λz=>(Q.dom b z).ne N);refine⟨G,T,u[i],S,eE,rx,h3,λσ3 S3 E3=>?_⟩;have P:=fY.trans S3;refine⟨S,T,o,E3,(fW.step V).step P,h4,?_⟩
  cases o with
  |nx y=>exact λB F M U=>⟨y,P.trans M,U,W⟩
  |ct y=>exact λB F M U=>⟨y,P.trans M,U,W⟩
  |bk y=>cases W;exact λB F M U=>k B F (V.trans (P.trans M)) U
  |rt r y=>cases W;exact λv B F M R4=>k v B F (V.trans (P.trans M)) R4
 ·refine .inl ⟨ok.stop i H2 (by omega) ao,?_⟩;rw[yp (by omega)] at e2;cases e2;exact k I H2 (V.trans S2) Q
end
noncomputable def nV(c:FT)(b:FS):Nat->FS
 |0,_=>none
 |n+1,d=>(c d).bind λp=>if p.1=true then(b p.2).bind λo=>(match o with
   | .nx a=>nV c b n a
   | .ct a=>nV c b n a
   | .bk a=>some (.nx a)
   | .rt r a=>some (.rt r a)) else some (.nx p.2)
noncomputable def xN(f g:FO):FIt:=λδ=>(jj [f,g] δ).bind λp=>match sO p.2 p.1 with
 |some [.int i,.int j]=>if -(2^62)<=i/\i<2^62/\ -(2^62)<=j/\j<2^62 then some (gQ i (j-i).toNat,p.2) else none
 |_=>none
section
variable {X:Cx}{A L:iZ}{C:Hp}{B:SB}{t e c a b:gy}{d:List Stmt}{g:FT}{l:FS}{s u:FO}{f p:Pos}
def Jg{n:Nat}(hp:PassesOwn (model X.prog X.w) X.A X.env X.xe)(hc:PTX X c g)(hb:Dw X A L C d l):PSX X A L C (.While c d [] f) (nV g l n):=PS.imp' (LJ hp hc hb) λD F H hw=>by
 obtain⟨Y,T,N,E,Z,e,k⟩:=hw;refine⟨λm i G=> ∃h,SK A F Y H i h G/\ER X.K G T i h/\nV g l m h=some N,⟨n,Y,.refl,E,e⟩,?_⟩;rintro m O H2 ⟨δ2,S2,E2,e2⟩
 cases m with
 |zero=>cases e2
 |succ m=>
  obtain⟨⟨S,z⟩,h3,Q⟩:=gg e2;refine⟨δ2,T,S,z,E2,h3,λR V P=>?_⟩;have I:SK A F Y H O z R:=S2.trans V.sk
  cases S with
  |false=>
   rw[gL je] at Q;cases Q;exact U6 (k O R I P)
  |true=>
   rw[gD rfl] at Q;obtain⟨o,h4,U⟩:=gg Q;refine U5 ⟨λi G=> ∃h,SK A F Y H i h G/\ER X.K G T i h/\nV g l m h=some N,λi G q=>⟨m,pS _,q⟩,z,T,o,P,Z.step I,h4,?_⟩
   cases o with
   |nx j=>exact λx M y J=>⟨j,I.trans y,J,U⟩
   |ct j=>exact λx M y J=>⟨j,I.trans y,J,U⟩
   |bk j=>cases U;exact λx M y J=>k x M (I.trans y) J
   |rt r j=>cases U;exact λv x M y W=>k v x M (I.trans y) W
theorem rW{K:gK}{T v:AP'}{E:L2.St}{z m:Dn}{H r:Hp}{os:List Opd}{k:List V}{n:List D}(B:Ops K T E z H os k m r v)(h:sO m os=some n){j:Nat}{i:Int}(hd:n[j]?=some (.int i)):k[j]?=some (.int i):=by
 obtain⟨h1,w⟩:=mG h;obtain⟨o,q,x⟩:=w j _ hd;have y:j<k.length:=by have:=(uQ.mp q).1;have:=B.len;omega
 have hv:k[j]?=some k[j]:=hX y;have:=gU (B.view q hv x);rw[hv,this]
def GB(y:Gl X "range")(I:X.mg "range"=none)(x:PA X [a] (tA X.K [s]))(J:starEach [a] X.env=[(false,eval a X.env)]):PIX X B t (.Call (.Name "range" p) [a] [] f) (uD s):=PI.imp' (Jn y I x J) λY H R M=>by
 obtain⟨N,T,U,O,E,e,k⟩:=M;obtain⟨⟨os,i⟩,h1,e⟩:=gg e;refine⟨N,T,os,i,E,h1,λn o Q B=>?_⟩;dsimp only at e;split at e
 ·rename_i j m;obtain⟨⟨q,w⟩,e⟩:=gX e;obtain⟨rfl,rfl⟩:=uo e;have hv:=rW B m (j:=0) rfl;obtain⟨G,_⟩:=mG m
  have:n=[.int j]:=by
   have h:=B.len
   cases n with
   |nil=>simp at hv
   |cons v r=>
    cases r with
    |nil=>simp at hv;rw[hv]
    |cons _ _=>simp at G h;omega
  exact⟨j,this,q,w,k _ o B.keep (B.er.mono (λ_ _ e _=>e) (λb _ z=>B.tt b z) (λa z=>B.er.dom a (B.tt a z))) (zo 0 j.toNat)⟩
 ·cases e
def GA(J:Gl X "range")(N:X.mg "range"=none)(I:PA X [a,b] (tA X.K [s,u]))(O:starEach [a,b] X.env=[(false,eval a X.env),(false,eval b X.env)])(w:starEach [b] X.env=[(false,eval b X.env)]):PIX X B t (.Call (.Name "range" p) [a,b] [] f) (xN s u):=PI.imp' (Jm J N I O w) λP H R Q=>by
 obtain⟨U,T,F,Y,E,e,k⟩:=Q;obtain⟨⟨os,o⟩,h1,e⟩:=gg e;refine⟨U,T,os,o,E,h1,λq v D B=>?_⟩;dsimp only at e;split at e
 ·rename_i i j n;obtain⟨G,e⟩:=gX e;obtain⟨rfl,rfl⟩:=uo e;have hv:=rW B n (j:=0) rfl;have m:=rW B n (j:=1) rfl;obtain⟨M,_⟩:=mG n
  have:q=[.int i,.int j]:=by
   have h:=B.len
   match q,hv,m with
   |[x,y],hv,m=>simp at hv m;rw[hv,m]
   |x::y::z::r,_,_=>simp at M h;omega
  exact⟨i,j,this,G,k _ v B.keep (B.er.mono (λ_ _ e _=>e) (λb _ z=>B.tt b z) (λa z=>B.er.dom a (B.tt a z))) (zo i (j-i).toNat)⟩
 ·cases e
end
abbrev EvF:=List (D×Bool)->Option ((D×Bool)×Dn)
def spF(K:gK)(e:EvF):Sp:=λd H Q _=> ∃T a r b,ER K H T (d.map some) (a.map some)/\e a=some (r,b)/\ ∀v c,Post K T (d.map some) (a.map some) H r b v c->Q v c
noncomputable def gW(args:List (D×Bool))(δ:Dn):Dn:=args.zipIdx.map λp=>if p.1.2=true then(δ[p.2]?).join else some p.1
noncomputable def evF(n np:Nat)(asg:jf)(f:FS):EvF:=λargs=>
 if args.length=np/\np<=n/\(args.zipIdx.all λp=>!(p.1.2&&asg.contains p.2))=true then
  match f (args.map some++List.replicate (n-np) none) with
  |some (.rt r δ)=>some (r,gW args δ)
  |some (.nx δ)=>some ((.non,false),gW args δ)
  |_=>none
 else none
theorem Me(a:List (D×Bool))(b:Dn)(i:Nat):(gW a b)[i]?=a[i]?.map λx=>if x.2=true then(b[i]?).join else some x:=by
 unfold gW;rw[kY,Ks]
 cases a[i]? with
 |none=>rfl
 |some x=>simp
def sv(h:x.join=some p):x=some (some p):=by
 cases x with
 |none=>cases h
 |some y=>exact lX some h
section
variable {K:gK}{T:AP'}{A:iZ}{k:List V}{f:List (D×Bool)}{H q:Hp}{m:Nat}{l:L2.St}{g:Dn}{r:D×Bool}{v:V}
theorem Dy{b:Type}{a:List b}{m i:Nat}{y:b}:(a.map some++List.replicate m none)[i]?=some (some y)↔a[i]?=some y:=by
 by_cases h:i<a.length
 ·rw[qz (by simpa using h),kY];cases a[i]?<;>simp
 ·rw[oX (by simpa using h)];constructor
  ·intro e;rw[List.getElem?_replicate] at e;split at e<;>cases e
  ·intro e;exact absurd (uQ.mp e).1 h
theorem sy{b:Type}{a:List b}{i:Nat}{y:b}:(a.map some)[i]?=some (some y)↔a[i]?=some y:=by
 rw[kY];cases a[i]?<;>simp
def JZ{i:Nat}{a:gm}:OwnI (k.map some++List.replicate m none) (f.map some++List.replicate m none) i a↔OwnI (k.map some) (f.map some) i a:=by
 unfold OwnI;simp only[Dy,sy]
theorem D8:OwnA σ b a↔ ∃i,OwnI σ b i a:=Iff.rfl
def Md:OwnA (k.map some++List.replicate m none) (f.map some++List.replicate m none) a↔OwnA (k.map some) (f.map some) a:=by
 rw[D8,D8];exact exists_congr λi=>JZ
def ER.pad(E:ER K H T (k.map some) (f.map some)):ER K H T (k.map some++List.replicate m none) (f.map some++List.replicate m none):=by
 have len:k.length=f.length:=by simpa using E.len
 refine⟨by simp[len],λi d h=>?_,λi d h=>?_,λi j d e a h1 o p s=>?_,λa z=>E.nT a (Md.mp z),E.dom⟩
 ·obtain⟨w,c,n⟩:=E.val i d (sy.mpr (Dy.mp h));exact⟨w,Dy.mpr (sy.mp c),Rep.mono (λ_ _ e _=>e) (λb _ z=>z.imp Md.mp id) n⟩
 ·obtain⟨w,c,n⟩:=E.own i d (sy.mpr (Dy.mp h));exact⟨w,Dy.mpr (sy.mp c),n.mono (λ_ _ e _=>e) (λb _ z=>z.imp Md.mp id) λ_ e=>e⟩
 ·exact E.inj i j d e a (sy.mpr (Dy.mp h1)) (sy.mpr (Dy.mp o)) (sy.mpr (Dy.mp p)) (sy.mpr (Dy.mp s))
def HM{N:AP'}(E:ER K H T (k.map some) (f.map some))(S:SK A (k.map some++List.replicate m none) (f.map some++List.replicate m none) H l g q)(hA: ∀(i:Nat) d,f[i]?=some (d,true)-> ¬A i)
  (L:ER K q N l g)(hT: ∀b,H b≠none->N b->T b):ER K q N (k.map some) (gW f g)/\(∀b,OwnA (k.map some) (gW f g) b->OwnA l g b)/\Keep (k.map some) (f.map some) H (gW f g) q:=by
 have len:k.length=f.length:=by simpa using E.len
 have s: ∀(i:Nat) d w,f[i]?=some (d,true)->k[i]?=some w->l[i]?=some (some w):=λi d w h1 p=>by
  rw[S.as i (hA i d h1)];exact Dy.mpr p
 have t: ∀(i:Nat) d b,(gW f g)[i]?=some (some (d,b))->(∃e,f[i]?=some (e,true)/\g[i]?=some (some (d,b)))\/(b=false/\f[i]?=some (d,false)):=λi d b h=>by
  rw[Me] at h;obtain⟨⟨e,c⟩,h1,p⟩:=iC h
  cases c with
  |true=>
   left;exact⟨e,h1,sv (by simpa using p)⟩
  |false=>
   right;have:some (e,false)=some (d,b):=by simpa using p
   cases this;exact⟨rfl,h1⟩
 have B: ∀i a,OwnI (k.map some) (gW f g) i a->OwnI l g i a/\OwnI (k.map some) (f.map some) i a:=λi a ⟨d,h1,p⟩=>by
  rcases t i d true h1 with⟨e,u,x⟩|⟨z,_⟩
  ·exact⟨⟨d,x,s i e _ u (sy.mp p)⟩,⟨e,sy.mpr u,p⟩⟩
  ·cases z
 have M: ∀b,OwnA (k.map some) (gW f g) b->OwnA l g b:=λb ⟨i,d,h1,p⟩=>by
  obtain⟨⟨e,G,I⟩,_⟩:=B i b ⟨d,h1,p⟩;exact⟨i,e,G,I⟩
 have C: ∀b,OwnA (k.map some) (gW f g) b->OwnA (k.map some) (f.map some) b:=λb ⟨i,d,h1,p⟩=>by
  obtain⟨_,⟨e,G,I⟩⟩:=B i b ⟨d,h1,p⟩;exact⟨i,e,G,I⟩
 have U: ∀a o,H a=some o-> ¬OwnA (k.map some) (f.map some) a->q a=some o:=λa o e n=>S.kp a o e λz=>n (Md.mp z);refine⟨⟨?_,λi d h=>?_,λi d h=>?_,λi j d e a h1 p u x=>?_,λa z=>L.nT a (M a z),L.dom⟩,M,⟨U,λi a z=>(B i a z).2,S.dm⟩⟩
 ·simp[gW,len]
 ·have O:i<k.length:=by
   have:=(uQ.mp h).1;simp[gW] at this;omega
  have hv:k[i]?=some k[i]:=hX O;rcases t i d false h with⟨e,u,x⟩|⟨_,u⟩
  ·obtain⟨w,y,J⟩:=L.val i d x;rw[s i e _ u hv] at y;cases y;exact⟨_,sy.mpr hv,Rep.mono (λ_ _ e _=>e) (λb _ z=>z.imp (M b) id) J⟩
  ·obtain⟨w,y,J⟩:=E.val i d (sy.mpr u);exact⟨w,y,Rep.mono (λb o e n=>U b o e λz=>n (.inl z)) (λb F z=>z.imp (C b) (hT b F)) J⟩
 ·have O:i<k.length:=by
   have:=(uQ.mp h).1;simp[gW] at this;omega
  have hv:k[i]?=some k[i]:=hX O;rcases t i d true h with⟨e,u,x⟩|⟨z,_⟩
  ·obtain⟨w,y,J⟩:=L.own i d x;rw[s i e _ u hv] at y;have Q:k[i]=V.ref w:=by simpa using y
   exact⟨w,by rw[<-Q];exact sy.mpr hv,J.mono (λ_ _ e _=>e) (λb _ z=>z.imp (M b) id) λ_ e=>e⟩
  ·cases z
 ·obtain⟨_,⟨Y,G,I⟩⟩:=B i a ⟨d,h1,u⟩;obtain⟨_,⟨D,P,R⟩⟩:=B j a ⟨e,p,x⟩;exact E.inj i j Y D a G P I R
def sL(E:ER K H T (k.map some) (f.map some))(S:SK A (k.map some++List.replicate m none) (f.map some++List.replicate m none) H l g q)(j: ∀(i:Nat) d,f[i]?=some (d,true)-> ¬A i)
  (R:RV K T H r l g v q):Post K T (k.map some) (f.map some) H r (gW f g) v q:=by
 obtain⟨d,b⟩:=r
 cases b with
 |false=>
  obtain⟨a,s⟩:=R;obtain⟨c,ow,h⟩:=HM E S j a (λ_ _ z=>z);exact⟨h,c,Rep.mono (λ_ _ e _=>e) (λb _ z=>z.imp (ow b) id) s⟩
 |true=>
  obtain⟨p,rfl,n,a,ok⟩:=R;obtain⟨c,ow,h⟩:=HM E S j a (λb o z=>z.elim id λz=>by subst z;exact absurd n o);exact⟨h,p,rfl,n,c,ok.mono (λ_ _ e _=>e) (λb _ z=>z.imp (ow b) id) λ_ e=>e⟩
end
section
variable {P:gR}{w:gJ}{K:gK}{g:lL}{base:gP}{N:hW}{m:Nat}{b:jf}{fs:FS}{c:List V}{H:Hp}{Q:VK}{E:XK}
def NW(h:spF K (evF N.length m b fs) c H Q E):c.length=m:=by
 obtain⟨T,a,r,d,E0,e,_⟩:=h;unfold evF at e;split at e
 ·rename_i f;have:=E0.len;simp at this;rw[this];exact f.1
 ·cases e
def Q6(h:spF K (evF N.length m b fs) c H Q E): ∃L:Nat->Prop,(∀i,L i->i<m)/\tS K (λi=>i∈b) L H fs {nx:=λ_ k=>Q .non k,rt:=Q} (L2.oP N c) H:=by
 obtain⟨T,f,r,u,E0,e,t⟩:=h;unfold evF at e;split at e
 ·rename_i C;obtain⟨h1,O,B⟩:=C;have l:c.length=f.length:=by simpa using E0.len
  refine⟨λi=> ∃d,f[i]?=some (d,true),λi ⟨d,hd⟩=>by have:=(uQ.mp hd).1;omega,?_⟩;have J:L2.oP N c=c.map some++List.replicate (N.length-m) none:=by unfold L2.oP;rw[l,h1]
  have s: ∀(i:Nat) d,f[i]?=some (d,true)-> ¬(i∈b):=λi d hd G=>by
   have I:(f.zipIdx)[i]?=some ((d,true),i):=by rw[Ks,hd];simp
   have:=kn.mp B _ (lN I);simp at this;exact this G
  rw[J]
  have A:FI (λi=> ∃d,f[i]?=some (d,true)) H (c.map some++List.replicate (N.length-m) none) (f.map some++List.replicate (N.length-m) none) H:=⟨λi a z=>by
   obtain⟨d,M,_⟩:=JZ.mp z;exact .inl ⟨d,sy.mp M⟩,λ_ z=>z⟩
  cases p:fs (f.map some++List.replicate (N.length-m) none) with
  |none=>rw[p] at e;cases e
  |some n=>
   rw[p] at e;refine⟨_,T,n,E0.pad,A,p,?_⟩
   cases n with
   |rt U j=>
    obtain⟨rfl,rfl⟩:=gO e;exact λv q k o y=>t v k (sL E0 o s y)
   |nx j=>
    obtain⟨rfl,rfl⟩:=gO e;exact λq k o x=>t .non k (sL (r:=(.non,false)) E0 o s ⟨x,Rep.mkNon⟩)
   |bk j=>cases e
   |ct j=>cases e
 ·cases e
def SY{x qual:Str}{st:Stmt}{f:gm}{j:lW}{e:hW}{k:Nat}(F:Fun K x qual st f j)(S:FnScope N e (gE st))
  (o: ∀(d:gA) (A:gM) (a:List Env) (s:gn) (H:Hp) (E:XK) (L:iZ),(∀i,L i->i<e.length)->Room k (A.deeper (envOfC qual (gE st) s.heap.objs.size f d))->
   Dw (EM CX0 P w K g base N qual (gE st) f d A a s H E).nox (λi=>i∈b) L H (ny st) fs):FnOk P w K g base CX0 (k+1) f j e (spF K (evF N.length e.length b fs)):=
 F.ok S (λc H Q E h=>NW h) λd A a s H c Q E n h=>let⟨L,h1,l⟩:=Q6 h;⟨_,o d A a s H E L h1 n,l⟩
end
noncomputable def xF(a:Dn):Opd->Option (D×Bool)
 | .val r=>some (r.1,false)
 | .slot i=>(a[i]?).join
noncomputable def jq(δ:Dn):List Opd->Option (List (D×Bool))
 |[]=>some []
 |o::os=>(xF δ o).bind λa=>(jq δ os).bind λl=>some (a::l)
noncomputable def gS:List Opd->List (D×Bool)->List Nat
 | .slot i::os,(_,true)::as=>i::gS os as
 |_::os,_::as=>gS os as
 |_,_=>[]
noncomputable def wb:List Opd->List (D×Bool)->Dn->Dn->Dn
 | .slot i::os,(_,true)::as,o::outs,δ=>wb os as outs (δ.set i o)
 |_::os,_::as,_::outs,δ=>wb os as outs δ
 |_,_,_,δ=>δ
noncomputable def gz(ev:EvF)(fs:List FO):F:=λδ=>(jj fs δ).bind λp=>(jq p.2 p.1).bind λargs=>if(gS p.1 args).Nodup then(ev args).bind λq=>some (q.1,wb p.1 args q.2 p.2) else none
theorem nY{δ:Dn}: ∀{os:List Opd} {b:List (D×Bool)},jq δ os=some b->b.length=os.length/\ ∀(j:Nat) a,b[j]?=some a-> ∃o,os[j]?=some o/\xF δ o=some a
 |[],b,h=>by cases h;exact⟨rfl,λj d h=>by simp at h⟩
 |o::os,b,h=>by
  unfold jq at h;obtain⟨d,h1,h⟩:=gg h;obtain⟨l,f,h⟩:=gg h;cases h;obtain⟨g,i⟩:=nY f;refine⟨by simp[g],λj e c=>?_⟩
  cases j with
  |zero=>simp at c;subst c;exact⟨o,rfl,h1⟩
  |succ j=>
   obtain⟨k,m,n⟩:=i j e (by simpa using c);exact⟨k,by simpa using m,n⟩
theorem sj: ∀{os:List Opd} {as:List (D×Bool)} {j i:Nat} {d:D},os[j]?=some (.slot i)->as[j]?=some (d,true)->i∈gS os as
 |[],_,_,_,_,h,_=>by simp at h
 |_::_,[],_,_,_,_,h=>by simp at h
 |o::os,(e,b)::as,0,i,d,h1,a=>by
  simp at h1 a;obtain⟨rfl,rfl⟩:=a;subst h1;simp[gS]
 |o::os,(e,b)::as,j+1,i,d,h1,a=>by
  have c:=sj (os:=os) (as:=as) (j:=j) (i:=i) (d:=d) (by simpa using h1) (by simpa using a)
  cases o with
  |val r=>simpa[gS] using c
  |slot k=>
   cases b with
   |true=>simp[gS,c]
   |false=>simpa[gS] using c
theorem AX: ∀{os:List Opd} {a:List (D×Bool)} {i:Nat},i∈gS os a-> ∃(j:Nat) (d:D),os[j]?=some (.slot i)/\a[j]?=some (d,true)
 |[],_,_,h=>by simp[gS] at h
 |o::_,[],_,h=>by cases o<;>simp[gS] at h
 |o::os,(e,b)::a,i,h=>by
  have c:i∈gS os a-> ∃(j:Nat) (d:D),(o::os)[j]?=some (.slot i)/\((e,b)::a)[j]?=some (d,true):=λh=>by
   obtain⟨j,d,h1,f⟩:=AX h;exact⟨j+1,d,by simpa using h1,by simpa using f⟩
  cases o with
  |val r=>exact c (by simpa[gS] using h)
  |slot k=>
   cases b with
   |true=>
    simp[gS] at h;rcases h with rfl|h
    ·exact⟨0,e,rfl,rfl⟩
    ·exact c h
   |false=>exact c (by simpa[gS] using h)
theorem AY: ∀{os:List Opd} {as:List (D×Bool)} {j k i:Nat} {d e:D},(gS os as).Nodup->os[j]?=some (.slot i)->as[j]?=some (d,true)->os[k]?=some (.slot i)->as[k]?=some (e,true)->j=k
 |[],_,_,_,_,_,_,_,h,_,_,_=>by simp at h
 |_::_,[],_,_,_,_,_,_,_,h,_,_=>by simp at h
 |o::os,(n,b)::as,j,k,i,d,e,a,h1,c,f,g=>by
  cases j with
  |zero=>
   cases k with
   |zero=>rfl
   |succ k=>
    simp at h1 c;obtain⟨rfl,rfl⟩:=c;subst h1;have:=sj (os:=os) (as:=as) (j:=k) (by simpa using f) (by simpa using g);simp[gS] at a;exact absurd this a.1
  |succ j=>
   cases k with
   |zero=>
    simp at f g;obtain⟨rfl,rfl⟩:=g;subst f;have:=sj (os:=os) (as:=as) (j:=j) (by simpa using h1) (by simpa using c);simp[gS] at a;exact absurd this a.1
   |succ k=>
    have l:(gS os as).Nodup:=by
     cases o with
     |val r=>simpa[gS] using a
     |slot m=>
      cases b with
      |true=>simp[gS] at a;exact a.2
      |false=>simpa[gS] using a
    have:=AY (os:=os) (as:=as) (j:=j) (k:=k) l (by simpa using h1) (by simpa using c) (by simpa using f) (by simpa using g);omega
theorem yC: ∀{os:List Opd} {c:List (D×Bool)} {a δ:Dn} {i:Nat},i∉gS os c->(wb os c a δ)[i]?=δ[i]?
 |[],_,_,_,_,_=>by simp[wb]
 |o::_,[],_,_,_,_=>by cases o<;>simp[wb]
 |o::os,(e,b)::c,[],_,_,_=>by cases o<;>cases b<;>simp[wb]
 |o::os,(e,b)::c,x::a,δ,i,h=>by
  cases o with
  |val r=>simp only[wb];exact yC (by simpa[gS] using h)
  |slot k=>
   cases b with
   |true=>
    simp[gS] at h;rw[wb,yC h.2,tE (qA h.1)]
   |false=>simp only[wb];exact yC (by simpa[gS] using h)
theorem yD: ∀{os:List Opd} {c:List (D×Bool)} {a δ:Dn},(wb os c a δ).length=δ.length
 |[],_,_,_=>by simp[wb]
 |o::_,[],_,_=>by cases o<;>simp[wb]
 |o::os,(e,b)::c,[],_=>by cases o<;>cases b<;>simp[wb]
 |o::os,(e,b)::c,x::a,δ=>by
  cases o with
  |val r=>simp only[wb];exact yD
  |slot k=>
   cases b with
   |true=>simp only[wb];rw[yD,uM]
   |false=>simp only[wb];exact yD
theorem Hu: ∀{os:List Opd} {c:List (D×Bool)} {a δ:Dn} {i j:Nat} {d:D} {x:Sl},(gS os c).Nodup->os[j]?=some (.slot i)->c[j]?=some (d,true)->a[j]?=some x->i<δ.length->(wb os c a δ)[i]?=some x
 |[],_,_,_,_,_,_,_,_,h,_,_,_=>by simp at h
 |o::_,[],_,_,_,_,_,_,_,_,h,_,_=>by simp at h
 |o::os,(e,b)::c,[],_,_,_,_,_,_,_,_,h,_=>by simp at h
 |o::os,(e,b)::c,y::a,δ,i,0,d,x,f,h1,g,l,n=>by
  simp at h1 g l;obtain⟨rfl,rfl⟩:=g;subst h1;subst l;simp[gS] at f;rw[wb,yC f.1,uO n]
 |o::os,(e,b)::c,y::a,δ,i,j+1,d,x,f,h1,g,l,n=>by
  have p:(gS os c).Nodup:=by
   cases o with
   |val r=>simpa[gS] using f
   |slot m=>
    cases b with
    |true=>simp[gS] at f;exact f.2
    |false=>simpa[gS] using f
  cases o with
  |val r=>simp only[wb];exact Hu p (by simpa using h1) (by simpa using g) (by simpa using l) n
  |slot k=>
   cases b with
   |true=>simp only[wb];exact Hu p (by simpa using h1) (by simpa using g) (by simpa using l) (by rw[uM];exact n)
   |false=>simp only[wb];exact Hu p (by simpa using h1) (by simpa using g) (by simpa using l) n
section
variable {K:gK}{T y:AP'}{m:L2.St}{δ f:Dn}{H s u:Hp}{os:List Opd}{l:List V}{c:List (D×Bool)}{g:Dn}{r:D×Bool}{v:V}
noncomputable def Tc(T:AP')(m:L2.St)(f:Dn)(l:List V)(c:List (D×Bool)):AP':=λa=>T a\/(OwnA m f a/\ ¬OwnA (l.map some) (c.map some) a)
def vt(B:Ops K T m δ H os l f s y)(p:jq f os=some c){j:Nat}{d:D}(h:c[j]?=some (d,true)): ∃(i:Nat) (a:gm),os[j]?=some (.slot i)/\f[i]?=some (some (d,true))/\l[j]?=some (.ref a)/\m[i]?=some (some (.ref a)):=by
 obtain⟨w,q⟩:=nY p;obtain⟨o,h1,b⟩:=q j _ h
 cases o with
 |val r=>cases b
 |slot i=>
  have e:f[i]?=some (some (d,true)):=sv b;have t:j<l.length:=by have:=(uQ.mp h1).1;have:=B.len;omega
  have hv:l[j]?=some l[j]:=hX t;have k:=B.slt j i _ h1 hv;obtain⟨a,n,_⟩:=B.er.own i d e;rw[k] at n;have:l[j]=V.ref a:=by simpa using n
  exact⟨i,a,h1,e,by rw[hv,this],by rw[k,this]⟩
def Em(B:Ops K T m δ H os l f s y)(n:jq f os=some c){j:Nat}{a:gm}(h:OwnI (l.map some) (c.map some) j a): ∃(i:Nat) (d:D),os[j]?=some (.slot i)/\c[j]?=some (d,true)/\OwnI m f i a:=by
 obtain⟨d,h1,k⟩:=h;have e:=sy.mp h1;obtain⟨i,b,o,p,q,t⟩:=vt B n e;have:=sy.mp k;rw[q] at this;cases this;exact⟨i,d,o,e,d,p,t⟩
def Ic(B:Ops K T m δ H os l f s y)(k:jq f os=some c)(h:OwnA (l.map some) (c.map some) a):OwnA m f a:=by
 obtain⟨j,d,h1,b⟩:=h;obtain⟨i,_,_,_,e,n,o⟩:=Em B k ⟨d,h1,b⟩;exact⟨i,e,n,o⟩
def IC(E:ER K H T m δ)(B:Ops K T m δ H os l f s y)(n:jq f os=some c)(nd:(gS os c).Nodup):ER K s (Tc T m f l c) (l.map some) (c.map some):=by
 obtain⟨F,Y⟩:=nY n
 have sub: ∀b,(OwnA (l.map some) (c.map some) b\/Tc T m f l c b)->OwnA m f b\/T b:=λb z=>by
  rcases z with z|z|z
  ·exact .inl (Ic B n z)
  ·exact .inr z
  ·exact .inl z.1
 refine⟨by simp[F,B.len],λj d h=>?_,λj d h=>?_,λj k d e a h1 p x A=>?_,λa z t=>?_,λa z=>?_⟩
 ·have h:=sy.mp h;obtain⟨o,h1,p⟩:=Y j _ h;have D:j<l.length:=by have:=(uQ.mp h1).1;have:=B.len;omega
  have hv:l[j]?=some l[j]:=hX D;refine⟨_,sy.mpr hv,?_⟩
  cases o with
  |val q=>
   have:q.1=d:=by cases p;rfl
   subst this;exact Rep.mono (λ_ _ e _=>e) (λb _ z=>sub b z) (B.rep E h1 hv)
  |slot i=>
   have x:f[i]?=some (some (d,false)):=sv p;have A:=B.slt j i _ h1 hv;obtain⟨w,M,R⟩:=B.er.val i d x;rw[A] at M;have:l[j]=w:=by simpa using M
   rw[this];exact Rep.mono (λ_ _ e _=>e) (λb _ z=>(sub b z).imp id (B.tt b)) R
 ·obtain⟨i,a,L,C,G,I⟩:=vt B n (sy.mp h);obtain⟨b,J,U⟩:=B.er.own i d C;rw[I] at J;cases J;exact⟨a,sy.mpr G,U.mono (λ_ _ e _=>e) (λb _ z=>(sub b z).imp id (B.tt b)) λ_ e=>e⟩
 ·obtain⟨i,S,L,C,N,G,I⟩:=Em B n ⟨d,h1,x⟩;obtain⟨P,V,g1,g2,O,g3,Q⟩:=Em B n ⟨e,p,A⟩;have:=B.er.inj i P N O a G g3 I Q;subst this;exact AY nd L C g1 g2
 ·rcases t with t|t
  ·exact B.er.nT a (Ic B n z) (B.tt a t)
  ·exact t.2 z
 ·rcases z with z|z
  ·exact B.er.dom a (B.tt a z)
  ·exact B.er.ownOw z.1
def ID{T' Td:AP'}(E:ER K H T m δ)(B:Ops K T m δ H os l f s y)(Q:jq f os=some c)(nd:(gS os c).Nodup)(kC:Keep (l.map some) (c.map some) s g u)
  (Y:ER K u Td (l.map some) g)(t1: ∀b,Tc T m f l c b->Td b)(t2: ∀b,T' b->Td b)(t3: ∀b,s b≠none->T' b->T b):
  ER K u T' m (wb os c g f)/\(∀b,OwnA m (wb os c g f) b->OwnA (l.map some) g b\/Tc T m f l c b)/\Keep m f s (wb os c g f) u:=by
 obtain⟨hl,hg⟩:=nY Q;have ol:g.length=c.length:=by have:=Y.len;have:=B.len;simp at*;omega
 have R: ∀(i:Nat) (x:Sl),(wb os c g f)[i]?=some x->(i∉gS os c/\f[i]?=some x)\/ ∃(j:Nat) (d:D),os[j]?=some (.slot i)/\c[j]?=some (d,true)/\g[j]?=some x:=λi x h=>by
  by_cases C:i∈gS os c
  ·right;obtain⟨j,d,h1,p⟩:=AX C;have hj:j<g.length:=by have:=(uQ.mp p).1;omega
   have X:g[j]?=some g[j]:=hX hj;have hi:i<f.length:=by have:=(uQ.mp h).1;rwa [yD] at this
   have:=Hu (δ:=f) nd h1 p X hi;rw[h] at this;cases this;exact⟨j,d,h1,p,X⟩
  ·left;rw[yC C] at h;exact⟨C,h⟩
 have I: ∀{i:Nat} {a:gm},i∉gS os c->OwnI m f i a-> ¬OwnA (l.map some) (c.map some) a:=λ{i a} C ⟨e,q,G⟩ ⟨j,d,h1,p⟩=>by
  obtain⟨P,d2,g1,g2,S,g3,g4⟩:=Em B Q ⟨d,h1,p⟩;have:=B.er.inj i P e S a q g3 G g4;subst this;exact C (sj g1 g2)
 have U: ∀i a,OwnI m (wb os c g f) i a->OwnI m f i a/\(OwnA (l.map some) g a\/Tc T m f l c a):=λi a ⟨d,h1,p⟩=>by
  rcases R i _ h1 with⟨C,A⟩|⟨j,e,g1,g2,g3⟩
  ·exact⟨⟨d,A,p⟩,.inr (.inr ⟨⟨i,d,A,p⟩,I C ⟨d,A,p⟩⟩)⟩
  ·obtain⟨P,b,q,G,N,J⟩:=vt B Q g2;rw[g1] at q;cases q;rw[p] at J;cases J;exact⟨⟨e,G,p⟩,.inl ⟨j,d,g3,sy.mpr N⟩⟩
 have Z: ∀b,OwnA m (wb os c g f) b->OwnA (l.map some) g b\/Tc T m f l c b:=λb ⟨i,d,h1,p⟩=>(U i b ⟨d,h1,p⟩).2
 have F: ∀b,OwnA m (wb os c g f) b->OwnA m f b:=λb ⟨i,d,h1,p⟩=>by
  obtain⟨⟨e,q,G⟩,_⟩:=U i b ⟨d,h1,p⟩;exact⟨i,e,q,G⟩
 have W: ∀a o,s a=some o-> ¬OwnA m f a->u a=some o:=λa o e n=>kC.kp a o e λz=>n (Ic B Q z)
 have L: ∀b,(OwnA m (wb os c g f) b\/T' b)->OwnA (l.map some) g b\/Td b:=λb z=>by
  rcases z with z|z
  ·exact(Z b z).imp id (t1 b)
  ·exact .inr (t2 b z)
 refine⟨⟨by rw[yD];exact B.er.len,λi d h=>?_,λi d h=>?_,λi k d e a h1 p A h4=>?_,λa z t=>?_,λa z=>Y.dom a (t2 a z)⟩,Z,⟨W,λi a z=>(U i a z).1,kC.dm⟩⟩
 ·rcases R i _ h with⟨C,A⟩|⟨j,e,g1,g2,g3⟩
  ·obtain⟨w,M,O⟩:=B.er.val i d A;exact⟨w,M,Rep.mono (λb o e n=>W b o e λz=>n (.inl z)) (λb V z=>z.imp (F b) λz=>B.tt b (t3 b V z)) O⟩
  ·obtain⟨P,b,q,G,N,J⟩:=vt B Q g2;rw[g1] at q;cases q;obtain⟨w,M,O⟩:=Y.val j d g3;have:=sy.mp M;rw[N] at this;cases this;exact⟨_,J,Rep.mono (λ_ _ e _=>e) (λb _ z=>L b z) O⟩
 ·rcases R i _ h with⟨C,A⟩|⟨j,e,g1,g2,g3⟩
  ·obtain⟨a,M,O⟩:=B.er.own i d A;exact⟨a,M,O.mono (λb o e n=>W b o e λz=>n (.inl z)) (λb V z=>z.imp (F b) λz=>B.tt b (t3 b V z)) λo e=>kC.kp a o e (I C ⟨d,A,M⟩)⟩
  ·obtain⟨P,b,q,G,N,J⟩:=vt B Q g2;rw[g1] at q;cases q;obtain⟨a,M,O⟩:=Y.own j d g3;have:=sy.mp M;rw[N] at this;cases this;exact⟨_,J,O.mono (λ_ _ e _=>e) (λb _ z=>L b z) λ_ e=>e⟩
 ·obtain⟨⟨e1,q,G⟩,_⟩:=U i a ⟨d,h1,A⟩;obtain⟨⟨S,N,J⟩,_⟩:=U k a ⟨e,p,h4⟩;exact B.er.inj i k e1 S a q N G J
 ·exact B.er.nT a (F a z) (B.tt a (t3 a (B.er.ownDom (F a z)) t))
def zF(E:ER K H T m δ)(B:Ops K T m δ H os l f s y)(n:jq f os=some c)(q:(gS os c).Nodup)(P:Post K (Tc T m f l c) (l.map some) (c.map some) s r g v u):
  Post K T m δ H r (wb os c g f) v u:=by
 obtain⟨d,b⟩:=r
 cases b with
 |false=>
  obtain⟨k,h,x⟩:=P;obtain⟨i,ow,j⟩:=ID (T':=T) E B n q k h (λ_ z=>z) (λ_ z=> .inl z) (λ_ _ z=>z);refine⟨B.keep.trans j,i,Rep.mono (λ_ _ e _=>e) (λb _ z=>?_) x⟩;rcases z with z|z
  ·exact ow b z
  ·exact .inr (.inl z)
 |true=>
  obtain⟨k,p,rfl,o,h,ok⟩:=P;obtain⟨i,ow,j⟩:=ID (T':=λa=>T a\/a=p) E B n q k h (λ_ z=> .inl z) (λb z=>z.elim (λz=> .inl (.inl z)) .inr) (λb w z=>z.elim id λz=>by subst z;exact absurd o w);refine⟨B.keep.trans j,p,rfl,?_,i,ok.mono (λ_ _ e _=>e) (λb _ z=>?_) λ_ e=>e⟩
  ·cases t:H p with
   |none=>rfl
   |some A=>exact absurd o (B.keep.dm p (by rw[t];simp))
  ·rcases z with z|z|z
   ·exact(ow b z).imp id .inl
   ·exact .inr (.inl (.inl z))
   ·exact .inr (.inr z)
end
section
variable {X:Cx}{e:gy}{b:jm}{fs:List FO}{a p:Pos}{k:Nat}{f:gm}{g:lW}{d:hW}{c:EvF}{x:Str}
def Ob(F:FnOk X.prog X.w X.K X.mg X.base CX0 k f g d (spF X.K c))(G:Room k X.A)(z:Gl X x)(C:X.mg x=some (.ref f))(hk:PySem.W.keepIn X.K (.ref f)=true)(u:Binds X.K g d [])
  (t:PA X (e::b) (tA X.K fs))(L:(x==("__debug__":Str))=false)(y:starEach (e::b) X.env=(false,eval e X.env)::starEach b X.env)(J:(backTo a (starEach b X.env)).any (·.1)=false):
  PX X (.Call (.Name x p) (e::b) [] a) (gz c fs):=PX.imp (OS F G z C hk u (.nil) UN t L y J) λO H Q I=>by
 obtain⟨M,T,Y,N,E,e,k⟩:=I;obtain⟨⟨os,j⟩,h1,e⟩:=gg e;obtain⟨h,l,e⟩:=gg e;dsimp only at e;split at e
 ·rename_i m;obtain⟨⟨r,i⟩,s,e⟩:=gg e;obtain⟨rfl,rfl⟩:=gO e;refine⟨M,T,os,j,E,h1,λn q U B=>?_⟩;show spF X.K c (n++[]) q Q E0;rw[yy];exact⟨Tc T O j n h,h,r,i,IC E B l m,s,λv o P=>k v o (zF E B l m P)⟩
 ·cases e
end
structure SKd(A:iZ)(d:gm)(σ:L2.St)(δ:Dn)(H:Hp)(σ':L2.St)(δ':Dn)(H':Hp):Prop where
 kp: ∀a o,H a=some o-> ¬OwnA σ δ a->a≠d->H' a=some o
 owi: ∀i a,OwnI σ' δ' i a->OwnI σ δ i a\/H a=none
 dm: ∀a,H a≠none->H' a≠none
 as: ∀i,¬A i->σ'[i]?=σ[i]?
section
variable {A:iZ}{d:gm}{c b f:L2.St}{δ δ1 δ2:Dn}{H g j:Hp}
def SK.skd(k:SK A c δ H b δ1 g):SKd A d c δ H b δ1 g:=⟨λa o e n _=>k.kp a o e n,k.owi,k.dm,k.as⟩
theorem SKd.ow(k:SKd A d c δ H b δ1 g)(a:gm)(h:OwnA b δ1 a):OwnA c δ a\/H a=none:=by
 obtain⟨i,e,h1,l⟩:=h;rcases k.owi i a ⟨e,h1,l⟩ with⟨e,m,n⟩|z
 ·exact .inl ⟨i,e,m,n⟩
 ·exact .inr z
theorem SKd.trans(x:SKd A d c δ H b δ1 g)(y:SKd A d b δ1 g f δ2 j):SKd A d c δ H f δ2 j where
 kp:=λa o e n k=>y.kp a o (x.kp a o e n k) (λz=>(x.ow a z).elim n λz=>by rw[z] at e;cases e) k
 owi:=λi a z=>(y.owi i a z).elim (x.owi i a) λz=> .inr (by
  cases h:H a with
  |none=>rfl
  |some o=>exact absurd z (x.dm a (by rw[h];simp)))
 dm:=λa z=>y.dm a (x.dm a z)
 as:=λi h=>(y.as i h).trans (x.as i h)
end
noncomputable def uW(p:(Int->Bool)×Nat)(d:D):(Int->Bool)×Nat:=match d with
 | .int k=>(λa=>p.1 a||decide (a=k),if p.1 k then p.2 else p.2+1)
 |_=>p
noncomputable def ma(l:List D):(Int->Bool)×Nat:=l.foldl uW (λ_=>false,0)
theorem AK(l:List D)(k:Int):ma (l++[.int k])=((λa=>(ma l).1 a||decide (a=k)),if(ma l).1 k then(ma l).2 else(ma l).2+1):=by
 unfold ma;rw[List.foldl_append];rfl
theorem HC: ∀(l:List D) (p:(Int->Bool)×Nat),(l.foldl uW p).2<=p.2+l.length
 |[],p=>iO _
 |d::l,p=>by
  have:=HC l (uW p d)
  have h:(uW p d).2<=p.2+1:=by
   unfold uW;split
   ·dsimp only;split<;>omega
   ·omega
  simp only[qV,ju];omega
def AtD(S:Bool)(K:gK)(H:Hp)(O:AP')(d:gm)(a:List D):Prop:=match S with
 |false=> ∃b,H d=some (.lst b)/\RepL K H O a b
 |true=>H d=some (.set (ma a).1 (ma a).2)
structure BS(S:Bool)(K:gK)(d:gm)(T:AP')(σ:L2.St)(δ:Dn)(acc:List D)(H:Hp):Prop where
 er:ER K H T σ δ
 td:T d
 at':AtD S K H (λa=>OwnA σ δ a\/T a) d acc
abbrev FB:=List D->Dn->Option (List D×Dn)
def tBx(S:Bool)(K:gK)(A:iZ)(d:gm)(f:FB):TB:=λi H N=> ∃g T c h a,BS S K d T i g c H/\f c g=some (h,a)/\ ∀b e,SKd A d i g H b a e->BS S K d T b a h e->N b e
noncomputable def ip(f:F):FB:=λa δ=>(f δ).bind λp=>if a.length<sizeLine then some (a++[p.1.1],p.2) else none
noncomputable def jK(c:Tg)(ti:FT)(b:FB):List D->FB
 |[],acc,a=>some (acc,a)
 |x::xs,acc,a=>(c x a).bind λδ1=>(ti δ1).bind λp=>(if p.1=true then b acc p.2 else some (acc,p.2)).bind λq=>jK c ti b xs q.1 q.2
noncomputable def Nq(c:FIt)(d:Tg)(ti:FT)(b:FB):FB:=λa e=>(c e).bind λp=>jK d ti b p.1 a p.2
section
variable {K:gK}{A:iZ}{d:gm}{T:AP'}{f q:L2.St}{l r:Dn}{j:List D}{H p:Hp}
def BS.step(b:BS S K d T f l j H)(k:SK A f l H q r p)(a:ER K p T q r):BS S K d T q r j p:=by
 refine⟨a,b.td,?_⟩;have h:=b.at'
 cases S with
 |true=>exact k.kp d _ h λz=>b.er.nT d z b.td
 |false=>
  obtain⟨m,h1,g⟩:=h;refine⟨m,k.kp d _ h1 λz=>b.er.nT d z b.td,RepL.mono (λb o e n=>k.kp b o e λz=>n (.inl z)) (λc i z=>?_) g⟩;rcases z with z|z
  ·exact(k.ow c z).elim Or.inl λz=>absurd z i
  ·exact .inr z
def HY(hg: ∀v f H Q,tG K A tg v f H Q->g v f H Q)(hi: ∀f H Q,tT K ft f H Q->ti f H Q)(hb: ∀f H N,tBx S K A d fb f H N->tb f H N)
  (b:BS S K d T f l j H)(P O:AP')(ok:ItOk K J ds P O p)(s1: ∀a o,p a=some o-> ¬P a->H a=some o)(s0: ∀a,p a≠none->OwnA f l a\/a=d->P a)(s2: ∀a,p a≠none->(OwnA f l a\/T a)->O a)(s3: ∀a,p a≠none->H a≠none)(e:jK tg ft fb ds j l=some (i3,B))
  (k: ∀E t,SKd A d f l H E B t->BS S K d T E B i3 t->N E t):Hx J g ti tb f H N:=by
 refine⟨λi m s w=>m=ds.length-i/\i<=ds.length/\ ∃h L,SKd A d f l H s h w/\BS S K d T s h L w/\jK tg ft fb (ds.drop i) L h=some (i3,B),⟨ds.length,by simp,kb _,l,j,SK.refl.skd,b,by simpa using e⟩,?_⟩;rintro i m s w ⟨rfl,hle,h,L,Y,G,e2⟩
 have hO: ∀a,p a≠none->(OwnA s h a\/T a)->O a:=λa W z=>by
  rcases z with z|z
  ·exact(Y.ow a z).elim (λz=>s2 a W (.inl z)) λz=>absurd z (s3 a W)
  ·exact s2 a W (.inr z)
 have ao: ∀a o,p a=some o-> ¬P a->w a=some o:=λa o V n=>Y.kp a o (s1 a o V n) (λz=>n (s0 a (by rw[V];simp) (.inl z))) λz=>n (s0 a (by rw[V];simp) (.inr z));by_cases F:i<ds.length
 ·refine .inr ?_;have hd:ds[i]?=some ds[i]:=hX F;obtain⟨go,yl⟩:=ok.go i _ w hd ao;rw[wj F] at e2;obtain⟨C,h3,e3⟩:=gg e2;obtain⟨⟨c,u⟩,h4,e4⟩:=gg e3;obtain⟨⟨y,M⟩,D,e5⟩:=gg e4;refine⟨go,λx t hy=>?_⟩;obtain⟨ext,rep⟩:=yl x t hy;have eE:ER K t T s h:=G.er.mono (λb ob eb _=>ext b ob eb) (λ_ _ z=>z) (λa z=>(G.er.dom a z).up (ext a));have SX:SK A s h w s h t:=(Keep.ext ext).sk;have R:=G.step SX eE;have fY:SKd A d f l H s h t:=Y.trans SX.skd;have rx:=rep (λa=>OwnA s h a\/T a) hO (λb hb z=>z.elim (λz=>G.er.ownDom z hb) λz=>(G.er.dom b z).ne hb);refine hg _ _ _ _ ⟨h,T,ds[i],C,eE,rx,h3,λU S3 Z=>?_⟩;have B3:=R.step S3 Z;have cB:=fY.trans S3.skd;refine hi _ _ _ ⟨C,T,c,u,Z,h4,λH4 K4 E4=>?_⟩;have S4:SK A U C t U u H4:=K4.sk;have X:=B3.step S4 E4;have I:=cB.trans S4.skd
  cases c with
  |false=>
   rw[gL je] at D;obtain⟨rfl,rfl⟩:=gO D;exact U6 ⟨ds.length-(i+1),by omega,rfl,F,u,L,I,X,e5⟩
  |true=>
   rw[gD rfl] at D;exact U5 (hb _ _ _ ⟨u,T,L,y,M,X,D,λσ5 H5 S5 B5=>⟨ds.length-(i+1),by omega,rfl,F,M,y,I.trans S5,B5,e5⟩⟩)
 ·refine .inl ⟨ok.stop i w (by omega) ao,?_⟩;rw[yp (by omega)] at e2;obtain⟨rfl,rfl⟩:=gO e2;exact k s w Y G
end
section
variable {X:Cx}{A:iZ}{d:gm}{g:gy}{f:F}
def PB.imp'{code:Sem Unit}{t c:TB}(h:PB X code t)(k: ∀b H N,c b H N->t b H N):PB X code c:=λa s b H N I e=>h a s b H N I (k b H N e)
def Mb{h:oi}{O:jb}{p:Pos}{depth:Nat}(E:h[depth+1]?=none)(C:PX X g f):PB X (il (.ListComp g h O p) depth (.ref d) X.env) (tBx false X.K A d (ip f)):=PB.imp' (OU E C) λq H N G=>by
 obtain⟨w,T,y,U,Q,B,e,k⟩:=G;obtain⟨⟨r,c⟩,h1,e⟩:=gg e;obtain⟨J,e⟩:=gX e;obtain⟨rfl,rfl⟩:=uo e;refine⟨w,T,r,c,B.er,h1,λv j P=>?_⟩;obtain⟨s,M⟩:=P.rep B.er;have t:SK A q w H q c j:=P.1.sk;have x:=B.step t s;obtain⟨m,I,u⟩:=x.at';refine⟨m,I,by rw[u.length];exact J,k q _ ?_ ?_⟩
 ·have:SKd A d q c j q c (upd j d (.lst (m++[v]))):=⟨λa o e n L=>by rw[hJ L];exact e,λi a z=> .inl z,λa z=>by
   by_cases l:a=d
   ·subst l;rw[hG];simp
   ·rw[hJ l];exact z,λ_ _=>rfl⟩
  exact t.skd.trans this
 ·have hk: ∀b o,j b=some o-> ¬T b->upd j d (.lst (m++[v])) b=some o:=λb o e n=>by rw[hJ (by intro z;subst z;exact n B.td)];exact e
  have hd: ∀a,T a->Ow (upd j d (.lst (m++[v])) a):=λa z=>by
   by_cases l:a=d
   ·subst l;rw[hG];trivial
   ·rw[hJ l];exact s.dom a z
  refine⟨s.mono hk (λ_ _ z=>z) hd,B.td,m++[v],hG,?_⟩;exact RepL.mono (λb o e n=>hk b o e λz=>n (.inr z)) (λ_ _ z=>z) (u.append (RepL.one M))
def OT{S:Bool}{e:gy}{depth:Nat}{c:nD}{r:FIt}{u:Tg}{s:FT}{q:FB}(Q:X.xe=λ_ _=>False)(hc:X.calm=true)
  (hl:(∃g b l p,e= .ListComp g b l p)\/(∃g b l p,e= .SetComp g b l p))(hg:(clausesOf e)[depth+1]?=some c)(Y:c.is_async=0)(k0: ∀t,(clausesOf e)[depth+1+1]?=some t->t.is_async=0)
  (hs: ∀x,foldedSetIterable c.iter X.env x=pure x)(pi:PIX X (λ_=>False) c.target c.iter r)(pg:PGX X A c.target u)(M:PIf X c.ifs (tT X.K s))(pb:PB X (il e (depth+1) (.ref d) X.env) (tBx S X.K A d q)):
  PB X (il e depth (.ref d) X.env) (tBx S X.K A d (Nq r u s q)):=PB.imp' (Se Q hc hl hg Y k0 hs pi pg M pb) λw H N D=>by
 obtain⟨v,T,O,P,F,B,e,k⟩:=D;obtain⟨⟨U,j⟩,h1,e⟩:=gg e;refine⟨v,T,U,j,B.er,h1,λJ G I C ok=>?_⟩;have n:SK A w v H w j G:=I.sk;exact HY (λ_ _ _ _ h=>h) (λ_ _ _ h=>h) (λ_ _ _ h=>h) (B.step n C) _ _ ok (λa o e _=>e) (λa _ z=>z.elim (λ⟨i,x,z⟩=> .inl ⟨i,id,x,z⟩) λz=> .inr (z▸B.td)) (λa _ z=>z) (λa z=>z) e λm E L y=>k m E (n.skd.trans L) y
end
noncomputable def hZ(caps:jf)(k:Nat)(fi:FIt)(b:Tg)(ti:FT)(a:FB):F:=λδ=>(fi δ).bind λp=>(jq p.2 (caps.map .slot)).bind λargs=>
 if(gS (caps.map .slot) args).Nodup then(jK b ti a p.1 [] (args.map some++List.replicate k none)).bind λq=>some ((.lst q.1,true),wb (caps.map .slot) args (gW args q.2) p.2) else none
noncomputable def Af(a:jf)(k:Nat)(b:L2.St):L2.St:=(a.map λj=>(b[j]?).join)++List.replicate k none
noncomputable def o0(S:Bool):HO:=match S with
 |false=> .lst []
 |true=> .set (λ_=>false) 0
noncomputable def qS(S:Bool)(Q:VK):VK:=match S with
 |false=>Q
 |true=>λx b=> ∃S n,∃a,x= .ref a/\b a=some (.set S n)/\Q (.int n) b
noncomputable def rS(S:Bool)(a:List D):D×Bool:=match S with
 |false=>(.lst a,true)
 |true=>(.int (ma a).2,false)
noncomputable def Ti(S:Bool)(b:jf)(k:Nat)(d:FIt)(e:Tg)(f:FT)(c:FB):F:=λg=>(d g).bind λp=>(jq p.2 (b.map .slot)).bind λa=>
 if(gS (b.map .slot) a).Nodup then(jK e f c p.1 [] (a.map some++List.replicate k none)).bind λq=>some (rS S q.1,wb (b.map .slot) a (gW a q.2) p.2) else none
def Bj{S:Bool}{K:gK}{f:jf}{k:Nat}{fi:FIt}{tg:Tg}{ti:FT}{fb:FB}{p:L2.St}{H:Hp}{Q:VK}(h:tF K (Ti S f k fi tg ti fb) p H Q):
  tI K (λi=>i∉f) fi p H λJ q=>Hy (o0 S) J (tG K (λi=>f.length<=i) tg) (tT K ti) (λd=>tBx S K (λi=>f.length<=i) d fb) (Af f k) p q (qS S Q):=by
 obtain⟨δ,T,rr,δr,E,e,kq⟩:=h;obtain⟨⟨ds,t⟩,h1,e⟩:=gg e;obtain⟨g,w,e⟩:=gg e;dsimp only at e w;split at e
 case isFalse=>cases e
 rename_i W;obtain⟨⟨s,δ'⟩,h2,e⟩:=gg e;obtain⟨rfl,rfl⟩:=gO e;refine⟨δ,T,ds,t,E,h1,λJ q K1 C ok d hd=>?_⟩;obtain⟨hl,hg⟩:=nY w;have bA:g.length=f.length:=by simpa using hl
 let B:List V:=f.map λj=>((p[j]?).join).getD .non
 have m: ∀(i j:Nat),f[i]?=some j-> ∃v,p[j]?=some (some v):=λi j l=>by
  have hi:i<g.length:=by have:=(uQ.mp l).1;omega
  obtain⟨o,u,Z⟩:=hg i _ (hX hi);rw[kY,l] at u;cases u;have L:=sv Z;generalize g[i]=y at L;obtain⟨x,b⟩:=y
  cases b with
  |false=>obtain⟨v,h,_⟩:=C.val j x L;exact⟨v,h⟩
  |true=>obtain⟨a,h,_⟩:=C.own j x L;exact⟨_,h⟩
 have R: ∀(i j:Nat),f[i]?=some j-> ∃v,B[i]?=some v/\p[j]?=some (some v):=λi j l=>by
  obtain⟨v,hv⟩:=m i j l;refine⟨v,?_,hv⟩;show(f.map λj=>((p[j]?).join).getD .non)[i]?=some v;rw[kY,l];simp[hv]
 have x9:Af f k p=B.map some++List.replicate k none:=by
  unfold Af
  congr 1
  apply B9;intro i;show _=((f.map λj=>((p[j]?).join).getD .non).map some)[i]?;rw[kY,kY,kY]
  cases l:f[i]? with
  |none=>rfl
  |some j=>obtain⟨v,hv⟩:=m i j l;simp[hv]
 have G:Ops K T p t q (f.map Opd.slot) B t q T:=by
  refine⟨by simp[B],.refl,C,λ_ z=>z,λj x v l=>?_,λj x v l=>?_,λj i v l hv=>?_⟩
  ·rw[kY] at l;obtain⟨_,_,z⟩:=iC l;cases z
  ·rw[kY] at l;obtain⟨_,_,z⟩:=iC l;cases z
  ·rw[kY] at l;obtain⟨c,F,z⟩:=iC l;cases z;obtain⟨v',u,Z⟩:=R j i F;rw[hv] at u;cases u;exact Z
 have M:=IC C G w W
 have hA: ∀(i:Nat) x,g[i]?=some (x,true)-> ¬(f.length<=i):=λi x A=>by
  have:=(uQ.mp A).1;omega
 rw[x9];have A:=jY (o:=o0 S) hd
 have X: ∀a,q a≠none->upd q d (o0 S) a≠none:=λa z=>by
  cases U:q a with
  |none=>exact absurd U z
  |some o=>rw[A a o U];simp
 have b0:BS S K d (λa=>Tc T p t B g a\/a=d) (B.map some++List.replicate k none) (g.map some++List.replicate k none) [] (upd q d (o0 S)):=by
  refine⟨(M.pad).mono (λb o eb _=>A b o eb) (λb hb z=>z.elim id λz=>by subst z;exact absurd hd hb) (λa z=>?_),.inr rfl,?_⟩
  ·rcases z with z|z
   ·exact(M.dom a z).up (A a)
   ·subst z;rw[hG];cases S<;>trivial
  ·cases S with
   |false=>exact⟨[],hG,RepL.nil⟩
   |true=>exact hG
 refine HY (λ_ _ _ _ h=>h) (λ_ _ _ h=>h) (λ_ _ _ h=>h) b0 _ _ ok (λa o O _=>A a o O) (λa D z=>?_) (λa D z=>?_) X h2 λσ' Y N I=>?_
 ·rcases z with z|z
  ·obtain⟨j,x,g1,g2⟩:=Md.mp z;obtain⟨i,_,u,_,L⟩:=Em G w ⟨x,g1,g2⟩;refine .inl ⟨i,λn=>n ?_,L⟩;rw[kY] at u;obtain⟨c,F,e⟩:=iC u;cases e;exact lN F
  ·subst z;exact absurd hd D
 ·rcases z with z|z|z
  ·exact .inl (Ic G w (Md.mp z))
  ·rcases z with z|z
   ·exact .inr z
   ·exact .inl z.1
  ·subst z;exact absurd hd D
 ·have SS:SK (λi=>f.length<=i) (B.map some++List.replicate k none) (g.map some++List.replicate k none) q σ' δ' Y:=
   ⟨λa o O n=>N.kp a o (A a o O) n (by intro z;subst z;rw[O] at hd;cases hd),λi a z=>(N.owi i a z).imp id λz=>by
    cases U:q a with
    |none=>rfl
    |some o=>exact absurd z (X a (by rw[U];simp)),λa z=>N.dm a (X a z),N.as⟩
  cases S with
  |false=>
   obtain⟨ys,hy,ry⟩:=I.at';have P:=sL (r:=(.lst s,true)) (v:= .ref d) M SS hA ⟨d,rfl,hd,I.er,ys,hy,RepL.mono (λ_ _ e _=>e) (λb _ z=>z) ry⟩;exact kq (.ref d) Y ((zF C G w W P).pre K1)
  |true=>
   have P:=sL (r:=(.int (ma s).2,false)) (v:= .int (ma s).2) M SS hA ⟨I.er.mono (λ_ _ e _=>e) (λb _ z=> .inl z) (λa z=>I.er.dom a (.inl z)),Rep.mkInt⟩;exact⟨_,_,d,rfl,I.at',kq (.int (ma s).2) Y ((zF C G w W P).pre K1)⟩
def EO{K:gK}{a:jf}{k:Nat}{c:FIt}{e:Tg}{ti:FT}{b:FB}{f:L2.St}{H:Hp}{Q:VK}(h:tF K (hZ a k c e ti b) f H Q):
  KZ (tI K (λi=>i∉a) c) (tG K (λi=>a.length<=i) e) (tT K ti) (λd=>tBx false K (λi=>a.length<=i) d b) (Af a k) f H Q:=Bj (S:=false) h
section
variable {X:Cx}{elt:gy}{c:nD}{hV:oi}{scope:jb}{pos f7 py:Pos}{N':hW}{caps:jf}{k:Nat}{fi:FIt}{tg:Tg}{ti:FT}{fb:FB}{A L:iZ}{H0:Hp}
structure CompOk(X:Cx)(N':hW)(scope:jb)(caps:jf)(k:Nat):Prop where
 cell: ∀y∈scope.names,y.2= .cell->scope.names.lookup y.1=some .cell
 kind:scope.kind= .function
 names: ∀y∈scope.names,y.2= .local->scope.names.lookup y.1=some .local
 free: ∀y∈scope.names,y.2= .free->X.env.scope.names.lookup y.1=some .cell\/X.env.scope.names.lookup y.1=some .free
 len:caps.length+k=N'.length
 caps: ∀(i j:Nat) (x:Str),caps[i]?=some j->N'[i]?=some x->X.N[j]?=some x/\scope.names.lookup x=some .free
def CompOk.sco(C:CompOk X N' scope caps k):CompScope X N' scope (Af caps k):=by
 refine⟨C.cell,C.kind,C.names,C.free,λd=>by simp[Af,C.len],λd i v x h1 f=>?_⟩;unfold Af at h1;by_cases b:i<caps.length
 ·rw[qz (by simpa using b),kY,hX b] at h1;obtain⟨g,h⟩:=C.caps i caps[i] x (hX b) f;refine⟨h,caps[i],g,?_⟩;have a:(d[caps[i]]?).join=some v:=by simpa using h1
  cases e:d[caps[i]]? with
  |none=>rw[e] at a;cases a
  |some y=>rw[e] at a;exact lX some a
 ·rw[oX (by simpa using b),List.getElem?_replicate] at h1;split at h1<;>cases h1
def Oj(C:CompOk X N' scope caps k)(m:X.calm=true)(l:c.is_async=0)(o: ∀e,hV[0]?=some e->e.is_async=0)
  (n: ∀x,foldedSetIterable c.iter X.env x=pure x)(p:PIX X (λi=>i∉caps) c.target c.iter fi)
  (q: ∀(cl:kg) (C:gm) (r:gn) (f:Hp) (j:jl) (a:gZ),let b:=X.comp N' scope cl C r f j a
   PGX b (λi=>caps.length<=i) c.target tg/\PIf b c.ifs (tT X.K ti)/\ ∀d,PB b (il (.ListComp elt (c::hV) scope pos) 0 (.ref d) b.env) (tBx false X.K (λi=>caps.length<=i) d fb)):
  PX X (.ListComp elt (c::hV) scope pos) (hZ caps k fi tg ti fb):=PX.imp (L7 (g:=tG X.K (λi=>caps.length<=i) tg) (ti:=tT X.K ti) (tb:=λd=>tBx false X.K (λi=>caps.length<=i) d fb) C.sco m l o n p q) λs H Q h=>EO h
def LG{y:Str}{i:Nat}(m:swapsWith (.ListComp elt (c::hV) scope pos) (some (.Name y py)) f7.line X.env=pure true)
  (C:CompOk X N' scope caps k)(u:X.calm=true)(t:c.is_async=0)(G: ∀h,hV[0]?=some h->h.is_async=0)
  (z: ∀x,foldedSetIterable c.iter X.env x=pure x)(J:PIX X (λi=>i∉caps) c.target c.iter fi)(n:PG X (.Name y py) (EC i))(s:A i)
  (M: ∀(cl:kg) (C:gm) (N:gn) (l:Hp) (o:jl) (a:gZ),let b:=X.comp N' scope cl C N l o a
   PGX b (λi=>caps.length<=i) c.target tg/\PIf b c.ifs (tT X.K ti)/\ ∀d,PB b (il (.ListComp elt (c::hV) scope pos) 0 (.ref d) b.env) (tBx false X.K (λi=>caps.length<=i) d fb)):
  PSX X A L H0 (.Assign [.Name y py] (.ListComp elt (c::hV) scope pos) f7) (iq i (hZ caps k fi tg ti fb)):=PS.imp' (LL (g:=tG X.K (λi=>caps.length<=i) tg) (ti:=tT X.K ti) (tb:=λd=>tBx false X.K (λi=>caps.length<=i) d fb) m C.sco u t G z J n M) λD Q H B=>by
 obtain⟨O,T,I,E,fi,e,k⟩:=B;obtain⟨⟨r,f⟩,q,e⟩:=gg e;obtain⟨w,rfl⟩:=gX e;refine EO ⟨O,T,r,f,E,q,λv j P=>?_⟩;obtain⟨h1,p⟩:=yH (A:=A) E P w s;exact k _ j h1 p
end
section
variable {K:gK}{T:AP'}{d:L2.St}{c:Dn}{H:Hp}{i:Nat}{l g:List D}{a:gm}{m:List V}
def OwnI.write{j:Nat}{b:gm}(hd:c[i]?=some (some (.lst l,true)))(h:OwnI d (c.set i (some (.lst g,true))) j b):OwnI d c j b:=by
 obtain⟨e,h1,f⟩:=h;rcases kj h1 with⟨rfl,_,_⟩|⟨_,q⟩
 ·exact⟨_,hd,f⟩
 ·exact⟨e,q,f⟩
def ER.write(E:ER K H T d c)(hd:c[i]?=some (some (.lst l,true)))(t:d[i]?=some (some (.ref a)))(r:RepL K H (λb=>OwnA d c b\/T b) g m):
  ER K (upd H a (.lst m)) T d (c.set i (some (.lst g,true)))/\Keep d c H (c.set i (some (.lst g,true))) (upd H a (.lst m)):=by
 have Q:i<c.length:=(uQ.mp hd).1;have v:OwnA d c a:=⟨i,_,hd,t⟩
 have C: ∀b,OwnA d (c.set i (some (.lst g,true))) b->OwnA d c b:=λb ⟨j,e,h1,s⟩=>by
  obtain⟨I,x,y⟩:=OwnI.write hd ⟨e,h1,s⟩;exact⟨j,I,x,y⟩
 have u: ∀b o,H b=some o-> ¬(OwnA d c b\/T b)->upd H a (.lst m) b=some o:=λb o e n=>by rw[hJ (by intro z;subst z;exact n (.inl v))];exact e
 have G: ∀b,H b≠none->upd H a (.lst m) b≠none:=λb z=>by
  by_cases B:b=a
  ·subst B;rw[hG];simp
  ·rw[hJ B];exact z
 have sub: ∀b,H b≠none->(OwnA d (c.set i (some (.lst g,true))) b\/T b)->OwnA d c b\/T b:=λb _ z=>z.imp (C b) id;refine⟨⟨by rw[uM];exact E.len,λj e h=>?_,λj e h=>?_,λj k e f b h hk h1 s=>?_,λb z=>E.nT b (C b z),λb z=>by have ne:b≠a:=λe=>E.nT a v (e▸z);rw[hJ ne];exact E.dom b z⟩,⟨λb o e n=>by rw[hJ (by intro z;subst z;exact n v)];exact e,λj b z=>OwnI.write hd z,G⟩⟩
 ·rcases kj h with⟨_,_,q⟩|⟨_,q⟩
  ·cases q
  ·obtain⟨w,p,A⟩:=E.val j e q;exact⟨w,p,Rep.mono u sub A⟩
 ·rcases kj h with⟨rfl,_,q⟩|⟨ne,q⟩
  ·cases q;exact⟨a,t,m,hG,RepL.mono u sub r⟩
  ·obtain⟨b,p,A⟩:=E.own j e q;refine⟨b,p,A.mono u sub λo M=>?_⟩;rw[hJ]
   ·exact M
   ·intro z;subst z;exact ne (E.inj i j _ _ _ hd q t p)
 ·obtain⟨J,x,y⟩:=OwnI.write hd ⟨e,h,h1⟩;obtain⟨L,N,O⟩:=OwnI.write hd ⟨f,hk,s⟩;exact E.inj j k J L b x N y O
end
noncomputable def jD(i:Nat)(f:F):F:=λδ=>match δ[i]? with
 |some (some (.lst _,true))=>(f δ).bind λp=>match p.2[i]? with
  |some (some (.lst l,true))=>if l.length<sizeLine then some ((.non,false),p.2.set i (some (.lst (l++[p.1.1]),true))) else none
  |_=>none
 |_=>none
noncomputable def uG(i:Nat)(f:FO):F:=λa=>match a[i]? with
 |some (some (.lst _,true))=>(f a).bind λp=>match res p.2 p.1,p.2[i]? with
  |some (.int k),some (some (.lst l,true))=>if -(2^63)<=k/\k<2^63 then(ixN l.length k).bind λj=>(l[j]?).bind λd=>some ((d,false),p.2.set i (some (.lst (l.eraseIdx j),true))) else none
  |_,_=>none
 |_=>none
noncomputable def wI(i:Nat)(f:F)(g:FO):FS:=λa=>(f a).bind λp=>match p.2[i]? with
 |some (some _)=>(g p.2).bind λq=>match res q.2 q.1,q.2[i]? with
  |some (.int k),some (some (.lst l,true))=>(ixN l.length k).bind λj=>some (.nx (q.2.set i (some (.lst (l.set j p.1.1),true))))
  |_,_=>none
 |_=>none
section
variable {X:Cx}{e p:gy}{f:F}{s:FO}{q c g m:Pos}{i:Nat}{x:Str}{A L:iZ}{t:Hp}
theorem RepL.erase{K H}{O:AP'}: ∀{l:List D} {a:List V} (j:Nat),RepL K H O l a->RepL K H O (l.eraseIdx j) (a.eraseIdx j)
 |[],a,j,h=>by rw[RepL] at h;subst h;simp[RepL]
 |d::l,a,0,h=>by
  rw[RepL] at h;obtain⟨v,r,rfl,h1,b⟩:=h;exact b
 |d::l,a,j+1,h=>by
  rw[RepL] at h;obtain⟨v,r,rfl,h1,b⟩:=h;exact RepL.cons h1 (RepL.erase j b)
def Jf(hv:PO X (.Name x c) (gh i))(O:PX X e f)(l4:attributeBase (.Name x c) "append" X.env (eval (.Name x c) X.env)=eval (.Name x c) X.env)
  (p9:((backTo m (starEach [e] X.env)).all (λx=>!x.1)&&(backToKw m (keywordEach [] X.env)).all (λx=>x.1.isSome)&&decide ([e].length+([]:List Keyword).length+(if([]:List Keyword).isEmpty then 0 else 1)<30))=true)
  (k8:(g.endLine==m.line)=true)(z:starEach [e] X.env=(false,eval e X.env)::starEach [] X.env)(N:(backTo m (starEach [] X.env)).any (·.1)=false):
  PX X (.Call (.Attribute (.Name x c) "append" g) [e] [] m) (jD i f):=
 PX.imp (Qi Kr PySem.F.slot_list_append PySem.F.type_list_append Jv hv (lI O pY z) l4 p9 k8 z N) λσ H Q U=>by
 obtain⟨h,T,rr,S,E,e,k⟩:=U;unfold jD at e;split at e
 ·rename_i l0 u;obtain⟨⟨r,j⟩,h1,e⟩:=gg e;dsimp only at e;split at e
  ·rename_i l w;obtain⟨Y,e⟩:=gX e;obtain⟨rfl,rfl⟩:=uo e;refine⟨h,T,.slot i,h,E,by unfold gh;rw[u],λv V P=>?_⟩;obtain⟨I,d,b⟩:=P;obtain⟨a,g1,M,g2,g3⟩:=d.own i _ u;rw[b] at g1;cases g1;refine⟨.inl ⟨rfl,M,SqL.of g2⟩,h,T,r,j,d,h1,λy W o=>?_⟩;obtain⟨n,K⟩:=o.rep d;obtain⟨Z,B,R,D,C⟩:=n.own i _ w;rw[b] at B;cases B;refine⟨_,R,y,rfl,rfl,D,by rw[C.length];exact Y,?_⟩;obtain⟨G,J⟩:=n.write w b (C.append (RepL.one K));exact k _ _ (Post.val ((I.trans o.1).trans J) G Rep.mkNon)
  ·cases e
 ·cases e
def Lz(hv:PO X (.Name x c) (gh i))(he:PO X e s)(l4:attributeBase (.Name x c) "pop" X.env (eval (.Name x c) X.env)=eval (.Name x c) X.env)
  (p9:((backTo m (starEach [e] X.env)).all (λx=>!x.1)&&(backToKw m (keywordEach [] X.env)).all (λx=>x.1.isSome)&&decide ([e].length+([]:List Keyword).length+(if([]:List Keyword).isEmpty then 0 else 1)<30))=true)
  (k8:(g.endLine==m.line)=true)(Y:starEach [e] X.env=(false,eval e X.env)::starEach [] X.env)(h8:(backTo m (starEach [] X.env)).any (·.1)=false):
  PX X (.Call (.Attribute (.Name x c) "pop" g) [e] [] m) (uG i s):=
 PX.imp (Qi Kr PySem.F.slot_list_pop PySem.F.type_list_pop Mq hv (lI he pY Y) l4 p9 k8 Y h8) λσ H Q hw=>by
 obtain⟨I,T,rr,δ',E,e,k⟩:=hw;unfold uG at e;split at e
 ·rename_i l0 N;obtain⟨⟨o,r⟩,h1,e⟩:=gg e;dsimp only at e;split at e
  ·rename_i D l hk O;split at e
   case isFalse=>cases e
   rename_i U;obtain⟨j,hj,e⟩:=gg e;obtain⟨d,hd,e⟩:=gg e;obtain⟨rfl,rfl⟩:=gO e;refine⟨I,T,.slot i,I,E,by unfold gh;rw[N],λv H1 P=>?_⟩;obtain⟨Z,u,h⟩:=P;obtain⟨a,g1,eG,g2,g3⟩:=u.own i _ N;rw[h] at g1;cases g1;refine⟨.inl ⟨rfl,eG,SqL.of g2⟩,I,T,o,r,u,h1,λy W M=>?_⟩;have B:=Ops.cons u M (Ops.nil (M.er u));have vy:=gU (B.view (j:=0) rfl rfl hk);have J:ER X.K W T σ r:=B.er.mono (λ_ _ e _=>e) (λb _ z=>B.tt b z) (λa z=>B.er.dom a (B.tt a z));obtain⟨a',R,S,q2,G⟩:=J.own i _ O;rw[h] at R;cases R;obtain⟨w,w1,w2⟩:=G.get hd;have hl:=G.length;have fD:ixN S.length D=some j:=by rw[hl];exact hj
   obtain⟨s1,s2,s3,s4⟩:=C3 fD;obtain⟨V,C⟩:=J.write O h (RepL.erase j G);refine⟨_,S,D,j,w,rfl,by rw[vy],q2,U.1,U.2,s1,w1,?_⟩;exact k _ _ (Post.val ((Z.trans B.keep).trans C) V (Rep.mono (λb o e n=>C.kp b o e λz=>n (.inl z)) (λb _ z=>z.imp (C.ow b) id) w2))
  ·cases e
 ·cases e
def Ji{h:Pos}(hv:PO X (.Name x c) (gh i))(he:PX X e f)(hi:PO X p s)
  (ha: ∀v,assign (.Subscript (.Name x c) p h) X.env v=(do
   let C <-holding [v] (eval (.Name x c) X.env)
   let I <-holding [v,C] (eval p X.env)
   standAt h
   holding [v,C,I] (setItem C I v)
   release [v,C,I] []))
  (hs:swapsWithSole [.Subscript (.Name x c) p h] e q.line X.env=pure false)(G:swappedStores [.Subscript (.Name x c) p h] e X.env=pure none)
  (h1:(assignEach [.Subscript (.Name x c) p h] X.env).map (·.2)=[assign (.Subscript (.Name x c) p h) X.env]):
  PSX X A L t (.Assign [.Subscript (.Name x c) p h] e q) (wI i f s):=PS.imp' (Gx he (L3 hv hi Lg ha) hs G h1) λD J H G=>by
 obtain⟨U,T,out,E,fi,e,k⟩:=G;obtain⟨⟨r,d⟩,h1,e⟩:=gg e;dsimp only at e;split at e
 case h_2=>cases e
 rename_i y0 V;obtain⟨⟨o,y⟩,W,e⟩:=gg e;dsimp only at e;split at e
 ·rename_i kk l hk N;obtain⟨j,Z,e⟩:=gg e;cases e;refine⟨U,T,r,d,E,h1,λv F n=>⟨d,Tmp T r v,.slot i,d,n.er E,by unfold gh;rw[V],λv2 H2 u=>⟨d,Tmp T r v,o,y,u.er (n.er E),W,λv3 P P3=>?_⟩⟩⟩;have S:PostO X.K T J U H (.val r) d v F:=n;have B:=Ops.cons E S (Ops.cons (n.er E) u (Ops.cons (u.er (n.er E)) P3 (Ops.nil (P3.er (u.er (n.er E))))));have M:ER X.K P T J y:=B.er.mono (λ_ _ e _=>e) (λb _ z=>B.tt b z) (λa z=>B.er.dom a (B.tt a z));have w:J[i]?=some (some v2):=u.2.2;obtain⟨a,O,xs,q2,Q⟩:=M.own i _ N;rw[w] at O;cases O;have vk:=gU (B.view (j:=2) rfl rfl hk);have rv:=B.rep E (j:=0) (r:=r) rfl rfl;refine⟨a,xs,kk,j,rfl,vk,q2,by rw[Q.length];exact Z,?_⟩;obtain⟨Y,R⟩:=M.write N w (RepL.set rv j Q);exact k _ _ (B.keep.trans R).sk Y
 ·cases e
end
noncomputable def Lj(b:Tg)(f:F):FS:=λc=>(f c).bind λp=>(b p.1.1 p.2).bind λa=>some (.nx a)
section
variable {X:Cx}{A L:iZ}{l:Hp}{a b d e:gy}{fs:List F}{f:F}{t:Tg}{c n m pt h:Pos}{x y:Str}{i j:Nat}{kt k2}
def OC(C:PX X e f)(G:PGX X A d t)(I:swapsWithSole [d] e c.line X.env=pure false)(o:swappedStores [d] e X.env=pure none)(h1:(assignEach [d] X.env).map (·.2)=[assign d X.env]):
  PSX X A L l (.Assign [d] e c) (Lj t f):=PS.imp' (Gx C G I o h1) λD Q H o=>by
 obtain⟨N,T,J,E,O,e,k⟩:=o;obtain⟨⟨r,g⟩,h1,e⟩:=gg e;obtain⟨p,B,e⟩:=gg e;cases e;refine⟨N,T,r,g,E,h1,λv w P=>?_⟩;obtain⟨u,M⟩:=P.rep E;exact⟨g,T,r.1,p,u,M,B,λq z s=>k q w (P.1.sk.trans z) s⟩
def Oo{id:String}{p:Pos}{k:jm}{o:List FO}{g:List D->Option (D×Bool)}{z:Str}(r:jx X (.builtin id) (rDn X.K g))(u:Gl X z)(v:X.mg z=none)(hv:bootBuiltins z=some (.builtin id))(q:PA X (e::k) (tA X.K o))(w:z≠"__name__")(C:(z==("__debug__":Str))=false)
  (s:starEach (e::k) X.env=(false,eval e X.env)::starEach k X.env)(B:(backTo c (starEach k X.env)).any (·.1)=false):PX X (.Call (.Name z p) (e::k) [] c) (gC g o):=pxn (ve r u v hv q w C s B)
def HI{id:String}{p:Pos}{k:jm}{o:List FO}{g:List D->Option (D×Bool)}{z:Str}(r:jx X (.type id) (rDn X.K g))(u:Gl X z)(v:X.mg z=none)(hv:bootBuiltins z=some (.type id))(q:PA X (e::k) (tA X.K o))(w:z≠"__name__")(C:(z==("__debug__":Str))=false)
  (s:starEach (e::k) X.env=(false,eval e X.env)::starEach k X.env)(B:(backTo c (starEach k X.env)).any (·.1)=false):PX X (.Call (.Name z p) (e::k) [] c) (gC g o):=pxn (pz r u v hv q w C s B)
end
def Tp:bootBuiltins "len"=some (.builtin "len"):=by decide+kernel
def Tq:bootBuiltins "abs"=some (.builtin "abs"):=by decide+kernel
noncomputable def Di(N:hW)(c scope:jb)(b:hW)(a:jf)(k:Nat):Bool:=
 (scope.names.all λy=>y.2 != .cell||scope.names.lookup y.1==some .cell)&&decide (scope.kind= .function)&&(scope.names.all λy=>y.2 != .local||scope.names.lookup y.1==some .local)&&
 (scope.names.all λy=>y.2 != .free||(c.names.lookup y.1==some .cell||c.names.lookup y.1==some .free))&&decide (a.length+k=b.length)&&
 ((a.zip b).all λp=>N[p.1]?==some p.2&&scope.names.lookup p.2==some .free)
def Ha(m:X.N=N)(p:X.env.scope=sc)(h:Di N sc scope N' a k=true):CompOk X N' scope a k:=by
 subst m;subst p;unfold Di at h;simp only[kX,kn,qO] at h;obtain⟨⟨⟨⟨⟨h1,c⟩,d⟩,f⟩,g⟩,l⟩:=h;refine⟨λy b e=>?_,c,λy b e=>?_,λy b e=>?_,g,λi j x n q=>?_⟩
 ·have:=h1 y b;rw[e] at this;simpa using this
 ·have:=d y b;rw[e] at this;simpa using this
 ·have:=f y b;rw[e] at this;simpa using this
 ·have o:(j,x)∈a.zip N':=by
   have:(a.zip N')[i]?=some (j,x):=by rw[Dx];exact⟨n,q⟩
   exact lN this
  have:=l _ o;simpa using this
noncomputable def iM:FT:=λδ=>some (true,δ)
def LU{X:Cx}:PIf X [] (tT X.K iM):=λa s d H Q I h=>by
 obtain⟨f,T,b,c,E,e,k⟩:=h;cases e;exact OL a s d H Q I (k H .refl E)
inductive Ty where
 |int|bool|str|tuple|list|dict
noncomputable def Ty.n:Ty->String
 | .int=>"int"| .bool=>"bool"| .str=>"str"| .tuple=>"tuple"| .list=>"list"| .dict=>"dict"
noncomputable def isT:D->Ty->Bool
 | .bl _,.bool=>true
 | .bl _,.int=>true
 | .int _,.int=>true
 | .str _,.str=>true
 | .tup _,.tuple=>true
 | .lst _,.list=>true
 | .oth .dct _ _,.dict=>true
 |_,_=>false
noncomputable def tyD:D->String
 | .non=>"NoneType"| .bl _=>"bool"| .int _=>"int"| .str _=>"str"| .tup _=>"tuple"| .lst _=>"list"| .oth .dct _ _=>"dict"| .oth .set _ _=>"set"| .oth _ _ _=>"NoneType"
section
variable {X:Cx}{b:gZ}{c:L2.St}{H:Hp}{s:gn}
theorem C1(K:gK)(d:D)(t:Ty):PySem.W.kitOne K (.type (tyD d)) (.type t.n)=some (isT d t):=by
 cases d with
 |oth k _ _=>cases k<;>cases t<;>with_unfolding_all rfl
 |_=>cases t<;>with_unfolding_all rfl
def yX(I:Inv X b c H s)(h:OthB X.K (H a) k l i us)(hk:k= .dct\/k= .set:=by first|exact .inl rfl|exact .inr rfl):s.TypeIs (.ref a) (tyD (.oth k l i)):=by
 cases k with
 |dct=>
  rcases h with⟨d,e,_⟩|⟨d,e,_⟩
  ·obtain⟨_,_,i,_,o,g,j,h1,f,_⟩:=(show ObjOk X.prog X.w H s.heap a (.dK d) from I.hok a _ e)
   exact⟨o,h1,f.1⟩
  ·obtain⟨_,_,p,_,o,g,j,h1,f,_⟩:=(show ObjOk X.prog X.w H s.heap a (.dT d) from I.hok a _ e)
   exact⟨o,h1,f.1⟩
 |set=>
  obtain⟨_,m,e,_⟩:=h;obtain⟨g,n,t,h1,_⟩:=(show ObjOk X.prog X.w H s.heap a (.stt m) from I.hok a _ e)
  exact⟨_,h1,rfl⟩
 |exc C=>rcases hk with z|z<;>cases z
 |_=>exact h.elim
def nM{K H}(h:iV K H O (.oth k g f) v): ∃a d,v= .ref a/\OthB K (H a) k g f d/\RepL K H O f d:=by
 rcases h with h|⟨a,rfl,h⟩
 ·obtain⟨a,d,e,q,r⟩:=h.oth;exact⟨a,d,e,q.2,r⟩
 ·obtain⟨d,e,r⟩:=h;exact⟨a,d,rfl,e,r⟩
end
theorem kL(K:gK)(d:D): ∀a:List Ty,PySem.W.kitAny K (.type (tyD d)) (a.map λt=>Value.type t.n)=some (a.any (isT d))
 |[]=>rfl
 |t::a=>by
  rw[iu,PySem.W.kitAny,C1,qW]
  cases isT d t with
  |true=>rfl
  |false=>simpa using kL K d a
theorem Qu{K:gK}{C:Nat}(h: ∀n∈["int","bool","str","tuple","list","dict"],PySem.W.kitOne K (.ref C) (.type n)=some false)(t:Ty){ks vs:List D}:PySem.W.kitOne K (.ref C) (.type t.n)=some (isT (.oth (.exc C) ks vs) t):=by
 cases t<;>exact h _ (by simp[Ty.n])
theorem Ir{K:gK}{C:Nat}(h: ∀n∈["int","bool","str","tuple","list","dict"],PySem.W.kitOne K (.ref C) (.type n)=some false){ks vs:List D}: ∀a:List Ty,PySem.W.kitAny K (.ref C) (a.map λt=>Value.type t.n)=some (a.any (isT (.oth (.exc C) ks vs)))
 |[]=>rfl
 |t::a=>by
  rw[iu,PySem.W.kitAny,Qu h t (ks:=ks) (vs:=vs),qW]
  cases isT (.oth (.exc C) ks vs) t with
  |true=>rfl
  |false=>simpa using Ir h a
section
variable {X:Cx}{c:gZ}{f:L2.St}{H:Hp}{s:gn}
def WK(I:Inv X c f H s)(hd:iV X.K H O d x)(g:RelV x u)(h: ∀m,Q (.bool (isT d t)) {s with toks:=m}):
  wpAny (model X.prog X.w) A (call (.builtin "isinstance") [u,.type t.n]) Q E s:=by
 cases d with
 |non=>have:=DE hd;subst this;cases g;exact pR PySem.W.kitx_none I.kIn True.intro (C1 X.K .non t) (λz=>nomatch z) h
 |bl b=>have:=Cr hd;subst this;cases g;exact pR PySem.W.kitx_bool I.kIn True.intro (C1 X.K (.bl b) t) (λz=>nomatch z) h
 |int b=>have:=gU hd;subst this;obtain⟨m,rfl⟩:=g;exact pR PySem.W.kitx_int I.kIn True.intro (C1 X.K (.int b) t) (λz=>nomatch z) h
 |str b=>have:=uS hd;subst this;obtain⟨m,rfl⟩:=g;exact pR PySem.W.kitx_str I.kIn True.intro (C1 X.K (.str b) t) (λz=>nomatch z) h
 |tup l=>
  obtain⟨a,y,rfl,q,_⟩:=jM hd;cases g;obtain⟨j,_,⟨o,h1,i,_⟩,_⟩:=I.tuple q;exact pR PySem.W.kitx_tuple I.kIn ⟨o,h1,i⟩ (C1 X.K (.tup l) t) (λz=>nomatch z) h
 |lst l=>
  obtain⟨a,y,rfl,q,_⟩:=jz hd;cases g;obtain⟨j,_,⟨o,n,h1,i,_⟩,_⟩:=I.list q;exact pR PySem.W.kitx_list I.kIn ⟨o,h1,i⟩ (C1 X.K (.lst l) t) (λz=>nomatch z) h
 |oth k p r=>
  obtain⟨a,B,rfl,q,_⟩:=nM hd;cases g
  cases k with
  |dct=>exact pR PySem.W.kitx_dict I.kIn (yX I q) (C1 X.K (.oth .dct p r) t) (λz=>nomatch z) h
  |set=>exact pR PySem.W.kitx_set I.kIn (yX I q) (C1 X.K (.oth .set p r) t) (λz=>nomatch z) h
  |exc C=>
   obtain⟨_,o,e,h1,i,v⟩:=q;exact pR (i a) I.kIn (show ObjOk X.prog X.w H s.heap a (.frz o (.own 0)) from I.hok a _ e).1 (Qu v t) (λz=>nomatch z) h
  |_=>exact q.elim
def WJ{A:gM}{E:hC}{Q:hC}(I:Inv X c f H s){O:AP'}{d:D}{x:V}{u:gA}{ts:List Ty}{p:gm}{dd:Option Addr}{n:Nat}{G:uK}(hd:iV X.K H O d x)(i:RelV x u)
  (g:s.heap.get? p=some ⟨.type "tuple",dd,.seq (ts.map λt=>Value.type t.n).toArray n,G⟩)(h: ∀r,Q (.bool (ts.any (isT d))) {s with toks:=r}):wpAny (model X.prog X.w) A (call (.builtin "isinstance") [u,.ref p]) Q E s:=by
 cases d with
 |non=>have:=DE hd;subst this;cases i;exact pQ PySem.W.kitx_none I.kIn True.intro g (kL X.K .non ts) (λz=>nomatch z) h
 |bl b=>have:=Cr hd;subst this;cases i;exact pQ PySem.W.kitx_bool I.kIn True.intro g (kL X.K (.bl b) ts) (λz=>nomatch z) h
 |int b=>have:=gU hd;subst this;obtain⟨r,rfl⟩:=i;exact pQ PySem.W.kitx_int I.kIn True.intro g (kL X.K (.int b) ts) (λz=>nomatch z) h
 |str b=>have:=uS hd;subst this;obtain⟨r,rfl⟩:=i;exact pQ PySem.W.kitx_str I.kIn True.intro g (kL X.K (.str b) ts) (λz=>nomatch z) h
 |tup l=>
  obtain⟨a,J,rfl,q,_⟩:=jM hd;cases i;obtain⟨m,_,⟨o,h1,j,_⟩,_⟩:=I.tuple q;exact pQ PySem.W.kitx_tuple I.kIn ⟨o,h1,j⟩ g (kL X.K (.tup l) ts) (λz=>nomatch z) h
 |lst l=>
  obtain⟨a,J,rfl,q,_⟩:=jz hd;cases i;obtain⟨m,_,⟨o,n,h1,j,_⟩,_⟩:=I.list q;exact pQ PySem.W.kitx_list I.kIn ⟨o,h1,j⟩ g (kL X.K (.lst l) ts) (λz=>nomatch z) h
 |oth k v y=>
  obtain⟨a,L,rfl,q,_⟩:=nM hd;cases i
  cases k with
  |dct=>exact pQ PySem.W.kitx_dict I.kIn (yX I q) g (kL X.K (.oth .dct v y) ts) (λz=>nomatch z) h
  |set=>exact pQ PySem.W.kitx_set I.kIn (yX I q) g (kL X.K (.oth .set v y) ts) (λz=>nomatch z) h
  |exc C=>
   obtain⟨_,o,e,h1,j,B⟩:=q;exact pQ (j a) I.kIn (show ObjOk X.prog X.w H s.heap a (.frz o (.own 0)) from I.hok a _ e).1 g (Ir B ts) (λz=>nomatch z) h
  |_=>exact q.elim
end
noncomputable def og(ts:List Ty)(d:D):Option (D×Bool):=some (.bl (ts.any (isT d)),false)
section
variable {X:Cx}{e:gy}{g:FO}{f p c:Pos}{z:Str}
def RG{t:Ty}(C:PO X e g)(J:Gl X "isinstance")(L:X.mg "isinstance"=none)(m:Gl X z)(w:X.mg z=none)(U:bootBuiltins z=some (.type t.n))(M:z≠"__name__")(j7:(z==("__debug__":Str))=false)(hv:bootBuiltins "isinstance"=some (.builtin "isinstance"))
  (s1:starEach [e,.Name z c] X.env=(false,eval e X.env)::starEach [.Name z c] X.env)(s2:starEach [.Name z c] X.env=(false,eval (.Name z c) X.env)::starEach [] X.env)(Y:(backTo f (starEach [.Name z c] X.env)).any (·.1)=false):
  PX X (.Call (.Name "isinstance" p) [e,.Name z c] [] f) (jk (og [t]) g):=by
 have G:jx X (.builtin "isinstance") (λl H Q=> ∃(O:AP') (d:D) (x:V),l=[x,.ty t.n]/\iV X.K H O d x/\Q (.bl (isT d t)) H):=by
  intro i s W H l us Q I r h;obtain⟨O,d,x,rfl,hd,q⟩:=h;obtain⟨u,w',rfl,P,F⟩:=xj r;cases F;exact WK I hd P λtk=>⟨.bl _,H,I.tok _,rfl,q⟩
 refine PX.imp (ve G J L hv (lI C (lI (CK (v:= .ty t.n) m w U rfl M j7) pY s2) s1) (by decide) (by decide) s1 Y) λW H Q N=>?_;obtain⟨R,T,rr,S,E,e,k⟩:=N;obtain⟨⟨o,a⟩,h1,e⟩:=gg e;obtain⟨x,y,e⟩:=gg e;obtain⟨zz,A,e⟩:=gg e;cases A;obtain⟨rfl,rfl⟩:=gO e;refine⟨R,T,o,a,E,h1,λv Z b=>?_⟩;have B:=Ops.cons E b (Ops.nil (b.er E));refine⟨_,x,v,rfl,B.view (j:=0) rfl rfl y,?_⟩;have:=(B.done k).bl;simpa using this
def Og{t m:Ty}{z i:Str}{l y:Pos}{w}(ha:PO X e g)(hg:Gl X "isinstance")(hm:X.mg "isinstance"=none)(cj:Gl X z)(fk:X.mg z=none)(hz:bootBuiltins z=some (.type t.n))(hn:z≠"__name__")(j7:(z==("__debug__":Str))=false)
  (cg:Gl X i)(A:X.mg i=none)(ef:bootBuiltins i=some (.type m.n))(dh:i≠"__name__")(ck:(i==("__debug__":Str))=false)(hv:bootBuiltins "isinstance"=some (.builtin "isinstance"))
  (s1:starEach [e,.Tuple [.Name z c,.Name i l] w y] X.env=(false,eval e X.env)::starEach [.Tuple [.Name z c,.Name i l] w y] X.env)(s2:starEach [.Tuple [.Name z c,.Name i l] w y] X.env=(false,eval (.Tuple [.Name z c,.Name i l] w y) X.env)::starEach [] X.env)
  (s3:starEach [.Name z c,.Name i l] X.env=(false,eval (.Name z c) X.env)::starEach [.Name i l] X.env)(s4:starEach [.Name i l] X.env=(false,eval (.Name i l) X.env)::starEach [] X.env)
  (i4:(backTo f (starEach [.Tuple [.Name z c,.Name i l] w y] X.env)).any (·.1)=false):
  PX X (.Call (.Name "isinstance" p) [e,.Tuple [.Name z c,.Name i l] w y] [] f) (jk (og [t,m]) g):=by
 have S:jx X (.builtin "isinstance") (λF H Q=> ∃(O:AP') (d:D) (x:V) (q:gm),F=[x,.ref q]/\H q=some (.tup [.ty t.n,.ty m.n])/\iV X.K H O d x/\Q (.bl ([t,m].any (isT d))) H):=by
  intro Y s P H F us Q I r h;obtain⟨O,d,x,q,rfl,N,hd,k⟩:=h;obtain⟨u,w',rfl,ru,r9⟩:=xj r;cases r9;obtain⟨_,Z,v1,o,h1,J,n,L⟩:=I.hok q _ N;obtain⟨u1,u2,rfl,r1,r2⟩:=xj v1;cases r1;cases r2;obtain⟨R,dd,dt,sl⟩:=o;simp only at J L;subst J;subst L;exact WJ (ts:=[t,m]) I hd ru h1 λtk=>⟨.bl _,H,I.tok _,rfl,k⟩
 refine PX.imp (ve S hg hm hv (lI ha (lI (L4 (lI (CK (v:= .ty t.n) cj fk hz rfl hn j7) (lI (CK (v:= .ty m.n) cg A ef rfl dh ck) pY s4) s3)) pY s2) s1) (by decide) (by decide) s1 i4) λP H Q W=>?_;obtain⟨δ,T,rr,δ',E,e,k⟩:=W;obtain⟨⟨o,G⟩,h1,e⟩:=gg e;obtain⟨x,J,e⟩:=gg e;obtain⟨zz,L,e⟩:=gg e;cases L;obtain⟨rfl,rfl⟩:=gO e;refine⟨δ,T,o,G,E,h1,λv H1 U=>⟨by show 2<=sizeLine;decide,λq N=>?_⟩⟩;have B:=Ops.cons E U (Ops.nil (U.er E));have M:=jY (o:= .tup [.ty t.n,.ty m.n]) N;have C:=B.view (j:=0) rfl rfl J;refine⟨λa=>OwnA P G a\/T a,x,v,q,rfl,hG,?_,?_⟩
 ·rcases C with C|⟨a,rfl,C⟩
  ·exact .inl (Rep.mono (λb o e _=>M b o e) (λ_ _ z=>z) C)
  ·exact .inr ⟨a,rfl,C.mono (λb o e _=>M b o e) (λ_ _ z=>z) λo e=>M a o e⟩
 ·exact(B.done k) _ _ M Rep.mkBl
end
noncomputable def vL:List D->Option (List Bool)
 |[]=>some []
 | .bl b::l=>(vL l).map (b:: ·)
 |_::_=>none
noncomputable def xQ:D->Option (D×Bool)
 | .lst l=>(vL l).map λbs=>(.bl (bs.all id),false)
 |_=>none
theorem xD{K H}{O:AP'}: ∀{l:List D} {bs:List Bool} {e:List V} {d:iL},vL l=some bs->RepL K H O l e->Vals e d->LSm.BoolsAre d bs
 |[],bs,e,d,h,r,v=>by
  cases h;rw[RepL] at r;subst r;cases v;exact .nil
 | .bl b::l,bs,e,d,h,r,v=>by
  obtain⟨f,h1,rfl⟩:=iC h;rw[RepL] at r;obtain⟨x,j,rfl,g,i⟩:=r;have:=g.bl;subst this
  cases v with
  |cons a c=>cases a;exact .cons b (xD h1 i c)
 | .non::l,_,_,_,h,_,_=>by cases h
 | .int _::l,_,_,_,h,_,_=>by cases h
 | .str _::l,_,_,_,h,_,_=>by cases h
 | .tup _::l,_,_,_,h,_,_=>by cases h
 | .lst _::l,_,_,_,h,_,_=>by cases h
 | .oth _ _ _::l,_,_,_,h,_,_=>by cases h
section
variable {X:Cx}
def C2{h a:gP}{o:Obj}(hk: ∀b x,b∉[h.objs.size]->(h.push o).get? b=some x->a.get? b=some x)(b:gm)(x:Obj)(e:h.get? b=some x):a.get? b=some x:=
 hk b x (λz=>by have:=IL.mp z;subst this;exact absurd (ja e) (ph _)) (iW _ e)
def sJ(o:X.calm=true):jx X (.builtin "all") (rDn X.K (g1 xQ)):=nW λk s N H x u Q O d z I y np hd j G=>by
 cases d with
 |lst l=>
  obtain⟨bs,n,rfl⟩:=iC j;obtain⟨p,M,rfl,q,r⟩:=jz hd;cases y;obtain⟨c,v,g,_⟩:=I.list q;have a:=xD n r v;have t:X.A.in1.handled=none:=I.ok.hd o;have h:p<s.heap.objs.size:=by obtain⟨_,e,_⟩:=g.isList;exact ja e
  refine call_all_walk (yz g.isList ⟨s.heap.objs.size,[s.heap.objs.size,p],[s.heap.objs.size],c.toArray.size,_,_,λi=>(bs[i]?).getD true,rfl,Walks.list t _ p (iD h) c.toArray,
   ⟨⟨_,jv _ rfl,rfl,rfl⟩,g.isList.push _⟩,λi w J C B m f=>?_,λE L hk=>?_⟩)
  ·obtain⟨b,e,rfl⟩:=a.get i w (by simpa using m);dsimp only at f;rw[e] at f;exact uv f
  ·rw[iz,a.length,LSm.range_all];exact⟨.bl _,H,I.kept (C2 hk),rfl,G.bl⟩
 |_=>cases j
noncomputable def MX:=gI λi j=>some (.int (if j>i then j else i))
noncomputable def A7:=gI λi j=>some (.int (if j<i then j else i))
def Hc(c:X.calm=true):jx X (.builtin "max") (rDn X.K (g2 MX)):=Nj λa s k H x y h Q O d e z I r np h1 b g G=>by
 obtain⟨i,j,w,rfl,rfl,f,rfl⟩:=yc g;cases f;exact JO c a s k H [x,y] h Q I r ⟨i,j,by rw[gU h1,gU b],G.int⟩
def zG(c:X.calm=true):jx X (.builtin "min") (rDn X.K (g2 A7)):=Nj λa s k H x y h Q O d e z I r np h1 b g G=>by
 obtain⟨i,j,w,rfl,rfl,f,rfl⟩:=yc g;cases f;exact JN c a s k H [x,y] h Q I r ⟨i,j,by rw[gU h1,gU b],G.int⟩
def yP{lo:Int}{n:Nat}{a:lU}(h:ItemsOf (λi v=> ∃t,v= .int (lo+(i:Int)*1) t) a n):Vals ((List.range n).map λ(k:Nat)=>V.int (lo+k)) a.toList:=by
 have b: ∀(l:iL) (m:Nat),(∀(j:Nat) v,l[j]?=some v-> ∃t,v= .int (lo+((m+j:Nat):Int)) t)->Vals ((List.range' m l.length).map λ(k:Nat)=>V.int (lo+k)) l:=by
  intro l
  induction l with
  |nil=>intro m _;exact .nil
  |cons v l f=>
   intro m hv;obtain⟨t,e⟩:=hv 0 v rfl;refine .cons ⟨t,by simpa using e⟩ (f (m+1) λj w d=>?_);obtain⟨g,c⟩:=hv (j+1) w (by simpa using d);exact⟨g,by rw[c];congr 2;first|done|omega⟩
 have:=b a.toList 0 λj v hv=>by
  obtain⟨t,e⟩:=h.2 j v (by simpa using hv);exact⟨t,by rw[e];congr 1⟩
 rw[ji,h.1,<-List.range_eq_range'] at this;exact this
def Gu{K H}(lo:Int)(n:Nat):RepL K H O (gQ lo n) ((List.range n).map λ(k:Nat)=>V.int (lo+k)):=by
 unfold gQ
 induction(List.range n) with
 |nil=>exact RepL.nil
 |cons k l a=>exact RepL.cons Rep.mkInt a
end
def RgOk(lo a:Int):Prop:= -(2^62)<=lo/\lo<2^62/\ -(2^62)<=a/\a<2^62/\(a-lo).toNat<=2^24
instance(lo hi:Int):Decidable (RgOk lo hi):=by unfold RgOk;infer_instance
noncomputable def rgV(lo a:Int):List V:=(List.range (a-lo).toNat).map λ(k:Nat)=>V.int (lo+k)
def RgOk.small{lo a:Int}(h:RgOk lo a):Builtin.Range.small lo a 1=true:=small_one h.1 h.2.1 h.2.2.1 h.2.2.2.1
def HF(lo a:Int):Builtin.Range.rangeSize lo a 1=((a-lo).toNat:Nat):=by rw[rangeSize_one];split<;>omega
section
variable {c:gR}{w:gJ}{A:gM}{E:hC}{s:gn}
def Hb{Q:List Value->Shared->Prop}{r:gm}{lo n:Int}{t u v:Tok}(G:A.handled=none)(q:IsRange s.heap r lo n 1 t u v)(ok:RgOk lo n)
  (B: ∀(g:gP) k (d:lU),(∀b o,s.heap.get? b=some o->g.get? b=some o)->ItemsOf (λi v=> ∃t,v= .int (lo+(i:Int)*1) t) d (n-lo).toNat->Q d.toList {s with heap:=g,toks:=k}):
  wpAny (model c w) A (collect (.ref r)) Q E s:=by
 unfold collect;refine gk (B8 (oU F.entry_proto_collect ?_));rw[qu F.plain_proto_collect _];refine gk (m:=newList []) (kW ?_);refine gw ⟨tf F.plain_list_iadd _,oU F.entry_list_iadd ?_⟩;rw[qu F.plain_list_iadd _];have z:=jv s.heap (o:=({cls:= .type "list",data:= .seq ([]:List Value).toArray}:Obj)) rfl
 let R:Result->Shared->Prop:=λr j=> ∃(g:gP) (k:Nat) (d:lU) (l:Nat),r= .ok (.ret (.ref s.heap.objs.size))/\j={s with heap:=g,toks:=k}/\(∀b o,s.heap.get? b=some o->g.get? b=some o)/\
  g.get? s.heap.objs.size=some {cls:= .type "list",dict:=none,data:= .seq d l,slots:= #[]}/\ItemsOf (λi v=> ∃t,v= .int (lo+(i:Int)*1) t) d (n-lo).toNat
 have fin: ∀{r j},R r j-> ∃v,r= .ok (.ret v)/\wpAny (model c w) A (match v with
   |Value.ref a=>do
    match(<-load a).data with
     |Data.seq xs _=>pure xs.toList
     |_=>unsupported "internal:collect"
   |_=>unsupported "internal:collect") Q E j:=λ{r j} C=>by
  obtain⟨g,k,d,l,rfl,rfl,hk,y,x⟩:=C;exact⟨_,rfl,gk (m:=load s.heap.objs.size) (wx y (gw (B g k d hk x)))⟩
 refine pe (wpAny_extend_range (A:=A) (R:=R) (s:={s with heap:=s.heap.push {cls:= .type "list",data:= .seq ([]:List Value).toArray}}) G (iW _ q) ok.small (HF lo n) ok.2.2.2.2 _ _ 0 z λg k H l hk y x=>
  ⟨g,k,H,l,rfl,rfl,λb o e=>hk b o (iD (ja e)) (iW _ e),y,x⟩) (λf j h=>?_) (λe j h=>?_)
 ·cases f with
  |done f=>
   obtain⟨v,hv,p⟩:=fin h;cases hv;exact p
  |again l=>exact⟨h.1,qY h.2 λr I q=>by obtain⟨v,rfl,p⟩:=fin q;exact p⟩
 ·obtain⟨v,hv,_⟩:=fin h;cases hv
def Ct{Q₁:hC}{r:gm}{lo g:Int}{t u v:Tok}(p:A.handled=none)(l:IsRange s.heap r lo g 1 t u v)(ok:RgOk lo g)
  (h: ∀(d:gP) k (a:lU),(∀b o,s.heap.get? b=some o->d.get? b=some o)->ItemsOf (λi v=> ∃t,v= .int (lo+(i:Int)*1) t) a (g-lo).toNat->Q₁ (.ref d.objs.size) {s with heap:=d.push {cls:= .type "tuple",data:= .seq a},toks:=k}):
  codeAny (model c w) A (.call (.builtin "tuple.__new__") ⟨[.type "tuple",.ref r],[]⟩) (wants Q₁ E) s:=by
 refine yt ?_;refine gk (m:=checkBuiltinCall "tuple.__new__" _) (qv (F.newCall_tuple_1 _) (gw ⟨tf F.plain_tuple_new _,oU F.entry_tuple_new ?_⟩));rw[qu F.plain_tuple_new _];have z:=sub_tuple_self;have j:=init_tuple_lookup;have q:=madeHere_tuple;have y:s.TypeIs (.ref r) "range":=⟨_,l,rfl⟩
 have f:A.in1.handled=none:=p
 wp_walk using qx y,Hb f l ok
 intro d k a hk n;have x:a.size<=sizeLine:=by rw[n.1,iN];have:=ok.2.2.2.2;omega
 refine gk (m:=Builtin.Tuple.tupleExact a.toList.toArray) ?_;unfold Builtin.Tuple.tupleExact;refine kW ?_ (by show a.toList.toArray.size<=sizeLine;simpa using x);refine gw ?_;have e:a.toList.toArray=a:=by simp
 rw[e];exact h d k a hk n
def Ar{Q:hC}{r:gm}{lo g:Int}{t u v:Tok}(k:A.handled=none)(m:IsRange s.heap r lo g 1 t u v)(ok:RgOk lo g)
  (h: ∀(f:gP) j (e:lU),(∀b o,s.heap.get? b=some o->f.get? b=some o)->ItemsOf (λi v=> ∃t,v= .int (lo+(i:Int)*1) t) e (g-lo).toNat->Q (.ref f.objs.size) {s with heap:=f.push {cls:= .type "tuple",data:= .seq e},toks:=j}):
  wpAny (model c w) A (call (.type "tuple") [.ref r]) Q E s:=by
 refine callType_codes (Q₁:=λobj a=>a.TypeIs obj "tuple"/\Q obj a) NJ (F.typeCall_tuple_1 _) F.entry_object_init
  (Ct k m ok λf j e l n=>⟨⟨_,jv _ rfl,rfl⟩,h f j e l n⟩) λobj a d=>?_
 exact⟨d.1,F.args_object_init_2 obj _,object_init_meets NJ.init.lookup NJ.made (by decide) c w A.in1 _ a ⟨d.1,rfl,d.2⟩⟩
end
section
variable {X:Cx}
def Bm:jx X (.type "range") (λc H Q=> ∃i j,c=[.int i,.int j]/\ ∀r,H r=none->Q (.ref r) (upd H r (.rng i j))):=by
 intro a s k H c g Q I r h;obtain⟨i,j,rfl,h⟩:=h;obtain⟨u,f,rfl,⟨t,rfl⟩,⟨d,rfl⟩⟩:=xj r;exact call_range_2 ⟨.ref _,_,I.laid (o:= .rng i j) (λb o e=>iW _ e) (iO _) ⟨_,_,_,jv _ rfl⟩,rfl,h _ I.fresh⟩
def As(j:X.calm=true):jx X (.type "list") (λg H Q=> ∃r lo b,g=[.ref r]/\H r=some (.rng lo b)/\RgOk lo b/\ ∀l,H l=none->Q (.ref l) (upd H l (.lst (rgV lo b)))):=by
 intro f s y H g x Q I i h;obtain⟨r,lo,b,rfl,k,ok,h⟩:=h;obtain⟨u,rfl,n⟩:=qZ i;cases n;obtain⟨t,u,v,er⟩:=I.hok r _ k;refine call_list_range (A:=X.A) (I.ok.hd j) er ok.small (HF lo b) ok.2.2.2.2 λp q d c m e a=>?_;have o:=yP a;refine⟨.ref _,_,I.laid m (iO _) (show ObjOk X.prog X.w _ _ _ (.lst (rgV lo b)) from⟨?_,d.toList,c,o,by simpa using e⟩),rfl,h _ I.fresh⟩;have:=ok.2.2.2.2;simp only[rgV,iJ,List.length_range,iN];omega
def zE(m:X.calm=true):jx X (.type "tuple") (λj H Q=> ∃r lo d,j=[.ref r]/\H r=some (.rng lo d)/\RgOk lo d/\ ∀l,H l=none->Q (.ref l) (upd H l (.tup (rgV lo d)))):=by
 intro f s z H j B Q I k h;obtain⟨r,lo,d,rfl,n,ok,h⟩:=h;obtain⟨u,rfl,q⟩:=qZ k;cases q;obtain⟨t,u,v,er⟩:=I.hok r _ n;refine Ar (A:=X.A) (I.ok.hd m) er ok λi y c p a=>?_;have x:=yP a;have g:Inv X f z H {s with heap:=i,toks:=y}:=I.kept p;refine⟨.ref _,_,g.laid (λb o e=>iW _ e) (iO _) (show ObjOk X.prog X.w _ _ _ (.tup (rgV lo d)) from⟨?_,c.toList,x,by have:=yv i c;simpa using this⟩),rfl,h _ g.fresh⟩;have:=ok.2.2.2.2;simp only[rgV,iJ,List.length_range,iN];omega
noncomputable def gRg(mk:List D->D)(o:Bool):List D->Option (D×Bool)
 |[.int j]=>if RgOk 0 j then some (mk (gQ 0 j.toNat),o) else none
 |[.int i,.int j]=>if RgOk i j then some (mk (gQ i (j-i).toNat),o) else none
 |_=>none
def HG{K H}(lo a:Int):RepL K H O (gQ lo (a-lo).toNat) (rgV lo a):=Gu lo _
variable {a b:gy}{n m:FO}{p g d f:Pos}
def DI(h:upd H r o l=none):H l=none:=by
 by_cases e:l=r
 ·subst e;rw[hG] at h;cases h
 ·rwa [hJ e] at h
def Bu{K:gK}{T q:AP'}{s:L2.St}{r c:Dn}{H o:Hp}{os:List Opd}{l:List V}{e:List D}(B:Ops K T s r H os l c o q)(h:sO c os=some e){is:gB}(hd:e=is.map .int):l=is.map .int:=by
 obtain⟨h1,t⟩:=mG h;apply B9;intro j;by_cases k:j<is.length
 ·rw[rW B h (j:=j) (i:=is[j]) (by rw[hd];simp[k])];simp[k]
 ·have u:=B.len;subst hd;simp at h1;rw[List.getElem?_eq_none (by omega),List.getElem?_eq_none (by simp;omega)]
def Rw{T:String}{z:Str}{mk:List D->D}{o:Bool}(hT:(T="list"/\mk= .lst/\o=true)\/(T="tuple"/\mk= .tup/\o=false))(O:X.calm=true)(U:Gl X z)(Y:X.mg z=none)(hv:bootBuiltins z=some (.type T))(hn:z≠"__name__")(j7:(z==("__debug__":Str))=false)
  (M:Gl X "range")(J:X.mg "range"=none)(N:PA X [a,b] (tA X.K [n,m]))
  (s1:starEach [.Call (.Name "range" g) [a,b] [] f] X.env=(false,eval (.Call (.Name "range" g) [a,b] [] f) X.env)::starEach [] X.env)(s2:starEach [a,b] X.env=(false,eval a X.env)::starEach [b] X.env)
  (i4:(backTo d (starEach [] X.env)).any (·.1)=false)(L:(backTo f (starEach [b] X.env)).any (·.1)=false):
  PX X (.Call (.Name z p) [.Call (.Name "range" g) [a,b] [] f] [] d) (gC (gRg mk o) [n,m]):=by
 have t: ∀{w c:Dn} {os:List Opd},jj [n,m] w=some (os,c)->os.length=2:=λ{w c os} h1=>by
  unfold jj at h1;obtain⟨p,q1,h1⟩:=gg h1;obtain⟨q,v,h1⟩:=gg h1;unfold jj at v;obtain⟨p3,q3,v⟩:=gg v;obtain⟨q4,F,v⟩:=gg v;unfold jj at F;cases F;obtain⟨rfl,rfl⟩:=gO h1;cases v;rfl
 rcases hT with⟨rfl,rfl,rfl⟩|⟨rfl,rfl,rfl⟩
 ·refine PX.imp (pz (As O) U Y hv (lI (pz Bm M J Cm N (by decide) (by decide) s2 L) pY s1) hn j7 s1 i4) λZ H Q C=>?_;obtain⟨w,T,S,I,E,e,k⟩:=C;obtain⟨⟨os,c⟩,h1,e⟩:=gg e;obtain⟨R,y,e⟩:=gg e;obtain⟨W,h,e⟩:=gg e;obtain⟨rfl,rfl⟩:=gO e;refine⟨w,T,os,c,E,h1,λV x P B=>?_⟩;unfold gRg at h;split at h
  ·obtain⟨s,_⟩:=mG y;have:=t h1;simp at s;omega
  ·rename_i i j;obtain⟨ok,rfl⟩:=gX h;refine⟨i,j,Bu B y (is:=[i,j]) rfl,λr A=>⟨r,i,j,rfl,hG,ok,λl s=>?_⟩⟩;have G: ∀a u,x a=some u->upd (upd x r (.rng i j)) l (.lst (rgV i j)) a=some u:=λa u e=>jY s a u (jY A a u e);exact(B.done k) l _ (DI s) G ⟨rgV i j,hG,HG i j⟩
  ·cases h
 ·refine PX.imp (pz (zE O) U Y hv (lI (pz Bm M J Cm N (by decide) (by decide) s2 L) pY s1) hn j7 s1 i4) λZ H Q C=>?_;obtain⟨w,T,S,I,E,e,k⟩:=C;obtain⟨⟨os,c⟩,h1,e⟩:=gg e;obtain⟨R,y,e⟩:=gg e;obtain⟨W,h,e⟩:=gg e;obtain⟨rfl,rfl⟩:=gO e;refine⟨w,T,os,c,E,h1,λV x P B=>?_⟩;unfold gRg at h;split at h
  ·obtain⟨s,_⟩:=mG y;have:=t h1;simp at s;omega
  ·rename_i i j;obtain⟨ok,rfl⟩:=gX h;refine⟨i,j,Bu B y (is:=[i,j]) rfl,λr A=>⟨r,i,j,rfl,hG,ok,λl s=>?_⟩⟩;have G: ∀a u,x a=some u->upd (upd x r (.rng i j)) l (.tup (rgV i j)) a=some u:=λa u e=>jY s a u (jY A a u e);exact(B.done k) _ _ G (Rep.mkTup ⟨hG,B.np (nOw (DI s))⟩ (HG i j))
  ·cases h
end
def Src(h:gP)(a l:gm)(i:Nat)(b:lU):Prop:=(h.IsListIter a l i/\h.IsList l b)\/(h.IsTupleIter a l i/\h.IsTuple l b)
section
variable {prog:gR}{w:gJ}{A:gM}{E:hC}{s:gn}{it l:gm}{i:Nat}{c:lU}
theorem Src.ne(x:Src h it l i c):l≠it:=by
 intro e;subst e;rcases x with⟨⟨o,h1,b,a⟩,d,g1,g2,n,g3⟩|⟨⟨o,h1,b,a⟩,d,g1,g2,n,g3⟩<;>(rw[h1] at g1;cases g1;rw[a] at g3;cases g3)
def Src.lt(x:Src h it l i c):it<h.objs.size/\l<h.objs.size:=by
 rcases x with⟨⟨o,h1,_⟩,a,g1,_⟩|⟨⟨o,h1,_⟩,a,g1,_⟩<;>exact⟨ja h1,ja g1⟩
def Src.keep(x:Src h it l i c)(d: ∀o,h.get? it=some o->h'.get? it=some o)(e: ∀o,h.get? l=some o->h'.get? l=some o):Src h' it l i c:=by
 rcases x with⟨⟨o,h1,r⟩,a,g1,b⟩|⟨⟨o,h1,r⟩,a,g1,b⟩
 ·exact .inl ⟨⟨o,d _ h1,r⟩,a,e _ g1,b⟩
 ·exact .inr ⟨⟨o,d _ h1,r⟩,a,e _ g1,b⟩
def AG{Q:hC}(d:s.heap.IsTupleIter it l i)(r:s.heap.IsTuple l c)(p: ∀x,c[i]?=some x-> ∀b,b.IsTupleIter it l (i+1)->Heap.SameBut it s.heap b->Q x {s with heap:=b})
  (h:c[i]?=none->A.handled=none/\ ∀b e,Heap.ExtBut it s.heap b->(∃o,b.get? e=some o/\o.cls= .type "StopIteration")->E (.ref e) {s with heap:=b}):wpAny (model prog w) A (Builtin.SmallTypes.nextOf (.ref it)) Q E s:=by
 obtain⟨o,f,q,hd⟩:=id d;obtain⟨u,n,_,t,k⟩:=r;unfold Builtin.SmallTypes.nextOf;refine gk (uN (name:=Str.ofString "__next__") d.typeIs Kq (nH Kq d.typeIs F.entry_tuple_iterator_next ?_ (F.args_tuple_iterator_next_1 _)));refine gk (m:=field (.ref it) 0) (qy f hd (x:= .ref l) rfl ?_);show wpAny _ _ (if(Value.ref l==Value.none)=true then _ else _) _ _ s;rw[gL (by show ¬(Value.ref l==Value.none)=true;exact je)];refine gk (m:=field (.ref it) 1) (qy f hd (x:= .int i 0) rfl ?_);refine gk (m:=seqItems? (.ref l)) (pP n k ?_)
 cases g:c[i]? with
 |some x=>
  simp only[qQ,g];refine gk (um f hd (by simp) (gw ⟨x,rfl,gw (p x g _ ⟨_,tx _ f (B7 (sZ hd _)),(B6 ..).trans q,?_⟩ (qt ..))⟩));rw[sZ hd];simp[rawInt]
 |none=>
  obtain⟨j,h⟩:=h g;simp only[qQ,g];refine gk (tq (gk (um f hd (by simp) ?_)));refine gk (m:=newExc (.type "StopIteration") []) ?_;simp only[newExc,newTuple];refine gk (kW (gk (m:=firstArgMember _ _) (qv (a:=Value.none) (by first|rfl|(simp only[firstArgMember];rfl)) ?_)) (by size_fits));refine kW ?_ (by size_fits);simp only[raiseNew];refine gk (FG ?_)
  first|rw[show A.in1.handled=none from j]|rw[j]
  exact gk (gw (FF (h _ _ (((qt ..).extBut.push _).push _) ⟨_,jv _ rfl,rfl⟩)))
def Src.item{x:gA}{Q:hC}(st:Src s.heap it l i c)(h:c[i]?=some x)(j: ∀d,Src d it l (i+1) c->Heap.SameBut it s.heap d->Q x {s with heap:=d}):
  wpAny (model prog w) A (Builtin.SmallTypes.nextOf (.ref it)) Q E s:=by
 have ne:=st.ne;rcases st with⟨a,b⟩|⟨a,b⟩
 ·exact wpAny_nextOf_list_item a b h λd g f=>j d (.inl ⟨g,b.extBut f.extBut ne⟩) f
 ·exact AG a b (λk e d g f=>by rw[h] at e;cases e;exact j d (.inr ⟨g,b.extBut f.extBut ne⟩) f) λe=>by rw[h] at e;cases e
def Src.stop{Q:hC}(g:A.handled=none)(st:Src s.heap it l i c)(h:c[i]?=none)
  (f: ∀d e,Heap.ExtBut it s.heap d->(∃o,d.get? e=some o/\o.cls= .type "StopIteration")->E (.ref e) {s with heap:=d}):wpAny (model prog w) A (Builtin.SmallTypes.nextOf (.ref it)) Q E s:=by
 rcases st with⟨a,b⟩|⟨a,b⟩
 ·exact wpAny_nextOf_list_end g a b h f
 ·exact AG a b (λx e=>by rw[h] at e;cases e) λ_=>⟨g,f⟩
def Src.new(a:s.heap.IsList l c\/s.heap.IsTuple l c)(f: ∀d,Src d s.heap.objs.size l 0 c->d.objs.size=s.heap.objs.size+1->(∀b o,s.heap.get? b=some o->d.get? b=some o)->Q (.ref s.heap.objs.size) {s with heap:=d}):
  wpAny (model prog w) A (pyIter (.ref l)) Q E s:=by
 rcases a with a|a
 ·exact yz a (f _ (.inl ⟨⟨_,jv _ rfl,rfl,rfl⟩,a.push _⟩) (qw ..) λb o e=>iW _ e)
 ·exact F5 a (f _ (.inr ⟨⟨_,jv _ rfl,rfl,rfl⟩,a.push _⟩) (qw ..) λb o e=>iW _ e)
end
section
variable {a:gR}{w:gJ}{A:gM}{E:hC}{s:gn}{e d l:gm}{i:Nat}{c:Int}{b:lU}
end
section
variable {X:Cx}{d:gZ}{g:L2.St}{H:Hp}{s:gn}{f:gP}
def IQ{t':Nat}{ch:jl}{a:gm}{o:HO}(I:Inv X d g H s)(j: ∀b∈ch,rP X d H b)(k: ∀b u,b∉ch->s.heap.get? b=some u->f.get? b=some u)(p:s.heap.objs.size<=a)(new:ObjOk X.prog X.w (upd H a o) f a o):
  Inv X d g (upd H a o) {s with heap:=f,toks:=t'}:=by
 have G:=I.hok.fresh p;have l: ∀b u,H b=some u->b∉ch:=λb u e z=>by have:=(j b z).1;rw[this] at e;cases e
 have up: ∀b u,H b=some u->upd H a o b=some u:=λb u e=>by rw[hJ (kz e G)];exact e
 have C: ∀b u,s.heap.get? b=some u->H b=none->upd H a o b=none:=λb u e n=>by
  rw[hJ (λz=>by subst z;exact absurd (ja e) (Nat.not_lt.mpr p))];exact n
 refine I.step (g':=s.gens) (d':=s.drawn) (ch:=ch) (λb i=>?_) (λb u _ _ h e _=>k b u h e) (λb u _ _ h e _=>⟨u.slots,k b u h e⟩) (λb u _ e n=>C b u e n)
  (λb u h e=>⟨u,k b u h e⟩) (λb L e=>up b _ e) (λb _ _ e=>up b _ e) (λb M e=>⟨#[],by rw[up b _ e];simp⟩) (λm E=>?_) (λb u e=>?_) I.bare
 ·obtain⟨_,f1,f2,y,A,B⟩:=j b i;exact⟨y,f1,A,B⟩
 ·obtain⟨u,x,t,J,r⟩:=E;exact⟨u,x,t,k _ u (λz=>(j _ z).2.1 rfl) J,r⟩
 ·by_cases i:b=a
  ·subst i;rw[hG] at e;cases e;exact new
  ·rw[hJ i] at e;refine(I.hok b u e).stay (λc v h q=>k c v ?_ q) (λc q=>up c _ q) (λc L q=>up c _ q) λc _ _ q=>up c _ q;rcases h with z|z
   ·rw[z];exact l b u e
   ·exact l c _ z
def IS{t':Nat}{ch:jl}(I:Inv X d g H s)(h: ∀b∈ch,rP X d H b)(k: ∀b u,b∉ch->s.heap.get? b=some u->f.get? b=some u):Inv X d g H {s with heap:=f,toks:=t'}:=by
 have i: ∀b u,H b=some u->b∉ch:=λb u e z=>by have:=(h b z).1;rw[this] at e;cases e
 refine I.step (g':=s.gens) (d':=s.drawn) (ch:=ch) (λb w=>?_) (λb u _ _ a e _=>k b u a e) (λb u _ _ a e _=>⟨u.slots,k b u a e⟩) (λb u _ e n=>n)
  (λb u a e=>⟨u,k b u a e⟩) (λb A e=>e) (λb _ _ e=>e) (λb B e=>⟨#[],by rw[e];simp⟩) (λm x=>?_) (λb u e=>?_) I.bare
 ·obtain⟨_,f1,f2,o,p,t⟩:=h b w;exact⟨o,f1,p,t⟩
 ·obtain⟨u,l,j,y,r⟩:=x;exact⟨u,l,j,k _ u (λz=>(h _ z).2.1 rfl) y,r⟩
 ·refine(I.hok b u e).stay (λc v a q=>k c v ?_ q) (λc q=>q) λc A q=>q;rcases a with z|z
  ·rw[z];exact i b u e
  ·exact i c _ z
end
def SqX(b:Bool)(K:gK)(H:Hp)(l:gm)(a:List V):Prop:=if b=true then SqL K H l a else SqT K H l a
def ItX(b:Bool)(h:gP)(a l:gm)(i:Nat):Prop:=if b=true then h.IsListIter a l i else h.IsTupleIter a l i
def ItX.keep(x:ItX b h it l i)(k: ∀o,h.get? it=some o->h'.get? it=some o):ItX b h' it l i:=by
 cases b
 ·exact PySem.Heap.IsTupleIter.at (show h.IsTupleIter it l i from x) k
 ·exact PySem.Heap.IsListIter.at (show h.IsListIter it l i from x) k
def ItX.obj(x:ItX b h it l i): ∃o,h.get? it=some o/\ ∀v,o.data≠ .cell v:=by
 cases b<;>(obtain⟨o,e,c,d⟩:=x;exact⟨o,e,λv z=>by rw[d] at z;cases z⟩)
section
variable {X:Cx}{d:gZ}{e:L2.St}{H:Hp}{s:gn}
def xY(I:Inv X d e H s)(q:SqX b X.K H l xs)(t:ItX b s.heap it l i): ∃a,Vals xs a/\Src s.heap it l i a.toArray:=by
 cases b with
 |true=>obtain⟨a,v,p,_⟩:=I.list q;exact⟨a,v,.inl ⟨t,p.isList⟩⟩
 |false=>obtain⟨a,v,p,_⟩:=I.tuple q;exact⟨a,v,.inr ⟨t,p⟩⟩
theorem Hz(I:Inv X d e H s)(q:SqX b X.K H l xs)(a:SqX b X.K H l c):xs=c:=by
 cases b with
 |true=>exact I.list_inj q a
 |false=>exact I.tuple_inj q a
def MP(t:ItX b h it l i)(k:Src h it l i xs)(n:Src j it l p xs)(m: ∀o,h.get? l=some o->j.get? l=some o):ItX b j it l p:=by
 cases b with
 |true=>
  rcases n with⟨a,_⟩|⟨a,c⟩
  ·exact a
  ·rcases k with⟨_,o,h1,f,_⟩|⟨⟨o,h1,f,_⟩,_⟩
   ·obtain⟨g,g1,g2,_⟩:=c;rw[m _ h1] at g1;cases g1;rw[f] at g2;injection g2 with g2;exact absurd g2 (by decide)
   ·obtain⟨g,g1,g2,_⟩:=t;rw[h1] at g1;cases g1;rw[f] at g2;injection g2 with g2;exact absurd g2 (by decide)
 |false=>
  rcases n with⟨a,c⟩|⟨a,_⟩
  ·rcases k with⟨⟨o,h1,f,_⟩,_⟩|⟨_,o,h1,f,_⟩
   ·obtain⟨g,g1,g2,_⟩:=t;rw[h1] at g1;cases g1;rw[f] at g2;injection g2 with g2;exact absurd g2 (by decide)
   ·obtain⟨g,g1,g2,_⟩:=c;rw[m _ h1] at g1;cases g1;rw[f] at g2;injection g2 with g2;exact absurd g2 (by decide)
  ·exact a
end
def Gh{K H}(q:SqA b K H P a xs):SqX b K H a xs:=by
 cases b with
 |true=>exact q.l
 |false=>exact q.t
open AutoSeq1 (wpAny_loadPart')
section
variable {a:gR}{w:gJ}{A:gM}{E:hC}{s:gn}
end
section
variable {X:Cx}{a:gZ}{d:L2.St}{H:Hp}{s:gn}{c:jm}{f:Nat}{e:Pos}
def K9(I:Inv X a d H s)(q:SqX b X.K H l xs): ∃g,Vals xs g/\(s.heap.IsList l g.toArray\/s.heap.IsTuple l g.toArray):=by
 cases b with
 |true=>obtain⟨g,v,p,_⟩:=I.list q;exact⟨g,v,.inl p.isList⟩
 |false=>obtain⟨g,v,p,_⟩:=I.tuple q;exact⟨g,v,.inr p⟩
end
section
variable {j:gR}{w:gJ}{A:gM}{E:hC}{s:gn}{z TI TO f d n l:gm}{k:Nat}{i g:lU}{x y a b:gA}
def QD{Q:hC}(D:ZipApart z TI TO f d n l)(hz:IsZip s.heap z TI TO .none)(t8:IsPair s.heap TI (.ref f) (.ref d))(w5:IsPair s.heap TO a b)(h1:Src s.heap f n k i)(h2:Src s.heap d l k g)
  (hQ: ∀x y,i[k]?=some x->g[k]?=some y-> ∀N,IsZip N z TI TO (rawInt s.heap.objs.size)->IsPair N TO x y->Src N f n (k+1) i->Src N d l (k+1) g->IsPair N s.heap.objs.size x y->(∀c o,c≠z->c≠TO->c≠f->c≠d->s.heap.get? c=some o->N.get? c=some o)->Q (.ref s.heap.objs.size) {s with heap:=N})
  (hE:i[k]?=none\/g[k]?=none->A.handled=none/\ ∀N e,(∀c o,c≠z->c≠TO->c≠f->c≠d->s.heap.get? c=some o->N.get? c=some o)->(∃o,N.get? e=some o/\o.cls= .type "StopIteration")->E (.ref e) {s with heap:=N}):
  wpAny (model j w) A (Builtin.«zip.__next__» ⟨[.ref z],[]⟩) (λfin s'=> ∃v,fin= .done (.ret v)/\Q v s') E s:=by
 have I: ∀{h:gP} {e:gm} {oe:Obj} {f0:gA},IsZip h z TI TO f0->h.get? e=some oe->oe.cls= .type "StopIteration"->e≠z:=λhzz bW bj q=>by
  subst q;have V:_=_:=hzz;rw[bW] at V;cases V;injection bj with bj;exact absurd bj (by decide)
 refine gk (m:=field (.ref z) 2) (qy hz rfl (x:= .bool false) rfl (gk (m:=field (.ref z) 3) (qy hz rfl (x:= .ref TI) rfl (gk (pP t8 rfl (gk (m:=Builtin.SmallTypes.ownedTupleIsFree (.ref z)) ?_))))));unfold Builtin.SmallTypes.ownedTupleIsFree;refine gk (qy hz rfl (x:= .none) rfl (gw ?_));simp only[jh];refine gk (tq (gk (qy hz rfl (x:= .ref TO) rfl (gk (yo hz (by simp) λG cZ R=>?_)))));replace cZ:IsZip G z TI TO .ellipsis:=cZ;refine gk ?_;simp only[List.zipIdx_cons,List.zipIdx_nil,List.forIn_cons,List.forIn_nil];have c1:Src G f n k i:=h1.keep (λo e=>R.extBut _ o D.i1z e) (λo e=>R.extBut _ o D.l1z e)
 cases hx:i[k]? with
 |none=>
  obtain⟨hh,hE⟩:=hE (.inl hx);refine gk (gk (BZ (gk (m:=Builtin.SmallTypes.nextOf (.ref f)) (c1.stop (s:={s with heap:=G}) hh hx λr e M ⟨oe,bW,bj⟩=>?_))));have T:IsZip r z TI TO .ellipsis:=M _ _ D.i1z.symm cZ;exact yo (s:={s with heap:=r}) T (by simp) λt _ L=>hE t e (λc o J _ d3 _ q=>L.extBut _ _ J (M _ _ d3 (R.extBut _ _ J q))) ⟨oe,L.extBut _ _ (I T bW bj) bW,bj⟩
 |some x=>
  refine gk (gk (BZ (gk (m:=Builtin.SmallTypes.nextOf (.ref f)) (c1.item (s:={s with heap:=G}) hx λr X M=>gw ?_))));have B:IsPair r TO a b:=M.extBut _ _ D.TOi1 (R.extBut _ _ D.TOz w5);refine gk (pP (s:={s with heap:=r}) B rfl (gk (Kp (s:={s with heap:=r}) B λt cw L=>gk (FE (gw ?_)))));replace cw:IsPair t TO x b:=cw;have c2:Src t d l k g:=h2.keep (λo e=>L.extBut _ o D.TOi2.symm (M.extBut _ o D.i12.symm (R.extBut _ o D.i2z e))) (λo e=>L.extBut _ o D.l2TO (M.extBut _ o D.l2i1 (R.extBut _ o D.l2z e)))
  cases hy:g[k]? with
  |none=>
   obtain⟨hh,hE⟩:=hE (.inr hy);refine gk (gk (BZ (gk (m:=Builtin.SmallTypes.nextOf (.ref d)) (c2.stop (s:={s with heap:=t}) hh hy λu e aQ ⟨oe,bW,bj⟩=>?_))));have U:IsZip u z TI TO .ellipsis:=aQ _ _ D.i2z.symm (L.extBut _ _ D.TOz.symm (M.extBut _ _ D.i1z.symm cZ));exact yo (s:={s with heap:=u}) U (by simp) λp _ P=>hE p e (λc o J d2 d3 d4 q=>P.extBut _ _ J (aQ _ _ d4 (L.extBut _ _ d2 (M.extBut _ _ d3 (R.extBut _ _ J q))))) ⟨oe,P.extBut _ _ (I U bW bj) bW,bj⟩
  |some y=>
   refine gk (gk (BZ (gk (m:=Builtin.SmallTypes.nextOf (.ref d)) (c2.item (s:={s with heap:=t}) hy λu c2₄ aQ=>gw ?_))));have C:IsPair u TO x b:=aQ.extBut _ _ D.TOi2 cw;refine gk (pP (s:={s with heap:=u}) C rfl (gk (Kp (s:={s with heap:=u}) C λp bo P=>gk (FE (gw (gw ?_))))));replace bo:IsPair p TO x y:=bo;refine gk (pP (s:={s with heap:=p}) bo rfl (gk (FD (s:={s with heap:=p}) ?_)));have hsz:p.objs.size=s.heap.objs.size:=by rw[P.1,aQ.1,L.1,M.1,R.1]
   have Y:IsZip p z TI TO .ellipsis:=P.extBut _ _ D.TOz.symm (aQ.extBut _ _ D.i2z.symm (L.extBut _ _ D.TOz.symm (M.extBut _ _ D.i1z.symm cZ)));have hk₅: ∀c o,c≠z->c≠TO->c≠f->c≠d->s.heap.get? c=some o->p.get? c=some o:=λc o J d2 d3 d4 e=>P.extBut _ _ d2 (aQ.extBut _ _ d4 (L.extBut _ _ d2 (M.extBut _ _ d3 (R.extBut _ _ J e))));have Z:Src p f n (k+1) i:=X.keep (λo e=>P.extBut _ o D.TOi1.symm (aQ.extBut _ o D.i12 (L.extBut _ o D.TOi1.symm e))) (λo e=>P.extBut _ o D.l1TO (aQ.extBut _ o D.l1i2 (L.extBut _ o D.l1TO e)));have c2₅:Src p d l (k+1) g:=c2₄.keep (λo e=>P.extBut _ o D.TOi2.symm e) (λo e=>P.extBut _ o D.l2TO e);have S:z<p.objs.size:=ja Y;refine gk (m:=Builtin.SmallTypes.ownedTupleHandOut (.ref z) (.ref p.objs.size)) ?_;unfold Builtin.SmallTypes.ownedTupleHandOut;have hz₆:IsZip (p.push {cls:= .type "tuple",data:= .seq #[x,y]}) z TI TO .ellipsis:=iW _ Y;refine gk (yo (s:={s with heap:=p.push {cls:= .type "tuple",data:= .seq #[x,y]}}) hz₆ (by simp) λW eT F=>?_);replace eT:IsZip W z TI TO (rawInt p.objs.size):=eT;refine yo (s:={s with heap:=W}) eT (by simp) λH dZ K=>?_;replace dZ:IsZip H z TI TO (rawInt p.objs.size):=dZ;have up: ∀c o,c≠z->p.get? c=some o->H.get? c=some o:=λc o J e=>K.extBut _ _ J (F.extBut _ _ J (iW _ e));have O:IsPair H p.objs.size x y:=K.extBut _ _ (pd S) (F.extBut _ _ (pd S) (jv _ rfl));rw[hsz] at dZ O;refine gw ⟨_,rfl,?_⟩;show Q (.ref p.objs.size) _;rw[hsz];exact hQ x y hx hy H dZ (up _ _ D.TOz bo) (Z.keep (λo e=>up _ o D.i1z e) λo e=>up _ o D.l1z e) (c2₅.keep (λo e=>up _ o D.i2z e) λo e=>up _ o D.l2z e) O λc o J d2 d3 d4 e=>up c o J (hk₅ c o J d2 d3 d4 e)
def yQ{Q:Hn}(D:ZipApart z TI TO f d n l)(t:IsZip s.heap z TI TO .none)(M:IsPair s.heap TI (.ref f) (.ref d))(N:IsPair s.heap TO a b)(h1:Src s.heap f n k i)(H:Src s.heap d l k g)
  (I: ∀x y,i[k]?=some x->g[k]?=some y-> ∀h,IsZip h z TI TO (rawInt s.heap.objs.size)->IsPair h TO x y->Src h f n (k+1) i->Src h d l (k+1) g->IsPair h s.heap.objs.size x y->(∀c o,c≠z->c≠TO->c≠f->c≠d->s.heap.get? c=some o->h.get? c=some o)->Q (some (.ref s.heap.objs.size)) {s with heap:=h})
  (m:i[k]?=none\/g[k]?=none->A.handled=none/\ ∀h,(∀c o,c≠z->c≠TO->c≠f->c≠d->s.heap.get? c=some o->h.get? c=some o)->Q none {s with heap:=h}):
  wpAny (model j w) A (pyNext (.ref z)) Q E s:=by
 have p:s.TypeIs (.ref z) "zip":=⟨_,t,rfl⟩
 unfold pyNext
 exact gk (uk (uN (name:=Str.ofString "__next__") p F.slot_zip_next (nH F.slot_zip_next p F.entry_zip_next
  (QD D t M N h1 H (λx y q r h a1 u v B C G=>gw (I x y q r h a1 u v B C G)) λq=>⟨(m q).1,λh e hk ⟨o,L,J⟩=>gk (wg (T:="StopIteration") (b:=true) ⟨o,L,J⟩ FC (gw ((m q).2 _ hk)))⟩) (F.args_zip_next_1 _))))
end
def NK(j c:gm)(l i:lU):Meets (Builtin.«zip.__new__» ⟨[.type "zip",.ref j,.ref c],[]⟩) (λ_ R s=>(s.heap.IsList j l\/s.heap.IsTuple j l)/\(s.heap.IsList c i\/s.heap.IsTuple c i)/\
  ∀h1 a,Src h1 s.heap.objs.size j 0 l->h1.objs.size=s.heap.objs.size+1->(∀b o,s.heap.get? b=some o->h1.get? b=some o)->Src a h1.objs.size c 0 i->a.objs.size=h1.objs.size+1->(∀b o,h1.get? b=some o->a.get? b=some o)->
   R (.ok (.ret (.ref ((a.push {cls:= .type "tuple",data:= .seq #[.ref s.heap.objs.size,.ref h1.objs.size]}).push {cls:= .type "tuple",data:= .seq #[.none,.none]}).objs.size)))
    {s with heap:=((a.push {cls:= .type "tuple",data:= .seq #[.ref s.heap.objs.size,.ref h1.objs.size]}).push {cls:= .type "tuple",data:= .seq #[.none,.none]}).push {cls:= .type "zip",data:= .fields #[.none,.bool false,.bool false,.ref a.objs.size,.ref (a.push {cls:= .type "tuple",data:= .seq #[.ref s.heap.objs.size,.ref h1.objs.size]}).objs.size]}}):=
 .of_wp λm w A R s h=>by
  obtain⟨y,g,d,x,os⟩:=s;obtain⟨v,u,h⟩:=h;have z:=sub_zip
  wp_walk using Src.new v
  intro h1 a1 n k
  have f:h1.IsList c i\/h1.IsTuple c i:=by
   rcases u with⟨o,e,r⟩|⟨o,e,r⟩
   ·exact .inl ⟨o,k _ _ e,r⟩
   ·exact .inr ⟨o,k _ _ e,r⟩
  wp_walk using Src.new (s:=⟨h1,g,d,x,os⟩) f
  intro a p q t
  wp_walk
  exact⟨_,rfl,h h1 a a1 n k p q t⟩
noncomputable def ItZ(c d:Bool)(K:gK)(e f:gm):It:=⟨λi H=> ∃a b x y,SqX c K H e a/\SqX d K H f b/\a[i]?=some x/\b[i]?=some y,
 λi H x g=> ∃(T:gm) (u v:V),x= .ref T/\H T=none/\g=upd H T (.tup [u,v])/\ ∀a b,SqX c K H e a->SqX d K H f b->a[i]?=some u/\b[i]?=some v,
 λi H=> ∃a b,SqX c K H e a/\SqX d K H f b/\(a.length<=i\/b.length<=i)⟩
structure ZA(z TI TO i1 i2:gm):Prop where
 a1:TI≠z
 a2:TO≠z
 a3:i1≠z
 a4:i2≠z
 a5:TI≠TO
 a6:TI≠i1
 a7:TI≠i2
 a8:TO≠i1
 a9:TO≠i2
 a10:i1≠i2
def uU{b:Bool}{K:gK}{H:Hp}{l:gm}{m:List V}{X:Cx}{c:gZ}{p:L2.St}{s:gn}(I:Inv X c p H s)(k:X.K=K)(q:SqX b K H l m){h:jl}(i: ∀a∈h,rP X c H a):l∉h:=by
 subst k;intro j;have d:=(i l j).1
 have base: ∀o,X.K.lookup l=some o->False:=λo e=>by
  have g:=I.mod.kin l o e;rcases(i l j).2.2.2.1 with z|z
  ·exact I.ok.noex l o g z
  ·have:=(I.ok.bs l o g).1;exact absurd (ja this) (Nat.not_lt.mpr z)
 cases b with
 |true=>
  rcases q with(q|⟨o,q⟩)|⟨o,f,n,e,_⟩
  ·rw[d] at q;cases q
  ·rw[d] at q;cases q
  ·exact base o e
 |false=>
  rcases q with(q|⟨o,q⟩)|⟨o,f,n,e,_⟩
  ·rw[d] at q;cases q
  ·rw[d] at q;cases q
  ·exact base o e
def KN{P:gR}{w:gJ}{K:gK}{elts:jm}{k1}{pos:Pos}(b1 b2:Bool)(z TI TO m n O Q:gm)(D:ZA z TI TO m n):
  Turn P w K (.Tuple elts k1 pos) (ItZ b1 b2 K O Q) [z,TI,TO,m,n] z (λi h=>IsZip h z TI TO .none/\IsPair h TI (.ref m) (.ref n)/\(∃a b,IsPair h TO a b)/\ItX b1 h m O i/\ItX b2 h n Q i) where
 mem:=by simp
 obj:=λi h st a N=>by
  obtain⟨l,p,⟨u,v,C⟩,s1,B⟩:=st;simp only[jr,jT,kU] at N;rcases N with rfl|rfl|rfl|rfl|rfl
  ·exact⟨_,l,λv e=>by have Y:Data.fields _=Data.cell v:=e;cases Y⟩
  ·exact⟨_,p,λv e=>by have Y:Data.seq _ _=Data.cell v:=e;cases Y⟩
  ·exact⟨_,C,λv e=>by have Y:Data.seq _ _=Data.cell v:=e;cases Y⟩
  ·exact s1.obj
  ·exact B.obj
 keep:=λi h h' st k=>by
  obtain⟨l,p,⟨u,v,C⟩,s1,B⟩:=st;exact⟨k z (by simp) _ l,k TI (by simp) _ p,⟨u,v,k TO (by simp) _ C⟩,s1.keep λo q=>k m (by simp) o q,B.keep λo q=>k n (by simp) o q⟩
 item:=by
  intro X hP hw G hc i A s σ H E I t st hg;obtain⟨l,p,⟨a0,b0,C⟩,s1,B⟩:=st;obtain⟨xs,ys,x,y,L,J,hx,hy⟩:=hg;have d:=uU I G L t;have f:=uU I G J t;simp only[jr,jT,kU,nF] at d f;subst hP hw G;obtain⟨bM,Z,U⟩:=xY I L s1;obtain⟨b9,W,T⟩:=xY I J B;obtain⟨u,hu,ru⟩:=Z.get hx;obtain⟨v,hv,rv⟩:=W.get hy;have AP:ZipApart z TI TO m n O Q:=⟨D.a1,D.a2,D.a3,D.a4,D.a5,D.a6,D.a7,D.a8,D.a9,D.a10,d.1,d.2.2.1,d.2.2.2.1,d.2.2.2.2,f.1,f.2.2.1,f.2.2.2.1,f.2.2.2.2⟩
  refine yQ AP l p C U T (λx' y' q r h' z' t1 c1 c2 hT V=>?_) λq=>absurd q (by simp[hu,hv]);obtain rfl:u=x':=by simpa[hu] using q
  obtain rfl:v=y':=by simpa[hv] using r
  refine⟨.ref s.heap.objs.size,rfl,?_⟩;refine wpAny_letOwnedTupleGo_zip (s:={s with heap:=h'}) z' λM z'' j=>?_;replace j:Heap.SameBut z h' M:=j
  have eQ: ∀a o,a∉[z,TI,TO,m,n]->s.heap.get? a=some o->M.get? a=some o:=λa o g q=>by
   simp only[jr,jT,kU,nF] at g;exact j.extBut a o g.1 (V a o g.1 g.2.2.1 g.2.2.2.1 g.2.2.2.2 q)
  have lt: ∀{c o},s.heap.get? c=some o->s.heap.objs.size≠c:=λe=>pd (ja e);have F:IsPair M s.heap.objs.size u v:=j.extBut _ _ (lt l) hT
  have I1:Inv X A σ (upd H s.heap.objs.size (.tup [x,y])) {s with heap:=M}:=
   IQ (t':=s.toks) I t eQ (iO _) (show ObjOk X.prog X.w _ _ _ (.tup [x,y]) from⟨by show 2<=sizeLine;decide,[u,v],.cons ru (.cons rv .nil),_,F,rfl,0,rfl⟩)
  have R:ItX b1 M m O (i+1):=MP s1 U (c1.keep (λo q=>j.extBut _ o D.a3 q) λo q=>j.extBut _ o d.1 q) λo q=>eQ O o (by simp only[jr,jT,kU,nF];exact d) q;have S:ItX b2 M n Q (i+1):=MP B T (c2.keep (λo q=>j.extBut _ o D.a4 q) λo q=>j.extBut _ o f.1 q) λo q=>eQ Q o (by simp only[jr,jT,kU,nF];exact f) q;refine⟨.ref s.heap.objs.size,_,I1,rfl,⟨_,x,y,rfl,I.fresh,rfl,λbq ys' q1 q2=>by rw[Hz I q1 L,Hz I q2 J];exact⟨hx,hy⟩⟩,⟨z'',j.extBut _ _ D.a1 (V _ _ D.a1 D.a5 D.a6 D.a7 p),⟨u,v,j.extBut _ _ D.a2 t1⟩,R,S⟩,λa N=>?_⟩;have n0:=(t a N).1;rw[hJ]
  ·exact n0
  ·intro e;simp only[jr,jT,kU] at N;rcases N with rfl|rfl|rfl|rfl|rfl
   ·exact lt l e.symm
   ·exact lt p e.symm
   ·exact lt C e.symm
   ·exact absurd e (iD U.lt.1)
   ·exact absurd e (iD T.lt.1)
 done:=by
  intro X hP hw G hc i A s σ H E I t st hg;obtain⟨l,p,⟨a0,b0,C⟩,s1,B⟩:=st;obtain⟨xs,ys,L,J,hend⟩:=hg;have d:=uU I G L t;have f:=uU I G J t;simp only[jr,jT,kU,nF] at d f;subst hP hw G;obtain⟨bM,Z,U⟩:=xY I L s1;obtain⟨b9,W,T⟩:=xY I J B;have e1:=Z.length;have e2:=W.length;have AP:ZipApart z TI TO m n O Q:=⟨D.a1,D.a2,D.a3,D.a4,D.a5,D.a6,D.a7,D.a8,D.a9,D.a10,d.1,d.2.2.1,d.2.2.2.1,d.2.2.2.2,f.1,f.2.2.1,f.2.2.2.1,f.2.2.2.2⟩
  refine yQ AP l p C U T (λx y q r=>?_) λ_=>⟨I.ok.hd hc,λh' V=>⟨rfl,IS (t':=s.toks) I t λa o g q=>?_⟩⟩
  ·have z1:=(JV.mp q).1;have z2:=(JV.mp r).1;simp at z1 z2;omega
  simp only[jr,jT,kU,nF] at g;exact V a o g.1 g.2.2.1 g.2.2.2.1 g.2.2.2.2 q
 self:=λ_ _ _ _ _ st h=>wpAny_pyIter_zip st.1 h
def MR{K:gK}{P O:AP'}{g:Hp}{a1 r:gm}{f h:List V}{A B:List D}{s t:Bool}(l:SqA s K g P a1 f)(I:RepL K g O A f)(m:SqA t K g P r h)(J:RepL K g O B h)(C: ∀a,P a->O a):
  ItOk K (ItZ s t K a1 r) ((A.zip B).map λp=> .tup [p.1,p.2]) P O g:=by
 have sq: ∀{b:Bool} {a:gm} {f:List V},SqA b K g P a f-> ∀Hi,(∀a o,g a=some o-> ¬P a->Hi a=some o)->SqX b K Hi a f:=λq Hi c=>Gh (q.mono c λ_ z=>z);refine⟨λi d Hi hd c=>?_,λi Hi U c=>⟨f,h,sq l Hi c,sq m Hi c,by rw[I.length,J.length];simp at U;omega⟩⟩;rw[kY] at hd;obtain⟨⟨X,Z⟩,h1,M⟩:=iC hd;obtain⟨N,Q⟩:=Dx.mp h1;obtain⟨x,G,F⟩:=I.get N;obtain⟨y,H,R⟩:=J.get Q;refine⟨⟨f,h,x,y,sq l Hi c,sq m Hi c,G,H⟩,λv S k=>?_⟩;obtain⟨T,u,w,rfl,E,rfl,Y⟩:=k;obtain⟨g1,g2⟩:=Y f h (sq l Hi c) (sq m Hi c);rw[G] at g1;cases g1;rw[H] at g2;cases g2;have ext:=jY (o:= .tup [x,y]) E;refine⟨ext,λW h1 L=>?_⟩;subst M;exact Rep.mkTup ⟨hG,L T E⟩ (RepL.cons (Rep.mono (λb o e n=>ext b o (c b o e λz=>n (C b z))) (λb j z=>h1 b j z) F) (RepL.cons (Rep.mono (λb o e n=>ext b o (c b o e λz=>n (C b z))) (λb j z=>h1 b j z) R) RepL.nil))
section
variable {X:Cx}{d:jm}{n:Nat}{r:Pos}
def To:bootBuiltins "zip"=some (.type "zip"):=by decide+kernel
def WM(K:gK)(g:TA):TI:=λk H R=>g k H λh a=> ∃e f b c i j,h=[.ref b,.ref c]/\SqX e K a b i/\SqX f K a c j/\R (ItZ e f K b c) a
def Il(I:Inv X pins σ H s)(f:SqX b X.K H l xs)(c:Src s.heap it l i g):ItX b s.heap it l i:=by
 cases b with
 |true=>
  rcases c with⟨a,_⟩|⟨_,o,h1,e,_⟩
  ·exact a
  ·obtain⟨_,_,p,_⟩:=I.list f;obtain⟨h,g1,g2,_⟩:=p.isList;rw[h1] at g1;cases g1;rw[e] at g2;injection g2 with g2;exact absurd g2 (by decide)
 |false=>
  rcases c with⟨_,o,h1,e,_⟩|⟨a,_⟩
  ·obtain⟨_,_,p,_⟩:=I.tuple f;obtain⟨h,g1,g2,_⟩:=p;rw[h1] at g1;cases g1;rw[e] at g2;injection g2 with g2;exact absurd g2 (by decide)
  ·exact a
def R0{a b:gy}{O:TA}{p l:Pos}(hg:Gl X "zip")(hm:X.mg "zip"=none)(A:PA X [a,b] O)(hs:starEach [a,b] X.env=(false,eval a X.env)::starEach [b] X.env)(i4:(backTo l (starEach [b] X.env)).any (·.1)=false):
  PI X (.Tuple d n r) (.Call (.Name "zip" p) [a,b] [] l) (WM X.K O):=by
 intro j s0 Q T R G h;refine yx (rz G hg hm To (Ck (thn (A l j s0 Q T _ G h) λus s ⟨vs,H,I,r1,U,Y,M,N,xs,ys,hv,L,J,q⟩=>?_) hs i4));subst hv;obtain⟨u,v,rfl,ru,rv⟩:=xj r1;cases ru;cases rv;obtain⟨P,_,V⟩:=K9 I L;obtain⟨D,_,S⟩:=K9 I J;refine callType_new F.called_zip (by decide) (F.typeCall_zip_2 _ _) (F.newCall_zip_2 _ _) (λobj=>F.args_object_init_3 obj _ _) F.entry_zip_new (NK M N P.toArray D.toArray) ⟨V,S,λh1 f W k n Z i E=>?_⟩;generalize t:({cls:= .type "tuple",data:= .seq #[.ref s.heap.objs.size,.ref h1.objs.size]}:Obj)=g;generalize w:({cls:= .type "tuple",data:= .seq #[.none,.none]}:Obj)=o4;have m:(f.push g).objs.size=f.objs.size+1:=qw ..;have z:((f.push g).push o4).objs.size=f.objs.size+2:=by rw[qw,m]
 generalize x:({cls:= .type "zip",data:= .fields #[.none,.bool false,.bool false,.ref f.objs.size,.ref (f.push g).objs.size]}:Obj)=o5;have g5:(((f.push g).push o4).push o5).get? ((f.push g).push o4).objs.size=some o5:=jv _ (by rw[<-x];rfl);have g4:(((f.push g).push o4).push o5).get? (f.push g).objs.size=some o4:=iW _ (jv _ (by rw[<-w];rfl));have g3:(((f.push g).push o4).push o5).get? f.objs.size=some g:=iW _ (iW _ (jv _ (by rw[<-t];rfl)));have y: ∀c o,f.get? c=some o->(((f.push g).push o4).push o5).get? c=some o:=λc o e=>iW _ (iW _ (iW _ e));have C:IsZip (((f.push g).push o4).push o5) ((f.push g).push o4).objs.size f.objs.size (f.push g).objs.size .none:=by show _=_;rw[g5,<-x]
 have t8:IsPair (((f.push g).push o4).push o5) f.objs.size (.ref s.heap.objs.size) (.ref h1.objs.size):=by show _=_;rw[g3,<-t]
 have w5:IsPair (((f.push g).push o4).push o5) (f.push g).objs.size .none .none:=by show _=_;rw[g4,<-w]
 have B:Inv X j Q H {s with heap:=((f.push g).push o4).push o5}:=I.kept (t':=s.toks) λc o e=>y c o (E c o (n c o e));have d1:=W.keep (h':=((f.push g).push o4).push o5) (λo e=>y _ o (E _ o e)) (λo e=>y _ o (E _ o e));have d2:=Z.keep (h':=((f.push g).push o4).push o5) (λo e=>y _ o e) (λo e=>y _ o e);refine⟨⟨_,C,rfl⟩,wpAny_pyIter_zip (s:={s with heap:=((f.push g).push o4).push o5}) C ?_⟩;refine⟨((f.push g).push o4).objs.size,[((f.push g).push o4).objs.size,f.objs.size,(f.push g).objs.size,s.heap.objs.size,h1.objs.size],_,_,H,rfl,B,KN U Y _ _ _ _ _ M N ⟨?_,?_,?_,?_,?_,?_,?_,?_,?_,?_⟩,⟨C,t8,⟨_,_,w5⟩,Il B L d1,Il B J d2⟩,λa A=>?_,q⟩
 ·rw[z];exact iD (Nat.lt_add_of_pos_right (by decide))
 ·rw[z,m];exact iD (pS _)
 ·rw[z,i,k];exact iD (by
   have:s.heap.objs.size<s.heap.objs.size+1+1+2:=by omega
   exact this)
 ·rw[z,i];exact iD (by
   have:h1.objs.size<h1.objs.size+1+2:=by omega
   exact this)
 ·rw[m];exact iD (pS _)
 ·rw[i,k];exact pd (by
   have:s.heap.objs.size<s.heap.objs.size+1+1:=by omega
   exact this)
 ·rw[i];exact pd (pS _)
 ·rw[m,i,k];exact pd (by
   have:s.heap.objs.size<s.heap.objs.size+1+1+1:=by omega
   exact this)
 ·rw[m,i];exact pd (by
   have:h1.objs.size<h1.objs.size+1+1:=by omega
   exact this)
 ·rw[k];exact iD (pS _)
 ·have le:s.heap.objs.size<=a:=by
   simp only[jr,jT,kU] at A;rcases A with rfl|rfl|rfl|rfl|rfl
   ·rw[z,i,k];have:s.heap.objs.size<=s.heap.objs.size+1+1+2:=by omega
    exact this
   ·rw[i,k];have:s.heap.objs.size<=s.heap.objs.size+1+1:=by omega
    exact this
   ·rw[m,i,k];have:s.heap.objs.size<=s.heap.objs.size+1+1+1:=by omega
    exact this
   ·exact iO _
   ·rw[k];exact Cf _
  exact I.fpOk le (I.hok.fresh le)
noncomputable def wR(f g:FO):FIt:=λδ=>(f δ).bind λp=>(g p.2).bind λq=>(res q.2 p.1).bind λx=>(res q.2 q.1).bind λy=>(yK x).bind λl=>(yK y).bind λm=>some ((l.zip m).map λp=> .tup [p.1,p.2],q.2)
def LP{B:SB}{a b:gy}{f g:FO}{p c:Pos}(hg:Gl X "zip")(hm:X.mg "zip"=none)(Y:PO X a f)(hb:PO X b g)(G:SlB B f)(I:SlB B g)(w:starEach [a,b] X.env=(false,eval a X.env)::starEach [b] X.env)(M:starEach [b] X.env=(false,eval b X.env)::starEach [] X.env)(i4:(backTo c (starEach [b] X.env)).any (·.1)=false):
  PIX X B (.Tuple d n r) (.Call (.Name "zip" p) [a,b] [] c) (wR f g):=PI.imp' (R0 hg hm (vf Y (vf hb CM M) w) w i4) λσ H R F=>by
 obtain⟨δ,T,ds,δ',E,e,k⟩:=F;obtain⟨⟨K,δ1⟩,h1,e⟩:=gg e;obtain⟨⟨P,t⟩,h,e⟩:=gg e;obtain⟨x,N,e⟩:=gg e;obtain⟨y,O,e⟩:=gg e;obtain⟨l,Q,e⟩:=gg e;obtain⟨m,U,e⟩:=gg e;obtain⟨rfl,rfl⟩:=gO e;dsimp only at h;refine⟨δ,T,[K,P],t,E,?_,λS J T1 W=>?_⟩
 ·simp only[jj,h1,h,Option.bind]
 ·have D:=W.len
  match S,D with
  |[v,u],_=>
   obtain⟨a1,V,rfl,A,q⟩:=W.seq E (j:=0) rfl rfl N Q λi o=>G _ _ _ (o▸h1);obtain⟨L,Z,rfl,C,s⟩:=W.seq E (j:=1) rfl rfl O U λi o=>I _ _ _ (o▸h);exact⟨_,_,a1,L,V,Z,rfl,Gh A,Gh C,k _ J W.keep (W.er.mono (λ_ _ e _=>e) (λb _ z=>W.tt b z) (λa z=>W.er.dom a (W.tt a z))) (MR A q C s λa z=>z.own)⟩
end
end PX
namespace TS
open PySem PyProof.Rows
def Ask(M:Model)(A:gM)(G:Shared->Prop)(a:Nat->Keyed)(e:SortKind)(N:Nat)(lt:Nat->Nat->Bool):Prop:= ∀i j,i<N->j<N-> ∀s,G s-> ∀c,wpAny M A (keyLt' e (a i).1 (a j).1) (λb d=>G d/\b=lt i j) c s
structure Cs where
 M:Model
 A:Around
 E:Value->Shared->Prop
 G:Shared->Prop
 it:Nat->Keyed
 lt:Nat->Nat->Bool
 κ:SortKind
 N:Nat
 as: ∀i j,lt i j=true->lt j i=false
 tr: ∀{i j k},lt j i=false->lt k j=false->lt k i=false
 ask:Ask M A G it κ N lt
section
variable {X:Cs}{α β:Type}{f:α->StateT SortSt Sem β}{Q:β->SortSt->Prop}{st:qL}
def wp(X:Cs){α:Type}(m:StateT SortSt Sem α)(Q:α->SortSt->Prop)(st:qL):Prop:= ∀s,X.G s->wpAny X.M X.A (m.run st) (λr a=>X.G a/\Q r.1 r.2) X.E s
def gv{a:β}(h:Q a st):wp X (pure a) Q st:=λs g=>by rw[FA];exact gw ⟨g,h⟩
def jd{m:StateT SortSt Sem α}(h:wp X m (λa c=>wp X (f a) Q c) st):wp X (m>>=f) Q st:=λs g=>by
 rw[StateT.run_bind];exact gk (pe (h s g) (λr d b=>b.2 d b.1) λ_ _ e=>e)
def Hq{m:StateT SortSt Sem α}{Q b:α->SortSt->Prop}(h:wp X m Q st)(i: ∀a c,Q a c->b a c):wp X m b st:=λs g=>pe (h s g) (λr _ d=>⟨d.1,i _ _ d.2⟩) λ_ _ e=>e
def gY{c:Prop}[Decidable c]{t e:StateT SortSt Sem β}(h1:c->wp X t Q st)(a: ¬c->wp X e Q st):wp X (if c then t else e) Q st:=by split<;>simp_all
def nJ{f:SortSt->StateT SortSt Sem β}(h:wp X (f st) Q st):wp X (get>>=f) Q st:=jd λs g=>by rw[StateT.run_get];exact gw ⟨g,h⟩
def ux{g:SortSt->SortSt}{f:PUnit->StateT SortSt Sem β}(h:wp X (f ⟨⟩) Q (g st)):wp X (modify g>>=f) Q st:=jd λs g=>by rw[StateT.run_modify];exact gw ⟨g,h⟩
def Hs{m:Sem α}(h: ∀s,X.G s->wpAny X.M X.A m (λa b=>X.G b/\wp X (f a) Q st) X.E s):wp X (liftM m>>=f) Q st:=jd λs g=>by
 show wpAny X.M X.A ((StateT.lift m:StateT SortSt Sem α).run st) _ X.E s;rw[StateT.run_lift];exact gk (pe (h s g) (λa b c=>gw c) λ_ _ e=>e)
def rT{x:String}{f:Unit->StateT SortSt Sem β}(h:wp X (f ()) Q st):wp X (liftM (rule x)>>=f) Q st:=Hs λs g=>tq ⟨g,h⟩
theorem Hr{e:Nat}{g:Nat->α->StateT SortSt Sem (ForInStep α)}{I:Nat->α->SortSt->Prop}{J:α->SortSt->Prop}
  (m: ∀i c st,i<e->I i c st->wp X (g i c) (λr b=>match r with| .done d=>J d b| .yield d=>I (i+1) d b) st)(l: ∀c st,I e c st->J c st):
  ∀(n a:Nat) (c:α) (st:qL),a+n=e->I a c st->wp X (forIn (List.range' a n 1) c g) J st
 |0,a,c,st,rfl,h=>gv (l _ _ h)
 |n+1,a,c,st,q,h=>by
  rw[BY,List.forIn_cons];refine jd (Hq (m a c st (by lia) h) λr b k=>?_)
  cases r with
  |done j=>exact gv k
  |yield j=>exact Hr m l n _ j b (by lia) k
def la{g:Nat->α->StateT SortSt Sem (ForInStep α)}(I:Nat->α->SortSt->Prop)(J:α->SortSt->Prop){a b:Nat}{c:α}(h:I a c st)
  (l: ∀i c st,i<a+(b-a)->I i c st->wp X (g i c) (λr e=>match r with| .done d=>J d e| .yield d=>I (i+1) d e) st)
  (j: ∀c st,I (a+(b-a)) c st->J c st)(k: ∀c st,J c st->wp X (f c) Q st):wp X (forIn [a:b] c g>>=f) Q st:=by
 refine jd (Hq ?_ k);rw[Std.Legacy.Range.forIn_eq_forIn_range'];exact Hr l j _ _ _ _ (by simp[Std.Legacy.Range.size]) h
abbrev ar(X:Cs)(l:jf):Array Keyed:=(l.map X.it).toArray
def kx{l:jf}{i x:Nat}{f:Keyed->StateT SortSt Sem β}(e:l[i]?=some x)(h:wp X (f (X.it x)) Q st):wp X (elem' (ar X l) i>>=f) Q st:=jd (by
 rw[elem'_eq,show(ar X l)[i]?=some (X.it x) by simp[e]];exact gv h)
def DA{i j:Nat}{f:Option Bool->StateT SortSt Sem β}(hk:kindOf st=X.κ)(k:i<X.N)(l:j<X.N)(h: ∀b,X.lt i j=b->wp X (f (some b)) Q st):wp X (lt' (X.it i) (X.it j)>>=f) Q st:=jd (by
 rw[lt'_eq];refine nJ ?_;rw[hk];refine Hs λs g=>uk (pe (X.ask i j k l s g λ_ _=>False) (λb m c=>?_) λe m d=>d.elim);obtain⟨a,rfl⟩:=c;exact⟨a,gv (h _ rfl)⟩)
structure Rp(X:Cs)(q:Array (Nat×Nat×Nat))(L:jf)(st:qL):Prop where
 a:arrOf st=ar X L
 k:kindOf st=X.κ
 f:failedOf st=none
 q:pendingOf st=q
 p:L.Perm (List.range X.N)
theorem Rp.n{q:Array (Nat×Nat×Nat)}{L:jf}(R:Rp X q L st){i x:Nat}(e:L[i]?=some x):x<X.N:=by
 simpa using R.p.mem_iff.mp (lN e)
def DC{q:Array (Nat×Nat×Nat)}{L:jf}(R:Rp X q L st){i j x y:Nat}{f:Option Bool->StateT SortSt Sem β}(c:L[i]?=some x)(d:L[j]?=some y)(h: ∀b,X.lt x y=b->wp X (f (some b)) Q st):wp X (ltAt' i j>>=f) Q st:=jd (by
 rw[ltAt'_eq];refine nJ ?_;rw[R.a];exact kx c (kx d (by rw[<-bind_pure (lt' _ _)];exact DA R.k (R.n c) (R.n d) λb e=>gv (h b e))))
def Ej{α:Type}(T A R:List α){d:Nat}(hd:d=A.length / 2):mirror (T++(A++R)).toArray T.length (T.length+A.length) d=(T++(A.reverse++R)).toArray:=by
 have hd:d=(T.length+A.length-T.length) / 2:=by lia
 subst hd;apply Array.ext_getElem?;intro k;rw[getElem?_mirror_all (by simp)];simp only[List.getElem?_toArray];by_cases h1:k<T.length
 ·rw[gL (by lia),qz h1,qz h1]
 ·obtain⟨k,rfl⟩:=Nat.exists_eq_add_of_le (Nat.le_of_not_lt h1);rw[oX (by lia) (l₂:=A.reverse++R),Fy];by_cases a:k<A.length
  ·rw[gD (by lia),oX (by lia),qz (by lia),qz (by simpa using a),List.getElem?_reverse a]
   congr 1;lia
  ·rw[gL (by lia),oX (by lia),Fy,oX (by lia),oX (by simpa using a),BX]
theorem xy{α:Type}(R:List α)(x:α): ∀(A T:List α) {i:Nat},i=T.length+A.length->bubble (T++(A++x::R)).toArray i A.length=(T++(x::(A++R))).toArray
 |[],T,i,h=>rfl
 |a::A,T,i,h=>by
  have:=xy R x A (T++[a]) (i:=i) (by simp at h ⊢;lia);rw[ju,bubble_succ,show T++(a::A++x::R)=T++[a]++(A++x::R) by simp,this];have e:i-A.length=T.length+1:=by simp at h;lia
  rw[e,Nat.add_sub_cancel];simp[Array.swapIfInBounds]
variable {q:Array (Nat×Nat×Nat)}{T A R:jf}{i j x:Nat}
def KA{b:AB}{L a:jf}(S:Rp X q L st)(e:b=ar X a)(p:a.Perm L):Rp X q a (setArr st b):=⟨e,S.k,S.f,S.q,p.trans S.p⟩
def Gb{f:Unit->StateT SortSt Sem β}(S:Rp X q (T++(A++R)) st)(c:i=T.length)(e:j=T.length+A.length)(h: ∀b,Rp X q (T++(A.reverse++R)) b->wp X (f ()) Q b):wp X (reverseSlice' i j>>=f) Q st:=by
 rw[reverseSlice'_eq];subst c e;refine ux (h _ (KA S ?_ (((yn A).append_right R).append_left T)));have:=Ej (T.map X.it) (A.map X.it) (R.map X.it) (d:=(T.length+A.length-T.length) / 2) (by simp);simpa[ar,S.a] using this
def QJ{f:Unit->StateT SortSt Sem β}(S:Rp X q (T++(A++x::R)) st)(c:i=T.length+A.length)(d:j=T.length)(h: ∀b,Rp X q (T++(x::(A++R))) b->wp X (f ()) Q b):wp X (moveDown' i j>>=f) Q st:=by
 rw[moveDown'_eq];subst c d;refine ux (h _ (KA S ?_ (NC.symm.append_left T)));have:=xy (R.map X.it) (X.it x) (A.map X.it) (T.map X.it) (i:=T.length+A.length) (by simp);simpa[ar,S.a] using this
end
abbrev Cs.le(X:Cs)(i j:Nat):Prop:=X.lt j i=false
section
variable {X:Cs}{o:Type}{Q:o->SortSt->Prop}{st:qL}{q:Array (Nat×Nat×Nat)}{T A B D R L:jf}{i j x y:Nat}{r:Nat->Nat->Prop}
def ix0(h:i=T.length+A.length):(T++(A++x::R))[i]?=some x:=by subst h;simp
def ix1(h:i=T.length+A.length+1):(T++(A++x::y::R))[i]?=some y:=by subst h;rw[<-oW,oX (by simp)];simp
def DQ(u:D.Pairwise r)(h: ∀z∈D,r z y):(D++[y]).Pairwise r:=rR.mpr ⟨u,Ko _ _,λa c b d=>IL.mp d▸h a c⟩
def Er(e: ∀{a b c},r a b->r b c->r a c)(u:(D++[x]).Pairwise r)(h:r x y): ∀z∈D++[x],r z y:=λz d=>by
 rcases pK.mp d with d|d
 ·exact e ((rR.mp u).2.2 z d x iF) h
 ·rw[IL.mp d];exact h
def KH{g:Nat->Option (Option Nat)×Nat->StateT SortSt Sem (ForInStep (Option (Option Nat)×Nat))}{f:Option (Option Nat)×Nat->StateT SortSt Sem o}{lo n m:Nat}
  (p: ∀i n,g i (none,n)=(ltAt' (lo+n) (lo+n-1)>>=λx=>match x with|some b=>if b=true then pure (.done (none,n)) else pure (.yield (none,n+1))|_=>pure (.done (some none,n))))
  (S:Rp X q (T++(A++x::R)) st)(v:T.length=lo)(t:n=A.length+1)(a:m=n+R.length)(u:(A++[x]).Pairwise X.le)
  (h: ∀A x R,Rp X q (T++(A++x::R)) st->m=A.length+1+R.length->(A++[x]).Pairwise X.le->(∀y l,R=y::l->X.lt y x=true)->wp X (f (none,A.length+1)) Q st):wp X (forIn [n:m] (none,n) g>>=f) Q st:=by
 refine la (λi c s=>s=st/\c=(none,i)/\ ∃A x R,Rp X q (T++(A++x::R)) st/\i=A.length+1/\m=i+R.length/\(A++[x]).Pairwise X.le)
  (λc s=>s=st/\ ∃A x R,Rp X q (T++(A++x::R)) st/\c=(none,A.length+1)/\m=A.length+1+R.length/\(A++[x]).Pairwise X.le/\ ∀y l,R=y::l->X.lt y x=true) ⟨rfl,rfl,A,x,R,S,t,a,u⟩ ?_ ?_ ?_
 ·rintro i c s d ⟨rfl,rfl,A,x,R,S,rfl,h1,u⟩;rw[p];obtain⟨y,l,rfl⟩:=qU (l:=R) (by lia);refine DC S (ix1 (by lia)) (ix0 (by lia)) λb e=>?_
  cases b with
  |true=>exact gv ⟨rfl,A,x,_,S,rfl,h1,u,λ_ _ k=>by cases k;exact e⟩
  |false=>exact gv ⟨rfl,rfl,A++[x],y,l,by simpa using S,by simp,by simp at h1;lia,DQ u (Er X.tr u e)⟩
 ·rintro c s ⟨rfl,rfl,A,x,R,S,d,h1,u⟩;exact⟨rfl,A,x,R,S,by rw[d],by lia,u,λy l e=>by subst e;simp at h1;lia⟩
 ·rintro c s ⟨rfl,A,x,R,S,rfl,a,u,e⟩;exact h A x R S a u e
def KC{c:Prop}[Decidable c]{k:StateT SortSt Sem o}(S:Rp X q (T++(A++R)) st)(e:i=T.length)(f:j=T.length+A.length)(d: ¬c->A.length=1)(h: ∀b,Rp X q (T++(A.reverse++R)) b->wp X k Q b):wp X (if c then reverseSlice' i j>>=λ_=>k else k) Q st:=gY (λ_=>Gb S e f h) λz=>h _ (by
 obtain⟨a,rfl⟩:=List.length_eq_one_iff.mp (d z);exact S)
def dnT(d:(A++B).Pairwise λa b=>X.le b a)(u:B.Pairwise X.le):(A++B.reverse).Pairwise λa b=>X.le b a:=by
 rw[rR] at d ⊢;exact⟨d.1,F9.mpr u,λa c b e=>d.2.2 a c b (List.mem_reverse.mp e)⟩
def Cs.rf(X:Cs)(i:Nat):X.le i i:=JY.mpr λh=>Bool.noConfusion (h.symm.trans (X.as i i h))
def P7{k m:StateT SortSt Sem o}(P:SortSt->Prop)(b:(∀a,P a->wp X k Q a)->wp X m Q st)(hk: ∀a,P a->wp X k Q a):wp X m Q st:=b hk
def KG{lo m:Nat}{Q:Option Nat->SortSt->Prop}(S:Rp X q (T++x::R) st)(p:T.length=lo)(f:m=1+R.length)(h: ∀A R g,Rp X q (T++(A++R)) g->A≠[]->A.Pairwise X.le->m=A.length+R.length->Q (some A.length) g):wp X (countRun' lo m) Q st:=by
 have fin: ∀A x R g,Rp X q (T++(A++x::R)) g->m=A.length+1+R.length->(A++[x]).Pairwise X.le->Q (some (A.length+1)) g:=λA x R g S f u=>by
  simpa using h (A++[x]) R g (by simpa using S) (by simp) u (by simpa using f)
 have ge: ∀{a b c},X.le b a->X.le c b->X.le c a:=λh1 t=>X.tr t h1;rw[countRun'_eq];dsimp only;refine KH (λ_ _=>rfl) (A:=[]) S p rfl f (by simp) λA x R S f u H=>?_;refine gY (λ_=>gv (fin A x R _ S f u)) λI=>?_;obtain⟨y,l,rfl⟩:=qU (l:=R) (by simp at I;lia);apply P7 λg=>Rp X q (T++((A++[x]).reverse++y::l)) g/\ ∀z∈A++[x],X.le y z
 ·intro F;have w:=X.as _ _ (H y l rfl);refine gY (λh1=>?_) λh1=>F _ ?_
  ·obtain⟨a,A,rfl⟩:=qU (l:=A) (Nat.lt_of_succ_lt_succ h1);refine DC S (x:=a) (y:=x) (ix0 (A:=[]) (by simpa using p.symm)) (ix0 (by simp;lia)) λb e=>?_
   cases b with
   |true=>exact gv (fin _ x _ _ S f u)
   |false=>
    refine Gb (A:=a::A++[x]) (by simpa using S) p.symm (by simp;lia) λg n=>F _ ⟨n,λz k=>X.tr (X.tr w e) ?_⟩;rcases jr.mp k with rfl|k
    ·exact X.rf _
    ·exact(Dz.mp u).1 z k
  ·obtain rfl:=ym (l:=A) (by simpa using h1);exact⟨S,by simpa using w⟩
 ·rintro st ⟨S,d⟩;have t:A.length+2<=m:=by simp at f;lia
  dsimp only
  refine rT (la (λi c s=> ∃C B x R,c=(none,i,B.length)/\Rp X q (T++(C++(B++x::R))) s/\i=C.length+B.length+1/\m=i+R.length/\(C++(B++[x])).Pairwise (λa b=>X.le b a)/\(B++[x]).Pairwise X.le)
   (λc s=> ∃C B x R,c=(none,C.length+B.length+1,B.length)/\Rp X q (T++(C++(B++x::R))) s/\m=C.length+B.length+1+R.length/\(C++(B++[x])).Pairwise (λa b=>X.le b a)/\(B++[x]).Pairwise X.le) ⟨(A++[x]).reverse,[],y,l,rfl,S,by simp,by simp at f ⊢;lia,?_,by simp⟩ ?_ ?_ ?_)
  ·exact DQ (F9.mpr u) λz k=>d z (List.mem_reverse.mp k)
  ·rintro i c s v ⟨C,B,x,R,rfl,S,rfl,f,d,u⟩;obtain⟨y,l,rfl⟩:=qU (l:=R) (by lia);rw[<-oW] at S;refine DC S (ix1 (by simp;lia)) (ix0 (by simp;lia)) λb e=>?_
   cases b with
   |true=>
    refine KC (T:=T++C) (A:=B++[x]) (by simpa using S) (by simp;lia) (by simp;lia) (λz=>by simp at z ⊢;exact z) λg n=>gv ⟨C++(B++[x]).reverse,[],y,l,rfl,by simpa using n,by simp;lia,by simp at f;lia,DQ (dnT d u) λz k=>?_,by simp⟩;rw[<-oW] at d;exact Er (r:=λa b=>X.le b a) ge d (X.as _ _ e) z (by simpa[or_comm] using k)
   |false=>
    refine DC S (ix0 (by simp;lia)) (ix1 (by simp;lia)) λb G=>?_
    cases b with
    |true=>exact gv ⟨C,B,x,_,rfl,by simpa using S,f,d,u⟩
    |false=>
     refine gv ⟨C,B++[x],y,l,by simp,by simpa using S,by simp;lia,by simp at f;lia,?_,DQ u (Er X.tr u e)⟩;rw[<-oW] at d ⊢;rw[<-oW];exact DQ d (Er (r:=λa b=>X.le b a) ge d G)
  ·rintro c s ⟨C,B,x,R,rfl,S,v,f,d,u⟩;exact⟨C,B,x,R,by rw[v],S,by lia,d,u⟩
  ·rintro c s ⟨C,B,x,R,rfl,S,f,d,u⟩;refine KC (T:=T++C) (A:=B++[x]) (by simpa using S) (by simp;lia) (by simp;lia) (λz=>by simp at z ⊢;exact z) λg n=>?_;refine Gb (T:=T) (A:=C++(B++[x]).reverse) (by simpa using n) p.symm (by simp;lia) λg n=>?_;have u:=F9.mpr (dnT d u);rcases BW (C++(B++[x]).reverse).reverse with e|⟨E,J,e⟩
   ·simp at e
   ·rw[e,BV] at n u;have k:=lX List.length e;simp at k;exact KH (λ_ _=>rfl) (A:=E) (x:=J) (R:=R) (by simpa using n) p (by dsimp only;lia) (by dsimp only;lia) u λA x R S f u _=>gv (fin A x R _ S f u)
end
section
variable {X:Cs}{g:Type}{Q:g->SortSt->Prop}{st:qL}{q:Array (Nat×Nat×Nat)}{T A B D R L:jf}{i j x y:Nat}{p:Nat->Bool}
abbrev Mo(X:Cs)(p:Nat->Bool):Prop:= ∀a b,X.le a b->p b=true->p a=true
abbrev Lo(p:Nat->Bool)(A:jf)(a:Nat):Prop:= ∀i,i<a->p (A.getD i 0)=true
abbrev Hi(p:Nat->Bool)(A:jf)(a:Nat):Prop:= ∀i,a<=i->i<A.length->p (A.getD i 0)=false
def Mr:Mo X λz=>!X.lt x z:=λa b h c=>by simp only[Bool.not_eq_true'] at c ⊢;exact X.tr h c
def UW:Mo X λz=>X.lt z x:=λa b h c=>by
 cases e:X.lt a x with
 |true=>exact e
 |false=>exact Bool.noConfusion ((X.tr e h).symm.trans c)
def upD(u:A.Pairwise X.le)(b:i<=j)(h:j<A.length):X.le (A.getD i 0) (A.getD j 0):=by
 have a:i<A.length:=by lia
 simp only[oo,hX h,hX a,Option.getD_some];rcases Nat.lt_or_eq_of_le b with e|rfl
 ·exact NB.mp u i j a h e
 ·exact X.rf _
def El(u:A.Pairwise X.le)(m:Mo X p)(h:i<A.length)(e:p (A.getD i 0)=true):Lo p A (i+1):=λj a=>m _ _ (upD u (by lia) h) e
def Ez(u:A.Pairwise X.le)(m:Mo X p)(e:p (A.getD i 0)=false):Hi p A i:=λj a h=>by
 cases c:p (A.getD j 0) with
 |false=>rfl
 |true=>exact(m _ _ (upD u a h) c).symm.trans e
def H9(h:Lo p A i): ∀z∈A.take i,p z=true:=λz a=>by
 obtain⟨k,hk,rfl⟩:=BU a;have hk:=oY▸hk;have:=h k (by lia);simpa[show k<A.length by lia] using this
def Io(h:Hi p A i): ∀z∈A.drop i,p z=false:=λz a=>by
 obtain⟨k,hk,rfl⟩:=BU a;simp at hk;have:=h (i+k) (by lia) (by lia);simpa[show i+k<A.length by lia] using this
def ixD(a:T.length=j)(h:i<A.length):(T++(A++R))[j+i]?=some (A.getD i 0):=by
 subst a;rw[oX (by lia),Fy,qz h];simp[h]
def WL(u:A.Pairwise X.le)(h1: ∀z∈A.take i,(!X.lt y z)=true)(e: ∀z∈A.drop i,(!X.lt y z)=false):(A.take i++y::A.drop i).Pairwise X.le:=by
 rw[<-uj i A,rR] at u;refine rR.mpr ⟨u.1,Dz.mpr ⟨λz f=>X.as _ _ (by simpa using e z f),u.2.1⟩,λa d b c=>?_⟩;rcases jr.mp c with rfl|c
 ·simpa using h1 a d
 ·exact u.2.2 a d b c
def QK{lo n k:Nat}{Q:Bool->SortSt->Prop}(S:Rp X q (T++(A++R)) st)(G:T.length=lo)(E:A.length=k)(I:0<k)(o:n<=k+R.length)(hk:k<=n)(u:A.Pairwise X.le)
  (h: ∀A R w,Rp X q (T++(A++R)) w->A.length=n->A.Pairwise X.le->Q true w):wp X (binarySort' lo n k) Q st:=by
 rw[binarySort'_eq,show max k 1=k by lia];dsimp only;refine la (λk c s=>c=(none,())/\ ∃A R,Rp X q (T++(A++R)) s/\A.length=k/\A.Pairwise X.le/\n<=k+R.length) (λc s=>c=(none,())/\ ∃A R,Rp X q (T++(A++R)) s/\A.length=n/\A.Pairwise X.le) ⟨rfl,A,R,S,E,u,o⟩ ?_ ?_ ?_
 ·rintro k c s m ⟨rfl,A,R,S,rfl,u,o⟩;obtain⟨y,l,rfl⟩:=qU (l:=R) (by lia)
  refine la (λi c r=>r=s/\ ∃a b,c=(none,a,b)/\a<=b/\b<=A.length/\b<=a+(A.length-i)/\Lo (λz=>!X.lt y z) A a/\Hi (λz=>!X.lt y z) A b)
   (λc r=>r=s/\ ∃a b,c=(none,a,b)/\a<=A.length/\Lo (λz=>!X.lt y z) A a/\Hi (λz=>!X.lt y z) A a) ⟨rfl,0,A.length,rfl,by lia,by lia,by lia,λi h=>by lia,λi h H=>by lia⟩ ?_ ?_ ?_
  ·rintro i c _ m ⟨rfl,a,b,rfl,h1,t,v,d,f⟩;dsimp only;refine gY (λe=>gv ⟨rfl,a,b,rfl,by lia,d,(show a=b by lia)▸f⟩) λe=>?_;refine DC S (ix0 (by lia)) (ixD G (by lia)) λc e=>?_
   cases c with
   |true=>exact gv ⟨rfl,a,_,rfl,by lia,by lia,by lia,d,Ez u Mr (by rw[e];rfl)⟩
   |false=>exact gv ⟨rfl,_,b,rfl,by lia,by lia,by lia,El u Mr (by lia) (by rw[e];rfl),f⟩
  ·rintro c _ ⟨rfl,a,b,rfl,h1,t,v,d,f⟩;exact⟨rfl,a,b,rfl,by lia,d,(show a=b by lia)▸f⟩
  ·rintro c _ ⟨rfl,a,b,rfl,h1,t,v⟩;refine QJ (T:=T++A.take a) (A:=A.drop a) (by rw[oW,<-oW (A.take a),uj];exact S) (by simp;lia) (by simp;lia) λr C=>gv ⟨rfl,A.take a++y::A.drop a,l,by simpa using C,by simp;lia,WL u (H9 t) (Io v),by simp at o;lia⟩
 ·rintro c s ⟨rfl,A,R,S,m,u,o⟩;exact⟨rfl,A,R,S,by lia,u⟩
 ·rintro c s ⟨rfl,A,R,S,m,u⟩;exact gv (h A R s S m u)
noncomputable def Pu:Bool->Keyed->Array Keyed->Nat->Nat->Nat->StateT SortSt Sem (Option Nat):=sortPriv%PySem.Builtin.gallop
noncomputable def Mt:Array Keyed->Array Keyed->StateT SortSt Sem (Array Keyed):=sortPriv%PySem.Builtin.mergeLo
noncomputable def Mu:Array Keyed->Array Keyed->StateT SortSt Sem (Array Keyed):=sortPriv%PySem.Builtin.mergeHi
noncomputable def N3:Nat->StateT SortSt Sem Unit:=sortPriv%PySem.Builtin.setMinGallop
def TY{k:Nat->Nat->StateT SortSt Sem g}{m:StateT SortSt Sem g}(P:Nat->Nat->Prop)(c:(∀a b,P a b->wp X (k a b) Q st)->wp X m Q st)(hk: ∀a b,P a b->wp X (k a b) Q st):wp X m Q st:=c hk
abbrev gp(X:Cs)(left:Bool)(x z:Nat):Bool:=if left=true then X.lt z x else !X.lt x z
def Cq{left:Bool}{base:Nat}{f:Option Bool->StateT SortSt Sem g}(hk:kindOf st=X.κ)(k: ∀z∈A,z<X.N)(c:x<X.N)(l:T.length=base)(a:i<A.length)(h: ∀b,gp X left x (A.getD i 0)=b->wp X (f (some b)) Q st):
  wp X ((elem' (ar X (T++(A++R))) (base+i)>>=λz=>if left=true then lt' z (X.it x) else lt' (X.it x) z>>=λr=>pure (Option.map (λx=>!x) r))>>=f) Q st:=by
 have d:A.getD i 0<X.N:=k _ (by simp[a]);refine jd (kx (ixD l a) ?_)
 cases left with
 |true=>rw[gD rfl,<-bind_pure (lt' _ _)];exact DA hk d c λb e=>gv (h b e)
 |false=>exact DA hk c d λb e=>gv (h (!b) (lX not e))
def wA{left:Bool}{base n hint:Nat}{Q:Option Nat->SortSt->Prop}(hk:kindOf st=X.κ)(t: ∀z∈A,z<X.N)(w:x<X.N)(u:A.Pairwise X.le)(J:L=T++(A++R))(v:T.length=base)(G:A.length=n)(C:hint<n)
  (h: ∀r,r<=n->(∀z∈A.take r,gp X left x z=true)->(∀z∈A.drop r,gp X left x z=false)->Q (some r) st):wp X (Pu left (X.it x) (ar X L) base n hint) Q st:=by
 subst J
 have m:Mo X (gp X left x):=by
  cases left with
  |true=>exact UW
  |false=>exact Mr
 apply TY λa b=>a<=b/\b<=n/\Lo (gp X left x) A a/\Hi (gp X left x) A b
 ·intro F;refine Cq hk t w v (G▸C) λb e=>?_;refine gY (λz=>?_) λz=>?_
  ·subst z
   refine la (λi c s=>st=s/\ ∃a b,c=(none,a,b)/\a<b/\i<b/\hint+a<n/\Lo (gp X left x) A (hint+a+1)) (λc s=>st=s/\ ∃a b,c=(none,a,b)/\a<b/\hint+a<n/\Lo (gp X left x) A (hint+a+1)/\(n-hint<=b\/Hi (gp X left x) A (hint+b)))
    ⟨rfl,0,1,rfl,by lia,by lia,C,El u m (G▸C) e⟩ ?_ ?_ ?_
   ·rintro i c _ E ⟨rfl,a,b,rfl,h1,o,l,f⟩;dsimp only;refine gY (λz=>gv ⟨rfl,a,b,rfl,h1,l,f,.inl z⟩) λz=>Cq hk t w v (by lia) λc e=>?_
    cases c with
    |true=>exact gv ⟨rfl,_,_,rfl,by lia,by lia,by lia,El u m (by lia) e⟩
    |false=>exact gv ⟨rfl,a,b,rfl,h1,l,f,.inr (Ez u m e)⟩
   ·rintro c _ ⟨rfl,a,b,rfl,h1,o,l,f⟩;exact⟨rfl,a,b,rfl,h1,l,f,.inl (by lia)⟩
   ·rintro c _ ⟨rfl,a,b,rfl,h1,l,f,k⟩;dsimp only;generalize H:hint+a+1=c at*;generalize I:hint+min b (n-hint)=d;refine F c d ⟨by lia,by lia,f,λi M O=>?_⟩;rcases k with k|k
    ·lia
    ·exact k i (by lia) O
  ·refine la (λi c s=>st=s/\ ∃a b,c=(none,a,b)/\a<b/\i<b/\a<=hint/\Hi (gp X left x) A (hint-a)) (λc s=>st=s/\ ∃a b,c=(none,a,b)/\a<b/\a<=hint/\Hi (gp X left x) A (hint-a)/\(hint<b\/Lo (gp X left x) A (hint-b+1)))
    ⟨rfl,0,1,rfl,by lia,by lia,by lia,Ez u m (by simpa[z] using e)⟩ ?_ ?_ ?_
   ·rintro i c _ E ⟨rfl,a,b,rfl,h1,o,l,f⟩;dsimp only;refine gY (λz=>gv ⟨rfl,a,b,rfl,h1,l,f,.inl z⟩) λz=>Cq hk t w v (by lia) λc e=>?_
    cases c with
    |true=>exact gv ⟨rfl,a,b,rfl,h1,l,f,.inr (El u m (by lia) e)⟩
    |false=>exact gv ⟨rfl,_,_,rfl,by lia,by lia,by lia,Ez u m e⟩
   ·rintro c _ ⟨rfl,a,b,rfl,h1,o,l,f⟩;exact⟨rfl,a,b,rfl,h1,l,f,.inl (by lia)⟩
   ·rintro c _ ⟨rfl,a,b,rfl,h1,l,f,k⟩;dsimp only;generalize I:hint-a=d at*;generalize H:hint+1-min b (hint+1)=c;refine F c d ⟨by lia,by lia,λi M=>?_,f⟩;rcases k with k|k
    ·lia
    ·exact k i (by lia)
 ·rintro a b ⟨h1,o,l,f⟩;refine la (λi c s=>st=s/\ ∃a b,c=(none,a,b)/\a<=b/\b<=n/\b<=a+(n-i)/\Lo (gp X left x) A a/\Hi (gp X left x) A b) (λc s=>st=s/\ ∃a,c=(none,a,a)/\a<=n/\Lo (gp X left x) A a/\Hi (gp X left x) A a) ⟨rfl,a,b,rfl,h1,o,by lia,l,f⟩ ?_ ?_ ?_
  ·rintro i c _ E ⟨rfl,a,b,rfl,h1,o,l,f,k⟩;refine gY (λz=>?_) λz=>Cq hk t w v (by dsimp only at z ⊢;lia) λc e=>?_
   ·have:a=b:=by dsimp only at z;lia
    subst this;exact gv ⟨rfl,a,rfl,o,f,k⟩
   ·dsimp only at z
    cases c with
    |true=>exact gv ⟨rfl,_,b,rfl,by dsimp only;lia,o,by dsimp only;lia,El u m (by dsimp only;lia) e,k⟩
    |false=>exact gv ⟨rfl,a,_,rfl,by dsimp only;lia,by dsimp only;lia,by dsimp only;lia,f,Ez u m e⟩
  ·rintro c _ ⟨rfl,a,b,rfl,h1,o,l,f,k⟩;have:a=b:=by lia
   subst this;exact⟨rfl,a,rfl,o,f,k⟩
  ·rintro c _ ⟨rfl,a,rfl,o,f,k⟩;exact gv (h a o (H9 f) (Io k))
end
section
variable {X:Cs}{β:Type}{Q:β->SortSt->Prop}{st:qL}{pq:Array (Nat×Nat×Nat)}{q r L Z a b o k:jf}{i j x y:Nat}{le:Nat->Nat->Prop}{out:AB}
structure MG(le:Nat->Nat->Prop)(Z a b o:jf):Prop where
 s:o.Pairwise le
 c: ∀x∈o,∀y∈a++b,le x y
 p:(o++(a++b)).Perm Z
 ua:a.Pairwise le
 ub:b.Pairwise le
def MG.put(m:MG le Z (k++a) b o)(h: ∀x∈k,∀y∈b,le x y):MG le Z a b (o++k):=by
 have f:=rR.mp m.ua;refine⟨rR.mpr ⟨m.s,f.1,λx e y d=>m.c x e y (by simp[d])⟩,λx e y d=>?_,by simpa using m.p,f.2.1,m.ub⟩;rcases pK.mp e with e|e
 ·refine m.c x e y ?_;simp at d ⊢;exact .inr d
 ·rcases pK.mp d with d|d
  ·exact f.2.2 x e y d
  ·exact h x e y d
def Mg(X:Cs)(le:Nat->Nat->Prop)(Z a b:jf)(out:AB):Prop:= ∃o,out=ar X o/\MG le Z a b o
def Rs(X:Cs)(Z:jf)(out:AB):Prop:= ∃o,out=ar X o/\o.Pairwise X.le/\o.Perm Z
def Mg.sw(m:Mg X le Z a b out):Mg X le Z b a out:=by
 obtain⟨o,e,m⟩:=m;exact⟨o,e,m.s,λx d y f=>m.c x d y (by simpa[or_comm] using f),(P4.append_left o).trans m.p,m.ub,m.ua⟩
def Mg.put(m:Mg X le Z a b out){a':jf}{c:AB}(e:a=k++a')(h: ∀x∈k,∀y∈b,le x y)(d:c=out++ar X k):Mg X le Z a' b c:=by
 obtain⟨o,rfl,m⟩:=m;exact⟨o++k,by simpa[ar] using d,(e▸m).put h⟩
theorem Mg.a1(m:Mg X le Z (q.drop i) b out)(c:i<q.length)(h: ∀y∈b,le q[i] y):Mg X le Z (q.drop (i+1)) b (out.push (X.it q[i])):=m.put (k:=[q[i]]) (wj c) (by simpa using h) (by simp[ar])
def Mg.ak(m:Mg X le Z (q.drop i) b out)(h: ∀x∈(q.drop i).take j,∀y∈b,le x y):Mg X le Z (q.drop (i+j)) b (out++(ar X q).extract i (i+j)):=m.put (by rw[<-List.drop_drop,uj]) h (by simp[ar,BR])
def Mg.fin(m:Mg X X.le Z (q.drop i) (r.drop j) out)(h: ∀x∈q.drop i,∀y∈r.drop j,X.le x y):Rs X Z (out++(ar X q).extract i (ar X q).size++(ar X r).extract j (ar X r).size):=by
 obtain⟨o,e,m⟩:=((m.put (k:=q.drop i) (a':=[]) (by simp) h rfl).sw).put (k:=r.drop j) (a':=[]) (by simp) (by simp) rfl;exact⟨o,by rw[<-e];simp[ar,BR,List.take_of_length_le],m.s,by simpa using m.p⟩
def Mg.end(m:Mg X X.le Z (q.drop i) (r.drop j) out)(h:q.length<=i\/r.length<=j):Rs X Z (out++(ar X q).extract i (ar X q).size++(ar X r).extract j (ar X r).size):=m.fin λx c y d=>by
 rcases h with h|h
 ·rw[yp h] at c;cases c
 ·rw[yp h] at d;cases d
theorem Mg.hd(m:Mg X le Z (q.drop i) b out)(f: ∀{a b c},le a b->le b c->le a c)(e:i<q.length)(h:le x q[i]): ∀y∈q.drop i,le x y:=λy d=>by
 obtain⟨o,_,m⟩:=m;have:=m.ua;rw[wj e] at this d;rcases jr.mp d with rfl|d
 ·exact h
 ·exact f h ((Dz.mp this).1 y d)
def Cp{f:Unit->StateT SortSt Sem β}{n:Nat}(S:Rp X pq L st)(h: ∀c,Rp X pq L c->wp X (f ()) Q c):wp X (N3 n>>=f) Q st:=ux (g:=λs=>SortSt.mk' (kindOf s) (arrOf s) (pendingOf s) n (failedOf s)) (h _ ⟨S.a,S.k,S.f,S.q,S.p⟩)
def Ht{e:Type}{k:e->Nat->StateT SortSt Sem β}{m:StateT SortSt Sem β}(P:e->Nat->SortSt->Prop)(f:(∀c n d,P c n d->wp X (k c n) Q d)->wp X m Q st)(hk: ∀c n d,P c n d->wp X (k c n) Q d):wp X m Q st:=f hk
def KD{k:Nat->StateT SortSt Sem β}{m:StateT SortSt Sem β}(P:Nat->SortSt->Prop)(d:(∀n c,P n c->wp X (k n) Q c)->wp X m Q st)(hk: ∀n c,P n c->wp X (k n) Q c):wp X m Q st:=d hk
def TX{Q:Array Keyed->SortSt->Prop}(S:Rp X pq L st)(u1:q.Pairwise X.le)(u2:r.Pairwise X.le)(U: ∀z∈q,z<X.N)(Y: ∀z∈r,z<X.N)(h1:0<q.length)(h2:0<r.length)(hd: ∀y∈q,X.le r[0] y)(top: ∀x∈r,X.le x q[q.length-1])
  (h: ∀out s,Rp X pq L s->Rs X (q++r) out->Q out s):wp X (Mt (ar X q) (ar X r)) Q st:=by
 have sq:(ar X q).size=q.length:=by simp
 have sr:(ar X r).size=r.length:=by simp
 have K:Mg X X.le (q++r) (q.drop 0) (r.drop 1) #[X.it r[0]]:=Mg.sw (Mg.a1 (q:=r) (i:=0) (out:= #[]) ⟨[],rfl,.nil,by simp,by simpa using P4,by simpa using u2,by simpa using u1⟩ h2 hd)
 have last: ∀{out i j},Mg X X.le (q++r) (q.drop i) (r.drop j) out->i+1=q.length->Rs X (q++r) (out++(ar X r).extract j (ar X r).size++(ar X q).extract i (ar X q).size):=λ{_ i j} m e=>m.sw.fin λx H y C=>by
  have hi:i<q.length:=by lia
  rw[wj hi,yp (by lia),IL] at C;have:=top x (BQ H);simpa only[C,<-e,Nat.add_sub_cancel] using this
 refine rT (kx (x:=r[0]) (by simp[h2]) ?_);refine gY (λe=>gv (h _ _ S (K.end (.inr (by simp at e;lia))))) λe=>gY (λv=>gv (h _ _ S (last K (by simpa using v)))) λv=>nJ ?_
 let I:=λ(c:Nat) out d f s=>Rp X pq L s/\Mg X X.le (q++r) (q.drop d) (r.drop f) out/\d+1<q.length/\f<r.length/\c<=d+f
 refine la (λi c s=> ∃out d f B,c=(none,out,d,f,B)/\I (i+1) out d f s) (λc s=> ∃out t,c=(some out,t)/\Rp X pq L s/\Rs X (q++r) out) ⟨_,0,1,_,rfl,S,K,by simp at v;lia,by simp at e;lia,by lia⟩ ?_ ?_ ?_
 ·rintro i c s _ ⟨out,d,f,B,rfl,J⟩;refine la (λj c s=> ∃out d f p u,c=(none,out,d,f,p,u)/\I (i+1+j) out d f s) (λc s=>(∃out t,c=(some out,t)/\Rp X pq L s/\Rs X (q++r) out)\/ ∃out d f p u,c=(none,out,d,f,p,u)/\I (i+1) out d f s) ⟨_,_,_,_,_,rfl,J⟩ ?_ ?_ ?_
  ·rintro j c s _ ⟨out,d,f,p,u,rfl,S,m,E,l,G⟩;dsimp only;refine kx (x:=r[f]) (by simp[l]) (kx (x:=q[d]) (by simp) (DA S.k (Y _ (by simp)) (U _ (by simp)) λb e=>?_))
   cases b with
   |true=>
    have n:=(m.sw.a1 l (m.hd X.tr (by lia) (X.as _ _ e))).sw;exact kx (x:=r[f]) (by simp[l]) (gY (λe=>gv (.inl ⟨_,_,rfl,S,n.end (.inr (by simp at e;lia))⟩)) λe=>gY (λ_=>gv (.inr ⟨_,_,_,_,_,rfl,S,n,E,by simp at e;lia,by lia⟩)) λ_=>gv ⟨_,_,_,_,_,rfl,S,n,E,by simp at e;lia,by lia⟩)
   |false=>
    have n:=m.a1 (by lia) (m.sw.hd X.tr l e);exact kx (x:=q[d]) (by simp) (gY (λe=>gv (.inl ⟨_,_,rfl,S,last n (by simpa using e)⟩)) λe=>gY (λ_=>gv (.inr ⟨_,_,_,_,_,rfl,S,n,by simp at e;lia,l,by lia⟩)) λ_=>gv ⟨_,_,_,_,_,rfl,S,n,by simp at e;lia,l,by lia⟩)
  ·rintro c s ⟨out,d,f,p,u,rfl,S,m,E,l,G⟩;exfalso;lia
  ·rintro c s (⟨out,t,rfl,hs⟩|⟨out,d,f,p,u,rfl,J⟩)
   ·exact gv ⟨out,_,rfl,hs⟩
   ·refine rT (la (λj c s=> ∃out d f B p u,c=(none,out,d,f,B,p,u)/\I (i+1+j) out d f s) (λc s=>(∃out t,c=(some out,t)/\Rp X pq L s/\Rs X (q++r) out)\/ ∃out d f B p u,c=(none,out,d,f,B,p,u)/\I (i+2) out d f s) ⟨_,_,_,_,_,_,rfl,J⟩ ?_ ?_ ?_)
    ·rintro j c s _ ⟨out,d,f,B,p,u,rfl,S,m,E,l,G⟩;dsimp only;apply KD λ_ s=>Rp X pq L s
     ·intro F;refine gY (λ_=>?_) λ_=>?_
      ·generalize B-1=g;exact F g s S
      ·exact F B s S
     intro g s S;refine Cp S λs S=>kx (x:=r[f]) (by simp[l]) (jd (wA (T:=q.take d) (A:=q.drop d) (R:=[]) S.k (λz D=>U z (BQ D)) (Y _ (by simp)) (u1.sublist (Fx _ _)) (by simp) (by simp;lia) (by simp) (by simp;lia) λk _ P V=>?_));dsimp only;apply Ht λout d s=>Rp X pq L s/\Mg X X.le (q++r) (q.drop d) (r.drop f) out/\d+1<q.length/\i+1+j<=d+f/\ ∀y∈q.drop d,X.le r[f] y
     ·intro F;have mk:=m.ak (j:=k) λx H y C=>m.sw.hd (x:=x) X.tr l (by simpa using P x H) y C;have w: ∀y∈q.drop (d+k),X.le r[f] y:=λy C=>X.as _ _ (by simpa using V y (by simpa using C));refine gY (λe=>?_) λe=>?_
      ·refine gY (λO=>gv (.inl ⟨_,_,rfl,S,last mk (by simpa using O)⟩)) λO=>gY (λv=>gv (.inl ⟨_,_,rfl,S,mk.end (.inl (by simp at v;lia))⟩)) λv=>?_;generalize out++(ar X q).extract d (d+k)=out at mk ⊢;generalize W:d+k=ic at mk w O v ⊢;exact F out ic s ⟨S,mk,by simp at O v;lia,by lia,w⟩
      ·rw[show k=0 by lia] at w;exact F out d s ⟨S,m,E,G,w⟩
     rintro out d s ⟨S,m,E,G,w⟩;have n:=(m.sw.a1 l w).sw;refine kx (x:=r[f]) (by simp[l]) (gY (λe=>gv (.inl ⟨_,_,rfl,S,n.end (.inr (by simp at e;lia))⟩)) λe=>kx (x:=q[d]) (by simp) (jd (wA (T:=r.take (f+1)) (A:=r.drop (f+1)) (R:=[]) S.k (λz D=>Y z (BQ D)) (U _ (by simp)) (u2.sublist (Fx _ _)) (by simp) (by simp;lia) (by simp) (by simp at e ⊢;lia) λM _ P V=>?_)));dsimp only;apply Ht λout f s=>Rp X pq L s/\Mg X X.le (q++r) (q.drop d) (r.drop f) out/\f<r.length/\i+1+j<d+f/\ ∀y∈r.drop f,X.le q[d] y
     ·intro F;have mk:=(n.sw.ak (j:=M) λx H y C=>n.hd X.tr (by lia) (X.as _ _ (P x H)) y C).sw;have w: ∀y∈r.drop (f+1+M),X.le q[d] y:=λy C=>V y (by simpa using C);refine gY (λ_=>?_) λe3=>?_
      ·refine gY (λv=>gv (.inl ⟨_,_,rfl,S,mk.end (.inr (by simp at v;lia))⟩)) λv=>?_;generalize out.push (X.it r[f])++(ar X r).extract (f+1) (f+1+M)=out at mk ⊢;generalize W:f+1+M=ic at mk w v ⊢;exact F out ic s ⟨S,mk,by simp at v;lia,by lia,w⟩
      ·rw[show M=0 by lia] at w;exact F _ _ s ⟨S,n,by simp at e;lia,by lia,w⟩
     rintro out f s ⟨S,m,l,G,w⟩;have n:=m.a1 (by lia) w;exact kx (x:=q[d]) (by simp) (gY (λe=>gv (.inl ⟨_,_,rfl,S,last n (by simpa using e)⟩)) λe=>gY (λ_=>gv (.inr ⟨_,_,_,_,_,_,rfl,S,n,by simp at e;lia,l,by lia⟩)) λ_=>gv ⟨_,_,_,_,_,_,rfl,S,n,by simp at e;lia,l,by lia⟩)
    ·rintro c s ⟨out,d,f,B,p,u,rfl,S,m,E,l,G⟩;exfalso;lia
    ·rintro c s (⟨out,t,rfl,hs⟩|⟨out,d,f,B,p,u,rfl,S,J⟩)
     ·exact gv ⟨out,_,rfl,hs⟩
     ·exact Cp S λs S=>gv ⟨_,_,_,_,rfl,S,J⟩
 ·rintro c s ⟨out,d,f,B,rfl,S,m,E,l,G⟩;exfalso;lia
 ·rintro c s ⟨out,t,rfl,S,m⟩;exact gv (h _ _ S m)
end
section
variable {X:Cs}{f:Type}{Q:f->SortSt->Prop}{st:qL}{d:Array (Nat×Nat×Nat)}{q r L Z a b o k:jf}{i j x y n:Nat}{out:AB}
theorem ss1(n:Nat):n+1-1=n:=rfl
abbrev Cs.ge(X:Cs)(i j:Nat):Prop:=X.le j i
theorem Mg.h1(m:Mg X X.ge Z (q.take (n+1)).reverse b out)(c:n<q.length)(h: ∀y∈b,X.le y q[n]):Mg X X.ge Z (q.take n).reverse b (out.push (X.it q[n])):=m.put (k:=[q[n]]) (by rw[BP];simp[c]) (by simpa using h) (by simp[ar])
theorem Mg.hk(m:Mg X X.ge Z (q.take n).reverse b out)(c:i<=n)(h: ∀x∈(q.take n).drop i,∀y∈b,X.le y x):Mg X X.ge Z (q.take i).reverse b (out++((ar X q).extract i n).reverse):=m.put (k:=((q.take n).drop i).reverse) (by rw[<-List.reverse_append,<-Nat.min_eq_left c,<-List.take_take,Nat.min_eq_left c,uj]) (by simpa using h) (by simp[ar,List.extract_eq_drop_take'])
def Mg.finH(m:Mg X X.ge Z (q.take i).reverse (r.take j).reverse out)(h: ∀x∈q.take i,∀y∈r.take j,X.le x y):Rs X Z ((ar X q).extract 0 i++(ar X r).extract 0 j++out.reverse):=by
 obtain⟨o,e,m⟩:=(m.sw.put (k:=(r.take j).reverse) (a':=[]) (by simp) (by simpa using λx c y g=>h y g x c) rfl).sw.put (k:=(q.take i).reverse) (a':=[]) (by simp) (by simp) rfl;refine⟨o.reverse,?_,F9.mpr m.s,(yn o).trans (by simpa using m.p)⟩;have:=lX Array.reverse e;simpa[ar,BR] using this
def Mg.endH(m:Mg X X.ge Z (q.take i).reverse (r.take j).reverse out)(h:i=0\/j=0):Rs X Z ((ar X q).extract 0 i++(ar X r).extract 0 j++out.reverse):=m.finH λx c y e=>by
 rcases h with rfl|rfl
 ·cases c
 ·cases e
def Mg.hdH(m:Mg X X.ge Z (q.take (n+1)).reverse b out)(e:n<q.length)(h:X.le q[n] x): ∀y∈(q.take (n+1)).reverse,X.le y x:=λy c=>by
 obtain⟨o,_,m⟩:=m;have:=m.ua;rw[show(q.take (n+1)).reverse=q[n]::(q.take n).reverse by rw[BP];simp[e]] at this c;rcases jr.mp c with rfl|c
 ·exact h
 ·exact X.tr ((Dz.mp this).1 y c) h
def TZ{Q:Array Keyed->SortSt->Prop}(S:Rp X d L st)(u1:q.Pairwise X.le)(u2:r.Pairwise X.le)(hq: ∀z∈q,z<X.N)(hr: ∀z∈r,z<X.N)(h1:0<q.length)(h2:0<r.length)(hd: ∀y∈q,X.le r[0] y)(top: ∀x∈r,X.le x q[q.length-1])
  (h: ∀out s,Rp X d L s->Rs X (q++r) out->Q out s):wp X (Mu (ar X q) (ar X r)) Q st:=by
 have sq:(ar X q).size=q.length:=by simp
 have sr:(ar X r).size=r.length:=by simp
 have K:Mg X X.ge (q++r) (q.take (q.length-1)).reverse (r.take r.length).reverse #[X.it q[q.length-1]]:=Mg.h1 (out:= #[]) ⟨[],rfl,.nil,by simp,by simpa[Nat.sub_add_cancel h1] using(yn q).append (yn r),by simpa[Nat.sub_add_cancel h1,F9] using u1,by simpa[F9] using u2⟩ (by lia) (by simpa using top)
 have last: ∀{out i},Mg X X.ge (q++r) (q.take i).reverse (r.take 1).reverse out->Rs X (q++r) ((ar X r).extract 0 1++(ar X q).extract 0 i++out.reverse):=λm=>m.sw.finH λx Y y U=>by
  obtain⟨b,r,rfl⟩:=qU h2;simp at Y;subst Y;exact hd y (we U)
 refine rT (kx (x:=q[q.length-1]) (by simp[h1]) ?_);rw[sq,sr];refine gY (λe=>gv (h _ _ S (K.endH (.inl (by simpa using e))))) λe=>gY (λE=>gv (h _ _ S ?_)) λE=>nJ ?_
 ·have E:r.length=1:=by simpa using E
  rw[E] at K ⊢;exact last K
 let I:=λ(c:Nat) out l u s=>Rp X d L s/\Mg X X.ge (q++r) (q.take l).reverse (r.take u).reverse out/\0<l/\l<=q.length/\1<u/\u<=r.length/\c+l+u<=q.length+r.length
 refine la (λi c s=> ∃l u out C,c=(none,l,u,out,C)/\I (i+1) out l u s) (λc s=> ∃out t,c=(some out,t)/\Rp X d L s/\Rs X (q++r) out) ⟨_,_,_,_,rfl,S,K,by simp at e;lia,by lia,by simp at E;lia,by lia,by lia⟩ ?_ ?_ ?_
 ·rintro i c s _ ⟨l,u,out,C,rfl,i0⟩;refine la (λj c s=> ∃l u out w B,c=(none,l,u,out,w,B)/\I (i+1+j) out l u s) (λc s=>(∃out t,c=(some out,t)/\Rp X d L s/\Rs X (q++r) out)\/ ∃l u out w B,c=(none,l,u,out,w,B)/\I (i+1) out l u s) ⟨_,_,_,_,_,rfl,i0⟩ ?_ ?_ ?_
  ·rintro j c s _ ⟨l,u,out,w,B,rfl,S,m,J,M,G,b4,b5⟩;obtain⟨n,rfl⟩: ∃n,l=n+1:=⟨l-1,by lia⟩
   obtain⟨p,rfl⟩: ∃n,u=n+1:=⟨u-1,by lia⟩
   dsimp only[ss1];refine kx (x:=r[p]) (by simp) (kx (x:=q[n]) (by simp) (DA S.k (hr _ (by simp)) (hq _ (by simp)) λb e=>?_))
   cases b with
   |true=>
    have v:=m.h1 (by lia) (m.sw.hdH (by lia) (X.as _ _ e));exact kx (x:=q[n]) (by simp) (gY (λe=>gv (.inl ⟨_,_,rfl,S,v.endH (.inl (by simpa using e))⟩)) λe=>gY (λ_=>gv (.inr ⟨_,_,_,_,_,rfl,S,v,by simp at e;lia,by lia,G,b4,by lia⟩)) λ_=>gv ⟨_,_,_,_,_,rfl,S,v,by simp at e;lia,by lia,G,b4,by lia⟩)
   |false=>
    have v:=(m.sw.h1 (by lia) (m.hdH (by lia) e)).sw;refine kx (x:=r[p]) (by simp) (gY (λe=>?_) λe=>gY (λ_=>gv (.inr ⟨_,_,_,_,_,rfl,S,v,J,M,by simp at e;lia,by lia,by lia⟩)) λ_=>gv ⟨_,_,_,_,_,rfl,S,v,J,M,by simp at e;lia,by lia,by lia⟩);obtain rfl:p=1:=by simpa using e
    exact gv (.inl ⟨_,_,rfl,S,last v⟩)
  ·rintro c s ⟨l,u,out,w,B,rfl,S,m,J,M,G,b4,b5⟩;exfalso;lia
  ·rintro c s (⟨out,t,rfl,hs⟩|⟨l,u,out,w,B,rfl,i0⟩)
   ·exact gv ⟨out,_,rfl,hs⟩
   ·refine rT (la (λj c s=> ∃l u out C w B,c=(none,l,u,out,C,w,B)/\I (i+1+j) out l u s) (λc s=>(∃out t,c=(some out,t)/\Rp X d L s/\Rs X (q++r) out)\/ ∃l u out C w B,c=(none,l,u,out,C,w,B)/\I (i+2) out l u s) ⟨_,_,_,_,_,_,rfl,i0⟩ ?_ ?_ ?_)
    ·rintro j c s _ ⟨l,u,out,C,w,B,rfl,S,m,J,M,G,b4,b5⟩;obtain⟨p,rfl⟩: ∃n,u=n+1:=⟨u-1,by lia⟩
     dsimp only[ss1];apply KD λ_ s=>Rp X d L s
     ·intro F;refine gY (λ_=>?_) λ_=>?_
      ·generalize C-1=g;exact F g s S
      ·exact F C s S
     intro g s S;refine Cp S λs S=>kx (x:=r[p]) (by simp) (jd (wA (T:=[]) (A:=q.take l) (R:=q.drop l) S.k (λz V=>hq z (we V)) (hr _ (by simp)) (u1.sublist (wu _ _)) (by simp) rfl (by simp;lia) (by lia) λk hk W t2=>?_));dsimp only;apply Ht λout l s=>Rp X d L s/\Mg X X.ge (q++r) (q.take l).reverse (r.take (p+1)).reverse out/\0<l/\l<=q.length/\i+1+j+l+p<q.length+r.length/\ ∀y∈q.take l,X.le y r[p]
     ·intro F;have mk:=m.hk hk λx Y y U=>m.sw.hdH (x:=x) (by lia) (X.as _ _ (by simpa using t2 x Y)) y U;have O: ∀y∈q.take k,X.le y r[p]:=λy U=>by simpa using W y (by rwa [List.take_take,Nat.min_eq_left hk])
      refine gY (λe=>?_) λe=>?_
      ·refine gY (λH=>gv (.inl ⟨_,_,rfl,S,mk.endH (.inl (by simpa using H))⟩)) λH=>?_;generalize out++((ar X q).extract k l).reverse=out at mk ⊢;generalize ea:k=ic at mk O H ⊢;exact F out ic s ⟨S,mk,by simp at H;lia,by lia,by lia,O⟩
      ·obtain rfl:k=l:=by lia
       exact F out _ s ⟨S,m,J,M,by lia,O⟩
     rintro out na' s ⟨S,m,J,M,b5,O⟩;have v:=(m.sw.h1 (by lia) (by simpa using O)).sw;obtain⟨n,rfl⟩: ∃n,na'=n+1:=⟨na'-1,by lia⟩
     dsimp only[ss1];refine kx (x:=r[p]) (by simp) (gY (λe=>?_) λe=>kx (x:=q[n]) (by simp) (jd (wA (T:=[]) (A:=r.take p) (R:=r.drop p) S.k (λz V=>hr z (we V)) (hq _ (by simp)) (u2.sublist (wu _ _)) (by simp) rfl (by simp;lia) (by lia) λD cf W t2=>?_)))
     ·obtain rfl:p=1:=by simpa using e
      exact gv (.inl ⟨_,_,rfl,S,last v⟩)
     dsimp only;apply Ht λout u s=>Rp X d L s/\Mg X X.ge (q++r) (q.take (n+1)).reverse (r.take u).reverse out/\1<u/\u<=r.length/\i+1+j+(n+1)+u<q.length+r.length/\ ∀y∈r.take u,X.le y q[n]
     ·intro F;have mk:=(v.sw.hk cf λx Y y U=>v.hdH (x:=x) (by lia) (t2 x Y) y U).sw;have P: ∀y∈r.take D,X.le y q[n]:=λy U=>X.as _ _ (W y (by rwa [List.take_take,Nat.min_eq_left cf]));refine gY (λ_=>?_) λe3=>?_
      ·refine gY (λH=>?_) λH=>gY (λE=>gv (.inl ⟨_,_,rfl,S,mk.endH (.inr (by simpa using E))⟩)) λE=>?_
       ·obtain rfl:D=1:=by simpa using H
        exact gv (.inl ⟨_,_,rfl,S,last mk⟩)
       generalize out.push (X.it r[p])++((ar X r).extract D p).reverse=out at mk ⊢;generalize ea:D=ic at mk P H E ⊢;exact F out ic s ⟨S,mk,by simp at H E;lia,by lia,by lia,P⟩
      ·obtain rfl:D=p:=by lia
       exact F _ _ s ⟨S,v,by simp at e;lia,by lia,b5,P⟩
     rintro out u s ⟨S,m,G,b4,b5,O⟩;have v:=m.h1 (by lia) (by simpa using O);exact kx (x:=q[n]) (by simp) (gY (λe=>gv (.inl ⟨_,_,rfl,S,v.endH (.inl (by simpa using e))⟩)) λe=>gY (λ_=>gv (.inr ⟨_,_,_,_,_,_,rfl,S,v,by simp at e;lia,by lia,G,b4,by lia⟩)) λ_=>gv ⟨_,_,_,_,_,_,rfl,S,v,by simp at e;lia,by lia,G,b4,by lia⟩)
    ·rintro c s ⟨l,u,out,C,w,B,rfl,S,m,J,M,G,b4,b5⟩;exfalso;lia
    ·rintro c s (⟨out,t,rfl,hs⟩|⟨l,u,out,C,w,B,rfl,S,i0⟩)
     ·exact gv ⟨out,_,rfl,hs⟩
     ·exact Cp S λs S=>gv ⟨_,_,_,_,rfl,S,i0⟩
 ·rintro c s ⟨l,u,out,C,rfl,S,m,J,M,G,b4,b5⟩;exfalso;lia
 ·rintro c s ⟨out,t,rfl,S,m⟩;exact gv (h _ _ S m)
end
section
variable {X:Cs}{t:Type}{Q:t->SortSt->Prop}{st:qL}{d:Array (Nat×Nat×Nat)}{T A B R L:jf}{i j x y n s:Nat}{o C:List (List Nat)}{r w:List (Nat×Nat×Nat)}
theorem EG{c:Type}: ∀(m K T R:List c) (j a:Nat),a+j=T.length->K.length=m.length->(m.zipIdx j).foldl (λ(x:Array c) (p:c×Nat)=>x.setIfInBounds (a+p.2) p.1) (T++(K++R)).toArray=(T++(m++R)).toArray
 |[],K,T,R,j,a,h,b=>by rw[ym b];rfl
 |y::m,K,T,R,j,a,h,b=>by
  obtain⟨k,K,rfl⟩:=qU (l:=K) (by simp[b]);rw[List.zipIdx_cons,qV];have:=EG m K (T++[y]) R (j+1) a (by simp;lia) (by simpa using b);simpa[h] using this
def Rn(X:Cs):Nat->List (List Nat)->List (Nat×Nat×Nat)->Prop
 |_,[],[]=>True
 |s,A::o,p::r=>p.1=s/\p.2.1=A.length/\A≠[]/\A.Pairwise X.le/\Rn X (s+A.length) o r
 |_,_,_=>False
theorem Rn.cut: ∀{r:List (Nat×Nat×Nat)} {s:Nat} {o:List (List Nat)},Rn X s o (r++w)-> ∃a L2,o=a++L2/\Rn X (s+a.flatten.length) L2 w/\ ∀M q,Rn X (s+a.flatten.length) M q->Rn X s (a++M) (r++q)
 |[],s,o,h=>⟨[],o,rfl,h,λ_ _ h=>h⟩
 |p::r,s,[],h=>h.elim
 |p::r,s,A::o,h=>by
  obtain⟨h1,b,c,f,g⟩:=h;obtain⟨a,L2,rfl,k,l⟩:=Rn.cut g;have e:s+(A::a).flatten.length=s+A.length+a.flatten.length:=by simp;lia
  exact⟨A::a,L2,rfl,e▸k,λM q h=>⟨h1,b,c,f,l M q (e▸h)⟩⟩
def QH{s:qL}{f:PUnit->StateT SortSt Sem t}(h:wp X (f ⟨⟩) Q s):wp X (set s>>=f) Q st:=jd λ_ g=>by rw[StateT.run_set];exact gw ⟨g,h⟩
def upA(u:A.Pairwise X.le)(v:B.Pairwise X.le)(h: ∀a∈A,∀b∈B,X.le a b):(A++B).Pairwise X.le:=rR.mpr ⟨u,v,h⟩
theorem Qz(a:L=T++(A++R))(b:i=T.length)(c:j=T.length+A.length):(ar X L).extract i j=ar X A:=by
 subst a b c;simp[ar,BR]
def P6{Q:Bool->SortSt->Prop}(S:Rp X d (o.flatten++R) st)(hr:Rn X 0 o d.toList)(hi:i+1<d.size)(h: ∀f6 bK gc,Rp X bK (gc.flatten++R) f6->Rn X 0 gc bK.toList->bK.size+1=d.size->gc.flatten.length=o.flatten.length->Q true f6):wp X (mergeAt' i) Q st:=by
 obtain⟨d⟩:=d
 obtain⟨G,⟨D,F,P⟩,⟨sb,K,dO⟩,Y,rfl,rfl⟩: ∃G x y Y,d=G++x::y::Y/\G.length=i:=by
  have hi:i+1<d.length:=hi;exact⟨d.take i,d[i],d[i+1],d.drop (i+2),by simp,by simp;lia⟩
 obtain⟨L1,L2,rfl,h2,h3⟩:=Rn.cut hr
 obtain⟨A,B,L2,rfl⟩: ∃A B L,L2=A::B::L:=by
  match L2,h2 with
  |A::B::L,_=>exact⟨A,B,L,rfl⟩
  |[A],h=>exact h.2.2.2.2.elim
  |[],h=>exact h.elim
 obtain⟨I,u7,a1,V,hb,dg,b1,W,h4⟩:=h2;dsimp only at I u7 hb dg;obtain⟨κ',a',p',g,f'⟩:=st;have e1:a'=_:=S.a;have e2:p'=_:=S.q;subst e1 e2;rw[show(L1++A::B::L2).flatten++R=L1.flatten++(A++(B++(L2.flatten++R))) by simp] at S ⊢
 have fin: ∀f6 M,Rp X (G++(D,F+K,P)::Y).toArray (L1.flatten++(M++(L2.flatten++R))) f6->M.Perm (A++B)->M.Pairwise X.le->Q true f6:=λf6 M U em u=>by
  have em:=em.length_eq;rw[lM,<-u7,<-dg] at em;refine h _ (G++(D,F+K,P)::Y).toArray (L1++M::L2) (by simpa using U) (h3 _ _ ⟨I,em.symm,λe=>a1 ?_,u,by rwa [em,u7,dg,<-wd]⟩) (by simp;lia) (by simp;lia);exact ym (by rw[e] at em;simp at em;lia)
 have ep: ∀z,((G++(D,F,P)::(sb,K,dO)::Y).toArray.setIfInBounds G.length z).eraseIdxIfInBounds (G.length+1)=(G++z::Y).toArray:=λz=>by simp[List.set_append,List.eraseIdx_append];intro;lia
 clear h h3 h4 hr;generalize L1.flatten=T at*;generalize L2.flatten++R=R at*;have hN: ∀z,z∈A\/z∈B->z<X.N:=λz l=>by simpa using S.p.mem_iff.mp (oZ _ (by rcases l with h|h<;>simp[h]))
 obtain⟨y,B',eB⟩:=List.exists_cons_of_ne_nil b1
 have hy: ∀z∈B,X.le y z:=λz l=>by
  rw[eB] at W l;rcases jr.mp l with rfl|l
  ·exact X.rf _
  ·exact(Dz.mp W).1 z l
 refine nJ ?_;dsimp only;rw[show(G++(D,F,P)::(sb,K,dO)::Y).toArray[G.length]?=some (D,F,P) by simp,show(G++(D,F,P)::(sb,K,dO)::Y).toArray[G.length+1]?=some (sb,K,dO) by simp];dsimp only;rw[ep];refine QH (kx (x:=y) (by rw[eB];exact ix0 (by lia)) (jd (wA S.k (λz h=>hN z (.inl h)) (hN y (.inr (by simp[eB]))) V rfl (by lia) u7.symm (by have:=P5.mpr a1;lia) λk hk t1 t2=>?_)));have S2:Rp X (G++(D,F+K,P)::Y).toArray (T++(A++(B++R))) (SortSt.mk' κ' (ar X (T++(A++(B++R)))) (G++(D,F+K,P)::Y).toArray g f'):=⟨rfl,S.k,S.f,rfl,S.p⟩
 have done:(∀a∈A,X.le a y)->Q true (SortSt.mk' κ' (ar X (T++(A++(B++R)))) (G++(D,F+K,P)::Y).toArray g f'):=λz=>fin _ (A++B) (by simpa using S2) (.refl _) (upA V W λa I b hb=>X.tr (z a I) (hy b hb));rw[u7] at hk;obtain⟨v,E,rfl,rfl⟩: ∃v E,A=v++E/\v.length=k:=⟨A.take k,A.drop k,by simp,by simp;lia⟩
 have t1: ∀z∈v,X.le z y:=λz l=>by simpa using t1 z (by simpa using l)
 have t2: ∀z∈E,X.le y z:=λz l=>X.as _ _ (by simpa using t2 z (by simpa using l));rw[lM] at u7 hb;dsimp only;rcases BW E with e|⟨A3,x,e⟩
 ·subst e;rw[gD (by simp[u7])];exact gv (done (by simpa using t1))
 rw[BV] at e;have l1:0<E.length:=by simp[e]
 rw[gL (by simp;lia)];refine kx (x:=x) (by rw[e,show T++(v++(A3++[x])++(B++R))=T++((v++A3)++x::(B++R)) by simp];exact ix0 (by have:=lX List.length e;simp at this ⊢;lia)) (jd (wA (T:=T++(v++E)) (R:=R) S.k (λz h=>hN z (.inr h)) (hN x (.inl (by simp[e]))) W (by rw[<-oW]) (by simp;lia) dg.symm (by have:=P5.mpr b1;lia) λk2 cf t3 t4=>?_));rw[dg] at cf;obtain⟨H,O,rfl,rfl⟩: ∃H O,B=H++O/\H.length=k2:=⟨B.take k2,B.drop k2,by simp,by simp;lia⟩
 have v3: ∀z∈H,X.le z x:=λz l=>X.as _ _ (by simpa using t3 z (by simpa using l));have v4: ∀z∈O,X.le x z:=λz l=>by simpa using t4 z (by simpa using l)
 have lx: ∀a∈v++E,X.le a x:=by
  rw[e,<-oW] at V ⊢;exact Er X.tr V (X.rf x)
 cases H with
 |nil=>exact gv (done λa I=>X.tr (lx a I) (v4 y (by simp[show O=y::B' from eB])))
 |cons b H=>
  obtain rfl:b=y:=(ui eB).1;refine gY (λc=>by simp at c) λ_=>?_;rw[Qz (A:=E) (T:=T++v) (R:=b::H++O++R) (by simp) (by simp;lia) (by simp;lia),Qz (A:=b::H) (T:=T++(v++E)) (R:=O++R) (by simp) (by simp;lia) (by simp;lia)]
  have Z: ∀J s,Rp X (G++(D,F+K,P)::Y).toArray (T++(v++E++(b::H++O++R))) s->Rs X (E++b::H) J->Q (failedOf s).isNone (setArr s (J.toList.zipIdx.foldl (λa x=>a.setIfInBounds (D+v.length+x.2) x.1) (arrOf s))):=λJ s U ho=>by
   obtain⟨M,rfl,u,hp⟩:=ho;rw[U.f,U.a];refine fin _ (v++(M++O)) ⟨?_,U.k,U.f,U.q,List.Perm.trans ?_ U.p⟩ ?_ ?_
   ·have:=EG (M.map X.it) ((E++b::H).map X.it) ((T++v).map X.it) ((O++R).map X.it) 0 (D+v.length) (by simp;lia) (by simpa using hp.length_eq.symm);simpa[ar] using this
   ·simpa using(((hp.append_right (O++R)).append_left v).append_left T)
   ·simpa using((hp.append_right O).append_left v)
   ·rw[rR] at V W;refine upA V.1 (upA u W.2.1 λa I c m=>?_) λa I c m=>?_
    ·rcases pK.mp (hp.mem_iff.mp I) with I|I
     ·exact X.tr (lx a (by simp[I])) (v4 c m)
     ·exact W.2.2 a I c m
    ·have m:c∈E\/c∈b::H++O:=by
      rcases pK.mp m with m|m
      ·rcases pK.mp (hp.mem_iff.mp m) with m|m
       ·exact .inl m
       ·exact .inr (Cn _ m)
      ·exact .inr (oZ _ m)
     rcases m with m|m
     ·exact V.2.2 a I c m
     ·exact X.tr (t1 a I) (hy c m)
  have hd: ∀z∈E,X.le (b::H)[0] z:=t2;have top: ∀z∈b::H,X.le z E[E.length-1]:=λz l=>by subst e;simpa using v3 z l
  have l2:0<(b::H).length:=by simp
  have h3: ∀z∈E,z<X.N:=λz l=>hN z (.inl (by simp[l]));have h4: ∀z∈b::H,z<X.N:=λz l=>hN z (.inr (Cn _ l));have u1:=(rR.mp V).2.1;have u2:=(rR.mp W).1;exact gY (λc=>jd (TX S2 u1 u2 h3 h4 l1 l2 hd top λJ s U ho=>ux (nJ (gv (Z J s U ho))))) λc=>jd (TZ S2 u1 u2 h3 h4 l1 l2 hd top λJ s U ho=>ux (nJ (gv (Z J s U ho))))
end
section
variable {X:Cs}{st:qL}{b:Array (Nat×Nat×Nat)}{A L:jf}
theorem Rn.mod{w:Nat}: ∀{c:List (Nat×Nat×Nat)} {s:Nat} {a:List (List Nat)} (i:Nat),Rn X s a c->Rn X s a (c.modify i λx=>(x.1,x.2.1,w))
 |[],s,a,i,h=>by cases i<;>exact h
 |p::c,s,[],i,h=>h.elim
 |p::c,s,A::a,0,h=>h
 |p::c,s,A::a,i+1,h=>⟨h.1,h.2.1,h.2.2.1,h.2.2.2.1,Rn.mod i h.2.2.2.2⟩
theorem Rn.le: ∀{c:List (Nat×Nat×Nat)} {s:Nat} {a:List (List Nat)},Rn X s a c->c.length<=a.flatten.length
 |[],s,a,h=>kb _
 |p::c,s,[],h=>h.elim
 |p::c,s,A::a,h=>by
  have:=Rn.le h.2.2.2.2;have:=P5.mpr h.2.2.1;simp at*;omega
theorem Rn.push{A:jf}{w:Nat}: ∀{d:List (Nat×Nat×Nat)} {s:Nat} {c:List (List Nat)},Rn X s c d->A≠[]->A.Pairwise X.le->Rn X s (c++[A]) (d++[(s+c.flatten.length,A.length,w)])
 |[],s,[],h,a,u=>⟨rfl,rfl,a,u,trivial⟩
 |[],s,A::c,h,a,u=>h.elim
 |p::d,s,[],h,a,u=>h.elim
 |p::d,s,B::c,h,a,u=>⟨h.1,h.2.1,h.2.2.1,h.2.2.2.1,by simpa[wd] using Rn.push (w:=w) h.2.2.2.2 a u⟩
def NM{Q:Unit->SortSt->Prop}(S:Rp X #[] L st)(h: ∀E b L,Rp X b L E->L.Pairwise X.le->Q () E):wp X sortRuns' Q st:=by
 have H:(arrOf st).size=X.N:=by rw[S.a];simpa using S.p.length_eq
 have y: ∀{b L st},Rp X b L st->L.length=X.N:=λS=>by simpa using S.p.length_eq
 rw[sortRuns'_eq];refine nJ ?_;rw[H];dsimp only;refine la (λi c s=> ∃b,∃g:List (List Nat),∃R,c=(none,g.flatten.length)/\Rp X b (g.flatten++R) s/\Rn X 0 g b.toList/\i<=g.flatten.length) (λc s=>c.1=none/\ ∃b g,Rp X b g.flatten s/\Rn X 0 g b.toList) ⟨#[],[],L,rfl,S,trivial,kb _⟩ ?_ ?_ ?_
 ·rintro i c s t ⟨b,g,R,rfl,S,d,o⟩;have r:=y S;dsimp only;refine gY (λe=>?_) λe=>?_
  ·obtain rfl:R=[]:=ym (by simp at r e;omega);exact gv ⟨rfl,b,g,by simpa using S,d⟩
  obtain⟨x,R,rfl⟩:=qU (l:=R) (by simp at r e;omega);refine jd (KG S rfl (by simp at r ⊢;omega) λA R s S a1 u T=>?_);apply KD λn s=> ∃A R,n=A.length/\Rp X b (g.flatten++(A++R)) s/\A≠[]/\A.Pairwise X.le
  ·intro F;have J:=P5.mpr a1;refine gY (λe=>?_) λe=>?_
   ·refine rT (jd (QK S rfl rfl J (by simp at r;omega) (by omega) u λA R s S o u=>gY (λc=>by simp at c) λ_=>?_));generalize O:min (X.N-g.flatten.length) (minRun' X.N X.N 0)=n at o ⊢;exact F n s ⟨A,R,o.symm,S,by intro z;subst z;simp at o e;omega,u⟩
   ·exact F A.length s ⟨A,R,rfl,S,a1,u⟩
  rintro _ s ⟨A,R,rfl,S,a1,u⟩;refine nJ ?_;apply P7 λs=> ∃b m,Rp X b (m.flatten++(A++R)) s/\Rn X 0 m b.toList/\m.flatten.length=g.flatten.length
  ·intro F;rw[S.q]
   cases b.back? with
   |none=>exact F s ⟨b,g,S,d,rfl⟩
   |some z=>
    refine la (λ_ c s=>c=(none,())/\ ∃b m,Rp X b (m.flatten++(A++R)) s/\Rn X 0 m b.toList/\m.flatten.length=g.flatten.length) (λc s=>c=(none,())/\ ∃b m,Rp X b (m.flatten++(A++R)) s/\Rn X 0 m b.toList/\m.flatten.length=g.flatten.length) ⟨rfl,b,g,S,d,rfl⟩ ?_ (λ_ _ h=>h) ?_
    ·rintro j c s _ ⟨rfl,b,m,S,d,o⟩;refine nJ ?_;rw[S.q]
     cases G:(if b.size>1 then b[b.size-2]? else none) with
     |none=>exact gv ⟨rfl,b,m,S,d,o⟩
     |some z=>
      refine gY (λ_=>gv ⟨rfl,b,m,S,d,o⟩) λ_=>jd (P6 S d ?_ λs v w S d _ I=>gY (λc=>by simp at c) λ_=>gv ⟨rfl,v,w,S,d,I.trans o⟩);split at G
      ·omega
      ·cases G
    ·rintro c s ⟨rfl,b,m,S,d,o⟩;exact ux (F _ ⟨_,m,⟨S.a,S.k,S.f,rfl,S.p⟩,by rw[S.q,Array.toList_modify];exact d.mod _,o⟩)
  ·rintro s ⟨b,m,S,d,o⟩;refine ux (gv ⟨_,m++[A],R,?_,⟨by simpa using S.a,S.k,S.f,rfl,by simpa using S.p⟩,?_,?_⟩)
   ·rw[List.flatten_append,lM,o];simp
   ·rw[S.q,Array.toList_push,<-o,<-wc m.flatten.length];exact d.push a1 u
   ·have:=P5.mpr a1;simp at*;omega
 ·rintro c s ⟨b,g,R,rfl,S,d,o⟩;have r:=y S;obtain rfl:R=[]:=ym (by simp at r o;omega);exact⟨rfl,b,g,by simpa using S,d⟩
 ·rintro⟨_,c⟩ s ⟨rfl,b,g,S,d⟩;have r:=y S;have M:=d.le;refine la (λi c s=>c=(none,())/\ ∃b g,Rp X b g.flatten s/\Rn X 0 g b.toList/\(b.size<=1\/b.size+i<=X.N)) (λc s=>c=(none,())/\ ∃b g,Rp X b g.flatten s/\Rn X 0 g b.toList/\b.size<=1) ⟨rfl,b,g,S,d,.inr (by rw[ji] at M;omega)⟩ ?_ ?_ ?_
  ·rintro i c s _ ⟨rfl,b,g,S,d,t⟩;refine nJ ?_;rw[S.q];refine gY (λe=>gv ⟨rfl,b,g,S,d,e⟩) λe=>jd (P6 (R:=[]) (by simpa using S) d ((λc:Bool=>show(if c=true then b.size-2-1 else b.size-2)+1<b.size by split<;>omega) _) λs v w S d H _=>gY (λc=>by simp at c) λ_=>gv ⟨rfl,v,w,by simpa using S,d,.inr (by omega)⟩)
  ·rintro c s ⟨rfl,b,g,S,d,t⟩;exact⟨rfl,b,g,S,d,by omega⟩
  ·rintro c s ⟨rfl,b,g,S,d,t⟩;refine gv (h s b _ S ?_);obtain⟨C⟩:=b
   match C,g,d,t with
   |[],[],_,_=>exact .nil
   |[p],[A],d,_=>simpa using d.2.2.2.1
   |p::[],A::B::g,d,_=>exact d.2.2.2.2.elim
   |[],A::g,d,_=>exact d.elim
   |p::C,[],d,_=>exact d.elim
   |p::U::C,g,d,t=>simp at t
end
end TS
namespace PX
open PySem PySem.Spec PyProof.Rows L2 PySem.SeqAt
open PySem.AutoSeq1 (wpAny_loadPart')
open PySem.MeetsSeq PySem.MeetsSeq2 PySem.MeetsSeq3
noncomputable def jG(op:CmpOp)(i j:Int):Bool:=match op with
 | .Lt=>decide (i<j)| .LtE=>decide (i<=j)| .Gt=>decide (i>j)|_=>decide (i>=j)
def vA(op:CmpOp):Prop:=op= .Lt\/op= .LtE\/op= .Gt\/op= .GtE
def P0(op:CmpOp)(A:gM)(s:gn)(y x:gA)(b:Bool):Prop:= ∀(a:gR) (w:gJ) (E:hC) (Q:hC),Q (.bool b) s->wpAny (model a w) A (richCompare op y x) Q E s
def zT(op:CmpOp)(A:gM)(s:gn)(fin:Bool):List (Value×Value)->Bool->Prop
 |[],r=>r=fin
 |(y,x)::hV,r=> ∃e,EqAt A s y x e/\(if e=true then zT op A s fin hV r else P0 op A s y x r)
def KQ(l b:gm)(a i:lU)(n v:Nat)(dd B:Option Addr)(C z:uK)(r:Bool):
  Meets (Builtin.«tuple.__lt__» ⟨[.ref l,.ref b],[]⟩) (λA R s=>s.heap.get? l=some {cls:= .type "tuple",dict:=dd,data:= .seq a n,slots:=C}/\s.heap.get? b=some {cls:= .type "tuple",dict:=B,data:= .seq i v,slots:=z}/\
   zT .Lt A.in1 s (jG .Lt a.size i.size) (a.toList.zip i.toList) r/\R (.ok (.ret (.bool r))) s):=
 .of_wp λf w A R s h=>by
  obtain⟨m,g,d,o,os⟩:=s;obtain⟨u,q,c,h⟩:=h;have f2:=BO
  wp_walk using wpAny_loadPart' u,wpAny_loadPart' q,pO _ (λhV b k=>b.1=none/\k=⟨m,g,d,o,os⟩/\zT .Lt A.in1 ⟨m,g,d,o,os⟩ (jG .Lt a.size i.size) hV r) _
  case turn=>
   rintro⟨y,x⟩ hV b k ⟨j,rfl,e,t,c⟩;refine gk (t f w _ _ ?_)
   cases e with
   |true=>
    simp only[jh] at c
    wp_walk
    exact⟨rfl,rfl,c⟩
   |false=>
    simp only[iw,iQ] at c;have p:=c f w
    wp_walk using p
    exact⟨_,rfl,by simpa using h⟩
  case fin=>
   rintro⟨E,G⟩ k ⟨j,rfl,c⟩;simp only at j;subst j;have c:r=jG .Lt a.size i.size:=c;rw[c] at h
   wp_walk
   exact⟨_,rfl,by simpa[Builtin.Tuple.tupleCompareSizes,jG] using h⟩
  case h=>exact⟨rfl,rfl,c⟩
def KR(l b:gm)(a i:lU)(n v:Nat)(dd B:Option Addr)(C z:uK)(r:Bool):
  Meets (Builtin.«tuple.__le__» ⟨[.ref l,.ref b],[]⟩) (λA R s=>s.heap.get? l=some {cls:= .type "tuple",dict:=dd,data:= .seq a n,slots:=C}/\s.heap.get? b=some {cls:= .type "tuple",dict:=B,data:= .seq i v,slots:=z}/\
   zT .LtE A.in1 s (jG .LtE a.size i.size) (a.toList.zip i.toList) r/\R (.ok (.ret (.bool r))) s):=
 .of_wp λf w A R s h=>by
  obtain⟨m,g,d,o,os⟩:=s;obtain⟨u,q,c,h⟩:=h;have f2:=BO
  wp_walk using wpAny_loadPart' u,wpAny_loadPart' q,pO _ (λhV b k=>b.1=none/\k=⟨m,g,d,o,os⟩/\zT .LtE A.in1 ⟨m,g,d,o,os⟩ (jG .LtE a.size i.size) hV r) _
  case turn=>
   rintro⟨y,x⟩ hV b k ⟨j,rfl,e,t,c⟩;refine gk (t f w _ _ ?_)
   cases e with
   |true=>
    simp only[jh] at c
    wp_walk
    exact⟨rfl,rfl,c⟩
   |false=>
    simp only[iw,iQ] at c;have p:=c f w
    wp_walk using p
    exact⟨_,rfl,by simpa using h⟩
  case fin=>
   rintro⟨E,G⟩ k ⟨j,rfl,c⟩;simp only at j;subst j;have c:r=jG .LtE a.size i.size:=c;rw[c] at h
   wp_walk
   exact⟨_,rfl,by simpa[Builtin.Tuple.tupleCompareSizes,jG] using h⟩
  case h=>exact⟨rfl,rfl,c⟩
def KS(l b:gm)(a i:lU)(n v:Nat)(dd B:Option Addr)(C z:uK)(r:Bool):
  Meets (Builtin.«tuple.__gt__» ⟨[.ref l,.ref b],[]⟩) (λA R s=>s.heap.get? l=some {cls:= .type "tuple",dict:=dd,data:= .seq a n,slots:=C}/\s.heap.get? b=some {cls:= .type "tuple",dict:=B,data:= .seq i v,slots:=z}/\
   zT .Gt A.in1 s (jG .Gt a.size i.size) (a.toList.zip i.toList) r/\R (.ok (.ret (.bool r))) s):=
 .of_wp λf w A R s h=>by
  obtain⟨m,g,d,o,os⟩:=s;obtain⟨u,q,c,h⟩:=h;have f2:=BO
  wp_walk using wpAny_loadPart' u,wpAny_loadPart' q,pO _ (λhV b k=>b.1=none/\k=⟨m,g,d,o,os⟩/\zT .Gt A.in1 ⟨m,g,d,o,os⟩ (jG .Gt a.size i.size) hV r) _
  case turn=>
   rintro⟨y,x⟩ hV b k ⟨j,rfl,e,t,c⟩;refine gk (t f w _ _ ?_)
   cases e with
   |true=>
    simp only[jh] at c
    wp_walk
    exact⟨rfl,rfl,c⟩
   |false=>
    simp only[iw,iQ] at c;have p:=c f w
    wp_walk using p
    exact⟨_,rfl,by simpa using h⟩
  case fin=>
   rintro⟨E,G⟩ k ⟨j,rfl,c⟩;simp only at j;subst j;have c:r=jG .Gt a.size i.size:=c;rw[c] at h
   wp_walk
   exact⟨_,rfl,by simpa[Builtin.Tuple.tupleCompareSizes,jG] using h⟩
  case h=>exact⟨rfl,rfl,c⟩
def KU(l b:gm)(a i:lU)(n v:Nat)(dd B:Option Addr)(C z:uK)(r:Bool):
  Meets (Builtin.«tuple.__ge__» ⟨[.ref l,.ref b],[]⟩) (λA R s=>s.heap.get? l=some {cls:= .type "tuple",dict:=dd,data:= .seq a n,slots:=C}/\s.heap.get? b=some {cls:= .type "tuple",dict:=B,data:= .seq i v,slots:=z}/\
   zT .GtE A.in1 s (jG .GtE a.size i.size) (a.toList.zip i.toList) r/\R (.ok (.ret (.bool r))) s):=
 .of_wp λf w A R s h=>by
  obtain⟨m,g,d,o,os⟩:=s;obtain⟨u,q,c,h⟩:=h;have f2:=BO
  wp_walk using wpAny_loadPart' u,wpAny_loadPart' q,pO _ (λhV b k=>b.1=none/\k=⟨m,g,d,o,os⟩/\zT .GtE A.in1 ⟨m,g,d,o,os⟩ (jG .GtE a.size i.size) hV r) _
  case turn=>
   rintro⟨y,x⟩ hV b k ⟨j,rfl,e,t,c⟩;refine gk (t f w _ _ ?_)
   cases e with
   |true=>
    simp only[jh] at c
    wp_walk
    exact⟨rfl,rfl,c⟩
   |false=>
    simp only[iw,iQ] at c;have p:=c f w
    wp_walk using p
    exact⟨_,rfl,by simpa using h⟩
  case fin=>
   rintro⟨E,G⟩ k ⟨j,rfl,c⟩;simp only at j;subst j;have c:r=jG .GtE a.size i.size:=c;rw[c] at h
   wp_walk
   exact⟨_,rfl,by simpa[Builtin.Tuple.tupleCompareSizes,jG] using h⟩
  case h=>exact⟨rfl,rfl,c⟩
section
variable {A:gM}{s:gn}{l b:gm}{a c:lU}{r:Bool}
def Lp(B:vA op)(z:s.heap.IsTuple l a)(y:s.heap.IsTuple b c)(g:A.units<cLine)(i:zT op A.in1 s (jG op a.size c.size) (a.toList.zip c.toList) r):P0 op A s (.ref l) (.ref b) r:=λt w E Q h=>by
 obtain⟨⟨v,dd,p,o⟩,d,q,n,hd⟩:=id z;obtain⟨⟨C,m,data2,k⟩,e,u,j,f⟩:=id y;simp only at q hd u f;subst q hd u f;rcases B with rfl|rfl|rfl|rfl
 ·exact BN (op:= .Lt) ⟨_,d,rfl⟩ ⟨_,e,rfl⟩ PySem.F.slot_tuple_lt PySem.F.entry_tuple_lt (PySem.F.args_tuple_lt_2 _ _) (KQ l b a c n j dd m o k r) ⟨d,e,i,show Value.bool r≠Value.notImplemented/\Q (.bool r) s from⟨(λx=>nomatch x),h⟩⟩ g
 ·exact BN (op:= .LtE) ⟨_,d,rfl⟩ ⟨_,e,rfl⟩ PySem.F.slot_tuple_le PySem.F.entry_tuple_le (PySem.F.args_tuple_le_2 _ _) (KR l b a c n j dd m o k r) ⟨d,e,i,show Value.bool r≠Value.notImplemented/\Q (.bool r) s from⟨(λx=>nomatch x),h⟩⟩ g
 ·exact BN (op:= .Gt) ⟨_,d,rfl⟩ ⟨_,e,rfl⟩ PySem.F.slot_tuple_gt PySem.F.entry_tuple_gt (PySem.F.args_tuple_gt_2 _ _) (KS l b a c n j dd m o k r) ⟨d,e,i,show Value.bool r≠Value.notImplemented/\Q (.bool r) s from⟨(λx=>nomatch x),h⟩⟩ g
 ·exact BN (op:= .GtE) ⟨_,d,rfl⟩ ⟨_,e,rfl⟩ PySem.F.slot_tuple_ge PySem.F.entry_tuple_ge (PySem.F.args_tuple_ge_2 _ _) (KU l b a c n j dd m o k r) ⟨d,e,i,show Value.bool r≠Value.notImplemented/\Q (.bool r) s from⟨(λx=>nomatch x),h⟩⟩ g
end
mutual
def lV(a:CmpOp):D->D->Option Bool
 | .int i,.int j=>some (jG a i j)
 | .tup l,.tup m=>qo a l m
 |_,_=>none
def qo(a:CmpOp):List D->List D->Option Bool
 |[],m=>some (jG a 0 m.length)
 |x::l,[]=>some (jG a ((x::l).length) 0)
 |x::l,y::m=>if D.eqb x y=true then qo a l m else lV a x y
end
theorem qh(c:CmpOp)(a b k:Int):jG c (a+k) (b+k)=jG c a b:=by
 cases c<;>simp[jG]
section
variable {X:Cx}{c:gZ}{f:L2.St}{H:Hp}{s:gn}
def D2(b:vA op):P0 op A s (.int i t) (.int j u) (jG op i j):=λa w E Q h=>by
 rcases b with rfl|rfl|rfl|rfl
 ·exact(PyProof.Rows.lt_int h:wpAny (model a w) A (compareOp .Lt _ _) Q E s)
 ·exact(PyProof.Rows.le_int h:wpAny (model a w) A (compareOp .LtE _ _) Q E s)
 ·exact(PyProof.Rows.gt_int h:wpAny (model a w) A (compareOp .Gt _ _) Q E s)
 ·exact(PyProof.Rows.ge_int h:wpAny (model a w) A (compareOp .GtE _ _) Q E s)
def Lq(T:vA op)(I:Inv X c f H s): ∀(n:Nat) (d e:D) (v u:V) (a b:gA) (O B:AP') (A:gM) (r:Bool),iV X.K H O d v->iV X.K H B e u->RelV v a->RelV u b->d.dep<=n->e.dep<20000->A.units+n<cLine->lV op d e=some r->P0 op A s a b r:=by
 intro n
 induction n with
 |zero=>
  intro d e v u a b O B A r hd L M N Q S hA g
  cases d with
  |int i=>
   cases e with
   |int j=>
    have:=gU hd;subst this;have:=gU L;subst this;obtain⟨t,rfl⟩:=M;obtain⟨t',rfl⟩:=N;rw[lV] at g;rw[<-jw g];exact D2 T
   |_=>rw[lV] at g<;>first|cases g|(intros;simp_all)
  |tup l=>rw[D.dep] at Q;omega
  |_=>rw[lV] at g<;>first|cases g|(intros;simp_all)
 |succ n ih=>
  intro d e v u a b O B A r hd L M N Q S hA g
  cases d with
  |int i=>
   cases e with
   |int j=>
    have:=gU hd;subst this;have:=gU L;subst this;obtain⟨t,rfl⟩:=M;obtain⟨t',rfl⟩:=N;rw[lV] at g;rw[<-jw g];exact D2 T
   |_=>rw[lV] at g<;>first|cases g|(intros;simp_all)
  |tup l=>
   cases e with
   |tup m=>
    rw[lV] at g;rw[D.dep] at Q S;obtain⟨p,E,rfl,q,z⟩:=jM hd;obtain⟨p2,G,rfl,q2,o⟩:=jM L;cases M;cases N;obtain⟨h,J,pl,_⟩:=I.tuple q;obtain⟨w,C,f9,_⟩:=I.tuple q2;have R:A.in1.units=A.units+1:=rfl
    have Y: ∀(l m:List D) (E G:List V) (h w:iL) (k:Int),D.depL l+1<=n+1->D.depL m<20000->RepL X.K H O l E->RepL X.K H B m G->Vals E h->Vals G w->qo op l m=some r->zT op A.in1 s (jG op (h.length+k) (w.length+k)) (h.zip w) r:=by
     intro l
     induction l with
     |nil=>
      intro m E G h w k y6 F z o J C g;rw[RepL] at z;subst z;cases J;rw[qo] at g;have e1:=o.length;have e2:=C.length;show r=_;rw[qh,<-jw g]
      congr 1
      omega
     |cons x l U=>
      intro m E G h w k y6 F z o J C g;rw[RepL] at z;obtain⟨W,xr,rfl,g1,g2⟩:=z
      cases J with
      |cons a1 a2=>
       cases m with
       |nil=>
        rw[RepL] at o;subst o;cases C;rw[qo] at g;have e1:=g2.length;have e2:=a2.length;rw[List.zip_nil_right];show r=_;rw[qh,<-jw g]
        congr 1
        simp only[ju];omega
       |cons y m=>
        rw[RepL] at o;obtain⟨Z,yr,rfl,g3,g4⟩:=o
        cases C with
        |cons b1 b2=>
         rw[qo] at g;rw[D.depL] at y6 F;rw[qT];refine⟨D.eqb x y,zw I n x y W Z _ _ O B A.in1 (.inl g1) (.inl g3) a1 b1 (by omega) (by omega) (by rw[R];omega),?_⟩
         cases P:D.eqb x y with
         |true=>
          rw[P,gD rfl] at g;rw[gD rfl];have:=U m xr yr _ _ (k+1) (by omega) (by omega) g2 g4 a2 b2 g;simp only[ju];have e: ∀a:Nat,(((a+1:Nat):Int)+k)=(a:Int)+(k+1):=λa=>by omega
          rw[e,e];exact this
         |false=>
          rw[P,gL je] at g;rw[gL je];exact ih x y W Z _ _ O B A.in1 r (.inl g1) (.inl g3) a1 b1 (by omega) (by omega) (by rw[R];omega) g
    have:=Y l m E G h w 0 (by omega) (by omega) z o J C g;refine Lp T pl f9 (by omega) ?_;simpa using this
   |_=>rw[lV] at g<;>first|cases g|(intros;simp_all)
  |_=>rw[lV] at g<;>first|cases g|(intros;simp_all)
def nU(a:CmpOp)(d e:D):Option (D×Bool):=if d.dep<=50/\e.dep<=50 then(lV a d e).map λb=>(.bl b,false) else none
def oD(b:vA op)(l:X.A.units+60<cLine):OpR X (compareOp op) (rD X.K (nU op)):=by
 intro c s f H x y v u Q I j k h;obtain⟨O,d,e,z,np,h1,g,a,G⟩:=h;unfold nU at a;split at a
 ·rename_i hd;obtain⟨r,i,rfl⟩:=iC a;have:=Lq b I 50 d e x y v u O O X.A r h1 g j k hd.1 (by omega) (by omega) i X.prog X.w X.xe (EP X c f Q) ⟨.bl r,H,I,rfl,G.bl⟩;rcases b with rfl|rfl|rfl|rfl<;>exact this
 ·cases a
end
open TS
section
variable {b:gR}{w:gJ}{A:gM}{E:hC}{s:gn}
def ot(h:gP)(a:gm)(c:iL):Heap:=((h.update a (Obj.mapSeq λ_=> #[])).push (seqObj "tuple" c.toArray 0)).push (seqObj "list" #[] 0)
def MT(a:iL)(i:Nat):Keyed:=(a.getD i Value.none,a.getD i Value.none)
def tL{a:gm}{c:iL}{n:Nat}{P:PySem.Fin->Shared->Prop}{κ:SortKind}{lt:Nat->Nat->Bool}(t:s.heap.get? a=some (seqObj "list" c.toArray n))(B:c.length<=sizeLine)(I: ∀i j,lt i j=true->lt j i=false)(O: ∀{i j k},lt j i=false->lt k j=false->lt k i=false)
  (hk:2<=c.length->wpAny (model b w) A (keyKind' c.toArray) (λg d=>d={s with heap:=ot s.heap a c}/\g=κ) (λ_ _=>False) {s with heap:=ot s.heap a c})
  (ask:2<=c.length->Ask (model b w) A (λd=>d={s with heap:=ot s.heap a c}) (MT c) κ c.length lt)
  (h: ∀p:List Nat,p.Perm (List.range c.length)->p.Pairwise (λi j=>lt j i=false)->P (.done (.ret .none)) {s with heap:=(ot s.heap a c).update a (Obj.mapSeq λ_=>(p.map λi=>c.getD i Value.none).toArray)}):
  wpAny (model b w) A (Builtin.«list.sort» ⟨[.ref a],[]⟩) P E s:=by
 rw[list_sort_plain];have U:a<s.heap.objs.size:=ja t;refine gk (Fw t rfl (gk (uh t rfl ?_ (by rw[iz];exact B) (kb _))));obtain⟨v,C⟩: ∃v,(s.heap.update a (Obj.mapSeq λ_=>(#[]:Array Value))).get? a=some (seqObj "list" #[] v):=⟨_,wa t λ_=> #[]⟩
 refine gk (yk C rfl (gk (FD ?_ (by show c.length<=_;exact B))));refine gk (BM ?_ (kb _));refine kr ?_;have q:(ot s.heap a c).get? a=some (seqObj "list" #[] v):=iW _ (iW _ C);show wpAny (model b w) A _ P E {s with heap:=ot s.heap a c};dsimp only;by_cases l:c.toArray.size<2
 ·rw[gD l,gD l];refine gk (gw ?_);rw[FA];refine gk (gw ?_);dsimp only;refine gk (yk q rfl (gk (uh q rfl ?_ (kb _) ?_)))
  ·simp only[tw,iw,iQ];refine gw ?_;have u:c.length<2:=by simpa using l
   have:=h (List.range c.length) (ug _) (by
    rw[NB];intro i j m M Y;simp at m M;omega)
   have e:((c.toArray.zip c.toArray).map (·.2))=((List.range c.length).map λi=>c.getD i Value.none).toArray:=by
    apply Array.ext
    ·simp
    ·intro i h1 J;have m:i<c.length:=by simpa using h1
     simp[m]
   rw[e];exact this
  ·rw[Array.size_map,Array.size_zip];simp;omega
 ·rw[gL l,gL l];have u:2<=c.length:=by simpa using l
  refine gk (pe (hk u) (λg d z=>?_) λ_ _ x=>x.elim);obtain⟨rfl,rfl⟩:=z;refine gk (pe (NM (X:=⟨_,A,E,λd=>d={s with heap:=ot s.heap a c},MT c,lt,g,c.length,I,O,ask u⟩) (L:=List.range c.length) ⟨?_,rfl,rfl,rfl,.refl _⟩ (Q:=λ_ r=> ∃p,(arrOf r).map (·.2)=(p.map λi=>c.getD i Value.none).toArray/\failedOf r=none/\p.Perm (List.range c.length)/\p.Pairwise λi j=>lt j i=false) (λr _ p R y=>⟨p,?_,R.f,R.p,y⟩) _ rfl) ?_ λ_ _ e=>e)
  ·show c.toArray.zip c.toArray=_;apply Array.ext
   ·simp
   ·intro i h1 J;have m:i<c.length:=by simpa using h1
    simp[MT,m]
  ·rw[R.a];simp[MT]
  rintro⟨⟨⟩,r⟩ d ⟨rfl,G,o,T,H,y⟩;dsimp only;have N:G.length=c.length:=by simpa using H.length_eq
  refine gk (yk q rfl (gk (uh q rfl ?_ (kb _) ?_)))
  ·rw[T];simp only[tw,iw,iQ];rw[o];exact gw (h G H y)
  ·rw[o,iz,iJ,N];omega
end
mutual
def cT:D->D->Ordering
 | .int i,.int j=>if i<j then .lt else if i=j then .eq else .gt
 | .int _,_=> .lt
 | .tup _,.int _=> .gt
 | .tup l,.tup m=>cL l m
 | .tup _,_=> .lt
 |_,.int _=> .gt
 |_,.tup _=> .gt
 |_,_=> .eq
def cL:List D->List D->Ordering
 |[],[]=> .eq
 |[],_::_=> .lt
 |_::_,[]=> .gt
 |x::l,y::m=>match cT x y with
  | .lt=> .lt
  | .gt=> .gt
  | .eq=>cL l m
end
mutual
theorem IE: ∀x:D,cT x x= .eq
 | .int i=>by simp[cT]
 | .tup l=>by rw[cT];exact IG l
 | .non=>by simp[cT]
 | .bl _=>by simp[cT]
 | .str _=>by simp[cT]
 | .lst _=>by simp[cT]
 | .oth _ _ _=>by simp[cT]
theorem IG: ∀l:List D,cL l l= .eq
 |[]=>by simp[cL]
 |x::l=>by rw[cL,IE x];exact IG l
end
mutual
theorem vJ: ∀x y:D,cT y x=(cT x y).swap
 | .int i,.int j=>by
  rw[cT,cT];by_cases h1:i<j
  ·rw[gD h1,gL (by omega),gL (by omega)];rfl
  ·rw[gL h1];by_cases a:i=j
   ·rw[gD a,gL (by omega),gD a.symm];rfl
   ·rw[gL a,gD (by omega)];rfl
 | .tup l,.tup m=>by rw[cT,cT];exact IF l m
 | .int _,.tup _=>by simp[cT]
 | .int _,.non=>by simp[cT]
 | .int _,.bl _=>by simp[cT]
 | .int _,.str _=>by simp[cT]
 | .int _,.lst _=>by simp[cT]
 | .int _,.oth _ _ _=>by simp[cT]
 | .tup _,.int _=>by simp[cT]
 | .tup _,.non=>by simp[cT]
 | .tup _,.bl _=>by simp[cT]
 | .tup _,.str _=>by simp[cT]
 | .tup _,.lst _=>by simp[cT]
 | .tup _,.oth _ _ _=>by simp[cT]
 | .non,y=>by cases y<;>simp[cT]
 | .bl _,y=>by cases y<;>simp[cT]
 | .str _,y=>by cases y<;>simp[cT]
 | .lst _,y=>by cases y<;>simp[cT]
 | .oth _ _ _,y=>by cases y<;>simp[cT]
theorem IF: ∀l m:List D,cL m l=(cL l m).swap
 |[],[]=>by simp[cL]
 |[],_::_=>by simp[cL]
 |_::_,[]=>by simp[cL]
 |x::l,y::m=>by
  rw[cL,cL,vJ x y];cases h:cT x y<;>simp[Ordering.swap]
  exact IF l m
end
def MF(h1:cT x y≠ .gt)(a:cT y x≠ .gt):cT x y= .eq:=by
 rw[vJ x y] at a
 cases h:cT x y with
 |lt=>rw[h] at a;exact absurd rfl a
 |eq=>rfl
 |gt=>exact absurd h h1
mutual
theorem vI: ∀x y z:D,cT x y≠ .gt->cT y z≠ .gt->cT x z≠ .gt
 | .int i,y,z,h1,d=>by
  cases z with
  |int k=>
   cases y with
   |int j=>
    rw[cT] at h1 d ⊢
    have a:i<=j:=by
     by_cases a:i<j
     ·omega
     ·rw[gL a] at h1;by_cases b:i=j
      ·omega
      ·rw[gL b] at h1;exact absurd rfl h1
    have b:j<=k:=by
     by_cases a:j<k
     ·omega
     ·rw[gL a] at d;by_cases b:j=k
      ·omega
      ·rw[gL b] at d;exact absurd rfl d
    by_cases c:i<k
    ·rw[gD c];simp
    ·rw[gL c,gD (by omega)];simp
   |_=>simp[cT] at d
  |_=>simp[cT]
 | .tup l,y,z,h1,d=>by
  cases y with
  |int j=>simp[cT] at h1
  |tup m=>
   cases z with
   |int k=>simp[cT] at d
   |tup n=>rw[cT] at h1 d ⊢;exact EU l m n h1 d
   |_=>simp[cT]
  |_=>cases z<;>simp_all [cT]
 | .non,y,z,h1,d=>by cases y<;>cases z<;>simp_all [cT]
 | .bl _,y,z,h1,d=>by cases y<;>cases z<;>simp_all [cT]
 | .str _,y,z,h1,d=>by cases y<;>cases z<;>simp_all [cT]
 | .lst _,y,z,h1,d=>by cases y<;>cases z<;>simp_all [cT]
 | .oth _ _ _,y,z,h1,d=>by cases y<;>cases z<;>simp_all [cT]
 termination_by x y z=>sizeOf x+sizeOf y+sizeOf z
theorem EU: ∀l m n:List D,cL l m≠ .gt->cL m n≠ .gt->cL l n≠ .gt
 |[],m,n,_,_=>by cases n<;>simp[cL]
 |x::l,[],n,h1,_=>by simp[cL] at h1
 |x::l,y::m,[],_,a=>by simp[cL] at a
 |x::l,y::m,z::n,h1,a=>by
  have a1:cT x y≠ .gt:=λh=>by rw[cL,h] at h1;exact h1 rfl
  have c:cT y z≠ .gt:=λh=>by rw[cL,h] at a;exact a rfl
  have g:=vI x y z a1 c;rw[cL]
  cases b:cT x z with
  |lt=>simp
  |gt=>exact absurd b g
  |eq=>
   have f:cT z x≠ .gt:=by rw[vJ x z,b];simp[Ordering.swap]
   have d:cT x y= .eq:=MF a1 (vI y z x c f);have e:cT y z= .eq:=MF c (vI z x y f a1);rw[cL,d] at h1;rw[cL,e] at a;exact EU l m n h1 a
 termination_by l m n=>sizeOf l+sizeOf m+sizeOf n
end
def ltT(x y:D):Bool:=cT x y== .lt
theorem UX:ltT x y=true↔cT x y= .lt:=by simp[ltT]
theorem pE:ltT x y=false↔cT x y≠ .lt:=by simp[ltT]
theorem Ql:ltT y x=false↔cT x y≠ .gt:=by rw[pE,vJ x y];cases cT x y<;>simp[Ordering.swap]
def Vt(x y:D)(h:ltT x y=true):ltT y x=false:=by rw[Ql,UX.mp h];simp
def T5(h1:ltT y x=false)(a:ltT z y=false):ltT z x=false:=Ql.mpr (vI _ _ _ (Ql.mp h1) (Ql.mp a))
mutual
/-- ints,and tuples of such -/
def D.pr:D->Bool
 | .int _=>true
 | .tup l=>D.prL l
 |_=>false
def D.prL:List D->Bool
 |[]=>true
 |x::l=>D.pr x&&D.prL l
end
mutual
theorem G2: ∀x y:D,D.pr x=true->D.pr y=true->D.eqb x y=(cT x y== .eq)
 | .int i,.int j,_,_=>by
  rw[D.eqb,cT];by_cases h:i=j
  ·subst h;simp
  ·rw[gL h];by_cases a:i<j<;>simp[h,a]
 | .int _,.tup _,_,_=>by simp[D.eqb,cT]
 | .tup _,.int _,_,_=>by simp[D.eqb,cT]
 | .tup l,.tup m,h1,a=>by rw[D.eqb,cT];rw[D.pr] at h1 a;exact Iu l m h1 a
 | .non,_,h,_=>by simp[D.pr] at h
 | .bl _,_,h,_=>by simp[D.pr] at h
 | .str _,_,h,_=>by simp[D.pr] at h
 | .lst _,_,h,_=>by simp[D.pr] at h
 | .oth _ _ _,_,h,_=>by simp[D.pr] at h
 |_,.non,_,h=>by simp[D.pr] at h
 |_,.bl _,_,h=>by simp[D.pr] at h
 |_,.str _,_,h=>by simp[D.pr] at h
 |_,.lst _,_,h=>by simp[D.pr] at h
 |_,.oth _ _ _,_,h=>by simp[D.pr] at h
theorem Iu: ∀l m:List D,D.prL l=true->D.prL m=true->D.eqbL l m=(cL l m== .eq)
 |[],[],_,_=>by simp[D.eqbL,cL]
 |[],_::_,_,_=>by simp[D.eqbL,cL]
 |_::_,[],_,_=>by simp[D.eqbL,cL]
 |x::l,y::m,h1,a=>by
  rw[D.prL,kX] at h1 a;rw[D.eqbL,cL,G2 x y h1.1 a.1,Iu l m h1.2 a.2];cases cT x y<;>simp
end
mutual
theorem vK: ∀x y:D,D.pr x=true->D.pr y=true->cT x y= .eq->x=y
 | .int i,.int j,_,_,h=>by
  rw[cT] at h;by_cases h1:i<j
  ·rw[gD h1] at h;cases h
  ·rw[gL h1] at h;by_cases c:i=j
   ·rw[c]
   ·rw[gL c] at h;cases h
 | .tup l,.tup m,a,b,h=>by rw[cT] at h;rw[D.pr] at a b;rw[EV l m a b h]
 | .int _,.tup _,_,_,h=>by simp[cT] at h
 | .tup _,.int _,_,_,h=>by simp[cT] at h
 | .non,_,a,_,_=>by simp[D.pr] at a
 | .bl _,_,a,_,_=>by simp[D.pr] at a
 | .str _,_,a,_,_=>by simp[D.pr] at a
 | .lst _,_,a,_,_=>by simp[D.pr] at a
 | .oth _ _ _,_,a,_,_=>by simp[D.pr] at a
 |_,.non,_,a,_=>by simp[D.pr] at a
 |_,.bl _,_,a,_=>by simp[D.pr] at a
 |_,.str _,_,a,_=>by simp[D.pr] at a
 |_,.lst _,_,a,_=>by simp[D.pr] at a
 |_,.oth _ _ _,_,a,_=>by simp[D.pr] at a
theorem EV: ∀l m:List D,D.prL l=true->D.prL m=true->cL l m= .eq->l=m
 |[],[],_,_,_=>rfl
 |[],_::_,_,_,h=>by simp[cL] at h
 |_::_,[],_,_,h=>by simp[cL] at h
 |x::l,y::m,a,b,h=>by
  rw[D.prL,kX] at a b;rw[cL] at h
  cases e:cT x y with
  |eq=>rw[e] at h;rw[vK x y a.1 b.1 e,EV l m a.2 b.2 h]
  |lt=>rw[e] at h;cases h
  |gt=>rw[e] at h;cases h
end
mutual
theorem Dj: ∀x y:D,D.pr x=true->D.pr y=true-> ∀b,lV .Lt x y=some b->b=ltT x y
 | .int i,.int j,_,_,b,h=>by
  rw[lV] at h;rw[<-jw h,ltT,cT,jG];by_cases h1:i<j
  ·simp[h1]
  ·rw[gL h1];by_cases a:i=j<;>simp[h1,a]
 | .int _,.tup _,_,_,b,h=>by simp[lV] at h
 | .tup _,.int _,_,_,b,h=>by simp[lV] at h
 | .tup l,.tup m,h1,a,b,h=>by
  rw[lV] at h;rw[D.pr] at h1 a;rw[ltT,cT];exact IA l m h1 a b h
 | .non,_,h,_,_,_=>by simp[D.pr] at h
 | .bl _,_,h,_,_,_=>by simp[D.pr] at h
 | .str _,_,h,_,_,_=>by simp[D.pr] at h
 | .lst _,_,h,_,_,_=>by simp[D.pr] at h
 |_,.non,_,h,_,_=>by simp[D.pr] at h
 |_,.bl _,_,h,_,_=>by simp[D.pr] at h
 |_,.str _,_,h,_,_=>by simp[D.pr] at h
 |_,.lst _,_,h,_,_=>by simp[D.pr] at h
theorem IA: ∀l m:List D,D.prL l=true->D.prL m=true-> ∀b,qo .Lt l m=some b->b=(cL l m== .lt)
 |[],[],_,_,b,h=>by rw[qo] at h;rw[<-jw h];simp[jG,cL]
 |[],_::_,_,_,b,h=>by rw[qo] at h;rw[<-jw h];simp[jG,cL]<;>omega
 |_::_,[],_,_,b,h=>by rw[qo] at h;rw[<-jw h];simp[jG,cL]<;>omega
 |x::l,y::m,h1,a,b,h=>by
  rw[D.prL,kX] at h1 a;rw[qo,G2 x y h1.1 a.1] at h;rw[cL]
  cases c:cT x y with
  |eq=>rw[c] at h;simp at h;exact IA l m h1.2 a.2 b h
  |lt=>rw[c] at h;simp at h;have:=Dj x y h1.1 a.1 b h;rw[this,ltT,c]
  |gt=>rw[c] at h;simp at h;have:=Dj x y h1.1 a.1 b h;rw[this,ltT,c]
end
section
variable {a:Type}(lt:a->a->Bool)
def C4(x:a):List a->List a
 |[]=>[x]
 |y::l=>if lt y x=true then y::C4 x l else x::y::l
def ky:List a->List a
 |[]=>[]
 |x::l=>C4 lt x (ky l)
theorem sx(x:a): ∀l:List a,(C4 lt x l).Perm (x::l)
 |[]=>ug _
 |y::l=>by
  rw[C4];split
  ·exact((sx x l).cons y).trans (List.Perm.swap x y l)
  ·exact ug _
theorem iE: ∀l:List a,(ky lt l).Perm l
 |[]=>ug _
 |x::l=>(sx lt x _).trans ((iE l).cons x)
end
theorem Ex{x:D}: ∀{l:List D},(l.Pairwise λx y=>ltT y x=false)->(C4 ltT x l).Pairwise λx y=>ltT y x=false
 |[],_=>Ko _ _
 |y::l,h=>by
  have h:=Dz.mp h;rw[C4]
  cases b:ltT y x with
  |true=>
   refine Dz.mpr ⟨λz a=>?_,Ex h.2⟩;rcases jr.mp ((sx ltT x l).mem_iff.mp a) with rfl|a
   ·exact Vt _ _ b
   ·exact h.1 z a
  |false=>
   refine Dz.mpr ⟨λz a=>?_,Dz.mpr h⟩;rcases jr.mp a with rfl|a
   ·exact b
   ·exact T5 b (h.1 z a)
theorem lY: ∀l:List D,(ky ltT l).Pairwise λx y=>ltT y x=false
 |[]=>List.Pairwise.nil
 |x::l=>Ex (lY l)
def K8{l m:List D}(h: ∀x∈m,D.pr x=true)(a:l.Perm m)(c:l.Pairwise λx y=>ltT y x=false):l=ky ltT m:=
 Kn (λx y d e h1 b=>vK x y (h x (a.mem_iff.mp d)) (h y ((iE ltT m).mem_iff.mp e)) (MF (Ql.mp h1) (Ql.mp b))) c (lY m) (a.trans (iE ltT m).symm)
def IW{a:List D}{p:jf}(pr: ∀x∈a,D.pr x=true)(d:p.Perm (List.range a.length))(f:p.Pairwise λi j=>ltT (a.getD j .non) (a.getD i .non)=false):p.map (λi=>a.getD i .non)=ky ltT a:=by
 have e:(List.range a.length).map (λi=>a.getD i .non)=a:=by
  apply B9;intro i;by_cases c:i<a.length<;>simp[c]
 have b:=d.map λi=>a.getD i .non;rw[e] at b;exact K8 pr b (nI.mpr f)
def jU:D->Option Nat
 | .int _=>some 0
 | .tup (.int _::_)=>some 1
 | .tup (.tup _::_)=>some 2
 |_=>none
def Ij:Nat->SortKind
 |0=>oneType'
 |1=>tuples' true
 |_=>tuples' false
structure SortsBy(k:Nat)(l:List D):Prop where
 hd: ∀x∈l,jU x=some k
 pr: ∀x∈l,D.pr x=true
 dp: ∀x∈l,x.dep<=50
 cm: ∀x∈l,∀y∈l,(lV .Lt x y).isSome=true
def lZ(l:List D):Bool:=l.length<=1||match l with
 |[]=>true
 |x::_=>(jU x).isSome&&(l.all λy=>jU y==jU x&&D.pr y&&decide (y.dep<=50))&&l.all λy=>l.all λz=>(lV .Lt y z).isSome
def AI(h:lZ l=true):l.length<=1\/ ∃k,SortsBy k l:=by
 unfold lZ at h;rw[vZ] at h;rcases h with h|h
 ·left;simpa using h
 ·right
  cases l with
  |nil=>exact⟨0,λx a=>absurd a jT,λx a=>absurd a jT,λx a=>absurd a jT,λx a=>absurd a jT⟩
  |cons x m=>
   simp only[kX,kn,qO] at h;obtain⟨⟨h1,c⟩,d⟩:=h;obtain⟨k,hk⟩:=Kz.mp h1;refine⟨k,λy b=>?_,λy b=>(c y b).1.2,λy b=>(c y b).2,λy b z e=>d y b z e⟩;have:=(c y b).1.1;rw[hk] at this;simpa using this
section
variable {X:Cx}{d:gZ}{f:L2.St}{H:Hp}{s:gn}
def rX(v:Vals xs a)(b:i<a.length):RelV (xs.getD i .non) (a.getD i Value.none):=by
 have e:=v.length;have h:xs[i]?=some xs[i]:=hX (by omega);obtain⟨w,c,j⟩:=v.get h;have h1:xs.getD i .non=xs[i]:=by simp[show i<xs.length by omega]
 have g:a.getD i Value.none=w:=by
  rw[hX b] at c;have:=jw c;simp[b,this]
 rw[h1,g];exact j
def sf(r:RepL X.K H O ds xs)(a:i<ds.length):Rep X.K H O (ds.getD i .non) (xs.getD i .non):=by
 have e:=r.length;have hd:ds[i]?=some ds[i]:=hX a;obtain⟨v,b,g⟩:=r.get hd;have h1:ds.getD i .non=ds[i]:=by simp[a]
 have c:xs.getD i .non=v:=by
  rw[hX (by omega)] at b;have:=jw b;simp[show i<xs.length by omega,this]
 rw[h1,c];exact g
def zh{ds:List D}{i:Nat}(a:i<ds.length):ds.getD i .non∈ds:=by simp[a]
theorem Eu(I:Inv X d f H s){A:gM}{b:Bool}{O z:AP'}(hA:A.units+60<cLine){r:Bool}{Q:qM}(n:Q r s): ∀(l m:List D) (u v:List V) (g o:iL) (k:Int) (i:Nat),D.depL l<=50->D.depL m<=50->
  ((b&&i==0)=true-> ∀x y l' m',l=x::l'->m=y::m'->(∃a,x= .int a)/\ ∃c,y= .int c)->RepL X.K H O l u->RepL X.K H z m v->Vals u g->Vals v o->qo .Lt l m=some r->
  ∀fin:Bool,fin=jG .Lt (g.length+k) (o.length+k)->PySem.W.KatLex X.prog X.w A b fin Q (g.zip o) i s
 |[],m,u,v,g,o,k,i,_,_,_,p,q,v1,v2,j,fin,hf=>by
  rw[RepL] at p;subst p;cases v1;rw[qo] at j;have T:=q.length;have U:=v2.length;show Q fin s;rw[hf,qh];rw[<-jw j] at n;have:jG .Lt ((([]:List Value).length:Nat):Int) (o.length:Int)=jG .Lt 0 (m.length:Int):=by congr 1;omega
  rw[this];exact n
 |x::l,[],u,v,g,o,k,i,_,_,_,p,q,v1,v2,j,fin,hf=>by
  rw[RepL] at q;subst q;cases v2;rw[qo] at j;have T:=p.length;have U:=v1.length;rw[List.zip_nil_right];show Q fin s;rw[hf,qh];rw[<-jw j] at n;have:jG .Lt (g.length:Int) ((([]:List Value).length:Nat):Int)=jG .Lt (((x::l).length:Nat):Int) 0:=by congr 1;omega
  rw[this];exact n
 |x::l,y::m,u,v,g,o,k,i,y6,M,hb,p,q,v1,v2,j,fin,hf=>by
  rw[RepL] at p q;obtain⟨G,F,rfl,g1,g2⟩:=p;obtain⟨J,P,rfl,g3,Y⟩:=q
  cases v1 with
  |cons a1 L=>
   cases v2 with
   |cons B N=>
    rw[qo] at j;rw[D.depL] at y6 M;rw[qT];refine PySem.W.kat_cons (zw I 50 x y G J _ _ O z A (.inl g1) (.inl g3) a1 B (by omega) (by omega) (by omega) X.prog X.w _ _ ?_)
    cases E:D.eqb x y with
    |true=>
     rw[E,gD rfl] at j;refine PySem.W.kat_yes (Eu I hA n l m F P _ _ (k+1) (i+1) (by omega) (by omega) (λh=>by simp at h) g2 Y L N j fin ?_);rw[hf];simp only[ju];have e: ∀a:Nat,(((a+1:Nat):Int)+k)=(a:Int)+(k+1):=λa=>by omega
     rw[e,e]
    |false=>
     rw[E,gL je] at j;refine PySem.W.kat_no ?_
     cases C:(b&&i==0) with
     |true=>
      obtain⟨⟨a,rfl⟩,c,rfl⟩:=hb C x y l m rfl rfl;have:=g1.int;subst this;have:=g3.int;subst this;obtain⟨t,rfl⟩:=a1;obtain⟨R,rfl⟩:=B;rw[lV] at j;rw[<-jw j] at n;exact oneLt_int n
     |false=>
      exact PySem.W.kat_one _ _ (Lq (.inl rfl) I 50 x y G J _ _ O z A r (.inl g1) (.inl g3) a1 B (by omega) (by omega) (by omega) j X.prog X.w _ _ n)
def Vs(I:Inv X d f H s){O:AP'}{u:List D}{T:List V}{e:iL}{A:gM}(hA:A.units+60<cLine)(rr:RepL X.K H O u T)(v:Vals T e){k:Nat}(B:SortsBy k u):
  Ask (model X.prog X.w) A (λJ=>J=s) (MT e) (Ij k) e.length (λi j=>ltT (u.getD i .non) (u.getD j .non)):=by
 intro i j hi hj J y8 E';subst y8;have e1:=rr.length;have e2:=v.length;have M:u.getD i .non∈u:=zh (by omega);have N:u.getD j .non∈u:=zh (by omega);have ri:=sf rr (i:=i) (by omega);have rj:=sf rr (i:=j) (by omega);have vi:=rX v hi;have vj:=rX v hj;obtain⟨b,E⟩:=Kz.mp (B.cm _ M _ N);have i6:=Dj _ _ (B.pr _ M) (B.pr _ N) b E;have r:=B.hd _ M;have g:=B.hd _ N;have di:=B.dp _ M;have dj:=B.dp _ N;show wpAny _ _ (keyLt' (Ij k) (e.getD i Value.none) (e.getD j Value.none)) _ _ _;dsimp only;rw[<-i6];generalize u.getD i .non=x at*;generalize u.getD j .non=y at*;generalize T.getD i .non=vx at*;generalize T.getD j .non=vy at*;generalize e.getD i Value.none=a at*;generalize e.getD j Value.none=c at*
 have C: ∀(l m:List D) (L:Bool),x= .tup l->y= .tup m->(L=true-> ∀x y Z m',l=x::Z->m=y::m'->(∃a,x= .int a)/\ ∃c,y= .int c)->wpAny (model X.prog X.w) A (keyLt' (tuples' L) a c) (λU Y=>Y=J/\U=b) E' J:=λl m L P R hh=>by
  subst P R;obtain⟨p,us,rfl,q,r1⟩:=ri.tup;obtain⟨p2,ws,rfl,q2,r2⟩:=rj.tup;cases vi;cases vj;obtain⟨S,w1,⟨o,ho,hc,n,hd⟩,_⟩:=I.tuple q.sq;obtain⟨G,w2,⟨o2,o7,t6,n2,F⟩,_⟩:=I.tuple q2.sq;rw[lV] at E;rw[D.dep] at di dj;refine PySem.W.kat_lt ho hd o7 F ?_;have:=Eu I (b:=L) hA (Q:=λU Y=>Y=J/\U=b) ⟨rfl,rfl⟩ l m us ws S G 0 0 (by omega) (by omega) (λh=>hh (by simpa using h)) r1 r2 w1 w2 E (decide (S.toArray.size<G.toArray.size)) (by simp[jG]);simpa using this
 match k,r,g with
 |0,r,g=>
  cases x with
  |int ix=>
   cases y with
   |int iy=>
    have:=ri.int;subst this;have:=rj.int;subst this;obtain⟨t,rfl⟩:=vi;obtain⟨t',rfl⟩:=vj;rw[lV] at E;rw[<-jw E];show wpAny _ _ (keyLt' oneType' _ _) _ _ _;rw[keyLt'_oneType];exact oneLt_int ⟨rfl,rfl⟩
   |tup m=>cases m with
    |nil=>simp[jU] at g
    |cons z m=>cases z<;>simp[jU] at g
   |_=>simp[jU] at g
  |tup m=>cases m with
   |nil=>simp[jU] at r
   |cons z m=>cases z<;>simp[jU] at r
  |_=>simp[jU] at r
 |1,r,g=>
  cases x with
  |tup l=>
   cases y with
   |tup m=>
    refine C l m true rfl rfl λ_ x y Z m' P R=>?_;subst P R;refine⟨?_,?_⟩
    ·cases x with
     |int a=>exact⟨a,rfl⟩
     |_=>simp[jU] at r
    ·cases y with
     |int a=>exact⟨a,rfl⟩
     |_=>simp[jU] at g
   |_=>simp[jU] at g
  |_=>simp[jU] at r
 |(n+2),r,g=>
  cases x with
  |tup l=>
   cases y with
   |tup m=>exact C l m false rfl rfl λh=>absurd h je
   |_=>simp[jU] at g
  |_=>simp[jU] at r
end
open PySem.W
section
variable {X:Cx}{c:gZ}{y:L2.St}{H:Hp}{s:gn}
theorem zt(I:Inv X c y H s){O:AP'}{T:gA}(P:D->Prop)(i: ∀x v u,P x->Rep X.K H O x v->RelV v u->Looks (model X.prog X.w) s.heap (typeOf u) T): ∀{ds:List D} {b:List V} {a:iL},RepL X.K H O ds b->Vals b a->
  (∀d∈ds,∃x l,d= .tup (x::l)/\P x)-> ∃fs,KatTups s.heap a fs/\fs.length=a.length/\ ∀f∈fs,Looks (model X.prog X.w) s.heap (typeOf f) T
 |[],b,a,r,v,_=>by
  rw[RepL] at r;subst r;cases v;exact⟨[],KatTups.nil,rfl,λf z=>absurd z jT⟩
 |d::ds,b,a,r,v,h=>by
  rw[RepL] at r;obtain⟨vx,xr,rfl,g1,g2⟩:=r
  cases v with
  |cons a1 k=>
   obtain⟨fs,B,C,E⟩:=zt I P i g2 k λd hd=>h d (iK _ hd);obtain⟨x,l,rfl,G⟩:=h d iF;obtain⟨p,Y,rfl,q,j⟩:=g1.tup;cases a1;obtain⟨N,L,⟨o,A,t,n,hd⟩,_⟩:=I.tuple q.sq;rw[RepL] at j;obtain⟨J,F,rfl,g3,U⟩:=j
   cases L with
   |cons m M=>
    rename_i f Q;refine⟨f::fs,KatTups.cons A t hd (by simp) B,by simp[C],λg e=>?_⟩;rcases jr.mp e with rfl|e
    ·exact i x J _ G g3 m
    ·exact E g e
def SN(I:Inv X c y H s){O:AP'}{ds:List D}{M:List V}{b:iL}{A:gM}(f:RepL X.K H O ds M)(v:Vals M b){k:Nat}(B:SortsBy k ds)(N:2<=b.length):
  wpAny (model X.prog X.w) A (keyKind' b.toArray) (λG s'=>s'=s/\G=Ij k) (λ_ _=>False) s:=by
 have R:=f.length;have S:=v.length
 match k,B with
 |0,B=>
  refine kas_kind (T:= .type "int") N (λu Y=>?_) rfl rfl ⟨rfl,rfl⟩;obtain⟨i,J,e⟩:=BU Y;have L:=sf f (i:=i) (by omega);have E:=rX v J;have hd:=B.hd _ (zh (ds:=ds) (i:=i) (by omega));have:b.getD i Value.none=u:=by simp[J,e]
  rw[this] at E
  cases h:ds.getD i .non with
  |int a=>
   rw[h] at L;have:=L.int;rw[this] at E;obtain⟨t,rfl⟩:=E;exact Looks.of_pure rfl
  |tup l=>
   rw[h] at hd
   cases l with
   |nil=>simp[jU] at hd
   |cons z m=>cases z<;>simp[jU] at hd
  |_=>rw[h] at hd;simp[jU] at hd
 |1,B=>
  obtain⟨fs,f1,f2,g⟩:=zt I (T:= .type "int") (λx=> ∃a,x= .int a) (λx F u j C r=>by
   obtain⟨a,rfl⟩:=j;have:=C.int;subst this;obtain⟨t,rfl⟩:=r
   exact Looks.of_pure rfl) f v λd hd=>by
    have:=B.hd d hd
    cases d with
    |tup l=>
     cases l with
     |nil=>simp[jU] at this
     |cons z m=>
      cases z with
      |int a=>exact⟨_,m,rfl,a,rfl⟩
      |_=>simp[jU] at this
    |_=>simp[jU] at this
  exact kat_kind f1 (by omega) g rfl ⟨rfl,rfl⟩
 |(n+2),B=>
  obtain⟨fs,f1,f2,g⟩:=zt I (T:= .type "tuple") (λx=> ∃a,x= .tup a) (λx F u j C r=>by
   obtain⟨a,rfl⟩:=j;obtain⟨p,Z,rfl,q,W⟩:=C.tup;cases r;obtain⟨P,w1,⟨o,U,Q,n,hd⟩,_⟩:=I.tuple q.sq;have:Looks (model X.prog X.w) s.heap (typeOf (.ref p)) o.cls:=(Looks.ld U).andThen .now
   rw[Q] at this;exact this) f v λd hd=>by
    have:=B.hd d hd
    cases d with
    |tup l=>
     cases l with
     |nil=>simp[jU] at this
     |cons z m=>
      cases z with
      |tup a=>exact⟨_,m,rfl,a,rfl⟩
      |_=>simp[jU] at this
    |_=>simp[jU] at this
  exact kat_kind f1 (by omega) g rfl ⟨rfl,rfl⟩
def jo(l:List D):Option (D×Bool):=if lZ l=true/\l.length<=sizeLine then some (.lst (ky ltT l),true) else none
def nj(d:D):Option (D×Bool):=(yK d).bind jo
theorem DG{b:List V}{a:iL}(v:Vals b a): ∀(p:jf),(∀i∈p,i<a.length)->Vals (p.map λi=>b.getD i .non) (p.map λi=>a.getD i Value.none)
 |[],_=> .nil
 |i::p,h=> .cons (rX v (h i iF)) (DG v p λj d=>h j (iK _ d))
theorem DZ{O:AP'}{a:List D}{b:List V}(r:RepL X.K H O a b): ∀(p:jf),(∀i∈p,i<a.length)->RepL X.K H O (p.map λi=>a.getD i .non) (p.map λi=>b.getD i .non)
 |[],_=>RepL.nil
 |i::p,h=>RepL.cons (sf r (h i iF)) (DZ r p λj d=>h j (iK _ d))
def Gj{b:List D}{n:Nat}(e:n=b.length)(h1:b.length<=1){p:jf}(a:p.Perm (List.range n)):p.map (λi=>b.getD i .non)=ky ltT b:=by
 subst e
 match b,h1,a with
 |[],_,a=>
  have:p=[]:=by simpa using a.length_eq
  subst this;rfl
 |[d],_,a=>
  have e:p.length=1:=by simpa using a.length_eq
  match p,e,a with
  |[i],_,a=>
   have:i=0:=by have:=a.mem_iff.mp (IL.mpr rfl);simpa using this
   subst this;rfl
def rZ(hu:X.A.units+62<cLine)(I:Inv X c y H s){O:AP'}{f:List D}{N:List V}{a:iL}{x:gA}{Q:VK}{z:D×Bool}(u:RepL X.K H O f N)(v:Vals N a)(hg:jo f=some z)(G:Gen X.K H O z Q)
  (hc: ∀(Y:List Value->Shared->Prop) (E':hC) (T:gM),T.handled=X.A.handled->(∀(h':gP) (d:Nat),(∀b o,s.heap.get? b=some o->h'.get? b=some o)->Y a {s with heap:=h',toks:=d})->wpAny (model X.prog X.w) T (collect x) Y E' s):
  wpAny (model X.prog X.w) X.A (call (.builtin "sorted") [x]) (EP X c y Q) X.xe s:=by
 unfold jo at hg;obtain⟨⟨J,hz⟩,rfl⟩:=gX hg;have r:=u.length;have e2:=v.length;refine Calls.call_function_entry kind_sorted plain_sorted entry_sorted (args_sorted1 _) ?_;unfold Builtin.«sorted»;refine gk (m:=checkCount "sorted" 1 1 _) (gw ?_);refine gk (hc _ _ _ rfl λh1 d R=>?_);refine gk (BM ?_ (by omega));have t:(h1.push (seqObj "list" a.toArray 0)).get? h1.objs.size=some (seqObj "list" a.toArray 0):=jv _ rfl;have C:Inv X c y H {s with heap:=h1,toks:=d}:=I.kept R
 have keep: ∀b o,h1.get? b=some o->(ot (h1.push (seqObj "list" a.toArray 0)) h1.objs.size a).get? b=some o:=λb o l=>by
  have P:b≠h1.objs.size:=iD (ja l);refine iW _ (iW _ ?_);rw[Fv _ _ _ _ P];exact iW _ l
 have U:Inv X c y H {s with heap:=ot (h1.push (seqObj "list" a.toArray 0)) h1.objs.size a,toks:=d}:=C.kept keep;have Z: ∀i∈List.range a.length,i<a.length:=λi q=>by simpa using q
 refine gk (kr (nH (s:={s with heap:=h1.push (seqObj "list" a.toArray 0),toks:=d}) slot_list_sort ⟨_,t,rfl⟩ entry_list_sort ?body (args_list_sort _)))
 case body=>
  have fin: ∀p:List Nat,p.Perm (List.range a.length)->p.map (λi=>f.getD i .non)=ky ltT f->EP X c y Q (.ref h1.objs.size) {s with heap:=(ot (h1.push (seqObj "list" a.toArray 0)) h1.objs.size a).update h1.objs.size (Obj.mapSeq λ_=>(p.map λi=>a.getD i Value.none).toArray),toks:=d}:=λp e L=>by
   have F: ∀i∈p,i<a.length:=λi q=>by simpa using e.mem_iff.mp q
   have M: ∃n,(ot (h1.push (seqObj "list" a.toArray 0)) h1.objs.size a).get? h1.objs.size=some (seqObj "list" #[] n):=by
    obtain⟨r,S⟩: ∃r,((h1.push (seqObj "list" a.toArray 0)).update h1.objs.size (Obj.mapSeq λ_=>(#[]:Array Value))).get? h1.objs.size=some (seqObj "list" #[] r):=⟨_,wa t λ_=> #[]⟩
    exact⟨r,iW _ (iW _ S)⟩
   obtain⟨n,M⟩:=M;obtain⟨E,W⟩: ∃E,((ot (h1.push (seqObj "list" a.toArray 0)) h1.objs.size a).update h1.objs.size (Obj.mapSeq λ_=>(p.map λi=>a.getD i Value.none).toArray)).get? h1.objs.size=some (seqObj "list" (p.map λi=>a.getD i Value.none).toArray E):=⟨_,wa M λ_=>(p.map λi=>a.getD i Value.none).toArray⟩
   have g: ∀b o,h1.get? b=some o->((ot (h1.push (seqObj "list" a.toArray 0)) h1.objs.size a).update h1.objs.size (Obj.mapSeq λ_=>(p.map λi=>a.getD i Value.none).toArray)).get? b=some o:=λb o l=>by
    rw[Fv _ _ _ _ (iD (ja l))];exact keep b o l
   have pl:p.length=a.length:=by simpa using e.length_eq
   refine⟨.ref h1.objs.size,_,C.laid (t':=d) g (iO _) (show ObjOk X.prog X.w _ _ _ (.lst (p.map λi=>N.getD i .non)) from⟨by rw[iJ];omega,_,E,DG v p F,W⟩),rfl,?_⟩;refine G.lst C.fresh ?_;rw[<-L];exact DZ u p λi q=>by have:=F i q;omega
  rcases AI J with hlen|⟨k,B⟩
  ·refine tL (κ:=general') (lt:=λ_ _=>false) (s:={s with heap:=h1.push (seqObj "list" a.toArray 0),toks:=d}) t (by omega) (λ_ _ _=>rfl) (λ_ _=>rfl) (λh=>by omega) (λh=>by omega) λp e _=>⟨_,rfl,gw ⟨_,rfl,fin p e ?_⟩⟩
   exact Gj (by omega) hlen e
  ·refine tL (κ:=Ij k) (lt:=λi j=>ltT (f.getD i .non) (f.getD j .non)) (s:={s with heap:=h1.push (seqObj "list" a.toArray 0),toks:=d}) t (by omega) (λ_ _=>Vt _ _) T5 (λh=>SN U u v B h) (λ_=>Vs (A:=X.A.in1.in1) U (by show X.A.units+1+1+60<cLine;omega) u v B) λp e L=>⟨_,rfl,gw ⟨_,rfl,fin p e (IW B.pr (by rw[show f.length=a.length by omega];exact e) L)⟩⟩
def qp(j:X.A.units+62<cLine):jx X (.builtin "sorted") (rDn X.K (g1 nj)):=nW λc s y H x u Q O d z I t np hd a G=>by
 obtain⟨l,g,a⟩:=gg a
 have N:l.length<=sizeLine:=by
  unfold jo at a;exact(gX a).1.2
 cases d with
 |lst m=>
  cases g;obtain⟨p,M,rfl,q,r⟩:=jz hd;cases t;obtain⟨i,v,L,_⟩:=I.list q;have E:=r.length;have J:=v.length;obtain⟨o,h,f,n,hd⟩:=L.isList;refine rZ j I r v a G λC B w _ e=>Fu p (.inl rfl) h f hd (λb k=>by simpa using e b s.toks k) (by rw[iz];omega)
 |tup m=>
  cases g;obtain⟨p,M,rfl,q,r⟩:=jM hd;cases t;obtain⟨i,v,⟨o,h,f,n,hd⟩,_⟩:=I.tuple q;have E:=r.length;have J:=v.length;refine rZ j I r v a G λC B w _ e=>Fu p (.inr rfl) h f hd (λb k=>by simpa using e b s.toks k) (by rw[iz];omega)
 |_=>cases g
def JS:bootBuiltins "sorted"=some (.builtin "sorted"):=by decide+kernel
end
def uc:bootBuiltins "isinstance"=some (.builtin "isinstance"):=by decide+kernel
structure Tx(mg:lL):Prop where
 n_len:mg "len"=none
 n_abs:mg "abs"=none
 n_int:mg "int"=none
 n_tuple:mg "tuple"=none
 n_list:mg "list"=none
 n_range:mg "range"=none
 n_isinstance:mg "isinstance"=none
 n_bool:mg "bool"=none
 n_max:mg "max"=none
 n_min:mg "min"=none
 n_all:mg "all"=none
 n_any:mg "any"=none
 n_sorted:mg "sorted"=none
 n_enumerate:mg "enumerate"=none
 n_zip:mg "zip"=none
 n_set:mg "set"=none
def Px{P:gR}{w:gJ}{K:gK}{g:lL}{base:gP}{f:gm}{d:lW}{i:hW}{k:Nat}:FnOk P w K g base CX0 k f d i (spF K λ_=>none) where
 len:=λj H Q E h=>by
  obtain⟨T,a,r,b,_,e,_⟩:=h;cases e
 run:=λA c s H a l j Q E _ _ _ _ h=>by
  obtain⟨T,a,r,b,_,e,_⟩:=h;cases e
theorem AM{K:gK}{H:Hp}{O:AP'}: ∀a:List Int,RepL K H O (a.map .int) (a.map V.int)
 |[]=>RepL.nil
 |n::a=>RepL.cons Rep.mkInt (AM a)
def SM{K:gK}{g:EvF}{H:Hp}{a:gm}{f:gB}(k:SqL K H a (f.map V.int)){o:Bool}{c:Dn}(h:g [(.lst (f.map .int),false)]=some ((.bl true,o),c)):spF K g [.ref a] H (λv _=>v= .bl true) λ_ _ _=>False:=by
 have no: ∀b,¬OwnA [some (V.ref a)] [some (D.lst (f.map .int),false)] b:=λb ⟨i,d,h1,m⟩=>by
  cases i with
  |zero=>simp at h1
  |succ i=>simp at h1
 refine⟨λ_=>False,[(.lst (f.map .int),false)],_,c,⟨rfl,λi d hd=>?_,λi d hd=>?_,λi j d e b h1=>?_,λb z=>absurd z (no b),λb z=>z.elim⟩,h,λv l P=>?_⟩
 ·cases i with
  |zero=>
   simp at hd;subst hd;refine⟨_,rfl,Rep.mkLst (a:=a) (xs:=f.map V.int) ?_ (AM f)⟩;exact k.imp (λz=>⟨z,λz=>z.elim (no a) id⟩) id
  |succ i=>simp at hd
 ·cases i with
  |zero=>simp at hd
  |succ i=>simp at hd
 ·cases i with
  |zero=>simp at h1
  |succ i=>simp at h1
 ·cases o with
  |false=>exact P.2.2.bl
  |true=>
   obtain⟨p,_,_,_,ok⟩:=P.2;exact ok.elim
def rK(d e:CmpOp)(a b c:FO):F:=λf=>(a f).bind λp=>(b p.2).bind λq=>match res q.2 p.1,res q.2 q.1 with
 |some (.int i),some (.int j)=>if jG d i j=true then(c q.2).bind λr=>match res r.2 r.1 with
   |some (.int k)=>some ((.bl (jG e j k),false),r.2)
   |_=>none
  else some ((.bl false,false),q.2)
 |_,_=>none
section
variable {X:Cx}{a b c:gy}{m l g:FO}{n:Pos}{d f:CmpOp}
def HP(h:vA d):OpR X (compareOp d) (rI0 λi j=> .bl (jG d i j)):=by
 rcases h with rfl|rfl|rfl|rfl
 ·exact UO
 ·exact UP
 ·exact UQ
 ·exact UR
def JM(A:tF X.K (rK d f m l g) σ H Q):K0 (rI0 λi j=> .bl (jG d i j)) (rI0 λi j=> .bl (jG f i j)) (tO X.K m) (tO X.K l) (tO X.K g) σ H Q:=by
 obtain⟨N,T,F,O,E,e,k⟩:=A;unfold rK at e;obtain⟨⟨x,p⟩,h1,e⟩:=gg e;obtain⟨⟨L,q⟩,y,e⟩:=gg e;refine⟨N,T,x,p,E,h1,λv U h=>⟨p,zS T x v,L,q,h.er E,y,λu Y o=>?_⟩⟩;have B:=Ops.cons E h (Ops.cons (h.er E) o (Ops.nil (o.er (h.er E))));dsimp only at e;split at e
 ·rename_i i j C G;have hv:=gU (B.view (j:=0) rfl rfl C);have t:=gU (B.view (j:=1) rfl rfl G);refine⟨i,j,hv,t,jG d i j,rfl,?_⟩;by_cases c:jG d i j=true
  ·rw[gD c] at e ⊢;obtain⟨⟨M,r⟩,z,e⟩:=gg e;dsimp only at e;split at e
   ·rename_i J I;obtain⟨rfl,rfl⟩:=gO e;refine⟨q,_,M,r,o.er (h.er E),z,λw D P3=>?_⟩;have s:=Ops.cons E h (Ops.cons (h.er E) o (Ops.cons (o.er (h.er E)) P3 (Ops.nil (P3.er (o.er (h.er E))))));exact⟨j,J,t,gU (s.view (j:=2) rfl rfl I),(s.done k).bl⟩
   ·cases e
  ·rw[gL c] at e ⊢;obtain⟨rfl,rfl⟩:=gO e;exact(B.done k).bl
 ·cases e
def LA(o:vA d)(e:vA f)(h:PO X a m)(i:PO X b l)(j:PO X c g)(k:lastMarks [d,f] [b,c]=false:=by with_unfolding_all rfl):PX X (.Compare a [d,f] [b,c] n) (rK d f m l g):=
 PX.imp (Ma (HP o) (HP e) h i j k) λq H Q p=>JM p
end
def vIs(x:V)(c:Bool):Bool:=match x with
 | .bl b=>b==c
 |_=>false
def gIs:D->D->Option (D×Bool)
 | .bl b,.bl c=>some (.bl (b==c),false)
 |_,.bl _=>some (.bl false,false)
 | .non,.non=>some (.bl true,false)
 |_,.non=>some (.bl false,false)
 |_,_=>none
section
variable {X:Cx}
def NO(a:RelV x v)(c:Bool):plainIs v (.bool c)=true/\(v== .bool c)=vIs x c:=by
 cases x<;>first
  |(cases a;exact⟨rfl,rfl⟩)
  |(obtain⟨t,rfl⟩:=a;exact⟨rfl,rfl⟩)
  |(rename_i b;cases a;refine⟨rfl,?_⟩;cases b<;>cases c<;>rfl)
def Mj:OpR X (compareOp .Is) (λx y H Q=> ∃c,y= .bl c/\Q (.bl (vIs x c)) H):=by
 intro a s f H x y v u Q I d e h;obtain⟨c,rfl,q⟩:=h;cases e;obtain⟨h1,b⟩:=NO d c;exact wpAny_is_plain h1 (M4 I q (by rw[b]))
theorem yE{K H}(h:iV K H O (.bl b) v):v= .bl b:=h.elim (λh=>h.bl) λ⟨_,_,h⟩=>h.elim
theorem wB{K H}(h:iV K H O .non v):v= .non:=h.elim (λh=>h.non) λ⟨_,_,h⟩=>h.elim
theorem KI{K H}(h:iV K H O d v)(f: ∀b,d≠ .bl b)(c:Bool):vIs v c=false:=by
 cases d with
 |bl b=>exact absurd rfl (f b)
 |non=>rw[wB h];rfl
 |int i=>rw[gU h];rfl
 |str x=>
   rcases h with h|⟨a,_,h⟩
   ·rw[h.str];rfl
   ·exact h.elim
 |tup l=>
   rcases h with h|⟨a,_,h⟩
   ·rw[Rep] at h;obtain⟨a,e,rfl,_⟩:=h;rfl
   ·exact h.elim
 |lst l=>
   rcases h with h|⟨a,rfl,h⟩
   ·rw[Rep] at h;obtain⟨a,e,rfl,_⟩:=h;rfl
   ·rfl
 |oth _ _ _=>
   rcases h with h|⟨a,rfl,h⟩
   ·rw[Rep] at h;obtain⟨a,e,rfl,_⟩:=h;rfl
   ·rfl
theorem DF{K H}(h:iV K H O d v)(e:d≠ .non):v≠ .non:=by
 cases d with
 |bl b=>rw[yE h];intro z;cases z
 |non=>exact absurd rfl e
 |int i=>rw[gU h];intro z;cases z
 |str x=>
   rcases h with h|⟨a,_,h⟩
   ·rw[h.str];intro z;cases z
   ·exact h.elim
 |tup l=>
   rcases h with h|⟨a,_,h⟩
   ·rw[Rep] at h;obtain⟨a,c,rfl,_⟩:=h;intro z;cases z
   ·exact h.elim
 |lst l=>
   rcases h with h|⟨a,rfl,h⟩
   ·rw[Rep] at h;obtain⟨a,c,rfl,_⟩:=h;intro z;cases z
   ·intro z;cases z
 |oth _ _ _=>
   rcases h with h|⟨a,rfl,h⟩
   ·rw[Rep] at h;obtain⟨a,c,rfl,_⟩:=h;intro z;cases z
   ·intro z;cases z
def Sf:OpR X (compareOp .Is) (rD X.K gIs):=by
 intro a s l H x y v u Q I j k h;obtain⟨O,d,e,z,np,h1,n,g,G⟩:=h
 cases e with
 |bl c=>
  have i:=yE n;by_cases f: ∃b,d= .bl b
  ·obtain⟨b,rfl⟩:=f;cases g;refine Mj a s l H x y v u Q I j k ⟨c,i,?_⟩;rw[yE h1];exact G.bl
  ·have o: ∀b,d≠ .bl b:=λb z=>f ⟨b,z⟩;have m:z=(.bl false,false):=by cases d<;>first|exact absurd rfl (o _)|(cases g;rfl)
   subst m;refine Mj a s l H x y v u Q I j k ⟨c,i,?_⟩;rw[KI h1 o c];exact G.bl
 |non=>
  have i:=wB n;by_cases f:d= .non
  ·subst f;cases g;refine Mi a s l H x y v u Q I j k ⟨i,?_⟩;rw[wB h1];exact G.bl
  ·have m:z=(.bl false,false):=by cases d<;>first|exact absurd rfl f|(cases g;rfl)
   subst m;refine Mi a s l H x y v u Q I j k ⟨i,?_⟩;rw[lr (DF h1 f)];exact G.bl
 |_=>cases d<;>cases g
end
end PX
namespace HT
open PySem PySem.Spec PyProof.Rows L2
section
variable {a:gR}{w:gJ}{A:gM}{E:hC}{s:gn}
def GV{t d:gm}{b:lU}{i j:gA}{lo e:Option Int}{Q:hC}(c:IsTup s.heap t b)(f:s.heap.IsSliceOf d i j .none)(n:IsPart i lo)(o:IsPart j e)
  (g:sIx b.size 0 lo=0/\sIx b.size b.size e=b.size)(h:Q (.ref t) s):wpAny (model a w) A (getItem (.ref t) (.ref d)) Q E s:=by
 obtain⟨os,p,k,q⟩:=id f;have l:s.TypeIs (.ref d) "slice":=⟨os,p,k⟩
 unfold getItem
 try with_reducible refine kr ?_
 first|refine gk (gw ?_)|skip
 refine gk (FX c.typeIs (by decide) ?_)
 refine gk (uN (name:=Str.ofString "__getitem__") c.typeIs ye
  (nH ye c.typeIs FW ?_ (FV _ _)))
 show wpAny _ _ (Builtin.Tuple.tupleItemsOf (.ref t)>>=_) _ _ s;refine gk (FU c ?_);refine gk (qx l ?_);rw[gD (by decide)];refine gk (pv f n o ?_);rw[g.1,g.2];show wpAny _ _ (if((((0:Nat):Int)==0&&(1:Int)==1&&(b.size-0)==b.size)=true) then _ else _) _ _ s;rw[gD (by simp)];refine gk (m:=Builtin.Tuple.tupleIsExact _) ?_;unfold Builtin.Tuple.tupleIsExact;refine gk (qx c.typeIs ?_);refine gw ?_;rw[gD (by decide)];refine gk (tq ?_)
 first
  |exact gk (gw ⟨_,rfl,gw h⟩)
  |exact gw ⟨_,rfl,gw h⟩
  |exact gk (gw (gw ⟨_,rfl,gw h⟩))
  |(refine gk ?_;trace_state;done)
end
end HT
namespace PX
open PySem PySem.Spec PyProof.Rows L2 PySem.SeqAt
def oS(l:List D)(lo a:Option Int):List D:=(l.drop (HT.sIx l.length 0 lo)).take (HT.sIx l.length l.length a-HT.sIx l.length 0 lo)
def gSl(lo a:Option Int):D->Option (D×Bool)
 | .tup l=>some (.tup (oS l lo a),false)
 | .lst l=>some (.lst (oS l lo a),true)
 |_=>none
def WB(K:gK):V->Option Int->Option Int->Hp->VK->Prop:=λx lo a H Q=> ∃(O:AP') (d:D) (z:D×Bool),(∀p,¬Ow (H p)-> ¬O p)/\iV K H O d x/\gSl lo a d=some z/\Gen K H O z Q
def RepL.cut{K H}(r:RepL K H O l xs)(lo a:Option Int):RepL K H O (oS l lo a) (EN xs lo a):=by
 unfold oS EN;rw[r.length];exact(r.drop _).take _
section
variable {X:Cx}
def DR{b:gZ}{s:gn}{h:L2.St}{H:Hp}{a:gm}{v e f:gA}{lo c:Option Int}{d:gm}{Q:VK}{O:AP'}{l:List D}{g:List V}(I:Inv X b h H s)(n:RelV (.ref a) v)(j:s.heap.IsSliceOf d e f .none)(k:IsPart e lo)(m:IsPart f c)
  (q:SqL X.K H a g)(r:RepL X.K H O l g)(G:Gen X.K H O (.lst (oS l lo c),true) Q): ∃T id,typeLookup (.type T) "__getitem__"=pure (some (.builtin id))/\s.TypeIs v T/\wpAny (model X.prog X.w) X.A (getItem v (.ref d)) (EP X b h Q) X.xe s:=
 NY b s h H (.ref a) v e f lo c d Q I n j k m ⟨a,g,rfl,q,λp i=>G.lst i (r.cut lo c)⟩
def Um:SlR X (WB X.K):=by
 intro f s E H x v B C lo g A Q I n i k m h;obtain⟨O,d,z,np,hd,o,G⟩:=h
 cases d with
 |tup l=>
  cases o;rcases hd with hd|⟨a,_,h⟩
  ·obtain⟨a,b,rfl,q,r⟩:=hd.tup;by_cases j:HT.sIx b.length 0 lo=0/\HT.sIx b.length b.length g=b.length
   ·cases n;obtain⟨t,y,w,J⟩:=I.tuple q.sq;have c:t.toArray.size=b.length:=by rw[iz];exact y.length.symm
    refine⟨"tuple",_,ye.lookup,w.typeIs,?_⟩;refine HT.GV w i k m (by rw[c];exact j) ⟨.ref a,H,I,rfl,?_⟩
    have e:oS l lo g=l:=by
     unfold oS;rw[<-r.length,j.1,j.2];simp[r.length]
    rw[e] at G;exact G (.ref a) H (λ_ _ e=>e) hd
   ·exact Q7 f s E H (.ref a) v B C lo g A Q I n i k m ⟨a,b,rfl,q.sq,j,λp u=>G.tup u (np p (nOw u)) (r.cut lo g)⟩
  ·exact h.elim
 |lst l=>
  cases o;rcases hd with hd|⟨a,rfl,h⟩
  ·obtain⟨a,b,rfl,q,r⟩:=hd.lst;exact DR I n i k m q.sq r G
  ·obtain⟨b,e,r⟩:=h;exact DR I n i k m (.inl (.inl e)) r G
 |_=>cases o
end
def xv(a b:FO):F:=λδ=>(a δ).bind λp=>(b p.2).bind λq=>match res q.2 q.1 with
 |some (.int i)=>(res q.2 p.1).bind λx=>(gSl (some i) none x).bind λz=>some (z,q.2)
 |_=>none
def mW(a b:FO):F:=λδ=>(a δ).bind λp=>(b p.2).bind λq=>match res q.2 q.1 with
 |some (.int i)=>(res q.2 p.1).bind λx=>(gSl none (some i) x).bind λz=>some (z,q.2)
 |_=>none
section
variable {X:Cx}{a lo b:gy}{d g h:FO}{c f:Pos}
def Od(s:PO X a d)(t:PO X lo g):PX X (.Subscript a (.Slice (some lo) none none f) c) (xv d g):=
 PX.imp (D7 Um s (HJ t) HK) λO H Q y=>by
  obtain⟨I,T,N,J,E,e,k⟩:=y;unfold xv at e;obtain⟨⟨q,l⟩,h1,e⟩:=gg e;obtain⟨⟨G,n⟩,r,e⟩:=gg e;dsimp only at e;split at e
  ·rename_i i b;obtain⟨x,A,e⟩:=gg e;obtain⟨z,C,e⟩:=gg e;obtain⟨rfl,rfl⟩:=gO e;refine⟨I,T,q,l,E,h1,λv L m=>⟨l,zS T q v,G,n,m.er E,r,λu M o=>?_⟩⟩;have B:=Ops.cons E m (Ops.cons (m.er E) o (Ops.nil (o.er (m.er E))));exact⟨i,gU (B.view (j:=1) rfl rfl b),_,x,z,λp w=>B.np w,B.view (j:=0) rfl rfl A,C,B.done k⟩
  ·cases e
def Oe(s:PO X a d)(t:PO X b h):PX X (.Subscript a (.Slice none (some b) none f) c) (mW d h):=
 PX.imp (D7 Um s HK (HJ t)) λO H Q y=>by
  obtain⟨I,T,N,J,E,e,k⟩:=y;unfold mW at e;obtain⟨⟨q,l⟩,h1,e⟩:=gg e;obtain⟨⟨G,n⟩,r,e⟩:=gg e;dsimp only at e;split at e
  ·rename_i i b;obtain⟨x,A,e⟩:=gg e;obtain⟨z,C,e⟩:=gg e;obtain⟨rfl,rfl⟩:=gO e;refine⟨I,T,q,l,E,h1,λv L m=>⟨l,zS T q v,G,n,m.er E,r,λu M o=>?_⟩⟩;have B:=Ops.cons E m (Ops.cons (m.er E) o (Ops.nil (o.er (m.er E))));exact⟨i,gU (B.view (j:=1) rfl rfl b),_,x,z,λp w=>B.np w,B.view (j:=0) rfl rfl A,C,B.done k⟩
  ·cases e
end
end PX
namespace L2
open PySem PySem.Spec PyProof.Rows
section
variable {X:Cx}
def Ug(J:It)(g:TG)(b:TT)(a:Addr->TB)(pre:St->St)(c:St)(H:Hp)(Q:VK):Prop:=Hy (.set (λ_=>false) 0) J g b a pre c H Q
def Cw(c:TI)(g:TG)(ti:TT)(tb:Addr->TB)(pre:St->St):TE:=λa H Q=>c a H λJ b=>Ug J g ti tb pre a b Q
def L6{e:gy}{c:nD}{hV:oi}{scope:jb}{f:Pos}{r:hW}{pre:St->St}{B:TI}{g:TG}{ti:TT}{tb:Addr->TB}
  (S:CompScope X r scope pre)(hc:X.calm=true)(ha:c.is_async=0)(k0: ∀y,hV[0]?=some y->y.is_async=0)
  (hs: ∀x,foldedSetIterable c.iter X.env x=pure x)(pi:PI X c.target c.iter B)
  (r6: ∀(cl:kg) (C:gm) (z:gn) (l:Hp) (u:jl) (a:gZ),let i:=X.comp r scope cl C z l u a
   PG i c.target g/\PIf i c.ifs ti/\ ∀d,PB i (il (.SetComp e (c::hV) scope f) 0 (.ref d) i.env) (tb d)):
  PE X (.SetComp e (c::hV) scope f) (Cw B g ti tb pre):=by
 intro a s E H Q I h;obtain⟨tg,t,k,M⟩:=c;obtain rfl:M=0:=ha;obtain⟨cl,W,V,R⟩:=uI X.env scope λx P D=>I.ok.has x.1 (S.free x P D);rw[arm_eval_SetComp];show wpAny _ X.A (comprehension _ scope X.env _ (newSet (.type "set")) false (eval t X.env)) _ _ s;refine FL (use:=none) (g:=⟨tg,t,k,0⟩) (gs:=hV) rfl hs W S.kind S.names (thn (pi a s E H _ I h) λv s1 h1=>thn h1 λcE Z U=>?_);obtain⟨it,u,tn,J,H2,rfl,n,T,x6,f2,K⟩:=U;refine wpAny_newSet_of (knd:=intKind X.prog X.w) λled Y=>?_;refine wX (RR:=λj C=>compPost (model X.prog X.w) X.A X.xe none (EP X a E Q) j C) (.inr ⟨_,_,_,_,rfl⟩) rfl S hc rfl k0 r6 V R n T x6 f2 (n.laid (t':=Z.toks) (o:= .set (λ_=>false) 0) (λb ob q=>iW _ q) (iO _) Y) K λd N z l G σ' s4 L O p q=>?_;obtain⟨m,F,_⟩:=id p.loc;exact⟨m,F,λh' u6=>⟨.ref d,G,zB L O p u6,rfl,q⟩⟩
def QY(d:gm)(e:TE):TB:=λc H N=>e c H λy a=> ∃k S n,y= .int k/\a d=some (.set S n)/\n+1<scanBound/\N c (upd a d (.set (λb=>S b||decide (b=k)) (if S k then n else n+1)))
def Mc{a:gy}{c:oi}{i:jb}{p:Pos}{depth:Nat}{d:gm}{j:TE}(E:c[depth+1]?=none)(C:PE X a j):PB X (il (.SetComp a c i p) depth (.ref d) X.env) (QY d j):=by
 intro f s m H N I h
 have r:il (.SetComp a c i p) depth (.ref d) X.env=(do let v <-eval a X.env;standAt a.pos;let _ <-call (.builtin "set.add") [.ref d,v]):=by
  unfold il;simp only[clausesOf];rw[E]
 rw[r];refine gk (thn (C f s m H _ I h) λu s1 ⟨y,Q,g,M,k,S,n,z,hd,L,q⟩=>?_);subst z;obtain⟨t,rfl⟩:=M;have A:s1.heap.SetOf (intKind X.prog X.w) d S n:=g.hok d _ hd;refine gk (wy (gk (call_set_add (knd:=intKind X.prog X.w) (k:=k) (intKind_is _ _ k t) rfl A L λT O l=>gw ⟨m,_,?_,q⟩)));refine g.write (x:=d) (e:=d) (by rw[hd];exact trivial) (.inl rfl) (λb u B J=>by rw[O.2 b B];exact J) ?_ l;obtain⟨o,_,_,_,G,_⟩:=l;exact⟨o,G⟩
end
end L2
namespace PX
open PySem PySem.Spec PyProof.Rows L2 PySem.SeqAt
def zP(f:F):FB:=λa b=>(f b).bind λp=>match p.1.1 with
 | .int k=>if a.length+1<scanBound then some (a++[.int k],p.2) else none
 |_=>none
section
variable {X:Cx}{A:iZ}{d:gm}{c:gy}{f:F}
def Jp{j:oi}{O:jb}{p:Pos}{depth:Nat}(E:j[depth+1]?=none)(y:PX X c f):PB X (il (.SetComp c j O p) depth (.ref d) X.env) (tBx true X.K A d (zP f)):=PB.imp' (Mc E y) λm H N G=>by
 obtain⟨w,T,g,Y,Q,B,e,k⟩:=G;obtain⟨⟨r,h⟩,h1,e⟩:=gg e;obtain⟨J,L⟩:=r
 cases J with
 |int i=>
  obtain⟨U,e⟩:=gX e;obtain⟨rfl,rfl⟩:=uo e;refine⟨w,T,(.int i,L),h,B.er,h1,λv s P=>?_⟩;obtain⟨q,M⟩:=P.rep B.er;have hv:v= .int i:=M.int;have t:SK A m w H m h s:=P.1.sk;have x:=B.step t q;have C:=HC g (λ_=>false,0);refine⟨i,_,_,hv,x.at',by unfold ma;omega,k m _ ?_ ?_⟩
  ·have:SKd A d m h s m h (upd s d (.set (λu=>(ma g).1 u||decide (u=i)) (if(ma g).1 i then(ma g).2 else(ma g).2+1))):=⟨λa o e n I=>by rw[hJ I];exact e,λi a z=> .inl z,λa z=>by
    by_cases l:a=d
    ·subst l;rw[hG];simp
    ·rw[hJ l];exact z,λ_ _=>rfl⟩
   exact t.skd.trans this
  ·refine⟨q.mono (λb o e n=>by rw[hJ (by intro z;subst z;exact n B.td)];exact e) (λ_ _ z=>z) (λa z=>?_),B.td,?_⟩
   ·by_cases l:a=d
    ·subst l;rw[hG];trivial
    ·rw[hJ l];exact q.dom a z
   ·show upd _ _ _ _=_;rw[hG,AK]
 |_=>cases e
end
def sD(b:jf)(k:Nat)(d:FIt)(e:Tg)(ti:FT)(c:FB):F:=λf=>(d f).bind λp=>(jq p.2 (b.map .slot)).bind λa=>
 if(gS (b.map .slot) a).Nodup then(jK e ti c p.1 [] (a.map some++List.replicate k none)).bind λq=>some ((.int (ma q.1).2,false),wb (b.map .slot) a (gW a q.2) p.2) else none
def JJ{K:gK}{b:jf}{k:Nat}{f:FIt}{g:Tg}{ti:FT}{e:FB}{j:L2.St}{H:Hp}{Q:VK}(h:tF K (sD b k f g ti e) j H Q):
  Cw (tI K (λi=>i∉b) f) (tG K (λi=>b.length<=i) g) (tT K ti) (λd=>tBx true K (λi=>b.length<=i) d e) (Af b k) j H (λx c=> ∃S n,∃a,x= .ref a/\c a=some (.set S n)/\Q (.int n) c):=Bj (S:=true) h
section
variable {X:Cx}{j:gy}{c:nD}{hV:oi}{scope:jb}{f l p:Pos}{G:hW}{b:jf}{k:Nat}{B:FIt}{y:Tg}{ti:FT}{A:FB}
def JP:jx X (.builtin "len") (λi H Q=> ∃S n,∃a,i=[.ref a]/\H a=some (.set S n)/\Q (.int n) H):=by
 intro g s M H i L Q I r h;obtain⟨S,n,a,rfl,e,q⟩:=h;obtain⟨u,rfl,C⟩:=qZ r;cases C;obtain⟨o,m,E,t,z,hex,hd,_,_,J,v,x⟩:=(show s.heap.SetOf (intKind X.prog X.w) a S n from I.hok a _ e)
 have d:(m.size:Int)<2^63:=by
  have:scanBound=4096:=rfl;omega
 refine call_len_set z hex hd v d ⟨.int n,H,?_,⟨_,by rw[x]⟩,q⟩;exact(I.tok _)
def Je{z:Str}(C:CompOk X G scope b k)(hc:X.calm=true)(ha:c.is_async=0)(k0: ∀N,hV[0]?=some N->N.is_async=0)
  (hs: ∀x,foldedSetIterable c.iter X.env x=pure x)(pi:PIX X (λi=>i∉b) c.target c.iter B)
  (r6: ∀(cl:kg) (C:gm) (s3:gn) (H3:Hp) (fp:jl) (o:gZ),let r:=X.comp G scope cl C s3 H3 fp o
   PGX r (λi=>b.length<=i) c.target y/\PIf r c.ifs (tT X.K ti)/\ ∀d,PB r (il (.SetComp j (c::hV) scope f) 0 (.ref d) r.env) (tBx true X.K (λi=>b.length<=i) d A))
  (hg:Gl X z)(hm:X.mg z=none)(hv:bootBuiltins z=some (.builtin "len"))(hn:z≠"__name__")(j7:(z==("__debug__":Str))=false)
  (h1:starEach [.SetComp j (c::hV) scope f] X.env=(false,eval (.SetComp j (c::hV) scope f) X.env)::starEach [] X.env)(i4:(backTo l (starEach [] X.env)).any (·.1)=false):
  PX X (.Call (.Name z p) [.SetComp j (c::hV) scope f] [] l) (sD b k B y ti A):=
 PX.imp (ve JP hg hm hv (lI (L6 (g:=tG X.K (λi=>b.length<=i) y) (ti:=tT X.K ti) (tb:=λd=>tBx true X.K (λi=>b.length<=i) d A) C.sco hc ha k0 hs pi r6) pY h1) hn j7 h1 i4) λO H Q h=>by
  have q:=JJ h
  have mono: ∀{t u:VK},(∀v H,t v H->u v H)->Cw (tI X.K (λi=>i∉b) B) (tG X.K (λi=>b.length<=i) y) (tT X.K ti) (λd=>tBx true X.K (λi=>b.length<=i) d A) (Af b k) O H t->Cw (tI X.K (λi=>i∉b) B) (tG X.K (λi=>b.length<=i) y) (tT X.K ti) (λd=>tBx true X.K (λi=>b.length<=i) d A) (Af b k) O H u:=by
   rintro t u hq ⟨δ,T,ds,I,E,h1,kk⟩;refine⟨δ,T,ds,I,E,h1,λJ M D U ok d hd=>?_⟩;obtain⟨W,F,step⟩:=kk J M D U ok d hd;refine⟨W,F,λi m L Y w=>?_⟩;rcases step i m L Y w with⟨s1,s2⟩|s
   ·exact .inl ⟨s1,hq _ _ s2⟩
   ·exact .inr s
  exact mono (λv M ⟨S,n,a,e,h2,h3⟩=>⟨S,n,a,by rw[e],h2,h3⟩) q
end
end PX
namespace HT
open PySem PySem.Spec PyProof.Rows L2
section
variable {a:gR}{w:gJ}{A:gM}{E:hC}{s:gn}
theorem Hj(n:Nat):Builtin.Slice.sliceAdjust none none (-1) (n:Int)=((n:Int)-1, -1):=by
 unfold Builtin.Slice.sliceAdjust;rfl
theorem Gy(n:Nat):Builtin.Slice.slicePlaces ((n:Int)-1) (-1) (-1)=n:=by
 unfold Builtin.Slice.slicePlaces;rw[gL (by decide)];by_cases h:n=0
 ·subst h;rfl
 ·rw[gD (by omega)];simp only[Int.neg_neg,Int.ediv_one];omega
theorem M3{b c:Type}{f:b->Option c}{g:b->c}: ∀{l:List b},(∀m∈l,f m=some (g m))->l.filterMap f=l.map g
 |[],_=>rfl
 |x::l,h=>by rw[List.filterMap_cons_some (h x (iF ..)),iu,M3 λm d=>h m (iK _ d)]
theorem LW(b:lU):((List.range b.size).filterMap λ(m:Nat)=>b[((b.size:Int)-1+(m:Int)*(-1)).toNat]?).toArray=b.toList.reverse.toArray:=by
 congr 1
 have e:(List.range b.size).filterMap (λ(m:Nat)=>b[((b.size:Int)-1+(m:Int)*(-1)).toNat]?)=(List.range b.size).map λm=>b.toList.reverse.getD m .none:=by
  refine M3 λm c=>?_;have c:=rQ.1 c;have:((b.size:Int)-1+(m:Int)*(-1)).toNat=b.size-1-m:=by omega
  rw[this];have f:b.size-1-m<b.size:=by omega
  simp[c,f,List.getElem_reverse]
 rw[e];apply B9;intro i;by_cases d:i<b.size
 ·simp[d]
 ·simp[d]
def wD{d:gm}{t:Tok}{n:Nat}{Q:Int×Int×Nat->Shared->Prop}(f:s.heap.IsSliceOf d .none .none (.int (-1) t))
  (h:Q ((n:Int)-1, -1,n) s):wpAny (model a w) A (Builtin.Slice.sliceApplied (.ref d) (pure (n:Int))) Q E s:=by
 obtain⟨os,c,g,b⟩:=id f;unfold Builtin.Slice.sliceApplied Builtin.Slice.sliceFields;refine gk (gk (qy c b (x:= .none) rfl (gk (qy c b (x:= .none) rfl (gk (qy c b (x:= .int (-1) t) rfl (gw ?_)))))));refine gk (slicePart_int ?_);show wpAny _ _ (if((-1:Int)==0)=true then _ else _) _ _ s;rw[gL (by decide)];refine gk (Cg (gk (Cg (gk (gw ?_)))));show wpAny _ _ (match Builtin.Slice.sliceAdjust none none (-1) (n:Int) with|(lo,e)=>pure (lo,(-1:Int),Builtin.Slice.slicePlaces lo e (-1))) _ _ s;rw[Hj n];show wpAny _ _ (pure ((n:Int)-1,(-1:Int),Builtin.Slice.slicePlaces ((n:Int)-1) (-1) (-1))) _ _ s;rw[Gy];exact gw h
def GS(b:IsTup s.heap t items)(e:s.heap.IsSliceOf f .none .none (.int (-1) u))
  (h:Q (.ref s.heap.objs.size) {s with heap:=s.heap.push {cls:= .type "tuple",data:= .seq items.toList.reverse.toArray}})
  (d:items.size<=sizeLine):wpAny (model a w) A (getItem (.ref t) (.ref f)) Q E s:=by
 have c:sizeOk (.seq items.toList.reverse.toArray):=by
  show items.toList.reverse.toArray.size<=sizeLine;rw[iz,BX,ji];exact d
 obtain⟨os,j,g,k⟩:=id e;have i:s.TypeIs (.ref f) "slice":=⟨os,j,g⟩
 unfold getItem
 try with_reducible refine kr ?_
 first|refine gk (gw ?_)|skip
 refine gk (FX b.typeIs (by decide) ?_)
 refine gk (uN (name:=Str.ofString "__getitem__") b.typeIs ye
  (nH ye b.typeIs FW ?_ (FV _ _)))
 show wpAny _ _ (Builtin.Tuple.tupleItemsOf (.ref t)>>=_) _ _ s;refine gk (FU b ?_);refine gk (qx i ?_);rw[gD (by decide)];refine gk (wD e ?_);show wpAny _ _ (if((((items.size:Int)-1)==0&&(-1:Int)==1&&items.size==items.size)=true) then _ else _) _ _ s;rw[gL (by simp),LW]
 first
  |exact gk (m:=Builtin.Tuple.tupleExact _) (kW (gw ⟨_,rfl,gw h⟩) c)
  |exact gk (m:=Builtin.Tuple.tupleExact _) (kW (gk (gw (gw ⟨_,rfl,gw h⟩))) c)
  |exact gk (gk (m:=Builtin.Tuple.tupleExact _) (kW (gw (gw ⟨_,rfl,gw h⟩)) c))
  |exact gk (gk (m:=Builtin.Tuple.tupleExact _) (kW (gw ⟨_,rfl,gw h⟩) c))
end
end HT
namespace L2
open PySem PySem.Spec PyProof.Rows
section
variable {X:Cx}{e st:gy}{d c:TE}{f g:Pos}
def VU(K:gK)(d c:TE):TE:=λi H Q=>d i H λx j=>c i j λy b=>y= .int (-1)/\ ∃a h,x= .ref a/\SqT K b a h/\ ∀p,b p=none->Q (.ref p) (upd b p (.tup h.reverse))
def D6(M:PE X e d)(O:PE X st c):PE X (.Subscript e (.Slice none none (some st) g) f) (VU X.K d c):=by
 intro i s l H Q I h;refine Subscript_ (thn (M i s l H _ I h) λv s1 ⟨x,C,G,Y,U⟩=>?_);refine wpAny_Slice ?_;rw[FR];refine gw (gw ?_);rw[evalPart_some];refine thn (O i s1 l C _ G U) λu j ⟨y,E,J,ry,L,a,B,ex,N,q⟩=>?_;subst L ex;obtain⟨t,rfl⟩:=ry;cases Y;have m:Inv X i l E {j with heap:=j.heap.push {cls:= .type "slice",data:= .fields #[.none,.none,.int (-1) t]}}:=J.kept (t':=j.toks) λb T q=>iW _ q;obtain⟨n,r,p,z⟩:=m.tuple N;have k:n.toArray.size=B.length:=by rw[iz];exact r.length.symm
 show wpAny (model X.prog X.w) X.A (subscriptTail e (.Slice none none (some st) g) (.ref a) (.ref j.heap.objs.size)) (EP X i l Q) X.xe {j with heap:=j.heap.push {cls:= .type "slice",data:= .fields #[.none,.none,.int (-1) t]}};refine tail_any (ops:=[.ref a,.ref j.heap.objs.size]) p.typeIs ye.lookup (HT.GS p (Heap.IsSliceOf.new ..) ?_ (by rw[k];exact z)) (by with_unfolding_all rfl);refine⟨.ref _,_,m.laid (t':=j.toks) (o:= .tup B.reverse) (λb T q=>iW _ q) (iO _) ?_,rfl,q _ (m.hok.fresh (iO _))⟩;exact⟨by rw[BX];exact z,_,r.reverse,yv _ _⟩
end
end L2
namespace PX
open PySem PySem.Spec PyProof.Rows L2 PySem.SeqAt
def Vc:D->Option (D×Bool)
 | .tup l=>some (.tup l.reverse,false)
 |_=>none
theorem RepL.reverse{K H}{O:AP'}: ∀{l:List D} {a:List V},RepL K H O l a->RepL K H O l.reverse a.reverse
 |[],a,h=>by rw[RepL] at h;subst h;exact RepL.nil
 |d::l,a,h=>by
  rw[RepL] at h;obtain⟨v,r,rfl,h1,b⟩:=h;rw[yu,yu];exact(RepL.reverse b).append (RepL.one h1)
def M8(a fs:FO):F:=λδ=>(a δ).bind λp=>(fs p.2).bind λq=>match res q.2 q.1 with
 |some (.int i)=>if i= -1 then(res q.2 p.1).bind λx=>(Vc x).bind λz=>some (z,q.2) else none
 |_=>none
section
variable {X:Cx}{a st:gy}{c fs:FO}{b d:Pos}
def Rx(y:PO X a c)(C:PO X st fs):PX X (.Subscript a (.Slice none none (some st) d) b) (M8 c fs):=
 PX.imp (D6 y C) λF H Q G=>by
  obtain⟨M,T,D,N,E,e,k⟩:=G;unfold M8 at e;obtain⟨⟨s,f⟩,h1,e⟩:=gg e;obtain⟨⟨J,h⟩,w,e⟩:=gg e;dsimp only at e;split at e
  ·rename_i i A;split at e
   case isFalse=>cases e
   rename_i t;subst t;obtain⟨x,I,e⟩:=gg e;obtain⟨z,o,e⟩:=gg e;obtain⟨rfl,rfl⟩:=gO e;refine⟨M,T,s,f,E,h1,λv O g=>⟨f,zS T s v,J,h,g.er E,w,λu U m=>?_⟩⟩;have B:=Ops.cons E g (Ops.cons (g.er E) m (Ops.nil (m.er (g.er E))));have hv:=B.view (j:=0) rfl rfl I;refine⟨gU (B.view (j:=1) rfl rfl A),?_⟩
   cases x with
   |tup l=>
    cases o;rcases hv with hv|⟨_,_,hv⟩
    ·obtain⟨p,L,rfl,q,r⟩:=hv.tup;exact⟨p,L,rfl,q.sq,λY n=>(B.done k).tup n (B.np (nOw n)) r.reverse⟩
    ·exact hv.elim
   |_=>cases o
  ·cases e
end
section
variable {b:jm}{a:Env}
end
end PX
namespace TT
open PySem
def S:Nat->Nat
 |0=>0
 |n+1=>5*S n+1
theorem IK(m:Nat): ∀n:Nat,S (m+n)=5^n*S m+S n
 |0=>by simp[S]
 |n+1=>by
  rw[<-wd,S,IK m n,S,pN,uf,<-pM,vY 5 (5^n)];lia
theorem zr: ∀n:Nat,∃c,5^n=4*c+1
 |0=>⟨0,rfl⟩
 |n+1=>by
  obtain⟨c,e⟩:=zr n;exact⟨5*c+1,by rw[pN,e];lia⟩
theorem Nz: ∀k:Nat,∃c,S (2^k)=2^k*(2*c+1)
 |0=>⟨0,rfl⟩
 |k+1=>by
  obtain⟨c,e⟩:=Nz k;obtain⟨d,f⟩:=zr (2^k)
  have h:S (2^(k+1))=(5^2^k+1)*S (2^k):=by
   rw[pN,Nat.mul_two,IK,Ft,Fs]
  refine⟨2*(d*c)+d+c,?_⟩;rw[h,f,e,pN];have:4*d+1+1=2*(2*d+1):=by lia
  rw[this,pM 2,vY (2*d+1),pM (2^k),pM (2^k),<-pM 2 (2^k),vY 2 (2^k),pM (2^k) 2]
  congr 2
  rw[Ft,uf,Fs,vX,pM 2 c,BL c 2 d,vY c d]
  lia
theorem NA(k n:Nat):S (2^k+n)%2^k=S n%2^k:=by
 obtain⟨c,e⟩:=Nz k;rw[IK,e,BL,Nat.mul_add_mod]
theorem Dv: ∀(k e:Nat),e<2^k-> ∃n,n<2^k/\S n%2^k=e
 |0,e,h=>⟨0,by simp,by simp at h;subst h;rfl⟩
 |k+1,e,h=>by
  have l:0<2^k:=Nat.two_pow_pos k;obtain⟨n,w,s⟩:=Dv k (e%2^k) (vW _ l);obtain⟨c,m⟩:=Nz k;obtain⟨d,o⟩:=zr n
  have b:S (2^k+n)=2^(k+1)*(4*d*c+2*d+c)+2^k+S n:=by
   rw[IK,m,o,pN,BL,pM (2^k) 2]
   have:(4*d+1)*(2*c+1)=2*(4*d*c+2*d+c)+1:=by
    rw[Ft,uf,Fs,vX,BL (4*d) 2 c];lia
   rw[this,uf,vX]
  rw[pN] at h b ⊢;generalize 2^k=P at*;have j:=Nat.div_add_mod (S n) P;have i:=Nat.div_add_mod e P;rw[s] at j;have y:e / P<2:=Nat.div_lt_of_lt_mul (by rw[vY] at h;lia)
  have mk: ∀a q x,a=P*2*q+x->x<P*2->a%(P*2)=x:=λa q x h1 b=>by
   rw[h1,Nat.mul_add_mod,Nat.mod_eq_of_lt b]
  have v:=vW e l;have t:S n / P=2*(S n / P / 2)+S n / P%2:=by lia
  have g:S n=P*2*(S n / P / 2)+(P*(S n / P%2)+e%P):=by
   rw[pM,<-wd,<-uf,<-t];exact j.symm
  generalize S n / P / 2=q at g;have u:S n / P%2<2:=vW _ (by decide);generalize S n / P%2=r at g u;generalize e / P=f at*;by_cases p:r=f
  ·exact⟨n,by lia,mk _ q _ (by rw[g,p,i]) h⟩
  ·refine⟨P+n,by lia,mk _ (4*d*c+2*d+c+q+r) _ ?_ h⟩;rw[b,g,uf (P*2) _ r,uf (P*2) _ q];rcases(show r=0\/r=1 by lia) with rfl|rfl
   ·have:f=1:=by lia
    subst this;rw[Fq,Fq];rw[vX] at i;lia
   ·have:f=0:=by lia
    subst this;rw[vX,vX];rw[Fq] at i;lia
def ls(mask:Nat)(h:Int):Nat->Nat×Nat
 |0=>(SetTable.bits h%(mask+1),SetTable.bits h)
 |k+1=>SetTable.leap mask (ls mask h k).1 (ls mask h k).2
def PM(h:Int):SetTable.bits h<2^64:=by
 unfold SetTable.bits;have:=Fp h (show(0:Int)<2^64 by decide);have:=Fo h (show(2^64:Int)≠0 by decide)
 lia
def HW(mask:Nat)(h:Int): ∀k,(ls mask h k).1<=mask
 |0=>by have:=vW (SetTable.bits h) (show 0<mask+1 by lia);show _%(mask+1)<=_;lia
 |k+1=>by
  show(_%(mask+1))<=_;have:=vW ((ls mask h k).1*5+1+(ls mask h k).2 / 32) (show 0<mask+1 by lia);lia
theorem HV(mask:Nat)(h:Int): ∀k,(ls mask h k).2=SetTable.bits h / 32^k
 |0=>by simp[ls]
 |k+1=>by
  show(ls mask h k).2 / 32=_;rw[HV mask h k,pN,Nat.div_div_eq_div_mul]
theorem Pf(mask:Nat)(h:Int)(k:Nat)(hk:13<=k):(ls mask h k).2=0:=by
 rw[HV];refine Nat.div_eq_of_lt (mS (PM h) ?_);exact ku (show 2^64<=32^13 by decide) (yj (by decide) hk)
theorem My(mask:Nat)(h:Int)(m:Nat)(a:(ls mask h 13).1=S m%(mask+1)): ∀n,(ls mask h (13+n)).1=S (m+n)%(mask+1)
 |0=>a
 |n+1=>by
  show(((ls mask h (13+n)).1*5+1+(ls mask h (13+n)).2 / 32)%(mask+1))=_;rw[Pf mask h _ (by lia),My mask h m a n,Nat.zero_div,Nat.add_zero,<-wd m n 1,S,Nat.add_mod,Nat.mod_mul_mod,<-Nat.add_mod,vY 5]
def Ek(hk:mask+1=2^k)(h:Int)(g:e<=mask): ∃n,n<mask+14/\(ls mask h n).1=e:=by
 have i:=HW mask h 13;obtain⟨m,c,b⟩:=Dv k (ls mask h 13).1 (by lia);obtain⟨q,d,eq⟩:=Dv k e (by lia);rw[<-hk] at b eq c d;have a:=My mask h m b.symm;by_cases f:m<=q
 ·exact⟨13+(q-m),by lia,by rw[a,show m+(q-m)=q by lia];exact eq⟩
 ·refine⟨13+(q+(mask+1)-m),by lia,?_⟩;rw[a,show m+(q+(mask+1)-m)=2^k+q by lia,hk,NA,<-hk];exact eq
def Gq(mask i:Nat)(h:i<=mask):i<=SetTable.runEnd mask i/\SetTable.runEnd mask i<=mask/\SetTable.runEnd mask i<=i+9:=by
 unfold SetTable.runEnd;split<;>lia
def tm(mask:Nat)(h:Int):Nat->Nat
 |0=>0
 |k+1=>tm mask h k+(SetTable.runEnd mask (ls mask h k).1-(ls mask h k).1)+1
theorem P9(mask:Nat)(h:Int): ∀k,tm mask h k<=10*k
 |0=>iO _
 |k+1=>by
  have:=P9 mask h k;have:=Gq mask _ (HW mask h k);unfold tm;lia
def at_(mask:Nat)(h:Int)(k t:Nat):SetTable.Probe:=⟨(ls mask h k).1+t,SetTable.runEnd mask (ls mask h k).1-(ls mask h k).1-t,(ls mask h k).1,(ls mask h k).2,none⟩
theorem uz(mask:Nat)(h:Int): ∀k t,t<=SetTable.runEnd mask (ls mask h k).1-(ls mask h k).1->pr mask h (tm mask h k+t)=at_ mask h k t
 |0,0,_=>rfl
 |k+1,0,_=>by
  have e:=uz mask h k (SetTable.runEnd mask (ls mask h k).1-(ls mask h k).1) (iO _);show adv mask (pr mask h (tm mask h k+(SetTable.runEnd mask (ls mask h k).1-(ls mask h k).1)))=_;rw[e];unfold adv at_;simp only[Nat.sub_self,ph,iQ,gt_iff_lt];rfl
 |k,t+1,a=>by
  have e:=uz mask h k t (by lia);show adv mask (pr mask h (tm mask h k+t))=_;rw[e];unfold adv at_;rw[gD (show SetTable.runEnd mask (ls mask h k).1-(ls mask h k).1-t>0 by lia)];simp only[SetTable.Probe.mk.injEq,and_true,true_and]
  lia
def LO(hk:mask+1=2^k)(h:Int)(a:e<=mask): ∃n,n<10*(mask+14)/\(pr mask h n).j=e:=by
 obtain⟨r,b,er⟩:=Ek hk h a;have:=P9 mask h r;refine⟨tm mask h r,by lia,?_⟩;have:=uz mask h r 0 (kb _);rw[Nat.add_zero] at this;rw[this];exact er
theorem LN(mask:Nat)(h:Int): ∀n,(pr mask h n).dummy=none
 |0=>rfl
 |n+1=>by
  show(adv mask (pr mask h n)).dummy=none;unfold adv;split<;>exact LN mask h n
theorem D5(mask:Nat)(h:Int): ∀n,∃k t,n=tm mask h k+t/\t<=SetTable.runEnd mask (ls mask h k).1-(ls mask h k).1
 |0=>⟨0,0,rfl,kb _⟩
 |n+1=>by
  obtain⟨k,t,e,b⟩:=D5 mask h n;by_cases a:t+1<=SetTable.runEnd mask (ls mask h k).1-(ls mask h k).1
  ·exact⟨k,t+1,by lia,a⟩
  ·exact⟨k+1,0,by unfold tm;lia,kb _⟩
def LM(mask:Nat)(h:Int)(n:Nat):(pr mask h n).j<=mask:=by
 obtain⟨k,t,e,a⟩:=D5 mask h n;rw[e,uz mask h k t a];have:=Gq mask _ (HW mask h k);show(ls mask h k).1+t<=mask;lia
def CJ{c:Array Nat}(g:c.toList.Pairwise (· < ·)){i j:Nat}{a b:Nat}(h:i<j)(h1:c[i]?=some a)(d:c[j]?=some b):a<b:=by
 rw[<-lq] at h1 d;obtain⟨e,rfl⟩:=uQ.mp h1;obtain⟨f,rfl⟩:=uQ.mp d;exact NB.mp g i j e f h
theorem zJ{d:Array Nat}(n:d.toList.Pairwise (· < ·))(j:Nat): ∀(c lo b:Nat),lo<=b->b<=d.size->b-lo<=c->
  (∀i a,i<lo->d[i]?=some a->a<j)->(∀i a,b<=i->d[i]?=some a->j<=a)->
  let p:=SetTable.below.go d j c lo b
  p<=d.size/\(∀i a,i<p->d[i]?=some a->a<j)/\(∀i a,p<=i->d[i]?=some a->j<=a)
 |0,lo,b,h1,g,s,h,k=>by
  have:lo=b:=by lia
  subst this;exact⟨g,h,k⟩
 |c+1,lo,b,h1,g,s,h,k=>by
  unfold SetTable.below.go;by_cases q:lo<b
  ·rw[gD q];have o:(lo+b) / 2<d.size:=by lia
   have m:d[(lo+b) / 2]?=some d[(lo+b) / 2]:=om o;have hd:d.getD ((lo+b) / 2) j=d[(lo+b) / 2]:=by simp[Array.getD,o]
   dsimp only;rw[hd];by_cases l:d[(lo+b) / 2]<j
   ·rw[gD l];refine zJ n j c ((lo+b) / 2+1) b (by lia) g (by lia) (λi a r f=>?_) k;by_cases e:i=(lo+b) / 2
    ·subst e;rw[m] at f;cases f;exact l
    ·exact Cd (CJ n (by lia) f m) l
   ·rw[gL l];refine zJ n j c lo ((lo+b) / 2) (by lia) (by lia) (by lia) h (λi a r f=>?_);by_cases e:i=(lo+b) / 2
    ·subst e;rw[m] at f;cases f;lia
    ·have:=CJ n (show(lo+b) / 2<i by lia) m f;lia
  ·rw[gL q];have:lo=b:=by lia
   subst this;exact⟨g,h,k⟩
def nX{b:Array Nat}(d:b.toList.Pairwise (· < ·))(j:Nat):SetTable.below b j<=b.size/\(∀i a,i<SetTable.below b j->b[i]?=some a->a<j)/\(∀i a,SetTable.below b j<=i->b[i]?=some a->j<=a):=
 zJ d j b.size 0 b.size (kb _) (iO _) (by lia) (λi a h=>by lia) (λi a h1 c=>by
  have:=(JV.mp c).1;lia)
theorem zK{a:Array Nat}(c:a.toList.Pairwise (· < ·)){i j:Nat}(h:a[i]?=some j):SetTable.below a j=i:=by
 obtain⟨h1,d,e⟩:=nX c j;by_cases g:i<SetTable.below a j
 ·exact absurd (d i j g h) (ph _)
 ·by_cases f:SetTable.below a j<i
  ·have k:=(JV.mp h).1;have b:a[SetTable.below a j]?=some a[SetTable.below a j]:=om (by lia);have:=e _ _ (iO _) b;have:=CJ c f b h
   lia
  ·lia
theorem C7(j:Nat):SetTable.has #[] j=false:=rfl
theorem pk{t:ll}(a:t.place.toList.Pairwise (· < ·)){i j:Nat}(h:t.place[i]?=some j):t.slot j= .live i:=by
 unfold SetTable.slot;dsimp only;rw[zK a h,h];simp
theorem Gk{t:ll}(hd:t.dummies= #[]){j:Nat}(h:j∉t.place.toList):t.slot j= .empty:=by
 unfold SetTable.slot;dsimp only
 have:(t.place[SetTable.below t.place j]?==some j)=false:=by
  rw[xH];intro e;rw[<-lq] at e;exact h (lN e)
 rw[this,hd,C7];rfl
theorem Nu(t:ll)(p:SetTable.Probe):t.advance p=adv t.mask p:=by
 unfold SetTable.advance adv;split<;>rfl
theorem D4{k:gB}{t:ll}(ok:TabOk k t)(hashAt:Nat->Int)(h:Int): ∀(a n:Nat),(∃M,n<=M/\M<n+a/\(pr t.mask h M).j∉t.place.toList)->
    ∃m,n<=m/\(∀q,n<=q->q<m-> ∃i,t.place[i]?=some (pr t.mask h q).j/\hashAt i≠h)/\
      (((pr t.mask h m).j∉t.place.toList/\SetTable.probe.go t hashAt h a (pr t.mask h n)=some (.empty (pr t.mask h m).j none))\/
       (∃i,t.place[i]?=some (pr t.mask h m).j/\hashAt i=h/\SetTable.probe.go t hashAt h a (pr t.mask h n)=some (.candidate (pr t.mask h m).j i (pr t.mask h (m+1)))))
  |0,n,⟨M,h1,f,g⟩=>by lia
  |a+1,n,⟨M,h1,f,g⟩=>by
    unfold SetTable.probe.go;by_cases d:(pr t.mask h n).j∈t.place.toList
    · obtain⟨i,c⟩:=qP d
      rw[lq] at c;rw[pk ok.ris c];dsimp only;by_cases b:hashAt i=h
      · refine⟨n,iO _,λq h1 f=>by lia,.inr ⟨i,c,b,?_⟩⟩
        rw[gD (by simpa using b),Nu];rfl
      · rw[gL (by simpa using b),Nu]
        have o:M≠n:=λe=>g (e▸d);obtain⟨m,g1,g2,g3⟩:=D4 ok hashAt h a (n+1) ⟨M,by lia,by lia,g⟩;refine⟨m,by lia,λq p l=>?_,g3⟩;by_cases e:q=n
        · subst e;exact⟨i,c,b⟩
        · exact g2 q (by lia) l
    · rw[Gk ok.dum d]
      dsimp only;rw[LN];exact⟨n,iO _,λq h1 f=>by lia,.inl ⟨d,rfl⟩⟩
theorem zi: ∀(n:Nat) (l:jf),l.length<=n-> ∃e,e<=n/\e∉l
 |0,l,h=>⟨0,iO _,by cases l with|nil=>simp|cons _ _=>simp at h⟩
 |n+1,l,h=>by
  by_cases a:n+1∈l
  ·obtain⟨e,h1,b⟩:=zi n (l.erase (n+1)) (by rw[Km a];lia);exact⟨e,by lia,λz=>b ((BK (by lia)).mpr z)⟩
  ·exact⟨n+1,iO _,a⟩
def TabOk.free(ok:TabOk f t)(h:Int): ∃M,M<10*(t.mask+14)/\(pr t.mask h M).j∉t.place.toList:=by
 obtain⟨k,_,_,hk⟩:=ok.pow
 have h1:t.place.toList.length<=t.mask:=by
  have:=ok.len;have:=ok.room;rw[ji];lia
 obtain⟨e,c,d⟩:=zi t.mask _ h1;obtain⟨n,a,b⟩:=LO hk h c;exact⟨n,a,by rw[b];exact d⟩
theorem kB{b:Type}(a:Array b)(p:Nat)(x:b):(SetTable.insertAt a p x).toList=a.toList.take p++x::a.toList.drop p:=by
 unfold SetTable.insertAt;simp[Array.toList_extract,List.extract];rw[List.take_of_length_le (by simp)]
def Gr(h:xs.toList.Pairwise (· < ·))(n:j∉xs.toList):(SetTable.insertAt xs (SetTable.below xs j) j).toList.Pairwise (· < ·):=by
 obtain⟨h1,l,k⟩:=nX h j;rw[kB,rR];refine⟨h.sublist (wu _ _),?_,?_⟩
 ·rw[Dz];refine⟨λa d=>?_,h.sublist (Fx _ _)⟩;obtain⟨i,c⟩:=qP d;rw[List.getElem?_drop] at c;have m:=k _ _ (show SetTable.below xs j<=SetTable.below xs j+i by lia) (by rw[<-lq];exact c);have:a≠j:=λe=>n (e▸lN c)
  lia
 ·intro a d b g
  have f:a<j:=by
   obtain⟨i,c⟩:=qP d;rw[List.getElem?_take] at c;split at c
   ·rename_i o;exact l i a o (by rw[<-lq];exact c)
   ·cases c
  rcases jr.mp g with rfl|g
  ·exact f
  ·obtain⟨i,c⟩:=qP g;rw[List.getElem?_drop] at c;have m:=k _ _ (show SetTable.below xs j<=SetTable.below xs j+i by lia) (by rw[<-lq];exact c)
   lia
theorem TabOk.fresh(finger moves:Nat)(led:Bool):TabOk [] (SetTable.fresh finger moves led) where
 pow:=⟨3,by lia,by lia,rfl⟩
 dum:=rfl
 len:=rfl
 room:=by show 5*0<3*7;lia
 ris:= .nil
 bd:=λj h=>by simp[SetTable.fresh] at h
 road:=λi h j h1=>by simp at h1
def TabOk.put(ok:TabOk g t)(A:(pr t.mask h n).j∉t.place.toList)(z: ∀m,m<n->(pr t.mask h m).j∈t.place.toList)(H:5*(g.length+1)<3*t.mask)(C:j=(pr t.mask h n).j)(E:p=SetTable.below t.place j):
  TabOk (g.take p++h::g.drop p) (t.put j).1/\(t.put j).2=p:=by
 subst C;subst E
 have v:(t.put (pr t.mask h n).j).1={t with place:=SetTable.insertAt t.place (SetTable.below t.place (pr t.mask h n).j) (pr t.mask h n).j,dummies:= #[]}:=by
  unfold SetTable.put;dsimp only;rw[ok.dum,C7];rfl
 obtain⟨h1,_,_⟩:=nX ok.ris (pr t.mask h n).j;have G:=ok.len
 have c: ∀x,x∈t.place.toList->x∈(SetTable.insertAt t.place (SetTable.below t.place (pr t.mask h n).j) (pr t.mask h n).j).toList:=λx a=>by
  rw[kB];rw[<-uj (SetTable.below t.place (pr t.mask h n).j) t.place.toList] at a;rcases pK.mp a with a|a
  ·exact pK.mpr (.inl a)
  ·exact pK.mpr (.inr (iK _ a))
 refine⟨?_,rfl⟩;rw[v];generalize y:SetTable.below t.place (pr t.mask h n).j=P at*;refine⟨ok.pow,rfl,?_,?_,?_,λx a=>?_,λi f k g1 g2=>?_⟩
 ·show(SetTable.insertAt t.place P (pr t.mask h n).j).size=_;rw[<-ji,kB];simp only[lM,ju,oY,yw,ji];lia
 ·show 5*_<3*t.mask;simp only[lM,ju,oY,yw];lia
 ·have:=Gr ok.ris A;rw[y] at this;exact this
 ·have s:x∈(SetTable.insertAt t.place P (pr t.mask h n).j).toList:=a;rw[kB] at s;show x<=t.mask;rcases pK.mp s with a|a
  ·exact ok.bd x (we a)
  ·rcases jr.mp a with rfl|a
   ·exact LM _ _ _
   ·exact ok.bd x (BQ a)
 ·have b:(SetTable.insertAt t.place P (pr t.mask h n).j).toList[i]?=some k:=by rw[lq];exact g2
  rw[kB] at b;show ∃u,(pr t.mask f u).j=k/\ ∀m,m<u->(pr t.mask f m).j∈(SetTable.insertAt t.place P (pr t.mask h n).j).toList;have w:(t.place.toList.take P).length=P:=by rw[oY,ji];lia
  have l:(g.take P).length=P:=by rw[oY];lia
  by_cases B:i<P
  ·rw[qz (by lia),Kw B] at g1 b;rw[lq] at b;obtain⟨q,o,r⟩:=ok.road i f k g1 b;exact⟨q,o,λm e=>c _ (r m e)⟩
  ·rw[oX (by lia),w] at b;rw[oX (by lia),l] at g1
   cases hd:i-P with
   |zero=>
    rw[hd] at g1 b;simp at g1 b;subst g1;subst b;exact⟨n,rfl,λm e=>c _ (z m e)⟩
   |succ d=>
    rw[hd] at g1 b;simp only[BJ,List.getElem?_drop] at g1 b;rw[lq] at b;obtain⟨q,o,r⟩:=ok.road _ f k g1 b;exact⟨q,o,λm e=>c _ (r m e)⟩
def occ(ow:uL)(j:Nat):Prop:= ∃i,ow.getD j none=some i
theorem C8{ow:uL}{j:Nat}{d:Option Nat}(h:j<ow.size):ow.getD j d=ow.getD j none:=by simp[Array.getD,h]
theorem A8{mask:Nat}{ow:uL}(z:ow.size=mask+1)(h:Int): ∀(a k:Nat),(∃r,k<=r/\r<k+a/\ ¬occ ow (ls mask h r).1)->(∀m,m<tm mask h k->occ ow (pr mask h m).j)->
  ∃n,SetTable.layClean.free mask ow a (ls mask h k).1 (ls mask h k).2=some (pr mask h n).j/\ ¬occ ow (pr mask h n).j/\ ∀m,m<n->occ ow (pr mask h m).j
 |0,k,⟨r,h1,v,_⟩,_=>by lia
 |a+1,k,⟨r,h1,v,g⟩,l=>by
  unfold SetTable.layClean.free;have x:=HW mask h k;have y:=Gq mask _ x
  cases c:(List.range (SetTable.runEnd mask (ls mask h k).1+1-(ls mask h k).1)).find? λt=>(ow.getD ((ls mask h k).1+t) (some 0)).isNone with
  |some t=>
   rw[List.find?_range_eq_some] at c;obtain⟨a1,q,s⟩:=c;rw[rQ] at q;have p:t<=SetTable.runEnd mask (ls mask h k).1-(ls mask h k).1:=by lia
   have e:=uz mask h k t p;refine⟨tm mask h k+t,by rw[e];rfl,?_,λm o=>?_⟩
   ·rw[e];rintro⟨i,w⟩;rw[C8 (by show(ls mask h k).1+t<_;lia)] at a1;have u:ow.getD ((ls mask h k).1+t) none=some i:=w;rw[u] at a1;simp at a1
   ·by_cases f:m<tm mask h k
    ·exact l m f
    ·have b:=uz mask h k (m-tm mask h k) (by lia);rw[show tm mask h k+(m-tm mask h k)=m by lia] at b;rw[b];have:=s (m-tm mask h k) (by lia);rw[C8 (by show(ls mask h k).1+(m-tm mask h k)<_;lia)] at this;show occ ow ((ls mask h k).1+(m-tm mask h k));unfold occ
     cases d:ow.getD ((ls mask h k).1+(m-tm mask h k)) none with
     |none=>rw[d] at this;simp at this
     |some i=>exact⟨i,rfl⟩
  |none=>
   rw[List.find?_range_eq_none] at c
   have all: ∀t,t<=SetTable.runEnd mask (ls mask h k).1-(ls mask h k).1->occ ow ((ls mask h k).1+t):=λt p=>by
    have:=c t (by lia);rw[C8 (by lia)] at this;unfold occ
    cases d:ow.getD ((ls mask h k).1+t) none with
    |none=>rw[d] at this;simp at this
    |some i=>exact⟨i,rfl⟩
   have A:r≠k:=λe=>g (by subst e;have:=all 0 (kb _);simpa using this)
   have:=A8 z h a (k+1) ⟨r,by lia,by lia,g⟩ (λm o=>by
    by_cases f:m<tm mask h k
    ·exact l m f
    ·unfold tm at o;have b:=uz mask h k (m-tm mask h k) (by lia);rw[show tm mask h k+(m-tm mask h k)=m by lia] at b;rw[b];exact all _ (by lia))
   exact this
theorem zq{a c:Type}{f g:a->Option c}: ∀{l:List a},(∀x∈l,f x=g x)->l.filterMap f=l.filterMap g
 |[],_=>rfl
 |x::l,h=>by rw[uP,uP,h x iF,zq λy b=>h y (iK _ b)]
def nS(mask:Nat)(ow:uL):List (Nat×Nat):=(List.range (mask+1)).filterMap λj=>(ow.getD j none).map (j,·)
def NG:(j,i)∈nS mask ow↔j<=mask/\ow.getD j none=some i:=by
 unfold nS;simp only[List.mem_filterMap,rQ,Option.map_eq_some_iff,Prod.mk.injEq];constructor
 ·rintro⟨a,h1,b,c,rfl,rfl⟩;exact⟨by lia,c⟩
 ·rintro⟨h1,c⟩;exact⟨j,by lia,i,c,rfl,rfl⟩
def MC(mask:Nat)(ow:uL):((nS mask ow).map (·.1)).Pairwise (· < ·):=by
 unfold nS;rw[List.map_filterMap,List.pairwise_filterMap];refine TQ.imp λ{a b} e x c y d=>?_;simp only[Option.mem_def,Option.map_map,Option.map_eq_some_iff,Function.comp] at c d;obtain⟨_,_,rfl⟩:=c;obtain⟨_,_,rfl⟩:=d;exact e
def MB{mask:Nat}{ow:uL}(f:ow.size=mask+1){j k:Nat}(d:j<=mask)(c:ow.getD j none=none):(nS mask (ow.setIfInBounds j (some k))).Perm ((j,k)::nS mask ow):=by
 have g: ∀i,(ow.setIfInBounds j (some k)).getD i none=if i=j then some k else ow.getD i none:=λi=>by
  simp only[ue,BI];by_cases e:i=j
  ·subst e;simp[show i<ow.size by lia]
  ·rw[gL (λz=>e z.symm),gL e]
 have split:List.range (mask+1)=List.range j++j::(List.range (mask-j)).map (λx=>j+1+x):=by
  rw[show mask+1=j+(mask-j+1) by lia,List.range_add,List.range_succ_eq_map];simp[yq,wd,Nat.add_comm 1]
 unfold nS;rw[split,Kl,Kl,uP,uP];simp only[g,c,gD rfl,Option.map_none,Option.map_some]
 have a1:(List.range j).filterMap (λi=>(if i=j then some k else ow.getD i none).map (i,·))=(List.range j).filterMap (λi=>(ow.getD i none).map (i,·)):=
  zq λi a=>by rw[rQ] at a;rw[gL (by lia)]
 have b:((List.range (mask-j)).map (λx=>j+1+x)).filterMap (λi=>(if i=j then some k else ow.getD i none).map (i,·))=((List.range (mask-j)).map (λx=>j+1+x)).filterMap (λi=>(ow.getD i none).map (i,·)):=
  zq λi a=>by
   obtain⟨x,_,rfl⟩:=kZ.mp a;rw[gL (by lia)]
 rw[a1,b];exact NC
structure LayOk(mask:Nat)(hs:gB)(ow:uL):Prop where
 size:ow.size=mask+1
 perm:((nS mask ow).map (·.2)).Perm (List.range hs.length)
 road: ∀j i h,ow.getD j none=some i->hs[i]?=some h-> ∃n,(pr mask h n).j=j/\ ∀m,m<n->occ ow (pr mask h m).j
def HS(h:occ ow x):occ (ow.setIfInBounds j (some k)) x:=by
 obtain⟨i,a⟩:=h;unfold occ;simp only[ue,BI] at a ⊢;by_cases e:j=x
 ·subst e;rw[gD rfl];split
  ·exact⟨k,rfl⟩
  ·rename_i b;rw[BH (by lia)] at a;simp at a
 ·rw[gL e];exact⟨i,a⟩
def LayOk.step{mask k:Nat}(hk:mask+1=2^k){a:gB}{ow:uL}(ok:LayOk mask a ow)(h:Int)(E:a.length<=mask):
  ∃j,SetTable.layClean.free mask ow (SetTable.turns mask) (SetTable.bits h%(mask+1)) (SetTable.bits h)=some j/\LayOk mask (a++[h]) (ow.setIfInBounds j (some a.length)):=by
 have p:(nS mask ow).length=a.length:=by have:=ok.perm.length_eq;simpa using this
 obtain⟨e,o,w⟩:=zi mask ((nS mask ow).map (·.1)) (by rw[iJ];lia)
 have C: ¬occ ow e:=by
  rintro⟨i,f⟩;exact w (kZ.mpr ⟨(e,i),NG.mpr ⟨o,f⟩,rfl⟩)
 obtain⟨r,y,l⟩:=Ek hk h o;obtain⟨n,f1,f2,t⟩:=A8 ok.size h (SetTable.turns mask) 0 ⟨r,kb _,by unfold SetTable.turns;lia,by rw[l];exact C⟩ (λm c=>by simp[tm] at c);have v:=LM mask h n
 have s:ow.getD (pr mask h n).j none=none:=by
  cases x:ow.getD (pr mask h n).j none with
  |none=>rfl
  |some i=>exact absurd ⟨i,x⟩ f2
 refine⟨_,f1,⟨by rw[Array.size_setIfInBounds];exact ok.size,?_,λj i u g1 g2=>?_⟩⟩
 ·refine((MB ok.size v s).map _).trans ?_;rw[iu,lM,wq,List.range_succ];exact(List.Perm.cons _ ok.perm).trans (Kk _ _).symm
 ·by_cases b:j=(pr mask h n).j
  ·subst b
   have:i=a.length:=by
    simp only[ue,BI,gD rfl] at g1;rw[gD True.intro,gD (by rw[ok.size];lia)] at g1;exact(jw g1).symm
   subst this;rw[oX (iO _)] at g2;simp at g2;subst g2;exact⟨n,rfl,λm c=>HS (t m c)⟩
  ·have d:ow.getD j none=some i:=by
    simp only[ue,BI] at g1 ⊢;rw[gL (λz=>b z.symm)] at g1;exact g1
   have f:i<a.length:=by
    have g:j<=mask:=by
     by_cases q:j<ow.size
     ·have:=ok.size;lia
     ·rw[ue,BH (by lia)] at d;simp at d
    have:=ok.perm.mem_iff.mp (kZ.mpr ⟨(j,i),NG.mpr ⟨g,d⟩,rfl⟩);exact rQ.mp this
   rw[qz f] at g2;obtain⟨q,A,B⟩:=ok.road j i u d g2;exact⟨q,A,λm c=>HS (B m c)⟩
def LayOk.start(mask:Nat):LayOk mask [] (Array.replicate (mask+1) none) where
 size:=by simp
 perm:=by
  have:nS mask (Array.replicate (mask+1) none)=[]:=by
   unfold nS;refine List.filterMap_eq_nil_iff.mpr λj a=>?_;rw[ue,Kj];split<;>rfl
  rw[this];exact ug _
 road:=λj i h h1=>by
  rw[ue,Kj] at h1;split at h1<;>cases h1
def vz(mask:Nat)(a:Option (Array (Option Nat)×Nat))(h:Int):Option (Array (Option Nat)×Nat):=do
 let(owner,k) <-a
 let j <-SetTable.layClean.free mask owner (SetTable.turns mask) (SetTable.bits h%(mask+1)) (SetTable.bits h)
 pure (owner.setIfInBounds j (some k),k+1)
theorem Eo{mask k:Nat}(hk:mask+1=2^k): ∀(l a:gB) (ow:uL),LayOk mask a ow->a.length+l.length<=mask+1->
  ∃c,l.foldl (vz mask) (some (ow,a.length))=some (c,a.length+l.length)/\LayOk mask (a++l) c
 |[],a,ow,ok,_=>⟨ow,rfl,by rw[yy];exact ok⟩
 |h::l,a,ow,ok,g=>by
  rw[ju] at g;obtain⟨j,e,d⟩:=ok.step hk h (by lia);obtain⟨c,f,b⟩:=Eo hk l (a++[h]) _ d (by rw[lM,wq];lia);refine⟨c,?_,by rw[oW] at b;exact b⟩;rw[qV]
  have:vz mask (some (ow,a.length)) h=some (ow.setIfInBounds j (some a.length),a.length+1):=by
   unfold vz;show(SetTable.layClean.free mask ow (SetTable.turns mask) (SetTable.bits h%(mask+1)) (SetTable.bits h)>>=_)=_;rw[e];rfl
  rw[this];rw[lM,wq] at f;rw[f,ju]
  congr 2;lia
def Ep(hk:mask+1=2^k)(a:gB)(c:a.length<=mask): ∃ow,SetTable.layClean mask a.toArray=some ow/\LayOk mask a ow:=by
 obtain⟨ow,e,ok⟩:=Eo hk a [] _ (LayOk.start mask) (by simp;lia);refine⟨ow,?_,by simpa using ok⟩;unfold SetTable.layClean;rw[<-Array.foldl_toList];show Option.map _ (List.foldl (vz mask) _ a)=_;have b:List.foldl (vz mask) (some (Array.replicate (mask+1) none,0)) a=some (ow,a.length):=by simpa using e
 rw[b];rfl
def Pn(hk:mask+1=2^k)(w:3<=k)(o:k<=11)(finger moves:Nat)(led plain:Bool)(d:gB)(E:5*d.length<3*mask):
  ∃t c,SetTable.laid mask finger moves led plain d.toArray=some (t,c)/\c.toList.Perm (List.range d.length)/\TabOk (c.toList.map λi=>d.getD i 0) t/\t.plain=plain/\t.led=led:=by
 obtain⟨ow,e,ok⟩:=Ep hk d (by lia);refine⟨{mask,place:=((nS mask ow).map (·.1)).toArray,dummies:= #[],finger,led,moves,plain},((nS mask ow).map (·.2)).toArray,?_,by simpa using ok.perm,?_,rfl,rfl⟩
 ·unfold SetTable.laid;rw[e];rfl
 ·have g:(nS mask ow).length=d.length:=by have:=ok.perm.length_eq;simpa using this
  refine⟨⟨k,w,o,hk⟩,rfl,by simp,by simp[g];lia,by simpa using MC mask ow,λj z=>?_,λi h j g1 g2=>?_⟩
  ·have v:j∈(nS mask ow).map (·.1):=by simpa using z
   obtain⟨⟨a,b⟩,q,rfl⟩:=kZ.mp v;exact(NG.mp q).1
  ·have s:((nS mask ow).map (·.2)).map (λi=>d.getD i 0)=(((nS mask ow).map (·.2)).toArray).toList.map λi=>d.getD i 0:=by simp
   rw[<-s,kY,kY] at g1;have f:((nS mask ow).map (·.1))[i]?=some j:=by simpa using g2
   rw[kY] at f
   cases l:(nS mask ow)[i]? with
   |none=>rw[l] at f;cases f
   |some p=>
    obtain⟨a,b⟩:=p;rw[l] at g1 f;simp at g1 f;subst f;have q:=NG.mp (lN l)
    have x:b<d.length:=by
     have:=ok.perm.mem_iff.mp (kZ.mpr ⟨(a,b),lN l,rfl⟩);exact rQ.mp this
    have y:d[b]?=some h:=by rw[hX x] at g1 ⊢;simpa using g1
    obtain⟨n,B,C⟩:=ok.road a b h q.2 y;refine⟨n,B,λm r=>?_⟩;obtain⟨A,u⟩:=C m r;show(pr mask h m).j∈(((nS mask ow).map (·.1)).toArray).toList;have:(pr mask h m).j∈(nS mask ow).map (·.1):=kZ.mpr ⟨(_,A),NG.mpr ⟨LM mask h m,u⟩,rfl⟩;simpa using this
def Cz: ∀n,n<2048-> ∃k,3<=k/\k<=11/\SetTable.sizeAbove n=2^k/\n<2^k:=by
 intro n h
 have step: ∀(f k:Nat),3<=k->k<=11->11<k+f-> ∃b,3<=b/\b<=11/\SetTable.sizeAbove.go n f (2^k)=2^b/\n<2^b:=by
  intro f
  induction f with
  |zero=>intro k h1 c d;lia
  |succ f g=>
   intro k h1 c d;unfold SetTable.sizeAbove.go;by_cases a:2^k<=n
   ·rw[gD a,<-pN];have:k≠11:=λe=>by subst e;lia
    exact g (k+1) (by lia) (by lia) (by lia)
   ·rw[gL a];exact⟨k,h1,c,rfl,by lia⟩
 exact step 64 3 (by lia) (by lia) (by lia)
open PyProof.Rows PySem.SeqAt
def Jk{g:gB}{t:ll}(ok:TabOk g t){hashAt:Nat->Int}{h:Int}{p:SetTable.Probe}{n:Nat}(f:p=pr t.mask h n)(e: ∀m,m<n->(pr t.mask h m).j∈t.place.toList):
    ∃m,n<=m/\m<10*(t.mask+14)/\(∀q,n<=q->q<m-> ∃i,t.place[i]?=some (pr t.mask h q).j/\hashAt i≠h)/\
      (((pr t.mask h m).j∉t.place.toList/\t.probe hashAt h p=some (.empty (pr t.mask h m).j none))\/
       (∃i,t.place[i]?=some (pr t.mask h m).j/\hashAt i=h/\t.probe hashAt h p=some (.candidate (pr t.mask h m).j i (pr t.mask h (m+1))))):=by
  subst f;obtain⟨M,h1,a⟩:=ok.free h
  have c:n<=M:=by
    by_cases b:M<n
    · exact absurd (e M b) a
    · lia
  obtain⟨m,g1,g2,g3⟩:=D4 ok hashAt h (10*SetTable.turns t.mask) n ⟨M,c,by unfold SetTable.turns;lia,a⟩
  have k:m<=M:=by
    by_cases b:M<m
    · obtain⟨i,d,_⟩:=g2 M c b
      rw[<-lq] at d;exact absurd (lN d) a
    · lia
  exact⟨m,g1,by lia,g2,g3⟩
section
variable {prog:gR}{w:gJ}{A:gM}{E:hC}{s:gn}
structure Srch(A:gM)(s:gn)(a:gm)(es:sM)(n:Nat)(t:ll)(x:gA)(h:Int)(eqs:Nat->Bool):Prop where
 at_: ∃o,s.heap.get? a=some o/\o.data= .set es n t
 tab:TabOk (es.toList.map (·.1)) t
 refs: ∀(i:Nat) (e:Int×Value),es[i]?=some e-> ∃b,e.2= .ref b
 eq: ∀(i:Nat) (e:Int×Value),es[i]?=some e->EqAt A s e.2 x (eqs i)
 hash: ∀(i:Nat) (e:Int×Value),es[i]?=some e->eqs i=true->e.1=h
 quiet: ∀(l:iL) (prog:gR) (w:gJ) (E:hC) (Q:qM),(∀v∈l,∃e∈es.toList,e.2=v)->Q false s->wpAny (model prog w) A (searchCouldBeSeen x l) Q E s
theorem Mn(ok:TabOk c t):t.gaveWay=false:=by
 obtain⟨k,h1,_,b⟩:=ok.pow;obtain⟨a,rfl⟩: ∃a,k=a+1:=⟨k-1,by lia⟩
 rw[pN] at b;unfold SetTable.gaveWay;rw[xH];lia
def Iq(ok:TabOk a t)(h:a.length=n):t.fits n=true:=by
 have:=ok.len;have:=ok.room;unfold SetTable.fits SetTable.fill;rw[ok.dum];simp only[kX,beq_iff_eq,qO];exact⟨by lia,by show _+0<=_;lia⟩
def Srch.fits{a b n t x h eqs}(S:Srch A s a b n t x h eqs):t.fits b.size=true:=Iq S.tab (by simp)
theorem ou{a:gm}{l:sM}{nn:Nat}{t:ll}{x:gA}{h:Int}{c:Nat->Bool}{adding:Bool}(S:Srch A s a l nn t x h c){Q:SetFound->Shared->Prop}
  (u: ∀i r,c i=true->i<l.size->(r=none\/r=some i)->(adding=false->r=some i)->Q (.there r) s)
  (O:(∀i,i<l.size->c i=false)-> ∀n,(pr t.mask h n).j∉t.place.toList->(∀m,m<n->(pr t.mask h m).j∈t.place.toList)->Q (.free (pr t.mask h n).j false) s):
  ∀(d n:Nat) (B:Option SetTable.Probe),B.getD (t.probeStart h)=pr t.mask h n->(∀q,q<n-> ∃i,t.place[i]?=some (pr t.mask h q).j/\c i=false)->10*(t.mask+14)<n+d->n<=10*(t.mask+14)->
   wpAny (model prog w) A (setSearchFrom a x h adding d B) Q E s
 |0,n,B,_,_,hf,hn=>by lia
 |d+1,n,B,m8,Y,hf,hn=>by
  obtain⟨o,L,hd⟩:=S.at_
  have occ: ∀m,m<n->(pr t.mask h m).j∈t.place.toList:=λm X=>by
   obtain⟨i,k,_⟩:=Y m X;rw[<-lq] at k;exact lN k
  unfold setSearchFrom;refine gk (qN L hd S.fits ?_);dsimp only;rw[Mn S.tab];simp only[iw,↓reduceIte];generalize W:t.probe _ h _=P;obtain⟨m,m1,m2,m3,K⟩:=Jk S.tab m8 occ (hashAt:=λi=>(l[i]?.map (·.1)).getD 0);have J:t.probe (λi=>(l[i]?.map (·.1)).getD 0) h (B.getD (t.probeStart h))=P:=W;rw[J] at K
  have U: ∀(i:Nat) (j:Nat),t.place[i]?=some j-> ∃e,l[i]?=some e/\(l[i]?.map (·.1)).getD 0=e.1:=λi j k=>by
   have h1:=(JV.mp k).1;have I:=S.tab.len;rw[iJ,ji] at I;exact⟨l[i],om (by lia),by rw[om (by lia)];rfl⟩
  have ne: ∀(i:Nat) (j:Nat),t.place[i]?=some j->(l[i]?.map (·.1)).getD 0≠h->c i=false:=λi j k N=>by
   obtain⟨e,g,D⟩:=U i j k
   cases f:c i with
   |false=>rfl
   |true=>exact absurd (D.trans (S.hash i e g f)) N
  have seen: ∀q,q<m-> ∃i,t.place[i]?=some (pr t.mask h q).j/\c i=false:=λq f=>by
   by_cases p:q<n
   ·exact Y q p
   ·obtain⟨i,k,N⟩:=m3 q (by lia) f;exact⟨i,k,ne i _ k N⟩
  rcases K with⟨a1,a2⟩|⟨i,a1,a2,a3⟩
  ·subst a2;dsimp only;refine gw (O (λi k=>?_) m a1 λq f=>?_)
   ·cases f:c i with
    |false=>rfl
    |true=>
     exfalso;have g:l[i]?=some l[i]:=om k;have h1:=S.hash i _ g f;have I:=S.tab.len;rw[iJ,ji] at I;have G:t.place[i]?=some t.place[i]:=om (by lia);obtain⟨T,R,r2⟩:=S.tab.road i h t.place[i] (by rw[kY,lq,g];exact lX some h1) G
     have:T<m:=by
      by_cases p:T<m
      ·exact p
      ·exfalso;rcases Nat.lt_or_eq_of_le (Nat.not_lt.mp p) with p|heq
       ·exact a1 (r2 m p)
       ·subst heq;rw[<-lq] at G;rw[R] at a1;exact a1 (lN G)
     obtain⟨Z,g1,g2⟩:=seen T this;rw[R] at g1;have:Z=i:=by rw[<-zK S.tab.ris g1,zK S.tab.ris G]
     rw[this,f] at g2;cases g2
   ·obtain⟨i,k,_⟩:=seen q f;rw[<-lq] at k;exact lN k
  ·subst a3;dsimp only;obtain⟨e,g,D⟩:=U i _ a1;obtain⟨h',y⟩:=e;obtain⟨b,F⟩:=S.refs i _ g;dsimp only at F;subst F;have H:t.sameMemory t.moves t.mask=some true:=by simp[SetTable.sameMemory]
   have C:i<l.size:=(JV.mp g).1;cases hl:t.led
   ·simp only[yi,↓reduceIte];refine gk (S.quiet _ _ _ _ _ (λv hv=>?_) ?_)
    ·obtain⟨e,V,rfl⟩:=kZ.mp hv;exact⟨e,(TN.mp (by simpa using(Array.mem_filter.mp (TN.mp V)).1) |> λz=>by simpa using z),rfl⟩
    simp only[iw,↓reduceIte];rw[g];dsimp only;refine gk (kr (S.eq i _ g _ _ _ _ ?_));refine gk (qN L hd S.fits ?_);dsimp only
    cases f:c i with
    |true=>
     cases adding with
     |true=>simp only[Bool.and_self,↓reduceIte];exact gw (u i none f C (.inl rfl) (λz=>by cases z))
     |false=>
      simp only[Bool.false_and,iw,↓reduceIte,H,pk S.tab.ris a1,g];refine gk (BG ?_);simp only[↓reduceIte];exact gk (gw (gw (u i _ f C (.inr rfl) λ_=>rfl)))
    |false=>
     simp only[Bool.and_false,iw,↓reduceIte,H,pk S.tab.ris a1,g];refine gk (BG ?_);simp only[↓reduceIte];refine gk (gw ?_)
     exact ou S u O d (m+1) _ rfl (λq M=>by
      by_cases e:q=m
      ·subst e;exact⟨i,a1,f⟩
      ·exact seen q (by lia)) (by lia) (by lia)
   ·simp only[oj,iw,↓reduceIte];rw[g];dsimp only;refine gk (kr (S.eq i _ g _ _ _ _ ?_));refine gk (qN L hd S.fits ?_);dsimp only
    cases f:c i with
    |true=>
     cases adding with
     |true=>simp only[Bool.and_self,↓reduceIte];exact gw (u i none f C (.inl rfl) (λz=>by cases z))
     |false=>
      simp only[Bool.false_and,iw,↓reduceIte,H,pk S.tab.ris a1,g];refine gk (BG ?_);simp only[↓reduceIte];exact gk (gw (gw (u i _ f C (.inr rfl) λ_=>rfl)))
    |false=>
     simp only[Bool.and_false,iw,↓reduceIte,H,pk S.tab.ris a1,g];refine gk (BG ?_);simp only[↓reduceIte];refine gk (gw ?_)
     exact ou S u O d (m+1) _ rfl (λq M=>by
      by_cases e:q=m
      ·subst e;exact⟨i,a1,f⟩
      ·exact seen q (by lia)) (by lia) (by lia)
end
abbrev jn(a:sM)(n:Nat)(t:ll):Obj:={cls:= .type "set",data:= .set a n t}
section
variable {c:gR}{w:gJ}{A:gM}{E:hC}{s:gn}
def DM{h:gP}{a:gm}{b es':sM}{n:Nat}{t t':ll}(d:h.get? a=some (jn b n t)):(h.update a (Obj.putSet es' t')).get? a=some (jn es' (n+1) t'):=by
 have:=tx (Obj.putSet es' t') d (by rw[putSet_of es' t' rfl];rfl);rw[putSet_of es' t' rfl] at this;exact this
theorem Lu{b:Type}(a:Array b):(List.range a.size).filterMap (λi=>a[i]?)=a.toList:=by
 have: ∀(l:List b),(List.range l.length).filterMap (λi=>l[i]?)=l:=by
  intro l
  induction l with
  |nil=>rfl
  |cons x l d=>
   rw[ju,List.range_succ_eq_map,uP];simp only[List.getElem?_cons_zero,List.filterMap_map,yq,BJ,d]
 have h:=this a.toList;simpa using h
theorem Ip{a:sM}: ∀(l:jf),(∀i∈l,i<a.size)->(l.filterMap (λi=>a[i]?)).map (·.1)=l.map λi=>(a.toList.map (·.1)).getD i 0
 |[],_=>rfl
 |i::l,h=>by
  have b:=h i iF;rw[uP,om b];simp only[iu];rw[Ip l λj d=>h j (iK _ d)]
  congr 1
  simp[b]
def Ln{a:gm}{d:sM}{n:Nat}{t:ll}(g:s.heap.get? a=some (jn d n t))(v:t.fits d.size=true)(G:5<=d.size)(I:d.size<=500){Q:Unit->Shared->Prop}
  (h: ∀f es' C t',Heap.SameBut a s.heap f->f.get? a=some (jn es' C t')->es'.toList.Perm d.toList->TabOk (es'.toList.map (·.1)) t'->t'.plain=t.plain->t'.led=t.led->Q () {s with heap:=f}):
  wpAny (model c w) A (setRelay a (SetTable.grown d.size)) Q E s:=by
 have x:SetTable.grown d.size=d.size*4:=by unfold SetTable.grown;rw[gL (by lia)]
 obtain⟨k,B,j,u,lk⟩:=Cz (d.size*4) (by lia);have z:SetTable.sizeAbove (d.size*4)-1+1=2^k:=by have:=Nat.two_pow_pos k;lia
 obtain⟨t',b,o,e,p,q,r⟩:=Pn z B j t.finger (t.movedTo (SetTable.sizeAbove (d.size*4)-1)) t.led t.plain (d.toList.map (·.1)) (by rw[iJ,ji];lia);rw[iJ,ji] at e
 have er:t.relaid (d.map (·.1)) (d.size*4)=some (t',b):=by
  unfold SetTable.relaid;rw[<-o,<-Array.toList_map]
 have m: ∀i∈b.toList,i<d.size:=λi y=>rQ.mp (e.mem_iff.mp y);have l:(b.filterMap (d[·]?)).toList=b.toList.filterMap (λi=>d[i]?):=by simp
 have perm:(b.filterMap (d[·]?)).toList.Perm d.toList:=by
  rw[l];refine(e.filterMap _).trans ?_;rw[Lu]
 have sz:(b.filterMap (d[·]?)).size=d.size:=by rw[<-ji,perm.length_eq,ji]
 rw[x];unfold setRelay;refine gk (qN g rfl v ?_);dsimp only
 have H:2^k<=sizeLine:=by
  have:2^k<=2^11:=yj (by decide) j;rw[iN];lia
 rw[gL (by rw[u];lia),er];refine gk ?_;change wpAny _ _ (if((b.filterMap (d[·]?)).size !=d.size)=true then _ else _) _ _ _;rw[gL (by rw[sz];simp)];refine gw ?_;dsimp only;refine wpAny_storeSet_of g rfl ?_ (by rw[sz,iN];lia);refine h _ (b.filterMap (d[·]?)) (n+1) t' (qt s.heap a _) (DM g) perm ?_ q r;rw[l,Ip _ m];exact p
theorem oG{b:Type}(a:Array b)(p:Nat)(x:b):(SetTable.insertAt a p x).toList.Perm (x::a.toList):=by
 rw[kB];refine NC.trans ?_;rw[uj]
def VN{a b:gm}{d:sM}{n:Nat}{t:ll}{h:Int}{p:Nat->Bool}(S:Srch A s a d n t (.ref b) h p)(H:s.heap.get? a=some (jn d n t))(i4:t.plain=true)(hz:d.size+1<=500)
  (N: ∀(U:qM),U true s->wpAny (model c w) A (hashByValue 8 (.ref b)) U E s){Q:qM}
  (B:(∃i,i<d.size/\p i=true)->Q false s)
  (l6:(∀i,i<d.size->p i=false)-> ∀h' es' T t',Heap.SameBut a s.heap h'->h'.get? a=some (jn es' T t')->es'.toList.Perm ((h,.ref b)::d.toList)->TabOk (es'.toList.map (·.1)) t'->t'.plain=true->t'.led=t.led->Q true {s with heap:=h'}):
  wpAny (model c w) A (setAddHashed a (.ref b) h) Q E s:=by
 unfold setAddHashed setAddHashedIn;refine kr (gk (qN H rfl S.fits ?_));dsimp only;have V:byScan (.ref b) d=false:=rfl;rw[V];simp only[iw,↓reduceIte]
 have hm:t.mask+1<=2048:=by
  obtain⟨k,_,K,R⟩:=S.tab.pow;have:2^k<=2^11:=yj (by decide) K
  lia
 refine gk (ou S (adding:=true) (λi r h1 M _ _=>?_) (λF m h1 M=>?_) 100000 0 none rfl (λq hq=>by lia) (by lia) (by lia))
 ·dsimp only;exact gw (B ⟨i,M,h1⟩)
 ·dsimp only;refine gk (qN H rfl S.fits ?_);dsimp only
  have x:(t.put (pr t.mask h m).j).1={t with place:=SetTable.insertAt t.place (SetTable.below t.place (pr t.mask h m).j) (pr t.mask h m).j,dummies:= #[]}:=by
   unfold SetTable.put;dsimp only;rw[S.tab.dum,C7];rfl
  have P:(t.put (pr t.mask h m).j).2=SetTable.below t.place (pr t.mask h m).j:=rfl;have L:(t.put (pr t.mask h m).j).1.plain=true:=by rw[x];exact i4
  rw[gD L];refine gk (N _ ?_);simp only[↓reduceIte]
  have v:(SetTable.insertAt d (t.put (pr t.mask h m).j).2 (h,Value.ref b)).size=d.size+1:=by
   rw[<-ji,(oG d _ _).length_eq,ju,ji]
  refine gk (wpAny_storeSet_of H rfl ?_ (by rw[v,iN];lia));have D:=DM (es':=SetTable.insertAt d (t.put (pr t.mask h m).j).2 (h,Value.ref b)) (t':=(t.put (pr t.mask h m).j).1) H;have G:=qt s.heap a (Obj.putSet (SetTable.insertAt d (t.put (pr t.mask h m).j).2 (h,Value.ref b)) (t.put (pr t.mask h m).j).1);have f:d.toList.length=d.size:=ji;have o:=S.tab.len;rw[iJ,f] at o
  have l:(t.put (pr t.mask h m).j).1.place.size=d.size+1:=by
   rw[x];show(SetTable.insertAt t.place _ _).size=_;rw[<-ji,(oG t.place _ _).length_eq,ju,ji,o]
  have J:(t.put (pr t.mask h m).j).1.fill=d.size+1:=by
   unfold SetTable.fill;rw[l,x];rfl
  have I:(t.put (pr t.mask h m).j).1.mask=t.mask:=by rw[x]
  have g:(t.put (pr t.mask h m).j).1.led=t.led:=by rw[x]
  by_cases e:(t.put (pr t.mask h m).j).1.tooFull=true
  ·rw[e];simp only[yi,Bool.and_self,↓reduceIte];have u:=S.tab.room;rw[iJ,f] at u
   have Y:3*t.mask<=5*(d.size+1):=by
    unfold SetTable.tooFull at e;rw[J,I] at e;have:=of_decide_eq_true e;lia
   have m7:7<=t.mask:=by
    obtain⟨k,k3,_,R⟩:=S.tab.pow;have:2^3<=2^k:=yj (by decide) k3
    lia
   have y:(t.put (pr t.mask h m).j).1.fits (SetTable.insertAt d (t.put (pr t.mask h m).j).2 (h,Value.ref b)).size=true:=by
    unfold SetTable.fits;rw[l,v,J,I];simp only[BEq.rfl,ud,qO];lia
   rw[<-v];refine gk (Ln D y (by rw[v];lia) (by rw[v];lia) λh' es' T t' g1 g2 g3 W X Z=>?_);exact gw (l6 F h' es' T t' (G.trans g1) g2 (g3.trans (oG d _ _)) W (by rw[X];exact L) (by rw[Z];exact g))
  ·have C:(t.put (pr t.mask h m).j).1.tooFull=false:=by simpa using e
   rw[C];simp only[Bool.and_false,iw,↓reduceIte]
   have O:5*(d.size+1)<3*t.mask:=by
    unfold SetTable.tooFull at e;rw[J,I] at e;have: ¬(d.size+1)*5>=t.mask*3:=λz=>e (nG z)
    lia
   obtain⟨p1,p2⟩:=S.tab.put h1 M (by rw[iJ,f];exact O) rfl rfl;refine gw (l6 F _ _ _ _ G D (oG d _ _) ?_ L g);rw[kB,mF,iu,<-List.map_take,<-List.map_drop] at*;rw[P];exact p1
def Vh(S:Srch A s a d n t (.ref b) h eqs)(j:s.heap.get? a=some (jn d n t)) 
  (h1: ∀i,i<d.size->eqs i=true->Q (some i) s)(g:(∀i,i<d.size->eqs i=false)->Q none s):wpAny (model c w) A (setFind a (.ref b) h) Q E s:=by
 unfold setFind setFindIn;refine gk (qN j rfl S.fits ?_);dsimp only;have f:byScan (.ref b) d=false:=rfl;rw[f];simp only[iw,↓reduceIte]
 have p:t.mask+1<=2048:=by
  obtain⟨k,_,e,o⟩:=S.tab.pow;have:2^k<=2^11:=yj (by decide) e
  lia
 refine gk (ou S (adding:=false) (λi r g1 g2 _ g3=>?_) (λl m _ _=>?_) 100000 0 none rfl (λq u=>by lia) (by lia) (by lia))
 ·rw[g3 rfl];exact gw (h1 i g2 g1)
 ·exact gw (g l)
end
def zy:entryFor table "set.__iter__"=some Builtin.«frozenset.__iter__»:=entryFor_alias (id':="frozenset.__iter__") (by kernel_rfl) rfl (by decide+kernel) (by kernel_rfl)
def mM:Slot "set_iterator" "__next__" "set_iterator.__next__":= .of (owner:="set_iterator") (n:="__next__") (by rw[Fn,Fm];kernel_rfl) (by decide+kernel) (by decide+kernel) (by decide+kernel) (by first|exact .inl (by decide+kernel)|exact .inr (by decide+kernel)) (by rw[BF];kernel_rfl)
def uV:Slot "set_iterator" "__iter__" "set_iterator.__iter__":= .of (owner:="set_iterator") (n:="__iter__") (by rw[Fn,Fm];kernel_rfl) (by decide+kernel) (by decide+kernel) (by decide+kernel) (by first|exact .inl (by decide+kernel)|exact .inr (by decide+kernel)) (by rw[BF];kernel_rfl)
def tY:entryFor table "set_iterator.__next__"=some Builtin.«set_iterator.__next__»:=entryFor_of_fast (by kernel_rfl)
def Aq:entryFor table "set_iterator.__iter__"=some Builtin.«dict_keyiterator.__iter__»:=entryFor_alias (id':="dict_keyiterator.__iter__") (by kernel_rfl) rfl (by decide+kernel) (by kernel_rfl)
def vQ(a:gA):argsOk "set_iterator.__next__" ⟨[a],[]⟩:=by unfold argsOk;kernel_rfl
def Ds(a:gA):argsOk "set_iterator.__iter__" ⟨[a],[]⟩:=by unfold argsOk;kernel_rfl
theorem qG{a:Type}: ∀(l:List a) {i:Nat} (h:i<l.length),(l[i]::l.eraseIdx i).Perm l
 |x::l,0,_=>by simp
 |x::l,i+1,h=>by
  have:=qG l (i:=i) (by simpa using h);simp only[List.getElem_cons_succ,List.eraseIdx_cons_succ];exact(List.Perm.swap x _ _).trans (List.Perm.cons x this)
theorem vd{d:Type}(next:Nat->Nat): ∀(a k:Nat) (left:List d) (b:Array d),left.length<=a->(pickOrder.go next a k left b).toList.Perm (b.toList++left)
 |0,k,left,b,h=>by
  have:left=[]:=ND.mp (by omega);subst this;unfold pickOrder.go;simp
 |a+1,k,left,b,h=>by
  unfold pickOrder.go
  cases left with
  |nil=>simp
  |cons y l=>
   have c:next k%(y::l).length<(y::l).length:=vW _ (by simp);rw[hX c];dsimp only;refine(vd next a (k+1) _ _ (by rw[yh,gD c];simp at h ⊢;omega)).trans ?_;rw[Array.toList_push,oW];refine Ki _ ?_;exact qG _ c
def yU{b:Type}(next:Nat->Nat)(a:Array b):(pickOrder next a).toList.Perm a.toList:=by
 unfold pickOrder;have:=vd next a.size 0 a.toList #[] (by simp);simpa using this
def mK(w:gJ)(a:gm)(n:Nat)(b:sM):Array (Int×Value):=if w.params.followText "set-order"=true then pickOrder (w.params.setOrder a n) b else b
theorem E9(w:gJ)(a:gm)(n:Nat)(b:sM):(mK w a n b).toList.Perm b.toList:=by
 unfold mK;split
 ·exact yU _ _
 ·exact ug _
theorem nK(w:gJ)(a:gm)(n:Nat)(b:sM):(mK w a n b).size=b.size:=by
 rw[<-ji,(E9 w a n b).length_eq,ji]
def HA(t:ll):Nat->Nat
 |0=>0
 |i+1=>t.place.getD i 0+1
def lb(w:gJ)(t:ll)(i:Nat):Nat:=if w.params.followText "set-order"=true then 0 else HA t i
structure SetIs(w:gJ)(h:gP)(a:gm)(es:sM)(n:Nat)(t:ll):Prop where
 at_:h.get? a=some (jn es n t)
 tab:TabOk (es.toList.map (·.1)) t
 plain:t.plain=true
 led:t.led=!w.params.followText "set-order"
def SetIter(w:gJ)(h:gP)(c a:gm)(t:ll)(b n i:Nat):Prop:= ∃o,h.get? c=some o/\o.cls= .type "set_iterator"/\o.data= .fields #[.int (lb w t i) 0,.int i 0,.ref a,.int b 0,.int n 0]
section
variable {prog:gR}{w:gJ}{A:gM}{E:hC}{s:gn}
def SetIs.fits{h a b n t}(S:SetIs w h a b n t):t.fits b.size=true:=Iq S.tab (by simp)
def He(c:t.place.toList.Pairwise (· < ·))(j:i<=t.place.size):SetTable.below t.place (HA t i)=i:=by
 cases i with
 |zero=>
  obtain⟨h1,a,_⟩:=nX c 0
  cases g:SetTable.below t.place 0 with
  |zero=>exact g
  |succ k=>
   have h:0<t.place.size:=by omega
   have:=a 0 _ (by omega) (om h);omega
 |succ i=>
  have hd:t.place.getD i 0=t.place[i]:=by simp[Array.getD,show i<t.place.size by omega]
  show SetTable.below t.place (t.place.getD i 0+1)=i+1;rw[hd];have e:t.place[i]?=some t.place[i]:=om (by omega);obtain⟨h1,a,f⟩:=nX c (t.place[i]+1);by_cases l:SetTable.below t.place (t.place[i]+1)<i+1
  ·have:=f i _ (by omega) e;omega
  ·by_cases b:i+1<SetTable.below t.place (t.place[i]+1)
   ·have d:t.place[i+1]?=some t.place[i+1]:=om (by omega);have:=a (i+1) _ b d;have:=CJ c (pS i) e d;omega
   ·omega
def yJ{a:gm}{b:sM}{n:Nat}{t:ll}(S:SetIs w s.heap a b n t){i:Nat}(q:i<=b.size){Q:Option (Value×Nat)->Shared->Prop}
  (h1: ∀e,(mK w a n b)[i]?=some e->Q (some (e.2,lb w t (i+1))) s)(h:i=b.size->Q none s):wpAny (model prog w) A (setNext a (lb w t i) i n) Q E s:=by
 have p:=S.tab.len;rw[iJ,ji] at p;unfold setNext;refine gk (qN S.at_ rfl S.fits ?_);dsimp only;unfold setsByText;refine gk (gk (wo (gw ?_)));by_cases c:w.params.followText "set-order"=true
 ·have f:(model prog w).w.params.followText "set-order"=true:=c;rw[gD f,gL (by simp)];unfold setWalk setsByText;refine gk (gk (qN S.at_ rfl S.fits ?_));dsimp only;refine gk (gk (wo (gw ?_)));rw[gD f];refine gk (wo (gw (gw ?_)));have g:mK w a n b=pickOrder (w.params.setOrder a n) b:=by unfold mK;rw[gD c]
  have d: ∀k,lb w t k=0:=λk=>by unfold lb;rw[gD c]
  show Q (((pickOrder (w.params.setOrder a n) b)[i]?).map λe=>(e.2,lb w t i)) s;rw[<-g];rw[d] at h1;rw[d]
  cases j:(mK w a n b)[i]? with
  |some e=>exact h1 e j
  |none=>
   have:=Array.getElem?_eq_none_iff.mp j;rw[nK] at this;exact h (by omega)
 ·have f: ¬(model prog w).w.params.followText "set-order"=true:=c;rw[gL f];change wpAny _ _ (if(!t.plain&&decide (b.size>1))=true then _ else _) _ _ _;rw[gL (by rw[S.plain];simp)];have m:t.led=true:=by rw[S.led];simpa using c
  refine gk ?_;change wpAny _ _ (if(!t.led&&!b.isEmpty)=true then _ else _) _ _ _;rw[gL (by rw[m];simp)];refine gw ?_;have g:mK w a n b=b:=by unfold mK;rw[gL c]
  have d: ∀k,lb w t k=HA t k:=λk=>by unfold lb;rw[gL c]
  have l:SetTable.below t.place (lb w t i)=i:=by rw[d];exact He S.tab.ris (by omega)
  rw[l];rw[g] at h1;by_cases o:i<b.size
  ·have g1:b[i]?=some b[i]:=om o;have g2:t.place[i]?=some t.place[i]:=om (by omega);rw[g1,g2];have:=h1 b[i] g1;rw[d] at this;rw[show HA t (i+1)=t.place.getD i 0+1 from rfl] at this;have hd:t.place.getD i 0=t.place[i]:=by simp[Array.getD,show i<t.place.size by omega]
   rw[hd] at this;exact gw this
  ·rw[BH (by omega)];exact gw (h (by omega))
def SetIs.typeIs{a b n t}(S:SetIs w s.heap a b n t):s.TypeIs (.ref a) "set":=⟨_,S.at_,rfl⟩
def SetIter.typeIs{it a t z n i}(S:SetIter w s.heap it a t z n i):s.TypeIs (.ref it) "set_iterator":=let⟨o,c,b,_⟩:=S;⟨o,c,b⟩
def MQ(S:SetIs w s.heap a d n t) 
  (f: ∀c,SetIter w c s.heap.objs.size a t d.size n 0->(∀b o,s.heap.get? b=some o->c.get? b=some o)->c.objs.size=s.heap.objs.size+1->Q (.ref s.heap.objs.size) {s with heap:=c}):
  wpAny (model prog w) A (pyIter (.ref a)) Q E s:=by
 refine Fl S.typeIs Kh (nH Kh S.typeIs zy ?_ (PySem.F.args_set_iter_1 _));unfold Builtin.«frozenset.__iter__» Builtin.Frozenset.slot0 slotArgs;simp only[yg,oj,iw,↓reduceIte,pT,oV,tw];unfold Builtin.Frozenset.addrOf Builtin.Frozenset.sizeOf;refine gk (gw ?_);dsimp only;refine gk (gw ?_);refine gk (gk (Fj S.at_ rfl S.fits (gw ?_)));unfold setDrawn setsByText;refine gk (gk (qN S.at_ rfl S.fits ?_));dsimp only;refine gk (gk (wo (gw ?_)));refine gw ?_;change wpAny _ _ (if(!w.params.followText "set-order"&&(!t.plain&&decide (d.size>1)))=true then _ else _) _ _ _;rw[gL (by rw[S.plain];simp)];refine gk (gw ?_);unfold setEpoch;refine gk (gk (qN S.at_ rfl S.fits (gw ?_)));refine gk (kW (gw ⟨_,rfl,"set_iterator",_,⟨_,jv _ rfl,rfl⟩,mM.lookup,?_⟩));refine f _ ⟨_,jv _ rfl,rfl,?_⟩ (λb o e=>iW _ e) (qw _ _);have:lb w t 0=0:=by unfold lb;split<;>rfl
 rw[this];rfl
def Am{c a:gm}{b:sM}{n:Nat}{t:ll}(S:SetIs w s.heap a b n t){i:Nat}(f:SetIter w s.heap c a t b.size n i)(x:c≠a){e:Int×Value}(j:(mK w a n b)[i]?=some e){Q:Hn}
  (p: ∀d,SetIter w d c a t b.size n (i+1)->Heap.SameBut c s.heap d->Q (some e.2) {s with heap:=d}):wpAny (model prog w) A (pyNext (.ref c)) Q E s:=by
 obtain⟨o,g,q,hd⟩:=id f;have r:i<b.size:=by have:=(JV.mp j).1;rw[nK] at this;exact this
 unfold pyNext;refine gk (uk (uN (name:=Str.ofString "__next__") f.typeIs mM (nH mM f.typeIs tY ?_ (vQ _))));unfold Builtin.«set_iterator.__next__» slotArgs;simp only[yg,oj,iw,↓reduceIte,pT,oV,tw];refine gk (gw ?_);unfold fieldsOf;simp only[pT];refine gk (wx g ?_);rw[hd];refine gk (gw ?_);dsimp only;refine gk (Fj S.at_ rfl S.fits ?_);rw[gL (by simp)];have h1:((lb w t i:Nat):Int).toNat=lb w t i:=qQ _;have l:((i:Nat):Int).toNat=i:=qQ _;have m:((n:Nat):Int).toNat=n:=qQ _;rw[h1,l,m];refine gk (yJ S (wz r) (λv h=>?_) λz=>by omega);rw[j] at h;cases h;dsimp only;refine gk (um g hd (by simp) ?_);have k:=tx (Obj.mapFields λu=>u.setIfInBounds 0 (rawInt (lb w t (i+1)))) g (B7 (sZ hd _));refine gk (um k (sZ hd _) (by simp) (gw ⟨_,rfl,gw (p _ ?_ ((qt ..).trans (qt ..)))⟩));refine⟨_,tx _ k (B7 (sZ (sZ hd _) _)),?_,?_⟩
 ·rw[B6,B6];exact q
 ·rw[sZ (sZ hd _)];simp[rawInt]
def CV(k:A.handled=none)(S:SetIs w s.heap a c n t)(d:SetIter w s.heap it a t c.size n c.size)(q:it≠a) 
  (j: ∀e,Heap.ExtBut it s.heap e->Q none {s with heap:=e}):wpAny (model prog w) A (pyNext (.ref it)) Q E s:=by
 obtain⟨o,f,p,hd⟩:=id d;unfold pyNext;refine gk (uk (uN (name:=Str.ofString "__next__") d.typeIs mM (nH mM d.typeIs tY ?_ (vQ _))));unfold Builtin.«set_iterator.__next__» slotArgs;simp only[yg,oj,iw,↓reduceIte,pT,oV,tw];refine gk (gw ?_);unfold fieldsOf;simp only[pT];refine gk (wx f ?_);rw[hd];refine gk (gw ?_);dsimp only;refine gk (Fj S.at_ rfl S.fits ?_);rw[gL (by simp)];have h1:((lb w t c.size:Nat):Int).toNat=lb w t c.size:=qQ _;have h:((c.size:Nat):Int).toNat=c.size:=qQ _;have i:((n:Nat):Int).toNat=n:=qQ _;rw[h1,h,i];refine gk (yJ S (iO _) (λl g=>?_) λ_=>?_)
 ·have:=(JV.mp g).1;rw[nK] at this;omega
 dsimp only;refine gk (um f hd (by simp) ?_);show wpAny _ _ (newExc (.type "StopIteration") []>>=_) _ _ _;refine gk ?_;simp only[newExc,newTuple];refine gk (kW ?_ (by size_fits));refine gk (m:=firstArgMember _ _) (qv (a:=Value.none) (by first|rfl|(simp only[firstArgMember];rfl)) ?_);refine kW ?_ (by size_fits);simp only[raiseNew];refine gk (FG ?_);rw[show A.in1.handled=none from k];refine gk (gw (FF ?_));refine gk (wg (T:="StopIteration") (b:=true) ⟨_,jv _ rfl,rfl⟩ FC ?_);exact gw (j _ (((qt ..).extBut.push _).push _))
def JA(b:SetIter w s.heap it a t z n i)(c:Q (.ref it) s):wpAny (model prog w) A (pyIter (.ref it)) Q E s:=by
 refine Fl b.typeIs uV (nH uV b.typeIs Aq ?_ (Ds _));unfold Builtin.«dict_keyiterator.__iter__» slotArgs;simp only[yg,oj,iw,↓reduceIte,pT,oV,tw];exact gk (gw (gw ⟨_,rfl,"set_iterator",_,b.typeIs,mM.lookup,c⟩))
def SetIs.stay{a b n t}(S:SetIs w h a b n t)(k: ∀o,h.get? a=some o->c.get? a=some o):SetIs w c a b n t:=⟨k _ S.at_,S.tab,S.plain,S.led⟩
def IZ(q:A.handled=none)(I a:gm)(j:I≠a)(c:sM)(n:Nat)(t:ll):
  Walks prog w A I [I,a] [I] c.size (λi v=> ∃e,(mK w a n c)[i]?=some e/\v=e.2) (λi h=>SetIter w h I a t c.size n i/\SetIs w h a c n t) where
 sub:=λb d=>by simp at d;simp[d]
 frame:=λ_ _ _ st hk=>⟨(by obtain⟨o,h1,p⟩:=st.1;exact⟨o,hk I (by simp) o h1,p⟩),st.2.stay λo e=>hk a (by simp) o e⟩
 item:=λi s Q E r st f=>by
  have u:i<(mK w a n c).size:=by rw[nK];exact r
  have k:(mK w a n c)[i]?=some (mK w a n c)[i]:=om u;refine Am st.2 st.1 j k λg x l=>?_;exact f _ g s.toks ⟨_,k,rfl⟩ ⟨x,st.2.stay λo e=>l.extBut a o (λh=>j h.symm) e⟩ λb o d e=>l.extBut b o (λh=>d (by simp[h])) e
 done:=λs Q E st f=>CV q st.2 st.1 j λg m=>f g s.toks λb o d e=>m b o (λh=>d (by simp[h])) e
 self:=λ_ _ _ _ st f=>JA st.1 f
def PK(hh:A.handled=none)(S:SetIs w s.heap a d n t)(hn:d.size<=sizeLine) 
  (hQ: ∀i tk,(∀b o,s.heap.get? b=some o->i.get? b=some o)->Q ((mK w a n d).toList.map (·.2)) {s with heap:=i,toks:=tk}):wpAny (model prog w) A (collect (.ref a)) Q E s:=by
 have B:a<s.heap.objs.size:=ja S.at_;have r:a≠s.heap.objs.size:=iD B;have M:a≠s.heap.objs.size+1:=iD (tj B);have z:s.heap.objs.size≠s.heap.objs.size+1:=iD (pS _);unfold collect;refine gk (B8 (oU Kg ?_));rw[qu Kf _];show wpAny _ A.in1 (newList []>>=λl=>again (.builtin "list.__iadd__" ⟨[l,.ref a],[]⟩)) _ _ s;refine gk (kW ?_);refine gw ⟨tf BE _,oU Ke ?_⟩;rw[qu BE _];show wpAny _ A.in1 (Builtin.List.listExtendWith (.ref s.heap.objs.size) (.ref a) (.ref s.heap.objs.size)) _ _ _;generalize C:({cls:= .type "list",data:= .seq ([]:List Value).toArray}:Obj)=g;have p:SetIs w (s.heap.push g) a d n t:=S.stay λo e=>iW _ e;unfold Builtin.List.listExtendWith;refine gk (qx (T:="set") (s:={s with heap:=s.heap.push g}) p.typeIs ?_);have h1:Builtin.List.listSameRef (.ref s.heap.objs.size) (.ref a)=false:=by simp only[Builtin.List.listSameRef,xH];exact r.symm
 have c:(Value.type "set"==Value.type "list")=false:=by decide
 have V:(Value.type "set"==Value.type "tuple")=false:=by decide
 simp only[h1,c,V,Bool.or_false,iw,iQ];refine gk (MQ (s:={s with heap:=s.heap.push g}) p λc u q z2=>?_);have v:(s.heap.push g).objs.size=s.heap.objs.size+1:=qw _ _;have h:SetIs w c a d n t:=p.stay λo e=>q _ _ e;refine gk (kr ?_);unfold Builtin.List.listLengthHint;refine gk (qR (T:="set") (s:={s with heap:=c}) h.typeIs PySem.F.slot_set_len.lookup ?_);generalize G:("set.__len__":String)=id0;dsimp only;rw[show splitId id0=some ("set","__len__") from by subst G;decide+kernel];dsimp only;refine gk (wg (T:="set") (s:={s with heap:=c}) (b:=true) h.typeIs (by rw[BF];kernel_rfl) ?_);simp only[oj,iw,iQ];change wpAny _ _ (if _=true then _ else _) _ _ _;rw[gD (by subst G;decide+kernel)];refine gk (qx (T:="set") (s:={s with heap:=c}) h.typeIs ?_);dsimp only;refine gw ?_;change wpAny _ _ (if _=true then _ else _) _ _ _;rw[gD (by decide+kernel)];refine gk (tq ?_);have y:c.get? s.heap.objs.size=some g:=q _ _ (jv _ (by subst C;rfl));subst C;refine gk ?_;show wpAny _ A.in1 (updateSeq s.heap.objs.size (·.push .none)>>=λ_=>updateSeq s.heap.objs.size (·.pop)) _ _ _;refine gk (BD (s:={s with heap:=c}) y rfl ?_);have x:=tx (Obj.mapSeq (·.push Value.none)) y rfl;refine BD x rfl ?_;have K:=tx (Obj.mapSeq (·.pop)) x rfl
 have oth: ∀b o,b≠s.heap.objs.size->c.get? b=some o->((c.update s.heap.objs.size (Obj.mapSeq (·.push Value.none))).update s.heap.objs.size (Obj.mapSeq (·.pop))).get? b=some o:=
  λb o f e=>(wt _ _ (qA f)).trans ((wt _ _ (qA f)).trans e)
 have W:=(IZ (prog:=prog) (w:=w) (A:=A.in1) (by show A.handled=none;exact hh) (s.heap.objs.size+1) a M.symm d n t).toS;rw[v] at u;refine gw ⟨tf Kd _,?_⟩;rw[v];refine Kc W hn s.heap.objs.size (by simp only[jr,jT,kU,nF];exact⟨z,r.symm⟩) _ d.size 0 _ _ _ rfl (kb _) ?_ K (ItemsOf.nil _) λI m c' k Z X=>?_
 ·refine⟨?_,h.stay λo e=>oth a o r e⟩;obtain⟨o,g1,g2⟩:=u;exact⟨o,oth _ o z.symm g1,g2⟩
 show wpAny _ A (load s.heap.objs.size>>=_) _ _ I;refine gk (wx Z ?_);obtain⟨i,P,O,w9,L⟩:=I;have Y:P=s.gens:=k.gens;have U:O=s.drawn:=k.drawn;have D:L=s.os:=k.os;subst Y;subst U;subst D
 have N:m.toList=(mK w a n d).toList.map (·.2):=by
  obtain⟨a1,J⟩:=X;apply FH
  ·rw[iJ,ji,ji,a1,nK]
  ·intro j g1 g2;have R:m[j]?=some m.toList[j]:=by rw[<-lq];exact hX g1
   obtain⟨e,H,hv⟩:=J j _ R;rw[hv];rw[iJ,ji] at g2;rw[List.getElem_map];rw[<-lq,hX (by rw[ji];exact g2)] at H;cases H;rfl
 refine gw ?_;show Q m.toList _;rw[N];refine hQ i w9 λb o e=>?_;have f:=ja e;exact k.heap b o (by simp only[jr,jT,kU,nF];exact⟨iD f,iD (tj f)⟩) (oth b o (iD f) (q _ _ (iW _ e)))
end
section
variable {a:gR}{w:gJ}{A:gM}{R:Result->Shared->Prop}{I:gm}{d c:jl}{G:Array GenState->Array GenState->Prop}{n:Nat}{P:Nat->Value->Prop}{St:Nat->Shared->Prop}
def KJ(W:WalksS a w A.in1 I d c G n P St)(S:gm)(z:S∉d)(s0:gn)(j:Nat->Heap->Prop)(stay: ∀i h g,j i h->(∀o,h.get? S=some o->g.get? S=some o)->j i g)
  (step: ∀i v (f:gn) (Q:qM) (E:hC),i<n->P i v->j i f.heap->Moved (S::c) G s0 f->(∀r g y,f.toks<=y->Heap.SameBut S f.heap g->j (i+1) g->Q r {f with heap:=g,toks:=y})->wpAny (model a w) A.in1 (setAdd S v) Q E f):
  ∀(k i:Nat) (s:gn),n-i=k->i<=n->St i s->j i s.heap->Moved (S::c) G s0 s->(∀f,Moved (S::c) G s0 f->j n f.heap->R (.ok (.ret .none)) f)->
   codeAny (model a w) A (.builtin "set.update.loop" ⟨[.ref S,.ref I],[]⟩) R s:=by
 have C:S∉c:=λh=>z (W.sub _ h);have H: ∀b∈c,b∈S::c:=λb l=>iK _ l;intro k
 induction k with
 |zero=>
  intro i s hk U x t p q;have N:i=n:=by omega
  subst N;refine oU Kb ?_;rw[qu Fi _];show wpAny _ A.in1 (pyNext (.ref I)>>=_) _ _ s;refine gk (W.done s _ _ x λf m=>?_);show wpAny _ A.in1 (ret Value.none) _ _ f;exact gw (q f (BC W.gtrans p (m.mono H)) (stay _ _ _ t λo e=>m.heap S o C e))
 |succ k Y=>
  intro i s hk U x t p q;have u:i<n:=by omega
  refine oU Kb ?_;rw[qu Fi _];show wpAny _ A.in1 (pyNext (.ref I)>>=_) _ _ s;refine gk (W.item i s _ _ u x λv f T M m=>?_);have B:=BC W.gtrans p (m.mono H);show wpAny _ A.in1 (holding [v] (setAdd S v)>>=_) _ _ f;refine gk (kr (step i v f _ _ u T (stay _ _ _ t λo e=>m.heap S o C e) B λr g y L J O=>?_));refine gw ⟨tf Fi _,Y (i+1) _ (by omega) u (W.frame _ f _ _ M L λb l o e=>?_) O (B.then_heap L λb o l e=>?_) q⟩
  ·rw[J.2 b (λh:b=S=>z (by rw[<-h];exact l))];exact e
  ·rw[J.2 b (λh:b=S=>l (by rw[h];exact iF))];exact e
end
section
variable {f:gR}{w:gJ}{A:gM}{E:hC}{s:gn}
def Pd(a:gA)(h:Q₁ (.ref s.heap.objs.size) {s with heap:=s.heap.push (jn #[] 0 (.fresh 0 0 (!w.params.followText "set-order")))}):
  codeAny (model f w) A (.call (.builtin "set.__new__") ⟨[.type "set",a],[]⟩) (wants Q₁ E) s:=by
 refine yt ?_;show wpAny _ A.in1 (do checkBuiltinCall "set.__new__" ⟨[.type "set",a],[]⟩;again (.builtin "set.__new__" ⟨[.type "set",a],[]⟩)) _ _ s;refine gk (qv (PySem.F.newCall_set_1 a) (gw ⟨tf Ka _,oU PySem.F.entry_set_new ?_⟩));rw[qu Ka _];unfold Builtin.«set.__new__» Builtin.Frozenset.newClass;have c:=sub_set_self;obtain⟨b,g,d,e,os⟩:=s;dsimp only
 wp_walk
 refine wo (gw ?_);dsimp only;simp only[newObj];refine gk (wpAny_alloc (gw ?_));exact gw h
abbrev kf(w:gJ):SetTable:= .fresh 0 0 (!w.params.followText "set-order")
def TJ{h:gP}{a:gm}(e:h.get? a=some (jn #[] 0 (kf w))):SetIs w h a #[] 0 (kf w):=⟨e,TabOk.fresh _ _ _,rfl,rfl⟩
set_option maxHeartbeats 8000000 in
def TK{l:gm}{a:lU}{Q:hC}(hh:A.handled=none)(p:s.heap.IsList l a\/s.heap.IsTuple l a)(m:Nat->Heap->Prop)
  (stay: ∀i h d,m i h->(∀o,h.get? s.heap.objs.size=some o->d.get? s.heap.objs.size=some o)->m i d)
  (oP: ∀d,d.get? s.heap.objs.size=some (jn #[] 0 (kf w))->m 0 d)
  (step: ∀i v (g:gn) (B:gM) (Q:qM) (E:hC),B.units<=A.units+20->a[i]?=some v->m i g.heap->(∀b o,s.heap.get? b=some o->g.heap.get? b=some o)->g.gens=s.gens->g.drawn=s.drawn->g.os=s.os->
   (∀r d y,g.toks<=y->Heap.SameBut s.heap.objs.size g.heap d->m (i+1) d->Q r {g with heap:=d,toks:=y})->wpAny (model f w) B (setAdd s.heap.objs.size v) Q E g)
  (h: ∀(d:gP) (y:Nat),m a.size d->(∀b o,s.heap.get? b=some o->d.get? b=some o)->Q (.ref s.heap.objs.size) {s with heap:=d,toks:=y}):
  wpAny (model f w) A (call (.type "set") [.ref l]) Q E s:=by
 obtain⟨c,tl,P⟩:=Ky.mro;have J:=Ky.made;have p6:=Ky.sub;refine wpAny_call (yt ?_);show wpAny _ _ (callAny (.type "set") _) _ _ _;refine gw ⟨Code.quiet_builtin _ (by decide+kernel),oU PySem.F.entry_type_call ?_⟩;rw[Around.under_plain (weight_type_call_type "set" [.ref l] []) rfl];have h1:=Ky.notType;have h2:=Ky.canCreate;have hct:=PySem.F.typeCall_set_1 (.ref l)
 repeat (any_goals (first|assumption|wp_step))
 refine qY (Pd (.ref l) (E:=E) (Q₁:=λobj q=>obj= .ref s.heap.objs.size/\q={s with heap:=s.heap.push (jn #[] 0 (kf w))}) ⟨rfl,rfl⟩) λr q L=>?_
 cases r with
 |error e=>exact L
 |ok fl=>
  cases fl with
  |ret obj=>
   obtain⟨rfl,rfl⟩:=L;have K:(s.heap.push (jn #[] 0 (kf w))).get? s.heap.objs.size=some (jn #[] 0 (kf w)):=jv _ rfl;have hT:Shared.TypeIs {s with heap:=s.heap.push (jn #[] 0 (kf w))} (.ref s.heap.objs.size) "set":=⟨_,K,rfl⟩
   have hli:=Ky.init.lookup;have hbi:=Ky.init.bind (.ref s.heap.objs.size)
   repeat (any_goals (first|assumption|wp_step))
   refine qY (codeAny_call_builtin (R:=wants (λr t=>r= .none/\ ∃d y,t={s with heap:=d,toks:=y}/\m a.size d/\(∀b o,s.heap.get? b=some o->d.get? b=some o)) E) Ky.init.plain PySem.F.entry_set_init (check_set_init_1 hT ?_)) λC t G=>?_
   ·obtain⟨c,hc,ol,U,Z,nl,O⟩: ∃c,(c="list"\/c="tuple")/\ ∃o,s.heap.get? l=some o/\o.cls= .type c/\ ∃n,o.data= .seq a n:=p.elim (λh=>⟨_,.inl rfl,h⟩) (λh=>⟨_,.inr rfl,h⟩)
    obtain⟨X,V,k7⟩:isSubtype (.type c) (.type "set")=pure false/\isSubtype (.type c) (.type "frozenset")=pure false/\(Value.type c==Value.type "dict")=false:=by
     rcases hc with rfl|rfl
     ·exact⟨PySem.F.sub_list_set,PySem.F.sub_list_frozenset,by decide⟩
     ·exact⟨PySem.F.sub_tuple_set,PySem.F.sub_tuple_frozenset,by decide⟩
    obtain⟨ocls,x,M,k⟩:=ol;simp only at Z O;subst Z;subst O;have S:(s.heap.push (jn #[] 0 (kf w))).get? l=some {cls:= .type c,dict:=x,data:= .seq a nl,slots:=k}:=iW _ U;have D:l<s.heap.objs.size:=ja U;have Y:A.in1.in1.in1.handled=none:=by simp[hh]
    have sz:(s.heap.push (jn #[] 0 (kf w))).objs.size=s.heap.objs.size+1:=qw _ _;have T:l≠(s.heap.push (jn #[] 0 (kf w))).objs.size:=by rw[sz];exact iD (tj D)
    have bp:s.heap.objs.size∉[(s.heap.push (jn #[] 0 (kf w))).objs.size,l]:=by
     rw[sz];simp only[jr,jT,kU,nF];exact⟨iD (pS _),pd D⟩
    obtain⟨St,W,o0,h0,H⟩: ∃St,Walks f w A.in1.in1.in1 (s.heap.push (jn #[] 0 (kf w))).objs.size [(s.heap.push (jn #[] 0 (kf w))).objs.size,l] [(s.heap.push (jn #[] 0 (kf w))).objs.size] a.size (λi v=>a[i]?=some v) St/\ ∃o0,St 0 ((s.heap.push (jn #[] 0 (kf w))).push o0)/\
      ∀{A':gM} {Q:hC} {E},Q (.ref (s.heap.push (jn #[] 0 (kf w))).objs.size) {s with heap:=(s.heap.push (jn #[] 0 (kf w))).push o0}->wpAny (model f w) A' (pyIter (.ref l)) Q E {s with heap:=s.heap.push (jn #[] 0 (kf w))}:=by
     rcases p with p|p
     ·exact⟨_,Walks.list Y _ l T a,_,⟨⟨_,jv _ rfl,rfl,rfl⟩,(p.push _).push _⟩,λh=>yz (p.push _) h⟩
     ·exact⟨_,Walks.tuple Y _ l T a,_,⟨⟨_,jv _ rfl,rfl,rfl⟩,(p.push _).push _⟩,λh=>F5 (p.push _) h⟩
    unfold Builtin.«set.__init__» noKeywords Builtin.Frozenset.updateFrom;generalize I:pyIter=PI
    wp_walk
    subst I;refine H ?_;refine gk (B8 ?_);refine KJ W.toS s.heap.objs.size bp _ m stay (λi v g Q' E' hi hP fP j hk=>?_) (a.size-0) 0 _ (by omega) (kb _) h0 (oP _ (iW _ K)) (Moved.refl λ_=>rfl) ?hR
    ·refine step i v g _ Q' E' ?_ hP fP (λb o e=>?_) j.gens j.drawn j.os hk
     ·show A.units+1+1+1<=A.units+20;omega
     ·have z:=ja e;exact j.heap b o (by rw[sz];simp only[jr,jT,kU,nF];exact⟨iD z,iD (tj z)⟩) (iW _ (iW _ e))
    case hR=>
     intro g j N;obtain⟨d,g',d',w9,aU⟩:=g;have eg:g'=s.gens:=j.gens;have ed:d'=s.drawn:=j.drawn;have eo:aU=s.os:=j.os;subst eg;subst ed;subst eo;show wpAny _ _ _ _ _ _;refine gw ?_;show wpAny _ _ (ret Value.none) _ _ _;refine gw ⟨rfl,d,w9,rfl,N,λb o e=>?_⟩;have z:=ja e;exact j.heap b o (by rw[sz];simp only[jr,jT,kU,nF];exact⟨iD z,iD (tj z)⟩) (iW _ (iW _ e))
   ·cases C with
    |error e=>exact G
    |ok u=>
     cases u with
     |ret r=>
      obtain⟨rfl,d,y,rfl,N,fA⟩:=G
      repeat (any_goals (first|assumption|wp_step))
      exact h _ _ N fA
     |_=>exact G.elim
  |_=>exact L.elim
end
structure DRaw(h:gP)(d:gm)(es:Array DictEntry)(ep:Nat):Prop where
 at_: ∃o,h.get? d=some o/\o.ExactDict/\o.data= .dict es ep
def DRaw.stay{d b a}(x:DRaw h d b a)(k: ∀o,h.get? d=some o->c.get? d=some o):DRaw c d b a:=let⟨o,h1,r⟩:=x.at_;⟨o,k _ h1,r⟩
section
variable {prog:gR}{w:gJ}{A:gM}{E:hC}{s:gn}
def DRaw.typeIs{d b a}(x:DRaw s.heap d b a):s.TypeIs (.ref d) "dict":=let⟨o,h1,r,_⟩:=x.at_;⟨o,h1,r.1⟩
def JB(hd:(d==sysModules)=false)(c:DRaw s.heap d g f)
  (h:Q (.ref s.heap.objs.size) {s with heap:=s.heap.push {cls:= .type "dict_keyiterator",data:= .fields #[.ref d,.int 0 0,.int g.size 0,.int f 0]}}):wpAny (model prog w) A (pyIter (.ref d)) Q E s:=by
 have a:=c.typeIs;obtain⟨o,e,i,b⟩:=c.at_;refine Fl a J9 (nH J9 a PySem.F.entry_dict_iter ?_ (PySem.F.args_dict_iter_1 _));unfold Builtin.«dict.__iter__»;refine gk ?_;unfold Builtin.Dict.dictSlotNone;refine gk (J8 a ?_);change wpAny _ _ (pure (Value.ref d)) _ _ s;refine gw ?_;change wpAny _ _ (Builtin.Dict.showsAll d>>=_) _ _ s;unfold Builtin.Dict.showsAll;rw[gL (by rw[hd];exact je)];refine gk (gw ?_);refine gk (Fh e b ?_);refine gk (Fg e b ?_);refine gk (kW (gw ⟨_,rfl,"dict_keyiterator",_,⟨_,jv _ rfl,rfl⟩,AD.lookup,?_⟩));simpa[rawInt] using h
def ze{b d:gm}{i f:Nat}{c:Array DictEntry}{e:DictEntry}{Q:Hn}(a:s.heap.IsKeyIter b d i c.size f)(q:DRaw s.heap d c f)(r:c[i]?=some e)
  (n: ∀g,g.IsKeyIter b d (i+1) c.size f->Heap.SameBut b s.heap g->Q (some e.key) {s with heap:=g}):wpAny (model prog w) A (pyNext (.ref b)) Q E s:=by
 obtain⟨o,h,p,hd⟩:=id a;obtain⟨t,k,u,j⟩:=q.at_;unfold pyNext;refine gk (uk (uN (name:=Str.ofString "__next__") a.typeIs AD (nH AD a.typeIs J7 ?_ (J6 _))));refine gk (gw ?_);refine gk ?_;refine gk ?_;refine gk (BB a.typeIs (gw ?_));refine gk (wpAny_fieldsOf h hd ?_);have m:Builtin.Dict_items.ownsTuple "dict_keyiterator"=false:=by decide
 simp only[m,iw,iQ];change wpAny _ _ (if(Value.ref d==Value.none)=true then _ else _) _ _ s;rw[gL (show ¬((Value.ref d==Value.none)=true) from je)];refine gk (gw ?_);refine gk (Fh k j ?_);rw[gL (by simp)];refine gk (gw ?_);refine gk (Fg k j ?_);rw[gL (by simp)];refine gw ?_;simp only[show ¬((i:Int)<0) from by omega,iQ,qQ,r];refine gk ?_;refine gk (BB a.typeIs (gw ?_));refine gk (J5 a.typeIs ?_);change wpAny _ _ (setField (.ref b) 1 (rawInt ((i:Int)+1))>>=_) _ _ s;refine gk (um h hd (by simp) ?_)
 have l:(s.heap.update b (Obj.mapFields (·.setIfInBounds 1 (rawInt ((i:Int)+1))))).IsKeyIter b d (i+1) c.size f:=
  ⟨_,tx _ h (B7 (sZ hd _)),(B6 ..).trans p,by rw[sZ hd];simp[rawInt]⟩
 refine gk (kr ?_);refine gk (J5 (s:={s with heap:=s.heap.update b (Obj.mapFields (·.setIfInBounds 1 (rawInt ((i:Int)+1))))}) l.typeIs ?_);change wpAny _ _ (pure e.key) _ _ _;exact gw (gw ⟨_,rfl,gw (n _ l (qt ..))⟩)
def An(n:A.handled=none)(c:s.heap.IsKeyIter it d e.size e.size k)(p:DRaw s.heap d e k)
  (l: ∀h,Heap.ExtBut it s.heap h->Q none {s with heap:=h}):wpAny (model prog w) A (pyNext (.ref it)) Q E s:=by
 obtain⟨o,i,q,hd⟩:=id c;obtain⟨r,g,t,f⟩:=p.at_;unfold pyNext;refine gk (uk (uN (name:=Str.ofString "__next__") c.typeIs AD (nH AD c.typeIs J7 ?_ (J6 _))));refine gk (gw ?_);refine gk ?_;refine gk ?_;refine gk (BB c.typeIs (gw ?_));refine gk (wpAny_fieldsOf i hd ?_);have j:Builtin.Dict_items.ownsTuple "dict_keyiterator"=false:=by decide
 simp only[j,iw,iQ];change wpAny _ _ (if(Value.ref d==Value.none)=true then _ else _) _ _ s;rw[gL (show ¬((Value.ref d==Value.none)=true) from je)];refine gk (gw ?_);refine gk (Fh g f ?_);rw[gL (by simp)];refine gk (gw ?_);refine gk (Fg g f ?_);rw[gL (by simp)];refine gw ?_;simp only[show ¬((e.size:Int)<0) from by omega,iQ,qQ,BH (iO e.size)];refine gk ?_;refine gk (BB c.typeIs (gw ?_));change wpAny _ _ (setField (.ref it) 0 .none>>=_) _ _ s;refine gk (um i hd (by simp) ?_);change wpAny _ _ (newExc (.type "StopIteration") []>>=_) _ _ _;refine gk ?_;simp only[newExc,newTuple];refine gk (kW ?_ (by size_fits));refine gk (m:=firstArgMember _ _) (qv (a:=Value.none) (by first|rfl|(simp only[firstArgMember];rfl)) ?_);refine kW ?_ (by size_fits);simp only[raiseNew];refine gk (FG ?_);rw[show A.in1.handled=none from n];refine gk (gw (FF ?_));refine gk (wg (T:="StopIteration") (b:=true) ⟨_,jv _ rfl,rfl⟩ FC ?_);exact gw (l _ (((qt ..).extBut.push _).push _))
def G4(n:A.handled=none)(I d:gm)(q:I≠d)(a:Array DictEntry)(j:Nat):Walks prog w A I [I,d] [I] a.size (λi v=> ∃e,a[i]?=some e/\v=e.key) (λi h=>h.IsKeyIter I d i a.size j/\DRaw h d a j) where
 sub:=λb c=>by simp at c;simp[c]
 frame:=λ_ _ _ st hk=>⟨st.1.at λo e=>hk I (by simp) o e,st.2.stay λo e=>hk d (by simp) o e⟩
 item:=λi s Q E p st f=>by
  have k:a[i]?=some a[i]:=om p;refine ze st.1 st.2 k λg r l=>?_;exact f _ g s.toks ⟨_,k,rfl⟩ ⟨r,st.2.stay λo e=>l.extBut d o (λh=>q h.symm) e⟩ λb o c e=>l.extBut b o (λh=>c (by simp[h])) e
 done:=λs Q E st f=>An n st.1 st.2 λg m=>f g s.toks λb o c e=>m b o (λh=>c (by simp[h])) e
 self:=λ_ _ _ _ st f=>wpAny_pyIter_keyiter st.1 f
def NH(hd:(a==sysModules)=false)(hh:A.handled=none)(S:DRaw s.heap a d n)(hn:d.size<=sizeLine) 
  (hQ: ∀i tk,(∀b o,s.heap.get? b=some o->i.get? b=some o)->Q (d.toList.map (·.key)) {s with heap:=i,toks:=tk}):wpAny (model prog w) A (collect (.ref a)) Q E s:=by
 have B:a<s.heap.objs.size:=let⟨_,h1,_⟩:=S.at_;ja h1;have t:a≠s.heap.objs.size:=iD B;have M:a≠s.heap.objs.size+1:=iD (tj B);have z:s.heap.objs.size≠s.heap.objs.size+1:=iD (pS _);unfold collect;refine gk (B8 (oU Kg ?_));rw[qu Kf _];show wpAny _ A.in1 (newList []>>=λl=>again (.builtin "list.__iadd__" ⟨[l,.ref a],[]⟩)) _ _ s;refine gk (kW ?_);refine gw ⟨tf BE _,oU Ke ?_⟩;rw[qu BE _];show wpAny _ A.in1 (Builtin.List.listExtendWith (.ref s.heap.objs.size) (.ref a) (.ref s.heap.objs.size)) _ _ _;generalize C:({cls:= .type "list",data:= .seq ([]:List Value).toArray}:Obj)=f;have p:DRaw (s.heap.push f) a d n:=S.stay λo e=>iW _ e;unfold Builtin.List.listExtendWith;refine gk (qx (T:="dict") (s:={s with heap:=s.heap.push f}) p.typeIs ?_);have h1:Builtin.List.listSameRef (.ref s.heap.objs.size) (.ref a)=false:=by simp only[Builtin.List.listSameRef,xH];exact t.symm
 have c:(Value.type "dict"==Value.type "list")=false:=by decide
 have V:(Value.type "dict"==Value.type "tuple")=false:=by decide
 simp only[h1,c,V,Bool.or_false,iw,iQ];refine gk (JB (s:={s with heap:=s.heap.push f}) hd p ?_);obtain⟨c,q⟩: ∃c,c=(s.heap.push f).push {cls:= .type "dict_keyiterator",data:= .fields #[.ref a,.int 0 0,.int d.size 0,.int n 0]}:=⟨_,rfl⟩
 have u:c.IsKeyIter (s.heap.push f).objs.size a 0 d.size n:=by rw[q];exact⟨_,jv _ rfl,rfl,rfl⟩
 have r: ∀b o,(s.heap.push f).get? b=some o->c.get? b=some o:=λb o e=>by rw[q];exact iW _ e
 rw[<-q];have v:(s.heap.push f).objs.size=s.heap.objs.size+1:=qw _ _;have h:DRaw c a d n:=p.stay λo e=>r _ _ e;refine gk (kr ?_);unfold Builtin.List.listLengthHint;refine gk (qR (T:="dict") (s:={s with heap:=c}) h.typeIs PySem.F.slot_dict_len.lookup ?_);generalize G:("dict.__len__":String)=id0;dsimp only;rw[show splitId id0=some ("dict","__len__") from by subst G;decide+kernel];dsimp only;refine gk (wg (T:="dict") (s:={s with heap:=c}) (b:=true) h.typeIs (by rw[BF];kernel_rfl) ?_);simp only[oj,iw,iQ];change wpAny _ _ (if _=true then _ else _) _ _ _;rw[gD (by subst G;decide+kernel)];refine gk (qx (T:="dict") (s:={s with heap:=c}) h.typeIs ?_);dsimp only;refine gw ?_;change wpAny _ _ (if _=true then _ else _) _ _ _;rw[gD (by decide+kernel)];refine gk (tq ?_);have y:c.get? s.heap.objs.size=some f:=r _ _ (jv _ (by subst C;rfl));subst C;refine gk ?_;show wpAny _ A.in1 (updateSeq s.heap.objs.size (·.push .none)>>=λ_=>updateSeq s.heap.objs.size (·.pop)) _ _ _;refine gk (BD (s:={s with heap:=c}) y rfl ?_);have x:=tx (Obj.mapSeq (·.push Value.none)) y rfl;refine BD x rfl ?_;have K:=tx (Obj.mapSeq (·.pop)) x rfl
 have oth: ∀b o,b≠s.heap.objs.size->c.get? b=some o->((c.update s.heap.objs.size (Obj.mapSeq (·.push Value.none))).update s.heap.objs.size (Obj.mapSeq (·.pop))).get? b=some o:=
  λb o g e=>(wt _ _ (qA g)).trans ((wt _ _ (qA g)).trans e)
 have W:=(G4 (prog:=prog) (w:=w) (A:=A.in1) (by show A.handled=none;exact hh) (s.heap.objs.size+1) a M.symm d n).toS;rw[v] at u;refine gw ⟨tf Kd _,?_⟩;rw[v];refine Kc W hn s.heap.objs.size (by simp only[jr,jT,kU,nF];exact⟨z,t.symm⟩) _ d.size 0 _ _ _ rfl (kb _) ?_ K (ItemsOf.nil _) λI m c' k Z X=>?_
 ·refine⟨?_,h.stay λo e=>oth a o t e⟩;obtain⟨o,g1,g2⟩:=u;exact⟨o,oth _ o z.symm g1,g2⟩
 show wpAny _ A (load s.heap.objs.size>>=_) _ _ I;refine gk (wx Z ?_);obtain⟨i,P,O,w9,L⟩:=I;have Y:P=s.gens:=k.gens;have U:O=s.drawn:=k.drawn;have D:L=s.os:=k.os;subst Y;subst U;subst D
 have N:m.toList=d.toList.map (·.key):=by
  obtain⟨a1,J⟩:=X;apply FH
  ·rw[iJ,ji,ji,a1]
  ·intro j g1 g2;have R:m[j]?=some m.toList[j]:=by rw[<-lq];exact hX g1
   obtain⟨e,H,hv⟩:=J j _ R;rw[hv];rw[iJ,ji] at g2;rw[List.getElem_map];rw[<-lq,hX (by rw[ji];exact g2)] at H;cases H;rfl
 refine gw ?_;show Q m.toList _;rw[N];refine hQ i w9 λb o e=>?_;have g:=ja e;exact k.heap b o (by simp only[jr,jT,kU,nF];exact⟨iD g,iD (tj g)⟩) (oth b o (iD g) (r _ _ (iW _ e)))
end
end TT
namespace PX
open PySem PySem.Spec PyProof.Rows L2 PySem.SeqAt TS
theorem D.hashL_map: ∀l:List D,D.hashL l=l.map D.hash
 |[]=>by rw[D.hashL];rfl
 |d::l=>by rw[D.hashL,D.hashL_map l];rfl
theorem yS: ∀{l:List D} {d:D},D.prL l=true->d∈l->D.pr d=true
 |[],d,_,h=>by simp at h
 |e::l,d,a,h=>by
  rw[D.prL,kX] at a;rcases jr.mp h with rfl|h
  ·exact a.1
  ·exact yS a.2 h
def qm: ∀{l:List D} {d:D},d∈l->d.dep<=D.depL l:=λ{l d} h=>by
 obtain⟨j,a⟩:=qP h;exact D.dep_mem a
section
variable {X:Cx}{c:gZ}{f:L2.St}{H:Hp}{s:gn}
def RepV(X:Cx)(H:Hp)(O:AP')(d:List D)(a:iL):Prop:= ∃b,RepL X.K H O d b/\Vals b a
theorem RepV.cons(h:RepV X H O (d::ds) (v::e)):(∃x,Rep X.K H O d x/\RelV x v)/\RepV X H O ds e:=by
 obtain⟨l,r,j⟩:=h;rw[RepL] at r;obtain⟨x,k,rfl,g,i⟩:=r
 cases j with
 |cons a b=>exact⟨⟨x,g,a⟩,k,i,b⟩
def RepV.nil_of{O:AP'}{a:List D}(h:RepV X H O a []):a=[]:=by
 obtain⟨g,r,b⟩:=h;cases b
 cases a with
 |nil=>rfl
 |cons d a=>rw[RepL] at r;obtain⟨_,_,e,_⟩:=r;cases e
def RepV.cons_of(h:RepV X H O a (v::e)): ∃d b,a=d::b:=by
 cases a with
 |nil=>obtain⟨i,r,g⟩:=h;rw[RepL] at r;subst r;cases g
 |cons d a=>exact⟨d,a,rfl⟩
def MV: ∀(n:Nat) {s:gn} (I:Inv X c f H s) (d:D) (v:V) (u:gA) (O:AP') (A:gM) (E:hC) (Q:Int->Shared->Prop),Rep X.K H O d v->RelV v u->D.pr d=true->d.dep<=n->A.units+n<cLine->(∀j,s.toks<=j->Q d.hash {s with toks:=j})->
  wpAny (model X.prog X.w) A (pyHash u) Q E s:=by
 intro n
 induction n with
 |zero=>
  intro s I d v u O A E Q g G m hd R p
  cases d with
  |int i=>
   have:=g.int;subst this;obtain⟨t,rfl⟩:=G;have:=p (s.toks+1) (Cf _);rw[D.hash] at this;exact F8 this
  |tup l=>rw[D.dep] at hd;omega
  |_=>simp[D.pr] at m
 |succ n ih=>
  intro s I d v u O A E Q g G m hd R p
  cases d with
  |int i=>
   have:=g.int;subst this;obtain⟨t,rfl⟩:=G;have:=p (s.toks+1) (Cf _);rw[D.hash] at this;exact F8 this
  |tup l=>
   rw[D.pr] at m;rw[D.dep] at hd;obtain⟨a,xs,rfl,q,r⟩:=g.tup;cases G;obtain⟨Z,vs,⟨o,T,S,nn,Y⟩,_⟩:=I.tuple q.sq;have z:s.TypeIs (.ref a) "tuple":=⟨o,T,S⟩
   have W:A.units<cLine:=by omega
   unfold pyHash;unfold pyHashByItsType;refine gk (wpAny_cRoomFor_or (.inr W) ?_);refine gk (qR z Ho.lookup ?_);show wpAny _ _ (if(some (Value.builtin "tuple.__hash__")==some Value.none)=true then _ else _) Q E s;rw[gL (by rw[beq_builtin_none];exact je)];refine gk (qR z Ho.lookup ?_);show wpAny _ _ (callSpecialIfBoundUnlessNone? (.ref a) "__hash__" _>>=_) Q E s;refine gk (wpAny_callSpecialIfBoundUnlessNone?_slot z Ho (nH Ho z PySem.F.entry_tuple_hash ?_ (PySem.F.args_tuple_hash_1 _)));show wpAny _ _ (Builtin.Tuple.tupleItemsOf (.ref a)>>=_) _ _ s;refine gk (wpAny_tupleItemsOf T Y ?_);refine gk ?_;rw[<-Bz]
   refine pO _
    (λhV (b:Array Int) L=> ∃done left,l=done++left/\RepV X H (λa=>O a) left hV/\b.toList=done.map D.hash/\ ∃j,s.toks<=j/\L={s with toks:=j})
    _ ?_ ?_ _ _ ⟨[],l,rfl,⟨xs,r,by simpa using vs⟩,rfl,s.toks,iO _,rfl⟩
   ·rintro x hV b L ⟨done,left,rfl,C,B,j,J,rfl⟩;obtain⟨d,left,rfl⟩:=C.cons_of;obtain⟨⟨y,h1,P⟩,M⟩:=C.cons;have N:d∈done++d::left:=by simp
    have aC:=qm N;refine gk (ih (I.kept (h':=s.heap) (t':=j) λ_ _ e=>e) d y x O A.in1 E _ h1 P (yS m N) (by omega) (by show A.units+1+n<cLine;omega) λU k=>?_)
    first
     |exact gw ⟨done++[d],left,by simp,M,by simp[B],U,ku J k,rfl⟩
     |exact gk (gw (gw ⟨done++[d],left,by simp,M,by simp[B],U,ku J k,rfl⟩))
   ·rintro b L ⟨done,left,rfl,C,B,j,J,rfl⟩;have:=C.nil_of;subst this;have h:=p (j+1) (Nat.le_succ_of_le J);rw[D.hash,D.hashL_map,yy] at h;show wpAny _ _ (retInt (Builtin.Tuple.tupleHashOf b.toList)) _ _ _;rw[B];refine wpAny_ret_mkInt ?_;show wpAny _ _ (if(decide (-(2:Int)^63<=Builtin.Tuple.tupleHashOf (done.map D.hash))&&decide (Builtin.Tuple.tupleHashOf (done.map D.hash)<2^63))=true then _ else _) Q E _;unfold reduceHash at h;by_cases g:(decide (-(2:Int)^63<=Builtin.Tuple.tupleHashOf (done.map D.hash))&&decide (Builtin.Tuple.tupleHashOf (done.map D.hash)<2^63))=true
    ·rw[gD g];rw[gD g] at h;exact gw h
    ·rw[gL g];rw[gL g] at h;exact gk (tq (gw h))
  |_=>simp[D.pr] at m
def Vb(I:Inv X c f H s): ∀(n:Nat) (d:D) (v:V) (u:gA) (O:AP') (A:gM) (E:hC) (Q:qM),Rep X.K H O d v->RelV v u->D.pr d=true->d.dep<=n->Q true s->wpAny (model X.prog X.w) A (hashByValue n u) Q E s:=by
 intro n
 induction n with
 |zero=>
  intro d v u O A E Q g j b hd e
  cases d with
  |int i=>
   have:=g.int;subst this;obtain⟨t,rfl⟩:=j;exact qv (show hashByValue 0 (.int i t)=pure true by simp[hashByValue]) e
  |tup l=>rw[D.dep] at hd;omega
  |_=>simp[D.pr] at b
 |succ n U=>
  intro d v u O A E Q g j b hd e
  cases d with
  |int i=>
   have:=g.int;subst this;obtain⟨t,rfl⟩:=j;exact qv (show hashByValue (n+1) (.int i t)=pure true by simp[hashByValue]) e
  |tup l=>
   rw[D.pr] at b;rw[D.dep] at hd;obtain⟨a,F,rfl,q,r⟩:=g.tup;cases j;obtain⟨m,Y,⟨o,C,T,R,J⟩,_⟩:=I.tuple q.sq;have N:s.TypeIs (.ref a) "tuple":=⟨o,C,T⟩
   unfold hashByValue;refine gk (qR N Ho.lookup ?_);dsimp only;refine gk (pP C J ?_);refine gk ?_;show wpAny _ _ (forIn m.toArray _ _) _ _ s;rw[<-Bz];refine pO _ (λhV G p=>G.1=none/\p=s/\ ∃left,(∀d∈left,d∈l)/\RepV X H O left hV) _ ?_ ?_ _ _ ⟨rfl,rfl,l,λd h=>h,F,r,by simpa using Y⟩
   ·rintro x hV G p ⟨k,rfl,left,hm,B⟩;obtain⟨d,left,rfl⟩:=B.cons_of;obtain⟨⟨y,h1,L⟩,M⟩:=B.cons;have z:=hm d iF;have P:=qm z;refine gk (U d y x O A E _ h1 L (yS b z) (by omega) ?_);simp only[oj,iw,iQ];exact gw ⟨rfl,rfl,left,λd h=>hm d (iK _ h),M⟩
   ·rintro⟨S,W⟩ p ⟨k,rfl,_⟩;simp only at k;subst k;exact gw e
  |_=>simp[D.pr] at b
def N9{P:gR}{W:gJ}(I:Inv X c f H s): ∀(n:Nat) (d:D) (v:V) (u:gA) (O:AP') (A:gM) (E:hC) (Q:qM),Rep X.K H O d v->RelV v u->D.pr d=true->d.dep<=n->Q true s->wpAny (model P W) A (eqIsQuiet n u) Q E s:=by
 intro n
 induction n with
 |zero=>
  intro d v u O A E Q g j b hd e
  cases d with
  |int i=>
   have:=g.int;subst this;obtain⟨t,rfl⟩:=j;exact qv (eqIsQuiet_byValue 0 rfl) e
  |tup l=>rw[D.dep] at hd;omega
  |_=>simp[D.pr] at b
 |succ n T=>
  intro d v u O A E Q g j b hd e
  cases d with
  |int i=>
   have:=g.int;subst this;obtain⟨t,rfl⟩:=j;exact qv (eqIsQuiet_byValue (n+1) rfl) e
  |tup l=>
   rw[D.pr] at b;rw[D.dep] at hd;obtain⟨a,Y,rfl,q,r⟩:=g.tup;cases j;obtain⟨m,U,⟨o,C,N,S,J⟩,_⟩:=I.tuple q.sq;have z:s.TypeIs (.ref a) "tuple":=⟨o,C,N⟩
   unfold eqIsQuiet;refine gk (qR z PySem.F.slot_tuple_eq.lookup ?_);show wpAny _ _ (isInstance (.ref a) (.type "tuple")>>=_) _ _ s;refine gk (wg z isSubtype_tuple_tuple ?_);simp only[oj,iw,iQ];refine gk (pP C J ?_);refine gk ?_;show wpAny _ _ (forIn m.toArray _ _) _ _ s;rw[<-Bz];refine pO _ (λhV G p=>G.1=none/\p=s/\ ∃left,(∀d∈left,d∈l)/\RepV X H O left hV) _ ?_ ?_ _ _ ⟨rfl,rfl,l,λd h=>h,Y,r,by simpa using U⟩
   ·rintro x hV G p ⟨k,rfl,left,hm,B⟩;obtain⟨d,left,rfl⟩:=B.cons_of;obtain⟨⟨y,h1,L⟩,M⟩:=B.cons;have w:=hm d iF;have R:=qm w;refine gk (T d y x O A E _ h1 L (yS b w) (by omega) ?_);simp only[oj,iw,iQ];exact gw ⟨rfl,rfl,left,λd h=>hm d (iK _ h),M⟩
   ·rintro⟨Z,r2⟩ p ⟨k,rfl,_⟩;simp only at k;subst k;exact gw e
  |_=>simp[D.pr] at b
def Js{P:gR}{W:gJ}(I:Inv X c f H s): ∀(n:Nat) (d:D) (v:V) (u:gA) (O:AP') (A:gM) (E:hC) (Q:qM),Rep X.K H O d v->RelV v u->D.pr d=true->d.dep<=n->Q false s->wpAny (model P W) A (ofAClassStatement n u) Q E s:=by
 intro n
 induction n with
 |zero=>
  intro d v u O A E Q g j b hd e
  cases d with
  |int i=>
   have:=g.int;subst this;obtain⟨t,rfl⟩:=j;exact qv (show ofAClassStatement 0 (.int i t)=pure false by simp[ofAClassStatement]) e
  |tup l=>rw[D.dep] at hd;omega
  |_=>simp[D.pr] at b
 |succ n T=>
  intro d v u O A E Q g j b hd e
  cases d with
  |int i=>
   have:=g.int;subst this;obtain⟨t,rfl⟩:=j;exact qv (show ofAClassStatement (n+1) (.int i t)=pure false by simp[ofAClassStatement]) e
  |tup l=>
   rw[D.pr] at b;rw[D.dep] at hd;obtain⟨a,Y,rfl,q,r⟩:=g.tup;cases j;obtain⟨m,U,⟨o,B,N,R,G⟩,_⟩:=I.tuple q.sq;have M:s.TypeIs (.ref a) "tuple":=⟨o,B,N⟩
   unfold ofAClassStatement;refine gk (qx M ?_);dsimp only;rw[gD (by decide)];refine gk (gw ?_);simp only[oj,iw,iQ];refine gk (pP B G ?_);dsimp only;refine gk ?_;show wpAny _ _ (forIn m.toArray _ _) _ _ s;rw[<-Bz];refine pO _ (λhV C p=>C.1=none/\p=s/\ ∃left,(∀d∈left,d∈l)/\RepV X H O left hV) _ ?_ ?_ _ _ ⟨rfl,rfl,l,λd h=>h,Y,r,by simpa using U⟩
   ·rintro x hV C p ⟨k,rfl,left,hm,z⟩;obtain⟨d,left,rfl⟩:=z.cons_of;obtain⟨⟨y,h1,J⟩,L⟩:=z.cons;have w:=hm d iF;have F:=qm w;refine gk (T d y x O A E _ h1 J (yS b w) (by omega) ?_);simp only[iw,iQ];exact gw ⟨rfl,rfl,left,λd h=>hm d (iK _ h),L⟩
   ·rintro⟨S,Z⟩ p ⟨k,rfl,_⟩;simp only at k;subst k;exact gw e
  |_=>simp[D.pr] at b
end
def okS:D->Bool
 | .tup l=>D.prL l&&decide (D.depL l<=6)
 |_=>false
def oF(h:okS d=true): ∃l,d= .tup l:=by cases d<;>first|exact⟨_,rfl⟩|(simp[okS] at h)
theorem rm(h:okS d=true):D.pr d=true:=by
 obtain⟨l,rfl⟩:=oF h;simp only[okS,kX] at h;rw[D.pr];exact h.1
def qa(h:okS d=true):d.dep<=7:=by
 obtain⟨l,rfl⟩:=oF h;simp only[okS,kX,qO] at h;rw[D.dep];omega
theorem G1(h1:D.pr x=true)(a:D.pr y=true):D.eqb x y=true↔x=y:=by
 rw[G2 x y h1 a];constructor
 ·intro h;exact vK x y h1 a (by simpa using h)
 ·rintro rfl;rw[IE];rfl
def rO(a:List D)(d:D):List D:=if a.any (D.eqb · d)=true then a else a++[d]
def oR(l:List D):List D:=l.foldl rO []
def PR(h1:b.all okS=true)(a:okS d=true):(rO b d).all okS=true:=by
 unfold rO;split
 ·exact h1
 ·rw[List.all_append,h1];simp[a]
def Nv(a:List D)(d:D):(rO a d).length<=a.length+1:=by unfold rO;split<;>simp
def lu{d i:Type}(f:d->i){g m:List i}(h:g.Perm m): ∀l:List d,m=l.map f-> ∃c:List d,c.Perm l/\g=c.map f:=by
 induction h with
 |nil=>
  intro l e;have:l=[]:=by simpa using e.symm
  subst this;exact⟨[],.refl _,rfl⟩
 |cons x _ n=>
  intro l e
  cases l with
  |nil=>simp at e
  |cons y l=>
   simp only[iu,List.cons.injEq] at e;obtain⟨c,p,q⟩:=n l e.2;exact⟨y::c,p.cons y,by rw[q,e.1];rfl⟩
 |swap x y w=>
  intro l e
  cases l with
  |nil=>simp at e
  |cons a l=>
   cases l with
   |nil=>simp at e
   |cons b l=>
    simp only[iu,List.cons.injEq] at e;exact⟨b::a::l,.swap a b l,by rw[e.1,e.2.1,e.2.2];rfl⟩
 |trans _ _ k j=>
  intro l e;obtain⟨o,s,u⟩:=j l e;obtain⟨r,t,v⟩:=k o u;exact⟨r,t.trans s,v⟩
def xl{b d:Type}{F:b->d->Prop}{c m:List d}(h:c.Perm m): ∀{z:List b},Paired F z m-> ∃a:List b,Paired F a c/\a.Perm z:=by
 induction h with
 |nil=>intro z p;exact⟨z,p,.refl _⟩
 |cons x _ i=>
  intro z p
  cases p with
  |cons r t=>
   obtain⟨a,h1,g⟩:=i t;exact⟨_::a,.cons r h1,g.cons _⟩
 |swap x y s=>
  intro z p
  cases p with
  |cons r t=>
   cases t with
   |cons o t=>exact⟨_,.cons o (.cons r t),.swap _ _ _⟩
 |trans _ _ f e=>
  intro z p;obtain⟨u,j,l⟩:=e p;obtain⟨q,k,n⟩:=f j;exact⟨q,k,n.trans l⟩
theorem RepL.zip{K H}{O:AP'}: ∀{l:List D} {b:List V},RepL K H O l b-> ∀p∈l.zip b,Rep K H O p.1 p.2
 |[],b,h,p,a=>by simp at a
 |d::l,b,h,p,a=>by
  rw[RepL] at h;obtain⟨v,r,rfl,h1,c⟩:=h;rw[qT] at a;rcases jr.mp a with rfl|a
  ·exact h1
  ·exact RepL.zip c p a
theorem RepL.ofZip{K H}{O:AP'}: ∀{l:List (D×V)},(∀p∈l,Rep K H O p.1 p.2)->RepL K H O (l.map (·.1)) (l.map (·.2))
 |[],_=>RepL.nil
 |p::l,h=>RepL.cons (h p iF) (RepL.ofZip λq a=>h q (iK _ a))
abbrev hv(p:D×V):Int×V:=(D.hash p.1,p.2)
theorem yB: ∀(b:List D) (a:List V),(D.hashL b).zip a=(b.zip a).map hv
 |[],a=>by simp[D.hashL]
 |d::b,[]=>by simp
 |d::b,u::a=>by rw[D.hashL,qT,qT,iu,yB b a]
section
variable {X:Cx}{pins:gZ}{σ:L2.St}{H:Hp}{s:gn}
structure SetV(X:Cx)(H:Hp)(O:AP')(h:gP)(a:gm)(vs:List D)(es:sM)(n:Nat)(t:ll)(l:List (D×V)):Prop where
 is:TT.SetIs X.w h a es n t
 perm:(l.map (·.1)).Perm vs
 rep: ∀p∈l,Rep X.K H O p.1 p.2
 par:Paired (λ(z:Int×V) (e:Int×Value)=>z.1=e.1/\RelV z.2 e.2) (l.map hv) es.toList
def SetV.stay{a c b n t l}(S:SetV X H O h a c b n t l)(k: ∀o,h.get? a=some o->d.get? a=some o):SetV X H O d a c b n t l:=⟨S.is.stay k,S.perm,S.rep,S.par⟩
theorem yW{d c:Type}{F:d->c->Prop}: ∀{l:List d} {m:List c},Paired F l m-> ∀{i:Nat} {b:c},m[i]?=some b-> ∃a,l[i]?=some a/\F a b
 |_,_,.nil,i,b,h=>by simp at h
 |_,_,.cons r t,0,b,h=>by simp at h;subst h;exact⟨_,rfl,r⟩
 |_,_,.cons r t,i+1,b,h=>by
  obtain⟨a,h1,e⟩:=yW t (i:=i) (b:=b) (by simpa using h);exact⟨a,by simpa using h1,e⟩
theorem yV{a b:Type}{F:a->b->Prop}: ∀{l:List a} {m:List b},Paired F l m->l.length=m.length
 |_,_,.nil=>rfl
 |_,_,.cons r t=>by simp[yV t]
theorem uA: ∀{l:List (Int×V)} {m:List (Int×Value)},Paired (λ(z:Int×V) (e:Int×Value)=>z.1=e.1/\RelV z.2 e.2) l m->l.map (·.1)=m.map (·.1)
 |_,_,.nil=>rfl
 |_,_,.cons r t=>by rw[iu,iu,r.1,uA t]
def SetV.srch(I:Inv X pins σ H s){O U:AP'}{a:gm}{vs:List D}{L n t l}(S:SetV X H O s.heap a vs L n t l)(hok:vs.all okS=true){d:D}{v:V}{u:gA}(hd:iV X.K H U d v)(ru:RelV v u)(T:okS d=true){A:gM}(hA:A.units+60<cLine):
  ∃b,u= .ref b/\TT.Srch A s a L n t u d.hash (λi=>match l[i]? with|some p=>D.eqb p.1 d|none=>false):=by
 obtain⟨ld,rfl⟩:=oF T;obtain⟨b,xs,rfl,q,r⟩:=jM hd;cases ru;have hdp:=qa T;have fg:=rm T;have h: ∀p∈l,okS p.1=true:=λp M=>kn.mp hok _ (S.perm.mem_iff.mp (sY M))
 have at_: ∀(i:Nat) (e:Int×Value),L[i]?=some e-> ∃p,l[i]?=some p/\p∈l/\D.hash p.1=e.1/\RelV p.2 e.2:=λi e m=>by
  obtain⟨z,h1,f,C⟩:=yW S.par (i:=i) (b:=e) (by rw[lq];exact m);rw[kY] at h1
  cases Z:l[i]? with
  |none=>rw[Z] at h1;cases h1
  |some p=>rw[Z] at h1;cases h1;exact⟨p,rfl,lN Z,f,C⟩
 have N: ∀(e:D) (y:V) (J:gA) (x:AP') (B:gM) (P:gR) (W:gJ) (Q:qM) (E:hC),okS e=true->iV X.K H x e y->RelV y J->Q true s->wpAny (model P W) B (eqIsQuiet 8 J) Q E s:=λe y J x B P W Q E G hv hr o=>by
  obtain⟨le,rfl⟩:=oF G;rcases hv with hv|⟨_,_,hv⟩
  ·exact N9 I 8 _ _ _ x B E Q hv hr (rm G) (by have:=qa G;omega) o
  ·exact hv.elim
 have n4: ∀(e:D) (y:V) (J:gA) (x:AP') (B:gM) (P:gR) (W:gJ) (Q:qM) (E:hC),okS e=true->iV X.K H x e y->RelV y J->Q false s->wpAny (model P W) B (ofAClassStatement 8 J) Q E s:=λe y J x B P W Q E G hv hr o=>by
  obtain⟨le,rfl⟩:=oF G;rcases hv with hv|⟨_,_,hv⟩
  ·exact Js I 8 _ _ _ x B E Q hv hr (rm G) (by have:=qa G;omega) o
  ·exact hv.elim
 refine⟨b,rfl,⟨_,S.is.at_,rfl⟩,S.is.tab,λi e m=>?_,λi e m=>?_,λi e m o=>?_,λls g w E Q hls o=>?_⟩
 ·obtain⟨p,h1,f,C,j⟩:=at_ i e m;obtain⟨lp,M⟩:=oF (h p f);have:=S.rep p f;rw[M] at this;obtain⟨c,xs,F,_⟩:=this.tup;rw[F] at j;exact⟨c,j⟩
 ·obtain⟨p,h1,f,C,j⟩:=at_ i e m;rw[h1];have:=qa (h p f);exact zw I 50 p.1 (.tup ld) p.2 (.ref b) _ _ O U A (.inl (S.rep p f)) hd j rfl (by omega) (by omega) (by omega)
 ·obtain⟨p,h1,f,C,j⟩:=at_ i e m;rw[h1] at o;rw[(G1 (rm (h p f)) fg).mp o] at C;exact C.symm
 ·unfold searchCouldBeSeen;refine gk ?_;refine pO _ (λhV rr s'=>rr.1=none/\s'=s/\ ∀v∈hV,∃e∈L.toList,e.2=v) _ ?_ ?_ _ _ ⟨rfl,rfl,hls⟩
  ·rintro y hV rr s' ⟨R,rfl,hm⟩;have k: ∀v∈hV,∃e∈L.toList,e.2=v:=λv hv=>hm v (iK _ hv);obtain⟨e,m,rfl⟩:=hm y iF;obtain⟨i,hi⟩:=qP m;rw[lq] at hi;obtain⟨p,h1,f,C,j⟩:=at_ i e hi;obtain⟨lp,M⟩:=oF (h p f);have Y:=S.rep p f
   obtain⟨c,ec⟩: ∃c,e.2= .ref c:=by
    rw[M] at Y;obtain⟨c,xs,F,_⟩:=Y.tup;rw[F] at j;exact⟨c,j⟩
   rw[ec] at j ⊢;dsimp only;split
   ·exact gw ⟨rfl,rfl,k⟩
   ·refine gk (N _ _ _ U A g w _ _ T hd rfl ?_);simp only[oj,iw,iQ];refine gk (N _ _ _ O A g w _ _ (h p f) (.inl Y) j ?_);simp only[oj,iw,iQ];refine gk (n4 _ _ _ U A g w _ _ T hd rfl ?_);simp only[iw,iQ];refine gk (n4 _ _ _ O A g w _ _ (h p f) (.inl Y) j ?_);simp only[iw,iQ];exact gw ⟨rfl,rfl,k⟩
  ·rintro⟨r1,r2⟩ s' ⟨R,rfl,_⟩;simp only at R;subst R;exact gw o
def OthB.setV(I:Inv X pins σ H s)(h:OthB X.K (H a) .set o f us)(r:RepL X.K H O f us): ∃b n t l,SetV X H O s.heap a f b n t l:=by
 obtain⟨_,m,e,p⟩:=h;obtain⟨b,n,t,h1,c,g,i,j⟩:=(show ObjOk X.prog X.w H s.heap a (.stt m) from I.hok a _ e)
 rw[yB] at p;obtain⟨l,d,rfl⟩:=lu hv p _ rfl;refine⟨b,n,t,l,⟨h1,by rw[<-uA c];exact g,i,j⟩,?_,λq k=>r.zip q (d.mem_iff.mp k),c⟩;have:=d.map (·.1);rw[List.map_fst_zip (by rw[r.length];exact iO _)] at this;exact this
def SetV.objOk{b n t l}(S:SetV X H O h a d b n t l):ObjOk X.prog X.w c h a (.stt (l.map hv)):=
 ⟨b,n,t,S.is.at_,S.par,by rw[uA S.par];exact S.is.tab,S.is.plain,S.is.led⟩
def SetV.lens{b n t l}(S:SetV X H O h a c b n t l):b.size=c.length/\l.length=c.length:=by
 have h1:=yV S.par;have d:=S.perm.length_eq;simp only[iJ,ji] at h1 d;omega
def SetV.oth{O:AP'}{h:gP}{a:gm}{vs:List D}{i n t l}(S:SetV X H O h a vs i n t l){K c}{f:AP'}(m: ∀p∈l,Rep K c f p.1 p.2)(j:c a=some (.stt (l.map hv))): ∃g,OthB K (c a) .set [] vs g/\RepL K c f vs g:=by
 obtain⟨b,d,e⟩:=lu (·.1) S.perm.symm l rfl;refine⟨b.map (·.2),⟨rfl,l.map hv,j,?_⟩,?_⟩
 ·rw[e,yB]
  have:(b.map (·.1)).zip (b.map (·.2))=b:=by
   clear d e
   induction b with
   |nil=>rfl
   |cons x l o=>rw[iu,iu,qT,o]
  rw[this];exact(d.map hv).symm
 ·rw[e];exact RepL.ofZip λp k=>m p (d.mem_iff.mp k)
def SetV.add(I:Inv X pins σ H s){B n t l}(S:SetV X H O s.heap a c B n t l)(J:c.all okS=true)(hd:iV X.K H O' d v)(y:Rep X.K H O d v)(q:RelV v u)(o:okS d=true)(hz:c.length<500)
  (hA:A.units+60<cLine) 
  (h: ∀r h' f g N t' L,s.toks<=f->Heap.SameBut a s.heap h'->SetV X H O h' a (rO c d) g N t' L->Q r {s with heap:=h',toks:=f}):wpAny (model X.prog X.w) A (setAdd a u) Q E s:=by
 obtain⟨bz,bx⟩:=S.lens;unfold setAdd;refine kr (gk (MV 50 I d v u O A E _ y q (rm o) (by have:=qa o;omega) (by omega) λf F=>?_));have U:Inv X pins σ H {s with toks:=f}:=I.kept (h':=s.heap) (t':=f) λ_ _ e=>e;obtain⟨b,rfl,R⟩:=SetV.srch (s:={s with toks:=f}) U S J hd q o hA;have M: ∀p∈l,p.1∈c:=λp j=>S.perm.mem_iff.mp (sY j);refine TT.VN R S.is.at_ S.is.plain (by omega) (λP k=>Vb U 8 d v _ O A E P y q (rm o) (by have:=qa o;omega) k) (λ⟨i,C,k⟩=>?_) (λy9 h' g N t' g1 g2 g3 g4 g5 g6=>?_)
 ·have:rO c d=c:=by
   unfold rO
   cases G:l[i]? with
   |none=>rw[G] at k;cases k
   |some p=>
    rw[G] at k;rw[gD (List.any_eq_true.mpr ⟨p.1,M p (lN G),k⟩)]
  exact h false s.heap f B n t l F (Cc a s.heap) (by rw[this];exact S)
 ·have Z:c.any (D.eqb · d)=false:=by
   rw[List.any_eq_false];intro x hx;have W:=S.perm.mem_iff.mpr hx;obtain⟨p,j,rfl⟩:=kZ.mp W;obtain⟨i,C⟩:=qP j;have:=y9 i (by have:=(uQ.mp C).1;omega);rw[C] at this;simpa using this
  have m:rO c d=c++[d]:=by unfold rO;rw[Z,gL je]
  have T:Paired (λ(z:Int×V) (e:Int×Value)=>z.1=e.1/\RelV z.2 e.2) (((d,v)::l).map hv) ((d.hash,Value.ref b)::B.toList):= .cons ⟨rfl,q⟩ S.par;obtain⟨z',p1,p2⟩:=xl g3 T;obtain⟨L,Y,rfl⟩:=lu hv p2 _ rfl;refine h true h' f g N t' L F g1 ⟨⟨g2,g4,g5,g6.trans S.is.led⟩,?_,λp j=>?_,p1⟩
  ·rw[m];refine(Y.map (·.1)).trans ?_;rw[iu];exact(S.perm.cons d).trans (Kk d c).symm
  ·rcases jr.mp (Y.mem_iff.mp j) with rfl|j
   ·exact y
   ·exact S.rep p j
def GW:D->Option (D×Bool)
 | .lst l| .tup l=>if l.all okS=true/\l.length<500 then some (.oth .set [] (oR l),true) else none
 |_=>none
theorem G6{l:List D}{i:Nat}{d:D}(h:l[i]?=some d):oR (l.take (i+1))=rO (oR (l.take i)) d:=by
 unfold oR;rw[BP,h,List.foldl_append];rfl
theorem EK: ∀(l a:List D),l.all okS=true->a.all okS=true->(l.foldl rO a).all okS=true
 |[],a,_,h=>h
 |d::l,a,h1,b=>by
  rw[uq,kX] at h1;exact EK l _ h1.2 (PR b h1.1)
theorem Bg: ∀(l a:List D),(l.foldl rO a).length<=a.length+l.length
 |[],a=>by simp
 |d::l,a=>by
  have:=Bg l (rO a d);have:=Nv a d;simp only[qV,ju];omega
def Nt{l:List D}(h:l.all okS=true)(i:Nat):(l.take i).all okS=true:=by
 rw[kn] at h ⊢;exact λx a=>h x (we a)
def Bl(hc:X.calm=true)(hu:X.A.units+90<cLine):jx X (.type "set") (rDn X.K (g1 GW)):=nW λpins s σ H x u Q O d z I ru np hd f G=>by
 obtain⟨l,p,c,a,rfl,r,v,E,f⟩: ∃l p c a,x= .ref p/\RepL X.K H O l c/\Vals c a/\(s.heap.IsList p a.toArray\/s.heap.IsTuple p a.toArray)/\(if l.all okS=true/\l.length<500 then some (D.oth .set [] (oR l),true) else none)=some z:=by
  cases d with
  |lst l=>obtain⟨p,c,rfl,q,r⟩:=jz hd;obtain⟨a,v,E,_⟩:=I.list q;exact⟨l,p,c,a,rfl,r,v,.inl E.isList,f⟩
  |tup l=>obtain⟨p,c,rfl,q,r⟩:=jM hd;obtain⟨a,v,E,_⟩:=I.tuple q;exact⟨l,p,c,a,rfl,r,v,.inr E,f⟩
  |_=>cases f
 obtain⟨⟨C,hz⟩,rfl⟩:=gX f;cases ru;have e1:=r.length;have e2:=v.length;have hh:X.A.handled=none:=I.ok.hd hc;have J:=I.fresh
 refine TT.TK hh E (λi h=> ∃j n t g,SetV X H O h s.heap.objs.size (oR (l.take i)) j n t g) (λi h h' ⟨j,n,t,g,S⟩ k=>⟨j,n,t,g,S.stay k⟩)
  (λh' e=>⟨#[],0,_,[],⟨TT.TJ e,by simp[oR],λp N=>by simp at N,.nil⟩⟩) (λi w s' B Q' E' hB V M hk f y W m=>?_) (λh' tk M hk=>?_)
 ·obtain⟨j,n,t,g,S⟩:=M
  have hil:i<a.length:=by
   have:=(JV.mp V).1;simpa using this
  have hw:a[i]?=some w:=by simpa using V
  have P:c[i]?=some c[i]:=hX (by omega);have R:l[i]?=some l[i]:=hX (by omega);obtain⟨w',Z,w2⟩:=v.get P;rw[hw] at Z;cases Z;have F:Rep X.K H O l[i] c[i]:=r.views R P;have o9:okS l[i]=true:=kn.mp C _ (By _);obtain⟨h1,g1,dr1,dM,os1⟩:=s';dsimp only at hk f y W m S;subst f;subst y;subst W;have I':Inv X pins σ H {s with heap:=h1,toks:=dM}:=I.kept hk;refine SetV.add I' S (EK _ _ (Nt C i) rfl) (.inl F) F w2 o9 ?_ (by omega) λrr h2 eJ L n' t' U a1 a2 Y=>?_
  ·have:=Bg (l.take i) [];rw[oY] at this;unfold oR;simp only[oV] at this;omega
  ·rw[<-G6 R] at Y;exact m rr h2 eJ a1 a2 ⟨L,n',t',U,Y⟩
 ·obtain⟨j,n,t,g,S⟩:=M;have T:a.toArray.size=l.length:=by simp;omega
  rw[T,List.take_length] at S;refine⟨.ref s.heap.objs.size,upd H s.heap.objs.size (.stt (g.map hv)),I.laid hk (iO _) S.objOk,rfl,?_⟩;refine G s.heap.objs.size _ J (jY J) ?_;exact S.oth (λp N=>Rep.mono (λb o e _=>jY J b o e) (λb hb z=>z.elim id λz=>absurd (z▸J) hb) (S.rep p N)) hG
def S6(I:Inv X pins σ H s){L n t l}(S:SetV X H O s.heap a g L n t l)(q:g.all okS=true)(hd:iV X.K H O d v)(z:RelV v u)(k:okS d=true)(M:A.units+60<cLine) 
  (h: ∀c,Q (g.any (D.eqb · d)) {s with toks:=c}):wpAny (model X.prog X.w) A (setContains a u) Q E s:=by
 obtain⟨Y,U⟩:=S.lens
 have J:Rep X.K H O d v:=by
  obtain⟨ld,rfl⟩:=oF k;rcases hd with hd|⟨_,_,hd⟩
  ·exact hd
  ·exact hd.elim
 unfold setContains;refine kr (gk (MV 50 I d v u O A E _ J z (rm k) (by have:=qa k;omega) (by omega) λc F=>?_));have B:Inv X pins σ H {s with toks:=c}:=I.kept (h':=s.heap) (t':=c) λ_ _ e=>e;obtain⟨b,rfl,C⟩:=SetV.srch (s:={s with toks:=c}) B S q hd z k M;have y: ∀p∈l,p.1∈g:=λp r=>S.perm.mem_iff.mp (sY r);refine gk (TT.Vh C S.is.at_ (λi m j=>?_) λT=>?_)
 ·have:g.any (D.eqb · d)=true:=by
   cases o:l[i]? with
   |none=>rw[o] at j;cases j
   |some p=>rw[o] at j;exact List.any_eq_true.mpr ⟨p.1,y p (lN o),j⟩
  have f:=h c;rw[this] at f;exact gw f
 ·have:g.any (D.eqb · d)=false:=by
   rw[List.any_eq_false];intro x N;have G:=S.perm.mem_iff.mpr N;obtain⟨p,r,rfl⟩:=kZ.mp G;obtain⟨i,m⟩:=qP r;have:=T i (by have:=(uQ.mp m).1;omega);rw[m] at this;simpa using this
  have f:=h c;rw[this] at f;exact gw f
def G8(I:Inv X pins σ H s){g n t l}(S:SetV X H O s.heap a f g n t l)(c:f.all okS=true)(hd:iV X.K H O d v)(j:RelV v u)(i:okS d=true)(k:A.units+61<cLine) 
  (h: ∀e,Q (f.any (D.eqb · d)) {s with toks:=e}):wpAny (model X.prog X.w) A (contains (.ref a) u) Q E s:=by
 have b:=S.is.typeIs;unfold contains;refine kr (gk (qR b JX.lookup ?_));change wpAny _ _ (if(some (Value.builtin "set.__contains__")==some Value.none)=true then _ else _) _ E s;rw[gL (by rw[beq_builtin_none];exact je)];refine gk (wpAny_callSpecialUnlessNone?_slot (name:=Str.ofString "__contains__") b JX (nH JX b entry_set_contains ?_ (PySem.F.args_set_contains_2 _ _)));unfold Builtin.«frozenset.__contains__» Builtin.Frozenset.oneOther;simp only[yg,pT];unfold Builtin.Frozenset.addrOf Builtin.Frozenset.withSetAsKey;refine gk (gw ?_);dsimp only;refine gk (gw ?_);dsimp only;refine gk (wpAny_tryCatch ?_);refine S6 I S c hd j i (by show A.units+1+60<cLine;omega) λe=>?_;exact gw ⟨_,rfl,uv (h e)⟩
def inX(d e:D):Option Bool:=match e with
 | .oth .set [] a=>if a.all okS=true/\okS d=true then some (a.any (D.eqb · d)) else none
 |_=>inD d e
def Dc(d e:D):Option (D×Bool):=(inX d e).map λb=>(.bl (!b),false)
def GD(B:X.A.units+62<cLine):OpR X (compareOp .NotIn) (rD X.K Dc):=by
 intro pins s σ H x y v u Q I j k h;obtain⟨O,d,e,z,np,h1,g,m,G⟩:=h;obtain⟨b,c,rfl⟩:=iC m;by_cases i: ∃f,e= .oth .set [] f
 ·obtain⟨f,rfl⟩:=i;obtain⟨⟨o,hd⟩,rfl⟩:=gX (show(if f.all okS=true/\okS d=true then some (f.any (D.eqb · d)) else none)=some b from c);obtain⟨a,C,rfl,q,r⟩:=nM g;cases k;obtain⟨w,n,t,l,S⟩:=q.setV I r;change wpAny _ _ (contains (.ref a) v>>=λb=>pure (Value.bool (!b))) _ _ s;refine gk (G8 I S o h1 j hd (by omega) λp=>?_);exact gw ⟨.bl _,H,I.kept (h':=s.heap) (t':=p) λ_ _ e=>e,rfl,G.bl⟩
 ·have:inD d e=some b:=by
   unfold inX at c;split at c
   ·exact absurd ⟨_,rfl⟩ i
   ·exact c
  exact AS (by omega) pins s σ H x y v u Q I j k ⟨O,d,e,b,h1,g,this,G.bl⟩
end
def Lc(a:l.Perm m)(b: ∀x∈l,D.pr x=true):ky ltT l=ky ltT m:=K8 (λx c=>b x (a.mem_iff.mpr c)) ((iE ltT l).trans a) (lY l)
def IY{k:Nat}{l:List D}(h:SortsBy k l):lZ l=true:=by
 unfold lZ;rw[vZ];right
 cases l with
 |nil=>rfl
 |cons x m=>
  simp only[kX,kn,qO];refine⟨⟨by rw[h.hd x iF];rfl,λy a=>⟨⟨?_,h.pr y a⟩,h.dp y a⟩⟩,λy a z b=>h.cm y a z b⟩;rw[h.hd x iF,h.hd y a];simp
theorem DP(b:l.Perm m)(h:lZ m=true):lZ l=true:=by
 rcases AI h with c|⟨k,B⟩
 ·unfold lZ;rw[vZ];left;rw[b.length_eq];simpa using c
 ·exact IY (k:=k) ⟨λx a=>B.hd x (b.mem_iff.mp a),λx a=>B.pr x (b.mem_iff.mp a),λx a=>B.dp x (b.mem_iff.mp a),λx a y d=>B.cm x (b.mem_iff.mp a) y (b.mem_iff.mp d)⟩
def rC(d:D):Option (D×Bool):=match d with
 | .oth .set [] a=>if a.all okS=true then jo a else none
 |_=>nj d
section
variable {X:Cx}
def Dk(hc:X.calm=true)(J:X.A.units+62<cLine):jx X (.builtin "sorted") (rDn X.K (g1 rC)):=nW λg s σ H x u Q O d z I N np hd C G=>by
 by_cases E: ∃h,d= .oth .set [] h
 ·obtain⟨h,rfl⟩:=E;have e:(if h.all okS=true then jo h else none)=some z:=C;split at e
  ·rename_i y;obtain⟨a,us,rfl,q,r⟩:=nM hd;cases N;obtain⟨i,n,t,l,S⟩:=q.setV I r;obtain⟨T,bx⟩:=S.lens;have wp:=TT.E9 X.w a n i;obtain⟨z',o,L⟩:=xl wp S.par;obtain⟨c,B,rfl⟩:=lu hv L _ rfl;have M:RepL X.K H O (c.map (·.1)) (c.map (·.2)):=RepL.ofZip λp V=>S.rep p (B.mem_iff.mp V)
   have vv:Vals (c.map (·.2)) ((TT.mK X.w a n i).toList.map (·.2)):=by
    clear L B M wp;generalize (TT.mK X.w a n i).toList=m at o;revert o;generalize f:c.map hv=zz;intro o
    induction o generalizing c with
    |nil=>
      have:c=[]:=by simpa using f
      subst this;exact .nil
    |cons r t ih=>
     cases c with
     |nil=>simp at f
     |cons p c=>
      simp only[iu,List.cons.injEq] at f;rw[iu,iu];refine .cons ?_ (ih c f.2);have:=r.2;rw[<-f.1] at this;exact this
   have v:(c.map (·.1)).Perm h:=(B.map (·.1)).trans S.perm
   have U:jo (c.map (·.1))=some z:=by
    unfold jo at e ⊢;obtain⟨⟨h1,F⟩,rfl⟩:=gX e;rw[gD ⟨DP v h1,by rw[v.length_eq];exact F⟩,Lc v λx W=>rm (kn.mp y x (v.mem_iff.mp W))]
   have R:X.A.handled=none:=I.ok.hd hc
   have f:i.size<=sizeLine:=by
    unfold jo at e;rw[T];exact(gX e).1.2
   exact rZ J I M vv U G λQ' E' A' Y P=>TT.PK (by rw[Y];exact R) S.is f λD Z k=>P D Z k
  ·cases e
 ·have e:g1 nj [d]=some z:=by
   have:rC d=nj d:=by
    unfold rC;split
    ·exact absurd ⟨_,rfl⟩ E
    ·rfl
   show nj d=some z;rw[<-this];exact C
  exact qp J g s σ H [x] [u] Q I (.cons N .nil) ⟨O,[d],z,np,rfl,(λj d' v' a b=>by
   cases j with
   |zero=>simp at a b;subst a;subst b;exact hd
   |succ j=>simp at a),e,G⟩
end
def rB:D->Option Key
 | .int i=>some (.inl i)
 | .str x=>some (.inr x)
 |_=>none
def Ap:List D->Option (List Key)
 |[]=>some []
 |d::l=>(rB d).bind λk=>(Ap l).map (k:: ·)
def xM:D->Option (List Key)
 | .tup l=>Ap l
 |_=>none
theorem nB(h:rB d=some k):d=iX k:=by
 cases d<;>simp[rB] at h<;>subst h<;>rfl
theorem Et: ∀{l:List D} {a:List Key},Ap l=some a->l=a.map iX
 |[],a,h=>by cases h;rfl
 |d::l,a,h=>by
  rw[Ap] at h;obtain⟨k,h1,h⟩:=gg h;obtain⟨m,b,rfl⟩:=iC h;rw[nB h1,Et b];rfl
theorem rA(h:xM d=some a):d= .tup (a.map iX):=by
 cases d with
 |tup l=>rw[Et (show Ap l=some a from h)]
 |_=>cases h
theorem vF(a b:Key):D.eqb (iX a) (iX b)=decide (a=b):=by
 cases a with
 |inl i=>cases b with
  |inl j=>simp only[iX,D.eqb,MM]
  |inr y=>simp only[iX,D.eqb,ML]
 |inr x=>cases b with
  |inl j=>simp only[iX,D.eqb,MK]
  |inr y=>simp only[iX,D.eqb,MJ];rfl
theorem sG: ∀a b:List Key,D.eqbL (a.map iX) (b.map iX)=decide (a=b)
 |[],[]=>by simp[D.eqbL]
 |[],_::_=>by simp[D.eqbL]
 |_::_,[]=>by simp[D.eqbL]
 |x::a,y::b=>by
  simp only[iu];rw[D.eqbL,vF,sG a b];simp only[List.cons.injEq,Bool.decide_and]
def jQ:List D->List D->D->Option D
 |a::b,v::c,k=>if D.eqb a k=true then some v else jQ b c k
 |_,_,_=>none
def rl:List D->List D->D->D->List D
 |b::c,v::a,k,w=>(if D.eqb b k=true then w else v)::rl c a k w
 |_,a,_,_=>a
def sP(a b:List D)(k w:D):List D×List D:=if a.any (D.eqb · k)=true then(a,rl a b k w) else(a++[k],b++[w])
def pG(a:List D)(k:D):Bool:=((rB k).isSome&&a.all λx=>(rB x).isSome)||((xM k).isSome&&a.all λx=>(xM x).isSome)
section
variable {K:gK}{H:Hp}{O:AP'}
theorem D1(h:Rep K H O (iX k) v):v=kV k:=by
 cases k with
 |inl i=>exact Rep.int h
 |inr x=>exact Rep.str h
theorem AN: ∀{b:List Key} {a:List V},RepL K H O (b.map iX) a->a=b.map kV
 |[],a,h=>by rw[mR,RepL] at h;exact h
 |k::b,a,h=>by
  rw[iu,RepL] at h;obtain⟨v,r,rfl,h1,c⟩:=h;rw[D1 h1,AN c];rfl
def pj(hk:rB d=some k)(h:iV K H O d v):v=kV k:=by
 rw[nB hk] at h;rcases h with h|⟨a,rfl,h⟩
 ·exact D1 h
 ·cases k<;>exact h.elim
def nA(hk:xM d=some c)(h:iV K H O d v): ∃b,v= .ref b/\H b=some (.tup (c.map kV)):=by
 rw[rA hk] at h;rcases h with h|⟨a,rfl,h⟩
 ·obtain⟨b,xs,rfl,q,r⟩:=h.tup;rw[AN r] at q;exact⟨b,rfl,q.1⟩
 ·exact h.elim
theorem GN{k:Key}: ∀{a:List (Key×V)} {b:List D},RepL K H O b (a.map (·.2))->(∀d,jQ (a.map λp=>iX p.1) b (iX k)=some d-> ∃v,qI a k=some v/\Rep K H O d v)/\(jQ (a.map λp=>iX p.1) b (iX k)=none->qI a k=none)
 |[],b,_=>⟨λd h=>by cases b<;>simp[jQ] at h,λ_=>rfl⟩
 |(c,v)::a,[],h=>by rw[iu,RepL] at h;cases h
 |(c,v)::a,m::b,h=>by
  rw[iu,RepL] at h;obtain⟨w,r,e,h1,f⟩:=h;obtain⟨rfl,rfl⟩:=ui e;obtain⟨j,l⟩:=GN (k:=k) f;simp only[iu,jQ,vF];by_cases hk:c=k
  ·simp only[hk,decide_true,jh];exact⟨λd h=>by cases h;exact⟨v,rg (p:=(k,v)) rfl,h1⟩,λh=>by cases h⟩
  ·simp only[hk,decide_false,iw,iQ];refine⟨λd h=>?_,λh=>?_⟩
   ·obtain⟨u,g,i⟩:=j d h;exact⟨u,by rw[nN (p:=(c,v)) hk];exact g,i⟩
   ·rw[nN (p:=(c,v)) hk];exact l h
theorem GL{k:List Key}: ∀{a:List (List Key×V)} {b:List D},RepL K H O b (a.map (·.2))->(∀d,jQ (a.map λp=> .tup (p.1.map iX)) b (.tup (k.map iX))=some d-> ∃v,qI a k=some v/\Rep K H O d v)/\(jQ (a.map λp=> .tup (p.1.map iX)) b (.tup (k.map iX))=none->qI a k=none)
 |[],b,_=>⟨λd h=>by cases b<;>simp[jQ] at h,λ_=>rfl⟩
 |(c,v)::a,[],h=>by rw[iu,RepL] at h;cases h
 |(c,v)::a,m::b,h=>by
  rw[iu,RepL] at h;obtain⟨w,r,e,h1,f⟩:=h;obtain⟨rfl,rfl⟩:=ui e;obtain⟨j,l⟩:=GL (k:=k) f;simp only[iu,jQ,D.eqb,sG];by_cases hk:c=k
  ·simp only[hk,decide_true,jh];exact⟨λd h=>by cases h;exact⟨v,rg (p:=(k,v)) rfl,h1⟩,λh=>by cases h⟩
  ·simp only[hk,decide_false,iw,iQ];refine⟨λd h=>?_,λh=>?_⟩
   ·obtain⟨u,g,i⟩:=j d h;exact⟨u,by rw[nN (p:=(c,v)) hk];exact g,i⟩
   ·rw[nN (p:=(c,v)) hk];exact l h
end
section
variable {P:gR}{w:gJ}{H H':Hp}{h:gP}{a:gm}
def Qw(x:ObjOk P w H h a (.dT [])):ObjOk P w H' h a (.dK []):=by
 obtain⟨z,y,k,r,o,b,c,h1,d,f,g,j⟩:=x;cases r
 have:b= #[]:=by
  have:b.toList=[]:=by simpa using g
  exact TM.mp this
 subst this;refine⟨z,y,[],.nil,o,#[],c,h1,d,f,?_,?_,mE⟩
 ·first|exact λe i=>by simp at i|(intro;simp)
 ·first|exact .nil|trivial|simp[Pairs]
def Qx(x:ObjOk P w H h a (.dK [])):ObjOk P w H' h a (.dT []):=by
 obtain⟨z,y,n,r,o,c,d,h1,f,g,k,b,m⟩:=x;cases r
 have:c= #[]:=by
  have j:c.toList.length=0:=by
   first
    |simpa using b.length
    |simpa using(Co b)
    |(
      cases i:c.toList with
      |nil=>rfl
      |cons e l=>rw[i] at b;cases b)
  exact TM.mp (ND.mp j)
 subst this;exact⟨z,y,[],.nil,o,#[],d,h1,f,g,rfl,mE⟩
end
section
variable {X:Cx}{f:gZ}{g:L2.St}{H:Hp}{s:gn}
def JE{A:gM}{E:hC}(I:Inv X f g H s){H':Hp}{a:gm}{k:Key}{u:gA}{Q:hC}(x:ObjOk X.prog X.w H' s.heap a (.dK []))(d:RelV (kV k) u)(b:Bool)(h: ∀e,Inv X f g H e->Q (.bool b) e):
  wpAny (model X.prog X.w) A (compareOp (if b=true then .NotIn else .In) u (.ref a)) Q E s:=by
 obtain⟨z,hd,i,c,dd⟩:=x;cases c
 cases b with
 |false=>exact wpAny_in_of (zm d) hd dd.mapOf (h _ (I.tok _))
 |true=>exact wpAny_notIn_of (zm d) hd dd.mapOf (h _ (I.tok _))
def JD{A:gM}{E:hC}(e:A.units+1<cLine)(I:Inv X f g H s){H':Hp}{a b:gm}{k:List Key}{Q:hC}(x:ObjOk X.prog X.w H' s.heap a (.dT []))(d:H b=some (.tup (k.map kV)))(c:Bool)(h: ∀i,Inv X f g H i->Q (.bool c) i):
  wpAny (model X.prog X.w) A (compareOp (if c=true then .NotIn else .In) (.ref b) (.ref a)) Q E s:=by
 obtain⟨z,hd,u,r,o,l,j,h1,m,n,p,q⟩:=x;cases r;have dd:s.heap.DictOfH (tupleKind (jB X.prog X.w)) a []:=⟨o,l,j,h1,m,n,p,(λx (t:x∈[])=>by simp at t),q⟩
 cases c with
 |false=>exact wpAny_in_heap (wk e) (qe I.hok d) hd dd (h _ (I.tok _))
 |true=>exact wpAny_notIn_heap (wk e) (qe I.hok d) hd dd (h _ (I.tok _))
def pF(h:pG d k=true):(∃e,rB k=some e/\ ∀x∈d,∃c,rB x=some c)\/(∃i,xM k=some i/\ ∀x∈d,∃c,xM x=some c):=by
 unfold pG at h;rw[vZ,kX,kX,kn,kn] at h;rcases h with⟨h1,a⟩|⟨h1,a⟩
 ·exact .inl ⟨_,(Kz.mp h1).choose_spec,λx b=>Kz.mp (a x b)⟩
 ·exact .inr ⟨_,(Kz.mp h1).choose_spec,λx b=>Kz.mp (a x b)⟩
def Cu{a:List Key}{c:Key}(h:rB (.tup (a.map iX))=some c):False:=by cases h
def zk(h:xM (iX k)=some c):False:=by cases k<;>cases h
def Vo(z:A.units+1<cLine)(I:Inv X f g H s)(q:OthB X.K (H a) .dct ks n us)(r:RepL X.K H O n us)(hk:pG ks k=true)(J:iV X.K H O k y)(o:RelV y u)(l:Bool)
  (h: ∀j,Inv X f g H j->Q (.bool (xor l (jQ ks n k).isSome)) j):wpAny (model X.prog X.w) A (compareOp (if l=true then .NotIn else .In) u (.ref a)) Q E s:=by
 have nil: ∀n:List D,jQ [] n k=none:=λn=>by cases n<;>rfl
 rcases q with⟨i,e,rfl,rfl⟩|⟨i,e,rfl,rfl⟩
 ·rcases pF hk with⟨B,h1,_⟩|⟨C,h1,M⟩
  ·have:=pj h1 J;subst this;have P:=nB h1;subst P;obtain⟨Y,F⟩:=GN (k:=B) r
   have U:(qI i B).isSome=(jQ (i.map λp=>iX p.1) n (iX B)).isSome:=by
    cases x:jQ (i.map λp=>iX p.1) n (iX B) with
    |none=>rw[F x];rfl
    |some d=>obtain⟨v,N,_⟩:=Y d x;rw[N];rfl
   rw[<-U] at h
   cases l with
   |false=>exact Vp z I (DGet.k e) o λj m=>by simpa using h j m
   |true=>exact Iz z I (DGet.k e) o λj m=>by simpa using h j m
  ·have L:i=[]:=by
    cases i with
    |nil=>rfl
    |cons p i=>obtain⟨c,T⟩:=M (iX p.1) (by simp);exact(zk T).elim
   subst L;obtain⟨b,rfl,G⟩:=nA h1 J;cases o;rw[mR,nil] at h;exact JD z I (Qx (H':=H) (I.hok a _ e)) G l λj m=>by simpa using h j m
 ·rcases pF hk with⟨B,h1,M⟩|⟨C,h1,_⟩
  ·have L:i=[]:=by
    cases i with
    |nil=>rfl
    |cons p i=>obtain⟨c,T⟩:=M (.tup (p.1.map iX)) (by simp);exact(Cu T).elim
   subst L;have:=pj h1 J;subst this;rw[mR,nil] at h;exact JE I (Qw (H':=H) (I.hok a _ e)) o l λj m=>by simpa using h j m
  ·obtain⟨b,rfl,G⟩:=nA h1 J;have P:=rA h1;subst P;obtain⟨Y,F⟩:=GL (k:=C) r
   have U:(qI i C).isSome=(jQ (i.map λp=> .tup (p.1.map iX)) n (.tup (C.map iX))).isSome:=by
    cases x:jQ (i.map λp=> .tup (p.1.map iX)) n (.tup (C.map iX)) with
    |none=>rw[F x];rfl
    |some d=>obtain⟨v,N,_⟩:=Y d x;rw[N];rfl
   rw[<-U] at h
   cases l with
   |false=>exact Vp z I (DGet.t e G) o λj m=>by simpa using h j m
   |true=>exact Iz z I (DGet.t e G) o λj m=>by simpa using h j m
def Tn(L:A.units+1<cLine)(I:Inv X f g H s)(q:OthB X.K (H a) .dct M m us)(r:RepL X.K H O m us)(hk:pG M k=true)(j:jQ M m k=some d)(T:iV X.K H O k y)(N:RelV y u) 
  (h: ∀v w l,Inv X f g H l->Rep X.K H O d v->RelV v w->Q w l):wpAny (model X.prog X.w) A (getItem (.ref a) u) Q E s:=by
 have nil: ∀m:List D,jQ [] m k=none:=λm=>by cases m<;>rfl
 rcases q with⟨i,e,rfl,rfl⟩|⟨i,e,rfl,rfl⟩
 ·rcases pF hk with⟨J,h1,_⟩|⟨U,h1,o⟩
  ·have:=pj h1 T;subst this;have G:=nB h1;subst G;obtain⟨v,x,z⟩:=(GN (k:=J) r).1 d j;refine Bh L I (v:=v) (y:=kV J) ?_ N λw l n C=>h v w l n z C;rw[<-x];exact DGet.k e
  ·cases i with
   |nil=>rw[mR,nil] at j;cases j
   |cons p i=>obtain⟨c,B⟩:=o (iX p.1) (by simp);exact(zk B).elim
 ·rcases pF hk with⟨J,h1,o⟩|⟨U,h1,_⟩
  ·cases i with
   |nil=>rw[mR,nil] at j;cases j
   |cons p i=>obtain⟨c,B⟩:=o (.tup (p.1.map iX)) (by simp);exact(Cu B).elim
  ·obtain⟨b,rfl,Y⟩:=nA h1 T;have G:=rA h1;subst G;obtain⟨v,x,z⟩:=(GL (k:=U) r).1 d j;refine Bh L I (v:=v) (y:= .ref b) ?_ N λw l n C=>h v w l n z C;rw[<-x];exact DGet.t e Y
end
def EE(d k:D):Option (D×Bool):=match d with
 | .oth .dct a b=>if pG a k=true then(jQ a b k).map λv=>(v,false) else none
 |_=>gIx d k
def SV(d e:D):Option Bool:=match e with
 | .oth .dct a b=>if pG a d=true then some (jQ a b d).isSome else none
 |_=>inX d e
def oH(d e:D):Option (D×Bool):=(SV d e).map λb=>(.bl (!b),false)
section
variable {X:Cx}
def GF(p:X.A.units+62<cLine):OpR X (compareOp .NotIn) (rD X.K oH):=by
 intro c s t H x y v u Q I l m h;obtain⟨O,d,e,z,np,h1,j,g,G⟩:=h;by_cases k: ∃f i,e= .oth .dct f i
 ·obtain⟨f,i,rfl⟩:=k;obtain⟨b,o,rfl⟩:=iC g;obtain⟨hk,rfl⟩:=gX (show(if pG f d=true then some (jQ f i d).isSome else none)=some b from o);obtain⟨a,B,rfl,q,r⟩:=nM j;cases m;exact Vo (by omega) I q r hk h1 l true λw n=>⟨.bl _,H,n,by simp[L2.RelV],G.bl⟩
 ·have:oH d e=Dc d e:=by
   unfold oH SV Dc;split
   ·exact absurd ⟨_,_,rfl⟩ k
   ·rfl
  rw[this] at g;exact GD p c s t H x y v u Q I l m ⟨O,d,e,z,np,h1,j,g,G⟩
def U4(J:X.A.units+1<cLine):IxR X (rD X.K EE):=by
 intro b slice c s B H x y v u Q I o p h n;obtain⟨O,d,e,z,np,h1,l,i,G⟩:=h;by_cases hd: ∃g k,d= .oth .dct g k
 ·obtain⟨g,k,rfl⟩:=hd;have j:(if pG g e=true then(jQ g k e).map λv=>(v,false) else none)=some z:=i;split at j
  case isFalse=>cases j
  rename_i hk;obtain⟨w,L,rfl⟩:=iC j;obtain⟨a,T,rfl,q,r⟩:=nM h1;cases o;have m:s.TypeIs (.ref a) "dict":=yX I q;unfold subscriptTail;refine gk ?_;rw[getitemInPython_of_ne m.not_modules];refine gk (qR m PySem.F.slot_dict_getitem.lookup ?_)
  have fin:wpAny (model X.prog X.w) X.A (subscripted slice false (.ref a) u) (λr f=>wpAny (model X.prog X.w) X.A (letTemporaryGo b (.ref a) r>>=λ_=>pure r) (EP X c B Q) X.xe f) X.xe s:=by
   rw[n];exact wpAny_operating (Tn J I q r hk L l p λt U N C E M=>gk (wpAny_letTemporaryGo (gw ⟨t,H,C,M,G t H (λ_ _ e=>e) E⟩)))
  first
   |exact gw (gk fin)
   |exact gk (gw (gk fin))
   |exact gk fin
 ·have:EE d e=gIx d e:=by
   unfold EE;split
   ·exact absurd ⟨_,_,rfl⟩ hd
   ·rfl
  rw[this] at i;exact Qm b slice c s B H x y v u Q I o p ⟨O,d,e,z,np,h1,l,i,G⟩ n
def RF(h:X.A.units+1<cLine)(e:PO X a c)(f:PO X b d)(g:vT b):PX X (.Subscript a b pos) (gr EE c d):=px2 (Qh (U4 h) e f g)
def EI:F:=λδ=>some ((.oth .dct [] [],true),δ)
def Oi{a:Pos}:PX X (.Dict [] [] a) EI:=PX.imp L9 λh H Q c=>by
 obtain⟨g,T,f,d,E,e,k⟩:=c;cases e;intro p b;have B:=Ops.nil E;exact(B.done k) p _ b (jY b) ⟨[],.inl ⟨[],hG,rfl,rfl⟩,RepL.nil⟩
end
section
variable {K:gK}{T:AP'}{d:L2.St}{c:Dn}{H:Hp}{i:Nat}{g d':D}{a:gm}{o:HO}
def OwnI.writeG{j:Nat}{b:gm}(hd:c[i]?=some (some (g,true)))(h:OwnI d (c.set i (some (d',true))) j b):OwnI d c j b:=by
 obtain⟨e,h1,f⟩:=h;rcases kj h1 with⟨rfl,_,_⟩|⟨_,q⟩
 ·exact⟨_,hd,f⟩
 ·exact⟨e,q,f⟩
def ER.writeG(E:ER K H T d c)(hd:c[i]?=some (some (g,true)))(p:d[i]?=some (some (.ref a)))(r:OwnOk K (upd H a o) (λb=>OwnA d c b\/T b) d' a):
  ER K (upd H a o) T d (c.set i (some (d',true)))/\Keep d c H (c.set i (some (d',true))) (upd H a o):=by
 have O:i<c.length:=(uQ.mp hd).1;have s:OwnA d c a:=⟨i,_,hd,p⟩
 have B: ∀b,OwnA d (c.set i (some (d',true))) b->OwnA d c b:=λb ⟨j,e,h1,m⟩=>by
  obtain⟨G,t,v⟩:=OwnI.writeG hd ⟨e,h1,m⟩;exact⟨j,G,t,v⟩
 have A: ∀b u,H b=some u-> ¬(OwnA d c b\/T b)->upd H a o b=some u:=λb u e n=>by rw[hJ (by intro z;subst z;exact n (.inl s))];exact e
 have C: ∀b,H b≠none->upd H a o b≠none:=λb z=>by
  by_cases y:b=a
  ·subst y;rw[hG];simp
  ·rw[hJ y];exact z
 have sub: ∀b,(OwnA d (c.set i (some (d',true))) b\/T b)->OwnA d c b\/T b:=λb z=>z.imp (B b) id;refine⟨⟨by rw[uM];exact E.len,λj e h=>?_,λj e h=>?_,λj k e f b h hk h1 m=>?_,λb z=>E.nT b (B b z),λb z=>by have ne:b≠a:=λe=>E.nT a s (e▸z);rw[hJ ne];exact E.dom b z⟩,⟨λb u e n=>by rw[hJ (by intro z;subst z;exact n s)];exact e,λj b z=>OwnI.writeG hd z,C⟩⟩
 ·rcases kj h with⟨_,_,q⟩|⟨_,q⟩
  ·cases q
  ·obtain⟨w,l,x⟩:=E.val j e q;exact⟨w,l,Rep.mono A (λb _ z=>sub b z) x⟩
 ·rcases kj h with⟨rfl,_,q⟩|⟨ne,q⟩
  ·cases q;exact⟨a,p,r.mono (λ_ _ e _=>e) (λb _ z=>sub b z) λ_ e=>e⟩
  ·obtain⟨b,l,x⟩:=E.own j e q;refine⟨b,l,x.mono A (λb _ z=>sub b z) λu L=>?_⟩;rw[hJ]
   ·exact L
   ·intro z;subst z;exact ne (E.inj i j _ _ _ hd q p l)
 ·obtain⟨I,t,v⟩:=OwnI.writeG hd ⟨e,h,h1⟩;obtain⟨J,M,N⟩:=OwnI.writeG hd ⟨f,hk,m⟩;exact E.inj j k I J b t M v N
end
section
variable {X:Cx}{c:gZ}{d:L2.St}{H:Hp}{s:gn}{a:gm}
def Ri(I:Inv X c d H s)(e:H a=some (.dT [])):Inv X c d (upd H a (.dK [])) s:=by
 have:=yd (t':=s.toks) (h':=s.heap) I (by rw[e];exact True.intro) (Cc a s.heap) (by obtain⟨z,y,g,r,o,f,b,h1,_⟩:=(show ObjOk X.prog X.w H s.heap a (.dT []) from I.hok a _ e);exact⟨o,h1⟩) (Qw (H':=upd H a (.dK [])) (I.hok a _ e));exact this
def Rh(I:Inv X c d H s)(e:H a=some (.dK [])):Inv X c d (upd H a (.dT [])) s:=by
 have:=yd (t':=s.toks) (h':=s.heap) I (by rw[e];exact True.intro) (Cc a s.heap) (by obtain⟨z,y,g,r,o,f,b,h1,_⟩:=(show ObjOk X.prog X.w H s.heap a (.dK []) from I.hok a _ e);exact⟨o,h1⟩) (Qx (H':=upd H a (.dT [])) (I.hok a _ e));exact this
def Uz:PZ:=λo i v H Q=> ∃a,o= .ref a/\((∃e,DPut H a i v e/\Q e)\/(∃f,H a=some (.dT [])/\i=kV f/\Q (upd H a (.dK [(f,v)])))\/
 (∃g b,H a=some (.dK [])/\i= .ref b/\H b=some (.tup (g.map kV))/\Q (upd H a (.dT [(g,v)]))))
def Lh(j:X.A.units+1<cLine):Tz X Uz:=by
 intro c s d H o i v E C u Q I x l m h;obtain⟨a,rfl,h⟩:=h;cases x;rcases h with⟨r,g,q⟩|⟨y,e,rfl,q⟩|⟨B,b,e,rfl,n,q⟩
 ·exact wW j I g l m λp f=>⟨r,f,q⟩
 ·refine wW j (Ri I e) (DPut.k (k:=y) (v:=v) hG (by rw[iN];decide)) l m λp f=>⟨_,f,?_⟩
  rw[Hv];exact q
 ·have w:b≠a:=Qk n e (λz=>nomatch z);refine wW j (Rh I e) (DPut.t (k:=B) (v:=v) (b:=b) hG (by rw[hJ w];exact n) (by rw[iN];decide)) l m λp f=>⟨_,f,?_⟩
  rw[Hv];exact q
end
section
variable {K:gK}{H:Hp}{O:AP'}
theorem Lm{k:Key}{w:D}{v:V}(d:Rep K H O w v): ∀{a:List (Key×V)} {b:List D},RepL K H O b (a.map (·.2))->RepL K H O (rl (a.map λp=>iX p.1) b (iX k) w) ((a.map λc=>if c.1=k then(c.1,v) else c).map (·.2))
 |[],b,h=>by cases b<;>simpa[rl] using h
 |(f,u)::a,[],h=>by rw[iu,RepL] at h;cases h
 |(f,u)::a,i::b,h=>by
  rw[iu,RepL] at h;obtain⟨x,r,e,h1,g⟩:=h;obtain⟨rfl,rfl⟩:=ui e;simp only[iu,rl,vF];refine RepL.cons ?_ (Lm d g);by_cases hk:f=k
  ·simp only[hk,decide_true,jh];exact d
  ·simp only[hk,decide_false,iw,iQ];exact h1
theorem Ll{k:List Key}{w:D}{v:V}(d:Rep K H O w v): ∀{a:List (List Key×V)} {b:List D},RepL K H O b (a.map (·.2))->RepL K H O (rl (a.map λp=> .tup (p.1.map iX)) b (.tup (k.map iX)) w) ((a.map λc=>if c.1=k then(c.1,v) else c).map (·.2))
 |[],b,h=>by cases b<;>simpa[rl] using h
 |(f,u)::a,[],h=>by rw[iu,RepL] at h;cases h
 |(f,u)::a,i::b,h=>by
  rw[iu,RepL] at h;obtain⟨x,r,e,h1,g⟩:=h;obtain⟨rfl,rfl⟩:=ui e;simp only[iu,rl,D.eqb,sG];refine RepL.cons ?_ (Ll d g);by_cases hk:f=k
  ·simp only[hk,decide_true,jh];exact d
  ·simp only[hk,decide_false,iw,iQ];exact h1
def Qf(a:Rep K H O w v)(h:RepL K H O b (kvs.map (·.2))):
  (sP (kvs.map λp=>iX p.1) b (iX k) w).1=(qJ kvs k v).map (λp=>iX p.1)/\RepL K H O (sP (kvs.map λp=>iX p.1) b (iX k) w).2 ((qJ kvs k v).map (·.2)):=by
 have c:(kvs.map λp=>iX p.1).any (D.eqb · (iX k))=kvs.any λd=>decide (d.1=k):=by
  rw[Ca];congr 1;funext p;exact vF _ _
 unfold sP qJ;rw[c];split
 ·refine⟨?_,Lm a h⟩;rw[iI];apply mQ;intro p _;simp only[Function.comp];split<;>rfl
 ·exact⟨by simp,by rw[mF];exact h.append (RepL.one a)⟩
def Qe{k:List Key}{w:D}{v:V}(b:Rep K H O w v){kvs:List (List Key×V)}{a:List D}(h:RepL K H O a (kvs.map (·.2))):
  (sP (kvs.map λp=> .tup (p.1.map iX)) a (.tup (k.map iX)) w).1=(qJ kvs k v).map (λp=> .tup (p.1.map iX))/\RepL K H O (sP (kvs.map λp=> .tup (p.1.map iX)) a (.tup (k.map iX)) w).2 ((qJ kvs k v).map (·.2)):=by
 have c:(kvs.map λp=>D.tup (p.1.map iX)).any (D.eqb · (.tup (k.map iX)))=kvs.any λd=>decide (d.1=k):=by
  rw[Ca];congr 1;funext p;simp only[Function.comp,D.eqb,sG]
 unfold sP qJ;rw[c];split
 ·refine⟨?_,Ll b h⟩;rw[iI];apply mQ;intro p _;simp only[Function.comp];split<;>rfl
 ·exact⟨by simp,by rw[mF];exact h.append (RepL.one b)⟩
end
def DY(i:Nat)(f:F)(g:FO):FS:=λc=>(f c).bind λp=>match p.2[i]? with
 |some (some _)=>(g p.2).bind λq=>match res q.2 q.1,q.2[i]? with
  |some k,some (some (.oth .dct a b,true))=>if pG a k=true/\a.length<10000 then some (.nx (q.2.set i (some (.oth .dct (sP a b k p.1.1).1 (sP a b k p.1.1).2,true)))) else none
  |_,_=>none
 |_=>none
section
variable {X:Cx}{e d:gy}{f:F}{l:FO}{h g m s:Pos}{i:Nat}{x:Str}{A L:iZ}{q:Hp}
def LF{I:Pos}(hu:X.A.units+1<cLine)(hv:PO X (.Name x g) (gh i))(he:PX X e f)(hi:PO X d l)
  (ha: ∀v,assign (.Subscript (.Name x g) d I) X.env v=(do
   let ov <-holding [v] (eval (.Name x g) X.env)
   let iv <-holding [v,ov] (eval d X.env)
   standAt I
   holding [v,ov,iv] (setItem ov iv v)
   release [v,ov,iv] []))
  (hs:swapsWithSole [.Subscript (.Name x g) d I] e h.line X.env=pure false)(hw:swappedStores [.Subscript (.Name x g) d I] e X.env=pure none)
  (h1:(assignEach [.Subscript (.Name x g) d I] X.env).map (·.2)=[assign (.Subscript (.Name x g) d I) X.env]):
  PSX X A L q (.Assign [.Subscript (.Name x g) d I] e h) (DY i f l):=PS.imp' (Gx he (L3 hv hi (Lh hu) ha) hs hw h1) λD U H hw=>by
 obtain⟨δ,T,out,E,fi,e,k⟩:=hw;obtain⟨⟨r,w⟩,h1,e⟩:=gg e;dsimp only at e;split at e
 case h_2=>cases e
 rename_i y0 h0;obtain⟨⟨o,y⟩,h2,e⟩:=gg e;dsimp only at e;split at e
 ·rename_i S V W hk h3;obtain⟨⟨R,C⟩,e⟩:=gX e;cases e;refine⟨δ,T,r,w,E,h1,λv H1 Y=>⟨w,Tmp T r v,.slot i,w,Y.er E,by unfold gh;rw[h0],λv2 H2 P=>⟨w,Tmp T r v,o,y,P.er (Y.er E),h2,λv3 F P3=>?_⟩⟩⟩;have fZ:PostO X.K T U δ H (.val r) w v H1:=Y;have B:=Ops.cons E fZ (Ops.cons (Y.er E) P (Ops.cons (P.er (Y.er E)) P3 (Ops.nil (P3.er (P.er (Y.er E))))));have E3:ER X.K F T U y:=B.er.mono (λ_ _ e _=>e) (λb _ z=>B.tt b z) (λa z=>B.er.dom a (B.tt a z));have M:U[i]?=some (some v2):=P.2.2;obtain⟨a,q1,us,q2,q3⟩:=E3.own i _ h3;rw[M] at q1;cases q1;have vk:=B.view (j:=2) rfl rfl hk;have rv:=B.rep E (j:=0) (r:=r) rfl rfl;have oa:OwnA U y a:=⟨i,_,h3,M⟩
  have kp: ∀(G:HO) b u,F b=some u-> ¬(OwnA U y b\/T b)->upd F a G b=some u:=λG b u e n=>by rw[hJ (by intro z;subst z;exact n (.inl oa))];exact e
  have ks10:10000<sizeLine:=by rw[iN];decide
  have fin: ∀G Z,OthB X.K (some G) .dct (sP V W S r.1).1 (sP V W S r.1).2 Z->RepL X.K F (λa=>OwnA U y a\/T a) (sP V W S r.1).2 Z->D.nx U (upd F a G):=λG Z g1 g2=>by
   obtain⟨E4,K4⟩:=E3.writeG (o:=G) (d':= .oth .dct (sP V W S r.1).1 (sP V W S r.1).2) h3 M ⟨Z,by rw[hG];exact g1,RepL.mono (kp G) (λ_ _ z=>z) g2⟩;exact k _ _ (B.keep.trans K4).sk E4
  refine⟨a,rfl,?_⟩;rcases q2 with⟨kvs,eH,rfl,rfl⟩|⟨kvs,eH,rfl,rfl⟩
  ·rw[iJ] at C;rcases pF R with⟨κ,g1,_⟩|⟨τ,g1,g2⟩
   ·have J:=pj g1 vk;have Q:=nB g1;subst Q;obtain⟨N,O⟩:=Qf (k:=κ) rv q3;refine .inl ⟨_,by rw[J];exact DPut.k eH (by omega),fin _ _ (.inl ⟨_,rfl,N,rfl⟩) O⟩
   ·have cc:kvs=[]:=by
     cases kvs with
     |nil=>rfl
     |cons p kvs=>obtain⟨c,hc⟩:=g2 (iX p.1) (by simp);exact(zk hc).elim
    subst cc;obtain⟨b,J,eb⟩:=nA g1 vk;have Q:=rA g1;subst Q;obtain⟨N,O⟩:=Qe (k:=τ) (kvs:=[]) rv q3;exact .inr (.inr ⟨τ,b,eH,J,eb,fin _ _ (.inr ⟨[(τ,v)],rfl,N,rfl⟩) O⟩)
  ·rw[iJ] at C;rcases pF R with⟨κ,g1,g2⟩|⟨τ,g1,_⟩
   ·have cc:kvs=[]:=by
     cases kvs with
     |nil=>rfl
     |cons p kvs=>obtain⟨c,hc⟩:=g2 (.tup (p.1.map iX)) (by simp);exact(Cu hc).elim
    subst cc;have J:=pj g1 vk;have Q:=nB g1;subst Q;obtain⟨N,O⟩:=Qf (k:=κ) (kvs:=[]) rv q3;exact .inr (.inl ⟨κ,eH,J,fin _ _ (.inl ⟨[(κ,v)],rfl,N,rfl⟩) O⟩)
   ·obtain⟨b,J,eb⟩:=nA g1 vk;have Q:=rA g1;subst Q;obtain⟨N,O⟩:=Qe (k:=τ) rv q3;refine .inl ⟨_,by rw[J];exact DPut.t eH eb (by omega),fin _ _ (.inr ⟨_,rfl,N,rfl⟩) O⟩
 ·cases e
end
def jN(d:D):Option (D×Bool):=match d with
 | .oth .dct a b=>if(a.all λk=>(rB k).isSome)=true/\a≠[] then jo a else none
 |_=>rC d
section
variable {X:Cx}
theorem AE{P:gR}{w:gJ}: ∀{e:List DictEntry} {f:List (Key×Value)} {a:List (Key×V)},Pairs (jB P w) e f->KV a f->Vals (a.map λp=>kV p.1) (e.map (·.key))
 |_,_,_,.nil,.nil=> .nil
 |_,_,_,.cons h1 g t,.cons r q=>by
  refine .cons ?_ (AE t q);dsimp only;rw[r.1];rcases jF (show zj _ _=true from h1) with⟨i,d,b,c⟩|⟨x,d,b,c⟩
  ·rw[b,c];exact⟨d,rfl⟩
  ·rw[b,c];exact⟨d,rfl⟩
theorem AL{K:gK}{H:Hp}{O:AP'}: ∀(a:List (Key×V)),RepL K H O (a.map λp=>iX p.1) (a.map λp=>kV p.1)
 |[]=>RepL.nil
 |(k,v)::a=>by
  refine RepL.cons ?_ (AL a)
  cases k with
  |inl i=>exact Rep.mkInt
  |inr x=>exact Rep.mkStr
def UM{X:Cx}{id:String}{g f:D->Option (D×Bool)}(i:jx X (.builtin id) (rDn X.K (g1 f))){c:gZ}{s:gn}{e:L2.St}{H:Hp}{x:V}{u:gA}{Q:VK}{O:AP'}{d:D}{z:D×Bool}(I:Inv X c e H s)(k:L2.RelV x u)(np: ∀p,¬Ow (H p)-> ¬O p)(hd:iV X.K H O d x)(h:f d=some z)(G:Gen X.K H O z Q):
  wpAny (model X.prog X.w) X.A (call (.builtin id) [u]) (EP X c e Q) X.xe s:=
 i c s e H [x] [u] Q I (.cons k .nil) ⟨O,[d],z,np,rfl,(λj l m a b=>by
   cases j with
   |zero=>simp at a b;subst a;subst b;exact hd
   |succ j=>simp at a),h,G⟩
def qq(j:X.calm=true)(n:X.A.units+62<cLine):jx X (.builtin "sorted") (rDn X.K (g1 jN)):=nW λt s σ H x u Q O d z I v np hd l G=>by
 by_cases m: ∃f w,d= .oth .dct f w
 ·obtain⟨f,w,rfl⟩:=m;have h:(if(f.all λk=>(rB k).isSome)=true/\f≠[] then jo f else none)=some z:=l;split at h
  ·rename_i c;obtain⟨a,us,rfl,q,r⟩:=nM hd;cases v;rcases q with⟨b,e,rfl,rfl⟩|⟨b,e,rfl,rfl⟩
   ·obtain⟨zl,B,D,i,o,V,S,h1,J,L,W,M,Z⟩:=Qv I.hok e;have y:=AE M i;have U:=y.length;simp only[iJ,ji] at U;have T:X.A.handled=none:=I.ok.hd j;exact rZ n I (AL (O:=O) b) y h G λR P F C N=>TT.NH B (by rw[C];exact T) ⟨o,h1,J,L⟩ (by omega) λE Y k=>N E Y k
   ·exfalso
    cases b with
    |nil=>exact c.2 rfl
    |cons p b=>
     have:=kn.mp c.1 (.tup (p.1.map iX)) (by simp);simp[rB] at this
  ·cases h
 ·have:jN d=rC d:=by
   unfold jN;split
   ·exact absurd ⟨_,_,rfl⟩ m
   ·rfl
  exact UM (g:=jN) (Dk j n) I v np hd (by rw[<-this];exact l) G
def Oh(a:Gl X x)(b:X.mg x=some (.int i t))(hd:(x==("__debug__":Str))=false):PX X (.Name x pos) (fC (.int i)):=PX.imp (OQ (v:= .int i) a b ⟨t,rfl⟩ hd) λf H Q h=>by
 obtain⟨d,T,r,c,E,e,k⟩:=h;cases e;exact k _ _ (Post.val .refl E Rep.mkInt)
def CH:FS:=λ_=>none
def Jh{A L:iZ}{b:Hp}{st:Stmt}:PSX X A L b st CH:=λa s g H D I h=>by
 obtain⟨f,T,c,E,d,e,k⟩:=h;cases e
end
section
variable {X:Cx}{e:gy}{f:F}{b d a c:Pos}{i:Nat}{x:Str}
end
structure PXs(X:Cx)(es:jm)(fs:List F):Prop where
 pa:PA X es (tA X.K (fs.map gi))
section
variable {X:Cx}{e:gy}{a:jm}{f:F}{fs:List F}{b:Pos}
def Oa:PXs X [] []:=⟨CM⟩
def Lx(h:PX X e f)(c:PXs X a fs)(d:starEach (e::a) X.env=(false,eval e X.env)::starEach a X.env):PXs X (e::a) (f::fs):=⟨vf (PX.po h) c.pa d⟩
def Of(h:PXs X a fs):PX X (.List a b) (kD fs):=RE h.pa
def Oc{x1}(h:PXs X a fs):PX X (.Tuple a x1 b) (kO fs):=Ru h.pa
def LS{c:FT}(h:PTX X e c):PIf X [e] (tT X.K c):=OJ h
def RM{c:FT}(h:PWX X e c):PTX X e c:=PW.pt h
end
structure QX(X:Cx)(e:gy)(f:F):Prop where
 h:PX X e f
structure QO(X:Cx)(e:gy)(f:FO):Prop where
 h:PX.PO X e f
structure QA(X:Cx)(es:jm)(fs:List FO):Prop where
 h:PA X es (tA X.K fs)
structure QL(X:Cx)(es:jm)(fs:List F):Prop where
 h:PXs X es fs
structure QT(X:Cx)(e:gy)(f:FT):Prop where
 h:PTX X e f
structure QW(X:Cx)(e:gy)(f:FT):Prop where
 h:PWX X e f
structure QG(X:Cx)(A:iZ)(e:gy)(t:Tg):Prop where
 h:PGX X A e t
structure QI(X:Cx)(B:SB)(tg e:gy)(f:FIt):Prop where
 h:PIX X B tg e f
structure QF(X:Cx)(es:jm)(f:FT):Prop where
 h:PIf X es (tT X.K f)
structure QB(X:Cx)(A:iZ)(d:gm)(e:gy)(n:Nat)(f:FB):Prop where
 h:PB X (il e n (.ref d) X.env) (tBx false X.K A d f)
structure QS(X:Cx)(A L:iZ)(H0:Hp)(st:Stmt)(f:FS):Prop where
 h:PSX X A L H0 st f
structure QQ(X:Cx)(A L:iZ)(H0:Hp)(st:List Stmt)(f:FS):Prop where
 h:Dw X A L H0 st f
structure QC(X:Cx)(v:gA)(g:List D->Option (D×Bool)):Prop where
 h:jx X v (rDn X.K g)
structure QP(X:Cx)(o:xi)(g:D->D->Option (D×Bool)):Prop where
 h:OpR X o (rD X.K g)
abbrev SE(X:Cx)(e:gy)(a:jm):Prop:=starEach (e::a) X.env=(false,eval e X.env)::starEach a X.env
abbrev BA(X:Cx)(p:Pos)(a:jm):Prop:=(backTo p (starEach a X.env)).any (·.1)=false
abbrev DB(x:Str):Prop:=(x==("__debug__":Str))=false
abbrev un(A:gM)(n:Nat):Prop:=A.units+n<cLine
structure ZZ where
 P:Program
 w:World
 K:PySem.W.Frag
 mg:Str->Option Value
 base:Heap
def Oz(Z:ZZ)(k:Nat)(x:Str)(b:hW)(c:EvF):Prop:= ∃f a,FnOk Z.P Z.w Z.K Z.mg Z.base CX0 k f a b (spF Z.K c)/\Z.mg x=some (.ref f)/\PySem.W.keepIn Z.K (.ref f)=true/\Binds Z.K a b []
theorem Oz.up{Z:ZZ}{k j:Nat}{x:Str}{d:hW}{c:EvF}(o:Oz Z k x d c)(h:k<=j:=by decide):Oz Z j x d c:=let⟨f,e,a,b⟩:=o;⟨f,e,a.mono h,b⟩
abbrev zX(X:Cx):ZZ:=⟨X.prog,X.w,X.K,X.mg,X.base⟩
def btT:List (Str×Value):=[("len",.builtin "len"),("abs",.builtin "abs"),("int",.type "int"),("tuple",.type "tuple"),("list",.type "list"),("bool",.type "bool"),("max",.builtin "max"),("min",.builtin "min"),("all",.builtin "all"),("any",.builtin "any"),("sorted",.builtin "sorted"),("set",.type "set")]
def btA{c:lL}(T:Tx c): ∀p∈btT,c p.1=none/\bootBuiltins p.1=some p.2:=by
 have h: ∀p∈btT,bootBuiltins p.1=some p.2:=by decide+kernel
 intro p b;refine⟨?_,h p b⟩;have a:p∈btT:=b;unfold btT at a;simp only[jr,jT,kU] at a;rcases a with rfl|rfl|rfl|rfl|rfl|rfl|rfl|rfl|rfl|rfl|rfl|rfl
 ·exact T.n_len
 ·exact T.n_abs
 ·exact T.n_int
 ·exact T.n_tuple
 ·exact T.n_list
 ·exact T.n_bool
 ·exact T.n_max
 ·exact T.n_min
 ·exact T.n_all
 ·exact T.n_any
 ·exact T.n_sorted
 ·exact T.n_set
theorem GO{z:Str}{v:gA}: ∀{l:List (Str×Value)},l.lookup z=some v->(z,v)∈l
 |[],h=>by cases h
 |(y,u)::l,h=>by
  rw[oq] at h;split at h
  ·rename_i q;cases h;rw[tD q];exact .head _
  ·exact .tail _ (GO h)
def btM{a:lL}{z:Str}{v:gA}(T:Tx a)(h:btT.lookup z=some v):a z=none:=(btA T _ (GO h)).1
def btN{z:Str}{v:gA}(h:btT.lookup z=some v):bootBuiltins z=some v:=(show ∀p∈btT,bootBuiltins p.1=some p.2 from by decide+kernel) _ (GO h)
section
variable {X:Cx}{x z:Str}{e a b c st lo H:gy}{m:jm}{q r fc U fl fh:FO}{f g:F}{y fu:FT}{p G J l s I:Pos}{A L:iZ}{B:SB}{E:Hp}{fs:List FO}{Y:List F}{i j k:Nat}{Q:gy}{S:Stmt}{M Ts:List Stmt}{u v:FS}
def xV(h1:X.N[i]?=some x:=by rfl)(d:Vis X.env.scope x:=by first|exact Or.inl rfl|exact Or.inr (Or.inl rfl)|exact Or.inr (Or.inr rfl))(h:DB x:=by decide)(n:(x==("__classdict__":Str))=false:=by decide):QO X (.Name x l) (gh i):=⟨RZ h1 d h n⟩
def xW(h1:X.N[i]?=some x:=by rfl)(d:Vis X.env.scope x:=by first|exact Or.inl rfl|exact Or.inr (Or.inl rfl)|exact Or.inr (Or.inr rfl))(h:DB x:=by decide)(n:(x==("__classdict__":Str))=false:=by decide):QX X (.Name x l) (hU i):=⟨Rt h1 d h n⟩
def xO(h:QX X e f):QO X e (gi f):=⟨PX.po h.h⟩
def x1{j}:QX X (.Constant .none j l) (fC .non):=⟨RB⟩
def x2{i j}:QX X (.Constant (.bool i) j l) (fC (.bl i)):=⟨UE⟩
theorem x3{i j}:QX X (.Constant (.int i) j l) (fC (.int i)):=⟨RH⟩
theorem x4{i j}:QX X (.Constant (.str i) j l) (fC (.str i)):=⟨Rv⟩
theorem x5{i:Int}(h: ∃t,X.mg x=some (.int i t))(g:Gl X x:=by rfl)(d:DB x:=by decide):QX X (.Name x l) (fC (.int i)):=let⟨_,h⟩:=h;⟨Oh g h d⟩
def x7:QX X (.Dict [] [] l) EI:=⟨Oi⟩
def jg{d:Operator}{g:D->D->Option (D×Bool)}(o:QP X (binaryOp d) g)(n:QO X a q)(t:QO X b r):QX X (.BinOp a d b l) (gr g q r):=⟨RK o.h n.h t.h⟩
def uw(d:QO X a q):QX X (.UnaryOp .USub a l) (jk lz q):=⟨RC d.h⟩
def TU(d:QX X a f):QX X (.UnaryOp .Not a l) (M9 f):=⟨RA d.h⟩
def zV{d:CmpOp}{g:D->D->Option (D×Bool)}(o:QP X (compareOp d) g)(n:QO X a q)(t:QO X b r)(w:behindInMarks d b=false:=by first|exact Mp _|with_unfolding_all rfl):QX X (.Compare a [d] [b] l) (gr g q r):=⟨RI o.h n.h t.h w⟩
def tCmp{d:CmpOp}{g:D->D->Option (D×Bool)}(o:QP X (compareOp d) g)(n:QO X a q)(t:QO X b r)(w:behindInMarks d b=false:=by first|exact Mp _|with_unfolding_all rfl):QT X (.Compare a [d] [b] l) (fT (gr g q r)):=⟨OA o.h n.h t.h w⟩
def xCh{d n:CmpOp}(o:QO X a q)(t:QO X b r)(w:QO X c fc)(N:vA d:=by first|exact .inl rfl|exact .inr (.inl rfl)|exact .inr (.inr (.inl rfl))|exact .inr (.inr (.inr rfl)))(O:vA n:=by first|exact .inl rfl|exact .inr (.inl rfl)|exact .inr (.inr (.inl rfl))|exact .inr (.inr (.inr rfl)))(C:lastMarks [d,n] [b,c]=false:=by with_unfolding_all rfl):QX X (.Compare a [d,n] [b,c] l) (rK d n q r fc):=⟨LA N O o.h t.h w.h C⟩
def xBo{op}(d:QX X a f):QX X (.BoolOp op [a] l) f:=⟨Om d.h⟩
def zW(d:QX X a f)(n:QX X (.BoolOp .And (b::m) l) g):QX X (.BoolOp .And (a::b::m) l) (sU f g):=⟨RL d.h n.h⟩
def T4(d:QT X a y)(n:QW X (.BoolOp .And (b::m) l) fu):QW X (.BoolOp .And (a::b::m) l) (tV y fu):=⟨Ot d.h n.h⟩
def wOr(d:QT X a y)(n:QW X (.BoolOp .Or (b::m) l) fu):QW X (.BoolOp .Or (a::b::m) l) (xR y fu):=⟨RN d.h n.h⟩
def P8(d:QT X a y):QW X (.BoolOp .And [a] l) y:=⟨LB d.h⟩
def NN(d:QT X a y):QW X (.BoolOp .Or [a] l) y:=⟨Oq d.h⟩
def tW{op}(h:QW X (.BoolOp op m l) y):QT X (.BoolOp op m l) y:=⟨RM h.h⟩
def tNot(d:QT X a y):QT X (.UnaryOp .Not a l) (mH y):=⟨Oy d.h⟩
def yG(h:QX X e f)(n: ∀d,isTrue e X.env d=(do let v <-d;standAt e.pos;holding [v] (truthy v)):=by intro _;rfl):QT X e (fT f):=⟨Ox h.h n⟩
def xIf(o:QT X c y)(d:QX X a f)(n:QX X b g):QX X (.IfExp c a b l) (fIf y f g):=⟨UD o.h d.h n.h⟩
def xIx(d:QO X a q)(n:QO X b r)(o:vT b:=by exact λ_ _=>rfl):QX X (.Subscript a b l) (gr gIx q r):=⟨UC d.h n.h o⟩
def VQ(t:un X.A 1)(d:QO X a q)(n:QO X b r)(o:vT b:=by exact λ_ _=>rfl):QX X (.Subscript a b l) (gr EE q r):=⟨RF t d.h n.h o⟩
def QE(d:QO X a q)(n:QO X lo fl):QX X (.Subscript a (.Slice (some lo) none none G) l) (xv q fl):=⟨Od d.h n.h⟩
def IM(d:QO X a q)(n:QO X H fh):QX X (.Subscript a (.Slice none (some H) none G) l) (mW q fh):=⟨Oe d.h n.h⟩
def VO(d:QO X a q)(n:QO X st r):QX X (.Subscript a (.Slice none none (some st) G) l) (M8 q r):=⟨Rx d.h n.h⟩
def xL0:QL X [] []:=⟨Oa⟩
def xL(d:QX X e f)(n:QL X m Y)(o:SE X e m:=by rfl):QL X (e::m) (f::Y):=⟨Lx d.h n.h o⟩
def xA0:QA X [] []:=⟨CM⟩
def xA(d:QO X e q)(n:QA X m fs)(o:SE X e m:=by rfl):QA X (e::m) (q::fs):=⟨vf d.h n.h o⟩
def oM{k}(h:QL X m Y):QX X (.Tuple m k l) (kO Y):=⟨Oc h.h⟩
def oN(h:QL X m Y):QX X (.List m l) (kD Y):=⟨Of h.h⟩
def xB{id:String}{g:List D->Option (D×Bool)}(T:Tx X.mg)(hv:btT.lookup z=some (.builtin id))(n:QC X (.builtin id) g)(d:QA X (e::m) fs)(t:Gl X z:=by rfl)(w:z≠"__name__":=by decide)(N:DB z:=by decide)(o:SE X e m:=by rfl)(C:BA X l m:=by rfl):QX X (.Call (.Name z p) (e::m) [] l) (gC g fs):=⟨Oo n.h t (btM T hv) (btN hv) d.h w N o C⟩
def xT{id:String}{g:List D->Option (D×Bool)}(T:Tx X.mg)(hv:btT.lookup z=some (.type id))(n:QC X (.type id) g)(d:QA X (e::m) fs)(t:Gl X z:=by rfl)(w:z≠"__name__":=by decide)(N:DB z:=by decide)(o:SE X e m:=by rfl)(C:BA X l m:=by rfl):QX X (.Call (.Name z p) (e::m) [] l) (gC g fs):=⟨HI n.h t (btM T hv) (btN hv) d.h w N o C⟩
def xI{t:Ty}(T:Tx X.mg)(d:btT.lookup z=some (.type t.n))(w:QO X e q)(C:Gl X "isinstance":=by rfl)(o:Gl X z:=by rfl)(N:z≠"__name__":=by decide)(j7:DB z:=by decide)
  (s1:SE X e [.Name z G]:=by rfl)(s2:SE X (.Name z G) []:=by rfl)(O:BA X l [.Name z G]:=by rfl):
  QX X (.Call (.Name "isinstance" p) [e,.Name z G] [] l) (jk (og [t]) q):=⟨RG w.h C T.n_isinstance o (btM T d) (btN d) N j7 uc s1 s2 O⟩
def xI2{t O:Ty}{d:Str}{w:Pos}{o}(T:Tx X.mg)(N:btT.lookup z=some (.type t.n))(C:btT.lookup d=some (.type O.n))(ha:QO X e q)(hg:Gl X "isinstance":=by rfl)(cj:Gl X z:=by rfl)(hn:z≠"__name__":=by decide)(j7:DB z:=by decide)(cg:Gl X d:=by rfl)(dh:d≠"__name__":=by decide)(ck:DB d:=by decide)
  (s1:SE X e [.Tuple [.Name z G,.Name d J] o w]:=by rfl)(s2:SE X (.Tuple [.Name z G,.Name d J] o w) []:=by rfl)
  (s3:SE X (.Name z G) [.Name d J]:=by rfl)(s4:SE X (.Name d J) []:=by rfl)
  (i4:BA X l [.Tuple [.Name z G,.Name d J] o w]:=by rfl):
  QX X (.Call (.Name "isinstance" p) [e,.Tuple [.Name z G,.Name d J] o w] [] l) (jk (og [t,O]) q):=⟨Og ha.h hg T.n_isinstance cj (btM T N) (btN N) hn j7 cg (btM T C) (btN C) dh ck uc s1 s2 s3 s4 i4⟩
def xU{k:Nat}{ps:hW}{d:EvF}(O:Oz (zX X) k x ps d)(N:Room k X.A)(o:QA X (e::m) fs)(w:Gl X x:=by rfl)(j7:DB x:=by decide)
  (t:SE X e m:=by rfl)(T:BA X l m:=by rfl):QX X (.Call (.Name x p) (e::m) [] l) (gz d fs):=
 let⟨_,_,ok,C,D,n⟩:=O;⟨Ob ok N w C D n o.h j7 t T⟩
def NL{T:String}{mk:List D->D}{o:Bool}(d:Tx X.mg)(hv:btT.lookup z=some (.type T))(C:QA X [a,b] [q,r])(w:(T="list"/\mk= .lst/\o=true)\/(T="tuple"/\mk= .tup/\o=false):=by first|exact .inl ⟨rfl,rfl,rfl⟩|exact .inr ⟨rfl,rfl,rfl⟩)(N:X.calm=true:=by rfl)(O:Gl X z:=by rfl)(hn:z≠"__name__":=by decide)(j7:DB z:=by decide)(t:Gl X "range":=by rfl)
  (s1:SE X (.Call (.Name "range" G) [a,b] [] J) []:=by rfl)(s2:SE X a [b]:=by rfl)
  (i4:BA X l []:=by rfl)(n:BA X J [b]:=by rfl):
  QX X (.Call (.Name z p) [.Call (.Name "range" G) [a,b] [] J] [] l) (gC (gRg mk o) [q,r]):=⟨Rw w N O (btM d hv) (btN hv) hn j7 t d.n_range C.h s1 s2 i4 n⟩
def Ga(hv:QO X (.Name x s) (gh i))(n:QX X e f)(w:attributeBase (.Name x s) "append" X.env (eval (.Name x s) X.env)=eval (.Name x s) X.env:=by rfl)
  (C:((backTo l (starEach [e] X.env)).all (λx=>!x.1)&&(backToKw l (keywordEach [] X.env)).all (λx=>x.1.isSome)&&decide ([e].length+([]:List Keyword).length+(if([]:List Keyword).isEmpty then 0 else 1)<30))=true:=by rfl)
  (t:(I.endLine==l.line)=true:=by rfl)(o:SE X e []:=by rfl)(d:BA X l []:=by rfl):QX X (.Call (.Attribute (.Name x s) "append" I) [e] [] l) (jD i f):=⟨Jf hv.h n.h w C t o d⟩
def VP(hv:QO X (.Name x s) (gh i))(n:QO X e U)(w:attributeBase (.Name x s) "pop" X.env (eval (.Name x s) X.env)=eval (.Name x s) X.env:=by rfl)
  (C:((backTo l (starEach [e] X.env)).all (λx=>!x.1)&&(backToKw l (keywordEach [] X.env)).all (λx=>x.1.isSome)&&decide ([e].length+([]:List Keyword).length+(if([]:List Keyword).isEmpty then 0 else 1)<30))=true:=by rfl)
  (t:(I.endLine==l.line)=true:=by rfl)(o:SE X e []:=by rfl)(d:BA X l []:=by rfl):QX X (.Call (.Attribute (.Name x s) "pop" I) [e] [] l) (uG i U):=⟨Lz hv.h n.h w C t o d⟩
def iR1(T:Tx X.mg)(d:QA X [a] [q])(n:Gl X "range":=by rfl)(o:starEach [a] X.env=[(false,eval a X.env)]:=by rfl):QI X B Q (.Call (.Name "range" p) [a] [] l) (uD q):=⟨GB n T.n_range d.h o⟩
def iR2(T:Tx X.mg)(n:QA X [a,b] [q,r])(o:Gl X "range":=by rfl)(t:starEach [a,b] X.env=[(false,eval a X.env),(false,eval b X.env)]:=by rfl)(d:starEach [b] X.env=[(false,eval b X.env)]:=by rfl):QI X B Q (.Call (.Name "range" p) [a,b] [] l) (xN q r):=⟨GA o T.n_range n.h t d⟩
def iS(h:QX X e f):QI X B Q e (ie f):=⟨OI h.h⟩
def iZV{d:jm}{k1:Nat}{w6:Pos}(T:Tx X.mg)(w:QO X a (gh i))(C:QO X b (gh j))(o:B i:=by decide)(t:B j:=by decide)(N:Gl X "zip":=by rfl)(O:SE X a [b]:=by rfl)(n:SE X b []:=by rfl)(i4:BA X l [b]:=by rfl):
  QI X B (.Tuple d k1 w6) (.Call (.Name "zip" p) [a,b] [] l) (wR (gh i) (gh j)):=⟨LP N T.n_zip w.h C.h (HB o) (HB t) O n i4⟩
def gN(d:X.N.Nodup)(H:X.N[i]?=some x:=by rfl)(o:Loc X.env.scope x:=by first|exact Or.inl rfl|exact Or.inr rfl)(n:X.fn x=true\/X.env.scope.names.lookup x=some .local:=by first|exact Or.inl rfl|exact Or.inr rfl)(h:A i:=by decide):QG X A (.Name x l) (gq i):=⟨LY d H o n h⟩
def gT{d n:Tg}{k:Nat}(h1:QG X A a d)(o:QG X A b n)(t:X.calm=true:=by rfl)(N:(assignEach [a,b] X.env).map (·.2)=assign a X.env::(assignEach [b] X.env).map (·.2):=by rfl)(O:(assignEach [b] X.env).map (·.2)=assign b X.env::(assignEach [] X.env).map (·.2):=by rfl)
  (w:(assignEach [a,b] X.env).length=2:=by rfl)(C:(assignEach [a,b] X.env).findIdx? (·.1)=none:=by rfl):QG X A (.Tuple [a,b] k l) (uT [d,n]):=⟨ON t (AQ h1.h (AQ o.h LZ O) N) w rfl C⟩
def f0:QF X [] iM:=⟨LU⟩
theorem f1(h:QT X e y):QF X [e] y:=⟨LS h.h⟩
def bE{o:oi}{C:jb}{d:gm}{n:Nat}(t:QX X e f)(w:o[n+1]?=none:=by rfl):QB X A d (.ListComp e o C p) n (ip f):=⟨Mb w t.h⟩
def bF{o:oi}{C:jb}{d:gm}{n:Nat}{c:nD}{w:FIt}{tt:Tg}{r:FB}(hg:o[n+1]?=some c)(pi:QI X (λ_=>False) c.target c.iter w)(pg:QG X A c.target tt)(N:QF X c.ifs y)(pb:QB X A d (.ListComp e o C p) (n+1) r)(O:X.xe=λ_ _=>False:=by rfl)(hc:X.calm=true:=by rfl)
  (T:c.is_async=0:=by rfl)(k0: ∀t,o[n+1+1]?=some t->t.is_async=0:=by intro t h;cases h;try rfl)(hs: ∀x,foldedSetIterable c.iter X.env x=pure x:=by intro _;rfl):QB X A d (.ListComp e o C p) n (Nq w tt y r):=⟨OT O hc (Or.inl ⟨_,_,_,_,rfl⟩) hg T k0 hs pi.h pg.h N.h pb.h⟩
def cOk{N P:hW}{n scope:jb}{N':hW}{d:jf}(S:FnScope N P n)(h:Di N n scope N' d k=true:=by decide+kernel)(o:X.N=N:=by rfl)(t:X.env.scope=n:=by rfl):CompOk X N' scope d k:=Ha o t h
def xC{c:nD}{hV:oi}{T:gy}{scope:jb}{fi:FIt}{tt:Tg}{ti:FT}{r:FB}{o:jf}{N':hW}(C:CompOk X N' scope o k)(nd:N'.Nodup)(pi:QI X (λi=>i∉o) c.target c.iter fi)
  (r6: ∀(cl:kg) (C:gm) (O:gn) (t:Hp) (w:jl) (n:gZ),(X.comp N' scope cl C O t w n).N.Nodup->
   QG (X.comp N' scope cl C O t w n) (λi=>o.length<=i) c.target tt/\QF (X.comp N' scope cl C O t w n) c.ifs ti/\ ∀d,QB (X.comp N' scope cl C O t w n) (λi=>o.length<=i) d (.ListComp T (c::hV) scope l) 0 r)
  (hc:X.calm=true:=by rfl)(ha:c.is_async=0:=by rfl)(k0: ∀g',hV[0]?=some g'->g'.is_async=0:=by intro g' h;cases h;try rfl)(hs: ∀x,foldedSetIterable c.iter X.env x=pure x:=by intro _;rfl):QX X (.ListComp T (c::hV) scope l) (hZ o k fi tt ti r):=⟨Oj C hc ha k0 hs pi.h λcl C O t w n=>let⟨a,b,c⟩:=r6 cl C O t w n nd;⟨a.h,b.h,λd=>(c d).h⟩⟩
def sC{c:nD}{hV:oi}{t:gy}{scope:jb}{fi:FIt}{tt:Tg}{ti:FT}{r:FB}{o:jf}{N':hW}{py f7:Pos}(hN:X.N.Nodup)(C:CompOk X N' scope o k)(nd:N'.Nodup)(pi:QI X (λi=>i∉o) c.target c.iter fi)
  (r6: ∀(cl:kg) (C:gm) (T:gn) (w:Hp) (O:jl) (n:gZ),(X.comp N' scope cl C T w O n).N.Nodup->
   QG (X.comp N' scope cl C T w O n) (λi=>o.length<=i) c.target tt/\QF (X.comp N' scope cl C T w O n) c.ifs ti/\ ∀d,QB (X.comp N' scope cl C T w O n) (λi=>o.length<=i) d (.ListComp t (c::hV) scope l) 0 r)
  (dc:swapsWith (.ListComp t (c::hV) scope l) (some (.Name x py)) f7.line X.env=pure true:=by rfl)(H:X.N[i]?=some x:=by rfl)(hx:X.env.scope.names.lookup x=some .local:=by rfl)(hf:X.fn x=true:=by rfl)(hA:A i:=by decide)
  (hc:X.calm=true:=by rfl)(ha:c.is_async=0:=by rfl)(k0: ∀g',hV[0]?=some g'->g'.is_async=0:=by intro g' h;cases h;try rfl)(hs: ∀x,foldedSetIterable c.iter X.env x=pure x:=by intro _;rfl):QS X A L E (.Assign [.Name x py] (.ListComp t (c::hV) scope l) f7) (iq i (hZ o k fi tt ti r)):=⟨LG dc C hc ha k0 hs pi.h (HL hN H (Or.inl hx) (Or.inl hf)) hA λcl C T w O n=>let⟨a,b,c⟩:=r6 cl C T w O n nd;⟨a.h,b.h,λd=>(c d).h⟩⟩
def s0:QQ X A L E [] gH:=⟨LH⟩
theorem s1(h:QS X A L E S u)(d:QQ X A L E M v):QQ X A L E (S::M) (gx u v):=⟨Jj h.h d.h⟩
def sX:QS X A L E S CH:=⟨Jh⟩
def sR(h:QX X e f):QS X A L E (.Return (some e) l) (jA f):=⟨OE h.h⟩
def sRV(o: ¬L i)(h1:X.N[i]?=some x:=by rfl)(d:Vis X.env.scope x:=by first|exact Or.inl rfl|exact Or.inr (Or.inl rfl)|exact Or.inr (Or.inr rfl))(h:DB x:=by decide)(n:(x==("__classdict__":Str))=false:=by decide):QS X A L E (.Return (some (.Name x p)) l) (ni i):=⟨Gw h1 d h n o⟩
def sE(h:QX X e f)(d:swapsWith e none l.line X.env=pure false:=by rfl):QS X A L E (.Expr e l) (lQ f):=⟨LD h.h d⟩
def sI(o:QT X c y)(d:QQ X A L E M u)(n:QQ X A L E Ts v):QS X A L E (.If c M Ts l) (sIf y u v):=⟨RU o.h d.h n.h⟩
def sW{n:Nat}(o:QT X c y)(d:QQ X A L E M u)(t:PassesOwn (model X.prog X.w) X.A X.env X.xe:=by exact PassesOwn.never):QS X A L E (.While c M [] l) (nV y u n):=⟨Jg t o.h d.h⟩
def sF{d:FIt}{t:Tg}(H:QI X (λ_=>False) Q e d)(C:QG X A Q t)(n:QQ X A L E M u)(N:PassesOwn (model X.prog X.w) X.A X.env X.xe:=by exact PassesOwn.never)(o:X.calm=true:=by rfl)(O: ∀x,foldedSetIterable e X.env x=pure x:=by intro _;rfl):QS X A L E (.For Q e M [] l) (nQ d t u):=⟨OF N o H.h C.h n.h O⟩
def sS(d:X.N.Nodup)(o:QX X e f)(H:X.N[i]?=some x:=by rfl)(C:Loc X.env.scope x:=by first|exact Or.inl rfl|exact Or.inr rfl)(t:X.fn x=true\/X.env.scope.names.lookup x=some .local:=by first|exact Or.inl rfl|exact Or.inr rfl)(n:A i:=by decide)(w:swapsWith e (some (.Name x p)) l.line X.env=pure false:=by rfl):QS X A L E (.Assign [.Name x p] e l) (iq i f):=⟨OD d H C o.h w t n⟩
def sT{t:Tg}{pt:Pos}(d:QX X e f)(n:QG X A (.Tuple m k pt) t)(o:swapsWithSole [.Tuple m k pt] e l.line X.env=pure false:=by rfl)(w:swappedStores [.Tuple m k pt] e X.env=pure none:=by rfl)(h1:(assignEach [.Tuple m k pt] X.env).map (·.2)=[assign (.Tuple m k pt) X.env]:=by rfl):QS X A L E (.Assign [.Tuple m k pt] e l) (Lj t f):=⟨OC d.h n.h o w h1⟩
theorem sIx{d:Pos}(hv:QO X (.Name x s) (gh i))(w:QX X e f)(H:QO X a U)
  (t: ∀v,assign (.Subscript (.Name x s) a d) X.env v=(do
   let n <-holding [v] (eval (.Name x s) X.env)
   let o <-holding [v,n] (eval a X.env)
   standAt d
   holding [v,n,o] (setItem n o v)
   release [v,n,o] []):=by intro _;rfl)
  (C:swapsWithSole [.Subscript (.Name x s) a d] e l.line X.env=pure false:=by rfl)(N:swappedStores [.Subscript (.Name x s) a d] e X.env=pure none:=by rfl)
  (h1:(assignEach [.Subscript (.Name x s) a d] X.env).map (·.2)=[assign (.Subscript (.Name x s) a d) X.env]:=by rfl):QS X A L E (.Assign [.Subscript (.Name x s) a d] e l) (wI i f U):=⟨Ji hv.h w.h H.h t C N h1⟩
def sDP{d:Pos}(N:un X.A 1)(hv:QO X (.Name x s) (gh i))(w:QX X e f)(H:QO X a U)
  (t: ∀v,assign (.Subscript (.Name x s) a d) X.env v=(do
   let n <-holding [v] (eval (.Name x s) X.env)
   let o <-holding [v,n] (eval a X.env)
   standAt d
   holding [v,n,o] (setItem n o v)
   release [v,n,o] []):=by intro _;rfl)
  (C:swapsWithSole [.Subscript (.Name x s) a d] e l.line X.env=pure false:=by rfl)(O:swappedStores [.Subscript (.Name x s) a d] e X.env=pure none:=by rfl)
  (h1:(assignEach [.Subscript (.Name x s) a d] X.env).map (·.2)=[assign (.Subscript (.Name x s) a d) X.env]:=by rfl):QS X A L E (.Assign [.Subscript (.Name x s) a d] e l) (DY i f U):=⟨LF N hv.h w.h H.h t C O h1⟩
end
def Fz(K:gK)(b:lL)(x:Str)(st:Stmt):Prop:= ∃f a,b x=some (.ref f)/\Fun K x x st f a
def fz{K:gK}{h:gP}{e:lL}{x:Str}{st:Stmt}{f:gm}{j:gA}{m g:Option Addr}{i:uK}{kV b n d ct:gA}(X:K.In h)(G:h.Ns mainGlobals e)(a:PySem.W.nsIn K mainGlobals x=some (some (.ref f)))
  (l:K.lookup f=some ⟨j,m,.func (PySem.W.fnOf x x (sH st) (ny st) (gE st) .none kV b n g d ct),i⟩)(c:PySem.W.codeIn K d x=true)(k:PySem.W.keepIn K (.ref f)=true):Fz K e x st:=⟨f,_,PySem.W.mg_of X G a,S0 l c k⟩
def BdA(x:Str)(st:Stmt)(c:hW):Prop:= ∀(kV a f:gA) (d:Option Addr) (e ct:gA) (b:iL),b.length=c.length->bindArgs (PySem.W.fnOf x x (sH st) (ny st) (gE st) .none kV a f d e ct) ⟨b,[]⟩=pure (c.zip b)
def scM{N P:hW}{a:jb}(h1:a.kind= .function:=by rfl)(b:a.isCoroutine=false:=by rfl)(c:a.isGenerator=false:=by rfl)(d:N.Nodup:=by decide+kernel)(e:N.take P.length=P:=by rfl)(f: ∀x∈P,a.names.lookup x=some .local\/a.names.lookup x=some .cell:=by decide+kernel)(g: ∀y∈a.names,y.2≠ .free:=by decide+kernel):FnScope N P a:=⟨h1,b,c,d,e,f,g⟩
def Bd(Z:ZZ)(k:Nat)(x:Str)(st:Stmt)(N d:hW)(c:jf)(fs:FS):Prop:= ∀(f:gm) (b:gA) (A:gM) (a:List Env) (s:gn) (H:Hp) (E:XK) (L:iZ),(∀i,L i->i<d.length)->Room k (A.deeper (envOfC x (gE st) s.heap.objs.size f b))->
 un (A.deeper (envOfC x (gE st) s.heap.objs.size f b)) 60->un (A.deeper (envOfC x (gE st) s.heap.objs.size f b)) 1->un (A.deeper (envOfC x (gE st) s.heap.objs.size f b)) 62->un (A.deeper (envOfC x (gE st) s.heap.objs.size f b)) 90->N.Nodup->
 QQ (EM CX0 Z.P Z.w Z.K Z.mg Z.base N x (gE st) f b A a s H E).nox (λi=>i∈c) L H (ny st) fs
def fnB{Z:ZZ}{k:Nat}{x:Str}{st:Stmt}{N b:hW}{asg:jf}{fs:FS}{f:gm}{c:lW}(F:Fun Z.K x x st f c)(S:FnScope N b (gE st))(i:Bd Z k x st N b asg fs):FnOk Z.P Z.w Z.K Z.mg Z.base CX0 (k+1) f c b (spF Z.K (evF N.length b.length asg fs)):=
 SY F S λe A a s H E L g d=>by
  have:=d.un;exact(i f e A a s H E L g d (by unfold un;omega) (by unfold un;omega) (by unfold un;omega) (by unfold un;omega) S.nd).h
def ozB{Z:ZZ}{k:Nat}{x:Str}{st:Stmt}{N c:hW}{asg:jf}{fs:FS}(a:Fz Z.K Z.mg x st)(S:FnScope N c (gE st))(b:BdA x st c)(e:Bd Z k x st N c asg fs):Oz Z (k+1) x c (evF N.length c.length asg fs):=
 let⟨f,d,m,F⟩:=a;⟨f,d,fnB F S e,m,F.kp,F.binds b⟩
def us0{P:List Value->Prop}(h:P []): ∀b:List Value,b.length=0->P b:=λb e=>by cases b with|nil=>exact h|cons a l=>cases e
def us1{P:List Value->Prop}{n:Nat}(h: ∀a,∀b:List Value,b.length=n->P (a::b)): ∀b:List Value,b.length=n+1->P b:=λb e=>by cases b with|nil=>cases e|cons a l=>exact h a l (Nat.succ.inj e)
def oz0{Z:ZZ}{x:Str}{st:Stmt}{c:hW}(a:Fz Z.K Z.mg x st)(b:BdA x st c):Oz Z 0 x c (λ_=>none):=
 let⟨f,d,m,F⟩:=a;⟨f,d,Px,m,F.kp,F.binds b⟩
def fzL{K:gK}{h:lL}{x y:Str}{st:Stmt}{g:gm}(a:Fz K h x st)(j:h x=some (.ref g))(b:BdA x st [y]): ∃c,Fun K x x st g c/\ ∀(s:gn) (v:gA),BindsTo s c ⟨[v],[]⟩ [(y,v)]:=by
 obtain⟨f,c,m,F⟩:=a;have e:=j.symm.trans m;cases e;obtain⟨o,p,kV,d,l,i,k,ct,n,e,_⟩:=F.ex;exact⟨c,F,λs v=>by subst e;exact .of_eq (b kV d l i k ct [v] rfl)⟩
def txK{K:gK}{h:gP}{g:lL}(X:K.In h)(G:h.Ns mainGlobals g)(i:PySem.W.nsIn K mainGlobals "len"=some none)(j:PySem.W.nsIn K mainGlobals "abs"=some none)(k:PySem.W.nsIn K mainGlobals "int"=some none)(l:PySem.W.nsIn K mainGlobals "tuple"=some none)(m:PySem.W.nsIn K mainGlobals "list"=some none)(n:PySem.W.nsIn K mainGlobals "range"=some none)(o:PySem.W.nsIn K mainGlobals "isinstance"=some none)(p:PySem.W.nsIn K mainGlobals "bool"=some none)(q:PySem.W.nsIn K mainGlobals "max"=some none)(r:PySem.W.nsIn K mainGlobals "min"=some none)(a:PySem.W.nsIn K mainGlobals "all"=some none)(b:PySem.W.nsIn K mainGlobals "any"=some none)(c:PySem.W.nsIn K mainGlobals "sorted"=some none)(d:PySem.W.nsIn K mainGlobals "enumerate"=some none)(e:PySem.W.nsIn K mainGlobals "zip"=some none)(f:PySem.W.nsIn K mainGlobals "set"=some none):Tx g:=⟨mP X G i,mP X G j,mP X G k,mP X G l,mP X G m,mP X G n,mP X G o,mP X G p,mP X G q,mP X G r,mP X G a,mP X G b,mP X G c,mP X G d,mP X G e,mP X G f⟩
def walkG{l:PySem.W.OpenLaw}{q:gR}{c:hW}{t:(Str->Option Value)->Heap->Prop}{m:World->Heap->Prop}{d:DefRec}{K:Params->PySem.W.Frag}{LV:Nat}{x:Str}{j:EvF}(hk:Room LV callerA)(C:l.most=some 63)(v:d.params.defaults=[])(A: ∀(w:gJ) (h:gP),m w h->(K w.params).In h)
  (F: ∀(w:gJ) (g:lL) (p:gm) (h:gP),(K w.params).In h->h.Ns mainGlobals g->g d.name=some (.ref p)-> ∃r:FuncData,(∀(s:gn) (u:gA),BindsTo s r ⟨[u],[]⟩ [(x,u)])/\ ∀base:Heap,(K w.params).In base->base.Ns mainGlobals g->FnOk l.prog w (K w.params) g base CX0 LV p r [x] (spF (K w.params) j))
  (M: ∀i:List Int,i.length<=63-> ∃o b,j [(.lst (i.map .int),false)]=some ((.bl true,o),b)):PySem.W.WalkO q c t m l.row.toRowW d [] (λf E=>PySem.call f E):=
 L2.T3 (n:=63) (k:=LV) (x:=x) (CX:=λ_=>CX0) (sp:=λw=>spF (K w.params) j) C (by decide) v hk A F (λ_ _ a i B _ y=>by obtain⟨o,b,e⟩:=M i B;exact SM y e) λ_ _ _ _ _ z=>z
abbrev abI(i:Int):Int:=if i<0 then -i else i
section
variable {d:gR}{w:gJ}{A:gM}{E:hC}{s:gn}
def Lb{a:gm}{f:iL}{r:gB}{n:Nat}{P:PySem.Fin->Shared->Prop}(T:s.heap.get? a=some (seqObj "list" f.toArray n))(hi:IntsAre f r)(h64:f.length<64)
  (h: ∀g y N c,(∀b o,b≠a->s.heap.get? b=some o->g.get? b=some o)->g.get? a=some (seqObj "list" N c)->KskOut false (r.map abI) f N.toList->P (.done (.ret .none)) {s with heap:=g,toks:=y}):
  wpAny (model d w) A (ksk_tree a (.builtin "abs") false) P E s:=by
 have ha:a<s.heap.objs.size:=ja T;have X:=hi.length;have L: ∀k,k<=f.length->k<=sizeLine:=λk hk=>by rw[iN];omega
 unfold ksk_tree;refine gk (Fw T rfl (gk (uh T rfl ?_ (L _ (by simp)) (kb _))));obtain⟨B,m9⟩: ∃B,(s.heap.update a (Obj.mapSeq λ_=>(#[]:Array Value))).get? a=some (seqObj "list" #[] B):=⟨_,wa T λ_=> #[]⟩
 refine gk (yk m9 rfl (gk (FD ?_ (L _ (by simp)))));refine gk (BM ?_ (kb _));refine kr ?_
 let h1:=ot s.heap a f
 let m:Addr:=((s.heap.update a (Obj.mapSeq λ_=>(#[]:Array Value))).push (seqObj "tuple" f.toArray 0)).objs.size
 have hk:m=s.heap.objs.size+1:=by show _=_;simp only[m];rw[size_push',Heap.size_update]
 have I:a≠m:=by rw[hk];exact iD (tj ha)
 have V: ∀b o,b≠a->s.heap.get? b=some o->h1.get? b=some o:=λb o z e=>iW _ (iW _ (by rw[Fv _ _ _ _ z];exact e));have K:h1.get? a=some (seqObj "list" #[] B):=iW _ (iW _ m9);have cI:h1.get? m=some (seqObj "list" #[] 0):=jv _ rfl;show wpAny (model d w) A (ksk_rest a (.builtin "abs") false f.toArray B (.ref m)) P E {s with heap:=h1};unfold ksk_rest;refine gk (tq ?_);rw[List.forIn_toArray];refine gk (ksk_fold (λi Y=> ∃g y l e,Y={s with heap:=g,toks:=y}/\(∀b o,b≠m->h1.get? b=some o->g.get? b=some o)/\g.get? m=some (seqObj "list" l e)/\IntsAre l.toList ((r.map abI).take i)) f 0 _ ⟨h1,s.toks,#[],0,rfl,λ_ _ _ e=>e,cI,.nil⟩ (λj x Y hx F=>?_) λY F=>?_)
 ·obtain⟨g,y,l,e,rfl,U,M,p⟩:=F;have W:j<f.length:=(uQ.mp hx).1;obtain⟨t,Z⟩:=hi.get j r[j] (hX (by omega));rw[hx] at Z;cases Z
  have q:l.size<=f.length:=by
   have:=p.length;rw[ji,oY] at this;omega
  refine gk (uk (call_abs_int λu eJ=>?_));dsimp only;have s1:=qt g m (Obj.mapSeq (·.push (.int (abI r[j]) u)));refine gk (uh (s:={s with heap:=g,toks:=eJ}) M rfl ?_ (L _ q) (ku (Nat.le_of_eq (Array.size_push ..)) (by rw[iN];omega)));refine gw ⟨rfl,_,_,l.push (.int (abI r[j]) u),_,rfl,λb o z e=>(s1.2 b z).trans (U b o z e),wa M _,?_⟩;rw[wc,List.take_add_one,kY,hX (show j<r.length by omega),Array.toList_push];rw[wc] at p;exact p.append (.cons _ _ .nil)
 ·obtain⟨g,y,l,e,rfl,U,M,p⟩:=F;have p:IntsAre l.toList (r.map abI):=by rwa [wc,List.take_of_length_le (by simp;omega)] at p
  have q:l.size=f.length:=by
   have:=p.length;rw[ji,iJ] at this;omega
  have O:(l.zip f.toArray).size=f.length:=by rw[Array.size_zip,q,iz,Nat.min_self]
  refine gk (Fw (s:={s with heap:=g,toks:=y}) M rfl ?_)
  have v: ∀st:SortSt,(arrOf st).Perm (l.zip f.toArray)->SortedTo (arrOf st) (arrOf st).size->failedOf st=none->wpAny (model d w) A (ksk_tail a false B (.ref m) st) P E {s with heap:=g,toks:=y}:=λst J S R=>by
   have s1:=qt g m (Obj.mapSeq λ_=>(#[]:Array Value));have D:(g.update m (Obj.mapSeq λ_=>(#[]:Array Value))).get? a=some (seqObj "list" #[] B):=(s1.2 a I).trans (U a _ I K);have s2:=qt (g.update m (Obj.mapSeq λ_=>(#[]:Array Value))) a (Obj.mapSeq λ_=>(arrOf st).map (·.2));unfold ksk_tail;simp only[iw,iQ];refine gk (uh (s:={s with heap:=g,toks:=y}) M rfl ?_ (L _ (by omega)) (kb _));refine gk (FE (gk (yk D rfl (gk (uh D rfl ?_ (kb _) (Nat.le_succ_of_le (show((arrOf st).map (·.2)).size<=sizeLine from L _ (by rw[Array.size_map,J.size_eq,O];exact iO _))))))));rw[R];simp only[tw,iw,iQ];refine gw (h _ _ _ _ (λb o z e=>?_) (wa D _) (ksk_out (b:=false) p J S));have H:b≠m:=by rw[hk];exact iD (tj (ja e))
   exact(s2.2 b z).trans ((s1.2 b H).trans (U b o H (V b o z e)))
  unfold ksk_end;simp only[iw,iQ];by_cases G:f.toArray.size<2
  ·rw[gD G,gD G];refine gk (gw ?_);rw[FA];refine gk (gw (v _ (Array.Perm.refl _) (λi j p7 W=>?_) rfl));have cJ:j<(l.zip f.toArray).size:=W;rw[O] at cJ;rw[iz] at G;have:i=j:=by omega
   subst this;exact Int.le_refl _
  ·rw[gL G,gL G];rw[iz] at G;rw[ksk_kind p (by rw[q];omega)];refine gk (gw ?_)
   refine gk (pe (wpS_sortRuns (a₀:=l.zip f.toArray) (st:=SortSt.mk' oneType' (l.zip f.toArray) #[] 7 none) (Q:=λ_ C=>(arrOf C).Perm (l.zip f.toArray)/\failedOf C=none/\SortedTo (arrOf C) (l.zip f.toArray).size)
    (ksk_intKeys p) ⟨Array.Perm.refl _,rfl,rfl,rfl⟩ (by rw[O];omega) (by rw[O];exact h64) λC a1 a2 a3=>⟨a1,a2,a3⟩) ?_ λ_ _ e=>e)
   rintro⟨⟨⟩,C⟩ Y ⟨rfl,J,R,S⟩;exact v C J (by rw[J.size_eq];exact S) R
end
def aD:D->Int
 | .int i=>abI i
 |_=>0
def isI:D->Bool
 | .int _=>true
 |_=>false
def ltA(x y:D):Bool:=decide (aD x<aD y)
def uE:D->Option (D×Bool)
 | .lst l=>if l.all isI=true/\(l.map aD).Nodup/\l.length<64 then some (.lst (ky ltA l),true) else none
 |_=>none
theorem Ey{x:D}: ∀{l:List D},l.Pairwise (λa b=>aD a<=aD b)->(C4 ltA x l).Pairwise λa b=>aD a<=aD b
 |[],_=>by simp[C4]
 |y::l,h=>by
  obtain⟨h1,e⟩:=Dz.mp h;unfold C4;by_cases d:aD y<aD x
  ·rw[gD (by simpa[ltA] using d)];refine Dz.mpr ⟨λz c=>?_,Ey e⟩;rcases jr.mp ((sx ltA x l).mem_iff.mp c) with rfl|c
   ·omega
   ·exact h1 z c
  ·rw[gL (by simpa[ltA] using d)];refine Dz.mpr ⟨λz c=>?_,h⟩;rcases jr.mp c with rfl|c
   ·omega
   ·have:=h1 z c;omega
theorem wC: ∀l:List D,(ky ltA l).Pairwise λa b=>aD a<=aD b
 |[]=> .nil
 |_::l=>Ey (wC l)
theorem AW: ∀{l:List D},(l.map aD).Nodup-> ∀a∈l,∀b∈l,aD a=aD b->a=b
 |x::l,h,a,d,b,f,e=>by
  rw[iu,zU] at h;rcases jr.mp d with h1|h1<;>rcases jr.mp f with c|c
  ·rw[h1,c]
  ·exact absurd (h1▸e▸sY c) h.1
  ·exact absurd (c▸e▸sY h1) h.1
  ·exact AW h.2 a h1 b c e
def Le{l m:List D}(c:m.Perm l)(g:m.Pairwise λa b=>aD a<=aD b)(f:(l.map aD).Nodup):m=ky ltA l:=by
 refine(c.trans (iE ltA l).symm).eq_of_pairwise (le:=λa b=>aD a<=aD b) (λa b d e x y=>AW f a (c.mem_iff.mp d) b ((iE ltA l).mem_iff.mp e) (by omega)) g (wC l)
section
variable {X:Cx}{f:gZ}{g:L2.St}{H:Hp}{s:gn}
theorem Ut{O:AP'}: ∀{l:List D} {j:List V} {c:iL},l.all isI=true->RepL X.K H O l j->Vals j c-> ∃e:List Int,l=e.map .int/\IntsAre c e
 |[],j,c,_,r,v=>by
  rw[RepL] at r;subst r;cases v;exact⟨[],rfl,.nil⟩
 |d::l,j,c,h,r,v=>by
  rw[RepL] at r;obtain⟨x,o,rfl,m,n⟩:=r;rw[uq,kX] at h
  cases d with
  |int i=>
   cases v with
   |cons a b=>
    obtain⟨e,rfl,k⟩:=Ut h.2 n b;rw[gU (.inl m)] at a;obtain⟨t,rfl⟩:=a;exact⟨i::e,rfl,.cons _ _ k⟩
  |_=>exact absurd h.1 (by simp[isI])
theorem TR: ∀{l:List D} {a:gB} {xs:List V} {its:iL},l=a.map .int->xs.length=l.length->its.length=l.length->(a.map abI).zip its=(l.zip (xs.zip its)).map λt=>(aD t.1,t.2.2)
 |[],[],_,_,_,_,_=>by simp
 |d::l,i::a,x::xs,u::its,h,h1,b=>by
  obtain⟨rfl,c⟩:=ui h;have:=TR (xs:=xs) (its:=its) c (by simpa using h1) (by simpa using b);simp only[iu,qT,this];rfl
def Gi{u:gA}{Q:VK}{O:AP'}{d:D}{z:D×Bool}{x:V}(I:Inv X f g H s)(ru:RelV x u)(np: ∀p,¬Ow (H p)-> ¬O p)(hd:iV X.K H O d x)(N:uE d=some z)(G:Gen X.K H O z Q):
  wpAny (model X.prog X.w) X.A (call (.builtin "sorted") [u] [(Str.ofString "key",.builtin "abs")]) (EP X f g Q) X.xe s:=by
 cases d with
 |lst l=>
  obtain⟨⟨hI,hn,hz⟩,rfl⟩:=gX N;obtain⟨p,xs,rfl,q,E⟩:=jz hd;cases ru;obtain⟨j,v,pl,_⟩:=I.list q;have e1:=E.length;have e2:=v.length;obtain⟨ns,W,r⟩:=Ut hI E v;have hl:j.length<=sizeLine:=by rw[iN];omega
  obtain⟨o,ho,hc,n,S⟩:=pl.isList;refine call_function_entry_kw kind_sorted plain_sorted entry_sorted (ksk_s1 _ _) ?_;unfold Builtin.«sorted»;refine gk (m:=checkCount "sorted" 1 1 _) (gw ?_);refine gk (Fu p (.inl rfl) ho hc S (λh1 k1=>?_) (by rw[iz];omega));rw[List.toList_toArray];refine gk (BM ?_ hl);have L:(h1.push (seqObj "list" j.toArray 0)).get? h1.objs.size=some (seqObj "list" j.toArray 0):=jv _ rfl;have J:Inv X f g H {s with heap:=h1}:=I.kept k1;refine gk (kr (wpAny_call_entry_kw (s:={s with heap:=h1.push (seqObj "list" j.toArray 0)}) slot_list_sort ⟨_,L,rfl⟩ entry_list_sort ?body (ksk_l1 _ _)))
  case body=>
   show wpAny _ _ (Builtin.«list.sort» ⟨[.ref h1.objs.size],[(Str.ofString "key",.builtin "abs")]⟩) _ _ _;rw[ksk_t4];refine Lb (s:={s with heap:=h1.push (seqObj "list" j.toArray 0)}) L r (by omega) λh' tk C c k2 k3 ko=>⟨_,rfl,gw ⟨_,rfl,?_⟩⟩
   obtain⟨ps,U,k,Y⟩:=ko;rw[TR W (by omega) (by omega)] at U;obtain⟨a,F,rfl⟩:=lu _ U _ rfl;rw[iI] at k
   have R: ∀t∈a,Rep X.K H O t.1 t.2.1/\RelV t.2.1 t.2.2:=λt hm=>by
    obtain⟨i,hi⟩:=qP (F.mem_iff.mp hm);obtain⟨fF,Z⟩:=Dx.mp hi;obtain⟨y,B⟩:=Dx.mp Z;obtain⟨w,P,w2⟩:=v.get y;rw[B] at P;cases P;exact⟨E.views fF y,w2⟩
   have M:a.map (·.1)=ky ltA l:=by
    refine Le ?_ (by rw[nI] at Y ⊢;exact Y.imp λh=>by simpa using h) hn;have:=F.map (·.1)
    rwa [List.map_fst_zip (by simp;omega)] at this
   have hR: ∀a:List (D×V×Value),(∀t∈a,Rep X.K H O t.1 t.2.1/\RelV t.2.1 t.2.2)->RepL X.K H O (a.map (·.1)) (a.map (·.2.1))/\Vals (a.map (·.2.1)) (a.map (·.2.2)):=λa=>by
    induction a with
    |nil=>exact λ_=>⟨.nil,.nil⟩
    |cons t a ih=>
     intro h;obtain⟨i1,i2⟩:=ih λx hx=>h x (iK _ hx);exact⟨.cons (h t iF).1 i1,.cons (h t iF).2 i2⟩
   obtain⟨r1,r2⟩:=hR a R;have keep: ∀b o,h1.get? b=some o->h'.get? b=some o:=λb o e=>k2 b o (iD (ja e)) (iW _ e);have T:a.length=l.length:=by have:=lX List.length M;rw[(iE ltA l).length_eq,iJ] at this;exact this
   refine⟨.ref h1.objs.size,_,J.laid (t':=tk) keep (iO _) (show ObjOk X.prog X.w _ _ _ (.lst (a.map (·.2.1))) from⟨by rw[iJ,iN];omega,C.toList,c,?_,?_⟩),rfl,?_⟩
   ·rw[k];exact r2
   ·rw[Array.toArray_toList];exact k3
   ·refine G.lst J.fresh ?_;rw[<-M];exact r1
 |_=>cases N
def L5{a:gy}{i:TA}{p b w v:Pos}(c:Gl X "sorted")(r:X.mg "sorted"=none)(k:Gl X "abs")(l:X.mg "abs"=none)(n:PA X [a] i)
  (o:backTo b (starEach [a] X.env)=(false,eval a X.env)::backTo b (starEach [] X.env))(m:(backTo b (starEach [a] X.env)).any (·.1)=false):
  PE X (.Call (.Name "sorted" p) [a] [⟨some "key",.Name "abs" w,v⟩] b) (tCB (rDn X.K (g1 uE)) i):=by
 intro f s g H Q I h;refine yx (rz I c r JS (callWith_kw (thn (n b f s g H _ I h) λC s1 ⟨E,B,e,y,t⟩=>kws_cons (rz e k l Tq (kws_nil ?_))) o m rfl rfl));obtain⟨O,j,z,np,q,hv,c,G⟩:=t
 match j,c with
 |[d],c=>
  obtain⟨x,rfl⟩:=HQ q rfl;obtain⟨u,rfl,A⟩:=qZ y;exact Gi e A np (hv 0 d x rfl rfl) c G
def Ly{a:gy}{c:FO}{p b n m:Pos}(k:Gl X "sorted")(l:X.mg "sorted"=none)(d:Gl X "abs")(e:X.mg "abs"=none)(i:PA X [a] (tA X.K [c]))
  (j:backTo b (starEach [a] X.env)=(false,eval a X.env)::backTo b (starEach [] X.env))(h:(backTo b (starEach [a] X.env)).any (·.1)=false):
  PX X (.Call (.Name "sorted" p) [a] [⟨some "key",.Name "abs" n,m⟩] b) (gC (g1 uE) [c]):=pxn (L5 k l d e i j h)
end
section
variable {prog:gR}{w:gJ}{A:gM}{E:hC}{s:gn}
theorem Pc:typeLookup (.type "list") "keys"=pure none:=by rw[Fn,Fm];kernel_rfl
def Sz{a:gm}{o:Obj}{q:lU}{k:Nat}{Q:Hn}(m:s.heap.get? a=some o)(l:o.cls= .type "list")(f:o.data= .seq q k)(hd:o.dict=none)(t:A.handled=none)
  (h: ∀b n e,Heap.NewExcOf s.heap b e "AttributeError"->Q none {s with heap:=b,toks:=n}):wpAny (model prog w) A (getAttr? (.ref a) "keys") Q E s:=by
 obtain⟨c,dct,r,v⟩:=o;simp only at l f hd;subst l f hd;obtain⟨u,g,d,n,os⟩:=s;have j: ∀p,(⟨u,g,d,p,os⟩:Shared).TypeIs (.ref a) "list":=λ_=>⟨_,m,rfl⟩
 have f1:=sub_AttributeError;have x:=NI.lookup;have y:=NI.bind (.ref a);have z:=am_list_getattr_none;unfold getAttr? getAttrBy? getAttrBy
 repeat (any_goals (first|assumption|exact j _|((with_reducible show wpAny _ _ (call (Value.builtin "list.__getattribute__") _ _) _ _ _);refine Ce NI (j _) am_entry_list_getattribute (F.args_list_getattribute_2 _ _) (meets_getattribute_miss_list a q k v "keys" _ Pc (by decide+kernel)) ⟨m,t,λb p e i=>?_⟩)|wp_step))
 obtain⟨C,G,B⟩:=i.there;show wpAny _ _ (getattributeRaised _ _ _ _ _ _ _) _ _ _;unfold getattributeRaised
 repeat (any_goals (first|assumption|wp_step))
 exact h _ _ _ i.of
end
def fPop(i:Nat):F:=λa=>match a[i]? with
 |some (some (.lst l,true))=>(l[l.length-1]?).bind λd=>some ((d,false),a.set i (some (.lst l.dropLast,true)))
 |_=>none
section
variable {X:Cx}{x:Str}{i:Nat}{c a b:Pos}
end
section
variable {X:Cx}
variable {a:gy}{c:FO}{p b e f g d:Pos}{x:Str}{i:Nat}
def xSA(T:Tx X.mg)(k:QA X [a] [c])(m:Gl X "sorted":=by rfl)(j:Gl X "abs":=by rfl)(l:backTo b (starEach [a] X.env)=(false,eval a X.env)::backTo b (starEach [] X.env):=by rfl)(n:BA X b [a]:=by rfl):
  QX X (.Call (.Name "sorted" p) [a] [⟨some "key",.Name "abs" e,f⟩] b) (gC (g1 uE) [c]):=⟨Ly m (btM T (z:="sorted") rfl) j (btM T (z:="abs") rfl) k.h l n⟩
end
section
variable {X:Cx}{a:gZ}{b:L2.St}{H:Hp}{s:gn}
end
section
variable {X:Cx}
end
section
variable {a:gR}{w:gJ}{A:gM}{E:hC}{I:gm}{c b:jl}{n:Nat}{P:Nat->Value->Prop}{St:Nat->Heap->Prop}
end
section
variable {X:Cx}{A:iZ}{a:Pos}{c:jm}{b:List Tg}
end
section
variable {X:Cx}{A:iZ}{a b:gy}{j:Pos}
variable {e g:gy}{f:F}{x z:Str}{p n l m:Pos}{i k:Nat}{L:iZ}{o:Hp}
def xLS{c:nD}{scope:jb}{w:FIt}{tt:Tg}{y:FT}{r:jf}{N':hW}{s:Pos}(T:Tx X.mg)(C:CompOk X N' scope r k)(J:N'.Nodup)(M:QI X (λi=>i∉r) c.target c.iter w)
  (O: ∀(cl:kg) (C:gm) (v:gn) (t:Hp) (u:jl) (q:gZ),(X.comp N' scope cl C v t u q).N.Nodup->
   QG (X.comp N' scope cl C v t u q) (λi=>r.length<=i) c.target tt/\QF (X.comp N' scope cl C v t u q) c.ifs y/\QX (X.comp N' scope cl C v t u q) g f)
  (E:X.calm=true:=by rfl)(B:c.is_async=0:=by rfl)(H: ∀x,foldedSetIterable c.iter X.env x=pure x:=by intro _;rfl)(G:Gl X "len":=by rfl)
  (h1:starEach [.SetComp g [c] scope j] X.env=(false,eval (.SetComp g [c] scope j) X.env)::starEach [] X.env:=by rfl)(I:(backTo s (starEach [] X.env)).any (·.1)=false:=by rfl):
  QX X (.Call (.Name "len" p) [.SetComp g [c] scope j] [] s) (sD r k w tt y (zP f)):=
 ⟨Je C E B (by intro Q h;cases h) H M.h (λcl C v t u q=>let⟨a,b,c⟩:=O cl C v t u q J;⟨a.h,b.h,λd=>Jp rfl c.h⟩) G T.n_len Tp (by decide) (by decide) h1 I⟩
end
section
variable {X:Cx}{a:gZ}{b:L2.St}{H:Hp}{s:gn}
end
end PX
namespace TT
open PySem PyProof.Rows PySem.SeqAt
def Bf:entryFor table "dict.update.loop"=some Builtin.«dict.update.loop»:=entryFor_of_tree (by kernel_rfl)
theorem sh:plainId "dict.update.loop"=true:=by decide+kernel
section
variable {prog:gR}{w:gJ}{A:gM}{R:Result->Shared->Prop}{I:gm}{c a:jl}{G:Array GenState->Array GenState->Prop}{n:Nat}{P:Nat->Value->Prop}{St:Nat->Shared->Prop}
def JI(W:WalksS prog w A.in1 I c a G n P St)(S:gm)(B:S∉c)(s0:gn)(j:Nat->Heap->Prop)(stay: ∀i h f,j i h->(∀o,h.get? S=some o->f.get? S=some o)->j i f)
  (step: ∀i v (d:gn),i<n->P i v->j i d.heap->Moved (S::a) G s0 d-> ∃p k x,v= .ref p/\d.heap.IsTuple p #[k,x]/\ ∀(Q:Unit->Shared->Prop) (E:hC),(∀f z,d.toks<=z->Heap.SameBut S d.heap f->j (i+1) f->Q () {d with heap:=f,toks:=z})->wpAny (model prog w) A.in1 (dictSet S k x) Q E d):
  ∀(k i:Nat) (s:gn),n-i=k->i<=n->St i s->j i s.heap->Moved (S::a) G s0 s->(∀d,Moved (S::a) G s0 d->j n d.heap->R (.ok (.ret .none)) d)->
   codeAny (model prog w) A (.builtin "dict.update.loop" ⟨[.ref S,.ref I,rawInt i,.none],[]⟩) R s:=by
 have H:S∉a:=λh=>B (W.sub _ h);have M: ∀b∈a,b∈S::a:=λb l=>iK _ l;intro k
 induction k with
 |zero=>
  intro i s hk X y t q r;have Y:i=n:=by lia
  subst Y;refine oU Bf ?_;rw[qu sh _];show wpAny _ A.in1 (pyNext (.ref I)>>=_) _ _ s;refine gk (W.done s _ _ y λd m=>?_);show wpAny _ A.in1 (Builtin.Dict.addKeywords S []>>=λ_=>ret Value.none) _ _ d;exact gk (gw (gw (r d (BC W.gtrans q (m.mono M)) (stay _ _ _ t λo e=>m.heap S o H e))))
 |succ k ih=>
  intro i s hk X y t q r;have u:i<n:=by lia
  refine oU Bf ?_;rw[qu sh _];show wpAny _ A.in1 (pyNext (.ref I)>>=_) _ _ s;refine gk (W.item i s _ _ u y λv d F U m=>?_);have C:=BC W.gtrans q (m.mono M);obtain⟨p,L,x,rfl,Z,g⟩:=step i v d u F (stay _ _ _ t λo e=>m.heap S o H e) C;show wpAny _ A.in1 (holding [.ref p] _>>=_) _ _ d;refine gk (kr ?_);obtain⟨o,J,V,n',T⟩:=Z;have K:d.TypeIs (.ref p) "tuple":=⟨o,J,V⟩
  refine gk (wpAny_tryCatch ?_);unfold Builtin.Dict.pairItems;refine gk (qx K ?_);show wpAny _ _ (seqItems? (.ref p)>>=_) _ _ _;refine gk (pP J T ?_);refine gw ?_;show wpAny _ _ (holding [L,x] (dictSet S L x)) _ _ _;refine kr (g _ _ λf z O N D=>?_);refine gw ⟨tf sh _,ih (i+1) _ (by lia) u (W.frame _ d _ _ U O λb l o e=>?_) D (C.then_heap O λb o l e=>?_) r⟩
  ·rw[N.2 b (λh:b=S=>B (by rw[<-h];exact l))];exact e
  ·rw[N.2 b (λh:b=S=>l (by rw[h];exact iF))];exact e
end
section
variable {prog:gR}{w:gJ}{A:gM}{E:hC}{s:gn}
abbrev G7:Obj:={cls:= .type "dict",data:= .dict #[]}
def Qy{l:gm}{a:lU}{n:Nat}{r:Obj}{Q:hC}(M:A.handled=none)(N:s.heap.get? l=some r)(y:r.cls= .type "list")(H:r.data= .seq a n)(fq:r.dict=none)(j:Nat->Heap->Prop)
  (stay: ∀i h d,j i h->(∀o,h.get? s.heap.objs.size=some o->d.get? s.heap.objs.size=some o)->j i d)
  (oP: ∀d,d.get? s.heap.objs.size=some G7->j 0 d)
  (step: ∀i v (c:gn) (B:gM),B.units<=A.units+20->a[i]?=some v->j i c.heap->(∀b o,s.heap.get? b=some o->c.heap.get? b=some o)->c.gens=s.gens->c.drawn=s.drawn->c.os=s.os->
   ∃p k x,v= .ref p/\c.heap.IsTuple p #[k,x]/\ ∀(Q:Unit->Shared->Prop) (E:hC),(∀d t,c.toks<=t->Heap.SameBut s.heap.objs.size c.heap d->j (i+1) d->Q () {c with heap:=d,toks:=t})->wpAny (model prog w) B (dictSet s.heap.objs.size k x) Q E c)
  (h: ∀(d:gP) (t:Nat),j a.size d->(∀b o,s.heap.get? b=some o->d.get? b=some o)->Q (.ref s.heap.objs.size) {s with heap:=d,toks:=t}):
  wpAny (model prog w) A (call (.type "dict") [.ref l]) Q E s:=by
 refine callType_codes (Q₁:=λobj g=>obj= .ref s.heap.objs.size/\g={s with heap:=s.heap.push G7}) F.kt_called_dict (F.kt_typeCall_dict_1 _) F.entry_dict_init (kt_code_dict_new _ ⟨rfl,rfl⟩) ?_;rintro obj g ⟨rfl,rfl⟩;have I:(s.heap.push G7).get? s.heap.objs.size=some G7:=jv _ rfl;have L:Shared.TypeIs {s with heap:=s.heap.push G7} (.ref s.heap.objs.size) "dict":=⟨_,I,rfl⟩
 have u:(s.heap.push G7).get? l=some r:=iW _ N;have C:Shared.TypeIs {s with heap:=s.heap.push G7} (.ref l) "list":=⟨_,u,y⟩
 refine⟨L,F.args_dict_init_2 _ _,?_⟩;unfold Builtin.«dict.__init__»;refine gk ?_;unfold Builtin.Dict.selfAndRest;refine gk (J8 L ?_);show wpAny _ _ (pure (s.heap.objs.size,[Value.ref l])) _ _ _;refine gw ?_;show wpAny _ _ (Builtin.Dict.updateFrom "dict.__init__" s.heap.objs.size (.ref l) [] .none) _ _ _;unfold Builtin.Dict.updateFrom;refine gk (qx C ?_);rw[gD (by decide)];refine gk (PX.Sz u y H fq (by simp[M]) λh1 dM e1 z=>?_);have m:h1.IsList l a:=⟨_,z.keeps _ _ u,y,n,H⟩
 have q:=z.keeps _ _ I;have fv:l<s.heap.objs.size:=ja N;have J:s.heap.objs.size<h1.objs.size:=ja q;have T:l≠h1.objs.size:=by lia
 have U:s.heap.objs.size∉[h1.objs.size,l]:=by simp only[jr,jT,kU,nF];lia
 have D:A.in1.in1.handled=none:=by simp[M]
 have W:=Walks.list (prog:=prog) (w:=w) D h1.objs.size l T a;show wpAny _ _ (rule _>>=λ_=>pyIter (.ref l)>>=λit=>again (.builtin "dict.update.loop" ⟨[.ref s.heap.objs.size,it,rawInt 0,.none],[]⟩)) _ _ _;refine gk (tq ?_);refine gk (yz m ?_);refine gw ⟨tf sh _,?_⟩
 have ext: ∀{G:Array GenState->Array GenState->Prop} {s0 c:gn},(∀b o,h1.get? b=some o->s0.heap.get? b=some o)->Moved (s.heap.objs.size::[h1.objs.size]) G s0 c-> ∀b o,s.heap.get? b=some o->c.heap.get? b=some o:=λ{G s0 c} X f b o e=>by
  have hb:=ja e;exact f.heap b o (by simp only[jr,jT,kU,nF];lia) (X _ _ (z.keeps _ _ (iW _ e)))
 refine JI W.toS s.heap.objs.size U _ j stay ?st (a.size-0) 0 _ (by lia) (kb _) ⟨⟨_,jv _ rfl,rfl,rfl⟩,m.push _⟩ (oP _ (iW _ q)) (Moved.refl λ_=>rfl) ?hR
 case st=>exact λi v c hi Z S f=>step i v c _ (by show A.units+1+1<=A.units+20;lia) Z S (ext (λ_ _ e=>iW _ e) f) f.gens f.drawn f.os
 case hR=>
  intro c f u3;have ex:=ext (λ_ _ e=>iW _ e) f;obtain⟨d,V,Y,w9,O⟩:=c;have P:V=s.gens:=f.gens;have K:Y=s.drawn:=f.drawn;have R:O=s.os:=f.os;subst P;subst K;subst R;exact⟨rfl,h d w9 u3 ex⟩
end
end TT
namespace PX
open PySem PySem.Spec PyProof.Rows L2 PySem.SeqAt
def kyT:D->Option (List Key)
 | .tup [k,.bl true]=>xM k
 |_=>none
def Jx:List D->Option (List (List Key))
 |[]=>some []
 |d::l=>(kyT d).bind λk=>(Jx l).map (k:: ·)
def wV:D->Option (D×Bool)
 | .lst l=>(Jx l).bind λa=>if a.length<=1000/\a.Nodup then some (.oth .dct (a.map λk=> .tup (k.map iX)) (a.map λ_=> .bl true),true) else none
 |_=>none
abbrev kvT(a:List (List Key)):List (List Key×V):=a.map λk=>(k,V.bl true)
theorem Ih: ∀{l:List D} {a:List (List Key)},Jx l=some a->l.length=a.length/\ ∀(i:Nat) k,a[i]?=some k-> ∃d,xM d=some k/\l[i]?=some (.tup [d,.bl true])
 |[],a,h=>by cases h;exact⟨rfl,λi p h=>by simp at h⟩
 |d::l,a,h=>by
  obtain⟨p,h1,h⟩:=gg h;obtain⟨g,f,rfl⟩:=iC h;obtain⟨c,e⟩:=Ih f;refine⟨by simp[c],λi q b=>?_⟩
  cases i with
  |zero=>
   simp at b;subst b;unfold kyT at h1;split at h1
   ·exact⟨_,h1,rfl⟩
   ·cases h1
  |succ i=>simpa using e i q (by simpa using b)
def U3{P:gR}{w:gJ}{H:Hp}{h:gP}(ok:HOk P w H h): ∀{l:List (List Key×V)} {m:List (List Key×Addr×Value)},L2.KT H l m-> ∀x∈m,(tupleKind (jB P w)).is h x.1 x.2.1:=by
 intro l m q
 induction q with
 |nil=>intro x a;exact nomatch a
 | @cons p q d f b t c=>
  intro x a;rcases jr.mp a with e|a
  ·subst e;exact qe ok (by rw[<-b.1];exact b.2.1)
  ·exact c x a
theorem Ii{H:Hp}{l:List (List Key×V)}{m:List (List Key×Addr×Value)}(q:L2.KT H l m):m.map (·.1)=l.map (·.1):=by
 induction q with
 |nil=>rfl
 |cons a t b=>rw[iu,iu,b,a.1]
def Po{H:Hp}{l:List (List Key×V)}{m:List (List Key×Addr×Value)}{p q}(h:L2.KT H l m)(a:p.1=q.1/\H q.2.1=some (.tup (p.1.map kV))/\RelV p.2 q.2.2):L2.KT H (l++[p]) (m++[q]):=by
 induction h with
 |nil=>exact .cons a .nil
 |cons h t b=>exact .cons h b
def Pp{H b:Hp}{l:List (List Key×V)}{m:List (List Key×Addr×Value)}(c: ∀a u,H a=some u->b a=some u)(h:L2.KT H l m):L2.KT b l m:=by
 induction h with
 |nil=>exact .nil
 |cons h t d=>exact .cons ⟨h.1,c _ _ h.2.1,h.2.2⟩ d
theorem Lk{K:gK}{H:Hp}{O:AP'}: ∀a:List (List Key),RepL K H O (a.map λ_=> .bl true) ((kvT a).map (·.2))
 |[]=>RepL.nil
 |_::a=>RepL.cons Rep.mkBl (Lk a)
def DIs(P:gR)(w:gJ)(H:Hp)(S:gm)(c:List (List Key))(h:gP):Prop:= ∃m:List (List Key×Addr×Value),L2.KT H (kvT c) m/\ ∃o a b,h.get? S=some o/\o.ExactDict/\o.data= .dict a b/\a.toList=m.map (entryOfKey (tupleKind (jB P w)))/\(m.map (·.1)).Nodup
section
variable {X:Cx}
def Hd(hu:X.A.units+62<cLine)(hc:X.calm=true):jx X (.type "dict") (rDn X.K (g1 wV)):=nW λE s σ H x u Q O d z I ru np hd J G=>by
 cases d with
 |lst l=>
  obtain⟨f,R,J⟩:=gg J;obtain⟨⟨hz,eu⟩,rfl⟩:=gX J;obtain⟨p,xs,rfl,q,r⟩:=jz hd;cases ru;obtain⟨n,v,⟨ol,nn,cG,dn,fq,ez⟩,_⟩:=I.list q;obtain⟨e0,y⟩:=Ih R;have e1:=r.length;have e2:=v.length;have hh:X.A.handled=none:=I.ok.hd hc;have V:=I.fresh
  refine TT.Qy hh cG dn ez fq (λi h=>DIs X.prog X.w H s.heap.objs.size (f.take i) h)
   (λi h h' ⟨m,k,o,T,N,e,c⟩ st=>⟨m,k,o,T,N,st _ e,c⟩) (λh' e=>⟨[],.nil,_,#[],0,e,⟨rfl,rfl,rfl⟩,rfl,rfl,mE⟩) (λi w s' B hB hi ⟨m,hk,hd⟩ L eg ed eo=>?_) (λh' tk ⟨m,hk,hd⟩ L=>?_)
  ·have hil:i<n.length:=by
    have:=(JV.mp hi).1;simpa using this
   have hw:n[i]?=some w:=by simpa using hi
   have C:f[i]?=some f[i]:=hX (by lia);have da:xs[i]?=some xs[i]:=hX (by lia);obtain⟨w',w1,w2⟩:=v.get da;rw[hw] at w1;cases w1;obtain⟨dk,D,P⟩:=y i _ C;have aX:Rep X.K H O (.tup [dk,.bl true]) xs[i]:=r.views P da;obtain⟨h1,g1,dr1,dM,os1⟩:=s';dsimp only at L eg ed eo hd;subst eg;subst ed;subst eo;have M:Inv X E σ H {s with heap:=h1,toks:=dM}:=I.kept L;obtain⟨a,ys,ea,sq,g⟩:=jM (.inl aX);rw[ea] at w2;cases w2;obtain⟨b9,v2,bN,_⟩:=M.tuple sq;rw[RepL] at g;obtain⟨y1,r1,rfl,p1,g⟩:=g;rw[RepL] at g;obtain⟨y2,r2,rfl,p2,g⟩:=g;rw[RepL] at g;subst g;obtain⟨b,rfl,hb⟩:=nA D (.inl p1);rw[Rep] at p2;subst p2;obtain⟨u1,u2,rfl,W,Z⟩:=xj v2;cases W;refine⟨a,_,_,rfl,bN,λQ' E' hq=>?_⟩;obtain⟨o,T,N,g1,g2,g3,g4,g5⟩:=hd
   have hm:f[i]∉m.map (·.1):=by
    rw[Ii hk];intro cK;rw[iI] at cK;obtain⟨x,hx,e⟩:=kZ.mp cK;obtain⟨j,F,e3⟩:=BU hx;rw[oY] at F;rw[List.getElem_take] at e3;have k7:=NB.mp eu j i (by lia) (by lia) (by lia);exact k7 (e3.trans e)
   have Y:atKey m f[i]=none:=atKey_none_of_get λj p' F=>hm (kZ.mpr ⟨_,lN F,rfl⟩)
   have hml:m.length<=1000:=by
    have:=lX List.length (Ii hk);simp at this;lia
   refine wpAny_dictSet_heap (knd:=tupleKind (jB X.prog X.w)) (k:=f[i]) (show(tupleKind (jB X.prog X.w)).room B from(by show B.units<cLine;lia)) (qe M.hok hb) (xs:=m) ⟨o,T,N,g1,g2,g3,g4,U3 M.hok hk,g5⟩ (λh2 t u6=>hq h2 _ (Nat.le_add_right _ _) u6 ?_) (by rw[iN];lia);rw[storedH_new Y] at t;obtain⟨o',U,dF,k1,k2,k3,k4,_,k5⟩:=t;refine⟨_,?_,o',U,dF,k1,k2,k3,k4,k5⟩;rw[BP,C];show L2.KT H (List.map _ (f.take i++[f[i]])) _;rw[mF];exact Po hk ⟨rfl,hb,Z⟩
  ·have S:n.toArray.size=f.length:=by simp;lia
   rw[S,List.take_length] at hk;refine⟨.ref s.heap.objs.size,upd H s.heap.objs.size (.dT (kvT f)),I.laid L (iO _) ⟨?_,?_,m,Pp (λa u e=>by rw[hJ (kz e V)];exact e) hk,hd⟩,rfl,?_⟩
   ·rw[iJ,iN];lia
   ·have:=I.big;simp only[xH,ne_eq]
    lia
   ·refine G s.heap.objs.size _ V (jY V) ⟨(kvT f).map (·.2),.inr ⟨kvT f,hG,?_,rfl⟩,?_⟩
    ·rw[iI];rfl
    ·exact Lk _
 |_=>cases J
variable {a:gy}{g:FO}{p f:Pos}
def TV(j:X.A.units+62<cLine)(i:X.mg "dict"=none)(b:QA X [a] [g])(c:X.calm=true:=by rfl)(e:Gl X "dict":=by rfl)(d:SE X a []:=by rfl)(k:BA X f []:=by rfl):QX X (.Call (.Name "dict" p) [a] [] f) (gC (g1 wV) [g]):=
 ⟨HI (Hd j c) e i (by decide+kernel) b.h (by decide) (by decide) d k⟩
end
end PX
namespace L2
open PySem PySem.Spec PyProof.Rows PySem.W
end L2
namespace PX
open PySem PySem.Spec PyProof.Rows L2
end PX
namespace L2
open PySem PySem.Spec PyProof.Rows PySem.W
section
variable {P:gR}{w:gJ}{a:List Env}{H f:Hp}{s b:gn}{C e:gm}{c B d:gP}{F:jl}
end
section
variable {X:Cx}{b:gZ}{c:St}{H:Hp}{s d:gn}{C e:gm}
variable {P:gR}{w:gJ}{a:List Env}{f:Hp}{s0:gn}{E:XK}
end
section
variable {X:Cx}{P:gR}{w:gJ}{b:List Env}{f:Hp}{s0:gn}{E:XK}{x:Str}{C:gm}{a:gy}{d:TE}{np e c:Pos}
end
section
variable {X:Cx}{b:gZ}{f:St}{H:Hp}{s:gn}{P c:gm}{a:Arguments}{d:gy}{scope:jb}{g:kg}{e:Pos}
end
section
variable {g:CXT}{P:gR}{w:gJ}{K:Frag}{c:lL}{base:gP}{N:hW}{q:Str}{scope:jb}{d:gm}{e:gA}{f:kg}{A:gM}{a:List Env}{s:gn}{H:Hp}{E:XK}{b:St}
end
open PySem.Calls Builtin Builtin.ObjectAttr Builtin.Getset_descriptor
section
variable {K:Frag}{C x:gm}{o:Obj}
end
section
variable {X:Cx}{b:gZ}{d c:St}{H:Hp}{s:gn}{a:gm}{o:Obj}{e:gP}
end
section
variable {X:Cx}{a:gZ}{b:St}{H h:Hp}{s c:gn}{C f:gm}{d B e:gP}{F:jl}{g:gA}
end
end L2
namespace PX
open PySem PySem.Spec PyProof.Rows L2 PySem.SeqAt PySem.W
abbrev XS:=Dn->Option Str
section
variable {X:Cx}{P:gR}{w:gJ}{c:List Env}{l:Hp}{s0:gn}{E:XK}{A:iZ}{st:Stmt}{sts a b:List Stmt}{x y:XS}{e:gy}{d:Pos}
variable {k:Nat}{f:gm}{i:lW}{h:hW}{g:List D->Option Str}{j:jm}{fs:List FO}{z:Str}{p:Pos}
end
end PX
namespace L2
open PySem PySem.Spec PyProof.Rows PySem.W
section
variable {fs:jl}{N:hW}{scope:jb}{f:kg}{c:St}{H g:Hp}{h d:gP}{q:Str}{a:Arguments}{b:gy}{e:gm}
end
section
variable {X:Cx}{N:hW}{scope:jb}{e:kg}{c:St}{q:Str}{a:Arguments}{b:gy}{d:gm}{k:Nat}{t:XK->TE}
end
end L2
namespace PX
open PySem PySem.Spec PyProof.Rows L2 PySem.SeqAt PySem.W
section
variable {X:Cx}
end
section
variable {X:Cx}{u c:gm}{a:Arguments}{e:gy}{scope:jb}{f b r:Pos}{d:jf}{w v:hW}{t:F}{xB:XS}{g:FS}{x:Str->Option Nat}{l:jf}{st:Stmt}{s:gm}{h:lW}{p q n m o:Str}{CR:gm}{i j k:Nat}
end
section
variable {X:Cx}
variable {b f a e c:Pos}{i:Nat}{x:Str}{d:Nat}
end
section
variable {X:Cx}{e:gy}{h:FO}{c p d:Pos}{z:Str}{l:jf}{k:Nat}
variable {x:Str}{i g:Nat}{j b:Pos}{a:gy}{f:F}
end
section
variable {X:Cx}{P:gR}{w:gJ}{d:List Env}{o:Hp}{s0:gn}{E:XK}{A:iZ}{st:Stmt}{sts b:List Stmt}{x y:XS}{e:gy}{g p j:Pos}{f:FS}{z:Str}{a:gy}{m:F}{k:Nat}{i:hW}{h:List D->Option Str}{n:jm}{fs:List FO}{l:FT}{c:gy}
end
section
variable {X:Cx}{k:Nat}{f:gm}{d:lW}{c:hW}{x:Str}{p b:Pos}{e a:gy}{i:jm}{h:EvF}{fs:List FO}{g:FO}{TB:List (Addr×Str)}
end
section
variable {Z:ZZ}{ct a:List (Str×Nat)}{CR:Nat}
end
end PX
namespace PV
open PySem PySem.Spec PyProof.Rows L2 PX
abbrev Vv:Nat:=100000
abbrev RD:Nat:=6
def rG:FS:=(gx (jA (sU (jk (og [.int]) (gh 0)) (M9 (jk (og [.bool]) (gh 0))))) gH)
def mJ:EvF:=evF 1 1 [] rG
def nu:FS:=(gx (jA (sU (gz mJ [(gh 0)]) (rK .LtE .LtE (gh 1) (gh 0) (gh 2)))) gH)
def lT:EvF:=evF 3 3 [] nu
def uF:FS:=(gx (jA (gz lT [(gh 1),(gi (fC (.int 1))),(gh 0)])) gH)
def ql:EvF:=evF 2 2 [] uF
def qi:FS:=(gx (jA (sU (gz mJ [(gh 1)]) (gz ql [(gh 0),(gi (gC (g1 oh) [(gh 1)]))]))) gH)
def mn:EvF:=evF 2 2 [] qi
def kd:FS:=(gx (sIf (xR (mH (fT (jk (og [.tuple]) (gh 1)))) (fT (gr gNe (gi (gC (g1 mh) [(gh 1)])) (gh 0)))) (gx (jA (fC (.bl false))) gH) gH) (gx (sIf (mH (fT (gC (g1 xQ) [(gi (hZ [0] 1 (ie (hU 1)) (gq 1) iM (ip (gz mn [(gh 0),(gh 1)]))))]))) (gx (jA (fC (.bl false))) gH) gH) (gx (jA (gr gEq (gi (sD [] 1 (ie (hU 1)) (gq 0) iM (zP (gC (g1 oh) [(gh 0)])))) (gh 0))) gH)))
def iT:EvF:=evF 2 2 [] kd
def rE:FS:=(gx (jA (fIf (fT (gr (nU .Gt) (gh 1) (gi (fC (.int 0))))) (gr gIx (gh 0) (gi (gr gSub (gh 1) (gi (fC (.int 1)))))) (jk lz (gi (gr gIx (gh 0) (gi (gr gSub (gi (jk lz (gh 1))) (gi (fC (.int 1)))))))))) gH)
def mI:EvF:=evF 2 2 [] rE
def lS:FS:=(gx (sIf (fT (gr (nU .Lt) (gh 1) (gi (gC (g1 mh) [(gh 0)])))) (gx (jA (gr gIx (gh 0) (gh 1))) gH) gH) (gx (jA (fC (.int 0))) gH))
def kE:EvF:=evF 2 2 [] lS
def nq:FS:=(gx (iq 2 (gz kE [(gh 0),(gh 1)])) (gx (sIf (fT (gr (nU .GtE) (gh 2) (gi (gr EA (gi (fC (.int 10))) (gi (fC (.int 18))))))) (gx (jA (kD [(gr gSub (gh 2) (gi (gr EA (gi (fC (.int 10))) (gi (fC (.int 18)))))),(fC (.bl true))])) gH) gH) (gx (jA (kD [(gr vB (gh 2) (gi (fC (.int 2147483647)))),(fC (.bl false))])) gH)))
def kQ:EvF:=evF 3 2 [2] nq
def oI:FS:=(gx (sIf (fT (gr gIx (gh 0) (gi (fC (.int 1))))) (gx (iq 2 (gr vB (gi (gr gIx (gh 0) (gi (fC (.int 0))))) (gh 1))) (gx (wI 0 (gr MY (gi (gr gIx (gh 0) (gi (fC (.int 0))))) (gh 1)) (gi (fC (.int 0)))) (gx (ni 2) gH))) gH) (gx (wI 0 (gr vB (gi (gr jt (gi (gr qK (gi (gr gIx (gh 0) (gi (fC (.int 0))))) (gi (fC (.int 48271))))) (gi (fC (.int 29))))) (gi (fC (.int 2147483647)))) (gi (fC (.int 0)))) (gx (iq 3 (gr vB (gi (gr jt (gi (gr jt (gi (gr qK (gi (gr gIx (gh 0) (gi (fC (.int 0))))) (gi (gr gIx (gh 0) (gi (fC (.int 0))))))) (gi (gr qK (gi (fC (.int 39373))) (gi (gr gIx (gh 0) (gi (fC (.int 0))))))))) (gi (fC (.int 7))))) (gi (fC (.int 2147483629))))) (gx (iq 3 (gr vB (gi (gr jt (gi (gr qK (gh 3) (gh 3))) (gi (gr qK (gi (fC (.int 16807))) (gh 3))))) (gi (fC (.int 2147483587))))) (gx (jA (gr vB (gi (gr MY (gh 3) (gi (fC (.int 8))))) (gh 1))) gH)))))
def gF:EvF:=evF 4 2 [2,3] oI
def rF:FS:=(gx (iq 2 (gC (gRg .lst true) [(gi (fC (.int 1))),(gi (gr jt (gh 1) (gi (fC (.int 1)))))])) (gx (iq 3 (kD [])) (gx (nQ (uD (gh 1)) (gq 4) (gx (lQ (jD 3 (gr qK (gi (uG 2 (gi (gz gF [(gh 0),(gi (gC (g1 mh) [(gh 2)]))])))) (gi (gr gIx (gi (kD [(fC (.int 1)),(jk lz (gi (fC (.int 1))))])) (gi (gz gF [(gh 0),(gi (fC (.int 2)))]))))))) gH)) (gx (jA (gC (g1 lJ) [(gh 3)])) gH))))
def jJ:EvF:=evF 5 2 [2,3,4] rF
def tU:FS:=(gx (iq 2 (gr gIx (gi (kD [(fC (.int 3)),(fC (.int 4)),(fC (.int 6))])) (gi (gz gF [(gh 0),(gi (fC (.int 3)))])))) (gx (iq 3 (kD [])) (gx (nQ (xN (gi (fC (.int 1))) (gi (gr jt (gh 1) (gi (fC (.int 1)))))) (gq 4) (gx (iq 5 (gz gF [(gh 0),(gh 2)])) (gx (sIf (fT (gr (nU .Lt) (gh 5) (gi (fC (.int 2))))) (gx (lQ (jD 3 (gr gIx (gi (kD [(hU 4),(jk lz (gh 4))])) (gh 5)))) gH) gH) gH))) (gx (sIf (fT (gr gEq (gh 3) (gi (kD [])))) (gx (lQ (jD 3 (gr qK (gi (gr gIx (gi (kD [(fC (.int 1)),(jk lz (gi (fC (.int 1))))])) (gi (gz gF [(gh 0),(gi (fC (.int 2)))])))) (gi (gr jt (gi (fC (.int 1))) (gi (gz gF [(gh 0),(gh 1)]))))))) gH) gH) (gx (jA (gC (g1 lJ) [(gh 3)])) gH)))))
def mD:EvF:=evF 6 2 [2,3,4,5] tU
def mO:FS:=(gx (jA (gr qK (gi (gr gIx (gh 0) (gi (gr gSub (gi (gC (g1 oh) [(gh 1)])) (gi (fC (.int 1))))))) (gi (gr gIx (gi (kD [(jk lz (gi (fC (.int 1)))),(fC (.int 1))])) (gi (gC (g1 Pw) [(gi (gr (nU .Gt) (gh 1) (gi (fC (.int 0)))))])))))) gH)
def kc:EvF:=evF 2 2 [] mO
def oK:FS:=(gx (iq 2 EI) (gx (nQ (ie (hU 1)) (gq 3) (gx (iq 4 (gz kc [(gh 0),(gh 3)])) (gx (DY 2 (hU 4) (gi (gC (g1 oh) [(gh 4)]))) gH))) (gx (jA (gC (g1 lJ) [(gi (hZ [2] 1 (ie (gC (g1 jN) [(gh 2)])) (gq 1) iM (ip (gr EE (gh 0) (gh 1)))))])) gH)))
def ig:EvF:=evF 5 2 [2,3,4] oK
def tR:FS:=(gx (iq 2 (gC (g1 ED) [(gh 0)])) (gx (iq 3 (fC (.int 0))) (gx (nV (fT (gr (nU .Lt) (gh 3) (gi (gC (g1 mh) [(gh 2)])))) (gx (nQ (ie (hU 1)) (gq 4) (gx (iq 5 (gz ig [(gh 4),(gi (gr gIx (gh 2) (gh 3)))])) (gx (sIf (fT (gr jI (gh 5) (gh 2))) (gx (lQ (jD 2 (hU 5))) gH) gH) gH))) (gx (iq 3 (gr jt (gh 3) (gi (fC (.int 1))))) gH)) Vv) (gx (ni 2) gH))))
def mC:EvF:=evF 6 2 [2,3,4,5] tR
def tQ:FS:=(gx (iq 3 (gr jt (gh 1) (gi (gz gF [(gh 0),(gi (gr jt (gi (gr gSub (gh 2) (gh 1))) (gi (fC (.int 1)))))])))) (gx (iq 4 (gz gF [(gh 0),(gi (fC (.int 4)))])) (gx (sIf (fT (gr gEq (gh 3) (gi (fC (.int 0))))) (gx (jA (kO [(fC (.int 0)),(kO [])])) gH) gH) (gx (iq 5 (gz gF [(gh 0),(gi (gr gIx (gi (kD [(fC (.int 4)),(fC (.int 8)),(fC (.int 13))])) (gi (gz gF [(gh 0),(gi (fC (.int 3)))]))))])) (gx (iq 6 (hZ [0,3] 1 (uD (gh 5)) (gq 2) iM (ip (gz mD [(gh 0),(gh 1)])))) (gx (sIf (fT (gr (nU .Gt) (gh 4) (gi (fC (.int 0))))) (gx (iq 7 (hZ [0,3] 1 (uD (gi (gr jt (gi (fC (.int 1))) (gi (gr vB (gh 4) (gi (fC (.int 2)))))))) (gq 2) iM (ip (gz jJ [(gh 0),(gh 1)])))) (gx (sIf (fT (gr gEq (gh 4) (gi (fC (.int 3))))) (gx (iq 7 (hZ [] 1 (ie (hU 7)) (gq 0) iM (ip (gC (g1 lJ) [(gi (hZ [] 1 (ie (hU 0)) (gq 0) iM (ip (gC (g1 oh) [(gh 0)]))))])))) gH) gH) (gx (iq 6 (gz mC [(gi (mW (gi (gC (g1 jN) [(gi (gC (g1 GW) [(gh 6)]))])) (gi (fC (.int 2))))),(gh 7)])) gH))) gH) (gx (iq 6 (gC (g1 jN) [(gi (gC (g1 GW) [(gh 6)]))])) (gx (sIf (fT (gr (nU .Gt) (gi (gC (g1 mh) [(gh 6)])) (gi (fC (.int 30))))) (gx (iq 6 (mW (gh 6) (gi (gz gF [(gh 0),(gi (fC (.int 30)))])))) gH) gH) (gx (jA (kO [(hU 3),(gC (g1 lJ) [(gh 6)])])) gH)))))))))
def mB:EvF:=evF 8 3 [3,4,5,6,7] tQ
def nk:FS:=(gx (jA (sU (jk (og [.int]) (gh 0)) (sU (M9 (jk (og [.bool]) (gh 0))) (rK .LtE .LtE (gh 1) (gh 0) (gh 2))))) gH)
def kP:EvF:=evF 3 3 [] nk
def kN:FS:=(gx (sIf (mH (fT (gz iT [(gh 0),(gh 1)]))) (gx CH gH) gH) gH)
def kT:EvF:=evF 2 2 [] kN
def tP:FS:=(gx (jA (gC (g1 lJ) [(gi (gC (g1 uE) [(gi (hZ [1] 1 (ie (hU 0)) (gq 1) iM (ip (gz mI [(gh 0),(gh 1)]))))]))])) gH)
def jP:EvF:=evF 2 2 [] tP
def M0:FS:=(gx (Lj (uT [(gq 2),(gq 3)]) (hU 0)) (gx (lQ (gz kT [(gh 2),(gh 1)])) (gx (jA (kO [(hU 2),(gC (g1 lJ) [(gi (gC (g1 nj) [(gi (hZ [1] 1 (ie (hU 3)) (gq 1) iM (ip (gz jP [(gh 1),(gh 0)]))))]))])])) gH)))
def G0:EvF:=evF 4 2 [2,3] M0
def rH:FS:=(gx (jA (sU (gz iT [(gi (gr gIx (gh 0) (gi (fC (.int 0))))),(gh 1)]) (gr gEq (gi (gz G0 [(gh 0),(gh 1)])) (gh 0)))) gH)
def kF:EvF:=evF 2 2 [] rH
def vC:FS:=(gx (jA (hZ [] 1 (xN (gi (jk lz (gh 0))) (gi (gr jt (gh 0) (gi (fC (.int 1)))))) (gq 0) (fT (gr gNe (gh 0) (gi (fC (.int 0))))) (ip (hU 0)))) gH)
def nv:EvF:=evF 1 1 [] vC
def pI:FS:=(gx (jA (hZ [0] 2 (ie (hU 1)) (gq 1) iM (Nq (ie (gz nv [(gh 0)])) (gq 2) (tV (fT (gr jI (gh 2) (gh 1))) (fT (gr jI (gi (jk lz (gh 2))) (gh 1)))) (ip (gr jt (gh 1) (gi (kO [(hU 2)]))))))) gH)
def jW:EvF:=evF 2 2 [] pI
def pJ:FS:=(gx (Lj (uT [(gq 2),(gq 3)]) (hU 0)) (gx (iq 4 (kD [(kO [])])) (gx (nQ (xN (gi (fC (.int 1))) (gi (gr jt (gh 2) (gi (fC (.int 1)))))) (gq 5) (gx (iq 6 (hZ [5] 1 (ie (hU 3)) (gq 1) (fT (gr gEq (gi (gC (g1 oh) [(gi (gr gIx (gh 1) (gi (jk lz (gi (fC (.int 1)))))))])) (gh 0))) (ip (hU 1)))) (gx (iq 4 (hZ [1,6] 1 (ie (gz jW [(gh 2),(gh 4)])) (gq 2) (fT (gC (g1 xQ) [(gi (hZ [0,2] 1 (ie (hU 1)) (gq 2) iM (ip (gr gIn (gi (gz jP [(gh 2),(gh 1)])) (gh 0)))))])) (ip (hU 2)))) gH))) (gx (ni 4) gH))))
def ml:EvF:=evF 7 2 [2,3,4,5,6] pJ
def rJ:FS:=(gx (jA (fIf (fT (gr gEq (gi (gC (g1 mh) [(gi (gr gIx (gh 0) (gi (fC (.int 1)))))])) (gi (gC (g1 mh) [(gi (gr gIx (gh 1) (gi (fC (.int 1)))))])))) (gz ml [(gh 0),(gi (gr gIx (gh 1) (gi (fC (.int 1)))))]) (kD []))) gH)
def rL:EvF:=evF 2 2 [] rJ
def tN:FS:=(gx (jA (gz rL [(gh 0),(gh 0)])) gH)
def lC:EvF:=evF 1 1 [] tN
def mV:FS:=(gx (iq 1 (kD [(kO [])])) (gx (nQ (uD (gh 0)) (gq 2) (gx (iq 3 (kD [])) (gx (nQ (ie (hU 1)) (gq 4) (gx (nQ (ie (gr jt (gi (gC (gRg .lst true) [(gi (jk lz (gh 0))),(gi (fC (.int 0)))])) (gi (gC (gRg .lst true) [(gi (fC (.int 1))),(gi (gr jt (gh 0) (gi (fC (.int 1)))))])))) (gq 5) (gx (sIf (tV (fT (gr jI (gh 5) (gh 4))) (fT (gr jI (gi (jk lz (gh 5))) (gh 4)))) (gx (lQ (jD 3 (gr jt (gh 4) (gi (kO [(hU 5)]))))) gH) gH) gH)) gH)) (gx (iq 1 (hU 3)) gH)))) (gx (ni 1) gH)))
def lh:EvF:=evF 6 1 [1,2,3,4,5] mV
def nr:FS:=(gx (nQ (ie (hU 1)) (gq 3) (gx (sIf (fT (gr oH (gi (gz ig [(gh 0),(gh 3)])) (gh 2))) (gx (jA (fC (.bl false))) gH) gH) gH)) (gx (jA (fC (.bl true))) gH))
def kR:EvF:=evF 4 3 [3] nr
def oJ:FS:=(gx (iq 1 (gC (g1 wV) [(gi (hZ [] 1 (ie (gr gIx (gh 0) (gi (fC (.int 1))))) (gq 0) iM (ip (kO [(hU 0),(fC (.bl true))]))))])) (gx (jA (hZ [1,0] 1 (ie (gz lh [(gi (gr gIx (gh 0) (gi (fC (.int 0)))))])) (gq 2) (fT (gz kR [(gh 2),(gi (gr gIx (gh 1) (gi (fC (.int 1))))),(gh 0)])) (ip (hU 2)))) gH))
def km:EvF:=evF 2 1 [1] oJ
def ke:FS:=(gx (sIf (xR (mH (fT (jk (og [.tuple]) (gh 1)))) (fT (gr gNe (gi (gC (g1 mh) [(gh 1)])) (gh 0)))) (gx (jA (fC (.bl false))) gH) gH) (gx (sIf (mH (fT (gC (g1 xQ) [(gi (hZ [0] 1 (ie (hU 1)) (gq 1) iM (ip (gz kP [(gh 1),(gi (jk lz (gh 0))),(gh 0)]))))]))) (gx (jA (fC (.bl false))) gH) gH) (gx (jA (gr gEq (gi (gC (g1 nj) [(gi (hZ [] 1 (ie (hU 1)) (gq 0) iM (ip (gC (g1 oh) [(gh 0)]))))])) (gi (gC (gRg .lst true) [(gi (fC (.int 1))),(gi (gr jt (gh 0) (gi (fC (.int 1)))))])))) gH)))
def iP:EvF:=evF 2 2 [] ke
def jy(ev:EvF):FS:=(gx (sIf (fT (jk (og [.list,.tuple]) (gh 1))) (gx (sIf (xR (fT (gr gNe (gi (jk (og [.list]) (gh 0))) (gi (jk (og [.list]) (gh 1))))) (fT (gr gNe (gi (jk (og [.tuple]) (gh 0))) (gi (jk (og [.tuple]) (gh 1)))))) (gx (jA (fC (.bl false))) gH) gH) (gx (jA (sU (gr gEq (gi (gC (g1 mh) [(gh 0)])) (gi (gC (g1 mh) [(gh 1)]))) (gC (g1 xQ) [(gi (hZ [] 2 (wR (gh 0) (gh 1)) (uT [(gq 0),(gq 1)]) iM (ip (gz ev [(gh 0),(gh 1)]))))]))) gH)) gH) (gx (jA (sU (gr gEq (gi (jk (og [.bool]) (gh 0))) (gi (jk (og [.bool]) (gh 1)))) (gr gEq (gh 0) (gh 1)))) gH))
def iU:Nat->EvF
 |0=>λ_=>none
 |m+1=>evF 2 2 [] (jy (iU m))
def qF:FS:=(gx (iq 3 (gz gF [(gh 0),(gi (gr jt (gi (gC (g1 mh) [(gh 1)])) (gi (fC (.int 1)))))])) (gx (iq 4 (gr gIx (gi (kD [(fC (.int 0)),(gr jt (gh 2) (gi (fC (.int 1)))),(fC (.bl true)),(fC .non),(fC (.str "1")),(kO [(fC (.int 1))]),(gr EA (gi (fC (.int 10))) (gi (fC (.int 29)))),(fC (.int 1)),(jk lz (gi (fC (.int 1)))),(hU 2),(jk lz (gh 2))])) (gi (gz gF [(gh 0),(gi (fC (.int 11)))])))) (gx (iq 5 (kD [(gr jt (gi (gr jt (gi (mW (gh 1) (gh 3))) (gi (kO [(hU 4)])))) (gi (xv (gh 1) (gi (gr jt (gh 3) (gi (fC (.int 1)))))))),(gr jt (gi (mW (gh 1) (gh 3))) (gi (xv (gh 1) (gi (gr jt (gh 3) (gi (fC (.int 1))))))))])) (gx (iq 5 (gr jt (gh 5) (gi (kD [(gr jt (gi (gr jt (gi (mW (gh 1) (gh 3))) (gi (kO [(hU 4)])))) (gi (xv (gh 1) (gh 3)))),(gC (g1 ED) [(gh 1)]),(M8 (gh 1) (gi (jk lz (gi (fC (.int 1)))))),(fC .non),EI,(hU 4),(kO [(hU 1)])])))) (gx (lQ (jD 5 (gr jt (gh 1) (gi (mW (gh 1) (gi (fC (.int 1)))))))) (gx (jA (gr gIx (gh 5) (gi (gr gIx (gi (kD [(fC (.int 0)),(fC (.int 0)),(fC (.int 0)),(fC (.int 1)),(fC (.int 2)),(fC (.int 3)),(fC (.int 4)),(fC (.int 5)),(fC (.int 6)),(fC (.int 7)),(fC (.int 8)),(fC (.int 9))])) (gi (gz gF [(gh 0),(gi (fC (.int 12)))])))))) gH))))))
def jc:EvF:=evF 6 3 [3,4,5] qF
def zp:FS:=(gx (nQ (uD (gi (gC (g2 MX) [(gi (fC (.int 1))),(gi (gC (g2 A7) [(gi (gC (g1 mh) [(gh 0)])),(gi (fC (.int 5)))]))]))) (gq 1) (gx (iq 2 (gz kQ [(gh 0),(gh 1)])) (gx (iq 3 (gz mB [(gh 2),(gi (fC (.int 0))),(gi (gr gSub (gi (fC (.int 5))) (gi (gC (g2 A7) [(gh 1),(gi (fC (.int 1)))]))))])) (gx (iq 4 (gz km [(gh 3)])) (gx (nQ (uD (gi (fC (.int 2)))) (gq 5) (gx (iq 6 (gz lC [(gh 3)])) (gx (sIf (mH (fT (gz (iU RD) [(gh 6),(gh 4)]))) (gx (jA (fC (.bl false))) gH) gH) (gx (lQ (jD 6 (kO []))) gH)))) (gx (iq 7 (gr gIx (gh 4) (gi (gz gF [(gh 2),(gi (gC (g1 mh) [(gh 4)]))])))) (gx (iq 8 (gz jJ [(gh 2),(gi (gr gIx (gh 3) (gi (fC (.int 0)))))])) (gx (nQ (ie (kD [(hU 7),(hU 8),(gz jc [(gh 2),(gh 7),(gi (gr gIx (gh 3) (gi (fC (.int 0)))))]),(gz jc [(gh 2),(gh 7),(gi (gr gIx (gh 3) (gi (fC (.int 0)))))])])) (gq 9) (gx (iq 6 (gz kF [(gh 3),(gh 9)])) (gx (iq 10 (gC (g1 wV) [(gi (hZ [] 1 (ie (gr gIx (gh 3) (gi (fC (.int 1))))) (gq 0) iM (ip (kO [(hU 0),(fC (.bl true))]))))])) (gx (iq 11 (sU (gz iP [(gi (gr gIx (gh 3) (gi (fC (.int 0))))),(gh 9)]) (gz kR [(gh 9),(gi (gr gIx (gh 3) (gi (fC (.int 1))))),(gh 10)]))) (gx (sIf (xR (mH (fT (jk (og [.bool]) (gh 6)))) (fT (gr gNe (gh 6) (gh 11)))) (gx (jA (fC (.bl false))) gH) gH) gH))))) gH)))))))) (gx (jA (sU (gr gEq (gi (gz lC [(gi (kO [(fC (.int 0)),(kO [])]))])) (gi (kD [(kO [])]))) (gr gIs (gi (gz kF [(gi (kO [(fC (.int 0)),(kO [])])),(gi (kO []))])) (gi (fC (.bl true)))))) gH))
def tX:EvF:=evF 12 1 [1,2,3,4,5,6,7,8,9,10,11] zp
end PV
namespace K31
open PySem PySem.Spec PyProof.Rows L2 PX PV
def top(i:Nat):Stmt:=PySem.Challenge.pw_twinriddles_k31_likenesses.main.body.getD i (.Pass ⟨0,0,0,0⟩)
section
variable {Z:ZZ}{k:Nat}
abbrev pX:Stmt:=top 4
def DX:FnScope ["thing"] ["thing"] (gE pX):=scM
abbrev uC(Z:ZZ)(k:Nat):Prop:=Oz Z k "is_whole" ["thing"] mJ
def E5:BdA "is_whole" pX ["thing"]:=λ_ _ _ _ _ _=>us1 λ_=>us0 rfl
def Ed(a:Fz Z.K Z.mg "is_whole" pX)(T:Tx Z.mg):uC Z (k+1):=by
 have S:=DX;refine ozB (asg:=[]) (fs:=rG) a S E5 λf c A b s H E L d e g i h j l=>?_;exact(s1 (sR (zW (xI T rfl xV) (xBo (TU (xI T rfl xV))))) s0)
abbrev oA:Stmt:=top 5
def CF:FnScope ["thing","least","most"] ["thing","least","most"] (gE oA):=scM
abbrev xq(Z:ZZ)(k:Nat):Prop:=Oz Z k "is_number" ["thing","least","most"] lT
def Dq:BdA "is_number" oA ["thing","least","most"]:=λ_ _ _ _ _ _=>us1 λ_=>us1 λ_=>us1 λ_=>us0 rfl
def CT(a:Fz Z.K Z.mg "is_number" oA)(T:Tx Z.mg)(d:uC Z k):xq Z (k+1):=by
 have S:=CF;refine ozB (asg:=[]) (fs:=nu) a S Dq λf e A b s H E L g c h j i l m=>?_;exact(s1 (sR (zW (xU d c (xA xV xA0)) (xBo (xCh xV xV xV)))) s0)
abbrev se:Stmt:=top 6
def Gp:FnScope ["names","thing"] ["names","thing"] (gE se):=scM
abbrev AV(Z:ZZ)(k:Nat):Prop:=Oz Z k "is_name" ["names","thing"] ql
def Hg:BdA "is_name" se ["names","thing"]:=λ_ _ _ _ _ _=>us1 λ_=>us1 λ_=>us0 rfl
def GI(a:Fz Z.K Z.mg "is_name" se)(T:Tx Z.mg)(b:xq Z k):AV Z (k+1):=by
 have S:=Gp;refine ozB (asg:=[]) (fs:=uF) a S Hg λf e A c s H E L g d h j i l m=>?_;exact(s1 (sR (xU b d (xA xV (xA (xO x3) (xA xV xA0))))) s0)
abbrev sd:Stmt:=top 7
def Gn:FnScope ["names","thing"] ["names","thing"] (gE sd):=scM
abbrev AU(Z:ZZ)(k:Nat):Prop:=Oz Z k "is_sign" ["names","thing"] mn
def Hf:BdA "is_sign" sd ["names","thing"]:=λ_ _ _ _ _ _=>us1 λ_=>us1 λ_=>us0 rfl
def GH(a:Fz Z.K Z.mg "is_sign" sd)(T:Tx Z.mg)(e:uC Z k)(b:AV Z k):AU Z (k+1):=by
 have S:=Gn;refine ozB (asg:=[]) (fs:=qi) a S Hf λf g A c s H E L h d i l j m n=>?_;exact(s1 (sR (zW (xU e d (xA xV xA0)) (xBo (xU b d (xA xV (xA (xO (xB T rfl ⟨mr⟩ (xA xV xA0))) xA0)))))) s0)
abbrev nh:Stmt:=top 9
def Ae:FnScope ["names","thing"] ["names","thing"] (gE nh):=scM
abbrev qc(Z:ZZ)(k:Nat):Prop:=Oz Z k "is_turning" ["names","thing"] iT
def Az:BdA "is_turning" nh ["names","thing"]:=λ_ _ _ _ _ _=>us1 λ_=>us1 λ_=>us0 rfl
def Al(a:Fz Z.K Z.mg "is_turning" nh)(T:Tx Z.mg)(b:AU Z k):qc Z (k+1):=by
 have S:=Ae;refine ozB (asg:=[]) (fs:=kd) a S Az λf h A d s H E L i g e l j m c=>?_;exact(s1 (sI (tW (wOr (tNot (yG (xI T rfl xV))) (NN (tCmp ⟨(wM e)⟩ (xO (xB T rfl ⟨jH⟩ (xA xV xA0))) xV)))) (s1 (sR x2) s0) s0) (s1 (sI (tNot (yG (xB T rfl ⟨(sJ rfl)⟩ (xA (xO (by exact xC (N':=["names","sign"]) (cOk S) (by decide+kernel) (iS xW) λ_ _ _ _ _ _ c=>⟨(gN c),f0,λ_=>bE (xU b g (xA xV (xA xV xA0)))⟩)) xA0)))) (s1 (sR x2) s0) s0) (s1 (sR (zV ⟨(mN e)⟩ (xO (by exact xLS (N':=["sign"]) T (cOk S) (by decide+kernel) (iS xW) λ_ _ _ _ _ _ c=>⟨(gN c),f0,(xB T rfl ⟨mr⟩ (xA xV xA0))⟩)) xV)) s0)))
abbrev lH:Stmt:=top 10
def wH:FnScope ["names","thing"] ["names","thing"] (gE lH):=scM
abbrev qE(Z:ZZ)(k:Nat):Prop:=Oz Z k "check_turning" ["names","thing"] kT
def xa:BdA "check_turning" lH ["names","thing"]:=λ_ _ _ _ _ _=>us1 λ_=>us1 λ_=>us0 rfl
def wQ(a:Fz Z.K Z.mg "check_turning" lH)(T:Tx Z.mg)(d:qc Z k):qE Z (k+1):=by
 have S:=wH;refine ozB (asg:=[]) (fs:=kN) a S xa λf e A b s H E L g c h j i l m=>?_;exact(s1 (sI (tNot (yG (xU d c (xA xV (xA xV xA0))))) (s1 sX s0) s0) s0)
abbrev pU:Stmt:=top 11
def DS:FnScope ["turning","sign"] ["turning","sign"] (gE pU):=scM
abbrev zc(Z:ZZ)(k:Nat):Prop:=Oz Z k "led_sign" ["turning","sign"] mI
def EX:BdA "led_sign" pU ["turning","sign"]:=λ_ _ _ _ _ _=>us1 λ_=>us1 λ_=>us0 rfl
def D9(a:Fz Z.K Z.mg "led_sign" pU)(T:Tx Z.mg):zc Z (k+1):=by
 have S:=DS;refine ozB (asg:=[]) (fs:=rE) a S EX λf d A b s H E L e g c i h j l=>?_;exact(s1 (sR (xIf (tCmp ⟨(oD (.inr (.inr (.inl rfl))) c)⟩ xV (xO x3)) (xIx xV (xO (jg ⟨si⟩ xV (xO x3)))) (uw (xO (xIx xV (xO (jg ⟨si⟩ (xO (uw xV)) (xO x3)))))))) s0)
abbrev mY:Stmt:=top 12
def Aa:FnScope ["clause","turning"] ["clause","turning"] (gE mY):=scM
abbrev qb(Z:ZZ)(k:Nat):Prop:=Oz Z k "led_clause" ["clause","turning"] jP
def Av:BdA "led_clause" mY ["clause","turning"]:=λ_ _ _ _ _ _=>us1 λ_=>us1 λ_=>us0 rfl
def Ah(a:Fz Z.K Z.mg "led_clause" mY)(T:Tx Z.mg)(b:zc Z k):qb Z (k+1):=by
 have S:=Aa;refine ozB (asg:=[]) (fs:=tP) a S Av λf g A c s H E L h e i l j m d=>?_;exact(s1 (sR (xT T rfl ⟨kG⟩ (xA (xO (xSA T (xA (xO (by exact xC (N':=["turning","sign"]) (cOk S) (by decide+kernel) (iS xW) λ_ _ _ _ _ _ d=>⟨(gN d),f0,λ_=>bE (xU b e (xA xV (xA xV xA0)))⟩)) xA0))) xA0))) s0)
abbrev HD:Stmt:=top 13
def Ra:FnScope ["riddle","turning","names","clauses"] ["riddle","turning"] (gE HD):=scM
abbrev Qj(Z:ZZ)(k:Nat):Prop:=Oz Z k "led" ["riddle","turning"] G0
def Tt:BdA "led" HD ["riddle","turning"]:=λ_ _ _ _ _ _=>us1 λ_=>us1 λ_=>us0 rfl
def Sv(a:Fz Z.K Z.mg "led" HD)(T:Tx Z.mg)(b:qE Z k)(h:qb Z k):Qj Z (k+1):=by
 have S:=Ra;refine ozB (asg:=[2,3]) (fs:=M0) a S Tt λf i A d s H E L j e l m g n c=>?_;exact(s1 (sT xW (gT (gN c) (gN c))) (s1 (sE (xU b e (xA xV (xA xV xA0)))) (s1 (sR (oM (xL xW (xL (xT T rfl ⟨kG⟩ (xA (xO (xB T rfl ⟨(qp g)⟩ (xA (xO (by exact xC (N':=["turning","clause"]) (cOk S) (by decide+kernel) (iS xW) λ_ _ _ _ _ _ c=>⟨(gN c),f0,λ_=>bE (xU h e (xA xV (xA xV xA0)))⟩)) xA0))) xA0)) xL0)))) s0)))
abbrev mx:Stmt:=top 15
def yN:FnScope ["riddle","thing"] ["riddle","thing"] (gE mx):=scM
abbrev tJ(Z:ZZ)(k:Nat):Prop:=Oz Z k "is_likeness" ["riddle","thing"] kF
def zN:BdA "is_likeness" mx ["riddle","thing"]:=λ_ _ _ _ _ _=>us1 λ_=>us1 λ_=>us0 rfl
def za(a:Fz Z.K Z.mg "is_likeness" mx)(T:Tx Z.mg)(g:qc Z k)(b:Qj Z k):tJ Z (k+1):=by
 have S:=yN;refine ozB (asg:=[]) (fs:=rH) a S zN λf h A c s H E L i d e l j m n=>?_;exact(s1 (sR (zW (xU g d (xA (xO (xIx xV (xO x3))) (xA xV xA0))) (xBo (zV ⟨(mN e)⟩ (xO (xU b d (xA xV (xA xV xA0)))) xV)))) s0)
abbrev oB:Stmt:=top 16
def CG:FnScope ["names"] ["names"] (gE oB):=scM
abbrev xt(Z:ZZ)(k:Nat):Prop:=Oz Z k "all_signs" ["names"] nv
def Dr:BdA "all_signs" oB ["names"]:=λ_ _ _ _ _ _=>us1 λ_=>us0 rfl
def CU(a:Fz Z.K Z.mg "all_signs" oB)(T:Tx Z.mg):xt Z (k+1):=by
 have S:=CG;refine ozB (asg:=[]) (fs:=vC) a S Dr λf e A b s H E L g h d j i l c=>?_;exact(s1 (sR (by exact xC (N':=["sign"]) (cOk S) (by decide+kernel) (iR2 T (xA (xO (uw xV)) (xA (xO (jg ⟨iB⟩ xV (xO x3))) xA0))) λ_ _ _ _ _ _ c=>⟨(gN c),(f1 (tCmp ⟨(wM d)⟩ xV (xO x3))),λ_=>bE xW⟩)) s0)
abbrev lF:Stmt:=top 17
def wF:FnScope ["names","begun"] ["names","begun"] (gE lF):=scM
abbrev qC(Z:ZZ)(k:Nat):Prop:=Oz Z k "longer_by_one" ["names","begun"] jW
def wY:BdA "longer_by_one" lF ["names","begun"]:=λ_ _ _ _ _ _=>us1 λ_=>us1 λ_=>us0 rfl
def wN(a:Fz Z.K Z.mg "longer_by_one" lF)(T:Tx Z.mg)(b:xt Z k):qC Z (k+1):=by
 have S:=wF;refine ozB (asg:=[]) (fs:=pI) a S wY λf h A d s H E L i g e l j m c=>?_;exact(s1 (sR (by exact xC (N':=["names","begin","sign"]) (cOk S) (by decide+kernel) (iS xW) λ_ _ _ _ _ _ c=>⟨(gN c),f0,λ_=>bF rfl (iS (xU b g (xA xV xA0))) (gN c) (f1 (tW (T4 (tCmp ⟨(pA e)⟩ xV xV) (P8 (tCmp ⟨(pA e)⟩ (xO (uw xV)) xV))))) (bE (jg ⟨iB⟩ xV (xO (oM (xL xW xL0)))))⟩)) s0)
abbrev lG:Stmt:=top 18
def wG:FnScope ["riddle","others","names","clauses","begun","name","ready"] ["riddle","others"] (gE lG):=scM
abbrev qD(Z:ZZ)(k:Nat):Prop:=Oz Z k "leading_among" ["riddle","others"] ml
def wZ:BdA "leading_among" lG ["riddle","others"]:=λ_ _ _ _ _ _=>us1 λ_=>us1 λ_=>us0 rfl
def wO(a:Fz Z.K Z.mg "leading_among" lG)(T:Tx Z.mg)(b:qC Z k)(j:qb Z k):qD Z (k+1):=by
 have S:=wG;refine ozB (asg:=[2,3,4,5,6]) (fs:=pJ) a S wZ λf l A d s H E L i e g n m o c=>?_;exact(s1 (sT xW (gT (gN c) (gN c))) (s1 (sS c (oN (xL (oM xL0) xL0))) (s1 (sF (iR2 T (xA (xO x3) (xA (xO (jg ⟨iB⟩ xV (xO x3))) xA0))) (gN c) (s1 (sS c (by exact xC (N':=["name","clause"]) (cOk S) (by decide+kernel) (iS xW) λ_ _ _ _ _ _ c=>⟨(gN c),(f1 (tCmp ⟨(mN g)⟩ (xO (xB T rfl ⟨mr⟩ (xA (xO (xIx xV (xO (uw (xO x3))))) xA0))) xV)),λ_=>bE xW⟩)) (s1 (sC (N':=["others","ready","begin"]) c (cOk S) (by decide+kernel) (iS (xU b e (xA xV (xA xV xA0)))) λ_ _ _ _ _ _ c=>⟨(gN c),(f1 (yG (xB T rfl ⟨(sJ rfl)⟩ (xA (xO (by exact xC (N':=["others","begin","clause"]) (Ha rfl rfl (by with_unfolding_all rfl)) (by decide+kernel) (iS xW) λ_ _ _ _ _ _ c=>⟨(gN c),f0,λ_=>bE (zV ⟨(Sg g)⟩ (xO (xU j e (xA xV (xA xV xA0)))) xV)⟩)) xA0)))),λ_=>bE xW⟩) s0))) (s1 (sRV (λh=>absurd (i _ h) (by decide))) s0))))
abbrev my:Stmt:=top 19
def yO:FnScope ["one","other"] ["one","other"] (gE my):=scM
abbrev tK(Z:ZZ)(k:Nat):Prop:=Oz Z k "all_leading" ["one","other"] rL
def zO:BdA "all_leading" my ["one","other"]:=λ_ _ _ _ _ _=>us1 λ_=>us1 λ_=>us0 rfl
def zb(a:Fz Z.K Z.mg "all_leading" my)(T:Tx Z.mg)(b:qD Z k):tK Z (k+1):=by
 have S:=yO;refine ozB (asg:=[]) (fs:=rJ) a S zO λf g A c s H E L h d e j i l m=>?_;exact(s1 (sR (xIf (tCmp ⟨(mN e)⟩ (xO (xB T rfl ⟨jH⟩ (xA (xO (xIx xV (xO x3))) xA0))) (xO (xB T rfl ⟨jH⟩ (xA (xO (xIx xV (xO x3))) xA0)))) (xU b d (xA xV (xA (xO (xIx xV (xO x3))) xA0))) (oN xL0))) s0)
abbrev mX:Stmt:=top 20
def zZ:FnScope ["riddle"] ["riddle"] (gE mX):=scM
abbrev vn(Z:ZZ)(k:Nat):Prop:=Oz Z k "likenesses" ["riddle"] lC
def Au:BdA "likenesses" mX ["riddle"]:=λ_ _ _ _ _ _=>us1 λ_=>us0 rfl
def Ag(a:Fz Z.K Z.mg "likenesses" mX)(T:Tx Z.mg)(b:tK Z k):vn Z (k+1):=by
 have S:=zZ;refine ozB (asg:=[]) (fs:=tN) a S Au λf e A c s H E L g d h j i l m=>?_;exact(s1 (sR (xU b d (xA xV (xA xV xA0)))) s0)
abbrev mw:Stmt:=top 22
def yM:FnScope ["_law_script","_law_k"] ["_law_script","_law_k"] (gE mw):=scM
abbrev tH(Z:ZZ)(k:Nat):Prop:=Oz Z k "_law_cell_at" ["_law_script","_law_k"] kE
def zM:BdA "_law_cell_at" mw ["_law_script","_law_k"]:=λ_ _ _ _ _ _=>us1 λ_=>us1 λ_=>us0 rfl
def yZ(a:Fz Z.K Z.mg "_law_cell_at" mw)(T:Tx Z.mg):tH Z (k+1):=by
 have S:=yM;refine ozB (asg:=[]) (fs:=lS) a S zM λf d A b s H E L e g c i h j l=>?_;exact(s1 (sI (tCmp ⟨(oD (.inl rfl) c)⟩ xV (xO (xB T rfl ⟨jH⟩ (xA xV xA0)))) (s1 (sR (xIx xV xV)) s0) s0) (s1 (sR x3) s0))
abbrev oy:Stmt:=top 23
def CC:FnScope ["_law_script","_law_k","_law_cell"] ["_law_script","_law_k"] (gE oy):=scM
abbrev xp(Z:ZZ)(k:Nat):Prop:=Oz Z k "_law_state" ["_law_script","_law_k"] kQ
def Dm:BdA "_law_state" oy ["_law_script","_law_k"]:=λ_ _ _ _ _ _=>us1 λ_=>us1 λ_=>us0 rfl
def CQ(a:Fz Z.K Z.mg "_law_state" oy)(T:Tx Z.mg)(b:tH Z k):xp Z (k+1):=by
 have S:=CC;refine ozB (asg:=[2]) (fs:=nq) a S Dm λf h A c s H E L i d e l j m g=>?_;exact(s1 (sS g (xU b d (xA xV (xA xV xA0)))) (s1 (sI (tCmp ⟨(oD (.inr (.inr (.inr rfl))) e)⟩ xV (xO (jg ⟨CN⟩ (xO x3) (xO x3)))) (s1 (sR (oN (xL (jg ⟨si⟩ xV (xO (jg ⟨CN⟩ (xO x3) (xO x3)))) (xL x2 xL0)))) s0) s0) (s1 (sR (oN (xL (jg ⟨pZ⟩ xV (xO x3)) (xL x2 xL0)))) s0)))
abbrev pV:Stmt:=top 24
def DT:FnScope ["_law_state_here","_law_many","_law_found","_law_mixed"] ["_law_state_here","_law_many"] (gE pV):=scM
abbrev md(Z:ZZ)(k:Nat):Prop:=Oz Z k "_law_take" ["_law_state_here","_law_many"] gF
def EY:BdA "_law_take" pV ["_law_state_here","_law_many"]:=λ_ _ _ _ _ _=>us1 λ_=>us1 λ_=>us0 rfl
def Ea(a:Fz Z.K Z.mg "_law_take" pV)(T:Tx Z.mg):md Z (k+1):=by
 have S:=DT;refine ozB (asg:=[2,3]) (fs:=oI) a S EY λf e A c s H E L d g i l j m b=>?_;exact(s1 (sI (yG (xIx xV (xO x3))) (s1 (sS b (jg ⟨pZ⟩ (xO (xIx xV (xO x3))) xV)) (s1 (sIx xV (jg ⟨HN⟩ (xO (xIx xV (xO x3))) xV) (xO x3)) (s1 (sRV (λh=>absurd (d _ h) (by decide))) s0))) s0) (s1 (sIx xV (jg ⟨pZ⟩ (xO (jg ⟨iB⟩ (xO (jg ⟨oE⟩ (xO (xIx xV (xO x3))) (xO x3))) (xO x3))) (xO x3)) (xO x3)) (s1 (sS b (jg ⟨pZ⟩ (xO (jg ⟨iB⟩ (xO (jg ⟨iB⟩ (xO (jg ⟨oE⟩ (xO (xIx xV (xO x3))) (xO (xIx xV (xO x3))))) (xO (jg ⟨oE⟩ (xO x3) (xO (xIx xV (xO x3))))))) (xO x3))) (xO x3))) (s1 (sS b (jg ⟨pZ⟩ (xO (jg ⟨iB⟩ (xO (jg ⟨oE⟩ xV xV)) (xO (jg ⟨oE⟩ (xO x3) xV)))) (xO x3))) (s1 (sR (jg ⟨pZ⟩ (xO (jg ⟨HN⟩ xV (xO x3))) xV)) s0)))))
abbrev ng:Stmt:=top 25
def Ad:FnScope ["_law_state_here","_law_names","_law_far","_law_found","_law_name","_law_kind"] ["_law_state_here","_law_names"] (gE ng):=scM
abbrev vq(Z:ZZ)(k:Nat):Prop:=Oz Z k "_law_clause" ["_law_state_here","_law_names"] mD
def Ay:BdA "_law_clause" ng ["_law_state_here","_law_names"]:=λ_ _ _ _ _ _=>us1 λ_=>us1 λ_=>us0 rfl
def Ak(a:Fz Z.K Z.mg "_law_clause" ng)(T:Tx Z.mg)(b:md Z k):vq Z (k+1):=by
 have S:=Ad;refine ozB (asg:=[2,3,4,5]) (fs:=tU) a S Ay λf h A e s H E L i c g l j m d=>?_;exact(s1 (sS d (xIx (xO (oN (xL x3 (xL x3 (xL x3 xL0))))) (xO (xU b c (xA xV (xA (xO x3) xA0)))))) (s1 (sS d (oN xL0)) (s1 (sF (iR2 T (xA (xO x3) (xA (xO (jg ⟨iB⟩ xV (xO x3))) xA0))) (gN d) (s1 (sS d (xU b c (xA xV (xA xV xA0)))) (s1 (sI (tCmp ⟨(oD (.inl rfl) g)⟩ xV (xO x3)) (s1 (sE (Ga xV (xIx (xO (oN (xL xW (xL (uw xV) xL0)))) xV))) s0) s0) s0))) (s1 (sI (tCmp ⟨(mN g)⟩ xV (xO (oN xL0))) (s1 (sE (Ga xV (jg ⟨oE⟩ (xO (xIx (xO (oN (xL x3 (xL (uw (xO x3)) xL0)))) (xO (xU b c (xA xV (xA (xO x3) xA0)))))) (xO (jg ⟨iB⟩ (xO x3) (xO (xU b c (xA xV (xA xV xA0))))))))) s0) s0) (s1 (sR (xT T rfl ⟨kG⟩ (xA xV xA0))) s0)))))
abbrev mv:Stmt:=top 26
def yL:FnScope ["_law_state_here","_law_names","_law_rest","_law_found","_law_turn"] ["_law_state_here","_law_names"] (gE mv):=scM
abbrev oQ(Z:ZZ)(k:Nat):Prop:=Oz Z k "_law_turning" ["_law_state_here","_law_names"] jJ
def zL:BdA "_law_turning" mv ["_law_state_here","_law_names"]:=λ_ _ _ _ _ _=>us1 λ_=>us1 λ_=>us0 rfl
def yY(a:Fz Z.K Z.mg "_law_turning" mv)(T:Tx Z.mg)(d:md Z k):oQ Z (k+1):=by
 have S:=yL;refine ozB (asg:=[2,3,4]) (fs:=rF) a S zL λf g A c s H E L h e i l j m b=>?_;exact(s1 (sS b (NL T rfl (xA (xO x3) (xA (xO (jg ⟨iB⟩ xV (xO x3))) xA0)))) (s1 (sS b (oN xL0)) (s1 (sF (iR1 T (xA xV xA0)) (gN b) (s1 (sE (Ga xV (jg ⟨oE⟩ (xO (VP xV (xO (xU d e (xA xV (xA (xO (xB T rfl ⟨jH⟩ (xA xV xA0))) xA0)))))) (xO (xIx (xO (oN (xL x3 (xL (uw (xO x3)) xL0)))) (xO (xU d e (xA xV (xA (xO x3) xA0))))))))) s0)) (s1 (sR (xT T rfl ⟨kG⟩ (xA xV xA0))) s0))))
abbrev lP:Stmt:=top 27
def xJ:FnScope ["_law_turning_here","_law_sign"] ["_law_turning_here","_law_sign"] (gE lP):=scM
abbrev rn(Z:ZZ)(k:Nat):Prop:=Oz Z k "_law_led_sign" ["_law_turning_here","_law_sign"] kc
def xS:BdA "_law_led_sign" lP ["_law_turning_here","_law_sign"]:=λ_ _ _ _ _ _=>us1 λ_=>us1 λ_=>us0 rfl
def xK(a:Fz Z.K Z.mg "_law_led_sign" lP)(T:Tx Z.mg):rn Z (k+1):=by
 have S:=xJ;refine ozB (asg:=[]) (fs:=mO) a S xS λf d A b s H E L e g c i h j l=>?_;exact(s1 (sR (jg ⟨oE⟩ (xO (xIx xV (xO (jg ⟨si⟩ (xO (xB T rfl ⟨mr⟩ (xA xV xA0))) (xO x3))))) (xO (xIx (xO (oN (xL (uw (xO x3)) (xL x3 xL0)))) (xO (xT T rfl ⟨JQ⟩ (xA (xO (zV ⟨(oD (.inr (.inr (.inl rfl))) c)⟩ xV (xO x3))) xA0))))))) s0)
abbrev kJ:Stmt:=top 28
def uY:FnScope ["_law_turning_here","_law_clause_here","_law_found","_law_sign","_law_there"] ["_law_turning_here","_law_clause_here"] (gE kJ):=scM
abbrev mf(Z:ZZ)(k:Nat):Prop:=Oz Z k "_law_led_clause" ["_law_turning_here","_law_clause_here"] ig
def vO:BdA "_law_led_clause" kJ ["_law_turning_here","_law_clause_here"]:=λ_ _ _ _ _ _=>us1 λ_=>us1 λ_=>us0 rfl
def vh(a:Fz Z.K Z.mg "_law_led_clause" kJ)(T:Tx Z.mg)(b:rn Z k):mf Z (k+1):=by
 have S:=uY;refine ozB (asg:=[2,3,4]) (fs:=oK) a S vO λf i A d s H E L j g l e h m c=>?_;exact(s1 (sS c x7) (s1 (sF (iS xW) (gN c) (s1 (sS c (xU b g (xA xV (xA xV xA0)))) (s1 (sDP e xV xW (xO (xB T rfl ⟨mr⟩ (xA xV xA0)))) s0))) (s1 (sR (xT T rfl ⟨kG⟩ (xA (xO (by exact xC (N':=["_law_found","_law_name"]) (cOk S) (by decide+kernel) (iS (xB T rfl ⟨(qq rfl h)⟩ (xA xV xA0))) λ_ _ _ _ _ _ c=>⟨(gN c),f0,λ_=>bE (VQ e xV xV)⟩)) xA0))) s0)))
abbrev nc:Stmt:=top 30
def Ac:FnScope ["_law_clauses","_law_turnings","_law_found","_law_at","_law_turning_here","_law_there"] ["_law_clauses","_law_turnings"] (gE nc):=scM
abbrev vp(Z:ZZ)(k:Nat):Prop:=Oz Z k "_law_closed" ["_law_clauses","_law_turnings"] mC
def Ax:BdA "_law_closed" nc ["_law_clauses","_law_turnings"]:=λ_ _ _ _ _ _=>us1 λ_=>us1 λ_=>us0 rfl
def Aj(a:Fz Z.K Z.mg "_law_closed" nc)(T:Tx Z.mg)(e:mf Z k):vp Z (k+1):=by
 have S:=Ac;refine ozB (asg:=[2,3,4,5]) (fs:=tR) a S Ax λf j A c s H E L g i d m l n b=>?_;exact(s1 (sS b (xT T rfl ⟨zH⟩ (xA xV xA0))) (s1 (sS b x3) (s1 (sW (tCmp ⟨(oD (.inl rfl) d)⟩ xV (xO (xB T rfl ⟨jH⟩ (xA xV xA0)))) (s1 (sF (iS xW) (gN b) (s1 (sS b (xU e i (xA xV (xA (xO (xIx xV xV)) xA0)))) (s1 (sI (tCmp ⟨(pA d)⟩ xV xV) (s1 (sE (Ga xV xW)) s0) s0) s0))) (s1 (sS b (jg ⟨iB⟩ xV (xO x3))) s0))) (s1 (sRV (λh=>absurd (g _ h) (by decide))) s0))))
abbrev mZ:Stmt:=top 31
def Ab:FnScope ["_law_state_here","_law_least","_law_most","_law_names","_law_kind","_law_many","_law_clauses","_law_turnings"] ["_law_state_here","_law_least","_law_most"] (gE mZ):=scM
abbrev vo(Z:ZZ)(k:Nat):Prop:=Oz Z k "_law_riddle" ["_law_state_here","_law_least","_law_most"] mB
def Aw:BdA "_law_riddle" mZ ["_law_state_here","_law_least","_law_most"]:=λ_ _ _ _ _ _=>us1 λ_=>us1 λ_=>us1 λ_=>us0 rfl
def Ai(a:Fz Z.K Z.mg "_law_riddle" mZ)(T:Tx Z.mg)(g:md Z k)(b:vq Z k)(m:oQ Z k)(c:vp Z k):vo Z (k+1):=by
 have S:=Ab;refine ozB (asg:=[3,4,5,6,7]) (fs:=tQ) a S Aw λf n A i s H E L o e h p j l d=>?_;exact(s1 (sS d (jg ⟨iB⟩ xV (xO (xU g e (xA xV (xA (xO (jg ⟨iB⟩ (xO (jg ⟨si⟩ xV xV)) (xO x3))) xA0)))))) (s1 (sS d (xU g e (xA xV (xA (xO x3) xA0)))) (s1 (sI (tCmp ⟨(mN h)⟩ xV (xO x3)) (s1 (sR (oM (xL x3 (xL (oM xL0) xL0)))) s0) s0) (s1 (sS d (xU g e (xA xV (xA (xO (xIx (xO (oN (xL x3 (xL x3 (xL x3 xL0))))) (xO (xU g e (xA xV (xA (xO x3) xA0)))))) xA0)))) (s1 (sC (N':=["_law_state_here","_law_names","_law_turn"]) d (cOk S) (by decide+kernel) (iR1 T (xA xV xA0)) λ_ _ _ _ _ _ d=>⟨(gN d),f0,λ_=>bE (xU b e (xA xV (xA xV xA0)))⟩) (s1 (sI (tCmp ⟨(oD (.inr (.inr (.inl rfl))) h)⟩ xV (xO x3)) (s1 (sC (N':=["_law_state_here","_law_names","_law_turn"]) d (cOk S) (by decide+kernel) (iR1 T (xA (xO (jg ⟨iB⟩ (xO x3) (xO (jg ⟨pZ⟩ xV (xO x3))))) xA0)) λ_ _ _ _ _ _ d=>⟨(gN d),f0,λ_=>bE (xU m e (xA xV (xA xV xA0)))⟩) (s1 (sI (tCmp ⟨(mN h)⟩ xV (xO x3)) (s1 (sC (N':=["_law_turning_here"]) d (cOk S) (by decide+kernel) (iS xW) λ_ _ _ _ _ _ d=>⟨(gN d),f0,λ_=>bE (xT T rfl ⟨kG⟩ (xA (xO (by exact xC (N':=["_law_sign"]) (Ha rfl rfl (by with_unfolding_all rfl)) (by decide+kernel) (iS xW) λ_ _ _ _ _ _ d=>⟨(gN d),f0,λ_=>bE (xB T rfl ⟨mr⟩ (xA xV xA0))⟩)) xA0))⟩) s0) s0) (s1 (sS d (xU c e (xA (xO (IM (xO (xB T rfl ⟨(qq rfl j)⟩ (xA (xO (xT T rfl ⟨(Bl rfl l)⟩ (xA xV xA0))) xA0))) (xO x3))) (xA xV xA0)))) s0))) s0) (s1 (sS d (xB T rfl ⟨(qq rfl j)⟩ (xA (xO (xT T rfl ⟨(Bl rfl l)⟩ (xA xV xA0))) xA0))) (s1 (sI (tCmp ⟨(oD (.inr (.inr (.inl rfl))) h)⟩ (xO (xB T rfl ⟨jH⟩ (xA xV xA0))) (xO x3)) (s1 (sS d (IM xV (xO (xU g e (xA xV (xA (xO x3) xA0)))))) s0) s0) (s1 (sR (oM (xL xW (xL (xT T rfl ⟨kG⟩ (xA xV xA0)) xL0)))) s0)))))))))
abbrev jZ:Stmt:=top 32
def sN:FnScope ["_law_names","_law_found","_law_place","_law_longer","_law_begun","_law_sign"] ["_law_names"] (gE jZ):=scM
abbrev nR(Z:ZZ)(k:Nat):Prop:=Oz Z k "_law_all_turnings" ["_law_names"] lh
def sV:BdA "_law_all_turnings" jZ ["_law_names"]:=λ_ _ _ _ _ _=>us1 λ_=>us0 rfl
def sQ(a:Fz Z.K Z.mg "_law_all_turnings" jZ)(T:Tx Z.mg):nR Z (k+1):=by
 have S:=sN;refine ozB (asg:=[1,2,3,4,5]) (fs:=mV) a S sV λf g A c s H E L e i d l j m b=>?_;exact(s1 (sS b (oN (xL (oM xL0) xL0))) (s1 (sF (iR1 T (xA xV xA0)) (gN b) (s1 (sS b (oN xL0)) (s1 (sF (iS xW) (gN b) (s1 (sF (iS (jg ⟨iB⟩ (xO (NL T rfl (xA (xO (uw xV)) (xA (xO x3) xA0)))) (xO (NL T rfl (xA (xO x3) (xA (xO (jg ⟨iB⟩ xV (xO x3))) xA0)))))) (gN b) (s1 (sI (tW (T4 (tCmp ⟨(pA d)⟩ xV xV) (P8 (tCmp ⟨(pA d)⟩ (xO (uw xV)) xV)))) (s1 (sE (Ga xV (jg ⟨iB⟩ xV (xO (oM (xL xW xL0)))))) s0) s0) s0)) s0)) (s1 (sS b xW) s0)))) (s1 (sRV (λh=>absurd (e _ h) (by decide))) s0)))
abbrev oz:Stmt:=top 33
def CD:FnScope ["_law_turning_here","_law_clauses","_law_there","_law_clause_here"] ["_law_turning_here","_law_clauses","_law_there"] (gE oz):=scM
abbrev rp(Z:ZZ)(k:Nat):Prop:=Oz Z k "_law_leads" ["_law_turning_here","_law_clauses","_law_there"] kR
def Dp:BdA "_law_leads" oz ["_law_turning_here","_law_clauses","_law_there"]:=λ_ _ _ _ _ _=>us1 λ_=>us1 λ_=>us1 λ_=>us0 rfl
def CS(a:Fz Z.K Z.mg "_law_leads" oz)(T:Tx Z.mg)(c:mf Z k):rp Z (k+1):=by
 have S:=CD;refine ozB (asg:=[3]) (fs:=nr) a S Dp λf h A b s H E L i d j l e m g=>?_;exact(s1 (sF (iS xW) (gN g) (s1 (sI (tCmp ⟨(GF e)⟩ (xO (xU c d (xA xV (xA xV xA0)))) xV) (s1 (sR x2) s0) s0) s0)) (s1 (sR x2) s0))
abbrev kI:Stmt:=top 34
def uX:FnScope ["_law_riddle_here","_law_there"] ["_law_riddle_here"] (gE kI):=scM
abbrev pB(Z:ZZ)(k:Nat):Prop:=Oz Z k "_law_likenesses" ["_law_riddle_here"] km
def vN:BdA "_law_likenesses" kI ["_law_riddle_here"]:=λ_ _ _ _ _ _=>us1 λ_=>us0 rfl
def vg(a:Fz Z.K Z.mg "_law_likenesses" kI)(T:Tx Z.mg)(i:Z.mg "dict"=none)(b:nR Z k)(h:rp Z k):pB Z (k+1):=by
 have S:=uX;refine ozB (asg:=[1]) (fs:=oJ) a S vN λf j A d s H E L l e m n g o c=>?_;exact(s1 (sS c (TV g i (xA (xO (by exact xC (N':=["_law_clause_here"]) (cOk S) (by decide+kernel) (iS (xIx xV (xO x3))) λ_ _ _ _ _ _ c=>⟨(gN c),f0,λ_=>bE (oM (xL xW (xL x2 xL0)))⟩)) xA0))) (s1 (sR (by exact xC (N':=["_law_there","_law_riddle_here","_law_turning_here"]) (cOk S) (by decide+kernel) (iS (xU b e (xA (xO (xIx xV (xO x3))) xA0))) λ_ _ _ _ _ _ c=>⟨(gN c),(f1 (yG (xU h e (xA xV (xA (xO (xIx xV (xO x3))) (xA xV xA0)))))),λ_=>bE xW⟩)) s0))
abbrev ox:Stmt:=top 35
def CB:FnScope ["_law_thing","_law_least","_law_most"] ["_law_thing","_law_least","_law_most"] (gE ox):=scM
abbrev xo(Z:ZZ)(k:Nat):Prop:=Oz Z k "_law_whole" ["_law_thing","_law_least","_law_most"] kP
def Dl:BdA "_law_whole" ox ["_law_thing","_law_least","_law_most"]:=λ_ _ _ _ _ _=>us1 λ_=>us1 λ_=>us1 λ_=>us0 rfl
def CP(a:Fz Z.K Z.mg "_law_whole" ox)(T:Tx Z.mg):xo Z (k+1):=by
 have S:=CB;refine ozB (asg:=[]) (fs:=nk) a S Dl λf c A b s H E L d e g i h j l=>?_;exact(s1 (sR (zW (xI T rfl xV) (zW (TU (xI T rfl xV)) (xBo (xCh xV xV xV))))) s0)
abbrev kK:Stmt:=top 36
def uZ:FnScope ["_law_names","_law_thing"] ["_law_names","_law_thing"] (gE kK):=scM
abbrev pD(Z:ZZ)(k:Nat):Prop:=Oz Z k "_law_is_turning" ["_law_names","_law_thing"] iP
def vP:BdA "_law_is_turning" kK ["_law_names","_law_thing"]:=λ_ _ _ _ _ _=>us1 λ_=>us1 λ_=>us0 rfl
def vm(a:Fz Z.K Z.mg "_law_is_turning" kK)(T:Tx Z.mg)(b:xo Z k):pD Z (k+1):=by
 have S:=uZ;refine ozB (asg:=[]) (fs:=ke) a S vP λf i A d s H E L j g e l h m c=>?_;exact(s1 (sI (tW (wOr (tNot (yG (xI T rfl xV))) (NN (tCmp ⟨(wM e)⟩ (xO (xB T rfl ⟨jH⟩ (xA xV xA0))) xV)))) (s1 (sR x2) s0) s0) (s1 (sI (tNot (yG (xB T rfl ⟨(sJ rfl)⟩ (xA (xO (by exact xC (N':=["_law_names","_law_sign"]) (cOk S) (by decide+kernel) (iS xW) λ_ _ _ _ _ _ c=>⟨(gN c),f0,λ_=>bE (xU b g (xA xV (xA (xO (uw xV)) (xA xV xA0))))⟩)) xA0)))) (s1 (sR x2) s0) s0) (s1 (sR (zV ⟨(mN e)⟩ (xO (xB T rfl ⟨(qp h)⟩ (xA (xO (by exact xC (N':=["_law_sign"]) (cOk S) (by decide+kernel) (iS xW) λ_ _ _ _ _ _ c=>⟨(gN c),f0,λ_=>bE (xB T rfl ⟨mr⟩ (xA xV xA0))⟩)) xA0))) (xO (NL T rfl (xA (xO x3) (xA (xO (jg ⟨iB⟩ xV (xO x3))) xA0)))))) s0)))
abbrev nP:Stmt:=top 37
def DU:FnScope ["_law_found","_law_due"] ["_law_found","_law_due"] (gE nP):=scM
abbrev GJ(Z:ZZ)(k:Nat):Prop:=Oz Z k "_law_same" ["_law_found","_law_due"] (iU RD)
def xE:BdA "_law_same" nP ["_law_found","_law_due"]:=λ_ _ _ _ _ _=>us1 λ_=>us1 λ_=>us0 rfl
def CO{c:EvF}(a:Fz Z.K Z.mg "_law_same" nP)(T:Tx Z.mg)(h:Oz Z k "_law_same" ["_law_found","_law_due"] c):Oz Z (k+1) "_law_same" ["_law_found","_law_due"] (evF 2 2 [] (jy c)):=by
 have S:=DU;refine ozB (asg:=[]) (fs:=jy c) a S xE λf i A e s H E L j g b m l n d=>?_;exact(s1 (sI (yG (xI2 T rfl rfl xV)) (s1 (sI (tW (wOr (tCmp ⟨(wM b)⟩ (xO (xI T rfl xV)) (xO (xI T rfl xV))) (NN (tCmp ⟨(wM b)⟩ (xO (xI T rfl xV)) (xO (xI T rfl xV)))))) (s1 (sR x2) s0) s0) (s1 (sR (zW (zV ⟨(mN b)⟩ (xO (xB T rfl ⟨jH⟩ (xA xV xA0))) (xO (xB T rfl ⟨jH⟩ (xA xV xA0)))) (xBo (xB T rfl ⟨(sJ rfl)⟩ (xA (xO (by exact xC (N':=["_law_one","_law_other"]) (cOk S) (by decide+kernel) (iZV T xV xV) λ_ _ _ _ _ _ d=>⟨(gT (gN d) (gN d)),f0,λ_=>bE (xU h g (xA xV (xA xV xA0)))⟩)) xA0))))) s0)) s0) (s1 (sR (zW (zV ⟨(mN b)⟩ (xO (xI T rfl xV)) (xO (xI T rfl xV))) (xBo (zV ⟨(mN b)⟩ xV xV)))) s0))
theorem xm(a:Fz Z.K Z.mg "_law_same" nP)(T:Tx Z.mg): ∀m,Oz Z m "_law_same" ["_law_found","_law_due"] (iU m)
 |0=>oz0 a xE
 |m+1=>CO a T (xm a T m)
abbrev pW:Stmt:=top 38
def DV:FnScope ["_law_state_here","_law_turning_here","_law_names","_law_at","_law_odd","_law_some"] ["_law_state_here","_law_turning_here","_law_names"] (gE pW):=scM
abbrev zd(Z:ZZ)(k:Nat):Prop:=Oz Z k "_law_bent" ["_law_state_here","_law_turning_here","_law_names"] jc
def EZ:BdA "_law_bent" pW ["_law_state_here","_law_turning_here","_law_names"]:=λ_ _ _ _ _ _=>us1 λ_=>us1 λ_=>us1 λ_=>us0 rfl
def Eb(a:Fz Z.K Z.mg "_law_bent" pW)(T:Tx Z.mg)(c:md Z k):zd Z (k+1):=by
 have S:=DV;refine ozB (asg:=[3,4,5]) (fs:=qF) a S EZ λf g A e s H E L h d i l j m b=>?_;exact(s1 (sS b (xU c d (xA xV (xA (xO (jg ⟨iB⟩ (xO (xB T rfl ⟨jH⟩ (xA xV xA0))) (xO x3))) xA0)))) (s1 (sS b (xIx (xO (oN (xL x3 (xL (jg ⟨iB⟩ xV (xO x3)) (xL x2 (xL x1 (xL x4 (xL (oM (xL x3 xL0)) (xL (jg ⟨CN⟩ (xO x3) (xO x3)) (xL x3 (xL (uw (xO x3)) (xL xW (xL (uw xV) xL0))))))))))))) (xO (xU c d (xA xV (xA (xO x3) xA0)))))) (s1 (sS b (oN (xL (jg ⟨iB⟩ (xO (jg ⟨iB⟩ (xO (IM xV xV)) (xO (oM (xL xW xL0))))) (xO (QE xV (xO (jg ⟨iB⟩ xV (xO x3)))))) (xL (jg ⟨iB⟩ (xO (IM xV xV)) (xO (QE xV (xO (jg ⟨iB⟩ xV (xO x3)))))) xL0)))) (s1 (sS b (jg ⟨iB⟩ xV (xO (oN (xL (jg ⟨iB⟩ (xO (jg ⟨iB⟩ (xO (IM xV xV)) (xO (oM (xL xW xL0))))) (xO (QE xV xV))) (xL (xT T rfl ⟨zH⟩ (xA xV xA0)) (xL (VO xV (xO (uw (xO x3)))) (xL x1 (xL x7 (xL xW (xL (oM (xL xW xL0)) xL0))))))))))) (s1 (sE (Ga xV (jg ⟨iB⟩ xV (xO (IM xV (xO x3)))))) (s1 (sR (xIx xV (xO (xIx (xO (oN (xL x3 (xL x3 (xL x3 (xL x3 (xL x3 (xL x3 (xL x3 (xL x3 (xL x3 (xL x3 (xL x3 (xL x3 xL0)))))))))))))) (xO (xU c d (xA xV (xA (xO x3) xA0)))))))) s0))))))
abbrev HE:Stmt:=top 39
def Rb:FnScope ["_law_script","_law_k","_law_state_here","_law_riddle_here","_law_due","_law_turn","_law_found","_law_one","_law_other","_law_thing","_law_there","_law_right"] ["_law_script"] (gE HE):=scM
def Tu:BdA "law" HE ["_law_script"]:=λ_ _ _ _ _ _=>us1 λ_=>us0 rfl
def Sw{f:gm}{m:lW}(F:Fun Z.K "law" "law" HE f m)(T:Tx Z.mg)(u:Z.mg "dict"=none)(h:xp Z k)(g:vo Z k)(d:pB Z k)(b:vn Z k)(t:GJ Z k)(o:md Z k)(p:oQ Z k)(e:zd Z k)(a:tJ Z k)(c:pD Z k)(r:rp Z k):FnOk Z.P Z.w Z.K Z.mg Z.base CX0 (k+1) f m ["_law_script"] (spF Z.K tX):=by
 have S:=Rb;refine fnB (asg:=[1,2,3,4,5,6,7,8,9,10,11]) (fs:=zp) F S λf v A l s H E L x i n y q z j=>?_;exact(s1 (sF (iR1 T (xA (xO (xB T rfl ⟨(Hc rfl)⟩ (xA (xO x3) (xA (xO (xB T rfl ⟨(zG rfl)⟩ (xA (xO (xB T rfl ⟨jH⟩ (xA xV xA0))) (xA (xO x3) xA0)))) xA0)))) xA0)) (gN j) (s1 (sS j (xU h i (xA xV (xA xV xA0)))) (s1 (sS j (xU g i (xA xV (xA (xO x3) (xA (xO (jg ⟨si⟩ (xO x3) (xO (xB T rfl ⟨(zG rfl)⟩ (xA xV (xA (xO x3) xA0)))))) xA0))))) (s1 (sS j (xU d i (xA xV xA0))) (s1 (sF (iR1 T (xA (xO x3) xA0)) (gN j) (s1 (sS j (xU b i (xA xV xA0))) (s1 (sI (tNot (yG (xU t i (xA xV (xA xV xA0))))) (s1 (sR x2) s0) s0) (s1 (sE (Ga xV (oM xL0))) s0)))) (s1 (sS j (xIx xV (xO (xU o i (xA xV (xA (xO (xB T rfl ⟨jH⟩ (xA xV xA0))) xA0)))))) (s1 (sS j (xU p i (xA xV (xA (xO (xIx xV (xO x3))) xA0)))) (s1 (sF (iS (oN (xL xW (xL xW (xL (xU e i (xA xV (xA xV (xA (xO (xIx xV (xO x3))) xA0)))) (xL (xU e i (xA xV (xA xV (xA (xO (xIx xV (xO x3))) xA0)))) xL0)))))) (gN j) (s1 (sS j (xU a i (xA xV (xA xV xA0)))) (s1 (sS j (TV q u (xA (xO (by exact xC (N':=["_law_clause_here"]) (cOk S) (by decide+kernel) (iS (xIx xV (xO x3))) λ_ _ _ _ _ _ j=>⟨(gN j),f0,λ_=>bE (oM (xL xW (xL x2 xL0)))⟩)) xA0))) (s1 (sS j (zW (xU c i (xA (xO (xIx xV (xO x3))) (xA xV xA0))) (xBo (xU r i (xA xV (xA (xO (xIx xV (xO x3))) (xA xV xA0))))))) (s1 (sI (tW (wOr (tNot (yG (xI T rfl xV))) (NN (tCmp ⟨(wM n)⟩ xV xV)))) (s1 (sR x2) s0) s0) s0))))) s0)))))))) (s1 (sR (zW (zV ⟨(mN n)⟩ (xO (xU b i (xA (xO (oM (xL x3 (xL (oM xL0) xL0)))) xA0))) (xO (oN (xL (oM xL0) xL0)))) (xBo (zV ⟨Sf⟩ (xO (xU a i (xA (xO (oM (xL x3 (xL (oM xL0) xL0)))) (xA (xO (oM xL0)) xA0)))) (xO x2))))) s0))
end
def all_mk{l:PySem.W.OpenLaw}{w:gJ}{K:gK}{a:lL}{fa:gm}(fJ:a "law"=some (.ref fa))(T:Tx a)
  (a0:Fz K a "is_whole" pX)
  (a1:Fz K a "is_number" oA)
  (a2:Fz K a "is_name" se)
  (a3:Fz K a "is_sign" sd)
  (a4:Fz K a "is_turning" nh)
  (a5:Fz K a "check_turning" lH)
  (a6:Fz K a "led_sign" pU)
  (a7:Fz K a "led_clause" mY)
  (a8:Fz K a "led" HD)
  (a9:Fz K a "is_likeness" mx)
  (C:Fz K a "all_signs" oB)
  (E:Fz K a "longer_by_one" lF)
  (G:Fz K a "leading_among" lG)
  (H:Fz K a "all_leading" my)
  (I:Fz K a "likenesses" mX)
  (J:Fz K a "_law_cell_at" mw)
  (L:Fz K a "_law_state" oy)
  (M:Fz K a "_law_take" pV)
  (N:Fz K a "_law_clause" ng)
  (O:Fz K a "_law_turning" mv)
  (Q:Fz K a "_law_led_sign" lP)
  (U:Fz K a "_law_led_clause" kJ)
  (Y:Fz K a "_law_closed" nc)
  (a23:Fz K a "_law_riddle" mZ)
  (a24:Fz K a "_law_all_turnings" jZ)
  (a25:Fz K a "_law_leads" oz)
  (a26:Fz K a "_law_likenesses" kI)
  (a27:Fz K a "_law_whole" ox)
  (a28:Fz K a "_law_is_turning" kK)
  (a29:Fz K a "_law_same" nP)
  (a30:Fz K a "_law_bent" pW)
  (a31:Fz K a "law" HE)
  (l7:a "dict"=none)
  : ∃f:FuncData,(∀(s:gn) (v:gA),BindsTo s f ⟨[v],[]⟩ [("_law_script",v)])/\ ∀base:Heap,K.In base->base.Ns mainGlobals a->FnOk l.prog w K a base CX0 9 fa f ["_law_script"] (spF K tX):=by
 obtain⟨f,F,hb⟩:=fzL a31 fJ Tu;refine⟨f,hb,λbase KB _=>?_⟩;have D:=Ed (Z:=⟨l.prog,w,K,a,base⟩) (k:=0) a0 T;have S:=CT (Z:=⟨l.prog,w,K,a,base⟩) (k:=1) a1 T D.up;have V:=GI (Z:=⟨l.prog,w,K,a,base⟩) (k:=2) a2 T S.up;have X:=GH (Z:=⟨l.prog,w,K,a,base⟩) (k:=3) a3 T D.up V.up;have P:=Al (Z:=⟨l.prog,w,K,a,base⟩) (k:=4) a4 T X.up;have O5:=wQ (Z:=⟨l.prog,w,K,a,base⟩) (k:=5) a5 T P.up;have O6:=D9 (Z:=⟨l.prog,w,K,a,base⟩) (k:=0) a6 T;have R:=Ah (Z:=⟨l.prog,w,K,a,base⟩) (k:=1) a7 T O6.up;have O8:=Sv (Z:=⟨l.prog,w,K,a,base⟩) (k:=6) a8 T O5.up R.up;have O9:=za (Z:=⟨l.prog,w,K,a,base⟩) (k:=7) a9 T P.up O8.up;have g:=CU (Z:=⟨l.prog,w,K,a,base⟩) (k:=0) C T;have h:=wN (Z:=⟨l.prog,w,K,a,base⟩) (k:=1) E T g.up;have i:=wO (Z:=⟨l.prog,w,K,a,base⟩) (k:=2) G T h.up R.up;have j:=zb (Z:=⟨l.prog,w,K,a,base⟩) (k:=3) H T i.up;have m:=Ag (Z:=⟨l.prog,w,K,a,base⟩) (k:=4) I T j.up;have n:=yZ (Z:=⟨l.prog,w,K,a,base⟩) (k:=0) J T;have o:=CQ (Z:=⟨l.prog,w,K,a,base⟩) (k:=1) L T n.up;have e:=Ea (Z:=⟨l.prog,w,K,a,base⟩) (k:=0) M T;have p:=Ak (Z:=⟨l.prog,w,K,a,base⟩) (k:=1) N T e.up;have b:=yY (Z:=⟨l.prog,w,K,a,base⟩) (k:=1) O T e.up;have q:=xK (Z:=⟨l.prog,w,K,a,base⟩) (k:=0) Q T;have c:=vh (Z:=⟨l.prog,w,K,a,base⟩) (k:=1) U T q.up;have r:=Aj (Z:=⟨l.prog,w,K,a,base⟩) (k:=2) Y T c.up;have t:=Ai (Z:=⟨l.prog,w,K,a,base⟩) (k:=3) a23 T e.up p.up b.up r.up;have u:=sQ (Z:=⟨l.prog,w,K,a,base⟩) (k:=0) a24 T;have d:=CS (Z:=⟨l.prog,w,K,a,base⟩) (k:=2) a25 T c.up;have x:=vg (Z:=⟨l.prog,w,K,a,base⟩) (k:=3) a26 T l7 u.up d.up;have y:=CP (Z:=⟨l.prog,w,K,a,base⟩) (k:=0) a27 T;have z:=vm (Z:=⟨l.prog,w,K,a,base⟩) (k:=1) a28 T y.up;have A:=xm (Z:=⟨l.prog,w,K,a,base⟩) a29 T RD;have B:=Eb (Z:=⟨l.prog,w,K,a,base⟩) (k:=1) a30 T e.up;exact Sw (Z:=⟨l.prog,w,K,a,base⟩) (k:=8) F T l7 o.up t.up x.up m.up A.up e.up b.up B.up O9.up z.up d.up
end K31
namespace PV
open PySem PySem.Spec PyProof.Rows L2 PX
@[simp] theorem Xg(d:D)(a:Dn):fC d a=some ((d,false),a):=rfl
@[simp] theorem Wl(f:F)(a:Dn):gi f a=(f a).bind λp=>some (.val p.1,p.2):=rfl
@[simp] theorem VG(x:D×Bool)(a:Dn):gh 0 (some x::a)=some (.slot 0,some x::a):=rfl
@[simp] theorem VF(a:Sl)(x:D×Bool)(b:Dn):gh 1 (a::some x::b)=some (.slot 1,a::some x::b):=rfl
@[simp] theorem VE(a b:Sl)(x:D×Bool)(c:Dn):gh 2 (a::b::some x::c)=some (.slot 2,a::b::some x::c):=rfl
@[simp] theorem VD(a b c:Sl)(x:D×Bool)(d:Dn):gh 3 (a::b::c::some x::d)=some (.slot 3,a::b::c::some x::d):=rfl
@[simp] theorem VC(a b c d:Sl)(x:D×Bool)(e:Dn):gh 4 (a::b::c::d::some x::e)=some (.slot 4,a::b::c::d::some x::e):=rfl
@[simp] theorem VB(a b c d e:Sl)(x:D×Bool)(f:Dn):gh 5 (a::b::c::d::e::some x::f)=some (.slot 5,a::b::c::d::e::some x::f):=rfl
@[simp] theorem VA(a b c d e f:Sl)(x:D×Bool)(g:Dn):gh 6 (a::b::c::d::e::f::some x::g)=some (.slot 6,a::b::c::d::e::f::some x::g):=rfl
@[simp] theorem Vz(a b c d e f g:Sl)(x:D×Bool)(h:Dn):gh 7 (a::b::c::d::e::f::g::some x::h)=some (.slot 7,a::b::c::d::e::f::g::some x::h):=rfl
@[simp] theorem Vy(a b c d e f g h:Sl)(x:D×Bool)(i:Dn):gh 8 (a::b::c::d::e::f::g::h::some x::i)=some (.slot 8,a::b::c::d::e::f::g::h::some x::i):=rfl
@[simp] theorem Gv(δ:Dn)(r:D×Bool):res δ (.val r)=some r.1:=rfl
@[simp] theorem Wk(x:D×Bool)(a:Dn):res (some x::a) (.slot 0)=some x.1:=rfl
@[simp] theorem Wj(a:Sl)(x:D×Bool)(b:Dn):res (a::some x::b) (.slot 1)=some x.1:=rfl
@[simp] theorem Wi(a b:Sl)(x:D×Bool)(c:Dn):res (a::b::some x::c) (.slot 2)=some x.1:=rfl
@[simp] theorem Wh(a b c:Sl)(x:D×Bool)(d:Dn):res (a::b::c::some x::d) (.slot 3)=some x.1:=rfl
@[simp] theorem Wg(a b c d:Sl)(x:D×Bool)(e:Dn):res (a::b::c::d::some x::e) (.slot 4)=some x.1:=rfl
@[simp] theorem Wf(a b c d e:Sl)(x:D×Bool)(f:Dn):res (a::b::c::d::e::some x::f) (.slot 5)=some x.1:=rfl
@[simp] theorem We(a b c d e f:Sl)(x:D×Bool)(g:Dn):res (a::b::c::d::e::f::some x::g) (.slot 6)=some x.1:=rfl
@[simp] theorem Wd(a b c d e f g:Sl)(x:D×Bool)(h:Dn):res (a::b::c::d::e::f::g::some x::h) (.slot 7)=some x.1:=rfl
@[simp] theorem Wc(a b c d e f g h:Sl)(x:D×Bool)(i:Dn):res (a::b::c::d::e::f::g::h::some x::i) (.slot 8)=some x.1:=rfl
@[simp] theorem Wv(g:D->Option (D×Bool))(a:FO)(b:Dn):jk g a b=(a b).bind λp=>(res p.2 p.1).bind λx=>(g x).bind λz=>some (z,p.2):=rfl
@[simp] theorem Wu(g:D->D->Option (D×Bool))(a b:FO)(c:Dn):gr g a b c=(a c).bind λp=>(b p.2).bind λq=>(res q.2 p.1).bind λx=>(res q.2 q.1).bind λy=>(g x y).bind λz=>some (z,q.2):=rfl
@[simp] theorem Uv(a:Dn):jj [] a=some ([],a):=rfl
@[simp] theorem VL(f:FO)(fs:List FO)(a:Dn):jj (f::fs) a=(f a).bind λp=>(jj fs p.2).bind λq=>some (p.1::q.1,q.2):=rfl
@[simp] theorem N6(a:Dn):sO a []=some []:=rfl
@[simp] theorem Rk(a:Dn)(o:Opd)(os:List Opd):sO a (o::os)=(res a o).bind λd=>(sO a os).bind λl=>some (d::l):=rfl
@[simp] theorem VJ(g:List D->Option (D×Bool))(fs:List FO)(a:Dn):gC g fs a=(jj fs a).bind λp=>(sO p.2 p.1).bind λb=>(g b).bind λz=>some (z,p.2):=rfl
@[simp] theorem Vw:oO []=some []:=rfl
@[simp] theorem V3(r:D×Bool)(os:List Opd):oO (.val r::os)=(oO os).map (r.1:: ·):=rfl
@[simp] theorem Ro(fs:List F)(b:Dn):kO fs b=(jj (fs.map gi) b).bind λp=>(oO p.1).bind λa=>if a.length<=sizeLine then some ((.tup a,false),p.2) else none:=rfl
@[simp] theorem Rq(fs:List F)(b:Dn):kD fs b=(jj (fs.map gi) b).bind λp=>(oO p.1).bind λa=>if a.length<=sizeLine then some ((.lst a,true),p.2) else none:=rfl
@[simp] theorem W9(b o:Bool)(a:Dn):asB ((.bl b,o),a)=some (b,a):=rfl
@[simp] theorem Xf(f:F)(a:Dn):fT f a=(f a).bind asB:=rfl
@[simp] theorem VM(f g:FT)(a:Dn):tV f g a=(f a).bind λp=>if p.1=true then g p.2 else some (false,p.2):=rfl
@[simp] theorem Wt(f g:FT)(a:Dn):xR f g a=(f a).bind λp=>if p.1=true then some (true,p.2) else g p.2:=rfl
@[simp] theorem VI(f:FT)(a:Dn):mH f a=(f a).bind λp=>some (!p.1,p.2):=rfl
@[simp] theorem Lw(f g:F)(a:Dn):sU f g a=(f a).bind λp=>(asB p).bind λq=>if q.1=true then g q.2 else some ((.bl false,false),q.2):=rfl
@[simp] theorem W6(f g:F)(a:Dn):fOr f g a=(f a).bind λp=>(asB p).bind λq=>if q.1=true then some ((.bl true,false),q.2) else g q.2:=rfl
@[simp] theorem Ww(f:F)(a:Dn):M9 f a=(f a).bind λp=>(asB p).bind λq=>some ((.bl (!q.1),false),q.2):=rfl
@[simp] theorem W7(t:FT)(f g:F)(a:Dn):fIf t f g a=(t a).bind λp=>if p.1=true then f p.2 else g p.2:=rfl
@[simp] theorem Wa(a:Dn):gH a=some (.nx a):=rfl
def nxt(g:FS):Out->Option Out
 | .nx a=>g a
 |o=>some o
@[simp] theorem Wn(g:FS)(a:Dn):nxt g (.nx a)=g a:=rfl
@[simp] theorem Wm(g:FS)(r:D×Bool)(a:Dn):nxt g (.rt r a)=some (.rt r a):=rfl
@[simp] theorem V8(f g:FS)(a:Dn):gx f g a=(f a).bind (nxt g):=by
 unfold gx
 cases f a with
 |none=>rfl
 |some o=>cases o<;>rfl
@[simp] theorem Vx(f:F)(a:Dn):lQ f a=(f a).bind λp=>some (.nx p.2):=rfl
@[simp] theorem V9(f:F)(a:Dn):jA f a=(f a).bind λp=>some (.rt p.1 p.2):=rfl
@[simp] theorem WY(t:FT)(f g:FS)(a:Dn):sIf t f g a=(t a).bind λp=>if p.1=true then f p.2 else g p.2:=rfl
@[simp] theorem V7(i:Nat)(f:F)(a:Dn):iq i f a=(f a).bind λp=>if i<p.2.length then some (.nx (p.2.set i (some p.1))) else none:=rfl
@[simp] theorem V6(b:Tg)(f:F)(c:Dn):Lj b f c=(f c).bind λp=>(b p.1.1 p.2).bind λa=>some (.nx a):=rfl
@[simp] theorem Xe(g:D->Option (D×Bool))(d:D):g1 g [d]=g d:=rfl
@[simp] theorem Xd(g:D->D->Option (D×Bool))(d e:D):g2 g [d,e]=g d e:=rfl
@[simp] theorem Ux(i j:Int):jt (.int i) (.int j)=some (.int (i+j),false):=rfl
@[simp] theorem WX(i j:Int):PX.gSub (.int i) (.int j)=some (.int (i-j),false):=rfl
@[simp] theorem WZ(i:Int):lz (.int i)=some (.int (-i),false):=rfl
@[simp] theorem Xa(i:Int):oh (.int i)=some (.int (if i<0 then -i else i),false):=rfl
@[simp] theorem Lv(l:List D):mh (.tup l)=some (.int l.length,false):=rfl
@[simp] theorem Rl(l:List D):mh (.lst l)=some (.int l.length,false):=rfl
@[simp] theorem V5(l:List D):lJ (.lst l)=some (.tup l,false):=rfl
@[simp] theorem V4(l:List D):lJ (.tup l)=some (.tup l,false):=rfl
@[simp] theorem Wo(l:List D):ED (.tup l)=some (.lst l,true):=rfl
@[simp] theorem Wq(l:List D):ED (.lst l)=some (.lst l,true):=rfl
@[simp] theorem Ws(b:Bool):Pw (.bl b)=some (.int (if b then 1 else 0),false):=rfl
@[simp] theorem Wr(b:Int):Pw (.int b)=some (.int b,false):=rfl
@[simp] theorem W4(i j:Int):MX (.int i) (.int j)=some (.int (if j>i then j else i),false):=rfl
@[simp] theorem W3(i j:Int):A7 (.int i) (.int j)=some (.int (if j<i then j else i),false):=rfl
@[simp] theorem W5(a:List Ty)(d:D):og a d=some (.bl (a.any (isT d)),false):=rfl
@[simp] theorem Qd(i j:Int):gEq (.int i) (.int j)=some (.bl (i==j),false):=by unfold gEq;rw[gD (by simp[D.dep])];simp[D.eqb]
@[simp] theorem W0(i j:Int):gNe (.int i) (.int j)=some (.bl (!(i==j)),false):=by unfold gNe;rw[gD (by simp[D.dep])];simp[D.eqb]
@[simp] theorem W8(i j:Bool):gEq (.bl i) (.bl j)=some (.bl (i==j),false):=by unfold gEq;rw[gD (by simp[D.dep])];simp[D.eqb]
@[simp] theorem W2(i j:Bool):gNe (.bl i) (.bl j)=some (.bl (!(i==j)),false):=by unfold gNe;rw[gD (by simp[D.dep])];simp[D.eqb]
@[simp] theorem Uu(i j:Int):nU .Lt (.int i) (.int j)=some (.bl (decide (i<j)),false):=by simp[nU,lV,jG,D.dep]
@[simp] theorem Xb(i j:Int):nU .LtE (.int i) (.int j)=some (.bl (decide (i<=j)),false):=by simp[nU,lV,jG,D.dep]
@[simp] theorem Rm(i j:Int):nU .Gt (.int i) (.int j)=some (.bl (decide (i>j)),false):=by simp[nU,lV,jG,D.dep]
@[simp] theorem Xc(i j:Int):nU .GtE (.int i) (.int j)=some (.bl (decide (i>=j)),false):=by simp[nU,lV,jG,D.dep]
@[simp] theorem N7(f:F)(δ:Dn):ie f δ=(f δ).bind λp=>match p.1.1 with| .lst l=>some (l,p.2)| .tup l=>some (l,p.2)|_=>none:=rfl
@[simp] theorem Wb(b:FIt)(c:Tg)(a:FS)(d:Dn):nQ b c a d=(b d).bind λp=>lA c a p.1 p.2:=rfl
@[simp] theorem va(a:Dn):iM a=some (true,a):=rfl
@[simp] theorem vb(f:F)(a:List D)(b:Dn):ip f a b=(f b).bind λp=>if a.length<sizeLine then some (a++[p.1.1],p.2) else none:=rfl
theorem xZ(h:n<=10000):n<=sizeLine:=by rw[iN];omega
def N0(h:n<=10000):n<sizeLine:=by rw[iN];omega
abbrev enc(t:gB):D×Bool:=(.tup (t.map .int),false)
abbrev stt(a:Int)(b:Bool):Sl:=some (.lst [.int a,.bl b],true)
abbrev lsi(l:gB):Sl:=some (.lst (l.map .int),true)
@[simp] theorem VH(b:EvF)(fs:List FO)(c:Dn):gz b fs c=(jj fs c).bind λp=>(jq p.2 p.1).bind λa=>if(gS p.1 a).Nodup then(b a).bind λq=>some (q.1,wb p.1 a q.2 p.2) else none:=rfl
@[simp] theorem wJ(δ:Dn):jq δ []=some []:=rfl
@[simp] theorem Uw(b:Dn)(o:Opd)(os:List Opd):jq b (o::os)=(xF b o).bind λa=>(jq b os).bind λl=>some (a::l):=rfl
@[simp] theorem Wx(a:Dn)(r:D×Bool):xF a (.val r)=some (r.1,false):=rfl
@[simp] theorem Wy(a:Dn)(i:Nat):xF a (.slot i)=(a[i]?).join:=rfl
def rY(a:Int)(b:Bool)(m:Int)(c:0<m)(d:m<1073741824):
  ∃v e,0<=v/\v<m/\gF [(.lst [.int a,.bl b],true),(.int m,false)]=some ((.int v,false),[some (.lst [.int e,.bl b],true),some (.int m,false)]):=by
 cases b
 ·have h1: ∀x:Int, -18446744073709551616<x%2147483647/\x%2147483647<18446744073709551616:=λx=>by omega
  have f: ∀x:Int, -18446744073709551616<x%2147483629/\x%2147483629<18446744073709551616:=λx=>by omega
  simp only[gF,oI];simp[evF,gIx,atI,ixN,vB,gI,MY,qK,EA,wI,ni,gW,gS,wb,JU,xX,CMul,c,d,h1,f];exact⟨Fo _ (by omega),Fp _ c⟩
 ·simp only[gF,oI];simp[evF,gIx,atI,ixN,vB,gI,MY,qK,EA,wI,ni,gW,gS,wb,JU,xX,CMul,c,d];exact⟨Fo _ (by omega),Fp _ c⟩
theorem vM(x y:Int):(x==y)=decide (x=y):=rfl
def iR{g:List D->Option (D×Bool)}{fs:List FO}{δ a:Dn}{os:List Opd}{ds:List D}{z:D×Bool}(h1:jj fs δ=some (os,a))(b:sO a os=some ds)(c:g ds=some z):gC g fs δ=some (z,a):=by
 unfold gC;rw[h1];simp only[ir];rw[b];simp only[ir];rw[c];rfl
def jL(h1:args.length=np/\np<=n/\(args.zipIdx.all λp=>!(p.1.2&&asg.contains p.2))=true)(a:f (args.map some++List.replicate (n-np) none)=some (.rt r δ)):evF n np asg f args=some (r,gW args δ):=by
 unfold evF;rw[gD h1,a]
def gu(h:f δ=some (.nx δ1)):gx f g δ=g δ1:=by unfold gx;rw[h];rfl
def iG{r}(h:f δ=some (.rt r δ1)):gx f g δ=some (.rt r δ1):=by unfold gx;rw[h];rfl
def kh{r}(h:f δ=some (r,δ1)):jA f δ=some (.rt r δ1):=by unfold jA;rw[h];rfl
def iA{r}(h:f δ=some (r,δ1))(a:i<δ1.length):iq i f δ=some (.nx (δ1.set i (some r))):=by unfold iq;rw[h];simp only[ir];rw[gD a]
def jX(h:f δ=some ((.bl b,o),δ1)):fT f δ=some (b,δ1):=by unfold fT;rw[h];rfl
theorem gG{r}(h:f δ=some (r,δ1)):gi f δ=some (.val r,δ1):=by unfold gi;rw[h];rfl
def iH(h1:a δ=some (o1,δ1))(b:fb δ1=some (o2,δ2))(c:res δ2 o1=some x)(d:res δ2 o2=some y)(e:g x y=some z):gr g a fb δ=some (z,δ2):=by
 unfold gr;rw[h1];simp only[ir];rw[b];simp only[ir];rw[c,d];simp only[ir];rw[e];rfl
theorem iY{b:EvF}{fs:List FO}{δ δ1:Dn}{os:List Opd}{args:List (D×Bool)}{r:D×Bool}{a:Dn}(h1:jj fs δ=some (os,δ1))(c:jq δ1 os=some args)(d:(gS os args).Nodup)(e:b args=some (r,a)):gz b fs δ=some (r,wb os args a δ1):=by
 unfold gz;rw[h1];simp only[ir];rw[c];simp only[ir];rw[gD d,e];rfl
def GZ(h:f δ=some (false,δ1)):xR f g δ=g δ1:=by unfold xR;rw[h];rfl
def vE(h:f δ=some (b,δ1)):mH f δ=some (!b,δ1):=by unfold mH;rw[h];rfl
def mT(h:t δ=some (false,δ1)):sIf t f g δ=g δ1:=by unfold sIf;rw[h];rfl
def qB(h:t δ=some (true,δ1)):sIf t f g δ=f δ1:=by unfold sIf;rw[h];rfl
theorem lg{b fb:FO}{δ δ1 a:Dn}{o1 o2:Opd}(h1:b δ=some (o1,δ1))(c:fb δ1=some (o2,a)):jj [b,fb] δ=some ([o1,o2],a):=by
 simp only[jj];rw[h1];simp only[ir];rw[c];rfl
def qj{a:FO}{δ δ1:Dn}{o1:Opd}(h1:a δ=some (o1,δ1)):jj [a] δ=some ([o1],δ1):=by
 simp only[jj];rw[h1];rfl
def ki(h:a δ=some (ds,δ1)):nQ a tg fb δ=lA tg fb ds δ1:=by unfold nQ;rw[h];rfl
theorem lK{os}(h1:b δ=some (o1,δ1))(c:jj fs δ1=some (os,a)):jj (b::fs) δ=some (o1::os,a):=by
 simp only[jj];rw[h1];simp only[ir];rw[c];rfl
def PL(a:gB)(k:Nat): ∃c,kE [(.lst (a.map .int),false),(.int k,false)]=some ((.int c,false),[some (.lst (a.map .int),false),some (.int k,false)]):=by
 by_cases hk:k<a.length
 ·refine⟨a[k],?_⟩;simp[kE,lS,evF,gIx,atI,ixN,gW,hk]
 ·refine⟨0,?_⟩;simp[kE,lS,evF,gW,hk]
theorem Qg:EA (.int 10) (.int 18)=some (.int 1000000000000000000,false):=by
 have:xX 10 18:=by unfold xX;decide+kernel
 show((if xX 10 18 then some (D.int (10^(18:Int).toNat)) else none).map λz=>(z,false))=_;rw[gD this];rfl
theorem UI:EA (.int 10) (.int 29)=some (.int 100000000000000000000000000000,false):=by
 have:xX 10 29:=by unfold xX;decide+kernel
 show((if xX 10 29 then some (D.int (10^(29:Int).toNat)) else none).map λz=>(z,false))=_;rw[gD this];rfl
def K5(d:gB)(k:Nat): ∃a b,kQ [(.lst (d.map .int),false),(.int k,false)]=some ((.lst [.int a,.bl b],true),[some (.lst (d.map .int),false),some (.int k,false)]):=by
 obtain⟨c,e⟩:=PL d k;by_cases h:c>=1000000000000000000
 ·refine⟨c-1000000000000000000,true,?_⟩;simp[kQ,nq,evF,e,gS,wb,Qg,h,iN,gW]
 ·refine⟨c%2147483647,false,?_⟩;simp[kQ,nq,evF,e,gS,wb,Qg,h,iN,gW,vB,gI]
def st(n:Nat):List Int:=(List.range n).map λ(k:Nat)=>(1+(k:Int))
theorem Gg(n:Nat):(st n).map D.int=gQ 1 n:=by simp[st,gQ]
def lR:Nat->List Int->List Int->List (List Int)
 |0,_,f=>[f]
 |k+1,r,f=>(List.range r.length).flatMap λv=>lR k (r.eraseIdx v) (f++[r.getD v 0*1])++lR k (r.eraseIdx v) (f++[r.getD v 0* -1])
theorem Bc(f:Int->D): ∀(l:gB) (k:Nat),(l.map f).eraseIdx k=(l.eraseIdx k).map f
 |[],k=>by simp
 |x::l,0=>by simp
 |x::l,k+1=>by simp[Bc f l k]
def JH{i:Nat}{f:FO}{a δ1:Dn}{o:Opd}{n l:List D}{k:Int}{j:Nat}{d:D}(b:a[i]?=some (some (.lst n,true)))(h1:f a=some (o,δ1))(c:res δ1 o=some (.int k))(e:δ1[i]?=some (some (.lst l,true)))(g: -(2^63)<=k/\k<2^63)(h:ixN l.length k=some j)(m:l[j]?=some d):
  uG i f a=some ((d,false),δ1.set i (some (.lst (l.eraseIdx j),true))):=by
 unfold uG;rw[b];simp only[];rw[h1];simp only[ir];rw[c,e];simp only[];rw[gD g,h];simp only[ir];rw[m];rfl
def qk{i:Nat}{f:F}{δ δ1:Dn}{r:D×Bool}{l0 l:List D}(a:δ[i]?=some (some (.lst l0,true)))(h1:f δ=some (r,δ1))(b:δ1[i]?=some (some (.lst l,true)))(c:l.length<sizeLine):
  jD i f δ=some ((.non,false),δ1.set i (some (.lst (l++[r.1]),true))):=by
 unfold jD;rw[a];simp only[];rw[h1];simp only[ir];rw[b];simp only[];rw[gD c]
def rk{r}(h:f δ=some (r,δ1)):lQ f δ=some (.nx δ1):=by unfold lQ;rw[h];rfl
abbrev fPop:F:=(uG 2 (gi (gz gF [(gh 0),(gi (gC (g1 mh) [(gh 2)]))])))
abbrev Vl:F:=(gr gIx (gi (kD [(fC (.int 1)),(jk lz (gi (fC (.int 1))))])) (gi (gz gF [(gh 0),(gi (fC (.int 2)))])))
abbrev fbT:FS:=(gx (lQ (jD 3 (gr qK (gi fPop) (gi Vl)))) gH)
def RY(a:Int)(b:Bool)(n:Sl)(r f:gB)(x:Sl)(i:0<r.length)(l:r.length<=5): ∃v c,v<r.length/\fPop [stt a b,n,lsi r,lsi f,x]=some ((.int (r.getD v 0),false),[stt c b,n,lsi (r.eraseIdx v),lsi f,x]):=by
 obtain⟨v,c,d,hv,e⟩:=rY a b r.length (by lia) (by lia);have g:v.toNat<r.length:=by lia
 refine⟨v.toNat,c,g,?_⟩;have h:(lsi (r.eraseIdx v.toNat):Sl)=some (.lst ((r.map D.int).eraseIdx v.toNat),true):=by rw[Bc]
 rw[h];refine JH (k:=v) (δ1:=[stt c b,n,lsi r,lsi f,x]) rfl (gG (r:=(.int v,false)) (iY (δ1:=[stt a b,n,lsi r,lsi f,x]) (os:=[.slot 0,.val (.int r.length,false)]) (args:=[(.lst [.int a,.bl b],true),(.int r.length,false)]) ?_ rfl (show([0]:List Nat).Nodup from by decide) e)) rfl rfl ⟨by lia,by lia⟩ (j:=v.toNat) ?_ ?_
 ·show some ([Opd.slot 0,Opd.val (D.int ((r.map D.int).length:Nat),false)],_)=_;rw[iJ]
 ·unfold ixN;rw[gD d,gD (by simpa using hv)]
 ·simp[g]
def Q8(a:Int)(b:Bool)(n y z x:Sl): ∃s c,(s=1\/s= -1)/\Vl [stt a b,n,y,z,x]=some ((.int s,false),[stt c b,n,y,z,x]):=by
 obtain⟨v,c,f,hv,e⟩:=rY a b 2 (by lia) (by lia);have d: ∀δ:Dn,kD [(fC (.int 1)),(jk lz (gi (fC (.int 1))))] δ=some ((.lst [.int 1,.int (-1)],true),δ):=λδ=>rfl;refine⟨if v=0 then 1 else -1,c,by split<;>simp,?_⟩;refine iH (δ1:=[stt a b,n,y,z,x]) (gG (d _)) (gG (δ1:=[stt c b,n,y,z,x]) (iY (δ1:=[stt a b,n,y,z,x]) (os:=[.slot 0,.val (.int 2,false)]) (args:=[(.lst [.int a,.bl b],true),(.int 2,false)]) rfl rfl (show([0]:List Nat).Nodup from by decide) e)) rfl rfl ?_;rcases(show v=0\/v=1 by lia) with rfl|rfl<;>rfl
def S7(a:Int)(b:Bool)(n:Sl)(r f:gB)(x:Sl)(j:0<r.length)(k:r.length<=5)(m:f.length<=5): ∃v s c,v<r.length/\(s=1\/s= -1)/\fbT [stt a b,n,lsi r,lsi f,x]=some (.nx [stt c b,n,lsi (r.eraseIdx v),lsi (f++[r.getD v 0*s]),x]):=by
 obtain⟨v,a1,hv,e⟩:=RY a b n r f x j k;obtain⟨s,d,q,g⟩:=Q8 a1 b n (lsi (r.eraseIdx v)) (lsi f) x;refine⟨v,s,d,hv,q,?_⟩
 have p:qK (.int (r.getD v 0)) (.int s)=some (.int (r.getD v 0*s),false):=by
  have:CMul (r.getD v 0) s:= .inr (by lia);show((if CMul (r.getD v 0) s then some (D.int (r.getD v 0*s)) else none).map λz=>(z,false))=_;rw[gD this];rfl
 have o:(f.map D.int).length<sizeLine:=by rw[iJ];exact Nat.lt_of_le_of_lt m (by decide)
 have h:=qk (i:=3) (δ:=[stt a b,n,lsi r,lsi f,x]) (l0:=f.map .int) rfl (iH (gG e) (gG g) rfl rfl p) (l:=f.map .int) rfl o;refine(gu (rk h)).trans ?_;simp[gH,lsi]
theorem Qn(b:Bool)(n:Sl): ∀(c:List D) (a:Int) (r f:gB) (x:Sl),c.length=r.length->f.length+r.length<=5->
  ∃g t i j,t∈lR c.length r f/\lA (gq 4) fbT c [stt a b,n,lsi r,lsi f,x]=some (.nx [stt g b,n,lsi i,lsi t,j])
 |[],a,r,f,x,_,_=>⟨a,f,r,x,by simp[lR],rfl⟩
 |d::c,a,r,f,x,h,o=>by
  simp only[ju] at h;obtain⟨v,s,a1,hv,m,e⟩:=S7 a b n r f (some (d,false)) (by lia) (by lia) (by lia);obtain⟨g,t,i,j,k,l⟩:=Qn b n c a1 (r.eraseIdx v) (f++[r.getD v 0*s]) (some (d,false)) (by rw[yh,gD hv];lia) (by rw[yh,gD hv,lM];simp only[ju,oV];lia);refine⟨g,t,i,j,?_,?_⟩
  ·simp only[ju,lR,xG,pK,rQ];refine⟨v,hv,?_⟩;rcases m with rfl|rfl
   ·exact .inl k
   ·exact .inr k
  ·unfold lA;rw[show gq 4 d [stt a b,n,lsi r,lsi f,x]=some [stt a b,n,lsi r,lsi f,some (d,false)] from rfl];simp only[ir];rw[e];simp only[ir];exact l
theorem Gs(n:Nat)(b:n<=5):gRg .lst true [.int 1,.int ((n:Int)+1)]=some (.lst ((st n).map .int),true):=by
 have:n=0\/n=1\/n=2\/n=3\/n=4\/n=5:=by lia
 have h1:RgOk 1 ((n:Int)+1):=by rcases this with rfl|rfl|rfl|rfl|rfl|rfl<;>decide+kernel
 have a:((n:Int)+1-1).toNat=n:=by lia
 show(if RgOk 1 ((n:Int)+1) then some (D.lst (gQ 1 ((n:Int)+1-1).toNat),true) else none)=_;rw[gD h1,a,<-Gg]
def qf{f:FO}{δ δ1:Dn}{o:Opd}{n:Nat}(h1:f δ=some (o,δ1))(a:res δ1 o=some (.int n))(e:n<=63):uD f δ=some (gQ 0 n,δ1):=by
 have d:(-(2^62)<=(n:Int)/\(n:Int)<2^62):=⟨by lia,by lia⟩
 have b:jj [f] δ=some ([o],δ1):=by simp[jj,h1]
 have c:sO δ1 [o]=some [.int n]:=by simp[sO,a]
 unfold uD;rw[b];simp only[ir];rw[c];simp only[];rw[gD d];rfl
def yF(a:Int)(b:Bool)(n:Nat)(f:n<=5): ∃d t,t∈lR n (st n) []/\jJ [(.lst [.int a,.bl b],true),(.int n,false)]=some (enc t,[stt d b,some (.int n,false)]):=by
 have c:(gQ 0 n).length=n:=by simp[gQ]
 have h:(st n).length=n:=by simp[st]
 obtain⟨d,t,j,k,g,e⟩:=Qn b (some (.int n,false)) (gQ 0 n) a (st n) [] none (by rw[c,h]) (by rw[h];simpa using f);rw[c] at g;refine⟨d,t,g,?_⟩;refine jL (δ:=[stt d b,some (.int n,false),lsi j,lsi t,k]) ⟨rfl,by decide,rfl⟩ ?_;refine(gu (δ1:=[stt a b,some (.int n,false),lsi (st n),none,none]) (iA (i:=2) (δ1:=[stt a b,some (.int n,false),none,none,none]) (iR (os:=[.val (.int 1,false),.val (.int ((n:Int)+1),false)]) rfl rfl (Gs n f)) (show 2<5 by decide))).trans ?_;refine(gu (δ1:=[stt a b,some (.int n,false),lsi (st n),lsi [],none]) rfl).trans ?_;refine(gu ((ki (qf (o:= .slot 1) rfl rfl (by lia))).trans e)).trans ?_;exact iG (kh (iR (os:=[.slot 3]) rfl rfl rfl))
theorem wK: ∀(k:Nat) (r f t:gB),r.length=k->t∈lR k r f->t.length=f.length+k
 |0,r,f,t,_,h=>by simp[lR] at h;subst h;simp
 |k+1,r,f,t,b,h=>by
  simp only[lR,xG,pK,rQ] at h;obtain⟨v,hv,h⟩:=h;have a:(r.eraseIdx v).length=k:=by rw[yh,gD hv];lia
  rcases h with h|h
  ·have:=wK k _ _ t a h;simp at this;lia
  ·have:=wK k _ _ t a h;simp at this;lia
def KO{n:Nat}{t:gB}(h:t∈lR n (st n) []):t.length=n:=by
 have:=wK n (st n) [] t (by simp[st]) h;simpa using this
theorem rN: ∀t:List Int,D.depL (t.map .int)=0
 |[]=>by simp[D.depL]
 |s::t=>by simp[D.depL,D.dep,rN t]
theorem zv: ∀a b:List Int,D.eqbL (a.map .int) (b.map .int)=decide (a=b)
 |[],[]=>by simp[D.eqbL]
 |[],_::_=>by simp[D.eqbL]
 |_::_,[]=>by simp[D.eqbL]
 |x::a,y::b=>by simp[D.eqbL,D.eqb,zv a b,Bool.decide_and,vM]
@[simp] theorem wU(a b:gB):gEq (.lst (a.map .int)) (.lst (b.map .int))=some (.bl (decide (a=b)),false):=by unfold gEq;rw[gD (by simp[D.dep,rN])];simp[D.eqb,zv]
theorem CW: ∀(l m:gB),l.Nodup->(∀x∈l,x∈m)->m.length<=l.length->l.Perm m
 |[],m,_,_,h=>by
  have:m=[]:=ND.mp (by simpa using h);subst this;exact ug _
 |x::l,m,a,c,h=>by
  rw[zU] at a;have g:=c x iF;have b:=Ff g;refine((CW l (m.erase x) a.2 (λy d=>?_) ?_).cons x).trans b.symm
  ·have f:=c y (iK _ d);have i:y≠x:=λe=>a.1 (e▸d);exact(BK i).mpr f
  ·have:=b.length_eq;simp only[ju] at this h
   lia
def NF:x∈st n↔1<=x/\x<=n:=by
 simp only[st,kZ,rQ];constructor
 ·rintro⟨k,h,rfl⟩;lia
 ·rintro⟨h1,a⟩;exact⟨(x-1).toNat,by lia,by lia⟩
def Qb(n:Nat):(st n).Pairwise (· < ·):=by
 simp only[st];rw[nI];exact TQ.imp λh=>by lia
def Ui(n:Nat):(st n).Nodup:=(Qb n).imp λh=>by lia
theorem Jo{n:Nat}{l:gB}:l.Perm (st n)↔l.length=n/\(∀x∈l,1<=x/\x<=n)/\l.Nodup:=by
 constructor
 ·intro h;refine⟨by rw[h.length_eq];simp[st],λx a=>NF.mp (h.mem_iff.mp a),h.symm.nodup (Ui n)⟩
 ·rintro⟨h1,b,c⟩;exact CW l (st n) c (λx a=>NF.mpr (b x a)) (by simp[st,h1])
def Q4(n:Nat):((st n).map D.int).Pairwise (λa b=>ltT b a=false):=by
 rw[nI];refine(Qb n).imp λ{a b} h=>?_;have h1: ¬b<a:=by lia
 have c: ¬b=a:=by lia
 rw[pE];simp[cT,h1,c]
theorem JR(h1:ltT (.int i) (.int j)=false)(c:ltT (.int j) (.int i)=false):i=j:=by
 rw[pE] at h1 c;simp only[cT] at h1 c;by_cases a:i<j
 ·simp[a] at h1
 ·by_cases b:j<i
  ·simp[b] at c
  ·lia
theorem La{n:Nat}{l:gB}:ky ltT (l.map .int)=(st n).map .int↔l.Perm (st n):=by
 constructor
 ·intro h;have a:=iE ltT (l.map D.int);rw[h] at a;have:=(a.map λd=>match d with|D.int i=>i|_=>0)
  simp only[iI] at this;have e:((λd=>match d with|D.int i=>i|_=>0)∘D.int)=id:=rfl;rw[e,nE,nE] at this;exact this.symm
 ·intro h;refine Kn (λx y c f h1 b=>?_) (lY _) (Q4 n) ((iE ltT _).trans (h.map _));obtain⟨i,_,rfl⟩:=kZ.mp ((iE ltT (l.map D.int)).mem_iff.mp c);obtain⟨j,_,rfl⟩:=kZ.mp f;rw[JR b h1]
def qg{l:gB}{m:List D}(h:m.Perm (l.map D.int)): ∃k:List Int,m=k.map .int:=by
 refine⟨m.map λd=>match d with|D.int i=>i|_=>0,?_⟩;rw[iI]
 symm
 rw[mQ (g:=id),nE];intro d hd;obtain⟨i,_,rfl⟩:=kZ.mp (h.mem_iff.mp hd);rfl
theorem xk(l:gB):lZ (l.map .int)=true:=by
 unfold lZ
 cases l with
 |nil=>rfl
 |cons x l=>
  rw[vZ];right;simp only[iu];simp[jU,D.pr,D.dep,lV]
def C9(l:gB)(a:l.length<64):nj (.lst (l.map .int))=some (.lst (ky ltT (l.map .int)),true):=by
 simp only[nj,yK,ir,jo];rw[gD ⟨xk l,by first|(simpa using a)|(rw[iN];simp;lia)⟩]
def IV(l:gB)(n:Nat):gEq (.lst (ky ltT (l.map .int))) (.lst (gQ 1 n))=some (.bl (decide (l.Perm (st n))),false):=by
 obtain⟨k,e⟩:=qg (iE ltT (l.map D.int));rw[<-Gg,e,wU]
 have:k=st n↔l.Perm (st n):=by
  rw[<-La,e];constructor
  ·intro h;rw[h]
  ·intro h;have:=lX (List.map λd=>match d with|D.int i=>i|_=>0) h;simp only[iI] at this;have e:((λd=>match d with|D.int i=>i|_=>0)∘D.int)=id:=rfl;rw[e,nE,nE] at this;exact this
 simp only[this]
theorem AJ: ∀l:List Int,(∀k,(ma (l.reverse.map .int)).1 k=decide (k∈l.reverse))/\(ma (l.reverse.map .int)).2<=l.length/\((ma (l.reverse.map .int)).2=l.length↔l.Nodup)
 |[]=>⟨λk=>by simp[ma],by simp[ma],by simp[ma]⟩
 |x::l=>by
  obtain⟨h1,d,c⟩:=AJ l;rw[yu,mF,iu,mR,AK];refine⟨λk=>?_,?_,?_⟩
  ·dsimp only;rw[h1 k];by_cases a:k∈l.reverse<;>by_cases b:k=x<;>simp_all
  ·dsimp only;rw[ju];split<;>lia
  ·dsimp only;rw[h1 x,zU];by_cases a:x∈l
   ·simp only[List.mem_reverse,a,decide_true,jh,not_true_eq_false,false_and,iff_false,ju];lia
   ·simp only[List.mem_reverse,a,decide_false,iw,iQ,not_false_eq_true,true_and,ju];rw[<-c];lia
def N4(l:gB):(ma (l.map .int)).2=l.length↔l.Nodup:=by
 have:=(AJ l.reverse).2.2;rw[List.reverse_reverse,BX,yn l |>.nodup_iff] at this;exact this
theorem Cv(pre:Dn)(x:Sl)(d:D):gq pre.length d (pre++[x])=some (pre++[some (d,false)]):=by
 unfold gq;rw[gD (by simp)];simp[List.set_append]
theorem zI(f:F)(g:D->D)(pre:Dn): ∀(l a:List D) (x:Sl),(∀d∈l,∃o,f (pre++[some (d,false)])=some ((g d,o),pre++[some (d,false)]))->a.length+l.length<=sizeLine->
  ∃b,jK (gq pre.length) iM (ip f) l a (pre++[x])=some (a++l.map g,pre++[b])
 |[],a,x,_,_=>⟨x,by simp[jK]⟩
 |d::l,a,x,h,c=>by
  obtain⟨o,hd⟩:=h d iF;obtain⟨b,e⟩:=zI f g pre l (a++[g d]) (some (d,false)) (λi j=>h i (iK _ j)) (by simp at c ⊢;omega);refine⟨b,?_⟩;have k:a.length<sizeLine:=by simp at c;omega
  rw[jK,Cv];simp only[ir,va,jh,vb];rw[hd];simp only[ir];rw[gD k];simp only[ir];rw[e];simp
theorem Nl(f:F)(g:D->Int)(pre:Dn): ∀(l a:List D) (x:Sl),(∀d∈l,∃o,f (pre++[some (d,false)])=some ((.int (g d),o),pre++[some (d,false)]))->a.length+l.length<=1000->
  ∃b,jK (gq pre.length) iM (zP f) l a (pre++[x])=some (a++l.map λd=> .int (g d),pre++[b])
 |[],a,x,_,_=>⟨x,by simp[jK]⟩
 |d::l,a,x,h,c=>by
  obtain⟨o,hd⟩:=h d iF;obtain⟨b,e⟩:=Nl f g pre l (a++[.int (g d)]) (some (d,false)) (λi j=>h i (iK _ j)) (by simp at c ⊢;omega);refine⟨b,?_⟩;have m:scanBound=4096:=rfl;have k:a.length+1<scanBound:=by simp at c;omega
  rw[jK,Cv];simp only[ir,va,jh,zP];rw[hd];simp only[ir];rw[gD k];simp only[ir];rw[e];simp
theorem Bo(p:D->Bool): ∀l:List D,vL (l.map λd=> .bl (p d))=some (l.map p)
 |[]=>rfl
 |d::l=>by simp[vL,Bo p l]
theorem xb(p:D->Bool)(l:List D):xQ (.lst (l.map λd=> .bl (p d)))=some (.bl (l.all p),false):=by
 simp[xQ,Bo,List.all_map,yq]
def ab(s:Int):Int:=if s<0 then -s else s
def wh:D->Bool
 | .int _=>true
 |_=>false
def sg(n:Int):D->Bool
 | .int s=>decide (1<=ab s)&&decide (ab s<=n)
 |_=>false
def iOf:D->Int
 | .int s=>s
 |_=>0
theorem uR(d:D):mJ [(d,false)]=some ((.bl (wh d),false),[some (d,false)]):=by
 cases d<;>simp[mJ,rG,evF,gW,wh,isT]
theorem Jt(d:D)(lo a:Int):lT [(d,false),(.int lo,false),(.int a,false)]=some ((.bl (match d with| .int s=>decide (lo<=s)&&decide (s<=a)|_=>false),false),[some (d,false),some (.int lo,false),some (.int a,false)]):=by
 cases d with
 |int s=>by_cases h:lo<=s<;>simp[lT,nu,evF,gW,uR,wh,gS,wb,rK,jG,h]
 |_=>simp[lT,nu,evF,gW,uR,wh,gS,wb]
theorem HU(d:D)(n:Int):ql [(.int n,false),(d,false)]=some ((.bl (match d with| .int s=>decide (1<=s)&&decide (s<=n)|_=>false),false),[some (.int n,false),some (d,false)]):=by
 simp[ql,uF,evF,gW,Jt,gS,wb]
theorem N1(n:Int)(d:D):mn [(.int n,false),(d,false)]=some ((.bl (sg n d),false),[some (.int n,false),some (d,false)]):=by
 cases d with
 |int s=>
  simp[mn,qi,evF,gW,uR,HU,wh,gS,wb,sg,ab];rfl
 |_=>simp[mn,qi,evF,gW,uR,HU,wh,gS,wb,sg,ab]
theorem Gm(h:sg n d=true):d= .int (iOf d):=by cases d<;>simp_all [sg,iOf]
theorem Gd(h:wh d=true):d= .int (iOf d):=by cases d<;>simp_all [wh,iOf]
def tB(n:Nat):D->Bool
 | .tup l=>decide (l.length=n)&&(l.all (sg n)&&decide ((l.map λd=>ab (iOf d)).Nodup))
 |_=>false
def lB(n:Nat):D->Bool
 | .tup l=>l.all wh&&decide ((l.map λd=>ab (iOf d)).Perm (st n))
 |_=>false
theorem DK(n:Nat)(d:D):tB n d=lB n d:=by
 cases d with
 |tup l=>
  rw[tB,lB,Fe];simp only[kX,qO,kn,Jo,iJ,kZ];constructor
  ·rintro⟨h1,a,b⟩;refine⟨λd hd=>?_,h1,?_,b⟩
   ·rw[Gm (a d hd)];rfl
   ·rintro x ⟨d,hd,rfl⟩;have:=a d hd;rw[Gm this] at this;simpa[sg] using this
  ·rintro⟨h1,a,b,c⟩;refine⟨a,λd hd=>?_,c⟩;have:=b _ ⟨d,hd,rfl⟩;rw[Gd (h1 d hd)];simpa[sg] using this
 |_=>rfl
theorem rh(n:Nat)(d:D)(hd: ∀l,d= .tup l->l.length<=60):iT [(.int n,false),(d,false)]=some ((.bl (tB n d),false),[some (.int n,false),some (d,false)]):=by
 cases d with
 |tup l=>
  have i:=hd l rfl;by_cases h1:l.length=n
  ·obtain⟨x1,b⟩:=zI (gz mn [gh 0,gh 1]) (λd=> .bl (sg n d)) [some (.int n,false)] l [] none (λd _=>⟨false,by simp[N1,gS,wb]⟩) (by rw[iN];simp;omega);simp only[vV,qr,ju,oV,wc] at b;by_cases a:l.all (sg n)=true
   ·have h: ∀d∈l,∃o,gC (g1 oh) [gh 0] ([]++[some (d,false)])=some ((.int (ab (iOf d)),o),([]++[some (d,false)]:Dn)):=λd hd=>⟨false,by
     rw[kn] at a;rw[Gm (a d hd)];rfl⟩
    obtain⟨x2,c⟩:=Nl (gC (g1 oh) [gh 0]) (λd=>ab (iOf d)) [] l [] none h (by simp;omega);simp only[vV,qr,ju,oV] at c
    have e:(ma (l.map λd=>D.int (ab (iOf d)))).2=l.length↔(l.map λd=>ab (iOf d)).Nodup:=by
     have:=N4 (l.map λd=>ab (iOf d));rw[iI,iJ] at this;exact this
    have g:(((ma (l.map λd=>D.int (ab (iOf d)))).2:Int)==(n:Int))=decide ((l.map λd=>ab (iOf d)).Nodup):=by
     rw[vM,<-h1];by_cases q:(l.map λd=>ab (iOf d)).Nodup
     ·rw[nG q,e.mpr q];simp
     ·rw[lr q];simp only[decide_eq_false_iff_not,Int.natCast_inj];exact λz=>q (e.mp z)
    simp[iT,kd,evF,isT,h1,hZ,sD,hU,b,c,xb,a,gW,gS,wb,tB,g]
   ·have f:l.all (sg n)=false:=by simpa using a
    simp[iT,kd,evF,isT,h1,hZ,sD,hU,b,xb,f,gW,gS,wb,tB]
  ·have: ¬((l.length:Int)=(n:Int)):=by omega
   simp[iT,kd,evF,isT,this,h1,gW,gS,wb,tB]
 |_=>simp[iT,kd,evF,isT,gW,tB]
def N5(n:Nat)(a:n<=5):gRg .lst true [.int 1,.int ((n:Int)+1)]=some (.lst (gQ 1 n),true):=by rw[Gs n a,Gg]
def OkD(d:D):Prop:= ∀l,d= .tup l->l.length<=60
def ixl(a:0<=v)(h:v<L.length):gIx (.lst L) (.int v)=some (L.getD v.toNat .non,false):=by
 have h1:v.toNat<L.length:=by lia
 simp[gIx,atI,ixN,a,h,h1]
def ixi{t:gB}{v:Int}(a:0<=v)(h:v<t.length):gIx (.tup (t.map .int)) (.int v)=some (.int (t.getD v.toNat 0),false):=by
 have h1:v.toNat<t.length:=by lia
 simp[gIx,atI,ixN,a,h,h1]
def SO{t:gB}{v:Int}(a:0<=v)(h:v<t.length):gIx (.lst (t.map .int)) (.int v)=some (.int (t.getD v.toNat 0),false):=by
 have h1:v.toNat<t.length:=by lia
 simp[gIx,atI,ixN,a,h,h1]
def E7{P:D->Prop}{L:List D}(a:P .non)(h: ∀d∈L,P d)(k:Nat):P (L.getD k .non):=by
 rw[oo]
 cases e:L[k]? with
 |none=>exact a
 |some d=>exact h d (lN e)
def HR:OkD .non:=λl h=>by cases h
theorem Tv(h1:l.length<=1000)(a:m.length<=1000):jt (.tup l) (.tup m)=some (.tup (l++m),false):=by
 simp only[jt];rw[gD (by rw[iN];lia)]
theorem WR(h1:l.length<=1000)(a:m.length<=1000):jt (.lst l) (.lst m)=some (.lst (l++m),true):=by
 simp only[jt];rw[gD (by rw[iN];lia)]
def lE(a:Int)(b:Bool)(m:Int)(j:0<m)(f:m<1073741824): ∃v c,0<=v/\v<m/\ ∀(d:FO) (δ:Dn) (o:Opd),d (stt a b::δ)=some (o,stt a b::δ)->xF (stt a b::δ) o=some (.int m,false)->gz gF [gh 0,d] (stt a b::δ)=some ((.int v,false),stt c b::δ):=by
 obtain⟨v,c,g,h1,e⟩:=rY a b m j f;refine⟨v,c,g,h1,λd δ o h i=>?_⟩;refine(iY (os:=[.slot 0,o]) (args:=[(.lst [.int a,.bl b],true),(.int m,false)]) (lg rfl h) ?_ ?_ e).trans ?_
 ·simp[i]
 ·cases o<;>simp[gS]
 ·cases o<;>simp[wb]
def Dg(l:List D)(lo a:Option Int):(oS l lo a).length<=l.length:=by
 unfold PX.oS;rw[oY,yw];lia
def led(u:gB)(s:Int):Int:=if 0<s then u.getD (s-1).toNat 0 else -(u.getD (-s-1).toNat 0)
def SF(u:gB)(s:Int)(a:s≠0)(h1: -(u.length:Int)<=s)(b:s<=u.length):
  mI [enc u,(.int s,false)]=some ((.int (led u s),false),[some (enc u),some (.int s,false)]):=by
 simp only[mI,rE];by_cases h:0<s
 ·have:=ixi (t:=u) (v:=s-1) (by omega) (by omega);simp only[evF];simp[h,led,this,gW]
 ·have:=ixi (t:=u) (v:= -s-1) (by omega) (by omega);simp only[evF];simp[h,led,this,gW]
theorem WG(x:Int):qK (.int x) (.int 1)=some (.int x,false):=by
 have:CMul x 1:= .inr (by omega);show((if CMul x 1 then some (D.int (x*1)) else none).map λz=>(z,false))=_;rw[gD this,yA];rfl
theorem WE(x:Int):qK (.int x) (.int (-1))=some (.int (-x),false):=by
 have:CMul x (-1):= .inr (by omega);show((if CMul x (-1) then some (D.int (x*(-1))) else none).map λz=>(z,false))=_;rw[gD this,Int.mul_neg,yA];rfl
def KW(a:Int)(b:Bool)(m:Int)(n:0<m)(i:m<1073741824): ∃v g,0<=v/\v<m/\ ∀(h:FO) (c d:Sl) (f:Dn) (o:Opd),h (c::d::stt a b::f)=some (o,c::d::stt a b::f)->xF (c::d::stt a b::f) o=some (.int m,false)->gz gF [gh 2,h] (c::d::stt a b::f)=some ((.int v,false),c::d::stt g b::f):=by
 obtain⟨v,g,j,h1,e⟩:=rY a b m n i;refine⟨v,g,j,h1,λh c d f o k l=>?_⟩;refine(iY (os:=[.slot 2,o]) (args:=[(.lst [.int a,.bl b],true),(.int m,false)]) (lg rfl k) ?_ ?_ e).trans ?_
 ·simp[l]
 ·cases o<;>simp[gS]
 ·cases o<;>simp[wb]
def sts(n:Nat):List Int:=(List.range n).map λ(k:Nat)=>(-(n:Int)+(k:Int))
def Rg(n:Nat)(b:n<=5):gRg .lst true [.int (-(n:Int)),.int 0]=some (.lst ((sts n).map .int),true):=by
 have:n=0\/n=1\/n=2\/n=3\/n=4\/n=5:=by omega
 have h1:RgOk (-(n:Int)) 0:=by rcases this with rfl|rfl|rfl|rfl|rfl|rfl<;>decide+kernel
 have a:(0- -(n:Int)).toNat=n:=by omega
 show(if RgOk (-(n:Int)) 0 then some (D.lst (gQ (-(n:Int)) (0- -(n:Int)).toNat),true) else none)=_;rw[gD h1,a];simp[sts,gQ]
theorem kM(h:f δ=some ((.lst l,o),δ1)):ie f δ=some (l,δ1):=by unfold ie;rw[h];rfl
def ClOk(n:Nat)(c:gB):Prop:=c≠[]/\(c.map ab).Pairwise (· < ·)/\ ∀s∈c,1<=ab s/\ab s<=n
def CA(j:Int)(c:gB):Prop:=(c.map ab).Pairwise (· < ·)/\ ∀s∈c,1<=ab s/\ab s<j
theorem xg(h:0<=i):ab i=i:=by unfold ab;rw[gL (by omega)]
theorem Du(h:0<=i):ab (-i)=i:=by unfold ab;split<;>omega
def CA.snoc{j s:Int}{c:gB}(h:CA j c)(h1:ab s=j)(e:1<=j):CA (j+1) (c++[s]):=by
 refine⟨?_,λx a=>?_⟩
 ·rw[mF,rR];refine⟨h.1,by simp,λx a y b=>?_⟩;obtain⟨z,d,rfl⟩:=kZ.mp a;simp at b;subst b;have:=h.2 z d;omega
 ·rcases pK.mp a with a|a
  ·have:=h.2 x a;omega
  ·simp at a;subst a;omega
theorem CA.up(h:CA j c):CA (j+1) c:=⟨h.1,λx a=>by have:=h.2 x a;omega⟩
abbrev fbC:FS:=(gx (iq 5 (gz gF [(gh 0),(gh 2)])) (gx (sIf (fT (gr (nU .Lt) (gh 5) (gi (fC (.int 2))))) (gx (lQ (jD 3 (gr gIx (gi (kD [(hU 4),(jk lz (gh 4))])) (gh 5)))) gH) gH) gH))
def uH{i:Nat}{f:F}{δ δ1:Dn}{r:D×Bool}{l0 l:List D}(a:δ[i]?=some (some (.lst l0,true)))(h1:f δ=some (r,δ1))(b:δ1[i]?=some (some (.lst l,true)))(c:l.length<=10000):
  gx (lQ (jD i f)) gH δ=some (.nx (δ1.set i (some (.lst (l++[r.1]),true)))):=
 (gu (rk (qk a h1 b (N0 c)))).trans rfl
def Ta(a:Int)(b:Bool)(n w:Int)(p:0<w)(s:w<100)(j:Int)(o:1<=j)(c:gB)(m:CA j c)(t:c.length<=10)(x:Sl): ∃d f q,CA (j+1) f/\f.length<=c.length+1/\fbC [stt a b,some (.int n,false),some (.int w,false),lsi c,some (.int j,false),x]=some (.nx [stt d b,some (.int n,false),some (.int w,false),lsi f,some (.int j,false),q]):=by
 obtain⟨v,d,u,y,e⟩:=lE a b w p (by omega)
 have s1: ∀g,gx (iq 5 (gz gF [(gh 0),(gh 2)])) g [stt a b,some (.int n,false),some (.int w,false),lsi c,some (.int j,false),x]=g [stt d b,some (.int n,false),some (.int w,false),lsi c,some (.int j,false),some (.int v,false)]:=λg=>
  gu (iA (i:=5) (δ1:=[stt d b,some (.int n,false),some (.int w,false),lsi c,some (.int j,false),x]) (e _ [some (.int n,false),some (.int w,false),lsi c,some (.int j,false),x] (.slot 2) rfl rfl) (show 5<6 by decide))
 by_cases h:v<2
 ·have k:gIx (.lst [.int j,.int (-j)]) (.int v)=some (.int (if v=0 then j else -j),false):=by
   rcases(show v=0\/v=1 by omega) with rfl|rfl<;>rfl
  refine⟨d,c++[if v=0 then j else -j],some (.int v,false),m.snoc (by split;exact xg (by omega);exact Du (by omega)) o,by simp,?_⟩;refine(s1 _).trans ((gu ((qB (δ1:=[stt d b,some (.int n,false),some (.int w,false),lsi c,some (.int j,false),some (.int v,false)]) (by simp[h])).trans (uH (δ1:=[stt d b,some (.int n,false),some (.int w,false),lsi c,some (.int j,false),some (.int v,false)]) (r:=(.int (if v=0 then j else -j),false)) (l0:=c.map .int) (l:=c.map .int) rfl (by simp[hU,iN,k]) rfl (by simp;omega)))).trans ?_);simp[lsi]
 ·refine⟨d,c,some (.int v,false),m.up,by omega,?_⟩;exact(s1 _).trans ((gu ((mT (by simp[h])).trans rfl)).trans rfl)
theorem Vf(b:Bool)(n w:Int)(l:0<w)(i:w<100): ∀(m:Nat) (j:Nat) (a:Int) (c:gB) (x4 x5:Sl),1<=j->CA j c->c.length+m<=10-> ∃e d g h,CA (j+m:Nat) d/\d.length<=10/\lA (gq 4) fbC ((List.range' j m).map λ(k:Nat)=>D.int (k:Int)) [stt a b,some (.int n,false),some (.int w,false),lsi c,x4,x5]=some (.nx [stt e b,some (.int n,false),some (.int w,false),lsi d,g,h])
 |0,j,a,c,x4,x5,s,f,t=>⟨a,c,x4,x5,by simpa using f,by omega,rfl⟩
 |m+1,j,a,c,x4,x5,s,f,t=>by
  obtain⟨a1,o,x1,h1,v,p⟩:=Ta a b n w l i j (by omega) c f (by omega) x5;obtain⟨e,d,g,h,r,u,q⟩:=Vf b n w l i m (j+1) a1 o (some (.int j,false)) x1 (by omega) (by simpa using h1) (by omega);refine⟨e,d,g,h,by rw[show j+(m+1)=j+1+m by omega];exact r,u,?_⟩;rw[BY,iu];unfold lA;rw[show gq 4 (.int (j:Int)) [stt a b,some (.int n,false),some (.int w,false),lsi c,x4,x5]=some [stt a b,some (.int n,false),some (.int w,false),lsi c,some (.int j,false),x5] from rfl];simp only[ir];rw[p];simp only[ir];exact q
theorem Im(h1:f δ=some (o1,δ1))(a:g δ1=some (o2,δ2))(b:res δ2 o1=some (.int i))(c:res δ2 o2=some (.int j))(d:0<=i/\i<=1000)(e:0<=j/\j<=1000):xN f g δ=some (gQ i (j-i).toNat,δ2):=by
 unfold xN;rw[lg h1 a];simp only[ir,Rk,N6,b,c];rw[gD ⟨by omega,by omega,by omega,by omega⟩]
def JL(a:Int)(b:Bool)(n:Nat)(h1:1<=n)(O:n<=5): ∃A c,ClOk n c/\mD [(.lst [.int a,.bl b],true),(.int n,false)]=some (enc c,[stt A b,some (.int n,false)]):=by
 obtain⟨v,a1,M,N,B⟩:=lE a b 3 (by omega) (by omega)
 let f:List Int:=[3,4,6]
 let w:=f.getD v.toNat 0
 have y:0<w/\w<100:=by
  rcases(show v=0\/v=1\/v=2 by omega) with rfl|rfl|rfl<;>decide
 obtain⟨d,c,x4,x5,t,Q,C⟩:=Vf b n w y.1 y.2 n 1 a1 [] none none (by omega) ⟨by simp,by simp⟩ (by simp;omega)
 have L:xN (gi (fC (.int 1))) (gi (gr jt (gh 1) (gi (fC (.int 1))))) [stt a1 b,some (.int n,false),some (.int w,false),lsi [],none,none]=some (((List.range' 1 n).map λ(k:Nat)=>D.int (k:Int)),[stt a1 b,some (.int n,false),some (.int w,false),lsi [],none,none]):=by
  rw[Im (o1:= .val (.int 1,false)) (o2:= .val (.int ((n:Int)+1),false)) (i:=1) (j:=(n:Int)+1) rfl rfl rfl rfl (by omega) (by omega)];rw[show((n:Int)+1-1).toNat=n by omega]
  congr 2
  unfold gQ;rw[J3,iI];apply mQ;intro k _;simp
 have pre: ∀g,(gx (iq 2 (gr gIx (gi (kD [(fC (.int 3)),(fC (.int 4)),(fC (.int 6))])) (gi (gz gF [(gh 0),(gi (fC (.int 3)))])))) (gx (iq 3 (kD [])) (gx (nQ (xN (gi (fC (.int 1))) (gi (gr jt (gh 1) (gi (fC (.int 1)))))) (gq 4) fbC) g))) [stt a b,some (.int n,false),none,none,none,none]=g [stt d b,some (.int n,false),some (.int w,false),lsi c,x4,x5]:=by
  intro g;refine(gu (δ1:=[stt a1 b,some (.int n,false),some (.int w,false),none,none,none]) ?_).trans ?_
  ·refine iA (i:=2) (δ1:=[stt a1 b,some (.int n,false),none,none,none,none]) (iH (o1:= .val (.lst (f.map .int),true)) (o2:= .val (.int v,false)) (gG (δ1:=[stt a b,some (.int n,false),none,none,none,none]) (by simp[f,iN])) (gG (B _ [some (.int n,false),none,none,none,none] _ rfl rfl)) rfl rfl (SO M (by simpa[f] using N))) (show 2<6 by decide)
  refine(gu (δ1:=[stt a1 b,some (.int n,false),some (.int w,false),lsi [],none,none]) (by simp[lsi,iN])).trans ?_;exact gu ((ki L).trans C)
 by_cases m:c=[]
 ·subst m;obtain⟨s,p,s0,s1,E⟩:=lE d b 2 (by omega) (by omega);obtain⟨i,h,T,U,G⟩:=lE p b n (by omega) (by omega);refine⟨h,[if s=0 then 1+i else -(1+i)],?_,?_⟩
  ·refine⟨by simp,by simp,λx z=>?_⟩;simp at z;subst z;split
   ·rw[xg (by omega)];omega
   ·rw[show -(1+i)= -(1+i) from rfl,Du (by omega)];omega
  ·refine jL (δ:=[stt h b,some (.int n,false),some (.int w,false),lsi [if s=0 then 1+i else -(1+i)],x4,x5]) ⟨rfl,by decide,rfl⟩ ((pre _).trans ?_)
   have H: ∀q,gIx (.lst [.int 1,.int (-1)]) (.int s)=some q->qK q.1 (.int (1+i))=some (.int (if s=0 then 1+i else -(1+i)),false):=by
    intro q u;have I:CMul 1 (1+i):=by unfold CMul;omega
    have J:CMul (-1) (1+i):=by unfold CMul;omega
    rcases(show s=0\/s=1 by omega) with rfl|rfl
    ·cases u;simp[qK,gI,I]
    ·cases u;simp[qK,gI,J]
   have e:gIx (.lst [.int 1,.int (-1)]) (.int s)=some (.int (if s=0 then 1 else -1),false):=by
    rcases(show s=0\/s=1 by omega) with rfl|rfl<;>rfl
   refine(gu ((qB (δ1:=[stt d b,some (.int n,false),some (.int w,false),lsi [],x4,x5]) (jX (iH (o1:= .slot 3) (o2:= .val (.lst [],true)) (δ2:=[stt d b,some (.int n,false),some (.int w,false),lsi [],x4,x5]) rfl (gG (by simp[iN])) rfl rfl (wU [] [])))).trans (uH (r:=(.int (if s=0 then 1+i else -(1+i)),false)) (δ1:=[stt h b,some (.int n,false),some (.int w,false),lsi [],x4,x5]) (l0:=[]) (l:=[]) rfl ?_ rfl (by simp)))).trans ?_
   ·refine iH (δ1:=[stt p b,some (.int n,false),some (.int w,false),lsi [],x4,x5]) (gG (iH (δ1:=[stt d b,some (.int n,false),some (.int w,false),lsi [],x4,x5]) (o1:= .val (.lst [.int 1,.int (-1)],true)) (gG (by simp[iN])) (gG (E _ _ _ rfl rfl)) rfl rfl e)) (gG (iH (o1:= .val (.int 1,false)) rfl (gG (G _ _ (.slot 1) rfl rfl)) rfl rfl rfl)) rfl rfl (H _ e)
   ·exact iG (kh (iR (os:=[.slot 3]) rfl rfl rfl))
 ·refine⟨d,c,⟨m,t.1,λs e=>by have:=t.2 s e;omega⟩,?_⟩;refine jL (δ:=[stt d b,some (.int n,false),some (.int w,false),lsi c,x4,x5]) ⟨rfl,by decide,rfl⟩ ((pre _).trans ?_);refine(gu ((mT (δ1:=[stt d b,some (.int n,false),some (.int w,false),lsi c,x4,x5]) (jX (o:=false) (iH (o1:= .slot 3) (o2:= .val (.lst [],true)) (δ2:=[stt d b,some (.int n,false),some (.int w,false),lsi c,x4,x5]) rfl (gG (by simp[iN])) rfl rfl ((wU c []).trans (by rw[lr m]))))).trans rfl)).trans ?_;exact iG (kh (iR (os:=[.slot 3]) rfl rfl rfl))
theorem zg{b:Type}[BEq b][LawfulBEq b]: ∀(l m:List b),l.Nodup->(∀x∈l,x∈m)->l.length<=m.length
 |[],m,_,_=>kb _
 |x::l,m,a,c=>by
  rw[zU] at a;have i:=c x iF;have h:=Ff i
  have:=zg l (m.erase x) a.2 (λy d=>by
   have f:=c y (iK _ d);have j:y≠x:=λe=>a.1 (e▸d);exact(BK j).mpr f)
  have g:=h.length_eq;simp only[ju] at g ⊢;omega
def AO{l:gB}(h:l.Pairwise (· < ·)):l.Nodup:=h.imp λh=>by omega
theorem ClOk.len{n:Nat}{c:gB}(h:ClOk n c):c.length<=n:=by
 have:=zg (c.map ab) (st n) (AO h.2.1) (λx b=>by
  obtain⟨s,a,rfl⟩:=kZ.mp b;exact NF.mpr (h.2.2 s a))
 simpa[st] using this
def TOk(n:Nat)(t:gB):Prop:=t.length=n/\ ∀x∈t,1<=ab x/\ab x<=n
theorem mp0:gIx (.lst [.int (-1),.int 1]) (.int 0)=some (.int (-1),false):=rfl
theorem mp1:gIx (.lst [.int (-1),.int 1]) (.int 1)=some (.int 1,false):=rfl
def UY(u:gB)(s:Int)(b:s≠0)(h1: -(u.length:Int)<=s)(c:s<=u.length):
  kc [enc u,(.int s,false)]=some ((.int (led u s),false),[some (enc u),some (.int s,false)]):=by
 simp only[kc,mO];by_cases h:0<s
 ·have:=ixi (t:=u) (v:=s-1) (by omega) (by omega);have a: ¬s<0:=by omega
  simp only[evF];simp[h,a,led,this,gW,iN,mp1,WG]
 ·have:=ixi (t:=u) (v:= -s-1) (by omega) (by omega);have a:s<0:=by omega
  simp only[evF];simp[h,a,led,this,gW,iN,mp0,WE]
theorem nC(i:Int):ab (-i)=ab i:=by unfold ab;split<;>split<;>omega
def pH{l:gB}{k:Nat}(h:k<l.length):l.getD k 0∈l:=by
 rw[oo,hX h];exact By h
def GP{n:Nat}{t:gB}(b:TOk n t){s:Int}(h1:1<=ab s)(a:ab s<=n):1<=ab (led t s)/\ab (led t s)<=n:=by
 unfold led;unfold ab at h1 a;have c:=b.1;split
 ·rename_i h;rw[gL (by omega)] at h1 a;exact b.2 _ (pH (by omega))
 ·rename_i h;rw[nC];split at h1
  ·rw[gD (by assumption)] at a;exact b.2 _ (pH (by omega))
  ·omega
def dD(a:gB):D:= .oth .dct (a.map λw=> .int (ab w)) (a.map .int)
def yR(a:gB)(w:Int):List Int:=if ab w∈a.map ab then a.map λx=>if ab x=ab w then w else x else a++[w]
theorem Nr(w:Int): ∀a:List Int,((a.map λw=>D.int (ab w)).any (D.eqb · (.int (ab w))))=decide (ab w∈a.map ab)
 |[]=>by simp
 |x::a=>by
  simp only[iu,qW,Nr w a,D.eqb,jr];by_cases h:ab x=ab w
  ·simp[h]
  ·have: ¬ab w=ab x:=λe=>h e.symm;simp[h,this]
theorem HH(w:Int): ∀a:List Int,rl (a.map λw=>D.int (ab w)) (a.map .int) (.int (ab w)) (.int w)=(a.map λx=>if ab x=ab w then w else x).map .int
 |[]=>by simp[rl]
 |x::a=>by
  simp only[iu,rl,HH w a,D.eqb];by_cases h:ab x=ab w<;>simp[h]
theorem RQ(a:gB)(w:Int):D.oth .dct (sP (a.map λw=> .int (ab w)) (a.map .int) (.int (ab w)) (.int w)).1 (sP (a.map λw=> .int (ab w)) (a.map .int) (.int (ab w)) (.int w)).2=dD (yR a w):=by
 unfold sP yR dD;rw[Nr];by_cases h:ab w∈a.map ab
 ·rw[gD (by simpa using h),gD h,HH]
  congr 1
  show(a.map λw=>D.int (ab w))=List.map (λw=>D.int (ab w)) (a.map λx=>if ab x=ab w then w else x);rw[iI];apply mQ;intro x _;simp only[Function.comp];split
  ·rename_i e;rw[e]
  ·rfl
 ·rw[gL (by simpa using h),gL h];simp
def DW(n:Nat)(a:gB):Prop:=(a.map ab).Nodup/\ ∀w∈a,1<=ab w/\ab w<=n
def DW.put(h:DW n ws)(h1:1<=ab w/\ab w<=n):DW n (yR ws w):=by
 unfold yR;split
 ·rename_i c;refine⟨?_,λx a=>?_⟩
  ·have:((ws.map λx=>if ab x=ab w then w else x).map ab)=ws.map ab:=by
    rw[iI];apply mQ;intro x _;simp only[Function.comp];split
    ·rename_i e;rw[e]
    ·rfl
   rw[this];exact h.1
  ·obtain⟨y,b,rfl⟩:=kZ.mp a;split
   ·exact h1
   ·exact h.2 y b
 ·rename_i c;refine⟨?_,λx a=>?_⟩
  ·rw[mF,yf];refine⟨h.1,by simp,λx a y b e=>?_⟩;simp at b;subst b;subst e;exact c a
  ·rcases pK.mp a with a|a
   ·exact h.2 x a
   ·simp at a;subst a;exact h1
def Ov(a:gB)(w:Int):yR a w≠[]:=by
 unfold yR;split
 ·rename_i h
  cases a with
  |nil=>simp at h
  |cons=>simp
 ·simp
theorem DW.len(h:DW n ws):ws.length<=n:=by
 have:=zg (ws.map ab) (st n) h.1 (λx b=>by
  obtain⟨s,a,rfl⟩:=kZ.mp b;exact NF.mpr (h.2 s a))
 simpa[st] using this
theorem CY(k:Int): ∀a:List Int,k∈a.map ab-> ∃w∈a,ab w=k/\jQ (a.map λw=>D.int (ab w)) (a.map .int) (.int k)=some (.int w)
 |[],h=>by simp at h
 |x::a,h=>by
  simp only[iu,jQ,D.eqb];by_cases e:ab x=k
  ·exact⟨x,by simp,e,by simp[e]⟩
  ·have:k∈a.map ab:=by
    simp only[iu,jr] at h;rcases h with h|h
    ·exact absurd h.symm e
    ·exact h
   obtain⟨w,c,h1,b⟩:=CY k a this;exact⟨w,by simp[c],h1,by simp[e,b]⟩
theorem Es(a:gB)(k:Int):pG (a.map λw=>D.int (ab w)) (.int k)=true:=by simp[pG,rB]
abbrev fbL:FS:=(gx (iq 4 (gz kc [(gh 0),(gh 3)])) (gx (DY 2 (hU 4) (gi (gC (g1 oh) [(gh 4)]))) gH))
theorem M6{n:Nat}{t:gB}(f:TOk n t)(j:n<=5){s:Int}(h1:1<=ab s/\ab s<=n){a:gB}(g:DW n a)(b x4:Sl):fbL [some (enc t),b,some (dD a,true),some (.int s,false),x4]=some (.nx [some (enc t),b,some (dD (yR a (led t s)),true),some (.int s,false),some (.int (led t s),false)]):=by
 have h:=f.1
 have c:s≠0/\ -(t.length:Int)<=s/\s<=t.length:=by
  have:=h1;unfold ab at this;split at this<;>omega
 refine(gu (δ1:=[some (enc t),b,some (dD a,true),some (.int s,false),some (.int (led t s),false)]) ?_).trans ?_
 ·exact iA (i:=4) (δ1:=[some (enc t),b,some (dD a,true),some (.int s,false),x4]) (iY (δ1:=[some (enc t),b,some (dD a,true),some (.int s,false),x4]) (os:=[.slot 0,.slot 3]) (args:=[enc t,(.int s,false)]) rfl rfl mE (UY t s c.1 c.2.1 c.2.2)) (show 4<5 by decide)
 ·refine(gu (δ1:=[some (enc t),b,some (dD (yR a (led t s)),true),some (.int s,false),some (.int (led t s),false)]) ?_).trans rfl;have d:hU 4 [some (enc t),b,some (dD a,true),some (.int s,false),some (.int (led t s),false)]=some ((.int (led t s),false),[some (enc t),b,some (dD a,true),some (.int s,false),some (.int (led t s),false)]):=rfl;have e:gi (gC (g1 oh) [(gh 4)]) [some (enc t),b,some (dD a,true),some (.int s,false),some (.int (led t s),false)]=some (.val (.int (ab (led t s)),false),[some (enc t),b,some (dD a,true),some (.int s,false),some (.int (led t s),false)]):=rfl;unfold DY;rw[d];simp only[ir,BJ,List.getElem?_cons_zero];rw[e];simp only[ir,Gv,BJ,List.getElem?_cons_zero,dD];rw[gD ⟨Es a _,by have:=g.len;simp;omega⟩,RQ];rfl
theorem Qr{n:Nat}{t:gB}(i:TOk n t)(k:n<=5)(b:Sl): ∀(c a:gB) (x3 x4:Sl),(∀s∈c,1<=ab s/\ab s<=n)->DW n a-> ∃d f j,DW n d/\(a≠[]\/c≠[]->d≠[])/\lA (gq 3) fbL (c.map .int) [some (enc t),b,some (dD a,true),x3,x4]=some (.nx [some (enc t),b,some (dD d,true),f,j])
 |[],a,x3,x4,_,hw=>⟨a,x3,x4,hw,λh=>h.elim id λh=>absurd rfl h,rfl⟩
 |s::c,a,x3,x4,h,hw=>by
  have g:=h s iF;obtain⟨d,f,j,h1,l,e⟩:=Qr i k b c (yR a (led t s)) (some (.int s,false)) (some (.int (led t s),false)) (λx m=>h x (iK _ m)) (hw.put (GP i g.1 g.2));refine⟨d,f,j,h1,λ_=>l (.inl (Ov _ _)),?_⟩;rw[iu];unfold lA;rw[show gq 3 (.int s) [some (enc t),b,some (dD a,true),x3,x4]=some [some (enc t),b,some (dD a,true),some (.int s,false),x4] from rfl];simp only[ir];rw[M6 i k g hw];simp only[ir];exact e
def Q5{l k:gB}(m:l.Nodup)(h:ky ltT (l.map .int)=k.map .int):k.Perm l/\k.Pairwise (· < ·):=by
 have f:=iE ltT (l.map D.int);rw[h] at f;have c:=(f.map λd=>match d with|D.int i=>i|_=>0)
 simp only[iI] at c;have e:((λd=>match d with|D.int i=>i|_=>0)∘D.int)=id:=rfl;rw[e,nE,nE] at c;refine⟨c,?_⟩;have g:=lY (l.map D.int);rw[h,nI] at g;have j:=c.symm.nodup m;have:=g.and j;refine this.imp λ{a b} h=>?_;have h1:=h.1;rw[pE] at h1;simp only[cT] at h1;by_cases q:b<a
 ·simp[q] at h1
 ·have:=h.2;omega
theorem A0(a:gB): ∀k:List Int,(∀x∈k,x∈a.map ab)-> ∃c:List Int,c.map ab=k/\(∀w∈c,w∈a)/\k.map (λx=>(jQ (a.map λw=>D.int (ab w)) (a.map .int) (.int x)).getD .non)=c.map .int
 |[],_=>⟨[],rfl,by simp,rfl⟩
 |x::k,h=>by
  obtain⟨w,g,h1,f⟩:=CY x a (h x iF);obtain⟨c,b,d,e⟩:=A0 a k λy i=>h y (iK _ i);exact⟨w::c,by simp[h1,b],by simp[g];exact d,by simp[f,e]⟩
def Ie{n:Nat}(C:n<=5){t c a:gB}{x3 x4:Sl}(l:DW n a)(y:a≠[])(e:lA (gq 3) fbL (c.map .int) [some (enc t),some (enc c),some (dD [],true),none,none]=some (.nx [some (enc t),some (enc c),some (dD a,true),x3,x4])):
  ∃b,((b.map ab).Pairwise (· < ·)/\(∀w∈b,w∈a)/\(b.map ab).Perm (a.map ab))/\ig [enc t,enc c]=some (enc b,[some (enc t),some (enc c)]):=by
 have j:=l.len;obtain⟨k,hk⟩:=qg (iE ltT ((a.map ab).map D.int));obtain⟨f,z⟩:=Q5 l.1 hk;obtain⟨b,i,o,p⟩:=A0 a k λx h=>f.mem_iff.mp h;refine⟨b,⟨by rw[i];exact z,o,by rw[i];exact f⟩,?_⟩
 ·have m:k.length<=5:=by have:=f.length_eq;simp at this;omega
  have s1:jN (dD a)=some (.lst (k.map .int),true):=by
   unfold jN dD;have q:((a.map λw=>D.int (ab w)).all λk=>(rB k).isSome)=true:=by simp[rB]
   have B:(a.map λw=>D.int (ab w))≠[]:=by simpa using y
   simp only;rw[gD ⟨q,B⟩];have r:(a.map λw=>D.int (ab w))=(a.map ab).map D.int:=by rw[iI];rfl
   unfold jo;rw[r,gD ⟨xk _,by rw[iN];simp;omega⟩,hk]
  obtain⟨E,g⟩:=zI (gr EE (gh 0) (gh 1)) (λd=>match d with| .int x=>(jQ (a.map λw=>D.int (ab w)) (a.map .int) (.int x)).getD .non|_=> .non) [some (dD a,true)] (k.map .int) [] none (by
    intro d hd;obtain⟨x,h,rfl⟩:=kZ.mp hd;obtain⟨w,u,h1,s⟩:=CY x a (f.mem_iff.mp h);refine⟨false,iH (o1:= .slot 0) (o2:= .slot 1) rfl rfl rfl rfl ?_⟩;simp only[EE,dD];rw[gD (Es a x),s];rfl) (by rw[iN];simp;omega)
  have A:((k.map D.int).map λd=>match d with| .int x=>(jQ (a.map λw=>D.int (ab w)) (a.map .int) (.int x)).getD .non|_=> .non)=b.map .int:=by
   rw[iI,<-p];rfl
  rw[A] at g;simp only[vV,qr,ju,oV,wc] at g;refine jL (δ:=[some (enc t),some (enc c),some (dD a,true),x3,x4]) ⟨rfl,by decide,rfl⟩ ?_;refine(gu (δ1:=[some (enc t),some (enc c),some (dD [],true),none,none]) rfl).trans ?_;refine(gu ((ki (ds:=c.map .int) (δ1:=[some (enc t),some (enc c),some (dD [],true),none,none]) rfl).trans e)).trans ?_;refine iG (kh (iR (os:=[.val (.lst (b.map .int),true)]) (qj (gG ?_)) rfl rfl));have v:ie (gC (g1 jN) [(gh 2)]) [some (enc t),some (enc c),some (dD a,true),x3,x4]=some (k.map .int,[some (enc t),some (enc c),some (dD a,true),x3,x4]):=kM (iR (os:=[.slot 2]) rfl rfl s1);unfold hZ;rw[v];simp only[ir,iu,mR];rw[show jq [some (enc t),some (enc c),some (dD a,true),x3,x4] [.slot 2]=some [(dD a,true)] from rfl];simp only[ir];rw[gD (show(gS [Opd.slot 2] [(dD a,true)]).Nodup from(show([2]:List Nat).Nodup by decide))];rw[show(List.map some [(dD a,true)]++List.replicate 1 none:Dn)=[some (dD a,true),none] from rfl,g];rfl
def Ao{n:Nat}(f:n<=5){t c:gB}(k:TOk n t)(d:ClOk n c): ∃a,ClOk n a/\ig [enc t,enc c]=some (enc a,[some (enc t),some (enc c)]):=by
 obtain⟨l,x3,x4,g,b,e⟩:=Qr k f (some (enc c)) c [] none none d.2.2 ⟨by simp,by simp⟩;have b:=b (.inr d.1);obtain⟨a,⟨h1,h,i⟩,e⟩:=Ie f g b e;refine⟨a,⟨λz=>b ?_,h1,λs j=>g.2 s (h s j)⟩,e⟩;have:=i.length_eq;rw[z] at this;exact ND.mp (by simpa using this.symm)
abbrev cD(c:gB):D:= .tup (c.map .int)
theorem G5(c:gB):D.dep (cD c)=1:=by simp[D.dep,rN]
theorem Df: ∀a:List (List Int),D.depL (a.map cD)<=1
 |[]=>by simp[D.depL]
 |c::a=>by
  have:=Df a;simp only[iu,D.depL,G5];omega
theorem G3(a b:gB):D.eqb (cD a) (cD b)=decide (a=b):=by simp[D.eqb,zv]
theorem Hh(c:gB): ∀a:List (List Int),(a.map cD).any (λd=>D.eqb d (cD c))=decide (c∈a)
 |[]=>by simp
 |x::a=>by
  simp only[iu,qW,Hh c a,G3,jr];by_cases h:x=c
  ·simp[h]
  ·have: ¬c=x:=λe=>h e.symm;simp[h,this]
def Ee(c:gB)(a:ik):jI (cD c) (.lst (a.map cD))=some (.bl (!decide (c∈a)),false):=by
 have:inD (cD c) (.lst (a.map cD))=some (decide (c∈a)):=by
  have hd:=Df a;show(if D.depL (a.map cD)<=50/\(cD c).dep<=50 then some ((a.map cD).any λd=>D.eqb d (cD c)) else none)=_;rw[gD ⟨by omega,by rw[G5];omega⟩,Hh]
 unfold jI;rw[this];rfl
def zR:Nat->List (List Int)
 |0=>[[]]
 |k+1=>zR k++((zR k).map λc=>c++[((k:Int)+1)])++((zR k).map λc=>c++[-((k:Int)+1)])
theorem vS: ∀(k:Nat) (c:gB),(c.map ab).Pairwise (· < ·)->(∀s∈c,1<=ab s/\ab s<=k)->c∈zR k
 |0,c,_,h=>by
  cases c with
  |nil=>simp[zR]
  |cons s c=>have:=h s iF;omega
 |k+1,c,b,h=>by
  simp only[zR,pK,kZ];by_cases d:c=[]
  ·subst d;exact .inl (.inl (vS k [] (by simp) (by simp)))
  ·have hd:=List.dropLast_concat_getLast d;generalize c.dropLast=i at hd;generalize c.getLast d=s at hd;subst hd;rw[mF,rR] at b;have g:=h s (by simp);have f: ∀x∈i,1<=ab x/\ab x<ab s:=λx a=>⟨(h x (by simp[a])).1,b.2.2 (ab x) (sY a) (ab s) (by simp)⟩
   by_cases q:ab s<=k
   ·refine .inl (.inl (vS k _ ?_ λx a=>?_))
    ·rw[mF,rR];exact b
    ·rcases pK.mp a with a|a
     ·have:=f x a;omega
     ·simp at a;subst a;omega
   ·have e:ab s=(k:Int)+1:=by omega
    have hk:=vS k i b.1 λx a=>by have:=f x a;omega
    unfold ab at e;split at e
    ·exact .inr ⟨i,hk,by rw[show s= -((k:Int)+1) by omega]⟩
    ·exact .inl (.inr ⟨i,hk,by rw[show s=((k:Int)+1) by omega]⟩)
theorem Bv: ∀(k:Nat) (n:Nat),n<=k->(zR n).length<=(zR k).length
 |0,n,h=>by rw[show n=0 by omega];exact iO _
 |k+1,n,h=>by
  by_cases e:n=k+1
  ·subst e;exact iO _
  ·have:=Bv k n (by omega);simp only[zR,lM,iJ];omega
def CsOk(n:Nat)(a:ik):Prop:=a.Nodup/\ ∀c∈a,ClOk n c
theorem CsOk.len(b:n<=5)(h:CsOk n cs):cs.length<=243:=by
 have h1:=zg cs (zR n) h.1 λc a=>vS n c (h.2 c a).2.1 (h.2 c a).2.2;have d:=Bv 5 n b;have e:(zR 5).length=243:=by decide
 omega
def CsOk.snoc{n:Nat}{b:ik}{c:gB}(h:CsOk n b)(f:ClOk n c)(g:c∉b):CsOk n (b++[c]):=by
 refine⟨?_,λx a=>?_⟩
 ·rw[yf];exact⟨h.1,by simp,λx a y d e=>by simp at d;subst d;subst e;exact g a⟩
 ·rcases pK.mp a with a|a
  ·exact h.2 x a
  ·simp at a;subst a;exact f
abbrev lsC(a:ik):Sl:=some (.lst (a.map cD),true)
abbrev S8:FS:=(gx (iq 5 (gz ig [(gh 4),(gi (gr gIx (gh 2) (gh 3)))])) (gx (sIf (fT (gr jI (gh 5) (gh 2))) (gx (lQ (jD 2 (hU 5))) gH) gH) gH))
def ixc{a:ik}{i:Nat}(h:i<a.length):gIx (.lst (a.map cD)) (.int i)=some (cD (a.getD i []),false):=by
 have:(i:Int)<a.length:=by omega
 simp[gIx,atI,ixN,h]
def JG{a:ik}{i:Nat}(h:i<a.length):a.getD i []∈a:=by
 rw[oo,hX h];exact By h
def Py{n:Nat}(p:n<=5){t:gB}(s:TOk n t){a:ik}(f:CsOk n a){i:Nat}(m:i<a.length)(c d x5:Sl): ∃j u,CsOk n j/\a.length<=j.length/\S8 [c,d,lsC a,some (.int i,false),some (enc t),x5]=some (.nx [c,d,lsC j,some (.int i,false),some (enc t),u]):=by
 obtain⟨b,q,e⟩:=Ao p s (f.2 _ (JG m));have v:=f.len p
 have s1: ∀g,gx (iq 5 (gz ig [(gh 4),(gi (gr gIx (gh 2) (gh 3)))])) g [c,d,lsC a,some (.int i,false),some (enc t),x5]=g [c,d,lsC a,some (.int i,false),some (enc t),some (enc b)]:=λg=>
  gu (iA (i:=5) (δ1:=[c,d,lsC a,some (.int i,false),some (enc t),x5]) (iY (δ1:=[c,d,lsC a,some (.int i,false),some (enc t),x5]) (os:=[.slot 4,.val (enc (a.getD i []))]) (args:=[enc t,enc (a.getD i [])]) (lg rfl (gG (iH (o1:= .slot 2) (o2:= .slot 3) rfl rfl rfl rfl (ixc m)))) rfl mE e) (show 5<6 by decide))
 have k:(fT (gr jI (gh 5) (gh 2))) [c,d,lsC a,some (.int i,false),some (enc t),some (enc b)]=some (!decide (b∈a),[c,d,lsC a,some (.int i,false),some (enc t),some (enc b)]):=
  jX (o:=false) (iH (o1:= .slot 5) (o2:= .slot 2) rfl rfl rfl rfl (Ee b a))
 by_cases h:b∈a
 ·refine⟨a,some (enc b),f,iO _,(s1 _).trans ((gu ((mT ?_).trans rfl)).trans rfl)⟩;rw[k,nG h];rfl
 ·refine⟨a++[b],some (enc b),f.snoc q h,by simp,(s1 _).trans ?_⟩;rw[lr h] at k;refine(gu ((qB k).trans (uH (δ1:=[c,d,lsC a,some (.int i,false),some (enc t),some (enc b)]) (r:=enc b) (l0:=a.map cD) (l:=a.map cD) rfl rfl rfl (by simp;omega)))).trans ?_;simp[lsC,gH]
theorem Qo{n:Nat}(k:n<=5)(i:Nat)(b c:Sl): ∀(e:ik) (a:ik) (x4 x5:Sl),(∀t∈e,TOk n t)->CsOk n a->i<a.length-> ∃d g h,CsOk n d/\a.length<=d.length/\lA (gq 4) S8 (e.map cD) [b,c,lsC a,some (.int i,false),x4,x5]=some (.nx [b,c,lsC d,some (.int i,false),g,h])
 |[],a,x4,x5,_,f,j=>⟨a,x4,x5,f,iO _,rfl⟩
 |t::e,a,x4,x5,l,f,j=>by
  obtain⟨m,s,h1,v,o⟩:=Py k (l t iF) f j b c x5;obtain⟨d,g,h,q,w,p⟩:=Qo k i b c e m (some (enc t)) s (λu r=>l u (iK _ r)) h1 (by omega);refine⟨d,g,h,q,by omega,?_⟩;rw[iu];unfold lA;rw[show gq 4 (cD t) [b,c,lsC a,some (.int i,false),x4,x5]=some [b,c,lsC a,some (.int i,false),some (enc t),x5] from rfl];simp only[ir];rw[o];simp only[ir];exact p
abbrev ftW:FT:=(fT (gr (nU .Lt) (gh 3) (gi (gC (g1 mh) [(gh 2)]))))
abbrev fbW:FS:=(gx (nQ (ie (hU 1)) (gq 4) S8) (gx (iq 3 (gr jt (gh 3) (gi (fC (.int 1))))) gH))
def QM{n:Nat}(w:n<=5)(d:Sl)(c:ik)(y: ∀t∈c,TOk n t): ∀(m a i:Nat) (o:Bool) (b:ik) (x4 x5:Sl),i+m=243->m<a->CsOk n b-> ∃j q p r s,CsOk n j/\b.length<=j.length/\nV ftW fbW a [d,some (.lst (c.map cD),o),lsC b,some (.int i,false),x4,x5]=some (.nx [d,some (.lst (c.map cD),q),lsC j,some (.int p,false),r,s]):=by
 intro m
 induction m with
 |zero=>
  intro a i o b x4 x5 l C g;have G:=g.len w;obtain⟨f,rfl⟩: ∃f,a=f+1:=⟨a-1,by omega⟩
  refine⟨b,o,i,x4,x5,g,iO _,?_⟩;have h: ¬((i:Int)<b.length):=by omega
  have e:ftW [d,some (.lst (c.map cD),o),lsC b,some (.int i,false),x4,x5]=some (false,[d,some (.lst (c.map cD),o),lsC b,some (.int i,false),x4,x5]):=
   jX (o:=false) (iH (o1:= .slot 3) (o2:= .val (.int b.length,false)) rfl (gG (iR (os:=[.slot 2]) rfl rfl (by simp))) rfl rfl (by rw[Uu,lr h]))
  unfold nV;rw[e];rfl
 |succ m E=>
  intro a i o b x4 x5 l C g;obtain⟨f,rfl⟩: ∃f,a=f+1:=⟨a-1,by omega⟩
  have e:ftW [d,some (.lst (c.map cD),o),lsC b,some (.int i,false),x4,x5]=some (decide ((i:Int)<b.length),[d,some (.lst (c.map cD),o),lsC b,some (.int i,false),x4,x5]):=
   jX (o:=false) (iH (o1:= .slot 3) (o2:= .val (.int b.length,false)) rfl (gG (iR (os:=[.slot 2]) rfl rfl (by simp))) rfl rfl (by rw[Uu]))
  by_cases h:((i:Int)<b.length)
  ·rw[nG h] at e;obtain⟨k,u,v,h1,H,z⟩:=Qo w i d (some (.lst (c.map cD),false)) c b x4 x5 y g (by omega);obtain⟨j,q,p,r,s,B,I,A⟩:=E f (i+1) false k u v (by omega) (by omega) h1;refine⟨j,q,p,r,s,B,by omega,?_⟩;unfold nV;rw[e];simp only[ir,jh]
   have x:fbW [d,some (.lst (c.map cD),o),lsC b,some (.int i,false),x4,x5]=some (.nx [d,some (.lst (c.map cD),false),lsC k,some (.int (i+1:Nat),false),u,v]):=by
    refine(gu ((ki (ds:=c.map cD) (δ1:=[d,some (.lst (c.map cD),false),lsC b,some (.int i,false),x4,x5]) rfl).trans z)).trans ?_;refine(gu (iA (i:=3) (δ1:=[d,some (.lst (c.map cD),false),lsC k,some (.int i,false),u,v]) (iH (o1:= .slot 3) (o2:= .val (.int 1,false)) rfl rfl rfl rfl rfl) (show 3<6 by decide))).trans ?_;simp[gH]
   rw[x];simp only[ir];exact A
  ·rw[lr h] at e;refine⟨b,o,i,x4,x5,g,iO _,?_⟩;unfold nV;rw[e];rfl
def JK{n:Nat}(i:n<=5){b a:ik}(f: ∀t∈b,TOk n t)(h:CsOk n a)(o:Bool): ∃c m,CsOk n c/\a.length<=c.length/\mC [(.lst (a.map cD),false),(.lst (b.map cD),o)]=some ((.lst (c.map cD),true),[some (.lst (a.map cD),false),m]):=by
 obtain⟨c,d,j,l,p,g,k,e⟩:=QM i (some (.lst (a.map cD),false)) b f 243 Vv 0 o a none none (by omega) (by decide) h;refine⟨c,if o=true then some (.lst (b.map cD),d) else some (.lst (b.map cD),o),g,k,?_⟩;refine(jL (r:=(.lst (c.map cD),true)) (δ:=[some (.lst (a.map cD),false),some (.lst (b.map cD),d),none,some (.int j,false),l,p]) ⟨rfl,(show 2<=6 by decide),by cases o<;>rfl⟩ ?_).trans ?_
 ·refine(gu (δ1:=[some (.lst (a.map cD),false),some (.lst (b.map cD),o),lsC a,none,none,none]) rfl).trans ?_;refine(gu (δ1:=[some (.lst (a.map cD),false),some (.lst (b.map cD),o),lsC a,some (.int 0,false),none,none]) rfl).trans ?_;exact(gu e).trans (iG rfl)
 ·cases o<;>rfl
def AA(a:ik)(c:gB):List (List Int):=if c∈a then a else a++[c]
def dd(a:ik):List (List Int):=a.foldl AA []
theorem PU(a:ik)(c:gB):rO (a.map cD) (cD c)=(AA a c).map cD:=by
 unfold rO AA;rw[show(a.map cD).any (D.eqb · (cD c))=decide (c∈a) from Hh c a];by_cases h:c∈a<;>simp[h]
theorem EL: ∀(a b:ik),(a.map cD).foldl rO (b.map cD)=(a.foldl AA b).map cD
 |[],b=>rfl
 |c::a,b=>by rw[iu,qV,qV,PU,EL a]
theorem Nw:x∈AA a c↔x∈a\/x=c:=by
 unfold AA;by_cases h:c∈a
 ·rw[gD h];constructor
  ·exact .inl
  ·rintro(h1|rfl)
   ·exact h1
   ·exact h
 ·rw[gL h];simp
theorem A9: ∀(a b:ik) (x:gB),x∈a.foldl AA b↔x∈b\/x∈a
 |[],b,x=>by simp
 |c::a,b,x=>by rw[qV,A9 a,Nw,jr,or_assoc]
def PY(h:f.Nodup):(AA f c).Nodup:=by
 unfold AA;split
 ·exact h
 ·rename_i b;rw[yf];exact⟨h,by simp,λx d y a e=>by simp at a;subst a;subst e;exact b d⟩
theorem EH: ∀(b a:ik),a.Nodup->(b.foldl AA a).Nodup
 |[],a,h=>h
 |c::b,a,h=>by rw[qV];exact EH b _ (PY h)
theorem vc: ∀l:List Int,D.prL (l.map .int)=true
 |[]=>by simp[D.prL]
 |x::l=>by simp[D.prL,D.pr,vc l]
def Sx(c:gB):okS (cD c)=true:=by simp[okS,vc,rN]
theorem Ml(a:ik):(a.map cD).all okS=true:=by
 rw[kn];intro d hd;obtain⟨c,_,rfl⟩:=kZ.mp hd;exact Sx c
theorem Bk(c:CmpOp): ∀a b:List Int,(qo c (a.map .int) (b.map .int)).isSome=true
 |[],b=>by simp[qo]
 |x::a,[]=>by simp[qo]
 |x::a,y::b=>by
  simp only[iu,qo];split
  ·exact Bk c a b
  ·simp[lV]
theorem AH(cs:ik)(h: ∀c∈cs,c≠[]):lZ (cs.map cD)=true:=by
 have hk: ∀c:List Int,c≠[]->jU (cD c)=some 1:=λc g=>by
  cases c with
  |nil=>exact absurd rfl g
  |cons=>rfl
 unfold lZ
 cases cs with
 |nil=>rfl
 |cons c cs=>
  rw[vZ];right;simp only[iu];rw[kX,kX,hk c (h c iF)];refine⟨⟨rfl,?_⟩,?_⟩
  ·rw[kn];intro d hd;rw[<-iu (f:=cD)] at hd;obtain⟨x,b,rfl⟩:=kZ.mp hd;rw[hk x (h x b),G5];simp[D.pr,vc]
  ·rw[kn];intro d hd;rw[kn];intro e a;rw[<-iu (f:=cD)] at hd a;obtain⟨x,b,rfl⟩:=kZ.mp hd;obtain⟨y,i,rfl⟩:=kZ.mp a;simp only[lV];exact Bk _ _ _
def unC:D->List Int
 | .tup l=>l.map iOf
 |_=>[]
theorem lO(c:gB):unC (cD c)=c:=by
 simp only[unC,iI];rw[mQ (g:=id),nE];intro x _;rfl
def zA(h:m.Perm (cs.map cD)): ∃a:List (List Int),m=a.map cD/\a.Perm cs:=by
 refine⟨m.map unC,?_,?_⟩
 ·rw[iI]
  symm
  rw[mQ (g:=id),nE];intro d hd;obtain⟨c,_,rfl⟩:=kZ.mp (h.mem_iff.mp hd);simp only[Function.comp,lO];rfl
 ·have:=h.map unC;rw[iI] at this;rw[show List.map (unC∘cD) cs=List.map id cs from mQ (λc _=>lO c),nE] at this;exact this
def SrtC(c:ik):Prop:=c.Pairwise λa b=>ltT (cD b) (cD a)=false
def Uk{n:Nat}{a:ik}(j: ∀c∈a,ClOk n c)(l:a.length<500): ∃k b:List (List Int),CsOk n b/\SrtC b/\(∀c,c∈b↔c∈a)/\b.length<=a.length/\GW (.lst (a.map cD))=some (.oth .set [] (k.map cD),true)/\jN (.oth .set [] (k.map cD))=some (.lst (b.map cD),true):=by
 have f: ∀c,c∈dd a↔c∈a:=λc=>by unfold dd;rw[A9];simp
 have i:(dd a).Nodup:=EH a [] (by simp);obtain⟨b,e,g⟩:=zA (iE ltT ((dd a).map cD));have d:(dd a).length<=a.length:=zg _ _ i λc h=>(f c).mp h;refine⟨dd a,b,⟨g.symm.nodup i,λc h=>j c ((f c).mp (g.mem_iff.mp h))⟩,?_,λc=>g.mem_iff.trans (f c),by rw[g.length_eq];exact d,?_,?_⟩
 ·have:=lY ((dd a).map cD);rw[e,nI] at this;exact this
 ·show(if(a.map cD).all okS=true/\(a.map cD).length<500 then some (D.oth .set [] (oR (a.map cD)),true) else none)=_;rw[gD ⟨Ml a,by simpa using l⟩];unfold oR;rw[show([]:List D)=([]:List (List Int)).map cD from rfl,EL];rfl
 ·show(if((dd a).map cD).all okS=true then jo ((dd a).map cD) else none)=_;rw[gD (Ml _)];unfold jo;rw[gD ⟨AH _ λc h=>(j c ((f c).mp h)).1,by rw[iN];simp;omega⟩,e]
theorem AR: ∀(k:Nat) (r f t:gB),t∈lR k r f-> ∀x∈t,x∈f\/ ∃y∈r,x=y*1\/x=y* -1
 |0,r,f,t,h,x,b=>by simp[lR] at h;subst h;exact .inl b
 |k+1,r,f,t,h,x,b=>by
  simp only[lR,xG,pK,rQ] at h;obtain⟨v,hv,h⟩:=h
  have a: ∀s:Int,(s=1\/s= -1)->t∈lR k (r.eraseIdx v) (f++[r.getD v 0*s])->x∈f\/ ∃y∈r,x=y*1\/x=y* -1:=by
   intro s c h;rcases AR k _ _ t h x b with h1|⟨y,d,h1⟩
   ·rcases pK.mp h1 with h1|h1
    ·exact .inl h1
    ·simp at h1;refine .inr ⟨r.getD v 0,pH hv,?_⟩;rw[oo];rcases c with rfl|rfl<;>simp[h1]
   ·exact .inr ⟨y,J2 d,h1⟩
  rcases h with h|h
  ·exact a 1 (.inl rfl) h
  ·exact a (-1) (.inr rfl) h
def KP{n:Nat}{t:gB}(h:t∈lR n (st n) []):TOk n t:=by
 refine⟨KO h,λx a=>?_⟩;rcases AR n _ _ t h x a with h1|⟨y,b,h1⟩
 ·simp at h1
 ·have:=NF.mp b;unfold ab;rcases h1 with rfl|rfl<;>split<;>omega
def TOk.abs(h:TOk n t):TOk n (t.map ab):=by
 refine⟨by simpa using h.1,λx a=>?_⟩;obtain⟨y,b,rfl⟩:=kZ.mp a;have:=h.2 y b;rw[xg (i:=ab y) (by omega)];exact this
theorem EW(l:EvF)(P:List Int->Prop)(b:Bool)(n:Int)(h: ∀a,∃i c,P c/\l [(.lst [.int a,.bl b],true),(.int n,false)]=some (enc c,[stt i b,some (.int n,false)])): ∀(j:List D) (f:ik) (a:Int) (x:Sl),(∀c∈f,P c)->f.length+j.length<=1000->
  ∃(i:Int) (k:ik) (o:Sl),(∀c∈k,P c)/\k.length=f.length+j.length/\jK (gq 2) iM (ip (gz l [gh 0,gh 1])) j (f.map cD) [stt a b,some (.int n,false),x]=some (k.map cD,[stt i b,some (.int n,false),o])
 |[],f,a,x,m,_=>⟨a,f,x,m,by simp,rfl⟩
 |d::j,f,a,x,m,p=>by
  obtain⟨a1,z,v,r⟩:=h a
  obtain⟨i,k,o,t,q,e⟩:=EW l P b n h j (f++[z]) a1 (some (d,false)) (λy g=>by
   rcases pK.mp g with g|g
   ·exact m y g
   ·simp at g;subst g;exact v) (by simp at p ⊢;omega)
  refine⟨i,k,o,t,by simp at q ⊢;omega,?_⟩;have u:(f.map cD).length<sizeLine:=by rw[iN];simp at p ⊢;omega
  have s:gz l [gh 0,gh 1] [stt a b,some (.int n,false),some (d,false)]=some (enc z,[stt a1 b,some (.int n,false),some (d,false)]):=
   iY (δ1:=[stt a b,some (.int n,false),some (d,false)]) (os:=[.slot 0,.slot 1]) (args:=[(.lst [.int a,.bl b],true),(.int n,false)]) rfl rfl (show([0]:List Nat).Nodup by decide) r
  rw[jK,show gq 2 d [stt a b,some (.int n,false),x]=some [stt a b,some (.int n,false),some (d,false)] from rfl];simp only[ir,va,jh,vb];rw[s];simp only[ir];rw[gD u];rw[mF] at e;exact e
def zD(k:EvF)(P:List Int->Prop)(b:Bool)(n:Int)(h: ∀a,∃d c,P c/\k [(.lst [.int a,.bl b],true),(.int n,false)]=some (enc c,[stt d b,some (.int n,false)]))(j:List D)(hd:j.length<=1000)(a:Int)(f g:Sl)(hV:Dn)(m:FIt)(l:m (stt a b::f::g::some (.int n,false)::hV)=some (j,stt a b::f::g::some (.int n,false)::hV)):
  ∃(d:Int) (i:ik),(∀c∈i,P c)/\i.length=j.length/\hZ [0,3] 1 m (gq 2) iM (ip (gz k [gh 0,gh 1])) (stt a b::f::g::some (.int n,false)::hV)=some ((.lst (i.map cD),true),stt d b::f::g::some (.int n,false)::hV):=by
 obtain⟨d,i,p,h1,o,e⟩:=EW k P b n h j [] a none (by simp) (by simpa using hd);refine⟨d,i,h1,by simpa using o,?_⟩;unfold hZ;rw[l];simp only[ir,iu,mR];rw[show jq (stt a b::f::g::some (.int n,false)::hV) [.slot 0,.slot 3]=some [(.lst [.int a,.bl b],true),(.int n,false)] from rfl];simp only[ir];rw[gD (show(gS [Opd.slot 0,Opd.slot 3] [(D.lst [.int a,.bl b],true),(.int n,false)]).Nodup from(show([0]:List Nat).Nodup by decide))];rw[show(List.map some [(D.lst [.int a,.bl b],true),(D.int n,false)]++List.replicate 1 none:Dn)=[stt a b,some (.int n,false),none] from rfl];rw[show([]:List D)=([]:List (List Int)).map cD from rfl,e];rfl
def Nh(a:ik)(v:Nat): ∃m,m<=v/\PX.oS (a.map cD) none (some (v:Int))=(a.take m).map cD:=by
 refine⟨min v a.length,by omega,?_⟩;unfold PX.oS;rw[HT.TF,HT.Us,List.map_take,iJ,List.drop_zero,Nat.sub_zero]
theorem SrtC.take(h:SrtC a)(m:Nat):SrtC (a.take m):=List.Pairwise.sublist (wu m a) h
theorem CsOk.take(h:CsOk n a)(m:Nat):CsOk n (a.take m):=⟨List.Nodup.sublist (wu m a) h.1,λc b=>h.2 c (we b)⟩
def Nx(t:gB)(a:t.length<=100):gC (g1 lJ) [(gi (hZ [] 1 (ie (hU 0)) (gq 0) iM (ip (gC (g1 oh) [(gh 0)]))))] [some (cD t,false)]=some ((cD (t.map ab),false),[some (cD t,false)]):=by
 obtain⟨b,e⟩:=zI (gC (g1 oh) [gh 0]) (λd=> .int (ab (iOf d))) [] (t.map .int) [] none (by
  intro d hd;obtain⟨i,_,rfl⟩:=kZ.mp hd;exact⟨false,rfl⟩) (by rw[iN];simp;omega)
 simp only[vV,qr,ju,oV,iI] at e;refine iR (os:=[.val (.lst ((t.map ab).map .int),true)]) (qj (gG ?_)) rfl rfl;unfold hZ;rw[show ie (hU 0) [some (cD t,false)]=some (t.map .int,[some (cD t,false)]) from rfl];simp only[ir,mR,wJ,gS,mE,jh,qr,List.replicate_succ,List.replicate_zero];rw[e,iI];rfl
def Vq{f:F}{c:FIt}{e a:Dn}{b d:List D}{h:Sl}(h1:c e=some (b,a))(g:jK (gq 0) iM (ip f) b [] [none]=some (d,[h])):hZ [] 1 c (gq 0) iM (ip f) e=some ((.lst d,true),a):=by
 unfold hZ;rw[h1];simp only[ir,mR,wJ,gS,mE,jh,qr,List.replicate_succ,List.replicate_zero];rw[g];rfl
def JT(a:ik)(m:a.length<=1000)(l: ∀t∈a,t.length<=100)(b c f g i j k:Sl)(o:Bool):hZ [] 1 (ie (hU 7)) (gq 0) iM (ip (gC (g1 lJ) [(gi (hZ [] 1 (ie (hU 0)) (gq 0) iM (ip (gC (g1 oh) [(gh 0)]))))])) [b,c,f,g,i,j,k,some (.lst (a.map cD),o)]=some ((.lst ((a.map (List.map ab)).map cD),true),[b,c,f,g,i,j,k,some (.lst (a.map cD),false)]):=by
 obtain⟨n,e⟩:=zI (gC (g1 lJ) [(gi (hZ [] 1 (ie (hU 0)) (gq 0) iM (ip (gC (g1 oh) [(gh 0)]))))]) (λd=>cD ((unC d).map ab)) [] (a.map cD) [] none (by
  intro d hd;obtain⟨t,h,rfl⟩:=kZ.mp hd;refine⟨false,?_⟩;rw[lO];exact Nx t (l t h)) (by rw[iN];simp;omega)
 simp only[vV,qr,ju,oV,iI] at e;have:(a.map ((λd=>cD ((unC d).map ab))∘cD))=a.map (cD∘List.map ab):=mQ λt _=>by simp only[Function.comp,lO]
 rw[this] at e;rw[iI];exact Vq rfl e
def Hl(n:Nat)(ks:ik):Prop:=n<=5/\CsOk n ks/\SrtC ks/\ks.length<=30
abbrev rD'(n:Nat)(ks:ik):D:= .tup [.int n,.tup (ks.map cD)]
abbrev lv(L:List D):Sl:=some (.lst L,true)
abbrev ii(n:Int):Sl:=some (.int n,false)
def GY(h:jj fs δ=jj b a):gz ev fs δ=gz ev b a:=by unfold gz;rw[h]
def Jb(a:Int)(b:Bool)(lo d:Nat)(h1:lo<=d)(h5:d<=5): ∃Y n ks,Hl n ks/\lo<=n/\n<=d/\mB [(.lst [.int a,.bl b],true),(.int lo,false),(.int d,false)]=some ((rD' n ks,false),[stt Y b,ii lo,ii d]):=by
 obtain⟨v,a1,v0,v1,e1⟩:=lE a b ((d:Int)-lo+1) (by omega) (by omega);obtain⟨w,q,w0,w1,e2⟩:=lE a1 b 4 (by omega) (by omega);obtain⟨n,hn⟩: ∃n:Nat,(lo:Int)+v=n:=⟨(lo+v).toNat,by omega⟩
 have pre: ∀g,gx (iq 3 (gr jt (gh 1) (gi (gz gF [(gh 0),(gi (gr jt (gi (gr gSub (gh 2) (gh 1))) (gi (fC (.int 1)))))])))) (gx (iq 4 (gz gF [(gh 0),(gi (fC (.int 4)))])) g) [stt a b,ii lo,ii d,none,none,none,none,none]=g [stt q b,ii lo,ii d,ii n,ii w,none,none,none]:=by
  intro g;refine(gu (δ1:=[stt a1 b,ii lo,ii d,ii n,none,none,none,none]) ?_).trans ?_
  ·refine iA (i:=3) (δ1:=[stt a1 b,ii lo,ii d,none,none,none,none,none]) (iH (o1:= .slot 1) (o2:= .val (.int v,false)) rfl (gG (e1 _ _ _ rfl rfl)) rfl rfl ?_) (show 3<8 by decide);rw[Ux,hn]
  ·exact gu (iA (i:=4) (δ1:=[stt q b,ii lo,ii d,ii n,none,none,none,none]) (e2 _ [ii lo,ii d,ii n,none,none,none,none] _ rfl rfl) (show 4<8 by decide))
 by_cases hz:n=0
 ·subst hz;refine⟨q,0,[],⟨by omega,⟨by simp,by simp⟩,List.Pairwise.nil,by simp⟩,by omega,by omega,?_⟩;refine jL (δ:=[stt q b,ii lo,ii d,ii (0:Nat),ii w,none,none,none]) ⟨rfl,by decide,rfl⟩ ((pre _).trans ?_);refine iG ((qB (δ1:=[stt q b,ii lo,ii d,ii (0:Nat),ii w,none,none,none]) (by simp)).trans (iG (kh ?_)));simp[iN]
 ·have n1:1<=n:=by omega
  have M:n<=5:=by omega
  obtain⟨u,G,u0,u1,e3⟩:=lE q b 3 (by omega) (by omega)
  let Q:List Int:=[4,8,13]
  let m:=Q.getD u.toNat 0
  have hm:0<m/\m<=13:=by
   rcases(show u=0\/u=1\/u=2 by omega) with rfl|rfl|rfl<;>decide
  obtain⟨c,H,q0,q1,e4⟩:=lE G b m hm.1 (by omega);obtain⟨f,rfl⟩: ∃f:Nat,c=f:=⟨c.toNat,by omega⟩
  have i1:uD (gh 5) [stt H b,ii lo,ii d,ii n,ii w,ii f,none,none]=some (gQ 0 f,[stt H b,ii lo,ii d,ii n,ii w,ii f,none,none]):=qf (o:= .slot 5) rfl rfl (by omega);obtain⟨B,j,aN,n4,e5⟩:=zD mD (ClOk n) b n (λa=>JL a b n n1 M) (gQ 0 f) (by simp[gQ];omega) H (ii lo) (ii d) [ii w,ii f,none,none] (uD (gh 5)) i1;have j6:j.length<13:=by simp[gQ] at n4;omega
  have E: ∃(h:Int) (z:ik) (l:Sl),(∀c∈z,ClOk n c)/\z.length<500/\(sIf (fT (gr (nU .Gt) (gh 4) (gi (fC (.int 0))))) (gx (iq 7 (hZ [0,3] 1 (uD (gi (gr jt (gi (fC (.int 1))) (gi (gr vB (gh 4) (gi (fC (.int 2)))))))) (gq 2) iM (ip (gz jJ [(gh 0),(gh 1)])))) (gx (sIf (fT (gr gEq (gh 4) (gi (fC (.int 3))))) (gx (iq 7 (hZ [] 1 (ie (hU 7)) (gq 0) iM (ip (gC (g1 lJ) [(gi (hZ [] 1 (ie (hU 0)) (gq 0) iM (ip (gC (g1 oh) [(gh 0)]))))])))) gH) gH) (gx (iq 6 (gz mC [(gi (mW (gi (gC (g1 jN) [(gi (gC (g1 GW) [(gh 6)]))])) (gi (fC (.int 2))))),(gh 7)])) gH))) gH) [stt B b,ii lo,ii d,ii n,ii w,ii f,lv (j.map cD),none]=some (.nx [stt h b,ii lo,ii d,ii n,ii w,ii f,lv (z.map cD),l]):=by
   by_cases hw:0<w
   ·obtain⟨k,hk,cf⟩: ∃k:Nat,(1:Int)+w%2=k/\k<=2:=⟨(1+w%2).toNat,by omega,by omega⟩
    have i2:uD (gi (gr jt (gi (fC (.int 1))) (gi (gr vB (gh 4) (gi (fC (.int 2))))))) [stt B b,ii lo,ii d,ii n,ii w,ii f,lv (j.map cD),none]=some (gQ 0 k,[stt B b,ii lo,ii d,ii n,ii w,ii f,lv (j.map cD),none]):=by
     refine qf (o:= .val (.int k,false)) (gG ?_) rfl (by omega);rw[<-hk];simp[vB,gI]
    obtain⟨h,A,F,X,e6⟩:=zD jJ (TOk n) b n (λa=>by
     obtain⟨Y,t,I,e⟩:=yF a b n M;exact⟨Y,t,KP I,e⟩) (gQ 0 k) (by simp[gQ];omega) B (ii lo) (ii d) [ii w,ii f,lv (j.map cD),none] _ i2
    have J:A.length<=1000:=by simp[gQ] at X;omega
    have th: ∃s:List (List Int),(∀t∈s,TOk n t)/\ ∀g,gx (sIf (fT (gr gEq (gh 4) (gi (fC (.int 3))))) (gx (iq 7 (hZ [] 1 (ie (hU 7)) (gq 0) iM (ip (gC (g1 lJ) [(gi (hZ [] 1 (ie (hU 0)) (gq 0) iM (ip (gC (g1 oh) [(gh 0)]))))])))) gH) gH) g [stt h b,ii lo,ii d,ii n,ii w,ii f,lv (j.map cD),lv (A.map cD)]=g [stt h b,ii lo,ii d,ii n,ii w,ii f,lv (j.map cD),lv (s.map cD)]:=by
     by_cases h3:w=3
     ·refine⟨A.map (List.map ab),λt I=>?_,λg=>?_⟩
      ·obtain⟨t',W,rfl⟩:=kZ.mp I;exact(F t' W).abs
      ·refine gu ((qB (δ1:=[stt h b,ii lo,ii d,ii n,ii w,ii f,lv (j.map cD),lv (A.map cD)]) (jX (o:=false) (iH (o1:= .slot 4) (o2:= .val (.int 3,false)) rfl rfl rfl rfl (by rw[Qd,h3];rfl)))).trans ((gu (iA (i:=7) (δ1:=[stt h b,ii lo,ii d,ii n,ii w,ii f,lv (j.map cD),some (.lst (A.map cD),false)]) (JT A J (λt I=>by have:=(F t I).1;omega) _ _ _ _ _ _ _ true) (show 7<8 by decide))).trans rfl))
     ·refine⟨A,F,λg=>gu ((mT (δ1:=[stt h b,ii lo,ii d,ii n,ii w,ii f,lv (j.map cD),lv (A.map cD)]) (jX (o:=false) (iH (o1:= .slot 4) (o2:= .val (.int 3,false)) rfl rfl rfl rfl (by rw[Qd,vM,lr h3])))).trans rfl)⟩
    obtain⟨s,L,th⟩:=th;obtain⟨vs,ks,O,P,S,R,D,Z⟩:=Uk aN (by omega);obtain⟨x,V,ct⟩:=Nh ks 2;obtain⟨z,l,U,_,e7⟩:=JK M L (O.take x) true;refine⟨h,z,l,U.2,by have:=U.len M;omega,?_⟩;refine(qB (δ1:=[stt B b,ii lo,ii d,ii n,ii w,ii f,lv (j.map cD),none]) (jX (o:=false) (iH (o1:= .slot 4) (o2:= .val (.int 0,false)) rfl rfl rfl rfl (by rw[Rm,nG (show w>0 from hw)])))).trans ?_;refine(gu (iA (i:=7) e6 (show 7<8 by decide))).trans ((th _).trans ((gu (iA (i:=6) (δ1:=[stt h b,ii lo,ii d,ii n,ii w,ii f,lv (j.map cD),l]) (iY (δ1:=[stt h b,ii lo,ii d,ii n,ii w,ii f,lv (j.map cD),lv (s.map cD)]) (os:=[.val (.lst ((ks.take x).map cD),true),.slot 7]) (args:=[(.lst ((ks.take x).map cD),false),(.lst (s.map cD),true)]) (lg (δ1:=[stt h b,ii lo,ii d,ii n,ii w,ii f,lv (j.map cD),lv (s.map cD)]) (gG ?_) rfl) rfl (show([7]:List Nat).Nodup by decide) e7) (show 6<8 by decide))).trans rfl))
    have f1:gC (g1 jN) [(gi (gC (g1 GW) [(gh 6)]))] [stt h b,ii lo,ii d,ii n,ii w,ii f,lv (j.map cD),lv (s.map cD)]=some ((.lst (ks.map cD),true),[stt h b,ii lo,ii d,ii n,ii w,ii f,lv (j.map cD),lv (s.map cD)]):=
     iR (os:=[.val (.oth .set [] (vs.map cD),true)]) (qj (gG (iR (os:=[.slot 6]) rfl rfl D))) rfl Z
    unfold mW;rw[gG f1];simp only[ir];rw[show gi (fC (.int 2)) [stt h b,ii lo,ii d,ii n,ii w,ii f,lv (j.map cD),lv (s.map cD)]=some (.val (.int 2,false),[stt h b,ii lo,ii d,ii n,ii w,ii f,lv (j.map cD),lv (s.map cD)]) from rfl];simp only[ir,Gv];rw[show gSl none (some 2) (.lst (ks.map cD))=some (.lst (PX.oS (ks.map cD) none (some 2)),true) from rfl];simp only[ir];rw[show PX.oS (ks.map cD) none (some 2)=(ks.take x).map cD from ct]
   ·refine⟨B,j,none,aN,by omega,?_⟩;exact(mT (δ1:=[stt B b,ii lo,ii d,ii n,ii w,ii f,lv (j.map cD),none]) (jX (o:=false) (iH (o1:= .slot 4) (o2:= .val (.int 0,false)) rfl rfl rfl rfl (by rw[Rm,lr (show ¬w>0 from hw)])))).trans rfl
  obtain⟨h,z,l,U,bx,E⟩:=E;obtain⟨vs,ks,O,P,S,R,D,Z⟩:=Uk U bx
  have f1:gC (g1 jN) [(gi (gC (g1 GW) [(gh 6)]))] [stt h b,ii lo,ii d,ii n,ii w,ii f,lv (z.map cD),l]=some ((.lst (ks.map cD),true),[stt h b,ii lo,ii d,ii n,ii w,ii f,lv (z.map cD),l]):=
   iR (os:=[.val (.oth .set [] (vs.map cD),true)]) (qj (gG (iR (os:=[.slot 6]) rfl rfl D))) rfl Z
  have last: ∃(y:Int) (C:ik),CsOk n C/\SrtC C/\C.length<=30/\sIf (fT (gr (nU .Gt) (gi (gC (g1 mh) [(gh 6)])) (gi (fC (.int 30))))) (gx (iq 6 (mW (gh 6) (gi (gz gF [(gh 0),(gi (fC (.int 30)))])))) gH) gH [stt h b,ii lo,ii d,ii n,ii w,ii f,lv (ks.map cD),l]=some (.nx [stt y b,ii lo,ii d,ii n,ii w,ii f,lv (C.map cD),l]):=by
   have T:(fT (gr (nU .Gt) (gi (gC (g1 mh) [(gh 6)])) (gi (fC (.int 30))))) [stt h b,ii lo,ii d,ii n,ii w,ii f,lv (ks.map cD),l]=some (decide ((ks.length:Int)>30),[stt h b,ii lo,ii d,ii n,ii w,ii f,lv (ks.map cD),l]):=
    jX (o:=false) (iH (o1:= .val (.int ks.length,false)) (o2:= .val (.int 30,false)) (gG (iR (os:=[.slot 6]) rfl rfl (by simp))) rfl rfl rfl (Rm _ _))
   by_cases hb:(ks.length:Int)>30
   ·obtain⟨p,y,p0,p1,e8⟩:=lE h b 30 (by omega) (by omega);obtain⟨N,rfl⟩: ∃N:Nat,p=N:=⟨p.toNat,by omega⟩
    obtain⟨x,V,ct⟩:=Nh ks N;refine⟨y,ks.take x,O.take x,P.take x,by rw[oY];omega,?_⟩;rw[nG hb] at T;refine(qB T).trans ((gu (iA (i:=6) (δ1:=[stt y b,ii lo,ii d,ii n,ii w,ii f,lv (ks.map cD),l]) (r:=(.lst ((ks.take x).map cD),true)) ?_ (show 6<8 by decide))).trans rfl);unfold mW;rw[show gh 6 [stt h b,ii lo,ii d,ii n,ii w,ii f,lv (ks.map cD),l]=some (.slot 6,[stt h b,ii lo,ii d,ii n,ii w,ii f,lv (ks.map cD),l]) from rfl];simp only[ir];rw[gG (e8 _ [ii lo,ii d,ii n,ii w,ii f,lv (ks.map cD),l] _ rfl rfl)];simp only[ir,Gv];rw[show res (stt y b::[ii lo,ii d,ii n,ii w,ii f,lv (ks.map cD),l]) (.slot 6)=some (.lst (ks.map cD)) from rfl];simp only[ir];rw[show gSl none (some (N:Int)) (.lst (ks.map cD))=some (.lst (PX.oS (ks.map cD) none (some (N:Int))),true) from rfl,ct];rfl
   ·rw[lr hb] at T;exact⟨h,ks,O,P,by omega,(mT T).trans rfl⟩
  obtain⟨y,C,k1,k2,k3,last⟩:=last;refine⟨y,n,C,⟨M,k1,k2,k3⟩,by omega,by omega,?_⟩;refine jL (δ:=[stt y b,ii lo,ii d,ii n,ii w,ii f,lv (C.map cD),l]) ⟨rfl,by decide,rfl⟩ ((pre _).trans ?_);refine(gu ((mT (δ1:=[stt q b,ii lo,ii d,ii n,ii w,none,none,none]) (by simp[hz])).trans rfl)).trans ?_;refine(gu (δ1:=[stt H b,ii lo,ii d,ii n,ii w,ii f,none,none]) ?_).trans ?_
  ·refine iA (i:=5) (δ1:=[stt H b,ii lo,ii d,ii n,ii w,none,none,none]) ?_ (show 5<8 by decide)
   have em:gi (gr gIx (gi (kD [(fC (.int 4)),(fC (.int 8)),(fC (.int 13))])) (gi (gz gF [(gh 0),(gi (fC (.int 3)))]))) [stt q b,ii lo,ii d,ii n,ii w,none,none,none]=some (.val (.int m,false),[stt G b,ii lo,ii d,ii n,ii w,none,none,none]):=
    gG (iH (o1:= .val (.lst (Q.map .int),true)) (o2:= .val (.int u,false)) (gG (δ1:=[stt q b,ii lo,ii d,ii n,ii w,none,none,none]) (by simp[Q,iN])) (gG (e3 _ [ii lo,ii d,ii n,ii w,none,none,none] _ rfl rfl)) rfl rfl (SO u0 (by simpa[Q] using u1)))
   have K:=e4 (λ_=>some (.val (.int m,false),[stt G b,ii lo,ii d,ii n,ii w,none,none,none])) [ii lo,ii d,ii n,ii w,none,none,none] (.val (.int m,false)) rfl rfl
   have hf:jj [gh 0,gi (gr gIx (gi (kD [(fC (.int 4)),(fC (.int 8)),(fC (.int 13))])) (gi (gz gF [(gh 0),(gi (fC (.int 3)))])))] [stt q b,ii lo,ii d,ii n,ii w,none,none,none]=jj [gh 0,λ_=>some (.val (.int m,false),[stt G b,ii lo,ii d,ii n,ii w,none,none,none])] (stt G b::[ii lo,ii d,ii n,ii w,none,none,none]):=by
    rw[lg (o1:= .slot 0) rfl em];rfl
   exact(GY hf).trans K
  refine(gu (iA (i:=6) e5 (show 6<8 by decide))).trans ?_;refine(gu E).trans ?_;refine(gu (iA (i:=6) f1 (show 6<8 by decide))).trans ?_;refine(gu last).trans (iG (kh ?_));simp[hU,iN]
abbrev frz(a:List D):Dn:=a.map λd=>some (d,false)
theorem rq: ∀(os:List Opd) (a:List D),gS os (a.map λd=>(d,false))=[]
 |[],_=>by simp[gS]
 |_::_,[]=>by simp[gS]
 |o::os,d::a=>by cases o<;>simp[gS,rq os a]
theorem DD: ∀(os:List Opd) (b:List D) (a c:Dn),wb os (b.map λd=>(d,false)) a c=c
 |[],_,_,_=>by simp[wb]
 |_::_,[],_,_=>by simp[wb]
 |_::_,_::_,[],_=>by simp[wb]
 |o::os,d::b,x::xs,c=>by cases o<;>simp[wb,DD os b xs]
theorem Nn{f:F}{ti:FT}{g:D->D}{p:D->Bool}{pre:Dn}: ∀(l a:List D) (x:Sl),(∀d∈l,ti (pre++[some (d,false)])=some (p d,pre++[some (d,false)])/\(p d=true-> ∃o,f (pre++[some (d,false)])=some ((g d,o),pre++[some (d,false)])))->a.length+l.length<=sizeLine->
  ∃b,jK (gq pre.length) ti (ip f) l a (pre++[x])=some (a++(l.filter p).map g,pre++[b])
 |[],a,x,_,_=>⟨x,by simp[jK]⟩
 |d::l,a,x,h,j=>by
  obtain⟨h1,m⟩:=h d iF;have n:a.length<sizeLine:=by simp at j;omega
  rw[jK,Cv];simp only[ir];rw[h1]
  cases k:p d with
  |false=>
   obtain⟨b,e⟩:=Nn l a (some (d,false)) (λc i=>h c (iK _ i)) (by simp at j ⊢;omega);exact⟨b,by simp[e,k]⟩
  |true=>
   obtain⟨o,hd⟩:=m k;obtain⟨b,e⟩:=Nn l (a++[g d]) (some (d,false)) (λc i=>h c (iK _ i)) (by simp at j ⊢;omega);refine⟨b,?_⟩;simp only[ir,jh,vb];rw[hd];simp only[ir];rw[gD n];simp only[ir];rw[e];simp[k]
theorem G9{caps:jf}{fi:FIt}{f:F}{ti:FT}{δ δ1:Dn}{l args:List D}(g:D->D)(p:D->Bool)(h1:fi δ=some (l,δ1))(a:jq δ1 (caps.map .slot)=some (args.map λd=>(d,false)))(b:args.length=caps.length)
  (h: ∀d∈l,ti (frz args++[some (d,false)])=some (p d,frz args++[some (d,false)])/\(p d=true-> ∃o,f (frz args++[some (d,false)])=some ((g d,o),frz args++[some (d,false)])))(c:l.length<=10000):
  hZ caps 1 fi (gq caps.length) ti (ip f) δ=some ((.lst ((l.filter p).map g),true),δ1):=by
 obtain⟨i,e⟩:=Nn (f:=f) (ti:=ti) (g:=g) (p:=p) (pre:=frz args) l [] none h (by rw[iN];simp;omega);unfold hZ;rw[h1];simp only[ir];rw[a];simp only[ir,rq,mE,jh,iI,DD];rw[show gq caps.length=gq (frz args).length from by rw[iJ,b]];rw[show((args.map (some∘λd=>(d,false)))++List.replicate 1 none:Dn)=frz args++[none] from rfl,e];simp
theorem zC{caps:jf}{fi:FIt}{f:F}{δ δ1:Dn}{l args:List D}(g:D->D)(h1:fi δ=some (l,δ1))(a:jq δ1 (caps.map .slot)=some (args.map λd=>(d,false)))(b:args.length=caps.length)
  (h: ∀d∈l,∃o,f (frz args++[some (d,false)])=some ((g d,o),frz args++[some (d,false)]))(c:l.length<=10000):
  hZ caps 1 fi (gq caps.length) iM (ip f) δ=some ((.lst (l.map g),true),δ1):=by
 rw[G9 g (λ_=>true) h1 a b (λd hd=>⟨rfl,λ_=>h d hd⟩) c,TL.mpr λ_ _=>rfl]
def ES{caps:jf}{fi:FIt}{f:F}{δ δ1:Dn}{l args:List D}(p:D->Bool)(h1:fi δ=some (l,δ1))(a:jq δ1 (caps.map .slot)=some (args.map λd=>(d,false)))(b:args.length=caps.length)
  (h: ∀d∈l,∃o,f (frz args++[some (d,false)])=some ((.bl (p d),o),frz args++[some (d,false)]))(c:l.length<=10000):
  gC (g1 xQ) [gi (hZ caps 1 fi (gq caps.length) iM (ip f))] δ=some ((.bl (l.all p),false),δ1):=
 iR (qj (gG (zC (λd=> .bl (p d)) h1 a b h c))) rfl (xb p l)
theorem sA{tg:Tg}{fb:FS}(I:List D->Dn->Prop)(step: ∀d ds δ,I (d::ds) δ-> ∃δ1 δ2,tg d δ=some δ1/\fb δ1=some (.nx δ2)/\I ds δ2): ∀(ds:List D) (δ:Dn),I ds δ-> ∃a,I [] a/\lA tg fb ds δ=some (.nx a)
 |[],δ,h=>⟨δ,h,rfl⟩
 |d::ds,δ,h=>by
  obtain⟨δ1,δ2,h1,b,c⟩:=step d ds δ h;obtain⟨a,e,f⟩:=sA I step ds δ2 c;refine⟨a,e,?_⟩;unfold lA;rw[h1];simp only[ir];rw[b];exact f
def zu{caps:jf}{k:Nat}{fi:FIt}{d:Tg}{ti:FT}{c:FB}{δ δ1 b:Dn}{l a:List D}{args:List (D×Bool)}(h1:fi δ=some (l,δ1))(e:jq δ1 (caps.map .slot)=some args)(f:(gS (caps.map .slot) args).Nodup)(g:jK d ti c l [] (args.map some++List.replicate k none)=some (a,b)):
  hZ caps k fi d ti c δ=some ((.lst a,true),wb (caps.map .slot) args (gW args b) δ1):=by
 unfold hZ;rw[h1];simp only[ir];rw[e];simp only[ir];rw[gD f,g];rfl
def Mw(d:D)(lo a:Int):kP [(d,false),(.int lo,false),(.int a,false)]=some ((.bl (match d with| .int i=>decide (lo<=i)&&decide (i<=a)|_=>false),false),[some (d,false),some (.int lo,false),some (.int a,false)]):=by
 cases d with
 |int s=>by_cases h:lo<=s<;>simp[kP,nk,evF,gW,isT,rK,jG,h]
 |_=>simp[kP,nk,evF,gW,isT]
def Dd(h:f δ=some ((.bl true,o),δ1)):sU f g δ=g δ1:=by rw[Lw,h];rfl
def Nb(h:f δ=some ((.bl false,o),δ1)):sU f g δ=some ((.bl false,false),δ1):=by rw[Lw,h];rfl
def Ur:D->List D
 | .tup l=>l
 | .lst l=>l
 |_=>[]
def Mk{t:gB}(h:t.length<=60):OkD (cD t):=λl e=>by cases e;simpa using h
theorem Bb(p:D->Bool)(L:ik):((L.map cD).filter p).map (λd=>d)=(L.filter λt=>p (cD t)).map cD:=by
 rw[List.map_id',Fd];rfl
def E8(ev:EvF)(d:D):Prop:= ∀b c,ev [(d,b),(d,c)]=some ((.bl true,false),[some (d,b),some (d,c)])
theorem IH{ev:EvF}: ∀(l a:List D) (x y:Sl),(∀d∈l,E8 ev d)->a.length+l.length<=10000-> ∃b c,jK (uT [(gq 0),(gq 1)]) iM (ip (gz ev [(gh 0),(gh 1)])) ((l.zip l).map λp=> .tup [p.1,p.2]) a [x,y]=some (a++l.map λ_=> .bl true,[b,c])
 |[],a,x,y,_,_=>⟨x,y,by simp[jK]⟩
 |d::l,a,x,y,h,f=>by
  obtain⟨b,c,e⟩:=IH l (a++[.bl true]) (some (d,false)) (some (d,false)) (λg i=>h g (iK _ i)) (by simp at f ⊢;omega);refine⟨b,c,?_⟩;have j:a.length<sizeLine:=by rw[iN];simp at f;omega
  simp only[qT,iu,jK];rw[show uT [(gq 0),(gq 1)] (.tup [d,d]) [x,y]=some [some (d,false),some (d,false)] from rfl];simp only[ir,va,jh,vb];rw[iY (os:=[.slot 0,.slot 1]) (args:=[(d,false),(d,false)]) rfl rfl mE (h d iF false false)];simp only[ir];rw[gD j];simp only[ir];rw[show wb [.slot 0,.slot 1] [(d,false),(d,false)] [some (d,false),some (d,false)] [some (d,false),some (d,false)]=[some (d,false),some (d,false)] from rfl,e];simp
def Vu(x:Int)(c:gB):(c.map D.int).any (λd=>D.eqb d (.int x))=c.contains x:=by
 induction c with
 |nil=>rfl
 |cons y c a=>rw[iu,qW,a,List.contains_cons];simp[D.eqb,vM,eq_comm]
def yb(x:Int)(c:gB):jI (.int x) (cD c)=some (.bl (!c.contains x),false):=by
 have:inD (.int x) (cD c)=some (c.contains x):=by
  show(if D.depL (c.map .int)<=50/\(D.int x).dep<=50 then some ((c.map D.int).any λd=>D.eqb d (.int x)) else none)=_;rw[gD ⟨by rw[rN];omega,by simp[D.dep]⟩,Vu]
 unfold jI;rw[this];rfl
def U7(c:gB)(a:ik):gIn (cD c) (.lst (a.map cD))=some (.bl (decide (c∈a)),false):=by
 have h:=Ee c a;unfold jI at h;unfold gIn
 cases d:inD (cD c) (.lst (a.map cD)) with
 |none=>rw[d] at h;cases h
 |some b=>rw[d] at h;simp at h ⊢;cases b<;>simp at h ⊢ <;>exact h
def EF{d:D}(h:d.dep<=50):gEq d d=some (.bl true,false):=by unfold gEq;rw[gD ⟨h,h⟩,D.eqb_refl]
def EB{d:D}(h:d.dep<=50):gNe d d=some (.bl false,false):=by unfold gNe;rw[gD ⟨h,h⟩,D.eqb_refl];rfl
theorem Nf(n:Nat)(a:ik):(rD' n a).dep<=50:=by have:=Df a;simp only[D.dep,D.depL];omega
def TT(n:Nat)(t:gB):Prop:=(t.map ab).Perm (st n)
def SG(n:Nat)(s:Int):Prop:=1<=ab s/\ab s<=n
theorem TT.len{n:Nat}{t:gB}(h:TT n t):t.length=n:=by simpa using(Jo.mp h).1
theorem TT.sg{n:Nat}{t:gB}(h:TT n t){x:Int}(a:x∈t):SG n x:=(Jo.mp h).2.1 _ (sY a)
def TT.tok{n:Nat}{t:gB}(h:TT n t):TOk n t:=⟨h.len,λx a=>h.sg a⟩
def Up{n:Nat}{s:Int}(h:SG n s):s≠0:=by rintro rfl;have:=h.1;simp[ab] at this
theorem Q9{n:Nat}{s:Int}(h:SG n s):SG n (-s):=by unfold SG;rw[nC];exact h
def nO{n:Nat}{s:Int}(h:SG n s): ∃k:Nat,k<n/\(s=(k:Int)+1\/s= -((k:Int)+1)):=by
 have:=h;unfold SG ab at this;split at this
 ·exact⟨(-s-1).toNat,by lia,.inr (by lia)⟩
 ·exact⟨(s-1).toNat,by lia,.inl (by lia)⟩
theorem mz(t:gB)(k:Nat):led t ((k:Int)+1)=t.getD k 0:=by
 unfold led;rw[gD (by lia),show((k:Int)+1-1).toNat=k by lia]
theorem ly(t:gB)(k:Nat):led t (-((k:Int)+1))= -t.getD k 0:=by
 unfold led;rw[gL (by lia),show(- -((k:Int)+1)-1).toNat=k by lia]
theorem Pk{n:Nat}(t:gB){s:Int}(h:SG n s):led t (-s)= -led t s:=by
 obtain⟨k,_,rfl|rfl⟩:=nO h
 ·rw[mz,ly]
 ·rw[Int.neg_neg,mz,ly,Int.neg_neg]
theorem Ny{n:Nat}{t:gB}(a:t.length=n){s:Int}(h:SG n s):ab (led t s)=(t.map ab).getD ((ab s).toNat-1) 0:=by
 obtain⟨k,hk,rfl|rfl⟩:=nO h
 ·rw[mz,xg (i:=(k:Int)+1) (by lia),show(((k:Int)+1).toNat-1)=k by lia];simp[oo,a,hk]
 ·rw[ly,nC,Du (by lia),show(((k:Int)+1).toNat-1)=k by lia];simp[oo,a,hk]
theorem TT.led{n:Nat}{t:gB}(h:TT n t){s:Int}(a:SG n s):SG n (led t s):=GP h.tok a.1 a.2
theorem C0{n:Nat}{t:gB}(h:TT n t){s r:Int}(g:SG n s)(f:SG n r)(e:PV.led t s=PV.led t r):s=r:=by
 have k:=(Jo.mp h).2.2
 have c: ∀{i j:Nat},i<n->j<n->ab (t.getD i 0)=ab (t.getD j 0)->i=j:=λ{i j} a b e=>by
  have l:=h.len
  have:=(F7 (xs:=t.map ab) (i:=i) (j:=j) (h₀:=by simpa[l] using a) (h₁:=by simpa[l] using b) k).mp (by
   simp only[List.getElem_map];simpa[oo,l,a,b] using e)
  exact this
 have d: ∀{i:Nat},i<n->t.getD i 0≠0:=λ{i} a=>Up (h.sg (pH (by rw[h.len];exact a)));obtain⟨i,a,rfl|rfl⟩:=nO g<;>obtain⟨j,b,rfl|rfl⟩:=nO f
 ·rw[mz,mz] at e;rw[c a b (by rw[e])]
 ·rw[mz,ly] at e;have:=c a b (by rw[e,nC]);subst this;exact absurd (show t.getD i 0=0 by lia) (d a)
 ·rw[mz,ly] at e;have:=c a b (by rw[<-e,nC]);subst this;exact absurd (show t.getD i 0=0 by lia) (d a)
 ·rw[ly,ly] at e;rw[c a b (by rw[show t.getD i 0=t.getD j 0 by lia])]
theorem K6(n:Nat):(st n).length=n:=by simp[st]
def Uj(n:Nat):TT n (st n):=by
 have:(st n).map ab=st n:=by
  conv=>rhs;rw[<-nE (st n)]
  refine mQ λx a=>?_;have:=NF.mp a;exact xg (by lia)
 unfold TT;rw[this]
def SD{n:Nat}{s:Int}(h:SG n s):PV.led (st n) s=s:=by
 obtain⟨k,hk,rfl|rfl⟩:=nO h
 ·rw[mz];simp[st,oo,hk];lia
 ·rw[ly];simp[st,oo,hk];lia
theorem uB: ∀(k:Nat) (r f t:gB),r.length=k->(∀x∈r,0<=x)->t∈lR k r f->(t.map ab).Perm (f.map ab++r)
 |0,r,f,t,c,_,h=>by
  simp[lR] at h;subst h;rw[ND.mp c];simp
 |k+1,r,f,t,c,h0,h=>by
  simp only[lR,xG,pK,rQ] at h;obtain⟨v,hv,h⟩:=h;have b:(r.eraseIdx v).length=k:=by rw[yh,gD hv];lia
  have d: ∀x∈r.eraseIdx v,0<=x:=λx a=>h0 x (J2 a);have a:=h0 _ (pH hv)
  have fin: ∀y:Int,ab y=r.getD v 0->(List.map ab (f++[y])++r.eraseIdx v).Perm (f.map ab++r):=λy i=>by
   rw[mF,oW];refine Ki _ ?_;simp only[iu,mR,vV,qr,i];have e:r.getD v 0=r[v]:=by simp[oo,hv]
   rw[e];rw[List.eraseIdx_eq_take_drop_succ];have g:r=r.take v++r[v]::r.drop (v+1):=by rw[<-wj hv,uj]
   conv=>rhs;rw[g]
   exact NC.symm
  rcases h with h|h
  ·exact(uB k _ _ t b d h).trans (fin _ (by rw[yA];exact xg a))
  ·exact(uB k _ _ t b d h).trans (fin _ (by rw[Int.mul_neg,yA];exact Du a))
def NQ{n:Nat}{t:gB}(h:t∈lR n (st n) []):TT n t:=by
 have:=uB n (st n) [] t (K6 n) (λx a=>by have:=NF.mp a;lia) h;unfold TT;simpa using this
def lc(t c:gB):List Int:=(ky ltA ((c.map (led t)).map D.int)).map iOf
def LCs(t c d:gB):Prop:=d.Perm (c.map (led t))/\(d.map ab).Pairwise (· < ·)
def Ew{m:List D}{l:gB}(h:m.Perm (l.map D.int)):m=(m.map iOf).map D.int/\(m.map iOf).Perm l:=by
 obtain⟨k,rfl⟩:=qg h;have e:(k.map D.int).map iOf=k:=by rw[iI];exact nE k
 rw[e];refine⟨rfl,?_⟩;have:=h.map iOf
 rwa [e,iI,show List.map (iOf∘D.int) l=l from nE l] at this
def xh{n:Nat}{t c:gB}(g:TT n t)(h1:(c.map ab).Nodup)(f: ∀s∈c,SG n s):((c.map (led t)).map ab).Nodup:=by
 rw[iI,List.Nodup,nI];rw[List.Nodup,nI] at h1;refine h1.imp_of_mem λ{a b} j k i e=>i ?_;have e:ab (led t a)=ab (led t b):=e;have h:=f a j;have d:=f b k;by_cases q:led t a=led t b
 ·rw[C0 g h d q]
 ·have:led t a=led t (-b):=by
   rw[Pk t d];unfold ab at e;split at e<;>split at e<;>omega
  rw[C0 g h (Q9 d) this,nC]
theorem su{n:Nat}{t c:gB}(j:TT n t)(g:ClOk n c):LCs t c (lc t c)/\(ky ltA ((c.map (led t)).map D.int))=(lc t c).map D.int:=by
 obtain⟨e,i⟩:=Ew (iE ltA ((c.map (led t)).map D.int));refine⟨⟨i,?_⟩,e⟩;have k:=xh j (AO g.2.1) λs d=>g.2.2 s d;have f:((lc t c).map ab).Nodup:=(i.map ab).symm.nodup k;have d:=wC ((c.map (led t)).map D.int);rw[e,nI] at d;rw[nI];rw[List.Nodup,nI] at f;refine(d.and f).imp λ{a b} h=>?_;have h1:ab a<=ab b:=h.1;have l:ab a≠ab b:=h.2;omega
theorem LCs.uniq{n:Nat}{t c d e:gB}(h1:LCs t c d)(f:LCs t c e):d=e:=by
 have g:=h1.2;have h:=f.2;rw[nI] at g h;refine(h1.1.trans f.1.symm).eq_of_pairwise (le:=λa b=>ab a<ab b) (λa b _ _ x y=>absurd x (by omega)) g h
def LCs.cl{n:Nat}{t c d:gB}(h:LCs t c d)(f:TT n t)(a:ClOk n c):ClOk n d:=by
 refine⟨λe=>a.1 ?_,h.2,λs b=>?_⟩
 ·have:=h.1.length_eq;rw[e] at this;simp at this;exact ND.mp this.symm
 ·obtain⟨x,g,rfl⟩:=kZ.mp (h.1.mem_iff.mp b);exact f.led (a.2.2 x g)
def U2{n:Nat}{t c:gB}(b:TT n t)(a:ClOk n c):ClOk n (lc t c):=(su b a).1.cl b a
theorem U1{n:Nat}{c:gB}(a:ClOk n c):lc (st n) c=c:=by
 refine LCs.uniq (n:=n) (t:=st n) (c:=c) (su (Uj n) a).1 ⟨List.Perm.of_eq ?_,a.2.1⟩
 conv=>lhs;rw[<-nE c]
 exact mQ λs b=>(SD (a.2.2 s b)).symm
def LR(t:gB)(cs a:ik):Prop:=a.Perm (cs.map (lc t))/\SrtC a
def RJ(b:FO)(a:Dn)(d:D):Prop:= ∃o,b a=some (o,a)/\res a o=some d
def FJ(b:FO)(a:Dn)(d:D):Prop:= ∃o,b a=some (o,a)/\res a o=some d/\xF a o=some (d,false)
theorem FJ.r{c:FO}{δ:Dn}{d:D}(h:FJ c δ d):RJ c δ d:=let⟨o,a,b,_⟩:=h;⟨o,a,b⟩
theorem jV{i:Nat}{δ:Dn}{d:D}(h:δ[i]?=some (some (d,false))):FJ (gh i) δ d:=⟨.slot i,by unfold gh;rw[h],by unfold res;simp[h],by simp[h]⟩
def jR{i:Nat}{a:Dn}{d:D}{b:Bool}(h:a[i]?=some (some (d,b))):RJ (gh i) a d:=⟨.slot i,by unfold gh;rw[h],by unfold res;simp[h]⟩
theorem jE{f:F}{δ:Dn}{d:D}{b:Bool}(h:f δ=some ((d,b),δ)):FJ (gi f) δ d:=⟨.val (d,b),gG h,rfl,rfl⟩
theorem jU1{c:EvF}{e:FO}{δ:Dn}{a:D}{r:D×Bool}{b:Dn}(h:c [(a,false)]=some (r,b))(g:FJ e δ a):gz c [e] δ=some (r,δ):=by
 obtain⟨o,h1,_,f⟩:=g;refine(iY (qj h1) (args:=[a].map λd=>(d,false)) (by simp[f]) (by rw[rq];exact mE) h).trans ?_;rw[DD]
def jU2{c:EvF}{e fb:FO}{δ:Dn}{a b:D}{r:D×Bool}{outs:Dn}(h:c [(a,false),(b,false)]=some (r,outs))(g:FJ e δ a)(i:FJ fb δ b):gz c [e,fb] δ=some (r,δ):=by
 obtain⟨o,h1,_,f⟩:=g;obtain⟨l,j,_,k⟩:=i;refine(iY (lg h1 j) (args:=[a,b].map λd=>(d,false)) (by simp[f,k]) (by rw[rq];exact mE) h).trans ?_;rw[DD]
theorem jO{g:D->D->Option (D×Bool)}{c fb:FO}{δ:Dn}{a b:D}{r:D×Bool}(h:g a b=some r)(e:RJ c δ a)(f:RJ fb δ b):gr g c fb δ=some (r,δ):=by
 obtain⟨o,h1,d⟩:=e;obtain⟨k,i,j⟩:=f;exact iH h1 i d j h
def jC{g:D->Option (D×Bool)}{b:FO}{δ:Dn}{a:D}{r:D×Bool}(h:g a=some r)(d:RJ b δ a):gC (g1 g) [b] δ=some (r,δ):=by
 obtain⟨o,h1,c⟩:=d;exact iR (ds:=[a]) (qj h1) (by simp[c]) h
def Jc{f:F}{np:Nat}{args:List (D×Bool)}{r:D×Bool}{δ:Dn}(h1:args.length=np/\np<=np/\(args.zipIdx.all λp=>!(p.1.2&&([]:List Nat).contains p.2))=true)(a:f (args.map some++List.replicate (np-np) none)=some (r,δ)):evF np np [] (gx (jA f) gH) args=some (r,gW args δ):=
 jL h1 (iG (kh a))
def Uq{n:Nat}{s:Int}(h:SG n s):s≠0/\ -(n:Int)<=s/\s<=n:=by
 obtain⟨k,hk,rfl|rfl⟩:=nO h<;>lia
def U0{n:Nat}{u:gB}(d:u.length=n){s:Int}(h:SG n s):mI [enc u,(.int s,false)]=some ((.int (led u s),false),[some (enc u),some (.int s,false)]):=by
 obtain⟨a,b,c⟩:=Uq h;exact SF u s a (by rw[d];exact b) (by rw[d];exact c)
theorem Mv(f:Int->Int)(l:gB):(l.map D.int).map (λd=>D.int (f (iOf d)))=(l.map f).map D.int:=by rw[iI,iI];rfl
def Bi{a:jf}{c:FIt}{f:F}{e b:Dn}{l:gB}{args:List D}(g:Int->Int)(h1:c e=some (l.map D.int,b))(i:jq b (a.map .slot)=some (args.map λd=>(d,false)))(j:args.length=a.length)
  (h: ∀x∈l,∃o,f (frz args++[some (.int x,false)])=some ((.int (g x),o),frz args++[some (.int x,false)]))(k:l.length<=10000):
  hZ a 1 c (gq a.length) iM (ip f) e=some ((.lst ((l.map g).map D.int),true),b):=by
 rw[zC (λd=> .int (g (iOf d))) h1 i j (λd hd=>by obtain⟨x,m,rfl⟩:=kZ.mp hd;exact h x m) (by simpa using k),Mv]
def DJ{n:Nat}(b:n<=5){t:gB}(a:TT n t):iT [(.int n,false),enc t]=some ((.bl true,false),[ii n,some (enc t)]):=by
 have h:tB n (cD t)=true:=by
  rw[DK];simp only[lB,kX,kn,qO,iI];refine⟨λd hd=>?_,a⟩;obtain⟨x,_,rfl⟩:=kZ.mp hd;rfl
 rw[rh n (cD t) (λl e=>by cases e;rw[iJ,a.len];lia),h]
def Ni{n:Nat}(a:n<=5){t:gB}(b:TT n t):kT [(.int n,false),enc t]=some ((.non,false),[ii n,some (enc t)]):=by
 have:sIf (mH (fT (gz iT [(gh 0),(gh 1)]))) (gx CH gH) gH [ii n,some (enc t)]=some (.nx [ii n,some (enc t)]):=
  (mT (vE (jX (jU2 (DJ a b) (jV rfl) (jV rfl))))).trans rfl
 have e:kN [ii n,some (enc t)]=some (.nx [ii n,some (enc t)]):=(gu this).trans rfl;simp only[kT,evF];rw[gD ⟨rfl,by decide,rfl⟩];show(match kN [ii n,some (enc t)] with|some (.rt r δ)=>some (r,gW _ δ)|some (.nx δ)=>some ((D.non,false),gW _ δ)|_=>none)=_;rw[e];rfl
def Ld{n:Nat}{t c:gB}(h:n<=5)(b:TT n t)(a:ClOk n c):uE (.lst ((c.map (led t)).map D.int))=some (.lst ((lc t c).map D.int),true):=by
 have:=a.len;show(if((c.map (led t)).map D.int).all isI=true/\(((c.map (led t)).map D.int).map aD).Nodup/\((c.map (led t)).map D.int).length<64 then some (D.lst (ky ltA ((c.map (led t)).map D.int)),true) else none)=_
 have e:((c.map (led t)).map D.int).all isI=true:=by
  rw[kn];intro d hd;obtain⟨x,_,rfl⟩:=kZ.mp hd;rfl
 have f:(((c.map (led t)).map D.int).map aD).Nodup:=by
  rw[iI];exact xh b (AO a.2.1) λs g=>a.2.2 s g
 rw[gD ⟨e,f,by simp;omega⟩,(su b a).2]
def Ph{n:Nat}(f:n<=5){t c:gB}(e:TT n t)(d:ClOk n c):jP [enc c,enc t]=some (enc (lc t c),[some (enc c),some (enc t)]):=by
 have:=d.len;refine Jc ⟨rfl,by decide,rfl⟩ (jC (a:= .lst ((lc t c).map D.int)) rfl (jE (b:=true) (jC (Ld f e d) (jE (b:=true) (Bi (args:=[cD t]) (led t) rfl rfl rfl (λx g=>⟨false,?_⟩) (by omega))).r)).r);exact jU2 (U0 e.len (d.2.2 x g)) (jV rfl) (jV rfl)
def PJ{a:jf}{b:FIt}{f:F}{δ δ1:Dn}{l:ik}{args:List D}(g:List Int->List Int)(h1:b δ=some (l.map cD,δ1))(c:jq δ1 (a.map .slot)=some (args.map λd=>(d,false)))(e:args.length=a.length)
  (h: ∀x∈l,∃o,f (frz args++[some (cD x,false)])=some ((cD (g x),o),frz args++[some (cD x,false)]))(i:l.length<=10000):
  hZ a 1 b (gq a.length) iM (ip f) δ=some ((.lst ((l.map g).map cD),true),δ1):=by
 rw[zC (λd=>cD (g (unC d))) h1 c e (λd hd=>by obtain⟨x,j,rfl⟩:=kZ.mp hd;rw[lO];exact h x j) (by simpa using i)];rw[iI,iI,mQ (g:=cD∘g) λx _=>by simp only[Function.comp,lO]]
def NX{cs:ik}(h:lZ (cs.map cD)=true)(b:cs.length<=10000): ∃a:List (List Int),a.Perm cs/\SrtC a/\jo (cs.map cD)=some (.lst (a.map cD),true):=by
 obtain⟨a,e,c⟩:=zA (iE ltT (cs.map cD));refine⟨a,c,?_,?_⟩
 ·have:=lY (cs.map cD);rw[e,nI] at this;exact this
 ·unfold jo;rw[gD ⟨h,by rw[iJ];exact xZ b⟩,e]
def Vk{f g:F}{δ:Dn}{a b:D×Bool}(h1:f δ=some (a,δ))(c:g δ=some (b,δ)):kO [f,g] δ=some ((.tup [a.1,b.1],false),δ):=by
 rw[Ro,show[f,g].map gi=[gi f,gi g] from rfl,lg (gG h1) (gG c)];simp[iN]
def UZ{n:Nat}{t:gB}{cs:ik}(g:TT n t)(f:Hl n cs): ∃d,LR t cs d/\G0 [(rD' n cs,false),enc t]=some ((rD' n d,false),[some (rD' n cs,false),some (enc t)]):=by
 have i:=f.1;have j:=f.2.2.2
 obtain⟨d,m,o,e⟩:=NX (cs:=cs.map (lc t)) (AH _ λc k=>by
  obtain⟨x,h,rfl⟩:=kZ.mp k;exact(U2 g (f.2.1.2 x h)).1) (by simp;omega)
 refine⟨d,⟨m,o⟩,?_⟩;refine jL (δ:=[some (rD' n cs,false),some (enc t),ii n,some (.tup (cs.map cD),false)]) ⟨rfl,by decide,rfl⟩ ?_;refine(gu (δ1:=[some (rD' n cs,false),some (enc t),ii n,some (.tup (cs.map cD),false)]) rfl).trans ?_;refine(gu (rk (jU2 (Ni i g) (jV rfl) (jV rfl)))).trans (iG (kh (Vk (a:=(.int n,false)) (b:=(.tup (d.map cD),false)) rfl (jC (a:= .lst (d.map cD)) rfl (jE (b:=true) (jC e (jE (b:=true) (PJ (l:=cs) (args:=[cD t]) (lc t) rfl rfl rfl (λx h=>⟨false,?_⟩) (by omega))).r)).r))));exact jU2 (Ph i g (f.2.1.2 x h)) (jV rfl) (jV rfl)
def Jd(n:Nat):gQ 1 n=(List.range' 1 n).map λ(k:Nat)=>D.int (k:Int):=by
 unfold gQ;rw[J3,iI];exact mQ λk _=>by simp
def dC(a:ik):D:= .oth .dct (a.map cD) (a.map λ_=> .bl true)
theorem A4: ∀l:List Int,(Ap (l.map .int)).isSome=true
 |[]=>rfl
 |x::l=>by
  have:=A4 l;simp only[iu,Ap,rB]
  cases h:Ap (l.map D.int) with
  |none=>rw[h] at this;cases this
  |some k=>rfl
theorem Ik(c:gB):(xM (cD c)).isSome=true:=A4 c
theorem Pq(a:ik):((a.map cD).all λk=>(xM k).isSome)=true:=by
 rw[kn];intro d hd;obtain⟨c,_,rfl⟩:=kZ.mp hd;exact Ik c
theorem MN(a:ik)(c:gB):pG (a.map cD) (cD c)=true:=by
 unfold pG;rw[Ik,Pq];simp
theorem HZ(c:gB): ∀a:List (List Int),(jQ (a.map cD) (a.map λ_=> .bl true) (cD c)).isSome=decide (c∈a)
 |[]=>rfl
 |x::a=>by
  simp only[iu,jQ,G3];by_cases h:x=c
  ·simp[h]
  ·have: ¬c=x:=λe=>h e.symm;simp[h,this,HZ c a]
def K7{k l:ik}(g:k.Perm l)(h1:SrtC k)(f:SrtC l):k=l:=by
 refine g.eq_of_pairwise (le:=λa b=>ltT (cD b) (cD a)=false) (λa b _ _ x y=>?_) h1 f;rw[pE] at x y;have d: ∀x:List Int,D.pr (cD x)=true:=λx=>by simp[D.pr,vc]
 have e:cT (cD a) (cD b)= .eq:=by
  rw[vJ] at x
  cases c:cT (cD a) (cD b) with
  |lt=>exact absurd c y
  |gt=>rw[c] at x;exact absurd rfl x
  |eq=>rfl
 have:=vK _ _ (d a) (d b) e;simpa[lO] using lX unC this
def PT(n m:Nat)(p:gB):Prop:=p.length=m/\(∀x∈p,SG n x)/\(p.map ab).Nodup
theorem PT.tt{n:Nat}{t:gB}(h:PT n n t):TT n t:=Jo.mpr ⟨by simp[h.1],λx a=>by
 obtain⟨y,b,rfl⟩:=kZ.mp a;exact h.2.1 y b,h.2.2⟩
def Sy{n m:Nat}{p c:gB}(h:PT n m p)(d:ClOk m c):((c.map (led p)).map ab).Nodup:=by
 rw[iI];have f:=AO d.2.1;rw[JW] at f ⊢;rw[nI] at f ⊢;refine J1 ?_ f;intro a b g i l e;simp only[Function.comp] at e;rw[Ny h.1 (d.2.2 a g),Ny h.1 (d.2.2 b i)] at e;have h1:=d.2.2 a g;have o:=d.2.2 b i;have j:(ab a).toNat-1<(p.map ab).length:=by simp[h.1];lia
 have k:(ab b).toNat-1<(p.map ab).length:=by simp[h.1];lia
 simp only[oo,hX j,hX k,Option.getD_some] at e;have:=(F7 h.2.2).mp e
 lia
theorem Pl(p c:gB):ky ltA ((c.map (led p)).map D.int)=(lc p c).map D.int:=(Ew (iE ltA _)).1
def SA{n m:Nat}(l:m<=5){p c:gB}(h:PT n m p)(e:ClOk m c):jP [enc c,enc p]=some (enc (lc p c),[some (enc c),some (enc p)]):=by
 have k:=e.len
 have i:uE (.lst ((c.map (led p)).map D.int))=some (.lst ((lc p c).map D.int),true):=by
  show(if((c.map (led p)).map D.int).all isI=true/\(((c.map (led p)).map D.int).map aD).Nodup/\((c.map (led p)).map D.int).length<64 then some (D.lst (ky ltA ((c.map (led p)).map D.int)),true) else none)=_
  have f:((c.map (led p)).map D.int).all isI=true:=by
   rw[kn];intro d hd;obtain⟨x,_,rfl⟩:=kZ.mp hd;rfl
  have g:(((c.map (led p)).map D.int).map aD).Nodup:=by
   rw[iI];exact Sy h e
  rw[gD ⟨f,g,by simp;lia⟩,Pl]
 refine Jc ⟨rfl,by decide,rfl⟩ (jC (a:= .lst ((lc p c).map D.int)) rfl (jE (b:=true) (jC i (jE (b:=true) (Bi (args:=[cD p]) (led p) rfl rfl rfl (λx j=>⟨false,?_⟩) (by lia))).r)).r);exact jU2 (U0 h.1 (e.2.2 x j)) (jV rfl) (jV rfl)
theorem Pj{m:Nat}{p:gB}(a:p.length=m)(r:gB){s:Int}(h:SG m s):led (p++r) s=led p s:=by
 obtain⟨k,hk,rfl|rfl⟩:=nO h
 ·rw[mz,mz];simp[oo,qz (show k<p.length by lia)]
 ·rw[ly,ly];simp[oo,qz (show k<p.length by lia)]
theorem SH{m:Nat}{p c:gB}(b:p.length=m)(r:gB)(a:ClOk m c):lc (p++r) c=lc p c:=by
 unfold lc;rw[mQ λs d=>Pj b r (a.2.2 s d)]
def sgs(n:Nat):List Int:=((List.range (2*n+1)).map λ(k:Nat)=> -(n:Int)+k).filter λs=>!(s==0)
def fre(n:Nat)(t:gB):List Int:=(sgs n).filter λs=>!t.contains s&&!t.contains (-s)
def exP(n:Nat)(L:ik):List (List Int):=L.flatMap λt=>(fre n t).map λs=>t++[s]
def kH(n:Nat):Nat->List (List Int)
 |0=>[[]]
 |m+1=>exP n (kH n m)
def Uo{n:Nat}{s:Int}:s∈sgs n↔SG n s:=by
 unfold sgs SG;simp only[Fb,kZ,rQ];constructor
 ·rintro⟨⟨k,hk,rfl⟩,b⟩;unfold ab;simp at b;split<;>lia
 ·rintro⟨h1,a⟩;unfold ab at h1 a;refine⟨⟨(s+n).toNat,by split at a<;>lia,by split at a<;>lia⟩,by simp;split at h1<;>lia⟩
theorem nZ{n:Nat}: ∀{m:Nat} {t:gB},t∈kH n m->PT n m t
 |0,t,h=>by simp[kH] at h;subst h;exact⟨rfl,λx c=>by simp at c,mE⟩
 |m+1,t,h=>by
  simp only[kH,exP,xG,kZ] at h;obtain⟨p,o,s,d,rfl⟩:=h;obtain⟨h1,j,k⟩:=nZ o;unfold fre at d;simp only[Fb,kX,Bool.not_eq_true',List.contains_eq_mem,decide_eq_false_iff_not] at d;obtain⟨d,f,i⟩:=d;have sg:=Uo.mp d;refine⟨by simp[h1],λx c=>?_,?_⟩
  ·rcases pK.mp c with c|c
   ·exact j x c
   ·simp at c;subst c;exact sg
  ·rw[mF,yf];refine⟨k,by simp,λa l b g e=>?_⟩;simp at g;subst g;subst e;obtain⟨x,c,e⟩:=kZ.mp l;unfold ab at e;have:x=s\/x= -s:=by split at e<;>split at e<;>lia
   rcases this with rfl|rfl
   ·exact f c
   ·exact i c
def vR: ∀n,n<6-> ∀m,m<6->(kH n m).length<=3840:=by decide+kernel
def Q3: ∀n,n<6->st n∈kH n n:=by decide+kernel
theorem SR{f g:FO}{δ δ1 δ2:Dn}{o1 o2:Opd}{i j:Int}(h1:f δ=some (o1,δ1))(a:g δ1=some (o2,δ2))(b:res δ2 o1=some (.int i))(c:res δ2 o2=some (.int j))(d: -1000<=i/\i<=1000)(e: -1000<=j/\j<=1000):xN f g δ=some (gQ i (j-i).toNat,δ2):=by
 unfold xN;rw[lg h1 a];simp only[ir,sO,b,c];rw[gD (by lia)]
theorem Dt{n:Nat}(b:n<=5):nv [(.int n,false)]=some ((.lst ((sgs n).map .int),true),[ii n]):=by
 have e:=G9 (caps:=[]) (fi:=xN (gi (jk lz (gh 0))) (gi (gr jt (gh 0) (gi (fC (.int 1)))))) (f:=hU 0) (ti:=fT (gr gNe (gh 0) (gi (fC (.int 0))))) (δ:=[ii n]) (δ1:=[ii n]) (l:=gQ (-(n:Int)) (2*n+1)) (args:=[]) (λd=>d) (λd=>!(iOf d==0)) ?_ rfl rfl (λd hd=>?_) (by simp[gQ];lia)
 ·have a:((gQ (-(n:Int)) (2*n+1)).filter λd=>!(iOf d==0)).map (λd=>d)=(sgs n).map .int:=by
   rw[List.map_id'];unfold gQ sgs;rw[show(λ(k:Nat)=>D.int (-(n:Int)+k))=D.int∘(λ(k:Nat)=> -(n:Int)+k) from rfl,<-iI,Fd];rfl
  rw[a] at e;exact Jc ⟨rfl,by decide,rfl⟩ e
 ·rw[SR (o1:= .val (.int (-n),false)) (o2:= .val (.int (n+1),false)) (δ1:=[ii n]) (δ2:=[ii n]) rfl rfl rfl rfl (by lia) (by lia),show((n:Int)+1- -n).toNat=2*n+1 by lia]
 ·obtain⟨k,_,rfl⟩:=kZ.mp hd;exact⟨by simp[iOf],λ_=>⟨false,rfl⟩⟩
abbrev tiE:FT:=(tV (fT (gr jI (gh 2) (gh 1))) (fT (gr jI (gi (jk lz (gh 2))) (gh 1))))
abbrev fE:F:=(gr jt (gh 1) (gi (kO [(hU 2)])))
def QU(n:Nat)(t:gB)(s:Int):tiE [ii n,some (enc t),ii s]=some (!t.contains s&&!t.contains (-s),[ii n,some (enc t),ii s]):=by
 have h1:fT (gr jI (gh 2) (gh 1)) [ii n,some (enc t),ii s]=some (!t.contains s,[ii n,some (enc t),ii s]):=jX (jO (yb s t) (jV rfl).r (jV rfl).r);have a:fT (gr jI (gi (jk lz (gh 2))) (gh 1)) [ii n,some (enc t),ii s]=some (!t.contains (-s),[ii n,some (enc t),ii s]):=jX (jO (yb (-s) t) (jE (b:=false) rfl).r (jV rfl).r);unfold tiE tV;rw[h1];simp only[ir];cases t.contains s
 ·simp only[yi,jh,ud];exact a
 ·rfl
def Vm(n:Nat)(t:gB)(a:t.length<=100)(s:Int):fE [ii n,some (enc t),ii s]=some ((cD (t++[s]),false),[ii n,some (enc t),ii s]):=by
 refine jO (b:= .tup [.int s]) ?_ (jV rfl).r (jE (b:=false) (by simp[iN,hU])).r;show jt (.tup (t.map .int)) (.tup [.int s])=_;simp only[jt];rw[gD (xZ (by simp;lia)),<-List.map_singleton,<-mF]
theorem Np{n:Nat}(e:n<=5): ∀(L:ik) (a:List D) (x y:Sl),(∀t∈L,t.length<=100)->a.length+10*L.length<=sizeLine->
  ∃u b,jK (gq 1) iM (Nq (ie (gz nv [(gh 0)])) (gq 2) tiE (ip fE)) (L.map cD) a [ii n,x,y]=some (a++(exP n L).map cD,[ii n,u,b])
 |[],a,x,y,_,_=>⟨x,y,by simp[jK,exP]⟩
 |t::L,a,x,y,h,o=>by
  have q:(sgs n).length<=10:=by
   have:=vU (λs:Int=>!(s==0)) ((List.range (2*n+1)).map λ(k:Nat)=> -(n:Int)+k);rcases(show n=0\/n=1\/n=2\/n=3\/n=4\/n=5 by lia) with rfl|rfl|rfl|rfl|rfl|rfl<;>decide
  simp only[ju] at o
  obtain⟨b,c⟩:=Nn (f:=fE) (ti:=tiE) (g:=λd=>cD (t++[iOf d])) (p:=λd=>!t.contains (iOf d)&&!t.contains (-(iOf d))) (pre:=[ii n,some (enc t)]) ((sgs n).map .int) a y (λd hd=>by
   obtain⟨s,_,rfl⟩:=kZ.mp hd;exact⟨QU n t s,λ_=>⟨false,Vm n t (h t iF) s⟩⟩) (by simp;lia)
  have j:(((sgs n).map D.int).filter λd=>!t.contains (iOf d)&&!t.contains (-(iOf d))).map (λd=>cD (t++[iOf d]))=((fre n t).map λs=>t++[s]).map cD:=by
   rw[Fd,iI,iI];rfl
  rw[j] at c
  have m:((fre n t).map λs=>t++[s]).length<=10:=by
   rw[iJ];exact ku (vU _ _) q
  obtain⟨x2,v,i⟩:=Np e L (a++((fre n t).map λs=>t++[s]).map cD) (some (enc t)) b (λr l=>h r (iK _ l)) (by rw[lM,iJ];lia);refine⟨x2,v,?_⟩;rw[iu,jK];rw[show gq 1 (cD t) [ii n,x,y]=some [ii n,some (enc t),y] from rfl];simp only[ir,va,jh];unfold Nq;rw[kM (jU1 (Dt e) (jV rfl))];simp only[ir];rw[show jK (gq 2) tiE (ip fE) ((sgs n).map .int) a [ii n,some (enc t),y]=_ from c];simp only[ir];refine(show _=_ from i).trans ?_;simp[exP]
def Jw{n:Nat}(a:n<=5)(L:ik)(h: ∀t∈L,t.length<=100)(b:L.length<=4000):jW [(.int n,false),(.lst (L.map cD),true)]=some ((.lst ((exP n L).map cD),true),[ii n,some (.lst (L.map cD),false)]):=by
 obtain⟨c,d,e⟩:=Np a L [] none none h (by rw[iN];simp;lia);refine jL (δ:=[ii n,some (.lst (L.map cD),false)]) ⟨rfl,by decide,rfl⟩ (iG (kh ?_));exact(zu (caps:=[0]) (l:=L.map cD) (δ1:=[ii n,some (.lst (L.map cD),false)]) (args:=[(.int n,false)]) (kM (o:=false) rfl) rfl mE e).trans rfl
def ln(c:gB):Nat:=(ab (c.getLastD 0)).toNat
theorem Ia{n:Nat}{c:gB}(h:ClOk n c):1<=ln c/\ln c<=n/\ClOk (ln c) c:=by
 obtain⟨b,h1,d⟩:=h;rcases BW c with rfl|⟨l,x,rfl⟩
 ·exact absurd rfl b
 rw[BV] at b h1 d ⊢;have e:ln (l++[x])=(ab x).toNat:=by simp[ln,List.getLastD_eq_getLast?]
 have f:=d x (by simp);rw[e];refine⟨by lia,by lia,b,h1,λs a=>⟨(d s a).1,?_⟩⟩;rcases pK.mp a with a|a
 ·rw[mF,rR] at h1;have:=h1.2.2 (ab s) (sY a) (ab x) (by simp)
  lia
 ·simp at a;subst a;lia
theorem ClOk.up{n m:Nat}{c:gB}(h:ClOk n c)(b:n<=m):ClOk m c:=⟨h.1,h.2.1,λs a=>by have:=h.2.2 s a;lia⟩
def Pm{n:Nat}{c:gB}(h:ClOk n c):gIx (cD c) (.int (-1))=some (.int (c.getLastD 0),false):=by
 rcases BW c with rfl|⟨l,x,rfl⟩
 ·exact absurd rfl h.1
 simp only[BV];simp[gIx,atI,ixN,List.getLastD_eq_getLast?];rw[gD (by lia),show(-1+((l.length:Int)+1)).toNat=l.length by lia];simp
def SU(c:gB)(a:ik):gIn (cD c) (.tup (a.map cD))=some (.bl (decide (c∈a)),false):=U7 c a
def okP(js a:ik)(m:Nat)(t:gB):Bool:=a.all λc=>!decide (ln c<=m)||decide (lc t c∈js)
def rdy(a:ik)(m:Nat):List (List Int):=a.filter λc=>ln c==m
theorem Ba{d e:Type}{P:d->Bool}{Q R:e->Bool}{f:d->List e}: ∀L:List d,(∀t∈L,∀u∈f t,R u=(P t&&Q u))->((L.filter P).flatMap f).filter Q=(L.flatMap f).filter R
 |[],_=>rfl
 |t::L,h=>by
  have g:=Ba L λt b=>h t (iK _ b);have b:=h t iF;rw[Fc,List.filter_append,<-g]
  cases a:P t with
  |true=>
   rw[Bx a,Fc,List.filter_append]
   congr 1
   exact List.filter_congr λu c=>by rw[b u c,a];rfl
  |false=>
   rw[Bw (by rw[a];decide)];have:(f t).filter R=[]:=List.filter_eq_nil_iff.mpr λu c=>by rw[b u c,a,Bool.false_and];exact je
   rw[this];rfl
def Mm{n m:Nat}{b a:ik}(hk: ∀c∈a,ClOk n c){t:gB}(f:t.length=m)(s:Int):okP b a (m+1) (t++[s])=(okP b a m t&&(rdy a (m+1)).all λc=>decide (lc (t++[s]) c∈b)):=by
 unfold okP rdy
 induction a with
 |nil=>rfl
 |cons c a g=>
  have e:=Ia (hk c iF);rw[uq,uq,g λc h=>hk c (iK _ h)];by_cases h1:ln c=m+1
  ·rw[Bx (by simp[h1]),uq,nG (show ln c<=m+1 by lia),lr (show ¬ln c<=m by lia)];simp only[oj,Bool.false_or,yi,Bool.true_or,ud];cases decide (lc (t++[s]) c∈b)<;>cases(a.all λc=>!decide (ln c<=m)||decide (lc t c∈b))<;>rfl
  ·rw[Bw (by simpa using h1)];by_cases d:ln c<=m
   ·rw[nG (show ln c<=m+1 by lia),nG d,SH f [s] (e.2.2.up d),Bool.and_assoc]
   ·rw[lr (show ¬ln c<=m+1 by lia),lr d,Bool.and_assoc];rfl
theorem Nc{n m:Nat}{js a:ik}(hk: ∀c∈a,ClOk n c):(exP n ((kH n m).filter (okP js a m))).filter (λu=>(rdy a (m+1)).all λc=>decide (lc u c∈js))=(kH n (m+1)).filter (okP js a (m+1)):=by
 refine Ba _ λt b u d=>?_;obtain⟨s,_,rfl⟩:=kZ.mp d;exact Mm hk (nZ b).1 s
theorem UU{n:Nat}{js a:ik}(hk: ∀c∈a,ClOk n c)(t:gB):okP js a 0 t=true:=kn.mpr λc b=>by
 rw[lr (by have:=(Ia (hk c b)).1;lia)];rfl
theorem UT{n:Nat}{js a:ik}(hk: ∀c∈a,ClOk n c)(t:gB):okP js a n t=a.all λc=>decide (lc t c∈js):=by
 unfold okP;rw[Fe,kn,kn];refine forall_congr' λc=>forall_congr' λb=>?_;rw[nG (Ia (hk c b)).2.1];rfl
abbrev NT:FT:=(fT (gC (g1 xQ) [(gi (hZ [0,2] 1 (ie (hU 1)) (gq 2) iM (ip (gr gIn (gi (gz jP [(gh 2),(gh 1)])) (gh 0)))))]))
abbrev Vj:FS:=(gx (iq 6 (hZ [5] 1 (ie (hU 3)) (gq 1) (fT (gr gEq (gi (gC (g1 oh) [(gi (gr gIx (gh 1) (gi (jk lz (gi (fC (.int 1)))))))])) (gh 0))) (ip (hU 1)))) (gx (iq 4 (hZ [1,6] 1 (ie (gz jW [(gh 2),(gh 4)])) (gq 2) NT (ip (hU 2)))) gH))
abbrev lsO(L:ik)(o:Bool):Sl:=some (.lst (L.map cD),o)
abbrev tpC(L:ik):Sl:=some (.tup (L.map cD),false)
def NS{n m:Nat}(g:m<=5){js a:ik}(h: ∀c∈a,ClOk m c)(j:a.length<=30){t:gB}(i:PT n m t)(o:Bool):NT [tpC js,lsO a o,some (enc t)]=some (a.all λc=>decide (lc t c∈js),[tpC js,lsO a false,some (enc t)]):=by
 have c:=ES (caps:=[0,2]) (fi:=ie (hU 1)) (f:=gr gIn (gi (gz jP [(gh 2),(gh 1)])) (gh 0)) (δ:=[tpC js,lsO a o,some (enc t)]) (δ1:=[tpC js,lsO a false,some (enc t)]) (l:=a.map cD) (args:=[.tup (js.map cD),cD t]) (λd=>decide (lc t (unC d)∈js)) (by cases o<;>exact kM (o:=false) rfl) rfl rfl (λd hd=>by
  obtain⟨c,e,rfl⟩:=kZ.mp hd;rw[lO];exact⟨false,jO (b:= .tup (js.map cD)) (SU _ _) (jE (b:=false) (jU2 (SA g i (h c e)) (jV rfl) (jV rfl))).r (jV rfl).r⟩) (by simp;lia)
 rw[show(a.map cD).all (λd=>decide (lc t (unC d)∈js))=a.all λc=>decide (lc t c∈js) by rw[List.all_map];simp only[yq,lO]] at c;exact jX c
theorem Nm{n m:Nat}(i:m<=5){js b:ik}(j: ∀c∈b,ClOk m c)(g:b.length<=30): ∀(L:ik) (a:List D) (o:Bool) (x:Sl),(∀t∈L,PT n m t)->a.length+L.length<=sizeLine->
  ∃d f,jK (gq 2) NT (ip (hU 2)) (L.map cD) a [tpC js,lsO b o,x]=some (a++(L.filter λt=>b.all λc=>decide (lc t c∈js)).map cD,[tpC js,lsO b d,f])
 |[],a,o,x,_,_=>⟨o,x,by simp[jK]⟩
 |t::L,a,o,x,h,r=>by
  have q:=NS i j g (h t iF) (js:=js) o;have k: ∀t∈L,PT n m t:=λt s=>h t (iK _ s);simp only[ju] at r;rw[iu,jK,show gq 2 (cD t) [tpC js,lsO b o,x]=some [tpC js,lsO b o,some (enc t)] from rfl];simp only[ir];rw[q];simp only[ir]
  cases l:b.all λc=>decide (lc t c∈js) with
  |false=>
   obtain⟨d,f,e⟩:=Nm i j g L a false (some (enc t)) k (by lia);exact⟨d,f,by rw[gL je,Bw (p:=λt=>b.all λc=>decide (lc t c∈js)) (by rw[l];exact je)];exact e⟩
  |true=>
   obtain⟨d,f,e⟩:=Nm i j g L (a++[cD t]) false (some (enc t)) k (by simp;lia);refine⟨d,f,?_⟩;rw[gD rfl,Bx (p:=λt=>b.all λc=>decide (lc t c∈js)) l];simp only[vb];rw[show hU 2 [tpC js,lsO b false,some (enc t)]=some ((cD t,false),[tpC js,lsO b false,some (enc t)]) from rfl];simp only[ir];rw[gD (by lia)];simp only[ir];rw[e];simp
def Th{t:FT}{f g:F}{δ δ1:Dn}{b:Bool}(h:t δ=some (b,δ1)):fIf t f g δ=if b=true then f δ1 else g δ1:=by unfold fIf;rw[h];rfl
theorem De{n:Nat}(a:n<=5): ∀L:List (List Int),(exP n L).length<=10*L.length
 |[]=>by simp[exP]
 |t::L=>by
  have:=De a L
  have b:((fre n t).map λs=>t++[s]).length<=10:=by
   rw[iJ];refine ku (vU _ _) ?_;rcases(show n=0\/n=1\/n=2\/n=3\/n=4\/n=5 by lia) with rfl|rfl|rfl|rfl|rfl|rfl<;>decide
  unfold exP at*;rw[Fc,lM,ju]
  lia
section
variable {n:Nat}{ks js:ik}(g:n<=5)(hk: ∀c∈ks,ClOk n c)(j:ks.length<=30)
include g hk j
abbrev dLd(n:Nat)(ks js L:ik)(x y:Sl):Dn:=[some (rD' n ks,false),tpC js,ii n,tpC ks,lsO L true,x,y]
theorem PF{m:Nat}(M:m+1<=n)(y:Sl): ∃J,Vj (dLd n ks js ((kH n m).filter (okP js ks m)) (ii ((m:Int)+1)) y)=some (.nx (dLd n ks js ((kH n (m+1)).filter (okP js ks (m+1))) (ii ((m:Int)+1)) J)):=by
 have q:=G9 (caps:=[5]) (fi:=ie (hU 3)) (f:=hU 1) (ti:=fT (gr gEq (gi (gC (g1 oh) [(gi (gr gIx (gh 1) (gi (jk lz (gi (fC (.int 1)))))))])) (gh 0))) (δ:=dLd n ks js ((kH n m).filter (okP js ks m)) (ii ((m:Int)+1)) y) (δ1:=dLd n ks js ((kH n m).filter (okP js ks m)) (ii ((m:Int)+1)) y) (l:=ks.map cD) (args:=[.int ((m:Int)+1)]) (λd=>d) (λd=>ln (unC d)==m+1) rfl rfl rfl (λd hd=>by
  obtain⟨c,s,rfl⟩:=kZ.mp hd;rw[lO];refine⟨jX (o:=false) (jO (a:= .int (ab (c.getLastD 0))) ?_ (jE (b:=false) (jC rfl (jE (b:=false) (jO (Pm (hk c s)) (jV rfl).r (jE (b:=false) rfl).r)).r)).r (jV rfl).r),λ_=>⟨false,rfl⟩⟩;have L:0<=ab (c.getLastD 0):=by unfold ab;split<;>lia
  have:(ln c==m+1)=decide (ab (c.getLastD 0)=(m:Int)+1):=by
   unfold ln;generalize ab (c.getLastD 0)=x at*;by_cases h:x=(m:Int)+1
   ·rw[nG h,h];simp
   ·rw[lr h];simp;lia
  rw[this];generalize ab (c.getLastD 0)=x;simp[gEq,D.eqb,D.dep,vM]) (by simp;lia)
 rw[Bb] at q;have er:(ks.filter λt=>ln (unC (cD t))==m+1)=rdy ks (m+1):=by simp only[lO];rfl
 rw[er] at q
 have I: ∀c∈rdy ks (m+1),ClOk (m+1) c:=λc s=>by
  obtain⟨h1,w⟩:=Fb.mp s;have:=Ia (hk c h1);rw[beq_iff_eq] at w;rw[<-w];exact this.2.2
 have u:(rdy ks (m+1)).length<=30:=ku (vU _ _) j;have A: ∀t∈(kH n m).filter (okP js ks m),PT n m t:=λt k=>nZ (Fb.mp k).1;have B:((kH n m).filter (okP js ks m)).length<=3840:=ku (vU _ _) (vR n (by lia) m (by lia))
 have C: ∀t∈exP n ((kH n m).filter (okP js ks m)),PT n (m+1) t:=λt k=>by
  refine nZ (m:=m+1) ?_;obtain⟨p,G,H⟩:=xG.mp k;exact xG.mpr ⟨p,(Fb.mp G).1,H⟩
 have E:(exP n ((kH n m).filter (okP js ks m))).length<=38400:=by
  have:=De g ((kH n m).filter (okP js ks m))
  lia
 obtain⟨v,N,e⟩:=Nm (n:=n) (m:=m+1) (by lia) (js:=js) I u (exP n ((kH n m).filter (okP js ks m))) [] true none C (by rw[iN];simp;lia);rw[qr,Nc hk] at e;refine⟨lsO (rdy ks (m+1)) v,?_⟩
 have z:hZ [1,6] 1 (ie (gz jW [(gh 2),(gh 4)])) (gq 2) NT (ip (hU 2)) (dLd n ks js ((kH n m).filter (okP js ks m)) (ii ((m:Int)+1)) (lsO (rdy ks (m+1)) true))=some ((.lst (((kH n (m+1)).filter (okP js ks (m+1))).map cD),true),[some (rD' n ks,false),tpC js,ii n,tpC ks,lsO ((kH n m).filter (okP js ks m)) false,ii ((m:Int)+1),lsO (rdy ks (m+1)) v]):=by
  refine(zu (caps:=[1,6]) (args:=[(.tup (js.map cD),false),(.lst ((rdy ks (m+1)).map cD),true)]) (δ1:=[some (rD' n ks,false),tpC js,ii n,tpC ks,lsO ((kH n m).filter (okP js ks m)) false,ii ((m:Int)+1),lsO (rdy ks (m+1)) true]) (kM (o:=true) ?_) rfl (show([6]:List Nat).Nodup by decide) e).trans ?_
  ·exact iY (δ1:=dLd n ks js ((kH n m).filter (okP js ks m)) (ii ((m:Int)+1)) (lsO (rdy ks (m+1)) true)) (os:=[.slot 2,.slot 4]) (args:=[(.int n,false),(.lst (((kH n m).filter (okP js ks m)).map cD),true)]) rfl rfl (show([4]:List Nat).Nodup by decide) (Jw g _ (λt k=>by have:=(A t k).1;lia) (by lia))
  ·cases v<;>rfl
 exact(gu (iA q (show 6<7 by decide))).trans ((gu (iA (i:=4) z (show 4<7 by decide))).trans rfl)
theorem GQ:ml [(rD' n ks,false),(.tup (js.map cD),false)]=some ((.lst (((kH n n).filter λt=>ks.all λc=>decide (lc t c∈js)).map cD),true),[some (rD' n ks,false),tpC js]):=by
 obtain⟨_,⟨m,x,y,i,rfl⟩,e⟩:=sA (tg:=gq 5) (fb:=Vj) (λds δ=> ∃(m:Nat) (x y:Sl),(m<=n/\ds=(List.range' (m+1) (n-m)).map λ(k:Nat)=>D.int (k:Int))/\δ=dLd n ks js ((kH n m).filter (okP js ks m)) x y) (λd ds δ ⟨m,x,y,⟨h1,a⟩,h⟩=>by
  subst h
  have l:m<n:=by
   rcases Nat.lt_or_ge m n with h|h
   ·exact h
   ·rw[show n-m=0 by lia] at a;cases a
  rw[show n-m=(n-(m+1))+1 by lia,BY,iu] at a;obtain⟨rfl,rfl⟩:=ui a;obtain⟨o,e⟩:=PF (js:=js) g hk j (m:=m) (by lia) y
  exact⟨_,_,rfl,e,m+1,_,o,⟨l,rfl⟩,rfl⟩) ((List.range' 1 n).map λ(k:Nat)=>D.int (k:Int)) (dLd n ks js [[]] none none) ⟨0,none,none,⟨kb _,rfl⟩,by
   rw[TL.mpr λt _=>UU hk t];rfl⟩
 obtain⟨p,f⟩:=i
 have b:m=n:=by
  rcases Nat.lt_or_ge m n with h|h
  ·rw[show n-m=(n-(m+1))+1 by lia,BY] at f;cases f
  ·lia
 subst b;rw[List.filter_congr λt _=>UT hk t] at e;refine jL (δ:=[some (rD' m ks,false),tpC js,ii m,tpC ks,none,x,y]) ⟨rfl,by decide,rfl⟩ ?_;refine(gu (δ1:=[some (rD' m ks,false),tpC js,ii m,tpC ks,none,none,none]) rfl).trans ((gu (δ1:=dLd m ks js [[]] none none) (by simp[iN])).trans ?_);refine(gu ((ki (ds:=(List.range' 1 m).map λ(k:Nat)=>D.int (k:Int)) (δ1:=dLd m ks js [[]] none none) ?_).trans e)).trans (iG ?_)
 ·rw[Im (o1:= .val (.int 1,false)) (o2:= .val (.int ((m:Int)+1),false)) (δ2:=dLd m ks js [[]] none none) rfl rfl rfl rfl (by lia) (by lia),show((m:Int)+1-1).toNat=m by lia,Jd]
 ·rfl
theorem tM:lC [(rD' n ks,false)]=some ((.lst (((kH n n).filter λt=>ks.all λc=>decide (lc t c∈ks)).map cD),true),[some (rD' n ks,false)]):=by
 refine Jc ⟨rfl,by decide,rfl⟩ (jU2 (b:=rD' n ks) (outs:=[some (rD' n ks,false),some (rD' n ks,false)]) ?_ (jV rfl) (jV rfl));refine Jc ⟨rfl,by decide,rfl⟩ (δ:=[some (rD' n ks,false),some (rD' n ks,false)]) ((Th (b:=true) (δ1:=[some (rD' n ks,false),some (rD' n ks,false)]) (jX (o:=false) (jO (a:= .int ks.length) (EF (by simp[D.dep])) (jE (b:=false) (jC ?_ (jE (b:=false) (jO rfl (jV rfl).r (jE rfl).r)).r)).r (jE (b:=false) (jC ?_ (jE (b:=false) (jO rfl (jV rfl).r (jE rfl).r)).r)).r))).trans ?_)
 ·simp[mh]
 ·simp[mh]
 ·exact jU2 (GQ g hk j) (jV rfl) (jE (b:=false) (jO rfl (jV rfl).r (jE rfl).r))
end
def LC{a:gB}{w:Int}(h:ab w∉a.map ab):yR a w=a++[w]:=by unfold yR;rw[gL h]
theorem Qq{n:Nat}{t:gB}(g:TOk n t)(l:n<=5)(b:Sl): ∀(c a:gB) (x3 x4:Sl),(∀s∈c,1<=ab s/\ab s<=n)->DW n a->((a++c.map (led t)).map ab).Nodup->DW n (a++c.map (led t))/\ ∃d j,lA (gq 3) fbL (c.map .int) [some (enc t),b,some (dD a,true),x3,x4]=some (.nx [some (enc t),b,some (dD (a++c.map (led t)),true),d,j])
 |[],a,x3,x4,_,hw,_=>by simp only[mR,yy];exact⟨hw,x3,x4,rfl⟩
 |s::c,a,x3,x4,h,hw,i=>by
  have f:=h s iF
  have p:ab (led t s)∉a.map ab:=by
   rw[mF,yf] at i;exact λz=>i.2.2 _ z _ (by simp) rfl
  have m:=LC p;have k:a++(s::c).map (led t)=(a++[led t s])++c.map (led t):=by simp
  obtain⟨h1,d,j,e⟩:=Qq g l b c (a++[led t s]) (some (.int s,false)) (some (.int (led t s),false)) (λx o=>h x (iK _ o)) (m▸hw.put (GP g f.1 f.2)) (k▸i);rw[k];refine⟨h1,d,j,?_⟩;rw[iu];unfold lA;rw[show gq 3 (.int s) [some (enc t),b,some (dD a,true),x3,x4]=some [some (enc t),b,some (dD a,true),some (.int s,false),x4] from rfl];simp only[ir];rw[M6 g l f hw,m];simp only[ir];exact e
def Eg{l:gB}(h:(l.map ab).Nodup):l.Nodup:=List.Pairwise.of_map ab (λ_ _ h e=>h (lX ab e)) h
def MA{n:Nat}(f:n<=5){t c:gB}(b:TT n t)(a:ClOk n c):ig [enc t,enc c]=some (enc (lc t c),[some (enc t),some (enc c)]):=by
 have h:=xh b (AO a.2.1) λs m=>a.2.2 s m;obtain⟨g,x3,x4,e⟩:=Qq b.tok f (some (enc c)) c [] none none a.2.2 ⟨by simp,by simp⟩ (by simpa using h);rw[qr] at g e;obtain⟨i,⟨h1,j,d⟩,e⟩:=Ie f g (by simpa using a.1) e;rw[e];have k:LCs t c i:=⟨?_,h1⟩
 ·rw[LCs.uniq (n:=n) k (su b a).1]
 ·have l:=d.length_eq;simp only[iJ] at l;exact CW _ _ (Eg (d.symm.nodup h)) j (by simp;lia)
theorem N2: ∀n:Nat,n<6->sgs n=sts n++st n:=by decide
abbrev M5:FS:=(gx (sIf (tV (fT (gr jI (gh 5) (gh 4))) (fT (gr jI (gi (jk lz (gh 5))) (gh 4)))) (gx (lQ (jD 3 (gr jt (gh 4) (gi (kO [(hU 5)]))))) gH) gH) gH)
abbrev S9:FS:=(gx (nQ (ie (gr jt (gi (gC (gRg .lst true) [(gi (jk lz (gh 0))),(gi (fC (.int 0)))])) (gi (gC (gRg .lst true) [(gi (fC (.int 1))),(gi (gr jt (gh 0) (gi (fC (.int 1)))))])))) (gq 5) M5) gH)
abbrev Vi:FS:=(gx (iq 3 (kD [])) (gx (nQ (ie (hU 1)) (gq 4) S9) (gx (iq 1 (hU 3)) gH)))
abbrev dS(n:Nat)(a b:Sl)(F:ik)(c d:Sl):Dn:=[ii n,a,b,lsO F true,c,d]
def Pz(n:Nat)(a c:Sl)(F:ik)(g:F.length<=100000){t:gB}(h:t.length<=100)(s:Int):M5 (dS n a c F (some (enc t)) (ii s))=some (.nx (dS n a c (if(!t.contains s&&!t.contains (-s))=true then F++[t++[s]] else F) (some (enc t)) (ii s))):=by
 have h1:fT (gr jI (gh 5) (gh 4)) (dS n a c F (some (enc t)) (ii s))=some (!t.contains s,dS n a c F (some (enc t)) (ii s)):=jX (jO (yb s t) (jV rfl).r (jV rfl).r);have f:fT (gr jI (gi (jk lz (gh 5))) (gh 4)) (dS n a c F (some (enc t)) (ii s))=some (!t.contains (-s),dS n a c F (some (enc t)) (ii s)):=jX (jO (yb (-s) t) (jE (b:=false) rfl).r (jV rfl).r)
 have d:tV (fT (gr jI (gh 5) (gh 4))) (fT (gr jI (gi (jk lz (gh 5))) (gh 4))) (dS n a c F (some (enc t)) (ii s))=some (!t.contains s&&!t.contains (-s),dS n a c F (some (enc t)) (ii s)):=by
  unfold tV;rw[h1];simp only[ir];cases t.contains s
  ·simp only[yi,jh,ud];exact f
  ·rfl
 cases e:(!t.contains s&&!t.contains (-s)) with
 |false=>rw[e] at d;exact(gu ((mT d).trans rfl)).trans rfl
 |true=>
  rw[e] at d;rw[gD rfl];refine(gu ((qB d).trans ((gu (rk (r:=(.non,false)) ?_)).trans rfl))).trans rfl;refine(qk (i:=3) (δ1:=dS n a c F (some (enc t)) (ii s)) (l0:=F.map cD) (l:=F.map cD) (r:=(cD (t++[s]),false)) rfl ?_ rfl (by rw[iN];simp;lia)).trans ?_
  ·refine jO (b:= .tup [.int s]) ?_ (jV rfl).r (jE (b:=false) (by simp[iN,hU])).r;show jt (.tup (t.map .int)) (.tup [.int s])=_;simp only[jt];rw[gD (xZ (by simp;lia)),<-List.map_singleton,<-mF]
  ·simp
theorem M1(n:Nat)(a b:Sl){t:gB}(i:t.length<=100): ∀(l:gB) (F:ik) (d:Sl),F.length+l.length<=100000-> ∃c,lA (gq 5) M5 (l.map .int) (dS n a b F (some (enc t)) d)=some (.nx (dS n a b (F++(l.filter λs=>!t.contains s&&!t.contains (-s)).map λs=>t++[s]) (some (enc t)) c))
 |[],F,d,_=>⟨d,by simp[lA]⟩
 |s::l,F,d,h=>by
  simp only[ju] at h;have j:=Pz n a b F (by lia) i s
  have f: ∀G c,lA (gq 5) M5 (l.map .int) (dS n a b (if(!t.contains s&&!t.contains (-s))=true then F++[t++[s]] else F) (some (enc t)) (ii s))=some (.nx (dS n a b G (some (enc t)) c))->lA (gq 5) M5 ((s::l).map .int) (dS n a b F (some (enc t)) d)=some (.nx (dS n a b G (some (enc t)) c)):=λG c e=>by
   rw[iu];unfold lA;rw[show gq 5 (.int s) (dS n a b F (some (enc t)) d)=some (dS n a b F (some (enc t)) (ii s)) from rfl];simp only[ir];rw[j];exact e
  cases g:(!t.contains s&&!t.contains (-s)) with
  |true=>
   rw[g,gD rfl] at f;obtain⟨c,e⟩:=M1 n a b i l (F++[t++[s]]) (ii s) (by simp;lia);refine⟨c,f _ _ (e.trans ?_)⟩;rw[Bx (by exact g)];simp
  |false=>
   rw[g,gL je] at f;obtain⟨c,e⟩:=M1 n a b i l F (ii s) (by lia);refine⟨c,f _ _ (e.trans ?_)⟩;rw[Bw (by rw[g];exact je)]
def PC{n:Nat}(h:n<=5)(c d:Sl){t:gB}(i:t.length<=100)(F:ik)(j:F.length<=90000)(g:Sl): ∃f,S9 (dS n c d F (some (enc t)) g)=some (.nx (dS n c d (F++(fre n t).map λs=>t++[s]) (some (enc t)) f)):=by
 have k:(sgs n).length<=10:=by
  rcases(show n=0\/n=1\/n=2\/n=3\/n=4\/n=5 by lia) with rfl|rfl|rfl|rfl|rfl|rfl<;>decide
 obtain⟨f,e⟩:=M1 n c d i (sgs n) F g (by lia);refine⟨f,(gu ((ki (kM (o:=true) ?_)).trans e)).trans rfl⟩;rw[N2 n (by lia),mF];refine jO (a:= .lst ((sts n).map .int)) (b:= .lst ((st n).map .int)) ?_ (jE (b:=true) ?_).r (jE (b:=true) ?_).r
 ·simp only[jt];rw[gD (xZ (by simp[sts,K6];lia))]
 ·exact iR (os:=[.val (.int (-n),false),.val (.int 0,false)]) rfl rfl (Rg n h)
 ·exact iR (os:=[.val (.int 1,false),.val (.int ((n:Int)+1),false)]) rfl rfl (Gs n h)
theorem Qp{n:Nat}(g:n<=5)(b c:Sl): ∀(L F:ik) (d a:Sl),(∀t∈L,t.length<=100)->F.length+10*L.length<=80000-> ∃f j,lA (gq 4) S9 (L.map cD) (dS n b c F d a)=some (.nx (dS n b c (F++exP n L) f j))
 |[],F,d,a,_,_=>⟨d,a,by simp[lA,exP]⟩
 |t::L,F,d,a,h,m=>by
  simp only[ju] at m;obtain⟨o,l⟩:=PC g b c (h t iF) F (by lia) a;have k:=De g [t];have i:exP n [t]=(fre n t).map λs=>t++[s]:=by simp[exP]
  rw[i] at k;simp only[wq] at k;obtain⟨f,j,e⟩:=Qp g b c L (F++(fre n t).map λs=>t++[s]) (some (enc t)) o (λt i=>h t (iK _ i)) (by rw[lM];lia);refine⟨f,j,?_⟩;rw[iu];unfold lA;rw[show gq 4 (cD t) (dS n b c F d a)=some (dS n b c F (some (enc t)) a) from rfl];simp only[ir];rw[l];refine(show _=_ from e).trans ?_;simp[exP]
def PD{n:Nat}(i:n<=5)(L:ik)(h: ∀t∈L,t.length<=100)(j:L.length<=4000)(o:Bool)(a g c d:Sl): ∃b f,Vi [ii n,lsO L o,a,g,c,d]=some (.nx [ii n,lsO (exP n L) false,a,lsO (exP n L) false,b,f]):=by
 obtain⟨b,f,e⟩:=Qp i (lsO L false) a L [] c d h (by simp;lia);refine⟨b,f,(gu (δ1:=[ii n,lsO L o,a,lsO [] true,c,d]) (by simp[iN])).trans ((gu ((ki (kM (o:=false) (by cases o<;>rfl))).trans e)).trans rfl)⟩
def E6{n:Nat}(j:n<=5): ∃o,lh [(.int n,false)]=some ((.lst ((kH n n).map cD),o),[ii n]):=by
 obtain⟨_,⟨m,o,f,a,b,c,i,rfl⟩,e⟩:=sA (tg:=gq 2) (fb:=Vi) (λg δ=> ∃(m:Nat) (o:Bool) (f a b c:Sl),(m+g.length=n)/\δ=[ii n,lsO (kH n m) o,f,a,b,c]) (λd g δ ⟨m,o,f,a,b,c,h1,h⟩=>by
  subst h;simp only[ju] at h1;obtain⟨l,p,e⟩:=PD j (kH n m) (λt k=>by have:=(nZ k).1;lia) (by have:=vR n (by lia) m (by lia);lia) o (some (d,false)) a b c;exact⟨_,_,rfl,e,m+1,false,_,_,_,_,by lia,rfl⟩) (gQ 0 n) [ii n,lsO [[]] true,none,none,none,none] ⟨0,true,none,none,none,none,by simp[gQ],rfl⟩
 simp only[oV,Nat.add_zero] at i;subst i;refine⟨o,?_⟩;cases o
 ·refine jL (δ:=[ii m,lsO (kH m m) false,f,a,b,c]) ⟨rfl,by decide,rfl⟩ ((gu (δ1:=[ii m,lsO [[]] true,none,none,none,none]) (by simp[iN])).trans ((gu ((ki ?_).trans e)).trans (iG rfl)));exact qf (o:= .slot 0) rfl rfl (by lia)
 ·refine jL (δ:=[ii m,none,f,a,b,c]) ⟨rfl,by decide,rfl⟩ ((gu (δ1:=[ii m,lsO [[]] true,none,none,none,none]) (by simp[iN])).trans ((gu ((ki ?_).trans e)).trans (iG rfl)));exact qf (o:= .slot 0) rfl rfl (by lia)
abbrev GX:FS:=(gx (sIf (fT (gr oH (gi (gz ig [(gh 0),(gh 3)])) (gh 2))) (gx (jA (fC (.bl false))) gH) gH) gH)
def Ju(c:gB)(a:ik):oH (cD c) (dC a)=some (.bl (!decide (c∈a)),false):=by
 unfold oH SV dC;simp only;rw[gD (MN a c),HZ];rfl
theorem Ve{n:Nat}(l:n<=5){t:gB}(m:TT n t)(a:ik)(b:Bool)(f:Sl): ∀(g:ik) (x:Sl),(∀c∈g,ClOk n c)-> ∃j,lA (gq 3) GX (g.map cD) [some (enc t),f,some (dC a,b),x]=if(g.all λc=>decide (lc t c∈a))=true then some (.nx [some (enc t),f,some (dC a,b),j]) else some (.rt (.bl false,false) [some (enc t),f,some (dC a,b),j])
 |[],x,_=>⟨x,rfl⟩
 |c::g,x,h=>by
  have s:=h c iF;have i:fT (gr oH (gi (gz ig [(gh 0),(gh 3)])) (gh 2)) [some (enc t),f,some (dC a,b),some (enc c)]=some (!decide (lc t c∈a),[some (enc t),f,some (dC a,b),some (enc c)]):=jX (jO (b:=dC a) (Ju _ _) (jE (b:=false) (jU2 (MA l m s) (jV rfl) (jV rfl))).r (jR rfl))
  have p:lA (gq 3) GX ((c::g).map cD) [some (enc t),f,some (dC a,b),x]=(GX [some (enc t),f,some (dC a,b),some (enc c)]).bind λo=>match o with
   | .nx d=>lA (gq 3) GX (g.map cD) d
   | .ct d=>lA (gq 3) GX (g.map cD) d
   | .bk d=>some (.nx d)
   | .rt r d=>some (.rt r d):=rfl
  rw[p,uq];by_cases k:lc t c∈a
  ·rw[nG k] at i ⊢;obtain⟨j,e⟩:=Ve l m a b f g (some (enc c)) λc q=>h c (iK _ q);refine⟨j,?_⟩;have s1:GX [some (enc t),f,some (dC a,b),some (enc c)]=some (.nx [some (enc t),f,some (dC a,b),some (enc c)]):=(gu ((mT i).trans rfl)).trans rfl;rw[s1];exact e
  ·rw[lr k] at i ⊢;refine⟨some (enc c),?_⟩;have s1:GX [some (enc t),f,some (dC a,b),some (enc c)]=some (.rt (.bl false,false) [some (enc t),f,some (dC a,b),some (enc c)]):=iG ((qB i).trans rfl);rw[s1];rfl
def En{n:Nat}(i:n<=5){t:gB}(j:TT n t)(d a:ik)(hk: ∀c∈a,ClOk n c)(b:Bool):kR [enc t,(.tup (a.map cD),false),(dC d,b)]=some ((.bl (a.all λc=>decide (lc t c∈d)),false),[some (enc t),tpC a,some (dC d,b)]):=by
 obtain⟨x,e⟩:=Ve i j d b (tpC a) a none hk;have h: ∀x,gW [enc t,(.tup (a.map cD),false),(dC d,b)] [some (enc t),tpC a,some (dC d,b),x]=[some (enc t),tpC a,some (dC d,b)]:=λx=>by cases b<;>rfl
 cases g:a.all λc=>decide (lc t c∈d) with
 |true=>
  rw[g,gD rfl] at e;have q:=jL (n:=4) (np:=3) (asg:=[3]) (f:=nr) (args:=[enc t,(.tup (a.map cD),false),(dC d,b)]) (r:=(.bl true,false)) (δ:=[some (enc t),tpC a,some (dC d,b),x]) ⟨rfl,by decide,by cases b<;>rfl⟩ ((gu ((ki rfl).trans e)).trans (iG rfl))
  rwa [h] at q
 |false=>
  rw[g,gL je] at e;have q:=jL (n:=4) (np:=3) (asg:=[3]) (f:=nr) (args:=[enc t,(.tup (a.map cD),false),(dC d,b)]) (r:=(.bl false,false)) (δ:=[some (enc t),tpC a,some (dC d,b),x]) ⟨rfl,by decide,by cases b<;>rfl⟩ (iG ((ki rfl).trans e))
  rwa [h] at q
theorem MO: ∀c:List Int,Ap (c.map .int)=some (c.map Sum.inl)
 |[]=>rfl
 |x::c=>by simp only[iu,Ap,rB,ir];rw[MO c];rfl
theorem MI: ∀a:List (List Int),Jx (a.map λc=> .tup [cD c,.bl true])=some (a.map λc=>c.map Sum.inl)
 |[]=>rfl
 |c::a=>by
  simp only[iu,Jx,kyT];rw[MI a,show xM (cD c)=some (c.map Sum.inl) from MO c];rfl
def MZ{d:ik}(h:d.Nodup)(g:d.length<=1000):wV (.lst (d.map λc=> .tup [cD c,.bl true]))=some (dC d,true):=by
 show((Jx (d.map λc=> .tup [cD c,.bl true])).bind λd=>if d.length<=1000/\d.Nodup then some (D.oth .dct (d.map λk=> .tup (k.map iX)) (d.map λ_=> .bl true),true) else none)=_;rw[MI];simp only[ir];have i:(d.map λc=>c.map (Sum.inl:Int->Key)).Nodup:=List.Pairwise.map _ (λa b f e=>f ((List.map_inj_right (λ_ _ e=>Sum.inl.inj e)).mp e)) h;rw[gD ⟨by simpa using g,i⟩];unfold dC;rw[iI,iI]
 have:((λk:List Key=>D.tup (k.map iX))∘λc:List Int=>c.map Sum.inl)=cD:=by
  funext c;simp only[Function.comp,iI,cD];rfl
 rw[this];rfl
abbrev fDc(i:Nat):F:=(gC (g1 wV) [(gi (hZ [] 1 (ie (gr gIx (gh i) (gi (fC (.int 1))))) (gq 0) iM (ip (kO [(hU 0),(fC (.bl true))]))))])
def Na{n i:Nat}{a:ik}{δ:Dn}(c:δ[i]?=some (some (rD' n a,false)))(h:a.Nodup)(g:a.length<=1000):fDc i δ=some ((dC a,true),δ):=by
 refine jC (MZ h g) (jE (b:=true) ?_).r;have e:=zC (caps:=[]) (fi:=ie (gr gIx (gh i) (gi (fC (.int 1))))) (f:=kO [(hU 0),(fC (.bl true))]) (δ:=δ) (δ1:=δ) (l:=a.map cD) (args:=[]) (λd=> .tup [d,.bl true]) ?_ rfl rfl (λd hd=>⟨false,by simp[iN,hU]⟩) (by simp;lia)
 ·rw[iI] at e;exact e
 ·rw[N7,jO (r:=(.tup (a.map cD),false)) rfl (jV c).r (jE rfl).r];rfl
def Mz{n:Nat}{ks:ik}(h:Hl n ks):km [(rD' n ks,false)]=some ((.lst (((kH n n).filter λt=>ks.all λc=>decide (lc t c∈ks)).map cD),true),[some (rD' n ks,false)]):=by
 obtain⟨a,hk,_,s⟩:=h;obtain⟨o,j⟩:=E6 a;have hd:=Na (n:=n) (i:=0) (δ:=[some (rD' n ks,false),none]) rfl hk.1 (by lia);have m:=vR n (by lia) n (by lia)
 obtain⟨u,e⟩:=Nn (f:=hU 2) (ti:=fT (gz kR [(gh 2),(gi (gr gIx (gh 1) (gi (fC (.int 1))))),(gh 0)])) (g:=λd=>d) (p:=λd=>ks.all λc=>decide (lc (unC d) c∈ks)) (pre:=[some (dC ks,true),some (rD' n ks,false)]) ((kH n n).map cD) [] none (λd hd=>by
  obtain⟨t,q,rfl⟩:=kZ.mp hd;rw[lO];have tt:=(nZ q).tt;refine⟨jX (o:=false) ((iY (δ1:=[some (dC ks,true),some (rD' n ks,false),some (enc t)]) (os:=[.slot 2,.val (.tup (ks.map cD),false),.slot 0]) (args:=[enc t,(.tup (ks.map cD),false),(dC ks,true)]) (lK rfl (lg (gG (jO rfl (jV rfl).r (jE rfl).r)) rfl)) rfl (show([0]:List Nat).Nodup by decide) (En a tt ks ks hk.2 true)).trans rfl),λ_=>⟨false,rfl⟩⟩) (by rw[iN];simp;lia)
 rw[qr,Bb] at e;simp only[lO] at e;refine jL (δ:=[some (rD' n ks,false),some (dC ks,true)]) ⟨rfl,by decide,rfl⟩ ((gu (iA (i:=1) hd (show 1<2 by decide))).trans (iG (kh ?_)));refine(zu (caps:=[1,0]) (k:=1) (l:=(kH n n).map cD) (δ1:=[some (rD' n ks,false),some (dC ks,true)]) (args:=[(dC ks,true),(rD' n ks,false)]) (kM (o:=o) ?_) rfl (show([1]:List Nat).Nodup by decide) e).trans rfl;exact jU1 j (jE (b:=false) (jO rfl (jV rfl).r (jE rfl).r))
theorem zf{f:Type}[DecidableEq f]: ∀(l m:List f),l.Nodup->(∀x∈l,x∈m)->m.length<=l.length->l.Perm m
 |[],m,_,_,h=>by rw[ND.mp (Nat.le_zero.mp h)]
 |x::l,m,a,b,g=>by
  rw[zU] at a;have c:=b x iF;have i:=zf l (m.erase x) a.2 (λy d=>(BK (show y≠x from λe=>a.1 (e▸d))).mpr (b y (iK _ d))) (by rw[Km c];simp at g;lia);exact(i.cons x).trans (Ff c).symm
def SJ{n:Nat}{t a b:gB}(f:TT n t)(c:ClOk n a)(d:ClOk n b)(e:lc t a=lc t b):a=b:=by
 have i:=(su f c).1.1;have m:=(su f d).1.1;rw[e] at i;have j:=i.symm.trans m;have k:=j.length_eq;simp only[iJ] at k
 have l:a.Perm b:=zf _ _ (Eg (AO c.2.1)) (λs h=>by
  obtain⟨r,g,e⟩:=kZ.mp (j.mem_iff.mp (sY h));rw[<-C0 f (d.2.2 r g) (c.2.2 s h) e];exact g) (by lia)
 have o:=nI.mp c.2.1;have p:=nI.mp d.2.1;exact l.eq_of_pairwise (λx y _ _ h1 q=>by lia) o p
theorem MD{n:Nat}{t:gB}{d g:ik}(p:TT n t)(f:Hl n d)(h:LR t d g):(g=d)↔ ∀c∈d,lc t c∈d:=by
 constructor
 ·rintro rfl c i;exact h.1.mem_iff.mpr (sY i)
 ·intro k
  have r:(d.map (lc t)).Nodup:=by
   rw[JW,nI];refine J1 ?_ (JW.mp f.2.1.1);intro a b l m j e;exact j (SJ p (f.2.1.2 a l) (f.2.1.2 b m) e)
  have o:g.Perm d:=by
   refine h.1.trans (zf _ _ r (λx q=>?_) (by simp));obtain⟨c,i,rfl⟩:=kZ.mp q;exact k c i
  exact K7 o h.2 f.2.2.1
def NV{n:Nat}{d:D}(h:tB n d=true): ∃t,d=cD t/\TT n t:=by
 rw[DK] at h
 cases d with
 |tup l=>
  simp only[lB,kX,kn,qO] at h;refine⟨l.map iOf,?_,?_⟩
  ·have:l=(l.map iOf).map D.int:=by
    rw[iI]
    conv=>lhs;rw[<-nE l]
    exact mQ λd hd=>Gd (h.1 d hd)
   exact lX D.tup this
  ·unfold TT;rw[iI];exact h.2
 |_=>cases h
def liB(n:Nat)(a:ik)(d:D):Bool:=tB n d&&a.all λc=>decide (lc ((Ur d).map iOf) c∈a)
theorem Li(t:gB):(Ur (cD t)).map iOf=t:=lO t
theorem Iv: ∀a b:List (List Int),D.eqbL (a.map cD) (b.map cD)=decide (a=b)
 |[],[]=>rfl
 |[],_::_=>rfl
 |_::_,[]=>rfl
 |x::a,y::b=>by
  rw[iu,iu,D.eqbL,G3,Iv a b];simp
theorem SW(n:Nat)(a b:ik):gEq (rD' n a) (rD' n b)=some (.bl (decide (a=b)),false):=by
 unfold gEq;rw[gD ⟨Nf n a,Nf n b⟩];simp only[D.eqb,D.eqbL];rw[Iv];simp
def WI{f:EvF}{g i j:FO}{δ:Dn}{a b c:D}{r:D×Bool}{e:Dn}(h:f [(a,false),(b,false),(c,false)]=some (r,e))(l:FJ g δ a)(m:FJ i δ b)(n:FJ j δ c):gz f [g,i,j] δ=some (r,δ):=by
 obtain⟨o,h1,_,k⟩:=l;obtain⟨u,p,_,q⟩:=m;obtain⟨v,s,_,t⟩:=n;refine(iY (lK h1 (lg p s)) (args:=[a,b,c].map λd=>(d,false)) (by simp[k,q,t]) (by rw[rq];exact mE) h).trans ?_;rw[DD]
section
variable {n:Nat}{ks:ik}(h:Hl n ks){d:D}(hd:OkD d)
include h hd
theorem A6:kF [(rD' n ks,false),(d,false)]=some ((.bl (liB n ks d),false),[some (rD' n ks,false),some (d,false)]):=by
 have a:gz iT [(gi (gr gIx (gh 0) (gi (fC (.int 0))))),(gh 1)] [some (rD' n ks,false),some (d,false)]=some ((.bl (tB n d),false),[some (rD' n ks,false),some (d,false)]):=jU2 (rh n d hd) (jE (b:=false) (jO rfl (jV rfl).r (jE rfl).r)) (jV rfl);refine Jc ⟨rfl,by decide,rfl⟩ (δ:=[some (rD' n ks,false),some (d,false)]) ?_;unfold liB
 cases c:tB n d with
 |false=>rw[c] at a;exact Nb a
 |true=>
  rw[c] at a;obtain⟨t,rfl,e⟩:=NV c;obtain⟨ds,g,f⟩:=UZ e h;refine(Dd a).trans (jO ?_ (jE (b:=false) (jU2 f (jV rfl) (jV rfl))).r (jV rfl).r);rw[SW,Li,ud]
  congr 3
  rw[Fe,qO,kn,MD e h g];simp only[qO]
theorem Mx:iP [(.int n,false),(d,false)]=some ((.bl (tB n d),false),[ii n,some (d,false)]):=by
 have y:=h.1;rw[DK]
 cases d with
 |tup l=>
  have A:=hd l rfl;by_cases h1:l.length=n
  ·have k:=ES (caps:=[0]) (fi:=ie (hU 1)) (f:=gz kP [(gh 1),(gi (jk lz (gh 0))),(gh 0)]) (δ:=[ii n,some (.tup l,false)]) (δ1:=[ii n,some (.tup l,false)]) (l:=l) (args:=[.int n]) (λd=>match d with| .int i=>decide (-(n:Int)<=i)&&decide (i<=n)|_=>false) rfl rfl rfl (λd _=>⟨false,WI (Mw d (-(n:Int)) n) (jV rfl) (jE (b:=false) rfl) (jV rfl)⟩) (by lia);have m:xR (mH (fT (jk (og [.tuple]) (gh 1)))) (fT (gr gNe (gi (gC (g1 mh) [(gh 1)])) (gh 0))) [ii n,some (.tup l,false)]=some (false,[ii n,some (.tup l,false)]):=(GZ (δ1:=[ii n,some (.tup l,false)]) rfl).trans (jX (o:=false) (jO (a:= .int n) (EB (by simp[D.dep])) (jE (b:=false) (jC (by rw[Lv,h1]) (jV rfl).r)).r (jV rfl).r));by_cases c:(l.all λd=>match d with| .int i=>decide (-(n:Int)<=i)&&decide (i<=n)|_=>false)=true
   ·rw[c] at k
    have u:l.all wh=true:=kn.mpr λd hd=>by
     have:=kn.mp c d hd;cases d<;>simp_all [wh]
    have v:=zC (caps:=[]) (fi:=ie (hU 1)) (f:=gC (g1 oh) [(gh 0)]) (δ:=[ii n,some (.tup l,false)]) (δ1:=[ii n,some (.tup l,false)]) (l:=l) (args:=[]) (λd=> .int (ab (iOf d))) rfl rfl rfl (λd hd=>⟨false,by rw[Gd (kn.mp u d hd)];rfl⟩) (by lia);have w:(l.map λd=>D.int (ab (iOf d)))=(l.map λd=>ab (iOf d)).map .int:=by rw[iI];rfl
    have q:=C9 (l.map λd=>ab (iOf d)) (by simp;lia);have s:=IV (l.map λd=>ab (iOf d)) n;rw[<-w] at q s;have g:lB n (.tup l)=decide ((l.map λd=>ab (iOf d)).Perm (st n)):=by rw[lB,u,ud]
    rw[g];refine jL (δ:=[ii n,some (.tup l,false)]) ⟨rfl,by decide,rfl⟩ ((gu ((mT m).trans rfl)).trans ((gu ((mT (vE (jX k))).trans rfl)).trans (iG (kh ?_))));exact iH (gG (iR (qj (gG v)) rfl q)) (gG (iR (os:=[.val (.int 1,false),.val (.int ((n:Int)+1),false)]) rfl rfl (N5 n y))) rfl rfl s
   ·rw[Bool.not_eq_true] at c;rw[c] at k
    have g:lB n (.tup l)=false:=by
     rw[JY];intro j;rw[<-DK] at j;obtain⟨t,e,p⟩:=NV j;cases e;rw[<-Bool.not_eq_true] at c;refine c (kn.mpr λd hd=>?_);obtain⟨x,z,rfl⟩:=kZ.mp hd;have:=p.sg z;unfold SG ab at this;simp;split at this<;>lia
    rw[g];exact jL (δ:=[ii n,some (.tup l,false)]) ⟨rfl,by decide,rfl⟩ ((gu ((mT m).trans rfl)).trans (iG ((qB (vE (jX k))).trans (iG rfl))))
  ·have m:xR (mH (fT (jk (og [.tuple]) (gh 1)))) (fT (gr gNe (gi (gC (g1 mh) [(gh 1)])) (gh 0))) [ii n,some (.tup l,false)]=some (true,[ii n,some (.tup l,false)]):=by
    refine(GZ (δ1:=[ii n,some (.tup l,false)]) rfl).trans (jX (o:=false) (jO (a:= .int l.length) ?_ (jE (b:=false) (jC (by rw[Lv]) (jV rfl).r)).r (jV rfl).r));have: ¬((l.length:Int)=n):=by lia
    simp[gNe,D.eqb,D.dep,this]
   have g:lB n (.tup l)=false:=by
    rw[JY];intro j;rw[<-DK] at j;obtain⟨t,e,p⟩:=NV j;cases e;exact h1 (by simp[p.len])
   rw[g];exact jL (δ:=[ii n,some (.tup l,false)]) ⟨rfl,by decide,rfl⟩ (iG ((qB m).trans (iG rfl)))
 |_=>simp[iP,ke,evF,isT,gW,lB]
end
def Lf{ev:EvF}{l:List D}{d:D}(hd:d= .lst l\/d= .tup l)(h: ∀d∈l,E8 ev d)(k:l.length<=5000):E8 (evF 2 2 [] (jy ev)) d:=λb c=>by
 obtain⟨m,o,e⟩:=IH (ev:=ev) l [] none none h (by simp;lia)
 have i:hZ [] 2 (wR (gh 0) (gh 1)) (uT [(gq 0),(gq 1)]) iM (ip (gz ev [(gh 0),(gh 1)])) [some (d,b),some (d,c)]=some ((.lst (l.map λ_=> .bl true),true),[some (d,b),some (d,c)]):=by
  unfold hZ;rw[show wR (gh 0) (gh 1) [some (d,b),some (d,c)]=some ((l.zip l).map λp=> .tup [p.1,p.2],[some (d,b),some (d,c)]) from by rcases hd with rfl|rfl<;>rfl];simp only[ir,mR,wJ,gS,mE,jh,qr,List.replicate_succ,List.replicate_zero];rw[e];rfl
 have g:gC (g1 xQ) [(gi (hZ [] 2 (wR (gh 0) (gh 1)) (uT [(gq 0),(gq 1)]) iM (ip (gz ev [(gh 0),(gh 1)]))))] [some (d,b),some (d,c)]=some ((.bl true,false),[some (d,b),some (d,c)]):=
  iR (qj (gG i)) rfl (by rw[show g1 xQ [.lst (l.map λ_=> .bl true)]=xQ (.lst (l.map λ_=> .bl true)) from rfl,xb (λ_=>true)];simp)
 have a:gr gEq (gi (gC (g1 mh) [(gh 0)])) (gi (gC (g1 mh) [(gh 1)])) [some (d,b),some (d,c)]=some ((.bl true,false),[some (d,b),some (d,c)]):=by
  rcases hd with rfl|rfl<;>simp
 have j:gW [(d,b),(d,c)] [some (d,b),some (d,c)]=[some (d,b),some (d,c)]:=by cases b<;>cases c<;>rfl
 have:=jL (args:=[(d,b),(d,c)]) (np:=2) (n:=2) (asg:=[]) (f:=jy ev) (δ:=[some (d,b),some (d,c)]) (r:=(.bl true,false)) ⟨rfl,by decide,by simp⟩ (by
  refine iG ((qB (δ1:=[some (d,b),some (d,c)]) (by rcases hd with rfl|rfl<;>rfl)).trans ?_);refine(gu ((mT (δ1:=[some (d,b),some (d,c)]) ?_).trans rfl)).trans (iG (kh ((Dd a).trans g)));rcases hd with rfl|rfl<;>simp[isT])
 rwa [j] at this
def V2(ev:EvF)(i:Int):E8 (evF 2 2 [] (jy ev)) (.int i):=λb c=>by
 cases b<;>cases c<;>simp[jy,evF,gW,isT]
def Ul(L:ik)(a:L.length<=5000)(h: ∀t∈L,t.length<=5000):E8 (iU RD) (.lst (L.map cD)):=
 Lf (ev:=iU 5) (.inl rfl) (λd hd=>by
  obtain⟨t,b,rfl⟩:=kZ.mp hd
  exact Lf (ev:=iU 4) (.inr rfl) (λd hd=>by
   obtain⟨i,_,rfl⟩:=kZ.mp hd;exact V2 (iU 3) i) (by simpa using h t b)) (by simpa using a)
def qH(t:gB)(i:Int)(x:D):List D:=
  [.tup (oS (t.map .int) none (some i)++[x]++oS (t.map .int) (some (i+1)) none),.tup (oS (t.map .int) none (some i)++oS (t.map .int) (some (i+1)) none),.tup (oS (t.map .int) none (some i)++[x]++oS (t.map .int) (some i) none),
   .lst (t.map .int),.tup (t.map D.int).reverse,.non,.oth .dct [] [],x,.tup [.tup (t.map .int)],.tup (t.map .int++oS (t.map .int) none (some 1))]
def Jq(t:gB)(c:t.length<=5)(i:Int)(x:D)(e:OkD x): ∀d∈qH t i x,OkD d:=by
 intro d hd;have a: ∀lo b,(oS (t.map D.int) lo b).length<=5:=λlo b=>ku (Dg _ _ _) (by simpa using c);have f:=a none (some i);have g:=a (some (i+1)) none;have j:=a (some i) none;have k:=a none (some 1);simp only[qH,jr,jT,kU] at hd;rcases hd with rfl|rfl|rfl|rfl|rfl|rfl|rfl|rfl|rfl|rfl
 case inr.inr.inr.inr.inr.inr.inr.inl=>exact e
 all_goals (intro l h;cases h)
 all_goals (simp;try lia)
def Bt(a:Int)(b:Bool)(n:Nat)(I:n<=5)(t:gB)(A:t.length<=5): ∃r d,OkD d/\jc [(.lst [.int a,.bl b],true),enc t,(.int n,false)]=some ((d,false),[stt r b,some (enc t),ii n]):=by
 obtain⟨i,a1,J,M,s⟩:=lE a b ((t.length:Int)+1) (by lia) (by lia);obtain⟨w,c,G,H,u⟩:=lE a1 b 11 (by lia) (by lia);obtain⟨v,o,C,E,z⟩:=lE c b 12 (by lia) (by lia)
 let e:List D:=[.int 0,.int ((n:Int)+1),.bl true,.non,.str "1",.tup [.int 1],.int 100000000000000000000000000000,.int 1,.int (-1),.int n,.int (-n)]
 let x:=e.getD w.toNat .non
 have B:OkD x:=E7 HR (λd hd=>by
  simp only[e,jr,jT,kU] at hd;rcases hd with rfl|rfl|rfl|rfl|rfl|rfl|rfl|rfl|rfl|rfl|rfl<;>intro l h<;>cases h<;>decide) _
 let g:List Int:=[0,0,0,1,2,3,4,5,6,7,8,9]
 let q:=g.getD v.toNat 0
 have p:0<=q/\q<10:=by
  have:v.toNat=0\/v.toNat=1\/v.toNat=2\/v.toNat=3\/v.toNat=4\/v.toNat=5\/v.toNat=6\/v.toNat=7\/v.toNat=8\/v.toNat=9\/v.toNat=10\/v.toNat=11:=by lia
  rcases this with h|h|h|h|h|h|h|h|h|h|h|h<;>simp[q,g,h]
 have k: ∀lo f,(oS (t.map D.int) lo f).length<=1000:=λlo f=>ku (Dg _ _ _) (by simp;lia);have m: ∀lo f,(oS (t.map D.int) lo f).length<=999:=λlo f=>ku (Dg _ _ _) (by simp;lia);have j:t.length<=1000:=by lia
 refine⟨o,(qH t i x).getD q.toNat .non,E7 HR (Jq t A i x B) _,?_⟩;refine jL (δ:=[stt o b,some (enc t),ii n,ii i,some (x,false),some (.lst (qH t i x),true)]) ⟨rfl,by decide,rfl⟩ ?_;refine(gu (δ1:=[stt a1 b,some (enc t),ii n,ii i,none,none]) (iA (i:=3) (s _ [some (enc t),ii n,none,none,none] (.val (.int ((t.length:Int)+1),false)) (by simp) rfl) (show 3<6 by decide))).trans ?_;refine(gu (δ1:=[stt c b,some (enc t),ii n,ii i,some (x,false),none]) (iA (i:=4) (δ1:=[stt c b,some (enc t),ii n,ii i,none,none]) (iH (o1:= .val (.lst e,true)) (o2:= .val (.int w,false)) (gG (δ1:=[stt a1 b,some (enc t),ii n,ii i,none,none]) (by simp[UI,iN,e,hU])) (gG (u _ [some (enc t),ii n,ii i,none,none] _ rfl rfl)) rfl rfl (ixl (L:=e) G (by simpa[e] using H))) (show 4<6 by decide))).trans ?_;refine(gu (δ1:=[stt c b,some (enc t),ii n,ii i,some (x,false),some (.lst ((qH t i x).take 2),true)]) ?_).trans ?_
 ·generalize x=y;simp[mW,xv,gSl,Tv,k,m,j,iN,qH,hU]
 refine(gu (δ1:=[stt c b,some (enc t),ii n,ii i,some (x,false),some (.lst ((qH t i x).take 9),true)]) ?_).trans ?_
 ·generalize x=y;simp[mW,xv,gSl,Tv,WR,k,m,j,iN,qH,hU,M8,Vc,EI]
 refine(gu (δ1:=[stt c b,some (enc t),ii n,ii i,some (x,false),some (.lst (qH t i x),true)]) ?_).trans ?_
 ·generalize x=y;simp[mW,gSl,Tv,k,m,j,iN,qH,hU,jD]
 refine iG (kh (iH (o1:= .slot 5) (o2:= .val (.int q,false)) rfl (gG (iH (o1:= .val (.lst (g.map .int),true)) (o2:= .val (.int v,false)) (gG (δ1:=[stt c b,some (enc t),ii n,ii i,some (x,false),some (.lst (qH t i x),true)]) ?_) (gG (z _ _ _ rfl rfl)) rfl rfl ?_)) rfl rfl (ixl p.1 (by simpa[qH] using p.2))))
 ·simp[iN,g]
 ·exact SO C (by simpa[g] using E)
abbrev fb5:FS:=(gx (iq 6 (gz lC [(gh 3)])) (gx (sIf (mH (fT (gz (iU RD) [(gh 6),(gh 4)]))) (gx (jA (fC (.bl false))) gH) gH) (gx (lQ (jD 6 (kO []))) gH)))
abbrev fb9:FS:=(gx (iq 6 (gz kF [(gh 3),(gh 9)])) (gx (iq 10 (fDc 3)) (gx (iq 11 (sU (gz iP [(gi (gr gIx (gh 3) (gi (fC (.int 0))))),(gh 9)]) (gz kR [(gh 9),(gi (gr gIx (gh 3) (gi (fC (.int 1))))),(gh 10)]))) (gx (sIf (xR (mH (fT (jk (og [.bool]) (gh 6)))) (fT (gr gNe (gh 6) (gh 11)))) (gx (jA (fC (.bl false))) gH) gH) gH))))
abbrev fL9:F:=(kD [(hU 7),(hU 8),(gz jc [(gh 2),(gh 7),(gi (gr gIx (gh 3) (gi (fC (.int 0)))))]),(gz jc [(gh 2),(gh 7),(gi (gr gIx (gh 3) (gi (fC (.int 0)))))])])
abbrev Qt:FS:=(gx (iq 2 (gz kQ [(gh 0),(gh 1)])) (gx (iq 3 (gz mB [(gh 2),(gi (fC (.int 0))),(gi (gr gSub (gi (fC (.int 5))) (gi (gC (g2 A7) [(gh 1),(gi (fC (.int 1)))]))))])) (gx (iq 4 (gz km [(gh 3)])) (gx (nQ (uD (gi (fC (.int 2)))) (gq 5) fb5) (gx (iq 7 (gr gIx (gh 4) (gi (gz gF [(gh 2),(gi (gC (g1 mh) [(gh 4)]))])))) (gx (iq 8 (gz jJ [(gh 2),(gi (gr gIx (gh 3) (gi (fC (.int 0)))))])) (gx (nQ (ie fL9) (gq 9) fb9) gH)))))))
section
variable {n:Nat}{ks:ik}(h:Hl n ks)
include h
abbrev lik(n:Nat)(ks:ik):List (List Int):=(kH n n).filter λt=>ks.all λc=>decide (lc t c∈ks)
theorem Ib:(lik n ks).length<=3840:=ku (vU _ _) (vR n (by have:=h.1;lia) n (by have:=h.1;lia))
theorem ME{t:gB}(a:t∈lik n ks):TT n t:=(nZ (Fb.mp a).1).tt
theorem Pg:0<(lik n ks).length:=by
 refine List.length_pos_of_mem (a:=st n) (Fb.mpr ⟨Q3 n (by have:=h.1;lia),kn.mpr λc b=>?_⟩);rw[U1 (h.2.1.2 c b),nG b]
theorem Te(a c d e p f g j m k:Sl): ∃q,fb5 [a,c,d,some (rD' n ks,false),lsO (lik n ks) true,e,p,f,g,j,m,k]=some (.nx [a,c,d,some (rD' n ks,false),lsO (lik n ks) true,e,q,f,g,j,m,k]):=by
 have v:=Ib h;have s:=Ul (lik n ks) (by lia) (λt u=>by have:=(ME h u).len;have:=h.1;lia) true true;refine⟨some (.lst ((lik n ks).map cD++[.tup []]),true),(gu (δ1:=[a,c,d,some (rD' n ks,false),lsO (lik n ks) true,e,lsO (lik n ks) true,f,g,j,m,k]) (iA (i:=6) (δ1:=[a,c,d,some (rD' n ks,false),lsO (lik n ks) true,e,p,f,g,j,m,k]) (jU1 (tM h.1 h.2.1.2 h.2.2.2) (jV rfl)) (show 6<12 by decide))).trans ?_⟩;refine(gu ((mT (δ1:=[a,c,d,some (rD' n ks,false),lsO (lik n ks) true,e,lsO (lik n ks) true,f,g,j,m,k]) (vE (b:=true) (jX (o:=false) ((iY (δ1:=[a,c,d,some (rD' n ks,false),lsO (lik n ks) true,e,lsO (lik n ks) true,f,g,j,m,k]) (os:=[.slot 6,.slot 4]) (args:=[(.lst ((lik n ks).map cD),true),(.lst ((lik n ks).map cD),true)]) rfl rfl (show([6,4]:List Nat).Nodup by decide) s).trans rfl)))).trans rfl)).trans ?_;refine(gu (rk (r:=(.non,false)) ((qk (i:=6) (δ1:=[a,c,d,some (rD' n ks,false),lsO (lik n ks) true,e,lsO (lik n ks) true,f,g,j,m,k]) (l0:=(lik n ks).map cD) (l:=(lik n ks).map cD) (r:=(.tup [],false)) rfl (by simp[iN]) rfl (by rw[iN];simp;lia)).trans rfl))).trans rfl
theorem Tb{d:D}(hd:OkD d)(j k l m p v q s g e:Sl): ∃w E C,fb9 [j,k,l,some (rD' n ks,false),m,p,v,q,s,some (d,false),g,e]=some (.nx [j,k,l,some (rD' n ks,false),m,p,w,q,s,some (d,false),E,C]):=by
 let B:Sl:=some (.bl (liB n ks d),false)
 let c:Sl->Sl->Sl->Dn:=λx y z=>[j,k,l,some (rD' n ks,false),m,p,x,q,s,some (d,false),y,z]
 refine⟨B,some (dC ks,true),B,?_⟩;refine(gu (δ1:=c B g e) (iA (i:=6) (δ1:=c v g e) (jU2 (A6 h hd) (jV rfl) (jV rfl)) (show 6<12 by decide))).trans ?_;refine(gu (δ1:=c B (some (dC ks,true)) e) (iA (i:=10) (δ1:=c B g e) (Na (n:=n) rfl h.2.1.1 (by have:=h.2.2.2;lia)) (show 10<12 by decide))).trans ?_;refine(gu (δ1:=c B (some (dC ks,true)) B) (iA (i:=11) (δ1:=c B (some (dC ks,true)) e) ?_ (show 11<12 by decide))).trans ?_
 ·have f:gz iP [(gi (gr gIx (gh 3) (gi (fC (.int 0))))),(gh 9)] (c B (some (dC ks,true)) e)=some ((.bl (tB n d),false),c B (some (dC ks,true)) e):=jU2 (Mx h hd) (jE (b:=false) (jO rfl (jV rfl).r (jE rfl).r)) (jV rfl);show _=some ((D.bl (liB n ks d),false),_);unfold liB
  cases u:tB n d with
  |false=>rw[u] at f;exact Nb f
  |true=>
   rw[u] at f;obtain⟨t,rfl,A⟩:=NV u;rw[ud,Li];exact(Dd f).trans ((iY (δ1:=c B (some (dC ks,true)) e) (os:=[.slot 9,.val (.tup (ks.map cD),false),.slot 10]) (args:=[enc t,(.tup (ks.map cD),false),(dC ks,true)]) (lK rfl (lg (gG (jO rfl (jV rfl).r (jE rfl).r)) rfl)) rfl (show([10]:List Nat).Nodup by decide) (En h.1 A ks ks h.2.1.2 true)).trans rfl)
 refine(gu ((mT (δ1:=c B (some (dC ks,true)) B) ((GZ (δ1:=c B (some (dC ks,true)) B) rfl).trans (jX (o:=false) (jO (a:= .bl (liB n ks d)) (EB (by simp[D.dep])) (jV rfl).r (jV rfl).r)))).trans rfl)).trans rfl
end
def Tf{n:Nat}{ks:ik}(x:n<=5)(a:Int)(b:Bool){t u:gB}(y:t.length<=5)(C:u.length<=5)(h i j k m o q p:Sl): ∃f l,(∀d∈l,OkD d)/\fL9 [h,i,stt a b,some (rD' n ks,false),j,k,m,some (enc t),some (enc u),o,q,p]=some ((.lst l,true),[h,i,stt f b,some (rD' n ks,false),j,k,m,some (enc t),some (enc u),o,q,p]):=by
 obtain⟨a1,s,h1,z⟩:=Bt a b n x t y;obtain⟨g,v,B,A⟩:=Bt a1 b n x t y
 let c:Int->Dn:=λa=>[h,i,stt a b,some (rD' n ks,false),j,k,m,some (enc t),some (enc u),o,q,p]
 have w: ∀a f d,jc [(.lst [.int a,.bl b],true),enc t,(.int n,false)]=some ((d,false),[stt f b,some (enc t),ii n])->gz jc [(gh 2),(gh 7),(gi (gr gIx (gh 3) (gi (fC (.int 0)))))] (c a)=some ((d,false),c f):=λa f d e=>
  (iY (δ1:=c a) (os:=[.slot 2,.slot 7,.val (.int n,false)]) (args:=[(.lst [.int a,.bl b],true),enc t,(.int n,false)]) (lK rfl (lg rfl (gG (jO rfl (jV rfl).r (jE rfl).r)))) rfl (show([2]:List Nat).Nodup by decide) e).trans rfl
 refine⟨g,[cD t,cD u,s,v],?_,?_⟩
 ·intro d hd;simp only[jr,jT,kU] at hd;rcases hd with rfl|rfl|rfl|rfl
  ·exact Mk (by lia)
  ·exact Mk (by lia)
  ·exact h1
  ·exact B
 ·show kD _ (c a)=some ((_,true),c g);rw[Rq];simp only[iu,mR];rw[lK (gG (show hU 7 (c a)=some ((cD t,false),c a) from rfl)) (lK (gG (show hU 8 (c a)=some ((cD u,false),c a) from rfl)) (lg (gG (w a a1 s z)) (gG (w a1 g v A))))];simp[iN,oO]
def M7(N:gB)(k:Nat)(c2 C B z A w q g p m:Sl): ∃d2 d3 d4 y s d7 d8 J I H,Qt [some (.lst (N.map .int),false),ii k,c2,C,B,z,A,w,q,g,p,m]=some (.nx [some (.lst (N.map .int),false),ii k,d2,d3,d4,y,s,d7,d8,J,I,H]):=by
 let c:Sl:=some (.lst (N.map .int),false)
 let f:Sl:=ii k
 obtain⟨a,b,P⟩:=K5 N k
 let E:Nat:=5-min k 1
 obtain⟨a1,n,ks,G,_,_,S⟩:=Jb a b 0 E (by lia) (by simp only[E];lia);have Q:=G.1
 let R:Sl:=some (rD' n ks,false)
 let L:Sl:=lsO (lik n ks) true
 have K:=Pg G;have F:=Ib G
 obtain⟨_,⟨y,s,rfl⟩,V⟩:=sA (tg:=gq 5) (fb:=fb5) (λds δ=> ∃y s,δ=[c,f,stt a1 b,R,L,y,s,w,q,g,p,m]) (λd ds δ ⟨y,s,h⟩=>by
  subst h;obtain⟨g6,e⟩:=Te G c f (stt a1 b) (some (d,false)) s w q g p m;exact⟨_,_,rfl,e,_,_,rfl⟩) (gQ 0 2) [c,f,stt a1 b,R,L,z,A,w,q,g,p,m] ⟨z,A,rfl⟩
 obtain⟨v,M,v0,v1,ev⟩:=KW a1 b (lik n ks).length (by lia) (by lia);obtain⟨j,rfl⟩: ∃j:Nat,v=j:=⟨v.toNat,by lia⟩
 have D:j<(lik n ks).length:=by lia
 let t:=(lik n ks)[j]
 have tt:TT n t:=ME G (By D);obtain⟨T,u,hu,W⟩:=yF M b n Q;have tu:=NQ hu;obtain⟨O,l,hl,X⟩:=Tf (ks:=ks) Q T b (t:=t) (u:=u) (by rw[tt.len];exact Q) (by rw[tu.len];exact Q) c f L y s g p m
 obtain⟨_,⟨U,J,I,H,_,rfl⟩,Y⟩:=sA (tg:=gq 9) (fb:=fb9) (λds δ=> ∃s J I H,(∀d∈ds,OkD d)/\δ=[c,f,stt O b,R,L,y,s,some (enc t),some (enc u),J,I,H]) (λd ds δ ⟨s,J,I,H,h1,h⟩=>by
  subst h;obtain⟨g6,g10,g11,e⟩:=Tb G (h1 d iF) c f (stt O b) L y s (some (enc t)) (some (enc u)) I H;exact⟨_,_,rfl,e,_,_,_,_,λx hx=>h1 x (iK _ hx),rfl⟩) l [c,f,stt O b,R,L,y,s,some (enc t),some (enc u),g,p,m] ⟨s,g,p,m,hl,rfl⟩
 refine⟨stt O b,R,L,y,U,some (enc t),some (enc u),J,I,H,?_⟩;refine(gu (δ1:=[c,f,stt a b,C,B,z,A,w,q,g,p,m]) (iA (i:=2) (δ1:=[c,f,c2,C,B,z,A,w,q,g,p,m]) (iY (os:=[.slot 0,.slot 1]) (args:=[(.lst (N.map .int),false),(.int k,false)]) rfl rfl mE P) (show 2<12 by decide))).trans ?_
 have Z:gr PX.gSub (gi (fC (.int 5))) (gi (gC (g2 A7) [(gh 1),(gi (fC (.int 1)))])) [c,f,stt a b,C,B,z,A,w,q,g,p,m]=some ((.int E,false),[c,f,stt a b,C,B,z,A,w,q,g,p,m]):=by
  have:(E:Int)=5-(if(1:Int)<k then 1 else(k:Int)):=by simp only[E];split<;>lia
  rw[this];simp[c,f]
 refine(gu (δ1:=[c,f,stt a1 b,R,B,z,A,w,q,g,p,m]) (iA (i:=3) (δ1:=[c,f,stt a1 b,C,B,z,A,w,q,g,p,m]) ((iY (δ1:=[c,f,stt a b,C,B,z,A,w,q,g,p,m]) (os:=[.slot 2,.val (.int 0,false),.val (.int E,false)]) (args:=[(.lst [.int a,.bl b],true),(.int 0,false),(.int E,false)]) (lK rfl (lg rfl (gG Z))) rfl (show([2]:List Nat).Nodup by decide) S).trans rfl) (show 3<12 by decide))).trans ?_;refine(gu (δ1:=[c,f,stt a1 b,R,L,z,A,w,q,g,p,m]) (iA (i:=4) (δ1:=[c,f,stt a1 b,R,B,z,A,w,q,g,p,m]) (jU1 (Mz G) (jV rfl)) (show 4<12 by decide))).trans ?_;refine(gu ((ki (ds:=gQ 0 2) (δ1:=[c,f,stt a1 b,R,L,z,A,w,q,g,p,m]) (qf (o:= .val (.int 2,false)) rfl rfl (by lia))).trans V)).trans ?_;refine(gu (δ1:=[c,f,stt M b,R,L,y,s,some (enc t),q,g,p,m]) (iA (i:=7) (r:=(cD t,false)) (δ1:=[c,f,stt M b,R,L,y,s,w,q,g,p,m]) (iH (o1:= .slot 4) (o2:= .val (.int j,false)) rfl (gG (ev _ c f [R,L,y,s,w,q,g,p,m] (.val (.int (lik n ks).length,false)) (gG (jC (a:= .lst ((lik n ks).map cD)) (by rw[Rl,iJ]) (jR rfl))) rfl)) rfl rfl ?_) (show 7<12 by decide))).trans ?_
 ·simp[gIx,atI,ixN,D,t]
 refine(gu (δ1:=[c,f,stt T b,R,L,y,s,some (enc t),some (enc u),g,p,m]) (iA (i:=8) (δ1:=[c,f,stt T b,R,L,y,s,some (enc t),q,g,p,m]) ((iY (δ1:=[c,f,stt M b,R,L,y,s,some (enc t),q,g,p,m]) (os:=[.slot 2,.val (.int n,false)]) (args:=[(.lst [.int M,.bl b],true),(.int n,false)]) (lg rfl (gG (jO rfl (jV rfl).r (jE rfl).r))) rfl (show([2]:List Nat).Nodup by decide) W).trans rfl) (show 8<12 by decide))).trans ?_;exact(gu ((ki (kM X)).trans Y)).trans rfl
def TH(f:gB)(hl:f.length<=63): ∃o t,tX [(.lst (f.map .int),false)]=some ((.bl true,o),t):=by
 let w:Sl:=some (.lst (f.map .int),false)
 let N:Nat:=if 1<min f.length 5 then min f.length 5 else 1
 obtain⟨_,⟨y,g,i,j,l,m,p,q,s,v,u,_,rfl⟩,e⟩:=sA (tg:=gq 1) (fb:=Qt) (λds δ=> ∃y g i j l m p q s v u,(∀d∈ds,∃k:Nat,d= .int k)/\δ=[w,y,g,i,j,l,m,p,q,s,v,u]) (λd ds δ ⟨y,g,i,j,l,m,p,q,s,v,u,h1,h⟩=>by
  subst h;obtain⟨k,rfl⟩:=h1 d iF;obtain⟨g2,g3,M,O,Q,T,U,Y,B,C,e⟩:=M7 f k g i j l m p q s v u
  exact⟨_,_,rfl,e,_,_,_,_,_,_,_,_,_,_,_,λx G=>h1 x (iK _ G),rfl⟩) (gQ 0 N) [w,none,none,none,none,none,none,none,none,none,none,none] ⟨none,none,none,none,none,none,none,none,none,none,none,λd hd=>by
   obtain⟨k,_,rfl⟩:=kZ.mp hd;exact⟨k,by simp⟩,rfl⟩
 have J:Hl 0 []:=⟨by lia,⟨mE,λc z=>by cases z⟩,List.Pairwise.nil,by simp⟩
 let δ:Dn:=[w,y,g,i,j,l,m,p,q,s,v,u]
 have A:kO [(fC (.int 0)),(kO [])] δ=some ((rD' 0 [],false),δ):=by simp[iN]
 have L:kO [] δ=some ((cD [],false),δ):=by simp[iN]
 have H:=tM (n:=0) (ks:=[]) (by lia) (λc z=>by cases z) (by simp);have I:=A6 J (d:=cD []) (Mk (by simp));refine⟨false,_,jL (δ:=δ) ⟨rfl,by decide,rfl⟩ ?_⟩;refine(gu ((ki (ds:=gQ 0 N) (δ1:=[w,none,none,none,none,none,none,none,none,none,none,none]) ?_).trans e)).trans (iG (kh ?_))
 ·refine qf (o:= .val (.int N,false)) (gG ?_) rfl (by simp only[N];split<;>lia)
  have E:(N:Int)=if(if(5:Int)<f.length then 5 else(f.length:Int))>1 then(if(5:Int)<f.length then 5 else(f.length:Int)) else 1:=by
   simp only[N];split<;>split<;>split<;>lia
  rw[E];simp[w]
 ·refine(Dd (o:=false) (jO (a:= .lst [cD []]) (b:= .lst [cD []]) (EF (by decide)) (jE (b:=true) (jU1 H (jE A))).r (jE (b:=true) ?_).r)).trans (jO (a:= .bl true) (b:= .bl true) rfl (jE (b:=false) (jU2 I (jE A) (jE L))).r (jE rfl).r);simp[iN]
end PV
def K31.main(b:gB)(c:b.length<=63): ∃o a,PV.tX [(.lst (b.map .int),false)]=some ((.bl true,o),a):=PV.TH b c
namespace PySem.W.Fast
def tw15988815524379877764:=()
def tw9981432285650387315:=()
def tw12528017762705120809:=()
def tw11547169640214315419:=()
def tw17549797071429367692:=()
def tw7067836617116937930:=()
def tw4067297269356624444:=()
def tw15941717964747209814:=()
def tw15256046660186299625:=()
def tw15744626708229697224:=()
def tw7276224775055073629:=()
def tw11650219343074156580:=()
def tw7407831807533841251:=()
def tw7815092161627787731:=()
def tw12589057402054774376:=()
def tw15352127139500608313:=()
def tw5874929714585627604:=()
def tw3688319664017584850:=()
def tw12472661139284270295:=()
def tw1049626351986946577:=()
def tw1749263504488803193:=()
def tw6076554511417949805:=()
def tw10461920915997993963:=()
def tw774279002422814904:=()
def tw1547285544014175648:=()
def tw5973205751443766382:=()
def tw16958240707810210064:=()
def tw1274063981631514467:=()
def tw5069702300767198177:=()
def tw8254735489924937057:=()
def tw9691040270361119345:=()
def tw15329228764260455482:=()
def tw3370866731113974809:=()
def tw63958661294432823:=()
def tw15258464591230086234:=()
def tw11439703193336393883:=()
def tw15617216657119008091:=()
def tw14210920331999417626:=()
def tw7676097897128023284:=()
def tw9155385434700716920:=()
def tw2242331299834487330:=()
def tw12935262811229608596:=()
def tw9270431992933756698:=()
def tw11126628097419668787:=()
def tw6311287279215448287:=()
def tw1874854810593626393:=()
def tw6474972658464434996:=()
def tw14023516766901846500:=()
def tw2577709105253554617:=()
def tw6749823931802143510:=()
def tw15974037849301898650:=()
def tw14036756470016407836:=()
def tw8900358437271951803:=()
def tw11879104280120774265:=()
def tw14222477383608100192:=()
def tw18227953437828780677:=()
def tw7194259456767274393:=()
def tw4920185138893405289:=()
def tw2617908119663866519:=()
def tw16789771512745894168:=()
def tw17122489285947218868:=()
def tw15749531359688728348:=()
def tw12215475457853654971:=()
def tw2329907969146490266:=()
def tw3799782720182930426:=()
def tw6711956479388408296:=()
def tw11235143575969881461:=()
def tw8543872009816863420:=()
def tw9765842491755071661:=()
def tw9589788207444032678:=()
def tw4536693487142691820:=()
def tw14741908046727382406:=()
def tw6005175714255189094:=()
def tw11634704783790545196:=()
def tw1197017312284367960:=()
def tw8756804534545970049:=()
def tw2435337266638603139:=()
def tw3707239726934166868:=()
def tw2253151158413927082:=()
def tw8917171897735689511:=()
def tw9057143515349165895:=()
def tw1354095281443128321:=()
def tw3037433659535744176:=()
def tw17246710807782290802:=()
def tw14322800986971004721:=()
def tw12497666645377761724:=()
def tw10894347776623730528:=()
def tw5716877245370085983:=()
def tw14842136121823714064:=()
def tw9099342288184515916:=()
def tw2290443294695305477:=()
def tw3897473838178269813:=()
def tw17201740400174825929:=()
def tw10878377219801993647:=()
def tw7015147132312242318:=()
def tw7063916660259454575:=()
def tw16253821720256765762:=()
def tw6431968971876300229:=()
def tw17840021887462176323:=()
def tw1899698502681514600:=()
def tw9761185487264977574:=()
def tw11323145257684665691:=()
def tw3817893216696325665:=()
def tw17542193529886911470:=()
def tw1337261113856672403:=()
def tw14229620940750557792:=()
def tw9861235666275323126:=()
def tw11208265276132524388:=()
def tw7957605242838484319:=()
def tw15097995013468113598:=()
def tw1189439288228212844:=()
def tw2643967788617430017:=()
def tw14721423370743693203:=()
def tw4386980348240933221:=()
def tw12939785706665898558:=()
def tw11830945988999735946:=()
def tw3759045926772968450:=()
def tw15897579708364616485:=()
def tw14196058692111896302:=()
def tw7483152749532997975:=()
def tw10783400295121742616:=()
def tw8531982803283493260:=()
def tw6493222209947218626:=()
def tw3165112365695986879:=()
def tw8777986521301447248:=()
def tw17885062503389863967:=()
def tw8824876006412695624:=()
def tw17004024704973018635:=()
def tw3985924448200344166:=()
def tw18259167409169497099:=()
def tw298616497120568456:=()
def tw3429312612835109243:=()
def tw9315610147377280907:=()
def tw6385472927021475195:=()
def tw10361746998956234297:=()
def tw11839230963084268522:=()
def tw13401019690826500494:=()
def tw6267807304247298773:=()
def tw16269509334661914841:=()
def tw9604459389176606539:=()
def tw16459755043528098204:=()
def tw18091383283165092149:=()
def tw13687066457491765526:=()
def tw10537518651836079025:=()
def tw15277901535256954977:=()
def tw17011185658867277752:=()
def tw14173721062992431931:=()
def tw14005755475668463263:=()
def tw1765957964658448143:=()
def tw17772609486539112388:=()
def tw13146331294595460175:=()
def tw3687957713106564869:=()
def tw17197359429665723268:=()
def tw4303825475181259598:=()
def tw2648438116440073755:=()
def tw3851795815286185437:=()
def tw17623303864165101954:=()
def tw1590584206156542818:=()
def tw11753785671851383881:=()
end PySem.W.Fast
open PySem PySem.W PyProof.Rows PX
set_option maxRecDepth 100000 in
set_option maxHeartbeats 0 in
theorem PySem.Challenge.cw_twinriddles_k31_likenesses_holds : PySem.Challenge.rw_twinriddles_k31_likenesses.Holds := by
  w_on; o_law; k_head; (case hw => w_witness2)
  k_fill
  refine walkG (l := PySem.Challenge.rw_twinriddles_k31_likenesses) (LV := 9) (x := "_law_script") ⟨rfl, by decide, by decide, rfl⟩ rfl rfl (fun w h Y => PySem.W.kIn_of Y) ?F K31.main
  case F =>
   intro w mg fa h KX G hmg
   refine' K31.all_mk hmg (txK KX G ?_ ?_ ?_ ?_ ?_ ?_ ?_ ?_ ?_ ?_ ?_ ?_ ?_ ?_ ?_ ?_) (fz KX G ?_ ?_ ?_ ?_) (fz KX G ?_ ?_ ?_ ?_) (fz KX G ?_ ?_ ?_ ?_) (fz KX G ?_ ?_ ?_ ?_) (fz KX G ?_ ?_ ?_ ?_) (fz KX G ?_ ?_ ?_ ?_) (fz KX G ?_ ?_ ?_ ?_) (fz KX G ?_ ?_ ?_ ?_) (fz KX G ?_ ?_ ?_ ?_) (fz KX G ?_ ?_ ?_ ?_) (fz KX G ?_ ?_ ?_ ?_) (fz KX G ?_ ?_ ?_ ?_) (fz KX G ?_ ?_ ?_ ?_) (fz KX G ?_ ?_ ?_ ?_) (fz KX G ?_ ?_ ?_ ?_) (fz KX G ?_ ?_ ?_ ?_) (fz KX G ?_ ?_ ?_ ?_) (fz KX G ?_ ?_ ?_ ?_) (fz KX G ?_ ?_ ?_ ?_) (fz KX G ?_ ?_ ?_ ?_) (fz KX G ?_ ?_ ?_ ?_) (fz KX G ?_ ?_ ?_ ?_) (fz KX G ?_ ?_ ?_ ?_) (fz KX G ?_ ?_ ?_ ?_) (fz KX G ?_ ?_ ?_ ?_) (fz KX G ?_ ?_ ?_ ?_) (fz KX G ?_ ?_ ?_ ?_) (fz KX G ?_ ?_ ?_ ?_) (fz KX G ?_ ?_ ?_ ?_) (fz KX G ?_ ?_ ?_ ?_) (fz KX G ?_ ?_ ?_ ?_) (fz KX G ?_ ?_ ?_ ?_) (PySem.W.mg_none_of KX G ?_) <;> try k_is
