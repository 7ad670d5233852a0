import PyProof.Rows.All
import Wide.All
import OpenK.AllK
import Wide.FinOn
import PyProof.EqAt
import PyProof.EqKinds
import PyProof.TupleCall
import Lean
import PySem.Challenge.RW_twinriddles_k14_whole_answers
set_option Elab.async false
set_option linter.all false
set_option maxRecDepth 100000
set_option maxHeartbeats 8000000
noncomputable section
section
open PySem PySem.Spec PyProof.Rows
abbrev il:=Value->Shared->Prop
abbrev iq:=List (Addr×Obj)
abbrev hG:=PySem.W.Frag
abbrev iW:=List (List Int)
abbrev gY:=List Int
abbrev iV:=List Value
abbrev lu:=Str->Option Value
abbrev iM:=List Nat
abbrev lx:=Nat->Nat->Bool
abbrev jQ:=Array Nat
abbrev mK:=Array (Int×Value)
abbrev kz:=Array Value
abbrev iK:=List Str
abbrev jF:=List Expr
abbrev qp:=Bool->Shared->Prop
abbrev G0:=Option Value->Shared->Prop
abbrev xb:=Value->Value->Sem Value
abbrev uL:=Array (Option Nat)
abbrev xa:=Array (Option Value)
abbrev qo:=List (Str×Addr)
abbrev qm:=List Comprehension
abbrev nB:=Array Keyed
abbrev nA:=Nat->Keyed
abbrev AB:=Option Nat->SortSt->Prop
abbrev jq:=Nat->Prop
abbrev jW:=List Addr
abbrev gC:=Shared
abbrev hW:=Program
abbrev gZ:=Around
abbrev gU:=World
abbrev iU:=SortSt
abbrev lb:=SetTable
abbrev gQ:=Value
abbrev oP:=Comprehension
abbrev og:=FuncData
abbrev jV:=Scope
abbrev gR:=Expr
abbrev hV:=Heap
abbrev gz:=Addr
end
section
open PySem PySem.Spec PyProof.Rows PySem.SeqAt
def gx:=@wpAny_bind
theorem gG:type_of% @if_pos:=@if_pos
theorem gJ:type_of% @if_neg:=@if_neg
def gO:=@wpAny_pure
theorem ir:type_of% @Nat.le_refl:=@Nat.le_refl
theorem iN:type_of% @List.map_cons:=@List.map_cons
theorem iO:type_of% @Bool.false_eq_true:=@Bool.false_eq_true
theorem jb:type_of% @if_false:=@if_false
theorem jd:type_of% @List.getElem?_eq_getElem:=@List.getElem?_eq_getElem
theorem jc:type_of% @Option.bind_some:=@Option.bind_some
def iu:=@Heap.lt_size
theorem iD:type_of% @List.size_toArray:=@List.size_toArray
theorem jC:type_of% @List.mem_cons:=@List.mem_cons
def iF:=@Heap.get?_push_of_some
theorem iE:type_of% @if_true:=@if_true
def iL:=@Nat.ne_of_lt
def iR:=@Option.some.inj
theorem iQ:type_of% @sizeLine_eq:=@sizeLine_eq
theorem mw:type_of% @List.mem_map:=@List.mem_map
def iX:=@List.mem_cons_self
def je:=@List.mem_cons_of_mem
theorem jg:type_of% @List.nodup_nil:=@List.nodup_nil
theorem nG:type_of% @List.mem_append:=@List.mem_append
def jk:=@Bool.false_ne_true
theorem jj:type_of% @List.length_map:=@List.length_map
theorem jr:type_of% @Array.length_toList:=@Array.length_toList
def jG:=@Heap.get?_push_size
def lW:=@List.pairwise_append
theorem jX:type_of% @List.map_map:=@List.map_map
theorem kc:type_of% @List.not_mem_nil:=@List.not_mem_nil
def vS:=@List.getElem?_eq_some_iff
theorem ki:type_of% @List.append_assoc:=@List.append_assoc
theorem kD:type_of% @List.length_cons:=@List.length_cons
def kA:=@List.getElem_mem
theorem kX:type_of% @decide_eq_false:=@decide_eq_false
theorem lh:type_of% @List.getElem?_map:=@List.getElem?_map
def lg:=@Array.getElem?_toList
theorem mC:type_of% @List.all_eq_true:=@List.all_eq_true
theorem lA:type_of% @or_false:=@or_false
def ly:=@List.mem_of_mem_drop
theorem lO:type_of% @Bool.and_eq_true:=@Bool.and_eq_true
def lN:=@Nat.zero_le
theorem lM:type_of% @Bool.not_true:=@Bool.not_true
def lL:=@List.take_append_drop
theorem mq:type_of% @List.length_append:=@List.length_append
def mn:=@wpAny_newObj_type
def qw:=@List.mem_singleton
def ml:=@List.mem_of_mem_take
def mR:=@Nat.lt_of_lt_of_le
def mQ:=@wpAny_holding
def mP:=@List.take_sublist
def mO:=@List.mem_of_getElem?
def qc:=@List.pairwise_cons
def mN:=@Array.getElem?_eq_getElem
def mM:=@PySem.W.mg_none_of
def nF:=@Nat.le_trans
def nE:=@wpAny_field
def nD:=@wpAny_call_entry
theorem nC:type_of% @decide_eq_true:=@decide_eq_true
theorem oi:type_of% @Nat.lt_irrefl:=@Nat.lt_irrefl
theorem oh:type_of% @List.lookup_cons:=@List.lookup_cons
def oU:=@List.mem_append_right
theorem oT:type_of% @List.map_nil:=@List.map_nil
theorem oS:type_of% @not_or:=@not_or
theorem oR:type_of% @List.drop_drop:=@List.drop_drop
def oQ:=@List.drop_sublist
theorem uK:type_of% @List.mem_range:=@List.mem_range
def qb:=@Ne.symm
def qa:=@wpAny_mono
def pZ:=@congrArg
theorem pY:type_of% @List.length_take:=@List.length_take
def pX:=@wpAny_of_eq
theorem pW:type_of% @Function.comp_def:=@Function.comp_def
def pV:=@List.map_congr_left
def qv:=@List.getElem?_set_self
def qu:=@Nat.ne_of_gt
theorem qt:type_of% @Int.toNat_natCast:=@Int.toNat_natCast
def qr:=@codeAny_builtin
def qq:=@wpAny_seqItems
def sV:=@List.getElem?_set_ne
def sU:=@wpAny_callSpecial?_slot
def sQ:=@Heap.get?_update_self
theorem sP:type_of% @List.length_set:=@List.length_set
theorem sN:type_of% @List.length_nil:=@List.length_nil
def sM:=@Around.under_plainId
def sL:=@Obj.data_mapFields
def sJ:=@List.take_of_length_le
def sH:=@Nat.min_eq_left
theorem sG:type_of% @List.map_append:=@List.map_append
def sD:=@Nat.pow_succ
def sA:=@wpAny_setState_of
def uU:=@List.filterMap_cons
def uT:=@wpAny_truthy_bool
def uS:=@wpAny_typeOf
theorem uR:type_of% @bne_self_eq_false:=@bne_self_eq_false
def uQ:=@wpAny_rule
def uP:=@Heap.size_push
def uO:=@List.getElem?_of_mem
def uN:=@Nat.lt_succ_self
def uM:=@Heap.SameBut.update
def pB:=@List.Perm.append_left
theorem pA:type_of% @List.nil_append:=@List.nil_append
def pz:=@wpAny_forIn_list
def pv:=@Nat.mul_assoc
def qF:=@List.append_nil
def qE:=@codeAny_mono
def J8:=@Option.isSome_iff_exists
def qD:=@eq_of_beq
theorem qC:type_of% @bind_assoc:=@bind_assoc
def qB:=@Nat.lt_succ_of_lt
theorem qA:type_of% @List.any_cons:=@List.any_cons
def qz:=@PySem.W.kia_one
def qy:=@plainId_quiet
theorem qx:type_of% @Array.getD_eq_getD_getElem?:=@Array.getD_eq_getD_getElem?
def J7:=@PySem.F.called_set
theorem xv:type_of% @beq_eq_false_iff_ne:=@beq_eq_false_iff_ne
theorem Aa:type_of% @List.mem_filter:=@List.mem_filter
def ug:=@wpAny_passesOwn
def uf:=@PySem.mem_of_lookup
def ue:=@Prod.mk.inj
def ud:=@List.drop_eq_getElem_cons
def uc:=@List.drop_eq_nil_of_le
theorem ub:type_of% @decide_eq_true_eq:=@decide_eq_true_eq
def ua:=@wpAny_setField
def tZ:=@wpAny_attempt
def tY:=@List.cons.inj
def tX:=@List.Perm.refl
theorem tV:type_of% @List.take_take:=@List.take_take
theorem tU:type_of% @List.foldl_cons:=@List.foldl_cons
theorem tR:type_of% @List.zip_cons_cons:=@List.zip_cons_cons
def tQ:=@Nat.mul_add
def MQ:=@Array.getElem?_eq_some_iff
def tP:=@wpAny_specialOf
def tN:=@List.map_id
def tM:=@List.filter_cons_of_pos
def wy:=@wpAny_load
def wx:=@List.getElem?_append_right
theorem wu:type_of% @List.length_drop:=@List.length_drop
def Ab:=@PyProof.Rows.slot_tuple_getitem
def wt:=@Heap.get?_update_other
def wq:=@Nat.le_succ
def wo:=@wpAny_askSetting
theorem wm:type_of% @List.find?_cons:=@List.find?_cons
theorem wk:type_of% @List.any_map:=@List.any_map
def wj:=@wpAny_setField_rec
def wg:=@wpAny_isInstance
def we:=@List.Perm.append_right
theorem wd:type_of% @List.extract_toArray:=@List.extract_toArray
theorem wc:type_of% @List.extract_eq_take_drop:=@List.extract_eq_take_drop
def wa:=@List.drop_zero
theorem vZ:type_of% @List.getElem?_drop:=@List.getElem?_drop
def vY:=@Bool.or_eq_true
def vX:=@Nat.mul_comm
def vW:=@Nat.mul_one
def vV:=@Nat.mod_lt
def Dc:=@List.pairwise_map
def vU:=@List.filter_congr
def vT:=@List.filter_cons_of_neg
def yA:=@wpAny_standAt
def yz:=@wpAny_pyIter_list
def J6:=@List.nodup_cons
def yy:=@List.getElem?_append_left
def yw:=@List.length_singleton
theorem yv:type_of% @List.forIn_cons:=@List.forIn_cons
def yu:=@codeAny_of_tree
def yt:=@wpAny_onRaise
def OI:=@Array.perm_iff_toList_perm
def G2:=@List.pairwise_iff_getElem
def yq:=@List.getElem_of_mem
def yp:=@Nat.pow_le_pow_right
theorem yo:type_of% @List.getElem?_cons_succ:=@List.getElem?_cons_succ
def AD:=@PySem.F.slot_dict_keyiterator_next
def G1:=@PySem.F.slot_tuple_hash
def yn:=@List.filter_map
def B7:=@Paired.length
def B6:=@Nat.le_of_lt
def BZ:=@boot_range
def BY:=@PyProof.Rows.callWith_type1
def BX:=@wpAny_Call_Name_kw
def BW:=@concat_meets
def BV:=@IsTup.new
def BU:=@call_meets
def BR:=@Heap.SameBut.refl
def BQ:=@List.getElem?_set
theorem EJ:type_of% @List.getElem?_zip_eq_some:=@List.getElem?_zip_eq_some
def BP:=@List.ext_getElem?
def BO:=@wpAny_runValue
theorem BN:type_of% @List.getElem?_eq_none:=@List.getElem?_eq_none
def BM:=@F.slot_tuple_iterator_next
def BL:=@Obj.isFreed_of_fields
def BK:=@Obj.cls_mapFields
def BJ:=@F.slot_zip_next
def BI:=@Nat.lt_or_ge
def BH:=@List.pairwise_singleton
def EI:=@List.perm_middle
def BG:=@List.perm_append_comm
def BF:=@List.take_succ
def BE:=@List.Perm.of_eq
def BD:=@List.singleton_append
def BC:=@AutoSeq1.sub_tuple_tuple
def BB:=@richCompare_meets_room
def Bz:=@Nat.mul_left_comm
theorem By:type_of% @Array.getElem?_setIfInBounds:=@Array.getElem?_setIfInBounds
theorem Bx:type_of% @Array.getElem?_eq_none:=@Array.getElem?_eq_none
def Bw:=@wpAny_isSame_ref_self
theorem Bv:type_of% @List.getElem?_cons_zero:=@List.getElem?_cons_zero
def Bu:=@isSubtype_type
def Bt:=@List.length_eraseIdx
def Bs:=@PySem.F.plain_list_iadd
def Br:=@wpAny_updateSeq
def Bp:=@wpAny_typeNameOfWhole_keyiter
def Bo:=@Array.forIn_toList
def Fy:=@wpAny_pyHash_int
def Fx:=@wpAny_execs_nil
def Fw:=@Int.mul_one
def Fv:=@wpAny_pyIter_tuple
def Fu:=@List.of_mem_zip
def Ft:=@noFill_tuple_add
def Fs:=@seq_tuple_add
def Fq:=@PySem.F.slot_tuple_add
def Fp:=@PySem.F.entry_tuple_add
def Fo:=@PySem.F.args_tuple_add_2
def Fn:=@seqIndex_of
def Fm:=@seqIndex_neg
def Fl:=@List.ext_getElem
def Fj:=@PySem.F.plainAttrs_list
def MT:=@F.called_tuple
def Fi:=@wpAny_handled
def Fh:=@wpAny_throw
def Fg:=@wpAny_updateSeq_pair
def Ff:=@wpAny_letGo
def Fe:=@isSubtype_stop
def Fd:=@List.range'_succ
def RP:=@Array.mem_toList_iff
def Fc:=@List.drop_left
def Fb:=@Nat.add_zero
def E9:=@listUpdate_at
def E8:=@get?_update_seq
def E7:=@seqEpoch_at
def E6:=@Nat.one_mul
def E5:=@Nat.mul_zero
def EZ:=@Int.emod_lt_of_pos
def EY:=@Int.emod_nonneg
def RO:=@List.length_eq_zero_iff
def EX:=@wpAny_pyIter_slot
def EW:=@wpAny_setEntries_of
def EV:=@PyProof.Rows.F.plain_set_update_loop
def EU:=@wpAny_dictEntries
def ET:=@wpAny_dictEpoch
def ES:=@List.mem_map_of_mem
def EO:=@List.getD_eq_getElem?_getD
def EN:=@List.nodup_append
def EM:=@Bool.or_assoc
def EL:=@List.filter_filter
def J5:=@List.mem_append_left
def J3:=@Calls.Name_function_global
def J2:=@PySem.W.cellsFrom_some
def J1:=@List.getElem?_take_of_lt
def JZ:=@entry_tuple_getitem
def JY:=@subscriptTail_builtinR
def JX:=@F.entry_list_append
def JW:=@F.args_list_append_2
def JV:=@wpAny_comprehension_free
def JU:=@List.getElem?_zipIdx
def JT:=@F.entry_tuple_iterator_next
def JS:=@F.args_tuple_iterator_next_1
def JR:=@PySem.W.kas_swaps_map
def JQ:=@List.take_set_of_le
def JP:=@List.drop_set_of_lt
def JO:=@List.Perm.eq_of_pairwise
def OH:=@List.pairwise_lt_range
def JN:=@Heap.get?_update_ne
def JM:=@List.mem_erase_of_ne
def JL:=@List.filterMap_append
def JK:=@List.perm_append_singleton
def JJ:=@Array.getElem?_replicate
def JI:=@builtinLookup_eq_fast
def JH:=@PySem.F.slot_set_iter
def JG:=@PySem.F.entry_proto_collect
def JF:=@PySem.F.plain_proto_collect
def JE:=@PySem.F.entry_list_iadd
def JD:=@PySem.F.plain_extend_loop
def JC:=@codeAny_extend_loopS
def JB:=@PyProof.Rows.F.entry_set_update_loop
def JA:=@PySem.F.plain_set_new
def Jz:=@PySem.F.slot_dict_iter
def Jy:=@PySem.F.entry_dict_keyiterator_next
def Jx:=@PySem.F.args_dict_keyiterator_next_1
def Jw:=@wpAny_isOneOf_keyiter
def RW:=@Array.toList_eq_nil_iff
def Jv:=@List.length_filter_le
end
namespace TT
open PySem
noncomputable def adv(mask:Nat)(p:SetTable.Probe):SetTable.Probe:=
 if p.more>0 then {p with j:=p.j+1,more:=p.more-1} else
 {p with j:=(SetTable.leap mask p.i p.perturb).1,more:=SetTable.runEnd mask (SetTable.leap mask p.i p.perturb).1-(SetTable.leap mask p.i p.perturb).1,i:=(SetTable.leap mask p.i p.perturb).1,perturb:=(SetTable.leap mask p.i p.perturb).2}
noncomputable def stt(mask:Nat)(h:Int):SetTable.Probe:={j:=SetTable.bits h%(mask+1),more:=SetTable.runEnd mask (SetTable.bits h%(mask+1))-SetTable.bits h%(mask+1),i:=SetTable.bits h%(mask+1),perturb:=SetTable.bits h,dummy:=none}
noncomputable def pr(mask:Nat)(h:Int):Nat->SetTable.Probe
 |0=>stt mask h
 |n+1=>adv mask (pr mask h n)
structure TabOk(hs:gY)(t:lb):Prop where
 pow: ∃k,3<=k/\k<=11/\t.mask+1=2^k
 dum:t.dummies= #[]
 len:t.place.size=hs.length
 room:5*hs.length<3*t.mask
 ris:t.place.toList.Pairwise (· < ·)
 bd: ∀j∈t.place.toList,j<=t.mask
 road: ∀(i:Nat) (h:Int) (j:Nat),hs[i]?=some h->t.place[i]?=some j-> ∃n,(pr t.mask h n).j=j/\ ∀m,m<n->(pr t.mask h m).j∈t.place.toList
end TT
namespace L2
open PySem PySem.Spec PyProof.Rows
abbrev Key:=Sum Int Str
noncomputable def zm:Key->Value->Bool
 | .inl k,v=>Value.isInt k v
 | .inr x,v=>Value.isStrOf x v
noncomputable def U4(w:gU):Key->Int
 | .inl k=>hashInt k
 | .inr x=>hashStr w x
theorem jA: ∀{k:Key} {v:gQ},zm k v=true->(∃i t,k=Sum.inl i/\v=Value.int i t)\/(∃x t,k=Sum.inr x/\v=Value.str x t)
 | .inl i,v,h=>by
  obtain⟨t,e⟩:=Value.isInt_shape (k:=i) (v:=v) h;exact .inl ⟨i,t,rfl,e⟩
 | .inr x,v,h=>by
  obtain⟨t,e⟩:=Value.isStrOf_shape (x:=x) (v:=v) h;exact .inr ⟨x,t,rfl,e⟩
theorem Jb(i:Int)(t:Tok):zm (.inl i) (.int i t)=true:=by simp[zm,Value.isInt]
theorem Ja(x:Str)(t:Tok):zm (.inr x) (.str x t)=true:=by simp[zm,Value.isStrOf]
theorem L0(a b:Int):decide ((Sum.inl a:Key)=Sum.inl b)=(a==b):=by
 by_cases e:a=b
 ·subst e;simp
 ·have h: ¬(Sum.inl a:Key)=Sum.inl b:=fun q=>e (Sum.inl.inj q);rw[kX h];exact(xv.mpr e).symm
theorem LX(a b:Str):decide ((Sum.inr a:Key)=Sum.inr b)=decide (a=b):=by
 by_cases e:a=b
 ·subst e;simp
 ·have h: ¬(Sum.inr a:Key)=Sum.inr b:=fun q=>e (Sum.inr.inj q);rw[kX h,kX e]
theorem LZ(a:Int)(b:Str):decide ((Sum.inl a:Key)=Sum.inr b)=false:=kX (fun q=>nomatch q)
theorem LY(a:Str)(b:Int):decide ((Sum.inr a:Key)=Sum.inl b)=false:=kX (fun q=>nomatch q)
noncomputable def kG(prog:hW)(w:gU):PySem.KeyKind prog w Key where
 is:=zm
 hash:=U4 w
 inj:=fun v a b ha hb=>by
  rcases jA ha with⟨i,t,rfl,rfl⟩|⟨x,t,rfl,rfl⟩
  ·rcases jA hb with⟨j,u,rfl,e⟩|⟨y,u,rfl,e⟩
   ·injection e with e1 _;rw[e1]
   ·exact nomatch e
  ·rcases jA hb with⟨j,u,rfl,e⟩|⟨y,u,rfl,e⟩
   ·exact nomatch e
   ·injection e with e1 _;rw[e1]
 byValue:=fun k v h=>by
  rcases jA h with⟨i,t,rfl,rfl⟩|⟨x,t,rfl,rfl⟩<;>rfl
 pyHash:=fun hv h=>by
  rcases jA hv with⟨i,t,rfl,rfl⟩|⟨x,t,rfl,rfl⟩
  ·exact Fy h
  ·exact wpAny_pyHash_str h
 eqBool:=fun hu hv h=>by
  rcases jA hu with⟨i,t,rfl,rfl⟩|⟨x,t,rfl,rfl⟩
  ·rcases jA hv with⟨j,u,rfl,rfl⟩|⟨y,u,rfl,rfl⟩
   ·rw[L0] at h;exact wpAny_eqBool_int h
   ·rw[LZ] at h;exact SeqAt.EqAt.int_str i t y u _ _ _ _ h
  ·rcases jA hv with⟨j,u,rfl,rfl⟩|⟨y,u,rfl,rfl⟩
   ·rw[LY] at h;exact SeqAt.EqAt.str_int x t j u _ _ _ _ h
   ·rw[LX] at h;exact wpAny_eqBool_str h
 «strs»:=fun k x t v h=>by
  rcases jA h with⟨i,u,rfl,e⟩|⟨y,u,rfl,e⟩
  ·exact nomatch e
  ·injection e with e1 _
   subst e1;cases v<;>rfl
theorem D0(prog:hW)(w:gU)(i:Int)(t:Tok):(kG prog w).is (.inl i) (.int i t)=true:=Jb i t
theorem DZ(prog:hW)(w:gU)(x:Str)(t:Tok):(kG prog w).is (.inr x) (.str x t)=true:=Ja x t
inductive V where
 |non|bl(b:Bool)|int(i:Int)|str(x:Str)|byt(b:Array UInt8)|flt(b:UInt64)|ref(a:gz)|ty(n:String)
 deriving DecidableEq
def RelV:V->Value->Prop
 | .non,u=>u=Value.none
 | .bl b,u=>u=Value.bool b
 | .int i,u=> ∃t,u=Value.int i t
 | .str x,u=> ∃t,u=Value.str x t
 | .byt b,u=> ∃t,u=Value.bytes b t
 | .flt b,u=> ∃t,u=Value.float b t
 | .ref a,u=>u=Value.ref a
 | .ty n,u=>u=Value.type n
abbrev Vals:List V->List Value->Prop:=Paired RelV
theorem Vals.length{xs:List V}{us:iV}(r:Vals xs us):xs.length=us.length:=B7 r
theorem Vals.get: ∀{xs:List V} {us:iV} {i:Nat} {x:V},Vals xs us->xs[i]?=some x-> ∃u,us[i]?=some u/\RelV x u
 |_,_,_,_,.nil,e=>by simp at e
 |_,_,0,_,.cons r _,e=>by simp at e;subst e;exact⟨_,rfl,r⟩
 |_,_,i+1,x,.cons _ t,e=>by
  obtain⟨u,h1,h2⟩:=Vals.get (i:=i) (x:=x) t (by simpa using e);exact⟨u,by simpa using h1,h2⟩
theorem Vals.set{x:V}{u:gQ}(r:RelV x u): ∀{xs:List V} {us:iV} (i:Nat),Vals xs us->Vals (xs.set i x) (us.set i u)
 |_,_,_,.nil=> .nil
 |_,_,0,.cons _ t=> .cons r t
 |_,_,i+1,.cons q t=> .cons q (Vals.set r i t)
theorem Vals.append: ∀{xs ys:List V} {us ws:iV},Vals xs us->Vals ys ws->Vals (xs++ys) (us++ws)
 |_,_,_,_,.nil,s=>s
 |_,_,_,_,.cons r t,s=> .cons r (Vals.append t s)
theorem Vals.take: ∀{xs:List V} {us:iV} (n:Nat),Vals xs us->Vals (xs.take n) (us.take n)
 |_,_,0,_=> .nil
 |_,_,_+1,.nil=> .nil
 |_,_,n+1,.cons r t=> .cons r (Vals.take n t)
theorem Vals.drop: ∀{xs:List V} {us:iV} (n:Nat),Vals xs us->Vals (xs.drop n) (us.drop n)
 |_,_,0,r=>r
 |_,_,_+1,.nil=> .nil
 |_,_,n+1,.cons _ t=>Vals.drop n t
def RelO:Option V->Option Value->Prop
 |some v,some u=>RelV v u
 |none,none=>True
 |_,_=>False
def KV{κ:Type}:List (κ×V)->List (κ×Value)->Prop:=Paired fun(p:κ×V) (q:κ×Value)=>p.1=q.1/\RelV p.2 q.2
noncomputable def kV:Key->V
 | .inl i=> .int i
 | .inr x=> .str x
inductive HO where
 /-- a list -/
 |lst(xs:List V)
 /-- a tuple(never changes) -/
 |tup(xs:List V)
 /-- a dict whose keys are ints and texts;one whose keys are tuples of ints and texts(the empty one is both) -/
 |dK(kvs:List (Key×V))|dT(kvs:List (List Key×V))
 /-- a set of ints:b6 members,b6 size -/
 |set (S:Int->Bool) (n:Nat)
 |stt (zs:List (Int×V))
 /-- an instance of the class at C,b6 dict at dx,b6 attributes -/
 |ins (C dx:gz) (fs:List (Str×V))
 /-- the dict of the instance at x -/
 |own (x:gz)
 /-- the dict of an exception -/
 |xd (fs:List (Str×V))
 /-- a bound method,f of x -/
 |met (f x:gz)
 /-- a range object lo,lo+1,.. below hi -/
 |rng (lo hi:Int)
 /-- a thing that is known to the object (the script;a dict while a loop walks it):read,never written while it is so -/
 |frz (o:Obj) (u:HO)
 /-- a code object's table -/
 |tbl (ps:kz)
 /-- any other thing,by what is true of b6 one object (a def of one's own:SetO a S n:=HO.ext fun h=> ..) -/
 |ext (φ:Heap->Prop)
abbrev Hp:=Addr->Option HO
noncomputable def upd(H:Hp)(a:gz)(o:HO):Hp:=fun b=>if b=a then some o else H b
theorem iG{H:Hp}{a:gz}{o:HO}:upd H a o a=some o:=by unfold upd;rw[gG rfl]
theorem iI{H:Hp}{a b:gz}{o:HO}(h:b≠a):upd H a o b=H b:=by unfold upd;rw[gJ h]
theorem G8{H:Hp}{a:gz}{o u:HO}:upd (upd H a o) a u=upd H a u:=by
 funext b;unfold upd;split<;>rfl
theorem OX{H:Hp}{a b:gz}{o u:HO}(h:H a=some o)(h':H b=some u)(d:o≠u):a≠b:=by
 intro e;subst e;rw[h] at h';exact d (iR h')
theorem lR{H:Hp}{a b:gz}{o:HO}(h:H a=some o)(h':H b=none):a≠b:=by
 intro e;subst e;rw[h] at h';cases h'
section
variable(P:hW)(w:gU)
def ObjOk(H:Hp)(h:hV)(a:gz):HO->Prop
 | .lst xs=>xs.length<=sizeLine/\ ∃(b6:iV) (n:Nat),Vals xs b6/\h.get? a=some {cls:= .type "list",data:= .seq b6.toArray n}
 | .tup xs=>xs.length<=sizeLine/\ ∃b6:List Value,Vals xs b6/\IsTup h a b6.toArray
 | .dK kvs=>kvs.length<=sizeLine/\(a==sysModules)=false/\ ∃vs,KV kvs vs/\h.DictOf (kG P w) a vs
 | .dT kvs=>kvs.length<=sizeLine/\(a==sysModules)=false/\ ∃xs:List (List Key×Addr×Value),
   Paired (fun(p:List Key×V) (q:List Key×Addr×Value)=>p.1=q.1/\H q.2.1=some (.tup (p.1.map kV))/\RelV p.2 q.2.2) kvs xs/\
   ∃o es ep,h.get? a=some o/\o.ExactDict/\o.data= .dict es ep/\es.toList=xs.map (entryOfKey (tupleKind (kG P w)))/\(xs.map (·.1)).Nodup
 | .set S n=>h.SetOf (intKind P w) a S n
 | .stt zs=> ∃(es:mK) (n:Nat) (t:lb),h.get? a=some {cls:= .type "set",data:= .set es n t}/\Paired (fun(z:Int×V) (e:Int×Value)=>z.1=e.1/\RelV z.2 e.2) zs es.toList/\
   TT.TabOk (zs.map (·.1)) t/\t.plain=true/\t.led=!w.params.followText "set-order"
 | .ins C dx fs=>H dx=some (.own a)/\fs.length<=1000/\dx≠a/\h.get? a=some (PySem.W.instObj C dx)/\
   ∃mA,h.Ns1 dx mA/\(∀f,RelO (fs.lookup f) (mA f))/\PySem.Within mA (fs.map (·.1))
 | .own _=> ∃o,h.get? a=some o
 | .xd fs=> ∃mA,h.Ns1 a mA/\ ∀f,RelO (fs.lookup f) (mA f)
 | .rng lo hi=> ∃t u v,h.get? a=some {cls:= .type "range",data:= .fields #[.int lo t,.int hi u,.int 1 v]}
 | .frz o u=>h.get? a=some o/\ObjOk H h a u
 | .tbl ps=>h.get? a=some {cls:= .none,data:= .fields ps}
 | .met f x=>h.get? a=some (PySem.W.methodObj (.ref f) (.ref x))
 | .ext φ=>φ h/\(∃o,h.get? a=some o)/\ ∀h1 h2:Heap,φ h1->(∀o,h1.get? a=some o->h2.get? a=some o)->φ h2
def HOk(H:Hp)(h:hV):Prop:= ∀a o,H a=some o->ObjOk P w H h a o
end
section
variable {P:hW}{w:gU}{H H':Hp}{h h':hV}{a:gz}{o:HO}
theorem ObjOk.lt(x:ObjOk P w H h a o):a<h.objs.size:=by
 cases o with
 |lst xs=>obtain⟨_,_,_,_,e⟩:=x;exact iu e
 |tup xs=>obtain⟨_,_,_,p⟩:=x;exact p.lt
 |dK kvs=>obtain⟨_,_,_,_,o,_,_,e,_⟩:=x;exact iu e
 |dT kvs=>obtain⟨_,_,_,_,o,_,_,e,_⟩:=x;exact iu e
 |set S n=>obtain⟨o,_,_,_,e,_⟩:=x;exact iu e
 |stt zs=>obtain⟨_,_,_,e,_⟩:=x;exact iu e
 |ins C dx fs=>obtain⟨_,_,_,e,_⟩:=x;exact iu e
 |own y=>obtain⟨_,e⟩:=x;exact iu e
 |xd fs=>obtain⟨_,⟨_,_,_,e,_⟩,_⟩:=x;exact iu e
 |rng lo hi=>obtain⟨_,_,_,e⟩:=x;exact iu e
 |frz ob u=>obtain⟨e,_⟩:=x;exact iu e
 |tbl ps=>exact iu (show h.get? a=some _ from x)
 |met f y=>exact iu (show h.get? a=some _ from x)
 |ext φ=>obtain⟨_,⟨_,e⟩,_⟩:=x;exact iu e
theorem Paired.mapP{α β:Type}{F G:α->β->Prop}: ∀{l₁:List α} {l₂:List β},Paired F l₁ l₂->(∀a b,F a b->G a b)->Paired G l₁ l₂
 |_,_,.nil,_=> .nil
 |_,_,.cons r t,f=> .cons (f _ _ r) (Paired.mapP t f)
theorem ObjOk.stay(x:ObjOk P w H h a o)(k: ∀b u,(b=a\/H b=some (.own a))->h.get? b=some u->h'.get? b=some u)
  (ho: ∀b,H b=some (.own a)->H' b=some (.own a))(ht: ∀b xs,H b=some (.tup xs)->H' b=some (.tup xs)):ObjOk P w H' h' a o:=by
 induction o with
 |lst xs=>obtain⟨z,b6,n,r,e⟩:=x;exact⟨z,b6,n,r,k _ _ (.inl rfl) e⟩
 |tup xs=>obtain⟨z,b6,r,ob,e,c⟩:=x;exact⟨z,b6,r,ob,k _ _ (.inl rfl) e,c⟩
 |dK kvs=>obtain⟨z,y,vs,r,ob,es,ep,e,c⟩:=x;exact⟨z,y,vs,r,ob,es,ep,k _ _ (.inl rfl) e,c⟩
 |dT kvs=>
  obtain⟨z,y,xs,r,ob,es,ep,e,c⟩:=x;exact⟨z,y,xs,Paired.mapP r fun p q z=>⟨z.1,ht _ _ z.2.1,z.2.2⟩,ob,es,ep,k _ _ (.inl rfl) e,c⟩
 |set S n=>obtain⟨ob,es,ep,t,e,c⟩:=x;exact⟨ob,es,ep,t,k _ _ (.inl rfl) e,c⟩
 |stt zs=>obtain⟨es,n,t,e,c⟩:=x;exact⟨es,n,t,k _ _ (.inl rfl) e,c⟩
 |ins C dx fs=>
  obtain⟨d,z,ne,e,mA,⟨od,es,ep,e2,c⟩,r⟩:=x;exact⟨ho _ d,z,ne,k _ _ (.inl rfl) e,mA,⟨od,es,ep,k _ _ (.inr d) e2,c⟩,r⟩
 |own y=>obtain⟨ob,e⟩:=x;exact⟨ob,k _ _ (.inl rfl) e⟩
 |xd fs=>obtain⟨mA,⟨od,es,ep,e,c⟩,r⟩:=x;exact⟨mA,⟨od,es,ep,k _ _ (.inl rfl) e,c⟩,r⟩
 |rng lo hi=>obtain⟨t,u,v,e⟩:=x;exact⟨t,u,v,k _ _ (.inl rfl) e⟩
 |frz ob u ih=>obtain⟨e,q⟩:=x;exact⟨k _ _ (.inl rfl) e,ih q⟩
 |tbl ps=>
  have e:h.get? a=some {cls:= .none,data:= .fields ps}:=x;show h'.get? a=some {cls:= .none,data:= .fields ps};exact k a _ (.inl rfl) e
 |met f y=>
  have e:h.get? a=some (PySem.W.methodObj (.ref f) (.ref y)):=x;show h'.get? a=some (PySem.W.methodObj (.ref f) (.ref y));exact k a _ (.inl rfl) e
 |ext φ=>obtain⟨p,⟨o,e⟩,st⟩:=x;exact⟨st _ _ p fun o q=>k _ _ (.inl rfl) q,⟨o,k _ _ (.inl rfl) e⟩,st⟩
theorem HOk.lt(x:HOk P w H h)(e:H a=some o):a<h.objs.size:=(x a o e).lt
theorem HOk.fresh(x:HOk P w H h)(e:h.objs.size<=a):H a=none:=by
 cases q:H a with
 |none=>rfl
 |some u=>exact absurd (mR (x.lt q) e) (oi _)
theorem HOk.kept(x:HOk P w H h)(k: ∀b u,h.get? b=some u->h'.get? b=some u):HOk P w H h':=fun a o e=>
 (x a o e).stay (fun b u _ q=>k b u q) (fun _ q=>q) fun _ _ q=>q
theorem HOk.laid(x:HOk P w H h)(k: ∀b u,h.get? b=some u->h'.get? b=some u)(hp:h.objs.size<=a)(new:ObjOk P w (upd H a o) h' a o):HOk P w (upd H a o) h':=fun b u e=>by
 have hn:=x.fresh hp;by_cases hb:b=a
 ·subst hb;rw[iG] at e;cases e;exact new
 ·rw[iI hb] at e;exact(x b u e).stay (fun c v _ q=>k c v q) (fun c q=>by rw[iI (lR q hn)];exact q) fun c xs q=>by rw[iI (lR q hn)];exact q
end
def Rd(H:Hp)(a:gz)(u:HO):Prop:=H a=some u\/ ∃o,H a=some (.frz o u)
theorem Rd.ok{P:hW}{w:gU}{H:Hp}{h:hV}{a:gz}{u:HO}(r:Rd H a u)(x:HOk P w H h):ObjOk P w H h a u:=by
 rcases r with r|⟨o,r⟩
 ·exact x a u r
 ·obtain⟨_,q⟩:=x a _ r;exact q
def Mut:Option HO->Prop
 |some (.lst _)=>True
 |some (.dK _)=>True
 |some (.dT _)=>True
 |some (.set _ _)=>True
 |some (.stt _)=>True
 |some (.ins _ _ _)=>True
 |some (.ext _)=>True
 |_=>False
section
variable {P:hW}{w:gU}{H:Hp}{h h':hV}{x e:gz}{o':HO}
theorem HOk.write(ok:HOk P w H h)(mu:Mut (H x))(he:e=x\/H e=some (.own x))(k: ∀b u,b≠e->h.get? b=some u->h'.get? b=some u)(dv: ∃u,h'.get? e=some u)
  (new:ObjOk P w (upd H x o') h' x o'):HOk P w (upd H x o') h':=fun b u q=>by
 have nown: ∀c y,H c=some (.own y)->c≠x:=fun c y r z=>by subst z;rw[r] at mu;exact mu
 have ntup: ∀c xs,H c=some (.tup xs)->c≠x:=fun c xs r z=>by subst z;rw[r] at mu;exact mu
 by_cases hb:b=x
 ·subst hb;rw[iG] at q;cases q;exact new
 ·rw[iI hb] at q;by_cases cV:b=e
  ·have q':H b=some (.own x):=by
    rcases he with z|z
    ·exact absurd (cV.trans z) hb
    ·rw[cV];exact z
   rw[q] at q';cases q';obtain⟨v,hv⟩:=dv;exact⟨v,by rw[cV];exact hv⟩
  ·refine(ok b u q).stay (fun c v hc r=>k c v ?_ r) (fun c r=>by rw[iI (nown c b r)];exact r) fun c xs r=>by rw[iI (ntup c xs r)];exact r
   rcases hc with rfl|hc
   ·exact cV
   ·rintro rfl;rcases he with z|z
    ·exact nown c b hc z
    ·rw[hc] at z;cases z;exact hb rfl
end
structure Un(fs ex:jW)(H H':Hp)(h h':hV):Prop where
 keep: ∀b o,h.get? b=some o->H b=none->b∉fs->b∉ex->h'.get? b=some o
 slot: ∀b o,h.get? b=some o->H b=none->b∈fs->b∉ex-> ∃sl,h'.get? b=some {o with slots:=sl}
 free: ∀b o,h.get? b=some o->H b=none->b∉ex->H' b=none
 there: ∀b o,h.get? b=some o->b∉ex-> ∃o',h'.get? b=some o'
 tups: ∀b xs,H b=some (.tup xs)->H' b=some (.tup xs)
 frzs: ∀b o u,H b=some (.frz o u)->H' b=some (.frz o u)
 tbls: ∀b ps,H b=some (.tbl ps)-> ∃more,H' b=some (.tbl (ps++more))
section
variable {fs gh ex ex':jW}{H H1 H2:Hp}{h h1 h2 h':hV}{a x e:gz}{o:HO}
theorem Un.any(u:Un fs ex H H1 h h1){b:gz}{ob:Obj}(q:h.get? b=some ob)(n:H b=none)(hx:b∉ex): ∃sl,h1.get? b=some {ob with slots:=sl}:=by
 by_cases hb:b∈fs
 ·exact u.slot b ob q n hb hx
 ·exact⟨ob.slots,u.keep b ob q n hb hx⟩
theorem Un.kept(k: ∀b u,h.get? b=some u->h'.get? b=some u):Un fs ex H H h h':=
 ⟨fun b ob q _ _ _=>k b ob q,fun b ob q _ _ _=>⟨ob.slots,k b ob q⟩,fun _ _ _ n _=>n,fun b ob q _=>⟨ob,k b ob q⟩,fun _ _ q=>q,fun _ _ _ q=>q,fun _ ps q=>⟨#[],by rw[q];simp⟩⟩
theorem Un.refl:Un fs ex H H h h:=Un.kept fun _ _ q=>q
theorem Un.laid(k: ∀b u,h.get? b=some u->h'.get? b=some u)(hp:h.objs.size<=a)(hn:H a=none):Un fs ex H (upd H a o) h h' where
 keep:=fun b u q _ _ _=>k b u q
 slot:=fun b u q _ _ _=>⟨u.slots,k b u q⟩
 free:=fun b u q n _=>by rw[iI (iL (mR (iu q) hp))];exact n
 there:=fun b u q _=>⟨u,k b u q⟩
 tups:=fun b xs q=>by rw[iI (lR q hn)];exact q
 frzs:=fun b u xs q=>by rw[iI (lR q hn)];exact q
 tbls:=fun b ps q=>⟨#[],by rw[iI (lR q hn),q];simp⟩
theorem Un.write(mu:Mut (H x))(he:e=x\/H e=some (.own x))(k: ∀b u,b≠e->h.get? b=some u->h'.get? b=some u)(dv: ∃u,h'.get? e=some u):Un fs ex H (upd H x o) h h':=by
 have hx: ∀b,H b=none->b≠x:=fun b n z=>by subst z;rw[n] at mu;exact mu
 have hb: ∀b,H b=none->b≠e:=fun b n z=>by
  subst z;rcases he with r|r
  ·exact hx b n r
  ·rw[n] at r;cases r
 have hm: ∀b u,H b=some u-> ¬Mut (some u)->b≠x:=fun b u q nm z=>by subst z;rw[q] at mu;exact nm mu
 refine⟨fun b u q n _ _=>k b u (hb b n) q,fun b u q n _ _=>⟨u.slots,k b u (hb b n) q⟩,fun b u q n _=>by rw[iI (hx b n)];exact n,fun b u q _=>?_,
  fun b xs q=>by rw[iI (hm b _ q fun z=>z)];exact q,fun b u xs q=>by rw[iI (hm b _ q fun z=>z)];exact q,fun b ps q=>⟨#[],by rw[iI (hm b _ q fun z=>z),q];simp⟩⟩
 by_cases cV:b=e
 ·subst cV;exact dv
 ·exact⟨u,k b u cV q⟩
end
noncomputable def trk(h:hV)(H:Hp):List Addr:=(List.range h.objs.size).filter fun a=>(H a).isSome
noncomputable def CL(h:hV)(H:Hp):Heap:=PySem.W.hideAll h (trk h H)
theorem Jg(h:hV)(H:Hp):(CL h H).objs.size=h.objs.size:=PySem.W.hideAll_size _ _
theorem Mb{h:hV}{H:Hp}{b:gz}{o:Obj}(e:h.get? b=some o)(n:H b=none):(CL h H).get? b=some o:=
 PySem.W.hideAll_get _ e fun hm=>by
  have q:(H b).isSome=true:=(Aa.mp hm).2;rw[n] at q;simp at q
theorem N7{h:hV}{H:Hp}{b:gz}{o:Obj}(e:(CL h H).get? b=some o):h.get? b=some o/\H b=none:=by
 have e':h.get? b=some o:=PySem.W.of_hideAll (trk h H) e;refine⟨e',?_⟩
 cases q:H b with
 |none=>rfl
 |some x=>
  have hm:b∈trk h H:=Aa.mpr ⟨uK.mpr (iu e'),by simp[q]⟩;have z:(CL h H).get? b=none:=PySem.W.hideAll_none (trk h H) hm;rw[z] at e;cases e
noncomputable def OB(g h:hV)(L:gz):List (Addr×Obj):=(List.range h.objs.size).filterMap fun a=>if a=L\/(g.get? a).isSome=true then none else(h.get? a).map fun o=>(a,o)
noncomputable def hZ(g h:hV)(L d:gz):List (Addr×Obj):=(OB g h L).filter fun p=>decide (p.1≠d)
structure Mod(K:hG)(mg:lu)(base:hV):Prop where
 kin:K.In base
 glob:base.Ns mainGlobals mg
 blt: ∃mb,base.Ns builtinsNs mb/\ ∀x:Str,x≠"__name__"->mb x=bootBuiltins x
 nolimit:base.NoLimit
structure Cx where
 prog:Program
 w:World
 K:PySem.W.Frag
 mg:Str->Option Value
 base:Heap
 A:Around
 N:List Str
 s₀:Shared
 H₀:Hp
 env:Env
 outer:List Env
 stack:List Env
 ex:List Addr
 fn:Str->Bool
 calm:Bool
 pn:List (Addr×Obj)
 xe:Value->Shared->Prop
noncomputable def frs(l:List Env):List Addr:=l.filterMap (·.frame)
abbrev Cx.fs(X:Cx):List Addr:=frs X.outer
def Vis(sc:jV)(x:Str):Prop:=sc.names.lookup x=some .local\/sc.names.lookup x=some .cell\/sc.names.lookup x=some .free
def Loc(sc:jV)(x:Str):Prop:=sc.names.lookup x=some .local\/sc.names.lookup x=some .cell
def Vd(env:Env)(h:hV)(m:lu)(x:Str)(u:gQ):Prop:=
 (env.kindOf x=some .local/\m x=some u)\/((env.kindOf x=some .cell\/env.kindOf x=some .free)/\ ∃c,env.cells.lookup x=some c/\h.IsCell c (some u))
structure Cx.Ok(X:Cx):Prop where
 mod:Mod X.K X.mg X.base
 kind:X.env.scope.kind= .function
 glob:X.env.globals=mainGlobals
 blt:X.env.builtins=builtinsNs
 above:X.s₀.heap.objs.size<=X.env.locals
 inj: ∀x y c,X.env.cells.lookup x=some c->X.env.cells.lookup y=some c->x=y
 has: ∀x,(X.env.kindOf x=some .cell\/X.env.kindOf x=some .free)-> ∃c,X.env.cells.lookup x=some c
 cab: ∀x c,X.fn x=true->X.env.cells.lookup x=some c->X.s₀.heap.objs.size<=c
 hd:X.calm=true->X.A.handled=none
 frames:X.A.frames=some X.stack
 stk:X.stack=X.outer\/(X.stack=X.env::X.outer/\X.env.frame=some X.env.locals)
 exf: ∀b∈X.ex,b≠X.env.locals/\ ∀x c,X.env.cells.lookup x=some c->c≠b
 bs: ∀b o,X.base.get? b=some o->X.s₀.heap.get? b=some o/\X.H₀ b=none
 bsz:X.base.objs.size<=X.s₀.heap.objs.size
 noex: ∀b o,X.base.get? b=some o->b∉X.ex
 exfs: ∀b∈X.ex,b∉X.fs
 funs:X.s₀.heap.FunFrames X.base X.outer
 frf: ∀b∈X.fs,X.H₀ b=none
structure Inv(X:Cx)(pins:iq)(σ:List (Option V))(H:Hp)(s:gC):Prop where
 ok:X.Ok
 os:s.os=X.s₀.os
 bare:AllBare s.gens
 base:Un X.fs X.ex X.H₀ H X.s₀.heap s.heap
 loc: ∃m,s.heap.Ns X.env.locals m/\ ∀(i:Nat) (x:Str) (v:V),X.N[i]?=some x->σ[i]?=some (some v)->Vis X.env.scope x-> ∃u,RelV v u/\Vd X.env s.heap m x u
 cell: ∀x c,X.env.cells.lookup x=some c-> ∃v,s.heap.IsCell c v
 free:H X.env.locals=none
 freeC: ∀x c,X.env.cells.lookup x=some c->H c=none
 pin: ∀p∈X.pn++pins,s.heap.get? p.1=some p.2/\H p.1=none/\p.1≠X.env.locals/\p.1∉X.fs/\ ∀v,p.2.data≠ .cell v
 hok:HOk X.prog X.w H s.heap
 len:σ.length=X.N.length
section
variable {X:Cx}{pins:iq}{σ:List (Option V)}{H H':Hp}{s:gC}{h':hV}
theorem Cx.Ok.nofr(ok:X.Ok){b:gz}{o:Obj}(e:X.base.get? b=some o):b∉X.fs:=fun hb=>by
 have:=(ok.funs.mem hb).1;rw[e] at this;cases this
theorem Inv.bs(I:Inv X pins σ H s): ∀b o,X.base.get? b=some o->s.heap.get? b=some o/\H b=none:=fun b o e=>
 ⟨I.base.keep b o (I.ok.bs b o e).1 (I.ok.bs b o e).2 (I.ok.nofr e) (I.ok.noex b o e),I.base.free b o (I.ok.bs b o e).1 (I.ok.bs b o e).2 (I.ok.noex b o e)⟩
theorem Inv.bk(I:Inv X pins σ H s): ∀b o,X.base.get? b=some o->s.heap.get? b=some o:=fun b o e=>(I.bs b o e).1
theorem Inv.mod(I:Inv X pins σ H s):Mod X.K X.mg X.base:=I.ok.mod
theorem Inv.kIn(I:Inv X pins σ H s):X.K.In s.heap:=I.ok.mod.kin.keeps I.bk
theorem Inv.lt(I:Inv X pins σ H s):X.env.locals<s.heap.objs.size:=let⟨_,hn,_⟩:=I.loc;hn.lt
theorem Inv.sz(I:Inv X pins σ H s):X.s₀.heap.objs.size<=s.heap.objs.size:=nF I.ok.above (B6 I.lt)
theorem Inv.nofs(I:Inv X pins σ H s){a:gz}(h:s.heap.objs.size<=a):a∉X.fs:=fun hb=>by
 obtain⟨_,o,ho,_⟩:=I.ok.funs.mem hb;exact absurd (mR (iu ho) (nF I.sz h)) (oi _)
theorem Inv.cne(I:Inv X pins σ H s): ∀x c,X.env.cells.lookup x=some c->c≠X.env.locals:=fun x c e z=>by
 obtain⟨v,o,ho,hd⟩:=I.cell x c e;obtain⟨m,⟨o',es,ep,ak,cR,_⟩,_⟩:=I.loc;rw[z,ak] at ho;cases ho;rw[cR] at hd;cases hd
theorem Inv.funs(I:Inv X pins σ H s):s.heap.FunFrames X.base X.outer:=by
 have all: ∀(l:List Env),(∀b∈frs l,b∈X.fs)->X.s₀.heap.FunFrames X.base l->s.heap.FunFrames X.base l:=by
  intro l
  induction l with
  |nil=>intro _ _;trivial
  |cons env r ih=>
   intro hs hl;obtain⟨hk,⟨L,o,hf,hn,ho,hd⟩,hr⟩:=hl;have hL:L∈X.fs:=hs L (by unfold frs;rw[uU,hf];exact iX);obtain⟨sl,e⟩:=I.base.slot L o ho (I.ok.frf L hL) hL fun z=>I.ok.exfs L z hL;exact⟨hk,⟨L,_,hf,hn,e,hd⟩,ih (fun b hb=>hs b (by unfold frs;rw[uU,hf];exact je _ hb)) hr⟩
 exact all X.outer (fun _ hb=>hb) I.ok.funs
theorem Inv.stack(I:Inv X pins σ H s):s.heap.FunFrames X.base X.stack:=by
 rcases I.ok.stk with e|⟨e,hf⟩
 ·rw[e];exact I.funs
 ·rw[e];obtain⟨m,hn,_⟩:=I.loc;refine .cons (by rw[I.ok.kind];decide) hf hn ?_ I.funs;exact Heap.get?_none_of_le (nF I.ok.bsz I.ok.above)
theorem Inv.stkSub(I:Inv X pins σ H s): ∀b∈frs X.stack,b∈X.env.locals::X.fs:=fun b hb=>by
 rcases I.ok.stk with e|⟨e,hf⟩
 ·rw[e] at hb;exact je _ hb
 ·rw[e] at hb;unfold frs at hb;rw[uU,hf] at hb;exact hb
theorem Inv.stkFree(I:Inv X pins σ H s): ∀b∈frs X.stack,H b=none:=fun b hb=>by
 rcases jC.mp (I.stkSub b hb) with e|hb
 ·rw[e];exact I.free
 ·obtain⟨_,o,ho,_⟩:=I.ok.funs.mem hb;exact I.base.free b o ho (I.ok.frf b hb) fun z=>I.ok.exfs b z hb
theorem Inv.step{g':Array GenState}{t':Nat}{d':Drawn}{ch:jW}(I:Inv X pins σ H s)
  (bG: ∀b∈ch,(b∈X.ex\/X.s₀.heap.objs.size<=b)/\b≠X.env.locals/\(∀x c,X.env.cells.lookup x=some c->c≠b)/\ ∀p∈X.pn++pins,p.1≠b)
  (keep: ∀b o,b≠X.env.locals->b∉X.fs->b∉ch->s.heap.get? b=some o->H b=none->h'.get? b=some o)
  (slot: ∀b o,b≠X.env.locals->b∈X.fs->b∉ch->s.heap.get? b=some o->H b=none-> ∃sl,h'.get? b=some {o with slots:=sl})(free: ∀b o,b∉ch->s.heap.get? b=some o->H b=none->H' b=none)
  (there: ∀b o,b∉ch->s.heap.get? b=some o-> ∃o',h'.get? b=some o')
  (tups: ∀b xs,H b=some (.tup xs)->H' b=some (.tup xs))(frzs: ∀b o u,H b=some (.frz o u)->H' b=some (.frz o u))(tbls: ∀b ps,H b=some (.tbl ps)-> ∃more,H' b=some (.tbl (ps++more)))
  (ns: ∀m,s.heap.Ns X.env.locals m->h'.Ns X.env.locals m)(hok:HOk X.prog X.w H' h')(hg:AllBare g'):
  Inv X pins σ H' {s with heap:=h',gens:=g',drawn:=d',toks:=t'}:=by
 have neL: ∀b o,X.s₀.heap.get? b=some o->b≠X.env.locals:=fun b o e=>iL (mR (iu e) I.ok.above)
 have eG: ∀b o,X.s₀.heap.get? b=some o->b∉X.ex->b∉ch:=fun b o e hx hb=>by
  rcases(bG b hb).1 with z|z
  ·exact hx z
  ·exact absurd (mR (iu e) z) (oi _)
 have cellK: ∀x c,X.env.cells.lookup x=some c-> ∀v,s.heap.IsCell c v->h'.IsCell c v:=fun x c e v ⟨o,ho,hd⟩=>by
  have aV:c∉ch:=fun z=>(bG c z).2.2.1 x c e rfl;by_cases hc:c∈X.fs
  ·obtain⟨sl,q⟩:=slot c o (I.cne x c e) hc aV ho (I.freeC x c e);exact⟨_,q,hd⟩
  ·exact⟨o,keep c o (I.cne x c e) hc aV ho (I.freeC x c e),hd⟩
 refine⟨I.ok,I.os,hg,⟨fun b o e n hb hx=>?_,fun b o e n hb hx=>?_,fun b o e n hx=>?_,fun b o e hx=>?_,fun b xs e=>tups b xs (I.base.tups b xs e),fun b o xs e=>frzs b o xs (I.base.frzs b o xs e),fun b ps e=>?_⟩,?_,fun x c e=>?_,?_,fun x c e=>?_,fun p hp=>?_,hok,I.len⟩
 ·exact keep b o (neL b o e) hb (eG b o e hx) (I.base.keep b o e n hb hx) (I.base.free b o e n hx)
 ·obtain⟨sl,e1⟩:=I.base.slot b o e n hb hx;obtain⟨sl',e2⟩:=slot b _ (neL b o e) hb (eG b o e hx) e1 (I.base.free b o e n hx);exact⟨sl',e2⟩
 ·obtain⟨o',e1⟩:=I.base.there b o e hx;exact free b o' (eG b o e hx) e1 (I.base.free b o e n hx)
 ·obtain⟨o',e1⟩:=I.base.there b o e hx;exact there b o' (eG b o e hx) e1
 ·obtain⟨m1,e1⟩:=I.base.tbls b ps e;obtain⟨m2,e2⟩:=tbls b _ e1;exact⟨m1++m2,by rw[e2,Array.append_assoc]⟩
 ·obtain⟨m,hn,hl⟩:=I.loc;refine⟨m,ns m hn,fun i x v e1 e2 e3=>?_⟩;obtain⟨u,r,l⟩:=hl i x v e1 e2 e3;refine⟨u,r,?_⟩;rcases l with l|⟨k,c,e,z⟩
  ·exact .inl l
  ·exact .inr ⟨k,c,e,cellK x c e _ z⟩
 ·obtain⟨v,z⟩:=I.cell x c e;exact⟨v,cellK x c e v z⟩
 ·obtain⟨m,⟨o,_,_,ho,_⟩,_⟩:=I.loc;exact free _ o (fun z=>(bG _ z).2.1 rfl) ho I.free
 ·obtain⟨v,o,ho,hd⟩:=I.cell x c e;exact free c o (fun z=>(bG c z).2.2.1 x c e rfl) ho (I.freeC x c e)
 ·obtain⟨e,n,ne,nf,d⟩:=I.pin p hp;have aV:p.1∉ch:=fun z=>(bG p.1 z).2.2.2 p hp rfl;exact⟨keep p.1 p.2 ne nf aV e n,free p.1 p.2 aV e n,ne,nf,d⟩
theorem Inv.un{t':Nat}(I:Inv X pins σ H s)(u:Un X.fs [] H H' s.heap h')(hok:HOk X.prog X.w H' h'):Inv X pins σ H' {s with heap:=h',toks:=t'}:=by
 obtain⟨m,⟨o,es,ep,ho,r⟩,_⟩:=id I.loc;obtain⟨sl,hL⟩:=u.any ho I.free (by simp)
 exact I.step (g':=s.gens) (d':=s.drawn) (ch:=[]) (fun _ z=>nomatch z) (fun b o _ hb _ e n=>u.keep b o e n hb (by simp)) (fun b o _ hb _ e n=>u.slot b o e n hb (by simp)) (fun b o _ e n=>u.free b o e n (by simp)) (fun b o _ e=>u.there b o e (by simp)) u.tups u.frzs u.tbls (fun m' hm=>by
  obtain⟨o',es',gm,ak,r'⟩:=hm;rw[ho] at ak;cases ak;exact⟨_,es',gm,hL,r'⟩) hok I.bare
theorem Inv.call{g':Array GenState}{t':Nat}{d':Drawn}{ch:jW}(I:Inv X pins σ H s)(u:Un (frs X.stack) ch H H' s.heap h')(hok:HOk X.prog X.w H' h')(hg:AllBare g')
  (bG: ∀b∈ch,(b∈X.ex\/X.s₀.heap.objs.size<=b)/\b≠X.env.locals/\(∀x c,X.env.cells.lookup x=some c->c≠b)/\ ∀p∈X.pn++pins,p.1≠b):
  Inv X pins σ H' {s with heap:=h',gens:=g',drawn:=d',toks:=t'}:=by
 obtain⟨m,⟨o,es,ep,ho,r⟩,_⟩:=id I.loc;obtain⟨sl,hL⟩:=u.any ho I.free fun z=>(bG _ z).2.1 rfl
 exact I.step (ch:=ch) bG (fun b o hL hb hc e n=>u.keep b o e n (fun z=>(jC.mp (I.stkSub b z)).elim hL hb) hc) (fun b o _ _ hc e n=>u.any e n hc) (fun b o hc e n=>u.free b o e n hc) (fun b o hc e=>u.there b o e hc) u.tups u.frzs u.tbls (fun m' hm=>by
  obtain⟨o',es',gm,ak,r'⟩:=hm;rw[ho] at ak;cases ak;exact⟨_,es',gm,hL,r'⟩) hok hg
theorem Inv.turned{t':Nat}{it:gz}(I:Inv X pins σ H s)(k: ∀b o,b≠it->s.heap.get? b=some o->h'.get? b=some o)(hn:H it=none)(hL:it≠X.env.locals)
  (h1:it∈X.ex\/X.s₀.heap.objs.size<=it)(h2: ∀x c,X.env.cells.lookup x=some c->c≠it)(h3: ∀p∈X.pn++pins,p.1≠it):Inv X pins σ H {s with heap:=h',toks:=t'}:=by
 have nit: ∀b u,H b=some u->b≠it:=fun b u e z=>by rw[z,hn] at e;cases e
 refine I.step (g':=s.gens) (d':=s.drawn) (ch:=[it]) (fun b hb=>?_) (fun b o _ _ hc e _=>k b o (fun z=>hc (by simp[z])) e) (fun b o _ _ hc e _=>⟨o.slots,k b o (fun z=>hc (by simp[z])) e⟩) (fun _ _ _ _ n=>n)
  (fun b o hc e=>⟨o,k b o (fun z=>hc (by simp[z])) e⟩) (fun _ _ e=>e) (fun _ _ _ e=>e) (fun b ps e=>⟨#[],by rw[e];simp⟩) (fun m hm=>?_) (fun b u e=>?_) I.bare
 ·have e:b=it:=by simpa using hb
  subst e;exact⟨h1,hL,h2,h3⟩
 ·obtain⟨o,es,ep,ho,r⟩:=hm;exact⟨o,es,ep,k _ o (qb hL) ho,r⟩
 ·refine(I.hok b u e).stay (fun c v hc q=>k c v ?_ q) (fun _ q=>q) fun _ _ q=>q;rcases hc with z|z
  ·rw[z];exact nit b u e
  ·exact nit c _ z
theorem Inv.tok(I:Inv X pins σ H s)(t:Nat):Inv X pins σ H {s with toks:=t}:=I.un (h':=s.heap) (t':=t) Un.refl I.hok
theorem Inv.kept{t':Nat}(I:Inv X pins σ H s)(k: ∀b u,s.heap.get? b=some u->h'.get? b=some u):Inv X pins σ H {s with heap:=h',toks:=t'}:=I.un (Un.kept k) (I.hok.kept k)
theorem Inv.laid{a:gz}{o:HO}{t':Nat}(I:Inv X pins σ H s)(k: ∀b u,s.heap.get? b=some u->h'.get? b=some u)(hp:s.heap.objs.size<=a)(new:ObjOk X.prog X.w (upd H a o) h' a o):
  Inv X pins σ (upd H a o) {s with heap:=h',toks:=t'}:=I.un (Un.laid k hp (I.hok.fresh hp)) (I.hok.laid k hp new)
theorem Inv.write{x e:gz}{o:HO}{t':Nat}(I:Inv X pins σ H s)(mu:Mut (H x))(he:e=x\/H e=some (.own x))(k: ∀b u,b≠e->s.heap.get? b=some u->h'.get? b=some u)(dv: ∃u,h'.get? e=some u)
  (new:ObjOk X.prog X.w (upd H x o) h' x o):Inv X pins σ (upd H x o) {s with heap:=h',toks:=t'}:=I.un (Un.write mu he k dv) (I.hok.write mu he k dv new)
theorem Inv.pins_of{pins':iq}(I:Inv X pins σ H s)(h: ∀p∈pins',s.heap.get? p.1=some p.2/\H p.1=none/\p.1≠X.env.locals/\p.1∉X.fs/\ ∀v,p.2.data≠ .cell v):Inv X pins' σ H s:=
 ⟨I.ok,I.os,I.bare,I.base,I.loc,I.cell,I.free,I.freeC,fun p hp=>(nG.mp hp).elim (fun z=>I.pin p (J5 _ z)) (h p),I.hok,I.len⟩
theorem DY{N:iK}(hN:N.Nodup){i j:Nat}{x:Str}(a:N[i]?=some x)(b:N[j]?=some x):i=j:=by
 obtain⟨h1,e1⟩:=vS.mp a;obtain⟨h2,e2⟩:=vS.mp b;exact(List.getElem_inj hN).mp (e1.trans e2.symm)
theorem Il{M:Model}{A:gZ}{E:il}{i:Nat}{x:Str}{v:V}{u:gQ}{Q:Unit->Shared->Prop}(I:Inv X pins σ H s)(hN:X.N.Nodup)(hi:X.N[i]?=some x)(hx:Loc X.env.scope x)(r:RelV v u)
  (h: ∀s',Inv X pins (σ.set i (some v)) H s'->(∃a,Heap.SameBut a s.heap s'.heap/\(a=X.env.locals\/X.env.cells.lookup x=some a))->Q () s')(hf:X.fn x=true\/X.env.scope.names.lookup x=some .local:=by first|exact .inl rfl|exact .inr rfl|assumption):wpAny M A (storeName X.env x u) Q E s:=by
 obtain⟨m,hn,hl⟩:=id I.loc;have hcls:(X.env.scope.kind== .class||(X.env.scope.kind== .module&&X.env.locals !=X.env.globals))=false:=by rw[I.ok.kind];rfl
 have hiσ:i<σ.length:=by rw[I.len];exact(vS.mp hi).1
 have cne:=I.cne
 have tracked: ∀{a:gz} {h':hV},(∃o,s.heap.get? a=some o/\H a=none)->Heap.SameBut a s.heap h'->HOk X.prog X.w H h':=fun {a h'} ha hs b ob e=>by
  obtain⟨_,_,n6⟩:=ha;refine(I.hok b ob e).stay (fun c w' hc q=>(hs.2 c ?_).trans q) (fun _ q=>q) fun _ _ q=>q;rintro rfl;rcases hc with rfl|hc
  ·rw[n6] at e;cases e
  ·rw[n6] at hc;cases hc
 rcases hx with hk|hk
 ·refine wpAny_storeName_local hk hn (fun h' hn' hs=>?_) hcls;obtain⟨oL,_,_,hoL,_⟩:=id hn;refine h _ ⟨I.ok,I.os,I.bare,⟨fun b o e n hb hx=>?_,fun b o e n hb hx=>?_,I.base.free,fun b o e hx=>?_,I.base.tups,I.base.frzs,I.base.tbls⟩,⟨_,hn',fun j y v' e1 e2 e3=>?_⟩,fun y c e=>?_,I.free,I.freeC,fun p hp=>?_,tracked ⟨oL,hoL,I.free⟩ hs,by simpa using I.len⟩ ⟨_,hs,.inl rfl⟩
  ·exact(hs.2 b (iL (mR (iu e) I.ok.above))).trans (I.base.keep b o e n hb hx)
  ·obtain⟨sl,e1⟩:=I.base.slot b o e n hb hx;exact⟨sl,(hs.2 b (iL (mR (iu e) I.ok.above))).trans e1⟩
  ·obtain⟨o',e1⟩:=I.base.there b o e hx;exact⟨o',(hs.2 b (iL (mR (iu e) I.ok.above))).trans e1⟩
  ·by_cases hj:j=i
   ·subst hj;rw[hi] at e1;cases e1;rw[qv hiσ] at e2;cases e2;exact⟨u,r,.inl ⟨hk,by simp⟩⟩
   ·rw[sV (qb hj)] at e2;obtain⟨u',r',q⟩:=hl j y v' e1 e2 e3;refine⟨u',r',?_⟩;rcases q with⟨k,e⟩|⟨k,c,e,z⟩
    ·refine .inl ⟨k,?_⟩;have:y≠x:=fun e=>hj (DY hN e1 (e▸hi));simp[this,e]
    ·exact .inr ⟨k,c,e,z.sameBut hs (cne y c e)⟩
  ·obtain⟨w',z⟩:=I.cell y c e;exact⟨w',z.sameBut hs (cne y c e)⟩
  ·obtain⟨e,n,ne,nf,d⟩:=I.pin p hp;exact⟨(hs.2 p.1 ne).trans e,n,ne,nf,d⟩
 ·have fU:X.fn x=true:=by
   rcases hf with z|z
   ·exact z
   ·rw[z] at hk;cases hk
  obtain⟨c,hc⟩:=I.ok.has x (.inl hk);obtain⟨w',z⟩:=I.cell x c hc;refine wpAny_storeName_cell I.ok.kind hk hc z (fun h' cU hs=>?_);obtain⟨oc,hoc,hocd⟩:=id z;refine h {s with heap:=h'} ⟨I.ok,I.os,I.bare,⟨fun b o e n hb hx=>?_,fun b o e n hb hx=>?_,I.base.free,fun b o e hx=>?_,I.base.tups,I.base.frzs,I.base.tbls⟩,⟨m,hn.sameBut hs (qb (cne x c hc)),fun j y v' e1 e2 e3=>?_⟩,fun y c' e=>?_,I.free,I.freeC,fun p hp=>?_,tracked ⟨oc,hoc,I.freeC x c hc⟩ hs,by simpa using I.len⟩ ⟨c,hs,.inr hc⟩
  ·exact(hs.2 b (iL (mR (iu e) (I.ok.cab x c fU hc)))).trans (I.base.keep b o e n hb hx)
  ·obtain⟨sl,e1⟩:=I.base.slot b o e n hb hx;exact⟨sl,(hs.2 b (iL (mR (iu e) (I.ok.cab x c fU hc)))).trans e1⟩
  ·obtain⟨o',e1⟩:=I.base.there b o e hx;exact⟨o',(hs.2 b (iL (mR (iu e) (I.ok.cab x c fU hc)))).trans e1⟩
  ·by_cases hj:j=i
   ·subst hj;rw[hi] at e1;cases e1;rw[qv hiσ] at e2;cases e2;exact⟨u,r,.inr ⟨.inl hk,c,hc,cU⟩⟩
   ·rw[sV (qb hj)] at e2;obtain⟨u',r',q⟩:=hl j y v' e1 e2 e3;refine⟨u',r',?_⟩;rcases q with q|⟨k,c',e,z'⟩
    ·exact .inl q
    ·refine .inr ⟨k,c',e,z'.sameBut hs ?_⟩;rintro rfl;exact hj (DY hN e1 (I.ok.inj _ _ _ e hc▸hi))
  ·by_cases hcc:c'=c
   ·subst hcc;exact⟨_,cU⟩
   ·obtain⟨w2,z2⟩:=I.cell y c' e;exact⟨w2,z2.sameBut hs hcc⟩
  ·obtain⟨e,n,ne,nf,d⟩:=I.pin p hp;refine⟨(hs.2 p.1 ?_).trans e,n,ne,nf,d⟩;intro q;rw[q,hoc] at e;have q':oc=p.2:=iR e;exact d w' (by rw[<-q'];exact hocd)
theorem Dr{M:Model}{A:gZ}{E:il}{i:Nat}{x:Str}{v:V}{u:gQ}{Q:Unit->Shared->Prop}(I:Inv X pins σ H s)(hN:X.N.Nodup)(hi:X.N[i]?=some x)(hx:Loc X.env.scope x)(r:RelV v u)
  (h: ∀s',Inv X pins (σ.set i (some v)) H s'->Q () s')(hf:X.fn x=true\/X.env.scope.names.lookup x=some .local:=by first|exact .inl rfl|exact .inr rfl|assumption):wpAny M A (storeName X.env x u) Q E s:=
 Il I hN hi hx r (fun s' I' _=>h s' I') hf
theorem Inv.call'{s':gC}{ch:jW}(I:Inv X pins σ H s)(ho:s'.os=s.os)(u:Un (frs X.stack) ch H H' s.heap s'.heap)(hok:HOk X.prog X.w H' s'.heap)(hg:AllBare s'.gens)
  (bG: ∀b∈ch,(b∈X.ex\/X.s₀.heap.objs.size<=b)/\b≠X.env.locals/\(∀x c,X.env.cells.lookup x=some c->c≠b)/\ ∀p∈X.pn++pins,p.1≠b):Inv X pins σ H' s':=by
 obtain⟨h',g',d',t',o'⟩:=s';have e:o'=s.os:=ho;subst e;exact I.call (g':=g') (t':=t') (d':=d') u hok hg bG
end
abbrev XK:=Value->Option Addr->Hp->Prop
abbrev St:=List (Option V)
abbrev VK:=V->Hp->Prop
abbrev TE:=St->Hp->VK->Prop
abbrev TT:=St->Hp->(Bool->Hp->Prop)->Prop
abbrev TA:=St->Hp->(List V->Hp->Prop)->Prop
structure Ends where
 nx:St->Hp->Prop
 rt:VK
 bk:St->Hp->Prop:=fun _ _=>False
 ct:St->Hp->Prop:=fun _ _=>False
abbrev TS:=Ends->St->Hp->Prop
def EP(X:Cx)(pins:iq)(σ:St)(Q:VK)(u:gQ)(s':gC):Prop:= ∃v H',Inv X pins σ H' s'/\RelV v u/\Q v H'
def TP(X:Cx)(pins:iq)(σ:St)(Q:Bool->Hp->Prop)(b:Bool)(s':gC):Prop:= ∃H',Inv X pins σ H' s'/\Q b H'
def AP(X:Cx)(pins:iq)(σ:St)(Q:List V->Hp->Prop)(us:iV)(s':gC):Prop:= ∃vs H',Inv X pins σ H' s'/\Vals vs us/\Q vs H'
def SP(X:Cx)(pins:iq)(D:Ends)(f:Flow)(s':gC):Prop:=
 match f with
 | .next=> ∃σ' H',Inv X pins σ' H' s'/\D.nx σ' H'
 | .brk=> ∃σ' H',Inv X pins σ' H' s'/\D.bk σ' H'
 | .cont=> ∃σ' H',Inv X pins σ' H' s'/\D.ct σ' H'
 | .ret u=> ∃v σ' H',Inv X pins σ' H' s'/\RelV v u/\D.rt v H'
def PE(X:Cx)(e:gR)(t:TE):Prop:=
 ∀(pins:iq) (s:gC) (σ:St) (H:Hp) (Q:VK),Inv X pins σ H s->t σ H Q->wpAny (model X.prog X.w) X.A (eval e X.env) (EP X pins σ Q) X.xe s
def PT(X:Cx)(e:gR)(t:TT):Prop:=
 ∀(pins:iq) (s:gC) (σ:St) (H:Hp) (Q:Bool->Hp->Prop),Inv X pins σ H s->t σ H Q->wpAny (model X.prog X.w) X.A (isTrue e X.env (eval e X.env)) (TP X pins σ Q) X.xe s
def PW(X:Cx)(e:gR)(t:TT):Prop:=
 ∀(whole:Sem Value) (pins:iq) (s:gC) (σ:St) (H:Hp) (Q:Bool->Hp->Prop),Inv X pins σ H s->t σ H Q->wpAny (model X.prog X.w) X.A (isTrue e X.env whole) (TP X pins σ Q) X.xe s
theorem PW.pt{X:Cx}{e:gR}{t:TT}(h:PW X e t):PT X e t:=h _
def PA(X:Cx)(es:jF)(t:TA):Prop:=
 ∀(pos:Pos) (pins:iq) (s:gC) (σ:St) (H:Hp) (Q:List V->Hp->Prop),Inv X pins σ H s->t σ H Q->wpAny (model X.prog X.w) X.A (spliced (backTo pos (starEach es X.env))) (AP X pins σ Q) X.xe s
def PS(X:Cx)(st:Stmt)(t:TS):Prop:=
 ∀(pins:iq) (s:gC) (σ:St) (H:Hp) (D:Ends),Inv X pins σ H s->t D σ H->wpAny (model X.prog X.w) X.A (exec st X.env) (SP X pins D) X.xe s
def PSs(X:Cx)(st:List Stmt)(t:TS):Prop:=
 ∀(pins:iq) (s:gC) (σ:St) (H:Hp) (D:Ends),Inv X pins σ H s->t D σ H->wpAny (model X.prog X.w) X.A (execs st X.env) (SP X pins D) X.xe s
theorem thn{α:Type}{t:Sem α}{Q Q':α->Shared->Prop}{M:Model}{A:gZ}{E:il}{s:gC}(h:wpAny M A t Q E s)(hQ: ∀a s,Q a s->Q' a s):wpAny M A t Q' E s:=qa h hQ fun _ _ x=>x
section
variable {X:Cx}
def Ub(i:Nat):TE:=fun σ H Q=> ∃v,σ[i]?=some (some v)/\Q v H
noncomputable def tC(v:V):TE:=fun _ H Q=>Q v H
theorem F7{i:Nat}{x:Str}{pos:Pos}(hN:X.N[i]?=some x)(hv:Vis X.env.scope x)(hd:(x==("__debug__":Str))=false:=by decide)(y7:(x==("__classdict__":Str))=false:=by decide):PE X (.Name x pos) (Ub i):=by
 intro pins s σ H Q I h;obtain⟨v,e,h⟩:=h;obtain⟨m,hn,hl⟩:=I.loc;obtain⟨u,r,l⟩:=hl i x v hN e hv;have fin:EP X pins σ Q u s:=⟨v,H,I,r,h⟩
 rcases l with⟨hk,hm⟩|⟨hk,c,hc,aw⟩
 ·exact wpAny_Name (wpAny_loadName_local I.ok.kind hk hn hm fin) hd
 ·rcases hk with hk|hk
  ·exact wpAny_Name (wpAny_loadName_cell I.ok.kind hk hc aw fin) hd
  ·exact wpAny_Name (wpAny_loadName_free I.ok.kind hk hc aw fin y7) hd
theorem QR{i j pos}:PE X (.Constant (.int i) j pos) (tC (.int i)):=fun _ _ _ H _ I h=>wpAny_Constant_int ⟨.int i,H,I.tok _,⟨_,rfl⟩,h⟩
theorem SH{b j pos}:PE X (.Constant (.bool b) j pos) (tC (.bl b)):=fun _ _ _ H _ I h=>Constant_bool ⟨.bl b,H,I,rfl,h⟩
theorem QM{j pos}:PE X (.Constant .none j pos) (tC .non):=fun _ _ _ H _ I h=>Constant_none ⟨.non,H,I,rfl,h⟩
theorem QH{x j pos}:PE X (.Constant (.str x) j pos) (tC (.str x)):=fun _ _ _ H _ I h=>Calls.Constant_str ⟨.str x,H,I.tok _,⟨_,rfl⟩,h⟩
def Gl(X:Cx)(x:Str):Prop:=X.env.kindOf x=some .globalImplicit
theorem HD{E:il}{pins:iq}{s:gC}{σ:St}{H:Hp}{x:Str}{u:gQ}{pos:Pos}{Q:il}(I:Inv X pins σ H s)(hg:Gl X x)(hm:X.mg x=some u)(h:Q u s)
  (hd:(x==("__debug__":Str))=false:=by decide):wpAny (model X.prog X.w) X.A (eval (.Name x pos) X.env) Q E s:=
 J3 I.ok.kind hg (Calls.loadGlobal_global (by rw[I.ok.glob];exact I.mod.glob.keeps I.bk) hm h) hd
theorem wK{E:il}{pins:iq}{s:gC}{σ:St}{H:Hp}{x:Str}{u:gQ}{pos:Pos}{Q:il}(I:Inv X pins σ H s)(hg:Gl X x)(hm:X.mg x=none)(hv:bootBuiltins x=some u)(h:Q u s)
  (hn:x≠"__name__":=by decide)(hd:(x==("__debug__":Str))=false:=by decide):wpAny (model X.prog X.w) X.A (eval (.Name x pos) X.env) Q E s:=by
 obtain⟨mb,h1,h2⟩:=I.mod.blt;exact J3 I.ok.kind hg (Calls.loadGlobal_builtin (by rw[I.ok.glob];exact I.mod.glob.keeps I.bk) hm (by rw[I.ok.blt];exact h1.keeps I.bk) ((h2 x hn).trans hv) h) hd
theorem NU{x:Str}{v:V}{u:gQ}{pos:Pos}(hg:Gl X x)(hm:X.mg x=some u)(r:RelV v u)(hd:(x==("__debug__":Str))=false:=by decide):PE X (.Name x pos) (tC v):=
 fun _ _ _ H _ I h=>HD I hg hm ⟨v,H,I,r,h⟩ hd
theorem NX{x:Str}{v:V}{u:gQ}{pos:Pos}(hg:Gl X x)(hm:X.mg x=none)(hv:bootBuiltins x=some u)(r:RelV v u)(hn:x≠"__name__":=by decide)(hd:(x==("__debug__":Str))=false:=by decide):PE X (.Name x pos) (tC v):=
 fun _ _ _ H _ I h=>wK I hg hm hv ⟨v,H,I,r,h⟩ hn hd
def t2I(ta tb:TE)(k:Int->Int->Hp->Prop):St->Hp->Prop:=fun σ H=>ta σ H fun x H1=>tb σ H1 fun y H2=> ∃i j,x= .int i/\y= .int j/\k i j H2
variable {a b:gR}{ta tb:TE}{pos:Pos}
noncomputable def tCmp(p:Int->Int->Bool)(ta tb:TE):TE:=fun σ H Q=>t2I ta tb (fun i j H2=>Q (.bl (p i j)) H2) σ H
def tB(t:TE):TT:=fun σ H Q=>t σ H fun x H1=> ∃c,x= .bl c/\Q c H1
theorem Qr{e:gR}{t:TE}(h:PE X e t)(he: ∀whole,isTrue e X.env whole=(do let v <-whole;standAt e.pos;holding [v] (truthy v)):=by intro _;rfl):PT X e (tB t):=by
 intro pins s σ H Q I hw;refine isTrue_plain (thn (h pins s σ H _ I hw) fun v s1 ⟨x,H1,I1,r1,q1⟩=>?_) (he _);obtain⟨d,rfl,q⟩:=q1;cases r1;exact uT ⟨H1,I1,q⟩
variable {tA eB:TT}{hZ:jF}
noncomputable def Uk(t u:TT):TT:=fun σ H Q=>t σ H fun c H1=>if c=true then u σ H1 Q else Q false H1
noncomputable def tOr(t u:TT):TT:=fun σ H Q=>t σ H fun c H1=>if c=true then Q true H1 else u σ H1 Q
noncomputable def tNot(t:TT):TT:=fun σ H Q=>t σ H fun c H1=>Q (!c) H1
theorem Nz(ha:PT X a tA):PW X (.BoolOp .And [a] pos) tA:=by
 intro wh pins s σ H Q I h;refine isTrue_and (thn (ha pins s σ H Q I h) fun c s1 e=>?_)
 cases c with
 |true=>exact isTrue_and_nil e
 |false=>exact e
theorem Qo(ha:PT X a tA):PW X (.BoolOp .Or [a] pos) tA:=by
 intro wh pins s σ H Q I h;refine isTrue_or (thn (ha pins s σ H Q I h) fun c s1 e=>?_)
 cases c with
 |false=>exact isTrue_or_nil e
 |true=>exact e
theorem Qp(ha:PT X a tA)(hb:PW X (.BoolOp .And (b::hZ) pos) eB):PW X (.BoolOp .And (a::b::hZ) pos) (Uk tA eB):=by
 intro wh pins s σ H Q I h;refine isTrue_and (thn (ha pins s σ H _ I h) fun c s1 ⟨H1,I1,q1⟩=>?_)
 cases c with
 |true=>exact hb wh pins s1 σ H1 Q I1 q1
 |false=>exact⟨H1,I1,q1⟩
theorem Sz(ha:PT X a tA)(hb:PW X (.BoolOp .Or (b::hZ) pos) eB):PW X (.BoolOp .Or (a::b::hZ) pos) (tOr tA eB):=by
 intro wh pins s σ H Q I h;refine isTrue_or (thn (ha pins s σ H _ I h) fun c s1 ⟨H1,I1,q1⟩=>?_)
 cases c with
 |true=>exact⟨H1,I1,q1⟩
 |false=>exact hb wh pins s1 σ H1 Q I1 q1
theorem Qs(ha:PT X a tA):PT X (.UnaryOp .Not a pos) (tNot tA):=by
 intro pins s σ H Q I h;exact isTrue_not (ha pins s σ H (fun c H1=>Q (!c) H1) I h)
def Sg(ta tb:TE):TE:=fun σ H Q=>ta σ H fun x H1=> ∃c,x= .bl c/\if c=true then tb σ H1 Q else Q (.bl false) H1
def R8(ta:TE):TE:=fun σ H Q=>ta σ H fun x H1=> ∃c,x= .bl c/\Q (.bl (!c)) H1
theorem QJ{op}{t:TE}(h:PE X a t):PE X (.BoolOp op [a] pos) t:=fun pins s σ H Q I hw=>BoolOp_one (h pins s σ H Q I hw)
theorem QU(ha:PE X a ta)(hb:PE X (.BoolOp .And (b::hZ) pos) tb):PE X (.BoolOp .And (a::b::hZ) pos) (Sg ta tb):=by
 intro pins s σ H Q I h;refine BoolOp_and (thn (ha pins s σ H _ I h) fun v s1 ⟨x,H1,I1,r1,q1⟩=>?_);obtain⟨c,rfl,q1⟩:=q1;cases r1;refine uT ?_
 cases c with
 |true=>exact hb pins s1 σ H1 Q I1 q1
 |false=>exact⟨.bl false,H1,I1,rfl,q1⟩
theorem QK(ha:PE X a ta):PE X (.UnaryOp .Not a pos) (R8 ta):=by
 intro pins s σ H Q I h;refine UnaryOp_ (thn (ha pins s σ H _ I h) fun v s1 ⟨x,H1,I1,r1,q1⟩=>?_);obtain⟨c,rfl,q1⟩:=q1;cases r1;exact not_of (uT ⟨.bl (!c),H1,I1,rfl,q1⟩)
noncomputable def tIf(t:TT)(ta tb:TE):TE:=fun σ H Q=>t σ H fun c H1=>if c=true then ta σ H1 Q else tb σ H1 Q
theorem Lr{c:gR}(hc:PT X c tA)(ha:PE X a ta)(hb:PE X b tb):PE X (.IfExp c a b pos) (tIf tA ta tb):=by
 intro pins s σ H Q I h;refine wpAny_IfExp (thn (hc pins s σ H _ I h) fun d s1 ⟨H1,I1,q1⟩=>?_)
 cases d with
 |true=>exact ha pins s1 σ H1 Q I1 q1
 |false=>exact hb pins s1 σ H1 Q I1 q1
end
def SqL(K:hG)(H:Hp)(a:gz)(xs:List V):Prop:=
 Rd H a (.lst xs)\/
  ∃(o:Obj) (b6:kz) (n:Nat),K.lookup a=some o/\o.cls= .type "list"/\o.dict=none/\o.data= .seq b6 n/\b6.size<=sizeLine/\Vals xs b6.toList
def SqT(K:hG)(H:Hp)(a:gz)(xs:List V):Prop:=
 Rd H a (.tup xs)\/
  ∃(o:Obj) (b6:kz) (n:Nat),K.lookup a=some o/\o.cls= .type "tuple"/\o.data= .seq b6 n/\b6.size<=sizeLine/\Vals xs b6.toList
noncomputable def Va:Value->Option V
 | .none=>some .non
 | .bool b=>some (.bl b)
 | .int i _=>some (.int i)
 | .str x _=>some (.str x)
 | .bytes b _=>some (.byt b)
 | .float b _=>some (.flt b)
 | .ref a=>some (.ref a)
 | .type n=>some (.ty n)
 |_=>none
theorem RelV.abs{x:V}{u:gQ}(r:RelV x u):Va u=some x:=by
 cases x with
 |non=>cases r;rfl
 |bl _=>cases r;rfl
 |int _=>obtain⟨t,rfl⟩:=r;rfl
 |str _=>obtain⟨t,rfl⟩:=r;rfl
 |byt _=>obtain⟨t,rfl⟩:=r;rfl
 |flt _=>obtain⟨t,rfl⟩:=r;rfl
 |ref _=>cases r;rfl
 |ty _=>cases r;rfl
theorem RelV.inj{x y:V}{u:gQ}(r:RelV x u)(q:RelV y u):x=y:=iR (r.abs.symm.trans q.abs)
theorem Vals.inj: ∀{xs ys:List V} {us:iV},Vals xs us->Vals ys us->xs=ys
 |_,_,_,.nil,.nil=>rfl
 |_,_,_,.cons r t,.cons r' t'=>by rw[r.inj r',Vals.inj t t']
section
variable {X:Cx}{pins:iq}{σ:St}{H:Hp}{s:gC}{a:gz}{xs ys:List V}
theorem SqL.of{K:hG}(h:H a=some (.lst xs)):SqL K H a xs:= .inl (.inl h)
theorem Inv.list(I:Inv X pins σ H s)(h:SqL X.K H a xs): ∃b6:List Value,Vals xs b6/\PlainL s.heap a b6.toArray/\xs.length<=sizeLine:=by
 rcases h with h|⟨o,b6,n,hk,hc,hd,hs,hz,r⟩
 ·obtain⟨z,b6,n,r,e⟩:=h.ok I.hok;exact⟨b6,r,⟨_,n,e,rfl,rfl,rfl⟩,z⟩
 ·refine⟨b6.toList,r,⟨o,n,I.kIn a o hk,hc,hd,by simpa using hs⟩,?_⟩;have e:=r.length;simp only[jr] at e;omega
theorem Inv.tuple(I:Inv X pins σ H s)(h:SqT X.K H a xs): ∃b6:List Value,Vals xs b6/\IsTup s.heap a b6.toArray/\xs.length<=sizeLine:=by
 rcases h with h|⟨o,b6,n,hk,hc,hs,hz,r⟩
 ·obtain⟨z,b6,r,p⟩:=h.ok I.hok;exact⟨b6,r,p,z⟩
 ·refine⟨b6.toList,r,⟨o,I.kIn a o hk,hc,n,by simpa using hs⟩,?_⟩;have e:=r.length;simp only[jr] at e;omega
theorem Inv.list_inj(I:Inv X pins σ H s)(h:SqL X.K H a xs)(h':SqL X.K H a ys):xs=ys:=by
 obtain⟨b6,r,⟨o,n,e,_,_,d⟩,_⟩:=I.list h;obtain⟨its',r',⟨o',n',e',_,_,d'⟩,_⟩:=I.list h';rw[e] at e';cases e';rw[d] at d';injection d' with d1 _
 have:b6=its':=by simpa using pZ Array.toList d1
 subst this;exact r.inj r'
theorem Inv.tuple_inj(I:Inv X pins σ H s)(h:SqT X.K H a xs)(h':SqT X.K H a ys):xs=ys:=by
 obtain⟨b6,r,⟨o,e,_,n,d⟩,_⟩:=I.tuple h;obtain⟨its',r',⟨o',e',_,n',d'⟩,_⟩:=I.tuple h';rw[e] at e';cases e';rw[d] at d';injection d' with d1 _
 have:b6=its':=by simpa using pZ Array.toList d1
 subst this;exact r.inj r'
end
abbrev Cx.wish(X:Cx)(E:il):Cx:={X with xe:=E}
abbrev Cx.nox(X:Cx):Cx:=X.wish fun _ _=>False
theorem Cx.Ok.wish{X:Cx}(ok:X.Ok)(E:il):(X.wish E).Ok:=
 ⟨ok.mod,ok.kind,ok.glob,ok.blt,ok.above,ok.inj,ok.has,ok.cab,ok.hd,ok.frames,ok.stk,ok.exf,ok.bs,ok.bsz,ok.noex,ok.exfs,ok.funs,ok.frf⟩
theorem Cx.Ok.unwish{X:Cx}{E:il}(ok:(X.wish E).Ok):X.Ok:=
 ⟨ok.mod,ok.kind,ok.glob,ok.blt,ok.above,ok.inj,ok.has,ok.cab,ok.hd,ok.frames,ok.stk,ok.exf,ok.bs,ok.bsz,ok.noex,ok.exfs,ok.funs,ok.frf⟩
section
variable {X:Cx}{pins:iq}{σ:St}{H:Hp}{s:gC}{E:il}
theorem Inv.wish(I:Inv X pins σ H s)(E:il):Inv (X.wish E) pins σ H s:=⟨I.ok.wish E,I.os,I.bare,I.base,I.loc,I.cell,I.free,I.freeC,I.pin,I.hok,I.len⟩
theorem Inv.unwish(I:Inv (X.wish E) pins σ H s):Inv X pins σ H s:=⟨I.ok.unwish,I.os,I.bare,I.base,I.loc,I.cell,I.free,I.freeC,I.pin,I.hok,I.len⟩
theorem SP.unwish{D:Ends}{f:Flow}{s':gC}(h:SP (X.wish E) pins D f s'):SP X pins D f s':=by
 cases f with
 |next=>obtain⟨σ',H',I,q⟩:=h;exact⟨σ',H',I.unwish,q⟩
 |brk=>obtain⟨σ',H',I,q⟩:=h;exact⟨σ',H',I.unwish,q⟩
 |cont=>obtain⟨σ',H',I,q⟩:=h;exact⟨σ',H',I.unwish,q⟩
 |ret u=>obtain⟨v,σ',H',I,r,q⟩:=h;exact⟨v,σ',H',I.unwish,r,q⟩
theorem PSs.nox{st:List Stmt}{t:TS}(h:PSs X.nox st t):PSs X st t:=fun pins s σ H D I hw=>
 qa (h pins s σ H D (I.wish _) hw) (fun _ _ q=>q.unwish) fun _ _ z=>False.elim z
end
section
variable {X:Cx}{st:Stmt}{hZ:List Stmt}{t u:TS}{e:gR}{te:TE}{pos:Pos}
noncomputable def R9:TS:=fun D σ H=>D.nx σ H
noncomputable def Ud(t u:TS):TS:=fun D σ H=>t {D with nx:=u D} σ H
theorem NK:PSs X [] R9:=fun _ _ σ H _ I h=>Fx ⟨σ,H,I,h⟩
theorem La(h1:PS X st t)(h2:PSs X hZ u):PSs X (st::hZ) (Ud t u):=by
 intro pins s σ H D I h;refine wpAny_execs_cons (thn (h1 pins s σ H {D with nx:=u D} I h) fun f s1 q=>?_)
 cases f with
 |next=>
  obtain⟨σ',H',I',q⟩:=q;exact h2 pins s1 σ' H' D I' q
 |ret v=>exact q
 |brk=>exact q
 |cont=>exact q
theorem Inv.quiet{pins:iq}{σ:St}{H:Hp}{s:gC}(I:Inv X pins σ H s):interactive X.env=false:=by simp[interactive,I.ok.kind]
noncomputable def Sb(te:TE):TS:=fun D σ H=>te σ H fun _ H1=>D.nx σ H1
theorem NL(he:PE X e te)(hs:swapsWith e none pos.line X.env=pure false:=by rfl):PS X (.Expr e pos) (Sb te):=by
 intro pins s σ H D I h;exact wpAny_Expr_any (thn (he pins s σ H _ I h) fun v s1 ⟨x,H1,I1,r1,q1⟩=>⟨σ,H1,I1,q1⟩) I.quiet hs
noncomputable def Ue(te:TE):TS:=fun D σ H=>te σ H D.rt
theorem Lc(he:PE X e te):PS X (.Return (some e) pos) (Ue te):=by
 intro pins s σ H D I h;exact wpAny_Return_some (thn (he pins s σ H _ I h) fun v s1 ⟨x,H1,I1,r1,q1⟩=>⟨x,σ,H1,I1,r1,q1⟩)
noncomputable def Ui(c:TT)(t u:TS):TS:=fun D σ H=>c σ H fun b H1=>if b=true then t D σ H1 else u D σ H1
theorem SD{c:gR}{a b:List Stmt}{tc:TT}(hc:PT X c tc)(ha:PSs X a t)(hb:PSs X b u):PS X (.If c a b pos) (Ui tc t u):=by
 intro pins s σ H D I h;refine wpAny_If (thn (hc pins s σ H _ I h) fun d s1 ⟨H1,I1,q1⟩=>?_)
 cases d with
 |true=>exact ha pins s1 σ H1 D I1 q1
 |false=>exact hb pins s1 σ H1 D I1 q1
end
abbrev TG:=V->St->Hp->(St->Hp->Prop)->Prop
abbrev TGs:=List V->St->Hp->(St->Hp->Prop)->Prop
def PG(X:Cx)(target:gR)(t:TG):Prop:=
 ∀(pins:iq) (s:gC) (σ:St) (H:Hp) (v:V) (u:gQ) (Q:St->Hp->Prop),Inv X pins σ H s->RelV v u->t v σ H Q->
  wpAny (model X.prog X.w) X.A (assign target X.env u) (fun _ s'=> ∃σ' H',Inv X pins σ' H' s'/\Q σ' H') X.xe s
def PGs(X:Cx)(ts:jF)(t:TGs):Prop:=
 ∀(pins:iq) (s:gC) (σ:St) (H:Hp) (vs:List V) (us:iV) (Q:St->Hp->Prop),Inv X pins σ H s->Vals vs us->t vs σ H Q->
  wpAny (model X.prog X.w) X.A (assignInOrder ((assignEach ts X.env).map (·.2)) us) (fun _ s'=> ∃σ' H',Inv X pins σ' H' s'/\Q σ' H') X.xe s
abbrev OF:=V->V->V->Hp->(Hp->Prop)->Prop
def RM(X:Cx)(t:OF):Prop:=
 ∀(pins:iq) (s:gC) (σ:St) (H:Hp) (o i v:V) (ov iv u:gQ) (Q:Hp->Prop),Inv X pins σ H s->RelV o ov->RelV i iv->RelV v u->t o i v H Q->
  wpAny (model X.prog X.w) X.A (setItem ov iv u) (fun _ s'=> ∃H',Inv X pins σ H' s'/\Q H') X.xe s
section
variable {X:Cx}{pos:Pos}
noncomputable def Ee(i:Nat):TG:=fun v σ H Q=>Q (σ.set i (some v)) H
theorem Hr{i:Nat}{x:Str}(hN:X.N.Nodup)(hi:X.N[i]?=some x)(hx:Loc X.env.scope x)(hf:X.fn x=true\/X.env.scope.names.lookup x=some .local:=by first|exact .inl rfl|exact .inr rfl|assumption):PG X (.Name x pos) (Ee i):=by
 intro pins s σ H v u Q I r h;exact wpAny_assign_Name (Dr I hN hi hx r (fun s' I'=>⟨_,H,I',h⟩) hf)
noncomputable def U9:TGs:=fun vs σ H Q=>vs=[]/\Q σ H
def Te(t:TG)(u:TGs):TGs:=fun vs σ H Q=> ∃v r,vs=v::r/\t v σ H fun σ' H'=>u r σ' H' Q
theorem NT:PGs X [] U9:=by
 intro pins s σ H vs us Q I r h;obtain⟨e,h⟩:=h;subst e;cases r;exact assignInOrder_nil ⟨σ,H,I,h⟩
theorem Lo{e:gR}{es:jF}{t:TG}{u:TGs}(h1:PG X e t)(h2:PGs X es u)
  (hs:(assignEach (e::es) X.env).map (·.2)=assign e X.env::(assignEach es X.env).map (·.2):=by rfl):PGs X (e::es) (Te t u):=by
 intro pins s σ H vs us Q I r h;obtain⟨v,vr,e1,h⟩:=h;subst e1
 cases r with
 |cons r rr=>
  rw[hs];refine assignInOrder_cons (thn (h1 pins s σ H _ _ _ I r h) fun _ s1 ⟨σ1,H1,I1,q1⟩=>?_);exact h2 pins s1 σ1 H1 _ _ Q I1 rr q1
def U8(K:hG)(n:Nat)(t:TGs):TG:=fun v σ H Q=> ∃a xs,v= .ref a/\SqT K H a xs/\xs.length=n/\t xs σ H Q
theorem QD{es:jF}{k:Nat}{t:TGs}{n:Nat}(hc:X.calm=true)(h:PGs X es t)
  (hn:(assignEach es X.env).length=n:=by rfl)(t9:(assignEach es X.env).findIdx? (·.1)=none:=by rfl):PG X (.Tuple es k pos) (U8 X.K n t):=by
 intro pins s σ H v u Q I r hw;obtain⟨a,xs,e1,hq,hl,hw⟩:=hw;subst e1;cases r;obtain⟨b6,rv,ht,hz⟩:=I.tuple hq;refine assign_Tuple_tuple (I.ok.hd hc) ht (by simp[hn,<-hl,rv.length]) t9 fun h' hx=>?_;have I1:Inv X pins σ H {s with heap:=h'}:=I.kept (t':=s.toks) fun b o e=>hx b o (iL (iu e)) e;exact h pins _ σ H xs _ Q I1 (by simpa using rv) hw
noncomputable def gSub(to ti:TE)(t:OF):TG:=fun v σ H Q=>to σ H fun o H1=>ti σ H1 fun i H2=>t o i v H2 fun H3=>Q σ H3
theorem Lp{o i:gR}{to ti:TE}{t:OF}(ho:PE X o to)(hi:PE X i ti)(hs:RM X t)
  (ha: ∀v,assign (.Subscript o i pos) X.env v=(do
   let ov <-holding [v] (eval o X.env)
   let iv <-holding [v,ov] (eval i X.env)
   standAt pos
   holding [v,ov,iv] (setItem ov iv v)
   release [v,ov,iv] []):=by intro _;rfl):PG X (.Subscript o i pos) (gSub to ti t):=by
 intro pins s σ H v u Q I r h;rw[ha];refine gx (mQ (thn (ho pins s σ H _ I h) fun ov s1 ⟨x,H1,I1,r1,q1⟩=>?_));refine gx (mQ (thn (hi pins s1 σ H1 _ I1 q1) fun iv s2 ⟨y,H2,I2,r2,q2⟩=>?_));refine gx (yA (gx (mQ (thn (hs pins s2 σ H2 x y v ov iv u _ I2 r1 r2 r q2) fun _ s3 ⟨H3,I3,q3⟩=>?_))));exact wpAny_release ⟨σ,H3,I3,q3⟩
noncomputable def PC(te:TE)(g:TG):TS:=fun D σ H=>te σ H fun x H1=>g x σ H1 D.nx
theorem F3{tg e:gR}{te:TE}{g:TG}(he:PE X e te)(hg:PG X tg g)(hs:swapsWithSole [tg] e pos.line X.env=pure false:=by rfl)(hw:swappedStores [tg] e X.env=pure none:=by rfl)
  (h1:(assignEach [tg] X.env).map (·.2)=[assign tg X.env]:=by rfl):PS X (.Assign [tg] e pos) (PC te g):=by
 intro pins s σ H D I h;refine wpAny_Assign_stores (thn (he pins s σ H _ I h) fun v s1 ⟨x,H1,I1,r1,q1⟩=>?_) hs hw;rw[h1];exact thn (hg pins s1 σ H1 x v _ I1 r1 q1) fun _ s2 q=>q
theorem Qu{i:Nat}{x:Str}{e:gR}{te:TE}{pos':Pos}(hN:X.N.Nodup)(hi:X.N[i]?=some x)(hx:Loc X.env.scope x)(he:PE X e te)(hs:swapsWith e (some (.Name x pos')) pos.line X.env=pure false:=by rfl)(hf:X.fn x=true\/X.env.scope.names.lookup x=some .local:=by first|exact .inl rfl|exact .inr rfl|assumption):
  PS X (.Assign [.Name x pos'] e pos) (PC te (Ee i)):=by
 intro pins s σ H D I h;refine wpAny_Assign_Name (thn (he pins s σ H _ I h) fun v s1 ⟨y,H1,I1,r1,q1⟩=>?_) hs;exact Dr I1 hN hi hx r1 (fun s2 I2=>⟨_,H1,I2,q1⟩) hf
def Py(c:TT)(tb:TS):TS:=fun D σ H=> ∃W:Nat->St->Hp->Prop,(∃m,W m σ H)/\ ∀m σ H,W m σ H->
 c σ H fun b H1=>if b=true then ∃N:St->Hp->Prop,(∀σ' H',N σ' H'-> ∃m',m'<m/\W m' σ' H')/\tb {D with nx:=N,ct:=N,bk:=D.nx} σ H1 else D.nx σ H1
theorem Lb{c:gR}{body:List Stmt}{tc:TT}{tb:TS}(hp:PassesOwn (model X.prog X.w) X.A X.env X.xe)(hc:PT X c tc)(hb:PSs X body tb):PS X (.While c body [] pos) (Py tc tb):=by
 intro pins s σ H D I h;obtain⟨W,⟨m0,w0⟩,turn⟩:=h;refine wpAny_While (codeAny_whileLoop (fun n s'=> ∃σ' H',Inv X pins σ' H' s'/\W n σ' H') ?_ m0 ⟨σ,H,I,w0⟩);rintro n s1 ⟨σ1,H1,I1,w1⟩;refine ug hp (thn (hc pins s1 σ1 H1 _ I1 (turn n σ1 H1 w1)) fun b s2 ⟨H2,I2,q2⟩=>?_)
 cases b with
 |true=>
  obtain⟨N,hN,q2⟩:=q2;rw[gG rfl];refine ug hp (thn (hb pins s2 σ1 H2 _ I2 q2) fun f s3 q3=>?_)
  cases f with
  |next=>
   obtain⟨σ3,H3,I3,n3⟩:=q3;obtain⟨m',hm,w3⟩:=hN σ3 H3 n3;exact⟨m',hm,σ3,H3,I3,w3⟩
  |cont=>
   obtain⟨σ3,H3,I3,n3⟩:=q3;obtain⟨m',hm,w3⟩:=hN σ3 H3 n3;exact⟨m',hm,σ3,H3,I3,w3⟩
  |brk=>exact q3
  |ret v=>exact q3
 |false=>
  rw[gJ jk];exact Fx ⟨σ1,H2,I2,q2⟩
end
structure It where
 go:Nat->Hp->Prop
 yld:Nat->Hp->V->Hp->Prop
 stop:Nat->Hp->Prop
def rm(X:Cx)(pins:iq)(H:Hp)(b:gz):Prop:=
 H b=none/\b≠X.env.locals/\b∉X.fs/\(b∈X.ex\/X.s₀.heap.objs.size<=b)/\(∀x c,X.env.cells.lookup x=some c->c≠b)/\ ∀p∈X.pn++pins,p.1≠b
theorem Inv.fpOk{X:Cx}{pins:iq}{σ:St}{H H':Hp}{s:gC}{b:gz}(I:Inv X pins σ H s)(hb:s.heap.objs.size<=b)(hn:H' b=none):rm X pins H' b:=by
 refine⟨hn,qu (mR I.lt hb),I.nofs hb,.inr (nF I.sz hb),fun x c e z=>?_,fun p hp z=>?_⟩
 ·obtain⟨v,q⟩:=I.cell x c e;exact absurd (mR q.lt (by rw[z];exact hb)) (oi _)
 ·exact absurd (mR (iu (I.pin p hp).1) (by rw[z];exact hb)) (oi _)
structure Turn(P:hW)(w:gU)(K:hG)(tg:gR)(J:It)(fp:jW)(it:gz)(tn:Nat->Heap->Prop):Prop where
 mem:it∈fp
 obj: ∀i h,tn i h-> ∀b∈fp,∃o,h.get? b=some o/\ ∀v,o.data≠ .cell v
 keep: ∀i h h',tn i h->(∀b∈fp,∀o,h.get? b=some o->h'.get? b=some o)->tn i h'
 item: ∀(X:Cx),X.prog=P->X.w=w->X.K=K->X.calm=true-> ∀(i:Nat) (pins:iq) (s:gC) (σ:St) (H:Hp) (E:il),Inv X pins σ H s->(∀b∈fp,rm X pins H b)->tn i s.heap->J.go i H->
  wpAny (model P w) X.A (pyNext (.ref it)) (fun r s1=> ∃u,r=some u/\
   wpAny (model P w) X.A (letOwnedTupleGo tg (.ref it) u) (fun _ s2=> ∃x H',Inv X pins σ H' s2/\RelV x u/\J.yld i H x H'/\tn (i+1) s2.heap/\ ∀b∈fp,H' b=none) E s1) E s
 done: ∀(X:Cx),X.prog=P->X.w=w->X.K=K->X.calm=true-> ∀(i:Nat) (pins:iq) (s:gC) (σ:St) (H:Hp) (E:il),Inv X pins σ H s->(∀b∈fp,rm X pins H b)->tn i s.heap->J.stop i H->
  wpAny (model P w) X.A (pyNext (.ref it)) (fun r s1=>r=none/\Inv X pins σ H s1) E s
 self: ∀(A:gZ) (i:Nat) (s:gC) (Q:il) (E:il),tn i s.heap->Q (.ref it) s->wpAny (model P w) A (pyIter (.ref it)) Q E s
abbrev TI:=St->Hp->(It->Hp->Prop)->Prop
def PIE(X:Cx)(pins:iq)(σ:St)(tg:gR)(R:It->Hp->Prop)(dN:gQ)(s2:gC):Prop:=
 ∃(it:gz) (fp:jW) (tn:Nat->Heap->Prop) (J:It) (H':Hp),dN= .ref it/\Inv X pins σ H' s2/\Turn X.prog X.w X.K tg J fp it tn/\tn 0 s2.heap/\(∀b∈fp,rm X pins H' b)/\R J H'
def PI(X:Cx)(tg iter:gR)(wi:TI):Prop:=
 ∀(pins:iq) (s:gC) (σ:St) (H:Hp) (R:It->Hp->Prop),Inv X pins σ H s->wi σ H R->
  wpAny (model X.prog X.w) X.A (eval iter X.env) (fun v s1=>wpAny (model X.prog X.w) X.A (pyIter v) (PIE X pins σ tg R) X.xe s1) X.xe s
theorem Mc{M:Model}{A:gZ}{E:il}{s:gC}{tg:gR}{it:gz}{u:gQ}{o:Obj}{n:String}{vs:kz}{Q:Unit->Shared->Prop}(ho:s.heap.get? it=some o)(hc:o.cls= .type n)(hd:o.data= .fields vs)
  (hn:["enumerate","zip","dict_itemiterator","dict_reverseitemiterator","odict_iterator","itertools.zip_longest","itertools.pairwise"].contains n=false)(hQ:Q () s):wpAny M A (letOwnedTupleGo tg (.ref it) u) Q E s:=by
 unfold letOwnedTupleGo
 cases tg<;>first
  |exact gO hQ
  |(cases u<;>first
    |exact gO hQ
    |(
      refine gx (wy ho ?_);rw[hc,hd];show wpAny M A (if(["enumerate","zip","dict_itemiterator","dict_reverseitemiterator","odict_iterator","itertools.zip_longest","itertools.pairwise"].contains n&&vs[0]?==some (rawInt _))=true then _ else _) Q E s;rw[gJ (by intro h;rw[hn,Bool.false_and] at h;cases h)];exact gO hQ))
noncomputable def Itl(K:hG)(a:gz):It:=
 ⟨fun i H=> ∃xs x,SqL K H a xs/\xs[i]?=some x,fun i H x H'=>H'=H/\ ∀xs,SqL K H a xs->xs[i]?=some x,fun i H=> ∃xs,SqL K H a xs/\xs.length<=i⟩
noncomputable def Itt(K:hG)(a:gz):It:=
 ⟨fun i H=> ∃xs x,SqT K H a xs/\xs[i]?=some x,fun i H x H'=>H'=H/\ ∀xs,SqT K H a xs->xs[i]?=some x,fun i H=> ∃xs,SqT K H a xs/\xs.length<=i⟩
noncomputable def Itr(lo:Int)(n:Nat):It:=⟨fun i _=>i<n,fun i H x H'=>H'=H/\x= .int (lo+i),fun i _=>n<=i⟩
theorem Ij{P:hW}{w:gU}{K:hG}{tg:gR}(a it:gz):Turn P w K tg (Itl K a) [it] it (fun i h=>h.IsListIter it a i) where
 mem:=by simp
 obj:=fun i h st b hb=>by
  have e:b=it:=by simpa using hb
  subst e;obtain⟨o,e,c,d⟩:=st;exact⟨o,e,fun v z=>by rw[d] at z;cases z⟩
 keep:=fun i h h' st k=>st.at fun o e=>k it (by simp) o e
 item:=by
  intro X hP hw hK hc i pins s σ H E I hf st hg;subst hP hw hK;obtain⟨xs,x,hq,hx⟩:=hg;obtain⟨b6,rv,p,hz⟩:=I.list hq;obtain⟨u,hu,ru⟩:=rv.get hx;obtain⟨f0,f1,f2,f3,f4,f5⟩:=hf it (by simp);refine wpAny_pyNext_list_item st p.isList (x:=u) (by simpa using hu) fun h' b7 sb=>?_;have I1:Inv X pins σ H {s with heap:=h'}:=I.turned (t':=s.toks) (fun b o hb e=>(sb.2 b hb).trans e) f0 f1 f3 f4 f5;obtain⟨o,e,c,d⟩:=id b7;exact⟨u,rfl,Mc (s:={s with heap:=h'}) e c d (by decide) ⟨x,H,I1,ru,⟨rfl,fun ys hy=>by rw[I.list_inj hy hq];exact hx⟩,b7,fun b hb=>(hf b hb).1⟩⟩
 done:=by
  intro X hP hw hK hc i pins s σ H E I hf st hg;subst hP hw hK;obtain⟨xs,hq,hx⟩:=hg;obtain⟨b6,rv,p,hz⟩:=I.list hq;obtain⟨f0,f1,f2,f3,f4,f5⟩:=hf it (by simp);have hl:=rv.length;exact wpAny_pyNext_list_end (I.ok.hd hc) st p.isList (by simp;omega) fun h' eb=>⟨rfl,I.turned (t':=s.toks) (fun b o hb e=>eb b o hb e) f0 f1 f3 f4 f5⟩
 self:=fun _ _ _ _ _ st h=>wpAny_pyIter_listiter st h
theorem FE{P:hW}{w:gU}{K:hG}{tg:gR}(a it:gz):Turn P w K tg (Itt K a) [it] it (fun i h=>h.IsTupleIter it a i) where
 mem:=by simp
 obj:=fun i h st b hb=>by
  have e:b=it:=by simpa using hb
  subst e;obtain⟨o,e,c,d⟩:=st;exact⟨o,e,fun v z=>by rw[d] at z;cases z⟩
 keep:=fun i h h' st k=>st.at fun o e=>k it (by simp) o e
 item:=by
  intro X hP hw hK hc i pins s σ H E I hf st hg;subst hP hw hK;obtain⟨xs,x,hq,hx⟩:=hg;obtain⟨b6,rv,p,hz⟩:=I.tuple hq;obtain⟨u,hu,ru⟩:=rv.get hx;obtain⟨f0,f1,f2,f3,f4,f5⟩:=hf it (by simp);refine wpAny_pyNext_tuple_item st (show s.heap.IsTuple a b6.toArray from p) (x:=u) (by simpa using hu) fun h' b7 sb=>?_;have I1:Inv X pins σ H {s with heap:=h'}:=I.turned (t':=s.toks) (fun b o hb e=>(sb.2 b hb).trans e) f0 f1 f3 f4 f5;obtain⟨o,e,c,d⟩:=id b7;exact⟨u,rfl,Mc (s:={s with heap:=h'}) e c d (by decide) ⟨x,H,I1,ru,⟨rfl,fun ys hy=>by rw[I.tuple_inj hy hq];exact hx⟩,b7,fun b hb=>(hf b hb).1⟩⟩
 done:=by
  intro X hP hw hK hc i pins s σ H E I hf st hg;subst hP hw hK;obtain⟨xs,hq,hx⟩:=hg;obtain⟨b6,rv,p,hz⟩:=I.tuple hq;obtain⟨f0,f1,f2,f3,f4,f5⟩:=hf it (by simp);have hl:=rv.length;exact wpAny_pyNext_tuple_end (I.ok.hd hc) st (show s.heap.IsTuple a b6.toArray from p) (by simp;omega) fun h' eb=>⟨rfl,I.turned (t':=s.toks) (fun b o hb e=>eb b o hb e) f0 f1 f3 f4 f5⟩
 self:=fun _ _ _ _ _ st h=>wpAny_pyIter_tupleiter st h
theorem FF{P:hW}{w:gU}{K:hG}{tg:gR}(it:gz)(lo:Int)(n:Nat):Turn P w K tg (Itr lo n) [it] it (fun i h=>IsRangeIter h it (lo+(i:Nat)*1) ((n:Int)-(i:Nat)) 1) where
 mem:=by simp
 obj:=fun i h st b hb=>by
  have e:b=it:=by simpa using hb
  subst e
  exact⟨_,st,fun v z=>by
   have z':Data.fields _=Data.cell v:=z;cases z'⟩
 keep:=fun i h h' st k=>k it (by simp) _ st
 item:=by
  intro X hP hw hK hc i pins s σ H E I hf st hg;subst hP hw hK;obtain⟨f0,f1,f2,f3,f4,f5⟩:=hf it (by simp);have W:=Walks.range (prog:=X.prog) (w:=X.w) (I.ok.hd hc) it lo 1 n;refine W.item i s _ _ hg st fun v h' tk hv b7 kk=>?_;obtain⟨t,rfl⟩:=hv;have I1:Inv X pins σ H {s with heap:=h',toks:=tk}:=I.turned (fun b o hb e=>kk b o (by simpa using hb) e) f0 f1 f3 f4 f5;refine⟨_,rfl,Mc (s:={s with heap:=h',toks:=tk}) (n:="range_iterator") b7 rfl rfl (by decide) ⟨.int (lo+i),H,I1,⟨t,?_⟩,⟨rfl,rfl⟩,b7,fun b hb=>(hf b hb).1⟩⟩;rw[Fw]
 done:=by
  intro X hP hw hK hc i pins s σ H E I hf st hg;subst hP hw hK;obtain⟨f0,f1,f2,f3,f4,f5⟩:=hf it (by simp);exact wpAny_pyNext_range_end (I.ok.hd hc) st (by have:n<=i:=hg;omega) fun h' eb=>⟨rfl,I.turned (t':=s.toks) (fun b o hb e=>eb b o hb e) f0 f1 f3 f4 f5⟩
 self:=fun _ _ _ _ _ st h=>wpAny_pyIter_rangeiter st h
section
variable {X:Cx}{tg:gR}
def Ta(K:hG)(tl:TE):TI:=fun σ H R=>tl σ H fun x H1=> ∃a,x= .ref a/\(∃xs,SqL K H1 a xs)/\R (Itl K a) H1
def U7(K:hG)(tl:TE):TI:=fun σ H R=>tl σ H fun x H1=> ∃a,x= .ref a/\(∃xs,SqT K H1 a xs)/\R (Itt K a) H1
theorem NQ{l:gR}{tl:TE}(hl:PE X l tl):PI X tg l (Ta X.K tl):=by
 intro pins s σ H R I h;refine thn (hl pins s σ H _ I h) fun v s1 ⟨x,H1,I1,r1,q1⟩=>?_;obtain⟨a,e,⟨xs,hq⟩,q⟩:=q1;subst e;cases r1;obtain⟨b6,rv,p,hz⟩:=I1.list hq;refine yz p.isList ?_;refine⟨s1.heap.objs.size,[s1.heap.objs.size],_,_,H1,rfl,I1.kept (t':=s1.toks) fun b o e=>iF _ e,Ij a _,⟨_,jG _ rfl,rfl,rfl⟩,fun b hb=>?_,q⟩;have e:b=s1.heap.objs.size:=by simpa using hb
 subst e;exact I1.fpOk (ir _) (I1.hok.fresh (ir _))
theorem Qz{l:gR}{tl:TE}(hl:PE X l tl):PI X tg l (U7 X.K tl):=by
 intro pins s σ H R I h;refine thn (hl pins s σ H _ I h) fun v s1 ⟨x,H1,I1,r1,q1⟩=>?_;obtain⟨a,e,⟨xs,hq⟩,q⟩:=q1;subst e;cases r1;obtain⟨b6,rv,p,hz⟩:=I1.tuple hq;refine Fv (show s1.heap.IsTuple a b6.toArray from p) ?_;refine⟨s1.heap.objs.size,[s1.heap.objs.size],_,_,H1,rfl,I1.kept (t':=s1.toks) fun b o e=>iF _ e,FE a _,⟨_,jG _ rfl,rfl,rfl⟩,fun b hb=>?_,q⟩;have e:b=s1.heap.objs.size:=by simpa using hb
 subst e;exact I1.fpOk (ir _) (I1.hok.fresh (ir _))
theorem DL{pins:iq}{σ:St}{H:Hp}{s:gC}{R:It->Hp->Prop}{E:il}{lo hi:Int}{t u v:Tok}{tk:Nat}(I:Inv X pins σ H s)(h1: -(2^62)<=lo)(h2:lo<2^62)(h3: -(2^62)<=hi)(h4:hi<2^62)
  (q:R (Itr lo (hi-lo).toNat) H):wpAny (model X.prog X.w) X.A (pyIter (.ref s.heap.objs.size)) (PIE X pins σ tg R) E {s with heap:=s.heap.push {cls:= .type "range",data:= .fields #[.int lo t,.int hi u,.int 1 v]},toks:=tk}:=by
 refine wpAny_pyIter_range (IsRange.new ..) (small_one h1 h2 h3 h4) ?_;have I1:Inv X pins σ H {s with heap:=s.heap.push {cls:= .type "range",data:= .fields #[.int lo t,.int hi u,.int 1 v]},toks:=tk}:=I.kept fun b o e=>iF _ e
 refine⟨(s.heap.push {cls:= .type "range",data:= .fields #[.int lo t,.int hi u,.int 1 v]}).objs.size,[(s.heap.push {cls:= .type "range",data:= .fields #[.int lo t,.int hi u,.int 1 v]}).objs.size],_,_,H,rfl,
  I1.kept (t':=tk) fun b o e=>iF _ e,FF _ lo (hi-lo).toNat,?_,fun b hb=>?_,q⟩
 ·have e1:lo+((0:Nat):Int)*1=lo:=by simp
  have e2:(((hi-lo).toNat:Nat):Int)-((0:Nat):Int)=Builtin.Range.rangeSize lo hi 1:=by rw[rangeSize_one];split<;>omega
  show IsRangeIter _ _ (lo+((0:Nat):Int)*1) ((((hi-lo).toNat:Nat):Int)-((0:Nat):Int)) 1;rw[e1,e2];exact jG _ rfl
 ·have e:b=(s.heap.push {cls:= .type "range",data:= .fields #[.int lo t,.int hi u,.int 1 v]}).objs.size:=by simpa using hb
  subst e;exact I1.fpOk (ir _) (I1.hok.fresh (ir _))
def S9(ta:TA):TI:=fun σ H R=>ta σ H fun vs H1=> ∃j:Int,vs=[.int j]/\ -(2^62)<=j/\j<2^62/\R (Itr 0 j.toNat) H1
def S8(ta:TA):TI:=fun σ H R=>ta σ H fun vs H1=> ∃i j:Int,vs=[.int i,.int j]/\(-(2^62)<=i/\i<2^62/\ -(2^62)<=j/\j<2^62)/\R (Itr i (j-i).toNat) H1
theorem IM{a:gR}{ta:TA}{p pos:Pos}(hg:Gl X "range")(hm:X.mg "range"=none)(ha:PA X [a] ta)(hs:starEach [a] X.env=[(false,eval a X.env)]:=by rfl):PI X tg (.Call (.Name "range" p) [a] [] pos) (S9 ta):=by
 intro pins s σ H R I h;refine Call_ (wK I hg hm BZ (BY (thn (ha pos pins s σ H _ I h) fun us s1 ⟨vs,H1,I1,r1,q1⟩=>?_) hs rfl));obtain⟨j,e,q1,q2,q⟩:=q1;subst e
 cases r1 with
 |cons r rr=>
  cases rr;obtain⟨t,rfl⟩:=r;exact call_range_1 (DL I1 (by omega) (by omega) q1 q2 (by simpa using q))
theorem IL{a b:gR}{ta:TA}{p pos:Pos}(hg:Gl X "range")(hm:X.mg "range"=none)(ha:PA X [a,b] ta)(hs:starEach [a,b] X.env=[(false,eval a X.env),(false,eval b X.env)]:=by rfl)(p8:starEach [b] X.env=[(false,eval b X.env)]:=by rfl):
  PI X tg (.Call (.Name "range" p) [a,b] [] pos) (S8 ta):=by
 intro pins s σ H R I h;refine Call_ (wK I hg hm BZ (BY (thn (ha pos pins s σ H _ I h) fun us s1 ⟨vs,H1,I1,r1,q1⟩=>?_) (by rw[hs,p8]) (by rw[p8];rfl)));obtain⟨i,j,e,⟨q1,q2,q3,q4⟩,q⟩:=q1;subst e
 cases r1 with
 |cons r rr=>
  cases rr with
  |cons r' rr=>
   cases rr;obtain⟨t,rfl⟩:=r;obtain⟨t',rfl⟩:=r';exact call_range_2 (DL I1 q1 q2 q3 q4 q)
def Uj(wi:TI)(g:TG)(tb:TS):TS:=fun D σ H=>wi σ H fun J H1=> ∃W:Nat->Nat->St->Hp->Prop,(∃m,W 0 m σ H1)/\ ∀i m σ H,W i m σ H->
 (J.stop i H/\D.nx σ H)\/(J.go i H/\ ∃N:St->Hp->Prop,(∀σ' H',N σ' H'-> ∃m',m'<m/\W (i+1) m' σ' H')/\ ∀x H',J.yld i H x H'->g x σ H' fun σ2 H2=>tb {D with nx:=N,ct:=N,bk:=D.nx} σ2 H2)
noncomputable def yU(fp:jW)(h:hV):List (Addr×Obj):=fp.filterMap fun b=>(h.get? b).map fun o=>(b,o)
theorem pM{fp:jW}{h:hV}{b:gz}{o:Obj}(hb:b∈fp)(e:h.get? b=some o):(b,o)∈yU fp h:=List.mem_filterMap.mpr ⟨b,hb,by rw[e];rfl⟩
theorem IV{fp:jW}{h:hV}{p:Addr×Obj}(hp:p∈yU fp h):p.1∈fp/\h.get? p.1=some p.2:=by
 obtain⟨b,hb,e⟩:=List.mem_filterMap.mp hp
 cases q:h.get? b with
 |none=>rw[q] at e;cases e
 |some o=>
  rw[q] at e;have e':(b,o)=p:=iR e;subst e';exact⟨hb,q⟩
theorem Inv.pinned{pins:iq}{σ:St}{H:Hp}{s:gC}{fp:jW}(I:Inv X pins σ H s)(hf: ∀b∈fp,rm X pins H b)(ho: ∀b∈fp,∃o,s.heap.get? b=some o/\ ∀v,o.data≠ .cell v):Inv X (pins++yU fp s.heap) σ H s:=
 I.pins_of fun p hp=>(nG.mp hp).elim (fun z=>I.pin p (oU _ z)) fun z=>by
  obtain⟨hb,e⟩:=IV z;obtain⟨f0,f1,f2,_⟩:=hf p.1 hb;obtain⟨o,e',d⟩:=ho p.1 hb;rw[e] at e';cases e';exact⟨e,f0,f1,f2,d⟩
theorem Inv.unpinned{pins pl:iq}{σ:St}{H:Hp}{s:gC}(I:Inv X (pins++pl) σ H s):Inv X pins σ H s:=I.pins_of fun p hp=>I.pin p (oU _ (J5 _ hp))
theorem Qv{iter:gR}{body:List Stmt}{wi:TI}{g:TG}{tb:TS}{pos:Pos}(hp:PassesOwn (model X.prog X.w) X.A X.env X.xe)(hc:X.calm=true)(hi:PI X tg iter wi)(hg:PG X tg g)(hb:PSs X body tb)
  (hs: ∀x,foldedSetIterable iter X.env x=pure x:=by intro _;rfl):PS X (.For tg iter body [] pos) (Uj wi g tb):=by
 intro pins s σ H D I h;refine wpAny_For (thn (hi pins s σ H _ I h) fun v s1 h1=>thn h1 fun dN s2 h2=>?_) hs;obtain⟨it,fp,tn,J,H2,e,I2,T,i3,f2,W,⟨m0,w0⟩,turn⟩:=h2;subst e;have ae: ∀{H':Hp},(∀b∈fp,H' b=none)-> ∀b∈fp,rm X pins H' b:=fun hn b hb=>⟨hn b hb,(f2 b hb).2⟩
 refine codeAny_forLoop_any (fun n s'=> ∃i σ' H',Inv X pins σ' H' s'/\tn i s'.heap/\(∀b∈fp,H' b=none)/\W i n σ' H') ?_ m0 ⟨0,σ,H2,I2,i3,fun b hb=>(f2 b hb).1,w0⟩;rintro n s3 ⟨i,σ3,H3,I3,m5,dz,w3⟩;rcases turn i n σ3 H3 w3 with⟨stop,qn⟩|⟨go,N,hN,step⟩
 ·refine ug hp (thn (T.done X rfl rfl rfl hc i pins s3 σ3 H3 X.xe I3 (ae dz) m5 stop) fun r s4 ⟨hr,I4⟩=>?_);subst hr;exact Fx ⟨σ3,H3,I4,qn⟩
 ·refine ug hp (thn (T.item X rfl rfl rfl hc i pins s3 σ3 H3 X.xe I3 (ae dz) m5 go) fun r s4 ⟨u,hr,h4⟩=>?_);subst hr;refine ug hp (thn h4 fun _ s5 ⟨x,H5,I5,r5,y5,bH,gi⟩=>?_);have gr:=I5.pinned (ae gi) (T.obj _ _ bH);refine ug hp (thn (hg _ s5 σ3 H5 x u _ gr r5 (step x H5 y5)) fun _ s6 ⟨σ6,H6,I6,q6⟩=>?_);refine ug hp (thn (hb _ s6 σ6 H6 _ I6 q6) fun f s7 q7=>?_)
  have again: ∀{σ7:St} {H7:Hp},Inv X (pins++yU fp s5.heap) σ7 H7 s7->N σ7 H7-> ∃m,m<n/\ ∃i σ' H',Inv X pins σ' H' s7/\tn i s7.heap/\(∀b∈fp,H' b=none)/\W i m σ' H':=fun {σ7 H7} I7 n7=>by
   obtain⟨m',hm,w7⟩:=hN σ7 H7 n7;refine⟨m',hm,i+1,σ7,H7,I7.unpinned,T.keep _ _ _ bH fun b hb o e=>(I7.pin (b,o) (oU _ (oU _ (pM hb e)))).1,fun b hb=>?_,w7⟩;obtain⟨o,e,d⟩:=T.obj _ _ bH b hb;exact(I7.pin (b,o) (oU _ (oU _ (pM hb e)))).2.1
  cases f with
  |next=>obtain⟨σ7,H7,I7,n7⟩:=q7;exact again I7 n7
  |cont=>obtain⟨σ7,H7,I7,n7⟩:=q7;exact again I7 n7
  |brk=>obtain⟨σ7,H7,I7,q7⟩:=q7;exact⟨σ7,H7,I7.unpinned,q7⟩
  |ret v=>obtain⟨x7,σ7,H7,I7,r7,q7⟩:=q7;exact⟨x7,σ7,H7,I7.unpinned,r7,q7⟩
end
abbrev R2:=V->V->Hp->VK->Prop
def OpR(X:Cx)(f:xb)(r:R2):Prop:=
 ∀(pins:iq) (s:gC) (σ:St) (H:Hp) (x y:V) (v u:gQ) (Q:VK),Inv X pins σ H s->RelV x v->RelV y u->r x y H Q->
  wpAny (model X.prog X.w) X.A (f v u) (EP X pins σ Q) X.xe s
def UnR(X:Cx)(f:Value->Sem Value)(r:V->Hp->VK->Prop):Prop:=
 ∀(pins:iq) (s:gC) (σ:St) (H:Hp) (x:V) (v:gQ) (Q:VK),Inv X pins σ H s->RelV x v->r x H Q->
  wpAny (model X.prog X.w) X.A (f v) (EP X pins σ Q) X.xe s
def jB(X:Cx)(f:gQ)(r:List V->Hp->VK->Prop):Prop:=
 ∀(pins:iq) (s:gC) (σ:St) (H:Hp) (xs:List V) (us:iV) (Q:VK),Inv X pins σ H s->Vals xs us->r xs H Q->
  wpAny (model X.prog X.w) X.A (call f us) (EP X pins σ Q) X.xe s
noncomputable def tOp(r:R2)(ta tb:TE):TE:=fun σ H Q=>ta σ H fun x H1=>tb σ H1 fun y H2=>r x y H2 Q
def tUn(r:V->Hp->VK->Prop)(ta:TE):TE:=fun σ H Q=>ta σ H fun x H1=>r x H1 Q
def rI(C:Int->Int->Prop)(g:Int->Int->V):R2:=fun x y H Q=> ∃i j,x= .int i/\y= .int j/\C i j/\Q (g i j) H
def rI0(g:Int->Int->V):R2:=fun x y H Q=> ∃i j,x= .int i/\y= .int j/\Q (g i j) H
def rU(g:Int->V):V->Hp->VK->Prop:=fun x H Q=> ∃i,x= .int i/\Q (g i) H
section
variable {X:Cx}{a b c:gR}{ta tb tc:TE}{pos:Pos}
theorem RJ(ha:PE X a ta)(hb:PE X b tb){pins:iq}{s:gC}{σ:St}{H:Hp}{R:V->V->Hp->Prop}(I:Inv X pins σ H s)
  (h:ta σ H fun x H1=>tb σ H1 fun y H2=>R x y H2){Q:il}{f:xb}
  (hf: ∀v u s2 x y H2,Inv X pins σ H2 s2->RelV x v->RelV y u->R x y H2->wpAny (model X.prog X.w) X.A (f v u) Q X.xe s2):
  wpAny (model X.prog X.w) X.A (eval a X.env) (fun v s₁=>wpAny (model X.prog X.w) X.A (eval b X.env) (fun u s₂=>wpAny (model X.prog X.w) X.A (f v u) Q X.xe s₂) X.xe s₁) X.xe s:=by
 refine thn (ha pins s σ H _ I h) fun v s1 ⟨x,H1,I1,r1,q1⟩=>?_;refine thn (hb pins s1 σ H1 _ I1 q1) fun u s2 ⟨y,H2,I2,r2,q2⟩=>?_;exact hf v u s2 x y H2 I2 r1 r2 q2
theorem SG{op:Operator}{r:R2}(ho:OpR X (binaryOp op) r)(ha:PE X a ta)(hb:PE X b tb):PE X (.BinOp a op b pos) (tOp r ta tb):=by
 intro pins s σ H Q I h;exact wpAny_BinOp (RJ ha hb I h fun v u s2 x y H2 I2 rx ry q=>ho pins s2 σ H2 x y v u Q I2 rx ry q)
theorem SF{op:UnaryOp}{r:V->Hp->VK->Prop}(ho:UnR X (unaryOp op) r)(ha:PE X a ta):PE X (.UnaryOp op a pos) (tUn r ta):=by
 intro pins s σ H Q I h;exact UnaryOp_ (thn (ha pins s σ H _ I h) fun v s1 ⟨x,H1,I1,r1,q1⟩=>ho pins s1 σ H1 x v Q I1 r1 q1)
theorem opI{f:xb}{C:Int->Int->Prop}{g:Int->Int->Int}
  (rule: ∀(i j:Int) (t u:Tok) (s:gC) (Q:il) (E:il),C i j->Q (.int (g i j) s.toks) {s with toks:=s.toks+1}->wpAny (model X.prog X.w) X.A (f (.int i t) (.int j u)) Q E s):
  OpR X f (rI C fun i j=> .int (g i j)):=by
 intro pins s σ H x y v u Q I rx ry h;obtain⟨i,j,rfl,rfl,hc,q⟩:=h;obtain⟨t,rfl⟩:=rx;obtain⟨t',rfl⟩:=ry;exact rule i j t t' s _ _ hc ⟨.int (g i j),H,I.tok _,⟨_,rfl⟩,q⟩
theorem SU{f:xb}{g:Int->Int->Int}
  (rule: ∀(i j:Int) (t u:Tok) (s:gC) (Q:il) (E:il),Q (.int (g i j) s.toks) {s with toks:=s.toks+1}->wpAny (model X.prog X.w) X.A (f (.int i t) (.int j u)) Q E s):
  OpR X f (rI0 fun i j=> .int (g i j)):=by
 intro pins s σ H x y v u Q I rx ry h;obtain⟨i,j,rfl,rfl,q⟩:=h;obtain⟨t,rfl⟩:=rx;obtain⟨t',rfl⟩:=ry;exact rule i j t t' s _ _ ⟨.int (g i j),H,I.tok _,⟨_,rfl⟩,q⟩
theorem N4{f:xb}{g:Int->Int->Bool}
  (rule: ∀(i j:Int) (t u:Tok) (s:gC) (Q:il) (E:il),Q (.bool (g i j)) s->wpAny (model X.prog X.w) X.A (f (.int i t) (.int j u)) Q E s):
  OpR X f (rI0 fun i j=> .bl (g i j)):=by
 intro pins s σ H x y v u Q I rx ry h;obtain⟨i,j,rfl,rfl,q⟩:=h;obtain⟨t,rfl⟩:=rx;obtain⟨t',rfl⟩:=ry;exact rule i j t t' s _ _ ⟨.bl (g i j),H,I,rfl,q⟩
def Jt(i j:Int):Prop:=0<j/\j<1073741824
def C9(i j:Int):Prop:=0<=j/\j<=1000000/\i.natAbs<2^64
def CMul(i j:Int):Prop:=(-(2^64)<i/\i<2^64)\/(-(2^64)<j/\j<2^64)
theorem CMul.ok{i j:Int}(h:CMul i j):IntMulOk i j:=by
 rcases h with⟨h1,h2⟩|⟨h1,h2⟩
 ·exact .of_left (intBits_le_64 h1 h2)
 ·exact .of_right (intBits_le_64 h1 h2)
theorem Q6:OpR X (binaryOp .Add) (rI0 fun i j=> .int (i+j)):=SU fun _ _ _ _ _ _ _ q=>add_int q
theorem QZ:OpR X (binaryOp .Sub) (rI0 fun i j=> .int (i-j)):=SU fun _ _ _ _ _ _ _ q=>sub_int q
theorem Q2:OpR X (binaryOp .Mult) (rI CMul fun i j=> .int (i*j)):=opI fun _ _ _ _ _ _ _ hc q=>mul_int q hc.ok
theorem N2:OpR X (binaryOp .FloorDiv) (rI Jt fun i j=> .int (i / j)):=opI fun i j _ _ _ _ _ hc q=>by
 have h1:(0:Int)<j:=hc.1;have h2:j<1073741824:=hc.2;exact floordiv_int (by omega) (by rw[Int.fdiv_eq_ediv_of_nonneg i (by omega)];exact q) (.inl (PyProof.noPylong_small (by omega)))
theorem Q3:OpR X (binaryOp .Mod) (rI (fun _ j=>0<j) fun i j=> .int (i%j)):=opI fun i j _ _ _ _ _ hc q=>by
 have h1:(0:Int)<j:=hc;exact mod_int' (by omega) (by rw[Int.fmod_eq_emod_of_nonneg i (by omega)];exact q)
theorem Q0:OpR X (binaryOp .Pow) (rI C9 fun i j=> .int (i^j.toNat)):=opI fun _ _ _ _ _ _ _ hc q=>pow_int_small hc.1 hc.2.1 hc.2.2 q
theorem unI{f:Value->Sem Value}{g:Int->Int}
  (rule: ∀(i:Int) (t:Tok) (s:gC) (Q:il) (E:il),Q (.int (g i) s.toks) {s with toks:=s.toks+1}->wpAny (model X.prog X.w) X.A (f (.int i t)) Q E s):
  UnR X f (rU fun i=> .int (g i)):=by
 intro pins s σ H x v Q I rx h;obtain⟨i,rfl,q⟩:=h;obtain⟨t,rfl⟩:=rx;exact rule i t s _ _ ⟨.int (g i),H,I.tok _,⟨_,rfl⟩,q⟩
theorem Pw:UnR X (unaryOp .USub) (rU fun i=> .int (-i)):=unI fun _ _ _ _ _ q=>neg_int q
theorem CP{pins:iq}{σ:St}{H:Hp}{s:gC}{Q:VK}{k k':Bool}(I:Inv X pins σ H s)(q:Q (.bl k) H)(e:k=k'):EP X pins σ Q (.bool k') s:=by
 subst e;exact⟨.bl k,H,I,rfl,q⟩
theorem SN:OpR X (compareOp .Lt) (rI0 fun i j=> .bl (decide (i<j))):=N4 fun _ _ _ _ _ _ _ q=>lt_int q
theorem SO:OpR X (compareOp .LtE) (rI0 fun i j=> .bl (decide (i<=j))):=N4 fun _ _ _ _ _ _ _ q=>le_int q
theorem SQ:OpR X (compareOp .Gt) (rI0 fun i j=> .bl (decide (j<i))):=N4 fun _ _ _ _ _ _ _ q=>gt_int q
theorem SR:OpR X (compareOp .GtE) (rI0 fun i j=> .bl (decide (j<=i))):=N4 fun _ _ _ _ _ _ _ q=>ge_int q
theorem LC:OpR X (compareOp .Is) (fun x y H Q=>y= .non/\Q (.bl (decide (x= .non))) H):=by
 intro pins s σ H x y v u Q I rx ry h;obtain⟨rfl,q⟩:=h;cases ry;refine is_none_gen (CP I q ?_)
 cases x<;>first
  |(cases rx;rfl)
  |(obtain⟨t,rfl⟩:=rx;rfl)
theorem Hv:OpR X (compareOp .IsNot) (fun x y H Q=>y= .non/\Q (.bl (!decide (x= .non))) H):=by
 intro pins s σ H x y v u Q I rx ry h;obtain⟨rfl,q⟩:=h;cases ry;refine isnot_none_gen (CP I q ?_)
 cases x<;>first
  |(cases rx;rfl)
  |(obtain⟨t,rfl⟩:=rx;rfl)
theorem LK(b:gR){op:CmpOp}(h:op≠ .In:=by decide)(h2:op≠ .NotIn:=by decide):behindInMarks op b=false:=by
 have e1:(op==CmpOp.In)=false:=by cases op<;>first|rfl|exact absurd rfl h
 have e2:(op==CmpOp.NotIn)=false:=by cases op<;>first|rfl|exact absurd rfl h2
 cases b<;>simp[behindInMarks,e1,e2]
theorem NV{op:CmpOp}{r:R2}(ho:OpR X (compareOp op) r)(ha:PE X a ta)(hb:PE X b tb)(hm:behindInMarks op b=false):PE X (.Compare a [op] [b] pos) (tOp r ta tb):=by
 intro pins s σ H Q I h;exact wpAny_Compare1 (RJ ha hb I h fun v u s2 x y H2 I2 rx ry q=>ho pins s2 σ H2 x y v u Q I2 rx ry q) hm
def OL(t:TE):TT:=fun σ H Q=>t σ H fun x H'=> ∃k,x= .bl k/\Q k H'
theorem NF{op:CmpOp}{r:R2}(ho:OpR X (compareOp op) r)(ha:PE X a ta)(hb:PE X b tb)(hm:behindInMarks op b=false):PT X (.Compare a [op] [b] pos) (OL (tOp r ta tb)):=by
 intro pins s σ H Q I h
 refine wpAny_isTrue_Compare1 (thn (ha pins s σ H _ I h) fun v s1 ⟨x,H1,I1,r1,q1⟩=>thn (hb pins s1 σ H1 _ I1 q1) fun u s2 ⟨y,H2,I2,r2,q2⟩=>
  thn (ho pins s2 σ H2 x y v u _ I2 r1 r2 q2) fun c s3 ⟨z,H3,I3,r3,k,e,q3⟩=>?_) hm
 subst e;cases r3;exact uT ⟨H3,I3,q3⟩
def FG(r r':R2)(ta tb tc:TE):TE:=fun σ H Q=>ta σ H fun x H1=>tb σ H1 fun y H2=>r x y H2 fun z H3=> ∃k,z= .bl k/\
 (if k=true then tc σ H3 fun w' H4=>r' y w' H4 Q else Q (.bl false) H3)
theorem Lu{op n4:CmpOp}{r r':R2}(ho:OpR X (compareOp op) r)(ak:OpR X (compareOp n4) r')(ha:PE X a ta)(hb:PE X b tb)(hc:PE X c tc)
  (hm:lastMarks [op,n4] [b,c]=false:=by with_unfolding_all rfl):PE X (.Compare a [op,n4] [b,c] pos) (FG r r' ta tb tc):=by
 intro pins s σ H Q I h
 refine Compare_chain (thn (ha pins s σ H _ I h) fun v s1 ⟨x,H1,I1,r1,q1⟩=>chain_link (thn (hb pins s1 σ H1 _ I1 q1) fun u s2 ⟨y,H2,I2,r2,q2⟩=>
  thn (ho pins s2 σ H2 x y v u _ I2 r1 r2 q2) fun d s3 ⟨z,H3,I3,r3,k,e,q3⟩=>?_)) hm
 subst e;cases r3;refine uT ?_
 cases k with
 |false=>exact ite_ff ⟨.bl false,H3,I3,rfl,q3⟩
 |true=>exact ite_tt (chain_last (thn (hc pins s3 σ H3 _ I3 q3) fun w' s4 ⟨z',H4,I4,r4,q4⟩=>ak pins s4 σ H4 y z' u w' Q I4 r2 r4 q4))
theorem K5{op n4:CmpOp}{r r':R2}(ho:OpR X (compareOp op) r)(ak:OpR X (compareOp n4) r')(ha:PE X a ta)(hb:PE X b tb)(hc:PE X c tc)
  (hm:lastMarks [op,n4] [b,c]=false:=by with_unfolding_all rfl):PT X (.Compare a [op,n4] [b,c] pos) (OL (FG r r' ta tb tc)):=by
 intro pins s σ H Q I h
 refine isTrue_chain (thn (ha pins s σ H _ I h) fun v s1 ⟨x,H1,I1,r1,q1⟩=>test_link (thn (hb pins s1 σ H1 _ I1 q1) fun u s2 ⟨y,H2,I2,r2,q2⟩=>
  thn (ho pins s2 σ H2 x y v u _ I2 r1 r2 q2) fun d s3 ⟨z,H3,I3,r3,k,e,q3⟩=>?_)) hm
 subst e;cases r3;refine uT ?_
 cases k with
 |false=>
  obtain⟨k',e',q'⟩:=q3;cases e';exact ite_ff ⟨H3,I3,q'⟩
 |true=>
  refine ite_tt (test_last (thn (hc pins s3 σ H3 _ I3 q3) fun w' s4 ⟨z',H4,I4,r4,q4⟩=>thn (ak pins s4 σ H4 y z' u w' _ I4 r2 r4 q4) fun d' s5 ⟨z2,H5,I5,r5,k2,e2,q5⟩=>?_));subst e2;cases r5;exact uT ⟨H5,I5,q5⟩
theorem CG:(sizeLine:Nat)<2^63:=by rw[iQ];decide
theorem F9:OpR X (binaryOp .Add) (fun x y H Q=> ∃i j,x= .str i/\y= .str j/\i.length+j.length<=sizeLine/\Q (.str (i++j)) H):=by
 intro pins s σ H x y v u Q I rx ry h;obtain⟨i,j,rfl,rfl,hz,q⟩:=h;obtain⟨t,rfl⟩:=rx;obtain⟨t',rfl⟩:=ry;exact add_str (fun t' tk=>⟨.str (i++j),H,I.tok _,⟨_,rfl⟩,q⟩) hz
theorem uX{x:V}{us:iV}(r:Vals [x] us): ∃u,us=[u]/\RelV x u:=by
 cases r with
 |cons r1 r2=>cases r2;exact⟨_,rfl,r1⟩
theorem Dm{x y:V}{us:iV}(r:Vals [x,y] us): ∃u w',us=[u,w']/\RelV x u/\RelV y w':=by
 cases r with
 |cons r1 r2=>
  cases r2 with
  |cons r3 r4=>cases r4;exact⟨_,_,rfl,r1,r3⟩
theorem Mu:jB X (.builtin "abs") (fun xs H Q=> ∃i,xs=[.int i]/\Q (.int (if i<0 then -i else i)) H):=by
 intro pins s σ H xs us Q I r h;obtain⟨i,rfl,q⟩:=h;obtain⟨u,rfl,t,rfl⟩:=uX r;exact call_abs_int fun u tk=>⟨.int (if i<0 then -i else i),H,I.tok _,⟨_,rfl⟩,q⟩
theorem Jn(hc:X.calm=true):jB X (.builtin "max") (fun xs H Q=> ∃i j,xs=[.int i,.int j]/\Q (.int (if j>i then j else i)) H):=by
 intro pins s σ H xs us Q I r h;obtain⟨i,j,rfl,q⟩:=h;obtain⟨u,w',rfl,⟨t,rfl⟩,⟨t',rfl⟩⟩:=Dm r;refine max_two_ints (I.ok.hd hc) fun h' tk k=>⟨_,H,I.kept k,?_,q⟩
 by_cases hj:j>i
 ·rw[gG hj,gG hj];exact⟨_,rfl⟩
 ·rw[gJ hj,gJ hj];exact⟨_,rfl⟩
theorem Jm(hc:X.calm=true):jB X (.builtin "min") (fun xs H Q=> ∃i j,xs=[.int i,.int j]/\Q (.int (if j<i then j else i)) H):=by
 intro pins s σ H xs us Q I r h;obtain⟨i,j,rfl,q⟩:=h;obtain⟨u,w',rfl,⟨t,rfl⟩,⟨t',rfl⟩⟩:=Dm r;refine min_two_ints (I.ok.hd hc) fun h' tk k=>⟨_,H,I.kept k,?_,q⟩
 by_cases hj:j<i
 ·rw[gG hj,gG hj];exact⟨_,rfl⟩
 ·rw[gJ hj,gJ hj];exact⟨_,rfl⟩
theorem Be:jB X (.type "int") (fun xs H Q=>(∃i,xs=[.int i]/\Q (.int i) H)\/ ∃k,xs=[.bl k]/\Q (.int (if k then 1 else 0)) H):=by
 intro pins s σ H xs us Q I r h;rcases h with⟨i,rfl,q⟩|⟨k,rfl,q⟩
 ·obtain⟨u,rfl,t,rfl⟩:=uX r;exact call_int_int ⟨.int i,H,I,⟨_,rfl⟩,q⟩
 ·obtain⟨u,rfl,r1⟩:=uX r;cases r1;exact call_int_bool ⟨.int (if k then 1 else 0),H,I.tok _,⟨_,rfl⟩,q⟩
end
structure ObjM(h:hV)(x dx C:gz)(mA:lu):Prop where
 obj:h.get? x=some (PySem.W.instObj C dx)
 ns:h.Ns1 dx mA
 ne:dx≠x
section
variable {prog:hW}{w:gU}{A:gZ}{E:il}{s:gC}{K:hG}{x dx C f:gz}{mA:lu}{name:Str}{v:gQ}
end
theorem RelO.some_of{v:V}{o:Option Value}(r:RelO (some v) o): ∃u,o=some u/\RelV v u:=by
 cases o with
 |none=>exact(show False from r).elim
 |some u=>exact⟨u,rfl,r⟩
section
variable {P:hW}{w:gU}{H H':Hp}{h h':hV}{a C dx:gz}{fs gh:List (Str×V)}
theorem ins_get(hok:HOk P w H h)(e:H a=some (.ins C dx fs)): ∃mA,ObjM h a dx C mA/\(∀f,RelO (fs.lookup f) (mA f))/\PySem.Within mA (fs.map (·.1))/\fs.length<=1000/\H dx=some (.own a):=by
 obtain⟨d,z,ne,ob,mA,n,r,q⟩:=(show ObjOk P w H h a (.ins C dx fs) from hok a _ e)
 exact⟨mA,⟨ob,n,ne⟩,r,q,z,d⟩
end
section
variable {X:Cx}{pins:iq}{σ:St}{H:Hp}{s:gC}{a C dx:gz}{fs:List (Str×V)}{f:Str}{v:V}{A:gZ}{E:il}
end
section
variable {X:Cx}{o e value:gR}{f:Str}{pos pos' aa:Pos}{ta tv:TE}
end
section
variable {X:Cx}{pins:iq}{σ:St}{H:Hp}{s:gC}{A:gZ}{E:il}{Q:il}{c:gQ}{b:Bool}
end
structure Room(k:Nat)(A:gZ):Prop where
 hd:A.handled=none
 dp:A.depth+3*k+5<recursionLimit
 un:A.units+16*k+200<cLine
theorem Room.mono{j k:Nat}{A:gZ}(r:Room k A)(h:j<=k):Room j A:=⟨r.hd,by have:=r.dp;omega,by have:=r.un;omega⟩
theorem Room.deeper{k:Nat}{A:gZ}(r:Room (k+1) A)(env:Env):Room k (A.deeper env):=
 ⟨r.hd,by have:=r.dp;show A.depth+1+3*k+5<_;omega,by have:=r.un;show A.units+3+16*k+200<_;omega⟩
theorem Room.depth{k:Nat}{A:gZ}(r:Room k A):A.depth<recursionLimit:=by have:=r.dp;omega
noncomputable def Ug:TA:=fun _ H Q=>Q [] H
noncomputable def Sd(ta:TE)(tr:TA):TA:=fun σ H Q=>ta σ H fun x H1=>tr σ H1 fun xs H2=>Q (x::xs) H2
section
variable {X:Cx}{e:gR}{es:jF}{te:TE}{t:TA}{pos:Pos}
theorem ur:PA X [] Ug:=fun _ _ _ _ H Q I h=>Calls.spliced_nil ⟨[],H,I,.nil,h⟩
theorem oA(ha:PE X e te)(hr:PA X es t)(hs:starEach (e::es) X.env=(false,eval e X.env)::starEach es X.env:=by rfl):PA X (e::es) (Sd te t):=by
 intro pos pins s σ H Q I h;rw[hs];show wpAny _ _ (spliced ((false,eval e X.env)::backTo pos (starEach es X.env))) _ _ s;refine Calls.spliced_cons (thn (ha pins s σ H _ I h) fun u s1 ⟨x,H1,I1,r1,q1⟩=>?_);exact thn (hr pos pins s1 σ H1 _ I1 q1) fun us s2 ⟨xs,H2,I2,r2,q2⟩=>⟨x::xs,H2,I2,.cons r1 r2,q2⟩
noncomputable def Uc(t:TA):TE:=fun σ H Q=>t σ H fun xs H1=>xs.length<=sizeLine/\ ∀p,H1 p=none->Q (.ref p) (upd H1 p (.tup xs))
noncomputable def Uh(t:TA):TE:=fun σ H Q=>t σ H fun xs H1=>xs.length<=sizeLine/\ ∀p,H1 p=none->Q (.ref p) (upd H1 p (.lst xs))
theorem QE{x1}(h:PA X es t):PE X (.Tuple es x1 pos) (Uc t):=by
 intro pins s σ H Q I hq;refine wpAny_Tuple_spliced (thn (h pos pins s σ H _ I hq) fun us s1 ⟨xs,H1,I1,r,z,q⟩=>⟨by rw[<-r.length];exact z,?_⟩);have hf:H1 s1.heap.objs.size=none:=I1.hok.fresh (ir _);refine⟨.ref s1.heap.objs.size,upd H1 s1.heap.objs.size (.tup xs),I1.laid (t':=s1.toks) (fun b u e=>iF _ e) (ir _) ?_,rfl,q _ hf⟩;exact⟨z,us,r,⟨_,jG _ rfl,rfl,_,rfl⟩⟩
theorem QN(h:PA X es t):PE X (.List es pos) (Uh t):=by
 intro pins s σ H Q I hq;refine wpAny_List_spliced (thn (h pos pins s σ H _ I hq) fun us s1 ⟨xs,H1,I1,r,z,q⟩=>⟨by rw[<-r.length];exact z,?_⟩);have hf:H1 s1.heap.objs.size=none:=I1.hok.fresh (ir _);refine⟨.ref s1.heap.objs.size,upd H1 s1.heap.objs.size (.lst xs),I1.laid (t':=s1.toks) (fun b u e=>iF _ e) (ir _) ?_,rfl,q _ hf⟩;exact⟨z,us,0,r,jG _ rfl⟩
end
abbrev Sp:=List V->Hp->VK->XK->Prop
abbrev CXT:=List Env->Hp->Shared->XK->Value->Shared->Prop
structure Env0(P:hW)(w:gU)(K:hG)(mg:lu)(base:hV)(A:gZ)(outer:List Env)(s:gC)(H:Hp):Prop where
 frames:A.frames=some outer
 mod:Mod K mg base
 bs: ∀b o,base.get? b=some o->s.heap.get? b=some o/\H b=none
 bsz:base.objs.size<=s.heap.objs.size
 funs:s.heap.FunFrames base outer
 frf: ∀b∈frs outer,H b=none
 hok:HOk P w H s.heap
 bare:AllBare s.gens
def CE(outer:List Env)(P:hW)(w:gU)(H:Hp)(s:gC)(Q:VK)(u:gQ)(s':gC):Prop:=
 ∃v H',s'.os=s.os/\AllBare s'.gens/\Un (frs outer) [] H H' s.heap s'.heap/\HOk P w H' s'.heap/\RelV v u/\Q v H'
def CR(CX:CXT)(outer:List Env)(P:hW)(w:gU)(H:Hp)(s:gC)(Q:VK)(E:XK)(r:Result)(s':gC):Prop:=
 match r with
 | .ok (.ret u)=>CE outer P w H s Q u s'
 | .ok _=>False
 | .error e=>CX outer H s E e s'
structure FnOk(P:hW)(w:gU)(K:hG)(mg:lu)(base:hV)(CX:CXT)(k:Nat)(f:gz)(fd:og)(ps:iK)(sp:Sp):Prop where
 len: ∀vs H Q E,sp vs H Q E->vs.length=ps.length
 run: ∀(A:gZ) (outer:List Env) (s:gC) (H:Hp) (args:Args) (us:iV) (vs:List V) (Q:VK) (E:XK),Room k A->Env0 P w K mg base A outer s H->BindsTo s fd args (ps.zip us)->Vals vs us->sp vs H Q E->
  codeAny (model P w) A (.call (.ref f) args) (CR CX outer P w H s Q E) s
theorem FnOk.mono{P:hW}{w:gU}{K:hG}{mg:lu}{base:hV}{CX:CXT}{j k:Nat}{f:gz}{fd:og}{ps:iK}{sp:Sp}(F:FnOk P w K mg base CX j f fd ps sp)(h:j<=k):
  FnOk P w K mg base CX k f fd ps sp:=⟨F.len,fun A outer s H args us vs Q E hr=>F.run A outer s H args us vs Q E (hr.mono h)⟩
section
variable {X:Cx}{pins:iq}{σ:St}{H:Hp}{s s':gC}
theorem Inv.env0(I:Inv X pins σ H s):Env0 X.prog X.w X.K X.mg X.base X.A X.stack s H:=
 ⟨I.ok.frames,I.ok.mod,I.bs,nF I.ok.bsz I.sz,I.stack,I.stkFree,I.hok,I.bare⟩
theorem Inv.after{Q:VK}{u:gQ}(I:Inv X pins σ H s)(h:CE X.stack X.prog X.w H s Q u s'):EP X pins σ Q u s':=by
 obtain⟨v,H',os,bare,un,hok,r,q⟩:=h;obtain⟨hh,g,d,t,cx⟩:=s';obtain rfl:cx=s.os:=os;exact⟨v,H',I.call (h':=hh) (g':=g) (d':=d) (t':=t) (ch:=[]) un hok bare (fun b z=>absurd z (by simp)),r,q⟩
end
noncomputable def Se(sp:Sp)(ck:List V)(E:XK)(t:TA):TE:=fun σ H Q=>t σ H fun vs H1=>sp (vs++ck) H1 Q E
def Binds(K:hG)(fd:og)(ps:iK)(ds:iV):Prop:=
 ∀(s:gC) (us:iV),K.In s.heap->(us++ds).length=ps.length->BindsTo s fd ⟨us,[]⟩ (ps.zip (us++ds))
theorem Binds.all{K:hG}{fd:og}{ps:iK}(h: ∀us:List Value,us.length=ps.length->bindArgs fd ⟨us,[]⟩=pure (ps.zip us)):Binds K fd ps []:=fun s us _ hl=>by
 rw[qF] at hl ⊢;exact .of_eq (h us hl)
def GZ(CX:CXT)(X:Cx)(E:XK):Prop:= ∀(pins:iq) (σ:St) (H:Hp) (s:gC) (e:gQ) (s':gC),Inv X pins σ H s->CX X.stack H s E e s'->X.xe e s'
section
variable {X:Cx}{CX:CXT}{k:Nat}{f C:gz}{fd:og}{ps:iK}{sp:Sp}{ck:List V}{ds:iV}{E:XK}{x m:Str}{p pos apos:Pos}{e o:gR}{es:jF}{ta:TE}{t:TA}
theorem PR{pins:iq}{σ:St}{H:Hp}{s:gC}{Q:VK}{us:iV}{vs:List V}(F:FnOk X.prog X.w X.K X.mg X.base CX k f fd ps sp)(hr:Room k X.A)(hb:Binds X.K fd ps ds)(hd:Vals ck ds)(hx:GZ CX X E)
  (I:Inv X pins σ H s)(r:Vals vs us)(h:sp (vs++ck) H Q E):wpAny (model X.prog X.w) X.A (call (.ref f) us) (EP X pins σ Q) X.xe s:=by
 have r2:Vals (vs++ck) (us++ds):=r.append hd;have hl:(us++ds).length=ps.length:=by rw[<-r2.length];exact F.len _ _ _ _ h
 refine wpAny_call (qE (F.run X.A X.stack s H ⟨us,[]⟩ (us++ds) (vs++ck) Q E hr I.env0 (hb s us I.kIn hl) r2 h) fun r s' hq=>?_)
 cases r with
 |error e=>exact hx pins σ H s e s' I hq
 |ok fl=>
  cases fl with
  |ret u=>exact I.after hq
  |next=>exact False.elim hq
  |brk=>exact False.elim hq
  |cont=>exact False.elim hq
theorem NW(F:FnOk X.prog X.w X.K X.mg X.base CX k f fd ps sp)(hr:Room k X.A)(hg:Gl X x)(hm:X.mg x=some (.ref f))(hk:PySem.W.keepIn X.K (.ref f)=true)(hb:Binds X.K fd ps ds)(hd:Vals ck ds)(hx:GZ CX X E)
  (ha:PA X (e::es) t)(p9:(x==("__debug__":Str))=false:=by decide)(he:starEach (e::es) X.env=(false,eval e X.env)::starEach es X.env:=by rfl)(j7:(backTo pos (starEach es X.env)).any (·.1)=false:=by rfl):
  PE X (.Call (.Name x p) (e::es) [] pos) (Se sp ck E t):=by
 intro pins s σ H Q I h;refine BX (HD I hg hm ?_ p9);refine PySem.W.callWith_K (h₀:=X.base) I.ok.mod.kin hk (thn (ha pos pins s σ H _ I h) fun us s1 ⟨vs,H1,I1,r,q⟩=>⟨I1.kIn,?_⟩) he j7;exact PR F hr hb hd hx I1 r q
end
section
variable {X:Cx}{CX:CXT}{k:Nat}{f C:gz}{fd:og}{ps ks:iK}{sp:Sp}{E:XK}{x m:Str}{p pos apos kpos:Pos}{e o:gR}{es:jF}{kws:List Keyword}{te ta:TE}{t tk:TA}{nm:Option Str}
variable {g:List Value->List Value->List Value}{gV:List V->List V->List V}
end
structure FnScope(N P:iK)(sc:jV):Prop where
 kind:sc.kind= .function
 co:sc.isCoroutine=false
 gen:sc.isGenerator=false
 nd:N.Nodup
 pre:N.take P.length=P
 par: ∀x∈P,sc.names.lookup x=some .local\/sc.names.lookup x=some .cell
 nofree: ∀y∈sc.names,y.2≠ .free
theorem Bg{kindOf:Str->Option NameKind}{x:Str}: ∀{binds:List (Str×Value)} {m:lu},(∀v,(x,v)∉binds)->bindL kindOf binds m x=m x
 |[],_,_=>rfl
 |(n,v)::r,m,h=>by
  unfold bindL;rw[Bg fun w hw=>h w (je _ hw)];split
  ·have:x≠n:=by rintro rfl;exact h v iX
   simp[this]
  ·rfl
theorem Bi{kindOf:Str->Option NameKind}{x:Str}: ∀{binds:List (Str×Value)} {m:lu},(∀v,(x,v)∉binds)->bindC kindOf binds m x=m x
 |[],_,_=>rfl
 |(n,v)::r,m,h=>by
  unfold bindC;rw[Bi fun w hw=>h w (je _ hw)];split
  ·rfl
  ·have:x≠n:=by rintro rfl;exact h v iX
   simp[this]
theorem Bh{kindOf:Str->Option NameKind}{x:Str}{v:gQ}: ∀{P:iK} {vs:iV} {i:Nat} {m:lu},P.Nodup->P[i]?=some x->vs[i]?=some v->kindOf x=some .local->
  bindL kindOf (P.zip vs) m x=some v
 |[],_,_,_,_,h,_,_=>by simp at h
 |_::_,[],_,_,_,_,h,_=>by simp at h
 |p::P,w::vs,0,m,nd,h1,h2,hk=>by
  simp at h1 h2;subst h1;subst h2;show bindL kindOf ((p,w)::P.zip vs) m p=_;unfold bindL;rw[Bg fun v hv=>(J6.mp nd).1 (Fu hv).1,gG hk];simp
 |p::P,w::vs,i+1,m,nd,h1,h2,hk=>by
  show bindL kindOf ((p,w)::P.zip vs) m x=_;unfold bindL;exact Bh (i:=i) (J6.mp nd).2 (by simpa using h1) (by simpa using h2) hk
theorem Bj{kindOf:Str->Option NameKind}{x:Str}{v:gQ}: ∀{P:iK} {vs:iV} {i:Nat} {m:lu},P.Nodup->P[i]?=some x->vs[i]?=some v->kindOf x≠some .local->
  bindC kindOf (P.zip vs) m x=some v
 |[],_,_,_,_,h,_,_=>by simp at h
 |_::_,[],_,_,_,_,h,_=>by simp at h
 |p::P,w::vs,0,m,nd,h1,h2,hk=>by
  simp at h1 h2;subst h1;subst h2;show bindC kindOf ((p,w)::P.zip vs) m p=_;unfold bindC;rw[Bi fun v hv=>(J6.mp nd).1 (Fu hv).1,gJ hk];simp
 |p::P,w::vs,i+1,m,nd,h1,h2,hk=>by
  show bindC kindOf ((p,w)::P.zip vs) m x=_;unfold bindC;exact Bj (i:=i) (J6.mp nd).2 (by simpa using h1) (by simpa using h2) hk
noncomputable def qi(N:iK)(vs:List V):St:=vs.map some++List.replicate (N.length-vs.length) none
noncomputable def En(CX:CXT)(P:hW)(w:gU)(K:hG)(mg:lu)(base:hV)(N:iK)(qual:Str)(scope:jV)(f:gz)(cd:gQ)(A:gZ)(outer:List Env)(s:gC)(H:Hp)(E:XK):Cx where
 prog:=P
 w:=w
 K:=K
 mg:=mg
 base:=base
 A:=A.deeper (envOfC qual scope s.heap.objs.size f cd)
 N:=N
 s₀:=s
 H₀:=H
 env:=envOfC qual scope s.heap.objs.size f cd
 outer:=outer
 stack:=envOfC qual scope s.heap.objs.size f cd::outer
 ex:=[]
 calm:=true
 fn:=fun _=>true
 pn:=[]
 xe:=fun e s'=>wpAny (model P w) (A.deeper (envOfC qual scope s.heap.objs.size f cd)) (leaving (envOfC qual scope s.heap.objs.size f cd) e) (fun _ bV=>CX outer H s E e bV) (fun e' bV=>CX outer H s E e' bV) s'
theorem Ew{sc:jV}{n:Nat}{x:Str}(h:sc.names.lookup x=some .cell): ∃c,(cellsFrom n sc.names []).lookup x=some c:=by
 have q:=J2 sc.names n [] (.inl h);exact J8.mp q
theorem Jf{CX:CXT}{P:hW}{w:gU}{K:hG}{mg:lu}{base:hV}{N ps:iK}{qual:Str}{scope:jV}{f:gz}{cd:gQ}{A:gZ}{outer:List Env}{s s1:gC}{H:Hp}{E:XK}{us:iV}{vs:List V}
  (S:FnScope N ps scope)(hd:A.handled=none)(e0:Env0 P w K mg base A outer s H)(hl:vs.length=ps.length)(r:Vals vs us)
  (x:InCallC s s.heap.objs.size (bindL (envOfC qual scope s.heap.objs.size f cd).kindOf (ps.zip us) fun _=>none) (cellsFrom (s.heap.objs.size+1) scope.names []) (bindC (envOfC qual scope s.heap.objs.size f cd).kindOf (ps.zip us) fun _=>none) s1):
  Inv (En CX P w K mg base N qual scope f cd A outer s H E) [] (qi N vs) H s1:=by
 have j7:ps.length<=N.length:=by have:=pZ List.length S.pre;rw[pY] at this;omega
 obtain⟨h1,tk,rfl,hk⟩:=x.done;have dJ: ∀b:Addr,b∉(En CX P w K mg base N qual scope f cd A outer s H E).ex:=fun b z=>absurd (show b∈([]:List Addr) from z) (by simp)
 refine⟨⟨e0.mod,S.kind,rfl,rfl,ir _,fun y z c h1 h2=>?_,fun y hy=>?_,fun y c _ h=>?_,fun _=>hd,Around.frames_deeper e0.frames,.inr ⟨rfl,rfl⟩,fun b z=>absurd z (dJ b),e0.bs,e0.bsz,fun b _ _=>dJ b,fun b z=>absurd z (dJ b),e0.funs,e0.frf⟩,
  rfl,e0.bare,Un.kept hk,⟨_,x.toInCall.ns,fun i y v h1 h2 h3=>?_⟩,fun y c h=>⟨_,x.cell y c h⟩,e0.hok.fresh (ir _),fun y c h=>?_,fun p hp=>absurd (show p∈([]:List (Addr×Obj)) from hp) (by simp),e0.hok.kept hk,?_⟩
 ·exact name_of_addr x.apart (uf h1) (uf h2)
 ·have hy:scope.names.lookup y=some .cell\/scope.names.lookup y=some .free:=hy;rcases hy with hy|hy
  ·exact Ew hy
  ·exact absurd rfl (S.nofree _ (uf hy))
 ·exact B6 (x.above y c (uf h))
 ·have hi:i<vs.length:=by
   unfold qi at h2;by_cases hi:i<vs.length
   ·exact hi
   ·rw[wx (by simpa using hi)] at h2;rw[List.getElem?_replicate] at h2;split at h2<;>cases h2
  have ha:vs[i]?=some v:=by
   unfold qi at h2;rw[yy (by simpa using hi),lh] at h2
   cases e:vs[i]? with
   |none=>rw[e] at h2;cases h2
   |some a=>rw[e] at h2;cases h2;rfl
  obtain⟨u,hu,rv⟩:=r.get ha
  have hp:ps[i]?=some y:=by
   rw[<-S.pre,J1 (by omega)];exact h1
  have ndP:ps.Nodup:=by rw[<-S.pre];exact S.nd.sublist (mP _ _)
  refine⟨u,rv,?_⟩;rcases S.par y (mO hp) with k|k
  ·exact .inl ⟨k,Bh ndP hp hu k⟩
  ·obtain⟨c,e⟩:=Ew (n:=s.heap.objs.size+1) k;refine .inr ⟨.inl k,c,e,?_⟩;have q:=x.cell y c e;rw[Bj ndP hp hu (by show scope.names.lookup y≠_;rw[k];decide)] at q;exact q
 ·exact e0.hok.fresh (B6 (x.above y c (uf h)))
 ·unfold qi;show _=N.length;rw[mq,jj,List.length_replicate];omega
theorem Th{CX:CXT}{P:hW}{w:gU}{K:hG}{mg:lu}{base:hV}{k:Nat}{f:gz}{name qual:Str}{params:Arguments}{body:List Stmt}{scope:jV}{dV kV doc pm h8 ct oc:gQ}{an od:Option Addr}
  {aT:xa}{N ps:iK}{sp:Sp}(lk:K.lookup f=some ⟨oc,od,.func (PySem.W.fnOf name qual params body scope dV kV doc pm an h8 ct),aT⟩)(y7:PySem.W.codeIn K h8 qual=true)(S:FnScope N ps scope)
  (len: ∀vs H Q E,sp vs H Q E->vs.length=ps.length)
  (y8: ∀(A:gZ) (outer:List Env) (s:gC) (H:Hp) (vs:List V) (Q:VK) (E:XK),Room k (A.deeper (envOfC qual scope s.heap.objs.size f h8))->sp vs H Q E->
   ∃t,PSs (En CX P w K mg base N qual scope f h8 A outer s H E) body t/\t {nx:=fun _ H'=>Q .non H',rt:=Q} (qi N vs) H):
  FnOk P w K mg base CX (k+1) f (PySem.W.fnOf name qual params body scope dV kV doc pm an h8 ct) ps sp:=by
 refine⟨len,fun A outer s H args us vs Q E hr e0 hb r bZ=>?_⟩;have hl:=len _ _ _ _ bZ;have KX:K.In s.heap:=e0.mod.kin.keeps fun b o e=>(e0.bs b o e).1;have lim:s.heap.NoLimit:=e0.mod.nolimit.keeps fun b o e=>(e0.bs b o e).1
 have hkind: ∀y∈ps.zip us,scope.names.lookup y.1=some .local\/(scope.names.lookup y.1=some .cell/\((cellsFrom (s.heap.objs.size+1) scope.names []).lookup y.1).isSome=true):=fun⟨n,v⟩ hy=>by
  rcases S.par n (Fu hy).1 with q|q
  ·exact .inl q
  ·exact .inr ⟨q,J2 _ _ _ (.inl q)⟩
 refine codeAny_call_function hr.depth (KX _ _ lk) rfl S.co S.gen rfl (PySem.W.codeRec_of KX y7) (hb _ _ _ _ ?_);refine wpAny_newFunctionEnv_cells S.kind hkind fun env he s1 x=>?_;subst he;refine⟨lim.keeps x.toInCall.keep,codeAny_func ?_⟩;obtain⟨t,ht,hq⟩:=y8 A outer s H vs Q E (hr.deeper _) bZ;have I:Inv (En CX P w K mg base N qual scope f h8 A outer s H E) [] (qi N vs) H s1:=Jf S hr.hd e0 hl r x;refine qa (ht [] s1 (qi N vs) H _ I hq) (fun fl s' hs=>?_) fun e s' hs=>hs
 have fin: ∀{σ':St} {H':Hp} {v:V} {u:gQ},Inv (En CX P w K mg base N qual scope f h8 A outer s H E) [] σ' H' s'->RelV v u->Q v H'->CE outer P w H s Q u s':=
  fun {σ' H' v u} J rv q=>⟨v,H',J.os,J.bare,J.base,J.hok,rv,q⟩
 cases fl with
 |ret u=>
  obtain⟨v,σ',H',J,rv,q⟩:=hs;exact fin J rv q
 |next=>
  obtain⟨σ',H',J,q⟩:=hs;exact fin (v:=V.non) (u:=Value.none) J rfl q
 |brk=>
  obtain⟨_,_,_,q⟩:=hs;exact False.elim q
 |cont=>
  obtain⟨_,_,_,q⟩:=hs;exact False.elim q
section
variable {X:Cx}{x:Str}{p pos:Pos}{e:gR}{es:jF}{t:TA}{id T:String}{r:List V->Hp->VK->Prop}
def tCB(r:List V->Hp->VK->Prop)(t:TA):TE:=fun σ H Q=>t σ H fun vs H1=>r vs H1 Q
theorem DP(hc:jB X (.builtin id) r)(hg:Gl X x)(hm:X.mg x=none)(hv:bootBuiltins x=some (.builtin id))(ha:PA X (e::es) t)(hn:x≠"__name__":=by decide)(p9:(x==("__debug__":Str))=false:=by decide)
  (he:starEach (e::es) X.env=(false,eval e X.env)::starEach es X.env:=by rfl)(j7:(backTo pos (starEach es X.env)).any (·.1)=false:=by rfl):PE X (.Call (.Name x p) (e::es) [] pos) (tCB r t):=by
 intro pins s σ H Q I h;refine BX (wK I hg hm hv ?_ hn p9);exact PyProof.Rows.callWith_builtin1 (thn (ha pos pins s σ H _ I h) fun us s1 ⟨vs,H1,I1,r1,q1⟩=>hc pins s1 σ H1 vs us Q I1 r1 q1) he j7
theorem pe(hc:jB X (.type T) r)(hg:Gl X x)(hm:X.mg x=none)(hv:bootBuiltins x=some (.type T))(ha:PA X (e::es) t)(hn:x≠"__name__":=by decide)(p9:(x==("__debug__":Str))=false:=by decide)
  (he:starEach (e::es) X.env=(false,eval e X.env)::starEach es X.env:=by rfl)(j7:(backTo pos (starEach es X.env)).any (·.1)=false:=by rfl):PE X (.Call (.Name x p) (e::es) [] pos) (tCB r t):=by
 intro pins s σ H Q I h;refine BX (wK I hg hm hv ?_ hn p9);exact BY (thn (ha pos pins s σ H _ I h) fun us s1 ⟨vs,H1,I1,r1,q1⟩=>hc pins s1 σ H1 vs us Q I1 r1 q1) he j7
end
end L2
namespace HT
open PySem PyProof.Rows
section
open PySem.SeqAt
open PySem.AutoSeq1 (wpAny_loadPart')
open PySem.MeetsSeq PySem.MeetsSeq2 PySem.MeetsSeq3
end
section
variable {prog:hW}{w:gU}{A:gZ}{E:il}{s:gC}
theorem Tt{t b:gz}{vs ws:iV}{Q:il}(ht:IsTup s.heap t vs.toArray)(hb:IsTup s.heap b ws.toArray)(hv:vs≠[])
  (h1:ws=[]->Q (.ref t) s)(h2:ws≠[]->Q (.ref s.heap.objs.size) {s with heap:=s.heap.push {cls:= .type "tuple",data:= .seq (vs++ws).toArray}})
  (hsz:vs.length+ws.length<=sizeLine):wpAny (model prog w) A (binaryOp .Add (.ref t) (.ref b)) Q E s:=by
 obtain⟨⟨cls,dd,data,sl⟩,ho,hc,n,hd⟩:=id ht;obtain⟨⟨cZ,v9,data2,v7⟩,u2,aG,n2,hd2⟩:=id hb;simp only at hc hd aG hd2;subst hc hd aG hd2;have e:vs.toArray++ws.toArray=(vs++ws).toArray:=by simp
 by_cases hw:ws=[]
 ·exact BW ⟨_,ho,rfl⟩ ⟨_,u2,rfl⟩ Ft Fs Fq Fp (Fo _ _)
   (tuple_addW1 t b vs.toArray ws.toArray n n2 dd v9 sl v7 (by simpa using hv) (by simp[hw])) ⟨ho,u2,h1 hw⟩
 ·refine BW ⟨_,ho,rfl⟩ ⟨_,u2,rfl⟩ Ft Fs Fq Fp (Fo _ _)
   (tuple_addW2 t b vs.toArray ws.toArray n n2 dd v9 sl v7 (by simpa using hv) (by simpa using hw) (by rw[iD,iD];exact hsz)) ⟨ho,u2,?_⟩
  rw[e];exact h2 hw
noncomputable def sIx(n d:Nat):Option Int->Nat
 |none=>d
 |some v=>if v<0 then(v+(n:Int)).toNat else min v.toNat n
theorem M7(n d:Nat):sIx n d none=d:=rfl
theorem OP(n d k:Nat):sIx n d (some (k:Int))=min k n:=by
 show(if(k:Int)<0 then((k:Int)+(n:Int)).toNat else min (k:Int).toNat n)=min k n;rw[gJ (by omega),qt]
theorem PQ(n d:Nat)(hd:d<=n)(o:Option Int):sIx n d o<=n:=by
 cases o with
 |none=>exact hd
 |some v=>
  show(if v<0 then(v+(n:Int)).toNat else min v.toNat n)<=n;by_cases hv:v<0
  ·rw[gG hv];omega
  ·rw[gJ hv];exact Nat.min_le_right _ _
theorem HQ(v:Int)(n d:Nat):(if v<0 then max (v+(n:Int)) 0 else min v (n:Int))=((sIx n d (some v):Nat):Int):=by
 show(if v<0 then max (v+(n:Int)) 0 else min v (n:Int))=(((if v<0 then(v+(n:Int)).toNat else min v.toNat n):Nat):Int)
 by_cases hv:v<0
 ·simp only[gG hv];omega
 ·simp only[gJ hv];omega
theorem GW(lo hi:Option Int)(n:Nat):Builtin.Slice.sliceAdjust lo hi 1 (n:Int)=(((sIx n 0 lo:Nat):Int),((sIx n n hi:Nat):Int)):=by
 have h1: ¬((1:Int)<0):=by omega
 unfold Builtin.Slice.sliceAdjust;simp only[h1,jb];refine Prod.ext ?_ ?_
 ·cases lo with
  |none=>rfl
  |some v=>exact HQ v n 0
 ·cases hi with
  |none=>rfl
  |some v=>exact HQ v n n
theorem F4(i j:Nat):Builtin.Slice.slicePlaces (i:Int) (j:Int) 1=j-i:=by
 unfold Builtin.Slice.slicePlaces;have h1:(1:Int)>0:=by omega
 simp only[h1,iE,Int.ediv_one];split<;>omega
theorem yK{v:gQ}{o:Option Int}{Q:Option Int->Shared->Prop}(p:IsPart v o)(h:Q o s):wpAny (model prog w) A (Builtin.Slice.slicePartIndex v) Q E s:=by
 cases p with
 |none=>exact slicePart_none h
 |int i t=>exact slicePart_int h
theorem oZ{sl:gz}{vl vu:gQ}{lo hi:Option Int}{n:Nat}{Q:Int×Int×Nat->Shared->Prop}(hs:s.heap.IsSliceOf sl vl vu .none)(pl:IsPart vl lo)(pu:IsPart vu hi)
  (h:Q (((sIx n 0 lo:Nat):Int),1,sIx n n hi-sIx n 0 lo) s):wpAny (model prog w) A (Builtin.Slice.sliceApplied (.ref sl) (pure (n:Int))) Q E s:=by
 obtain⟨os,bz,cS,dY⟩:=id hs;unfold Builtin.Slice.sliceApplied Builtin.Slice.sliceFields;refine gx (gx (nE bz dY (x:=vl) rfl (gx (nE bz dY (x:=vu) rfl (gx (nE bz dY (x:= .none) rfl (gO ?_)))))));refine gx (slicePart_none ?_);show wpAny _ _ (if((1:Int)==0)=true then _ else _) _ _ s;rw[gJ (by decide)];refine gx (yK pl (gx (yK pu (gx (gO ?_)))));show wpAny _ _ (match Builtin.Slice.sliceAdjust lo hi 1 (n:Int) with|(lo,hi)=>pure (lo,(1:Int),Builtin.Slice.slicePlaces lo hi 1)) _ _ s;rw[GW lo hi n];show wpAny _ _ (pure (((sIx n 0 lo:Nat):Int),(1:Int),Builtin.Slice.slicePlaces ((sIx n 0 lo:Nat):Int) ((sIx n n hi:Nat):Int) 1)) _ _ s;rw[F4];exact gO h
theorem Ll(xs:kz)(i k:Nat):((List.range k).filterMap fun(m:Nat)=>xs[((i:Int)+(m:Int)*1).toNat]?).toArray=((xs.toList.drop i).take k).toArray:=by
 have e:(fun(m:Nat)=>xs[((i:Int)+(m:Int)*1).toNat]?)=fun m=>xs[i+m]?:=by
  funext m;have:((i:Int)+(m:Int)*1).toNat=i+m:=by omega
  rw[this]
 rw[e];have:=pick_run xs i k;rw[List.filterMap_map] at this;have e2:((fun x=>xs[x]?)∘fun x=>i+x)=fun m=>xs[i+m]?:=rfl;rw[e2] at this;rw[this]
theorem Gs{t sl:gz}{items:kz}{vl vu:gQ}{lo hi:Option Int}{Q:il}(ht:IsTup s.heap t items)(hs:s.heap.IsSliceOf sl vl vu .none)(pl:IsPart vl lo)(pu:IsPart vu hi)
  (hw: ¬(sIx items.size 0 lo=0/\sIx items.size items.size hi=items.size))
  (h:Q (.ref s.heap.objs.size) {s with heap:=s.heap.push {cls:= .type "tuple",data:= .seq ((items.toList.drop (sIx items.size 0 lo)).take (sIx items.size items.size hi-sIx items.size 0 lo)).toArray}})
  (hsz:items.size<=sizeLine):wpAny (model prog w) A (getItem (.ref t) (.ref sl)) Q E s:=by
 have aq:sizeOk (.seq ((items.toList.drop (sIx items.size 0 lo)).take (sIx items.size items.size hi-sIx items.size 0 lo)).toArray):=by
  show((items.toList.drop (sIx items.size 0 lo)).take (sIx items.size items.size hi-sIx items.size 0 lo)).toArray.size<=sizeLine;rw[iD,pY,wu,jr];omega
 have hj:sIx items.size items.size hi<=items.size:=PQ _ _ (ir _) hi;obtain⟨os,bz,cS,dY⟩:=id hs;have gc:s.TypeIs (.ref sl) "slice":=⟨os,bz,cS⟩
 unfold getItem
 try with_reducible refine mQ ?_
 first|refine gx (gO ?_)|skip
 refine gx (wpAny_sequenceKey ht.typeIs (by decide) ?_)
 refine gx (sU (name:=Str.ofString "__getitem__") ht.typeIs Ab
  (nD Ab ht.typeIs JZ ?_ (args_tuple_getitem _ _)))
 show wpAny _ _ (Builtin.Tuple.tupleItemsOf (.ref t)>>=_) _ _ s;refine gx (tupleItemsOf_ ht ?_);refine gx (uS gc ?_);rw[gG (by decide)];refine gx (oZ hs pl pu ?_)
 have cb: ¬((((sIx items.size 0 lo:Nat):Int)==0&&(1:Int)==1&&(sIx items.size items.size hi-sIx items.size 0 lo)==items.size)=true):=by
  intro q;rw[lO,lO] at q;have q1:((sIx items.size 0 lo:Nat):Int)=0:=qD q.1.1;have q2:sIx items.size items.size hi-sIx items.size 0 lo=items.size:=qD q.2;exact hw ⟨by omega,by omega⟩
 show wpAny _ _ (if(((sIx items.size 0 lo:Nat):Int)==0&&(1:Int)==1&&(sIx items.size items.size hi-sIx items.size 0 lo)==items.size)=true then _ else _) _ _ s;rw[gJ cb,Ll]
 first
  |exact gx (m:=Builtin.Tuple.tupleExact _) (mn (gO ⟨_,rfl,gO h⟩) aq)
  |exact gx (m:=Builtin.Tuple.tupleExact _) (mn (gx (gO (gO ⟨_,rfl,gO h⟩))) aq)
  |exact gx (gx (m:=Builtin.Tuple.tupleExact _) (mn (gO (gO ⟨_,rfl,gO h⟩)) aq))
  |exact gx (gx (m:=Builtin.Tuple.tupleExact _) (mn (gO ⟨_,rfl,gO h⟩) aq))
end
end HT
namespace L2
open PySem PySem.Spec PyProof.Rows
abbrev TO:=St->Hp->(Option Int->Hp->Prop)->Prop
def PO(X:Cx)(e:Option Expr)(t:TO):Prop:=
 ∀(pins:iq) (s:gC) (σ:St) (H:Hp) (Q:Option Int->Hp->Prop),Inv X pins σ H s->t σ H Q->
  wpAny (model X.prog X.w) X.A (evalPart e X.env) (fun u s'=> ∃o H',Inv X pins σ H' s'/\IsPart u o/\Q o H') X.xe s
noncomputable def MZ:TO:=fun _ H Q=>Q none H
def R7(t:TE):TO:=fun σ H Q=>t σ H fun x H1=> ∃i,x= .int i/\Q (some i) H1
section
variable {X:Cx}{e:gR}{te:TE}{lo hi:Option Expr}{tl th:TO}{pos p2:Pos}
theorem Hq:PO X none MZ:=by
 intro pins s σ H Q I h;rw[evalPart_none];exact gO ⟨none,H,I,.none,h⟩
theorem Ho(h:PE X e te):PO X (some e) (R7 te):=by
 intro pins s σ H Q I hw;rw[evalPart_some];refine thn (h pins s σ H _ I hw) fun u s1 ⟨x,H1,I1,r1,q1⟩=>?_;obtain⟨i,rfl,q⟩:=q1;obtain⟨t,rfl⟩:=r1;exact⟨some i,H1,I1,.int i t,q⟩
def SlR(X:Cx)(r:V->Option Int->Option Int->Hp->VK->Prop):Prop:=
 ∀(pins:iq) (s:gC) (σ:St) (H:Hp) (x:V) (v vl vu:gQ) (lo hi:Option Int) (sl:gz) (Q:VK),Inv X pins σ H s->RelV x v->s.heap.IsSliceOf sl vl vu .none->IsPart vl lo->IsPart vu hi->r x lo hi H Q->
  ∃T id,typeLookup (.type T) "__getitem__"=pure (some (.builtin id))/\s.TypeIs v T/\wpAny (model X.prog X.w) X.A (getItem v (.ref sl)) (EP X pins σ Q) X.xe s
def tSl(r:V->Option Int->Option Int->Hp->VK->Prop)(te:TE)(tl th:TO):TE:=fun σ H Q=>te σ H fun x H1=>tl σ H1 fun l H2=>th σ H2 fun u H3=>r x l u H3 Q
theorem DO{r:V->Option Int->Option Int->Hp->VK->Prop}(hr:SlR X r)(he:PE X e te)(hl:PO X lo tl)(hu:PO X hi th):PE X (.Subscript e (.Slice lo hi none p2) pos) (tSl r te tl th):=by
 intro pins s σ H Q I h;refine Subscript_ (thn (he pins s σ H _ I h) fun v s1 ⟨x,H1,I1,r1,q1⟩=>?_);refine wpAny_Slice (thn (hl pins s1 σ H1 _ I1 q1) fun vl s2 ⟨l,H2,I2,pl,q2⟩=>thn (hu pins s2 σ H2 _ I2 q2) fun vu s3 ⟨u,H3,I3,pu,q3⟩=>?_);rw[evalPart_none];refine gO ?_;have I4:Inv X pins σ H3 {s3 with heap:=s3.heap.push {cls:= .type "slice",data:= .fields #[vl,vu,.none]}}:=I3.kept (t':=s3.toks) fun b ob q=>iF _ q;obtain⟨T,id,hT,ht,hg⟩:=hr pins {s3 with heap:=s3.heap.push {cls:= .type "slice",data:= .fields #[vl,vu,.none]}} σ H3 x v vl vu l u s3.heap.objs.size Q I4 r1 (Heap.IsSliceOf.new ..) pl pu q3;show wpAny (model X.prog X.w) X.A (subscriptTail e (.Slice lo hi none p2) v (.ref s3.heap.objs.size)) (EP X pins σ Q) X.xe {s3 with heap:=s3.heap.push {cls:= .type "slice",data:= .fields #[vl,vu,.none]}};exact tail_any (ops:=[.ref s3.heap.objs.size,v]) ht hT hg (by with_unfolding_all rfl)
noncomputable def Eo(xs:List V)(lo hi:Option Int):List V:=(xs.drop (HT.sIx xs.length 0 lo)).take (HT.sIx xs.length xs.length hi-HT.sIx xs.length 0 lo)
theorem xq(xs:List V)(lo hi:Option Int):(Eo xs lo hi).length<=xs.length:=by
 unfold Eo;rw[pY,wu];omega
def UX(K:hG):V->Option Int->Option Int->Hp->VK->Prop:=fun x lo hi H Q=> ∃a xs,x= .ref a/\SqT K H a xs/\
 ¬(HT.sIx xs.length 0 lo=0/\HT.sIx xs.length xs.length hi=xs.length)/\ ∀p,H p=none->Q (.ref p) (upd H p (.tup (Eo xs lo hi)))
theorem PL:SlR X (UX X.K):=by
 intro pins s σ H x v vl vu lo hi sl Q I rx hs pl pu h;obtain⟨a,xs,rfl,hx,hw,q⟩:=h;cases rx;obtain⟨b6,r,ht,hz⟩:=I.tuple hx;have hlen:b6.toArray.size=xs.length:=by rw[iD];exact r.length.symm
 refine⟨"tuple",_,Ab.lookup,ht.typeIs,?_⟩;refine HT.Gs ht hs pl pu (by rw[hlen];exact hw) ?_ (by rw[hlen];exact hz);rw[hlen];refine⟨.ref s.heap.objs.size,_,I.laid (t':=s.toks) (o:= .tup (Eo xs lo hi)) (fun b ob q=>iF _ q) (ir _) ?_,rfl,q _ (I.hok.fresh (ir _))⟩;exact⟨nF (xq xs lo hi) hz,_,(r.drop (HT.sIx xs.length 0 lo)).take (HT.sIx xs.length xs.length hi-HT.sIx xs.length 0 lo),BV _ _⟩
def Sv(K:hG):R2:=fun x y H Q=> ∃a b xs ys,x= .ref a/\y= .ref b/\SqT K H a xs/\SqT K H b ys/\xs≠[]/\xs.length+ys.length<=sizeLine/\
 (ys=[]->Q (.ref a) H)/\(ys≠[]-> ∀p,H p=none->Q (.ref p) (upd H p (.tup (xs++ys))))
theorem Vals.nil_iff{xs:List V}{us:iV}(r:Vals xs us):us=[]↔xs=[]:=by
 cases r with
 |nil=>simp
 |cons _ _=>simp
theorem N3:OpR X (binaryOp .Add) (Sv X.K):=by
 intro pins s σ H x y v u Q I rx ry h;obtain⟨a,b,xs,ys,rfl,rfl,ha,hb,hx,hz,q1,q2⟩:=h;cases rx;cases ry;obtain⟨b6,r1,p1,_⟩:=I.tuple ha;obtain⟨e9,r2,p2,_⟩:=I.tuple hb;refine HT.Tt p1 p2 (fun z=>hx (r1.nil_iff.mp z)) (fun z=>⟨.ref a,H,I,rfl,q1 (r2.nil_iff.mp z)⟩) (fun z=>?_) (by rw[<-r1.length,<-r2.length];exact hz);refine⟨.ref s.heap.objs.size,_,I.laid (t':=s.toks) (o:= .tup (xs++ys)) (fun b ob q=>iF _ q) (ir _) ?_,rfl,q2 (fun w=>z (r2.nil_iff.mpr w)) _ (I.hok.fresh (ir _))⟩;exact⟨by rw[mq];exact hz,_,r1.append r2,BV _ _⟩
end
noncomputable def ixN(n:Nat)(i:Int):Option Nat:=if 0<=i then(if i<n then some i.toNat else none) else if -(n:Int)<=i then some (i+n).toNat else none
noncomputable def atI{α:Type}(xs:List α)(i:Int):Option α:=(ixN xs.length i).bind fun j=>xs[j]?
theorem CH{n:Nat}{i:Int}{j:Nat}(h:ixN n i=some j):seqIndex? i n=some j/\j<n/\ -(n:Int)<=i/\i<n:=by
 unfold ixN at h;by_cases h0:0<=i
 ·rw[gG h0] at h;by_cases h1:i<n
  ·rw[gG h1] at h;have e:i.toNat=j:=iR h;exact⟨by rw[Fn h0 h1,e],by omega,by omega,h1⟩
  ·rw[gJ h1] at h;cases h
 ·rw[gJ h0] at h;by_cases h1: -(n:Int)<=i
  ·rw[gG h1] at h;have e:(i+n).toNat=j:=iR h;exact⟨by rw[Fm (by omega) h1,e],by omega,h1,by omega⟩
  ·rw[gJ h1] at h;cases h
theorem HX{α:Type}{xs:List α}{i:Int}{v:α}(h:atI xs i=some v): ∃j,seqIndex? i xs.length=some j/\xs[j]?=some v/\j<xs.length/\ -(xs.length:Int)<=i/\i<xs.length:=by
 unfold atI at h
 cases e:ixN xs.length i with
 |none=>rw[e] at h;cases h
 |some j=>
  rw[e] at h;obtain⟨h1,h2,h3,h4⟩:=CH e;exact⟨j,h1,h,h2,h3,h4⟩
def vR(b:gR):Prop:= ∀o i,subscripted b false o i=operate [o,i] (getItem o i)
def IxR(X:Cx)(r:R2):Prop:=
 ∀(value slice:gR) (pins:iq) (s:gC) (σ:St) (H:Hp) (x y:V) (v u:gQ) (Q:VK),Inv X pins σ H s->RelV x v->RelV y u->r x y H Q->
  subscripted slice false v u=operate [v,u] (getItem v u)->wpAny (model X.prog X.w) X.A (subscriptTail value slice v u) (EP X pins σ Q) X.xe s
def MtR(X:Cx)(id:String)(r:V->List V->Hp->VK->Prop):Prop:=
 ∀(pins:iq) (s:gC) (σ:St) (H:Hp) (x:V) (xs:List V) (v:gQ) (us:iV) (Q:VK),Inv X pins σ H s->RelV x v->Vals xs us->r x xs H Q->
  wpAny (model X.prog X.w) X.A (call (.builtin id) (v::us)) (EP X pins σ Q) X.xe s
section
variable {X:Cx}{a b:gR}{ta tb:TE}{pos:Pos}
theorem OV{r:R2}(hr:IxR X r)(ha:PE X a ta)(hb:PE X b tb)(hs:vR b):PE X (.Subscript a b pos) (tOp r ta tb):=by
 intro pins s σ H Q I h;exact Subscript_ (RJ ha hb I h fun v u s2 x y H2 I2 rx ry q=>hr a b pins s2 σ H2 x y v u Q I2 rx ry q (hs _ _))
def U1(K:hG):R2:=fun x y H Q=> ∃p xs i v,x= .ref p/\y= .int i/\SqL K H p xs/\atI xs i=some v/\Q v H
def U0(K:hG):R2:=fun x y H Q=> ∃p xs i v,x= .ref p/\y= .int i/\SqT K H p xs/\atI xs i=some v/\Q v H
theorem Oe:IxR X (U1 X.K):=by
 intro value slice pins s σ H x y v u Q I rx ry h hs;obtain⟨p,xs,i,z,rfl,rfl,hq,he,q⟩:=h;cases rx;obtain⟨t,rfl⟩:=ry;obtain⟨b6,r,pl,hz⟩:=I.list hq;obtain⟨j,h1,h2,h3,h4,h5⟩:=HX he;obtain⟨w,ew,ai⟩:=r.get h2;have hl:=r.length;have hn:=CG;have fin:EP X pins σ Q w s:=⟨z,H,I,ai,q⟩
 by_cases h0:0<=i
 ·have hj:i.toNat=j:=by
   rw[Fn h0 h5] at h1;exact iR h1
  exact item_listR pl.isList h0 (by omega) (by rw[hj];simpa using ew) fin hs
 ·have hj:(i+(b6.toArray.size:Int)).toNat=j:=by
   rw[Fm (by omega) h4] at h1;rw[iD,<-hl];exact iR h1
  exact JY (x:=w) pl.isList.typeIs slot_list_getitem.lookup
   (wpAny_getItem_list_neg (Q:=fun r s'=>r=w/\EP X pins σ Q r s') pl.isList (by omega) (by rw[iD]<;>omega) (by omega) (by rw[hj];simpa using ew) ⟨rfl,fin⟩) hs
theorem Rj:IxR X (U0 X.K):=by
 intro value slice pins s σ H x y v u Q I rx ry h hs;obtain⟨p,xs,i,z,rfl,rfl,hq,he,q⟩:=h;cases rx;obtain⟨t,rfl⟩:=ry;obtain⟨b6,r,pl,hz⟩:=I.tuple hq;obtain⟨j,h1,h2,h3,h4,h5⟩:=HX he;obtain⟨w,ew,ai⟩:=r.get h2;have hl:=r.length;have hn:=CG;have fin:EP X pins σ Q w s:=⟨z,H,I,ai,q⟩
 exact JY (x:=w) pl.typeIs slot_tuple_getitem.lookup
  (getItem_tuple (j:=j) (Q:=fun r s'=>r=w/\EP X pins σ Q r s') pl (by omega) (by omega) (by rw[iD,<-hl];exact h1) (by simpa using ew) ⟨rfl,fin⟩) hs
theorem Gj(b6:iV)(n j:Nat)(u:gQ):Obj.mapSeq (·.setIfInBounds j u) {cls:= .type "list",data:= .seq b6.toArray n}={cls:= .type "list",data:= .seq (b6.set j u).toArray n}:=by
 simp[Obj.mapSeq]
theorem Inv.lst{pins:iq}{σ:St}{H:Hp}{s:gC}{p:gz}{xs:List V}(I:Inv X pins σ H s)(h:H p=some (.lst xs)):
  ∃(b6:iV) (n:Nat),Vals xs b6/\s.heap.get? p=some {cls:= .type "list",data:= .seq b6.toArray n}/\xs.length<=sizeLine:=by
 obtain⟨z,b6,n,r,e⟩:=I.hok p _ h;exact⟨b6,n,r,e,z⟩
theorem Inv.lstUpd{pins:iq}{σ:St}{H:Hp}{s:gC}{p:gz}{xs ys:List V}{b6 its':iV}{n n':Nat}{f:Obj->Obj}(I:Inv X pins σ H s)(h:H p=some (.lst xs))
  (ho:s.heap.get? p=some {cls:= .type "list",data:= .seq b6.toArray n})(hf:f {cls:= .type "list",data:= .seq b6.toArray n}={cls:= .type "list",data:= .seq its'.toArray n'})(r:Vals ys its')(hz:ys.length<=sizeLine)(t:Nat):
  Inv X pins σ (upd H p (.lst ys)) {s with heap:=s.heap.update p f,toks:=t}:=by
 have e:(s.heap.update p f).get? p=some {cls:= .type "list",data:= .seq its'.toArray n'}:=by
  rw[sQ f ho (by rw[hf]<;>rfl),hf]
 refine I.write (x:=p) (e:=p) (by rw[h];trivial) (.inl rfl) (fun b u hb q=>(wt _ _ (qb hb)).trans q) ⟨_,e⟩ ?_;exact⟨hz,its',n',r,e⟩
def So:V->V->V->Hp->(Hp->Prop)->Prop:=fun o i v H Q=> ∃p xs k j,o= .ref p/\i= .int k/\H p=some (.lst xs)/\ixN xs.length k=some j/\Q (upd H p (.lst (xs.set j v)))
theorem Ky:RM X So:=by
 intro pins s σ H o i v ov iv u Q I ro ri rv h;obtain⟨p,xs,k,j,rfl,rfl,hp,hj,q⟩:=h;cases ro;obtain⟨t,rfl⟩:=ri;obtain⟨b6,n,r,ho,hz⟩:=I.lst hp;obtain⟨h1,h2,h3,h4⟩:=CH hj;have hl:=r.length;have hn:=CG
 have I':Inv X pins σ (upd H p (.lst (xs.set j v))) {s with heap:=s.heap.update p (Obj.mapSeq (·.setIfInBounds j u))}:=
  I.lstUpd hp ho (Gj b6 n j u) (r.set rv j) (by rw[sP];exact hz) s.toks
 by_cases h0:0<=k
 ·have hk:k.toNat=j:=by
   rw[Fn h0 h4] at h1;exact iR h1
  exact PySem.W.ki_setAt ho h0 (by omega) (by rw[iD,<-hl];exact h4) (by rw[hk];exact⟨_,I',q⟩)
 ·have hk:(k+(b6.toArray.size:Int)).toNat=j:=by
   rw[Fm (by omega) h3] at h1;rw[iD,<-hl];exact iR h1
  exact PySem.W.ki_setBack ho (by omega) (by rw[iD,<-hl];exact h3) (by omega) (by rw[hk];exact⟨_,I',q⟩)
theorem Ca(lo hi:Option Int)(n:Nat):(sliceBounds lo hi none n).1=((HT.sIx n 0 lo:Nat):Int)/\(sliceBounds lo hi none n).2.1=((HT.sIx n n hi:Nat):Int)/\(sliceBounds lo hi none n).2.2=1:=by
 refine⟨?_,?_,rfl⟩
 ·cases lo with
  |none=>simp[sliceBounds,HT.sIx]
  |some i=>
   simp only[sliceBounds,HT.sIx,Option.getD_none,show(1:Int)>0 by decide,iE];by_cases h:i<0
   ·simp only[h,iE]<;>omega
   ·simp only[h,jb]<;>omega
 ·cases hi with
  |none=>simp[sliceBounds,HT.sIx]
  |some i=>
   simp only[sliceBounds,HT.sIx,Option.getD_none,show(1:Int)>0 by decide,iE];by_cases h:i<0
   ·simp only[h,iE]<;>omega
   ·simp only[h,jb]<;>omega
theorem Ae(b6:iV)(lo hi:Option Int):slicePick b6.toArray lo hi none=((b6.drop (HT.sIx b6.length 0 lo)).take (HT.sIx b6.length b6.length hi-HT.sIx b6.length 0 lo)).toArray:=by
 obtain⟨h1,h2,h3⟩:=Ca lo hi b6.toArray.size;unfold slicePick;rw[h1,h2,h3];simp only[sliceRange_one,pick_run,iD]<;>rfl
def UY(K:hG):V->Option Int->Option Int->Hp->VK->Prop:=fun x lo hi H Q=> ∃a xs,x= .ref a/\SqL K H a xs/\ ∀p,H p=none->Q (.ref p) (upd H p (.lst (Eo xs lo hi)))
theorem M5:SlR X (UY X.K):=by
 intro pins s σ H x v vl vu lo hi sl Q I rx hs pl pu h;obtain⟨a,xs,rfl,hx,q⟩:=h;cases rx;obtain⟨b6,r,ht,hz⟩:=I.list hx;have hlen:=r.length;refine⟨"list",_,slot_list_getitem.lookup,ht.isList.typeIs,?_⟩;refine wpAny_getItem_list_slice ht.isList hs pl pu .none (by simp) ?_ (by rw[iD]<;>omega);rw[Ae,<-hlen];refine⟨.ref s.heap.objs.size,_,I.laid (t':=s.toks) (o:= .lst (Eo xs lo hi)) (fun b ob q=>iF _ q) (ir _) ?_,rfl,q _ (I.hok.fresh (ir _))⟩;exact⟨nF (xq xs lo hi) hz,_,0,(r.drop (HT.sIx xs.length 0 lo)).take (HT.sIx xs.length xs.length hi-HT.sIx xs.length 0 lo),jG _ rfl⟩
noncomputable def Pf:V->Bool
 | .non=>true
 | .bl _=>true
 | .int _=>true
 | .str _=>true
 |_=>false
noncomputable def eqV:V->V->Bool
 | .non,.non=>true
 | .bl a,.bl b=>a==b
 | .bl a,.int b=>(if a then 1 else 0)==b
 | .int a,.bl b=>a==(if b then 1 else 0)
 | .int a,.int b=>a==b
 | .str a,.str b=>a==b
 |_,_=>false
theorem kZ{A:gZ}{s:gC}{y x:V}{u v:gQ}(ry:RelV y u)(rx:RelV x v)(fy:Pf y=true)(fx:Pf x=true):SeqAt.EqAt A s u v (eqV y x):=by
 cases y with
 |non=>
  cases ry
  cases x with
  |non=>cases rx;exact SeqAt.EqAt.same _
  |bl b=>cases rx;exact SeqAt.EqAt.none_bool b
  |int b=>obtain⟨t,rfl⟩:=rx;exact SeqAt.EqAt.none_int b t
  |str b=>obtain⟨t,rfl⟩:=rx;exact SeqAt.EqAt.none_str b t
  |_=>exact absurd (show false=true from fx) jk
 |bl a=>
  cases ry
  cases x with
  |non=>cases rx;exact SeqAt.EqAt.bool_none a
  |bl b=>cases rx;exact SeqAt.EqAt.bool_bool a b
  |int b=>obtain⟨t,rfl⟩:=rx;exact SeqAt.EqAt.bool_int a b t
  |str b=>obtain⟨t,rfl⟩:=rx;exact SeqAt.EqAt.bool_str a b t
  |_=>exact absurd (show false=true from fx) jk
 |int a=>
  obtain⟨t',rfl⟩:=ry
  cases x with
  |non=>cases rx;exact SeqAt.EqAt.int_none a t'
  |bl b=>cases rx;exact SeqAt.EqAt.int_bool a t' b
  |int b=>obtain⟨t,rfl⟩:=rx;exact SeqAt.EqAt.int_int a t' b t
  |str b=>obtain⟨t,rfl⟩:=rx;exact SeqAt.EqAt.int_str a t' b t
  |_=>exact absurd (show false=true from fx) jk
 |str a=>
  obtain⟨t',rfl⟩:=ry
  cases x with
  |non=>cases rx;exact SeqAt.EqAt.str_none a t'
  |bl b=>cases rx;exact SeqAt.EqAt.str_bool a t' b
  |int b=>obtain⟨t,rfl⟩:=rx;exact SeqAt.EqAt.str_int a t' b t
  |str b=>obtain⟨t,rfl⟩:=rx;exact SeqAt.EqAt.str_str a t' b t
  |_=>exact absurd (show false=true from fx) jk
 |_=>exact absurd (show false=true from fy) jk
theorem vL:jB X (.builtin "len") (fun xs H Q=> ∃p ys,xs=[.ref p]/\(SqL X.K H p ys\/SqT X.K H p ys)/\Q (.int ys.length) H):=by
 intro pins s σ H xs us Q I r h;obtain⟨p,ys,rfl,hq,q⟩:=h;obtain⟨u,rfl,rx⟩:=uX r;cases rx;have hn:=CG;rcases hq with hq|hq
 ·obtain⟨b6,r',pl,hz⟩:=I.list hq;have hlen:=r'.length;exact Calls.call_len_list pl.isList (by simp only[iD]<;>omega) ⟨.int ys.length,H,I.tok _,⟨s.toks+1,by rw[iD,hlen]⟩,q⟩
 ·obtain⟨b6,r',pl,hz⟩:=I.tuple hq;have hlen:=r'.length;exact len_tuple pl (by simp only[iD]<;>omega) ⟨.int ys.length,H,I.tok _,⟨s.toks+1,by rw[iD,hlen]⟩,q⟩
theorem vK:jB X (.type "list") (fun xs H Q=> ∃p ys,xs=[.ref p]/\(SqL X.K H p ys\/SqT X.K H p ys)/\ ∀l,H l=none->Q (.ref l) (upd H l (.lst ys))):=by
 intro pins s σ H xs us Q I r h;obtain⟨p,ys,rfl,hq,q⟩:=h;obtain⟨u,rfl,rx⟩:=uX r;cases rx
 have fin: ∀(b6:iV),Vals ys b6->ys.length<=sizeLine-> ∀(h':hV) (c':Nat),(∀b o',s.heap.get? b=some o'->h'.get? b=some o')->
   h'.get? s.heap.objs.size=some {cls:= .type "list",dict:=none,data:= .seq b6.toArray c',slots:= #[]}->EP X pins σ Q (.ref s.heap.objs.size) {s with heap:=h'}:=fun b6 r' hz h' c' kp e=>
  ⟨.ref s.heap.objs.size,_,I.laid (t':=s.toks) kp (ir _) (show ObjOk X.prog X.w _ h' _ (.lst ys) from⟨hz,b6,c',r',e⟩),rfl,q _ (I.hok.fresh (ir _))⟩
 rcases hq with hq|hq
 ·obtain⟨b6,r',pl,hz⟩:=I.list hq;have hlen:=r'.length;obtain⟨o,ho,hc,n,hd⟩:=pl.isList;exact call_list_seq p (.inl rfl) ho hc hd (fun h' c' kp e=>fin b6 r' hz h' c' kp e) (by simp only[iD]<;>omega)
 ·obtain⟨b6,r',pl,hz⟩:=I.tuple hq;have hlen:=r'.length;obtain⟨o,ho,hc,n,hd⟩:=pl;exact call_list_seq p (.inr rfl) ho hc hd (fun h' c' kp e=>fin b6 r' hz h' c' kp e) (by simp only[iD]<;>omega)
theorem tL:jB X (.type "tuple") (fun xs H Q=> ∃p ys,xs=[.ref p]/\((SqL X.K H p ys/\ ∀l,H l=none->Q (.ref l) (upd H l (.tup ys)))\/(SqT X.K H p ys/\Q (.ref p) H))):=by
 intro pins s σ H xs us Q I r h;obtain⟨p,ys,rfl,h⟩:=h;obtain⟨u,rfl,rx⟩:=uX r;cases rx;rcases h with⟨hq,q⟩|⟨hq,q⟩
 ·obtain⟨b6,r',pl,hz⟩:=I.list hq;have hlen:=r'.length;refine call_tuple_list pl.isList (fun h' kp=>?_) (by simp only[iD]<;>omega);have I1:Inv X pins σ H {s with heap:=h'}:=I.kept (t':=s.toks) kp
  have I2:Inv X pins σ (upd H h'.objs.size (.tup ys)) {s with heap:=h'.push {cls:= .type "tuple",data:= .seq b6.toArray}}:=
   I1.laid (t':=s.toks) (fun b o e=>iF _ e) (ir _) (show ObjOk X.prog X.w _ _ _ (.tup ys) from⟨hz,b6,r',BV _ _⟩)
  exact⟨.ref h'.objs.size,_,I2,rfl,q _ (I1.hok.fresh (ir _))⟩
 ·obtain⟨b6,r',pl,hz⟩:=I.tuple hq;exact call_tuple_same pl ⟨.ref p,H,I,rfl,q⟩
def tyV(K:hG)(T:String)(x:V)(H:Hp):Prop:=match x with
 | .str _=>T="str"
 | .int _=>T="int"
 | .ref p=>(T="list"/\ ∃xs,SqL K H p xs)\/(T="tuple"/\ ∃o,K.lookup p=some o/\o.cls= .type "tuple"/\o.dict=none)\/
   (T="dict"/\((∃kvs,H p=some (.dK kvs))\/ ∃kvs,H p=some (.dT kvs)))\/(T="set"/\ ∃S n,H p=some (.set S n))
 |_=>False
theorem Px{pins:iq}{σ:St}{H:Hp}{s:gC}{T:String}{x:V}{v:gQ}(I:Inv X pins σ H s)(r:RelV x v)(ty:tyV X.K T x H):
  s.TypeIs v T/\ ∀a,v= .ref a-> ∃ob,s.heap.get? a=some ob/\ob.dict=none:=by
 cases x with
 |str z=>
  obtain⟨t,rfl⟩:=r;cases(show T="str" from ty);exact⟨typeIs_str s z t,fun _ e=>nomatch e⟩
 |int i=>
  obtain⟨t,rfl⟩:=r;cases(show T="int" from ty);exact⟨typeIs_int s i t,fun _ e=>nomatch e⟩
 |ref p=>
  cases r;rcases ty with⟨rfl,xs,hq⟩|⟨rfl,o,hk,hc,hd⟩|⟨rfl,hk⟩|⟨rfl,S,n,hk⟩
  ·obtain⟨b6,_,pl,_⟩:=I.list hq;refine⟨pl.isList.typeIs,fun a e=>?_⟩;cases e;obtain⟨o,n,e,c,hd,_⟩:=pl;exact⟨o,e,hd⟩
  ·refine⟨⟨o,I.kIn p o hk,hc⟩,fun a e=>?_⟩;cases e;exact⟨o,I.kIn _ o hk,hd⟩
  ·have z: ∃o,s.heap.get? p=some o/\o.ExactDict:=by
    rcases hk with⟨kvs,hk⟩|⟨kvs,hk⟩
    ·obtain⟨_,_,_,_,o,_,_,e,ex,_⟩:=I.hok p _ hk;exact⟨o,e,ex⟩
    ·obtain⟨_,_,_,_,o,_,_,e,ex,_⟩:=I.hok p _ hk;exact⟨o,e,ex⟩
   obtain⟨o,e,ex⟩:=z;refine⟨⟨o,e,ex.1⟩,fun a e2=>?_⟩;cases e2;exact⟨o,e,ex.2.1⟩
  ·obtain⟨o,_,_,_,e,ex,_⟩:=I.hok p _ hk;refine⟨⟨o,e,ex.1⟩,fun a e2=>?_⟩;cases e2;exact⟨o,e,ex.2.1⟩
 |_=>exact False.elim ty
def tBM(K:hG)(T:String)(r:V->List V->Hp->VK->Prop)(to:TE)(t:TA):TE:=fun σ H Q=>to σ H fun x H1=>tyV K T x H1/\t σ H1 fun xs H2=>r x xs H2 Q
variable {o e:gR}{es:jF}{to:TE}{t:TA}{name:Str}{apos i9:Pos}{T id:String}{r:V->List V->Hp->VK->Prop}
theorem Lv(pa:PlainAttrs T)(slot:Slot T name id)(hty:typeOf (.builtin id)=pure (.type "method_descriptor"))(hm:MtR X id r)(ho:PE X o to)(ha:PA X (e::es) t)
  (j9:attributeBase o name X.env (eval o X.env)=eval o X.env:=by rfl)
  (o8:((backTo i9 (starEach (e::es) X.env)).all (fun x=>!x.1)&&(backToKw i9 (keywordEach [] X.env)).all (fun x=>x.1.isSome)
   &&decide ((e::es).length+([]:List Keyword).length+(if([]:List Keyword).isEmpty then 0 else 1)<30))=true:=by rfl)
  (j8:(apos.endLine==i9.line)=true:=by rfl)(hs:starEach (e::es) X.env=(false,eval e X.env)::starEach es X.env:=by rfl)(i6:(backTo i9 (starEach es X.env)).any (·.1)=false:=by rfl):
  PE X (.Call (.Attribute o name apos) (e::es) [] i9) (tBM X.K T r to t):=by
 intro pins s σ H Q I h;refine wpAny_Call_method_late j9 o8 j8 rfl (thn (ho pins s σ H _ I h) fun v s1 ⟨x,H1,I1,r1,ty,q1⟩=>?_);obtain⟨h1,h2⟩:=Px I1 r1 ty;refine⟨T,id,pa,slot,hty,h1,h2,?_⟩;have hA:=ha i9 pins s1 σ H1 _ I1 q1;rw[hs] at hA ⊢;refine Calls.callWith_builtin (by show(false||(backTo i9 (starEach es X.env)).any (·.1))=false;rw[i6]<;>rfl) (Calls.evalArgs_plain ?_);exact thn hA fun us s2 ⟨vs,H2,I2,r2,q2⟩=>hm pins s2 σ H2 x vs v us Q I2 r1 r2 q2
end
def MtM(X:Cx)(id:String)(r:V->List V->Hp->VK->Prop):Prop:=
 ∀(pins:iq) (s:gC) (σ:St) (H:Hp) (x:V) (xs:List V) (v:gQ) (us:iV) (Q:VK),Inv X pins σ H s->RelV x v->Vals xs us->r x xs H Q->
  wpAny (model X.prog X.w) X.A (call (.builtin id) (v::us)) (EP X pins σ Q) X.xe s
theorem Vals.one: ∀{x:V} {us:iV},Vals [x] us-> ∃u,us=[u]/\RelV x u
 |_,_,.cons r .nil=>⟨_,rfl,r⟩
theorem Vals.eraseIdx: ∀{xs:List V} {us:iV} (i:Nat),Vals xs us->Vals (xs.eraseIdx i) (us.eraseIdx i)
 |_,_,_,.nil=> .nil
 |_,_,0,.cons _ t=>t
 |_,_,i+1,.cons r t=> .cons r (Vals.eraseIdx i t)
theorem AY{α:Type}: ∀(l:List α) (i:Nat),(l.eraseIdx i).length<=l.length
 |[],_=>ir _
 |_::_,0=>wq _
 |_::r,i+1=>Nat.succ_le_succ (AY r i)
section
variable {X:Cx}{pins:iq}{σ:St}{H:Hp}{s:gC}{l b:gz}{xs ys zs:List V}
theorem Inv.lset{b6 its':iV}{n:Nat}{f:Array Value->Array Value}{t':Nat}(I:Inv X pins σ H s)(hH:H l=some (.lst xs))
  (e:s.heap.get? l=some {cls:= .type "list",data:= .seq b6.toArray n})(hf:f b6.toArray=its'.toArray)(hv:Vals ys its')(hz:ys.length<=sizeLine):
  Inv X pins σ (upd H l (.lst ys)) {s with heap:=s.heap.update l (Obj.mapSeq f),toks:=t'}:=by
 have q:=PySem.IsL.update e f;rw[hf] at q;refine I.write (x:=l) (e:=l) (by rw[hH];exact trivial) (.inl rfl) (fun b' u hb hu=>(wt s.heap (Obj.mapSeq f) (qb hb)).trans hu) ⟨_,q⟩ ?_;exact⟨hz,its',_,hv,q⟩
theorem Inv.lnew{b6:iV}{t':Nat}(I:Inv X pins σ H s)(hv:Vals ys b6)(hz:ys.length<=sizeLine):
  Inv X pins σ (upd H s.heap.objs.size (.lst ys)) {s with heap:=s.heap.push {cls:= .type "list",data:= .seq b6.toArray},toks:=t'}:=
 I.laid (fun _ _ q=>iF _ q) (ir _) ⟨hz,b6,0,hv,jG _ rfl⟩
theorem Inv.fresh(I:Inv X pins σ H s):H s.heap.objs.size=none:=I.hok.fresh (ir _)
theorem Inv.lstM(I:Inv X pins σ H s)(hH:H l=some (.lst xs)):xs.length<=sizeLine/\ ∃(b6:iV) (n:Nat),Vals xs b6/\xs.length=b6.length/\s.heap.get? l=some {cls:= .type "list",data:= .seq b6.toArray n}:=by
 obtain⟨z,b6,n,r,e⟩:=I.hok l _ hH;exact⟨z,b6,n,r,r.length,e⟩
theorem LJ{n:Nat}(h:n<=sizeLine):Builtin.List.listTooLong n=false:=by
 unfold Builtin.List.listTooLong;exact kX (by omega)
end
section
variable {X:Cx}
def Ng:V->List V->Hp->VK->Prop:=fun x vs H Q=> ∃l xs y,x= .ref l/\vs=[y]/\H l=some (.lst xs)/\xs.length<sizeLine/\Q .non (upd H l (.lst (xs++[y])))
theorem I9:MtM X "list.append" Ng:=by
 intro pins s σ H x vs v us Q I rx rv h;obtain⟨l,xs,y,rfl,rfl,hH,hz,q⟩:=h;cases rx;obtain⟨u,rfl,ru⟩:=rv.one;obtain⟨z,b6,n,r,hl,e⟩:=I.lstM hH;refine BU F.slot_list_append ⟨_,e,rfl⟩ JX (JW _ _) (PySem.list_append l b6.toArray n u (by rw[iD];omega)) ⟨e,?_⟩;refine⟨.non,_,I.lset (its':=b6++[u]) hH e (by simp) (r.append (.cons ru .nil)) ?_,rfl,q⟩;rw[mq,yw];omega
def Nf:V->List V->Hp->VK->Prop:=fun x vs H Q=> ∃l b xs zs,x= .ref l/\vs=[.ref b]/\H l=some (.lst xs)/\H b=some (.lst zs)/\xs.length+zs.length<=sizeLine/\Q .non (upd H l (.lst (xs++zs)))
theorem IZ:MtM X "list.extend" Nf:=by
 intro pins s σ H x vs v us Q I rx rv h;obtain⟨l,b,xs,zs,rfl,rfl,hH,hB,hz,q⟩:=h;cases rx;obtain⟨u,rfl,ru⟩:=rv.one;cases ru;obtain⟨z,b6,n,r,hl,e⟩:=I.lstM hH;obtain⟨z2,e9,n2,r2,aK,e2⟩:=I.lstM hB;have hsz:b6.toArray.size+e9.toArray.size<=sizeLine:=by rw[iD,iD];omega
 have hlong: ¬(!b6.toArray.isEmpty&&Builtin.List.listTooLong (b6.toArray.size+e9.toArray.size))=true:=by
  rw[LJ hsz,Bool.and_false];exact jk
 refine BU F.slot_list_extend ⟨_,e,rfl⟩ F.entry_list_extend (F.args_list_extend_2 _ _)
  (AutoSeq1.list_extend_list_list_0 l b6.toArray n b e9.toArray n2 hlong (by rw[iD];omega) (by omega)) ⟨e,e2,?_⟩
 refine⟨.non,_,I.lset (its':=b6++e9) hH e (by simp) (r.append r2) ?_,rfl,q⟩;rw[mq];omega
def P5:V->List V->Hp->VK->Prop:=fun x vs H Q=> ∃l xs i k y,x= .ref l/\vs=[.int i]/\H l=some (.lst xs)/\ -(2^63)<=i/\i<2^63/\seqIndex? i xs.length=some k/\xs[k]?=some y/\Q y (upd H l (.lst (xs.eraseIdx k)))
theorem LL:MtM X "list.pop" P5:=by
 intro pins s σ H x vs v us Q I rx rv h;obtain⟨l,xs,i,k,y,rfl,rfl,hH,h1,h2,hk,hy,q⟩:=h;cases rx;obtain⟨u,rfl,ru⟩:=rv.one;obtain⟨t,rfl⟩:=ru;obtain⟨z,b6,n,r,hl,e⟩:=I.lstM hH;obtain⟨w,hw,ai⟩:=r.get hy
 refine BU F.slot_list_pop ⟨_,e,rfl⟩ F.entry_list_pop (F.args_list_pop_2 _ _)
  (MeetsSeq.list_pop_at l b6.toArray n i t k w (fitsIndex_both h1 h2) (by rw[iD,<-hl];exact hk) (by rw[<-lg];exact hw) (by rw[iD];omega)) ⟨e,?_⟩
 refine⟨y,_,I.lset (its':=b6.eraseIdx k) hH e ?_ (r.eraseIdx k) ?_,ai,q⟩
 ·show b6.toArray.eraseIdxIfInBounds k=(b6.eraseIdx k).toArray;rw[List.eraseIdxIfInBounds_toArray]
 ·have:=AY xs k;omega
end
section
variable {prog:hW}{w:gU}{A:gZ}{E:il}{s:gC}
end
section
variable {X:Cx}
end
end L2
namespace Att
open PySem PySem.W PySem.Calls PyProof.Rows
theorem xJ{P:Params}{h:hV}: ∀(ns:gY) (vs:iV),WellAll P h vs (ns.map WData.int)->IntsAre vs ns:=by
 intro ns
 induction ns with
 |nil=>
  intro vs w;rw[oT] at w;cases w;exact .nil
 |cons n ns ih=>
  intro vs w;rw[iN] at w
  cases w with
  |cons a b=>
   cases a;exact .cons _ _ (ih _ b)
theorem Iu{l:OpenLaw}{n:Nat}(hn:l.most=some n){P:Params}{h:hV}{args:List WData}{vals:iV}
  (aC:l.row.toRowW.claim.pre args=true)(fG:WellAll P h vals args):
  ∃a vs ns,vals=[Value.ref a]/\args=[WData.list (ns.map WData.int)]/\h.get? a=some {cls:= .type "list",data:= .seq vs.toArray}/\IntsAre vs ns/\ns.length<=n:=by
 have eN:WShape.hasAll [] args [.list .int]=true:=(pre_splitW aC).1;have hc:l.pre.holds [] {args:=args}=true:=(pre_splitW aC).2;obtain⟨d,r,rfl,h1,h2⟩:=hasAllW_cons eN;obtain rfl:=hasAllW_nil h2;obtain⟨xs,rfl,h3⟩:=hasW_list h1;obtain⟨ns,rfl⟩:=items_int h3
 have hlen:ns.length<=n:=by
  unfold OpenLaw.pre at hc
  have h4:(WTm.not (.lt (.lit (.int (n:Int))) (.len (.arg 0)))).holds [] {args:=[.list (ns.map .int)]}=true:=by
   have h4:=(holds_andW hc).1;rw[hn] at h4;exact h4
  have h5:=condW_of h4 (w_not (w_lt w_lit (w_len_list (w_arg rfl))));rw[jj] at h5;refine Nat.le_of_not_lt fun q=>?_;have q':(n:Int)<((ns.length:Nat):Int):=by omega
  first
   |(rw[nC q'] at h5;exact absurd h5 (by decide))
   |(simp at h5;omega)
 cases fG with
 |cons w1 w2=>
  cases w2
  cases w1 with
  |list ho hall=>exact⟨_,_,ns,rfl,rfl,ho,xJ ns _ hall,hlen⟩
theorem IK(l:OpenLaw)(args:List WData):l.row.toRowW.claim.post args (.bool true) args=true:=
 postW_of (r:=l.row.toRowW) (X:=(true==true))
  (show WShape.has [] (.bool true) .bool=true by first|rfl|decide|simp[WShape.has,WShape.arms,WShape.armsAll])
  (show(WTm.eq .res (.lit (.bool true))).value [] {args:=args,res:=some (.bool true),after:=args}=some (.bool (true==true)) from w_eq_bool (w_res rfl) w_lit) rfl
theorem Ox{l:OpenLaw}{n:Nat}{q:hW}{loose:iK}{XP:(Str->Option Value)->Heap->Prop}{YP:World->Heap->Prop}{d:DefRec}
  (hn:l.most=some n)(dZ:d.params.defaults=[])
  (call: ∀(w:gU) (s₀ s₁:gC) (mg mb:lu) (fa:gz) (o:Obj) (pm cd doc:gQ) (a:gz) (vs:iV) (ns:gY),
   Ground q loose [] XP w s₀ mg mb s₁.heap->YP w s₁.heap->
   s₁.heap.get? fa=some o->o.data= .func (docDef d.name d.params d.body d.scope pm cd doc)->s₁.heap.CodeRec cd d.name->mg d.name=some (.ref fa)->
   s₁.heap.get? a=some {cls:= .type "list",data:= .seq vs.toArray}->IntsAre vs ns->ns.length<=n->s₁.gens= #[]->
   codeAny (model l.prog w) callerA (.call (.ref fa) ⟨[.ref a],[]⟩) (fun r s'=>r= .ok (.ret (.bool true))/\OldK s₁.heap s'.heap/\s'.os=s₁.os/\AllBare s'.gens) s₁):
  WalkO q loose XP YP l.row.toRowW d [] (fun f vs=>PySem.call f vs):=by
 intro w s₀ s₁ mg mb G Y fa o pm cd doc dV kV ho hd y7 hD hmg hg args vals as aC hlay hrd fG hlo;obtain rfl:dV= .none:=Dflts.none hD dZ;obtain rfl:kV= .none:=Dflts.noKw hD;obtain⟨a,vs,ns,rfl,rfl,cK,hints,hlen⟩:=Iu hn aC fG;refine enter_call (qE (call w s₀ s₁ mg mb fa o pm cd doc a vs ns G Y ho (fd_plain hd) y7 hmg cK hints hlen hg) fun r s' hq=>?_);obtain⟨rfl,h2,h3,h4⟩:=hq;exact⟨.inl ⟨.bool true,.bool true,[],rfl,fun _=>rfl,.bool true,IK l _,fun _=>⟨List.Pairwise.nil,fun _ hm=>(nomatch hm)⟩⟩,h2,h3,h4⟩
section
variable {prog:hW}{w:gU}{A:gZ}{E:il}{s:gC}{K:Frag}
end
end Att
namespace L2
open PySem PySem.Spec PyProof.Rows
theorem AH: ∀{vs:iV} {ns:gY},IntsAre vs ns->Vals (ns.map V.int) vs
 |_,_,.nil=> .nil
 |_,_,.cons n t h=> .cons ⟨t,rfl⟩ (AH h)
def RN(H:Hp):Prop:= ∀b,H b=none\/ ∃o xs,H b=some (.frz o (.lst xs))
theorem LW{P:hW}{w:gU}{K:hG}{mg mb:lu}{CX:CXT}{k:Nat}{fa a:gz}{fd:og}{x:Str}{sp:Sp}{s₁:gC}{vs:iV}{ns:gY}
  (KX:K.In s₁.heap)(dh:s₁.heap.Ns mainGlobals mg)(hb:s₁.heap.Ns builtinsNs mb)(hbb: ∀x:Str,x≠"__name__"->mb x=bootBuiltins x)(hlim:s₁.heap.NoLimit)(hg:s₁.gens= #[])
  (ha:s₁.heap.get? a=some {cls:= .type "list",data:= .seq vs.toArray})(hi:IntsAre vs ns)(hl:ns.length<=sizeLine)(hr:Room k callerA)
  (F: ∀base:Heap,K.In base->base.Ns mainGlobals mg->FnOk P w K mg base CX k fa fd [x] sp)(hbind: ∀(s:gC) (u:gQ),BindsTo s fd ⟨[u],[]⟩ [(x,u)])
  (bZ: ∀H:Hp,RN H->SqL K H a (ns.map V.int)->sp [.ref a] H (fun v _=>v= .bl true) fun _ _ _=>False)
  (gf: ∀H e s',CX [] H s₁ (fun _ _ _=>False) e s'->False):
  codeAny (model P w) callerA (.call (.ref fa) ⟨[.ref a],[]⟩) (fun r s'=>r= .ok (.ret (.bool true))/\OldK s₁.heap s'.heap/\s'.os=s₁.os/\AllBare s'.gens) s₁:=by
 have rv:=AH hi;have lenV:=hi.length
 have core: ∀H:Hp,RN H->SqL K H a (ns.map V.int)->HOk P w H s₁.heap->(∀b,H b≠none->b=a)->(H a≠none->K.lookup a=none)->
   codeAny (model P w) callerA (.call (.ref fa) ⟨[.ref a],[]⟩) (fun r s'=>r= .ok (.ret (.bool true))/\OldK s₁.heap s'.heap/\s'.os=s₁.os/\AllBare s'.gens) s₁:=by
  intro H hO hS hok hA hK;have base_of: ∀{b:gz} {o:Obj},s₁.heap.get? b=some o->H b=none->(CL s₁.heap H).get? b=some o:=fun e n=>Mb e n
  have dJ: ∀{b:gz} {o:Obj} {es:Array DictEntry} {ep:Nat},s₁.heap.get? b=some o->o.data= .dict es ep->H b=none:=fun {b o es ep} e d=>by
   cases q:H b with
   |none=>rfl
   |some u=>
    have e':b=a:=hA b (by rw[q];simp);subst e';rw[ha] at e;cases e;have d':Data.seq vs.toArray _=Data.dict es ep:=d;cases d'
  have eF: ∀{b:gz} {m:lu},s₁.heap.Ns b m->(CL s₁.heap H).Ns b m:=fun {b m} ⟨o,es,ep,e,d,r⟩=>⟨o,es,ep,base_of e (dJ e d),d,r⟩
  have hKb:K.In (CL s₁.heap H):=fun b o e=>base_of (KX b o e) (by
   cases q:H b with
   |none=>rfl
   |some u=>
    have e':b=a:=hA b (by rw[q];simp);subst e';rw[hK (by rw[q];simp)] at e;cases e)
  have hM:Mod K mg (CL s₁.heap H):=⟨hKb,eF dh,⟨mb,eF hb,hbb⟩,let⟨mc,h1,h2⟩:=hlim;⟨mc,eF h1,h2⟩⟩
  have e0:Env0 P w K mg (CL s₁.heap H) callerA [] s₁ H:=⟨rfl,hM,fun b o e=>N7 e,Nat.le_of_eq (Jg _ _),trivial,fun b hb=>absurd (show b∈([]:List Addr) from hb) (by simp),hok,.of_eq hg⟩
  refine qE ((F _ hKb (eF dh)).run callerA [] s₁ H ⟨[.ref a],[]⟩ [.ref a] [.ref a] _ _ hr e0 (hbind s₁ (.ref a)) (.cons rfl .nil) (bZ H hO hS)) fun r s' h=>?_
  cases r with
  |error e=>exact(gf H e s' h).elim
  |ok fl=>
   cases fl with
   |next=>exact False.elim h
   |brk=>exact False.elim h
   |cont=>exact False.elim h
   |ret u=>
    obtain⟨v,H',os,bare,un,hok',r',q⟩:=h;have q':v= .bl true:=q;subst q';obtain rfl:u=Value.bool true:=r';refine⟨rfl,OldK.of_keep fun b o e=>?_,os,bare⟩
    cases q:H b with
    |none=>exact un.keep b o e q (by intro z;exact absurd (show b∈([]:List Addr) from z) (by simp)) (by simp)
    |some u=>
     rcases hO b with z|⟨ob,xs,z⟩
     ·rw[q] at z;cases z
     ·have z2:=un.frzs b ob _ z;obtain⟨e1,_⟩:=hok b _ z;obtain⟨e2,_⟩:=hok' b _ z2;rw[e] at e1;cases e1;exact e2
 cases hk:K.lookup a with
 |some o=>
  have e:=KX a o hk;rw[ha] at e;cases e;refine core (fun _=>none) (fun _=> .inl rfl) (.inr ⟨_,vs.toArray,_,hk,rfl,rfl,rfl,by rw[iD,lenV];exact hl,by simpa using rv⟩) (fun b u z=>by have z':(none:Option HO)=some u:=z;cases z') (fun b z=>absurd rfl z) fun z=>absurd rfl z
 |none=>
  refine core (fun b=>if b=a then some (.frz {cls:= .type "list",data:= .seq vs.toArray} (.lst (ns.map V.int))) else none) (fun b=>?_) (.inl (.inr ⟨{cls:= .type "list",data:= .seq vs.toArray},gG rfl⟩)) (fun b u z=>?_) (fun b z=>?_) fun _=>hk
  ·by_cases hb:b=a
   ·exact .inr ⟨_,_,gG hb⟩
   ·exact .inl (gJ hb)
  ·by_cases hb:b=a
   ·have z':=(gG hb).symm.trans z;cases z';subst hb;exact⟨ha,by rw[jj];exact hl,vs,_,rv,ha⟩
   ·have z':=(gJ hb).symm.trans z;cases z'
  ·by_cases hb:b=a
   ·exact hb
   ·exact absurd (gJ hb) z
theorem RZ{l:PySem.W.OpenLaw}{n k:Nat}{q:hW}{loose:iK}{XP:(Str->Option Value)->Heap->Prop}{YP:World->Heap->Prop}{d:DefRec}{K:Params->PySem.W.Frag}{CX:World->CXT}{sp:World->Sp}{x:Str}
  (hn:l.most=some n)(hn2:n<=sizeLine)(dZ:d.params.defaults=[])(hr:Room k callerA)
  (hY: ∀(w:gU) (h:hV),YP w h->(K w.params).In h)
  (F: ∀(w:gU) (mg:lu) (fa:gz) (h:hV),(K w.params).In h->h.Ns mainGlobals mg->mg d.name=some (.ref fa)->
   ∃fd:FuncData,(∀(s:gC) (u:gQ),BindsTo s fd ⟨[u],[]⟩ [(x,u)])/\
    ∀base:Heap,(K w.params).In base->base.Ns mainGlobals mg->FnOk l.prog w (K w.params) mg base (CX w) k fa fd [x] (sp w))
  (bZ: ∀(w:gU) (H:Hp) (a:gz) (ns:gY),ns.length<=n->RN H->SqL (K w.params) H a (ns.map V.int)->sp w [.ref a] H (fun v _=>v= .bl true) fun _ _ _=>False)
  (gf: ∀(w:gU) (H:Hp) (s:gC) (e:gQ) (s':gC),CX w [] H s (fun _ _ _=>False) e s'->False):
  PySem.W.WalkO q loose XP YP l.row.toRowW d [] (fun f vs=>PySem.call f vs):=by
 refine Att.Ox hn dZ fun w s₀ s₁ mg mb fa o pm cd doc a vs ns G Y ho hd y7 hmg cK hints hlen hg=>?_;have KX:=hY w _ Y;obtain⟨fd,hb,hF⟩:=F w mg fa _ KX G.T.g hmg;exact LW KX G.T.g G.T.b G.T.builtins G.T.nolimit hg cK hints (nF hlen hn2) hr hF hb (fun H hO hS=>bZ w H a ns hlen hO hS) fun H e s'=>gf w H s₁ e s'
noncomputable def rX(s:Stmt):Arguments:=match s with
 | .FunctionDef _ a _ _ _ _ _ _ _ _=>a
 |_=>{posonlyargs:=[],args:=[],vararg:=none,kwonlyargs:=[],kw_defaults:=[],kwarg:=none,defaults:=[]}
noncomputable def nv(s:Stmt):List Stmt:=match s with
 | .FunctionDef _ _ b _ _ _ _ _ _ _=>b
 |_=>[]
noncomputable def gM(s:Stmt):Scope:=match s with
 | .FunctionDef _ _ _ _ _ _ sc _ _ _=>sc
 |_=>{kind:= .function,names:=[],isGenerator:=false,isCoroutine:=false}
abbrev CX0:CXT:=fun _ _ _ _ _ _=>False
abbrev E0:XK:=fun _ _ _=>False
theorem SM{X:Cx}:GZ CX0 X E0:=fun _ _ _ _ _ _ _ h=>h.elim
structure Fun(K:hG)(x qual:Str)(st:Stmt)(f:gz)(fd:og):Prop where
 ex: ∃(oc:gQ) (od:Option Addr) (kV doc pm:gQ) (an:Option Addr) (h8 ct:gQ) (aT:xa),
  fd=PySem.W.fnOf x qual (rX st) (nv st) (gM st) .none kV doc pm an h8 ct/\K.lookup f=some ⟨oc,od,.func fd,aT⟩/\PySem.W.codeIn K h8 qual=true
 kp:PySem.W.keepIn K (.ref f)=true
section
variable {P:hW}{w:gU}{K:hG}{mg:lu}{base:hV}
theorem Fun.ok{x qual:Str}{st:Stmt}{f:gz}{fd:og}{N ps:iK}{k:Nat}{sp:Sp}(F:Fun K x qual st f fd)(S:FnScope N ps (gM st))(len: ∀vs H Q E,sp vs H Q E->vs.length=ps.length)
  (y8: ∀(h8:gQ) (A:gZ) (outer:List Env) (s:gC) (H:Hp) (vs:List V) (Q:VK) (E:XK),Room k (A.deeper (envOfC qual (gM st) s.heap.objs.size f h8))->sp vs H Q E->
   ∃t,PSs (En CX0 P w K mg base N qual (gM st) f h8 A outer s H E).nox (nv st) t/\t {nx:=fun _ H'=>Q .non H',rt:=Q} (qi N vs) H):FnOk P w K mg base CX0 (k+1) f fd ps sp:=by
 obtain⟨oc,od,kV,doc,pm,an,h8,ct,aT,rfl,lk,y7⟩:=F.ex;refine Th lk y7 S len fun A outer s H vs Q E hr bZ=>?_;obtain⟨t,h,q⟩:=y8 h8 A outer s H vs Q E hr bZ;exact⟨t,h.nox,q⟩
theorem Fun.binds{x qual:Str}{st:Stmt}{f:gz}{fd:og}{ps:iK}(F:Fun K x qual st f fd)
  (h: ∀(kV doc pm:gQ) (an:Option Addr) (h8 ct:gQ) (us:iV),us.length=ps.length->bindArgs (PySem.W.fnOf x qual (rX st) (nv st) (gM st) .none kV doc pm an h8 ct) ⟨us,[]⟩=pure (ps.zip us)):Binds K fd ps []:=by
 obtain⟨oc,od,kV,doc,pm,an,h8,ct,aT,rfl,lk,y7⟩:=F.ex;exact .all (h kV doc pm an h8 ct)
theorem Rq{x qual:Str}{st:Stmt}{f:gz}{oc:gQ}{od an:Option Addr}{aT:xa}{kV doc pm h8 ct:gQ}(l:K.lookup f=some ⟨oc,od,.func (PySem.W.fnOf x qual (rX st) (nv st) (gM st) .none kV doc pm an h8 ct),aT⟩)
  (c:PySem.W.codeIn K h8 qual=true)(k:PySem.W.keepIn K (.ref f)=true):Fun K x qual st f (PySem.W.fnOf x qual (rX st) (nv st) (gM st) .none kV doc pm an h8 ct):=⟨⟨oc,od,kV,doc,pm,an,h8,ct,aT,rfl,l,c⟩,k⟩
end
section
variable {X:Cx}
end
theorem S7{A B:Prop}(h:B):if false=true then A else B:=by
 rw[gJ jk];exact h
theorem S6{A B:Prop}(h:A):if true=true then A else B:=by
 rw[gG rfl];exact h
def Same(H H':Hp):Prop:= ∀b o,H b=some o->H' b=some o
theorem Same.refl(H:Hp):Same H H:=fun _ _ h=>h
theorem Same.trans{H H1 H2:Hp}(a:Same H H1)(b:Same H1 H2):Same H H2:=fun c o h=>b c o (a c o h)
theorem uI(env:Env): ∀(l:List (Str×NameKind)) (cs:qo),(∀x∈l,x.2= .free-> ∃c,env.cells.lookup x.1=some c)->(∀x c,cs.lookup x=some c->env.cells.lookup x=some c)->
  ∃cl,(forIn l cs fun x r=>if x.2==NameKind.free then do let a <-cellOf env x.1;pure (ForInStep.yield ((x.1,a)::r)) else pure (ForInStep.yield r))=(pure cl:Sem (List (Str×Addr)))/\
   (∀x c,cl.lookup x=some c->env.cells.lookup x=some c)/\(∀x,(x,NameKind.free)∈l-> ∃c,cl.lookup x=some c)/\ ∀x c,cs.lookup x=some c-> ∃c,cl.lookup x=some c
 |[],cs,_,hc=>⟨cs,rfl,hc,fun x h=>by simp at h,fun x c h=>⟨c,h⟩⟩
 |(n,k)::l,cs,h,hc=>by
  by_cases hk:k= .free
  ·subst hk;obtain⟨c,e⟩:=h (n,.free) iX rfl;have e':env.cells.lookup n=some c:=e
   obtain⟨cl,h1,h2,h3,h4⟩:=uI env l ((n,c)::cs) (fun x hx=>h x (je _ hx)) (fun x d hx=>by
    rw[oh] at hx
    cases hb:x==n with
    |true=>rw[hb] at hx;have:=qD hb;subst this;cases hx;exact e'
    |false=>rw[hb] at hx;exact hc x d hx)
   refine⟨cl,?_,h2,fun x hx=>?_,fun x d hx=>?_⟩
   ·rw[yv];have:cellOf env n=pure c:=by unfold cellOf;rw[e']
    simp only[this,pure_bind,beq_self_eq_true,iE];exact h1
   ·rcases jC.mp hx with z|z
    ·cases z;exact h4 n c (by simp[oh])
    ·exact h3 x z
   ·cases hb:x==n with
    |true=>have:=qD hb;subst this;exact h4 x c (by simp[oh])
    |false=>exact h4 x d (by rw[oh,hb];exact hx)
  ·obtain⟨cl,h1,h2,h3,h4⟩:=uI env l cs (fun x hx=>h x (je _ hx)) hc;have hb:(k==NameKind.free)=false:=by simpa using hk
   refine⟨cl,?_,h2,fun x hx=>?_,h4⟩
   ·rw[yv];simp only[hb,iO,jb,pure_bind];exact h1
   ·rcases jC.mp hx with z|z
    ·cases z;exact absurd rfl hk
    ·exact h3 x z
theorem zK(env:Env)(scope:jV)(h: ∀x∈scope.names,x.2= .free-> ∃c,env.cells.lookup x.1=some c):
  ∃cl,closureFor scope env=pure cl/\(∀x c,cl.lookup x=some c->env.cells.lookup x=some c)/\ ∀x,(x,NameKind.free)∈scope.names-> ∃c,cl.lookup x=some c:=by
 obtain⟨cl,h1,h2,h3,_⟩:=uI env scope.names [] h (fun x c hx=>by simp at hx);refine⟨cl,?_,h2,h3⟩;unfold closureFor;have:(forIn scope.names ([]:List (Str×Addr)) fun x r=>if x.2==NameKind.free then do let a <-cellOf env x.1;pure (ForInStep.yield ((x.1,a)::r)) else pure (ForInStep.yield r))=(pure cl:Sem (List (Str×Addr))):=h1
 first
  |exact(pZ (· >>=fun r=>pure r) this).trans (pure_bind _ _)
  |(simp only[bind_pure];exact this)
  |exact this
noncomputable def Cx.comp(X:Cx)(N':iK)(scope:jV)(cl:qo)(C:gz)(s3:gC)(H3:Hp)(fp:jW)(pins:iq):Cx:=
 {X with N:=N',s₀:=s3,H₀:=H3,env:=compEnvC scope cl C X.env,outer:=X.stack,stack:=X.stack,ex:=fp,fn:=fun _=>false,pn:=X.pn++pins,xe:=fun _ _=>False}
abbrev TB:=St->Hp->(St->Hp->Prop)->Prop
def PB(X:Cx)(code:Sem Unit)(t:TB):Prop:=
 ∀(pins:iq) (s:gC) (σ:St) (H:Hp) (N:St->Hp->Prop),Inv X pins σ H s->t σ H N->
  wpAny (model X.prog X.w) X.A code (fun _ s'=> ∃σ' H',Inv X pins σ' H' s'/\N σ' H') X.xe s
def PIf(X:Cx)(ifs:jF)(t:TT):Prop:=
 ∀(pins:iq) (s:gC) (σ:St) (H:Hp) (Q:Bool->Hp->Prop),Inv X pins σ H s->t σ H Q->
  wpAny (model X.prog X.w) X.A (forIn ifs true fun c r=>if r=true then do let ok <-isTrue c X.env (eval c X.env);pure (ForInStep.yield ok) else pure (ForInStep.yield r)) (TP X pins σ Q) X.xe s
noncomputable def R6:TT:=fun _ H Q=>Q true H
section
variable {X:Cx}
theorem NP:PIf X [] R6:=fun pins s σ H Q I h=>wpAny_tests_nil ⟨H,I,h⟩
theorem NO{c:gR}{t:TT}(h:PT X c t):PIf X [c] t:=fun pins s σ H Q I hw=>wpAny_tests_one (h pins s σ H Q I hw)
noncomputable def ja(e:gR)(depth:Nat)(acc:gQ)(env:Env):Sem Unit:=
 match(clausesOf e)[depth+1]? with
 |some g'=>do
  let x <-eval g'.iter env
  standAt g'.iter.pos
  let x <-foldedSetIterable g'.iter env x
  let _ <-runOwn (.compStart e (depth+1) (<-holding [x] (pyIter x)) acc env) env
 |none=>match e with
  | .ListComp elt _ _ _=>do let _ <-call (.builtin "list.append") [acc,<-eval elt env]
  | .SetComp elt _ _ _=>do let v <-eval elt env;standAt elt.pos;let _ <-call (.builtin "set.add") [acc,v]
  |_=>unsupported "no"
def He(J:It)(g:TG)(ti:TT)(tb:TB):TB:=fun σ H N=> ∃W:Nat->Nat->St->Hp->Prop,(∃m,W 0 m σ H)/\ ∀i m σ H,W i m σ H->
 (J.stop i H/\N σ H)\/(J.go i H/\ ∀x H',J.yld i H x H'->g x σ H' fun σ2 H2=>ti σ2 H2 fun b H3=>if b=true then tb σ2 H3 fun σ4 H4=> ∃m',m'<m/\W (i+1) m' σ4 H4 else ∃m',m'<m/\W (i+1) m' σ2 H3)
theorem CT(e:gR)(depth:Nat)(it acc:gQ)(env:Env)(g:oP)(hl:(∃elt gens sc p,e= .ListComp elt gens sc p)\/(∃elt gens sc p,e= .SetComp elt gens sc p))
  (hg:(clausesOf e)[depth]?=some g)(ha:g.is_async=0)(q9: ∀g',(clausesOf e)[depth+1]?=some g'->g'.is_async=0):
  compTurn e depth it acc env=(do
   standAt g.iter.pos
   match <-pyNext it with
   |none=>pure (.done .next)
   |some v=>
    letOwnedTupleGo g.target it v
    assign g.target env v
    let ok <-forIn g.ifs true fun c r=>if r=true then do let ok <-isTrue c env (eval c env);pure (ForInStep.yield ok) else pure (ForInStep.yield r)
    if ok=true then ja e depth acc env
    again (.compLoop e depth it acc env)):=by
 rcases hl with⟨elt,gens,sc,p,rfl⟩|⟨elt,gens,sc,p,rfl⟩
 ·have du:gens[depth]?=some g:=hg;unfold compTurn ja;simp only[clausesOf] at hg q9 ⊢;rw[du];simp only[ha]
  cases hn:gens[depth+1]? with
  |none=>rfl
  |some g'=>
   have:=q9 g' hn;simp only[this,uR,iO,jb]
   congr 1;funext _;congr 1;funext r
   cases r with
   |none=>rfl
   |some v=>
    dsimp only
    congr 1;funext _;congr 1;funext _;congr 1;funext ok
    cases ok with
    |false=>rfl
    |true=>simp only[iE,qC];rfl
 ·have du:gens[depth]?=some g:=hg;unfold compTurn ja;simp only[clausesOf] at hg q9 ⊢;rw[du];simp only[ha]
  cases hn:gens[depth+1]? with
  |none=>rfl
  |some g'=>
   have:=q9 g' hn;simp only[this,uR,iO,jb]
   congr 1;funext _;congr 1;funext r
   cases r with
   |none=>rfl
   |some v=>
    dsimp only
    congr 1;funext _;congr 1;funext _;congr 1;funext ok
    cases ok with
    |false=>rfl
    |true=>simp only[iE,qC];rfl
theorem Mp 
  (hl:(∃elt gens sc p,e= .ListComp elt gens sc p)\/(∃elt gens sc p,e= .SetComp elt gens sc p))
  (h:wpAny (model prog w) A ((compTurn e depth it acc env).onRaise (fun x=>do noteFrame x env;theTreesLotGoes x)) Q E s):
  wpAny (model prog w) (A.under (.compLoop e depth it acc env)) ((model prog w).den (.compLoop e depth it acc env)) Q E s:=by
 rcases hl with⟨elt,gens,sc,p,rfl⟩|⟨elt,gens,sc,p,rfl⟩
 ·exact h
 ·exact h
theorem HA{e:gR}{depth:Nat}{acc:gQ}{c:oP}{g:TG}{ti:TT}{tb:TB}{J:It}{fp:jW}{it:gz}{tn:Nat->Heap->Prop}(cC:X.xe=fun _ _=>False)(hc:X.calm=true)
  (hl:(∃elt gens sc p,e= .ListComp elt gens sc p)\/(∃elt gens sc p,e= .SetComp elt gens sc p))(hg:(clausesOf e)[depth]?=some c)(ha:c.is_async=0)(q9: ∀g',(clausesOf e)[depth+1]?=some g'->g'.is_async=0)
  (T:Turn X.prog X.w X.K c.target J fp it tn)(pg:PG X c.target g)(bK:PIf X c.ifs ti)(pb:PB X (ja e depth acc X.env) tb)
  {pins:iq}{s:gC}{σ:St}{H:Hp}{N:St->Hp->Prop}(I:Inv X pins σ H s)(f2: ∀b∈fp,rm X pins H b)(st:tn 0 s.heap)(h:He J g ti tb σ H N):
  codeAny (model X.prog X.w) X.A (.compLoop e depth (.ref it) acc X.env) (fun r s'=>r= .ok .next/\ ∃σ' H',Inv X pins σ' H' s'/\(∀b∈fp,H' b=none)/\N σ' H') s:=by
 obtain⟨W,⟨m0,w0⟩,turn⟩:=h;have ae: ∀{H':Hp},(∀b∈fp,H' b=none)-> ∀b∈fp,rm X pins H' b:=fun hn b hb=>⟨hn b hb,(f2 b hb).2⟩
 have F2: ∀{α:Type} {t:Sem α} {Q:α->Shared->Prop} {E:il} {s:gC},wpAny (model X.prog X.w) X.A t Q X.xe s->wpAny (model X.prog X.w) X.A t Q E s:=fun h=>qa h (fun _ _ x=>x) fun _ _ z=>by rw[cC] at z;exact z.elim
 refine codeAny_loop rfl (fun n s'=> ∃i σ' H',Inv X pins σ' H' s'/\tn i s'.heap/\(∀b∈fp,H' b=none)/\W i n σ' H') (fun n s3 hI=>?_) m0 ⟨0,σ,H,I,st,fun b hb=>(f2 b hb).1,w0⟩;refine Mp hl ?_;refine wpAny_noted ?_;rw[CT e depth (.ref it) acc X.env c hl hg ha q9];obtain⟨i,σ3,H3,I3,m5,dz,w3⟩:=hI;refine gx (yA ?_);rcases turn i n σ3 H3 w3 with⟨stop,qn⟩|⟨go,step⟩
 ·refine gx (thn (T.done X rfl rfl rfl hc i pins s3 σ3 H3 _ I3 (ae dz) m5 stop) fun r s4 ⟨hr,I4⟩=>?_);subst hr;exact gO ⟨rfl,σ3,H3,I4,dz,qn⟩
 ·refine gx (thn (T.item X rfl rfl rfl hc i pins s3 σ3 H3 _ I3 (ae dz) m5 go) fun r s4 ⟨u,hr,h4⟩=>?_);subst hr;refine gx (thn h4 fun _ s5 ⟨x,H5,I5,r5,y5,bH,gi⟩=>?_);have gr:=I5.pinned (ae gi) (T.obj _ _ bH);refine gx (thn (F2 (pg _ s5 σ3 H5 x u _ gr r5 (step x H5 y5))) fun _ s6 ⟨σ6,H6,I6,q6⟩=>?_);refine gx (thn (F2 (bK _ s6 σ6 H6 _ I6 q6)) fun ok s7 ⟨H7,I7,q7⟩=>?_)
  have again: ∀{s8:gC} {σ8:St} {H8:Hp},Inv X (pins++yU fp s5.heap) σ8 H8 s8->(∃m',m'<n/\W (i+1) m' σ8 H8)-> ∃m,m<n/\ ∃i σ' H',Inv X pins σ' H' s8/\tn i s8.heap/\(∀b∈fp,H' b=none)/\W i m σ' H':=fun {s8 σ8 H8} I8 ⟨m',hm,w8⟩=>by
   refine⟨m',hm,i+1,σ8,H8,I8.unpinned,T.keep _ _ _ bH fun b hb o e=>(I8.pin (b,o) (oU _ (oU _ (pM hb e)))).1,fun b hb=>?_,w8⟩;obtain⟨o,e,d⟩:=T.obj _ _ bH b hb;exact(I8.pin (b,o) (oU _ (oU _ (pM hb e)))).2.1
  cases ok with
  |false=>
   rw[gJ jk] at q7;exact gO ⟨rfl,again I7 q7⟩
  |true=>
   rw[gG rfl] at q7;simp only[iE];refine gx (thn (F2 (pb _ s7 σ6 H7 _ I7 q7)) fun _ s8 ⟨σ8,H8,I8,q8⟩=>?_);exact gO ⟨rfl,again I8 q8⟩
def Sa(d:gz)(te:TE):TB:=fun σ H N=>te σ H fun y H1=> ∃ys,H1 d=some (.lst ys)/\ys.length<sizeLine/\N σ (upd H1 d (.lst (ys++[y])))
theorem NZ{elt:gR}{gens:qm}{sc:jV}{p:Pos}{depth:Nat}{d:gz}{te:TE}(hn:gens[depth+1]?=none)(he:PE X elt te):PB X (ja (.ListComp elt gens sc p) depth (.ref d) X.env) (Sa d te):=by
 intro pins s σ H N I h
 have e1:ja (.ListComp elt gens sc p) depth (.ref d) X.env=(do let _ <-call (.builtin "list.append") [.ref d,<-eval elt X.env]):=by
  unfold ja;simp only[clausesOf];rw[hn]
 rw[e1];refine gx (thn (he pins s σ H _ I h) fun u s1 ⟨y,H1,I1,ru,ys,hd,hz,q⟩=>?_);obtain⟨z,b6,n,r,hl,e⟩:=I1.lstM hd;refine gx (BU F.slot_list_append ⟨_,e,rfl⟩ JX (JW _ _) (PySem.list_append d b6.toArray n u (by rw[iD];omega)) ⟨e,?_⟩);refine gO ⟨σ,_,I1.lset (its':=b6++[u]) hd e (by simp) (r.append (.cons ru .nil)) ?_,q⟩;rw[mq,yw];omega
theorem Dt{prog:hW}{w:gU}{A:gZ}{e:gR}{depth:Nat}{it acc:gQ}{env:Env}{R:Result->Shared->Prop}{s:gC}{c:oP}
  (hl:(∃elt gens sc p,e= .ListComp elt gens sc p)\/(∃elt gens sc p,e= .SetComp elt gens sc p))(hg:(clausesOf e)[depth]?=some c)(ha:c.is_async=0)
  (h0:codeAny (model prog w) A (.compLoop e depth it acc env) R s)
  (self: ∀(Q:il) (E:il),Q it s->wpAny (model prog w) A (pyIter it) Q E s):
  codeAny (model prog w) A (.compStart e depth it acc env) R s:=by
 have core:wpAny (model prog w) A (compStart e depth it acc env) (fun fin s'=>match fin with| .done f=>R (.ok f) s'| .again c'=>c'.quiet=true/\codeAny (model prog w) A c' R s') (notedBy (model prog w) A env fun x s'=>R (.error x) s') s:=by
  unfold compStart;rw[hg];simp only[Option.elim,ha,uR,iO,jb];refine gx (wo (wpAny_ite ?_));split
  ·first
    |exact gx (gO (gO (And.intro rfl h0)))
    |exact gO (And.intro rfl h0)
  ·exact gx (uQ (gx (yA (gx (self _ _ (gO (And.intro rfl h0)))))))
 rcases hl with⟨elt,gens,sc,p,rfl⟩|⟨elt,gens,sc,p,rfl⟩
 ·refine yu ?_;show wpAny _ A ((compStart (.ListComp elt gens sc p) depth it acc env).onRaise (fun x=>do noteFrame x env;standAt theWindowsPlace)) _ _ s;exact wpAny_notedAt core
 ·refine yu ?_;show wpAny _ A ((compStart (.SetComp elt gens sc p) depth it acc env).onRaise (fun x=>do noteFrame x env;standAt theWindowsPlace)) _ _ s;exact wpAny_notedAt core
noncomputable def Kt(wi:TI)(g:TG)(ti:TT)(tb:TB):TB:=fun σ H N=>wi σ H fun J H1=>He J g ti tb σ H1 N
theorem QV{e:gR}{depth:Nat}{acc:gQ}{c:oP}{wi:TI}{g:TG}{ti:TT}{tb:TB}(cC:X.xe=fun _ _=>False)(hc:X.calm=true)
  (hl:(∃elt gens sc p,e= .ListComp elt gens sc p)\/(∃elt gens sc p,e= .SetComp elt gens sc p))(hg:(clausesOf e)[depth+1]?=some c)(ha:c.is_async=0)(q9: ∀g',(clausesOf e)[depth+1+1]?=some g'->g'.is_async=0)
  (hs: ∀x,foldedSetIterable c.iter X.env x=pure x)(pi:PI X c.target c.iter wi)(pg:PG X c.target g)(bK:PIf X c.ifs ti)(pb:PB X (ja e (depth+1) acc X.env) tb):
  PB X (ja e depth acc X.env) (Kt wi g ti tb):=by
 intro pins s σ H N I h
 have e1:ja e depth acc X.env=(do
  let x <-eval c.iter X.env
  standAt c.iter.pos
  let x <-foldedSetIterable c.iter X.env x
  let _ <-runOwn (.compStart e (depth+1) (<-holding [x] (pyIter x)) acc X.env) X.env):=by
  unfold ja;rw[hg]
 rw[e1];refine gx (thn (pi pins s σ H _ I h) fun v s1 h1=>gx (yA (gx (pX (hs v) (gx (mQ (thn h1 fun dN s2 h2=>?_)))))));obtain⟨it,fp,tn,J,H2,rfl,I2,T,i3,f2,hw⟩:=h2;refine gx (wpAny_runOwn ?_);refine Dt hl hg ha ?_ (fun Q E hq=>T.self X.A 0 s2 Q E i3 hq);refine qE (HA cC hc hl hg ha q9 T pg bK pb I2 f2 i3 hw) fun r s3 hr=>?_;obtain⟨rfl,σ3,H3,I3,_,q⟩:=hr;exact gO ⟨σ3,H3,I3,q⟩
end
theorem mS{env:Env}: ∀{names:List (Str×NameKind)} {x:Str},names.lookup x=some .free->
  (names.map fun(n,k)=>if(k==NameKind.free&&env.scope.kind== .function&&env.kindOf n==some .cell) then(n,NameKind.cell) else(n,k)).lookup x=some .cell\/
  (names.map fun(n,k)=>if(k==NameKind.free&&env.scope.kind== .function&&env.kindOf n==some .cell) then(n,NameKind.cell) else(n,k)).lookup x=some .free
 |[],_,h=>by simp at h
 |(n,k)::r,x,h=>by
  have ih:= @mS env r x;rw[iN]
  cases hx:x==n with
  |true=>
   simp only[oh,hx] at h;cases h;by_cases hc:(NameKind.free==NameKind.free&&env.scope.kind== .function&&env.kindOf n==some .cell)=true
   ·left;simp only[hc,iE,oh,hx]
   ·right;simp only[hc,jb,oh,hx,iO]
  |false=>
   simp only[oh,hx] at h;by_cases hc:(k==NameKind.free&&env.scope.kind== .function&&env.kindOf n==some .cell)=true
   ·simp only[hc,iE,oh,hx];exact ih h
   ·simp only[hc,jb,oh,hx,iO];exact ih h
theorem jU{env:Env}: ∀{names:List (Str×NameKind)} {x:Str} {k':NameKind},
  (names.map fun(n,k)=>if(k==NameKind.free&&env.scope.kind== .function&&env.kindOf n==some .cell) then(n,NameKind.cell) else(n,k)).lookup x=some k'-> ∃k,(x,k)∈names/\(k=k'\/k= .free)
 |[],_,_,h=>by simp at h
 |(n,k)::r,x,k',h=>by
  rw[iN] at h
  cases hx:x==n with
  |true=>
   have e:=qD hx;subst e;by_cases hc:(k==NameKind.free&&env.scope.kind== .function&&env.kindOf x==some .cell)=true
   ·refine⟨k,iX,.inr ?_⟩
    have h1:(k==NameKind.free)=true:=by
     cases hk:(k==NameKind.free) with
     |true=>rfl
     |false=>rw[hk] at hc;simp at hc
    exact qD h1
   ·simp only[hc,jb,oh,hx,iO] at h;exact⟨k,iX,.inl (by simpa using h)⟩
  |false=>
   by_cases hc:(k==NameKind.free&&env.scope.kind== .function&&env.kindOf n==some .cell)=true
   ·simp only[hc,iE,oh,hx] at h;obtain⟨k2,h1,h2⟩:=jU h;exact⟨k2,je _ h1,h2⟩
   ·simp only[hc,jb,oh,hx,iO] at h;obtain⟨k2,h1,h2⟩:=jU h;exact⟨k2,je _ h1,h2⟩
structure CompScope(X:Cx)(N':iK)(scope:jV)(pre:St->St):Prop where
 cell: ∀y∈scope.names,y.2≠ .cell
 kind:scope.kind= .function
 names: ∀y∈scope.names,y.2= .local->scope.names.lookup y.1=some .local
 free: ∀y∈scope.names,y.2= .free->X.env.scope.names.lookup y.1=some .cell\/X.env.scope.names.lookup y.1=some .free
 len: ∀σ:St,(pre σ).length=N'.length
 pre: ∀(σ:St) (i:Nat) (v:V) (x:Str),(pre σ)[i]?=some (some v)->N'[i]?=some x->scope.names.lookup x=some .free/\ ∃j:Nat,X.N[j]?=some x/\σ[j]?=some (some v)
section
variable {X:Cx}
theorem Ot{N':iK}{scope:jV}{pre:St->St}(S:CompScope X N' scope pre){pins:iq}{s3:gC}{σ:St}{H3:Hp}{fp:jW}{cl:qo}{h':hV}{t':Nat}(I:Inv X pins σ H3 s3)
  (o9: ∀x c,cl.lookup x=some c->X.env.cells.lookup x=some c)(m8: ∀x,(x,NameKind.free)∈scope.names-> ∃c,cl.lookup x=some c)
  (ff: ∀b∈fp,rm X pins H3 b)(fo: ∀b∈fp,b<s3.heap.objs.size)
  (dh:h'.Ns s3.heap.objs.size (fun _=>none))(hk: ∀b o,s3.heap.get? b=some o->h'.get? b=some o):
  Inv (X.comp N' scope cl s3.heap.objs.size s3 H3 fp pins) [] (pre σ) H3 {s3 with heap:=h',toks:=t'}:=by
 have hfr: ∀b∈frs X.stack,H3 b=none:=I.stkFree;have nfs: ∀b,b≠X.env.locals->b∉X.fs->b∉frs X.stack:=fun b h1 h2 z=>(jC.mp (I.stkSub b z)).elim h1 h2
 refine⟨⟨I.ok.mod,?_,I.ok.glob,I.ok.blt,ir _,fun x y c h1 h2=>I.ok.inj x y c (o9 x c h1) (o9 y c h2),fun x hx=>?_,fun x c hf _=>absurd hf (by simp[Cx.comp]),I.ok.hd,I.ok.frames,.inl rfl,fun b hb=>?_,
  I.bs,nF I.ok.bsz I.sz,fun b o e hb=>?_,fun b hb=>nfs b (ff b hb).2.1 (ff b hb).2.2.1,I.stack,hfr⟩,rfl,I.bare,Un.kept hk,⟨_,dh,fun i x v h1 h2 h3=>?_⟩,fun x c hx=>?_,I.hok.fresh (ir _),fun x c hx=>I.freeC x c (o9 x c hx),fun p hp=>?_,I.hok.kept hk,S.len σ⟩
 ·show(relabel scope X.env).kind= .function;simp[relabel,S.kind]
 ·
  have bY:(relabel scope X.env).names.lookup x=some .cell\/(relabel scope X.env).names.lookup x=some .free:=hx
  have:(x,NameKind.free)∈scope.names:=by
   rcases bY with z|z
   ·obtain⟨k,h1,h2⟩:=jU z;rcases h2 with h2|h2
    ·subst h2;exact absurd rfl (S.cell _ h1)
    ·subst h2;exact h1
   ·obtain⟨k,h1,h2⟩:=jU z;rcases h2 with h2|h2<;>(subst h2;exact h1)
  exact m8 x this
 ·exact⟨iL (fo b hb),fun x c hx=>(ff b hb).2.2.2.2.1 x c (o9 x c hx)⟩
 ·
  have t6:b∈fp:=hb;rcases(ff b t6).2.2.2.1 with z|z
  ·exact I.ok.noex b o e z
  ·exact absurd (mR (iu e) (nF I.ok.bsz z)) (oi _)
 ·obtain⟨hf,j,hj,hv⟩:=S.pre σ i v x h2 h1;obtain⟨m,hn,hl⟩:=I.loc;have n6:=S.free (x,.free) (uf hf) rfl;obtain⟨u,r,l⟩:=hl j x v hj hv (by rcases n6 with z|z;exact .inr (.inl z);exact .inr (.inr z));refine⟨u,r,.inr ⟨mS hf,?_⟩⟩;rcases l with⟨dk,_⟩|⟨_,c,hc,aw⟩
  ·have fO:X.env.scope.names.lookup x=some .local:=dk;rcases n6 with z|z<;>(have z':X.env.scope.names.lookup x=_:=z;rw[fO] at z';cases z')
  ·obtain⟨c',cU⟩:=m8 x (uf hf);have:=o9 x c' cU;rw[hc] at this;cases this;exact⟨c,cU,aw.keeps hk⟩
 ·obtain⟨v,hv⟩:=I.cell x c (o9 x c hx);exact⟨v,hv.keeps hk⟩
 ·have cH:p∈X.pn++pins:=by simpa[Cx.comp] using hp
  obtain⟨e,n,h1,h2,h3⟩:=I.pin p cH;exact⟨hk _ _ e,n,iL (iu e),nfs _ h1 h2,h3⟩
theorem Es{N':iK}{scope:jV}{pins:iq}{s3 s4:gC}{σ σ':St}{H3 H4:Hp}{fp:jW}{cl:qo}{h':hV}(I:Inv X pins σ H3 s3)(ff: ∀b∈fp,rm X pins H3 b)
  (J:Inv (X.comp N' scope cl s3.heap.objs.size s3 H3 fp pins) [] σ' H4 s4)(hs:Heap.SameBut s3.heap.objs.size s4.heap h'):Inv X pins σ H4 {s4 with heap:=h'}:=by
 have K:=I.call' (s':=s4) (ch:=fp) J.os J.base J.hok J.bare fun b hb=>⟨(ff b hb).2.2.2.1,(ff b hb).2.1,(ff b hb).2.2.2.2.1,(ff b hb).2.2.2.2.2⟩
 have fA:X.env.locals<s3.heap.objs.size:=I.lt;refine K.turned (it:=s3.heap.objs.size) (t':=s4.toks) (fun b o hb e=>by rw[hs.2 b hb];exact e) J.free (qu fA) (.inr I.sz) (fun x c hx z=>?_) (fun p hp z=>?_)
 ·obtain⟨v,o,e,_⟩:=I.cell x c hx;exact absurd (iu e) (by rw[z];exact oi _)
 ·obtain⟨e,_⟩:=I.pin p hp;exact absurd (iu e) (by rw[z];exact oi _)
def Sf(J:It)(g:TG)(ti:TT)(tb:Addr->TB)(pre:St->St)(σ:St)(H:Hp)(Q:VK):Prop:=
 ∀d,H d=none->He J g ti (tb d) (pre σ) (upd H d (.lst [])) fun _ H2=>Q (.ref d) H2
theorem Er{elt:gR}{c:oP}{hZ:qm}{scope:jV}{pos:Pos}{N':iK}{pre:St->St}{g:TG}{ti:TT}{tb:Addr->TB}{cl:qo}{J:It}{fp:jW}{it:gz}{tn:Nat->Heap->Prop}
  (S:CompScope X N' scope pre)(hc:X.calm=true)(ha:c.is_async=0)(q9: ∀g',hZ[0]?=some g'->g'.is_async=0)
  (aH: ∀(C:gz) (s3:gC) (H3:Hp) (fp:jW) (pins:iq),let X':=X.comp N' scope cl C s3 H3 fp pins
   PG X' c.target g/\PIf X' c.ifs ti/\ ∀d,PB X' (ja (.ListComp elt (c::hZ) scope pos) 0 (.ref d) X'.env) (tb d))
  (o9: ∀x c,cl.lookup x=some c->X.env.cells.lookup x=some c)(m8: ∀x,(x,NameKind.free)∈scope.names-> ∃c,cl.lookup x=some c)
  {pins:iq}{s2:gC}{σ:St}{H2:Hp}{Q:VK}{E:il}{RR:Value->Addr->Result->Shared->Prop}(I2:Inv X pins σ H2 s2)(T:Turn X.prog X.w X.K c.target J fp it tn)(i3:tn 0 s2.heap)(f2: ∀b∈fp,rm X pins H2 b)
  (h:Sf J g ti tb pre σ H2 Q)
  (hRR: ∀(d:gz) (s3:gC) (H3 H4:Hp) (σ':St) (s4:gC),Inv X pins σ H3 s3->(∀b∈fp,rm X pins H3 b)->Inv (X.comp N' scope cl s3.heap.objs.size s3 H3 fp pins) [] σ' H4 s4->Q (.ref d) H4->RR (.ref d) s3.heap.objs.size (.ok .next) s4):
  wpAny (model X.prog X.w) X.A (newList []) (fun acc s₃=>wpAny (model X.prog X.w) X.A (newFunctionEnv scope X.env.globals cl [] X.env.qual none .none (some X.env)) (fun cenv s₄=>
   codeAny (model X.prog X.w) X.A (.compStart (.ListComp elt (c::hZ) scope pos) 0 (.ref it) acc {cenv with scope:=relabel scope X.env}) (RR acc cenv.locals) s₄) E s₃) E s2:=by
 have I3:Inv X pins σ (upd H2 s2.heap.objs.size (.lst [])) {s2 with heap:=s2.heap.push {cls:= .type "list",data:= .seq ([]:List Value).toArray}}:=I2.lnew (t':=s2.toks) .nil (by simp);have fo: ∀b∈fp,b<s2.heap.objs.size:=fun b hb=>by obtain⟨o,e,_⟩:=T.obj _ _ i3 b hb;exact iu e
 have ff: ∀b∈fp,rm X pins (upd H2 s2.heap.objs.size (.lst [])) b:=fun b hb=>⟨by rw[iI (iL (fo b hb))];exact(f2 b hb).1,(f2 b hb).2⟩
 refine mn ?_;refine wpAny_newFunctionEnv S.cell (by intro y hy;simp at hy) (fun h1 dh aY=>?_) S.kind
 have hk: ∀b o,(s2.heap.push {cls:= .type "list",data:= .seq ([]:List Value).toArray}).get? b=some o->h1.get? b=some o:=fun b o e=>by
  have j0:=iu e;rw[aY.2 b (iL j0)];exact iF _ e
 have hfo: ∀b∈fp,b<(s2.heap.push {cls:= .type "list",data:= .seq ([]:List Value).toArray}).objs.size:=fun b hb=>by rw[uP];exact qB (fo b hb)
 have J0:=Ot (t':=s2.toks+([]:List (Str×Value)).length) S I3 o9 m8 ff hfo (by simpa using dh) hk;obtain⟨pg,bK,pb⟩:=aH (s2.heap.push {cls:= .type "list",data:= .seq ([]:List Value).toArray}).objs.size {s2 with heap:=s2.heap.push {cls:= .type "list",data:= .seq ([]:List Value).toArray}} (upd H2 s2.heap.objs.size (.lst [])) fp pins;have u6:tn 0 h1:=T.keep _ _ _ i3 fun b hb o e=>hk b o (iF _ e);have hw:=h s2.heap.objs.size (I2.hok.fresh (ir _))
 have ff': ∀b∈fp,rm (X.comp N' scope cl (s2.heap.push {cls:= .type "list",data:= .seq ([]:List Value).toArray}).objs.size {s2 with heap:=s2.heap.push {cls:= .type "list",data:= .seq ([]:List Value).toArray}} (upd H2 s2.heap.objs.size (.lst [])) fp pins) []
   (upd H2 s2.heap.objs.size (.lst [])) b:=fun b hb=>by
  obtain⟨z1,z2,z3,z4,z5,z6⟩:=ff b hb;refine⟨z1,iL (hfo b hb),fun z=>(jC.mp (I3.stkSub b z)).elim z2 z3,.inl hb,fun x c hx=>z5 x c (o9 x c hx),fun p hp=>z6 p (by simpa[Cx.comp] using hp)⟩
 have hl:(∃el gens sc p,Expr.ListComp elt (c::hZ) scope pos= .ListComp el gens sc p)\/(∃el gens sc p,Expr.ListComp elt (c::hZ) scope pos= .SetComp el gens sc p):= .inl ⟨_,_,_,_,rfl⟩;refine Dt hl rfl ha ?_ (fun Q' E' hq=>T.self X.A 0 _ Q' E' u6 hq)
 refine qE (HA (X:=X.comp N' scope cl (s2.heap.push {cls:= .type "list",data:= .seq ([]:List Value).toArray}).objs.size {s2 with heap:=s2.heap.push {cls:= .type "list",data:= .seq ([]:List Value).toArray}} (upd H2 s2.heap.objs.size (.lst [])) fp pins)
  (depth:=0) (acc:= .ref s2.heap.objs.size) rfl hc hl rfl ha (fun g' w6=>q9 g' (by simpa[clausesOf] using w6)) T pg bK (pb _) J0 ff' u6 hw) fun r s4 hr=>?_
 obtain⟨rfl,σ4,H4,I4,_,q⟩:=hr;exact hRR _ _ _ _ _ _ I3 ff I4 q
noncomputable def Ku(wi:TI)(g:TG)(ti:TT)(tb:Addr->TB)(pre:St->St):TE:=fun σ H Q=>wi σ H fun J H1=>Sf J g ti tb pre σ H1 Q
theorem Lq{elt:gR}{c:oP}{hZ:qm}{scope:jV}{pos:Pos}{N':iK}{pre:St->St}{wi:TI}{g:TG}{ti:TT}{tb:Addr->TB}
  (S:CompScope X N' scope pre)(hc:X.calm=true)(ha:c.is_async=0)(q9: ∀g',hZ[0]?=some g'->g'.is_async=0)
  (hs: ∀x,foldedSetIterable c.iter X.env x=pure x)(pi:PI X c.target c.iter wi)
  (aH: ∀(cl:qo) (C:gz) (s3:gC) (H3:Hp) (fp:jW) (pins:iq),let X':=X.comp N' scope cl C s3 H3 fp pins
   PG X' c.target g/\PIf X' c.ifs ti/\ ∀d,PB X' (ja (.ListComp elt (c::hZ) scope pos) 0 (.ref d) X'.env) (tb d)):
  PE X (.ListComp elt (c::hZ) scope pos) (Ku wi g ti tb pre):=by
 intro pins s σ H Q I h;obtain⟨tg,dc,ifs,az⟩:=c;obtain rfl:az=0:=ha;obtain⟨cl,v5,o9,m8⟩:=zK X.env scope fun x hx hf=>I.ok.has x.1 (S.free x hx hf);rw[eval_ListComp];show wpAny _ X.A (comprehension _ scope X.env _ (newList []) false (eval dc X.env)) _ _ s;refine JV (use:=none) (g:=⟨tg,dc,ifs,0⟩) (gs:=hZ) rfl hs v5 S.kind S.names (thn (pi pins s σ H _ I h) fun v s1 h1=>thn h1 fun dN s2 h2=>?_);obtain⟨it,fp,tn,J,H2,rfl,I2,T,i3,f2,hw⟩:=h2;refine Er (RR:=fun acc C=>compPost (model X.prog X.w) X.A X.xe none (EP X pins σ Q) acc C) S hc rfl q9 (aH cl) o9 m8 I2 T i3 f2 hw fun d s3 H3 H4 σ' s4 I3 ff J4 q=>?_;obtain⟨m,hn,_⟩:=id J4.loc;exact⟨m,hn,fun h' aY=>⟨.ref d,H4,Es I3 ff J4 aY,rfl,q⟩⟩
theorem Ld{elt:gR}{c:oP}{hZ:qm}{scope:jV}{pos f9 py:Pos}{N':iK}{pre:St->St}{wi:TI}{g:TG}{ti:TT}{tb:Addr->TB}{y:Str}{i:Nat}
  (dQ:swapsWith (.ListComp elt (c::hZ) scope pos) (some (.Name y py)) f9.line X.env=pure true)
  (S:CompScope X N' scope pre)(hc:X.calm=true)(ha:c.is_async=0)(q9: ∀g',hZ[0]?=some g'->g'.is_async=0)
  (hs: ∀x,foldedSetIterable c.iter X.env x=pure x)(pi:PI X c.target c.iter wi)(fq:PG X (.Name y py) (Ee i))
  (aH: ∀(cl:qo) (C:gz) (s3:gC) (H3:Hp) (fp:jW) (pins:iq),let X':=X.comp N' scope cl C s3 H3 fp pins
   PG X' c.target g/\PIf X' c.ifs ti/\ ∀d,PB X' (ja (.ListComp elt (c::hZ) scope pos) 0 (.ref d) X'.env) (tb d)):
  PS X (.Assign [.Name y py] (.ListComp elt (c::hZ) scope pos) f9) (PC (Ku wi g ti tb pre) (Ee i)):=by
 intro pins s σ H D I h;obtain⟨tg,dc,ifs,az⟩:=c;obtain rfl:az=0:=ha;obtain⟨cl,v5,o9,m8⟩:=zK X.env scope fun x hx hf=>I.ok.has x.1 (S.free x hx hf);rw[exec_Assign_Name_used _ _ _ _ dQ];refine gx (yA (gx ?_));show wpAny _ X.A (do let _ <-comprehension (.ListComp elt (⟨tg,dc,ifs,0⟩::hZ) scope pos) scope X.env _ (newList []) false (eval dc X.env) (some (assign (.Name y py) X.env))) _ _ s
 refine gx (qa (JV (use:=some (assign (.Name y py) X.env)) (g:=⟨tg,dc,ifs,0⟩) (gs:=hZ) (Q:=fun _ s'=>SP X pins D .next s') rfl hs v5 S.kind S.names
  (thn (pi pins s σ H _ I h) fun v s1 h1=>thn h1 fun dN s2 h2=>?_)) (fun _ s' hq=>gO (gO hq)) fun _ _ e=>e)
 obtain⟨it,fp,tn,J,H2,rfl,I2,T,i3,f2,hw⟩:=h2;refine Er (RR:=fun acc C=>compPost (model X.prog X.w) X.A X.xe (some (assign (.Name y py) X.env)) (fun _ s'=>SP X pins D .next s') acc C) S hc rfl q9 (aH cl) o9 m8 I2 T i3 f2 hw fun d s3 H3 H4 σ' s4 I3 ff J4 q=>?_;obtain⟨m,hn,_⟩:=id J4.loc;obtain⟨oC,es,ep,ho,hd,hr⟩:=id hn;have IX:Inv X pins σ H4 s4:=Es I3 ff J4 (BR ..);have hCl:s3.heap.objs.size≠X.env.locals:=qu I3.lt;have hCf:s3.heap.objs.size∉X.fs:=fun z=>I3.nofs (ir _) z
 have IP:Inv X (pins++[(s3.heap.objs.size,oC)]) σ H4 s4:=IX.pins_of fun p hp=>by
  rcases nG.mp hp with z|z
  ·exact IX.pin p (oU _ z)
  ·rcases qw.mp z with rfl
   exact⟨ho,J4.free,hCl,hCf,fun v z=>by rw[hd] at z;cases z⟩
 show wpAny _ X.A (assign (.Name y py) X.env (.ref d)) _ _ _;refine thn (fq _ s4 σ H4 (.ref d) (.ref d) _ IP rfl q) fun _ s5 ⟨σ5,H5,I5,q5⟩=>?_;have pC:=I5.pin (s3.heap.objs.size,oC) (by simp);refine⟨m,⟨oC,es,ep,pC.1,hd,hr⟩,fun h' aY=>⟨σ5,H5,?_,q5⟩⟩;refine I5.unpinned.turned (it:=s3.heap.objs.size) (t':=s5.toks) (fun b o hb e=>by rw[aY.2 b hb];exact e) pC.2.1 hCl (.inr I3.sz) (fun x c hx z=>?_) (fun p hp z=>?_)
 ·obtain⟨v,o,e,_⟩:=I3.cell x c hx;exact absurd (iu e) (by rw[z];exact oi _)
 ·obtain⟨e,_⟩:=I3.pin p hp;exact absurd (iu e) (by rw[z];exact oi _)
end
section
variable {κ:Type}[DecidableEq κ]
noncomputable def sf(kvs:List (κ×V))(k:κ):Option V:=(kvs.find? fun kv=>decide (kv.1=k)).map (·.2)
noncomputable def qj(kvs:List (κ×V))(k:κ)(v:V):List (κ×V):=
 if(kvs.any fun kv=>decide (kv.1=k))=true then kvs.map (fun kv=>if kv.1=k then(kv.1,v) else kv) else kvs++[(k,v)]
theorem qI{p:κ×V}{r:List (κ×V)}{k:κ}(e:p.1=k):sf (p::r) k=some p.2:=by simp[sf,wm,e]
theorem nI{p:κ×V}{r:List (κ×V)}{k:κ}(e: ¬p.1=k):sf (p::r) k=sf r k:=by simp[sf,wm,e]
theorem Dp(k:κ): ∀kvs:List (κ×V),(kvs.any fun kv=>decide (kv.1=k))=(sf kvs k).isSome
 |[]=>rfl
 |p::r=>by
  rw[qA];by_cases e:p.1=k
  ·simp only[qI e,nC e,Bool.true_or,Option.isSome_some]
  ·rw[nI e,kX e,Bool.false_or];exact Dp k r
theorem xm(kvs:List (κ×V))(k:κ)(v:V):(qj kvs k v).length<=kvs.length+1:=by
 unfold qj;split
 ·rw[jj];omega
 ·rw[mq,kD,sN];omega
theorem RelO.isSome_eq{o:Option V}{u:Option Value}(r:RelO o u):o.isSome=u.isSome:=by
 cases o with
 |none=>cases u with
  |none=>rfl
  |some _=>exact(show False from r).elim
 |some _=>cases u with
  |none=>exact(show False from r).elim
  |some _=>rfl
theorem KV.val{kvs:List (κ×V)}{vs:List (κ×Value)}(r:KV kvs vs)(k:κ):RelO (sf kvs k) (valueAt vs k):=by
 unfold KV at r
 induction r with
 |nil=>exact True.intro
 | @cons p q ps qs h t ih=>
  obtain⟨h1,h2⟩:=h;by_cases e:p.1=k
  ·have e':q.1=k:=h1.symm.trans e;have b:valueAt (q::qs) k=some q.2:=by simp[valueAt,wm,e']
   rw[qI e,b];exact h2
  ·have e': ¬q.1=k:=fun z=>e (h1.trans z);have b:valueAt (q::qs) k=valueAt qs k:=by simp[valueAt,wm,e']
   rw[nI e,b];exact ih
theorem KV.any{kvs:List (κ×V)}{vs:List (κ×Value)}(r:KV kvs vs)(k:κ):(kvs.any fun kv=>decide (kv.1=k))=vs.any fun kv=>decide (kv.1=k):=by
 unfold KV at r
 induction r with
 |nil=>rfl
 |cons h t ih=>rw[qA,qA,ih,h.1]
theorem KV.repl{kvs:List (κ×V)}{vs:List (κ×Value)}(r:KV kvs vs)(k:κ){y:V}{u:gQ}(ry:RelV y u):
  KV (kvs.map fun kv=>if kv.1=k then(kv.1,y) else kv) (vs.map fun kv=>if kv.1=k then(kv.1,u) else kv):=by
 unfold KV at r ⊢
 induction r with
 |nil=>exact .nil
 | @cons p q ps qs h t ih=>
  rw[iN,iN];refine .cons ?_ ih;obtain⟨h1,h2⟩:=h;by_cases e:p.1=k
  ·rw[gG e,gG (h1.symm.trans e)];exact⟨h1,ry⟩
  ·rw[gJ e,gJ (fun z=>e (h1.trans z))];exact⟨h1,h2⟩
theorem KV.put{kvs:List (κ×V)}{vs:List (κ×Value)}(r:KV kvs vs)(k:κ){y:V}{u:gQ}(ry:RelV y u):KV (qj kvs k y) (stored vs k u):=by
 unfold qj stored;rw[r.any k];by_cases e:(vs.any fun kv=>decide (kv.1=k))=true
 ·rw[gG e,gG e];exact r.repl k ry
 ·rw[gJ e,gJ e];exact Paired.snoc r ⟨rfl,ry⟩
theorem KV.length{kvs:List (κ×V)}{vs:List (κ×Value)}(r:KV kvs vs):kvs.length=vs.length:=B7 r
end
theorem L4{P:hW}{w:gU}{k:Key}{u:gQ}(r:RelV (kV k) u):(kG P w).is k u=true:=by
 cases k with
 |inl i=>obtain⟨t,e⟩:=(show ∃t,u=Value.int i t from r);subst e;exact D0 P w i t
 |inr x=>obtain⟨t,e⟩:=(show ∃t,u=Value.str x t from r);subst e;exact DZ P w x t
theorem A0{P:hW}{w:gU}: ∀{ks:List Key} {us:iV},Vals (ks.map kV) us->ItemsAre (kG P w) ks us
 |[],_,r=>by rw[oT] at r;cases r;exact .nil
 |k::ks,_,r=>by
  rw[iN] at r
  cases r with
  |cons h t=>exact .cons (L4 h) (A0 t)
abbrev KT(H:Hp):List (List Key×V)->List (List Key×Addr×Value)->Prop:=Paired fun p q=>p.1=q.1/\H q.2.1=some (.tup (p.1.map kV))/\RelV p.2 q.2.2
theorem KT.val{H:Hp}{kvs:List (List Key×V)}{xs:List (List Key×Addr×Value)}(r:KT H kvs xs)(k:List Key):RelO (sf kvs k) ((atKey xs k).map (·.2)):=by
 induction r with
 |nil=>exact True.intro
 | @cons p q ps qs h t ih=>
  obtain⟨h1,_,h2⟩:=h;by_cases e:p.1=k
  ·have e':q.1=k:=h1.symm.trans e;have b:atKey (q::qs) k=some q.2:=by simp[atKey,wm,e']
   rw[qI e,b];exact h2
  ·have e': ¬q.1=k:=fun z=>e (h1.trans z);have b:atKey (q::qs) k=atKey qs k:=by simp[atKey,wm,e']
   rw[nI e,b];exact ih
theorem KT.repl{H:Hp}{kvs:List (List Key×V)}{xs:List (List Key×Addr×Value)}(r:KT H kvs xs)(k:List Key){y:V}{u:gQ}(ry:RelV y u):
  KT H (kvs.map fun kv=>if kv.1=k then(kv.1,y) else kv) (xs.map (putAt k u)):=by
 induction r with
 |nil=>exact .nil
 | @cons p q ps qs h t ih=>
  rw[iN,iN];refine .cons ?_ ih;obtain⟨h1,h2,h3⟩:=h;unfold putAt;by_cases e:p.1=k
  ·rw[gG e,gG (h1.symm.trans e)];exact⟨h1,h2,ry⟩
  ·rw[gJ e,gJ (fun z=>e (h1.trans z))];exact⟨h1,h2,h3⟩
theorem KT.put{H:Hp}{kvs:List (List Key×V)}{xs:List (List Key×Addr×Value)}(r:KT H kvs xs)(k:List Key){b:gz}{y:V}{u:gQ}(hb:H b=some (.tup (k.map kV)))(ry:RelV y u):
  KT H (qj kvs k y) (storedH xs k b u):=by
 have e:(kvs.any fun kv=>decide (kv.1=k))=(atKey xs k).isSome:=by
  rw[Dp,(r.val k).isSome_eq,Option.isSome_map]
 unfold qj storedH;rw[e];by_cases q:(atKey xs k).isSome=true
 ·rw[gG q,gG q];exact r.repl k ry
 ·rw[gJ q,gJ q];exact Paired.snoc r ⟨rfl,hb,ry⟩
theorem KT.keeps{H H':Hp}{kvs:List (List Key×V)}{xs:List (List Key×Addr×Value)}(r:KT H kvs xs)(ht: ∀b ys,H b=some (.tup ys)->H' b=some (.tup ys)):KT H' kvs xs:=
 Paired.mapP r fun _ _ z=>⟨z.1,ht _ _ z.2.1,z.2.2⟩
section
variable {P:hW}{w:gU}{H:Hp}{h:hV}{a:gz}
theorem OQ{u:HO}(ok:HOk P w H h)(e:Rd H a u):ObjOk P w H h a u:=e.ok ok
theorem Pj{kvs:List (Key×V)}(ok:HOk P w H h)(e:Rd H a (.dK kvs)):kvs.length<=sizeLine/\(a==sysModules)=false/\ ∃vs,KV kvs vs/\h.DictOf (kG P w) a vs:=
 show ObjOk P w H h a (.dK kvs) from OQ ok e
theorem Pk{kvs:List (Key×V)}(ok:HOk P w H h)(e:H a=some (.dK kvs)):kvs.length<=sizeLine/\(a==sysModules)=false/\ ∃vs,KV kvs vs/\h.DictOf (kG P w) a vs:=Pj ok (.inl e)
theorem Gm{ks:List Key}(ok:HOk P w H h)(e:H a=some (.tup (ks.map kV))):(tupleKind (kG P w)).is h ks a:=by
 obtain⟨_,b6,r,o,h1,h2,n,h3⟩:=(show ObjOk P w H h a (.tup (ks.map kV)) from ok a _ e)
 exact⟨o,b6.toArray,n,h1,h2,h3,by simpa using A0 r⟩
theorem Ph{kvs:List (List Key×V)}(ok:HOk P w H h)(e:Rd H a (.dT kvs)):kvs.length<=sizeLine/\(a==sysModules)=false/\
  ∃xs,KT H kvs xs/\h.DictOfH (tupleKind (kG P w)) a xs:=by
 obtain⟨z,y,xs,r,o,es,ep,h1,h2,h3,h4,h5⟩:=(show ObjOk P w H h a (.dT kvs) from OQ ok e)
 refine⟨z,y,xs,r,o,es,ep,h1,h2,h3,h4,fun x hx=>?_,h5⟩
 have all: ∀{l:List (List Key×V)} {m:List (List Key×Addr×Value)},KT H l m-> ∀x∈m,(tupleKind (kG P w)).is h x.1 x.2.1:=by
  intro l m q
  induction q with
  |nil=>intro x hx;exact nomatch hx
  | @cons p q ps qs hq t ih=>
   intro x hx;rcases jC.mp hx with e|hx
   ·subst e;exact Gm ok (by rw[<-hq.1];exact hq.2.1)
   ·exact ih x hx
 exact all r x hx
theorem To{kvs:List (List Key×V)}(ok:HOk P w H h)(e:H a=some (.dT kvs)):kvs.length<=sizeLine/\(a==sysModules)=false/\
  ∃xs,KT H kvs xs/\h.DictOfH (tupleKind (kG P w)) a xs:=Ph ok (.inl e)
end
def DGet(H:Hp)(a:gz)(y:V)(r:Option V):Prop:=
 (∃kvs k,Rd H a (.dK kvs)/\y=kV k/\r=sf kvs k)\/ ∃kvs k b,Rd H a (.dT kvs)/\y= .ref b/\H b=some (.tup (k.map kV))/\r=sf kvs k
def DPut(H:Hp)(a:gz)(y v:V)(H':Hp):Prop:=
 (∃kvs k,H a=some (.dK kvs)/\y=kV k/\kvs.length<sizeLine/\H'=upd H a (.dK (qj kvs k v)))\/
 ∃kvs k b,H a=some (.dT kvs)/\y= .ref b/\H b=some (.tup (k.map kV))/\kvs.length<sizeLine/\H'=upd H a (.dT (qj kvs k v))
theorem DGet.k{H:Hp}{a:gz}{kvs:List (Key×V)}{k:Key}(e:H a=some (.dK kvs)):DGet H a (kV k) (sf kvs k):= .inl ⟨kvs,k,.inl e,rfl,rfl⟩
theorem DGet.t{H:Hp}{a b:gz}{kvs:List (List Key×V)}{k:List Key}(e:H a=some (.dT kvs))(eb:H b=some (.tup (k.map kV))):DGet H a (.ref b) (sf kvs k):= .inr ⟨kvs,k,b,.inl e,rfl,eb,rfl⟩
theorem DPut.k{H:Hp}{a:gz}{kvs:List (Key×V)}{k:Key}{v:V}(e:H a=some (.dK kvs))(hl:kvs.length<sizeLine):DPut H a (kV k) v (upd H a (.dK (qj kvs k v))):= .inl ⟨kvs,k,e,rfl,hl,rfl⟩
theorem DPut.t{H:Hp}{a b:gz}{kvs:List (List Key×V)}{k:List Key}{v:V}(e:H a=some (.dT kvs))(eb:H b=some (.tup (k.map kV)))(hl:kvs.length<sizeLine):
  DPut H a (.ref b) v (upd H a (.dT (qj kvs k v))):= .inr ⟨kvs,k,b,e,rfl,eb,hl,rfl⟩
section
variable {X:Cx}{pins:iq}{σ:St}{H:Hp}{s:gC}{a:gz}{y v:V}{u r:gQ}{o:Option V}{A:gZ}{E:il}
theorem Inv.big(I:Inv X pins σ H s):sysModules<s.heap.objs.size:=by
 have h:mainGlobals<s.heap.objs.size:=(I.mod.glob.keeps I.bk).lt;exact Nat.lt_trans (by decide) h
theorem A8{Q:il}(hu:A.units+1<cLine)(I:Inv X pins σ H s)(g:DGet H a y (some v))(ry:RelV y u)(h: ∀w' s',Inv X pins σ H s'->RelV v w'->Q w' s'):
  wpAny (model X.prog X.w) A (getItem (.ref a) u) Q E s:=by
 rcases g with⟨kvs,k,e,ey,l⟩|⟨kvs,k,b,e,ey,eb,l⟩
 ·subst ey;obtain⟨z,hd,vs,rel,dd⟩:=Pj I.hok e;obtain⟨w',hw,ai⟩:=RelO.some_of (v:=v) (o:=valueAt vs k) (by rw[l];exact rel.val k);exact wpAny_getItem_of (L4 ry) dd.mapOf hw (h w' _ (I.tok _) ai)
 ·subst ey;cases(show u=Value.ref b from ry);obtain⟨z,hd,xs,rel,dd⟩:=Ph I.hok e;obtain⟨w',hw,ai⟩:=RelO.some_of (v:=v) (o:=(atKey xs k).map (·.2)) (by rw[l];exact rel.val k);obtain⟨p,hp,df⟩:=Option.map_eq_some_iff.mp hw;refine wpAny_getItem_heap (tupleKind_room_in1 hu) (Gm I.hok eb) dd hp ?_;rw[df];exact h w' _ (I.tok _) ai
theorem yj{h':hV}{t':Nat}{ob:HO}(I:Inv X pins σ H s)(mu:Mut (H a))(hs:Heap.SameBut a s.heap h')(he: ∃q,h'.get? a=some q)(new:ObjOk X.prog X.w (upd H a ob) h' a ob):
  Inv X pins σ (upd H a ob) {s with heap:=h',toks:=t'}:=
 I.write (x:=a) (e:=a) mu (.inl rfl) (fun b q hb z=>(hs.2 b hb).trans z) he new
theorem RB{P:hW}{w:gU}{H':Hp}{h':hV}{kvs:List (Key×V)}{vs:List (Key×Value)}(z:kvs.length<=sizeLine)(hd:(a==sysModules)=false)(rel:KV kvs vs)(dd:h'.DictOf (kG P w) a vs):
  ObjOk P w H' h' a (.dK kvs):=⟨z,hd,vs,rel,dd⟩
theorem wV{H':Hp}{Q:Unit->Shared->Prop}(hu:A.units+1<cLine)(I:Inv X pins σ H s)(g:DPut H a y v H')(ry:RelV y u)(rv:RelV v r)(h: ∀s',Inv X pins σ H' s'->Q () s'):
  wpAny (model X.prog X.w) A (setItem (.ref a) u r) Q E s:=by
 rcases g with⟨kvs,k,e,ey,l,eH⟩|⟨kvs,k,b,e,ey,eb,l,eH⟩
 ·subst ey eH;obtain⟨z,hd,vs,rel,dd⟩:=Pk I.hok e;have hz:vs.length<=sizeLine:=by rw[<-rel.length];exact z
  have hl:(qj kvs k v).length<=sizeLine:=by have:=xm kvs k v;omega
  refine wpAny_setItem_pairs (hsz:=hz) (L4 ry) dd fun h' eV hs=>h _ ?_;have he: ∃q,h'.get? a=some q:=let⟨q,_,_,hq,_⟩:=eV;⟨q,hq⟩
  exact yj I (by rw[e];exact True.intro) hs he (RB hl hd (rel.put k rv) eV)
 ·subst ey eH;cases(show u=Value.ref b from ry);obtain⟨z,hd,xs,rel,dd⟩:=To I.hok e;have hz:xs.length<=sizeLine:=by rw[<-B7 rel];exact z
  have hl:(qj kvs k v).length<=sizeLine:=by have:=xm kvs k v;omega
  refine wpAny_setItem_heap (hsz:=hz) (tupleKind_room_in1 hu) (Gm I.hok eb) dd fun h' eV hs=>h _ ?_;obtain⟨q,es,ep,hq,h2,h3,h4,_,h5⟩:=eV;refine yj I (by rw[e];exact True.intro) hs ⟨q,hq⟩ ⟨hl,hd,_,(rel.put k eb rv).keeps fun c ys ec=>?_,q,es,ep,hq,h2,h3,h4,h5⟩;rw[iI (OX ec e (fun z=>nomatch z))];exact ec
end
theorem Mn{P:hW}{w:gU}{H:Hp}(h:hV)(hb:sysModules<h.objs.size):ObjOk P w H (h.push {cls:= .type "dict",data:= .dict #[]}) h.objs.size (.dK []):=
 ⟨lN _,xv.mpr (qb (iL hb)),[],.nil,Heap.DictOf.new h⟩
noncomputable def Pz:TE:=fun _ H Q=> ∀p,H p=none->Q (.ref p) (upd H p (.dK []))
section
variable {X:Cx}{pos:Pos}
theorem Ls:PE X (.Dict [] [] pos) Pz:=fun pins s σ H Q I h=>
 wpAny_Dict_empty ⟨.ref s.heap.objs.size,_,I.laid (a:=s.heap.objs.size) (o:= .dK []) (t':=s.toks) (fun _ _ q=>iF _ q) (ir _) (Mn s.heap I.big),rfl,h _ (I.hok.fresh (ir _))⟩
end
end L2
namespace PX
open PySem PySem.Spec PyProof.Rows L2
inductive OK where
 |dct|set|fn(i:Nat)|exc(c:Nat)
 deriving DecidableEq
inductive D where
 |non|bl(b:Bool)|int(i:Int)|str(x:Str)|tup(l:List D)|lst(l:List D)|oth(k:OK)(ks vs:List D)
mutual
/-- the hash of ints and of tuples of such -/
noncomputable def D.hash:D->Int
 | .int i=>hashInt i
 | .tup l=>reduceHash (Builtin.Tuple.tupleHashOf (D.hashL l))
 |_=>0
noncomputable def D.hashL:List D->List Int
 |[]=>[]
 |d::l=>D.hash d::D.hashL l
end
noncomputable def jy:Key->D
 | .inl i=> .int i
 | .inr x=> .str x
def OthB(h:Option HO)(k:OK)(ks vs:List D)(us:List V):Prop:=
 match k with
 | .dct=>(∃kvs:List (Key×V),h=some (.dK kvs)/\ks=kvs.map (fun p=>jy p.1)/\us=kvs.map (·.2))\/
   (∃kvs:List (List Key×V),h=some (.dT kvs)/\ks=kvs.map (fun p=> .tup (p.1.map jy))/\us=kvs.map (·.2))
 | .set=>ks=[]/\ ∃zs:List (Int×V),h=some (.stt zs)/\zs.Perm ((D.hashL vs).zip us)
 |_=>False
theorem OthB.ex{h k ks vs us}(x:OthB h k ks vs us): ∃o,h=some o:=by
 cases k with
 |dct=>rcases x with⟨_,e,_⟩|⟨_,e,_⟩<;>exact⟨_,e⟩
 |set=>obtain⟨_,_,e,_⟩:=x;exact⟨_,e⟩
 |_=>exact x.elim
theorem OthB.keep{k ks vs us}(x:OthB h k ks vs us)(kp: ∀o,h=some o->h'=some o):OthB h' k ks vs us:=by
 obtain⟨o,e⟩:=x.ex;rw[kp o e,<-e];exact x
abbrev AP':=Addr->Prop
def KL(K:hG)(a:gz)(xs:List V):Prop:= ∃(o:Obj) (b6:kz) (n:Nat),K.lookup a=some o/\o.cls= .type "list"/\o.dict=none/\o.data= .seq b6 n/\b6.size<=sizeLine/\Vals xs b6.toList
def SqTO(K:hG)(H:Hp)(O:AP')(a:gz)(xs:List V):Prop:=H a=some (.tup xs)/\ ¬O a
def SqLO(K:hG)(H:Hp)(O:AP')(a:gz)(xs:List V):Prop:=(Rd H a (.lst xs)/\ ¬O a)\/KL K a xs
theorem SqTO.sq{K H O a xs}(h:SqTO K H O a xs):SqT K H a xs:= .inl (.inl h.1)
theorem SqLO.sq{K H O a xs}(h:SqLO K H O a xs):SqL K H a xs:=h.elim (fun z=> .inl z.1) .inr
theorem Rd.mono{a u}(h:Rd H a u)(k: ∀o,H a=some o->H' a=some o):Rd H' a u:=by
 rcases h with h|⟨o,h⟩
 ·exact .inl (k _ h)
 ·exact .inr ⟨o,k _ h⟩
theorem SqTO.mono{K H H'}{a xs}(h:SqTO K H O a xs)(k: ∀b o,H b=some o-> ¬O b->H' b=some o)(hO: ∀b,H b≠none->O' b->O b):SqTO K H' O' a xs:=
 ⟨k a _ h.1 h.2,fun z=>h.2 (hO a (by rw[h.1];simp) z)⟩
theorem SqLO.mono{K H H'}{a xs}(h:SqLO K H O a xs)(k: ∀b o,H b=some o-> ¬O b->H' b=some o)(hO: ∀b,H b≠none->O' b->O b):SqLO K H' O' a xs:=by
 rcases h with⟨r,n⟩|h
 ·refine .inl ⟨Rd.mono r fun o e=>k a o e n,fun z=>n (hO a ?_ z)⟩;rcases r with r|⟨_,r⟩<;>(rw[r];simp)
 ·exact .inr h
mutual
/-- v is the datum,in H;nothing of it stands at an address of O -/
def Rep(K:hG)(H:Hp)(O:AP'):D->V->Prop
 | .non,v=>v= .non
 | .bl b,v=>v= .bl b
 | .int i,v=>v= .int i
 | .str x,v=>v= .str x
 | .tup l,v=> ∃a xs,v= .ref a/\SqTO K H O a xs/\RepL K H O l xs
 | .lst l,v=> ∃a xs,v= .ref a/\SqLO K H O a xs/\RepL K H O l xs
 | .oth k ks vs,v=> ∃a us,v= .ref a/\(¬O a/\OthB (H a) k ks vs us)/\RepL K H O vs us
def RepL(K:hG)(H:Hp)(O:AP'):List D->List V->Prop
 |[],vs=>vs=[]
 |d::l,vs=> ∃v r,vs=v::r/\Rep K H O d v/\RepL K H O l r
end
mutual
theorem Rep.mono{K H H'}{O O':AP'}(k: ∀b o,H b=some o-> ¬O b->H' b=some o)(hO: ∀b,H b≠none->O' b->O b): ∀{d:D} {v:V},Rep K H O d v->Rep K H' O' d v
 | .non,_,h=>h
 | .bl _,_,h=>h
 | .int _,_,h=>h
 | .str _,_,h=>h
 | .tup l,_,h=>by
  rw[Rep] at h ⊢;obtain⟨a,xs,e,s,r⟩:=h;exact⟨a,xs,e,s.mono k hO,RepL.mono k hO r⟩
 | .lst l,_,h=>by
  rw[Rep] at h ⊢;obtain⟨a,xs,e,s,r⟩:=h;exact⟨a,xs,e,s.mono k hO,RepL.mono k hO r⟩
 | .oth kk ks vs,_,h=>by
  rw[Rep] at h ⊢;obtain⟨a,us,e,s,r⟩:=h;exact⟨a,us,e,⟨fun z=>s.1 (hO a (by obtain⟨o,q⟩:=s.2.ex;rw[q];simp) z),s.2.keep fun o q=>k a o q s.1⟩,RepL.mono k hO r⟩
theorem RepL.mono{K H H'}{O O':AP'}(k: ∀b o,H b=some o-> ¬O b->H' b=some o)(hO: ∀b,H b≠none->O' b->O b): ∀{l:List D} {vs:List V},RepL K H O l vs->RepL K H' O' l vs
 |[],_,h=>h
 |d::l,_,h=>by
  rw[RepL] at h ⊢;obtain⟨v,r,e,h1,h2⟩:=h;exact⟨v,r,e,Rep.mono k hO h1,RepL.mono k hO h2⟩
end
theorem Rep.mkInt{K H O i}:Rep K H O (.int i) (.int i):=by rw[Rep]
theorem Rep.mkBl{K H O i}:Rep K H O (.bl i) (.bl i):=by rw[Rep]
theorem Rep.mkNon{K H O}:Rep K H O .non .non:=by rw[Rep]
theorem Rep.mkStr{K H O i}:Rep K H O (.str i) (.str i):=by rw[Rep]
theorem Rep.int{K H O i v}(h:Rep K H O (.int i) v):v= .int i:=by rwa [Rep] at h
theorem Rep.bl{K H O i v}(h:Rep K H O (.bl i) v):v= .bl i:=by rwa [Rep] at h
theorem Rep.non{K H O v}(h:Rep K H O .non v):v= .non:=by rwa [Rep] at h
theorem Rep.str{K H O i v}(h:Rep K H O (.str i) v):v= .str i:=by rwa [Rep] at h
theorem Rep.tup{K H O l v}(h:Rep K H O (.tup l) v): ∃a xs,v= .ref a/\SqTO K H O a xs/\RepL K H O l xs:=by rwa [Rep] at h
theorem Rep.lst{K H O l v}(h:Rep K H O (.lst l) v): ∃a xs,v= .ref a/\SqLO K H O a xs/\RepL K H O l xs:=by rwa [Rep] at h
theorem Rep.oth{K H O k ks vs v}(h:Rep K H O (.oth k ks vs) v): ∃a us,v= .ref a/\(¬O a/\OthB (H a) k ks vs us)/\RepL K H O vs us:=by rwa [Rep] at h
theorem Rep.mkOth{K H O k ks vs a us}(n: ¬O a)(h:OthB (H a) k ks vs us)(r:RepL K H O vs us):Rep K H O (.oth k ks vs) (.ref a):=by rw[Rep];exact⟨a,us,rfl,⟨n,h⟩,r⟩
theorem Rep.mkTup{K H O l a xs}(h:SqTO K H O a xs)(r:RepL K H O l xs):Rep K H O (.tup l) (.ref a):=by rw[Rep];exact⟨a,xs,rfl,h,r⟩
theorem Rep.mkLst{K H O l a xs}(h:SqLO K H O a xs)(r:RepL K H O l xs):Rep K H O (.lst l) (.ref a):=by rw[Rep];exact⟨a,xs,rfl,h,r⟩
theorem RepL.length{K H O}: ∀{l:List D} {vs:List V},RepL K H O l vs->vs.length=l.length
 |[],vs,h=>by rw[RepL] at h;rw[h];rfl
 |d::l,vs,h=>by
  rw[RepL] at h;obtain⟨v,r,rfl,_,h2⟩:=h;simp[RepL.length h2]
theorem RepL.get{K H O}: ∀{l:List D} {vs:List V} {i:Nat} {d:D},RepL K H O l vs->l[i]?=some d-> ∃v,vs[i]?=some v/\Rep K H O d v
 |[],_,_,_,_,e=>by simp at e
 |d::l,vs,0,d',h,e=>by
  rw[RepL] at h;obtain⟨v,r,rfl,h1,_⟩:=h;simp at e;subst e;exact⟨v,rfl,h1⟩
 |d::l,vs,i+1,d',h,e=>by
  rw[RepL] at h;obtain⟨v,r,rfl,_,h2⟩:=h;obtain⟨w,h3,h4⟩:=RepL.get (i:=i) h2 (by simpa using e);exact⟨w,by simpa using h3,h4⟩
theorem RepL.append{K H O}: ∀{l m:List D} {vs ws:List V},RepL K H O l vs->RepL K H O m ws->RepL K H O (l++m) (vs++ws)
 |[],_,vs,_,h,h'=>by rw[RepL] at h;subst h;exact h'
 |d::l,_,vs,_,h,h'=>by
  rw[RepL] at h;obtain⟨v,r,rfl,h1,h2⟩:=h;show RepL K H O (d::(l++_)) _;rw[RepL];exact⟨v,_,rfl,h1,RepL.append h2 h'⟩
theorem RepL.one{K H O}{d:D}{v:V}(h:Rep K H O d v):RepL K H O [d] [v]:=by
 rw[RepL];exact⟨v,[],rfl,h,by rw[RepL]⟩
theorem RepL.nil{K H O}:RepL K H O [] []:=by rw[RepL]
theorem RepL.cons{K H O}{l vs}(h:Rep K H O d v)(h':RepL K H O l vs):RepL K H O (d::l) (v::vs):=by
 rw[RepL];exact⟨v,vs,rfl,h,h'⟩
theorem RepL.take{K H O}: ∀{l:List D} {vs:List V} (n:Nat),RepL K H O l vs->RepL K H O (l.take n) (vs.take n)
 |_,_,0,_=>by simp[RepL]
 |[],vs,n+1,h=>by rw[RepL] at h;subst h;simp[RepL]
 |d::l,vs,n+1,h=>by
  rw[RepL] at h;obtain⟨v,r,rfl,h1,h2⟩:=h;exact RepL.cons h1 (RepL.take n h2)
theorem RepL.drop{K H O}: ∀{l:List D} {vs:List V} (n:Nat),RepL K H O l vs->RepL K H O (l.drop n) (vs.drop n)
 |_,_,0,h=>h
 |[],vs,n+1,h=>by rw[RepL] at h;subst h;simp[RepL]
 |d::l,vs,n+1,h=>by
  rw[RepL] at h;obtain⟨v,r,rfl,h1,h2⟩:=h;exact RepL.drop n h2
theorem RepL.set{K H O}{d:D}{v:V}(hv:Rep K H O d v): ∀{l:List D} {vs:List V} (i:Nat),RepL K H O l vs->RepL K H O (l.set i d) (vs.set i v)
 |[],vs,i,h=>by rw[RepL] at h;subst h;simp[RepL]
 |e::l,vs,0,h=>by
  rw[RepL] at h;obtain⟨w,r,rfl,h1,h2⟩:=h;exact RepL.cons hv h2
 |e::l,vs,i+1,h=>by
  rw[RepL] at h;obtain⟨w,r,rfl,h1,h2⟩:=h;exact RepL.cons h1 (RepL.set hv i h2)
abbrev Sl:=Option (D×Bool)
abbrev Dn:=List Sl
def OwnA(σ:L2.St)(δ:Dn)(a:gz):Prop:= ∃(i:Nat) (d:D),δ[i]?=some (some (d,true))/\σ[i]?=some (some (V.ref a))
def OwnOk(K:hG)(H:Hp)(O:AP'):D->Addr->Prop
 | .lst l,a=> ∃xs,H a=some (.lst xs)/\RepL K H O l xs
 | .oth k ks vs,a=> ∃us,OthB (H a) k ks vs us/\RepL K H O vs us
 |_,_=>False
theorem OwnOk.mono{K H H'}(h:OwnOk K H O d a)(k: ∀b o,H b=some o-> ¬O b->H' b=some o)(hO: ∀b,H b≠none->O' b->O b)(ka: ∀o,H a=some o->H' a=some o):OwnOk K H' O' d a:=by
 cases d with
 |lst l=>obtain⟨xs,e,r⟩:=h;exact⟨xs,ka _ e,RepL.mono k hO r⟩
 |oth kk ks vs=>obtain⟨us,e,r⟩:=h;exact⟨us,e.keep ka,RepL.mono k hO r⟩
 |_=>exact h
theorem OwnOk.some{K H}(h:OwnOk K H O d a):H a≠none:=by
 cases d with
 |lst l=>obtain⟨xs,e,r⟩:=h;rw[e];simp
 |oth kk ks vs=>obtain⟨us,e,r⟩:=h;obtain⟨o,q⟩:=e.ex;rw[q];simp
 |_=>exact h.elim
theorem OwnOk.rep{K H}(h:OwnOk K H O d a)(na: ¬O' a)(hO: ∀b,H b≠none->O' b->O b):Rep K H O' d (.ref a):=by
 cases d with
 |lst l=>
  obtain⟨xs,e,r⟩:=h;rw[Rep];exact⟨a,xs,rfl,.inl ⟨.inl e,na⟩,RepL.mono (fun b o e _=>e) hO r⟩
 |oth kk ks vs=>
  obtain⟨us,e,r⟩:=h;exact Rep.mkOth na e (RepL.mono (fun b o e _=>e) hO r)
 |_=>exact h.elim
structure ER(K:hG)(H:Hp)(T:AP')(σ:L2.St)(δ:Dn):Prop where
 len:σ.length=δ.length
 val: ∀(i:Nat) (d:D),δ[i]?=some (some (d,false))-> ∃v,σ[i]?=some (some v)/\Rep K H (fun a=>OwnA σ δ a\/T a) d v
 own: ∀(i:Nat) (d:D),δ[i]?=some (some (d,true))-> ∃a,σ[i]?=some (some (V.ref a))/\OwnOk K H (fun a=>OwnA σ δ a\/T a) d a
 inj: ∀(i j:Nat) (d e:D) (a:gz),δ[i]?=some (some (d,true))->δ[j]?=some (some (e,true))->σ[i]?=some (some (V.ref a))->σ[j]?=some (some (V.ref a))->i=j
 nT: ∀a,OwnA σ δ a-> ¬T a
 dom: ∀a,T a->H a≠none
theorem ER.ownDom{K H T σ δ}(E:ER K H T σ δ)(h:OwnA σ δ a):H a≠none:=by
 obtain⟨i,d,h1,h2⟩:=h;obtain⟨b,h3,h4⟩:=E.own i d h1;rw[h2] at h3;cases h3;exact h4.some
theorem ER.mono{K H H' σ δ}(E:ER K H T σ δ)(k: ∀b o,H b=some o-> ¬T b->H' b=some o)(hT: ∀b,H b≠none->T' b->T b)(hd: ∀a,T' a->H' a≠none):ER K H' T' σ δ where
 len:=E.len
 val:=fun i d h=>by
  obtain⟨v,h1,h2⟩:=E.val i d h;exact⟨v,h1,Rep.mono (fun b o e n=>k b o e fun z=>n (.inr z)) (fun b hb z=>z.elim .inl fun z=> .inr (hT b hb z)) h2⟩
 own:=fun i d h=>by
  obtain⟨a,h1,h2⟩:=E.own i d h;exact⟨a,h1,h2.mono (fun b o e n=>k b o e fun z=>n (.inr z)) (fun b hb z=>z.elim .inl fun z=> .inr (hT b hb z)) fun o e=>k a o e (E.nT a ⟨i,d,h,h1⟩)⟩
 inj:=E.inj
 nT:=fun a h z=>E.nT a h (hT a (E.ownDom h) z)
 dom:=hd
theorem OwnA.set(h:OwnA σ (δ.set i (some (d,false))) a):OwnA σ δ a:=by
 obtain⟨j,e,h1,h2⟩:=h;rw[BQ] at h1;split at h1
 ·split at h1<;>simp at h1
 ·exact⟨j,e,h1,h2⟩
theorem ER.freeze{K H T σ δ}(E:ER K H T σ δ){i:Nat}{d:D}{b:Bool}(h:δ[i]?=some (some (d,b))):ER K H T σ (δ.set i (some (d,false)))/\ ∃v,σ[i]?=some (some v)/\Rep K H (fun a=>OwnA σ (δ.set i (some (d,false))) a\/T a) d v:=by
 have hi:i<δ.length:=(vS.mp h).1
 have me: ∃v,σ[i]?=some (some v)/\Rep K H (fun a=>OwnA σ (δ.set i (some (d,false))) a\/T a) d v:=by
  cases b with
  |false=>
   obtain⟨v,h1,h2⟩:=E.val i d h;exact⟨v,h1,Rep.mono (fun _ _ e _=>e) (fun b _ z=>z.elim (fun z=> .inl z.set) .inr) h2⟩
  |true=>
   obtain⟨a,h1,h2⟩:=E.own i d h;refine⟨.ref a,h1,h2.rep (fun z=>?_) fun b _ z=>z.elim (fun z=> .inl z.set) .inr⟩;rcases z with⟨j,e,h3,h4⟩|z
   ·rw[BQ] at h3;split at h3
    ·first
      |(split at h3<;>simp at h3)
      |simp at h3
    ·rename_i o7;exact o7 (E.inj i j d e a h h3 h1 h4)
   ·exact E.nT a ⟨i,d,h,h1⟩ z
 refine⟨⟨by rw[sP];exact E.len,fun j e hj=>?_,fun j e hj=>?_,fun j k e f a hj hk h1 h2=>?_,fun a z=>E.nT a z.set,E.dom⟩,me⟩
 ·by_cases l9:i=j
  ·subst l9;rw[qv hi] at hj;cases hj;exact me
  ·rw[sV l9] at hj;obtain⟨v,h1,h2⟩:=E.val j e hj;exact⟨v,h1,Rep.mono (fun _ _ e _=>e) (fun b _ z=>z.elim (fun z=> .inl z.set) .inr) h2⟩
 ·by_cases l9:i=j
  ·subst l9;rw[qv hi] at hj;cases hj
  ·rw[sV l9] at hj;obtain⟨a,h1,h2⟩:=E.own j e hj;exact⟨a,h1,h2.mono (fun _ _ e _=>e) (fun b _ z=>z.elim (fun z=> .inl z.set) .inr) fun _ e=>e⟩
 ·have g1:δ[j]?=some (some (e,true)):=by
   by_cases l9:i=j
   ·subst l9;rw[qv hi] at hj;cases hj
   ·rwa [sV l9] at hj
  have g2:δ[k]?=some (some (f,true)):=by
   by_cases l9:i=k
   ·subst l9;rw[qv hi] at hk;cases hk
   ·rwa [sV l9] at hk
  exact E.inj j k e f a g1 g2 h1 h2
def OwnI(σ:L2.St)(δ:Dn)(i:Nat)(a:gz):Prop:= ∃d:D,δ[i]?=some (some (d,true))/\σ[i]?=some (some (V.ref a))
structure Keep(σ:L2.St)(δ:Dn)(H:Hp)(δ':Dn)(H':Hp):Prop where
 kp: ∀a o,H a=some o-> ¬OwnA σ δ a->H' a=some o
 owi: ∀i a,OwnI σ δ' i a->OwnI σ δ i a
 dm: ∀a,H a≠none->H' a≠none
theorem Keep.ow{σ δ H δ' H'}(k:Keep σ δ H δ' H')(a:gz)(h:OwnA σ δ' a):OwnA σ δ a:=by
 obtain⟨i,d,h1,h2⟩:=h;obtain⟨e,h3,h4⟩:=k.owi i a ⟨d,h1,h2⟩;exact⟨i,e,h3,h4⟩
theorem Keep.refl{σ δ H}:Keep σ δ H δ H:=⟨fun _ _ e _=>e,fun _ _ z=>z,fun _ z=>z⟩
theorem Keep.trans{σ δ δ1 δ2 H H1 H2}(x:Keep σ δ H δ1 H1)(y:Keep σ δ1 H1 δ2 H2):Keep σ δ H δ2 H2:=
 ⟨fun a o e n=>y.kp a o (x.kp a o e n) fun z=>n (x.ow a z),fun i a z=>x.owi i a (y.owi i a z),fun a z=>y.dm a (x.dm a z)⟩
theorem Keep.ext{σ δ H H1}(k: ∀a o,H a=some o->H1 a=some o):Keep σ δ H δ H1:=⟨fun a o e _=>k a o e,fun _ _ z=>z,fun a z=>by
 cases h:H a with
 |none=>exact absurd h z
 |some o=>rw[k a o h];simp⟩
theorem OwnI.set(h:OwnI σ (δ.set i (some (d,false))) j a):OwnI σ δ j a:=by
 obtain⟨e,h1,h2⟩:=h;rw[BQ] at h1;split at h1
 ·split at h1<;>simp at h1
 ·exact⟨e,h1,h2⟩
theorem Keep.set{σ δ H i d}:Keep σ δ H (δ.set i (some (d,false))) H:=⟨fun _ _ e _=>e,fun _ _ z=>z.set,fun _ z=>z⟩
def Post(K:hG)(T:AP')(σ:L2.St)(δ:Dn)(H:Hp)(r:D×Bool)(δ':Dn)(v:V)(H':Hp):Prop:=
 Keep σ δ H δ' H'/\
 match r with
 |(d,false)=>ER K H' T σ δ'/\Rep K H' (fun a=>OwnA σ δ' a\/T a) d v
 |(d,true)=> ∃p,v= .ref p/\H p=none/\ER K H' (fun a=>T a\/a=p) σ δ'/\OwnOk K H' (fun a=>OwnA σ δ' a\/T a\/a=p) d p
abbrev F:=Dn->Option ((D×Bool)×Dn)
def tF(K:hG)(f:F):TE:=fun σ H Q=> ∃δ T r δ',ER K H T σ δ/\f δ=some (r,δ')/\ ∀v H',Post K T σ δ H r δ' v H'->Q v H'
def PX(X:Cx)(e:gR)(f:F):Prop:=PE X e (tF X.K f)
noncomputable def Tmp(T:AP')(r:D×Bool)(v:V):AP':=fun a=>T a\/(r.2=true/\v= .ref a)
section
variable {K:hG}{T:AP'}{σ:L2.St}{δ δ1 δ2:Dn}{H H1 H2:Hp}{x y:D×Bool}{v u:V}
theorem Post.er(E:ER K H T σ δ)(P:Post K T σ δ H x δ1 v H1):ER K H1 (Tmp T x v) σ δ1:=by
 obtain⟨d,b⟩:=x
 cases b with
 |false=>
  refine P.2.1.mono (fun _ _ e _=>e) (fun b _ z=>z.elim id fun z=>absurd z.1 (by simp)) (fun a z=>?_);rcases z with z|z
  ·exact P.2.1.dom a z
  ·exact absurd z.1 (by simp)
 |true=>
  obtain⟨p,rfl,hp,E1,o1⟩:=P.2;refine E1.mono (fun _ _ e _=>e) (fun b _ z=>z.elim .inl fun z=> .inr (by have:=z.2;cases this;rfl)) (fun a z=>?_);rcases z with z|z
  ·exact E1.dom a (.inl z)
  ·have:=z.2;cases this;exact E1.dom _ (.inr rfl)
theorem Post.rep(E:ER K H T σ δ)(P:Post K T σ δ H x δ1 v H1):ER K H1 T σ δ1/\Rep K H1 (fun a=>OwnA σ δ1 a\/T a) x.1 v:=by
 obtain⟨d,b⟩:=x
 cases b with
 |false=>exact P.2
 |true=>
  obtain⟨p,rfl,hp,E1,o1⟩:=P.2;refine⟨E1.mono (fun _ _ e _=>e) (fun b _ z=> .inl z) (fun a z=>E1.dom a (.inl z)),o1.rep (fun z=>?_) fun b _ z=>z.elim .inl fun z=> .inr (.inl z)⟩;rcases z with z|z
  ·exact E1.nT p z (.inr rfl)
  ·exact E.dom p z hp
theorem Post.val(k:Keep σ δ H δ2 H2)(E:ER K H2 T σ δ2)(r:Rep K H2 (fun a=>OwnA σ δ2 a\/T a) d w):Post K T σ δ H (d,false) δ2 w H2:=⟨k,E,r⟩
end
theorem hC{α β:Type}{a a':α}{b b':β}(h:some (a,b)=some (a',b')):a=a'/\b=b':=by cases h;exact⟨rfl,rfl⟩
noncomputable def fC(d:D):F:=fun δ=>some ((d,false),δ)
noncomputable def hU(i:Nat):F:=fun δ=>match δ[i]? with
 |some (some (d,_))=>some ((d,false),δ.set i (some (d,false)))
 |_=>none
section
variable {X:Cx}{a b c:gR}{pos:Pos}{fa fb fc:F}
theorem PX.imp(h:PE X e t)(k: ∀σ H Q,tF X.K f σ H Q->t σ H Q):PX X e f:=fun pins s σ H Q I hw=>h pins s σ H Q I (k σ H Q hw)
theorem Qi{i j}:PX X (.Constant (.int i) j pos) (fC (.int i)):=PX.imp QR fun σ H Q h=>by
 obtain⟨δ,T,r,δ',E,e,k⟩:=h;cases e;exact k _ _ (Post.val .refl E (by first|exact Rep.mkInt|exact Rep.mkBl|exact Rep.mkNon|exact Rep.mkStr))
theorem Sy{i j}:PX X (.Constant (.bool i) j pos) (fC (.bl i)):=PX.imp SH fun σ H Q h=>by
 obtain⟨δ,T,r,δ',E,e,k⟩:=h;cases e;exact k _ _ (Post.val .refl E (by first|exact Rep.mkInt|exact Rep.mkBl|exact Rep.mkNon|exact Rep.mkStr))
theorem Qd{j}:PX X (.Constant .none j pos) (fC .non):=PX.imp QM fun σ H Q h=>by
 obtain⟨δ,T,r,δ',E,e,k⟩:=h;cases e;exact k _ _ (Post.val .refl E (by first|exact Rep.mkInt|exact Rep.mkBl|exact Rep.mkNon|exact Rep.mkStr))
theorem P8{i j}:PX X (.Constant (.str i) j pos) (fC (.str i)):=PX.imp QH fun σ H Q h=>by
 obtain⟨δ,T,r,δ',E,e,k⟩:=h;cases e;exact k _ _ (Post.val .refl E (by first|exact Rep.mkInt|exact Rep.mkBl|exact Rep.mkNon|exact Rep.mkStr))
theorem P6{i:Nat}{x:Str}(hN:X.N[i]?=some x)(hv:Vis X.env.scope x)(hd:(x==("__debug__":Str))=false)(y7:(x==("__classdict__":Str))=false):PX X (.Name x pos) (hU i):=PX.imp (F7 hN hv hd y7) fun σ H Q h=>by
 obtain⟨δ,T,r,δ',E,e,k⟩:=h;unfold hU at e
 cases hi:δ[i]? with
 |none=>rw[hi] at e;cases e
 |some o=>
  cases o with
  |none=>rw[hi] at e;cases e
  |some p=>
   obtain⟨d,b⟩:=p;rw[hi] at e;cases e;obtain⟨E1,v,h1,h2⟩:=E.freeze hi;exact⟨v,h1,k v H (Post.val .set E1 h2)⟩
end
inductive Opd where
 |val(r:D×Bool)|slot(i:Nat)
noncomputable def res(δ:Dn):Opd->Option D
 | .val r=>some r.1
 | .slot i=>match δ[i]? with
  |some (some (d,_))=>some d
  |_=>none
def jh(K:hG)(H:Hp)(O:AP')(d:D)(v:V):Prop:=Rep K H O d v\/ ∃a,v= .ref a/\OwnOk K H O d a
abbrev FO:=Dn->Option (Opd×Dn)
def PostO(K:hG)(T:AP')(σ:L2.St)(δ:Dn)(H:Hp)(o:Opd)(δ':Dn)(v:V)(H':Hp):Prop:=
 match o with
 | .val r=>Post K T σ δ H r δ' v H'
 | .slot i=>Keep σ δ H δ' H'/\ER K H' T σ δ'/\σ[i]?=some (some v)
noncomputable def AA(T:AP')(o:Opd)(v:V):AP':=match o with
 | .val r=>Tmp T r v
 | .slot _=>T
def tO(K:hG)(f:FO):TE:=fun σ H Q=> ∃δ T o δ',ER K H T σ δ/\f δ=some (o,δ')/\ ∀v H',PostO K T σ δ H o δ' v H'->Q v H'
def PO(X:Cx)(e:gR)(f:FO):Prop:=PE X e (tO X.K f)
noncomputable def gw(f:F):FO:=fun δ=>(f δ).bind fun p=>some (.val p.1,p.2)
noncomputable def gu(i:Nat):FO:=fun δ=>match δ[i]? with
 |some (some _)=>some (.slot i,δ)
 |_=>none
theorem PE.imp'(h:PE X e t)(k: ∀σ H Q,t' σ H Q->t σ H Q):PE X e t':=fun pins s σ H Q I hw=>h pins s σ H Q I (k σ H Q hw)
section
variable {X:Cx}{pos:Pos}
theorem PX.po(h:PX X e f):PO X e (gw f):=PE.imp' h fun σ H Q hw=>by
 obtain⟨δ,T,o,δ',E,e,k⟩:=hw;unfold gw at e
 cases h1:f δ with
 |none=>rw[h1] at e;cases e
 |some p=>
  obtain⟨r,δ1⟩:=p;rw[h1] at e;obtain⟨rfl,rfl⟩:=hC e;exact⟨δ,T,r,δ1,E,h1,fun v H' P=>k v H' P⟩
theorem Qx{i:Nat}{x:Str}(hN:X.N[i]?=some x)(hv:Vis X.env.scope x)(hd:(x==("__debug__":Str))=false)(y7:(x==("__classdict__":Str))=false):PO X (.Name x pos) (gu i):=PE.imp' (F7 hN hv hd y7) fun σ H Q h=>by
 obtain⟨δ,T,o,δ',E,e,k⟩:=h;unfold gu at e
 cases hi:δ[i]? with
 |none=>rw[hi] at e;cases e
 |some q=>
  cases q with
  |none=>rw[hi] at e;cases e
  |some p=>
   obtain⟨d,b⟩:=p;rw[hi] at e;obtain⟨rfl,rfl⟩:=hC e;obtain⟨E1,v,h1,h2⟩:=E.freeze hi;exact⟨v,h1,k v H ⟨.refl,E,h1⟩⟩
end
structure Ops(K:hG)(T:AP')(σ:L2.St)(δ:Dn)(H:Hp)(os:List Opd)(vs:List V)(δ':Dn)(H':Hp)(T':AP'):Prop where
 len:os.length=vs.length
 keep:Keep σ δ H δ' H'
 er:ER K H' T' σ δ'
 tt: ∀a,T a->T' a
 val: ∀(j:Nat) (d:D) (v:V),os[j]?=some (.val (d,false))->vs[j]?=some v->Rep K H' (fun a=>OwnA σ δ' a\/T a) d v
 tmp: ∀(j:Nat) (d:D) (v:V),os[j]?=some (.val (d,true))->vs[j]?=some v-> ∃p,v= .ref p/\T' p/\H p=none/\OwnOk K H' (fun a=>OwnA σ δ' a\/T a) d p
 slt: ∀(j i:Nat) (v:V),os[j]?=some (.slot i)->vs[j]?=some v->σ[i]?=some (some v)
section
variable {K:hG}{T T':AP'}{σ:L2.St}{δ δ' δ2:Dn}{H H' H2:Hp}{os:List Opd}{vs:List V}{o:Opd}{v:V}
theorem Ops.nil(E:ER K H T σ δ):Ops K T σ δ H [] [] δ H T:=⟨rfl,.refl,E,fun _ z=>z,fun j d v h=>by simp at h,fun j d v h=>by simp at h,fun j i v h=>by simp at h⟩
theorem PostO.keep(P:PostO K T σ δ H o δ' v H'):Keep σ δ H δ' H':=by
 cases o with
 |val r=>exact P.1
 |slot i=>exact P.1
theorem PostO.er(E:ER K H T σ δ)(P:PostO K T σ δ H o δ' v H'):ER K H' (AA T o v) σ δ':=by
 cases o with
 |val r=>exact Post.er E P
 |slot i=>exact P.2.1
end
def Gen(K:hG)(H:Hp)(O:AP')(z:D×Bool)(Q:VK):Prop:=
 match z with
 |(d,false)=> ∀w H',(∀a o,H a=some o->H' a=some o)->Rep K H' O d w->Q w H'
 |(d,true)=> ∀p H',H p=none->(∀a o,H a=some o->H' a=some o)->OwnOk K H' (fun a=>O a\/a=p) d p->Q (.ref p) H'
section
variable {K:hG}{T T':AP'}{σ:L2.St}{δ δ1 δ' δ2:Dn}{H H1 H' H2:Hp}{os:List Opd}{vs:List V}{o:Opd}{v:V}{z:D×Bool}{Q:VK}
theorem Ops.cons(E:ER K H T σ δ)(P:PostO K T σ δ H o δ1 v H1)(B:Ops K (AA T o v) σ δ1 H1 os vs δ2 H2 T'):Ops K T σ δ H (o::os) (v::vs) δ2 H2 T':=by
 have E1:=P.er E;have p1:=B.keep.kp;have p2:=B.keep.ow
 have eZ: ∀a,T a->AA T o v a:=fun a z=>by
  cases o with
  |val r=>exact .inl z
  |slot i=>exact z
 refine⟨by simp[B.len],P.keep.trans B.keep,B.er,fun a z=>B.tt a (eZ a z),fun j d w h1 h2=>?_,fun j d w h1 h2=>?_,fun j i w h1 h2=>?_⟩
 ·cases j with
  |zero=>
   simp at h1 h2;subst h1;subst h2;have P':Post K T σ δ H (d,false) δ1 v H1:=P;exact Rep.mono (fun b ob e n=>p1 b ob e fun z=>n (.inl z)) (fun b _ z=>z.elim (fun z=>Or.inl (p2 b z)) Or.inr) (P'.rep E).2
  |succ j=>exact Rep.mono (fun _ _ e _=>e) (fun b _ z=>z.elim Or.inl fun z=>Or.inr (eZ b z)) (B.val j d w (by simpa using h1) (by simpa using h2))
 ·cases j with
  |zero=>
   simp at h1 h2;subst h1;subst h2;have P':Post K T σ δ H (d,true) δ1 v H1:=P;obtain⟨p,rfl,hp,E3,ok⟩:=P'.2;have tp:AA T (.val (d,true)) (V.ref p) p:= .inr ⟨rfl,rfl⟩;refine⟨p,rfl,B.tt p tp,hp,ok.mono (fun b ob e n=>p1 b ob e fun z=>n (.inl z)) (fun b _ z=>z.elim (fun z=>Or.inl (p2 b z)) fun z=>Or.inr (Or.inl z)) fun ob e=>p1 p ob e fun z=>E1.nT p z tp⟩
  |succ j=>
   obtain⟨p,rfl,tp,hp,ok⟩:=B.tmp j d w (by simpa using h1) (by simpa using h2);refine⟨p,rfl,tp,?_,ok.mono (fun _ _ e _=>e) (fun b _ z=>z.elim Or.inl fun z=>Or.inr (eZ b z)) fun _ e=>e⟩
   cases hH:H p with
   |none=>rfl
   |some ob=>exact absurd hp (P.keep.dm p (by rw[hH];simp))
 ·cases j with
  |zero=>
   simp at h1 h2;subst h1;subst h2;exact P.2.2
  |succ j=>exact B.slt j i w (by simpa using h1) (by simpa using h2)
theorem Ops.view(B:Ops K T σ δ H os vs δ' H' T'){j:Nat}{d:D}(h1:os[j]?=some o)(h2:vs[j]?=some v)(hr:res δ' o=some d):jh K H' (fun a=>OwnA σ δ' a\/T a) d v:=by
 cases o with
 |val r=>
  obtain⟨e,b⟩:=r;have hd:e=d:=iR hr;subst hd
  cases b with
  |false=>exact .inl (B.val j e v h1 h2)
  |true=>
   obtain⟨p,rfl,_,_,ok⟩:=B.tmp j e v h1 h2;exact .inr ⟨p,rfl,ok⟩
 |slot i=>
  have hs:=B.slt j i v h1 h2;unfold res at hr;dsimp only at hr
  cases hi:δ'[i]? with
  |none=>rw[hi] at hr;cases hr
  |some q=>
   cases q with
   |none=>rw[hi] at hr;cases hr
   |some p=>
    obtain⟨e,b⟩:=p;rw[hi] at hr;have hd:e=d:=iR hr;subst hd
    cases b with
    |false=>
     obtain⟨w,h3,h4⟩:=B.er.val i e hi;rw[hs] at h3;cases h3;exact .inl (Rep.mono (fun _ _ e _=>e) (fun b _ z=>z.elim Or.inl fun z=>Or.inr (B.tt b z)) h4)
    |true=>
     obtain⟨a,h3,h4⟩:=B.er.own i e hi;rw[hs] at h3;cases h3;exact .inr ⟨a,rfl,h4.mono (fun _ _ e _=>e) (fun b _ z=>z.elim Or.inl fun z=>Or.inr (B.tt b z)) fun _ e=>e⟩
theorem Ops.done(B:Ops K T σ δ H os vs δ' H' T')(k: ∀v H2,Post K T σ δ H z δ' v H2->Q v H2):Gen K H' (fun a=>OwnA σ δ' a\/T a) z Q:=by
 obtain⟨d,b⟩:=z
 have dom: ∀{H2:Hp},(∀a o,H' a=some o->H2 a=some o)-> ∀a,T a->H2 a≠none:=fun {H2} hx a z=>by
  have:=B.er.dom a (B.tt a z)
  cases h:H' a with
  |none=>exact absurd h this
  |some o=>rw[hx a o h];simp
 cases b with
 |false=>
  intro w H2 hx r;exact k w H2 ⟨B.keep.trans (.ext hx),B.er.mono (fun b o e _=>hx b o e) (fun b _ z=>B.tt b z) (dom hx),r⟩
 |true=>
  intro p H2 hp hx ok
  have hp0:H p=none:=by
   cases hH:H p with
   |none=>rfl
   |some ob=>exact absurd hp (B.keep.dm p (by rw[hH];simp))
  refine k (.ref p) H2 ⟨B.keep.trans (.ext hx),p,rfl,hp0,B.er.mono (fun b o e _=>hx b o e) (fun b hb z=>z.elim (B.tt b) fun z=>absurd (z▸hp) hb) (fun a z=>?_),ok.mono (fun _ _ e _=>e) (fun b _ z=>?_) fun _ e=>e⟩
  ·rcases z with z|z
   ·exact dom hx a z
   ·subst z;exact ok.some
  ·rcases z with z|z|z
   ·exact Or.inl (Or.inl z)
   ·exact Or.inl (Or.inr z)
   ·exact Or.inr z
theorem Gen.int(g:Gen K H O (.int i,false) Q):Q (.int i) H:=g _ H (fun _ _ e=>e) Rep.mkInt
theorem Gen.bl(g:Gen K H O (.bl i,false) Q):Q (.bl i) H:=g _ H (fun _ _ e=>e) Rep.mkBl
theorem kP{H:Hp}{p:gz}{o:HO}(hp:H p=none): ∀a u,H a=some u->upd H p o a=some u:=fun a u e=>by rw[iI (by intro z;subst z;rw[e] at hp;cases hp)];exact e
theorem Gen.lst{O:AP'}{l:List D}{xs:List V}{p:gz}(g:Gen K H O (.lst l,true) Q)(hp:H p=none)(r:RepL K H O l xs):Q (.ref p) (upd H p (.lst xs)):=
 g p _ hp (kP hp) ⟨xs,iG,RepL.mono (fun b o e _=>kP hp b o e) (fun b hb z=>z.elim id fun z=>absurd (z▸hp) hb) r⟩
theorem Gen.tup(g:Gen K H O (.tup l,false) Q)(hp:H p=none)(np: ¬O p)(r:RepL K H O l xs):Q (.ref p) (upd H p (.tup xs)):=
 g _ _ (kP hp) (Rep.mkTup ⟨iG,np⟩ (RepL.mono (fun b o e _=>kP hp b o e) (fun b hb z=>z) r))
theorem Ops.np(B:Ops K T σ δ H os vs δ' H' T')(hp:H' p=none): ¬(OwnA σ δ' p\/T p):=fun z=>z.elim (fun z=>B.er.ownDom z hp) fun z=>B.er.dom p (B.tt p z) hp
end
noncomputable def ni(g:D->Option (D×Bool))(fa:FO):F:=fun δ=>(fa δ).bind fun p=>(res p.2 p.1).bind fun x=>(g x).bind fun z=>some (z,p.2)
noncomputable def gB(g:D->D->Option (D×Bool))(fa fb:FO):F:=fun δ=>(fa δ).bind fun p=>(fb p.2).bind fun q=>(res q.2 p.1).bind fun x=>(res q.2 q.1).bind fun y=>(g x y).bind fun z=>some (z,q.2)
noncomputable def jl:List FO->Dn->Option (List Opd×Dn)
 |[],δ=>some ([],δ)
 |f::fs,δ=>(f δ).bind fun p=>(jl fs p.2).bind fun q=>some (p.1::q.1,q.2)
noncomputable def um(δ:Dn):List Opd->Option (List D)
 |[]=>some []
 |o::os=>(res δ o).bind fun d=>(um δ os).bind fun l=>some (d::l)
noncomputable def gP(g:List D->Option (D×Bool))(fs:List FO):F:=fun δ=>(jl fs δ).bind fun p=>(um p.2 p.1).bind fun ds=>(g ds).bind fun z=>some (z,p.2)
def tA(K:hG)(fs:List FO):TA:=fun σ H Q=> ∃δ T os δ',ER K H T σ δ/\jl fs δ=some (os,δ')/\ ∀vs H' T',Ops K T σ δ H os vs δ' H' T'->Q vs H'
section
variable {X:Cx}{e a b:gR}{es:jF}{fa fb:FO}{fs:List FO}{pos:Pos}
theorem gv{α β:Type}{x:Option α}{f:α->Option β}{b:β}(h:x.bind f=some b): ∃a,x=some a/\f a=some b:=by
 cases x with
 |none=>cases h
 |some a=>exact⟨a,rfl,h⟩
def Vc(K:hG)(r:V->Hp->VK->Prop)(g:D->Option (D×Bool)):Prop:=
 ∀x z v H (O:AP') (Q:VK),(∀p,H p=none-> ¬O p)->jh K H O x v->g x=some z->Gen K H O z Q->r v H Q
def RL(K:hG)(r:R2)(g:D->D->Option (D×Bool)):Prop:=
 ∀x y z v u H (O:AP') (Q:VK),(∀p,H p=none-> ¬O p)->jh K H O x v->jh K H O y u->g x y=some z->Gen K H O z Q->r v u H Q
def Vb(K:hG)(r:List V->Hp->VK->Prop)(g:List D->Option (D×Bool)):Prop:=
 ∀ds z vs H (O:AP') (Q:VK),(∀p,H p=none-> ¬O p)->ds.length=vs.length->(∀(j:Nat) d v,ds[j]?=some d->vs[j]?=some v->jh K H O d v)->g ds=some z->Gen K H O z Q->r vs H Q
theorem Qb{r:V->Hp->VK->Prop}{g:D->Option (D×Bool)}(h:PE X e (tUn r (tO X.K fa)))(hr:Vc X.K r g):PX X e (ni g fa):=PX.imp h fun σ H Q hw=>by
 obtain⟨δ,T,rr,δ',E,e,k⟩:=hw;obtain⟨⟨o,δ1⟩,h1,e⟩:=gv e;obtain⟨x,h2,e⟩:=gv e;obtain⟨z,h3,e⟩:=gv e;obtain⟨rfl,rfl⟩:=hC e;refine⟨δ,T,o,δ1,E,h1,fun v H1 P1=>?_⟩;have B:=Ops.cons E P1 (Ops.nil (P1.er E));exact hr x z v H1 _ Q (fun p hp=>B.np hp) (B.view (j:=0) rfl rfl h2) h3 (B.done k)
theorem Qa{r:R2}{g:D->D->Option (D×Bool)}(h:PE X e (tOp r (tO X.K fa) (tO X.K fb)))(hr:RL X.K r g):PX X e (gB g fa fb):=PX.imp h fun σ H Q hw=>by
 obtain⟨δ,T,rr,δ',E,e,k⟩:=hw;obtain⟨⟨o,δ1⟩,h1,e⟩:=gv e;obtain⟨⟨o2,δ2⟩,h2,e⟩:=gv e;obtain⟨x,h3,e⟩:=gv e;obtain⟨y,h4,e⟩:=gv e;obtain⟨z,h5,e⟩:=gv e;obtain⟨rfl,rfl⟩:=hC e;refine⟨δ,T,o,δ1,E,h1,fun v H1 P1=>⟨δ1,AA T o v,o2,δ2,P1.er E,h2,fun u H2 P2=>?_⟩⟩;have B:=Ops.cons E P1 (Ops.cons (P1.er E) P2 (Ops.nil (P2.er (P1.er E))));exact hr x y z v u H2 _ Q (fun p hp=>B.np hp) (B.view (j:=0) rfl rfl h3) (B.view (j:=1) rfl rfl h4) h5 (B.done k)
theorem Cq:PA X [] (tA X.K []):=fun pos pins s σ H Q I h=>by
 obtain⟨δ,T,os,δ',E,e,k⟩:=h;obtain⟨rfl,rfl⟩:=hC e;exact ur pos pins s σ H Q I (k [] H T (Ops.nil E))
theorem vg(ha:PO X e fa)(hr:PA X es (tA X.K fs))(hs:starEach (e::es) X.env=(false,eval e X.env)::starEach es X.env):PA X (e::es) (tA X.K (fa::fs)):=fun pos pins s σ H Q I h=>by
 obtain⟨δ,T,os,δ',E,e,k⟩:=h;unfold jl at e;obtain⟨⟨o,δ1⟩,h1,e⟩:=gv e;obtain⟨⟨os2,δ2⟩,h2,e⟩:=gv e;obtain⟨rfl,rfl⟩:=hC e;exact oA ha hr hs pos pins s σ H Q I ⟨δ,T,o,δ1,E,h1,fun v H1 P1=>⟨δ1,AA T o v,os2,δ2,P1.er E,h2,fun vs H2 T2 B=>k _ H2 T2 (Ops.cons E P1 B)⟩⟩
theorem my{δ:Dn}: ∀{os:List Opd} {ds:List D},um δ os=some ds->ds.length=os.length/\ ∀(j:Nat) d,ds[j]?=some d-> ∃o,os[j]?=some o/\res δ o=some d
 |[],ds,h=>by cases h;exact⟨rfl,fun j d h=>by simp at h⟩
 |o::os,ds,h=>by
  unfold um at h;obtain⟨d,h1,h⟩:=gv h;obtain⟨l,h2,h⟩:=gv h;cases h;obtain⟨h3,h4⟩:=my h2;refine⟨by simp[h3],fun j e he=>?_⟩
  cases j with
  |zero=>simp at he;subst he;exact⟨o,rfl,h1⟩
  |succ j=>
   obtain⟨o',q1,q2⟩:=h4 j e (by simpa using he);exact⟨o',by simpa using q1,q2⟩
theorem Nu{r:List V->Hp->VK->Prop}{g:List D->Option (D×Bool)}(h:PE X e (tCB r (tA X.K fs)))(hr:Vb X.K r g):PX X e (gP g fs):=PX.imp h fun σ H Q hw=>by
 obtain⟨δ,T,rr,δ',E,e,k⟩:=hw;obtain⟨⟨os,δ1⟩,h1,e⟩:=gv e;obtain⟨ds,h2,e⟩:=gv e;obtain⟨z,h3,e⟩:=gv e;obtain⟨rfl,rfl⟩:=hC e;obtain⟨h4,h5⟩:=my h2;refine⟨δ,T,os,δ1,E,h1,fun vs H1 T1 B=>?_⟩;refine hr ds z vs H1 _ Q (fun p hp=>B.np hp) (h4.trans B.len) (fun j d v hd hv=>?_) h3 (B.done k);obtain⟨o,ho,aB⟩:=h5 j d hd;exact B.view ho hv aB
end
open PySem.SeqAt
mutual
/-- ==of data -/
noncomputable def D.eqb:D->D->Bool
 | .non,.non=>true
 | .bl a,.bl b=>a==b
 | .bl a,.int b=>(if a then 1 else 0)==b
 | .int a,.bl b=>a==(if b then 1 else 0)
 | .int a,.int b=>a==b
 | .str a,.str b=>a==b
 | .tup l,.tup m=>D.eqbL l m
 | .lst l,.lst m=>D.eqbL l m
 | .oth _ _ _,.oth _ _ _=>true
 |_,_=>false
noncomputable def D.eqbL:List D->List D->Bool
 |[],[]=>true
 |a::l,b::m=>D.eqb a b&&D.eqbL l m
 |_,_=>false
end
mutual
noncomputable def D.dep:D->Nat
 | .tup l=>D.depL l+1
 | .lst l=>D.depL l+1
 | .oth _ _ _=>20000
 |_=>0
noncomputable def D.depL:List D->Nat
 |[]=>0
 |d::l=>max (D.dep d) (D.depL l)
end
mutual
theorem D.eqb_refl: ∀d:D,D.eqb d d=true
 | .non=>rfl
 | .bl a=>by simp[D.eqb]
 | .int a=>by simp[D.eqb]
 | .str a=>by simp[D.eqb]
 | .tup l=>by rw[D.eqb];exact D.eqbL_refl l
 | .lst l=>by rw[D.eqb];exact D.eqbL_refl l
 | .oth _ _ _=>by rw[D.eqb]
theorem D.eqbL_refl: ∀l:List D,D.eqbL l l=true
 |[]=>rfl
 |d::l=>by rw[D.eqbL,D.eqb_refl d,D.eqbL_refl l];rfl
end
theorem D.dep_mem{d:D}: ∀{l:List D} {j:Nat},l[j]?=some d->d.dep<=D.depL l
 |[],j,h=>by simp at h
 |e::l,0,h=>by simp at h;subst h;rw[D.depL];exact Nat.le_max_left _ _
 |e::l,j+1,h=>by rw[D.depL];exact nF (D.dep_mem (by simpa using h)) (Nat.le_max_right _ _)
noncomputable def qY(l m:List D)(j:Nat):Bool:=match l[j]?,m[j]? with
 |some d,some e=>D.eqb d e
 |_,_=>true
theorem lV: ∀l m:List D,((List.range (min l.length m.length)).all (qY l m)&&l.length==m.length)=D.eqbL l m
 |[],[]=>rfl
 |[],e::m=>by simp[D.eqbL]
 |d::l,[]=>by simp[D.eqbL]
 |d::l,e::m=>by
  rw[D.eqbL,<-lV l m];simp only[kD,Nat.succ_min_succ,List.range_succ_eq_map,List.all_cons,List.all_map,pW];have h0:qY (d::l) (e::m) 0=D.eqb d e:=rfl;have h1:(fun x=>qY (d::l) (e::m) (Nat.succ x))=qY l m:=by funext x;simp[qY]
  rw[h0];simp only[h1,Bool.and_assoc]
  congr 2
  simp
section
variable {X:Cx}{pins:iq}{σ:L2.St}{H:Hp}{s:gC}
theorem kj(h:jh X.K H O (.tup l) v): ∃a xs,v= .ref a/\SqT X.K H a xs/\RepL X.K H O l xs:=by
 rcases h with h|⟨a,rfl,h⟩
 ·obtain⟨a,xs,e,q,r⟩:=h.tup;exact⟨a,xs,e,q.sq,r⟩
 ·exact h.elim
theorem jL(h:jh X.K H O (.lst l) v): ∃a xs,v= .ref a/\SqL X.K H a xs/\RepL X.K H O l xs:=by
 rcases h with h|⟨a,rfl,h⟩
 ·obtain⟨a,xs,e,q,r⟩:=h.lst;exact⟨a,xs,e,q.sq,r⟩
 ·obtain⟨xs,e,r⟩:=h;exact⟨a,xs,rfl,.inl (.inl e),r⟩
theorem RepL.views{O:AP'}{l:List D}{xs:List V}(r:RepL X.K H O l xs){j:Nat}{d:D}{v:V}(h1:l[j]?=some d)(h2:xs[j]?=some v):Rep X.K H O d v:=by
 obtain⟨w,h3,h4⟩:=r.get h1;rw[h2] at h3;cases h3;exact h4
theorem LA(I:Inv X pins σ H s)(h:OthB (H a) k ks vs us): ∃o,s.heap.get? a=some o/\(o.cls= .type "dict"\/o.cls= .type "set"):=by
 cases k with
 |dct=>
  rcases h with⟨kvs,e,_⟩|⟨kvs,e,_⟩
  ·obtain⟨_,_,vs,_,o,es,ep,h1,h2,_⟩:=(show ObjOk X.prog X.w H s.heap a (.dK kvs) from I.hok a _ e)
   exact⟨o,h1,.inl h2.1⟩
  ·obtain⟨_,_,xs,_,o,es,ep,h1,h2,_⟩:=(show ObjOk X.prog X.w H s.heap a (.dT kvs) from I.hok a _ e)
   exact⟨o,h1,.inl h2.1⟩
 |set=>
  obtain⟨_,zs,e,_⟩:=h;obtain⟨es,n,t,h1,_⟩:=(show ObjOk X.prog X.w H s.heap a (.stt zs) from I.hok a _ e)
  exact⟨_,h1,.inr rfl⟩
 |_=>exact h.elim
theorem Du(I:Inv X pins σ H s)(h1:SqT X.K H a xs)(h2:SqL X.K H a ys):False:=by
 obtain⟨b6,_,⟨o,e,c,_⟩,_⟩:=I.tuple h1;obtain⟨e9,_,⟨o2,n2,e2,c2,_⟩,_⟩:=I.list h2;rw[e] at e2;cases e2;rw[c] at c2;exact absurd c2 (by simp)
theorem N0(I:Inv X pins σ H s)(h1:SqT X.K H a xs)(h2:OthB (H a) k ks vs us):False:=by
 obtain⟨b6,_,⟨o,e,c,_⟩,_⟩:=I.tuple h1;obtain⟨o2,e2,c2⟩:=LA I h2;rw[e] at e2;cases e2;rw[c] at c2;rcases c2 with c2|c2<;>exact absurd c2 (by simp)
theorem N1(I:Inv X pins σ H s)(h1:SqL X.K H a xs)(h2:OthB (H a) k ks vs us):False:=by
 obtain⟨b6,_,⟨o,n,e,c,_⟩,_⟩:=I.list h1;obtain⟨o2,e2,c2⟩:=LA I h2;rw[e] at e2;cases e2;rw[c] at c2;rcases c2 with c2|c2<;>exact absurd c2 (by simp)
mutual
theorem Rep.inj(I:Inv X pins σ H s): ∀{d e:D} {v:V},d.dep<20000->Rep X.K H O d v->Rep X.K H O' e v->d=e
 | .non,e,v,hz,h,h'=>by
  have:=h.non;subst this
  cases e with
  |non=>rfl
  |bl b=>have:=h'.bl;cases this
  |int b=>have:=h'.int;cases this
  |str b=>have:=h'.str;cases this
  |tup m=>obtain⟨a,xs,z,_⟩:=h'.tup;cases z
  |lst m=>obtain⟨a,xs,z,_⟩:=h'.lst;cases z
  |oth m m1 m2=>obtain⟨a,xs,z,_⟩:=h'.oth;cases z
 | .bl b,e,v,hz,h,h'=>by
  have:=h.bl;subst this
  cases e with
  |non=>have:=h'.non;cases this
  |bl b=>have:=h'.bl;cases this;rfl
  |int b=>have:=h'.int;cases this
  |str b=>have:=h'.str;cases this
  |tup m=>obtain⟨a,xs,z,_⟩:=h'.tup;cases z
  |lst m=>obtain⟨a,xs,z,_⟩:=h'.lst;cases z
  |oth m m1 m2=>obtain⟨a,xs,z,_⟩:=h'.oth;cases z
 | .int b,e,v,hz,h,h'=>by
  have:=h.int;subst this
  cases e with
  |non=>have:=h'.non;cases this
  |bl b=>have:=h'.bl;cases this
  |int b=>have:=h'.int;cases this;rfl
  |str b=>have:=h'.str;cases this
  |tup m=>obtain⟨a,xs,z,_⟩:=h'.tup;cases z
  |lst m=>obtain⟨a,xs,z,_⟩:=h'.lst;cases z
  |oth m m1 m2=>obtain⟨a,xs,z,_⟩:=h'.oth;cases z
 | .str b,e,v,hz,h,h'=>by
  have:=h.str;subst this
  cases e with
  |non=>have:=h'.non;cases this
  |bl b=>have:=h'.bl;cases this
  |int b=>have:=h'.int;cases this
  |str b=>have:=h'.str;cases this;rfl
  |tup m=>obtain⟨a,xs,z,_⟩:=h'.tup;cases z
  |lst m=>obtain⟨a,xs,z,_⟩:=h'.lst;cases z
  |oth m m1 m2=>obtain⟨a,xs,z,_⟩:=h'.oth;cases z
 | .tup l,e,v,hz,h,h'=>by
  rw[D.dep] at hz;obtain⟨a,xs,rfl,q,r⟩:=h.tup
  cases e with
  |non=>have:=h'.non;cases this
  |bl b=>have:=h'.bl;cases this
  |int b=>have:=h'.int;cases this
  |str b=>have:=h'.str;cases this
  |tup m=>
   obtain⟨a2,eX,z,q2,r2⟩:=h'.tup;cases z;have:=I.tuple_inj q.sq q2.sq;subst this;rw[RepL.inj I (by lia) r r2]
  |lst m=>
   obtain⟨a2,eX,z,q2,r2⟩:=h'.lst;cases z;exact(Du I q.sq q2.sq).elim
  |oth m m1 m2=>
   obtain⟨a2,us2,z,q2,r2⟩:=h'.oth;cases z;exact(N0 I q.sq q2.2).elim
 | .lst l,e,v,hz,h,h'=>by
  rw[D.dep] at hz;obtain⟨a,xs,rfl,q,r⟩:=h.lst
  cases e with
  |non=>have:=h'.non;cases this
  |bl b=>have:=h'.bl;cases this
  |int b=>have:=h'.int;cases this
  |str b=>have:=h'.str;cases this
  |tup m=>
   obtain⟨a2,eX,z,q2,r2⟩:=h'.tup;cases z;exact(Du I q2.sq q.sq).elim
  |lst m=>
   obtain⟨a2,eX,z,q2,r2⟩:=h'.lst;cases z;have:=I.list_inj q.sq q2.sq;subst this;rw[RepL.inj I (by lia) r r2]
  |oth m m1 m2=>
   obtain⟨a2,us2,z,q2,r2⟩:=h'.oth;cases z;exact(N1 I q.sq q2.2).elim
 | .oth _ _ _,e,v,hz,h,h'=>by rw[D.dep] at hz;lia
theorem RepL.inj(I:Inv X pins σ H s){O O':AP'}: ∀{l m:List D} {vs:List V},D.depL l<20000->RepL X.K H O l vs->RepL X.K H O' m vs->l=m
 |[],m,vs,_,h,h'=>by
  rw[RepL] at h;subst h
  cases m with
  |nil=>rfl
  |cons e m=>rw[RepL] at h';obtain⟨_,_,z,_⟩:=h';cases z
 |d::l,m,vs,hz,h,h'=>by
  rw[D.depL] at hz;rw[RepL] at h;obtain⟨v,r,rfl,h1,h2⟩:=h
  cases m with
  |nil=>rw[RepL] at h';cases h'
  |cons e m=>
   rw[RepL] at h';obtain⟨v',r',z,h3,h4⟩:=h';cases z;rw[Rep.inj I (by lia) h1 h3,RepL.inj I (by lia) h2 h4]
end
theorem vG(h:jh X.K H O d v)(hd:d.dep=0)(nt: ∀l,d≠ .tup l)(nl: ∀l,d≠ .lst l):Rep X.K H O d v:=by
 rcases h with h|⟨a,rfl,h⟩
 ·exact h
 ·cases d with
  |lst l=>exact absurd rfl (nl l)
  |oth _ _ _=>rw[D.dep] at hd;lia
  |_=>exact h.elim
inductive Sh(X:Cx)(H:Hp)(s:gC)(O:AP'):D->V->Value->Prop
 |non:Sh X H s O .non .non .none
 |bl (b:Bool):Sh X H s O (.bl b) (.bl b) (.bool b)
 |int (i:Int) (t:Tok):Sh X H s O (.int i) (.int i) (.int i t)
 |str (x:Str) (t:Tok):Sh X H s O (.str x) (.str x) (.str x t)
 |tup {l:List D} {p:gz} {xs:List V} {b6:iV} (q:SqT X.K H p xs) (r:RepL X.K H O l xs) (v:Vals xs b6) (pl:IsTup s.heap p b6.toArray):Sh X H s O (.tup l) (.ref p) (.ref p)
 |lst {l:List D} {p:gz} {xs:List V} {b6:iV} (q:SqL X.K H p xs) (r:RepL X.K H O l xs) (v:Vals xs b6) (pl:s.heap.IsList p b6.toArray):Sh X H s O (.lst l) (.ref p) (.ref p)
theorem rA(I:Inv X pins σ H s)(h:jh X.K H O d v)(ra:RelV v a)(hn:d.dep<20000):Sh X H s O d v a:=by
 cases d with
 |oth m m1 m2=>rw[D.dep] at hn;lia
 |tup l=>obtain⟨p,xs,rfl,q,r⟩:=kj h;cases ra;obtain⟨b6,v1,pl,_⟩:=I.tuple q;exact .tup q r v1 pl
 |lst l=>obtain⟨p,xs,rfl,q,r⟩:=jL h;cases ra;obtain⟨b6,v1,pl,_⟩:=I.list q;exact .lst q r v1 pl.isList
 |non=>have:=(vG h rfl (by simp) (by simp)).non;subst this;cases ra;exact .non
 |bl c=>have:=(vG h rfl (by simp) (by simp)).bl;subst this;cases ra;exact .bl c
 |int c=>have:=(vG h rfl (by simp) (by simp)).int;subst this;obtain⟨t,rfl⟩:=ra;exact .int c t
 |str c=>have:=(vG h rfl (by simp) (by simp)).str;subst this;obtain⟨t,rfl⟩:=ra;exact .str c t
theorem A6(I:Inv X pins σ H s)(n:Nat)
  (ih: ∀(d e:D) (v u:V) (a b:gQ) (O O':AP') (A:gZ),jh X.K H O d v->jh X.K H O' e u->RelV v a->RelV u b->d.dep+1<=n->e.dep<20000->A.units+n<cLine+1->EqAt A s a b (D.eqb d e)):
  ∀(d e:D) (v u:V) (a b:gQ) (O O':AP') (A:gZ),jh X.K H O d v->jh X.K H O' e u->RelV v a->RelV u b->d.dep<=n->e.dep<20000->A.units+n<cLine->EqAt A s a b (D.eqb d e):=by
 intro d e v u a b O O' A hd he ra rb hn u4 hA;have hu:A.units<cLine:=by lia
 have v5:cLine=9900:=rfl
 have items: ∀(l m:List D) (xs ys:List V) (b6 e9:iV) (O1 O2:AP'),D.depL l+1<=n->D.depL m<20000->RepL X.K H O1 l xs->RepL X.K H O2 m ys->Vals xs b6->Vals ys e9->
   ∀j (h1:j<b6.toArray.size) (h2:j<e9.toArray.size),EqAt A.in1 s b6.toArray[j] e9.toArray[j] (qY l m j):=fun l m xs ys b6 e9 O1 O2 hl hm r1 r2 v1 v2 j h1 h2=>by
  have e1:=v1.length;have e2:=v2.length;have e3:=r1.length;have e4:=r2.length;simp only[iD] at h1 h2;have hx:xs[j]?=some xs[j]:=jd (by lia);have hy:ys[j]?=some ys[j]:=jd (by lia);have av:l[j]?=some l[j]:=jd (by lia);have aM:m[j]?=some m[j]:=jd (by lia);obtain⟨w,w1,w2⟩:=v1.get hx;obtain⟨w',w3,w4⟩:=v2.get hy
  have i1:b6.toArray[j]=w:=by
   have:b6[j]?=some b6[j]:=jd (by lia);rw[this] at w1;simpa using w1
  have i2:e9.toArray[j]=w':=by
   have:e9[j]?=some e9[j]:=jd (by lia);rw[this] at w3;simpa using w3
  rw[i1,i2];have hj:qY l m j=D.eqb l[j] m[j]:=by unfold qY;rw[av,aM]
  rw[hj];have aF:=D.dep_mem av;have hdep2:=D.dep_mem aM;exact ih _ _ _ _ _ _ O1 O2 A.in1 (.inl (r1.views av hx)) (.inl (r2.views aM hy)) w2 w4 (by lia) (by lia) (by show A.units+1+n<cLine+1;lia)
 have h1:=rA I hd ra (by lia);have h2:=rA I he rb u4
 cases h1 with
 |non=>
  cases h2 with
  |non=>exact kZ ra rb rfl rfl
  |bl c2=>exact kZ ra rb rfl rfl
  |int c2 t2=>exact kZ ra rb rfl rfl
  |str c2 t2=>exact kZ ra rb rfl rfl
  |tup q2 r2 v2 g0=>exact EqAt.none_tuple g0 hu
  |lst q2 r2 v2 g0=>exact EqAt.none_list g0 hu
 |bl c1=>
  cases h2 with
  |non=>exact kZ ra rb rfl rfl
  |bl c2=>exact kZ ra rb rfl rfl
  |int c2 t2=>exact kZ ra rb rfl rfl
  |str c2 t2=>exact kZ ra rb rfl rfl
  |tup q2 r2 v2 g0=>exact EqAt.bool_tuple c1 g0 hu
  |lst q2 r2 v2 g0=>exact EqAt.bool_list c1 g0 hu
 |int c1 t1=>
  cases h2 with
  |non=>exact kZ ra rb rfl rfl
  |bl c2=>exact kZ ra rb rfl rfl
  |int c2 t2=>exact kZ ra rb rfl rfl
  |str c2 t2=>exact kZ ra rb rfl rfl
  |tup q2 r2 v2 g0=>exact EqAt.int_tuple c1 t1 g0 hu
  |lst q2 r2 v2 g0=>exact EqAt.int_list c1 t1 g0 hu
 |str c1 t1=>
  cases h2 with
  |non=>exact kZ ra rb rfl rfl
  |bl c2=>exact kZ ra rb rfl rfl
  |int c2 t2=>exact kZ ra rb rfl rfl
  |str c2 t2=>exact kZ ra rb rfl rfl
  |tup q2 r2 v2 g0=>exact EqAt.str_tuple c1 t1 g0 hu
  |lst q2 r2 v2 g0=>exact EqAt.str_list c1 t1 g0 hu
 | @tup l p xs b6 q r v1 pl=>
  cases h2 with
  |non=>exact EqAt.tuple_none pl hu
  |bl c2=>exact EqAt.tuple_bool c2 pl hu
  |int c2 t2=>exact EqAt.tuple_int c2 t2 pl hu
  |str c2 t2=>exact EqAt.tuple_str c2 t2 pl hu
  | @tup m p2 ys e9 q2 r2 v2 g0=>
   by_cases hp:p=p2
   ·subst hp;have:=I.tuple_inj q q2;subst this;rw[RepL.inj I (by rw[D.dep] at hn;lia) r r2,D.eqb_refl];exact EqAt.same _
   ·refine .of_refs hp ?_;have hl:D.depL l+1<=n:=by rw[D.dep] at hn;exact hn
    have hm:D.depL m<20000:=by rw[D.dep] at u4;lia
    have z:=RcAt.tuples pl g0 hu (items l m xs ys b6 e9 _ _ hl hm r r2 v1 v2);have e1:=v1.length;have e2:=v2.length;have e3:=r.length;have e4:=r2.length;simp only[iD] at z;rw[show b6.length=l.length by lia,show e9.length=m.length by lia,lV] at z;rw[D.eqb];exact z
  |lst q2 r2 v2 g0=>exact EqAt.tuple_list pl g0 hu
 | @lst l p xs b6 q r v1 pl=>
  cases h2 with
  |non=>exact EqAt.list_none pl hu
  |bl c2=>exact EqAt.list_bool c2 pl hu
  |int c2 t2=>exact EqAt.list_int c2 t2 pl hu
  |str c2 t2=>exact EqAt.list_str c2 t2 pl hu
  |tup q2 r2 v2 g0=>exact EqAt.list_tuple pl g0 hu
  | @lst m p2 ys e9 q2 r2 v2 g0=>
   by_cases hp:p=p2
   ·subst hp;have:=I.list_inj q q2;subst this;rw[RepL.inj I (by rw[D.dep] at hn;lia) r r2,D.eqb_refl];exact EqAt.same _
   ·refine .of_refs hp ?_;have hl:D.depL l+1<=n:=by rw[D.dep] at hn;exact hn
    have hm:D.depL m<20000:=by rw[D.dep] at u4;lia
    have e1:=v1.length;have e2:=v2.length;have e3:=r.length;have e4:=r2.length;have al:=lV l m;by_cases hlen:l.length=m.length
    ·have z:=RcAt.lists pl g0 (by simp only[iD];lia) hu (items l m xs ys b6 e9 _ _ hl hm r r2 v1 v2);simp only[iD] at z;rw[show b6.length=min l.length m.length by lia] at z;rw[D.eqb,<-al,hlen];rw[hlen] at z;simpa using z
    ·have z:=RcAt.lists_lengths pl g0 (by simp only[iD,bne_iff_ne,ne_eq];lia) hu;rw[D.eqb,<-al];rw[show(l.length==m.length)=false by simpa using hlen];simpa using z
theorem zF(I:Inv X pins σ H s): ∀(n:Nat) (d e:D) (v u:V) (a b:gQ) (O O':AP') (A:gZ),jh X.K H O d v->jh X.K H O' e u->RelV v a->RelV u b->d.dep<=n->e.dep<20000->A.units+n<cLine->EqAt A s a b (D.eqb d e):=by
 intro n
 induction n with
 |zero=>
  intro d e v u a b O O' A hd he ra rb hn u4 hA;exact A6 I 0 (fun d e v u a b O O' A hd he ra rb hn u4 hA=>absurd hn (by lia)) d e v u a b O O' A hd he ra rb hn u4 hA
 |succ n ih=>
  intro d e v u a b O O' A hd he ra rb hn u4 hA;exact A6 I (n+1) (fun d e v u a b O O' A hd he ra rb hn u4 hA=>ih d e v u a b O O' A hd he ra rb (by lia) u4 (by lia)) d e v u a b O O' A hd he ra rb hn u4 hA
end
section
variable {X:Cx}{pins:iq}{σ:L2.St}{H:Hp}{s:gC}
theorem Ej(I:Inv X pins σ H s){A:gZ}{n:Nat}(hA:A.units+n<cLine): ∀(l m:List D) (xs ys:List V) (b6 e9:iV) (O1 O2:AP'),D.depL l+1<=n->D.depL m<20000->RepL X.K H O1 l xs->RepL X.K H O2 m ys->Vals xs b6->Vals ys e9->
   ∀j (h1:j<b6.toArray.size) (h2:j<e9.toArray.size),EqAt A.in1 s b6.toArray[j] e9.toArray[j] (qY l m j):=fun l m xs ys b6 e9 O1 O2 hl hm r1 r2 v1 v2 j h1 h2=>by
 have e1:=v1.length;have e2:=v2.length;have e3:=r1.length;have e4:=r2.length;simp only[iD] at h1 h2;have hx:xs[j]?=some xs[j]:=jd (by lia);have hy:ys[j]?=some ys[j]:=jd (by lia);have av:l[j]?=some l[j]:=jd (by lia);have aM:m[j]?=some m[j]:=jd (by lia);obtain⟨w,w1,w2⟩:=v1.get hx;obtain⟨w',w3,w4⟩:=v2.get hy
 have i1:b6.toArray[j]=w:=by
  have:b6[j]?=some b6[j]:=jd (by lia);rw[this] at w1;simpa using w1
 have i2:e9.toArray[j]=w':=by
  have:e9[j]?=some e9[j]:=jd (by lia);rw[this] at w3;simpa using w3
 rw[i1,i2];have hj:qY l m j=D.eqb l[j] m[j]:=by unfold qY;rw[av,aM]
 rw[hj];have aF:=D.dep_mem av;have hdep2:=D.dep_mem aM;exact zF I (n-1) _ _ _ _ _ _ O1 O2 A.in1 (.inl (r1.views av hx)) (.inl (r2.views aM hy)) w2 w4 (by lia) (by lia) (by show A.units+1+(n-1)<cLine;lia)
theorem P0(I:Inv X pins σ H s)(hd:jh X.K H O d v)(he:jh X.K H O' e u)(ra:RelV v a)(rb:RelV u b)(hn:d.dep<=n)(u4:e.dep<20000)(hA:A.units+n<cLine):RcAt A s a b (D.eqb d e):=by
 have hu:A.units<cLine:=by lia
 have items:=Ej I hA;have v5:cLine=9900:=rfl;have h1:=rA I hd ra (by lia);have h2:=rA I he rb u4
 cases h1 with
 |non=>
  cases h2 with
  |non=>exact RcAt.none_none
  |bl c2=>exact RcAt.none_bool c2
  |int c2 t2=>exact RcAt.none_int c2 t2
  |str c2 t2=>exact RcAt.none_str c2 t2
  |tup q2 r2 v2 g0=>exact RcAt.none_tuple g0 hu
  |lst q2 r2 v2 g0=>exact RcAt.none_list g0 hu
 |bl c1=>
  cases h2 with
  |non=>exact RcAt.bool_none c1
  |bl c2=>exact RcAt.bool_bool c1 c2
  |int c2 t2=>exact RcAt.bool_int c1 c2 t2
  |str c2 t2=>exact RcAt.bool_str c1 c2 t2
  |tup q2 r2 v2 g0=>exact RcAt.bool_tuple c1 g0 hu
  |lst q2 r2 v2 g0=>exact RcAt.bool_list c1 g0 hu
 |int c1 t1=>
  cases h2 with
  |non=>exact RcAt.int_none c1 t1
  |bl c2=>exact RcAt.int_bool c1 t1 c2
  |int c2 t2=>exact RcAt.int_int c1 t1 c2 t2
  |str c2 t2=>exact RcAt.int_str c1 t1 c2 t2
  |tup q2 r2 v2 g0=>exact RcAt.int_tuple c1 t1 g0 hu
  |lst q2 r2 v2 g0=>exact RcAt.int_list c1 t1 g0 hu
 |str c1 t1=>
  cases h2 with
  |non=>exact RcAt.str_none c1 t1
  |bl c2=>exact RcAt.str_bool c1 t1 c2
  |int c2 t2=>exact RcAt.str_int c1 t1 c2 t2
  |str c2 t2=>exact RcAt.str_str c1 t1 c2 t2
  |tup q2 r2 v2 g0=>exact RcAt.str_tuple c1 t1 g0 hu
  |lst q2 r2 v2 g0=>exact RcAt.str_list c1 t1 g0 hu
 | @tup l p xs b6 q r v1 pl=>
  cases h2 with
  |non=>exact RcAt.tuple_none pl hu
  |bl c2=>exact RcAt.tuple_bool c2 pl hu
  |int c2 t2=>exact RcAt.tuple_int c2 t2 pl hu
  |str c2 t2=>exact RcAt.tuple_str c2 t2 pl hu
  | @tup m p2 ys e9 q2 r2 v2 g0=>
   have hl:D.depL l+1<=n:=by rw[D.dep] at hn;exact hn
   have hm:D.depL m<20000:=by rw[D.dep] at u4;lia
   have e1:=v1.length;have e2:=v2.length;have e3:=r.length;have e4:=r2.length;have z:=RcAt.tuples pl g0 hu (items l m xs ys b6 e9 _ _ hl hm r r2 v1 v2);simp only[iD] at z;rw[show b6.length=l.length by lia,show e9.length=m.length by lia,lV] at z;rw[D.eqb];exact z
  |lst q2 r2 v2 g0=>exact RcAt.tuple_list pl g0 hu
 | @lst l p xs b6 q r v1 pl=>
  cases h2 with
  |non=>exact RcAt.list_none pl hu
  |bl c2=>exact RcAt.list_bool c2 pl hu
  |int c2 t2=>exact RcAt.list_int c2 t2 pl hu
  |str c2 t2=>exact RcAt.list_str c2 t2 pl hu
  |tup q2 r2 v2 g0=>exact RcAt.list_tuple pl g0 hu
  | @lst m p2 ys e9 q2 r2 v2 g0=>
   have hl:D.depL l+1<=n:=by rw[D.dep] at hn;exact hn
   have hm:D.depL m<20000:=by rw[D.dep] at u4;lia
   have e1:=v1.length;have e2:=v2.length;have e3:=r.length;have e4:=r2.length;have al:=lV l m;by_cases hlen:l.length=m.length
   ·have z:=RcAt.lists pl g0 (by simp only[iD];lia) hu (items l m xs ys b6 e9 _ _ hl hm r r2 v1 v2);simp only[iD] at z;rw[show b6.length=min l.length m.length by lia] at z;rw[D.eqb,<-al,hlen];rw[hlen] at z;simpa using z
   ·have z:=RcAt.lists_lengths pl g0 (by simp only[iD,bne_iff_ne,ne_eq];lia) hu;rw[D.eqb,<-al];rw[show(l.length==m.length)=false by simpa using hlen];simpa using z
theorem KP(I:Inv X pins σ H s)(hd:jh X.K H O d v)(he:jh X.K H O' e u)(ra:RelV v a)(rb:RelV u b)(hn:d.dep<=n)(u4:e.dep<20000)(hA:A.units+n<cLine):RcNeAt A s a b (!D.eqb d e):=by
 have hu:A.units<cLine:=by lia
 have items:=Ej I hA;have v5:cLine=9900:=rfl;have h1:=rA I hd ra (by lia);have h2:=rA I he rb u4
 cases h1 with
 |non=>
  cases h2 with
  |non=>exact RcNeAt.none_none
  |bl c2=>exact RcNeAt.none_bool c2
  |int c2 t2=>exact RcNeAt.none_int c2 t2
  |str c2 t2=>exact RcNeAt.none_str c2 t2
  |tup q2 r2 v2 g0=>exact RcNeAt.none_tuple g0 hu
  |lst q2 r2 v2 g0=>exact RcNeAt.none_list g0 hu
 |bl c1=>
  cases h2 with
  |non=>exact RcNeAt.bool_none c1
  |bl c2=>exact RcNeAt.bool_bool c1 c2
  |int c2 t2=>exact RcNeAt.bool_int c1 c2 t2
  |str c2 t2=>exact RcNeAt.bool_str c1 c2 t2
  |tup q2 r2 v2 g0=>exact RcNeAt.bool_tuple c1 g0 hu
  |lst q2 r2 v2 g0=>exact RcNeAt.bool_list c1 g0 hu
 |int c1 t1=>
  cases h2 with
  |non=>exact RcNeAt.int_none c1 t1
  |bl c2=>exact RcNeAt.int_bool c1 t1 c2
  |int c2 t2=>exact RcNeAt.int_int c1 t1 c2 t2
  |str c2 t2=>exact RcNeAt.int_str c1 t1 c2 t2
  |tup q2 r2 v2 g0=>exact RcNeAt.int_tuple c1 t1 g0 hu
  |lst q2 r2 v2 g0=>exact RcNeAt.int_list c1 t1 g0 hu
 |str c1 t1=>
  cases h2 with
  |non=>exact RcNeAt.str_none c1 t1
  |bl c2=>exact RcNeAt.str_bool c1 t1 c2
  |int c2 t2=>exact RcNeAt.str_int c1 t1 c2 t2
  |str c2 t2=>exact RcNeAt.str_str c1 t1 c2 t2
  |tup q2 r2 v2 g0=>exact RcNeAt.str_tuple c1 t1 g0 hu
  |lst q2 r2 v2 g0=>exact RcNeAt.str_list c1 t1 g0 hu
 | @tup l p xs b6 q r v1 pl=>
  cases h2 with
  |non=>exact RcNeAt.tuple_none pl hu
  |bl c2=>exact RcNeAt.tuple_bool c2 pl hu
  |int c2 t2=>exact RcNeAt.tuple_int c2 t2 pl hu
  |str c2 t2=>exact RcNeAt.tuple_str c2 t2 pl hu
  | @tup m p2 ys e9 q2 r2 v2 g0=>
   have hl:D.depL l+1<=n:=by rw[D.dep] at hn;exact hn
   have hm:D.depL m<20000:=by rw[D.dep] at u4;lia
   have e1:=v1.length;have e2:=v2.length;have e3:=r.length;have e4:=r2.length;have z:=RcNeAt.tuples pl g0 hu (items l m xs ys b6 e9 _ _ hl hm r r2 v1 v2);simp only[iD] at z;rw[show b6.length=l.length by lia,show e9.length=m.length by lia,lV] at z;rw[D.eqb];exact z
  |lst q2 r2 v2 g0=>exact RcNeAt.tuple_list pl g0 hu
 | @lst l p xs b6 q r v1 pl=>
  cases h2 with
  |non=>exact RcNeAt.list_none pl hu
  |bl c2=>exact RcNeAt.list_bool c2 pl hu
  |int c2 t2=>exact RcNeAt.list_int c2 t2 pl hu
  |str c2 t2=>exact RcNeAt.list_str c2 t2 pl hu
  |tup q2 r2 v2 g0=>exact RcNeAt.list_tuple pl g0 hu
  | @lst m p2 ys e9 q2 r2 v2 g0=>
   have hl:D.depL l+1<=n:=by rw[D.dep] at hn;exact hn
   have hm:D.depL m<20000:=by rw[D.dep] at u4;lia
   have e1:=v1.length;have e2:=v2.length;have e3:=r.length;have e4:=r2.length;have al:=lV l m;by_cases hlen:l.length=m.length
   ·have z:=RcNeAt.lists pl g0 (by simp only[iD];lia) hu (items l m xs ys b6 e9 _ _ hl hm r r2 v1 v2);simp only[iD] at z;rw[show b6.length=min l.length m.length by lia] at z;rw[D.eqb,<-al,hlen];rw[hlen] at z;simpa using z
   ·have z:=RcNeAt.lists_lengths pl g0 (by simp only[iD,bne_iff_ne,ne_eq];lia) hu;rw[D.eqb,<-al];rw[show(l.length==m.length)=false by simpa using hlen];simpa using z
theorem Q5(hu:X.A.units+60<cLine):OpR X (compareOp .Eq) (fun x y H Q=> ∃O d e,jh X.K H O d x/\jh X.K H O e y/\(d.dep<=50/\e.dep<=50)/\Q (.bl (D.eqb d e)) H):=by
 intro pins s σ H x y v u Q I rx ry h;obtain⟨O,d,e,h1,h2,h3,q⟩:=h;exact P0 (A:=X.A) I h1 h2 rx ry h3.1 (by lia) (by lia) _ _ _ _ ⟨.bl _,H,I,rfl,q⟩
theorem Q1(hu:X.A.units+60<cLine):OpR X (compareOp .NotEq) (fun x y H Q=> ∃O d e,jh X.K H O d x/\jh X.K H O e y/\(d.dep<=50/\e.dep<=50)/\Q (.bl (!D.eqb d e)) H):=by
 intro pins s σ H x y v u Q I rx ry h;obtain⟨O,d,e,h1,h2,h3,q⟩:=h;exact KP (A:=X.A) I h1 h2 rx ry h3.1 (by lia) (by lia) _ _ _ _ ⟨.bl _,H,I,rfl,q⟩
end
theorem ip{α:Type}{c:Prop}[Decidable c]{a b:α}(h:(if c then some a else none)=some b):c/\a=b:=by
 split at h
 ·rename_i hc;exact⟨hc,iR h⟩
 ·cases h
section
variable {X:Cx}{pins:iq}{σ:L2.St}{H:Hp}{s:gC}
theorem CK(I:Inv X pins σ H s){A:gZ}{l:List D}{xs:List V}{b6:iV}{O O':AP'}{dx:D}{vx:V}{x:gQ}(r:RepL X.K H O l xs)(v:Vals xs b6)(hx:jh X.K H O' dx vx)(rx:RelV vx x)(hn:D.depL l<=50)(hxn:dx.dep<=50)(hA:A.units+60<cLine):
  ∃e:Value->Bool,(∀y∈b6,EqAt A.in1 s y x (e y))/\b6.any e=l.any fun d=>D.eqb d dx:=by
 let e:Value->Bool:=fun y=>match(b6.zip l).find? (fun p=>p.1==y) with
  |some p=>D.eqb p.2 dx
  |none=>false
 have e1:=v.length;have e3:=r.length
 have key: ∀(j:Nat) (hj:j<b6.length) (hl:j<l.length),e b6[j]=D.eqb l[j] dx:=fun j hj hl=>by
  show(match(b6.zip l).find? (fun p=>p.1==b6[j]) with|some p=>D.eqb p.2 dx|none=>false)=_
  cases hf:(b6.zip l).find? (fun p=>p.1==b6[j]) with
  |none=>
   have:=List.find?_eq_none.mp hf (b6[j],l[j]) (by
    have:(b6.zip l)[j]?=some (b6[j],l[j]):=by simp[EJ,jd hj,jd hl]
    exact mO this)
   simp at this
  |some p=>
   have hp:=List.find?_some hf;have hm:=List.mem_of_find?_eq_some hf;obtain⟨i,hi⟩:=uO hm;obtain⟨p1,p2⟩:=p;rw[EJ] at hi;have cH:p1=b6[j]:=qD hp;obtain⟨h1,h2⟩:=hi;have bC:i<xs.length:=by have:=(vS.mp h1).1;omega
   obtain⟨w,w1,w2⟩:=v.get (jd bC);have dq:j<xs.length:=by omega
   obtain⟨w',w3,w4⟩:=v.get (jd dq);rw[h1] at w1;cases w1;rw[jd hj] at w3;cases w3;subst cH;have hv:=w2.inj w4;have a1:=r.views h2 (jd bC);have a2:=r.views (jd hl) (jd dq);rw[hv] at a1;have fY:=D.dep_mem h2;have:=Rep.inj I (by omega) a1 a2;exact pZ (fun z=>D.eqb z dx) this
 refine⟨e,fun y hy=>?_,?_⟩
 ·obtain⟨j,hj⟩:=uO hy;have hj1:=(vS.mp hj).1;have dq:=(vS.mp hj).2;have hl:j<l.length:=by omega
  have hx2:j<xs.length:=by omega
  obtain⟨w,w1,w2⟩:=v.get (jd hx2);rw[hj] at w1;cases w1;have hk:=key j hj1 hl;rw[dq] at hk;rw[hk];have hd:=D.dep_mem (jd hl);exact zF I 50 _ _ _ _ _ _ O O' A.in1 (.inl (r.views (jd hl) (jd hx2))) hx w2 rx (by omega) (by omega) (by show A.units+1+50<cLine;omega)
 ·have:b6.map e=l.map fun d=>D.eqb d dx:=by
   apply Fl
   ·simp;omega
   ·intro j h1 h2;simp only[jj] at h1 h2;simp only[List.getElem_map];exact key j h1 h2
  have h3:b6.any e=(b6.map e).any id:=by rw[wk];rfl
  have h4:(l.any fun d=>D.eqb d dx)=(l.map fun d=>D.eqb d dx).any id:=by rw[wk];rfl
  rw[h3,h4,this]
noncomputable def inD(x:D):D->Option Bool
 | .tup l=>if D.depL l<=50/\x.dep<=50 then some (l.any fun d=>D.eqb d x) else none
 | .lst l=>if D.depL l<=50/\x.dep<=50 then some (l.any fun d=>D.eqb d x) else none
 |_=>none
theorem Q4(hu:X.A.units+60<cLine):OpR X (compareOp .In) (fun x y H Q=> ∃O d e b,jh X.K H O d x/\jh X.K H O e y/\inD d e=some b/\Q (.bl b) H):=by
 intro pins s σ H x y v u Q I rx ry h;obtain⟨O,d,e,b,h1,h2,h3,q⟩:=h
 cases e with
 |tup l=>
  obtain⟨hn,rfl⟩:=ip h3
  ·skip
   obtain⟨a,xs,rfl,hq,r⟩:=kj h2;cases ry;obtain⟨b6,v1,pl,_⟩:=I.tuple hq;obtain⟨e,he,ha⟩:=CK (A:=X.A) I r v1 h1 rx hn.1 hn.2 hu;refine in_tupleAt e pl (fun w hw=>he w (by simpa using hw)) ⟨.bl _,H,I,rfl,?_⟩;rw[show b6.toArray.any e=b6.any e by simp,ha];exact q
 |lst l=>
  obtain⟨hn,rfl⟩:=ip h3
  ·skip
   obtain⟨a,xs,rfl,hq,r⟩:=jL h2;cases ry;obtain⟨b6,v1,pl,_⟩:=I.list hq;obtain⟨e,he,ha⟩:=CK (A:=X.A) I r v1 h1 rx hn.1 hn.2 hu;refine in_listAt e pl.isList (fun w hw=>he w (by simpa using hw)) ⟨.bl _,H,I,rfl,?_⟩;rw[show b6.toArray.any e=b6.any e by simp,ha];exact q
 |_=>cases h3
theorem IS(hu:X.A.units+60<cLine):OpR X (compareOp .NotIn) (fun x y H Q=> ∃O d e b,jh X.K H O d x/\jh X.K H O e y/\inD d e=some b/\Q (.bl (!b)) H):=by
 intro pins s σ H x y v u Q I rx ry h;obtain⟨O,d,e,b,h1,h2,h3,q⟩:=h
 cases e with
 |tup l=>
  obtain⟨hn,rfl⟩:=ip h3
  ·skip
   obtain⟨a,xs,rfl,hq,r⟩:=kj h2;cases ry;obtain⟨b6,v1,pl,_⟩:=I.tuple hq;obtain⟨e,he,ha⟩:=CK (A:=X.A) I r v1 h1 rx hn.1 hn.2 hu;refine notIn_tupleAt e pl (fun w hw=>he w (by simpa using hw)) ⟨.bl _,H,I,rfl,?_⟩;rw[show b6.toArray.any e=b6.any e by simp,ha];exact q
 |lst l=>
  obtain⟨hn,rfl⟩:=ip h3
  ·skip
   obtain⟨a,xs,rfl,hq,r⟩:=jL h2;cases ry;obtain⟨b6,v1,pl,_⟩:=I.list hq;obtain⟨e,he,ha⟩:=CK (A:=X.A) I r v1 h1 rx hn.1 hn.2 hu;refine notIn_listAt e pl.isList (fun w hw=>he w (by simpa using hw)) ⟨.bl _,H,I,rfl,?_⟩;rw[show b6.toArray.any e=b6.any e by simp,ha];exact q
 |_=>cases h3
end
def rD1(K:hG)(g:D->Option (D×Bool)):V->Hp->VK->Prop:=fun x H Q=> ∃(O:AP') (d:D) (z:D×Bool),(∀p,H p=none-> ¬O p)/\jh K H O d x/\g d=some z/\Gen K H O z Q
def rD(K:hG)(g:D->D->Option (D×Bool)):R2:=fun x y H Q=> ∃(O:AP') (d e:D) (z:D×Bool),(∀p,H p=none-> ¬O p)/\jh K H O d x/\jh K H O e y/\g d e=some z/\Gen K H O z Q
def rDn(K:hG)(g:List D->Option (D×Bool)):List V->Hp->VK->Prop:=fun vs H Q=> ∃(O:AP') (ds:List D) (z:D×Bool),(∀p,H p=none-> ¬O p)/\ds.length=vs.length/\(∀(j:Nat) d v,ds[j]?=some d->vs[j]?=some v->jh K H O d v)/\g ds=some z/\Gen K H O z Q
section
variable {X:Cx}{e a b:gR}{fa fb:FO}{fs:List FO}{pos:Pos}
theorem px1(h:PE X e (tUn (rD1 X.K g) (tO X.K fa))):PX X e (ni g fa):=Qb h fun x z v H O Q np hx hg G=>⟨O,x,z,np,hx,hg,G⟩
theorem px2(h:PE X e (tOp (rD X.K g) (tO X.K fa) (tO X.K fb))):PX X e (gB g fa fb):=Qa h fun x y z v u H O Q np hx hy hg G=>⟨O,x,y,z,np,hx,hy,hg,G⟩
theorem pxn(h:PE X e (tCB (rDn X.K g) (tA X.K fs))):PX X e (gP g fs):=Nu h fun ds z vs H O Q np hl hv hg G=>⟨O,ds,z,np,hl,hv,hg,G⟩
theorem ic{K H}{O:AP'}{i:Int}{v:V}(h:jh K H O (.int i) v):v= .int i:=h.elim (fun h=>h.int) fun⟨_,_,h⟩=>h.elim
theorem G6{K H}(h:jh K H O (.bl i) v):v= .bl i:=h.elim (fun h=>h.bl) fun⟨_,_,h⟩=>h.elim
theorem yH{K H}(h:jh K H O (.str i) v):v= .str i:=h.elim (fun h=>h.str) fun⟨_,_,h⟩=>h.elim
theorem Ki{K H}(h:jh K H O .non v):v= .non:=h.elim (fun h=>h.non) fun⟨_,_,h⟩=>h.elim
theorem Gen.str{K H}(g:Gen K H O (.str i,false) Q):Q (.str i) H:=g _ H (fun _ _ e=>e) Rep.mkStr
noncomputable def gI(f:Int->Int->Option D):D->D->Option (D×Bool)
 | .int i,.int j=>(f i j).map fun z=>(z,false)
 |_,_=>none
theorem yh{f:Int->Int->Option D}{d e:D}{z:D×Bool}(h:gI f d e=some z): ∃i j y,d= .int i/\e= .int j/\f i j=some y/\z=(y,false):=by
 cases d with
 |int i=>
  cases e with
  |int j=>
   cases hf:f i j with
   |none=>rw[gI,hf] at h;cases h
   |some y=>rw[gI,hf] at h;cases h;exact⟨i,j,y,rfl,rfl,hf,rfl⟩
  |_=>cases h
 |_=>cases h
theorem yf{f:xb}{C:Int->Int->Prop}[∀i j,Decidable (C i j)]{g:Int->Int->Int}(ho:OpR X f (rI C fun i j=> .int (g i j))):OpR X f (rD X.K (gI fun i j=>if C i j then some (.int (g i j)) else none)):=by
 intro pins s σ H x y v u Q I rx ry h;obtain⟨O,d,e,z,np,h1,h2,hg,G⟩:=h;obtain⟨i,j,w,rfl,rfl,hf,rfl⟩:=yh hg;obtain⟨hc,rfl⟩:=ip hf;exact ho pins s σ H x y v u Q I rx ry ⟨i,j,ic h1,ic h2,hc,G.int⟩
theorem LB{f:xb}{g:Int->Int->Int}(ho:OpR X f (rI0 fun i j=> .int (g i j))):OpR X f (rD X.K (gI fun i j=>some (.int (g i j)))):=by
 intro pins s σ H x y v u Q I rx ry h;obtain⟨O,d,e,z,np,h1,h2,hg,G⟩:=h;obtain⟨i,j,w,rfl,rfl,hf,rfl⟩:=yh hg;cases hf;exact ho pins s σ H x y v u Q I rx ry ⟨i,j,ic h1,ic h2,G.int⟩
instance(i j:Int):Decidable (CMul i j):=by unfold CMul;exact inferInstance
instance(i j:Int):Decidable (Jt i j):=by unfold Jt;exact inferInstance
instance(i j:Int):Decidable (C9 i j):=by unfold C9;exact inferInstance
noncomputable def gSub:=gI fun i j=>some (.int (i-j))
noncomputable def qk:=gI fun i j=>if CMul i j then some (.int (i*j)) else none
noncomputable def Mh:=gI fun i j=>if Jt i j then some (.int (i / j)) else none
noncomputable def vA:=gI fun i j=>if 0<j then some (.int (i%j)) else none
noncomputable def Jj:=gI fun i j=>if C9 i j then some (.int (i^j.toNat)) else none
theorem kF:OpR X (binaryOp .Sub) (rD X.K gSub):=LB QZ
theorem oB:OpR X (binaryOp .Mult) (rD X.K qk):=yf Q2
theorem Hu:OpR X (binaryOp .FloorDiv) (rD X.K Mh):=yf N2
theorem pJ:OpR X (binaryOp .Mod) (rD X.K vA):=yf Q3
theorem Ht:OpR X (binaryOp .Pow) (rD X.K Jj):=yf Q0
noncomputable def ju:D->D->Option (D×Bool)
 | .int i,.int j=>some (.int (i+j),false)
 | .str i,.str j=>if i.length+j.length<=sizeLine then some (.str (i++j),false) else none
 | .tup l,.tup m=>if l.length+m.length<=sizeLine then some (.tup (l++m),false) else none
 | .lst l,.lst m=>if l.length+m.length<=sizeLine then some (.lst (l++m),true) else none
 |_,_=>none
theorem jo:OpR X (binaryOp .Add) (rD X.K ju):=by
 intro pins s σ H x y v u Q I rx ry h;obtain⟨O,d,e,z,np,h1,h2,hg,G⟩:=h
 cases d with
 |int i=>
  cases e with
  |int j=>cases hg;exact Q6 pins s σ H x y v u Q I rx ry ⟨i,j,ic h1,ic h2,G.int⟩
  |_=>cases hg
 |str i=>
  cases e with
  |str j=>
   obtain⟨hc,rfl⟩:=ip hg;exact F9 pins s σ H x y v u Q I rx ry ⟨i,j,yH h1,yH h2,hc,G.str⟩
  |_=>cases hg
 |tup l=>
  cases e with
  |tup m=>
   obtain⟨hc,rfl⟩:=ip hg;have k1:Rep X.K H O (.tup l) x:=h1.elim id fun⟨_,_,z⟩=>z.elim;have k2:Rep X.K H O (.tup m) y:=h2.elim id fun⟨_,_,z⟩=>z.elim;obtain⟨p1,xs,rfl,q1,r1⟩:=k1.tup;obtain⟨p2,ys,rfl,q2,r2⟩:=k2.tup;have l1:=r1.length;have l2:=r2.length;by_cases hx:xs=[]
   ·subst hx;have:l=[]:=by simpa using l1.symm
    subst this;cases rx;cases ry;obtain⟨b6,v1,fw,_⟩:=I.tuple q1.sq;obtain⟨e9,v2,g0,_⟩:=I.tuple q2.sq;have e1:b6=[]:=by have:=v1.length;simpa using this.symm
    subst e1;obtain⟨⟨cls,dd,data,sl⟩,ho,v5,n,hd⟩:=id fw;obtain⟨⟨cZ,v9,data2,v7⟩,u2,m8,n2,hd2⟩:=id g0;simp only at v5 hd m8 hd2;subst v5 hd m8 hd2
    refine BW ⟨_,ho,rfl⟩ ⟨_,u2,rfl⟩ Ft Fs Fq Fp (Fo _ _)
     (tuple_addW0 p1 p2 #[] e9.toArray n n2 dd v9 sl v7 (by simp)) ⟨ho,u2,⟨.ref p2,H,I,rfl,?_⟩⟩
    exact G _ H (fun _ _ e=>e) (by simpa using k2)
   ·refine N3 pins s σ H _ _ v u Q I rx ry ⟨p1,p2,xs,ys,rfl,rfl,q1.sq,q2.sq,hx,by omega,fun hy=>?_,fun hy p hp=>?_⟩
    ·subst hy;have:m=[]:=by simpa using l2.symm
     subst this;exact G _ H (fun _ _ e=>e) (by simpa using k1)
    ·exact G.tup hp (np p hp) (r1.append r2)
  |_=>cases hg
 |lst l=>
  cases e with
  |lst m=>
   obtain⟨hc,rfl⟩:=ip hg;obtain⟨p1,xs,rfl,q1,r1⟩:=jL h1;obtain⟨p2,ys,rfl,q2,r2⟩:=jL h2;have l1:=r1.length;have l2:=r2.length;cases rx;cases ry;obtain⟨b6,v1,fw,_⟩:=I.list q1;obtain⟨e9,v2,g0,_⟩:=I.list q2;have e1:=v1.length;have e2:=v2.length;obtain⟨⟨cls,dd,data,sl⟩,ho,v5,n,hd⟩:=id fw.isList;obtain⟨⟨cZ,v9,data2,v7⟩,u2,m8,n2,hd2⟩:=id g0.isList;simp only at v5 hd m8 hd2;subst v5 hd m8 hd2
   refine BW ⟨_,ho,rfl⟩ ⟨_,u2,rfl⟩ noFill_list_add seq_list_add PySem.F.slot_list_add PySem.F.entry_list_add (PySem.F.args_list_add_2 _ _)
    (list_addW p1 p2 b6.toArray e9.toArray n n2 dd v9 sl v7 (by simp only[iD];omega)) ⟨ho,u2,?_⟩
   rw[show b6.toArray++e9.toArray=(b6++e9).toArray by simp];exact⟨.ref _,_,I.lnew (t':=s.toks) (v1.append v2) (by rw[mq];omega),rfl,G.lst I.fresh (r1.append r2)⟩
  |_=>cases hg
 |_=>cases hg
noncomputable def gEq(d e:D):Option (D×Bool):=if d.dep<=50/\e.dep<=50 then some (.bl (D.eqb d e),false) else none
noncomputable def gNe(d e:D):Option (D×Bool):=if d.dep<=50/\e.dep<=50 then some (.bl (!D.eqb d e),false) else none
noncomputable def gIn(d e:D):Option (D×Bool):=(inD d e).map fun b=>(.bl b,false)
noncomputable def mH(d e:D):Option (D×Bool):=(inD d e).map fun b=>(.bl (!b),false)
theorem mG(hu:X.A.units+60<cLine):OpR X (compareOp .Eq) (rD X.K gEq):=by
 intro pins s σ H x y v u Q I rx ry h;obtain⟨O,d,e,z,np,h1,h2,hg,G⟩:=h;obtain⟨hc,rfl⟩:=ip hg;exact Q5 hu pins s σ H x y v u Q I rx ry ⟨O,d,e,h1,h2,hc,G.bl⟩
theorem Cr(hu:X.A.units+60<cLine):OpR X (compareOp .NotEq) (rD X.K gNe):=by
 intro pins s σ H x y v u Q I rx ry h;obtain⟨O,d,e,z,np,h1,h2,hg,G⟩:=h;obtain⟨hc,rfl⟩:=ip hg;exact Q1 hu pins s σ H x y v u Q I rx ry ⟨O,d,e,h1,h2,hc,G.bl⟩
theorem iP{α β:Type}{x:Option α}{f:α->β}{b:β}(h:x.map f=some b): ∃a,x=some a/\f a=b:=by
 cases x with
 |none=>cases h
 |some a=>exact⟨a,rfl,iR h⟩
theorem QY(hu:X.A.units+60<cLine):OpR X (compareOp .In) (rD X.K gIn):=by
 intro pins s σ H x y v u Q I rx ry h;obtain⟨O,d,e,z,np,h1,h2,hg,G⟩:=h;obtain⟨b,hb,rfl⟩:=iP hg;exact Q4 hu pins s σ H x y v u Q I rx ry ⟨O,d,e,b,h1,h2,hb,G.bl⟩
theorem AQ(hu:X.A.units+60<cLine):OpR X (compareOp .NotIn) (rD X.K mH):=by
 intro pins s σ H x y v u Q I rx ry h;obtain⟨O,d,e,z,np,h1,h2,hg,G⟩:=h;obtain⟨b,hb,rfl⟩:=iP hg;exact IS hu pins s σ H x y v u Q I rx ry ⟨O,d,e,b,h1,h2,hb,G.bl⟩
noncomputable def wO:D->Option (D×Bool)
 | .int i=>some (.int (-i),false)
 |_=>none
theorem MY:UnR X (unaryOp .USub) (rD1 X.K wO):=by
 intro pins s σ H x v Q I rx h;obtain⟨O,d,z,np,h1,hg,G⟩:=h
 cases d with
 |int i=>cases hg;exact Pw pins s σ H x v Q I rx ⟨i,ic h1,G.int⟩
 |_=>cases hg
noncomputable def gIx:D->D->Option (D×Bool)
 | .tup l,.int i=>(atI l i).map fun d=>(d,false)
 | .lst l,.int i=>(atI l i).map fun d=>(d,false)
 |_,_=>none
theorem HW{K H}{O:AP'}{l:List D}{xs:List V}{i:Int}{d:D}(r:RepL K H O l xs)(h:atI l i=some d): ∃v,atI xs i=some v/\Rep K H O d v:=by
 unfold atI at h ⊢;rw[r.length];obtain⟨j,h1,h2⟩:=gv h;rw[h1];exact r.get h2
theorem Pa:IxR X (rD X.K gIx):=by
 intro value slice pins s σ H x y v u Q I rx ry h hs;obtain⟨O,d,e,z,np,h1,h2,hg,G⟩:=h
 cases d with
 |tup l=>
  cases e with
  |int i=>
   obtain⟨w,hw,rfl⟩:=iP hg;obtain⟨p,xs,rfl,q,r⟩:=kj h1;obtain⟨vv,hv,hr⟩:=HW r hw;exact Rj value slice pins s σ H _ _ v u Q I rx ry ⟨p,xs,i,vv,rfl,ic h2,q,hv,G _ H (fun _ _ e=>e) hr⟩ hs
  |_=>cases hg
 |lst l=>
  cases e with
  |int i=>
   obtain⟨w,hw,rfl⟩:=iP hg;obtain⟨p,xs,rfl,q,r⟩:=jL h1;obtain⟨vv,hv,hr⟩:=HW r hw;exact Oe value slice pins s σ H _ _ v u Q I rx ry ⟨p,xs,i,vv,rfl,ic h2,q,hv,G _ H (fun _ _ e=>e) hr⟩ hs
  |_=>cases hg
 |_=>cases hg
theorem Qk(ho:OpR X (binaryOp op) (rD X.K g))(ha:PO X a fa)(hb:PO X b fb):PX X (.BinOp a op b pos) (gB g fa fb):=px2 (SG ho ha hb)
theorem Qj{op:CmpOp}{g:D->D->Option (D×Bool)}(ho:OpR X (compareOp op) (rD X.K g))(ha:PO X a fa)(hb:PO X b fb)(hm:behindInMarks op b=false):PX X (.Compare a [op] [b] pos) (gB g fa fb):=px2 (NV ho ha hb hm)
theorem Qe(ha:PO X a fa):PX X (.UnaryOp .USub a pos) (ni wO fa):=px1 (SF MY ha)
theorem Sw(ha:PO X a fa)(hb:PO X b fb)(hs:vR b):PX X (.Subscript a b pos) (gB gIx fa fb):=px2 (OV Pa ha hb hs)
end
noncomputable def pD:List Opd->Option (List D)
 |[]=>some []
 | .val r::os=>(pD os).map (r.1:: ·)
 | .slot _::_=>none
noncomputable def jN(fs:List F):F:=fun δ=>(jl (fs.map gw) δ).bind fun p=>(pD p.1).bind fun ds=>if ds.length<=sizeLine then some ((.tup ds,false),p.2) else none
noncomputable def lK(fs:List F):F:=fun δ=>(jl (fs.map gw) δ).bind fun p=>(pD p.1).bind fun ds=>if ds.length<=sizeLine then some ((.lst ds,true),p.2) else none
section
variable {K:hG}{T T':AP'}{σ:L2.St}{δ δ':Dn}{H H':Hp}{os:List Opd}{vs:List V}
theorem Ops.rep(E:ER K H T σ δ)(B:Ops K T σ δ H os vs δ' H' T'){j:Nat}{r:D×Bool}{v:V}(h1:os[j]?=some (.val r))(h2:vs[j]?=some v):Rep K H' (fun a=>OwnA σ δ' a\/T a) r.1 v:=by
 obtain⟨d,b⟩:=r
 cases b with
 |false=>exact B.val j d v h1 h2
 |true=>
  obtain⟨p,rfl,tp,hp,ok⟩:=B.tmp j d v h1 h2;refine ok.rep (fun z=>?_) fun b _ z=>z;rcases z with z|z
  ·exact B.er.nT p z tp
  ·exact E.dom p z hp
theorem ui{O:AP'}: ∀{os:List Opd} {vs:List V} {ds:List D},pD os=some ds->os.length=vs.length->(∀(j:Nat) (r:D×Bool) (v:V),os[j]?=some (.val r)->vs[j]?=some v->Rep K H' O r.1 v)->RepL K H' O ds vs
 |[],vs,ds,h,hl,_=>by
  cases h;have:vs=[]:=by simpa using hl.symm
  subst this;exact RepL.nil
 | .slot i::os,vs,ds,h,_,_=>by cases h
 | .val r::os,vs,ds,h,hl,k=>by
  obtain⟨l,h1,rfl⟩:=iP h
  cases vs with
  |nil=>simp at hl
  |cons v vs=>exact RepL.cons (k 0 r v rfl rfl) (ui h1 (by simpa using hl) fun j r' v' a b=>k (j+1) r' v' (by simpa using a) (by simpa using b))
end
section
variable {X:Cx}{e a b:gR}{es:jF}{fa fb:FO}{fs:List F}{pos:Pos}
theorem P7{x1}(h:PA X es (tA X.K (fs.map gw))):PX X (.Tuple es x1 pos) (jN fs):=PX.imp (QE h) fun σ H Q hw=>by
 obtain⟨δ,T,rr,δ',E,e,k⟩:=hw;obtain⟨⟨os,δ1⟩,h1,e⟩:=gv e;obtain⟨ds,h2,e⟩:=gv e;obtain⟨hn,e⟩:=ip e;obtain⟨rfl,rfl⟩:=ue e;refine⟨δ,T,os,δ1,E,h1,fun vs H1 T1 B=>?_⟩;have r:=ui h2 B.len fun j r v a b=>B.rep E a b;exact⟨by rw[r.length];exact hn,fun p hp=>(B.done k).tup hp (B.np hp) r⟩
theorem Qf(h:PA X es (tA X.K (fs.map gw))):PX X (.List es pos) (lK fs):=PX.imp (QN h) fun σ H Q hw=>by
 obtain⟨δ,T,rr,δ',E,e,k⟩:=hw;obtain⟨⟨os,δ1⟩,h1,e⟩:=gv e;obtain⟨ds,h2,e⟩:=gv e;obtain⟨hn,e⟩:=ip e;obtain⟨rfl,rfl⟩:=ue e;refine⟨δ,T,os,δ1,E,h1,fun vs H1 T1 B=>?_⟩;have r:=ui h2 B.len fun j r v a b=>B.rep E a b;exact⟨by rw[r.length];exact hn,fun p hp=>(B.done k).lst hp r⟩
theorem N6{ds:List D}{vs:List V}{d:D}(hl:ds.length=vs.length)(hd:ds=[d]): ∃v,vs=[v]:=by
 subst hd
 cases vs with
 |nil=>simp at hl
 |cons v r=>
  cases r with
  |nil=>exact⟨v,rfl⟩
  |cons _ _=>simp at hl
noncomputable def g1(g:D->Option (D×Bool)):List D->Option (D×Bool)
 |[d]=>g d
 |_=>none
noncomputable def g2(g:D->D->Option (D×Bool)):List D->Option (D×Bool)
 |[d,e]=>g d e
 |_=>none
theorem nX{f:gQ}{g:D->Option (D×Bool)}(h: ∀(pins:iq) (s:gC) (σ:L2.St) (H:Hp) (x:V) (u:gQ) (Q:VK) (O:AP') (d:D) (z:D×Bool),Inv X pins σ H s->RelV x u->(∀p,H p=none-> ¬O p)->jh X.K H O d x->g d=some z->Gen X.K H O z Q->
  wpAny (model X.prog X.w) X.A (call f [u]) (EP X pins σ Q) X.xe s):jB X f (rDn X.K (g1 g)):=by
 intro pins s σ H xs us Q I r hq;obtain⟨O,ds,z,np,hl,hv,hg,G⟩:=hq
 match ds,hg with
 |[d],hg=>
  obtain⟨v,rfl⟩:=N6 hl rfl;obtain⟨u,rfl,ru⟩:=uX r;exact h pins s σ H v u Q O d z I ru np (hv 0 d v rfl rfl) hg G
theorem Mt{f:gQ}{g:D->D->Option (D×Bool)}(h: ∀(pins:iq) (s:gC) (σ:L2.St) (H:Hp) (x y:V) (us:iV) (Q:VK) (O:AP') (d e:D) (z:D×Bool),Inv X pins σ H s->Vals [x,y] us->(∀p,H p=none-> ¬O p)->jh X.K H O d x->jh X.K H O e y->g d e=some z->Gen X.K H O z Q->
  wpAny (model X.prog X.w) X.A (call f us) (EP X pins σ Q) X.xe s):jB X f (rDn X.K (g2 g)):=by
 intro pins s σ H xs us Q I r hq;obtain⟨O,ds,z,np,hl,hv,hg,G⟩:=hq
 match ds,hg,xs,hl with
 |[d,e],hg,[x,y],_=>exact h pins s σ H x y us Q O d e z I r np (hv 0 d x rfl rfl) (hv 1 e y rfl rfl) hg G
noncomputable def nP:D->Option (D×Bool)
 | .tup l=>some (.int l.length,false)
 | .lst l=>some (.int l.length,false)
 |_=>none
theorem ku:jB X (.builtin "len") (rDn X.K (g1 nP)):=nX fun pins s σ H x u Q O d z I ru np hd hg G=>by
 cases d with
 |tup l=>
  cases hg;obtain⟨p,xs,rfl,q,r⟩:=kj hd;refine vL pins s σ H [_] [u] Q I (.cons ru .nil) ⟨p,xs,rfl,.inr q,?_⟩;rw[r.length];exact G.int
 |lst l=>
  cases hg;obtain⟨p,xs,rfl,q,r⟩:=jL hd;refine vL pins s σ H [_] [u] Q I (.cons ru .nil) ⟨p,xs,rfl,.inl q,?_⟩;rw[r.length];exact G.int
 |_=>cases hg
noncomputable def oN:D->Option (D×Bool)
 | .int i=>some (.int (if i<0 then -i else i),false)
 |_=>none
theorem kW:jB X (.builtin "abs") (rDn X.K (g1 oN)):=nX fun pins s σ H x u Q O d z I ru np hd hg G=>by
 cases d with
 |int i=>cases hg;exact Mu pins s σ H [x] [u] Q I (.cons ru .nil) ⟨i,by rw[ic hd],G.int⟩
 |_=>cases hg
noncomputable def Mg:D->Option (D×Bool)
 | .int i=>some (.int i,false)
 | .bl b=>some (.int (if b then 1 else 0),false)
 |_=>none
theorem Bc:jB X (.type "int") (rDn X.K (g1 Mg)):=nX fun pins s σ H x u Q O d z I ru np hd hg G=>by
 cases d with
 |int i=>cases hg;exact Be pins s σ H [x] [u] Q I (.cons ru .nil) (.inl ⟨i,by rw[ic hd],G.int⟩)
 |bl i=>
  cases hg;refine Be pins s σ H [x] [u] Q I (.cons ru .nil) (.inr ⟨i,by rw[G6 hd],?_⟩);have:=G.int;cases i<;>exact this
 |_=>cases hg
noncomputable def kh:D->Option (D×Bool)
 | .tup l=>some (.tup l,false)
 | .lst l=>some (.tup l,false)
 |_=>none
theorem ke:jB X (.type "tuple") (rDn X.K (g1 kh)):=nX fun pins s σ H x u Q O d z I ru np hd hg G=>by
 cases d with
 |tup l=>
  cases hg;have k1:Rep X.K H O (.tup l) x:=hd.elim id fun⟨_,_,z⟩=>z.elim;obtain⟨p,xs,rfl,q,r⟩:=k1.tup;exact tL pins s σ H [_] [u] Q I (.cons ru .nil) ⟨p,xs,rfl,.inr ⟨q.sq,G _ H (fun _ _ e=>e) k1⟩⟩
 |lst l=>
  cases hg;obtain⟨p,xs,rfl,q,r⟩:=jL hd;exact tL pins s σ H [_] [u] Q I (.cons ru .nil) ⟨p,xs,rfl,.inl ⟨q,fun t ht=>G.tup ht (np t ht) r⟩⟩
 |_=>cases hg
noncomputable def HI:D->Option (D×Bool)
 | .tup l=>some (.lst l,true)
 | .lst l=>some (.lst l,true)
 |_=>none
theorem GI:jB X (.type "list") (rDn X.K (g1 HI)):=nX fun pins s σ H x u Q O d z I ru np hd hg G=>by
 cases d with
 |tup l=>
  cases hg;obtain⟨p,xs,rfl,q,r⟩:=kj hd;exact vK pins s σ H [_] [u] Q I (.cons ru .nil) ⟨p,xs,rfl,.inr q,fun t ht=>G.lst ht r⟩
 |lst l=>
  cases hg;obtain⟨p,xs,rfl,q,r⟩:=jL hd;exact vK pins s σ H [_] [u] Q I (.cons ru .nil) ⟨p,xs,rfl,.inl q,fun t ht=>G.lst ht r⟩
 |_=>cases hg
end
abbrev FT:=Dn->Option (Bool×Dn)
def tT(K:hG)(f:FT):TT:=fun σ H Q=> ∃δ T b δ',ER K H T σ δ/\f δ=some (b,δ')/\ ∀H',Keep σ δ H δ' H'->ER K H' T σ δ'->Q b H'
def PTX(X:Cx)(e:gR)(f:FT):Prop:=PT X e (tT X.K f)
def PWX(X:Cx)(e:gR)(f:FT):Prop:=PW X e (tT X.K f)
noncomputable def asB:(D×Bool)×Dn->Option (Bool×Dn)
 |((.bl b,_),δ)=>some (b,δ)
 |_=>none
noncomputable def fT(f:F):FT:=fun δ=>(f δ).bind asB
theorem zT(h:asB p=some q): ∃o,p=((.bl q.1,o),q.2):=by
 obtain⟨⟨d,o⟩,δ⟩:=p
 cases d with
 |bl b=>cases h;exact⟨o,rfl⟩
 |_=>cases h
theorem Ks{K:hG}{f:F}{σ:L2.St}{H:Hp}{Q:Bool->Hp->Prop}(h:tT K (fT f) σ H Q):tF K f σ H fun x H1=> ∃c,x= .bl c/\Q c H1:=by
 obtain⟨δ,T,b,δ',E,e,k⟩:=h;obtain⟨p,h1,h2⟩:=gv e;obtain⟨o,rfl⟩:=zT h2;refine⟨δ,T,_,_,E,h1,fun v H' P=>?_⟩;obtain⟨E1,r⟩:=P.rep E;exact⟨b,r.bl,k H' P.1 E1⟩
section
variable {X:Cx}{e a b c:gR}{es:jF}{fa fb:FO}{f g:F}{ft fu:FT}{pos:Pos}
theorem PT.imp'(h:PT X e t)(k: ∀σ H Q,t' σ H Q->t σ H Q):PT X e t':=fun pins s σ H Q I hw=>h pins s σ H Q I (k σ H Q hw)
theorem PW.imp'(h:PW X e t)(k: ∀σ H Q,t' σ H Q->t σ H Q):PW X e t':=fun wh pins s σ H Q I hw=>h wh pins s σ H Q I (k σ H Q hw)
theorem NB(h:PX X e f)(he: ∀whole,isTrue e X.env whole=(do let v <-whole;standAt e.pos;holding [v] (truthy v))):PTX X e (fT f):=PT.imp' (Qr h he) fun σ H Q hw=>Ks hw
theorem N5{r:R2}{g:D->D->Option (D×Bool)}(hr:RL X.K r g){σ:L2.St}{H:Hp}{Q:VK}(hw:tF X.K (gB g fa fb) σ H Q):tOp r (tO X.K fa) (tO X.K fb) σ H Q:=by
 obtain⟨δ,T,rr,δ',E,e,k⟩:=hw;obtain⟨⟨o,δ1⟩,h1,e⟩:=gv e;obtain⟨⟨o2,δ2⟩,h2,e⟩:=gv e;obtain⟨x,h3,e⟩:=gv e;obtain⟨y,h4,e⟩:=gv e;obtain⟨z,h5,e⟩:=gv e;obtain⟨rfl,rfl⟩:=hC e;refine⟨δ,T,o,δ1,E,h1,fun v H1 P1=>⟨δ1,AA T o v,o2,δ2,P1.er E,h2,fun u H2 P2=>?_⟩⟩;have B:=Ops.cons E P1 (Ops.cons (P1.er E) P2 (Ops.nil (P2.er (P1.er E))));exact hr x y z v u H2 _ Q (fun p hp=>B.np hp) (B.view (j:=0) rfl rfl h3) (B.view (j:=1) rfl rfl h4) h5 (B.done k)
theorem Su{K:hG}{g:D->D->Option (D×Bool)}:RL K (rD K g) g:=fun x y z v u H O Q np hx hy hg G=>⟨O,x,y,z,np,hx,hy,hg,G⟩
theorem ND{op:CmpOp}{g:D->D->Option (D×Bool)}(ho:OpR X (compareOp op) (rD X.K g))(ha:PO X a fa)(hb:PO X b fb)(hm:behindInMarks op b=false):PTX X (.Compare a [op] [b] pos) (fT (gB g fa fb)):=
 PT.imp' (NF ho ha hb hm) fun σ H Q hw=>N5 Su (Ks hw)
noncomputable def tH(f g:FT):FT:=fun δ=>(f δ).bind fun p=>if p.1=true then g p.2 else some (false,p.2)
noncomputable def Aq(f g:FT):FT:=fun δ=>(f δ).bind fun p=>if p.1=true then some (true,p.2) else g p.2
noncomputable def lj(f:FT):FT:=fun δ=>(f δ).bind fun p=>some (!p.1,p.2)
theorem K0(ha:PTX X a ft):PWX X (.BoolOp .And [a] pos) ft:=Nz ha
theorem Nx(ha:PTX X a ft):PWX X (.BoolOp .Or [a] pos) ft:=Qo ha
theorem Ny(ha:PTX X a ft)(hb:PWX X (.BoolOp .And (b::es) pos) fu):PWX X (.BoolOp .And (a::b::es) pos) (tH ft fu):=PW.imp' (Qp ha hb) fun σ H Q hw=>by
 obtain⟨δ,T,c,δ',E,e,k⟩:=hw;obtain⟨⟨c1,δ1⟩,h1,e⟩:=gv e;refine⟨δ,T,c1,δ1,E,h1,fun H1 K1 E1=>?_⟩
 cases c1 with
 |true=>
  rw[gG rfl] at e;rw[gG rfl];exact⟨δ1,T,c,δ',E1,e,fun H2 K2 E2=>k H2 (K1.trans K2) E2⟩
 |false=>
  rw[gJ jk] at e;rw[gJ jk];obtain⟨rfl,rfl⟩:=hC e;exact k H1 K1 E1
theorem Qn(ha:PTX X a ft)(hb:PWX X (.BoolOp .Or (b::es) pos) fu):PWX X (.BoolOp .Or (a::b::es) pos) (Aq ft fu):=PW.imp' (Sz ha hb) fun σ H Q hw=>by
 obtain⟨δ,T,c,δ',E,e,k⟩:=hw;obtain⟨⟨c1,δ1⟩,h1,e⟩:=gv e;refine⟨δ,T,c1,δ1,E,h1,fun H1 K1 E1=>?_⟩
 cases c1 with
 |true=>
  rw[gG rfl] at e;rw[gG rfl];obtain⟨rfl,rfl⟩:=hC e;exact k H1 K1 E1
 |false=>
  rw[gJ jk] at e;rw[gJ jk];exact⟨δ1,T,c,δ',E1,e,fun H2 K2 E2=>k H2 (K1.trans K2) E2⟩
theorem NC(ha:PTX X a ft):PTX X (.UnaryOp .Not a pos) (lj ft):=PT.imp' (Qs ha) fun σ H Q hw=>by
 obtain⟨δ,T,c,δ',E,e,k⟩:=hw;obtain⟨⟨c1,δ1⟩,h1,e⟩:=gv e;obtain⟨rfl,rfl⟩:=hC e;exact⟨δ,T,c1,δ1,E,h1,k⟩
noncomputable def vH(f g:F):F:=fun δ=>(f δ).bind fun p=>(asB p).bind fun q=>if q.1=true then g q.2 else some ((.bl false,false),q.2)
noncomputable def fOr(f g:F):F:=fun δ=>(f δ).bind fun p=>(asB p).bind fun q=>if q.1=true then some ((.bl true,false),q.2) else g q.2
noncomputable def Oo(f:F):F:=fun δ=>(f δ).bind fun p=>(asB p).bind fun q=>some ((.bl (!q.1),false),q.2)
theorem Post.pre{K:hG}{T:AP'}{σ:L2.St}{δ δ1 δ2:Dn}{H H1 H2:Hp}{r:D×Bool}{v:V}(k:Keep σ δ H δ1 H1)(P:Post K T σ δ1 H1 r δ2 v H2):Post K T σ δ H r δ2 v H2:=by
 refine⟨k.trans P.1,?_⟩;obtain⟨d,o⟩:=r
 cases o with
 |false=>exact P.2
 |true=>
  obtain⟨p,h1,h2,h3⟩:=P.2;refine⟨p,h1,?_,h3⟩
  cases hH:H p with
  |none=>rfl
  |some ob=>exact absurd h2 (k.dm p (by rw[hH];simp))
theorem Ql(ha:PX X a f)(hb:PX X (.BoolOp .And (b::es) pos) g):PX X (.BoolOp .And (a::b::es) pos) (vH f g):=PX.imp (QU ha hb) fun σ H Q hw=>by
 obtain⟨δ,T,r,δ',E,e,k⟩:=hw;obtain⟨p,h1,e⟩:=gv e;obtain⟨⟨c,δ1⟩,h2,e2⟩:=gv e;obtain⟨o,rfl⟩:=zT h2;refine⟨δ,T,_,_,E,h1,fun v H1 P=>?_⟩;obtain⟨E1,rv⟩:=P.rep E;refine⟨c,rv.bl,?_⟩
 cases c with
 |true=>
  rw[gG rfl] at e2;rw[gG rfl];exact⟨δ1,T,r,δ',E1,e2,fun w H2 P2=>k w H2 (P2.pre P.1)⟩
 |false=>
  rw[gJ jk] at e2;rw[gJ jk];obtain⟨rfl,rfl⟩:=hC e2;exact k _ H1 (Post.val P.1 E1 Rep.mkBl)
theorem Nv{op}(ha:PX X a f):PX X (.BoolOp op [a] pos) f:=QJ ha
theorem Qc(ha:PX X a f):PX X (.UnaryOp .Not a pos) (Oo f):=PX.imp (QK ha) fun σ H Q hw=>by
 obtain⟨δ,T,r,δ',E,e,k⟩:=hw;obtain⟨p,h1,e⟩:=gv e;obtain⟨⟨c,δ1⟩,h2,e2⟩:=gv e;obtain⟨o,rfl⟩:=zT h2;obtain⟨rfl,rfl⟩:=hC e2;refine⟨δ,T,_,_,E,h1,fun v H1 P=>?_⟩;obtain⟨E1,rv⟩:=P.rep E;exact⟨c,rv.bl,k _ H1 (Post.val P.1 E1 Rep.mkBl)⟩
noncomputable def fIf(t:FT)(f g:F):F:=fun δ=>(t δ).bind fun p=>if p.1=true then f p.2 else g p.2
theorem Sx(hc:PTX X c ft)(ha:PX X a f)(hb:PX X b g):PX X (.IfExp c a b pos) (fIf ft f g):=PX.imp (Lr hc ha hb) fun σ H Q hw=>by
 obtain⟨δ,T,r,δ',E,e,k⟩:=hw;obtain⟨⟨c,δ1⟩,h1,e⟩:=gv e;refine⟨δ,T,c,δ1,E,h1,fun H1 K1 E1=>?_⟩
 cases c with
 |true=>rw[gG rfl] at e;rw[gG rfl];exact⟨δ1,T,r,δ',E1,e,fun w H2 P2=>k w H2 (P2.pre K1)⟩
 |false=>rw[gJ jk] at e;rw[gJ jk];exact⟨δ1,T,r,δ',E1,e,fun w H2 P2=>k w H2 (P2.pre K1)⟩
end
inductive Out where
 |nx(δ:Dn)|rt(r:D×Bool)(δ:Dn)|bk(δ:Dn)|ct(δ:Dn)
abbrev FS:=Dn->Option Out
structure SK(A:jq)(σ:L2.St)(δ:Dn)(H:Hp)(σ':L2.St)(δ':Dn)(H':Hp):Prop where
 kp: ∀a o,H a=some o-> ¬OwnA σ δ a->H' a=some o
 owi: ∀i a,OwnI σ' δ' i a->OwnI σ δ i a\/H a=none
 dm: ∀a,H a≠none->H' a≠none
 as: ∀i,¬A i->σ'[i]?=σ[i]?
structure FI(L:jq)(H0:Hp)(σ:L2.St)(δ:Dn)(H:Hp):Prop where
 ow: ∀i a,OwnI σ δ i a->L i\/H0 a=none
 dm: ∀a,H0 a≠none->H a≠none
def RV(K:hG)(T:AP')(H0:Hp)(r:D×Bool)(σ':L2.St)(δ':Dn)(v:V)(H':Hp):Prop:=
 match r with
 |(d,false)=>ER K H' T σ' δ'/\Rep K H' (fun a=>OwnA σ' δ' a\/T a) d v
 |(d,true)=> ∃p,v= .ref p/\H0 p=none/\ER K H' (fun a=>T a\/a=p) σ' δ'/\OwnOk K H' (fun a=>OwnA σ' δ' a\/T a\/a=p) d p
section
variable {A:jq}{σ σ1 σ2:L2.St}{δ δ1 δ2:Dn}{H H0 H1 H2:Hp}{L:jq}{K:hG}{T:AP'}
theorem SK.refl:SK A σ δ H σ δ H:=⟨fun _ _ e _=>e,fun _ _ z=> .inl z,fun _ z=>z,fun _ _=>rfl⟩
theorem SK.ow(k:SK A σ δ H σ1 δ1 H1)(a:gz)(h:OwnA σ1 δ1 a):OwnA σ δ a\/H a=none:=by
 obtain⟨i,d,h1,h2⟩:=h;rcases k.owi i a ⟨d,h1,h2⟩ with⟨e,h3,h4⟩|z
 ·exact .inl ⟨i,e,h3,h4⟩
 ·exact .inr z
theorem SK.trans(x:SK A σ δ H σ1 δ1 H1)(y:SK A σ1 δ1 H1 σ2 δ2 H2):SK A σ δ H σ2 δ2 H2 where
 kp:=fun a o e n=>y.kp a o (x.kp a o e n) fun z=>(x.ow a z).elim n fun z=>by rw[z] at e;cases e
 owi:=fun i a z=>(y.owi i a z).elim (x.owi i a) fun z=> .inr (by
  cases h:H a with
  |none=>rfl
  |some o=>exact absurd z (x.dm a (by rw[h];simp)))
 dm:=fun a z=>y.dm a (x.dm a z)
 as:=fun i h=>(y.as i h).trans (x.as i h)
theorem Keep.sk(k:Keep σ δ H δ1 H1):SK A σ δ H σ δ1 H1:=⟨k.kp,fun i a z=> .inl (k.owi i a z),k.dm,fun _ _=>rfl⟩
theorem FI.step(f:FI L H0 σ δ H)(k:SK A σ δ H σ1 δ1 H1):FI L H0 σ1 δ1 H1 where
 ow:=fun i a z=>(k.owi i a z).elim (f.ow i a) fun z=> .inr (by
  cases h:H0 a with
  |none=>rfl
  |some o=>exact absurd z (f.dm a (by rw[h];simp)))
 dm:=fun a z=>k.dm a (f.dm a z)
theorem FI.fresh(f:FI L H0 σ δ H)(hp:H p=none):H0 p=none:=by
 cases h:H0 p with
 |none=>rfl
 |some o=>exact absurd hp (f.dm p (by rw[h];simp))
end
def tS(K:hG)(A L:jq)(H0:Hp)(f:FS):TS:=fun D σ H=> ∃δ T out,ER K H T σ δ/\FI L H0 σ δ H/\f δ=some out/\
 match out with
 | .nx δ'=> ∀σ' H',SK A σ δ H σ' δ' H'->ER K H' T σ' δ'->D.nx σ' H'
 | .bk δ'=> ∀σ' H',SK A σ δ H σ' δ' H'->ER K H' T σ' δ'->D.bk σ' H'
 | .ct δ'=> ∀σ' H',SK A σ δ H σ' δ' H'->ER K H' T σ' δ'->D.ct σ' H'
 | .rt r δ'=> ∀v σ' H',SK A σ δ H σ' δ' H'->RV K T H0 r σ' δ' v H'->D.rt v H'
def PSX(X:Cx)(A L:jq)(H0:Hp)(st:Stmt)(f:FS):Prop:=PS X st (tS X.K A L H0 f)
def C8(X:Cx)(A L:jq)(H0:Hp)(st:List Stmt)(f:FS):Prop:=PSs X st (tS X.K A L H0 f)
noncomputable def gS:FS:=fun δ=>some (.nx δ)
noncomputable def gE(f g:FS):FS:=fun δ=>(f δ).bind fun o=>match o with
 | .nx δ1=>g δ1
 |o=>some o
noncomputable def nJ(f:F):FS:=fun δ=>(f δ).bind fun p=>some (.nx p.2)
noncomputable def ji(f:F):FS:=fun δ=>(f δ).bind fun p=>some (.rt p.1 p.2)
noncomputable def mZ(i:Nat):FS:=fun δ=>match δ[i]? with
 |some (some (d,true))=>some (.rt (d,true) (δ.set i none))
 |some (some (d,false))=>some (.rt (d,false) δ)
 |_=>none
noncomputable def sIf(t:FT)(f g:FS):FS:=fun δ=>(t δ).bind fun p=>if p.1=true then f p.2 else g p.2
noncomputable def iw(i:Nat)(f:F):FS:=fun δ=>(f δ).bind fun p=>if i<p.2.length then some (.nx (p.2.set i (some p.1))) else none
section
variable {X:Cx}{A L:jq}{H0:Hp}{st:Stmt}{eC:List Stmt}{f g:FS}{fe:F}{ft:FT}{e c:gR}{pos:Pos}
theorem PS.imp'(h:PS X st t)(k: ∀D σ H,t' D σ H->t D σ H):PS X st t':=fun pins s σ H D I hw=>h pins s σ H D I (k D σ H hw)
theorem PSs.imp'(h:PSs X eC t)(k: ∀D σ H,t' D σ H->t D σ H):PSs X eC t':=fun pins s σ H D I hw=>h pins s σ H D I (k D σ H hw)
theorem K9:C8 X A L H0 [] gS:=PSs.imp' NK fun D σ H hw=>by
 obtain⟨δ,T,out,E,fi,e,k⟩:=hw;cases e;exact k σ H .refl E
theorem IH(h1:PSX X A L H0 st f)(h2:C8 X A L H0 eC g):C8 X A L H0 (st::eC) (gE f g):=PSs.imp' (La h1 h2) fun D σ H hw=>by
 obtain⟨δ,T,out,E,fi,e,k⟩:=hw;obtain⟨o,h3,e⟩:=gv e;refine⟨δ,T,o,E,fi,h3,?_⟩
 cases o with
 |nx δ1=>
  intro σ1 H1 K1 E1;refine⟨δ1,T,out,E1,fi.step K1,e,?_⟩
  cases out with
  |nx δ2=>exact fun σ2 H2 K2 E2=>k σ2 H2 (K1.trans K2) E2
  |bk δ2=>exact fun σ2 H2 K2 E2=>k σ2 H2 (K1.trans K2) E2
  |ct δ2=>exact fun σ2 H2 K2 E2=>k σ2 H2 (K1.trans K2) E2
  |rt r δ2=>exact fun v σ2 H2 K2 R2=>k v σ2 H2 (K1.trans K2) R2
 |rt r δ1=>cases e;exact k
 |bk δ1=>cases e;exact k
 |ct δ1=>cases e;exact k
theorem K6(h:PX X e fe)(hs:swapsWith e none pos.line X.env=pure false):PSX X A L H0 (.Expr e pos) (nJ fe):=PS.imp' (NL h hs) fun D σ H hw=>by
 obtain⟨δ,T,out,E,fi,e,k⟩:=hw;obtain⟨p,h3,e⟩:=gv e;cases e;exact⟨δ,T,p.1,p.2,E,h3,fun v H1 P=>k σ H1 P.1.sk (P.rep E).1⟩
theorem NI(h:PX X e fe):PSX X A L H0 (.Return (some e) pos) (ji fe):=PS.imp' (Lc h) fun D σ H hw=>by
 obtain⟨δ,T,out,E,fi,e,k⟩:=hw;obtain⟨p,h3,e⟩:=gv e;cases e;refine⟨δ,T,p.1,p.2,E,h3,fun v H1 P=>k v σ H1 P.1.sk ?_⟩;obtain⟨⟨d,o⟩,δ1⟩:=p
 cases o with
 |false=>exact P.2
 |true=>
  obtain⟨q,h1,h2,h3⟩:=P.2;exact⟨q,h1,fi.fresh h2,h3⟩
theorem Qt(hc:PTX X c ft)(ha:C8 X A L H0 a f)(hb:C8 X A L H0 b g):PSX X A L H0 (.If c a b pos) (sIf ft f g):=PS.imp' (SD hc ha hb) fun D σ H hw=>by
 obtain⟨δ,T,out,E,fi,e,k⟩:=hw;obtain⟨⟨c,δ1⟩,h1,e⟩:=gv e;refine⟨δ,T,c,δ1,E,h1,fun H1 K1 E1=>?_⟩;have eu:SK A σ δ H σ δ1 H1:=K1.sk
 have fin: ∀(h:FS),h δ1=some out->tS X.K A L H0 h D σ H1:=fun h he=>by
  refine⟨δ1,T,out,E1,fi.step eu,he,?_⟩
  cases out with
  |nx δ2=>exact fun σ2 H2 K2 E2=>k σ2 H2 (eu.trans K2) E2
  |bk δ2=>exact fun σ2 H2 K2 E2=>k σ2 H2 (eu.trans K2) E2
  |ct δ2=>exact fun σ2 H2 K2 E2=>k σ2 H2 (eu.trans K2) E2
  |rt r δ2=>exact fun v σ2 H2 K2 R2=>k v σ2 H2 (eu.trans K2) R2
 cases c with
 |true=>rw[gG rfl] at e;exact(show(if true=true then tS X.K A L H0 f D σ H1 else _) from by rw[gG rfl];exact fin f e)
 |false=>rw[gJ jk] at e;exact(show(if false=true then _ else tS X.K A L H0 g D σ H1) from by rw[gJ jk];exact fin g e)
end
theorem kH{α:Type}{l:List α}{i j:Nat}{x y:α}(h:(l.set i x)[j]?=some y):(i=j/\i<l.length/\y=x)\/(i≠j/\l[j]?=some y):=by
 rw[BQ] at h;split at h
 ·rename_i l9;split at h
  ·rename_i hl;exact .inl ⟨l9,hl,(iR h).symm⟩
  ·cases h
 ·rename_i l9;exact .inr ⟨l9,h⟩
section
variable {K:hG}{T:AP'}{σ:L2.St}{δ δ1:Dn}{H H1:Hp}{x:D×Bool}{v:V}{i:Nat}
theorem OwnI.store{j:Nat}{a:gz}(h:OwnI (σ.set i (some v)) (δ.set i (some x)) j a):(i≠j/\OwnI σ δ j a)\/(i=j/\x.2=true/\v= .ref a):=by
 obtain⟨d,h1,h2⟩:=h;rcases kH h1 with⟨e,_,q⟩|⟨ne,q⟩
 ·rcases kH h2 with⟨_,_,q2⟩|⟨ne2,_⟩
  ·right;cases q;exact⟨e,rfl,(iR q2).symm⟩
  ·exact absurd e ne2
 ·rcases kH h2 with⟨e2,_,_⟩|⟨_,q2⟩
  ·exact absurd e2 ne
  ·exact .inl ⟨ne,d,q,q2⟩
theorem OwnA.store(h:OwnA (σ.set i (some v)) (δ.set i (some x)) a):OwnA σ δ a\/(x.2=true/\v= .ref a):=by
 obtain⟨j,d,h1,h2⟩:=h;rcases OwnI.store ⟨d,h1,h2⟩ with⟨_,e,h3,h4⟩|⟨_,h3⟩
 ·exact .inl ⟨j,e,h3,h4⟩
 ·exact .inr h3
theorem ER.store(E1:ER K H1 (Tmp T x v) σ δ1)(hi:i<δ1.length)(hx:match x with|(d,false)=>Rep K H1 (fun a=>OwnA σ δ1 a\/T a) d v|(d,true)=> ∃p,v= .ref p/\ ¬T p/\OwnOk K H1 (fun a=>OwnA σ δ1 a\/T a\/a=p) d p):
  ER K H1 T (σ.set i (some v)) (δ1.set i (some x)):=by
 have hσ:i<σ.length:=by rw[E1.len];exact hi
 have sub: ∀b,H1 b≠none->(OwnA (σ.set i (some v)) (δ1.set i (some x)) b\/T b)->(OwnA σ δ1 b\/Tmp T x v b):=fun b _ z=>by
  rcases z with z|z
  ·rcases z.store with z|z
   ·exact .inl z
   ·exact .inr (.inr z)
  ·exact .inr (.inl z)
 refine⟨by rw[sP,sP];exact E1.len,fun j d hj=>?_,fun j d hj=>?_,fun j k d e a hj hk h1 h2=>?_,fun a z=>?_,fun a z=>E1.dom a (.inl z)⟩
 ·rcases kH hj with⟨rfl,_,q⟩|⟨ne,q⟩
  ·have q:=iR q;subst q
   exact⟨v,qv hσ,Rep.mono (fun _ _ e _=>e) (fun b hb z=>by
    rcases z with z|z
    ·rcases z.store with z|z
     ·exact .inl z
     ·exact absurd z.1 (by simp)
    ·exact .inr z) hx⟩
  ·obtain⟨w,h1,h2⟩:=E1.val j d q;exact⟨w,by rw[sV ne];exact h1,Rep.mono (fun _ _ e _=>e) sub h2⟩
 ·rcases kH hj with⟨rfl,_,q⟩|⟨ne,q⟩
  ·have q:=iR q;subst q;obtain⟨p,rfl,np,ok⟩:=hx;refine⟨p,qv hσ,ok.mono (fun _ _ e _=>e) (fun b hb z=>?_) fun _ e=>e⟩;rcases z with z|z
   ·rcases z.store with z|z
    ·exact .inl z
    ·have:=z.2;cases this;exact .inr (.inr rfl)
   ·exact .inr (.inl z)
  ·obtain⟨a,h1,h2⟩:=E1.own j d q;exact⟨a,by rw[sV ne];exact h1,h2.mono (fun _ _ e _=>e) sub fun _ e=>e⟩
 ·rcases OwnI.store ⟨d,hj,h1⟩ with⟨n1,d',g1,g2⟩|⟨e1,g1,g2⟩
  ·rcases OwnI.store ⟨e,hk,h2⟩ with⟨n2,e',g3,g4⟩|⟨e2,g3,g4⟩
   ·exact E1.inj j k d' e' a g1 g3 g2 g4
   ·exact absurd (Or.inr ⟨g3,g4⟩) (E1.nT a ⟨j,d',g1,g2⟩)
  ·rcases OwnI.store ⟨e,hk,h2⟩ with⟨n2,e',g3,g4⟩|⟨e2,g3,g4⟩
   ·exact absurd (Or.inr ⟨g1,g2⟩) (E1.nT a ⟨k,e',g3,g4⟩)
   ·exact e1.symm.trans e2
 ·rcases z.store with z|z
  ·exact fun t=>E1.nT a z (.inl t)
  ·obtain⟨d,b⟩:=x
   cases b with
   |false=>exact absurd z.1 (by simp)
   |true=>
    obtain⟨p,rfl,np,_⟩:=hx;have:=z.2;cases this;exact np
theorem SK.store(k:Keep σ δ H δ1 H1)(ha:A i)(hp:x.2=true-> ∀p,v= .ref p->H p=none):SK A σ δ H (σ.set i (some v)) (δ1.set i (some x)) H1 where
 kp:=k.kp
 owi:=fun j a z=>by
  rcases z.store with⟨_,z⟩|⟨_,z1,z2⟩
  ·exact .inl (k.owi j a z)
  ·exact .inr (hp z1 a z2)
 dm:=k.dm
 as:=fun j hj=>sV (fun(e:i=j)=>hj (by subst e;exact ha))
end
section
variable {X:Cx}{A L:jq}{H0:Hp}{fe:F}{e c:gR}{pos pos':Pos}
theorem yJ{K:hG}{T:AP'}{σ:L2.St}{δ δ1:Dn}{H H1:Hp}{r:D×Bool}{v:V}{i:Nat}(E:ER K H T σ δ)(P:Post K T σ δ H r δ1 v H1)(hi:i<δ1.length)(ha:A i):
  SK A σ δ H (σ.set i (some v)) (δ1.set i (some r)) H1/\ER K H1 T (σ.set i (some v)) (δ1.set i (some r)):=by
 have hp:r.2=true-> ∀p,v= .ref p->H p=none:=fun h p hv=>by
  obtain⟨d,o⟩:=r
  cases o with
  |false=>cases h
  |true=>obtain⟨q,h1,h2,_⟩:=P.2;rw[hv] at h1;cases h1;exact h2
 refine⟨SK.store P.1 ha hp,ER.store (P.er E) hi ?_⟩;obtain⟨d,o⟩:=r
 cases o with
 |false=>exact P.2.2
 |true=>
  obtain⟨p,rfl,h2,h3,h4⟩:=P.2;exact⟨p,rfl,fun z=>E.dom p z h2,h4⟩
theorem NH{i:Nat}{x:Str}(hN:X.N.Nodup)(hi:X.N[i]?=some x)(hx:Loc X.env.scope x)(he:PX X e fe)(hs:swapsWith e (some (.Name x pos')) pos.line X.env=pure false)(hf:X.fn x=true\/X.env.scope.names.lookup x=some .local)(ha:A i):
  PSX X A L H0 (.Assign [.Name x pos'] e pos) (iw i fe):=PS.imp' (Qu hN hi hx he hs hf) fun D σ H hw=>by
 obtain⟨δ,T,out,E,fi,e,k⟩:=hw;obtain⟨⟨r,δ1⟩,h3,e⟩:=gv e;obtain⟨hi,rfl⟩:=ip e;refine⟨δ,T,r,δ1,E,h3,fun v H1 P=>?_⟩;obtain⟨h1,h2⟩:=yJ (A:=A) E P hi ha;exact k _ H1 h1 h2
theorem F1{i:Nat}{x:Str}(hN:X.N[i]?=some x)(hv:Vis X.env.scope x)(hd:(x==("__debug__":Str))=false)(y7:(x==("__classdict__":Str))=false)(hl: ¬L i):PSX X A L H0 (.Return (some (.Name x pos')) pos) (mZ i):=PS.imp' (Lc (F7 hN hv hd y7)) fun D σ H hw=>by
 obtain⟨δ,T,out,E,fi,e,k⟩:=hw;unfold mZ at e
 cases hi:δ[i]? with
 |none=>rw[hi] at e;cases e
 |some q=>
  cases q with
  |none=>rw[hi] at e;cases e
  |some p=>
   obtain⟨d,b⟩:=p;have hil:i<δ.length:=(vS.mp hi).1
   cases b with
   |false=>
    rw[hi] at e;cases e;obtain⟨v,h1,h2⟩:=E.val i d hi;exact⟨v,h1,k v σ H .refl ⟨E,h2⟩⟩
   |true=>
    rw[hi] at e;cases e;obtain⟨a,h1,h2⟩:=E.own i d hi
    have gone: ∀j b,OwnI σ (δ.set i none) j b->i≠j/\OwnI σ δ j b:=fun j b ⟨d',g1,g2⟩=>by
     rcases kH g1 with⟨_,_,q⟩|⟨ne,q⟩
     ·cases q
     ·exact⟨ne,d',q,g2⟩
    have goneA: ∀b,OwnA σ (δ.set i none) b->OwnA σ δ b/\b≠a:=fun b ⟨j,d',g1,g2⟩=>by
     obtain⟨ne,d2,g3,g4⟩:=gone j b ⟨d',g1,g2⟩;exact⟨⟨j,d2,g3,g4⟩,fun z=>ne (by subst z;exact E.inj i j d d2 _ hi g3 h1 g4)⟩
    have ha:OwnA σ δ a:=⟨i,d,hi,h1⟩
    have sub: ∀b,H b≠none->(OwnA σ (δ.set i none) b\/(T b\/b=a))->(OwnA σ δ b\/T b):=fun b _ z=>by
     rcases z with z|z|z
     ·exact .inl (goneA b z).1
     ·exact .inr z
     ·subst z;exact .inl ha
    refine⟨.ref a,h1,k (.ref a) σ H ⟨fun _ _ e _=>e,fun j b z=> .inl (gone j b z).2,fun _ z=>z,fun _ _=>rfl⟩ ⟨a,rfl,?_,?_,h2.mono (fun _ _ e _=>e) sub fun _ e=>e⟩⟩
    ·rcases fi.ow i a ⟨d,hi,h1⟩ with z|z
     ·exact absurd z hl
     ·exact z
    ·refine⟨by rw[sP];exact E.len,fun j d' hj=>?_,fun j d' hj=>?_,fun j k d' e' b hj hk g1 g2=>?_,fun b z t=>?_,fun b z=>?_⟩
     ·rcases kH hj with⟨_,_,q⟩|⟨ne,q⟩
      ·cases q
      ·obtain⟨w,w1,w2⟩:=E.val j d' q;exact⟨w,w1,Rep.mono (fun _ _ e _=>e) sub w2⟩
     ·rcases kH hj with⟨_,_,q⟩|⟨ne,q⟩
      ·cases q
      ·obtain⟨w,w1,w2⟩:=E.own j d' q;exact⟨w,w1,w2.mono (fun _ _ e _=>e) sub fun _ e=>e⟩
     ·obtain⟨_,d2,q1,q2⟩:=gone j b ⟨d',hj,g1⟩;obtain⟨_,d3,q3,q4⟩:=gone k b ⟨e',hk,g2⟩;exact E.inj j k d2 d3 b q1 q3 q2 q4
     ·obtain⟨z1,z2⟩:=goneA b z;rcases t with t|t
      ·exact E.nT b z1 t
      ·exact z2 t
     ·rcases z with z|z
      ·exact E.dom b z
      ·subst z;exact E.ownDom ha
end
abbrev Tg:=D->Dn->Option Dn
def tG(K:hG)(A:jq)(tg:Tg):TG:=fun v σ H Q=> ∃δ T d δ',ER K H T σ δ/\Rep K H (fun a=>OwnA σ δ a\/T a) d v/\tg d δ=some δ'/\ ∀σ',SK A σ δ H σ' δ' H->ER K H T σ' δ'->Q σ' H
def PGX(X:Cx)(A:jq)(e:gR)(tg:Tg):Prop:=PG X e (tG X.K A tg)
noncomputable def gD(i:Nat):Tg:=fun d δ=>if i<δ.length then some (δ.set i (some (d,false))) else none
noncomputable def Hb:List Tg->List D->Dn->Option Dn
 |[],[],δ=>some δ
 |t::ts,d::ds,δ=>(t d δ).bind (Hb ts ds)
 |_,_,_=>none
noncomputable def xf(ts:List Tg):Tg
 | .tup ds,δ=>Hb ts ds δ
 |_,_=>none
def tGs(K:hG)(A:jq)(ts:List Tg):TGs:=fun vs σ H Q=> ∃δ T ds δ',ER K H T σ δ/\RepL K H (fun a=>OwnA σ δ a\/T a) ds vs/\Hb ts ds δ=some δ'/\ ∀σ',SK A σ δ H σ' δ' H->ER K H T σ' δ'->Q σ' H
section
variable {X:Cx}{A:jq}{pos:Pos}{e:gR}{es:jF}{t:Tg}{ts:List Tg}
theorem PG.imp'{t t':TG}(h:PG X e t)(k: ∀v σ H Q,t' v σ H Q->t v σ H Q):PG X e t':=fun pins s σ H v u Q I r hw=>h pins s σ H v u Q I r (k v σ H Q hw)
theorem PGs.imp'{t t':TGs}(h:PGs X es t)(k: ∀v σ H Q,t' v σ H Q->t v σ H Q):PGs X es t':=fun pins s σ H v u Q I r hw=>h pins s σ H v u Q I r (k v σ H Q hw)
theorem Lm{i:Nat}{x:Str}(hN:X.N.Nodup)(hi:X.N[i]?=some x)(hx:Loc X.env.scope x)(hf:X.fn x=true\/X.env.scope.names.lookup x=some .local)(ha:A i):PGX X A (.Name x pos) (gD i):=PG.imp' (Hr hN hi hx hf) fun v σ H Q hw=>by
 obtain⟨δ,T,d,δ',E,r,e,k⟩:=hw;obtain⟨hi,rfl⟩:=ip e;obtain⟨h1,h2⟩:=yJ (A:=A) (r:=(d,false)) (v:=v) E (Post.val .refl E r) hi ha;exact k _ h1 h2
theorem Ln:PGs X [] (tGs X.K A []):=PGs.imp' NT fun v σ H Q hw=>by
 obtain⟨δ,T,ds,δ',E,r,e,k⟩:=hw
 cases ds with
 |nil=>
  cases e;rw[RepL] at r;exact⟨r,k σ .refl E⟩
 |cons _ _=>cases e
theorem AN(h1:PGX X A e t)(h2:PGs X es (tGs X.K A ts))(hs:(assignEach (e::es) X.env).map (·.2)=assign e X.env::(assignEach es X.env).map (·.2)):PGs X (e::es) (tGs X.K A (t::ts)):=PGs.imp' (Lo h1 h2 hs) fun v σ H Q hw=>by
 obtain⟨δ,T,ds,δ',E,r,e,k⟩:=hw
 cases ds with
 |nil=>cases e
 |cons d ds=>
  rw[RepL] at r;obtain⟨v1,vr,rfl,r1,r2⟩:=r;obtain⟨δ1,h3,e⟩:=gv e;refine⟨v1,vr,rfl,δ,T,d,δ1,E,r1,h3,fun σ1 K1 E1=>⟨δ1,T,ds,δ',E1,?_,e,fun σ2 K2 E2=>k σ2 (K1.trans K2) E2⟩⟩;exact RepL.mono (fun _ _ e _=>e) (fun b hb z=>z.elim (fun z=>(K1.ow b z).elim Or.inl fun z=>absurd z hb) Or.inr) r2
theorem NS{k:Nat}(hc:X.calm=true)(h:PGs X es (tGs X.K A ts)){n:Nat}(hn:(assignEach es X.env).length=n)(hl:ts.length=n)(t9:(assignEach es X.env).findIdx? (·.1)=none):PGX X A (.Tuple es k pos) (xf ts):=PG.imp' (QD hc h hn t9) fun v σ H Q hw=>by
 obtain⟨δ,T,d,δ',E,r,e,k⟩:=hw
 cases d with
 |tup ds=>
  obtain⟨a,xs,rfl,q,rr⟩:=r.tup;refine⟨a,xs,rfl,q.sq,?_,δ,T,ds,δ',E,rr,e,k⟩
  have: ∀(ts:List Tg) (ds:List D) (δ:Dn),Hb ts ds δ=some δ'->ds.length=ts.length:=by
   intro ts
   induction ts with
   |nil=>intro ds δ h;cases ds with|nil=>rfl|cons _ _=>cases h
   |cons t ts ih=>
    intro ds δ h
    cases ds with
    |nil=>cases h
    |cons d ds=>obtain⟨δ1,_,h⟩:=gv h;simp[ih ds δ1 h]
  rw[rr.length,this ts ds δ e,hl]
 |_=>cases e
end
abbrev SB:=Nat->Prop
def OwB(B:SB)(T:AP')(σ:L2.St)(δ:Dn):AP':=fun a=>(∃i,¬B i/\OwnI σ δ i a)\/T a
theorem OwB.own(h:OwB B T σ δ a):OwnA σ δ a\/T a:=h.imp (fun⟨i,_,d,h1,h2⟩=>⟨i,d,h1,h2⟩) id
structure ItOk(K:hG)(J:It)(ds:List D)(P O:AP')(H1:Hp):Prop where
 go: ∀(i:Nat) d Hi,ds[i]?=some d->(∀a o,H1 a=some o-> ¬P a->Hi a=some o)->J.go i Hi/\ ∀x H',J.yld i Hi x H'->(∀a o,Hi a=some o->H' a=some o)/\
  ∀O':AP',(∀b,H1 b≠none->O' b->O b)->(∀b,Hi b=none-> ¬O' b)->Rep K H' O' d x
 stop: ∀(i:Nat) Hi,ds.length<=i->(∀a o,H1 a=some o-> ¬P a->Hi a=some o)->J.stop i Hi
abbrev FIt:=Dn->Option (List D×Dn)
def tI(K:hG)(B:SB)(fi:FIt):TI:=fun σ H R=> ∃δ T ds δ',ER K H T σ δ/\fi δ=some (ds,δ')/\ ∀J H',Keep σ δ H δ' H'->ER K H' T σ δ'->ItOk K J ds (OwB B T σ δ') (fun a=>OwnA σ δ' a\/T a) H'->R J H'
def PIX(X:Cx)(B:SB)(tg iter:gR)(fi:FIt):Prop:=PI X tg iter (tI X.K B fi)
noncomputable def sY:D->Option (List D)
 | .tup l=>some l
 | .lst l=>some l
 |_=>none
noncomputable def Gq(f:FO):FIt:=fun δ=>(f δ).bind fun p=>(res p.2 p.1).bind fun d=>(sY d).bind fun l=>some (l,p.2)
noncomputable def hJ(f:F):FIt:=fun δ=>(f δ).bind fun p=>match p.1.1 with
 | .lst l=>some (l,p.2)
 | .tup l=>some (l,p.2)
 |_=>none
noncomputable def ik(lo:Int)(n:Nat):List D:=(List.range n).map fun(k:Nat)=> .int (lo+k)
noncomputable def uB(f:FO):FIt:=fun δ=>(jl [f] δ).bind fun p=>match um p.2 p.1 with
 |some [.int j]=>if -(2^62)<=j/\j<2^62 then some (ik 0 j.toNat,p.2) else none
 |_=>none
def SlB(B:SB)(f:FO):Prop:= ∀δ i δ',f δ=some (.slot i,δ')->B i
theorem Cb:SlB B (gw f):=fun δ i δ' h=>by
 obtain⟨p,_,h⟩:=gv h;cases h
noncomputable def isL:D->Bool
 | .lst _=>true
 |_=>false
def SqA(b:Bool)(K:hG)(H:Hp)(P:AP')(a:gz)(xs:List V):Prop:=if b=true then SqLO K H P a xs else SqTO K H P a xs
theorem SqA.mono{K H H'}{P P':AP'}(q:SqA b K H P a xs)(k: ∀b o,H b=some o-> ¬P b->H' b=some o)(hP: ∀b,P' b->P b):SqA b K H' P' a xs:=by
 cases b with
 |true=>exact SqLO.mono q k fun b _=>hP b
 |false=>exact SqTO.mono (K:=K) q k fun b _=>hP b
theorem SqA.l{K H}(q:SqA true K H P a xs):SqL K H a xs:=SqLO.sq q
theorem SqA.t{K H}(q:SqA false K H P a xs):SqT K H a xs:=SqTO.sq (K:=K) q
theorem Ir{K H}(h:sY d=some l)(r:Rep K H O d v): ∃a xs,v= .ref a/\SqA (isL d) K H O a xs/\RepL K H O l xs:=by
 cases d with
 |tup m=>cases h;obtain⟨a,xs,rfl,q,rr⟩:=r.tup;exact⟨a,xs,rfl,q,rr⟩
 |lst m=>cases h;obtain⟨a,xs,rfl,q,rr⟩:=r.lst;exact⟨a,xs,rfl,q,rr⟩
 |_=>cases h
theorem Ops.seq{K:hG}{T T':AP'}{σ:L2.St}{δ δ':Dn}{H H':Hp}{os:List Opd}{vs:List V}(E:ER K H T σ δ)(W:Ops K T σ δ H os vs δ' H' T'){j:Nat}(h1:os[j]?=some o)(h2:vs[j]?=some v)(hr:res δ' o=some d)(hs:sY d=some l)(hB: ∀i,o= .slot i->B i):
  ∃a xs,v= .ref a/\SqA (isL d) K H' (OwB B T σ δ') a xs/\RepL K H' (fun a=>OwnA σ δ' a\/T a) l xs:=by
 have fin:Rep K H' (fun a=>OwnA σ δ' a\/T a) d v-> ∃a xs,v= .ref a/\SqA (isL d) K H' (OwB B T σ δ') a xs/\RepL K H' (fun a=>OwnA σ δ' a\/T a) l xs:=fun r=>by
  obtain⟨a,xs,rfl,q,rr⟩:=Ir hs r;exact⟨a,xs,rfl,q.mono (fun _ _ e _=>e) fun a z=>z.own,rr⟩
 cases o with
 |val r=>cases hr;exact fin (W.rep E h1 h2)
 |slot i=>
  have hk:=W.slt j i _ h1 h2
  have hd: ∃f,δ'[i]?=some (some (d,f)):=by
   unfold res at hr;dsimp only at hr;split at hr<;>cases hr
   exact⟨_,by assumption⟩
  obtain⟨f,hd⟩:=hd
  cases f with
  |false=>
   obtain⟨w,e1,e2⟩:=W.er.val i _ hd;rw[hk] at e1;cases e1;exact fin (Rep.mono (fun _ _ e _=>e) (fun b _ z=>z.imp id (W.tt b)) e2)
  |true=>
   obtain⟨a,e1,ok⟩:=W.er.own i _ hd;rw[hk] at e1;cases e1
   cases d with
   |lst m=>
    cases hs;obtain⟨xs,e,rr⟩:=ok;exact⟨a,xs,rfl,.inl ⟨.inl e,fun z=>z.elim (fun⟨k,nb,d',g1,g2⟩=>nb (W.er.inj i k _ _ a hd g1 hk g2▸hB i rfl)) fun z=>W.er.nT a ⟨i,_,hd,hk⟩ (W.tt a z)⟩,RepL.mono (fun _ _ e _=>e) (fun b _ z=>z.imp id (W.tt b)) rr⟩
   |tup m=>exact ok.elim
   |_=>cases hs
section
variable {X:Cx}{B:SB}{tg e:gR}{f:F}{fo:FO}{pos p:Pos}
theorem PI.imp'(h:PI X tg e t)(k: ∀σ H R,t' σ H R->t σ H R):PI X tg e t':=fun pins s σ H R I hw=>h pins s σ H R I (k σ H R hw)
theorem PI.or(h:PI X tg e t)(h':PI X tg e t'):PI X tg e (fun σ H R=>t σ H R\/t' σ H R):=fun pins s σ H R I hw=>hw.elim (h pins s σ H R I) (h' pins s σ H R I)
noncomputable def ItS(b:Bool)(K:hG)(a:gz):It:=if b=true then Itl K a else Itt K a
theorem Ma{K:hG}{P O:AP'}{H1:Hp}{a:gz}{xs:List V}{l:List D}(q:SqA b K H1 P a xs)(r:RepL K H1 O l xs)(hP: ∀a,P a->O a):ItOk K (ItS b K a) l P O H1:=by
 cases b<;>(
  refine⟨fun i d Hi hd hp=>?_,fun i Hi hi hp=>?_⟩
  ·have q2:=SqA.mono q hp fun _ z=>z
   first|replace q2:=q2.l|replace q2:=q2.t
   obtain⟨x,hx,rx⟩:=r.get hd;refine⟨⟨xs,x,q2,hx⟩,fun y H' hy=>?_⟩;obtain⟨rfl,hy⟩:=hy;have:=hy xs q2;rw[hx] at this;cases this;exact⟨fun _ _ e=>e,fun O' h1 h2=>Rep.mono (fun b o e n=>hp b o e fun z=>n (hP b z)) h1 rx⟩
  ·exact⟨xs,by first|exact(SqA.mono q hp fun _ z=>z).l|exact(SqA.mono q hp fun _ z=>z).t,by rw[r.length];exact hi⟩)
theorem zo{K:hG}{P O:AP'}{H1:Hp}(lo:Int)(n:Nat):ItOk K (Itr lo n) (ik lo n) P O H1:=by
 refine⟨fun i d Hi hd hp=>?_,fun i Hi hi hp=>?_⟩
 ·unfold ik at hd;rw[lh] at hd;obtain⟨k,h1,h2⟩:=iP hd;have hi:i<n:=by have:=(vS.mp h1).1;simpa using this
  have hk:k=i:=by rw[List.getElem?_range hi] at h1;exact(iR h1).symm
  subst hk;refine⟨hi,fun y H' hy=>?_⟩;obtain⟨rfl,rfl⟩:=hy;refine⟨fun _ _ e=>e,fun O' _ _=>?_⟩;rw[<-h2];exact Rep.mkInt
 ·unfold ik at hi;have:n<=i:=by simpa using hi
  exact this
theorem Li(h:PO X e fo)(hB:SlB B fo):PIX X B tg e (Gq fo):=PI.imp' (PI.or (NQ (tg:=tg) h) (Qz h)) fun σ H R hw=>by
 obtain⟨δ,T,ds,δ',E,e,k⟩:=hw;obtain⟨⟨o,δ1⟩,h1,e⟩:=gv e;obtain⟨d,h2,e⟩:=gv e;obtain⟨l,h3,e⟩:=gv e;obtain⟨rfl,rfl⟩:=hC e
 have key: ∀v H1,PostO X.K T σ δ H o δ1 v H1-> ∃a xs,v= .ref a/\SqA (isL d) X.K H1 (OwB B T σ δ1) a xs/\R (ItS (isL d) X.K a) H1:=fun v H1 P=>by
  have W:=Ops.cons E P (Ops.nil (P.er E));obtain⟨a,xs,rfl,q,rr⟩:=W.seq E (j:=0) rfl rfl h2 h3 fun i hi=>hB _ _ _ (hi▸h1);exact⟨a,xs,rfl,q,k _ H1 W.keep (W.er.mono (fun _ _ e _=>e) (fun b _ z=>W.tt b z) (fun a z=>W.er.dom a (W.tt a z))) (Ma q rr fun a z=>z.own)⟩
 cases d with
 |lst m=>exact .inl ⟨δ,T,_,_,E,h1,fun v H1 P=>let⟨a,xs,e,q,r⟩:=key v H1 P;⟨a,e,⟨xs,q.l⟩,r⟩⟩
 |tup m=>exact .inr ⟨δ,T,_,_,E,h1,fun v H1 P=>let⟨a,xs,e,q,r⟩:=key v H1 P;⟨a,e,⟨xs,q.t⟩,r⟩⟩
 |_=>cases h3
theorem NN(h:PX X e f):PIX X B tg e (hJ f):=PI.imp' (Li (B:=B) (PX.po h) Cb) fun σ H R hw=>by
 have:hJ f=Gq (gw f):=funext fun δ=>by
  unfold hJ Gq gw
  cases f δ with
  |none=>rfl
  |some p=>obtain⟨⟨d,o⟩,δ1⟩:=p;cases d<;>rfl
 rwa [this] at hw
end
noncomputable def qX(tg:Tg)(fb:FS):List D->FS
 |[],δ=>some (.nx δ)
 |d::ds,δ=>(tg d δ).bind fun δ1=>(fb δ1).bind fun o=>match o with
  | .nx δ2=>qX tg fb ds δ2
  | .ct δ2=>qX tg fb ds δ2
  | .bk δ2=>some (.nx δ2)
  | .rt r δ2=>some (.rt r δ2)
noncomputable def pI(fi:FIt)(tg:Tg)(fb:FS):FS:=fun δ=>(fi δ).bind fun p=>qX tg fb p.1 p.2
section
variable {X:Cx}{A L:jq}{H0:Hp}{tg iter:gR}{body:List Stmt}{fi:FIt}{t:Tg}{fb:FS}{pos:Pos}
theorem NJ(hp:PassesOwn (model X.prog X.w) X.A X.env X.xe)(hc:X.calm=true)(hi:PIX X (fun _=>False) tg iter fi)(hg:PGX X A tg t)(hb:C8 X A L H0 body fb)(hs: ∀x,foldedSetIterable iter X.env x=pure x):
  PSX X A L H0 (.For tg iter body [] pos) (pI fi t fb):=PS.imp' (Qv hp hc hi hg hb hs) fun D σ H hw=>by
 obtain⟨δ,T,out,E,gk,e,k⟩:=hw;obtain⟨⟨ds,δ1⟩,h1,e⟩:=gv e;refine⟨δ,T,ds,δ1,E,h1,fun J H1 K1 E1 ok=>?_⟩;have S1:SK A σ δ H σ δ1 H1:=K1.sk;refine⟨fun i m σ' H'=>m=ds.length-i/\i<=ds.length/\ ∃δ',SK A σ δ1 H1 σ' δ' H'/\ER X.K H' T σ' δ'/\qX t fb (ds.drop i) δ'=some out,⟨ds.length,by simp,lN _,δ1,.refl,E1,by simpa using e⟩,?_⟩;rintro i m σ2 H2 ⟨rfl,hle,δ2,S2,E2,e2⟩;have aR: ∀a o,H1 a=some o-> ¬OwB (fun _=>False) T σ δ1 a->H2 a=some o:=fun a o ea n=>S2.kp a o ea fun⟨i,d,z⟩=>n (.inl ⟨i,id,d,z⟩);by_cases j0:i<ds.length
 ·refine .inr ?_;have hd:ds[i]?=some ds[i]:=jd j0;obtain⟨go,yl⟩:=ok.go i _ H2 hd aR;rw[ud j0] at e2;obtain⟨δ3,h3,e3⟩:=gv e2;obtain⟨o,h4,e4⟩:=gv e3;refine⟨go,fun σ' H'=> ∃δ',SK A σ δ1 H1 σ' δ' H'/\ER X.K H' T σ' δ'/\qX t fb (ds.drop (i+1)) δ'=some out,fun σ' H' ⟨δ',q1,q2,q3⟩=>⟨ds.length-(i+1),by omega,rfl,j0,δ',q1,q2,q3⟩,fun x H' hy=>?_⟩;obtain⟨ext,rep⟩:=yl x H' hy
  have ez:ER X.K H' T σ2 δ2:=E2.mono (fun b ob eb _=>ext b ob eb) (fun _ _ z=>z) (fun a z=>by
   cases hh:H2 a with
   |none=>exact absurd hh (E2.dom a z)
   |some ob=>rw[ext a ob hh];simp)
  have gp:SK A σ δ1 H1 σ2 δ2 H':=S2.trans (Keep.ext ext).sk;have rx:=rep (fun a=>OwnA σ2 δ2 a\/T a) (fun b hb z=>z.elim (fun z=>(S2.ow b z).elim Or.inl fun z=>absurd z hb) Or.inr) (fun b hb z=>z.elim (fun z=>E2.ownDom z hb) fun z=>E2.dom b z hb);refine⟨δ2,T,ds[i],δ3,ez,rx,h3,fun σ3 S3 E3=>?_⟩;have da:=gp.trans S3;refine⟨δ3,T,o,E3,(gk.step S1).step da,h4,?_⟩
  cases o with
  |nx δ4=>exact fun σ4 H4 S4 E4=>⟨δ4,da.trans S4,E4,e4⟩
  |ct δ4=>exact fun σ4 H4 S4 E4=>⟨δ4,da.trans S4,E4,e4⟩
  |bk δ4=>cases e4;exact fun σ4 H4 S4 E4=>k σ4 H4 (S1.trans (da.trans S4)) E4
  |rt r δ4=>cases e4;exact fun v σ4 H4 S4 R4=>k v σ4 H4 (S1.trans (da.trans S4)) R4
 ·refine .inl ⟨ok.stop i H2 (by omega) aR,?_⟩;rw[uc (by omega)] at e2;cases e2;exact k σ2 H2 (S1.trans S2) E2
end
noncomputable def nR(ft:FT)(fb:FS):Nat->FS
 |0,_=>none
 |n+1,δ=>(ft δ).bind fun p=>if p.1=true then(fb p.2).bind fun o=>(match o with
   | .nx δ2=>nR ft fb n δ2
   | .ct δ2=>nR ft fb n δ2
   | .bk δ2=>some (.nx δ2)
   | .rt r δ2=>some (.rt r δ2)) else some (.nx p.2)
noncomputable def CI(f g:FO):FIt:=fun δ=>(jl [f,g] δ).bind fun p=>match um p.2 p.1 with
 |some [.int i,.int j]=>if -(2^62)<=i/\i<2^62/\ -(2^62)<=j/\j<2^62 then some (ik i (j-i).toNat,p.2) else none
 |_=>none
section
variable {X:Cx}{A L:jq}{H0:Hp}{B:SB}{tg e c a b:gR}{body:List Stmt}{ft:FT}{fb:FS}{fa fo:FO}{pos p:Pos}
theorem IE{n:Nat}(hp:PassesOwn (model X.prog X.w) X.A X.env X.xe)(hc:PTX X c ft)(hb:C8 X A L H0 body fb):PSX X A L H0 (.While c body [] pos) (nR ft fb n):=PS.imp' (Lb hp hc hb) fun D σ H hw=>by
 obtain⟨δ,T,out,E,gk,e,k⟩:=hw;refine⟨fun m σ' H'=> ∃δ',SK A σ δ H σ' δ' H'/\ER X.K H' T σ' δ'/\nR ft fb m δ'=some out,⟨n,δ,.refl,E,e⟩,?_⟩;rintro m σ2 H2 ⟨δ2,S2,E2,e2⟩
 cases m with
 |zero=>cases e2
 |succ m=>
  obtain⟨⟨c1,δ3⟩,h3,e3⟩:=gv e2;refine⟨δ2,T,c1,δ3,E2,h3,fun H3 K3 E3=>?_⟩;have S3:SK A σ δ H σ2 δ3 H3:=S2.trans K3.sk
  cases c1 with
  |false=>
   rw[gJ jk] at e3;cases e3;exact S7 (k σ2 H3 S3 E3)
  |true=>
   rw[gG rfl] at e3;obtain⟨o,h4,e4⟩:=gv e3;refine S6 ⟨fun σ' H'=> ∃δ',SK A σ δ H σ' δ' H'/\ER X.K H' T σ' δ'/\nR ft fb m δ'=some out,fun σ' H' q=>⟨m,uN _,q⟩,δ3,T,o,E3,gk.step S3,h4,?_⟩
   cases o with
   |nx δ4=>exact fun σ4 H4 S4 E4=>⟨δ4,S3.trans S4,E4,e4⟩
   |ct δ4=>exact fun σ4 H4 S4 E4=>⟨δ4,S3.trans S4,E4,e4⟩
   |bk δ4=>cases e4;exact fun σ4 H4 S4 E4=>k σ4 H4 (S3.trans S4) E4
   |rt r δ4=>cases e4;exact fun v σ4 H4 S4 R4=>k v σ4 H4 (S3.trans S4) R4
theorem rB{K:hG}{T T':AP'}{σ:L2.St}{δ δ':Dn}{H H':Hp}{os:List Opd}{vs:List V}{ds:List D}(B:Ops K T σ δ H os vs δ' H' T')(h:um δ' os=some ds){j:Nat}{i:Int}(hd:ds[j]?=some (.int i)):vs[j]?=some (.int i):=by
 obtain⟨h1,h2⟩:=my h;obtain⟨o,h3,h4⟩:=h2 j _ hd;have hj:j<vs.length:=by have:=(vS.mp h3).1;have:=B.len;omega
 have hv:vs[j]?=some vs[j]:=jd hj;have:=ic (B.view h3 hv h4);rw[hv,this]
theorem F6(hg:Gl X "range")(hm:X.mg "range"=none)(ha:PA X [a] (tA X.K [fa]))(hs:starEach [a] X.env=[(false,eval a X.env)]):PIX X B tg (.Call (.Name "range" p) [a] [] pos) (uB fa):=PI.imp' (IM hg hm ha hs) fun σ H R hw=>by
 obtain⟨δ,T,ds,δ',E,e,k⟩:=hw;obtain⟨⟨os,δ1⟩,h1,e⟩:=gv e;refine⟨δ,T,os,δ1,E,h1,fun vs H1 T1 B=>?_⟩;dsimp only at e;split at e
 ·rename_i j hj;obtain⟨⟨c1,c2⟩,e⟩:=ip e;obtain⟨rfl,rfl⟩:=ue e;have hv:=rB B hj (j:=0) rfl;obtain⟨hl,_⟩:=my hj
  have:vs=[.int j]:=by
   have hlen:=B.len
   cases vs with
   |nil=>simp at hv
   |cons v r=>
    cases r with
    |nil=>simp at hv;rw[hv]
    |cons _ _=>simp at hl hlen;omega
  exact⟨j,this,c1,c2,k _ H1 B.keep (B.er.mono (fun _ _ e _=>e) (fun b _ z=>B.tt b z) (fun a z=>B.er.dom a (B.tt a z))) (zo 0 j.toNat)⟩
 ·cases e
theorem F5(hg:Gl X "range")(hm:X.mg "range"=none)(ha:PA X [a,b] (tA X.K [fa,fo]))(hs:starEach [a,b] X.env=[(false,eval a X.env),(false,eval b X.env)])(p8:starEach [b] X.env=[(false,eval b X.env)]):PIX X B tg (.Call (.Name "range" p) [a,b] [] pos) (CI fa fo):=PI.imp' (IL hg hm ha hs p8) fun σ H R hw=>by
 obtain⟨δ,T,ds,δ',E,e,k⟩:=hw;obtain⟨⟨os,δ1⟩,h1,e⟩:=gv e;refine⟨δ,T,os,δ1,E,h1,fun vs H1 T1 B=>?_⟩;dsimp only at e;split at e
 ·rename_i i j hj;obtain⟨c1,e⟩:=ip e;obtain⟨rfl,rfl⟩:=ue e;have hv:=rB B hj (j:=0) rfl;have eM:=rB B hj (j:=1) rfl;obtain⟨hl,_⟩:=my hj
  have:vs=[.int i,.int j]:=by
   have hlen:=B.len
   match vs,hv,eM with
   |[x,y],hv,eM=>simp at hv eM;rw[hv,eM]
   |x::y::z::r,_,_=>simp at hl hlen;omega
  exact⟨i,j,this,c1,k _ H1 B.keep (B.er.mono (fun _ _ e _=>e) (fun b _ z=>B.tt b z) (fun a z=>B.er.dom a (B.tt a z))) (zo i (j-i).toNat)⟩
 ·cases e
end
abbrev EvF:=List (D×Bool)->Option ((D×Bool)×Dn)
def spF(K:hG)(ev:EvF):Sp:=fun vs H Q _=> ∃T args r outs,ER K H T (vs.map some) (args.map some)/\ev args=some (r,outs)/\ ∀v H',Post K T (vs.map some) (args.map some) H r outs v H'->Q v H'
noncomputable def iA(args:List (D×Bool))(δ:Dn):Dn:=args.zipIdx.map fun p=>if p.1.2=true then(δ[p.2]?).join else some p.1
noncomputable def evF(n np:Nat)(asg:iM)(f:FS):EvF:=fun args=>
 if args.length=np/\np<=n/\(args.zipIdx.all fun p=>!(p.1.2&&asg.contains p.2))=true then
  match f (args.map some++List.replicate (n-np) none) with
  |some (.rt r δ)=>some (r,iA args δ)
  |some (.nx δ)=>some ((.non,false),iA args δ)
  |_=>none
 else none
theorem Ly(args:List (D×Bool))(δ:Dn)(i:Nat):(iA args δ)[i]?=args[i]?.map fun x=>if x.2=true then(δ[i]?).join else some x:=by
 unfold iA;rw[lh,JU]
 cases args[i]? with
 |none=>rfl
 |some x=>simp
theorem rO(h:x.join=some p):x=some (some p):=by
 cases x with
 |none=>cases h
 |some y=>exact pZ some h
section
variable {K:hG}{T:AP'}{A:jq}{vs:List V}{args:List (D×Bool)}{H H':Hp}{m:Nat}{σ':L2.St}{δ':Dn}{r:D×Bool}{v:V}
theorem Dd{α:Type}{xs:List α}{m i:Nat}{y:α}:(xs.map some++List.replicate m none)[i]?=some (some y)↔xs[i]?=some y:=by
 by_cases h:i<xs.length
 ·rw[yy (by simpa using h),lh];cases xs[i]?<;>simp
 ·rw[wx (by simpa using h)];constructor
  ·intro e;rw[List.getElem?_replicate] at e;split at e<;>cases e
  ·intro e;exact absurd (vS.mp e).1 h
theorem rR{α:Type}{xs:List α}{i:Nat}{y:α}:(xs.map some)[i]?=some (some y)↔xs[i]?=some y:=by
 rw[lh];cases xs[i]?<;>simp
theorem Ju{i:Nat}{a:gz}:OwnI (vs.map some++List.replicate m none) (args.map some++List.replicate m none) i a↔OwnI (vs.map some) (args.map some) i a:=by
 unfold OwnI;simp only[Dd,rR]
theorem DQ:OwnA σ δ a↔ ∃i,OwnI σ δ i a:=Iff.rfl
theorem Lx:OwnA (vs.map some++List.replicate m none) (args.map some++List.replicate m none) a↔OwnA (vs.map some) (args.map some) a:=by
 rw[DQ,DQ];exact exists_congr fun i=>Ju
theorem ER.pad(E:ER K H T (vs.map some) (args.map some)):ER K H T (vs.map some++List.replicate m none) (args.map some++List.replicate m none):=by
 have len:vs.length=args.length:=by simpa using E.len
 refine⟨by simp[len],fun i d h=>?_,fun i d h=>?_,fun i j d e a h1 h2 h3 h4=>?_,fun a z=>E.nT a (Lx.mp z),E.dom⟩
 ·obtain⟨w,w1,w2⟩:=E.val i d (rR.mpr (Dd.mp h));exact⟨w,Dd.mpr (rR.mp w1),Rep.mono (fun _ _ e _=>e) (fun b _ z=>z.imp Lx.mp id) w2⟩
 ·obtain⟨w,w1,w2⟩:=E.own i d (rR.mpr (Dd.mp h));exact⟨w,Dd.mpr (rR.mp w1),w2.mono (fun _ _ e _=>e) (fun b _ z=>z.imp Lx.mp id) fun _ e=>e⟩
 ·exact E.inj i j d e a (rR.mpr (Dd.mp h1)) (rR.mpr (Dd.mp h2)) (rR.mpr (Dd.mp h3)) (rR.mpr (Dd.mp h4))
theorem Hs{T':AP'}(E:ER K H T (vs.map some) (args.map some))(S:SK A (vs.map some++List.replicate m none) (args.map some++List.replicate m none) H σ' δ' H')(hA: ∀(i:Nat) d,args[i]?=some (d,true)-> ¬A i)
  (E':ER K H' T' σ' δ')(hT: ∀b,H b≠none->T' b->T b):ER K H' T' (vs.map some) (iA args δ')/\(∀b,OwnA (vs.map some) (iA args δ') b->OwnA σ' δ' b)/\Keep (vs.map some) (args.map some) H (iA args δ') H':=by
 have len:vs.length=args.length:=by simpa using E.len
 have here: ∀(i:Nat) d w,args[i]?=some (d,true)->vs[i]?=some w->σ'[i]?=some (some w):=fun i d w h1 h2=>by
  rw[S.as i (hA i d h1)];exact Dd.mpr h2
 have outI: ∀(i:Nat) d b,(iA args δ')[i]?=some (some (d,b))->(∃e,args[i]?=some (e,true)/\δ'[i]?=some (some (d,b)))\/(b=false/\args[i]?=some (d,false)):=fun i d b h=>by
  rw[Ly] at h;obtain⟨⟨e,c⟩,h1,h2⟩:=iP h
  cases c with
  |true=>
   left;exact⟨e,h1,rO (by simpa using h2)⟩
  |false=>
   right;have:some (e,false)=some (d,b):=by simpa using h2
   cases this;exact⟨rfl,h1⟩
 have aS: ∀i a,OwnI (vs.map some) (iA args δ') i a->OwnI σ' δ' i a/\OwnI (vs.map some) (args.map some) i a:=fun i a ⟨d,h1,h2⟩=>by
  rcases outI i d true h1 with⟨e,h3,h4⟩|⟨z,_⟩
  ·exact⟨⟨d,h4,here i e _ h3 (rR.mp h2)⟩,⟨e,rR.mpr h3,h2⟩⟩
  ·cases z
 have ay: ∀b,OwnA (vs.map some) (iA args δ') b->OwnA σ' δ' b:=fun b ⟨i,d,h1,h2⟩=>by
  obtain⟨⟨e,q1,q2⟩,_⟩:=aS i b ⟨d,h1,h2⟩;exact⟨i,e,q1,q2⟩
 have owA2: ∀b,OwnA (vs.map some) (iA args δ') b->OwnA (vs.map some) (args.map some) b:=fun b ⟨i,d,h1,h2⟩=>by
  obtain⟨_,⟨e,q1,q2⟩⟩:=aS i b ⟨d,h1,h2⟩;exact⟨i,e,q1,q2⟩
 have kp: ∀a o,H a=some o-> ¬OwnA (vs.map some) (args.map some) a->H' a=some o:=fun a o e n=>S.kp a o e fun z=>n (Lx.mp z);refine⟨⟨?_,fun i d h=>?_,fun i d h=>?_,fun i j d e a h1 h2 h3 h4=>?_,fun a z=>E'.nT a (ay a z),E'.dom⟩,ay,⟨kp,fun i a z=>(aS i a z).2,S.dm⟩⟩
 ·simp[iA,len]
 ·have hi:i<vs.length:=by
   have:=(vS.mp h).1;simp[iA] at this;omega
  have hv:vs[i]?=some vs[i]:=jd hi;rcases outI i d false h with⟨e,h3,h4⟩|⟨_,h3⟩
  ·obtain⟨w,w1,w2⟩:=E'.val i d h4;rw[here i e _ h3 hv] at w1;cases w1;exact⟨_,rR.mpr hv,Rep.mono (fun _ _ e _=>e) (fun b _ z=>z.imp (ay b) id) w2⟩
  ·obtain⟨w,w1,w2⟩:=E.val i d (rR.mpr h3);exact⟨w,w1,Rep.mono (fun b o e n=>kp b o e fun z=>n (.inl z)) (fun b hb z=>z.imp (owA2 b) (hT b hb)) w2⟩
 ·have hi:i<vs.length:=by
   have:=(vS.mp h).1;simp[iA] at this;omega
  have hv:vs[i]?=some vs[i]:=jd hi;rcases outI i d true h with⟨e,h3,h4⟩|⟨z,_⟩
  ·obtain⟨w,w1,w2⟩:=E'.own i d h4;rw[here i e _ h3 hv] at w1;have w1':vs[i]=V.ref w:=by simpa using w1
   exact⟨w,by rw[<-w1'];exact rR.mpr hv,w2.mono (fun _ _ e _=>e) (fun b _ z=>z.imp (ay b) id) fun _ e=>e⟩
  ·cases z
 ·obtain⟨_,⟨d1,q1,q2⟩⟩:=aS i a ⟨d,h1,h3⟩;obtain⟨_,⟨d2,q3,q4⟩⟩:=aS j a ⟨e,h2,h4⟩;exact E.inj i j d1 d2 a q1 q3 q2 q4
theorem wZ(E:ER K H T (vs.map some) (args.map some))(S:SK A (vs.map some++List.replicate m none) (args.map some++List.replicate m none) H σ' δ' H')(hA: ∀(i:Nat) d,args[i]?=some (d,true)-> ¬A i)
  (R:RV K T H r σ' δ' v H'):Post K T (vs.map some) (args.map some) H r (iA args δ') v H':=by
 obtain⟨d,b⟩:=r
 cases b with
 |false=>
  obtain⟨E',rv⟩:=R;obtain⟨E2,ow,kp⟩:=Hs E S hA E' (fun _ _ z=>z);exact⟨kp,E2,Rep.mono (fun _ _ e _=>e) (fun b _ z=>z.imp (ow b) id) rv⟩
 |true=>
  obtain⟨p,rfl,hp,E',ok⟩:=R;obtain⟨E2,ow,kp⟩:=Hs E S hA E' (fun b hb z=>z.elim id fun z=>by subst z;exact absurd hp hb);exact⟨kp,p,rfl,hp,E2,ok.mono (fun _ _ e _=>e) (fun b _ z=>z.imp (ow b) id) fun _ e=>e⟩
end
section
variable {P:hW}{w:gU}{K:hG}{mg:lu}{base:hV}{N:iK}{m:Nat}{asg:iM}{fs:FS}{vs:List V}{H:Hp}{Q:VK}{E:XK}
theorem M1(h:spF K (evF N.length m asg fs) vs H Q E):vs.length=m:=by
 obtain⟨T,args,r,outs,E0,e,_⟩:=h;unfold evF at e;split at e
 ·rename_i hc;have:=E0.len;simp at this;rw[this];exact hc.1
 ·cases e
theorem PJ(h:spF K (evF N.length m asg fs) vs H Q E): ∃L:Nat->Prop,(∀i,L i->i<m)/\tS K (fun i=>i∈asg) L H fs {nx:=fun _ H'=>Q .non H',rt:=Q} (L2.qi N vs) H:=by
 obtain⟨T,args,r,outs,E0,e,kq⟩:=h;unfold evF at e;split at e
 ·rename_i hc;obtain⟨h1,h2,h3⟩:=hc;have hlen:vs.length=args.length:=by simpa using E0.len
  refine⟨fun i=> ∃d,args[i]?=some (d,true),fun i ⟨d,hd⟩=>by have:=(vS.mp hd).1;omega,?_⟩;have t9:L2.qi N vs=vs.map some++List.replicate (N.length-m) none:=by unfold L2.qi;rw[hlen,h1]
  have hA: ∀(i:Nat) d,args[i]?=some (d,true)-> ¬(i∈asg):=fun i d hd hm=>by
   have hz:(args.zipIdx)[i]?=some ((d,true),i):=by rw[JU,hd];simp
   have:=mC.mp h3 _ (mO hz);simp at this;exact this hm
  rw[t9]
  have fi:FI (fun i=> ∃d,args[i]?=some (d,true)) H (vs.map some++List.replicate (N.length-m) none) (args.map some++List.replicate (N.length-m) none) H:=⟨fun i a z=>by
   obtain⟨d,q1,_⟩:=Ju.mp z;exact .inl ⟨d,rR.mp q1⟩,fun _ z=>z⟩
  cases hf:fs (args.map some++List.replicate (N.length-m) none) with
  |none=>rw[hf] at e;cases e
  |some out=>
   rw[hf] at e;refine⟨_,T,out,E0.pad,fi,hf,?_⟩
   cases out with
   |rt r1 δ1=>
    obtain⟨rfl,rfl⟩:=hC e;exact fun v σ' H' S1 R1=>kq v H' (wZ E0 S1 hA R1)
   |nx δ1=>
    obtain⟨rfl,rfl⟩:=hC e;exact fun σ' H' S1 E1=>kq .non H' (wZ (r:=(.non,false)) E0 S1 hA ⟨E1,Rep.mkNon⟩)
   |bk δ1=>cases e
   |ct δ1=>cases e
 ·cases e
theorem Ro{x qual:Str}{st:Stmt}{f:gz}{fd:og}{ps:iK}{k:Nat}(F:Fun K x qual st f fd)(S:FnScope N ps (gM st))
  (y8: ∀(h8:gQ) (A:gZ) (outer:List Env) (s:gC) (H:Hp) (E:XK) (L:jq),(∀i,L i->i<ps.length)->Room k (A.deeper (envOfC qual (gM st) s.heap.objs.size f h8))->
   C8 (En CX0 P w K mg base N qual (gM st) f h8 A outer s H E).nox (fun i=>i∈asg) L H (nv st) fs):FnOk P w K mg base CX0 (k+1) f fd ps (spF K (evF N.length ps.length asg fs)):=
 F.ok S (fun vs H Q E h=>M1 h) fun h8 A outer s H vs Q E hr h=>let⟨L,h1,h2⟩:=PJ h;⟨_,y8 h8 A outer s H E L h1 hr,h2⟩
end
noncomputable def vP(δ:Dn):Opd->Option (D×Bool)
 | .val r=>some (r.1,false)
 | .slot i=>(δ[i]?).join
noncomputable def jJ(δ:Dn):List Opd->Option (List (D×Bool))
 |[]=>some []
 |o::os=>(vP δ o).bind fun a=>(jJ δ os).bind fun l=>some (a::l)
noncomputable def hX:List Opd->List (D×Bool)->List Nat
 | .slot i::os,(_,true)::as=>i::hX os as
 |_::os,_::as=>hX os as
 |_,_=>[]
noncomputable def wb:List Opd->List (D×Bool)->Dn->Dn->Dn
 | .slot i::os,(_,true)::as,o::outs,δ=>wb os as outs (δ.set i o)
 |_::os,_::as,_::outs,δ=>wb os as outs δ
 |_,_,_,δ=>δ
noncomputable def gH(ev:EvF)(fs:List FO):F:=fun δ=>(jl fs δ).bind fun p=>(jJ p.2 p.1).bind fun args=>if(hX p.1 args).Nodup then(ev args).bind fun q=>some (q.1,wb p.1 args q.2 p.2) else none
theorem nZ{δ:Dn}: ∀{os:List Opd} {as:List (D×Bool)},jJ δ os=some as->as.length=os.length/\ ∀(j:Nat) a,as[j]?=some a-> ∃o,os[j]?=some o/\vP δ o=some a
 |[],as,h=>by cases h;exact⟨rfl,fun j d h=>by simp at h⟩
 |o::os,as,h=>by
  unfold jJ at h;obtain⟨d,h1,h⟩:=gv h;obtain⟨l,h2,h⟩:=gv h;cases h;obtain⟨h3,h4⟩:=nZ h2;refine⟨by simp[h3],fun j e he=>?_⟩
  cases j with
  |zero=>simp at he;subst he;exact⟨o,rfl,h1⟩
  |succ j=>
   obtain⟨o',q1,q2⟩:=h4 j e (by simpa using he);exact⟨o',by simpa using q1,q2⟩
theorem rN: ∀{os:List Opd} {as:List (D×Bool)} {j i:Nat} {d:D},os[j]?=some (.slot i)->as[j]?=some (d,true)->i∈hX os as
 |[],_,_,_,_,h,_=>by simp at h
 |_::_,[],_,_,_,_,h=>by simp at h
 |o::os,(e,b)::as,0,i,d,h1,h2=>by
  simp at h1 h2;obtain⟨rfl,rfl⟩:=h2;subst h1;simp[hX]
 |o::os,(e,b)::as,j+1,i,d,h1,h2=>by
  have ih:=rN (os:=os) (as:=as) (j:=j) (i:=i) (d:=d) (by simpa using h1) (by simpa using h2)
  cases o with
  |val r=>simpa[hX] using ih
  |slot k=>
   cases b with
   |true=>simp[hX,ih]
   |false=>simpa[hX] using ih
theorem AW: ∀{os:List Opd} {as:List (D×Bool)} {i:Nat},i∈hX os as-> ∃(j:Nat) (d:D),os[j]?=some (.slot i)/\as[j]?=some (d,true)
 |[],_,_,h=>by simp[hX] at h
 |o::_,[],_,h=>by cases o<;>simp[hX] at h
 |o::os,(e,b)::as,i,h=>by
  have cw:i∈hX os as-> ∃(j:Nat) (d:D),(o::os)[j]?=some (.slot i)/\((e,b)::as)[j]?=some (d,true):=fun h=>by
   obtain⟨j,d,h1,h2⟩:=AW h;exact⟨j+1,d,by simpa using h1,by simpa using h2⟩
  cases o with
  |val r=>exact cw (by simpa[hX] using h)
  |slot k=>
   cases b with
   |true=>
    simp[hX] at h;rcases h with rfl|h
    ·exact⟨0,e,rfl,rfl⟩
    ·exact cw h
   |false=>exact cw (by simpa[hX] using h)
theorem AX: ∀{os:List Opd} {as:List (D×Bool)} {j k i:Nat} {d e:D},(hX os as).Nodup->os[j]?=some (.slot i)->as[j]?=some (d,true)->os[k]?=some (.slot i)->as[k]?=some (e,true)->j=k
 |[],_,_,_,_,_,_,_,h,_,_,_=>by simp at h
 |_::_,[],_,_,_,_,_,_,_,h,_,_=>by simp at h
 |o::os,(e0,b)::as,j,k,i,d,e,nd,h1,h2,h3,h4=>by
  cases j with
  |zero=>
   cases k with
   |zero=>rfl
   |succ k=>
    simp at h1 h2;obtain⟨rfl,rfl⟩:=h2;subst h1;have:=rN (os:=os) (as:=as) (j:=k) (by simpa using h3) (by simpa using h4);simp[hX] at nd;exact absurd this nd.1
  |succ j=>
   cases k with
   |zero=>
    simp at h3 h4;obtain⟨rfl,rfl⟩:=h4;subst h3;have:=rN (os:=os) (as:=as) (j:=j) (by simpa using h1) (by simpa using h2);simp[hX] at nd;exact absurd this nd.1
   |succ k=>
    have dM:(hX os as).Nodup:=by
     cases o with
     |val r=>simpa[hX] using nd
     |slot m=>
      cases b with
      |true=>simp[hX] at nd;exact nd.2
      |false=>simpa[hX] using nd
    have:=AX (os:=os) (as:=as) (j:=j) (k:=k) dM (by simpa using h1) (by simpa using h2) (by simpa using h3) (by simpa using h4);omega
theorem yF: ∀{os:List Opd} {as:List (D×Bool)} {outs δ:Dn} {i:Nat},i∉hX os as->(wb os as outs δ)[i]?=δ[i]?
 |[],_,_,_,_,_=>by simp[wb]
 |o::_,[],_,_,_,_=>by cases o<;>simp[wb]
 |o::os,(e,b)::as,[],_,_,_=>by cases o<;>cases b<;>simp[wb]
 |o::os,(e,b)::as,x::outs,δ,i,h=>by
  cases o with
  |val r=>simp only[wb];exact yF (by simpa[hX] using h)
  |slot k=>
   cases b with
   |true=>
    simp[hX] at h;rw[wb,yF h.2,sV (qb h.1)]
   |false=>simp only[wb];exact yF (by simpa[hX] using h)
theorem yG: ∀{os:List Opd} {as:List (D×Bool)} {outs δ:Dn},(wb os as outs δ).length=δ.length
 |[],_,_,_=>by simp[wb]
 |o::_,[],_,_=>by cases o<;>simp[wb]
 |o::os,(e,b)::as,[],_=>by cases o<;>cases b<;>simp[wb]
 |o::os,(e,b)::as,x::outs,δ=>by
  cases o with
  |val r=>simp only[wb];exact yG
  |slot k=>
   cases b with
   |true=>simp only[wb];rw[yG,sP]
   |false=>simp only[wb];exact yG
theorem G5: ∀{os:List Opd} {as:List (D×Bool)} {outs δ:Dn} {i j:Nat} {d:D} {x:Sl},(hX os as).Nodup->os[j]?=some (.slot i)->as[j]?=some (d,true)->outs[j]?=some x->i<δ.length->(wb os as outs δ)[i]?=some x
 |[],_,_,_,_,_,_,_,_,h,_,_,_=>by simp at h
 |o::_,[],_,_,_,_,_,_,_,_,h,_,_=>by simp at h
 |o::os,(e,b)::as,[],_,_,_,_,_,_,_,_,h,_=>by simp at h
 |o::os,(e,b)::as,y::outs,δ,i,0,d,x,nd,h1,h2,h3,hi=>by
  simp at h1 h2 h3;obtain⟨rfl,rfl⟩:=h2;subst h1;subst h3;simp[hX] at nd;rw[wb,yF nd.1,qv hi]
 |o::os,(e,b)::as,y::outs,δ,i,j+1,d,x,nd,h1,h2,h3,hi=>by
  have dM:(hX os as).Nodup:=by
   cases o with
   |val r=>simpa[hX] using nd
   |slot m=>
    cases b with
    |true=>simp[hX] at nd;exact nd.2
    |false=>simpa[hX] using nd
  cases o with
  |val r=>simp only[wb];exact G5 dM (by simpa using h1) (by simpa using h2) (by simpa using h3) hi
  |slot k=>
   cases b with
   |true=>simp only[wb];exact G5 dM (by simpa using h1) (by simpa using h2) (by simpa using h3) (by rw[sP];exact hi)
   |false=>simp only[wb];exact G5 dM (by simpa using h1) (by simpa using h2) (by simpa using h3) hi
section
variable {K:hG}{T T1:AP'}{σ:L2.St}{δ δ1:Dn}{H H1 H':Hp}{os:List Opd}{vs:List V}{args:List (D×Bool)}{outs:Dn}{r:D×Bool}{v:V}
noncomputable def Tc(T:AP')(σ:L2.St)(δ1:Dn)(vs:List V)(args:List (D×Bool)):AP':=fun a=>T a\/(OwnA σ δ1 a/\ ¬OwnA (vs.map some) (args.map some) a)
theorem vo(B:Ops K T σ δ H os vs δ1 H1 T1)(ha:jJ δ1 os=some args){j:Nat}{d:D}(h:args[j]?=some (d,true)): ∃(i:Nat) (a:gz),os[j]?=some (.slot i)/\δ1[i]?=some (some (d,true))/\vs[j]?=some (.ref a)/\σ[i]?=some (some (.ref a)):=by
 obtain⟨hl,hg⟩:=nZ ha;obtain⟨o,h1,h2⟩:=hg j _ h
 cases o with
 |val r=>cases h2
 |slot i=>
  have h3:δ1[i]?=some (some (d,true)):=rO h2;have hj:j<vs.length:=by have:=(vS.mp h1).1;have:=B.len;omega
  have hv:vs[j]?=some vs[j]:=jd hj;have h4:=B.slt j i _ h1 hv;obtain⟨a,h5,_⟩:=B.er.own i d h3;rw[h4] at h5;have:vs[j]=V.ref a:=by simpa using h5
  exact⟨i,a,h1,h3,by rw[hv,this],by rw[h4,this]⟩
theorem D2(B:Ops K T σ δ H os vs δ1 H1 T1)(ha:jJ δ1 os=some args){j:Nat}{a:gz}(h:OwnI (vs.map some) (args.map some) j a): ∃(i:Nat) (d:D),os[j]?=some (.slot i)/\args[j]?=some (d,true)/\OwnI σ δ1 i a:=by
 obtain⟨d,h1,h2⟩:=h;have h1':=rR.mp h1;obtain⟨i,b,q1,q2,q3,q4⟩:=vo B ha h1';have:=rR.mp h2;rw[q3] at this;cases this;exact⟨i,d,q1,h1',d,q2,q4⟩
theorem HC(B:Ops K T σ δ H os vs δ1 H1 T1)(ha:jJ δ1 os=some args)(h:OwnA (vs.map some) (args.map some) a):OwnA σ δ1 a:=by
 obtain⟨j,d,h1,h2⟩:=h;obtain⟨i,_,_,_,e,q1,q2⟩:=D2 B ha ⟨d,h1,h2⟩;exact⟨i,e,q1,q2⟩
theorem HR(E:ER K H T σ δ)(B:Ops K T σ δ H os vs δ1 H1 T1)(ha:jJ δ1 os=some args)(nd:(hX os args).Nodup):ER K H1 (Tc T σ δ1 vs args) (vs.map some) (args.map some):=by
 obtain⟨hl,hg⟩:=nZ ha
 have sub: ∀b,(OwnA (vs.map some) (args.map some) b\/Tc T σ δ1 vs args b)->OwnA σ δ1 b\/T b:=fun b z=>by
  rcases z with z|z|z
  ·exact .inl (HC B ha z)
  ·exact .inr z
  ·exact .inl z.1
 refine⟨by simp[hl,B.len],fun j d h=>?_,fun j d h=>?_,fun j k d e a h1 h2 h3 h4=>?_,fun a z t=>?_,fun a z=>?_⟩
 ·have h:=rR.mp h;obtain⟨o,h1,h2⟩:=hg j _ h;have hj:j<vs.length:=by have:=(vS.mp h1).1;have:=B.len;omega
  have hv:vs[j]?=some vs[j]:=jd hj;refine⟨_,rR.mpr hv,?_⟩
  cases o with
  |val q=>
   have:q.1=d:=by cases h2;rfl
   subst this;exact Rep.mono (fun _ _ e _=>e) (fun b _ z=>sub b z) (B.rep E h1 hv)
  |slot i=>
   have h3:δ1[i]?=some (some (d,false)):=rO h2;have h4:=B.slt j i _ h1 hv;obtain⟨w,w1,w2⟩:=B.er.val i d h3;rw[h4] at w1;have:vs[j]=w:=by simpa using w1
   rw[this];exact Rep.mono (fun _ _ e _=>e) (fun b _ z=>(sub b z).imp id (B.tt b)) w2
 ·obtain⟨i,a,q1,q2,q3,q4⟩:=vo B ha (rR.mp h);obtain⟨b,h5,h6⟩:=B.er.own i d q2;rw[q4] at h5;cases h5;exact⟨a,rR.mpr q3,h6.mono (fun _ _ e _=>e) (fun b _ z=>(sub b z).imp id (B.tt b)) fun _ e=>e⟩
 ·obtain⟨i,d1,q1,q2,e1,q3,q4⟩:=D2 B ha ⟨d,h1,h3⟩;obtain⟨i2,d2,g1,g2,e2,g3,g4⟩:=D2 B ha ⟨e,h2,h4⟩;have:=B.er.inj i i2 e1 e2 a q3 g3 q4 g4;subst this;exact AX nd q1 q2 g1 g2
 ·rcases t with t|t
  ·exact B.er.nT a (HC B ha z) (B.tt a t)
  ·exact t.2 z
 ·rcases z with z|z
  ·exact B.er.dom a (B.tt a z)
  ·exact B.er.ownDom z.1
theorem HS{T' Td:AP'}(E:ER K H T σ δ)(B:Ops K T σ δ H os vs δ1 H1 T1)(ha:jJ δ1 os=some args)(nd:(hX os args).Nodup)(kC:Keep (vs.map some) (args.map some) H1 outs H')
  (E':ER K H' Td (vs.map some) outs)(t1: ∀b,Tc T σ δ1 vs args b->Td b)(t2: ∀b,T' b->Td b)(t3: ∀b,H1 b≠none->T' b->T b):
  ER K H' T' σ (wb os args outs δ1)/\(∀b,OwnA σ (wb os args outs δ1) b->OwnA (vs.map some) outs b\/Tc T σ δ1 vs args b)/\Keep σ δ1 H1 (wb os args outs δ1) H':=by
 obtain⟨hl,hg⟩:=nZ ha;have ol:outs.length=args.length:=by have:=E'.len;have:=B.len;simp at*;omega
 have aQ: ∀(i:Nat) (x:Sl),(wb os args outs δ1)[i]?=some x->(i∉hX os args/\δ1[i]?=some x)\/ ∃(j:Nat) (d:D),os[j]?=some (.slot i)/\args[j]?=some (d,true)/\outs[j]?=some x:=fun i x h=>by
  by_cases hm:i∈hX os args
  ·right;obtain⟨j,d,h1,h2⟩:=AW hm;have hj:j<outs.length:=by have:=(vS.mp h2).1;omega
   have ho:outs[j]?=some outs[j]:=jd hj;have hi:i<δ1.length:=by have:=(vS.mp h).1;rwa [yG] at this
   have:=G5 (δ:=δ1) nd h1 h2 ho hi;rw[h] at this;cases this;exact⟨j,d,h1,h2,ho⟩
  ·left;rw[yF hm] at h;exact⟨hm,h⟩
 have notL: ∀{i:Nat} {a:gz},i∉hX os args->OwnI σ δ1 i a-> ¬OwnA (vs.map some) (args.map some) a:=fun {i a} hm ⟨e,q1,q2⟩ ⟨j,d,h1,h2⟩=>by
  obtain⟨i2,d2,g1,g2,e2,g3,g4⟩:=D2 B ha ⟨d,h1,h2⟩;have:=B.er.inj i i2 e e2 a q1 g3 q2 g4;subst this;exact hm (rN g1 g2)
 have aS: ∀i a,OwnI σ (wb os args outs δ1) i a->OwnI σ δ1 i a/\(OwnA (vs.map some) outs a\/Tc T σ δ1 vs args a):=fun i a ⟨d,h1,h2⟩=>by
  rcases aQ i _ h1 with⟨hm,h3⟩|⟨j,e,g1,g2,g3⟩
  ·exact⟨⟨d,h3,h2⟩,.inr (.inr ⟨⟨i,d,h3,h2⟩,notL hm ⟨d,h3,h2⟩⟩)⟩
  ·obtain⟨i2,b,q1,q2,q3,q4⟩:=vo B ha g2;rw[g1] at q1;cases q1;rw[h2] at q4;cases q4;exact⟨⟨e,q2,h2⟩,.inl ⟨j,d,g3,rR.mpr q3⟩⟩
 have ay: ∀b,OwnA σ (wb os args outs δ1) b->OwnA (vs.map some) outs b\/Tc T σ δ1 vs args b:=fun b ⟨i,d,h1,h2⟩=>(aS i b ⟨d,h1,h2⟩).2
 have eD: ∀b,OwnA σ (wb os args outs δ1) b->OwnA σ δ1 b:=fun b ⟨i,d,h1,h2⟩=>by
  obtain⟨⟨e,q1,q2⟩,_⟩:=aS i b ⟨d,h1,h2⟩;exact⟨i,e,q1,q2⟩
 have kp: ∀a o,H1 a=some o-> ¬OwnA σ δ1 a->H' a=some o:=fun a o e n=>kC.kp a o e fun z=>n (HC B ha z)
 have subO: ∀b,(OwnA σ (wb os args outs δ1) b\/T' b)->OwnA (vs.map some) outs b\/Td b:=fun b z=>by
  rcases z with z|z
  ·exact(ay b z).imp id (t1 b)
  ·exact .inr (t2 b z)
 refine⟨⟨by rw[yG];exact B.er.len,fun i d h=>?_,fun i d h=>?_,fun i k d e a h1 h2 h3 h4=>?_,fun a z t=>?_,fun a z=>E'.dom a (t2 a z)⟩,ay,⟨kp,fun i a z=>(aS i a z).1,kC.dm⟩⟩
 ·rcases aQ i _ h with⟨hm,h3⟩|⟨j,e,g1,g2,g3⟩
  ·obtain⟨w,w1,w2⟩:=B.er.val i d h3;exact⟨w,w1,Rep.mono (fun b o e n=>kp b o e fun z=>n (.inl z)) (fun b hb z=>z.imp (eD b) fun z=>B.tt b (t3 b hb z)) w2⟩
  ·obtain⟨i2,b,q1,q2,q3,q4⟩:=vo B ha g2;rw[g1] at q1;cases q1;obtain⟨w,w1,w2⟩:=E'.val j d g3;have:=rR.mp w1;rw[q3] at this;cases this;exact⟨_,q4,Rep.mono (fun _ _ e _=>e) (fun b _ z=>subO b z) w2⟩
 ·rcases aQ i _ h with⟨hm,h3⟩|⟨j,e,g1,g2,g3⟩
  ·obtain⟨a,w1,w2⟩:=B.er.own i d h3;exact⟨a,w1,w2.mono (fun b o e n=>kp b o e fun z=>n (.inl z)) (fun b hb z=>z.imp (eD b) fun z=>B.tt b (t3 b hb z)) fun o e=>kC.kp a o e (notL hm ⟨d,h3,w1⟩)⟩
  ·obtain⟨i2,b,q1,q2,q3,q4⟩:=vo B ha g2;rw[g1] at q1;cases q1;obtain⟨a,w1,w2⟩:=E'.own j d g3;have:=rR.mp w1;rw[q3] at this;cases this;exact⟨_,q4,w2.mono (fun _ _ e _=>e) (fun b _ z=>subO b z) fun _ e=>e⟩
 ·obtain⟨⟨e1,q1,q2⟩,_⟩:=aS i a ⟨d,h1,h3⟩;obtain⟨⟨e2,q3,q4⟩,_⟩:=aS k a ⟨e,h2,h4⟩;exact B.er.inj i k e1 e2 a q1 q3 q2 q4
 ·exact B.er.nT a (eD a z) (B.tt a (t3 a (B.er.ownDom (eD a z)) t))
theorem Ex(E:ER K H T σ δ)(B:Ops K T σ δ H os vs δ1 H1 T1)(ha:jJ δ1 os=some args)(nd:(hX os args).Nodup)(P:Post K (Tc T σ δ1 vs args) (vs.map some) (args.map some) H1 r outs v H'):
  Post K T σ δ H r (wb os args outs δ1) v H':=by
 obtain⟨d,b⟩:=r
 cases b with
 |false=>
  obtain⟨kC,E',rv⟩:=P;obtain⟨E2,ow,k2⟩:=HS (T':=T) E B ha nd kC E' (fun _ z=>z) (fun _ z=> .inl z) (fun _ _ z=>z);refine⟨B.keep.trans k2,E2,Rep.mono (fun _ _ e _=>e) (fun b _ z=>?_) rv⟩;rcases z with z|z
  ·exact ow b z
  ·exact .inr (.inl z)
 |true=>
  obtain⟨kC,p,rfl,hp,E',ok⟩:=P;obtain⟨E2,ow,k2⟩:=HS (T':=fun a=>T a\/a=p) E B ha nd kC E' (fun _ z=> .inl z) (fun b z=>z.elim (fun z=> .inl (.inl z)) .inr) (fun b hb z=>z.elim id fun z=>by subst z;exact absurd hp hb);refine⟨B.keep.trans k2,p,rfl,?_,E2,ok.mono (fun _ _ e _=>e) (fun b _ z=>?_) fun _ e=>e⟩
  ·cases hH:H p with
   |none=>rfl
   |some ob=>exact absurd hp (B.keep.dm p (by rw[hH];simp))
  ·rcases z with z|z|z
   ·exact(ow b z).imp id .inl
   ·exact .inr (.inl (.inl z))
   ·exact .inr (.inr z)
end
section
variable {X:Cx}{e:gR}{es:jF}{fs:List FO}{pos p:Pos}{k:Nat}{f:gz}{fd:og}{ps:iK}{ev:EvF}{x:Str}
theorem Nj(F:FnOk X.prog X.w X.K X.mg X.base CX0 k f fd ps (spF X.K ev))(hr:Room k X.A)(hg:Gl X x)(hm:X.mg x=some (.ref f))(hk:PySem.W.keepIn X.K (.ref f)=true)(hb:Binds X.K fd ps [])
  (ha:PA X (e::es) (tA X.K fs))(p9:(x==("__debug__":Str))=false)(he:starEach (e::es) X.env=(false,eval e X.env)::starEach es X.env)(j7:(backTo pos (starEach es X.env)).any (·.1)=false):
  PX X (.Call (.Name x p) (e::es) [] pos) (gH ev fs):=PX.imp (NW F hr hg hm hk hb (.nil) SM ha p9 he j7) fun σ H Q hw=>by
 obtain⟨δ,T,rr,δ',E,e,k⟩:=hw;obtain⟨⟨os,δ1⟩,h1,e⟩:=gv e;obtain⟨args,h2,e⟩:=gv e;dsimp only at e;split at e
 ·rename_i nd;obtain⟨⟨r,outs⟩,h3,e⟩:=gv e;obtain⟨rfl,rfl⟩:=hC e;refine⟨δ,T,os,δ1,E,h1,fun vs H1 T1 B=>?_⟩;show spF X.K ev (vs++[]) H1 Q E0;rw[qF];exact⟨Tc T σ δ1 vs args,args,r,outs,HR E B h2 nd,h3,fun v H' P=>k v H' (Ex E B h2 nd P)⟩
 ·cases e
end
structure SKd(A:jq)(d:gz)(σ:L2.St)(δ:Dn)(H:Hp)(σ':L2.St)(δ':Dn)(H':Hp):Prop where
 kp: ∀a o,H a=some o-> ¬OwnA σ δ a->a≠d->H' a=some o
 owi: ∀i a,OwnI σ' δ' i a->OwnI σ δ i a\/H a=none
 dm: ∀a,H a≠none->H' a≠none
 as: ∀i,¬A i->σ'[i]?=σ[i]?
section
variable {A:jq}{d:gz}{σ σ1 σ2:L2.St}{δ δ1 δ2:Dn}{H H1 H2:Hp}
theorem SK.skd(k:SK A σ δ H σ1 δ1 H1):SKd A d σ δ H σ1 δ1 H1:=⟨fun a o e n _=>k.kp a o e n,k.owi,k.dm,k.as⟩
theorem SKd.ow(k:SKd A d σ δ H σ1 δ1 H1)(a:gz)(h:OwnA σ1 δ1 a):OwnA σ δ a\/H a=none:=by
 obtain⟨i,e,h1,h2⟩:=h;rcases k.owi i a ⟨e,h1,h2⟩ with⟨e,h3,h4⟩|z
 ·exact .inl ⟨i,e,h3,h4⟩
 ·exact .inr z
theorem SKd.trans(x:SKd A d σ δ H σ1 δ1 H1)(y:SKd A d σ1 δ1 H1 σ2 δ2 H2):SKd A d σ δ H σ2 δ2 H2 where
 kp:=fun a o e n nd=>y.kp a o (x.kp a o e n nd) (fun z=>(x.ow a z).elim n fun z=>by rw[z] at e;cases e) nd
 owi:=fun i a z=>(y.owi i a z).elim (x.owi i a) fun z=> .inr (by
  cases h:H a with
  |none=>rfl
  |some o=>exact absurd z (x.dm a (by rw[h];simp)))
 dm:=fun a z=>y.dm a (x.dm a z)
 as:=fun i h=>(y.as i h).trans (x.as i h)
end
structure BS(K:hG)(d:gz)(T:AP')(σ:L2.St)(δ:Dn)(acc:List D)(H:Hp):Prop where
 er:ER K H T σ δ
 td:T d
 at': ∃ys,H d=some (.lst ys)/\RepL K H (fun a=>OwnA σ δ a\/T a) acc ys
abbrev FB:=List D->Dn->Option (List D×Dn)
def tBx(K:hG)(A:jq)(d:gz)(f:FB):TB:=fun σ H N=> ∃δ T acc h9 δ',BS K d T σ δ acc H/\f acc δ=some (h9,δ')/\ ∀σ' H',SKd A d σ δ H σ' δ' H'->BS K d T σ' δ' h9 H'->N σ' H'
noncomputable def ig(f:F):FB:=fun acc δ=>(f δ).bind fun p=>if acc.length<sizeLine then some (acc++[p.1.1],p.2) else none
noncomputable def kO(tg:Tg)(ti:FT)(fb:FB):List D->FB
 |[],acc,δ=>some (acc,δ)
 |x::xs,acc,δ=>(tg x δ).bind fun δ1=>(ti δ1).bind fun p=>(if p.1=true then fb acc p.2 else some (acc,p.2)).bind fun q=>kO tg ti fb xs q.1 q.2
noncomputable def GS(fi:FIt)(tg:Tg)(ti:FT)(fb:FB):FB:=fun acc δ=>(fi δ).bind fun p=>kO tg ti fb p.1 acc p.2
section
variable {K:hG}{A:jq}{d:gz}{T:AP'}{σ σ1:L2.St}{δ δ1:Dn}{acc:List D}{H H1:Hp}
theorem BS.step(b:BS K d T σ δ acc H)(k:SK A σ δ H σ1 δ1 H1)(E1:ER K H1 T σ1 δ1):BS K d T σ1 δ1 acc H1:=by
 obtain⟨ys,h1,h2⟩:=b.at';refine⟨E1,b.td,ys,k.kp d _ h1 fun z=>b.er.nT d z b.td,RepL.mono (fun b o e n=>k.kp b o e fun z=>n (.inl z)) (fun c hc z=>?_) h2⟩;rcases z with z|z
 ·exact(k.ow c z).elim Or.inl fun z=>absurd z hc
 ·exact .inr z
theorem HB(hg: ∀v σ H Q,tG K A tg v σ H Q->g v σ H Q)(hi: ∀σ H Q,tT K ft σ H Q->ti σ H Q)(hb: ∀σ H N,tBx K A d fb σ H N->tb σ H N)
  (b:BS K d T σ δ acc H)(P O:AP')(ok:ItOk K J ds P O H1)(s1: ∀a o,H1 a=some o-> ¬P a->H a=some o)(s0: ∀a,H1 a≠none->OwnA σ δ a\/a=d->P a)(s2: ∀a,H1 a≠none->(OwnA σ δ a\/T a)->O a)(s3: ∀a,H1 a≠none->H a≠none)(e:kO tg ft fb ds acc δ=some (h9,δ'))
  (k: ∀σ' H',SKd A d σ δ H σ' δ' H'->BS K d T σ' δ' h9 H'->N σ' H'):He J g ti tb σ H N:=by
 refine⟨fun i m σ2 H2=>m=ds.length-i/\i<=ds.length/\ ∃δ2 br,SKd A d σ δ H σ2 δ2 H2/\BS K d T σ2 δ2 br H2/\kO tg ft fb (ds.drop i) br δ2=some (h9,δ'),⟨ds.length,by simp,lN _,δ,acc,SK.refl.skd,b,by simpa using e⟩,?_⟩;rintro i m σ2 H2 ⟨rfl,hle,δ2,br,S2,B2,e2⟩
 have hO: ∀a,H1 a≠none->(OwnA σ2 δ2 a\/T a)->O a:=fun a ha z=>by
  rcases z with z|z
  ·exact(S2.ow a z).elim (fun z=>s2 a ha (.inl z)) fun z=>absurd z (s3 a ha)
  ·exact s2 a ha (.inr z)
 have aR: ∀a o,H1 a=some o-> ¬P a->H2 a=some o:=fun a o ea n=>S2.kp a o (s1 a o ea n) (fun z=>n (s0 a (by rw[ea];simp) (.inl z))) fun z=>n (s0 a (by rw[ea];simp) (.inr z));by_cases j0:i<ds.length
 ·refine .inr ?_;have hd:ds[i]?=some ds[i]:=jd j0;obtain⟨go,yl⟩:=ok.go i _ H2 hd aR;rw[ud j0] at e2;obtain⟨δ3,h3,e3⟩:=gv e2;obtain⟨⟨c,δ4⟩,h4,e4⟩:=gv e3;obtain⟨⟨acc5,δ5⟩,h5,e5⟩:=gv e4;refine⟨go,fun x H' hy=>?_⟩;obtain⟨ext,rep⟩:=yl x H' hy
  have ez:ER K H' T σ2 δ2:=B2.er.mono (fun b ob eb _=>ext b ob eb) (fun _ _ z=>z) (fun a z=>by
   cases hh:H2 a with
   |none=>exact absurd hh (B2.er.dom a z)
   |some ob=>rw[ext a ob hh];simp)
  have SX:SK A σ2 δ2 H2 σ2 δ2 H':=(Keep.ext ext).sk;have B2':=B2.step SX ez;have gp:SKd A d σ δ H σ2 δ2 H':=S2.trans SX.skd;have rx:=rep (fun a=>OwnA σ2 δ2 a\/T a) hO (fun b hb z=>z.elim (fun z=>B2.er.ownDom z hb) fun z=>B2.er.dom b z hb);refine hg _ _ _ _ ⟨δ2,T,ds[i],δ3,ez,rx,h3,fun σ3 S3 E3=>?_⟩;have B3:=B2'.step S3 E3;have da:=gp.trans S3.skd;refine hi _ _ _ ⟨δ3,T,c,δ4,E3,h4,fun H4 K4 E4=>?_⟩;have S4:SK A σ3 δ3 H' σ3 δ4 H4:=K4.sk;have B4:=B3.step S4 E4;have S4':=da.trans S4.skd
  cases c with
  |false=>
   rw[gJ jk] at h5;obtain⟨rfl,rfl⟩:=hC h5;exact S7 ⟨ds.length-(i+1),by omega,rfl,j0,δ4,br,S4',B4,e5⟩
  |true=>
   rw[gG rfl] at h5;exact S6 (hb _ _ _ ⟨δ4,T,br,acc5,δ5,B4,h5,fun σ5 H5 S5 B5=>⟨ds.length-(i+1),by omega,rfl,j0,δ5,acc5,S4'.trans S5,B5,e5⟩⟩)
 ·refine .inl ⟨ok.stop i H2 (by omega) aR,?_⟩;rw[uc (by omega)] at e2;obtain⟨rfl,rfl⟩:=hC e2;exact k σ2 H2 S2 B2
end
section
variable {X:Cx}{A:jq}{d:gz}{elt:gR}{f:F}
theorem PB.imp'{code:Sem Unit}{t t':TB}(h:PB X code t)(k: ∀σ H N,t' σ H N->t σ H N):PB X code t':=fun pins s σ H N I hw=>h pins s σ H N I (k σ H N hw)
theorem Lw{gens:qm}{sc:jV}{p:Pos}{depth:Nat}(hn:gens[depth+1]?=none)(he:PX X elt f):PB X (ja (.ListComp elt gens sc p) depth (.ref d) X.env) (tBx X.K A d (ig f)):=PB.imp' (NZ hn he) fun σ H N hw=>by
 obtain⟨δ,T,acc,h9,δ',B,e,k⟩:=hw;obtain⟨⟨r,δ1⟩,h1,e⟩:=gv e;obtain⟨hz,e⟩:=ip e;obtain⟨rfl,rfl⟩:=ue e;refine⟨δ,T,r,δ1,B.er,h1,fun v H1 P=>?_⟩;obtain⟨E1,rv⟩:=P.rep B.er;have S1:SK A σ δ H σ δ1 H1:=P.1.sk;have B1:=B.step S1 E1;obtain⟨ys,hy,ry⟩:=B1.at';refine⟨ys,hy,by rw[ry.length];exact hz,k σ _ ?_ ?_⟩
 ·have:SKd A d σ δ1 H1 σ δ1 (upd H1 d (.lst (ys++[v]))):=⟨fun a o e n nd=>by rw[iI nd];exact e,fun i a z=> .inl z,fun a z=>by
   by_cases ha:a=d
   ·subst ha;rw[iG];simp
   ·rw[iI ha];exact z,fun _ _=>rfl⟩
  exact S1.skd.trans this
 ·have hk: ∀b o,H1 b=some o-> ¬T b->upd H1 d (.lst (ys++[v])) b=some o:=fun b o e n=>by rw[iI (by intro z;subst z;exact n B.td)];exact e
  have hd: ∀a,T a->upd H1 d (.lst (ys++[v])) a≠none:=fun a z=>by
   by_cases ha:a=d
   ·subst ha;rw[iG];simp
   ·rw[iI ha];exact E1.dom a z
  refine⟨E1.mono hk (fun _ _ z=>z) hd,B.td,ys++[v],iG,?_⟩;exact RepL.mono (fun b o e n=>hk b o e fun z=>n (.inr z)) (fun _ _ z=>z) (ry.append (RepL.one rv))
theorem NY{e:gR}{depth:Nat}{c:oP}{fi:FIt}{tg:Tg}{ft:FT}{fb:FB}(cC:X.xe=fun _ _=>False)(hc:X.calm=true)
  (hl:(∃elt gens sc p,e= .ListComp elt gens sc p)\/(∃elt gens sc p,e= .SetComp elt gens sc p))(hg:(clausesOf e)[depth+1]?=some c)(ha:c.is_async=0)(q9: ∀g',(clausesOf e)[depth+1+1]?=some g'->g'.is_async=0)
  (hs: ∀x,foldedSetIterable c.iter X.env x=pure x)(pi:PIX X (fun _=>False) c.target c.iter fi)(pg:PGX X A c.target tg)(bK:PIf X c.ifs (tT X.K ft))(pb:PB X (ja e (depth+1) (.ref d) X.env) (tBx X.K A d fb)):
  PB X (ja e depth (.ref d) X.env) (tBx X.K A d (GS fi tg ft fb)):=PB.imp' (QV cC hc hl hg ha q9 hs pi pg bK pb) fun σ H N hw=>by
 obtain⟨δ,T,acc,h9,δ',B,e,k⟩:=hw;obtain⟨⟨ds,δ1⟩,h1,e⟩:=gv e;refine⟨δ,T,ds,δ1,B.er,h1,fun J H1 K1 E1 ok=>?_⟩;have S1:SK A σ δ H σ δ1 H1:=K1.sk;exact HB (fun _ _ _ _ h=>h) (fun _ _ _ h=>h) (fun _ _ _ h=>h) (B.step S1 E1) _ _ ok (fun a o e _=>e) (fun a _ z=>z.elim (fun⟨i,x,z⟩=> .inl ⟨i,id,x,z⟩) fun z=> .inr (z▸B.td)) (fun a _ z=>z) (fun a z=>z) e fun σ' H' S' B'=>k σ' H' (S1.skd.trans S') B'
end
noncomputable def ie(caps:iM)(k:Nat)(fi:FIt)(tg:Tg)(ti:FT)(fb:FB):F:=fun δ=>(fi δ).bind fun p=>(jJ p.2 (caps.map .slot)).bind fun args=>
 if(hX (caps.map .slot) args).Nodup then(kO tg ti fb p.1 [] (args.map some++List.replicate k none)).bind fun q=>some ((.lst q.1,true),wb (caps.map .slot) args (iA args q.2) p.2) else none
noncomputable def IJ(caps:iM)(k:Nat)(σ:L2.St):L2.St:=(caps.map fun j=>(σ[j]?).join)++List.replicate k none
theorem Et{K:hG}{caps:iM}{k:Nat}{fi:FIt}{tg:Tg}{ti:FT}{fb:FB}{σ:L2.St}{H:Hp}{Q:VK}(h:tF K (ie caps k fi tg ti fb) σ H Q):
  Ku (tI K (fun i=>i∉caps) fi) (tG K (fun i=>caps.length<=i) tg) (tT K ti) (fun d=>tBx K (fun i=>caps.length<=i) d fb) (IJ caps k) σ H Q:=by
 obtain⟨δ,T,rr,δr,E,e,kq⟩:=h;obtain⟨⟨ds,δ1⟩,h1,e⟩:=gv e;obtain⟨args,ha,e⟩:=gv e;dsimp only at e ha;split at e
 case isFalse=>cases e
 rename_i nd;obtain⟨⟨acc,δ'⟩,h2,e⟩:=gv e;obtain⟨rfl,rfl⟩:=hC e;refine⟨δ,T,ds,δ1,E,h1,fun J H1 K1 E1 ok d hd=>?_⟩;obtain⟨hl,hg⟩:=nZ ha;have fL:args.length=caps.length:=by simpa using hl
 let vs:List V:=caps.map fun j=>((σ[j]?).join).getD .non
 have there: ∀(i j:Nat),caps[i]?=some j-> ∃v,σ[j]?=some (some v):=fun i j hj=>by
  have hi:i<args.length:=by have:=(vS.mp hj).1;omega
  obtain⟨o,q1,q2⟩:=hg i _ (jd hi);rw[lh,hj] at q1;cases q1;have q3:=rO q2;generalize args[i]=y at q3;obtain⟨x,b⟩:=y
  cases b with
  |false=>obtain⟨v,h,_⟩:=E1.val j x q3;exact⟨v,h⟩
  |true=>obtain⟨a,h,_⟩:=E1.own j x q3;exact⟨_,h⟩
 have hvs: ∀(i j:Nat),caps[i]?=some j-> ∃v,vs[i]?=some v/\σ[j]?=some (some v):=fun i j hj=>by
  obtain⟨v,hv⟩:=there i j hj;refine⟨v,?_,hv⟩;show(caps.map fun j=>((σ[j]?).join).getD .non)[i]?=some v;rw[lh,hj];simp[hv]
 have aC:IJ caps k σ=vs.map some++List.replicate k none:=by
  unfold IJ
  congr 1
  apply BP;intro i;show _=((caps.map fun j=>((σ[j]?).join).getD .non).map some)[i]?;rw[lh,lh,lh]
  cases hj:caps[i]? with
  |none=>rfl
  |some j=>obtain⟨v,hv⟩:=there i j hj;simp[hv]
 have B0:Ops K T σ δ1 H1 (caps.map Opd.slot) vs δ1 H1 T:=by
  refine⟨by simp[vs],.refl,E1,fun _ z=>z,fun j x v hj=>?_,fun j x v hj=>?_,fun j i v hj hv=>?_⟩
  ·rw[lh] at hj;obtain⟨_,_,z⟩:=iP hj;cases z
  ·rw[lh] at hj;obtain⟨_,_,z⟩:=iP hj;cases z
  ·rw[lh] at hj;obtain⟨c,hc,z⟩:=iP hj;cases z;obtain⟨v',q1,q2⟩:=hvs j i hc;rw[hv] at q1;cases q1;exact q2
 have Ec:=HR E1 B0 ha nd
 have hA: ∀(i:Nat) x,args[i]?=some (x,true)-> ¬(caps.length<=i):=fun i x hx=>by
  have:=(vS.mp hx).1;omega
 rw[aC];have hx:=kP (o:= .lst []) hd
 have nz: ∀a,H1 a≠none->upd H1 d (.lst []) a≠none:=fun a z=>by
  cases hh:H1 a with
  |none=>exact absurd hh z
  |some o=>rw[hx a o hh];simp
 have b0:BS K d (fun a=>Tc T σ δ1 vs args a\/a=d) (vs.map some++List.replicate k none) (args.map some++List.replicate k none) [] (upd H1 d (.lst [])):=by
  refine⟨(Ec.pad).mono (fun b o eb _=>hx b o eb) (fun b hb z=>z.elim id fun z=>by subst z;exact absurd hd hb) (fun a z=>?_),.inr rfl,[],iG,RepL.nil⟩;rcases z with z|z
  ·exact nz a (Ec.dom a z)
  ·subst z;rw[iG];simp
 refine HB (fun _ _ _ _ h=>h) (fun _ _ _ h=>h) (fun _ _ _ h=>h) b0 _ _ ok (fun a o ea _=>hx a o ea) (fun a gb z=>?_) (fun a gb z=>?_) nz h2 fun σ' H2 S2 B2=>?_
 ·rcases z with z|z
  ·obtain⟨j,x,g1,g2⟩:=Lx.mp z;obtain⟨i,_,q1,_,q3⟩:=D2 B0 ha ⟨x,g1,g2⟩;refine .inl ⟨i,fun n=>n ?_,q3⟩;rw[lh] at q1;obtain⟨c,hc,e⟩:=iP q1;cases e;exact mO hc
  ·subst z;exact absurd hd gb
 ·rcases z with z|z|z
  ·exact .inl (HC B0 ha (Lx.mp z))
  ·rcases z with z|z
   ·exact .inr z
   ·exact .inl z.1
  ·subst z;exact absurd hd gb
 ·have SS:SK (fun i=>caps.length<=i) (vs.map some++List.replicate k none) (args.map some++List.replicate k none) H1 σ' δ' H2:=
   ⟨fun a o ea n=>S2.kp a o (hx a o ea) n (by intro z;subst z;rw[ea] at hd;cases hd),fun i a z=>(S2.owi i a z).imp id fun z=>by
    cases hh:H1 a with
    |none=>rfl
    |some o=>exact absurd z (nz a (by rw[hh];simp)),fun a z=>S2.dm a (nz a z),S2.as⟩
  obtain⟨ys,hy,ry⟩:=B2.at';have P:=wZ (r:=(.lst acc,true)) (v:= .ref d) Ec SS hA ⟨d,rfl,hd,B2.er,ys,hy,RepL.mono (fun _ _ e _=>e) (fun b _ z=>z) ry⟩;exact kq (.ref d) H2 ((Ex E1 B0 ha nd P).pre K1)
section
variable {X:Cx}{elt:gR}{c:oP}{hZ:qm}{scope:jV}{pos f9 py:Pos}{N':iK}{caps:iM}{k:Nat}{fi:FIt}{tg:Tg}{ti:FT}{fb:FB}{A L:jq}{H0:Hp}
structure CompOk(X:Cx)(N':iK)(scope:jV)(caps:iM)(k:Nat):Prop where
 cell: ∀y∈scope.names,y.2≠ .cell
 kind:scope.kind= .function
 names: ∀y∈scope.names,y.2= .local->scope.names.lookup y.1=some .local
 free: ∀y∈scope.names,y.2= .free->X.env.scope.names.lookup y.1=some .cell\/X.env.scope.names.lookup y.1=some .free
 len:caps.length+k=N'.length
 caps: ∀(i j:Nat) (x:Str),caps[i]?=some j->N'[i]?=some x->X.N[j]?=some x/\scope.names.lookup x=some .free
theorem CompOk.sco(C:CompOk X N' scope caps k):CompScope X N' scope (IJ caps k):=by
 refine⟨C.cell,C.kind,C.names,C.free,fun σ=>by simp[IJ,C.len],fun σ i v x h1 h2=>?_⟩;unfold IJ at h1;by_cases hi:i<caps.length
 ·rw[yy (by simpa using hi),lh,jd hi] at h1;obtain⟨q1,q2⟩:=C.caps i caps[i] x (jd hi) h2;refine⟨q2,caps[i],q1,?_⟩;have h3:(σ[caps[i]]?).join=some v:=by simpa using h1
  cases hs:σ[caps[i]]? with
  |none=>rw[hs] at h3;cases h3
  |some y=>rw[hs] at h3;exact pZ some h3
 ·rw[wx (by simpa using hi),List.getElem?_replicate] at h1;split at h1<;>cases h1
theorem Nt(C:CompOk X N' scope caps k)(hc:X.calm=true)(ha:c.is_async=0)(q9: ∀g',hZ[0]?=some g'->g'.is_async=0)
  (hs: ∀x,foldedSetIterable c.iter X.env x=pure x)(pi:PIX X (fun i=>i∉caps) c.target c.iter fi)
  (aH: ∀(cl:qo) (C:gz) (s3:gC) (H3:Hp) (fp:jW) (pins:iq),let X':=X.comp N' scope cl C s3 H3 fp pins
   PGX X' (fun i=>caps.length<=i) c.target tg/\PIf X' c.ifs (tT X.K ti)/\ ∀d,PB X' (ja (.ListComp elt (c::hZ) scope pos) 0 (.ref d) X'.env) (tBx X.K (fun i=>caps.length<=i) d fb)):
  PX X (.ListComp elt (c::hZ) scope pos) (ie caps k fi tg ti fb):=PX.imp (Lq (g:=tG X.K (fun i=>caps.length<=i) tg) (ti:=tT X.K ti) (tb:=fun d=>tBx X.K (fun i=>caps.length<=i) d fb) C.sco hc ha q9 hs pi aH) fun σ H Q h=>Et h
theorem K8{y:Str}{i:Nat}(dQ:swapsWith (.ListComp elt (c::hZ) scope pos) (some (.Name y py)) f9.line X.env=pure true)
  (C:CompOk X N' scope caps k)(hc:X.calm=true)(ha:c.is_async=0)(q9: ∀g',hZ[0]?=some g'->g'.is_async=0)
  (hs: ∀x,foldedSetIterable c.iter X.env x=pure x)(pi:PIX X (fun i=>i∉caps) c.target c.iter fi)(fq:PG X (.Name y py) (Ee i))(hA:A i)
  (aH: ∀(cl:qo) (C:gz) (s3:gC) (H3:Hp) (fp:jW) (pins:iq),let X':=X.comp N' scope cl C s3 H3 fp pins
   PGX X' (fun i=>caps.length<=i) c.target tg/\PIf X' c.ifs (tT X.K ti)/\ ∀d,PB X' (ja (.ListComp elt (c::hZ) scope pos) 0 (.ref d) X'.env) (tBx X.K (fun i=>caps.length<=i) d fb)):
  PSX X A L H0 (.Assign [.Name y py] (.ListComp elt (c::hZ) scope pos) f9) (iw i (ie caps k fi tg ti fb)):=PS.imp' (Ld (g:=tG X.K (fun i=>caps.length<=i) tg) (ti:=tT X.K ti) (tb:=fun d=>tBx X.K (fun i=>caps.length<=i) d fb) dQ C.sco hc ha q9 hs pi fq aH) fun D σ H hw=>by
 obtain⟨δ,T,out,E,fi,e,k⟩:=hw;obtain⟨⟨r,δ1⟩,h3,e⟩:=gv e;obtain⟨hi,rfl⟩:=ip e;refine Et ⟨δ,T,r,δ1,E,h3,fun v H1 P=>?_⟩;obtain⟨h1,h2⟩:=yJ (A:=A) E P hi hA;exact k _ H1 h1 h2
end
section
variable {K:hG}{T:AP'}{σ:L2.St}{δ:Dn}{H:Hp}{i:Nat}{l l':List D}{a:gz}{cq:List V}
theorem OwnI.write{j:Nat}{b:gz}(hd:δ[i]?=some (some (.lst l,true)))(h:OwnI σ (δ.set i (some (.lst l',true))) j b):OwnI σ δ j b:=by
 obtain⟨e,h1,h2⟩:=h;rcases kH h1 with⟨rfl,_,_⟩|⟨_,q⟩
 ·exact⟨_,hd,h2⟩
 ·exact⟨e,q,h2⟩
theorem ER.write(E:ER K H T σ δ)(hd:δ[i]?=some (some (.lst l,true)))(hs:σ[i]?=some (some (.ref a)))(r:RepL K H (fun b=>OwnA σ δ b\/T b) l' cq):
  ER K (upd H a (.lst cq)) T σ (δ.set i (some (.lst l',true)))/\Keep σ δ H (δ.set i (some (.lst l',true))) (upd H a (.lst cq)):=by
 have hi:i<δ.length:=(vS.mp hd).1;have oa:OwnA σ δ a:=⟨i,_,hd,hs⟩
 have ay: ∀b,OwnA σ (δ.set i (some (.lst l',true))) b->OwnA σ δ b:=fun b ⟨j,e,h1,h2⟩=>by
  obtain⟨e',q1,q2⟩:=OwnI.write hd ⟨e,h1,h2⟩;exact⟨j,e',q1,q2⟩
 have kp: ∀b o,H b=some o-> ¬(OwnA σ δ b\/T b)->upd H a (.lst cq) b=some o:=fun b o e n=>by rw[iI (by intro z;subst z;exact n (.inl oa))];exact e
 have dm: ∀b,H b≠none->upd H a (.lst cq) b≠none:=fun b z=>by
  by_cases hb:b=a
  ·subst hb;rw[iG];simp
  ·rw[iI hb];exact z
 have sub: ∀b,H b≠none->(OwnA σ (δ.set i (some (.lst l',true))) b\/T b)->OwnA σ δ b\/T b:=fun b _ z=>z.imp (ay b) id;refine⟨⟨by rw[sP];exact E.len,fun j e hj=>?_,fun j e hj=>?_,fun j k e f b hj hk h1 h2=>?_,fun b z=>E.nT b (ay b z),fun b z=>dm b (E.dom b z)⟩,⟨fun b o e n=>by rw[iI (by intro z;subst z;exact n oa)];exact e,fun j b z=>OwnI.write hd z,dm⟩⟩
 ·rcases kH hj with⟨_,_,q⟩|⟨_,q⟩
  ·cases q
  ·obtain⟨w,w1,w2⟩:=E.val j e q;exact⟨w,w1,Rep.mono kp sub w2⟩
 ·rcases kH hj with⟨rfl,_,q⟩|⟨ne,q⟩
  ·cases q;exact⟨a,hs,cq,iG,RepL.mono kp sub r⟩
  ·obtain⟨b,w1,w2⟩:=E.own j e q;refine⟨b,w1,w2.mono kp sub fun o eo=>?_⟩;rw[iI]
   ·exact eo
   ·intro z;subst z;exact ne (E.inj i j _ _ _ hd q hs w1)
 ·obtain⟨e1,q1,q2⟩:=OwnI.write hd ⟨e,hj,h1⟩;obtain⟨e2,q3,q4⟩:=OwnI.write hd ⟨f,hk,h2⟩;exact E.inj j k e1 e2 b q1 q3 q2 q4
end
noncomputable def kT(i:Nat)(f:F):F:=fun δ=>match δ[i]? with
 |some (some (.lst _,true))=>(f δ).bind fun p=>match p.2[i]? with
  |some (some (.lst l,true))=>if l.length<sizeLine then some ((.non,false),p.2.set i (some (.lst (l++[p.1.1]),true))) else none
  |_=>none
 |_=>none
noncomputable def uE(i:Nat)(f:FO):F:=fun δ=>match δ[i]? with
 |some (some (.lst _,true))=>(f δ).bind fun p=>match res p.2 p.1,p.2[i]? with
  |some (.int k),some (some (.lst l,true))=>if -(2^63)<=k/\k<2^63 then(ixN l.length k).bind fun j=>(l[j]?).bind fun d=>some ((d,false),p.2.set i (some (.lst (l.eraseIdx j),true))) else none
  |_,_=>none
 |_=>none
noncomputable def wD(i:Nat)(f:F)(g:FO):FS:=fun δ=>(f δ).bind fun p=>match p.2[i]? with
 |some (some _)=>(g p.2).bind fun q=>match res q.2 q.1,q.2[i]? with
  |some (.int k),some (some (.lst l,true))=>(ixN l.length k).bind fun j=>some (.nx (q.2.set i (some (.lst (l.set j p.1.1),true))))
  |_,_=>none
 |_=>none
section
variable {X:Cx}{e ix:gR}{f:F}{fo:FO}{pos b9 apos i9:Pos}{i:Nat}{x:Str}{A L:jq}{H0:Hp}
theorem RepL.erase{K H}{O:AP'}: ∀{l:List D} {vs:List V} (j:Nat),RepL K H O l vs->RepL K H O (l.eraseIdx j) (vs.eraseIdx j)
 |[],vs,j,h=>by rw[RepL] at h;subst h;simp[RepL]
 |d::l,vs,0,h=>by
  rw[RepL] at h;obtain⟨v,r,rfl,h1,h2⟩:=h;exact h2
 |d::l,vs,j+1,h=>by
  rw[RepL] at h;obtain⟨v,r,rfl,h1,h2⟩:=h;exact RepL.cons h1 (RepL.erase j h2)
theorem IC(hv:PO X (.Name x b9) (gu i))(he:PX X e f)(j9:attributeBase (.Name x b9) "append" X.env (eval (.Name x b9) X.env)=eval (.Name x b9) X.env)
  (o8:((backTo i9 (starEach [e] X.env)).all (fun x=>!x.1)&&(backToKw i9 (keywordEach [] X.env)).all (fun x=>x.1.isSome)&&decide ([e].length+([]:List Keyword).length+(if([]:List Keyword).isEmpty then 0 else 1)<30))=true)
  (j8:(apos.endLine==i9.line)=true)(hs:starEach [e] X.env=(false,eval e X.env)::starEach [] X.env)(i6:(backTo i9 (starEach [] X.env)).any (·.1)=false):
  PX X (.Call (.Attribute (.Name x b9) "append" apos) [e] [] i9) (kT i f):=
 PX.imp (Lv Fj PySem.F.slot_list_append PySem.F.type_list_append I9 hv (oA he ur hs) j9 o8 j8 hs i6) fun σ H Q hw=>by
 obtain⟨δ,T,rr,δ',E,e,k⟩:=hw;unfold kT at e;split at e
 ·rename_i l0 h0;obtain⟨⟨r,δ1⟩,h1,e⟩:=gv e;dsimp only at e;split at e
  ·rename_i l h2;obtain⟨hz,e⟩:=ip e;obtain⟨rfl,rfl⟩:=ue e;refine⟨δ,T,.slot i,δ,E,by unfold gu;rw[h0],fun v H1 P=>?_⟩;obtain⟨K1,E1,hσ⟩:=P;obtain⟨a,g1,dC,g2,g3⟩:=E1.own i _ h0;rw[hσ] at g1;cases g1;refine⟨.inl ⟨rfl,dC,SqL.of g2⟩,δ,T,r,δ1,E1,h1,fun y H2 P2=>?_⟩;obtain⟨E2,ry⟩:=P2.rep E1;obtain⟨a',q1,xs,q2,q3⟩:=E2.own i _ h2;rw[hσ] at q1;cases q1;refine⟨_,xs,y,rfl,rfl,q2,by rw[q3.length];exact hz,?_⟩;obtain⟨E3,K3⟩:=E2.write h2 hσ (q3.append (RepL.one ry));exact k _ _ (Post.val ((K1.trans P2.1).trans K3) E3 Rep.mkNon)
  ·cases e
 ·cases e
theorem KY(hv:PO X (.Name x b9) (gu i))(he:PO X e fo)(j9:attributeBase (.Name x b9) "pop" X.env (eval (.Name x b9) X.env)=eval (.Name x b9) X.env)
  (o8:((backTo i9 (starEach [e] X.env)).all (fun x=>!x.1)&&(backToKw i9 (keywordEach [] X.env)).all (fun x=>x.1.isSome)&&decide ([e].length+([]:List Keyword).length+(if([]:List Keyword).isEmpty then 0 else 1)<30))=true)
  (j8:(apos.endLine==i9.line)=true)(hs:starEach [e] X.env=(false,eval e X.env)::starEach [] X.env)(i6:(backTo i9 (starEach [] X.env)).any (·.1)=false):
  PX X (.Call (.Attribute (.Name x b9) "pop" apos) [e] [] i9) (uE i fo):=
 PX.imp (Lv Fj PySem.F.slot_list_pop PySem.F.type_list_pop LL hv (oA he ur hs) j9 o8 j8 hs i6) fun σ H Q hw=>by
 obtain⟨δ,T,rr,δ',E,e,k⟩:=hw;unfold uE at e;split at e
 ·rename_i l0 h0;obtain⟨⟨o,δ1⟩,h1,e⟩:=gv e;dsimp only at e;split at e
  ·rename_i kk l hk h2;split at e
   case isFalse=>cases e
   rename_i hb;obtain⟨j,hj,e⟩:=gv e;obtain⟨d,hd,e⟩:=gv e;obtain⟨rfl,rfl⟩:=hC e;refine⟨δ,T,.slot i,δ,E,by unfold gu;rw[h0],fun v H1 P=>?_⟩;obtain⟨K1,E1,hσ⟩:=P;obtain⟨a,g1,dC,g2,g3⟩:=E1.own i _ h0;rw[hσ] at g1;cases g1;refine⟨.inl ⟨rfl,dC,SqL.of g2⟩,δ,T,o,δ1,E1,h1,fun y H2 P2=>?_⟩;have B:=Ops.cons E1 P2 (Ops.nil (P2.er E1));have vy:=ic (B.view (j:=0) rfl rfl hk);have E2:ER X.K H2 T σ δ1:=B.er.mono (fun _ _ e _=>e) (fun b _ z=>B.tt b z) (fun a z=>B.er.dom a (B.tt a z));obtain⟨a',q1,xs,q2,q3⟩:=E2.own i _ h2;rw[hσ] at q1;cases q1;obtain⟨w,w1,w2⟩:=q3.get hd;have hl:=q3.length;have fP:ixN xs.length kk=some j:=by rw[hl];exact hj
   obtain⟨s1,s2,s3,s4⟩:=CH fP;obtain⟨E3,K3⟩:=E2.write h2 hσ (RepL.erase j q3);refine⟨_,xs,kk,j,w,rfl,by rw[vy],q2,hb.1,hb.2,s1,w1,?_⟩;exact k _ _ (Post.val ((K1.trans B.keep).trans K3) E3 (Rep.mono (fun b o e n=>K3.kp b o e fun z=>n (.inl z)) (fun b _ z=>z.imp (K3.ow b) id) w2))
  ·cases e
 ·cases e
theorem IG{f9:Pos}(hv:PO X (.Name x b9) (gu i))(he:PX X e f)(hi:PO X ix fo)
  (ha: ∀v,assign (.Subscript (.Name x b9) ix f9) X.env v=(do
   let ov <-holding [v] (eval (.Name x b9) X.env)
   let iv <-holding [v,ov] (eval ix X.env)
   standAt f9
   holding [v,ov,iv] (setItem ov iv v)
   release [v,ov,iv] []))
  (hs:swapsWithSole [.Subscript (.Name x b9) ix f9] e pos.line X.env=pure false)(hw:swappedStores [.Subscript (.Name x b9) ix f9] e X.env=pure none)
  (h1:(assignEach [.Subscript (.Name x b9) ix f9] X.env).map (·.2)=[assign (.Subscript (.Name x b9) ix f9) X.env]):
  PSX X A L H0 (.Assign [.Subscript (.Name x b9) ix f9] e pos) (wD i f fo):=PS.imp' (F3 he (Lp hv hi Ky ha) hs hw h1) fun D σ H hw=>by
 obtain⟨δ,T,out,E,fi,e,k⟩:=hw;obtain⟨⟨r,δ1⟩,h1,e⟩:=gv e;dsimp only at e;split at e
 case h_2=>cases e
 rename_i y0 h0;obtain⟨⟨o,δ2⟩,h2,e⟩:=gv e;dsimp only at e;split at e
 ·rename_i kk l hk h3;obtain⟨j,hj,e⟩:=gv e;cases e;refine⟨δ,T,r,δ1,E,h1,fun v H1 P1=>⟨δ1,Tmp T r v,.slot i,δ1,P1.er E,by unfold gu;rw[h0],fun v2 H2 P2=>⟨δ1,Tmp T r v,o,δ2,P2.er (P1.er E),h2,fun v3 H3 P3=>?_⟩⟩⟩;have gq:PostO X.K T σ δ H (.val r) δ1 v H1:=P1;have B:=Ops.cons E gq (Ops.cons (P1.er E) P2 (Ops.cons (P2.er (P1.er E)) P3 (Ops.nil (P3.er (P2.er (P1.er E))))));have E3:ER X.K H3 T σ δ2:=B.er.mono (fun _ _ e _=>e) (fun b _ z=>B.tt b z) (fun a z=>B.er.dom a (B.tt a z));have hσ:σ[i]?=some (some v2):=P2.2.2;obtain⟨a,q1,xs,q2,q3⟩:=E3.own i _ h3;rw[hσ] at q1;cases q1;have vk:=ic (B.view (j:=2) rfl rfl hk);have rv:=B.rep E (j:=0) (r:=r) rfl rfl;refine⟨a,xs,kk,j,rfl,vk,q2,by rw[q3.length];exact hj,?_⟩;obtain⟨E4,K4⟩:=E3.write h3 hσ (RepL.set rv j q3);exact k _ _ (B.keep.trans K4).sk E4
 ·cases e
end
noncomputable def FR(tg:Tg)(f:F):FS:=fun δ=>(f δ).bind fun p=>(tg p.1.1 p.2).bind fun δ1=>some (.nx δ1)
section
variable {X:Cx}{A L:jq}{H0:Hp}{a b tg e:gR}{fs:List F}{f:F}{t:Tg}{pos px py pt pt2:Pos}{x y:Str}{i j:Nat}{kt k2}
theorem NG(he:PX X e f)(hg:PGX X A tg t)(hs:swapsWithSole [tg] e pos.line X.env=pure false)(hw:swappedStores [tg] e X.env=pure none)(h1:(assignEach [tg] X.env).map (·.2)=[assign tg X.env]):
  PSX X A L H0 (.Assign [tg] e pos) (FR t f):=PS.imp' (F3 he hg hs hw h1) fun D σ H hw=>by
 obtain⟨δ,T,out,E,fi,e,k⟩:=hw;obtain⟨⟨r,δ1⟩,h1,e⟩:=gv e;obtain⟨δ2,h2,e⟩:=gv e;cases e;refine⟨δ,T,r,δ1,E,h1,fun v H1 P=>?_⟩;obtain⟨E1,rv⟩:=P.rep E;exact⟨δ1,T,r.1,δ2,E1,rv,h2,fun σ' S' E'=>k σ' H1 (P.1.sk.trans S') E'⟩
theorem Nw{id:String}{p:Pos}{es:jF}{fo:List FO}{g:List D->Option (D×Bool)}{z:Str}(hc:jB X (.builtin id) (rDn X.K g))(hg:Gl X z)(hm:X.mg z=none)(hv:bootBuiltins z=some (.builtin id))(ha:PA X (e::es) (tA X.K fo))(hn:z≠"__name__")(p9:(z==("__debug__":Str))=false)
  (he:starEach (e::es) X.env=(false,eval e X.env)::starEach es X.env)(j7:(backTo pos (starEach es X.env)).any (·.1)=false):PX X (.Call (.Name z p) (e::es) [] pos) (gP g fo):=pxn (DP hc hg hm hv ha hn p9 he j7)
theorem Nk{id:String}{p:Pos}{es:jF}{fo:List FO}{g:List D->Option (D×Bool)}{z:Str}(hc:jB X (.type id) (rDn X.K g))(hg:Gl X z)(hm:X.mg z=none)(hv:bootBuiltins z=some (.type id))(ha:PA X (e::es) (tA X.K fo))(hn:z≠"__name__")(p9:(z==("__debug__":Str))=false)
  (he:starEach (e::es) X.env=(false,eval e X.env)::starEach es X.env)(j7:(backTo pos (starEach es X.env)).any (·.1)=false):PX X (.Call (.Name z p) (e::es) [] pos) (gP g fo):=pxn (pe hc hg hm hv ha hn p9 he j7)
end
noncomputable def CU(N:iK)(sc scope:jV)(N':iK)(caps:iM)(k:Nat):Bool:=
 (scope.names.all fun y=>y.2 != .cell)&&decide (scope.kind= .function)&&(scope.names.all fun y=>y.2 != .local||scope.names.lookup y.1==some .local)&&
 (scope.names.all fun y=>y.2 != .free||(sc.names.lookup y.1==some .cell||sc.names.lookup y.1==some .free))&&decide (caps.length+k=N'.length)&&
 ((caps.zip N').all fun p=>N[p.1]?==some p.2&&scope.names.lookup p.2==some .free)
theorem Ms(hN:X.N=N)(hs:X.env.scope=sc)(h:CU N sc scope N' caps k=true):CompOk X N' scope caps k:=by
 subst hN;subst hs;unfold CU at h;simp only[lO,mC,ub] at h;obtain⟨⟨⟨⟨⟨h1,h2⟩,h3⟩,h4⟩,h5⟩,h6⟩:=h;refine⟨fun y hy e=>?_,h2,fun y hy e=>?_,fun y hy e=>?_,h5,fun i j x hi hx=>?_⟩
 ·have:=h1 y hy;rw[e] at this;simp at this
 ·have:=h3 y hy;rw[e] at this;simpa using this
 ·have:=h4 y hy;rw[e] at this;simpa using this
 ·have hm:(j,x)∈caps.zip N':=by
   have:(caps.zip N')[i]?=some (j,x):=by rw[EJ];exact⟨hi,hx⟩
   exact mO this
  have:=h6 _ hm;simpa using this
noncomputable def iz:FT:=fun δ=>some (true,δ)
theorem Lk{X:Cx}:PIf X [] (tT X.K iz):=fun pins s σ H Q I h=>by
 obtain⟨δ,T,b,δ',E,e,k⟩:=h;cases e;exact NP pins s σ H Q I (k H .refl E)
inductive Ty where
 |int|bool|str|tuple|list|dict
noncomputable def Ty.n:Ty->String
 | .int=>"int"| .bool=>"bool"| .str=>"str"| .tuple=>"tuple"| .list=>"list"| .dict=>"dict"
noncomputable def isT:D->Ty->Bool
 | .bl _,.bool=>true
 | .bl _,.int=>true
 | .int _,.int=>true
 | .str _,.str=>true
 | .tup _,.tuple=>true
 | .lst _,.list=>true
 | .oth .dct _ _,.dict=>true
 |_,_=>false
noncomputable def tyD:D->String
 | .non=>"NoneType"| .bl _=>"bool"| .int _=>"int"| .str _=>"str"| .tup _=>"tuple"| .lst _=>"list"| .oth .dct _ _=>"dict"| .oth .set _ _=>"set"| .oth _ _ _=>"NoneType"
section
variable {X:Cx}{pins:iq}{σ:L2.St}{H:Hp}{s:gC}
theorem D5(K:hG)(d:D)(t:Ty):PySem.W.kitOne K (.type (tyD d)) (.type t.n)=some (isT d t):=by
 cases d with
 |oth k _ _=>cases k<;>cases t<;>with_unfolding_all rfl
 |_=>cases t<;>with_unfolding_all rfl
theorem Lz(I:Inv X pins σ H s)(h:OthB (H a) k ks vs us):s.TypeIs (.ref a) (tyD (.oth k ks vs)):=by
 cases k with
 |dct=>
  rcases h with⟨kvs,e,_⟩|⟨kvs,e,_⟩
  ·obtain⟨_,_,vs,_,o,es,ep,h1,h2,_⟩:=(show ObjOk X.prog X.w H s.heap a (.dK kvs) from I.hok a _ e)
   exact⟨o,h1,h2.1⟩
  ·obtain⟨_,_,xs,_,o,es,ep,h1,h2,_⟩:=(show ObjOk X.prog X.w H s.heap a (.dT kvs) from I.hok a _ e)
   exact⟨o,h1,h2.1⟩
 |set=>
  obtain⟨_,zs,e,_⟩:=h;obtain⟨es,n,t,h1,_⟩:=(show ObjOk X.prog X.w H s.heap a (.stt zs) from I.hok a _ e)
  exact⟨_,h1,rfl⟩
 |_=>exact h.elim
theorem uW{K H}(h:jh K H O (.oth k ks vs) v): ∃a us,v= .ref a/\OthB (H a) k ks vs us/\RepL K H O vs us:=by
 rcases h with h|⟨a,rfl,h⟩
 ·obtain⟨a,us,e,q,r⟩:=h.oth;exact⟨a,us,e,q.2,r⟩
 ·obtain⟨us,e,r⟩:=h;exact⟨a,us,rfl,e,r⟩
theorem U5(I:Inv X pins σ H s)(hd:jh X.K H O d x)(rx:RelV x u)(h: ∀tk,Q (.bool (isT d t)) {s with toks:=tk}):
  wpAny (model X.prog X.w) A (call (.builtin "isinstance") [u,.type t.n]) Q E s:=by
 cases d with
 |non=>have:=Ki hd;subst this;cases rx;exact qz PySem.W.kitx_none I.kIn True.intro (D5 X.K .non t) (fun z=>nomatch z) h
 |bl b=>have:=G6 hd;subst this;cases rx;exact qz PySem.W.kitx_bool I.kIn True.intro (D5 X.K (.bl b) t) (fun z=>nomatch z) h
 |int b=>have:=ic hd;subst this;obtain⟨tk,rfl⟩:=rx;exact qz PySem.W.kitx_int I.kIn True.intro (D5 X.K (.int b) t) (fun z=>nomatch z) h
 |str b=>have:=yH hd;subst this;obtain⟨tk,rfl⟩:=rx;exact qz PySem.W.kitx_str I.kIn True.intro (D5 X.K (.str b) t) (fun z=>nomatch z) h
 |tup l=>
  obtain⟨a,xs,rfl,q,_⟩:=kj hd;cases rx;obtain⟨b6,_,⟨o,h1,h2,_⟩,_⟩:=I.tuple q;exact qz PySem.W.kitx_tuple I.kIn ⟨o,h1,h2⟩ (D5 X.K (.tup l) t) (fun z=>nomatch z) h
 |lst l=>
  obtain⟨a,xs,rfl,q,_⟩:=jL hd;cases rx;obtain⟨b6,_,⟨o,n,h1,h2,_⟩,_⟩:=I.list q;exact qz PySem.W.kitx_list I.kIn ⟨o,h1,h2⟩ (D5 X.K (.lst l) t) (fun z=>nomatch z) h
 |oth k ks vs=>
  obtain⟨a,us,rfl,q,_⟩:=uW hd;cases rx;have ht:=Lz I q
  cases k with
  |dct=>exact qz PySem.W.kitx_dict I.kIn ht (D5 X.K (.oth .dct ks vs) t) (fun z=>nomatch z) h
  |set=>exact qz PySem.W.kitx_set I.kIn ht (D5 X.K (.oth .set ks vs) t) (fun z=>nomatch z) h
  |_=>exact q.elim
end
noncomputable def zq(ts:List Ty)(d:D):Option (D×Bool):=some (.bl (ts.any (isT d)),false)
section
variable {X:Cx}{e:gR}{fa:FO}{pos p p2:Pos}{z:Str}
theorem Qh{t:Ty}(ha:PO X e fa)(hg:Gl X "isinstance")(hm:X.mg "isinstance"=none)(fR:Gl X z)(hmz:X.mg z=none)(hz:bootBuiltins z=some (.type t.n))(hn:z≠"__name__")(p9:(z==("__debug__":Str))=false)(hv:bootBuiltins "isinstance"=some (.builtin "isinstance"))
  (s1:starEach [e,.Name z p2] X.env=(false,eval e X.env)::starEach [.Name z p2] X.env)(s2:starEach [.Name z p2] X.env=(false,eval (.Name z p2) X.env)::starEach [] X.env)(j7:(backTo pos (starEach [.Name z p2] X.env)).any (·.1)=false):
  PX X (.Call (.Name "isinstance" p) [e,.Name z p2] [] pos) (ni (zq [t]) fa):=by
 have hc:jB X (.builtin "isinstance") (fun xs H Q=> ∃(O:AP') (d:D) (x:V),xs=[x,.ty t.n]/\jh X.K H O d x/\Q (.bl (isT d t)) H):=by
  intro pins s σ H xs us Q I r h;obtain⟨O,d,x,rfl,hd,q⟩:=h;obtain⟨u,w',rfl,ru,ai⟩:=Dm r;cases ai;exact U5 I hd ru fun tk=>⟨.bl _,H,I.tok _,rfl,q⟩
 refine PX.imp (DP hc hg hm hv (oA ha (oA (NX (v:= .ty t.n) fR hmz hz rfl hn p9) ur s2) s1) (by decide) (by decide) s1 j7) fun σ H Q hw=>?_;obtain⟨δ,T,rr,δ',E,e,k⟩:=hw;obtain⟨⟨o,δ1⟩,h1,e⟩:=gv e;obtain⟨x,h2,e⟩:=gv e;obtain⟨zz,h3,e⟩:=gv e;cases h3;obtain⟨rfl,rfl⟩:=hC e;refine⟨δ,T,o,δ1,E,h1,fun v H1 P1=>?_⟩;have B:=Ops.cons E P1 (Ops.nil (P1.er E));refine⟨_,x,v,rfl,B.view (j:=0) rfl rfl h2,?_⟩;have:=(B.done k).bl;simpa using this
end
noncomputable def rZ:List D->Option (List Bool)
 |[]=>some []
 | .bl b::l=>(rZ l).map (b:: ·)
 |_::_=>none
noncomputable def xN:D->Option (D×Bool)
 | .lst l=>(rZ l).map fun bs=>(.bl (bs.all id),false)
 |_=>none
noncomputable def Gv:D->Option (D×Bool)
 | .lst l=>(rZ l).map fun bs=>(.bl (bs.any id),false)
 |_=>none
theorem rk{K H}{O:AP'}: ∀{l:List D} {bs:List Bool} {xs:List V} {b6:iV},rZ l=some bs->RepL K H O l xs->Vals xs b6->LSm.BoolsAre b6 bs
 |[],bs,xs,b6,h,r,v=>by
  cases h;rw[RepL] at r;subst r;cases v;exact .nil
 | .bl b::l,bs,xs,b6,h,r,v=>by
  obtain⟨bs',h1,rfl⟩:=iP h;rw[RepL] at r;obtain⟨x,xr,rfl,r1,r2⟩:=r;have:=r1.bl;subst this
  cases v with
  |cons a c=>cases a;exact .cons b (rk h1 r2 c)
 | .non::l,_,_,_,h,_,_=>by cases h
 | .int _::l,_,_,_,h,_,_=>by cases h
 | .str _::l,_,_,_,h,_,_=>by cases h
 | .tup _::l,_,_,_,h,_,_=>by cases h
 | .lst _::l,_,_,_,h,_,_=>by cases h
 | .oth _ _ _::l,_,_,_,h,_,_=>by cases h
section
variable {X:Cx}
theorem vw{h h':hV}{o:Obj}(hk: ∀b x,b∉[h.objs.size]->(h.push o).get? b=some x->h'.get? b=some x)(b:gz)(x:Obj)(e:h.get? b=some x):h'.get? b=some x:=
 hk b x (fun z=>by have:=qw.mp z;subst this;exact absurd (iu e) (oi _)) (iF _ e)
theorem ny(hc:X.calm=true):jB X (.builtin "all") (rDn X.K (g1 xN)):=nX fun pins s σ H x u Q O d z I ru np hd hg G=>by
 cases d with
 |lst l=>
  obtain⟨bs,hb,rfl⟩:=iP hg;obtain⟨p,xs,rfl,q,r⟩:=jL hd;cases ru;obtain⟨b6,v,pl,_⟩:=I.list q;have are:=rk hb r v;have hh:X.A.in1.handled=none:=I.ok.hd hc;have fv:p<s.heap.objs.size:=by obtain⟨_,e,_⟩:=pl.isList;exact iu e
  refine call_all_walk (yz pl.isList ⟨s.heap.objs.size,[s.heap.objs.size,p],[s.heap.objs.size],b6.toArray.size,_,_,fun i=>(bs[i]?).getD true,rfl,Walks.list hh _ p (iL fv) b6.toArray,
   ⟨⟨_,jG _ rfl,rfl,rfl⟩,pl.isList.push _⟩,fun i w s' Q' E' hP hQ=>?_,fun h' tk hk=>?_⟩)
  ·obtain⟨b,e,rfl⟩:=are.get i w (by simpa using hP);dsimp only at hQ;rw[e] at hQ;exact uT hQ
  ·rw[iD,are.length,LSm.range_all];exact⟨.bl _,H,I.kept (vw hk),rfl,G.bl⟩
 |_=>cases hg
theorem Bf(hc:X.calm=true):jB X (.builtin "any") (rDn X.K (g1 Gv)):=nX fun pins s σ H x u Q O d z I ru np hd hg G=>by
 cases d with
 |lst l=>
  obtain⟨bs,hb,rfl⟩:=iP hg;obtain⟨p,xs,rfl,q,r⟩:=jL hd;cases ru;obtain⟨b6,v,pl,_⟩:=I.list q;have are:=rk hb r v;have hh:X.A.in1.handled=none:=I.ok.hd hc;have fv:p<s.heap.objs.size:=by obtain⟨_,e,_⟩:=pl.isList;exact iu e
  refine call_any_walk (yz pl.isList ⟨s.heap.objs.size,[s.heap.objs.size,p],[s.heap.objs.size],b6.toArray.size,_,_,fun i=>(bs[i]?).getD false,rfl,Walks.list hh _ p (iL fv) b6.toArray,
   ⟨⟨_,jG _ rfl,rfl,rfl⟩,pl.isList.push _⟩,fun i w s' Q' E' hP hQ=>?_,fun h' tk hk=>?_⟩)
  ·obtain⟨b,e,rfl⟩:=are.get i w (by simpa using hP);dsimp only at hQ;rw[e] at hQ;exact uT hQ
  ·rw[iD,are.length,LSm.range_any];exact⟨.bl _,H,I.kept (vw hk),rfl,G.bl⟩
 |_=>cases hg
noncomputable def Me:=gI fun i j=>some (.int (if j>i then j else i))
noncomputable def Md:=gI fun i j=>some (.int (if j<i then j else i))
theorem GH(hc:X.calm=true):jB X (.builtin "max") (rDn X.K (g2 Me)):=Mt fun pins s σ H x y us Q O d e z I r np h1 h2 hg G=>by
 obtain⟨i,j,w,rfl,rfl,hf,rfl⟩:=yh hg;cases hf;exact Jn hc pins s σ H [x,y] us Q I r ⟨i,j,by rw[ic h1,ic h2],G.int⟩
theorem GG(hc:X.calm=true):jB X (.builtin "min") (rDn X.K (g2 Md)):=Mt fun pins s σ H x y us Q O d e z I r np h1 h2 hg G=>by
 obtain⟨i,j,w,rfl,rfl,hf,rfl⟩:=yh hg;cases hf;exact Jm hc pins s σ H [x,y] us Q I r ⟨i,j,by rw[ic h1,ic h2],G.int⟩
theorem yR{lo:Int}{n:Nat}{acc:kz}(h:ItemsOf (fun i v=> ∃t,v= .int (lo+(i:Int)*1) t) acc n):Vals ((List.range n).map fun(k:Nat)=>V.int (lo+k)) acc.toList:=by
 have key: ∀(l:iV) (m:Nat),(∀(j:Nat) v,l[j]?=some v-> ∃t,v= .int (lo+((m+j:Nat):Int)) t)->Vals ((List.range' m l.length).map fun(k:Nat)=>V.int (lo+k)) l:=by
  intro l
  induction l with
  |nil=>intro m _;exact .nil
  |cons v l ih=>
   intro m hv;obtain⟨t,e⟩:=hv 0 v rfl;refine .cons ⟨t,by simpa using e⟩ (ih (m+1) fun j w hw=>?_);obtain⟨t',e'⟩:=hv (j+1) w (by simpa using hw);exact⟨t',by rw[e'];congr 2;first|done|omega⟩
 have:=key acc.toList 0 fun j v hv=>by
  obtain⟨t,e⟩:=h.2 j v (by simpa using hv);exact⟨t,by rw[e];congr 1⟩
 rw[jr,h.1,<-List.range_eq_range'] at this;exact this
theorem FX{K H}(lo:Int)(n:Nat):RepL K H O (ik lo n) ((List.range n).map fun(k:Nat)=>V.int (lo+k)):=by
 unfold ik
 induction(List.range n) with
 |nil=>exact RepL.nil
 |cons k l ih=>exact RepL.cons Rep.mkInt ih
end
def RgOk(lo hi:Int):Prop:= -(2^62)<=lo/\lo<2^62/\ -(2^62)<=hi/\hi<2^62/\(hi-lo).toNat<=2^24
instance(lo hi:Int):Decidable (RgOk lo hi):=by unfold RgOk;infer_instance
noncomputable def rgV(lo hi:Int):List V:=(List.range (hi-lo).toNat).map fun(k:Nat)=>V.int (lo+k)
theorem RgOk.small{lo hi:Int}(h:RgOk lo hi):Builtin.Range.small lo hi 1=true:=small_one h.1 h.2.1 h.2.2.1 h.2.2.2.1
theorem Hl(lo hi:Int):Builtin.Range.rangeSize lo hi 1=((hi-lo).toNat:Nat):=by rw[rangeSize_one];split<;>omega
section
variable {prog:hW}{w:gU}{A:gZ}{E:il}{s:gC}
theorem GF{Q:List Value->Shared->Prop}{r:gz}{lo hi:Int}{t u v:Tok}(hh:A.handled=none)(hr:IsRange s.heap r lo hi 1 t u v)(ok:RgOk lo hi)
  (hQ: ∀(h':hV) tk (acc:kz),(∀b o,s.heap.get? b=some o->h'.get? b=some o)->ItemsOf (fun i v=> ∃t,v= .int (lo+(i:Int)*1) t) acc (hi-lo).toNat->Q acc.toList {s with heap:=h',toks:=tk}):
  wpAny (model prog w) A (collect (.ref r)) Q E s:=by
 unfold collect;refine gx (BO (qr F.entry_proto_collect ?_));rw[sM F.plain_proto_collect _];refine gx (m:=newList []) (mn ?_);refine gO ⟨qy F.plain_list_iadd _,qr F.entry_list_iadd ?_⟩;rw[sM F.plain_list_iadd _];have e0:=jG s.heap (o:=({cls:= .type "list",data:= .seq ([]:List Value).toArray}:Obj)) rfl
 let R:Result->Shared->Prop:=fun r s'=> ∃(h':hV) (tk:Nat) (acc:kz) (c':Nat),r= .ok (.ret (.ref s.heap.objs.size))/\s'={s with heap:=h',toks:=tk}/\(∀b o,s.heap.get? b=some o->h'.get? b=some o)/\
  h'.get? s.heap.objs.size=some {cls:= .type "list",dict:=none,data:= .seq acc c',slots:= #[]}/\ItemsOf (fun i v=> ∃t,v= .int (lo+(i:Int)*1) t) acc (hi-lo).toNat
 have fin: ∀{r s'},R r s'-> ∃v,r= .ok (.ret v)/\wpAny (model prog w) A (match v with
   |Value.ref a=>do
    match(<-load a).data with
     |Data.seq xs _=>pure xs.toList
     |_=>unsupported "internal:collect"
   |_=>unsupported "internal:collect") Q E s':=fun {r s'} hR=>by
  obtain⟨h',tk,acc,c',rfl,rfl,hk,bp,r6⟩:=hR;exact⟨_,rfl,gx (m:=load s.heap.objs.size) (wy bp (gO (hQ h' tk acc hk r6)))⟩
 refine qa (wpAny_extend_range (A:=A) (R:=R) (s:={s with heap:=s.heap.push {cls:= .type "list",data:= .seq ([]:List Value).toArray}}) hh (iF _ hr) ok.small (Hl lo hi) ok.2.2.2.2 _ _ 0 e0 fun h' tk h9 c' hk bp r6=>
  ⟨h',tk,h9,c',rfl,rfl,fun b o e=>hk b o (iL (iu e)) (iF _ e),bp,r6⟩) (fun f s' h=>?_) (fun e s' h=>?_)
 ·cases f with
  |done f=>
   obtain⟨v,hv,h2⟩:=fin h;cases hv;exact h2
  |again c'=>exact⟨h.1,qE h.2 fun r bV hr=>by obtain⟨v,rfl,h2⟩:=fin hr;exact h2⟩
 ·obtain⟨v,hv,_⟩:=fin h;cases hv
theorem B9{Q₁:il}{r:gz}{lo hi:Int}{t u v:Tok}(hh:A.handled=none)(hr:IsRange s.heap r lo hi 1 t u v)(ok:RgOk lo hi)
  (h: ∀(h':hV) tk (acc:kz),(∀b o,s.heap.get? b=some o->h'.get? b=some o)->ItemsOf (fun i v=> ∃t,v= .int (lo+(i:Int)*1) t) acc (hi-lo).toNat->Q₁ (.ref h'.objs.size) {s with heap:=h'.push {cls:= .type "tuple",data:= .seq acc},toks:=tk}):
  codeAny (model prog w) A (.call (.builtin "tuple.__new__") ⟨[.type "tuple",.ref r],[]⟩) (wants Q₁ E) s:=by
 refine yu ?_;refine gx (m:=checkBuiltinCall "tuple.__new__" _) (pX (F.newCall_tuple_1 _) (gO ⟨qy F.plain_tuple_new _,qr F.entry_tuple_new ?_⟩));rw[sM F.plain_tuple_new _];have aA:=sub_tuple_self;have hinit:=init_tuple_lookup;have hmh:=madeHere_tuple;have u5:s.TypeIs (.ref r) "range":=⟨_,hr,rfl⟩
 have hh1:A.in1.handled=none:=hh
 wp_walk using uS u5,GF hh1 hr ok
 intro h' tk acc hk r6;have hz:acc.size<=sizeLine:=by rw[r6.1,iQ];have:=ok.2.2.2.2;omega
 refine gx (m:=Builtin.Tuple.tupleExact acc.toList.toArray) ?_;unfold Builtin.Tuple.tupleExact;refine mn ?_ (by show acc.toList.toArray.size<=sizeLine;simpa using hz);refine gO ?_;have e:acc.toList.toArray=acc:=by simp
 rw[e];exact h h' tk acc hk r6
theorem As{Q:il}{r:gz}{lo hi:Int}{t u v:Tok}(hh:A.handled=none)(hr:IsRange s.heap r lo hi 1 t u v)(ok:RgOk lo hi)
  (h: ∀(h':hV) tk (acc:kz),(∀b o,s.heap.get? b=some o->h'.get? b=some o)->ItemsOf (fun i v=> ∃t,v= .int (lo+(i:Int)*1) t) acc (hi-lo).toNat->Q (.ref h'.objs.size) {s with heap:=h'.push {cls:= .type "tuple",data:= .seq acc},toks:=tk}):
  wpAny (model prog w) A (call (.type "tuple") [.ref r]) Q E s:=by
 refine callType_codes (Q₁:=fun obj s₁=>s₁.TypeIs obj "tuple"/\Q obj s₁) MT (F.typeCall_tuple_1 _) F.entry_object_init
  (B9 hh hr ok fun h' tk acc hm r6=>⟨⟨_,jG _ rfl,rfl⟩,h h' tk acc hm r6⟩) fun obj s₁ h₁=>?_
 exact⟨h₁.1,F.args_object_init_2 obj _,object_init_meets MT.init.lookup MT.made (by decide) prog w A.in1 _ s₁ ⟨h₁.1,rfl,h₁.2⟩⟩
end
section
variable {X:Cx}
theorem Bb:jB X (.type "range") (fun xs H Q=> ∃i j,xs=[.int i,.int j]/\ ∀r,H r=none->Q (.ref r) (upd H r (.rng i j))):=by
 intro pins s σ H xs us Q I r h;obtain⟨i,j,rfl,h⟩:=h;obtain⟨u,u',rfl,⟨t,rfl⟩,⟨t',rfl⟩⟩:=Dm r;exact call_range_2 ⟨.ref _,_,I.laid (o:= .rng i j) (fun b o e=>iF _ e) (ir _) ⟨_,_,_,jG _ rfl⟩,rfl,h _ I.fresh⟩
theorem Au(hc:X.calm=true):jB X (.type "list") (fun xs H Q=> ∃r lo hi,xs=[.ref r]/\H r=some (.rng lo hi)/\RgOk lo hi/\ ∀l,H l=none->Q (.ref l) (upd H l (.lst (rgV lo hi)))):=by
 intro pins s σ H xs us Q I fm h;obtain⟨r,lo,hi,rfl,hr,ok,h⟩:=h;obtain⟨u,rfl,ru⟩:=uX fm;cases ru;obtain⟨t,u,v,er⟩:=I.hok r _ hr;refine call_list_range (A:=X.A) (I.ok.hd hc) er ok.small (Hl lo hi) ok.2.2.2.2 fun h' tk acc c kp e items=>?_;have rv:=yR items;refine⟨.ref _,_,I.laid kp (ir _) (show ObjOk X.prog X.w _ _ _ (.lst (rgV lo hi)) from⟨?_,acc.toList,c,rv,by simpa using e⟩),rfl,h _ I.fresh⟩;have:=ok.2.2.2.2;simp only[rgV,jj,List.length_range,iQ];omega
theorem zL(hc:X.calm=true):jB X (.type "tuple") (fun xs H Q=> ∃r lo hi,xs=[.ref r]/\H r=some (.rng lo hi)/\RgOk lo hi/\ ∀l,H l=none->Q (.ref l) (upd H l (.tup (rgV lo hi)))):=by
 intro pins s σ H xs us Q I fm h;obtain⟨r,lo,hi,rfl,hr,ok,h⟩:=h;obtain⟨u,rfl,ru⟩:=uX fm;cases ru;obtain⟨t,u,v,er⟩:=I.hok r _ hr;refine As (A:=X.A) (I.ok.hd hc) er ok fun h' tk acc kp items=>?_;have rv:=yR items;have I1:Inv X pins σ H {s with heap:=h',toks:=tk}:=I.kept kp;refine⟨.ref _,_,I1.laid (fun b o e=>iF _ e) (ir _) (show ObjOk X.prog X.w _ _ _ (.tup (rgV lo hi)) from⟨?_,acc.toList,rv,by have:=BV h' acc;simpa using this⟩),rfl,h _ I1.fresh⟩;have:=ok.2.2.2.2;simp only[rgV,jj,List.length_range,iQ];omega
noncomputable def gRg(mk:List D->D)(o:Bool):List D->Option (D×Bool)
 |[.int j]=>if RgOk 0 j then some (mk (ik 0 j.toNat),o) else none
 |[.int i,.int j]=>if RgOk i j then some (mk (ik i (j-i).toNat),o) else none
 |_=>none
theorem Hm{K H}(lo hi:Int):RepL K H O (ik lo (hi-lo).toNat) (rgV lo hi):=FX lo _
variable {a b:gR}{fa fb:FO}{p p2 pos bJ:Pos}
theorem Dq(h:upd H r o l=none):H l=none:=by
 by_cases e:l=r
 ·subst e;rw[iG] at h;cases h
 ·rwa [iI e] at h
theorem Bk{K:hG}{T T':AP'}{σ:L2.St}{δ δ':Dn}{H H':Hp}{os:List Opd}{vs:List V}{ds:List D}(B:Ops K T σ δ H os vs δ' H' T')(h:um δ' os=some ds){is:gY}(hd:ds=is.map .int):vs=is.map .int:=by
 obtain⟨h1,h2⟩:=my h;apply BP;intro j;by_cases hj:j<is.length
 ·rw[rB B h (j:=j) (i:=is[j]) (by rw[hd];simp[hj])];simp[hj]
 ·have l1:=B.len;subst hd;simp at h1;rw[BN (by omega),BN (by simp;omega)]
theorem P9{T:String}{z:Str}{mk:List D->D}{o:Bool}(hT:(T="list"/\mk= .lst/\o=true)\/(T="tuple"/\mk= .tup/\o=false))(hc:X.calm=true)(hg:Gl X z)(hm:X.mg z=none)(hv:bootBuiltins z=some (.type T))(hn:z≠"__name__")(p9:(z==("__debug__":Str))=false)
  (dt:Gl X "range")(bP:X.mg "range"=none)(ha:PA X [a,b] (tA X.K [fa,fb]))
  (s1:starEach [.Call (.Name "range" p2) [a,b] [] bJ] X.env=(false,eval (.Call (.Name "range" p2) [a,b] [] bJ) X.env)::starEach [] X.env)(s2:starEach [a,b] X.env=(false,eval a X.env)::starEach [b] X.env)
  (j7:(backTo pos (starEach [] X.env)).any (·.1)=false)(bO:(backTo bJ (starEach [b] X.env)).any (·.1)=false):
  PX X (.Call (.Name z p) [.Call (.Name "range" p2) [a,b] [] bJ] [] pos) (gP (gRg mk o) [fa,fb]):=by
 have len2: ∀{δ δ1:Dn} {os:List Opd},jl [fa,fb] δ=some (os,δ1)->os.length=2:=fun {δ δ1 os} h1=>by
  unfold jl at h1;obtain⟨p,q1,h1⟩:=gv h1;obtain⟨q,q2,h1⟩:=gv h1;unfold jl at q2;obtain⟨p3,q3,q2⟩:=gv q2;obtain⟨q4,q5,q2⟩:=gv q2;unfold jl at q5;cases q5;obtain⟨rfl,rfl⟩:=hC h1;cases q2;rfl
 rcases hT with⟨rfl,rfl,rfl⟩|⟨rfl,rfl,rfl⟩
 ·refine PX.imp (pe (Au hc) hg hm hv (oA (pe Bb dt bP BZ ha (by decide) (by decide) s2 bO) ur s1) hn p9 s1 j7) fun σ H Q hw=>?_;obtain⟨δ,T,rr,δ',E,e,k⟩:=hw;obtain⟨⟨os,δ1⟩,h1,e⟩:=gv e;obtain⟨ds,h2,e⟩:=gv e;obtain⟨zz,h3,e⟩:=gv e;obtain⟨rfl,rfl⟩:=hC e;refine⟨δ,T,os,δ1,E,h1,fun vs H1 T1 B=>?_⟩;unfold gRg at h3;split at h3
  ·obtain⟨hl,_⟩:=my h2;have:=len2 h1;simp at hl;omega
  ·rename_i i j;obtain⟨ok,rfl⟩:=ip h3;refine⟨i,j,Bk B h2 (is:=[i,j]) rfl,fun r hr=>⟨r,i,j,rfl,iG,ok,fun l hl=>?_⟩⟩;have hx: ∀a u,H1 a=some u->upd (upd H1 r (.rng i j)) l (.lst (rgV i j)) a=some u:=fun a u e=>kP hl a u (kP hr a u e);exact(B.done k) l _ (Dq hl) hx ⟨rgV i j,iG,Hm i j⟩
  ·cases h3
 ·refine PX.imp (pe (zL hc) hg hm hv (oA (pe Bb dt bP BZ ha (by decide) (by decide) s2 bO) ur s1) hn p9 s1 j7) fun σ H Q hw=>?_;obtain⟨δ,T,rr,δ',E,e,k⟩:=hw;obtain⟨⟨os,δ1⟩,h1,e⟩:=gv e;obtain⟨ds,h2,e⟩:=gv e;obtain⟨zz,h3,e⟩:=gv e;obtain⟨rfl,rfl⟩:=hC e;refine⟨δ,T,os,δ1,E,h1,fun vs H1 T1 B=>?_⟩;unfold gRg at h3;split at h3
  ·obtain⟨hl,_⟩:=my h2;have:=len2 h1;simp at hl;omega
  ·rename_i i j;obtain⟨ok,rfl⟩:=ip h3;refine⟨i,j,Bk B h2 (is:=[i,j]) rfl,fun r hr=>⟨r,i,j,rfl,iG,ok,fun l hl=>?_⟩⟩;have hx: ∀a u,H1 a=some u->upd (upd H1 r (.rng i j)) l (.tup (rgV i j)) a=some u:=fun a u e=>kP hl a u (kP hr a u e);exact(B.done k) _ _ hx (Rep.mkTup ⟨iG,B.np (Dq hl)⟩ (Hm i j))
  ·cases h3
end
def Src(h:hV)(it l:gz)(i:Nat)(xs:kz):Prop:=(h.IsListIter it l i/\h.IsList l xs)\/(h.IsTupleIter it l i/\h.IsTuple l xs)
section
variable {prog:hW}{w:gU}{A:gZ}{E:il}{s:gC}{it l:gz}{i:Nat}{xs:kz}
theorem Src.ne(x:Src h it l i xs):l≠it:=by
 intro e;subst e;rcases x with⟨⟨o,h1,h2,h3⟩,o',g1,g2,n,g3⟩|⟨⟨o,h1,h2,h3⟩,o',g1,g2,n,g3⟩<;>(rw[h1] at g1;cases g1;rw[h3] at g3;cases g3)
theorem Src.lt(x:Src h it l i xs):it<h.objs.size/\l<h.objs.size:=by
 rcases x with⟨⟨o,h1,_⟩,o',g1,_⟩|⟨⟨o,h1,_⟩,o',g1,_⟩<;>exact⟨iu h1,iu g1⟩
theorem Src.keep(x:Src h it l i xs)(k1: ∀o,h.get? it=some o->h'.get? it=some o)(k2: ∀o,h.get? l=some o->h'.get? l=some o):Src h' it l i xs:=by
 rcases x with⟨⟨o,h1,r⟩,o',g1,r'⟩|⟨⟨o,h1,r⟩,o',g1,r'⟩
 ·exact .inl ⟨⟨o,k1 _ h1,r⟩,o',k2 _ g1,r'⟩
 ·exact .inr ⟨⟨o,k1 _ h1,r⟩,o',k2 _ g1,r'⟩
theorem yI{x:gQ}{Q:il}(hit:s.heap.IsTupleIter it l i)(hl:s.heap.IsTuple l xs)(hx:xs[i]?=some x)
  (hQ: ∀h',h'.IsTupleIter it l (i+1)->Heap.SameBut it s.heap h'->Q x {s with heap:=h'}):wpAny (model prog w) A (Builtin.SmallTypes.nextOf (.ref it)) Q E s:=by
 obtain⟨o,ho,hc,hd⟩:=id hit;obtain⟨ol,dg,_,nl,av⟩:=hl;unfold Builtin.SmallTypes.nextOf;refine gx (sU (name:=Str.ofString "__next__") hit.typeIs BM (nD BM hit.typeIs JT ?_ (JS _)));refine gx (m:=field (.ref it) 0) (nE ho hd (x:= .ref l) rfl ?_);show wpAny _ _ (if(Value.ref l==Value.none)=true then _ else _) _ _ s;rw[gJ (by show ¬(Value.ref l==Value.none)=true;exact jk)];refine gx (m:=field (.ref it) 1) (nE ho hd (x:= .int i 0) rfl ?_);refine gx (m:=seqItems? (.ref l)) (qq dg av ?_);simp only[qt,hx];refine gx (ua ho hd (by simp) (gO ⟨x,rfl,gO (hQ _ ⟨_,sQ _ ho (BL (sL hd _)),(BK ..).trans hc,?_⟩ (uM ..))⟩));rw[sL hd];simp[rawInt]
theorem Ad{Q:il}(hh:A.handled=none)(hit:s.heap.IsTupleIter it l i)(hl:s.heap.IsTuple l xs)(hx:xs[i]?=none)
  (hE: ∀h' e,Heap.ExtBut it s.heap h'->(∃o,h'.get? e=some o/\o.cls= .type "StopIteration")->E (.ref e) {s with heap:=h'}):wpAny (model prog w) A (Builtin.SmallTypes.nextOf (.ref it)) Q E s:=by
 obtain⟨o,ho,hc,hd⟩:=id hit;obtain⟨ol,dg,_,nl,av⟩:=hl;unfold Builtin.SmallTypes.nextOf;refine gx (sU (name:=Str.ofString "__next__") hit.typeIs BM (nD BM hit.typeIs JT ?_ (JS _)));refine gx (m:=field (.ref it) 0) (nE ho hd (x:= .ref l) rfl ?_);show wpAny _ _ (if(Value.ref l==Value.none)=true then _ else _) _ _ s;rw[gJ (by show ¬(Value.ref l==Value.none)=true;exact jk)];refine gx (m:=field (.ref it) 1) (nE ho hd (x:= .int i 0) rfl ?_);refine gx (m:=seqItems? (.ref l)) (qq dg av ?_);simp only[qt,hx];refine gx (uQ (gx (ua ho hd (by simp) ?_)));refine gx (m:=newExc (.type "StopIteration") []) ?_;simp only[newExc,newTuple];refine gx (mn (gx (m:=firstArgMember _ _) (pX (a:=Value.none) (by first|rfl|(simp only[firstArgMember];rfl)) ?_)) (by size_fits));refine mn ?_ (by size_fits);simp only[raiseNew];refine gx (Fi ?_)
 first|rw[show A.in1.handled=none from hh]|rw[hh]
 exact gx (gO (Fh (hE _ _ (((uM ..).extBut.push _).push _) ⟨_,jG _ rfl,rfl⟩)))
theorem Src.item{x:gQ}{Q:il}(st:Src s.heap it l i xs)(hx:xs[i]?=some x)(hQ: ∀h',Src h' it l (i+1) xs->Heap.SameBut it s.heap h'->Q x {s with heap:=h'}):
  wpAny (model prog w) A (Builtin.SmallTypes.nextOf (.ref it)) Q E s:=by
 have ne:=st.ne;rcases st with⟨a,b⟩|⟨a,b⟩
 ·exact wpAny_nextOf_list_item a b hx fun h' a' sb=>hQ h' (.inl ⟨a',b.extBut sb.extBut ne⟩) sb
 ·exact yI a b hx fun h' a' sb=>hQ h' (.inr ⟨a',b.extBut sb.extBut ne⟩) sb
theorem Src.stop{Q:il}(hh:A.handled=none)(st:Src s.heap it l i xs)(hx:xs[i]?=none)
  (hE: ∀h' e,Heap.ExtBut it s.heap h'->(∃o,h'.get? e=some o/\o.cls= .type "StopIteration")->E (.ref e) {s with heap:=h'}):wpAny (model prog w) A (Builtin.SmallTypes.nextOf (.ref it)) Q E s:=by
 rcases st with⟨a,b⟩|⟨a,b⟩
 ·exact wpAny_nextOf_list_end hh a b hx hE
 ·exact Ad hh a b hx hE
theorem Src.new(hl:s.heap.IsList l xs\/s.heap.IsTuple l xs)(hQ: ∀h',Src h' s.heap.objs.size l 0 xs->h'.objs.size=s.heap.objs.size+1->(∀b o,s.heap.get? b=some o->h'.get? b=some o)->Q (.ref s.heap.objs.size) {s with heap:=h'}):
  wpAny (model prog w) A (pyIter (.ref l)) Q E s:=by
 rcases hl with hl|hl
 ·exact yz hl (hQ _ (.inl ⟨⟨_,jG _ rfl,rfl,rfl⟩,hl.push _⟩) (uP ..) fun b o e=>iF _ e)
 ·exact Fv hl (hQ _ (.inr ⟨⟨_,jG _ rfl,rfl,rfl⟩,hl.push _⟩) (uP ..) fun b o e=>iF _ e)
end
section
variable {prog:hW}{w:gU}{A:gZ}{E:il}{s:gC}{e it l:gz}{i:Nat}{c:Int}{xs:kz}
end
section
variable {X:Cx}{pins:iq}{σ:L2.St}{H:Hp}{s:gC}{h':hV}
theorem Ih{t':Nat}{ch:jW}{a:gz}{o:HO}(I:Inv X pins σ H s)(hf: ∀b∈ch,rm X pins H b)(k: ∀b u,b∉ch->s.heap.get? b=some u->h'.get? b=some u)(ha:s.heap.objs.size<=a)(new:ObjOk X.prog X.w (upd H a o) h' a o):
  Inv X pins σ (upd H a o) {s with heap:=h',toks:=t'}:=by
 have hn:=I.hok.fresh ha;have aV: ∀b u,H b=some u->b∉ch:=fun b u e z=>by have:=(hf b z).1;rw[this] at e;cases e
 have up: ∀b u,H b=some u->upd H a o b=some u:=fun b u e=>by rw[iI (lR e hn)];exact e
 have fr: ∀b u,s.heap.get? b=some u->H b=none->upd H a o b=none:=fun b u e n=>by
  rw[iI (fun z=>by subst z;exact absurd (iu e) (Nat.not_lt.mpr ha))];exact n
 refine I.step (g':=s.gens) (d':=s.drawn) (ch:=ch) (fun b hb=>?_) (fun b u _ _ hc e _=>k b u hc e) (fun b u _ _ hc e _=>⟨u.slots,k b u hc e⟩) (fun b u _ e n=>fr b u e n)
  (fun b u hc e=>⟨u,k b u hc e⟩) (fun b xs e=>up b _ e) (fun b _ _ e=>up b _ e) (fun b ps e=>⟨#[],by rw[up b _ e];simp⟩) (fun m hm=>?_) (fun b u e=>?_) I.bare
 ·obtain⟨_,f1,f2,f3,f4,f5⟩:=hf b hb;exact⟨f3,f1,f4,f5⟩
 ·obtain⟨u,es,ep,ho,r⟩:=hm;exact⟨u,es,ep,k _ u (fun z=>(hf _ z).2.1 rfl) ho,r⟩
 ·by_cases hb:b=a
  ·subst hb;rw[iG] at e;cases e;exact new
  ·rw[iI hb] at e;refine(I.hok b u e).stay (fun c v hc q=>k c v ?_ q) (fun c q=>up c _ q) fun c xs q=>up c _ q;rcases hc with z|z
   ·rw[z];exact aV b u e
   ·exact aV c _ z
theorem Ii{t':Nat}{ch:jW}(I:Inv X pins σ H s)(hf: ∀b∈ch,rm X pins H b)(k: ∀b u,b∉ch->s.heap.get? b=some u->h'.get? b=some u):Inv X pins σ H {s with heap:=h',toks:=t'}:=by
 have aV: ∀b u,H b=some u->b∉ch:=fun b u e z=>by have:=(hf b z).1;rw[this] at e;cases e
 refine I.step (g':=s.gens) (d':=s.drawn) (ch:=ch) (fun b hb=>?_) (fun b u _ _ hc e _=>k b u hc e) (fun b u _ _ hc e _=>⟨u.slots,k b u hc e⟩) (fun b u _ e n=>n)
  (fun b u hc e=>⟨u,k b u hc e⟩) (fun b xs e=>e) (fun b _ _ e=>e) (fun b ps e=>⟨#[],by rw[e];simp⟩) (fun m hm=>?_) (fun b u e=>?_) I.bare
 ·obtain⟨_,f1,f2,f3,f4,f5⟩:=hf b hb;exact⟨f3,f1,f4,f5⟩
 ·obtain⟨u,es,ep,ho,r⟩:=hm;exact⟨u,es,ep,k _ u (fun z=>(hf _ z).2.1 rfl) ho,r⟩
 ·refine(I.hok b u e).stay (fun c v hc q=>k c v ?_ q) (fun c q=>q) fun c xs q=>q;rcases hc with z|z
  ·rw[z];exact aV b u e
  ·exact aV c _ z
end
def SqX(b:Bool)(K:hG)(H:Hp)(l:gz)(xs:List V):Prop:=if b=true then SqL K H l xs else SqT K H l xs
def ItX(b:Bool)(h:hV)(it l:gz)(i:Nat):Prop:=if b=true then h.IsListIter it l i else h.IsTupleIter it l i
theorem ItX.keep(x:ItX b h it l i)(k: ∀o,h.get? it=some o->h'.get? it=some o):ItX b h' it l i:=by
 cases b
 ·exact PySem.Heap.IsTupleIter.at (show h.IsTupleIter it l i from x) k
 ·exact PySem.Heap.IsListIter.at (show h.IsListIter it l i from x) k
theorem ItX.obj(x:ItX b h it l i): ∃o,h.get? it=some o/\ ∀v,o.data≠ .cell v:=by
 cases b<;>(obtain⟨o,e,c,d⟩:=x;exact⟨o,e,fun v z=>by rw[d] at z;cases z⟩)
section
variable {X:Cx}{pins:iq}{σ:L2.St}{H:Hp}{s:gC}
theorem xZ(I:Inv X pins σ H s)(q:SqX b X.K H l xs)(t:ItX b s.heap it l i): ∃b6,Vals xs b6/\Src s.heap it l i b6.toArray:=by
 cases b with
 |true=>obtain⟨b6,v,p,_⟩:=I.list q;exact⟨b6,v,.inl ⟨t,p.isList⟩⟩
 |false=>obtain⟨b6,v,p,_⟩:=I.tuple q;exact⟨b6,v,.inr ⟨t,p⟩⟩
theorem Hf(I:Inv X pins σ H s)(q:SqX b X.K H l xs)(q':SqX b X.K H l ys):xs=ys:=by
 cases b with
 |true=>exact I.list_inj q q'
 |false=>exact I.tuple_inj q q'
theorem L7(t:ItX b h it l i)(hs:Src h it l i xs)(aJ:Src h' it l i' xs)(kl: ∀o,h.get? l=some o->h'.get? l=some o):ItX b h' it l i':=by
 cases b with
 |true=>
  rcases aJ with⟨a,_⟩|⟨a,c⟩
  ·exact a
  ·rcases hs with⟨_,o,h1,h2,_⟩|⟨⟨o,h1,h2,_⟩,_⟩
   ·obtain⟨o',g1,g2,_⟩:=c;rw[kl _ h1] at g1;cases g1;rw[h2] at g2;injection g2 with g2;exact absurd g2 (by decide)
   ·obtain⟨o',g1,g2,_⟩:=t;rw[h1] at g1;cases g1;rw[h2] at g2;injection g2 with g2;exact absurd g2 (by decide)
 |false=>
  rcases aJ with⟨a,c⟩|⟨a,_⟩
  ·rcases hs with⟨⟨o,h1,h2,_⟩,_⟩|⟨_,o,h1,h2,_⟩
   ·obtain⟨o',g1,g2,_⟩:=t;rw[h1] at g1;cases g1;rw[h2] at g2;injection g2 with g2;exact absurd g2 (by decide)
   ·obtain⟨o',g1,g2,_⟩:=c;rw[kl _ h1] at g1;cases g1;rw[h2] at g2;injection g2 with g2;exact absurd g2 (by decide)
  ·exact a
end
theorem FH{K H}(q:SqA b K H P a xs):SqX b K H a xs:=by
 cases b with
 |true=>exact q.l
 |false=>exact q.t
open AutoSeq1 (wpAny_loadPart')
section
variable {prog:hW}{w:gU}{A:gZ}{E:il}{s:gC}
end
section
variable {X:Cx}{pins:iq}{σ:L2.St}{H:Hp}{s:gC}{elts:jF}{k1:Nat}{aa:Pos}
theorem Kw(I:Inv X pins σ H s)(q:SqX b X.K H l xs): ∃b6,Vals xs b6/\(s.heap.IsList l b6.toArray\/s.heap.IsTuple l b6.toArray):=by
 cases b with
 |true=>obtain⟨b6,v,p,_⟩:=I.list q;exact⟨b6,v,.inl p.isList⟩
 |false=>obtain⟨b6,v,p,_⟩:=I.tuple q;exact⟨b6,v,.inr p⟩
end
section
variable {prog:hW}{w:gU}{A:gZ}{E:il}{s:gC}{z TI TO i1 i2 l1 l2:gz}{k:Nat}{xs ys:kz}{x y a b:gQ}
theorem Ka{Q:il}(D:ZipApart z TI TO i1 i2 l1 l2)(hz:IsZip s.heap z TI TO .none)(u5:IsPair s.heap TI (.ref i1) (.ref i2))(w9:IsPair s.heap TO a b)(h1:Src s.heap i1 l1 k xs)(h2:Src s.heap i2 l2 k ys)(hx:xs[k]?=some x)(hy:ys[k]?=some y)
  (hQ: ∀h',IsZip h' z TI TO (rawInt s.heap.objs.size)->IsPair h' TO x y->Src h' i1 l1 (k+1) xs->Src h' i2 l2 (k+1) ys->IsPair h' s.heap.objs.size x y->(∀c o,c≠z->c≠TO->c≠i1->c≠i2->s.heap.get? c=some o->h'.get? c=some o)->Q (.ref s.heap.objs.size) {s with heap:=h'}):
  wpAny (model prog w) A (Builtin.«zip.__next__» ⟨[.ref z],[]⟩) (fun fin s'=> ∃v,fin= .done (.ret v)/\Q v s') E s:=by
 refine gx (m:=field (.ref z) 2) (nE hz rfl (x:= .bool false) rfl (gx (m:=field (.ref z) 3) (nE hz rfl (x:= .ref TI) rfl (gx (qq u5 rfl (gx (m:=Builtin.SmallTypes.ownedTupleIsFree (.ref z)) ?_))))));unfold Builtin.SmallTypes.ownedTupleIsFree;refine gx (nE hz rfl (x:= .none) rfl (gO ?_));simp only[iE];refine gx (uQ (gx (nE hz rfl (x:= .ref TO) rfl (gx (wj hz (by simp) fun h₁ bX ah=>?_)))));replace bX:IsZip h₁ z TI TO .ellipsis:=bX;refine gx ?_;simp only[List.zipIdx_cons,List.zipIdx_nil,yv,List.forIn_nil];have c1:Src h₁ i1 l1 k xs:=h1.keep (fun o e=>ah.extBut _ o D.i1z e) (fun o e=>ah.extBut _ o D.l1z e);refine gx (gx (yt (gx (m:=Builtin.SmallTypes.nextOf (.ref i1)) (c1.item (s:={s with heap:=h₁}) hx fun h₂ c1₂ ag=>gO ?_))));have bo:IsPair h₂ TO a b:=ag.extBut _ _ D.TOi1 (ah.extBut _ _ D.TOz w9);refine gx (qq (s:={s with heap:=h₂}) bo rfl (gx (Fg (s:={s with heap:=h₂}) bo fun h₃ bT af=>gx (Ff (gO ?_)))));replace bT:IsPair h₃ TO x b:=bT;have c2:Src h₃ i2 l2 k ys:=h2.keep (fun o e=>af.extBut _ o D.TOi2.symm (ag.extBut _ o D.i12.symm (ah.extBut _ o D.i2z e))) (fun o e=>af.extBut _ o D.l2TO (ag.extBut _ o D.l2i1 (ah.extBut _ o D.l2z e)));refine gx (gx (yt (gx (m:=Builtin.SmallTypes.nextOf (.ref i2)) (c2.item (s:={s with heap:=h₃}) hy fun h₄ c2₄ bI=>gO ?_))));have hTO₄:IsPair h₄ TO x b:=bI.extBut _ _ D.TOi2 bT;refine gx (qq (s:={s with heap:=h₄}) hTO₄ rfl (gx (Fg (s:={s with heap:=h₄}) hTO₄ fun h₅ bS bw=>gx (Ff (gO (gO ?_))))));replace bS:IsPair h₅ TO x y:=bS;refine gx (qq (s:={s with heap:=h₅}) bS rfl (gx (wpAny_newTuple (s:={s with heap:=h₅}) ?_)));have hsz:h₅.objs.size=s.heap.objs.size:=by rw[bw.1,bI.1,af.1,ag.1,ah.1]
 have hz₅:IsZip h₅ z TI TO .ellipsis:=bw.extBut _ _ D.TOz.symm (bI.extBut _ _ D.i2z.symm (af.extBut _ _ D.TOz.symm (ag.extBut _ _ D.i1z.symm bX)));have hk₅: ∀c o,c≠z->c≠TO->c≠i1->c≠i2->s.heap.get? c=some o->h₅.get? c=some o:=fun c o d1 d2 d3 d4 e=>bw.extBut _ _ d2 (bI.extBut _ _ d4 (af.extBut _ _ d2 (ag.extBut _ _ d3 (ah.extBut _ _ d1 e))));have c1₅:Src h₅ i1 l1 (k+1) xs:=c1₂.keep (fun o e=>bw.extBut _ o D.TOi1.symm (bI.extBut _ o D.i12 (af.extBut _ o D.TOi1.symm e))) (fun o e=>bw.extBut _ o D.l1TO (bI.extBut _ o D.l1i2 (af.extBut _ o D.l1TO e)));have c2₅:Src h₅ i2 l2 (k+1) ys:=c2₄.keep (fun o e=>bw.extBut _ o D.TOi2.symm e) (fun o e=>bw.extBut _ o D.l2TO e);have hzlt:z<h₅.objs.size:=iu hz₅;refine gx (m:=Builtin.SmallTypes.ownedTupleHandOut (.ref z) (.ref h₅.objs.size)) ?_;unfold Builtin.SmallTypes.ownedTupleHandOut;have hz₆:IsZip (h₅.push {cls:= .type "tuple",data:= .seq #[x,y]}) z TI TO .ellipsis:=iF _ hz₅;refine gx (wj (s:={s with heap:=h₅.push {cls:= .type "tuple",data:= .seq #[x,y]}}) hz₆ (by simp) fun h₇ fF sb₇=>?_);replace fF:IsZip h₇ z TI TO (rawInt h₅.objs.size):=fF;refine wj (s:={s with heap:=h₇}) fF (by simp) fun h₈ eL sb₈=>?_;replace eL:IsZip h₈ z TI TO (rawInt h₅.objs.size):=eL;have up: ∀c o,c≠z->h₅.get? c=some o->h₈.get? c=some o:=fun c o d1 e=>sb₈.extBut _ _ d1 (sb₇.extBut _ _ d1 (iF _ e));have hT₈:IsPair h₈ h₅.objs.size x y:=sb₈.extBut _ _ (qu hzlt) (sb₇.extBut _ _ (qu hzlt) (jG _ rfl));rw[hsz] at eL hT₈;refine gO ⟨_,rfl,?_⟩;show Q (.ref h₅.objs.size) _;rw[hsz];exact hQ h₈ eL (up _ _ D.TOz bS) (c1₅.keep (fun o e=>up _ o D.i1z e) fun o e=>up _ o D.l1z e) (c2₅.keep (fun o e=>up _ o D.i2z e) fun o e=>up _ o D.l2z e) hT₈ fun c o d1 d2 d3 d4 e=>up c o d1 (hk₅ c o d1 d2 d3 d4 e)
theorem J9{Q:Fin->Shared->Prop}(hh:A.handled=none)(D:ZipApart z TI TO i1 i2 l1 l2)(hz:IsZip s.heap z TI TO .none)(u5:IsPair s.heap TI (.ref i1) (.ref i2))(w9:IsPair s.heap TO a b)(h1:Src s.heap i1 l1 k xs)(h2:Src s.heap i2 l2 k ys)(u3:xs[k]?=none\/ys[k]?=none)
  (hE: ∀h' e,(∀c o,c≠z->c≠TO->c≠i1->c≠i2->s.heap.get? c=some o->h'.get? c=some o)->(∃o,h'.get? e=some o/\o.cls= .type "StopIteration")->E (.ref e) {s with heap:=h'}):wpAny (model prog w) A (Builtin.«zip.__next__» ⟨[.ref z],[]⟩) Q E s:=by
 have notzip: ∀{h:hV} {e:gz} {oe:Obj} {f0:gQ},IsZip h z TI TO f0->h.get? e=some oe->oe.cls= .type "StopIteration"->e≠z:=fun hzz cJ bR q=>by
  subst q;have hzz':_=_:=hzz;rw[cJ] at hzz';cases hzz';injection bR with bR;exact absurd bR (by decide)
 refine gx (m:=field (.ref z) 2) (nE hz rfl (x:= .bool false) rfl (gx (m:=field (.ref z) 3) (nE hz rfl (x:= .ref TI) rfl (gx (qq u5 rfl (gx (m:=Builtin.SmallTypes.ownedTupleIsFree (.ref z)) ?_))))));unfold Builtin.SmallTypes.ownedTupleIsFree;refine gx (nE hz rfl (x:= .none) rfl (gO ?_));simp only[iE];refine gx (uQ (gx (nE hz rfl (x:= .ref TO) rfl (gx (wj hz (by simp) fun h₁ bX ah=>?_)))));replace bX:IsZip h₁ z TI TO .ellipsis:=bX;refine gx ?_;simp only[List.zipIdx_cons,List.zipIdx_nil,yv,List.forIn_nil];have c1:Src h₁ i1 l1 k xs:=h1.keep (fun o e=>ah.extBut _ o D.i1z e) (fun o e=>ah.extBut _ o D.l1z e)
 cases hx:xs[k]? with
 |none=>
  refine gx (gx (yt (gx (m:=Builtin.SmallTypes.nextOf (.ref i1)) (c1.stop (s:={s with heap:=h₁}) hh hx fun h₂ e ag ⟨oe,cJ,bR⟩=>?_))));have hz₂:IsZip h₂ z TI TO .ellipsis:=ag _ _ D.i1z.symm bX;exact wj (s:={s with heap:=h₂}) hz₂ (by simp) fun h₃ _ af=>hE h₃ e (fun c o d1 _ d3 _ q=>af.extBut _ _ d1 (ag _ _ d3 (ah.extBut _ _ d1 q))) ⟨oe,af.extBut _ _ (notzip hz₂ cJ bR) cJ,bR⟩
 |some x=>
  have hy:ys[k]?=none:=by rcases u3 with h|h;rw[hx] at h;cases h;exact h
  refine gx (gx (yt (gx (m:=Builtin.SmallTypes.nextOf (.ref i1)) (c1.item (s:={s with heap:=h₁}) hx fun h₂ c1₂ ag=>gO ?_))));have bo:IsPair h₂ TO a b:=ag.extBut _ _ D.TOi1 (ah.extBut _ _ D.TOz w9);refine gx (qq (s:={s with heap:=h₂}) bo rfl (gx (Fg (s:={s with heap:=h₂}) bo fun h₃ bT af=>gx (Ff (gO ?_)))));have c2:Src h₃ i2 l2 k ys:=h2.keep (fun o e=>af.extBut _ o D.TOi2.symm (ag.extBut _ o D.i12.symm (ah.extBut _ o D.i2z e))) (fun o e=>af.extBut _ o D.l2TO (ag.extBut _ o D.l2i1 (ah.extBut _ o D.l2z e)));refine gx (gx (yt (gx (m:=Builtin.SmallTypes.nextOf (.ref i2)) (c2.stop (s:={s with heap:=h₃}) hh hy fun h₄ e bI ⟨oe,cJ,bR⟩=>?_))));have hz₄:IsZip h₄ z TI TO .ellipsis:=bI _ _ D.i2z.symm (af.extBut _ _ D.TOz.symm (ag.extBut _ _ D.i1z.symm bX));exact wj (s:={s with heap:=h₄}) hz₄ (by simp) fun h₅ _ bw=>hE h₅ e (fun c o d1 d2 d3 d4 q=>bw.extBut _ _ d1 (bI _ _ d4 (af.extBut _ _ d2 (ag.extBut _ _ d3 (ah.extBut _ _ d1 q))))) ⟨oe,bw.extBut _ _ (notzip hz₄ cJ bR) cJ,bR⟩
theorem F0{Q:G0}(D:ZipApart z TI TO i1 i2 l1 l2)(hz:IsZip s.heap z TI TO .none)(u5:IsPair s.heap TI (.ref i1) (.ref i2))(w9:IsPair s.heap TO a b)(h1:Src s.heap i1 l1 k xs)(h2:Src s.heap i2 l2 k ys)(hx:xs[k]?=some x)(hy:ys[k]?=some y)
  (hQ: ∀h',IsZip h' z TI TO (rawInt s.heap.objs.size)->IsPair h' TO x y->Src h' i1 l1 (k+1) xs->Src h' i2 l2 (k+1) ys->IsPair h' s.heap.objs.size x y->(∀c o,c≠z->c≠TO->c≠i1->c≠i2->s.heap.get? c=some o->h'.get? c=some o)->Q (some (.ref s.heap.objs.size)) {s with heap:=h'}):
  wpAny (model prog w) A (pyNext (.ref z)) Q E s:=by
 have hT:s.TypeIs (.ref z) "zip":=⟨_,hz,rfl⟩
 unfold pyNext
 exact gx (tZ (sU (name:=Str.ofString "__next__") hT BJ (nD BJ hT F.entry_zip_next
  (Ka D hz u5 w9 h1 h2 hx hy fun h' a1 a2 a3 a4 a5 a6=>gO (hQ h' a1 a2 a3 a4 a5 a6)) (F.args_zip_next_1 _))))
theorem yS{Q:G0}(hh:A.handled=none)(D:ZipApart z TI TO i1 i2 l1 l2)(hz:IsZip s.heap z TI TO .none)(u5:IsPair s.heap TI (.ref i1) (.ref i2))(w9:IsPair s.heap TO a b)(h1:Src s.heap i1 l1 k xs)(h2:Src s.heap i2 l2 k ys)(u3:xs[k]?=none\/ys[k]?=none)
  (hQ: ∀h',(∀c o,c≠z->c≠TO->c≠i1->c≠i2->s.heap.get? c=some o->h'.get? c=some o)->Q none {s with heap:=h'}):wpAny (model prog w) A (pyNext (.ref z)) Q E s:=by
 have hT:s.TypeIs (.ref z) "zip":=⟨_,hz,rfl⟩
 unfold pyNext
 exact gx (tZ (sU (name:=Str.ofString "__next__") hT BJ (nD BJ hT F.entry_zip_next
  (J9 hh D hz u5 w9 h1 h2 u3 fun h' e hk ⟨o,ho,hc⟩=>gx (wg (T:="StopIteration") (b:=true) ⟨o,ho,hc⟩ Fe (gO (hQ _ hk)))) (F.args_zip_next_1 _))))
end
theorem MU(l1 l2:gz)(xs ys:kz):Meets (Builtin.«zip.__new__» ⟨[.type "zip",.ref l1,.ref l2],[]⟩) (fun _ R s=>(s.heap.IsList l1 xs\/s.heap.IsTuple l1 xs)/\(s.heap.IsList l2 ys\/s.heap.IsTuple l2 ys)/\
  ∀h1 h2,Src h1 s.heap.objs.size l1 0 xs->h1.objs.size=s.heap.objs.size+1->(∀b o,s.heap.get? b=some o->h1.get? b=some o)->Src h2 h1.objs.size l2 0 ys->h2.objs.size=h1.objs.size+1->(∀b o,h1.get? b=some o->h2.get? b=some o)->
   R (.ok (.ret (.ref ((h2.push {cls:= .type "tuple",data:= .seq #[.ref s.heap.objs.size,.ref h1.objs.size]}).push {cls:= .type "tuple",data:= .seq #[.none,.none]}).objs.size)))
    {s with heap:=((h2.push {cls:= .type "tuple",data:= .seq #[.ref s.heap.objs.size,.ref h1.objs.size]}).push {cls:= .type "tuple",data:= .seq #[.none,.none]}).push {cls:= .type "zip",data:= .fields #[.none,.bool false,.bool false,.ref h2.objs.size,.ref (h2.push {cls:= .type "tuple",data:= .seq #[.ref s.heap.objs.size,.ref h1.objs.size]}).objs.size]}}):=
 .of_wp fun prog w A R s h=>by
  obtain⟨hp,g,d,tk,os⟩:=s;obtain⟨cP,aK,h⟩:=h;have aA:=sub_zip
  wp_walk using Src.new cP
  intro h1 a1 a2 a3
  have hl2':h1.IsList l2 ys\/h1.IsTuple l2 ys:=by
   rcases aK with⟨o,e,r⟩|⟨o,e,r⟩
   ·exact .inl ⟨o,a3 _ _ e,r⟩
   ·exact .inr ⟨o,a3 _ _ e,r⟩
  wp_walk using Src.new (s:=⟨h1,g,d,tk,os⟩) hl2'
  intro h2 b1 b2 b3
  wp_walk
  exact⟨_,rfl,h h1 h2 a1 a2 a3 b1 b2 b3⟩
noncomputable def ItZ(b1 b2:Bool)(K:hG)(l1 l2:gz):It:=⟨fun i H=> ∃xs ys x y,SqX b1 K H l1 xs/\SqX b2 K H l2 ys/\xs[i]?=some x/\ys[i]?=some y,
 fun i H x H'=> ∃(T:gz) (u v:V),x= .ref T/\H T=none/\H'=upd H T (.tup [u,v])/\ ∀xs ys,SqX b1 K H l1 xs->SqX b2 K H l2 ys->xs[i]?=some u/\ys[i]?=some v,
 fun i H=> ∃xs ys,SqX b1 K H l1 xs/\SqX b2 K H l2 ys/\(xs.length<=i\/ys.length<=i)⟩
structure ZA(z TI TO i1 i2:gz):Prop where
 a1:TI≠z
 a2:TO≠z
 a3:i1≠z
 a4:i2≠z
 a5:TI≠TO
 a6:TI≠i1
 a7:TI≠i2
 a8:TO≠i1
 a9:TO≠i2
 a10:i1≠i2
theorem uZ{b:Bool}{K:hG}{H:Hp}{l:gz}{xs:List V}{X:Cx}{pins:iq}{σ:L2.St}{s:gC}(I:Inv X pins σ H s)(hK:X.K=K)(q:SqX b K H l xs){fp:jW}(hf: ∀a∈fp,rm X pins H a):l∉fp:=by
 subst hK;intro hm;have hn:=(hf l hm).1
 have base: ∀o,X.K.lookup l=some o->False:=fun o e=>by
  have e1:=I.mod.kin l o e;rcases(hf l hm).2.2.2.1 with z|z
  ·exact I.ok.noex l o e1 z
  ·have:=(I.ok.bs l o e1).1;exact absurd (iu this) (Nat.not_lt.mpr z)
 cases b with
 |true=>
  rcases q with(q|⟨o,q⟩)|⟨o,b6,n,e,_⟩
  ·rw[hn] at q;cases q
  ·rw[hn] at q;cases q
  ·exact base o e
 |false=>
  rcases q with(q|⟨o,q⟩)|⟨o,b6,n,e,_⟩
  ·rw[hn] at q;cases q
  ·rw[hn] at q;cases q
  ·exact base o e
theorem Kl{P:hW}{w:gU}{K:hG}{elts:jF}{k1}{pos:Pos}(b1 b2:Bool)(z TI TO i1 i2 l1 l2:gz)(D:ZA z TI TO i1 i2):
  Turn P w K (.Tuple elts k1 pos) (ItZ b1 b2 K l1 l2) [z,TI,TO,i1,i2] z (fun i h=>IsZip h z TI TO .none/\IsPair h TI (.ref i1) (.ref i2)/\(∃a b,IsPair h TO a b)/\ItX b1 h i1 l1 i/\ItX b2 h i2 l2 i) where
 mem:=by simp
 obj:=fun i h st a ha=>by
  obtain⟨hz,u5,⟨u,v,w9⟩,s1,s2⟩:=st;simp only[jC,kc,lA] at ha;rcases ha with rfl|rfl|rfl|rfl|rfl
  ·exact⟨_,hz,fun v e=>by have e':Data.fields _=Data.cell v:=e;cases e'⟩
  ·exact⟨_,u5,fun v e=>by have e':Data.seq _ _=Data.cell v:=e;cases e'⟩
  ·exact⟨_,w9,fun v e=>by have e':Data.seq _ _=Data.cell v:=e;cases e'⟩
  ·exact s1.obj
  ·exact s2.obj
 keep:=fun i h h' st k=>by
  obtain⟨hz,u5,⟨u,v,w9⟩,s1,s2⟩:=st;exact⟨k z (by simp) _ hz,k TI (by simp) _ u5,⟨u,v,k TO (by simp) _ w9⟩,s1.keep fun o q=>k i1 (by simp) o q,s2.keep fun o q=>k i2 (by simp) o q⟩
 item:=by
  intro X hP hw hK hc i pins s σ H E I hf st hg;obtain⟨hz,u5,⟨a0,b0,w9⟩,s1,s2⟩:=st;obtain⟨xs,ys,x,y,bN,bM,hx,hy⟩:=hg;have n1:=uZ I hK bN hf;have n2:=uZ I hK bM hf;simp only[jC,kc,lA,oS] at n1 n2;subst hP hw hK;obtain⟨cA,fk,aP⟩:=xZ I bN s1;obtain⟨e9,fg,aO⟩:=xZ I bM s2;obtain⟨u,hu,ru⟩:=fk.get hx;obtain⟨v,hv,rv⟩:=fg.get hy;have AP:ZipApart z TI TO i1 i2 l1 l2:=⟨D.a1,D.a2,D.a3,D.a4,D.a5,D.a6,D.a7,D.a8,D.a9,D.a10,n1.1,n1.2.2.1,n1.2.2.2.1,n1.2.2.2.2,n2.1,n2.2.2.1,n2.2.2.2.1,n2.2.2.2.2⟩
  refine F0 AP hz u5 w9 aP aO (x:=u) (y:=v) (by simpa using hu) (by simpa using hv) fun h' z' t1 c1 c2 hT kp=>⟨.ref s.heap.objs.size,rfl,?_⟩
  refine wpAny_letOwnedTupleGo_zip (s:={s with heap:=h'}) z' fun dy z'' sb=>?_;replace sb:Heap.SameBut z h' dy:=sb
  have fB: ∀a o,a∉[z,TI,TO,i1,i2]->s.heap.get? a=some o->dy.get? a=some o:=fun a o na q=>by
   simp only[jC,kc,lA,oS] at na;exact sb.extBut a o na.1 (kp a o na.1 na.2.2.1 na.2.2.2.1 na.2.2.2.2 q)
  have lt: ∀{c o},s.heap.get? c=some o->s.heap.objs.size≠c:=fun e=>qu (iu e);have hT'':IsPair dy s.heap.objs.size u v:=sb.extBut _ _ (lt hz) hT
  have I1:Inv X pins σ (upd H s.heap.objs.size (.tup [x,y])) {s with heap:=dy}:=
   Ih (t':=s.toks) I hf fB (ir _) (show ObjOk X.prog X.w _ _ _ (.tup [x,y]) from⟨by show 2<=sizeLine;decide,[u,v],.cons ru (.cons rv .nil),_,hT'',rfl,0,rfl⟩)
  have t1'':ItX b1 dy i1 l1 (i+1):=L7 s1 aP (c1.keep (fun o q=>sb.extBut _ o D.a3 q) fun o q=>sb.extBut _ o n1.1 q) fun o q=>fB l1 o (by simp only[jC,kc,lA,oS];exact n1) q;have t2'':ItX b2 dy i2 l2 (i+1):=L7 s2 aO (c2.keep (fun o q=>sb.extBut _ o D.a4 q) fun o q=>sb.extBut _ o n2.1 q) fun o q=>fB l2 o (by simp only[jC,kc,lA,oS];exact n2) q;refine⟨.ref s.heap.objs.size,_,I1,rfl,⟨_,x,y,rfl,I.fresh,rfl,fun cq ys' q1 q2=>by rw[Hf I q1 bN,Hf I q2 bM];exact⟨hx,hy⟩⟩,⟨z'',sb.extBut _ _ D.a1 (kp _ _ D.a1 D.a5 D.a6 D.a7 u5),⟨u,v,sb.extBut _ _ D.a2 t1⟩,t1'',t2''⟩,fun a ha=>?_⟩;have n0:=(hf a ha).1;rw[iI]
  ·exact n0
  ·intro e;simp only[jC,kc,lA] at ha;rcases ha with rfl|rfl|rfl|rfl|rfl
   ·exact lt hz e.symm
   ·exact lt u5 e.symm
   ·exact lt w9 e.symm
   ·exact absurd e (iL aP.lt.1)
   ·exact absurd e (iL aO.lt.1)
 done:=by
  intro X hP hw hK hc i pins s σ H E I hf st hg;obtain⟨hz,u5,⟨a0,b0,w9⟩,s1,s2⟩:=st;obtain⟨xs,ys,bN,bM,u3⟩:=hg;have n1:=uZ I hK bN hf;have n2:=uZ I hK bM hf;simp only[jC,kc,lA,oS] at n1 n2;subst hP hw hK;obtain⟨cA,fk,aP⟩:=xZ I bN s1;obtain⟨e9,fg,aO⟩:=xZ I bM s2;have e1:=fk.length;have e2:=fg.length;have AP:ZipApart z TI TO i1 i2 l1 l2:=⟨D.a1,D.a2,D.a3,D.a4,D.a5,D.a6,D.a7,D.a8,D.a9,D.a10,n1.1,n1.2.2.1,n1.2.2.2.1,n1.2.2.2.2,n2.1,n2.2.2.1,n2.2.2.2.1,n2.2.2.2.2⟩
  refine yS (I.ok.hd hc) AP hz u5 w9 aP aO (u3.imp (fun h=>by simp;omega) fun h=>by simp;omega) fun h' kp=>⟨rfl,Ii (t':=s.toks) I hf fun a o na q=>?_⟩
  simp only[jC,kc,lA,oS] at na;exact kp a o na.1 na.2.2.1 na.2.2.2.1 na.2.2.2.2 q
 self:=fun _ _ _ _ _ st h=>wpAny_pyIter_zip st.1 h
theorem L9{K:hG}{P O:AP'}{H1:Hp}{a1 a2:gz}{xs ys:List V}{ds es:List D}{b1 b2:Bool}(q1:SqA b1 K H1 P a1 xs)(r1:RepL K H1 O ds xs)(q2:SqA b2 K H1 P a2 ys)(r2:RepL K H1 O es ys)(hP: ∀a,P a->O a):
  ItOk K (ItZ b1 b2 K a1 a2) ((ds.zip es).map fun p=> .tup [p.1,p.2]) P O H1:=by
 have sq: ∀{b:Bool} {a:gz} {xs:List V},SqA b K H1 P a xs-> ∀Hi,(∀a o,H1 a=some o-> ¬P a->Hi a=some o)->SqX b K Hi a xs:=fun q Hi hp=>FH (q.mono hp fun _ z=>z);refine⟨fun i d Hi hd hp=>?_,fun i Hi hi hp=>⟨xs,ys,sq q1 Hi hp,sq q2 Hi hp,by rw[r1.length,r2.length];simp at hi;omega⟩⟩;rw[lh] at hd;obtain⟨⟨d1,d2⟩,h1,h2⟩:=iP hd;obtain⟨h3,h4⟩:=EJ.mp h1;obtain⟨x,hx,rx⟩:=r1.get h3;obtain⟨y,hy,ry⟩:=r2.get h4;refine⟨⟨xs,ys,x,y,sq q1 Hi hp,sq q2 Hi hp,hx,hy⟩,fun v H' aX=>?_⟩;obtain⟨T,u,w,rfl,hT,rfl,hz⟩:=aX;obtain⟨g1,g2⟩:=hz xs ys (sq q1 Hi hp) (sq q2 Hi hp);rw[hx] at g1;cases g1;rw[hy] at g2;cases g2;have ext:=kP (o:= .tup [x,y]) hT;refine⟨ext,fun O' h1 eh=>?_⟩;subst h2;exact Rep.mkTup ⟨iG,eh T hT⟩ (RepL.cons (Rep.mono (fun b o e n=>ext b o (hp b o e fun z=>n (hP b z))) (fun b hb z=>h1 b hb z) rx) (RepL.cons (Rep.mono (fun b o e n=>ext b o (hp b o e fun z=>n (hP b z))) (fun b hb z=>h1 b hb z) ry) RepL.nil))
section
variable {X:Cx}{elts:jF}{k1:Nat}{aa:Pos}
theorem RH:bootBuiltins "zip"=some (.type "zip"):=by decide+kernel
def U6(K:hG)(ta:TA):TI:=fun σ H R=>ta σ H fun vs H1=> ∃b1 b2 l1 l2 xs ys,vs=[.ref l1,.ref l2]/\SqX b1 K H1 l1 xs/\SqX b2 K H1 l2 ys/\R (ItZ b1 b2 K l1 l2) H1
theorem HF(I:Inv X pins σ H s)(hq:SqX b X.K H l xs)(src:Src s.heap it l i b6):ItX b s.heap it l i:=by
 cases b with
 |true=>
  rcases src with⟨a,_⟩|⟨_,o,h1,h2,_⟩
  ·exact a
  ·obtain⟨_,_,p,_⟩:=I.list hq;obtain⟨o',g1,g2,_⟩:=p.isList;rw[h1] at g1;cases g1;rw[h2] at g2;injection g2 with g2;exact absurd g2 (by decide)
 |false=>
  rcases src with⟨_,o,h1,h2,_⟩|⟨a,_⟩
  ·obtain⟨_,_,p,_⟩:=I.tuple hq;obtain⟨o',g1,g2,_⟩:=p;rw[h1] at g1;cases g1;rw[h2] at g2;injection g2 with g2;exact absurd g2 (by decide)
  ·exact a
theorem Qy{a b:gR}{ta:TA}{p pos:Pos}(hg:Gl X "zip")(hm:X.mg "zip"=none)(ha:PA X [a,b] ta)(hs:starEach [a,b] X.env=(false,eval a X.env)::starEach [b] X.env)(j7:(backTo pos (starEach [b] X.env)).any (·.1)=false):
  PI X (.Tuple elts k1 aa) (.Call (.Name "zip" p) [a,b] [] pos) (U6 X.K ta):=by
 intro pins s0 σ H0 R I0 h;refine BX (wK I0 hg hm RH (BY (thn (ha pos pins s0 σ H0 _ I0 h) fun us s ⟨vs,H,I,r1,b1,b2,l1,l2,xs,ys,hv,bN,bM,q⟩=>?_) hs j7));subst hv;obtain⟨u,v,rfl,ru,rv⟩:=Dm r1;cases ru;cases rv;obtain⟨cA,_,cP⟩:=Kw I bN;obtain⟨e9,_,aK⟩:=Kw I bM;refine callType_new F.called_zip (by decide) (F.typeCall_zip_2 _ _) (F.newCall_zip_2 _ _) (fun obj=>F.args_object_init_3 obj _ _) F.entry_zip_new (MU l1 l2 cA.toArray e9.toArray) ⟨cP,aK,fun h1 h2 c1 z1 k1 c2 z2 k2=>?_⟩;generalize ho3:({cls:= .type "tuple",data:= .seq #[.ref s.heap.objs.size,.ref h1.objs.size]}:Obj)=o3;generalize ho4:({cls:= .type "tuple",data:= .seq #[.none,.none]}:Obj)=o4;have z3:(h2.push o3).objs.size=h2.objs.size+1:=uP ..;have z4:((h2.push o3).push o4).objs.size=h2.objs.size+2:=by rw[uP,z3]
 generalize ho5:({cls:= .type "zip",data:= .fields #[.none,.bool false,.bool false,.ref h2.objs.size,.ref (h2.push o3).objs.size]}:Obj)=o5;have g5:(((h2.push o3).push o4).push o5).get? ((h2.push o3).push o4).objs.size=some o5:=jG _ (by rw[<-ho5];rfl);have g4:(((h2.push o3).push o4).push o5).get? (h2.push o3).objs.size=some o4:=iF _ (jG _ (by rw[<-ho4];rfl));have g3:(((h2.push o3).push o4).push o5).get? h2.objs.size=some o3:=iF _ (iF _ (jG _ (by rw[<-ho3];rfl)));have kp: ∀c o,h2.get? c=some o->(((h2.push o3).push o4).push o5).get? c=some o:=fun c o e=>iF _ (iF _ (iF _ e));have cB:IsZip (((h2.push o3).push o4).push o5) ((h2.push o3).push o4).objs.size h2.objs.size (h2.push o3).objs.size .none:=by show _=_;rw[g5,<-ho5]
 have u5:IsPair (((h2.push o3).push o4).push o5) h2.objs.size (.ref s.heap.objs.size) (.ref h1.objs.size):=by show _=_;rw[g3,<-ho3]
 have w9:IsPair (((h2.push o3).push o4).push o5) (h2.push o3).objs.size .none .none:=by show _=_;rw[g4,<-ho4]
 have I1:Inv X pins σ H {s with heap:=((h2.push o3).push o4).push o5}:=I.kept (t':=s.toks) fun c o e=>kp c o (k2 c o (k1 c o e));have d1:=c1.keep (h':=((h2.push o3).push o4).push o5) (fun o e=>kp _ o (k2 _ o e)) (fun o e=>kp _ o (k2 _ o e));have d2:=c2.keep (h':=((h2.push o3).push o4).push o5) (fun o e=>kp _ o e) (fun o e=>kp _ o e);refine⟨⟨_,cB,rfl⟩,wpAny_pyIter_zip (s:={s with heap:=((h2.push o3).push o4).push o5}) cB ?_⟩;refine⟨((h2.push o3).push o4).objs.size,[((h2.push o3).push o4).objs.size,h2.objs.size,(h2.push o3).objs.size,s.heap.objs.size,h1.objs.size],_,_,H,rfl,I1,Kl b1 b2 _ _ _ _ _ l1 l2 ⟨?_,?_,?_,?_,?_,?_,?_,?_,?_,?_⟩,⟨cB,u5,⟨_,_,w9⟩,HF I1 bN d1,HF I1 bM d2⟩,fun a ha=>?_,q⟩
 ·rw[z4];exact iL (Nat.lt_add_of_pos_right (by decide))
 ·rw[z4,z3];exact iL (uN _)
 ·rw[z4,z2,z1];exact iL (by
   have:s.heap.objs.size<s.heap.objs.size+1+1+2:=by omega
   exact this)
 ·rw[z4,z2];exact iL (by
   have:h1.objs.size<h1.objs.size+1+2:=by omega
   exact this)
 ·rw[z3];exact iL (uN _)
 ·rw[z2,z1];exact qu (by
   have:s.heap.objs.size<s.heap.objs.size+1+1:=by omega
   exact this)
 ·rw[z2];exact qu (uN _)
 ·rw[z3,z2,z1];exact qu (by
   have:s.heap.objs.size<s.heap.objs.size+1+1+1:=by omega
   exact this)
 ·rw[z3,z2];exact qu (by
   have:h1.objs.size<h1.objs.size+1+1:=by omega
   exact this)
 ·rw[z1];exact iL (uN _)
 ·have le:s.heap.objs.size<=a:=by
   simp only[jC,kc,lA] at ha;rcases ha with rfl|rfl|rfl|rfl|rfl
   ·rw[z4,z2,z1];have:s.heap.objs.size<=s.heap.objs.size+1+1+2:=by omega
    exact this
   ·rw[z2,z1];have:s.heap.objs.size<=s.heap.objs.size+1+1:=by omega
    exact this
   ·rw[z3,z2,z1];have:s.heap.objs.size<=s.heap.objs.size+1+1+1:=by omega
    exact this
   ·exact ir _
   ·rw[z1];exact wq _
  exact I.fpOk le (I.hok.fresh le)
noncomputable def Gp(f g:FO):FIt:=fun δ=>(f δ).bind fun p=>(g p.2).bind fun q=>(res q.2 p.1).bind fun x=>(res q.2 q.1).bind fun y=>(sY x).bind fun l=>(sY y).bind fun m=>some ((l.zip m).map fun p=> .tup [p.1,p.2],q.2)
noncomputable def xo(f g:F):FIt:=fun δ=>(f δ).bind fun p=>(g p.2).bind fun q=>(sY p.1.1).bind fun l=>(sY q.1.1).bind fun m=>some ((l.zip m).map fun p=> .tup [p.1,p.2],q.2)
theorem Lh{B:SB}{a b:gR}{f g:FO}{p pos:Pos}(hg:Gl X "zip")(hm:X.mg "zip"=none)(ha:PO X a f)(hb:PO X b g)(B1:SlB B f)(B2:SlB B g)(hs:starEach [a,b] X.env=(false,eval a X.env)::starEach [b] X.env)(p8:starEach [b] X.env=(false,eval b X.env)::starEach [] X.env)(j7:(backTo pos (starEach [b] X.env)).any (·.1)=false):
  PIX X B (.Tuple elts k1 aa) (.Call (.Name "zip" p) [a,b] [] pos) (Gp f g):=PI.imp' (Qy hg hm (vg ha (vg hb Cq p8) hs) hs j7) fun σ H R hw=>by
 obtain⟨δ,T,ds,δ',E,e,k⟩:=hw;obtain⟨⟨o1,δ1⟩,h1,e⟩:=gv e;obtain⟨⟨o2,δ2⟩,h2,e⟩:=gv e;obtain⟨x,h3,e⟩:=gv e;obtain⟨y,h4,e⟩:=gv e;obtain⟨l,h5,e⟩:=gv e;obtain⟨m,h6,e⟩:=gv e;obtain⟨rfl,rfl⟩:=hC e;dsimp only at h2;refine⟨δ,T,[o1,o2],δ2,E,?_,fun vs H1 T1 W=>?_⟩
 ·simp only[jl,h1,h2,Option.bind]
 ·have hl:=W.len
  match vs,hl with
  |[v,u],_=>
   obtain⟨a1,xs,rfl,q1,rr1⟩:=W.seq E (j:=0) rfl rfl h3 h5 fun i hi=>B1 _ _ _ (hi▸h1);obtain⟨a2,ys,rfl,q2,rr2⟩:=W.seq E (j:=1) rfl rfl h4 h6 fun i hi=>B2 _ _ _ (hi▸h2);exact⟨_,_,a1,a2,xs,ys,rfl,FH q1,FH q2,k _ H1 W.keep (W.er.mono (fun _ _ e _=>e) (fun b _ z=>W.tt b z) (fun a z=>W.er.dom a (W.tt a z))) (L9 q1 rr1 q2 rr2 fun a z=>z.own)⟩
theorem NM{B:SB}{a b:gR}{f g:F}{p pos:Pos}(hg:Gl X "zip")(hm:X.mg "zip"=none)(ha:PX X a f)(hb:PX X b g)(hs:starEach [a,b] X.env=(false,eval a X.env)::starEach [b] X.env)(p8:starEach [b] X.env=(false,eval b X.env)::starEach [] X.env)(j7:(backTo pos (starEach [b] X.env)).any (·.1)=false):
  PIX X B (.Tuple elts k1 aa) (.Call (.Name "zip" p) [a,b] [] pos) (xo f g):=PI.imp' (Lh (B:=B) hg hm (PX.po ha) (PX.po hb) Cb Cb hs p8 j7) fun σ H R hw=>by
 have:xo f g=Gp (gw f) (gw g):=funext fun δ=>by
  unfold xo Gp gw
  cases f δ with
  |none=>rfl
  |some p=>simp only[Option.bind];cases g p.2<;>rfl
 rwa [this] at hw
end
end PX
namespace TS
open PySem PyProof.Rows
section
variable(M:Model)(A:gZ)(E:il)(G:Shared->Prop){σ:Type}
def wpI{α:Type}(m:StateT σ Sem α)(Q:α->σ->Prop)(st:σ):Prop:= ∀s,G s->wpAny M A (m.run st) (fun r s'=>G s'/\Q r.1 r.2) E s
variable {M A E G}
theorem gA{α:Type}{a:α}{Q:α->σ->Prop}{st:σ}(h:Q a st):wpI M A E G (pure a:StateT σ Sem α) Q st:=fun s g=>by rw[StateT.run_pure];exact gO ⟨g,h⟩
theorem gy{α β:Type}{m:StateT σ Sem α}{f:α->StateT σ Sem β}{Q:β->σ->Prop}{st:σ}(h:wpI M A E G m (fun a b7=>wpI M A E G (f a) Q b7) st):wpI M A E G (m>>=f) Q st:=fun s g=>by
 rw[StateT.run_bind];exact gx (qa (h s g) (fun r s' h'=>h'.2 s' h'.1) fun _ _ e=>e)
theorem iB{α:Type}{c:Prop}[Decidable c]{t e:StateT σ Sem α}{Q:α->σ->Prop}{st:σ}(h1:c->wpI M A E G t Q st)(h2: ¬c->wpI M A E G e Q st):wpI M A E G (if c then t else e) Q st:=by split<;>simp_all
theorem iT{α:Type}{m:StateT σ Sem α}{Q Q':α->σ->Prop}{st:σ}(h:wpI M A E G m Q st)(hq: ∀a b7,Q a b7->Q' a b7):wpI M A E G m Q' st:=fun s g=>qa (h s g) (fun r _ h'=>⟨h'.1,hq _ _ h'.2⟩) fun _ _ e=>e
theorem ll{Q:σ->σ->Prop}{st:σ}(h:Q st st):wpI M A E G (get:StateT σ Sem σ) Q st:=fun s g=>by rw[StateT.run_get];exact gO ⟨g,h⟩
theorem MW{Q:PUnit->σ->Prop}{st b7:σ}(h:Q ⟨⟩ b7):wpI M A E G (set b7:StateT σ Sem PUnit) Q st:=fun s g=>by rw[StateT.run_set];exact gO ⟨g,h⟩
theorem jR{f:σ->σ}{Q:PUnit->σ->Prop}{st:σ}(h:Q ⟨⟩ (f st)):wpI M A E G (modify f:StateT σ Sem PUnit) Q st:=fun s g=>by rw[StateT.run_modify];exact gO ⟨g,h⟩
theorem Dh{α:Type}{m:Sem α}{Q:α->σ->Prop}{st:σ}(h: ∀s,G s->wpAny M A m (fun a s'=>G s'/\Q a st) E s):wpI M A E G (liftM m:StateT σ Sem α) Q st:=fun s g=>by
 show wpAny M A ((StateT.lift m:StateT σ Sem α).run st) _ E s;rw[StateT.run_lift];exact gx (qa (h s g) (fun a s' h'=>gO h') fun _ _ e=>e)
theorem oV{x:String}{Q:Unit->σ->Prop}{st:σ}(h:Q () st):wpI M A E G (liftM (rule x):StateT σ Sem Unit) Q st:=Dh fun s g=>uQ ⟨g,h⟩
theorem Dg{β:Type}(f:Nat->β->StateT σ Sem (ForInStep β))(I:List Nat->β->σ->Prop)(Q:β->σ->Prop)
  (ar: ∀x hZ b st,I (x::hZ) b st->wpI M A E G (f x b) (fun r b7=>match r with| .done b'=>Q b' b7| .yield b'=>I hZ b' b7) st)(u3: ∀b st,I [] b st->Q b st):
  ∀(l:iM) (b:β) (st:σ),I l b st->wpI M A E G (forIn l b f) Q st
 |[],b,st,h=>by rw[List.forIn_nil];exact gA (u3 _ _ h)
 |x::hZ,b,st,h=>by
  rw[yv];refine gy (iT (ar x hZ b st h) fun r b7 h'=>?_)
  cases r with
  |done b'=>exact gA h'
  |yield b'=>exact Dg f I Q ar u3 hZ b' b7 h'
theorem iY{β:Type}{a b:Nat}{f:Nat->β->StateT σ Sem (ForInStep β)}(I:Nat->β->σ->Prop){Q:β->σ->Prop}
  (ar: ∀i c st,a<=i->i<b->I i c st->wpI M A E G (f i c) (fun r b7=>match r with| .done c'=>Q c' b7| .yield c'=>I (i+1) c' b7) st)
  (u3: ∀c st,I (max a b) c st->Q c st){c:β}{st:σ}(h:I a c st):wpI M A E G (forIn [a:b] c f) Q st:=by
 rw[Std.Legacy.Range.forIn_eq_forIn_range'];have hsz:([a:b]:Std.Legacy.Range).size=b-a:=by simp[Std.Legacy.Range.size]
 show wpI M A E G (forIn (List.range' a ([a:b]:Std.Legacy.Range).size 1) c f) Q st;rw[hsz];refine Dg f (fun l c st=> ∃i,a<=i/\i<=max a b/\l=List.range' i (max a b-i) 1/\I i c st) Q ?_ ?_ _ c st ⟨a,ir _,by omega,by congr 1;omega,h⟩
 ·rintro x hZ c st ⟨i,hai,hib,hl,hI⟩
  cases hn:max a b-i with
  |zero=>rw[hn] at hl;simp at hl
  |succ n=>
   rw[hn,Fd] at hl;obtain⟨rfl,rfl⟩:=tY hl;refine iT (ar x c st hai (by omega) hI) fun r b7 h'=>?_
   cases r with
   |done c'=>exact h'
   |yield c'=>exact⟨x+1,by omega,by omega,by congr 1;omega,h'⟩
 ·rintro c st ⟨i,hai,hib,hl,hI⟩
  have:max a b-i=0:=by
   cases hn:max a b-i with
   |zero=>rfl
   |succ n=>rw[hn,Fd] at hl;cases hl
  have:i=max a b:=by omega
  subst this;exact u3 _ _ hI
end
structure Wk(lt:lx):Prop where
 irr: ∀i,lt i i=false
 tr: ∀i j k,lt i j=true->lt j k=true->lt i k=true
 nt: ∀i j k,lt i k=true->lt i j=true\/lt j k=true
def SL(lt:lx)(i j:Nat):Prop:=lt i j=true\/(lt j i=false/\i<j)
section
variable {lt:lx}(W:Wk lt)
include W
theorem Wk.asym(h:lt i j=true):lt j i=false:=by
 cases h2:lt j i with
 |false=>rfl
 |true=>have:=W.tr _ _ _ h h2;rw[W.irr] at this;cases this
theorem Wk.le_tr(h1:lt j i=false)(h2:lt k j=false):lt k i=false:=by
 cases h:lt k i with
 |false=>rfl
 |true=>
   rcases W.nt _ j _ h with q|q
   ·rw[h2] at q;cases q
   ·rw[h1] at q;cases q
theorem Wk.lt_le(h1:lt i j=true)(h2:lt k j=false):lt i k=true:=by
 rcases W.nt _ k _ h1 with q|q
 ·exact q
 ·rw[h2] at q;cases q
theorem Wk.le_lt(h1:lt j i=false)(h2:lt j k=true):lt i k=true:=by
 rcases W.nt _ i _ h2 with q|q
 ·rw[h1] at q;cases q
 ·exact q
theorem SL.trans(h1:SL lt i j)(h2:SL lt j k):SL lt i k:=by
 rcases h1 with h1|⟨h1,e1⟩<;>rcases h2 with h2|⟨h2,e2⟩
 ·exact .inl (W.tr _ _ _ h1 h2)
 ·exact .inl (W.lt_le h1 h2)
 ·exact .inl (W.le_lt h1 h2)
 ·exact .inr ⟨W.le_tr h1 h2,by omega⟩
theorem SL.le(h:SL lt i j):lt j i=false:=h.elim W.asym fun h=>h.1
theorem SL.asym(h1:SL lt i j)(h2:SL lt j i):False:=by
 have a:=SL.le W h1;have b:=SL.le W h2;rcases h1 with h1|⟨_,e1⟩
 ·rw[b] at h1;cases h1
 ·rcases h2 with h2|⟨_,e2⟩
  ·rw[a] at h2;cases h2
  ·omega
end
noncomputable def P(p:jQ)(k:Nat):Nat:=p.getD k 0
theorem MN{p q:jQ}{i j:Nat}(h:p[i]?=q[j]?):P p i=P q j:=by
 simp only[P,qx,h]
theorem xu{p:jQ}{i:Nat}(h:i<p.size):p[i]?=some (P p i):=by simp[P,h]
def Up(lt:lx)(p:jQ)(a b:Nat):Prop:= ∀i j,a<=i->i<j->j<b->SL lt (P p i) (P p j)
def Dn(lt:lx)(p:jQ)(a b:Nat):Prop:= ∀i j,a<=i->i<j->j<b->SL lt (P p j) (P p i)
def Reg(p:jQ)(a b:Nat):Prop:= ∀k,a<=k->k<b->a<=P p k/\P p k<b
section
variable {prog:hW}{w:gU}{A:gZ}{E:il}{G:Shared->Prop}{it:nA}{lt:lx}{κ:SortKind}{N:Nat}
structure Rp(it:nA)(κ:SortKind)(N:Nat)(st:iU)(p:jQ):Prop where
 arr:arrOf st=p.map it
 kind:kindOf st=κ
 ok:failedOf st=none
 size:p.size=N
 perm:p.Perm (Array.range N)
def Ask(prog:hW)(w:gU)(A:gZ)(E:il)(G:Shared->Prop)(it:nA)(κ:SortKind)(N:Nat)(lt:lx):Prop:=
 ∀i j,i<N->j<N-> ∀s,G s-> ∀E',wpAny (model prog w) A (keyLt' κ (it i).1 (it j).1) (fun b s'=>G s'/\b=lt i j) E' s
theorem Rp.bound{st:iU}{p:jQ}(R:Rp it κ N st p){i:Nat}(h:i<N):P p i<N:=by
 have hm:P p i∈p.toList:=by
  have:=xu (p:=p) (i:=i) (by rw[R.size];exact h);exact RP.mpr (Array.mem_of_getElem? this)
 have:=(OI.mp R.perm).mem_iff.mp hm;simpa using this
theorem yD(H:Ask prog w A E G it κ N lt){st:iU}(hk:kindOf st=κ){i j:Nat}(hi:i<N)(hj:j<N){Q:Option Bool->SortSt->Prop}(h:Q (some (lt i j)) st):wpI (model prog w) A E G (lt' (it i) (it j)) Q st:=by
 rw[lt'_eq];refine gy (ll ?_);rw[hk];refine gy (Dh fun s g=>tZ (qa (H i j hi hj s g fun _ _=>False) (fun b s' hb=>?_) fun e s' he=>he.elim));obtain⟨g',rfl⟩:=hb;exact⟨g',gA h⟩
theorem yE{xs:nB}{q:jQ}(hx:xs=q.map it){i:Nat}(hi:i<q.size){st:iU}{Q:Keyed->SortSt->Prop}(h:Q (it (P q i)) st):wpI (model prog w) A E G (elem' xs i) Q st:=by
 rw[elem'_eq,hx];have:(q.map it)[i]?=some (it (P q i)):=by rw[Array.getElem?_map,xu hi];rfl
 rw[this];exact gA h
theorem qG(H:Ask prog w A E G it κ N lt){st:iU}{p:jQ}(R:Rp it κ N st p){i j:Nat}(hi:i<N)(hj:j<N){Q:Option Bool->SortSt->Prop}(h:Q (some (lt (P p i) (P p j))) st):wpI (model prog w) A E G (ltAt' i j) Q st:=by
 rw[ltAt'_eq];refine gy (ll ?_);refine gy (yE R.arr (by rw[R.size];exact hi) (gy (yE R.arr (by rw[R.size];exact hj) ?_)));exact yD H R.kind (R.bound hi) (R.bound hj) h
theorem Gf(p:jQ)(i j d:Nat):mirror (p.map it) i j d=(mirror p i j d).map it:=JR it _ _ _ _
theorem GJ(p:jQ)(i d:Nat):bubble (p.map it) i d=(bubble p i d).map it:=JR it _ _ _ _
theorem Rp.mirror{st:iU}{p:jQ}(R:Rp it κ N st p)(i j d:Nat):Rp it κ N (setArr st (PyProof.Rows.mirror (arrOf st) i j d)) (PyProof.Rows.mirror p i j d):=
 ⟨by show PyProof.Rows.mirror (arrOf st) i j d=_;rw[R.arr,Gf],R.kind,R.ok,by rw[mirror_size,R.size],(mirror_perm _ _ _ _).trans R.perm⟩
theorem Rp.bubble{st:iU}{p:jQ}(R:Rp it κ N st p)(i d:Nat):Rp it κ N (setArr st (PyProof.Rows.bubble (arrOf st) i d)) (PyProof.Rows.bubble p i d):=
 ⟨by show PyProof.Rows.bubble (arrOf st) i d=_;rw[R.arr,GJ],R.kind,R.ok,by rw[bubble_size,R.size],(bubble_perm _ _ _).trans R.perm⟩
theorem xX{st:iU}{i j:Nat}{Q:Unit->SortSt->Prop}(h:Q () (setArr st (mirror (arrOf st) i j ((j-i) / 2)))):wpI (model prog w) A E G (reverseSlice' i j) Q st:=by
 rw[reverseSlice'_eq];exact jR h
theorem Kd{st:iU}{i j:Nat}{Q:Unit->SortSt->Prop}(h:Q () (setArr st (bubble (arrOf st) i (i-j)))):wpI (model prog w) A E G (moveDown' i j) Q st:=by
 rw[moveDown'_eq];exact jR h
theorem jK(hj:j<=p.size)(k:Nat):P (mirror p i j ((j-i) / 2)) k=if i<=k/\k<j then P p (i+j-1-k) else P p k:=by
 have e:=getElem?_mirror_all (i:=i) hj k;split at e
 ·rename_i h;rw[gG h];exact MN e
 ·rename_i h;rw[gJ h];exact MN e
theorem MO(hs:src<p.size)(hd:d<=src)(k:Nat):P (bubble p src d) k=if k=src-d then P p src else if src-d<k/\k<=src then P p (k-1) else P p k:=by
 have e:=getElem?_bubble hs d hd k;split at e
 ·rename_i h;rw[gG h];exact MN e
 ·rename_i h;rw[gJ h];split at e
  ·rename_i h2;rw[gG h2];exact MN e
  ·rename_i h2;rw[gJ h2];exact MN e
theorem Up.mirror(h:Up lt p a b)(hb:b<=p.size):Dn lt (PyProof.Rows.mirror p a b ((b-a) / 2)) a b:=fun i j h1 h2 h3=>by
 rw[jK hb,jK hb,gG ⟨by lia,h3⟩,gG ⟨h1,by lia⟩];exact h _ _ (by lia) (by lia) (by lia)
theorem Dn.mirror(h:Dn lt p a b)(hb:b<=p.size):Up lt (PyProof.Rows.mirror p a b ((b-a) / 2)) a b:=fun i j h1 h2 h3=>by
 rw[jK hb,jK hb,gG ⟨h1,by lia⟩,gG ⟨by lia,h3⟩];exact h _ _ (by lia) (by lia) (by lia)
theorem Reg.mirror(h:Reg p a b)(hj:j<=p.size)(h1:a<=i)(h2:j<=b):Reg (PyProof.Rows.mirror p i j ((j-i) / 2)) a b:=fun k h3 h4=>by
 rw[jK hj];split
 ·exact h _ (by lia) (by lia)
 ·exact h _ h3 h4
theorem G4(W:Wk lt)(H:Ask prog w A E G it κ N lt){lo f7 a:Nat}(hN:lo+f7=N)(h1:1<=a)(ha:a<=f7){st:iU}{p:jQ}(R:Rp it κ N st p)(rg:Reg p lo (lo+a))(fx: ∀k,lo+a<=k->k<N->P p k=k)(up:Up lt p lo (lo+a)){Q:Option (Option Nat)×Nat->SortSt->Prop}
  (h: ∀m,a<=m->m<=f7->Reg p lo (lo+m)->Up lt p lo (lo+m)->(m=f7\/lt (P p (lo+m)) (P p (lo+m-1))=true)->Q (none,m) st):
  wpI (model prog w) A E G (forIn [a:f7] ((none,a):Option (Option Nat)×Nat) fun _ r=>do
   let x <-ltAt' (lo+r.2) (lo+r.2-1)
   match x with
   |some k7=>if k7=true then pure (ForInStep.done (none,r.2)) else pure (ForInStep.yield (none,r.2+1))
   |_=>pure (ForInStep.done (some none,r.2))) Q st:=by
 refine iY (I:=fun x c b7=>b7=st/\c=(none,x)/\Reg p lo (lo+x)/\Up lt p lo (lo+x)) ?step ?fin ⟨rfl,rfl,rg,up⟩
 case fin=>
  rintro c b7 ⟨rfl,rfl,r1,u1⟩;rw[show max a f7=f7 by lia] at r1 u1 ⊢;exact h f7 ha (ir _) r1 u1 (.inl rfl)
 case step=>
  rintro x c b7 fZ hxn ⟨rfl,rfl,r1,u1⟩;refine gy (qG H R (by lia) (by lia) ?_);dsimp only
  cases hl:lt (P p (lo+x)) (P p (lo+x-1)) with
  |true=>simp only[iE];exact gA (h x fZ (by lia) r1 u1 (.inr hl))
  |false=>
   simp only[iO,jb];have hx:P p (lo+x)=lo+x:=fx _ (by lia) (by lia);have bf:=r1 (lo+x-1) (by lia) (by lia);have sl:SL lt (P p (lo+x-1)) (P p (lo+x)):= .inr ⟨hl,by lia⟩;refine gA ⟨rfl,rfl,fun k k1 k2=>?_,fun i j i1 ij j2=>?_⟩
   ·rcases BI k (lo+x) with q|q
    ·have:=r1 k k1 q;lia
    ·have:k=lo+x:=by lia
     subst this;lia
   ·rcases BI j (lo+x) with q|q
    ·exact u1 i j i1 ij q
    ·have:j=lo+x:=by lia
     subst this;rcases BI i (lo+x-1) with q2|q2
     ·exact SL.trans W (u1 i _ i1 q2 (by lia)) sl
     ·have:i=lo+x-1:=by lia
      subst this;exact sl
structure Fall(lt:lx)(p:jQ)(lo x q N:Nat):Prop where
 le:q+1<=x
 fx: ∀k,lo+x<=k->k<N->P p k=k
 rg:Reg p lo (lo+x)
 dn:Dn lt p lo (lo+x-(q+1))
 st: ∀i j,lo<=i->i<lo+x-(q+1)->lo+x-(q+1)<=j->j<lo+x->lt (P p j) (P p i)=true
 eq: ∀i j,lo+x-(q+1)<=i->i<j->j<lo+x->lt (P p i) (P p j)=false/\lt (P p j) (P p i)=false/\P p i<P p j
theorem Fall.turn{p:jQ}{lo x q:Nat}(F:Fall lt p lo x q N)(hz:lo+x<=p.size):Dn lt (PyProof.Rows.mirror p (lo+x-(q+1)) (lo+x) ((lo+x-(lo+x-(q+1))) / 2)) lo (lo+x):=fun i j i1 ij j2=>by
 have hle:=F.le;rw[jK hz,jK hz];by_cases hj:lo+x-(q+1)<=j
 ·rw[gG ⟨hj,j2⟩];by_cases hi:lo+x-(q+1)<=i
  ·rw[gG ⟨hi,by lia⟩];obtain⟨e1,e2,e3⟩:=F.eq (lo+x-(q+1)+(lo+x)-1-j) (lo+x-(q+1)+(lo+x)-1-i) (by lia) (by lia) (by lia);exact .inr ⟨e2,e3⟩
  ·rw[gJ (fun z=>hi z.1)];exact .inl (F.st _ _ i1 (by lia) (by lia) (by lia))
 ·rw[gJ (fun z=>hj z.1),gJ (fun z=>by lia)];exact F.dn i j i1 ij (by lia)
theorem Fall.flat{p:jQ}{lo x:Nat}(F:Fall lt p lo x 0 N):Dn lt p lo (lo+x):=fun i j i1 ij j2=>by
 have hle:=F.le;by_cases hj:lo+x-1<=j
 ·exact .inl (F.st i j i1 (by lia) (by lia) (by lia))
 ·exact F.dn i j i1 ij (by lia)
def Ran(it:nA)(lt:lx)(κ:SortKind)(N lo f7:Nat)(p0:jQ)(bu:iU)(Q:AB):Prop:=
 ∀n st p,Rp it κ N st p->pendingOf st=pendingOf bu->1<=n->n<=f7->(∀k,k<lo->P p k=P p0 k)->(∀k,lo+n<=k->k<N->P p k=k)->Reg p lo (lo+n)->Up lt p lo (lo+n)->Q (some n) st
theorem Kf(W:Wk lt)(H:Ask prog w A E G it κ N lt){lo f7 n:Nat}(hN:lo+f7=N)(hn:n<=f7){st:iU}{p:jQ}(R:Rp it κ N st p)(F:Fall lt p lo n 0 N){Q:Option (Option Nat)×Nat×Nat->SortSt->Prop}
  (h: ∀x q b7 p',Rp it κ N b7 p'->pendingOf b7=pendingOf st->n<=x->x<=f7->(∀k,k<lo->P p' k=P p k)->Fall lt p' lo x q N->Q (none,x,q) b7):
  wpI (model prog w) A E G (forIn [n:f7] ((none,n,0):Option (Option Nat)×Nat×Nat) fun _ r=>do
   let x <-ltAt' (lo+r.2.1) (lo+r.2.1-1)
   match x with
   |some k7=>
    if k7=true then
     if r.2.2>0 then do
      reverseSlice' (lo+r.2.1-(r.2.2+1)) (lo+r.2.1)
      pure (ForInStep.yield (none,r.2.1+1,0))
     else pure (ForInStep.yield (none,r.2.1+1,0))
    else do
     let x <-ltAt' (lo+r.2.1-1) (lo+r.2.1)
     match x with
     |some aj=>if aj=true then pure (ForInStep.done (none,r.2.1,r.2.2)) else pure (ForInStep.yield (none,r.2.1+1,r.2.2+1))
     |_=>pure (ForInStep.done (some none,r.2.1,r.2.2))
   |_=>pure (ForInStep.done (some none,r.2.1,r.2.2))) Q st:=by
 refine iY (I:=fun x c b7=> ∃q p',c=(none,x,q)/\Rp it κ N b7 p'/\pendingOf b7=pendingOf st/\(∀k,k<lo->P p' k=P p k)/\Fall lt p' lo x q N) ?step ?fin ⟨0,p,rfl,R,rfl,fun _ _=>rfl,F⟩
 case fin=>
  rintro c b7 ⟨q,p',rfl,R',e',f',F'⟩;rw[show max n f7=f7 by lia] at F' ⊢;exact h f7 q b7 p' R' e' hn (ir _) f' F'
 case step=>
  rintro x c b7 fZ hxn ⟨q,p',rfl,R',e',f',F'⟩;have hle:=F'.le;have hx:P p' (lo+x)=lo+x:=F'.fx _ (by lia) (by lia);dsimp only;refine gy (qG H R' (by lia) (by lia) ?_);dsimp only
  have next:lt (P p' (lo+x)) (P p' (lo+x-1))=true-> ∀i,lo<=i->i<lo+x->lt (P p' (lo+x)) (P p' i)=true:=fun hl i i1 i2=>by
   by_cases hi:lo+x-(q+1)<=i
   ·by_cases bC:i=lo+x-1
    ·subst bC;exact hl
    ·exact W.lt_le hl (F'.eq i (lo+x-1) hi (by lia) (by lia)).1
   ·exact W.tr _ _ _ hl (F'.st i (lo+x-1) i1 (by lia) (by lia) (by lia))
  have grow: ∀p2:Array Nat,(∀k,¬(lo<=k/\k<lo+x)->P p2 k=P p' k)->(∀i,lo<=i->i<lo+x-> ∃j,lo<=j/\j<lo+x/\P p2 i=P p' j)->Dn lt p2 lo (lo+x)->lt (P p' (lo+x)) (P p' (lo+x-1))=true->Fall lt p2 lo (x+1) 0 N:=fun p2 h1 h2 h3 hl=>by
   refine⟨by lia,fun k k1 k2=>by rw[h1 k (by lia)];exact F'.fx k (by lia) k2,fun k k1 k2=>?_,?_,fun i j i1 i2 j1 j2=>?_,fun i j i1 i2 j2=>by lia⟩
   ·by_cases hk:k<lo+x
    ·obtain⟨j,j1,j2,e⟩:=h2 k k1 hk;have:=F'.rg j j1 j2
     lia
    ·have:k=lo+x:=by lia
     subst this;rw[h1 _ (by lia),hx];lia
   ·rw[show lo+(x+1)-(0+1)=lo+x by lia];exact h3
   ·have:j=lo+x:=by lia
    subst this;rw[h1 (lo+x) (by lia)];obtain⟨j,j1,j2,e⟩:=h2 i i1 (by lia);rw[e];exact next hl j j1 j2
  cases hl:lt (P p' (lo+x)) (P p' (lo+x-1)) with
  |true=>
   simp only[iE];have hz:lo+x<=p'.size:=by rw[R'.size];lia
   by_cases hq:q>0
   ·rw[gG hq];refine gy (xX (gA ⟨0,_,rfl,R'.mirror _ _ _,e',fun k hk=>?_,grow _ (fun k hk=>?_) (fun i i1 i2=>?_) (F'.turn hz) hl⟩))
    ·rw[jK hz,gJ (by lia)];exact f' k hk
    ·rw[jK hz,gJ (by lia)]
    ·rw[jK hz];split
     ·exact⟨_,by lia,by lia,rfl⟩
     ·exact⟨i,i1,i2,rfl⟩
   ·rw[gJ hq];have:q=0:=by lia
    subst this;exact gA ⟨0,p',rfl,R',e',f',grow p' (fun _ _=>rfl) (fun i i1 i2=>⟨i,i1,i2,rfl⟩) F'.flat hl⟩
  |false=>
   simp only[iO,jb];refine gy (qG H R' (by lia) (by lia) ?_);dsimp only
   cases aK:lt (P p' (lo+x-1)) (P p' (lo+x)) with
   |true=>simp only[iE];exact gA (h x q b7 p' R' e' fZ (by lia) f' F')
   |false=>
    simp only[iO,jb];have bf:=F'.rg (lo+x-1) (by lia) (by lia)
    have same: ∀i,lo+x-(q+1)<=i->i<lo+x->lt (P p' i) (P p' (lo+x))=false/\lt (P p' (lo+x)) (P p' i)=false:=fun i i1 i2=>by
     by_cases hi:i=lo+x-1
     ·subst hi;exact⟨aK,hl⟩
     ·obtain⟨e1,e2,_⟩:=F'.eq i (lo+x-1) i1 (by lia) (by lia);exact⟨W.le_tr aK e1,W.le_tr e2 hl⟩
    refine gA ⟨q+1,p',rfl,R',e',f',by lia,fun k k1 k2=>F'.fx k (by lia) k2,fun k k1 k2=>?_,?_,fun i j i1 i2 j1 j2=>?_,fun i j i1 ij j2=>?_⟩
    ·by_cases hk:k<lo+x
     ·have:=F'.rg k k1 hk;lia
     ·have:k=lo+x:=by lia
      subst this;lia
    ·rw[show lo+(x+1)-(q+1+1)=lo+x-(q+1) by lia];exact F'.dn
    ·by_cases hj:j<lo+x
     ·exact F'.st i j i1 (by lia) (by lia) hj
     ·have:j=lo+x:=by lia
      subst this;have:=F'.st i (lo+x-1) i1 (by lia) (by lia) (by lia);exact W.le_lt aK this
    ·by_cases hj:j<lo+x
     ·exact F'.eq i j (by lia) ij hj
     ·have:j=lo+x:=by lia
      subst this;obtain⟨e1,e2⟩:=same i (by lia) (by lia);have:=F'.rg i (by lia) (by lia);exact⟨e1,e2,by lia⟩
noncomputable def GU(lo a f7:Nat):StateT SortSt Sem (Option (Option Nat)×Nat):=forIn [a:f7] ((none,a):Option (Option Nat)×Nat) fun _ r=>do
   let x <-ltAt' (lo+r.2) (lo+r.2-1)
   match x with
   |some k7=>if k7=true then pure (ForInStep.done (none,r.2)) else pure (ForInStep.yield (none,r.2+1))
   |_=>pure (ForInStep.done (some none,r.2))
noncomputable def Mo(lo n f7:Nat):StateT SortSt Sem (Option (Option Nat)×Nat×Nat):=forIn [n:f7] ((none,n,0):Option (Option Nat)×Nat×Nat) fun _ r=>do
   let x <-ltAt' (lo+r.2.1) (lo+r.2.1-1)
   match x with
   |some k7=>
    if k7=true then
     if r.2.2>0 then do
      reverseSlice' (lo+r.2.1-(r.2.2+1)) (lo+r.2.1)
      pure (ForInStep.yield (none,r.2.1+1,0))
     else pure (ForInStep.yield (none,r.2.1+1,0))
    else do
     let x <-ltAt' (lo+r.2.1-1) (lo+r.2.1)
     match x with
     |some aj=>if aj=true then pure (ForInStep.done (none,r.2.1,r.2.2)) else pure (ForInStep.yield (none,r.2.1+1,r.2.2+1))
     |_=>pure (ForInStep.done (some none,r.2.1,r.2.2))
   |_=>pure (ForInStep.done (some none,r.2.1,r.2.2))
noncomputable def Ek(lo n f7:Nat):StateT SortSt Sem (Option Nat):=do
 reverseSlice' lo (lo+n)
 let r <-GU lo n f7
 match r.1 with
 |some r=>pure r
 |none=>pure (some r.2)
noncomputable def A4(lo n f7:Nat):StateT SortSt Sem (Option Nat):=do
 liftM (rule "list.sort.descending-run")
 let r <-Mo lo (n+1) f7
 match r.1 with
 |some r=>pure r
 |none=>
  if r.2.2>0 then do
   reverseSlice' (lo+r.2.1-(r.2.2+1)) (lo+r.2.1)
   Ek lo r.2.1 f7
  else Ek lo r.2.1 f7
theorem Ep(lo f7:Nat):countRun' lo f7=(do
  let r <-GU lo 1 f7
  match r.1 with
  |some r=>pure r
  |none=>
   if(r.2==f7)=true then pure (some r.2)
   else if r.2>1 then do
    let x <-ltAt' lo (lo+r.2-1)
    match x with
    |some cv=>if cv=true then pure (some r.2) else do
      reverseSlice' lo (lo+r.2)
      A4 lo r.2 f7
    |_=>pure none
   else A4 lo r.2 f7):=by
 rw[countRun'_eq];dsimp only;unfold GU
 congr 1
 funext r;obtain⟨r,n⟩:=r
 cases r with
 |some r=>rfl
 |none=>
  dsimp only;by_cases h1:(n==f7)=true
  ·rw[gG h1,gG h1]
  ·rw[gJ h1,gJ h1];by_cases h2:n>1
   ·rw[gG h2,gG h2]
    congr 1
    funext x
    cases x with
    |none=>rfl
    |some cv=>
     dsimp only
     cases cv with
     |true=>rfl
     |false=>
      simp only[iO,jb]
      congr 1
      funext _;unfold A4 Mo
      congr 1
      funext _
      congr 1
      funext r2;obtain⟨r2,n2,q2⟩:=r2
      cases r2 with
      |some r=>rfl
      |none=>
       dsimp only;by_cases h3:q2>0
       ·rw[gG h3,gG h3]
        congr 1
        funext _;unfold Ek GU
        congr 1
        funext _
        congr 1
        funext r3;obtain⟨r3,n3⟩:=r3;cases r3<;>rfl
       ·rw[gJ h3,gJ h3];unfold Ek GU
        congr 1
        funext _
        congr 1
        funext r3;obtain⟨r3,n3⟩:=r3;cases r3<;>rfl
   ·rw[gJ h2,gJ h2];unfold A4 Mo
    congr 1
    funext _
    congr 1
    funext r2;obtain⟨r2,n2,q2⟩:=r2
    cases r2 with
    |some r=>rfl
    |none=>
     dsimp only;by_cases h3:q2>0
     ·rw[gG h3,gG h3]
      congr 1
      funext _;unfold Ek GU
      congr 1
      funext _
      congr 1
      funext r3;obtain⟨r3,n3⟩:=r3;cases r3<;>rfl
     ·rw[gJ h3,gJ h3];unfold Ek GU
      congr 1
      funext _
      congr 1
      funext r3;obtain⟨r3,n3⟩:=r3;cases r3<;>rfl
theorem G3(W:Wk lt)(H:Ask prog w A E G it κ N lt){lo f7 n:Nat}(hN:lo+f7=N)(h1:1<=n)(hn:n<=f7){st bu:iU}{p p0:jQ}(R:Rp it κ N st p)(e0:pendingOf st=pendingOf bu)(f0: ∀k,k<lo->P p k=P p0 k)(fx: ∀k,lo+n<=k->k<N->P p k=k)(rg:Reg p lo (lo+n))(dn:Dn lt p lo (lo+n))
  {Q:AB}(h:Ran it lt κ N lo f7 p0 bu Q):wpI (model prog w) A E G (Ek lo n f7) Q st:=by
 unfold Ek;have hz:lo+n<=p.size:=by rw[R.size];lia
 have out: ∀k,¬(lo<=k/\k<lo+n)->P (PyProof.Rows.mirror p lo (lo+n) ((lo+n-lo) / 2)) k=P p k:=fun k hk=>by rw[jK hz,gJ hk]
 refine gy (xX ?_);have R1:=R.mirror lo (lo+n) ((lo+n-lo) / 2);refine gy (G4 W H hN h1 hn R1 (rg.mirror hz (ir _) (ir _)) (fun k k1 k2=>by rw[out k (by lia)];exact fx k k1 k2) (dn.mirror hz) fun m m1 m2 dH cu _=>?_);exact gA (h m _ _ R1 e0 (by lia) m2 (fun k hk=>by rw[out k (by lia)];exact f0 k hk) (fun k k1 k2=>by rw[out k (by lia)];exact fx k (by lia) k2) dH cu)
theorem Dj(W:Wk lt)(H:Ask prog w A E G it κ N lt){lo f7 n:Nat}(hN:lo+f7=N)(hn:n+1<=f7){st bu:iU}{p p0:jQ}(R:Rp it κ N st p)(e0:pendingOf st=pendingOf bu)(f0: ∀k,k<lo->P p k=P p0 k)(F:Fall lt p lo (n+1) 0 N)
  {Q:AB}(h:Ran it lt κ N lo f7 p0 bu Q):wpI (model prog w) A E G (A4 lo n f7) Q st:=by
 unfold A4;refine gy (oV (gy (Kf W H hN hn R F fun x q b7 p' R' e' x1 x2 f' F'=>?_)));dsimp only;have hle:=F'.le;have hz:lo+x<=p'.size:=by rw[R'.size];lia
 by_cases hq:q>0
 ·rw[gG hq];refine gy (xX (G3 W H hN (by lia) x2 (R'.mirror _ _ _) (e'.trans e0) (fun k hk=>?_) (fun k k1 k2=>?_) (F'.rg.mirror hz (by lia) (ir _)) (F'.turn hz) h))
  ·rw[jK hz,gJ (by lia)];exact(f' k hk).trans (f0 k hk)
  ·rw[jK hz,gJ (by lia)];exact F'.fx k k1 k2
 ·rw[gJ hq];have:q=0:=by lia
  subst this;exact G3 W H hN (by lia) x2 R' (e'.trans e0) (fun k hk=>(f' k hk).trans (f0 k hk)) F'.fx F'.rg F'.flat h
theorem Ig(W:Wk lt)(H:Ask prog w A E G it κ N lt){lo f7:Nat}(hN:lo+f7=N)(h1:1<=f7){st:iU}{p:jQ}(R:Rp it κ N st p)(fx: ∀k,lo<=k->k<N->P p k=k){Q:AB}(h:Ran it lt κ N lo f7 p st Q):
  wpI (model prog w) A E G (countRun' lo f7) Q st:=by
 rw[Ep];refine gy (G4 W H hN (ir _) h1 R (fun k k1 k2=>by rw[fx k k1 (by lia)];lia) (fun k k1 k2=>fx k (by lia) k2) (fun i j i1 ij j2=>by lia) fun n n1 n2 rg up hl=>?_);dsimp only;by_cases he:(n==f7)=true
 ·rw[gG he];exact gA (h n st p R rfl n1 n2 (fun _ _=>rfl) (fun k k1 k2=>fx k (by lia) k2) rg up)
 ·rw[gJ he];have o7:n≠f7:=fun z=>he (by simp[z]);have hl:lt (P p (lo+n)) (P p (lo+n-1))=true:=hl.resolve_left o7;have hx:P p (lo+n)=lo+n:=fx _ (by lia) (by lia);by_cases hg:n>1
  ·rw[gG hg];refine gy (qG H R (by lia) (by lia) ?_);dsimp only
   cases hr:lt (P p lo) (P p (lo+n-1)) with
   |true=>simp only[iE];exact gA (h n st p R rfl n1 n2 (fun _ _=>rfl) (fun k k1 k2=>fx k (by lia) k2) rg up)
   |false=>
    simp only[iO,jb];have hz:lo+n<=p.size:=by rw[R.size];lia
    have out: ∀k,¬(lo<=k/\k<lo+n)->P (PyProof.Rows.mirror p lo (lo+n) ((lo+n-lo) / 2)) k=P p k:=fun k hk=>by rw[jK hz,gJ hk]
    have small: ∀i,lo<=i->i<lo+n->lt (P p (lo+n)) (P p i)=true:=fun i i1 i2=>by
     have hi:lt (P p i) (P p (lo+n-1))=false:=by
      by_cases hi:i=lo
      ·subst hi;exact hr
      ·exact W.le_tr hr (SL.le W (up lo i (ir _) (by lia) i2)) |> fun z=>by
        cases hc:lt (P p i) (P p (lo+n-1)) with
        |false=>rfl
        |true=>
         have:=W.le_lt (SL.le W (up lo i (ir _) (by lia) i2)) hc;rw[hr] at this;cases this
     exact W.lt_le hl hi
    refine gy (xX (Dj W H hN (by lia) (R.mirror _ _ _) rfl (fun k hk=>out k (by lia)) ⟨by lia,fun k k1 k2=>by rw[out k (by lia)];exact fx k (by lia) k2,fun k k1 k2=>?_,?_,fun i j i1 i2 j1 j2=>?_,fun i j i1 ij j2=>by lia⟩ h))
    ·by_cases hk:k<lo+n
     ·have:=rg.mirror (i:=lo) (j:=lo+n) hz (ir _) (ir _) k k1 hk;lia
     ·have:k=lo+n:=by lia
      subst this;rw[out _ (by lia),hx];lia
    ·rw[show lo+(n+1)-(0+1)=lo+n by lia];exact up.mirror hz
    ·have:j=lo+n:=by lia
     subst this;rw[out (lo+n) (by lia),jK hz,gG ⟨i1,by lia⟩];exact small _ (by lia) (by lia)
  ·rw[gJ hg];have:n=1:=by lia
   subst this;refine Dj W H hN (by lia) R rfl (fun _ _=>rfl) ⟨by lia,fun k k1 k2=>fx k (by lia) k2,fun k k1 k2=>by rw[fx k k1 (by lia)];lia,fun i j i1 ij j2=>by lia,fun i j i1 i2 j1 j2=>?_,fun i j i1 ij j2=>by lia⟩ h;have e1:j=lo+1:=by lia
   have e2:i=lo:=by lia
   subst e1;subst e2;exact hl
theorem MX(W:Wk lt)(H:Ask prog w A E G it κ N lt){lo n ok:Nat}(h1:1<=ok)(hok:ok<=n)(hn:lo+n<=N){st:iU}{p:jQ}(R:Rp it κ N st p)(fx: ∀k,lo+ok<=k->k<N->P p k=k)(rg:Reg p lo (lo+ok))(up:Up lt p lo (lo+ok)){Q:Bool->SortSt->Prop}
  (h: ∀b7 p',Rp it κ N b7 p'->pendingOf b7=pendingOf st->(∀k,k<lo->P p' k=P p k)->(∀k,lo+n<=k->k<N->P p' k=k)->Reg p' lo (lo+n)->Up lt p' lo (lo+n)->Q true b7):wpI (model prog w) A E G (binarySort' lo n ok) Q st:=by
 rw[binarySort'_eq];dsimp only;rw[show max ok 1=ok by lia]
 refine gy (iT (iY (I:=fun k c b7=>c=(none,())/\ ∃p',Rp it κ N b7 p'/\pendingOf b7=pendingOf st/\(∀i,i<lo->P p' i=P p i)/\(∀i,lo+k<=i->i<N->P p' i=i)/\Reg p' lo (lo+k)/\Up lt p' lo (lo+k))
  (Q:=fun c b7=>c=(none,())/\ ∃p',Rp it κ N b7 p'/\pendingOf b7=pendingOf st/\(∀i,i<lo->P p' i=P p i)/\(∀i,lo+n<=i->i<N->P p' i=i)/\Reg p' lo (lo+n)/\Up lt p' lo (lo+n)) ?step ?fin ⟨rfl,p,R,rfl,fun _ _=>rfl,fx,rg,up⟩) ?post)
 case post=>
  rintro c b7 ⟨rfl,p',a1,a2,a3,a4,a5,a6⟩;exact gA (h b7 p' a1 a2 a3 a4 a5 a6)
 case fin=>
  rintro c b7 hc;rw[show max ok n=n by lia] at hc;exact hc
 case step=>
  rintro k c b7 aL fO ⟨rfl,p',R',e',f',fx',dH,cu⟩;have hkey:P p' (lo+k)=lo+k:=fx' _ (by lia) (by lia)
  refine gy (iT (iY (I:=fun i c i3=>i3=b7/\ ∃l r,c=(none,l,r)/\l<=r/\r<=k/\r-l<=k-i/\(∀i,i<l->lt (P p' (lo+k)) (P p' (lo+i))=false)/\(∀i,r<=i->i<k->lt (P p' (lo+k)) (P p' (lo+i))=true))
   (Q:=fun c i3=>i3=b7/\ ∃l r,c=(none,l,r)/\l<=k/\(∀i,i<l->lt (P p' (lo+k)) (P p' (lo+i))=false)/\(∀i,l<=i->i<k->lt (P p' (lo+k)) (P p' (lo+i))=true)) ?s2 ?f2 ⟨rfl,0,k,rfl,by lia,by lia,by lia,fun i hi=>by lia,fun i i1 i2=>by lia⟩) ?p2)
  case f2=>
   rintro c i3 ⟨rfl,l,r,rfl,a1,a2,a3,a4,a5⟩;have:l=r:=by lia
   subst this;exact⟨rfl,l,l,rfl,a2,a4,a5⟩
  case s2=>
   rintro i c i3 _ hi ⟨rfl,l,r,rfl,a1,a2,a3,a4,a5⟩;dsimp only;by_cases hlr:l>=r
   ·rw[gG hlr];have:l=r:=by lia
    subst this;exact gA ⟨rfl,l,l,rfl,a2,a4,a5⟩
   ·rw[gJ hlr];refine gy (qG H R' (by lia) (by lia) ?_);dsimp only
    cases hl:lt (P p' (lo+k)) (P p' (lo+(l+r) / 2)) with
    |true=>
     simp only[iE];refine gA ⟨rfl,l,(l+r) / 2,rfl,by lia,by lia,by lia,a4,fun i i1 i2=>?_⟩;by_cases hi:i=(l+r) / 2
     ·subst hi;exact hl
     ·exact W.lt_le hl (SL.le W (cu (lo+(l+r) / 2) (lo+i) (by lia) (by lia) (by lia)))
    |false=>
     simp only[iO,jb];refine gA ⟨rfl,(l+r) / 2+1,r,rfl,by lia,a2,by lia,fun i i1=>?_,a5⟩;by_cases hi:i=(l+r) / 2
     ·subst hi;exact hl
     ·exact W.le_tr (SL.le W (cu (lo+i) (lo+(l+r) / 2) (by lia) (by lia) (by lia))) hl
  case p2=>
   rintro c i3 ⟨rfl,l,r,rfl,hl,a4,a5⟩;dsimp only;have hz:lo+k<p'.size:=by rw[R'.size];lia
   have hd:lo+k-(lo+l)<=lo+k:=by lia
   have ib: ∀i,P (PyProof.Rows.bubble p' (lo+k) (lo+k-(lo+l))) i=if i=lo+l then P p' (lo+k) else if lo+l<i/\i<=lo+k then P p' (i-1) else P p' i:=fun i=>by
    rw[MO hz hd,show lo+k-(lo+k-(lo+l))=lo+l by lia]
   refine gy (Kd (gA ⟨rfl,_,R'.bubble _ _,e',fun i hi=>?_,fun i i1 i2=>?_,fun i i1 i2=>?_,fun i j i1 ij j2=>?_⟩))
   ·rw[ib,gJ (by lia),gJ (by lia)];exact f' i hi
   ·rw[ib,gJ (by lia),gJ (by lia)];exact fx' i (by lia) i2
   ·rw[ib];split
    ·rw[hkey];lia
    ·split
     ·have:=dH (i-1) (by lia) (by lia);lia
     ·have:=dH i i1 (by lia);lia
   ·
    have above: ∀m,l<=m->m<k->SL lt (P p' (lo+k)) (P p' (lo+m)):=fun m m1 m2=> .inl (a5 m m1 m2);have below: ∀m,m<l->SL lt (P p' (lo+m)) (P p' (lo+k)):=fun m m1=> .inr ⟨a4 m m1,by have:=dH (lo+m) (by lia) (by lia);lia⟩;rw[ib,ib];by_cases hi:i=lo+l
    ·subst hi;rw[gG rfl,gJ (by lia),gG (by lia)];have:=above (j-1-lo) (by lia) (by lia)
     rwa [show lo+(j-1-lo)=j-1 by lia] at this
    ·rw[gJ hi];by_cases hj:j=lo+l
     ·subst hj;rw[gG rfl,gJ (by lia)];have:=below (i-lo) (by lia)
      rwa [show lo+(i-lo)=i by lia] at this
     ·rw[gJ hj];by_cases ci:lo+l<i/\i<=lo+k
      ·rw[gG ci,gG (by lia)];exact cu _ _ (by lia) (by lia) (by lia)
      ·rw[gJ ci];by_cases cj:lo+l<j/\j<=lo+k
       ·rw[gG cj];exact cu _ _ i1 (by lia) (by lia)
       ·rw[gJ cj];exact cu _ _ i1 ij (by lia)
end
noncomputable def kS:Bool->Keyed->Array Keyed->Nat->Nat->Nat->StateT SortSt Sem (Option Nat):=sortPriv%PySem.Builtin.gallop
noncomputable def zg:Array Keyed->Array Keyed->StateT SortSt Sem (Array Keyed):=sortPriv%PySem.Builtin.mergeLo
noncomputable def zh:Array Keyed->Array Keyed->StateT SortSt Sem (Array Keyed):=sortPriv%PySem.Builtin.mergeHi
noncomputable def vb:Nat->StateT SortSt Sem Unit:=sortPriv%PySem.Builtin.setMinGallop
def bey(left:Bool)(key:Keyed)(arr:nB)(base i:Nat):StateT SortSt Sem (Option Bool):=do
 let y <-elem' arr (base+i)
 if left=true then lt' y key else do
  let r <-lt' key y
  pure (Option.map (fun x=>!x) r)
theorem Ji(left:Bool)(key:Keyed)(arr:nB)(base n hint:Nat):kS left key arr base n hint=(do
 let mut lastofs:=0
 let mut ofs:=1
 let mut lo:=0
 let mut hi:=0
 let some right <-bey left key arr base hint|return none
 if right then
  let r9:=n-hint
  for _ in [0:n] do
   if ofs>=r9 then break
   let some more <-bey left key arr base (hint+ofs)|return none
   if !more then break
   lastofs:=ofs
   ofs:=2*ofs+1
  lo:=hint+lastofs+1
  hi:=hint+min ofs r9
 else
  let r9:=hint+1
  for _ in [0:n] do
   if ofs>=r9 then break
   let some found <-bey left key arr base (hint-ofs)|return none
   if found then break
   lastofs:=ofs
   ofs:=2*ofs+1
  lo:=hint+1-min ofs r9
  hi:=hint-lastofs
 for _ in [0:n] do
  if lo>=hi then break
  let m:=lo+(hi-lo) / 2
  let some more <-bey left key arr base m|return none
  if more then lo:=m+1 else hi:=m
 return some hi):=rfl
section
variable {prog:hW}{w:gU}{A:gZ}{E:il}{G:Shared->Prop}{it:nA}{lt:lx}{κ:SortKind}{N:Nat}
def Bq(lt:lx)(left:Bool)(x:Nat)(q:jQ)(base i:Nat):Bool:=if left=true then lt (P q (base+i)) x else !lt x (P q (base+i))
theorem xY(H:Ask prog w A E G it κ N lt){left:Bool}{x:Nat}{q:jQ}{base i:Nat}(hx:x<N)(hq: ∀k,k<q.size->P q k<N)(hi:base+i<q.size){st:iU}(hk:kindOf st=κ){Q:Option Bool->SortSt->Prop}(h:Q (some (Bq lt left x q base i)) st):
  wpI (model prog w) A E G (bey left (it x) (q.map it) base i) Q st:=by
 unfold bey;refine gy (yE rfl hi ?_);unfold Bq at h
 cases left with
 |true=>simp only[iE] at h ⊢;exact yD H hk (hq _ hi) hx h
 |false=>simp only[iO,jb] at h ⊢;exact gy (yD H hk hx (hq _ hi) (gA h))
theorem Di(H:Ask prog w A E G it κ N lt){left:Bool}{x:Nat}{q:jQ}{base n:Nat}(hx:x<N)(hq: ∀k,k<q.size->P q k<N)(hn:base+n<=q.size){st:iU}(hk:kindOf st=κ)(mono: ∀i j,i<=j->j<n->Bq lt left x q base j=true->Bq lt left x q base i=true)
  {lo hi:Nat}(h1:lo<=hi)(h2:hi<=n)(h3: ∀i,i<lo->Bq lt left x q base i=true)(h4: ∀i,hi<=i->i<n->Bq lt left x q base i=false){Q:Option (Option Nat)×Nat×Nat->SortSt->Prop}
  (h: ∀r,r<=n->(∀i,i<r->Bq lt left x q base i=true)->(∀i,r<=i->i<n->Bq lt left x q base i=false)->Q (none,r,r) st):
  wpI (model prog w) A E G (forIn [:n] ((none,lo,hi):Option (Option Nat)×Nat×Nat) fun _ r=>
    if r.2.1>=r.2.2 then pure (ForInStep.done (none,r.2.1,r.2.2))
    else do
     let y <-bey left (it x) (q.map it) base (r.2.1+(r.2.2-r.2.1) / 2)
     match y with
     |some more=>if more=true then pure (ForInStep.yield (none,r.2.1+(r.2.2-r.2.1) / 2+1,r.2.2)) else pure (ForInStep.yield (none,r.2.1,r.2.1+(r.2.2-r.2.1) / 2))
     |_=>pure (ForInStep.done (some none,r.2.1,r.2.2))) Q st:=by
 refine(iT (iY (I:=fun i c i3=>i3=st/\ ∃lo hi,c=(none,lo,hi)/\lo<=hi/\hi<=n/\hi-lo<=n-i/\(∀i,i<lo->Bq lt left x q base i=true)/\(∀i,hi<=i->i<n->Bq lt left x q base i=false))
  (Q:=fun c i3=>i3=st/\ ∃r,c=(none,r,r)/\r<=n/\(∀i,i<r->Bq lt left x q base i=true)/\(∀i,r<=i->i<n->Bq lt left x q base i=false)) ?step ?fin ⟨rfl,lo,hi,rfl,h1,h2,by omega,h3,h4⟩) ?post)
 case post=>
  rintro c i3 ⟨rfl,r,rfl,a1,a2,a3⟩;exact h r a1 a2 a3
 case fin=>
  rintro c i3 ⟨rfl,lo,hi,rfl,a1,a2,a3,a4,a5⟩;have:lo=hi:=by omega
  subst this;exact⟨rfl,lo,rfl,a2,a4,a5⟩
 case step=>
  rintro i c i3 _ dr ⟨rfl,lo,hi,rfl,a1,a2,a3,a4,a5⟩;dsimp only;by_cases hlh:lo>=hi
  ·rw[gG hlh];have:lo=hi:=by omega
   subst this;exact gA ⟨rfl,lo,rfl,a2,a4,a5⟩
  ·rw[gJ hlh];refine gy (xY (i:=lo+(hi-lo) / 2) H hx hq (by omega) hk ?_);dsimp only
   cases hb:Bq lt left x q base (lo+(hi-lo) / 2) with
   |true=>
    simp only[iE];exact gA ⟨rfl,_,hi,rfl,by omega,a2,by omega,fun i bC=>mono i (lo+(hi-lo) / 2) (by omega) (by omega) hb,a5⟩
   |false=>
    simp only[iO,jb];refine gA ⟨rfl,lo,_,rfl,by omega,by omega,by omega,a4,fun i i1 i2=>?_⟩
    cases hc:Bq lt left x q base i with
    |false=>rfl
    |true=>have:=mono _ _ i1 i2 hc;rw[hb] at this;cases this
theorem FA(H:Ask prog w A E G it κ N lt){left:Bool}{x:Nat}{q:jQ}{base n hint:Nat}(hx:x<N)(hq: ∀k,k<q.size->P q k<N)(hn:base+n<=q.size)(hh:hint<n){st:iU}(hk:kindOf st=κ)(mono: ∀i j,i<=j->j<n->Bq lt left x q base j=true->Bq lt left x q base i=true)
  {Q:AB}(h: ∀r,r<=n->(∀i,i<r->Bq lt left x q base i=true)->(∀i,r<=i->i<n->Bq lt left x q base i=false)->Q (some r) st):
  wpI (model prog w) A E G (kS left (it x) (q.map it) base n hint) Q st:=by
 have anti: ∀i j,i<=j->j<n->Bq lt left x q base i=false->Bq lt left x q base j=false:=fun i j ij jn hi=>by
  cases hc:Bq lt left x q base j with
  |false=>rfl
  |true=>have:=mono _ _ ij jn hc;rw[hi] at this;cases this
 rw[Ji];dsimp only;refine gy (xY (i:=hint) H hx hq (by omega) hk ?_);dsimp only
 cases hb:Bq lt left x q base hint with
 |true=>
  simp only[iE]
  refine gy (iT (iY (I:=fun i c i3=>i3=st/\ ∃last ofs,c=(none,last,ofs)/\last<ofs/\i+1<=ofs/\hint+last<n/\Bq lt left x q base (hint+last)=true)
   (Q:=fun c i3=>i3=st/\ ∃last ofs,c=(none,last,ofs)/\last<ofs/\hint+last<n/\Bq lt left x q base (hint+last)=true/\(ofs>=n-hint\/Bq lt left x q base (hint+ofs)=false)) ?step ?fin ⟨rfl,0,1,rfl,by omega,by omega,by omega,hb⟩) ?post)
  case post=>
   rintro c i3 ⟨rfl,last,ofs,rfl,a1,a2,a3,a4⟩;dsimp only;refine gy (Di H hx hq hn hk mono (lo:=hint+last+1) (hi:=hint+min ofs (n-hint)) (by omega) (by omega) (fun i hi=>mono i _ (by omega) a2 a3) (fun i i1 i2=>?_) fun r b1 b2 b3=>gA (h r b1 b2 b3));rcases a4 with a4|a4
   ·omega
   ·exact anti (hint+ofs) i (by omega) i2 a4
  case fin=>
   rintro c i3 ⟨rfl,last,ofs,rfl,a1,a2,a3,a4⟩;exact⟨rfl,last,ofs,rfl,a1,a3,a4,.inl (by omega)⟩
  case step=>
   rintro i c i3 _ hi ⟨rfl,last,ofs,rfl,a1,a2,a3,a4⟩;dsimp only;by_cases ho:ofs>=n-hint
   ·rw[gG ho];exact gA ⟨rfl,last,ofs,rfl,a1,a3,a4,.inl ho⟩
   ·rw[gJ ho];refine gy (xY (i:=hint+ofs) H hx hq (by omega) hk ?_);dsimp only
    cases hc:Bq lt left x q base (hint+ofs) with
    |false=>simp only[Bool.not_false,iE];exact gA ⟨rfl,last,ofs,rfl,a1,a3,a4,.inr hc⟩
    |true=>simp only[lM,iO,jb];exact gA ⟨rfl,ofs,2*ofs+1,rfl,by omega,by omega,by omega,hc⟩
 |false=>
  simp only[iO,jb]
  refine gy (iT (iY (I:=fun i c i3=>i3=st/\ ∃last ofs,c=(none,last,ofs)/\last<ofs/\i+1<=ofs/\last<=hint/\Bq lt left x q base (hint-last)=false)
   (Q:=fun c i3=>i3=st/\ ∃last ofs,c=(none,last,ofs)/\last<ofs/\last<=hint/\Bq lt left x q base (hint-last)=false/\(ofs>=hint+1\/Bq lt left x q base (hint-ofs)=true)) ?step ?fin ⟨rfl,0,1,rfl,by omega,by omega,by omega,hb⟩) ?post)
  case post=>
   rintro c i3 ⟨rfl,last,ofs,rfl,a1,a2,a3,a4⟩;dsimp only;refine gy (Di H hx hq hn hk mono (lo:=hint+1-min ofs (hint+1)) (hi:=hint-last) (by omega) (by omega) (fun i hi=>?_) (fun i i1 i2=>anti _ i i1 i2 a3) fun r b1 b2 b3=>gA (h r b1 b2 b3));rcases a4 with a4|a4
   ·omega
   ·by_cases ho:ofs>=hint+1
    ·omega
    ·exact mono i _ (by omega) (by omega) a4
  case fin=>
   rintro c i3 ⟨rfl,last,ofs,rfl,a1,a2,a3,a4⟩;exact⟨rfl,last,ofs,rfl,a1,a3,a4,.inl (by omega)⟩
  case step=>
   rintro i c i3 _ hi ⟨rfl,last,ofs,rfl,a1,a2,a3,a4⟩;dsimp only;by_cases ho:ofs>=hint+1
   ·rw[gG ho];exact gA ⟨rfl,last,ofs,rfl,a1,a3,a4,.inl ho⟩
   ·rw[gJ ho];refine gy (xY (i:=hint-ofs) H hx hq (by omega) hk ?_);dsimp only
    cases hc:Bq lt left x q base (hint-ofs) with
    |true=>simp only[iE];exact gA ⟨rfl,last,ofs,rfl,a1,a3,a4,.inr hc⟩
    |false=>simp only[iO,jb];exact gA ⟨rfl,ofs,2*ofs+1,rfl,by omega,by omega,by omega,hc⟩
end
theorem Gg(a b:nB):zg a b=(do
 rule "list.sort.merge-lo"
 let total:=a.size+b.size
 let done (out:nB) (ia ib:Nat):=out++a.extract ia a.size++b.extract ib b.size
 let r8 (out:nB) (ia ib:Nat):=out++b.extract ib b.size++a.extract ia a.size
 let mut out:Array Keyed:= #[<-elem' b 0]
 let mut ia:=0
 let mut ib:=1
 if ib==b.size then return done out ia ib
 if ia+1==a.size then return r8 out ia ib
 let mut minGallop:=gallopOf (<-get)
 for _ in [0:total] do
  let mut acount:=0
  let mut bcount:=0
  for _ in [0:total] do
   let some bWins <-lt' (<-elem' b ib) (<-elem' a ia)|return done out ia ib
   if bWins then
    out:=out.push (<-elem' b ib);ib:=ib+1;bcount:=bcount+1;acount:=0
    if ib==b.size then return done out ia ib
    if bcount>=minGallop then break
   else
    out:=out.push (<-elem' a ia);ia:=ia+1;acount:=acount+1;bcount:=0
    if ia+1==a.size then return r8 out ia ib
    if acount>=minGallop then break
  rule "list.sort.gallop"
  minGallop:=minGallop+1
  for _ in [0:total] do
   if minGallop>1 then minGallop:=minGallop-1
   vb minGallop
   let some k <-kS false (<-elem' b ib) a ia (a.size-ia) 0|return done out ia ib
   acount:=k
   if k>0 then
    out:=out++a.extract ia (ia+k);ia:=ia+k
    if ia+1==a.size then return r8 out ia ib
    if ia==a.size then return done out ia ib
   out:=out.push (<-elem' b ib);ib:=ib+1
   if ib==b.size then return done out ia ib
   let some k <-kS true (<-elem' a ia) b ib (b.size-ib) 0|return done out ia ib
   bcount:=k
   if k>0 then
    out:=out++b.extract ib (ib+k);ib:=ib+k
    if ib==b.size then return done out ia ib
   out:=out.push (<-elem' a ia);ia:=ia+1
   if ia+1==a.size then return r8 out ia ib
   if acount<7&&bcount<7 then break
  minGallop:=minGallop+1
  vb minGallop
 unsupported "internal:list.sort.merge-bound"):=rfl
section
variable {prog:hW}{w:gU}{A:gZ}{E:il}{G:Shared->Prop}{it:nA}{lt:lx}{κ:SortKind}{N:Nat}
structure Pre(lt:lx)(N:Nat)(q r:iM):Prop where
 sq:q.Pairwise (SL lt)
 sr:r.Pairwise (SL lt)
 ix: ∀x∈q,∀y∈r,x<y
 nq: ∀x∈q,x<N
 nr: ∀x∈r,x<N
structure MG(lt:lx)(q r o:iM)(ia ib:Nat):Prop where
 srt:o.Pairwise (SL lt)
 low: ∀x∈o,∀y,(y∈q.drop ia\/y∈r.drop ib)->SL lt x y
 pm:(o++(q.drop ia++r.drop ib)).Perm (q++r)
def Res(lt:lx)(it:nA)(q r:iM)(out:nB):Prop:= ∃o:List Nat,out=(o.map it).toArray/\o.Pairwise (SL lt)/\o.Perm (q++r)
theorem kb{l:iM}{i:Nat}(h:i<l.length):l.drop i=l[i]::l.drop (i+1):=ud h
theorem oH{l:iM}{i j:Nat}{x:Nat}(h:x∈l.drop j)(l9:i<=j):x∈l.drop i:=by
 rw[show j=i+(j-i) by omega,<-oR] at h;exact ly h
section
variable {q r o:iM}{ia ib:Nat}(W:Wk lt)(B:Pre lt N q r)
include W B
theorem Gr(h:ia<q.length): ∀y∈q.drop (ia+1),SL lt q[ia] y:=fun y hy=>by
 have:=B.sq.sublist (oQ ia q);rw[kb h,qc] at this;exact this.1 y hy
theorem CM(h:ib<r.length): ∀y∈r.drop (ib+1),SL lt r[ib] y:=fun y hy=>by
 have:=B.sr.sublist (oQ ib r);rw[kb h,qc] at this;exact this.1 y hy
theorem MG.putB(m:MG lt q r o ia ib)(hb:ib<r.length)(h: ∀y∈q.drop ia,SL lt r[ib] y):MG lt q r (o++[r[ib]]) ia (ib+1):=by
 have hm:r[ib]∈r.drop ib:=by rw[kb hb];exact iX
 refine⟨lW.mpr ⟨m.srt,BH _ _,fun x hx y hy=>?_⟩,fun x hx y hy=>?_,?_⟩
 ·rw[qw] at hy;subst hy;exact m.low x hx _ (.inr hm)
 ·rcases nG.mp hx with hx|hx
  ·exact m.low x hx y (hy.imp id fun z=>oH z (wq _))
  ·rw[qw] at hx;subst hx;exact hy.elim (h y) (CM W B hb y)
 ·refine List.Perm.trans ?_ m.pm;rw[kb hb,ki];refine pB o ?_;exact(EI (l₁:=q.drop ia) (l₂:=r.drop (ib+1)) (a:=r[ib])).symm
theorem MG.putA(m:MG lt q r o ia ib)(ha:ia<q.length)(h: ∀y∈r.drop ib,SL lt q[ia] y):MG lt q r (o++[q[ia]]) (ia+1) ib:=by
 have hm:q[ia]∈q.drop ia:=by rw[kb ha];exact iX
 refine⟨lW.mpr ⟨m.srt,BH _ _,fun x hx y hy=>?_⟩,fun x hx y hy=>?_,?_⟩
 ·rw[qw] at hy;subst hy;exact m.low x hx _ (.inl hm)
 ·rcases nG.mp hx with hx|hx
  ·exact m.low x hx y (hy.imp (fun z=>oH z (wq _)) id)
  ·rw[qw] at hx;subst hx;exact hy.elim (Gr W B ha y) (h y)
 ·refine List.Perm.trans ?_ m.pm;rw[kb ha,ki];exact tX _
theorem MG.putBs(m:MG lt q r o ia ib)(h: ∀x∈(r.drop ib).take k,∀y∈q.drop ia,SL lt x y):MG lt q r (o++(r.drop ib).take k) ia (ib+k):=by
 have hs:=B.sr.sublist (oQ ib r);rw[<-lL k (r.drop ib),lW] at hs;obtain⟨s1,s2,s3⟩:=hs;have e:r.drop (ib+k)=(r.drop ib).drop k:=by rw[oR]
 refine⟨lW.mpr ⟨m.srt,s1,fun x hx y hy=>m.low x hx y (.inr (ml hy))⟩,fun x hx y hy=>?_,?_⟩
 ·rcases nG.mp hx with hx|hx
  ·exact m.low x hx y (hy.imp id fun z=>oH z (Nat.le_add_right _ _))
  ·exact hy.elim (h x hx y) fun z=>s3 x hx y (by rw[<-e];exact z)
 ·refine List.Perm.trans ?_ m.pm;rw[e,ki];refine pB o ?_
  have:(List.take k (r.drop ib)++(q.drop ia++List.drop k (r.drop ib))).Perm (q.drop ia++(List.take k (r.drop ib)++List.drop k (r.drop ib))):=by
   rw[<-ki,<-ki];exact we _ BG
  rw[lL] at this;exact this
theorem MG.putAs(m:MG lt q r o ia ib)(h: ∀x∈(q.drop ia).take k,∀y∈r.drop ib,SL lt x y):MG lt q r (o++(q.drop ia).take k) (ia+k) ib:=by
 have hs:=B.sq.sublist (oQ ia q);rw[<-lL k (q.drop ia),lW] at hs;obtain⟨s1,s2,s3⟩:=hs;have e:q.drop (ia+k)=(q.drop ia).drop k:=by rw[oR]
 refine⟨lW.mpr ⟨m.srt,s1,fun x hx y hy=>m.low x hx y (.inl (ml hy))⟩,fun x hx y hy=>?_,?_⟩
 ·rcases nG.mp hx with hx|hx
  ·exact m.low x hx y (hy.imp (fun z=>oH z (Nat.le_add_right _ _)) id)
  ·exact hy.elim (fun z=>s3 x hx y (by rw[<-e];exact z)) (h x hx y)
 ·refine List.Perm.trans ?_ m.pm;rw[e,ki];refine pB o ?_;rw[<-ki,lL]
theorem MG.endA(m:MG lt q r o ia ib)(h:r.drop ib=[]):(o++q.drop ia).Pairwise (SL lt)/\(o++q.drop ia).Perm (q++r):=by
 have pm:=m.pm;rw[h,qF] at pm;exact⟨lW.mpr ⟨m.srt,B.sq.sublist (oQ ia q),fun x hx y hy=>m.low x hx y (.inl hy)⟩,pm⟩
theorem MG.endB(m:MG lt q r o ia ib)(h:q.drop ia=[]):(o++r.drop ib).Pairwise (SL lt)/\(o++r.drop ib).Perm (q++r):=by
 have pm:=m.pm;rw[h,pA] at pm;exact⟨lW.mpr ⟨m.srt,B.sr.sublist (oQ ib r),fun x hx y hy=>m.low x hx y (.inr hy)⟩,pm⟩
theorem MG.endL(m:MG lt q r o ia ib)(h: ∀x∈r.drop ib,∀y∈q.drop ia,SL lt x y):(o++(r.drop ib++q.drop ia)).Pairwise (SL lt)/\(o++(r.drop ib++q.drop ia)).Perm (q++r):=by
 refine⟨lW.mpr ⟨m.srt,lW.mpr ⟨B.sr.sublist (oQ ib r),B.sq.sublist (oQ ia q),h⟩,fun x hx y hy=>m.low x hx y ((nG.mp hy).symm)⟩,?_⟩;exact List.Perm.trans (pB o BG) m.pm
end
theorem jY{q:iM}{i:Nat}(hi:i<q.length){st:iU}{Q:Keyed->SortSt->Prop}(h:Q (it q[i]) st):wpI (model prog w) A E G (elem' (q.map it).toArray i) Q st:=by
 rw[elem'_eq];have:(q.map it).toArray[i]?=some (it q[i]):=by simp[hi]
 rw[this];exact gA h
theorem MM{q:iM}{i:Nat}(hi:i<q.length):P q.toArray i=q[i]:=by simp[P,hi]
theorem rq(W:Wk lt)(H:Ask prog w A E G it κ N lt){left:Bool}{x:Nat}{q:iM}{base n hint:Nat}(hx:x<N)(hq: ∀y∈q,y<N)(hn:base+n<=q.length)(hh:hint<n){st:iU}(hk:kindOf st=κ)(srt:((q.drop base).take n).Pairwise (SL lt)){Q:AB}
  (h: ∀r,r<=n->(∀y∈((q.drop base).take n).take r,(if left=true then lt y x else !lt x y)=true)->(∀y∈((q.drop base).take n).drop r,(if left=true then lt y x else !lt x y)=false)->Q (some r) st):
  wpI (model prog w) A E G (kS left (it x) (q.map it).toArray base n hint) Q st:=by
 have ea:(q.map it).toArray=q.toArray.map it:=by simp
 rw[ea];have hl:((q.drop base).take n).length=n:=by simp;lia
 have get: ∀i (hi:i<n),P q.toArray (base+i)=((q.drop base).take n)[i]:=fun i hi=>by
  rw[MM (by lia)];simp
 have bq: ∀i (hi:i<n),Bq lt left x q.toArray base i=(if left=true then lt (((q.drop base).take n)[i]) x else !lt x (((q.drop base).take n)[i])):=fun i hi=>by unfold Bq;rw[get i hi]
 refine FA H hx (fun k hk=>?_) (by simpa using hn) hh hk (fun i j ij jn hb=>?_) fun r r1 r2 r3=>h r r1 (fun y hy=>?_) (fun y hy=>?_)
 ·have dk:k<q.length:=by simpa using hk
  rw[MM dk];exact hq _ (kA dk)
 ·rcases BI i j with j0|fS
  ·rw[bq j jn] at hb;rw[bq i (by lia)];have sl:=G2.mp srt i j (by lia) (by lia) j0
   cases left with
   |true=>
    simp only[iE] at hb ⊢;exact W.le_lt (SL.le W sl) hb
   |false=>
    simp only[iO,jb,Bool.not_eq_true'] at hb ⊢;exact W.le_tr (SL.le W sl) hb
  ·have:i=j:=by lia
   subst this;exact hb
 ·obtain⟨i,hi,e⟩:=yq hy;have bC:i<r:=by simp at hi;lia
  have:=r2 i bC;rw[bq i (by lia)] at this;rw[<-e,List.getElem_take];exact this
 ·obtain⟨i,hi,e⟩:=yq hy;have bC:r+i<n:=by simp at hi;lia
  have:=r3 (r+i) (by lia) bC;rw[bq (r+i) bC] at this;rw[<-e,List.getElem_drop];exact this
theorem vN{o:iM}{x:Nat}:((o.map it).toArray.push (it x))=((o++[x]).map it).toArray:=by simp
theorem HZ{o q r:iM}{i j:Nat}:((o.map it).toArray++(q.map it).toArray.extract i (q.map it).toArray.size++(r.map it).toArray.extract j (r.map it).toArray.size)=((o++(q.drop i++r.drop j)).map it).toArray:=by
 simp[wd,wc];rw[sJ (by simp),sJ (by simp)]
theorem HY{o q:iM}{i k:Nat}:((o.map it).toArray++(q.map it).toArray.extract i (i+k))=((o++(q.drop i).take k).map it).toArray:=by
 simp[wd,wc]
def Same(st b7:iU):Prop:=kindOf b7=kindOf st/\arrOf b7=arrOf st/\pendingOf b7=pendingOf st/\failedOf b7=failedOf st
theorem Same.refl{st:iU}:Same st st:=⟨rfl,rfl,rfl,rfl⟩
theorem Same.trans{a b c:iU}(x:Same a b)(y:Same b c):Same a c:=⟨y.1.trans x.1,y.2.1.trans x.2.1,y.2.2.1.trans x.2.2.1,y.2.2.2.trans x.2.2.2⟩
theorem rp{n:Nat}{st:iU}{Q:Unit->SortSt->Prop}(h: ∀b7,Same st b7->Q () b7):wpI (model prog w) A E G (vb n) Q st:=
 jR (f:=fun s=>SortSt.mk' (kindOf s) (arrOf s) (pendingOf s) n (failedOf s)) (h _ ⟨rfl,rfl,rfl,rfl⟩)
theorem qL(W:Wk lt){q r o:iM}{ia ib:Nat}(B:Pre lt N q r)(m:MG lt q r o ia ib)(h:q.length<=ia\/r.length<=ib):Res lt it q r ((o.map it).toArray++(q.map it).toArray.extract ia (q.map it).toArray.size++(r.map it).toArray.extract ib (r.map it).toArray.size):=by
 refine⟨_,HZ,?_⟩;rcases h with h|h
 ·have e:q.drop ia=[]:=uc h;have:=m.endB W B e;rw[e,pA];exact this
 ·have e:r.drop ib=[]:=uc h;have:=m.endA W B e;rw[e,qF];exact this
theorem DH(W:Wk lt){q r o:iM}{ia ib:Nat}(B:Pre lt N q r)(m:MG lt q r o ia ib)(h: ∀x∈r.drop ib,∀y∈q.drop ia,SL lt x y):Res lt it q r ((o.map it).toArray++(r.map it).toArray.extract ib (r.map it).toArray.size++(q.map it).toArray.extract ia (q.map it).toArray.size):=
 ⟨_,HZ,m.endL W B h⟩
abbrev sz(q:iM)(it:nA):(q.map it).toArray.size=q.length:=by simp
abbrev LoS:=Option (Array Keyed)×Array Keyed×Nat×Nat×Nat×Nat×Nat
def Hc(a b out:nB)(ia ib mg k k2:Nat):StateT SortSt Sem (ForInStep LoS):=do
 let y <-elem' a ia
 if(ia+1+1==a.size)=true then pure (ForInStep.done (some (out.push y++b.extract ib b.size++a.extract (ia+1) a.size),out.push y,ia+1,ib,mg,k,k2))
 else if(decide (k<7)&&decide (k2<7))=true then pure (ForInStep.done (none,out.push y,ia+1,ib,mg,k,k2)) else pure (ForInStep.yield (none,out.push y,ia+1,ib,mg,k,k2))
def LN(a b out:nB)(ia ib mg k bc:Nat):StateT SortSt Sem (ForInStep LoS):=do
 let y <-elem' b ib
 if(ib+1==b.size)=true then pure (ForInStep.done (some (out.push y++a.extract ia a.size++b.extract (ib+1) b.size),out.push y,ia,ib+1,mg,k,bc))
 else do
  let z <-elem' a ia
  let x <-kS true z b (ib+1) (b.size-(ib+1)) 0
  match x with
  |some k2=>
   if k2>0 then
    if(ib+1+k2==b.size)=true then pure (ForInStep.done (some (out.push y++b.extract (ib+1) (ib+1+k2)++a.extract ia a.size++b.extract (ib+1+k2) b.size),out.push y++b.extract (ib+1) (ib+1+k2),ia,ib+1+k2,mg,k,k2))
    else Hc a b (out.push y++b.extract (ib+1) (ib+1+k2)) ia (ib+1+k2) mg k k2
   else Hc a b (out.push y) ia (ib+1) mg k k2
  |_=>pure (ForInStep.done (some (out.push y++a.extract ia a.size++b.extract (ib+1) b.size),out.push y,ia,ib+1,mg,k,bc))
def Ie(lt:lx)(it:nA)(q r:iM)(c st:Nat)(S:SortSt->Prop)(x:ForInStep LoS)(b7:iU):Prop:=
 match x with
 | .done c'=>S b7/\((∃res x,c'=(some res,x)/\Res lt it q r res)\/ ∃o2 i4 l5 t8 ac bc,c'=(none,(o2.map it).toArray,i4,l5,t8,ac,bc)/\MG lt q r o2 i4 l5/\i4+1<q.length/\l5<r.length/\c<=i4+l5)
 | .yield c'=> ∃o2 i4 l5 t8 ac bc,c'=(none,(o2.map it).toArray,i4,l5,t8,ac,bc)/\MG lt q r o2 i4 l5/\i4+1<q.length/\l5<r.length/\st<=i4+l5/\S b7
section
variable(W:Wk lt)(H:Ask prog w A E G it κ N lt){q r:iM}(B:Pre lt N q r)(top: ∀x∈r,∀y∈q.drop (q.length-1),SL lt x y){S:SortSt->Prop}{o:iM}{ia ib mg k k2 bc c cy:Nat}{st:iU}
include W H B top
theorem AE(m:MG lt q r o ia ib)(ha:ia+1<q.length)(hb:ib<r.length)(fb: ∀y∈r.drop ib,SL lt q[ia] y)(hs:S st)(hc:c<=ia+1+ib)(hy:cy<=ia+1+ib):
  wpI (model prog w) A E G (Hc (q.map it).toArray (r.map it).toArray (o.map it).toArray ia ib mg k k2) (Ie lt it q r c cy S) st:=by
 unfold Hc;refine gy (jY (i:=ia) (by lia) ?_);have m2:=m.putA W B (by lia) fb;rw[vN];refine iB (fun he=>?_) fun he=>?_
 ·have:ia+1+1=q.length:=by simpa using he
  exact gA ⟨hs,.inl ⟨_,_,rfl,DH W B m2 fun x hx y hy=>top x (ly hx) y (by rw[show q.length-1=ia+1 by lia];exact hy)⟩⟩
 ·have:ia+1+1≠q.length:=by simpa using he
  refine iB (fun h7=>?_) fun h7=>?_
  ·exact gA ⟨hs,.inr ⟨_,_,_,_,_,_,rfl,m2,by lia,hb,hc⟩⟩
  ·exact gA ⟨_,_,_,_,_,_,rfl,m2,by lia,hb,hy,hs⟩
theorem Ke(hk:kindOf st=κ)(m:MG lt q r o ia ib)(ha:ia+1<q.length)(hb:ib<r.length)(fa: ∀y∈q.drop ia,SL lt r[ib] y)(hs:S st)(hc:c<=ia+ib)(hy:cy<=ia+1+ib):
  wpI (model prog w) A E G (LN (q.map it).toArray (r.map it).toArray (o.map it).toArray ia ib mg k bc) (Ie lt it q r c cy S) st:=by
 unfold LN;refine gy (jY hb ?_);have m2:=m.putB W B hb fa;rw[vN];refine iB (fun he=>?_) fun he=>?_
 ·have:ib+1=r.length:=by simpa using he
  exact gA ⟨hs,.inl ⟨_,_,rfl,qL W B m2 (.inr (by lia))⟩⟩
 ·have he:ib+1≠r.length:=by simpa using he
  have en:(r.drop (ib+1)).take ((r.map it).toArray.size-(ib+1))=r.drop (ib+1):=sJ (by simp);refine gy (jY (i:=ia) (by lia) (gy (rq W H (B.nq _ (kA _)) B.nr (by rw[sz];lia) (by rw[sz];lia) hk (by rw[en];exact B.sr.sublist (oQ _ _)) fun k' k1 k2 k3=>?_)));rw[en] at k2 k3;rw[sz] at k1;simp only[iE] at k2 k3
  have m3:=m2.putBs W B (k:=k') fun x hx y hy=>by
   rw[kb (show ia<q.length by lia)] at hy;rcases jC.mp hy with rfl|hy
   ·exact .inl (k2 x hx)
   ·exact SL.trans W (.inl (k2 x hx)) (Gr W B (by lia) y hy)
  have fb: ∀y∈r.drop (ib+1+k'),SL lt q[ia] y:=fun y hy=>by
   rw[<-oR] at hy;exact .inr ⟨k3 y hy,B.ix _ (kA _) _ (ly (ly hy))⟩
  dsimp only;refine iB (fun hp=>?_) fun hp=>?_
  ·rw[HY];refine iB (fun hf=>?_) fun hf=>?_
   ·have:ib+1+k'=r.length:=by simpa using hf
    exact gA ⟨hs,.inl ⟨_,_,rfl,qL W B m3 (.inr (by lia))⟩⟩
   ·have:ib+1+k'≠r.length:=by simpa using hf
    exact AE W H B top m3 ha (by lia) fb hs (by lia) (by lia)
  ·have hz:k'=0:=by lia
   subst hz;exact AE W H B top m2 ha (by lia) fb hs (by lia) (by lia)
end
theorem Pn(W:Wk lt)(H:Ask prog w A E G it κ N lt){q r:iM}(B:Pre lt N q r)(h1:1<=q.length)(h2:1<=r.length)(hd: ∀y∈q,SL lt r[0] y)(top: ∀x∈r,∀y∈q.drop (q.length-1),SL lt x y){st:iU}(hk:kindOf st=κ){Q:Array Keyed->SortSt->Prop}
  (h: ∀out b7,Res lt it q r out->Same st b7->Q out b7):wpI (model prog w) A E G (zg (q.map it).toArray (r.map it).toArray) Q st:=by
 have aW: ∀{o ia ib},MG lt q r o ia ib->ia+1=q.length->Res lt it q r ((o.map it).toArray++(r.map it).toArray.extract ib (r.map it).toArray.size++(q.map it).toArray.extract ia (q.map it).toArray.size):=fun {o ia ib} m e=>DH W B m fun x hx y hy=>top x (ly hx) y (by rw[show q.length-1=ia by lia];exact hy);rw[Gg];dsimp only;refine gy (oV (gy (jY (by lia) ?_)))
 have m0:MG lt q r [r[0]] 0 1:=by
  have:=MG.putB (o:=[]) (ia:=0) (ib:=0) W B ⟨List.Pairwise.nil,fun x hx=>absurd hx kc,by simp⟩ (by lia) (by simpa using hd);simpa using this
 have e0: #[it r[0]]=(([r[0]]:List Nat).map it).toArray:=rfl;rw[e0];refine iB (fun bj=>?_) fun bj=>?_
 ·have:1=r.length:=by simpa using bj
  exact gA (h _ _ (qL W B m0 (.inr (by lia))) .refl)
 ·have bj:1≠r.length:=by simpa using bj
  refine iB (fun ax=>?_) fun ax=>?_
  ·have:0+1=q.length:=by simpa using ax
   exact gA (h _ _ (aW m0 this) .refl)
  ·have ax:1≠q.length:=by simpa using ax
   refine gy (ll ?_)
   refine gy (iT (iY (I:=fun i c b7=> ∃o ia ib mg,c=(none,(o.map it).toArray,ia,ib,mg)/\MG lt q r o ia ib/\ia+1<q.length/\ib<r.length/\i+1<=ia+ib/\Same st b7)
    (Q:=fun c b7=> ∃res x,c=(some res,x)/\Res lt it q r res/\Same st b7) ?step ?fin ⟨_,0,1,_,rfl,m0,by lia,by lia,by lia,.refl⟩) ?post)
   case post=>
    rintro c b7 ⟨res,x,rfl,hr,hs⟩;exact gA (h res b7 hr hs)
   case fin=>
    rintro c b7 ⟨o,ia,ib,mg,rfl,m,b1,b2,b3,hs⟩;rw[sz,sz] at b3
    lia
   case step=>
    rintro i c aI _ _ ⟨o,ia,ib,mg,rfl,m,b1,b2,b3,hs⟩;dsimp only
    refine gy (iT (iY (I:=fun j c b7=>b7=aI/\ ∃o' u9 y3 ac bc,c=(none,(o'.map it).toArray,u9,y3,ac,bc)/\MG lt q r o' u9 y3/\u9+1<q.length/\y3<r.length/\ia+ib+j<=u9+y3)
     (Q:=fun c b7=>b7=aI/\((∃res x,c=(some res,x)/\Res lt it q r res)\/ ∃o' u9 y3 ac bc,c=(none,(o'.map it).toArray,u9,y3,ac,bc)/\MG lt q r o' u9 y3/\u9+1<q.length/\y3<r.length/\ia+ib+1<=u9+y3)) ?step1 ?fin1 ⟨rfl,o,ia,ib,0,0,rfl,m,b1,b2,by lia⟩) ?post1)
    case fin1=>
     rintro c b7 ⟨rfl,o',u9,y3,ac,bc,rfl,m',c1,c2,c3⟩;rw[sz,sz] at c3
     lia
    case step1=>
     rintro j c b7 _ _ ⟨rfl,o',u9,y3,ac,bc,rfl,m',c1,c2,c3⟩;dsimp only;refine gy (jY c2 (gy (jY (i:=u9) (by lia) (gy (yD H (hs.1.trans hk) (B.nr _ (kA _)) (B.nq _ (kA _)) ?_)))));dsimp only
     cases hl:lt r[y3] q[u9] with
     |true=>
      simp only[iE];refine gy (jY c2 ?_)
      have m2:=m'.putB W B c2 fun y hy=>by
       rw[kb (show u9<q.length by lia)] at hy;rcases jC.mp hy with rfl|hy
       ·exact .inl hl
       ·exact SL.trans W (.inl hl) (Gr W B (by lia) y hy)
      rw[vN];refine iB (fun he=>?_) fun he=>?_
      ·have:y3+1=r.length:=by simpa using he
       exact gA ⟨rfl,.inl ⟨_,_,rfl,qL W B m2 (.inr (by lia))⟩⟩
      ·have:y3+1≠r.length:=by simpa using he
       refine iB (fun hg=>?_) fun hg=>?_
       ·exact gA ⟨rfl,.inr ⟨_,_,_,_,_,rfl,m2,c1,by lia,by lia⟩⟩
       ·exact gA ⟨rfl,_,_,_,_,_,rfl,m2,c1,by lia,by lia⟩
     |false=>
      simp only[iO,jb];refine gy (jY (i:=u9) (by lia) ?_)
      have m2:=m'.putA W B (by lia) fun y hy=>by
       rw[kb c2] at hy;have first:SL lt q[u9] r[y3]:= .inr ⟨hl,B.ix _ (kA _) _ (kA _)⟩;rcases jC.mp hy with rfl|hy
       ·exact first
       ·exact SL.trans W first (CM W B c2 y hy)
      rw[vN];refine iB (fun he=>?_) fun he=>?_
      ·have:u9+1+1=q.length:=by simpa using he
       exact gA ⟨rfl,.inl ⟨_,_,rfl,aW m2 this⟩⟩
      ·have:u9+1+1≠q.length:=by simpa using he
       refine iB (fun hg=>?_) fun hg=>?_
       ·exact gA ⟨rfl,.inr ⟨_,_,_,_,_,rfl,m2,by lia,c2,by lia⟩⟩
       ·exact gA ⟨rfl,_,_,_,_,_,rfl,m2,by lia,c2,by lia⟩
    case post1=>
     rintro c b7 ⟨rfl,⟨res,x,rfl,hr⟩|⟨o',u9,y3,ac,bc,rfl,m',c1,c2,c3⟩⟩
     ·exact gA ⟨res,_,rfl,hr,hs⟩
     ·dsimp only
      refine gy (oV (gy (iT (iY (I:=fun j c b7=> ∃o2 i4 l5 t8 ac bc,c=(none,(o2.map it).toArray,i4,l5,t8,ac,bc)/\MG lt q r o2 i4 l5/\i4+1<q.length/\l5<r.length/\ia+ib+1+j<=i4+l5/\Same st b7)
       (Q:=fun c b7=>Same st b7/\((∃res x,c=(some res,x)/\Res lt it q r res)\/ ∃o2 i4 l5 t8 ac bc,c=(none,(o2.map it).toArray,i4,l5,t8,ac,bc)/\MG lt q r o2 i4 l5/\i4+1<q.length/\l5<r.length/\ia+ib+1<=i4+l5)) ?step2 ?fin2 ⟨o',u9,y3,_,_,_,rfl,m',c1,c2,by lia,hs⟩) ?post2)))
      case fin2=>
       rintro c b7 ⟨o2,i4,l5,t8,ac,bc,rfl,m2,d1,d2,d3,p8⟩;rw[sz,sz] at d3
       lia
      case post2=>
       rintro c b7 ⟨p8,⟨res,x,rfl,hr⟩|⟨o2,i4,l5,t8,ac,bc,rfl,m2,d1,d2,d3⟩⟩
       ·exact gA ⟨res,_,rfl,hr,p8⟩
       ·dsimp only;exact gy (rp fun m5 o6=>gA ⟨o2,i4,l5,_,rfl,m2,d1,d2,by lia,p8.trans o6⟩)
      case step2=>
       rintro j c i3 _ _ ⟨o2,i4,l5,t8,ac,bc,rfl,m2,d1,d2,d3,p8⟩;dsimp only;have en:(q.drop i4).take ((q.map it).toArray.size-i4)=q.drop i4:=sJ (by simp)
       have mid: ∀(x9 k:Nat) (m5:iU),Same st m5->k<=(q.map it).toArray.size-i4->(∀y∈(q.drop i4).take k,lt r[l5] y=false)->(∀y∈(q.drop i4).drop k,lt r[l5] y=true)->i4+k+1≠q.length->i4+k≠q.length->
         wpI (model prog w) A E G (LN (q.map it).toArray (r.map it).toArray ((o2++(q.drop i4).take k).map it).toArray (i4+k) l5 x9 k bc) (Ie lt it q r (ia+ib+1) (ia+ib+1+(j+1)) (Same st)) m5:=fun x9 k m5 o6 k1 k2 k3 e1 e2=>by
        rw[sz] at k1;refine Ke W H B top (o6.1.trans hk) (m2.putAs W B fun x hx y hy=>?_) (by lia) d2 (fun y hy=>?_) o6 (by lia) (by lia)
        ·have first:SL lt x r[l5]:= .inr ⟨k2 x hx,B.ix x (ly (ml hx)) _ (kA _)⟩;rw[kb d2] at hy;rcases jC.mp hy with rfl|hy
         ·exact first
         ·exact SL.trans W first (CM W B d2 y hy)
        ·rw[<-oR] at hy;exact .inl (k3 y hy)
       have body: ∀(x9:Nat) (m5:iU),Same st m5->wpI (model prog w) A E G (do
         let y <-elem' (r.map it).toArray l5
         let x <-kS false y (q.map it).toArray i4 ((q.map it).toArray.size-i4) 0
         match x with
         |some k=>
          if k>0 then
           if(i4+k+1==(q.map it).toArray.size)=true then pure (ForInStep.done (some ((o2.map it).toArray++(q.map it).toArray.extract i4 (i4+k)++(r.map it).toArray.extract l5 (r.map it).toArray.size++(q.map it).toArray.extract (i4+k) (q.map it).toArray.size),(o2.map it).toArray++(q.map it).toArray.extract i4 (i4+k),i4+k,l5,x9,k,bc))
           else if(i4+k==(q.map it).toArray.size)=true then pure (ForInStep.done (some ((o2.map it).toArray++(q.map it).toArray.extract i4 (i4+k)++(q.map it).toArray.extract (i4+k) (q.map it).toArray.size++(r.map it).toArray.extract l5 (r.map it).toArray.size),(o2.map it).toArray++(q.map it).toArray.extract i4 (i4+k),i4+k,l5,x9,k,bc))
           else LN (q.map it).toArray (r.map it).toArray ((o2.map it).toArray++(q.map it).toArray.extract i4 (i4+k)) (i4+k) l5 x9 k bc
          else LN (q.map it).toArray (r.map it).toArray (o2.map it).toArray i4 l5 x9 k bc
         |_=>pure (ForInStep.done (some ((o2.map it).toArray++(q.map it).toArray.extract i4 (q.map it).toArray.size++(r.map it).toArray.extract l5 (r.map it).toArray.size),(o2.map it).toArray,i4,l5,x9,ac,bc))) (Ie lt it q r (ia+ib+1) (ia+ib+1+(j+1)) (Same st)) m5:=fun x9 m5 o6=>by
        refine gy (jY d2 (gy (rq W H (B.nr _ (kA _)) B.nq (by rw[sz];lia) (by rw[sz];lia) (o6.1.trans hk) (by rw[en];exact B.sq.sublist (oQ _ _)) fun k k1 k2 k3=>?_)));rw[en] at k2 k3;simp only[iO,jb,Bool.not_eq_true',Bool.not_eq_false'] at k2 k3;have fN:=k1;rw[sz] at fN
        have mA:MG lt q r (o2++(q.drop i4).take k) (i4+k) l5:=m2.putAs W B fun x hx y hy=>by
         have first:SL lt x r[l5]:= .inr ⟨k2 x hx,B.ix x (ly (ml hx)) _ (kA _)⟩;rw[kb d2] at hy;rcases jC.mp hy with rfl|hy
         ·exact first
         ·exact SL.trans W first (CM W B d2 y hy)
        dsimp only;refine iB (fun hp=>?_) fun hp=>?_
        ·rw[HY];refine iB (fun he=>?_) fun he=>?_
         ·exact gA ⟨o6,.inl ⟨_,_,rfl,aW mA (by simpa using he)⟩⟩
         ·refine iB (fun hf=>?_) fun hf=>?_
          ·have:i4+k=q.length:=by simpa using hf
           exact gA ⟨o6,.inl ⟨_,_,rfl,qL W B mA (.inl (by lia))⟩⟩
          ·exact mid x9 k m5 o6 k1 k2 k3 (by simpa using he) (by simpa using hf)
        ·have hz:k=0:=by lia
         subst hz;have:=mid x9 0 m5 o6 k1 k2 k3 (by lia) (by lia);simpa using this
       refine iB (fun hm=>?_) fun hm=>?_
       ·refine gy (rp fun m5 o6=>?_);exact iT (body _ m5 (p8.trans o6)) fun x b7 hx=>by cases x<;>exact hx
       ·refine gy (rp fun m5 o6=>?_);exact iT (body _ m5 (p8.trans o6)) fun x b7 hx=>by cases x<;>exact hx
end
theorem Gh(a b:nB):zh a b=(do
 rule "list.sort.merge-hi"
 let total:=a.size+b.size
 let done (out:nB) (na nb:Nat):=a.extract 0 na++b.extract 0 nb++out.reverse
 let n8 (out:nB) (na nb:Nat):=b.extract 0 nb++a.extract 0 na++out.reverse
 let mut na:=a.size-1
 let mut nb:=b.size
 let mut out:Array Keyed:= #[<-elem' a na]
 if na==0 then return done out na nb
 if nb==1 then return n8 out na nb
 let mut minGallop:=gallopOf (<-get)
 for _ in [0:total] do
  let mut acount:=0
  let mut bcount:=0
  for _ in [0:total] do
   let some aWins <-lt' (<-elem' b (nb-1)) (<-elem' a (na-1))|return done out na nb
   if aWins then
    na:=na-1;out:=out.push (<-elem' a na);acount:=acount+1;bcount:=0
    if na==0 then return done out na nb
    if acount>=minGallop then break
   else
    nb:=nb-1;out:=out.push (<-elem' b nb);bcount:=bcount+1;acount:=0
    if nb==1 then return n8 out na nb
    if bcount>=minGallop then break
  rule "list.sort.gallop"
  minGallop:=minGallop+1
  for _ in [0:total] do
   if minGallop>1 then minGallop:=minGallop-1
   vb minGallop
   let some at_ <-kS false (<-elem' b (nb-1)) a 0 na (na-1)|return done out na nb
   let k:=na-at_
   acount:=k
   if k>0 then
    out:=out++(a.extract at_ na).reverse;na:=at_
    if na==0 then return done out na nb
   nb:=nb-1;out:=out.push (<-elem' b nb)
   if nb==1 then return n8 out na nb
   let some at_ <-kS true (<-elem' a (na-1)) b 0 nb (nb-1)|return done out na nb
   let k:=nb-at_
   bcount:=k
   if k>0 then
    out:=out++(b.extract at_ nb).reverse;nb:=at_
    if nb==1 then return n8 out na nb
    if nb==0 then return done out na nb
   na:=na-1;out:=out.push (<-elem' a na)
   if na==0 then return done out na nb
   if acount<7&&bcount<7 then break
  minGallop:=minGallop+1
  vb minGallop
 unsupported "internal:list.sort.merge-bound"):=rfl
section
variable {prog:hW}{w:gU}{A:gZ}{E:il}{G:Shared->Prop}{it:nA}{lt:lx}{κ:SortKind}{N:Nat}
structure MH(lt:lx)(q r s:iM)(na nb:Nat):Prop where
 srt:s.Pairwise (SL lt)
 high: ∀y,(y∈q.take na\/y∈r.take nb)-> ∀x∈s,SL lt y x
 pm:(q.take na++r.take nb++s).Perm (q++r)
theorem ko{l:iM}{n:Nat}(h1:0<n)(h:n<=l.length):l.take n=l.take (n-1)++[l[n-1]]:=by
 obtain⟨m,rfl⟩: ∃m,n=m+1:=⟨n-1,by omega⟩
 rw[BF,jd (by omega)];rfl
theorem oG{l:iM}{i j x:Nat}(h:x∈l.take i)(l9:i<=j):x∈l.take j:=by
 have:=List.take_sublist_take_left (l:=l) l9;exact this.subset h
section
variable {q r s:iM}{na nb k:Nat}(W:Wk lt)(B:Pre lt N q r)
include W B
theorem Gx(h0:0<na)(h:na<=q.length): ∀y∈q.take (na-1),SL lt y q[na-1]:=fun y hy=>by
 have:=B.sq.sublist (mP na q);rw[ko h0 h,lW] at this;exact this.2.2 y hy _ (qw.mpr rfl)
theorem Gw(h0:0<nb)(h:nb<=r.length): ∀y∈r.take (nb-1),SL lt y r[nb-1]:=fun y hy=>by
 have:=B.sr.sublist (mP nb r);rw[ko h0 h,lW] at this;exact this.2.2 y hy _ (qw.mpr rfl)
theorem MH.putA(m:MH lt q r s na nb)(h0:0<na)(h1:na<=q.length)(h: ∀y∈r.take nb,SL lt y q[na-1]):MH lt q r (q[na-1]::s) (na-1) nb:=by
 have hm:q[na-1]∈q.take na:=by rw[ko h0 h1];exact oU _ (qw.mpr rfl)
 refine⟨qc.mpr ⟨fun x hx=>m.high _ (.inl hm) x hx,m.srt⟩,fun y hy x hx=>?_,?_⟩
 ·rcases jC.mp hx with rfl|hx
  ·exact hy.elim (Gx W B h0 h1 y) (h y)
  ·exact m.high y (hy.imp (fun z=>oG z (Nat.sub_le _ _)) id) x hx
 ·refine List.Perm.trans ?_ m.pm;rw[ko h0 h1]
  have e:(q.take (na-1)++r.take nb++q[na-1]::s).Perm (q.take (na-1)++(q[na-1]::(r.take nb++s))):=by
   rw[ki];exact pB _ EI
  refine e.trans (BE ?_);rw[ki,ki,BD]
theorem MH.putB(m:MH lt q r s na nb)(h0:0<nb)(h1:nb<=r.length)(h: ∀y∈q.take na,SL lt y r[nb-1]):MH lt q r (r[nb-1]::s) na (nb-1):=by
 have hm:r[nb-1]∈r.take nb:=by rw[ko h0 h1];exact oU _ (qw.mpr rfl)
 refine⟨qc.mpr ⟨fun x hx=>m.high _ (.inr hm) x hx,m.srt⟩,fun y hy x hx=>?_,?_⟩
 ·rcases jC.mp hx with rfl|hx
  ·exact hy.elim (h y) (Gw W B h0 h1 y)
  ·exact m.high y (hy.imp id fun z=>oG z (Nat.sub_le _ _)) x hx
 ·refine List.Perm.trans ?_ m.pm;refine BE ?_;rw[ko h0 h1,ki,ki,ki,BD]
theorem MH.putAs(m:MH lt q r s na nb)(hk:k<=na)(h: ∀y∈r.take nb,∀x∈(q.take na).drop k,SL lt y x):MH lt q r ((q.take na).drop k++s) k nb:=by
 have e:q.take k=(q.take na).take k:=by rw[tV,sH hk]
 have hs:=B.sq.sublist (mP na q);rw[<-lL k (q.take na),lW] at hs;obtain⟨s1,s2,s3⟩:=hs;refine⟨lW.mpr ⟨s2,m.srt,fun y hy x hx=>m.high y (.inl (ly hy)) x hx⟩,fun y hy x hx=>?_,?_⟩
 ·rcases nG.mp hx with hx|hx
  ·exact hy.elim (fun z=>s3 y (by rw[<-e];exact z) x hx) fun z=>h y z x hx
  ·exact m.high y (hy.imp (fun z=>oG z hk) id) x hx
 ·refine List.Perm.trans ?_ m.pm;rw[<-ki];refine we s ?_;rw[e]
  have:((q.take na).take k++r.take nb++(q.take na).drop k).Perm ((q.take na).take k++(q.take na).drop k++r.take nb):=by
   rw[ki,ki];exact pB _ BG
  rwa [lL] at this
theorem MH.putBs(m:MH lt q r s na nb)(hk:k<=nb)(h: ∀y∈q.take na,∀x∈(r.take nb).drop k,SL lt y x):MH lt q r ((r.take nb).drop k++s) na k:=by
 have e:r.take k=(r.take nb).take k:=by rw[tV,sH hk]
 have hs:=B.sr.sublist (mP nb r);rw[<-lL k (r.take nb),lW] at hs;obtain⟨s1,s2,s3⟩:=hs;refine⟨lW.mpr ⟨s2,m.srt,fun y hy x hx=>m.high y (.inr (ly hy)) x hx⟩,fun y hy x hx=>?_,?_⟩
 ·rcases nG.mp hx with hx|hx
  ·exact hy.elim (fun z=>h y z x hx) fun z=>s3 y (by rw[<-e];exact z) x hx
  ·exact m.high y (hy.imp id fun z=>oG z hk) x hx
 ·refine List.Perm.trans ?_ m.pm;rw[e,<-ki];refine we s ?_;rw[ki,lL]
theorem MH.endA(m:MH lt q r s na nb)(h:na=0\/nb=0):(q.take na++r.take nb++s).Pairwise (SL lt):=by
 refine lW.mpr ⟨?_,m.srt,fun y hy x hx=>m.high y (nG.mp hy) x hx⟩;rcases h with rfl|rfl
 ·rw[List.take_zero,pA];exact B.sr.sublist (mP _ _)
 ·rw[List.take_zero,qF];exact B.sq.sublist (mP _ _)
theorem MH.endL(m:MH lt q r s na nb)(h: ∀x∈r.take nb,∀y∈q.take na,SL lt x y):(r.take nb++q.take na++s).Pairwise (SL lt)/\(r.take nb++q.take na++s).Perm (q++r):=
 ⟨lW.mpr ⟨lW.mpr ⟨B.sr.sublist (mP _ _),B.sq.sublist (mP _ _),h⟩,m.srt,fun y hy x hx=>m.high y ((nG.mp hy).symm) x hx⟩,(we s BG).trans m.pm⟩
end
theorem sd:((s.reverse.map it).toArray.push (it x))=((x::s).reverse.map it).toArray:=by simp
theorem EG{s q r:iM}{i j:Nat}:((q.map it).toArray.extract 0 i++(r.map it).toArray.extract 0 j++(s.reverse.map it).toArray.reverse)=((q.take i++r.take j++s).map it).toArray:=by
 simp[wd,wc]
theorem EF{s q:iM}{i k:Nat}:((s.reverse.map it).toArray++((q.map it).toArray.extract k i).reverse)=(((q.take i).drop k++s).reverse.map it).toArray:=by
 simp[wd,wc,List.drop_take]
theorem pd(W:Wk lt){q r s:iM}{na nb:Nat}(B:Pre lt N q r)(m:MH lt q r s na nb)(h:na=0\/nb=0):Res lt it q r ((q.map it).toArray.extract 0 na++(r.map it).toArray.extract 0 nb++(s.reverse.map it).toArray.reverse):=⟨_,EG,m.endA W B h,m.pm⟩
theorem FW(W:Wk lt){q r s:iM}{na nb:Nat}(B:Pre lt N q r)(m:MH lt q r s na nb)(h: ∀x∈r.take nb,∀y∈q.take na,SL lt x y):Res lt it q r ((r.map it).toArray.extract 0 nb++(q.map it).toArray.extract 0 na++(s.reverse.map it).toArray.reverse):=⟨_,EG,m.endL W B h⟩
end
abbrev HiS:=Option (Array Keyed)×Nat×Nat×Array Keyed×Nat×Nat×Nat
def Hd(a b out:nB)(na nb mg k k2:Nat):StateT SortSt Sem (ForInStep HiS):=do
 let y <-elem' a (na-1)
 if(na-1==0)=true then pure (ForInStep.done (some (a.extract 0 (na-1)++b.extract 0 nb++(out.push y).reverse),na-1,nb,out.push y,mg,k,k2))
 else if(decide (k<7)&&decide (k2<7))=true then pure (ForInStep.done (none,na-1,nb,out.push y,mg,k,k2)) else pure (ForInStep.yield (none,na-1,nb,out.push y,mg,k,k2))
def Oa(a b out:nB)(na nb mg k bc:Nat):StateT SortSt Sem (ForInStep HiS):=do
 let y <-elem' b (nb-1)
 if(nb-1==1)=true then pure (ForInStep.done (some (b.extract 0 (nb-1)++a.extract 0 na++(out.push y).reverse),na,nb-1,out.push y,mg,k,bc))
 else do
  let z <-elem' a (na-1)
  let x <-kS true z b 0 (nb-1) (nb-1-1)
  match x with
  |some at_=>
   if nb-1-at_>0 then
    if(at_==1)=true then pure (ForInStep.done (some (b.extract 0 at_++a.extract 0 na++(out.push y++(b.extract at_ (nb-1)).reverse).reverse),na,at_,out.push y++(b.extract at_ (nb-1)).reverse,mg,k,nb-1-at_))
    else if(at_==0)=true then pure (ForInStep.done (some (a.extract 0 na++b.extract 0 at_++(out.push y++(b.extract at_ (nb-1)).reverse).reverse),na,at_,out.push y++(b.extract at_ (nb-1)).reverse,mg,k,nb-1-at_))
    else Hd a b (out.push y++(b.extract at_ (nb-1)).reverse) na at_ mg k (nb-1-at_)
   else Hd a b (out.push y) na (nb-1) mg k (nb-1-at_)
  |_=>pure (ForInStep.done (some (a.extract 0 na++b.extract 0 (nb-1)++(out.push y).reverse),na,nb-1,out.push y,mg,k,bc))
def MP(lt:lx)(it:nA)(q r:iM)(c cy:Nat)(S:SortSt->Prop)(x:ForInStep HiS)(b7:iU):Prop:=
 match x with
 | .done c'=>S b7/\((∃res x,c'=(some res,x)/\Res lt it q r res)\/ ∃s2 j6 k8 t8 ac bc,c'=(none,j6,k8,(s2.reverse.map it).toArray,t8,ac,bc)/\MH lt q r s2 j6 k8/\1<=j6/\j6<=q.length/\2<=k8/\k8<=r.length/\j6+k8+c<=q.length+r.length)
 | .yield c'=> ∃s2 j6 k8 t8 ac bc,c'=(none,j6,k8,(s2.reverse.map it).toArray,t8,ac,bc)/\MH lt q r s2 j6 k8/\1<=j6/\j6<=q.length/\2<=k8/\k8<=r.length/\j6+k8+cy<=q.length+r.length/\S b7
section
variable {prog:hW}{w:gU}{A:gZ}{E:il}{G:Shared->Prop}{it:nA}{lt:lx}{κ:SortKind}{N:Nat}
section
variable(W:Wk lt)(H:Ask prog w A E G it κ N lt){q r:iM}(B:Pre lt N q r)(bot: ∀x∈r.take 1,∀y∈q,SL lt x y){S:SortSt->Prop}{s:iM}{na nb mg k k2 bc c cy:Nat}{st:iU}
include W H B bot
theorem AF(m:MH lt q r s na nb)(ha:1<=na)(dw:na<=q.length)(hb:2<=nb)(eS:nb<=r.length)(fa: ∀y∈r.take nb,SL lt y q[na-1])(hs:S st)(hc:na-1+nb+c<=q.length+r.length)(hy:na-1+nb+cy<=q.length+r.length):
  wpI (model prog w) A E G (Hd (q.map it).toArray (r.map it).toArray (s.reverse.map it).toArray na nb mg k k2) (MP lt it q r c cy S) st:=by
 unfold Hd;refine gy (jY (i:=na-1) (by lia) ?_);have m2:=m.putA W B (by lia) dw fa;rw[sd];refine iB (fun he=>?_) fun he=>?_
 ·exact gA ⟨hs,.inl ⟨_,_,rfl,pd W B m2 (.inl (by simpa using he))⟩⟩
 ·have:na-1≠0:=fun z=>he (by simp[z]);refine iB (fun h7=>?_) fun h7=>?_
  ·exact gA ⟨hs,.inr ⟨_,_,_,_,_,_,rfl,m2,by lia,by lia,hb,eS,hc⟩⟩
  ·exact gA ⟨_,_,_,_,_,_,rfl,m2,by lia,by lia,hb,eS,hy,hs⟩
theorem zB(m:MH lt q r s na nb)(h:nb=1):Res lt it q r ((r.map it).toArray.extract 0 nb++(q.map it).toArray.extract 0 na++(s.reverse.map it).toArray.reverse):=FW W B m fun x hx y hy=>bot x (by rw[<-h];exact hx) y (ml hy)
theorem Df(hk:kindOf st=κ)(m:MH lt q r s na nb)(ha:1<=na)(dw:na<=q.length)(hb:2<=nb)(eS:nb<=r.length)(fb: ∀y∈q.take na,SL lt y r[nb-1])(hs:S st)(hc:na+nb+c<=q.length+r.length+1)(hy:na+nb+cy<=q.length+r.length+2):
  wpI (model prog w) A E G (Oa (q.map it).toArray (r.map it).toArray (s.reverse.map it).toArray na nb mg k bc) (MP lt it q r c cy S) st:=by
 unfold Oa;refine gy (jY (i:=nb-1) (by lia) ?_);have m2:=m.putB W B (by lia) eS fb;rw[sd];refine iB (fun he=>?_) fun he=>?_
 ·exact gA ⟨hs,.inl ⟨_,_,rfl,zB W H B bot m2 (by simpa using he)⟩⟩
 ·have he:nb-1≠1:=fun z=>he (by simp[z]);have en:(r.drop 0).take (nb-1)=r.take (nb-1):=by rw[wa]
  refine gy (jY (i:=na-1) (by lia) (gy (rq W H (B.nq _ (kA _)) B.nr (by lia) (by lia) hk (by rw[en];exact B.sr.sublist (mP _ _)) fun k' k1 k2 k3=>?_)));rw[en] at k2 k3;simp only[iE] at k2 k3
  have m3:=m2.putBs W B (k:=k') k1 fun y hy x hx=>by
   have first:SL lt q[na-1] x:= .inr ⟨k3 x hx,B.ix _ (kA _) _ (ml (ly hx))⟩;rw[ko ha dw] at hy;rcases nG.mp hy with hy|hy
   ·exact SL.trans W (Gx W B ha dw y hy) first
   ·rw[qw] at hy;subst hy;exact first
  have e2:r.take k'=(r.take (nb-1)).take k':=by rw[tV,sH k1]
  have fa: ∀y∈r.take k',SL lt y q[na-1]:=fun y hy=> .inl (k2 y (by rw[<-e2];exact hy));dsimp only;refine iB (fun hp=>?_) fun hp=>?_
  ·rw[EF];refine iB (fun hf=>?_) fun hf=>?_
   ·exact gA ⟨hs,.inl ⟨_,_,rfl,zB W H B bot m3 (by simpa using hf)⟩⟩
   ·have hf:k'≠1:=fun z=>hf (by simp[z]);refine iB (fun hg=>?_) fun hg=>?_
    ·exact gA ⟨hs,.inl ⟨_,_,rfl,pd W B m3 (.inr (by simpa using hg))⟩⟩
    ·have hg:k'≠0:=fun z=>hg (by simp[z]);exact AF W H B bot m3 ha dw (by lia) (by lia) fa hs (by lia) (by lia)
  ·have hz:k'=nb-1:=by lia
   subst hz;exact AF W H B bot m2 ha dw (by lia) (by lia) fa hs (by lia) (by lia)
end
theorem Po(W:Wk lt)(H:Ask prog w A E G it κ N lt){q r:iM}(B:Pre lt N q r)(h1:1<=q.length)(h2:1<=r.length)(bot: ∀x∈r.take 1,∀y∈q,SL lt x y)(top: ∀x∈r,SL lt x q[q.length-1]){st:iU}(hk:kindOf st=κ){Q:Array Keyed->SortSt->Prop}
  (h: ∀out b7,Res lt it q r out->Same st b7->Q out b7):wpI (model prog w) A E G (zh (q.map it).toArray (r.map it).toArray) Q st:=by
 have firstB: ∀{s na nb},MH lt q r s na nb->nb=1->Res lt it q r ((r.map it).toArray.extract 0 nb++(q.map it).toArray.extract 0 na++(s.reverse.map it).toArray.reverse):=fun m e=>zB W H B bot m e;rw[Gh];dsimp only;have e1:(q.map it).toArray.size=q.length:=sz q it;have e2:(r.map it).toArray.size=r.length:=sz r it;rw[e1,e2];refine gy (oV (gy (jY (i:=q.length-1) (by lia) ?_)))
 have m0:MH lt q r [q[q.length-1]] (q.length-1) r.length:=by
  have:=MH.putA (s:=[]) (na:=q.length) (nb:=r.length) W B ⟨List.Pairwise.nil,fun y hy x hx=>absurd hx kc,by simp⟩ (by lia) (ir _) (fun y hy=>top y (ml hy));exact this
 have e0: #[it q[q.length-1]]=(([q[q.length-1]]:List Nat).reverse.map it).toArray:=rfl;rw[e0];refine iB (fun ax=>?_) fun ax=>?_
 ·exact gA (h _ _ (pd W B m0 (.inl (by simpa using ax))) .refl)
 ·have ax:q.length-1≠0:=fun z=>ax (by simp[z]);refine iB (fun bj=>?_) fun bj=>?_
  ·exact gA (h _ _ (firstB m0 (by simpa using bj)) .refl)
  ·have bj:r.length≠1:=fun z=>bj (by simp[z]);refine gy (ll ?_)
   refine gy (iT (iY (I:=fun i c b7=> ∃s na nb mg,c=(none,na,nb,(s.reverse.map it).toArray,mg)/\MH lt q r s na nb/\1<=na/\na<=q.length/\2<=nb/\nb<=r.length/\na+nb+(i+1)<=q.length+r.length/\Same st b7)
    (Q:=fun c b7=> ∃res x,c=(some res,x)/\Res lt it q r res/\Same st b7) ?step ?fin ⟨_,q.length-1,r.length,_,rfl,m0,by lia,by lia,by lia,by lia,by lia,.refl⟩) ?post)
   case post=>
    rintro c b7 ⟨res,x,rfl,hr,hs⟩;exact gA (h res b7 hr hs)
   case fin=>
    rintro c b7 ⟨s,na,nb,mg,rfl,m,b1,b2,b3,b4,b5,hs⟩
    lia
   case step=>
    rintro i c aI _ _ ⟨s,na,nb,mg,rfl,m,b1,b2,b3,b4,b5,hs⟩;dsimp only
    refine gy (iT (iY (I:=fun j c b7=>b7=aI/\ ∃s' u7 i5 ac bc,c=(none,u7,i5,(s'.reverse.map it).toArray,ac,bc)/\MH lt q r s' u7 i5/\1<=u7/\u7<=q.length/\2<=i5/\i5<=r.length/\u7+i5+j<=na+nb)
     (Q:=fun c b7=>b7=aI/\((∃res x,c=(some res,x)/\Res lt it q r res)\/ ∃s' u7 i5 ac bc,c=(none,u7,i5,(s'.reverse.map it).toArray,ac,bc)/\MH lt q r s' u7 i5/\1<=u7/\u7<=q.length/\2<=i5/\i5<=r.length/\u7+i5+1<=na+nb)) ?step1 ?fin1 ⟨rfl,s,na,nb,0,0,rfl,m,b1,b2,b3,b4,by lia⟩) ?post1)
    case fin1=>
     rintro c b7 ⟨rfl,s',u7,i5,ac,bc,rfl,m',c1,c2,c3,c4,c5⟩
     lia
    case step1=>
     rintro j c b7 _ _ ⟨rfl,s',u7,i5,ac,bc,rfl,m',c1,c2,c3,c4,c5⟩;dsimp only;refine gy (jY (i:=i5-1) (by lia) (gy (jY (i:=u7-1) (by lia) (gy (yD H (hs.1.trans hk) (B.nr _ (kA _)) (B.nq _ (kA _)) ?_)))));dsimp only
     cases hl:lt r[i5-1] q[u7-1] with
     |true=>
      simp only[iE];refine gy (jY (i:=u7-1) (by lia) ?_)
      have m2:=m'.putA W B c1 c2 fun y hy=>by
       rw[ko (show 0<i5 by lia) c4] at hy;rcases nG.mp hy with hy|hy
       ·exact SL.trans W (Gw W B (by lia) c4 y hy) (.inl hl)
       ·rw[qw] at hy;subst hy;exact .inl hl
      rw[sd];refine iB (fun he=>?_) fun he=>?_
      ·exact gA ⟨rfl,.inl ⟨_,_,rfl,pd W B m2 (.inl (by simpa using he))⟩⟩
      ·have:u7-1≠0:=fun z=>he (by simp[z]);refine iB (fun hg=>?_) fun hg=>?_
       ·exact gA ⟨rfl,.inr ⟨_,_,_,_,_,rfl,m2,by lia,by lia,c3,c4,by lia⟩⟩
       ·exact gA ⟨rfl,_,_,_,_,_,rfl,m2,by lia,by lia,c3,c4,by lia⟩
     |false=>
      simp only[iO,jb];refine gy (jY (i:=i5-1) (by lia) ?_)
      have m2:=m'.putB W B (by lia) c4 fun y hy=>by
       have first:SL lt q[u7-1] r[i5-1]:= .inr ⟨hl,B.ix _ (kA _) _ (kA _)⟩;rw[ko c1 c2] at hy;rcases nG.mp hy with hy|hy
       ·exact SL.trans W (Gx W B c1 c2 y hy) first
       ·rw[qw] at hy;subst hy;exact first
      rw[sd];refine iB (fun he=>?_) fun he=>?_
      ·exact gA ⟨rfl,.inl ⟨_,_,rfl,firstB m2 (by simpa using he)⟩⟩
      ·have:i5-1≠1:=fun z=>he (by simp[z]);refine iB (fun hg=>?_) fun hg=>?_
       ·exact gA ⟨rfl,.inr ⟨_,_,_,_,_,rfl,m2,c1,c2,by lia,by lia,by lia⟩⟩
       ·exact gA ⟨rfl,_,_,_,_,_,rfl,m2,c1,c2,by lia,by lia,by lia⟩
    case post1=>
     rintro c b7 ⟨rfl,⟨res,x,rfl,hr⟩|⟨s',u7,i5,ac,bc,rfl,m',c1,c2,c3,c4,c5⟩⟩
     ·exact gA ⟨res,_,rfl,hr,hs⟩
     ·dsimp only
      refine gy (oV (gy (iT (iY (I:=fun j c b7=> ∃s2 j6 k8 t8 ac bc,c=(none,j6,k8,(s2.reverse.map it).toArray,t8,ac,bc)/\MH lt q r s2 j6 k8/\1<=j6/\j6<=q.length/\2<=k8/\k8<=r.length/\j6+k8+(i+2+j)<=q.length+r.length/\Same st b7)
       (Q:=fun c b7=>Same st b7/\((∃res x,c=(some res,x)/\Res lt it q r res)\/ ∃s2 j6 k8 t8 ac bc,c=(none,j6,k8,(s2.reverse.map it).toArray,t8,ac,bc)/\MH lt q r s2 j6 k8/\1<=j6/\j6<=q.length/\2<=k8/\k8<=r.length/\j6+k8+(i+2)<=q.length+r.length)) ?step2 ?fin2 ⟨s',u7,i5,_,_,_,rfl,m',c1,c2,c3,c4,by lia,hs⟩) ?post2)))
      case fin2=>
       rintro c b7 ⟨s2,j6,k8,t8,ac,bc,rfl,m2,d1,d2,d3,d4,d5,p8⟩
       lia
      case post2=>
       rintro c b7 ⟨p8,⟨res,x,rfl,hr⟩|⟨s2,j6,k8,t8,ac,bc,rfl,m2,d1,d2,d3,d4,d5⟩⟩
       ·exact gA ⟨res,_,rfl,hr,p8⟩
       ·dsimp only;exact gy (rp fun m5 o6=>gA ⟨s2,j6,k8,_,rfl,m2,d1,d2,d3,d4,by lia,p8.trans o6⟩)
      case step2=>
       rintro j c i3 _ _ ⟨s2,j6,k8,t8,ac,bc,rfl,m2,d1,d2,d3,d4,d5,p8⟩;dsimp only;have en:(q.drop 0).take j6=q.take j6:=by rw[wa]
       have body: ∀(x9:Nat) (m5:iU),Same st m5->wpI (model prog w) A E G (do
         let y <-elem' (r.map it).toArray (k8-1)
         let x <-kS false y (q.map it).toArray 0 j6 (j6-1)
         match x with
         |some at_=>
          if j6-at_>0 then
           if(at_==0)=true then pure (ForInStep.done (some ((q.map it).toArray.extract 0 at_++(r.map it).toArray.extract 0 k8++((s2.reverse.map it).toArray++((q.map it).toArray.extract at_ j6).reverse).reverse),at_,k8,(s2.reverse.map it).toArray++((q.map it).toArray.extract at_ j6).reverse,x9,j6-at_,bc))
           else Oa (q.map it).toArray (r.map it).toArray ((s2.reverse.map it).toArray++((q.map it).toArray.extract at_ j6).reverse) at_ k8 x9 (j6-at_) bc
          else Oa (q.map it).toArray (r.map it).toArray (s2.reverse.map it).toArray j6 k8 x9 (j6-at_) bc
         |_=>pure (ForInStep.done (some ((q.map it).toArray.extract 0 j6++(r.map it).toArray.extract 0 k8++(s2.reverse.map it).toArray.reverse),j6,k8,(s2.reverse.map it).toArray,x9,ac,bc))) (MP lt it q r (i+2) (i+2+(j+1)) (Same st)) m5:=fun x9 m5 o6=>by
        refine gy (jY (i:=k8-1) (by lia) (gy (rq W H (B.nr _ (kA _)) B.nq (by lia) (by lia) (o6.1.trans hk) (by rw[en];exact B.sq.sublist (mP _ _)) fun k k1 k2 k3=>?_)));rw[en] at k2 k3;simp only[iO,jb,Bool.not_eq_true',Bool.not_eq_false'] at k2 k3
        have mA:MH lt q r ((q.take j6).drop k++s2) k k8:=m2.putAs W B k1 fun y hy x hx=>by
         have first:SL lt r[k8-1] x:= .inl (k3 x hx);rw[ko (show 0<k8 by lia) d4] at hy;rcases nG.mp hy with hy|hy
         ·exact SL.trans W (Gw W B (by lia) d4 y hy) first
         ·rw[qw] at hy;subst hy;exact first
        have ek:q.take k=(q.take j6).take k:=by rw[tV,sH k1]
        have fb: ∀y∈q.take k,SL lt y r[k8-1]:=fun y hy=> .inr ⟨k2 y (by rw[<-ek];exact hy),B.ix _ (ml hy) _ (kA _)⟩;dsimp only;refine iB (fun hp=>?_) fun hp=>?_
        ·rw[EF];refine iB (fun he=>?_) fun he=>?_
         ·exact gA ⟨o6,.inl ⟨_,_,rfl,pd W B mA (.inl (by simpa using he))⟩⟩
         ·have he:k≠0:=fun z=>he (by simp[z]);exact Df W H B bot (o6.1.trans hk) mA (by lia) (by lia) d3 d4 fb o6 (by lia) (by lia)
        ·have hz:k=j6:=by lia
         subst hz;exact Df W H B bot (o6.1.trans hk) m2 d1 d2 d3 d4 fb o6 (by lia) (by lia)
       refine iB (fun hm=>?_) fun hm=>?_
       ·refine gy (rp fun m5 o6=>?_);exact iT (body _ m5 (p8.trans o6)) fun x b7 hx=>by cases x<;>exact hx
       ·refine gy (rp fun m5 o6=>?_);exact iT (body _ m5 (p8.trans o6)) fun x b7 hx=>by cases x<;>exact hx
end
theorem Gi(i:Nat):mergeAt' i=(do
 let s <-get
 let(some (sa,na,power),some (sb,nb,_)):=((pendingOf s)[i]?,(pendingOf s)[i+1]?)|unsupported "internal:list.sort.pending"
 set (setPending s (((pendingOf s).setIfInBounds i (sa,na+nb,power)).eraseIdxIfInBounds (i+1)))
 let some k <-kS false (<-elem' (arrOf s) sb) (arrOf s) sa na 0|return false
 let(sa,na):=(sa+k,na-k)
 if na==0 then return true
 let some nb <-kS true (<-elem' (arrOf s) (sa+na-1)) (arrOf s) sb nb (nb-1)|return false
 if nb==0 then return true
 let x:=(arrOf s).extract sa sb
 let y:=(arrOf s).extract sb (sb+nb)
 let merged <-if na<=nb then zg x y else zh x y
 modify fun s=>setArr s (merged.toList.zipIdx.foldl (fun a (p,j)=>a.setIfInBounds (sa+j) p) (arrOf s))
 return (failedOf (<-get)).isNone):=rfl
def seg(L:iM)(a n:Nat):List Nat:=(L.drop a).take n
section
variable {lt:lx}{p:jQ}{a b n m:Nat}{L:iM}
theorem ya(h:a+n<=L.length):(seg L a n).length=n:=by simp[seg];lia
theorem Ce{i:Nat}(hi:i<n):(seg L a n)[i]?=L[a+i]?:=by
 simp only[seg,List.getElem?_take,hi,iE,vZ]
theorem Pu(h:a+n<=p.size):Up lt p a (a+n)↔(seg p.toList a n).Pairwise (SL lt):=by
 have hl:(seg p.toList a n).length=n:=ya (by simpa using h)
 have get: ∀i (hi:i<n),(seg p.toList a n)[i]'(by lia)=P p (a+i):=fun i hi=>by
  have:(seg p.toList a n)[i]?=some (P p (a+i)):=by
   rw[Ce hi];have:=xu (p:=p) (i:=a+i) (by lia);simpa using this
  rw[jd (by lia)] at this;exact iR this
 rw[G2];constructor
 ·intro u i j hi hj l9;rw[get i (by lia),get j (by lia)];exact u _ _ (by lia) (by lia) (by lia)
 ·intro u i j h1 h2 h3;have:=u (i-a) (j-a) (by lia) (by lia) (by lia);rw[get _ (by lia),get _ (by lia),show a+(i-a)=i by lia,show a+(j-a)=j by lia] at this;exact this
theorem Na(h:a+n<=p.size)(lo hi:Nat):(∀k,a<=k->k<a+n->lo<=P p k/\P p k<hi)↔ ∀x∈seg p.toList a n,lo<=x/\x<hi:=by
 have hl:(seg p.toList a n).length=n:=ya (by simpa using h)
 have get: ∀i (hi:i<n),(seg p.toList a n)[i]'(by lia)=P p (a+i):=fun i hi=>by
  have:(seg p.toList a n)[i]?=some (P p (a+i)):=by
   rw[Ce hi];have:=xu (p:=p) (i:=a+i) (by lia);simpa using this
  rw[jd (by lia)] at this;exact iR this
 constructor
 ·intro u x hx;obtain⟨i,hi,e⟩:=yq hx;rw[<-e,get i (by lia)];exact u _ (by lia) (by lia)
 ·intro u k k1 k2;have:=u _ (kA (l:=seg p.toList a n) (n:=k-a) (by lia));rw[get _ (by lia),show a+(k-a)=k by lia] at this;exact this
theorem uj(h:a+n+m<=L.length):seg L a (n+m)=seg L a n++seg L (a+n) m:=by
 unfold seg;rw[List.take_add,oR]
theorem LU(h:a+n<=L.length):L=L.take a++(seg L a n++L.drop (a+n)):=by
 unfold seg;rw[show L.drop (a+n)=(L.drop a).drop n by rw[oR],lL,lL]
theorem Eh{α:Type}: ∀(m:List α) (j a:Nat) (L:List α),a+j+m.length<=L.length->((m.zipIdx j).foldl (fun(x:Array α) (p:α×Nat)=>x.setIfInBounds (a+p.2) p.1) L.toArray).toList=L.take (a+j)++(m++L.drop (a+j+m.length))
 |[],j,a,L,h=>by simp
 |x::m,j,a,L,h=>by
  simp only[kD] at h;rw[List.zipIdx_cons,tU];dsimp only;rw[List.setIfInBounds_toArray,Eh m (j+1) a (L.set (a+j) x) (by rw[sP];lia)]
  have e1:(L.set (a+j) x).take (a+(j+1))=L.take (a+j)++[x]:=by
   rw[show a+(j+1)=a+j+1 by lia,BF,JQ (ir _),qv (by lia)];rfl
  have e2:(L.set (a+j) x).drop (a+(j+1)+m.length)=L.drop (a+(j+1)+m.length):=JP (by lia);rw[e1,e2];simp only[kD];rw[show a+j+(m.length+1)=a+(j+1)+m.length by lia,ki,BD];rfl
end
section
variable {prog:hW}{w:gU}{A:gZ}{E:il}{G:Shared->Prop}{it:nA}{lt:lx}{κ:SortKind}{N:Nat}
theorem CS(hT:T.length=a)(hM:M.length=n):seg (T++(M++D)) a n=M/\(T++(M++D)).take a=T/\(T++(M++D)).drop (a+n)=D:=by
 subst hT hM;refine⟨?_,List.take_left,?_⟩
 ·unfold seg;rw[Fc,List.take_left]
 ·rw[<-oR,Fc,Fc]
def Run(lt:lx)(L:iM)(a n:Nat):Prop:=1<=n/\(seg L a n).Pairwise (SL lt)/\ ∀x∈seg L a n,a<=x/\x<a+n
theorem Pp(W:Wk lt)(H:Ask prog w A E G it κ N lt){i sa na sb nb pw dI:Nat}{st:iU}{p:jQ}(R:Rp it κ N st p)(e1:(pendingOf st)[i]?=some (sa,na,pw))(e2:(pendingOf st)[i+1]?=some (sb,nb,dI))(hs:sb=sa+na)(hn:sb+nb<=N)(r1:Run lt p.toList sa na)(r2:Run lt p.toList sb nb)
  {Q:Bool->SortSt->Prop}(h: ∀b7 p',Rp it κ N b7 p'->pendingOf b7=((pendingOf st).setIfInBounds i (sa,na+nb,pw)).eraseIdxIfInBounds (i+1)->Run lt p'.toList sa (na+nb)->p'.toList.take sa=p.toList.take sa->p'.toList.drop (sa+(na+nb))=p.toList.drop (sa+(na+nb))->Q true b7):
  wpI (model prog w) A E G (mergeAt' i) Q st:=by
 rw[Gi];refine gy (ll ?_);rw[e1,e2];dsimp only;refine gy (MW ?_);rw[R.arr];obtain⟨n1,s1,x1⟩:=r1;obtain⟨n2,s2,x2⟩:=r2;have hL:p.toList.length=N:=by simp[R.size]
 have hp:p=p.toList.toArray:=by simp
 generalize hLL:p.toList=L at*;subst hp;have ea:(L.toArray.map it)=(L.map it).toArray:=by simp
 rw[ea]
 have eU: ∀y∈L,y<N:=fun y hy=>by
  have:=(OI.mp R.perm).mem_iff.mp (by simpa using hy);simpa using this
 generalize t9:setPending st (((pendingOf st).setIfInBounds i (sa,na+nb,pw)).eraseIdxIfInBounds (i+1))=aI;have aL:kindOf aI=κ:=by rw[<-t9];exact R.kind
 have ax:arrOf aI=(L.map it).toArray:=by rw[<-t9];show arrOf st=_;rw[R.arr,ea]
 have hp1:pendingOf aI=((pendingOf st).setIfInBounds i (sa,na+nb,pw)).eraseIdxIfInBounds (i+1):=by rw[<-t9]
 have fW:failedOf aI=none:=by rw[<-t9];exact R.ok
 have hlen1:(seg L sa na).length=na:=ya (by lia);have hlen2:(seg L sb nb).length=nb:=ya (by lia);have aY:sb<L.length:=by lia
 have r0:seg L sb nb=L[sb]::seg L (sb+1) (nb-1):=by
  unfold seg;rw[ud aY,show nb=nb-1+1 by lia,List.take_succ_cons];rfl
 have key_mem:L[sb]∈seg L sb nb:=by rw[r0];exact iX
 have key_le: ∀z∈seg L sb nb,z=L[sb]\/SL lt L[sb] z:=fun z hz=>by
  rw[r0] at s2 hz;rcases jC.mp hz with hz|hz
  ·exact .inl hz
  ·exact .inr ((qc.mp s2).1 z hz)
 have idx: ∀y∈seg L sa na,∀z∈seg L sb nb,y<z:=fun y hy z hz=>by
  have:=x1 y hy;have:=x2 z hz;lia
 have up: ∀y∈seg L sa na,lt L[sb] y=false-> ∀z∈seg L sb nb,SL lt y z:=fun y hy hl z hz=>by
  have first:SL lt y L[sb]:= .inr ⟨hl,idx y hy _ key_mem⟩;rcases key_le z hz with rfl|hz
  ·exact first
  ·exact SL.trans W first hz
 refine gy (jY aY (gy (rq W H (eU _ (kA _)) eU (by lia) (by lia) aL s1 fun k k1 k2 k3=>?_)));dsimp only;change ∀y∈(seg L sa na).take k,_ at k2;change ∀y∈(seg L sa na).drop k,_ at k3;simp only[iO,jb,Bool.not_eq_true',Bool.not_eq_false'] at k2 k3;by_cases hz:(na-k==0)=true
 ·rw[gG hz];have hz:na-k=0:=by simpa using hz
  have k2': ∀y∈seg L sa na,lt L[sb] y=false:=fun y hy=>k2 y (by rw[sJ (by lia)];exact hy);refine gA (h aI L.toArray ⟨by rw[ax,ea],aL,fW,R.size,R.perm⟩ hp1 ?_ rfl rfl);show Run lt L sa (na+nb);refine⟨by lia,?_,fun x hx=>?_⟩
  ·rw[uj (by lia),<-hs];exact lW.mpr ⟨s1,s2,fun y hy z hz=>up y hy (k2' y hy) z hz⟩
  ·rw[uj (by lia),<-hs] at hx;rcases nG.mp hx with hx|hx
   ·have:=x1 x hx;lia
   ·have:=x2 x hx;lia
 ·rw[gJ hz];have hz:na-k≠0:=fun z=>hz (by simp[z]);have bf:sa+k+(na-k)-1<L.length:=by lia
  have j4:(seg L sa na)[na-1]?=some L[sa+k+(na-k)-1]:=by
   rw[Ce (by lia),jd (by lia)]
   congr 2;lia
  have s9:L[sa+k+(na-k)-1]∈(seg L sa na).drop k:=by
   refine mO (i:=na-1-k) ?_;rw[vZ,show k+(na-1-k)=na-1 by lia];exact j4
  generalize cg:L[sa+k+(na-k)-1]=la at j4 s9
  have le_last: ∀y∈seg L sa na,y=la\/SL lt y la:=fun y hy=>by
   obtain⟨j,hj,e⟩:=yq hy;by_cases dq:j=na-1
   ·left;subst dq;rw[jd hj] at j4;rw[<-e];exact iR j4
   ·right;have:=G2.mp s1 j (na-1) hj (by lia) (by lia);rw[jd (by lia)] at j4;rw[e,iR j4] at this;exact this
  have la_seg:la∈seg L sa na:=ly s9;refine gy (jY bf ?_);rw[cg];refine gy (rq W H (eU _ (by rw[<-cg];exact kA _)) eU (by lia) (by lia) aL s2 fun i5 j1 j2 j3=>?_);dsimp only;change ∀y∈(seg L sb nb).take i5,_ at j2;change ∀y∈(seg L sb nb).drop i5,_ at j3;simp only[iE] at j2 j3;by_cases hy:(i5==0)=true
  ·have hy:i5=0:=by simpa using hy
   subst hy;have:=j3 L[sb] (by rw[wa];exact key_mem);rw[k3 la s9] at this;cases this
  ·rw[gJ hy];have hy:i5≠0:=fun z=>hy (by simp[z])
   have ex:(L.map it).toArray.extract (sa+k) sb=(((seg L sa na).drop k).map it).toArray:=by
    simp only[wd,wc,seg,List.drop_take,oR,List.map_take,List.map_drop];rw[show sb-(sa+k)=na-k by lia]
   have ey:(L.map it).toArray.extract sb (sb+i5)=(((seg L sb nb).take i5).map it).toArray:=by
    simp only[wd,wc,seg,tV,List.map_take,List.map_drop];rw[show sb+i5-sb=i5 by lia,sH j1]
   rw[ex,ey];have hq:((seg L sa na).drop k).length=na-k:=by simp[hlen1]
   have hr:((seg L sb nb).take i5).length=i5:=by rw[pY,hlen2,sH j1]
   have B:Pre lt N ((seg L sa na).drop k) ((seg L sb nb).take i5):=
    ⟨s1.sublist (oQ _ _),s2.sublist (mP _ _),fun x hx y hy=>idx x (ly hx) y (ml hy),fun x hx=>by have:=x1 x (ly hx);lia,fun x hx=>by have:=x2 x (ml hx);lia⟩
   have rz:((seg L sb nb).take i5)[0]'(by lia)=L[sb]:=by
    rw[List.getElem_take];have:(seg L sb nb)[0]?=some L[sb]:=by rw[r0];rfl
    rw[jd (by lia)] at this;exact iR this
   have ql:((seg L sa na).drop k)[((seg L sa na).drop k).length-1]'(by lia)=la:=by
    rw[List.getElem_drop];have:(seg L sa na)[k+(((seg L sa na).drop k).length-1)]?=some la:=by rw[hq,show k+(na-k-1)=na-1 by lia];exact j4
    rw[jd (by lia)] at this;exact iR this
   have fin: ∀merged b7,Res lt it ((seg L sa na).drop k) ((seg L sb nb).take i5) merged->Same aI b7->wpI (model prog w) A E G (do
     modify fun s=>setArr s (List.foldl (fun a x=>a.setIfInBounds (sa+k+x.snd) x.fst) (arrOf s) merged.toList.zipIdx)
     let r <-get
     pure (failedOf r).isNone) Q b7:=fun merged b7 aB y6=>by
    obtain⟨o,rfl,so,po⟩:=aB;have ol:o.length=na-k+i5:=by rw[po.length_eq,mq,hq,hr]
    refine gy (jR (gy (ll (gA ?_))));have arr':arrOf b7=(L.map it).toArray:=y6.2.1.trans ax
    have c1:L.take (sa+k)=L.take sa++(seg L sa na).take k:=by
     unfold seg;rw[tV,sH k1,<-List.take_add]
    have c2:L.drop (sa+k+o.length)=(seg L sb nb).drop i5++L.drop (sa+(na+nb)):=by
     have e3:L.drop (sa+(na+nb))=(L.drop (sb+i5)).drop (nb-i5):=by rw[oR];congr 1;lia
     rw[ol,show sa+k+(na-k+i5)=sb+i5 by lia,e3];unfold seg;rw[List.drop_take,oR,lL]
    have fold:List.foldl (fun(a:nB) (x:Keyed×Nat)=>a.setIfInBounds (sa+k+x.snd) x.fst) (arrOf b7) (o.map it).toArray.toList.zipIdx=(((L.take sa++(((seg L sa na).take k++(o++(seg L sb nb).drop i5))++L.drop (sa+(na+nb)))):List Nat).toArray).map it:=by
     rw[arr'];apply Array.toList_inj.mp;have:=Eh (o.map it) 0 (sa+k) (L.map it) (by simp only[jj,ol];lia);rw[Fb] at this;refine this.trans ?_;simp only[Array.toList_map,jj];rw[<-List.map_take,<-List.map_drop,c1,c2];simp only[sG,ki]
    have hpm:(L.take sa++(((seg L sa na).take k++(o++(seg L sb nb).drop i5))++L.drop (sa+(na+nb)))).Perm L:=by
     have cut:=LU (L:=L) (a:=sa) (n:=na+nb) (by lia);refine List.Perm.trans ?_ (BE cut.symm);refine pB _ (we _ ?_);rw[uj (by lia),<-hs];have e1:=lL k (seg L sa na);have e2:=lL i5 (seg L sb nb);have:((seg L sa na).take k++(o++(seg L sb nb).drop i5)).Perm ((seg L sa na).take k++(((seg L sa na).drop k++(seg L sb nb).take i5)++(seg L sb nb).drop i5)):=pB _ (we _ po);refine this.trans (BE ?_);rw[ki,e2,<-ki,e1]
    have fJ:((seg L sa na).take k++(o++(seg L sb nb).drop i5)).length=na+nb:=by
     simp only[mq,pY,wu,hlen1,hlen2,ol];lia
    have dP:(L.take sa).length=sa:=by simp;lia
    show Q (failedOf b7).isNone _;rw[y6.2.2.2,fW];refine h _ (L.take sa++(((seg L sa na).take k++(o++(seg L sb nb).drop i5))++L.drop (sa+(na+nb)))).toArray ⟨fold,y6.1.trans aL,y6.2.2.2.trans fW,by rw[iD,hpm.length_eq,hL],OI.mpr (hpm.trans (OI.mp R.perm))⟩ (y6.2.2.1.trans hp1) ?_ ?_ ?_
    ·have hseg:=(CS (D:=L.drop (sa+(na+nb))) dP fJ).1;show Run lt (L.take sa++_) sa (na+nb);unfold Run;rw[hseg];have om: ∀x∈o,x∈(seg L sa na).drop k\/x∈(seg L sb nb).take i5:=fun x hx=>nG.mp (po.mem_iff.mp hx);refine⟨by lia,lW.mpr ⟨s1.sublist (mP _ _),lW.mpr ⟨so,s2.sublist (oQ _ _),fun x hx z hz=>?_⟩,fun y hy x hx=>?_⟩,fun x hx=>?_⟩
     ·rcases om x hx with hx|hx
      ·have lz:SL lt la z:= .inr ⟨j3 z hz,idx la la_seg z (ly hz)⟩;rcases le_last x (ly hx) with rfl|hx
       ·exact lz
       ·exact SL.trans W hx lz
      ·have:=s2;rw[<-lL i5 (seg L sb nb),lW] at this;exact this.2.2 x hx z hz
     ·have hyl:=k2 y hy;have hys:=ml hy;rcases nG.mp hx with hx|hx
      ·rcases om x hx with hx|hx
       ·have:=s1;rw[<-lL k (seg L sa na),lW] at this;exact this.2.2 y hy x hx
       ·exact up y hys hyl x (ml hx)
      ·exact up y hys hyl x (ly hx)
     ·have in1:x∈seg L sa na\/x∈seg L sb nb:=by
       rcases nG.mp hx with hx|hx
       ·exact .inl (ml hx)
       ·rcases nG.mp hx with hx|hx
        ·exact(om x hx).imp ly ml
        ·exact .inr (ly hx)
      rcases in1 with hx|hx
      ·have:=x1 x hx;lia
      ·have:=x2 x hx;lia
    ·show(L.take sa++_).take sa=L.take sa;exact(CS dP fJ).2.1
    ·show(L.take sa++_).drop (sa+(na+nb))=L.drop (sa+(na+nb));exact(CS dP fJ).2.2
   by_cases hle:na-k<=i5
   ·rw[gG hle];refine gy (Pn W H B (by lia) (by lia) (fun y hy=>by rw[rz];exact .inl (k3 y hy)) (fun x hx y hy=>?_) aL fin)
    have:y=la:=by
     have e:((seg L sa na).drop k).drop (((seg L sa na).drop k).length-1)=[la]:=by
      rw[ud (by lia),ql,uc (by lia)]
     rw[e] at hy;exact qw.mp hy
    subst this;exact .inl (j2 x hx)
   ·rw[gJ hle];refine gy (Po W H B (by lia) (by lia) (fun x hx y hy=>?_) (fun x hx=>by rw[ql];exact .inl (j2 x hx)) aL fin)
    have:x=L[sb]:=by
     have e:((seg L sb nb).take i5).take 1=[L[sb]]:=by
      rw[r0,show i5=i5-1+1 by lia,List.take_succ_cons];rfl
     rw[e] at hx;exact qw.mp hx
    subst this;exact .inl (k3 y hy)
def Chain(lt:lx)(L:iM):Nat->List (Nat×Nat×Nat)->Nat->Prop
 |a,[],b=>a=b
 |a,(s,n,_)::r,b=>s=a/\Run lt L a n/\Chain lt L (a+n) r b
theorem Chain.le{L:iM}: ∀{l:List (Nat×Nat×Nat)} {a b:Nat},Chain lt L a l b->a+l.length<=b
 |[],a,b,h=>by have:a=b:=h;simp;omega
 |(s,n,x)::r,a,b,h=>by
  obtain⟨_,r1,h2⟩:=h;have:=Chain.le h2;have:=r1.1;simp only[kD];omega
theorem KG(h:Run lt L a n)(hc:a+n<=c)(e:L'.take c=L.take c):Run lt L' a n:=by
 have:seg L' a n=seg L a n:=by
  have q: ∀X:List Nat,seg X a n=seg (X.take c) a n:=fun X=>by
   unfold seg;rw[List.drop_take,tV,sH (by omega)]
  rw[q L',q L,e]
 unfold Run;rw[this];exact h
theorem yQ(h:Run lt L a n)(hc:c<=a)(e:L'.drop c=L.drop c):Run lt L' a n:=by
 have:seg L' a n=seg L a n:=by
  have q: ∀X:List Nat,seg X a n=seg (X.drop c) (a-c) n:=fun X=>by
   unfold seg;rw[oR,show c+(a-c)=a by omega]
  rw[q L',q L,e]
 unfold Run;rw[this];exact h
theorem Chain.take{L L':iM}{c:Nat}(e:L'.take c=L.take c): ∀{l:List (Nat×Nat×Nat)} {a b:Nat},Chain lt L a l b->b<=c->Chain lt L' a l b
 |[],a,b,h,_=>h
 |(s,n,x)::r,a,b,h,hc=>by
  obtain⟨h1,h2,h3⟩:=h;have:=Chain.le h3;exact⟨h1,KG h2 (by omega) e,Chain.take e h3 hc⟩
theorem Chain.drop{L L':iM}{c:Nat}(e:L'.drop c=L.drop c): ∀{l:List (Nat×Nat×Nat)} {a b:Nat},Chain lt L a l b->c<=a->Chain lt L' a l b
 |[],a,b,h,_=>h
 |(s,n,x)::r,a,b,h,hc=>by
  obtain⟨h1,h2,h3⟩:=h;exact⟨h1,yQ h2 hc e,Chain.drop e h3 (by omega)⟩
theorem Chain.append{L:iM}: ∀{l m:List (Nat×Nat×Nat)} {a b:Nat},Chain lt L a (l++m) b↔ ∃c,Chain lt L a l c/\Chain lt L c m b
 |[],m,a,b=>⟨fun h=>⟨a,rfl,h⟩,fun⟨c,h1,h2⟩=>by have:a=c:=h1;subst this;exact h2⟩
 |(s,n,x)::r,m,a,b=>by
  constructor
  ·rintro⟨h1,h2,h3⟩;obtain⟨c,h4,h5⟩:=Chain.append.mp h3;exact⟨c,⟨h1,h2,h4⟩,h5⟩
  ·rintro⟨c,⟨h1,h2,h4⟩,h5⟩;exact⟨h1,h2,Chain.append.mpr ⟨c,h4,h5⟩⟩
theorem wz(W:Wk lt)(H:Ask prog w A E G it κ N lt){i lo:Nat}{st:iU}{p:jQ}(R:Rp it κ N st p)(ch:Chain lt p.toList 0 (pendingOf st).toList lo)(hlo:lo<=N)(hi:i+1<(pendingOf st).size){Q:Bool->SortSt->Prop}
  (h: ∀b7 p',Rp it κ N b7 p'->Chain lt p'.toList 0 (pendingOf b7).toList lo->(pendingOf b7).size+1=(pendingOf st).size->p'.toList.drop lo=p.toList.drop lo->Q true b7):wpI (model prog w) A E G (mergeAt' i) Q st:=by
 obtain⟨⟨sa,na,pw⟩,e1⟩: ∃x,(pendingOf st)[i]?=some x:=⟨_,mN (by omega)⟩
 obtain⟨⟨sb,nb,dI⟩,e2⟩: ∃x,(pendingOf st)[i+1]?=some x:=⟨_,mN hi⟩
 have f1:(pendingOf st).toList[i]?=some (sa,na,pw):=by simpa using e1
 have f2:(pendingOf st).toList[i+1]?=some (sb,nb,dI):=by simpa using e2
 have hl:(pendingOf st).toList.length=(pendingOf st).size:=by simp
 have cut:(pendingOf st).toList=(pendingOf st).toList.take i++((sa,na,pw)::(sb,nb,dI)::(pendingOf st).toList.drop (i+2)):=by
  have a1:(pendingOf st).toList.drop i=(sa,na,pw)::(pendingOf st).toList.drop (i+1):=by
   rw[ud (by omega)];rw[jd (by omega)] at f1;rw[iR f1]
  have a2:(pendingOf st).toList.drop (i+1)=(sb,nb,dI)::(pendingOf st).toList.drop (i+2):=by
   rw[ud (by omega)];rw[jd (by omega)] at f2;rw[iR f2]
  rw[<-a2,<-a1,lL]
 rw[cut] at ch;obtain⟨c,c1,c2⟩:=Chain.append.mp ch;obtain⟨rfl,r1,rfl,r2,c3⟩:=c2;have le3:=Chain.le c3;refine Pp W H R e1 e2 rfl (by omega) r1 r2 fun b7 p' R' ep rn et ed=>?_
 have lst:(pendingOf b7).toList=(pendingOf st).toList.take i++((sa,na+nb,pw)::(pendingOf st).toList.drop (i+2)):=by
  rw[ep];have hx:i+1<((pendingOf st).setIfInBounds i (sa,na+nb,pw)).size:=by simpa using hi
  rw[Array.eraseIdxIfInBounds,dif_pos hx]
  have: ∀(l:List (Nat×Nat×Nat)) (z:Nat×Nat×Nat),i+1<l.length->(l.set i z).eraseIdx (i+1)=l.take i++(z::l.drop (i+2)):=fun l z hz=>by
   rw[List.eraseIdx_eq_take_drop_succ];rw[show i+1+1=i+2 from rfl,JP (by omega),BF,JQ (ir _),qv (by omega)];simp
  have q:=this (pendingOf st).toList (sa,na+nb,pw) (by omega);simpa using q
 refine h b7 p' R' ?_ ?_ ?_
 ·rw[lst];refine Chain.append.mpr ⟨sa,Chain.take et c1 (ir _),rfl,rn,?_⟩;rw[<-Nat.add_assoc];exact Chain.drop ed c3 (by omega)
 ·have:=pZ List.length lst;simp only[jr,mq,pY,kD,wu] at this;omega
 ·have q: ∀X:List Nat,X.drop lo=(X.drop (sa+(na+nb))).drop (lo-(sa+(na+nb))):=fun X=>by rw[oR];congr 1;omega
  rw[q,q p.toList,ed]
theorem Ik{p p':jQ}{lo:Nat}(hs:p'.size=p.size)(h: ∀k,k<lo->P p' k=P p k):p'.toList.take lo=p.toList.take lo:=by
 apply BP;intro k;rw[List.getElem?_take,List.getElem?_take];split
 ·rename_i hk;by_cases hz:k<p.size
  ·have a:=xu (p:=p) hz;have b:=xu (p:=p') (by rw[hs];exact hz);have a':p.toList[k]?=some (P p k):=by simpa using a
   have b':p'.toList[k]?=some (P p' k):=by simpa using b
   rw[a',b',h k hk]
  ·rw[BN (by simp;lia),BN (by simp;lia)]
 ·rfl
theorem HJ{p p':jQ}{lo n:Nat}(hs:p'.size=p.size)(e:p'.toList.drop lo=p.toList.drop lo)(h: ∀k,lo+n<=k->k<p.size->P p k=k): ∀k,lo+n<=k->k<p'.size->P p' k=k:=fun k k1 k2=>by
 have a:=xu (p:=p) (i:=k) (by lia);have b:=xu (p:=p') k2;have a':p.toList[k]?=some (P p k):=by simpa using a
 have b':p'.toList[k]?=some (P p' k):=by simpa using b
 have q: ∀X:List Nat,X[k]?=(X.drop lo)[k-lo]?:=fun X=>by rw[vZ,show lo+(k-lo)=k by lia]
 rw[q,e,<-q,a'] at b';rw[<-iR b'];exact h k k1 (by lia)
theorem Of{c:Prop}[Decidable c]{a b m:Nat}(ha:a<=m)(hb:b<=m):(if c then a else b)<=m:=by
 by_cases h:c
 ·rw[gG h];exact ha
 ·rw[gJ h];exact hb
structure Mid(it:nA)(lt:lx)(κ:SortKind)(N lo:Nat)(st:iU)(p:jQ):Prop where
 R:Rp it κ N st p
 ch:Chain lt p.toList 0 (pendingOf st).toList lo
 le:lo<=N
 fx: ∀k,lo<=k->k<N->P p k=k
structure Mid2(it:nA)(lt:lx)(κ:SortKind)(N lo n:Nat)(st:iU)(p:jQ):Prop where
 R:Rp it κ N st p
 ch:Chain lt p.toList 0 (pendingOf st).toList lo
 le:lo+n<=N
 fx: ∀k,lo+n<=k->k<N->P p k=k
 rn:Run lt p.toList lo n
theorem Mid2.of{lo n:Nat}{bu st:iU}{p0 p:jQ}(M:Mid it lt κ N lo bu p0)(R:Rp it κ N st p)(e:pendingOf st=pendingOf bu)(h1:1<=n)(h2:lo+n<=N)(f: ∀k,k<lo->P p k=P p0 k)(fx: ∀k,lo+n<=k->k<N->P p k=k)(rg:Reg p lo (lo+n))(up:Up lt p lo (lo+n)):Mid2 it lt κ N lo n st p:=by
 have hz:lo+n<=p.size:=by rw[R.size];exact h2
 refine⟨R,?_,h2,fx,h1,(Pu hz).mp up,(Na hz lo (lo+n)).mp rg⟩;rw[e];exact Chain.take (Ik (by rw[R.size,M.R.size]) f) M.ch (ir _)
theorem Mid2.push{lo n pw:Nat}{st:iU}{p:jQ}(M:Mid2 it lt κ N lo n st p):Mid it lt κ N (lo+n) (setPending st ((pendingOf st).push (lo,n,pw))) p:=by
 refine⟨⟨M.R.arr,M.R.kind,M.R.ok,M.R.size,M.R.perm⟩,?_,M.le,M.fx⟩;show Chain lt p.toList 0 ((pendingOf st).push (lo,n,pw)).toList (lo+n);rw[Array.toList_push];exact Chain.append.mpr ⟨lo,M.ch,rfl,M.rn,rfl⟩
theorem Eu{L:iM}{f:Nat×Nat×Nat->Nat×Nat×Nat}(hf: ∀x,(f x).1=x.1/\(f x).2.1=x.2.1): ∀{l:List (Nat×Nat×Nat)} {a b:Nat} (i:Nat),Chain lt L a l b->Chain lt L a (l.modify i f) b
 |[],a,b,i,h=>by cases i<;>exact h
 |(s,n,x)::r,a,b,0,h=>by
  obtain⟨h1,h2,h3⟩:=h;have e:=hf (s,n,x);show Chain lt L a (f (s,n,x)::r) b;rcases hq:f (s,n,x) with⟨s',n',x'⟩
  rw[hq] at e;obtain⟨rfl,rfl⟩:=e;exact⟨h1,h2,h3⟩
 |(s,n,x)::r,a,b,i+1,h=>by
  obtain⟨h1,h2,h3⟩:=h;exact⟨h1,h2,Eu hf i h3⟩
theorem Mid2.pw{lo n pw i:Nat}{st:iU}{p:jQ}(M:Mid2 it lt κ N lo n st p):Mid2 it lt κ N lo n (setPending st ((pendingOf st).modify i fun x=>(x.fst,x.2.fst,pw))) p:=by
 refine⟨⟨M.R.arr,M.R.kind,M.R.ok,M.R.size,M.R.perm⟩,?_,M.le,M.fx,M.rn⟩;show Chain lt p.toList 0 ((pendingOf st).modify i fun x=>(x.fst,x.2.fst,pw)).toList lo;rw[Array.toList_modify];exact Eu (f:=fun x=>(x.fst,x.2.fst,pw)) (fun x=>⟨rfl,rfl⟩) i M.ch
theorem Kc(W:Wk lt)(H:Ask prog w A E G it κ N lt)(h2:1<=N){st:iU}{p:jQ}(R:Rp it κ N st p)(e0:pendingOf st= #[])(fx0: ∀k,k<N->P p k=k){Q:Unit->SortSt->Prop}
  (h: ∀b7 p',Rp it κ N b7 p'->p'.toList.Pairwise (SL lt)->Q () b7):wpI (model prog w) A E G sortRuns' Q st:=by
 rw[sortRuns'_eq];refine gy (ll ?_);dsimp only;have hz:(arrOf st).size=N:=by rw[R.arr,Array.size_map,R.size]
 rw[hz];generalize hmr:minRun' N N 0=mr;have m0:Mid it lt κ N 0 st p:=⟨R,by rw[e0];rfl,lN _,fun k _ k2=>fx0 k k2⟩
 refine gy (iT (iY (I:=fun x c b7=> ∃lo p',c=(none,lo)/\x<=lo/\Mid it lt κ N lo b7 p') (Q:=fun c b7=> ∃p',c=(none,N)/\Mid it lt κ N N b7 p') ?step ?fin ⟨0,p,rfl,ir _,m0⟩) ?post)
 case fin=>
  rintro c b7 ⟨lo,p',rfl,hx,M⟩;have:=M.le;have:lo=N:=by lia
  subst this;exact⟨p',rfl,M⟩
 case step=>
  rintro x c b7 _ hx ⟨lo,p',rfl,hlo,M⟩;dsimp only;by_cases fS:lo>=N
  ·rw[gG fS];have:=M.le;have:lo=N:=by lia
   subst this;exact gA ⟨p',rfl,M⟩
  ·rw[gJ fS];refine gy (Ig W H (by lia) (by lia) M.R M.fx fun n i3 p2 R2 e2 n1 n2 f2 fx2 rg2 up2=>?_);dsimp only;by_cases j0:n<mr
   ·rw[gG j0];refine gy (oV (gy (MX W H n1 (by lia) (by lia) R2 fx2 rg2 up2 fun m5 p3 R3 e3 f3 fx3 rg3 up3=>?_)));simp only[lM,iO,jb];have M3:Mid2 it lt κ N lo (min (N-lo) mr) m5 p3:=Mid2.of M R3 (e3.trans e2) (by lia) (by lia) (fun k hk=>(f3 k hk).trans (f2 k hk)) fx3 rg3 up3;have eQ:1<=min (N-lo) mr:=by lia
    generalize min (N-lo) mr=n' at*;refine gy (ll ?_)
    cases hb:(pendingOf m5).back? with
    |none=>
     dsimp only;exact gy (jR (gA ⟨lo+n',p3,rfl,by lia,M3.push⟩))
    |some x1=>
     obtain⟨s1,m1,y1⟩:=x1;dsimp only;generalize power' N (2*s1+m1) (2*s1+m1+m1+n') N=pw;refine gy (iT (iY (I:=fun x c u6=>c=(none,())/\ ∃p4,Mid2 it lt κ N lo n' u6 p4) (Q:=fun c u6=>c=(none,())/\ ∃p4,Mid2 it lt κ N lo n' u6 p4) ?_ (fun _ _ q=>q) ⟨rfl,p3,M3⟩) ?_)
     ·rintro y c u6 _ _ ⟨rfl,p4,M4⟩;refine gy (ll ?_);by_cases h1:(pendingOf u6).size>1
      ·rw[gG h1]
       cases hc:(pendingOf u6)[(pendingOf u6).size-2]? with
       |none=>dsimp only;exact gA ⟨rfl,p4,M4⟩
       |some z=>
        obtain⟨z1,z2,aU⟩:=z;dsimp only;by_cases ho:aU<=pw
        ·rw[gG ho];exact gA ⟨rfl,p4,M4⟩
        ·rw[gJ ho];refine gy (wz W H M4.R M4.ch (by have:=M4.le;lia) (by lia) fun bH p5 R5 gn _ ei=>?_);simp only[lM,iO,jb];refine gA ⟨rfl,p5,R5,gn,M4.le,?_,yQ M4.rn (ir _) ei⟩;have:=HJ (p:=p4) (p':=p5) (lo:=lo) (n:=n') (by rw[R5.size,M4.R.size]) ei (by rw[M4.R.size];exact M4.fx);rw[R5.size] at this;exact this
      ·rw[gJ h1];dsimp only;exact gA ⟨rfl,p4,M4⟩
     ·rintro c u6 ⟨rfl,p4,M4⟩;dsimp only;exact gy (jR (gy (jR (gA ⟨lo+n',p4,rfl,by lia,(M4.pw).push⟩))))
   ·rw[gJ j0];have M3:Mid2 it lt κ N lo n i3 p2:=Mid2.of M R2 e2 n1 (by lia) f2 fx2 rg2 up2;have eQ:=n1;generalize n=n' at*;generalize i3=m5 at*;generalize p2=p3 at*;refine gy (ll ?_)
    cases hb:(pendingOf m5).back? with
    |none=>
     dsimp only;exact gy (jR (gA ⟨lo+n',p3,rfl,by lia,M3.push⟩))
    |some x1=>
     obtain⟨s1,m1,y1⟩:=x1;dsimp only;generalize power' N (2*s1+m1) (2*s1+m1+m1+n') N=pw;refine gy (iT (iY (I:=fun x c u6=>c=(none,())/\ ∃p4,Mid2 it lt κ N lo n' u6 p4) (Q:=fun c u6=>c=(none,())/\ ∃p4,Mid2 it lt κ N lo n' u6 p4) ?_ (fun _ _ q=>q) ⟨rfl,p3,M3⟩) ?_)
     ·rintro y c u6 _ _ ⟨rfl,p4,M4⟩;refine gy (ll ?_);by_cases h1:(pendingOf u6).size>1
      ·rw[gG h1]
       cases hc:(pendingOf u6)[(pendingOf u6).size-2]? with
       |none=>dsimp only;exact gA ⟨rfl,p4,M4⟩
       |some z=>
        obtain⟨z1,z2,aU⟩:=z;dsimp only;by_cases ho:aU<=pw
        ·rw[gG ho];exact gA ⟨rfl,p4,M4⟩
        ·rw[gJ ho];refine gy (wz W H M4.R M4.ch (by have:=M4.le;lia) (by lia) fun bH p5 R5 gn _ ei=>?_);simp only[lM,iO,jb];refine gA ⟨rfl,p5,R5,gn,M4.le,?_,yQ M4.rn (ir _) ei⟩;have:=HJ (p:=p4) (p':=p5) (lo:=lo) (n:=n') (by rw[R5.size,M4.R.size]) ei (by rw[M4.R.size];exact M4.fx);rw[R5.size] at this;exact this
      ·rw[gJ h1];dsimp only;exact gA ⟨rfl,p4,M4⟩
     ·rintro c u6 ⟨rfl,p4,M4⟩;dsimp only;exact gy (jR (gy (jR (gA ⟨lo+n',p4,rfl,by lia,(M4.pw).push⟩))))
 case post=>
  rintro c b7 ⟨p',rfl,M⟩;dsimp only;refine gy (iT (iY (I:=fun x c i3=> ∃p2,c=(none,())/\Mid it lt κ N N i3 p2/\(pendingOf i3).size<=max 1 (N-x)) (Q:=fun c i3=> ∃p2,c=(none,())/\Mid it lt κ N N i3 p2/\(pendingOf i3).size<=1) ?step2 ?fin2 ⟨p',rfl,M,?init⟩) ?post2)
  case init=>
   have:=M.ch.le;simp only[jr] at this
   lia
  case fin2=>
   rintro c i3 ⟨p2,rfl,M2,hs⟩;exact⟨p2,rfl,M2,by lia⟩
  case post2=>
   rintro c i3 ⟨p2,rfl,M2,hs⟩;refine gA (h i3 p2 M2.R ?_);have ch:=M2.ch;have hl:p2.toList.length=N:=by simp[M2.R.size]
   match hq:(pendingOf i3).toList,ch with
   |[],ch=>have:0=N:=ch;lia
   |[(s,n,pw)],ch=>
    obtain⟨rfl,r,e⟩:=ch;have e:0+n=N:=e;have:seg p2.toList 0 n=p2.toList:=by unfold seg;rw[wa,sJ (by lia)]
    have q:=r.2.1
    rwa [this] at q
   |_::_::_,ch=>
    have:(pendingOf i3).toList.length<=1:=by simpa using hs
    rw[hq] at this;simp at this
  case step2=>
   rintro x c i3 _ hx ⟨p2,rfl,M2,hs⟩;refine gy (ll ?_);by_cases h1:(pendingOf i3).size<=1
   ·rw[gG h1];exact gA ⟨p2,rfl,M2,h1⟩
   ·rw[gJ h1];refine gy (wz W H M2.R M2.ch (ir _) ?_ fun m5 p3 R3 ch3 sz3 dr3=>?_)
    ·exact Nat.lt_of_le_of_lt (Nat.add_le_add_right (Of (m:=(pendingOf i3).size-2) (by lia) (ir _)) 1) (by lia)
    ·simp only[lM,iO,jb];exact gA ⟨p3,rfl,⟨R3,ch3,ir _,fun k k1 k2=>by lia⟩,by lia⟩
end
end TS
namespace PX
open PySem PySem.Spec PyProof.Rows L2 PySem.SeqAt
open PySem.AutoSeq1 (wpAny_loadPart')
open PySem.MeetsSeq PySem.MeetsSeq2 PySem.MeetsSeq3
def jD(op:CmpOp)(i j:Int):Bool:=match op with
 | .Lt=>decide (i<j)| .LtE=>decide (i<=j)| .Gt=>decide (i>j)|_=>decide (i>=j)
def pj(op:CmpOp):Prop:=op= .Lt\/op= .LtE\/op= .Gt\/op= .GtE
def OG(op:CmpOp)(A:gZ)(s:gC)(y x:gQ)(b:Bool):Prop:= ∀(prog:hW) (w:gU) (E:il) (Q:il),Q (.bool b) s->wpAny (model prog w) A (richCompare op y x) Q E s
def zZ(op:CmpOp)(A:gZ)(s:gC)(fin:Bool):List (Value×Value)->Bool->Prop
 |[],r=>r=fin
 |(y,x)::hZ,r=> ∃e,EqAt A s y x e/\(if e=true then zZ op A s fin hZ r else OG op A s y x r)
theorem Ko(l b:gz)(items f6:kz)(n n2:Nat)(dd v9:Option Addr)(sl v7:xa)(r:Bool):
  Meets (Builtin.«tuple.__lt__» ⟨[.ref l,.ref b],[]⟩) (fun A R s=>s.heap.get? l=some {cls:= .type "tuple",dict:=dd,data:= .seq items n,slots:=sl}/\s.heap.get? b=some {cls:= .type "tuple",dict:=v9,data:= .seq f6 n2,slots:=v7}/\
   zZ .Lt A.in1 s (jD .Lt items.size f6.size) (items.toList.zip f6.toList) r/\R (.ok (.ret (.bool r))) s):=
 .of_wp fun prog w A R s h=>by
  obtain⟨hp,g,d,tk,os⟩:=s;obtain⟨hl,hb,hx,h⟩:=h;have f2:=BC
  wp_walk using wpAny_loadPart' hl,wpAny_loadPart' hb,pz _ (fun hZ b s'=>b.1=none/\s'=⟨hp,g,d,tk,os⟩/\zZ .Lt A.in1 ⟨hp,g,d,tk,os⟩ (jD .Lt items.size f6.size) hZ r) _
  case turn=>
   rintro⟨y,x⟩ hZ b s' ⟨t6,rfl,e,he,hx⟩;refine gx (he prog w _ _ ?_)
   cases e with
   |true=>
    simp only[iE] at hx
    wp_walk
    exact⟨rfl,rfl,hx⟩
   |false=>
    simp only[iO,jb] at hx;have cF:=hx prog w
    wp_walk using cF
    exact⟨_,rfl,by simpa using h⟩
  case fin=>
   rintro⟨b1,b2⟩ s' ⟨t6,rfl,hx⟩;simp only at t6;subst t6;have hx:r=jD .Lt items.size f6.size:=hx;rw[hx] at h
   wp_walk
   exact⟨_,rfl,by simpa[Builtin.Tuple.tupleCompareSizes,jD] using h⟩
  case h=>exact⟨rfl,rfl,hx⟩
theorem Kp(l b:gz)(items f6:kz)(n n2:Nat)(dd v9:Option Addr)(sl v7:xa)(r:Bool):
  Meets (Builtin.«tuple.__le__» ⟨[.ref l,.ref b],[]⟩) (fun A R s=>s.heap.get? l=some {cls:= .type "tuple",dict:=dd,data:= .seq items n,slots:=sl}/\s.heap.get? b=some {cls:= .type "tuple",dict:=v9,data:= .seq f6 n2,slots:=v7}/\
   zZ .LtE A.in1 s (jD .LtE items.size f6.size) (items.toList.zip f6.toList) r/\R (.ok (.ret (.bool r))) s):=
 .of_wp fun prog w A R s h=>by
  obtain⟨hp,g,d,tk,os⟩:=s;obtain⟨hl,hb,hx,h⟩:=h;have f2:=BC
  wp_walk using wpAny_loadPart' hl,wpAny_loadPart' hb,pz _ (fun hZ b s'=>b.1=none/\s'=⟨hp,g,d,tk,os⟩/\zZ .LtE A.in1 ⟨hp,g,d,tk,os⟩ (jD .LtE items.size f6.size) hZ r) _
  case turn=>
   rintro⟨y,x⟩ hZ b s' ⟨t6,rfl,e,he,hx⟩;refine gx (he prog w _ _ ?_)
   cases e with
   |true=>
    simp only[iE] at hx
    wp_walk
    exact⟨rfl,rfl,hx⟩
   |false=>
    simp only[iO,jb] at hx;have cF:=hx prog w
    wp_walk using cF
    exact⟨_,rfl,by simpa using h⟩
  case fin=>
   rintro⟨b1,b2⟩ s' ⟨t6,rfl,hx⟩;simp only at t6;subst t6;have hx:r=jD .LtE items.size f6.size:=hx;rw[hx] at h
   wp_walk
   exact⟨_,rfl,by simpa[Builtin.Tuple.tupleCompareSizes,jD] using h⟩
  case h=>exact⟨rfl,rfl,hx⟩
theorem Kq(l b:gz)(items f6:kz)(n n2:Nat)(dd v9:Option Addr)(sl v7:xa)(r:Bool):
  Meets (Builtin.«tuple.__gt__» ⟨[.ref l,.ref b],[]⟩) (fun A R s=>s.heap.get? l=some {cls:= .type "tuple",dict:=dd,data:= .seq items n,slots:=sl}/\s.heap.get? b=some {cls:= .type "tuple",dict:=v9,data:= .seq f6 n2,slots:=v7}/\
   zZ .Gt A.in1 s (jD .Gt items.size f6.size) (items.toList.zip f6.toList) r/\R (.ok (.ret (.bool r))) s):=
 .of_wp fun prog w A R s h=>by
  obtain⟨hp,g,d,tk,os⟩:=s;obtain⟨hl,hb,hx,h⟩:=h;have f2:=BC
  wp_walk using wpAny_loadPart' hl,wpAny_loadPart' hb,pz _ (fun hZ b s'=>b.1=none/\s'=⟨hp,g,d,tk,os⟩/\zZ .Gt A.in1 ⟨hp,g,d,tk,os⟩ (jD .Gt items.size f6.size) hZ r) _
  case turn=>
   rintro⟨y,x⟩ hZ b s' ⟨t6,rfl,e,he,hx⟩;refine gx (he prog w _ _ ?_)
   cases e with
   |true=>
    simp only[iE] at hx
    wp_walk
    exact⟨rfl,rfl,hx⟩
   |false=>
    simp only[iO,jb] at hx;have cF:=hx prog w
    wp_walk using cF
    exact⟨_,rfl,by simpa using h⟩
  case fin=>
   rintro⟨b1,b2⟩ s' ⟨t6,rfl,hx⟩;simp only at t6;subst t6;have hx:r=jD .Gt items.size f6.size:=hx;rw[hx] at h
   wp_walk
   exact⟨_,rfl,by simpa[Builtin.Tuple.tupleCompareSizes,jD] using h⟩
  case h=>exact⟨rfl,rfl,hx⟩
theorem Kr(l b:gz)(items f6:kz)(n n2:Nat)(dd v9:Option Addr)(sl v7:xa)(r:Bool):
  Meets (Builtin.«tuple.__ge__» ⟨[.ref l,.ref b],[]⟩) (fun A R s=>s.heap.get? l=some {cls:= .type "tuple",dict:=dd,data:= .seq items n,slots:=sl}/\s.heap.get? b=some {cls:= .type "tuple",dict:=v9,data:= .seq f6 n2,slots:=v7}/\
   zZ .GtE A.in1 s (jD .GtE items.size f6.size) (items.toList.zip f6.toList) r/\R (.ok (.ret (.bool r))) s):=
 .of_wp fun prog w A R s h=>by
  obtain⟨hp,g,d,tk,os⟩:=s;obtain⟨hl,hb,hx,h⟩:=h;have f2:=BC
  wp_walk using wpAny_loadPart' hl,wpAny_loadPart' hb,pz _ (fun hZ b s'=>b.1=none/\s'=⟨hp,g,d,tk,os⟩/\zZ .GtE A.in1 ⟨hp,g,d,tk,os⟩ (jD .GtE items.size f6.size) hZ r) _
  case turn=>
   rintro⟨y,x⟩ hZ b s' ⟨t6,rfl,e,he,hx⟩;refine gx (he prog w _ _ ?_)
   cases e with
   |true=>
    simp only[iE] at hx
    wp_walk
    exact⟨rfl,rfl,hx⟩
   |false=>
    simp only[iO,jb] at hx;have cF:=hx prog w
    wp_walk using cF
    exact⟨_,rfl,by simpa using h⟩
  case fin=>
   rintro⟨b1,b2⟩ s' ⟨t6,rfl,hx⟩;simp only at t6;subst t6;have hx:r=jD .GtE items.size f6.size:=hx;rw[hx] at h
   wp_walk
   exact⟨_,rfl,by simpa[Builtin.Tuple.tupleCompareSizes,jD] using h⟩
  case h=>exact⟨rfl,rfl,hx⟩
section
variable {A:gZ}{s:gC}{l b:gz}{items f6:kz}{r:Bool}
theorem KN(ho:pj op)(hl:s.heap.IsTuple l items)(hb:s.heap.IsTuple b f6)(hu:A.units<cLine)(hx:zZ op A.in1 s (jD op items.size f6.size) (items.toList.zip f6.toList) r):OG op A s (.ref l) (.ref b) r:=fun prog w E Q h=>by
 obtain⟨⟨cls,dd,data,sl⟩,v8,hc,n,hd⟩:=id hl;obtain⟨⟨cZ,v9,data2,v7⟩,u2,aG,n2,hd2⟩:=id hb;simp only at hc hd aG hd2;subst hc hd aG hd2;rcases ho with rfl|rfl|rfl|rfl
 ·exact BB (op:= .Lt) ⟨_,v8,rfl⟩ ⟨_,u2,rfl⟩ PySem.F.slot_tuple_lt PySem.F.entry_tuple_lt (PySem.F.args_tuple_lt_2 _ _) (Ko l b items f6 n n2 dd v9 sl v7 r) ⟨v8,u2,hx,show Value.bool r≠Value.notImplemented/\Q (.bool r) s from⟨(fun x=>nomatch x),h⟩⟩ hu
 ·exact BB (op:= .LtE) ⟨_,v8,rfl⟩ ⟨_,u2,rfl⟩ PySem.F.slot_tuple_le PySem.F.entry_tuple_le (PySem.F.args_tuple_le_2 _ _) (Kp l b items f6 n n2 dd v9 sl v7 r) ⟨v8,u2,hx,show Value.bool r≠Value.notImplemented/\Q (.bool r) s from⟨(fun x=>nomatch x),h⟩⟩ hu
 ·exact BB (op:= .Gt) ⟨_,v8,rfl⟩ ⟨_,u2,rfl⟩ PySem.F.slot_tuple_gt PySem.F.entry_tuple_gt (PySem.F.args_tuple_gt_2 _ _) (Kq l b items f6 n n2 dd v9 sl v7 r) ⟨v8,u2,hx,show Value.bool r≠Value.notImplemented/\Q (.bool r) s from⟨(fun x=>nomatch x),h⟩⟩ hu
 ·exact BB (op:= .GtE) ⟨_,v8,rfl⟩ ⟨_,u2,rfl⟩ PySem.F.slot_tuple_ge PySem.F.entry_tuple_ge (PySem.F.args_tuple_ge_2 _ _) (Kr l b items f6 n n2 dd v9 sl v7 r) ⟨v8,u2,hx,show Value.bool r≠Value.notImplemented/\Q (.bool r) s from⟨(fun x=>nomatch x),h⟩⟩ hu
end
mutual
def lI(op:CmpOp):D->D->Option Bool
 | .int i,.int j=>some (jD op i j)
 | .tup l,.tup m=>pT op l m
 |_,_=>none
def pT(op:CmpOp):List D->List D->Option Bool
 |[],m=>some (jD op 0 m.length)
 |x::l,[]=>some (jD op ((x::l).length) 0)
 |x::l,y::m=>if D.eqb x y=true then pT op l m else lI op x y
end
theorem pN(op:CmpOp)(a b k:Int):jD op (a+k) (b+k)=jD op a b:=by
 cases op<;>simp[jD]
section
variable {X:Cx}{pins:iq}{σ:L2.St}{H:Hp}{s:gC}
theorem DK(ho:pj op):OG op A s (.int i t) (.int j u) (jD op i j):=fun prog w E Q h=>by
 rcases ho with rfl|rfl|rfl|rfl
 ·exact(PyProof.Rows.lt_int h:wpAny (model prog w) A (compareOp .Lt _ _) Q E s)
 ·exact(PyProof.Rows.le_int h:wpAny (model prog w) A (compareOp .LtE _ _) Q E s)
 ·exact(PyProof.Rows.gt_int h:wpAny (model prog w) A (compareOp .Gt _ _) Q E s)
 ·exact(PyProof.Rows.ge_int h:wpAny (model prog w) A (compareOp .GtE _ _) Q E s)
theorem KO(ho:pj op)(I:Inv X pins σ H s): ∀(n:Nat) (d e:D) (v u:V) (a b:gQ) (O O':AP') (A:gZ) (r:Bool),jh X.K H O d v->jh X.K H O' e u->RelV v a->RelV u b->d.dep<=n->e.dep<20000->A.units+n<cLine->lI op d e=some r->OG op A s a b r:=by
 intro n
 induction n with
 |zero=>
  intro d e v u a b O O' A r hd he ra rb hn u4 hA hc
  cases d with
  |int i=>
   cases e with
   |int j=>
    have:=ic hd;subst this;have:=ic he;subst this;obtain⟨t,rfl⟩:=ra;obtain⟨t',rfl⟩:=rb;rw[lI] at hc;rw[<-iR hc];exact DK ho
   |_=>rw[lI] at hc<;>first|cases hc|(intros;simp_all)
  |tup l=>rw[D.dep] at hn;omega
  |_=>rw[lI] at hc<;>first|cases hc|(intros;simp_all)
 |succ n ih=>
  intro d e v u a b O O' A r hd he ra rb hn u4 hA hc
  cases d with
  |int i=>
   cases e with
   |int j=>
    have:=ic hd;subst this;have:=ic he;subst this;obtain⟨t,rfl⟩:=ra;obtain⟨t',rfl⟩:=rb;rw[lI] at hc;rw[<-iR hc];exact DK ho
   |_=>rw[lI] at hc<;>first|cases hc|(intros;simp_all)
  |tup l=>
   cases e with
   |tup m=>
    rw[lI] at hc;rw[D.dep] at hn u4;obtain⟨p,xs,rfl,q,r1⟩:=kj hd;obtain⟨p2,ys,rfl,q2,r2⟩:=kj he;cases ra;cases rb;obtain⟨b6,v1,pl,_⟩:=I.tuple q;obtain⟨e9,v2,g0,_⟩:=I.tuple q2;have l7:A.in1.units=A.units+1:=rfl
    have key: ∀(l m:List D) (xs ys:List V) (b6 e9:iV) (k:Int),D.depL l+1<=n+1->D.depL m<20000->RepL X.K H O l xs->RepL X.K H O' m ys->Vals xs b6->Vals ys e9->pT op l m=some r->zZ op A.in1 s (jD op (b6.length+k) (e9.length+k)) (b6.zip e9) r:=by
     intro l
     induction l with
     |nil=>
      intro m xs ys b6 e9 k aF aM r1 r2 v1 v2 hc;rw[RepL] at r1;subst r1;cases v1;rw[pT] at hc;have e1:=r2.length;have e2:=v2.length;show r=_;rw[pN,<-iR hc]
      congr 1
      omega
     |cons x l ihl=>
      intro m xs ys b6 e9 k aF aM r1 r2 v1 v2 hc;rw[RepL] at r1;obtain⟨vx,xr,rfl,g1,g2⟩:=r1
      cases v1 with
      |cons a1 a2=>
       cases m with
       |nil=>
        rw[RepL] at r2;subst r2;cases v2;rw[pT] at hc;have e1:=g2.length;have e2:=a2.length;rw[List.zip_nil_right];show r=_;rw[pN,<-iR hc]
        congr 1
        simp only[kD];omega
       |cons y m=>
        rw[RepL] at r2;obtain⟨vy,yr,rfl,g3,g4⟩:=r2
        cases v2 with
        |cons b1 b2=>
         rw[pT] at hc;rw[D.depL] at aF aM;rw[tR];refine⟨D.eqb x y,zF I n x y vx vy _ _ O O' A.in1 (.inl g1) (.inl g3) a1 b1 (by omega) (by omega) (by rw[l7];omega),?_⟩
         cases hq:D.eqb x y with
         |true=>
          rw[hq,gG rfl] at hc;rw[gG rfl];have:=ihl m xr yr _ _ (k+1) (by omega) (by omega) g2 g4 a2 b2 hc;simp only[kD];have e: ∀a:Nat,(((a+1:Nat):Int)+k)=(a:Int)+(k+1):=fun a=>by omega
          rw[e,e];exact this
         |false=>
          rw[hq,gJ jk] at hc;rw[gJ jk];exact ih x y vx vy _ _ O O' A.in1 r (.inl g1) (.inl g3) a1 b1 (by omega) (by omega) (by rw[l7];omega) hc
    have:=key l m xs ys b6 e9 0 (by omega) (by omega) r1 r2 v1 v2 hc;refine KN ho pl g0 (by omega) ?_;simpa using this
   |_=>rw[lI] at hc<;>first|cases hc|(intros;simp_all)
  |_=>rw[lI] at hc<;>first|cases hc|(intros;simp_all)
def jE(op:CmpOp)(d e:D):Option (D×Bool):=if d.dep<=50/\e.dep<=50 then(lI op d e).map fun b=>(.bl b,false) else none
theorem jT(ho:pj op)(hu:X.A.units+60<cLine):OpR X (compareOp op) (rD X.K (jE op)):=by
 intro pins s σ H x y v u Q I rx ry h;obtain⟨O,d,e,z,np,h1,h2,hg,G⟩:=h;unfold jE at hg;split at hg
 ·rename_i hd;obtain⟨r,hr,rfl⟩:=iP hg;have:=KO ho I 50 d e x y v u O O X.A r h1 h2 rx ry hd.1 (by omega) (by omega) hr X.prog X.w X.xe (EP X pins σ Q) ⟨.bl r,H,I,rfl,G.bl⟩;rcases ho with rfl|rfl|rfl|rfl<;>exact this
 ·cases hg
end
open TS
section
variable {prog:hW}{w:gU}{A:gZ}{E:il}{s:gC}
def qd(h:hV)(a:gz)(vs:iV):Heap:=((h.update a (Obj.mapSeq fun _=> #[])).push (seqObj "tuple" vs.toArray 0)).push (seqObj "list" #[] 0)
def Je(vs:iV)(i:Nat):Keyed:=(vs.getD i Value.none,vs.getD i Value.none)
theorem tu{a:gz}{vs:iV}{n:Nat}{P:PySem.Fin->Shared->Prop}{κ:SortKind}{lt:lx}(ho:s.heap.get? a=some (seqObj "list" vs.toArray n))(hz:vs.length<=sizeLine)(W:Wk lt)
  (hk:2<=vs.length->wpAny (model prog w) A (keyKind' vs.toArray) (fun κ' s'=>s'={s with heap:=qd s.heap a vs}/\κ'=κ) (fun _ _=>False) {s with heap:=qd s.heap a vs})
  (ask:2<=vs.length->Ask prog w A E (fun s'=>s'={s with heap:=qd s.heap a vs}) (Je vs) κ vs.length lt)
  (h: ∀p:List Nat,p.Perm (List.range vs.length)->p.Pairwise (SL lt)->P (.done (.ret .none)) {s with heap:=(qd s.heap a vs).update a (Obj.mapSeq fun _=>(p.map fun i=>vs.getD i Value.none).toArray)}):
  wpAny (model prog w) A (Builtin.«list.sort» ⟨[.ref a],[]⟩) P E s:=by
 rw[list_sort_plain];have ha:a<s.heap.objs.size:=iu ho;refine gx (listItems_at ho rfl (gx (E9 ho rfl ?_ (by rw[iD];exact hz) (lN _))));obtain⟨e1,v8⟩: ∃e1,(s.heap.update a (Obj.mapSeq fun _=>(#[]:Array Value))).get? a=some (seqObj "list" #[] e1):=⟨_,E8 ho fun _=> #[]⟩
 refine gx (E7 v8 rfl (gx (wpAny_newTuple ?_ (by show vs.length<=_;exact hz))));refine gx (wpAny_newList ?_ (lN _));refine mQ ?_;have eP:(qd s.heap a vs).get? a=some (seqObj "list" #[] e1):=iF _ (iF _ v8);show wpAny (model prog w) A _ P E {s with heap:=qd s.heap a vs};dsimp only;by_cases h2:vs.toArray.size<2
 ·rw[gG h2,gG h2];refine gx (gO ?_);rw[StateT.run_pure];refine gx (gO ?_);dsimp only;refine gx (E7 eP rfl (gx (E9 eP rfl ?_ (lN _) ?_)))
  ·simp only[uR,iO,jb];refine gO ?_;have eh:vs.length<2:=by simpa using h2
   have:=h (List.range vs.length) (tX _) (by
    rw[G2];intro i j hi hj l9;simp at hi hj;omega)
   have e:((vs.toArray.zip vs.toArray).map (·.2))=((List.range vs.length).map fun i=>vs.getD i Value.none).toArray:=by
    apply Array.ext
    ·simp
    ·intro i h1 h3;have hi:i<vs.length:=by simpa using h1
     simp[hi]
   rw[e];exact this
  ·rw[Array.size_map,Array.size_zip];simp;omega
 ·rw[gJ h2,gJ h2];have eh:2<=vs.length:=by simpa using h2
  refine gx (qa (hk eh) (fun κ' s' hκ=>?_) fun _ _ x=>x.elim);obtain⟨rfl,rfl⟩:=hκ
  have R:Rp (Je vs) κ' vs.length (SortSt.mk' κ' (vs.toArray.zip vs.toArray) #[] 7 none) (Array.range vs.length):=by
   refine⟨?_,rfl,rfl,by simp,Array.Perm.refl _⟩;show vs.toArray.zip vs.toArray=_;apply Array.ext
   ·simp
   ·intro i h1 h3;have hi:i<vs.length:=by simpa using h1
    simp[Je,hi]
  refine gx (qa (Kc (lt:=lt) W (ask eh) (by omega) R rfl (fun k hk=>by simp[TS.P,hk]) (Q:=fun _ b7=> ∃p',Rp (Je vs) κ' vs.length b7 p'/\p'.toList.Pairwise (SL lt)) (fun b7 p' R' hp=>⟨p',R',hp⟩) _ rfl) ?_ fun _ _ e=>e);rintro⟨⟨⟩,b7⟩ s' ⟨rfl,p',R',hp⟩;dsimp only;have aJ:failedOf b7=none:=R'.ok
  have out:(arrOf b7).map (·.2)=(p'.toList.map fun i=>vs.getD i Value.none).toArray:=by
   rw[R'.arr,Array.map_map];apply Array.toList_inj.mp;simp[Je]
  have pl:p'.toList.length=vs.length:=by simp[R'.size]
  refine gx (E7 eP rfl (gx (E9 eP rfl ?_ (lN _) ?_)))
  ·rw[aJ];simp only[uR,iO,jb];rw[out];refine gO (h p'.toList ?_ hp);have:=OI.mp R'.perm;simpa using this
  ·rw[out,iD,jj,pl];omega
end
mutual
def cT:D->D->Ordering
 | .int i,.int j=>if i<j then .lt else if i=j then .eq else .gt
 | .int _,_=> .lt
 | .tup _,.int _=> .gt
 | .tup l,.tup m=>cL l m
 | .tup _,_=> .lt
 |_,.int _=> .gt
 |_,.tup _=> .gt
 |_,_=> .eq
def cL:List D->List D->Ordering
 |[],[]=> .eq
 |[],_::_=> .lt
 |_::_,[]=> .gt
 |x::l,y::m=>match cT x y with
  | .lt=> .lt
  | .gt=> .gt
  | .eq=>cL l m
end
mutual
theorem CY: ∀x:D,cT x x= .eq
 | .int i=>by simp[cT]
 | .tup l=>by rw[cT];exact HV l
 | .non=>by simp[cT]
 | .bl _=>by simp[cT]
 | .str _=>by simp[cT]
 | .lst _=>by simp[cT]
 | .oth _ _ _=>by simp[cT]
theorem HV: ∀l:List D,cL l l= .eq
 |[]=>by simp[cL]
 |x::l=>by rw[cL,CY x];exact HV l
end
mutual
theorem kI: ∀x y:D,cT y x=(cT x y).swap
 | .int i,.int j=>by
  rw[cT,cT];by_cases h1:i<j
  ·rw[gG h1,gJ (by omega),gJ (by omega)];rfl
  ·rw[gJ h1];by_cases h2:i=j
   ·rw[gG h2,gJ (by omega),gG h2.symm];rfl
   ·rw[gJ h2,gG (by omega)];rfl
 | .tup l,.tup m=>by rw[cT,cT];exact HU l m
 | .int _,.tup _=>by simp[cT]
 | .int _,.non=>by simp[cT]
 | .int _,.bl _=>by simp[cT]
 | .int _,.str _=>by simp[cT]
 | .int _,.lst _=>by simp[cT]
 | .int _,.oth _ _ _=>by simp[cT]
 | .tup _,.int _=>by simp[cT]
 | .tup _,.non=>by simp[cT]
 | .tup _,.bl _=>by simp[cT]
 | .tup _,.str _=>by simp[cT]
 | .tup _,.lst _=>by simp[cT]
 | .tup _,.oth _ _ _=>by simp[cT]
 | .non,y=>by cases y<;>simp[cT]
 | .bl _,y=>by cases y<;>simp[cT]
 | .str _,y=>by cases y<;>simp[cT]
 | .lst _,y=>by cases y<;>simp[cT]
 | .oth _ _ _,y=>by cases y<;>simp[cT]
theorem HU: ∀l m:List D,cL m l=(cL l m).swap
 |[],[]=>by simp[cL]
 |[],_::_=>by simp[cL]
 |_::_,[]=>by simp[cL]
 |x::l,y::m=>by
  rw[cL,cL,kI x y];cases h:cT x y<;>simp[Ordering.swap]
  exact HU l m
end
theorem OY(h1:cT x y≠ .gt)(h2:cT y x≠ .gt):cT x y= .eq:=by
 rw[kI x y] at h2
 cases h:cT x y with
 |lt=>rw[h] at h2;exact absurd rfl h2
 |eq=>rfl
 |gt=>exact absurd h h1
mutual
theorem rf: ∀x y z:D,cT x y≠ .gt->cT y z≠ .gt->cT x z≠ .gt
 | .int i,y,z,h1,h2=>by
  cases z with
  |int k=>
   cases y with
   |int j=>
    rw[cT] at h1 h2 ⊢
    have a:i<=j:=by
     by_cases a:i<j
     ·omega
     ·rw[gJ a] at h1;by_cases b:i=j
      ·omega
      ·rw[gJ b] at h1;exact absurd rfl h1
    have b:j<=k:=by
     by_cases a:j<k
     ·omega
     ·rw[gJ a] at h2;by_cases b:j=k
      ·omega
      ·rw[gJ b] at h2;exact absurd rfl h2
    by_cases c:i<k
    ·rw[gG c];simp
    ·rw[gJ c,gG (by omega)];simp
   |_=>simp[cT] at h2
  |_=>simp[cT]
 | .tup l,y,z,h1,h2=>by
  cases y with
  |int j=>simp[cT] at h1
  |tup m=>
   cases z with
   |int k=>simp[cT] at h2
   |tup n=>rw[cT] at h1 h2 ⊢;exact Ey l m n h1 h2
   |_=>simp[cT]
  |_=>cases z<;>simp_all [cT]
 | .non,y,z,h1,h2=>by cases y<;>cases z<;>simp_all [cT]
 | .bl _,y,z,h1,h2=>by cases y<;>cases z<;>simp_all [cT]
 | .str _,y,z,h1,h2=>by cases y<;>cases z<;>simp_all [cT]
 | .lst _,y,z,h1,h2=>by cases y<;>cases z<;>simp_all [cT]
 | .oth _ _ _,y,z,h1,h2=>by cases y<;>cases z<;>simp_all [cT]
 termination_by x y z=>sizeOf x+sizeOf y+sizeOf z
theorem Ey: ∀l m n:List D,cL l m≠ .gt->cL m n≠ .gt->cL l n≠ .gt
 |[],m,n,_,_=>by cases n<;>simp[cL]
 |x::l,[],n,h1,_=>by simp[cL] at h1
 |x::l,y::m,[],_,h2=>by simp[cL] at h2
 |x::l,y::m,z::n,h1,h2=>by
  have a1:cT x y≠ .gt:=fun h=>by rw[cL,h] at h1;exact h1 rfl
  have a2:cT y z≠ .gt:=fun h=>by rw[cL,h] at h2;exact h2 rfl
  have a3:=rf x y z a1 a2;rw[cL]
  cases hxz:cT x z with
  |lt=>simp
  |gt=>exact absurd hxz a3
  |eq=>
   have zx:cT z x≠ .gt:=by rw[kI x z,hxz];simp[Ordering.swap]
   have exy:cT x y= .eq:=OY a1 (rf y z x a2 zx);have eyz:cT y z= .eq:=OY a2 (rf z x y zx a1);rw[cL,exy] at h1;rw[cL,eyz] at h2;exact Ey l m n h1 h2
 termination_by l m n=>sizeOf l+sizeOf m+sizeOf n
end
def ltT(x y:D):Bool:=cT x y== .lt
theorem AV:ltT x y=true↔cT x y= .lt:=by simp[ltT]
theorem kR:ltT x y=false↔cT x y≠ .lt:=by simp[ltT]
theorem Pq(f:Nat->D):Wk fun i j=>ltT (f i) (f j):=by
 have key: ∀x y z:D,ltT x z=true->ltT x y=true\/ltT y z=true:=fun x y z h=>by
  cases h1:ltT x y with
  |true=>exact .inl rfl
  |false=>
   cases h2:ltT y z with
   |true=>exact .inr rfl
   |false=>
    exfalso
    have yx:cT y x≠ .gt:=by
     rw[kI x y];intro e;rw[kR] at h1
     cases hc:cT x y with
     |lt=>exact h1 hc
     |eq=>rw[hc] at e;cases e
     |gt=>rw[hc] at e;cases e
    have zy:cT z y≠ .gt:=by
     rw[kI y z];intro e;rw[kR] at h2
     cases hc:cT y z with
     |lt=>exact h2 hc
     |eq=>rw[hc] at e;cases e
     |gt=>rw[hc] at e;cases e
    have:=rf z y x zy yx;rw[kI x z,AV.mp h] at this;exact this rfl
 refine⟨fun i=>by rw[kR,CY];simp,fun i j k h1 h2=>?_,fun i j k h=>key _ _ _ h⟩;rcases key (f i) (f k) (f j) h1 with h|h
 ·exact h
 ·
  rw[AV] at h h2;rw[kI,h] at h2;cases h2
mutual
/-- ints,and tuples of such -/
def D.pr:D->Bool
 | .int _=>true
 | .tup l=>D.prL l
 |_=>false
def D.prL:List D->Bool
 |[]=>true
 |x::l=>D.pr x&&D.prL l
end
mutual
theorem GA: ∀x y:D,D.pr x=true->D.pr y=true->D.eqb x y=(cT x y== .eq)
 | .int i,.int j,_,_=>by
  rw[D.eqb,cT];by_cases h:i=j
  ·subst h;simp
  ·rw[gJ h];by_cases h2:i<j<;>simp[h,h2]
 | .int _,.tup _,_,_=>by simp[D.eqb,cT]
 | .tup _,.int _,_,_=>by simp[D.eqb,cT]
 | .tup l,.tup m,h1,h2=>by rw[D.eqb,cT];rw[D.pr] at h1 h2;exact HN l m h1 h2
 | .non,_,h,_=>by simp[D.pr] at h
 | .bl _,_,h,_=>by simp[D.pr] at h
 | .str _,_,h,_=>by simp[D.pr] at h
 | .lst _,_,h,_=>by simp[D.pr] at h
 | .oth _ _ _,_,h,_=>by simp[D.pr] at h
 |_,.non,_,h=>by simp[D.pr] at h
 |_,.bl _,_,h=>by simp[D.pr] at h
 |_,.str _,_,h=>by simp[D.pr] at h
 |_,.lst _,_,h=>by simp[D.pr] at h
 |_,.oth _ _ _,_,h=>by simp[D.pr] at h
theorem HN: ∀l m:List D,D.prL l=true->D.prL m=true->D.eqbL l m=(cL l m== .eq)
 |[],[],_,_=>by simp[D.eqbL,cL]
 |[],_::_,_,_=>by simp[D.eqbL,cL]
 |_::_,[],_,_=>by simp[D.eqbL,cL]
 |x::l,y::m,h1,h2=>by
  rw[D.prL,lO] at h1 h2;rw[D.eqbL,cL,GA x y h1.1 h2.1,HN l m h1.2 h2.2];cases cT x y<;>simp
end
mutual
theorem yk: ∀x y:D,D.pr x=true->D.pr y=true-> ∀b,lI .Lt x y=some b->b=ltT x y
 | .int i,.int j,_,_,b,h=>by
  rw[lI] at h;rw[<-iR h,ltT,cT,jD];by_cases h1:i<j
  ·simp[h1]
  ·rw[gJ h1];by_cases h2:i=j<;>simp[h1,h2]
 | .int _,.tup _,_,_,b,h=>by simp[lI] at h
 | .tup _,.int _,_,_,b,h=>by simp[lI] at h
 | .tup l,.tup m,h1,h2,b,h=>by
  rw[lI] at h;rw[D.pr] at h1 h2;rw[ltT,cT];exact HP l m h1 h2 b h
 | .non,_,h,_,_,_=>by simp[D.pr] at h
 | .bl _,_,h,_,_,_=>by simp[D.pr] at h
 | .str _,_,h,_,_,_=>by simp[D.pr] at h
 | .lst _,_,h,_,_,_=>by simp[D.pr] at h
 |_,.non,_,h,_,_=>by simp[D.pr] at h
 |_,.bl _,_,h,_,_=>by simp[D.pr] at h
 |_,.str _,_,h,_,_=>by simp[D.pr] at h
 |_,.lst _,_,h,_,_=>by simp[D.pr] at h
theorem HP: ∀l m:List D,D.prL l=true->D.prL m=true-> ∀b,pT .Lt l m=some b->b=(cL l m== .lt)
 |[],[],_,_,b,h=>by rw[pT] at h;rw[<-iR h];simp[jD,cL]
 |[],_::_,_,_,b,h=>by rw[pT] at h;rw[<-iR h];simp[jD,cL]<;>omega
 |_::_,[],_,_,b,h=>by rw[pT] at h;rw[<-iR h];simp[jD,cL]<;>omega
 |x::l,y::m,h1,h2,b,h=>by
  rw[D.prL,lO] at h1 h2;rw[pT,GA x y h1.1 h2.1] at h;rw[cL]
  cases hc:cT x y with
  |eq=>rw[hc] at h;simp at h;exact HP l m h1.2 h2.2 b h
  |lt=>rw[hc] at h;simp at h;have:=yk x y h1.1 h2.1 b h;rw[this,ltT,hc]
  |gt=>rw[hc] at h;simp at h;have:=yk x y h1.1 h2.1 b h;rw[this,ltT,hc]
end
section
variable {α:Type}(lt:α->α->Bool)
def xK(x:α):List α->List α
 |[]=>[x]
 |y::l=>if lt y x=true then y::xK x l else x::y::l
def mx:List α->List α
 |[]=>[]
 |x::l=>xK lt x (mx l)
theorem rQ(x:α): ∀l:List α,(xK lt x l).Perm (x::l)
 |[]=>tX _
 |y::l=>by
  rw[xK];split
  ·exact((rQ x l).cons y).trans (List.Perm.swap x y l)
  ·exact tX _
theorem jH: ∀l:List α,(mx lt l).Perm l
 |[]=>tX _
 |x::l=>(rQ lt x _).trans ((jH l).cons x)
theorem Ed{β:Type}(bW:β->β->Bool)(f:α->β)(x:α): ∀l:List α,(∀y∈l,bW (f y) (f x)=lt y x)->xK bW (f x) (l.map f)=(xK lt x l).map f
 |[],_=>rfl
 |y::l,h=>by
  rw[iN,xK,xK,h y iX];split
  ·rw[iN,Ed bW f x l fun z hz=>h z (je _ hz)]
  ·rfl
theorem AI{β:Type}(bW:β->β->Bool)(f:α->β): ∀l:List α,(∀x∈l,∀y∈l,bW (f y) (f x)=lt y x)->mx bW (l.map f)=(mx lt l).map f
 |[],_=>rfl
 |x::l,h=>by
  rw[iN,mx,mx,AI bW f l fun a ha b hb=>h a (je _ ha) b (je _ hb)];exact Ed lt bW f x _ fun y hy=>h x iX y (je _ ((jH lt l).mem_iff.mp hy))
end
theorem HH{lt:lx}(W:Wk lt){x:Nat}: ∀{l:iM},l.Pairwise (SL lt)->(∀y∈l,x<y)->(xK lt x l).Pairwise (SL lt)
 |[],_,_=>BH _ _
 |y::l,h,hx=>by
  rw[qc] at h;rw[xK]
  cases hl:lt y x with
  |true=>
   rw[gG rfl,qc];refine⟨fun z hz=>?_,HH W h.2 fun z hz=>hx z (je _ hz)⟩;rcases jC.mp ((rQ lt x l).mem_iff.mp hz) with rfl|hz
   ·exact .inl hl
   ·exact h.1 z hz
  |false=>
   rw[gJ jk,qc];have first:SL lt x y:= .inr ⟨hl,hx y iX⟩;refine⟨fun z hz=>?_,qc.mpr h⟩;rcases jC.mp hz with rfl|hz
   ·exact first
   ·exact SL.trans W first (h.1 z hz)
theorem Dw{lt:lx}(W:Wk lt): ∀{l:iM},l.Pairwise (· < ·)->(mx lt l).Pairwise (SL lt)
 |[],_=>List.Pairwise.nil
 |x::l,h=>by
  rw[qc] at h;exact HH W (Dw W h.2) fun y hy=>h.1 y ((jH lt l).mem_iff.mp hy)
theorem Dv(W:Wk lt)(hp:p.Perm (List.range n))(hs:p.Pairwise (SL lt)):p=mx lt (List.range n):=by
 refine JO (fun x y _ _ h1 h2=>(SL.asym W h1 h2).elim) hs (Dw W OH) (hp.trans (jH lt _).symm)
theorem Im{ds:List D}{p:iM}(hp:p.Perm (List.range ds.length))(hs:p.Pairwise (SL fun i j=>ltT (ds.getD i .non) (ds.getD j .non))):p.map (fun i=>ds.getD i .non)=mx ltT ds:=by
 rw[Dv (Pq fun i=>ds.getD i .non) hp hs,<-AI _ ltT (fun i=>ds.getD i .non) _ fun x _ y _=>rfl]
 congr 1
 apply BP;intro i;by_cases hi:i<ds.length
 ·simp[hi]
 ·simp[hi]
def jZ:D->Option Nat
 | .int _=>some 0
 | .tup (.int _::_)=>some 1
 | .tup (.tup _::_)=>some 2
 |_=>none
def HE:Nat->SortKind
 |0=>oneType'
 |1=>tuples' true
 |_=>tuples' false
structure SortsBy(k:Nat)(l:List D):Prop where
 hd: ∀x∈l,jZ x=some k
 pr: ∀x∈l,D.pr x=true
 dp: ∀x∈l,x.dep<=50
 cm: ∀x∈l,∀y∈l,(lI .Lt x y).isSome=true
def mE(l:List D):Bool:=l.length<=1||match l with
 |[]=>true
 |x::_=>(jZ x).isSome&&(l.all fun y=>jZ y==jZ x&&D.pr y&&decide (y.dep<=50))&&l.all fun y=>l.all fun z=>(lI .Lt y z).isSome
theorem AJ(h:mE l=true):l.length<=1\/ ∃k,SortsBy k l:=by
 unfold mE at h;rw[vY] at h;rcases h with h|h
 ·left;simpa using h
 ·right
  cases l with
  |nil=>exact⟨0,fun x hx=>absurd hx kc,fun x hx=>absurd hx kc,fun x hx=>absurd hx kc,fun x hx=>absurd hx kc⟩
  |cons x m=>
   simp only[lO,mC,ub] at h;obtain⟨⟨h1,h2⟩,h3⟩:=h;obtain⟨k,hk⟩:=J8.mp h1;refine⟨k,fun y hy=>?_,fun y hy=>(h2 y hy).1.2,fun y hy=>(h2 y hy).2,fun y hy z hz=>h3 y hy z hz⟩;have:=(h2 y hy).1.1;rw[hk] at this;simpa using this
section
variable {X:Cx}{pins:iq}{σ:L2.St}{H:Hp}{s:gC}
theorem rC(v:Vals xs b6)(hi:i<b6.length):RelV (xs.getD i .non) (b6.getD i Value.none):=by
 have e:=v.length;have hx:xs[i]?=some xs[i]:=jd (by lia);obtain⟨w,w1,w2⟩:=v.get hx;have h1:xs.getD i .non=xs[i]:=by simp[show i<xs.length by lia]
 have h2:b6.getD i Value.none=w:=by
  rw[jd hi] at w1;have:=iR w1;simp[hi,this]
 rw[h1,h2];exact w2
theorem rL(r:RepL X.K H O ds xs)(hi:i<ds.length):Rep X.K H O (ds.getD i .non) (xs.getD i .non):=by
 have e:=r.length;have hd:ds[i]?=some ds[i]:=jd hi;obtain⟨v,v1,v2⟩:=r.get hd;have h1:ds.getD i .non=ds[i]:=by simp[hi]
 have h2:xs.getD i .non=v:=by
  rw[jd (by lia)] at v1;have:=iR v1;simp[show i<xs.length by lia,this]
 rw[h1,h2];exact v2
theorem zi{ds:List D}{i:Nat}(hi:i<ds.length):ds.getD i .non∈ds:=by simp[hi]
theorem Ea(I:Inv X pins σ H s){A:gZ}{b:Bool}{O O':AP'}(hA:A.units+60<cLine){r:Bool}{Q:qp}(hQ:Q r s): ∀(l m:List D) (xs ys:List V) (b6 e9:iV) (k:Int) (i:Nat),D.depL l<=50->D.depL m<=50->
  ((b&&i==0)=true-> ∀x y l' m',l=x::l'->m=y::m'->(∃a,x= .int a)/\ ∃c,y= .int c)->RepL X.K H O l xs->RepL X.K H O' m ys->Vals xs b6->Vals ys e9->pT .Lt l m=some r->
  ∀fin:Bool,fin=jD .Lt (b6.length+k) (e9.length+k)->PySem.W.KatLex X.prog X.w A b fin Q (b6.zip e9) i s
 |[],m,xs,ys,b6,e9,k,i,_,_,_,r1,r2,v1,v2,hc,fin,hf=>by
  rw[RepL] at r1;subst r1;cases v1;rw[pT] at hc;have e1:=r2.length;have e2:=v2.length;show Q fin s;rw[hf,pN];rw[<-iR hc] at hQ;have:jD .Lt ((([]:List Value).length:Nat):Int) (e9.length:Int)=jD .Lt 0 (m.length:Int):=by congr 1;lia
  rw[this];exact hQ
 |x::l,[],xs,ys,b6,e9,k,i,_,_,_,r1,r2,v1,v2,hc,fin,hf=>by
  rw[RepL] at r2;subst r2;cases v2;rw[pT] at hc;have e1:=r1.length;have e2:=v1.length;rw[List.zip_nil_right];show Q fin s;rw[hf,pN];rw[<-iR hc] at hQ;have:jD .Lt (b6.length:Int) ((([]:List Value).length:Nat):Int)=jD .Lt (((x::l).length:Nat):Int) 0:=by congr 1;lia
  rw[this];exact hQ
 |x::l,y::m,xs,ys,b6,e9,k,i,aF,aM,hb,r1,r2,v1,v2,hc,fin,hf=>by
  rw[RepL] at r1 r2;obtain⟨vx,xr,rfl,g1,g2⟩:=r1;obtain⟨vy,yr,rfl,g3,g4⟩:=r2
  cases v1 with
  |cons a1 a2=>
   cases v2 with
   |cons b1 b2=>
    rw[pT] at hc;rw[D.depL] at aF aM;rw[tR];refine PySem.W.kat_cons (zF I 50 x y vx vy _ _ O O' A (.inl g1) (.inl g3) a1 b1 (by lia) (by lia) (by lia) X.prog X.w _ _ ?_)
    cases hq:D.eqb x y with
    |true=>
     rw[hq,gG rfl] at hc;refine PySem.W.kat_yes (Ea I hA hQ l m xr yr _ _ (k+1) (i+1) (by lia) (by lia) (fun h=>by simp at h) g2 g4 a2 b2 hc fin ?_);rw[hf];simp only[kD];have e: ∀a:Nat,(((a+1:Nat):Int)+k)=(a:Int)+(k+1):=fun a=>by lia
     rw[e,e]
    |false=>
     rw[hq,gJ jk] at hc;refine PySem.W.kat_no ?_
     cases hbi:(b&&i==0) with
     |true=>
      obtain⟨⟨a,rfl⟩,c,rfl⟩:=hb hbi x y l m rfl rfl;have:=g1.int;subst this;have:=g3.int;subst this;obtain⟨t,rfl⟩:=a1;obtain⟨t',rfl⟩:=b1;rw[lI] at hc;rw[<-iR hc] at hQ;exact oneLt_int hQ
     |false=>
      exact PySem.W.kat_one _ _ (KO (.inl rfl) I 50 x y vx vy _ _ O O' A r (.inl g1) (.inl g3) a1 b1 (by lia) (by lia) (by lia) hc X.prog X.w _ _ hQ)
theorem Tv(I:Inv X pins σ H s){O:AP'}{ds:List D}{xs:List V}{b6:iV}{A:gZ}{E:il}(hA:A.units+60<cLine)(rr:RepL X.K H O ds xs)(v:Vals xs b6){k:Nat}(B:SortsBy k ds):
  Ask X.prog X.w A E (fun s'=>s'=s) (Je b6) (HE k) b6.length (fun i j=>ltT (ds.getD i .non) (ds.getD j .non)):=by
 intro i j hi hj s' aJ E';subst aJ;have e1:=rr.length;have e2:=v.length;have mi:ds.getD i .non∈ds:=zi (by lia);have mj:ds.getD j .non∈ds:=zi (by lia);have ri:=rL rr (i:=i) (by lia);have rj:=rL rr (i:=j) (by lia);have vi:=rC v hi;have vj:=rC v hj;obtain⟨b,hb⟩:=J8.mp (B.cm _ mi _ mj);have j0:=yk _ _ (B.pr _ mi) (B.pr _ mj) b hb;have bB:=B.hd _ mi;have bA:=B.hd _ mj;have di:=B.dp _ mi;have dj:=B.dp _ mj;show wpAny _ _ (keyLt' (HE k) (b6.getD i Value.none) (b6.getD j Value.none)) _ _ _;dsimp only;rw[<-j0];generalize ds.getD i .non=x at*;generalize ds.getD j .non=y at*;generalize xs.getD i .non=vx at*;generalize xs.getD j .non=vy at*;generalize b6.getD i Value.none=a at*;generalize b6.getD j Value.none=c at*
 have tups: ∀(l m:List D) (bb:Bool),x= .tup l->y= .tup m->(bb=true-> ∀x y l' m',l=x::l'->m=y::m'->(∃a,x= .int a)/\ ∃c,y= .int c)->wpAny (model X.prog X.w) A (keyLt' (tuples' bb) a c) (fun b' bV=>bV=s'/\b'=b) E' s':=fun l m bb hl hm hh=>by
  subst hl hm;obtain⟨p,us,rfl,q,r1⟩:=ri.tup;obtain⟨p2,ws,rfl,q2,r2⟩:=rj.tup;cases vi;cases vj;obtain⟨eK,w1,⟨o,ho,hc,n,hd⟩,_⟩:=I.tuple q.sq;obtain⟨is2,w2,⟨o2,u2,aG,n2,hd2⟩,_⟩:=I.tuple q2.sq;rw[lI] at hb;rw[D.dep] at di dj;refine PySem.W.kat_lt ho hd u2 hd2 ?_;have:=Ea I (b:=bb) hA (Q:=fun b' bV=>bV=s'/\b'=b) ⟨rfl,rfl⟩ l m us ws eK is2 0 0 (by lia) (by lia) (fun h=>hh (by simpa using h)) r1 r2 w1 w2 hb (decide (eK.toArray.size<is2.toArray.size)) (by simp[jD]);simpa using this
 match k,bB,bA with
 |0,bB,bA=>
  cases x with
  |int ix=>
   cases y with
   |int iy=>
    have:=ri.int;subst this;have:=rj.int;subst this;obtain⟨t,rfl⟩:=vi;obtain⟨t',rfl⟩:=vj;rw[lI] at hb;rw[<-iR hb];show wpAny _ _ (keyLt' oneType' _ _) _ _ _;rw[keyLt'_oneType];exact oneLt_int ⟨rfl,rfl⟩
   |tup m=>cases m with
    |nil=>simp[jZ] at bA
    |cons z m=>cases z<;>simp[jZ] at bA
   |_=>simp[jZ] at bA
  |tup m=>cases m with
   |nil=>simp[jZ] at bB
   |cons z m=>cases z<;>simp[jZ] at bB
  |_=>simp[jZ] at bB
 |1,bB,bA=>
  cases x with
  |tup l=>
   cases y with
   |tup m=>
    refine tups l m true rfl rfl fun _ x y l' m' hl hm=>?_;subst hl hm;refine⟨?_,?_⟩
    ·cases x with
     |int a=>exact⟨a,rfl⟩
     |_=>simp[jZ] at bB
    ·cases y with
     |int a=>exact⟨a,rfl⟩
     |_=>simp[jZ] at bA
   |_=>simp[jZ] at bA
  |_=>simp[jZ] at bB
 |(n+2),bB,bA=>
  cases x with
  |tup l=>
   cases y with
   |tup m=>exact tups l m false rfl rfl fun h=>absurd h jk
   |_=>simp[jZ] at bA
  |_=>simp[jZ] at bB
end
open PySem.W
section
variable {X:Cx}{pins:iq}{σ:L2.St}{H:Hp}{s:gC}
theorem zA(I:Inv X pins σ H s){O:AP'}{T:gQ}(P:D->Prop)(hP: ∀x v u,P x->Rep X.K H O x v->RelV v u->Looks (model X.prog X.w) s.heap (typeOf u) T): ∀{ds:List D} {xs:List V} {b6:iV},RepL X.K H O ds xs->Vals xs b6->
  (∀d∈ds,∃x l,d= .tup (x::l)/\P x)-> ∃fs,KatTups s.heap b6 fs/\fs.length=b6.length/\ ∀f∈fs,Looks (model X.prog X.w) s.heap (typeOf f) T
 |[],xs,b6,r,v,_=>by
  rw[RepL] at r;subst r;cases v;exact⟨[],KatTups.nil,rfl,fun f hf=>absurd hf kc⟩
 |d::ds,xs,b6,r,v,h=>by
  rw[RepL] at r;obtain⟨vx,xr,rfl,g1,g2⟩:=r
  cases v with
  |cons a1 a2=>
   obtain⟨fs,k1,k2,k3⟩:=zA I P hP g2 a2 fun d hd=>h d (je _ hd);obtain⟨x,l,rfl,px⟩:=h d iX;obtain⟨p,us,rfl,q,r1⟩:=g1.tup;cases a1;obtain⟨eK,w1,⟨o,ho,hc,n,hd⟩,_⟩:=I.tuple q.sq;rw[RepL] at r1;obtain⟨vy,yr,rfl,g3,g4⟩:=r1
   cases w1 with
   |cons b1 b2=>
    rename_i f fr;refine⟨f::fs,KatTups.cons ho hc hd (by simp) k1,by simp[k2],fun g hg=>?_⟩;rcases jC.mp hg with rfl|hg
    ·exact hP x vy _ px g3 b1
    ·exact k3 g hg
theorem Rh(I:Inv X pins σ H s){O:AP'}{ds:List D}{xs:List V}{b6:iV}{A:gZ}(rr:RepL X.K H O ds xs)(v:Vals xs b6){k:Nat}(B:SortsBy k ds)(h2:2<=b6.length):
  wpAny (model X.prog X.w) A (keyKind' b6.toArray) (fun κ' s'=>s'=s/\κ'=HE k) (fun _ _=>False) s:=by
 have e1:=rr.length;have e2:=v.length
 match k,B with
 |0,B=>
  refine kas_kind (T:= .type "int") h2 (fun u hu=>?_) rfl rfl ⟨rfl,rfl⟩;obtain⟨i,hi,e⟩:=yq hu;have ri:=rL rr (i:=i) (by omega);have vi:=rC v hi;have hd:=B.hd _ (zi (ds:=ds) (i:=i) (by omega));have:b6.getD i Value.none=u:=by simp[hi,e]
  rw[this] at vi
  cases hx:ds.getD i .non with
  |int a=>
   rw[hx] at ri;have:=ri.int;rw[this] at vi;obtain⟨t,rfl⟩:=vi;exact Looks.of_pure rfl
  |tup l=>
   rw[hx] at hd
   cases l with
   |nil=>simp[jZ] at hd
   |cons z m=>cases z<;>simp[jZ] at hd
  |_=>rw[hx] at hd;simp[jZ] at hd
 |1,B=>
  obtain⟨fs,f1,f2,f3⟩:=zA I (T:= .type "int") (fun x=> ∃a,x= .int a) (fun x vv u px rx rv=>by
   obtain⟨a,rfl⟩:=px;have:=rx.int;subst this;obtain⟨t,rfl⟩:=rv
   exact Looks.of_pure rfl) rr v fun d hd=>by
    have:=B.hd d hd
    cases d with
    |tup l=>
     cases l with
     |nil=>simp[jZ] at this
     |cons z m=>
      cases z with
      |int a=>exact⟨_,m,rfl,a,rfl⟩
      |_=>simp[jZ] at this
    |_=>simp[jZ] at this
  exact kat_kind f1 (by omega) f3 rfl ⟨rfl,rfl⟩
 |(n+2),B=>
  obtain⟨fs,f1,f2,f3⟩:=zA I (T:= .type "tuple") (fun x=> ∃a,x= .tup a) (fun x vv u px rx rv=>by
   obtain⟨a,rfl⟩:=px;obtain⟨p,us,rfl,q,r1⟩:=rx.tup;cases rv;obtain⟨eK,w1,⟨o,ho,hc,n,hd⟩,_⟩:=I.tuple q.sq;have:Looks (model X.prog X.w) s.heap (typeOf (.ref p)) o.cls:=(Looks.ld ho).andThen .now
   rw[hc] at this;exact this) rr v fun d hd=>by
    have:=B.hd d hd
    cases d with
    |tup l=>
     cases l with
     |nil=>simp[jZ] at this
     |cons z m=>
      cases z with
      |tup a=>exact⟨_,m,rfl,a,rfl⟩
      |_=>simp[jZ] at this
    |_=>simp[jZ] at this
  exact kat_kind f1 (by omega) f3 rfl ⟨rfl,rfl⟩
def jM(l:List D):Option (D×Bool):=if mE l=true/\l.length<=sizeLine then some (.lst (mx ltT l),true) else none
def vz(d:D):Option (D×Bool):=(sY d).bind jM
theorem Dl{xs:List V}{b6:iV}(v:Vals xs b6): ∀(p:iM),(∀i∈p,i<b6.length)->Vals (p.map fun i=>xs.getD i .non) (p.map fun i=>b6.getD i Value.none)
 |[],_=> .nil
 |i::p,h=> .cons (rC v (h i iX)) (Dl v p fun j hj=>h j (je _ hj))
theorem DI{O:AP'}{ds:List D}{xs:List V}(r:RepL X.K H O ds xs): ∀(p:iM),(∀i∈p,i<ds.length)->RepL X.K H O (p.map fun i=>ds.getD i .non) (p.map fun i=>xs.getD i .non)
 |[],_=>RepL.nil
 |i::p,h=>RepL.cons (rL r (h i iX)) (DI r p fun j hj=>h j (je _ hj))
theorem FJ{ds:List D}{n:Nat}(hl:n=ds.length)(h1:ds.length<=1){p:iM}(hp:p.Perm (List.range n)):p.map (fun i=>ds.getD i .non)=mx ltT ds:=by
 subst hl
 match ds,h1,hp with
 |[],_,hp=>
  have:p=[]:=by simpa using hp.length_eq
  subst this;rfl
 |[d],_,hp=>
  have hl:p.length=1:=by simpa using hp.length_eq
  match p,hl,hp with
  |[i],_,hp=>
   have:i=0:=by have:=hp.mem_iff.mp (qw.mpr rfl);simpa using this
   subst this;rfl
theorem rF(hu:X.A.units+62<cLine)(I:Inv X pins σ H s){O:AP'}{ds:List D}{xs:List V}{b6:iV}{x:gQ}{Q:VK}{z:D×Bool}(rr:RepL X.K H O ds xs)(v:Vals xs b6)(hg:jM ds=some z)(G:Gen X.K H O z Q)
  (hc: ∀(Q':List Value->Shared->Prop) (E':il) (A':gZ),A'.handled=X.A.handled->(∀(h':hV) (tk:Nat),(∀b o,s.heap.get? b=some o->h'.get? b=some o)->Q' b6 {s with heap:=h',toks:=tk})->wpAny (model X.prog X.w) A' (collect x) Q' E' s):
  wpAny (model X.prog X.w) X.A (call (.builtin "sorted") [x]) (EP X pins σ Q) X.xe s:=by
 unfold jM at hg;obtain⟨⟨hok,hz⟩,rfl⟩:=ip hg;have e1:=rr.length;have e2:=v.length;refine Calls.call_function_entry kind_sorted plain_sorted entry_sorted (args_sorted1 _) ?_;unfold Builtin.«sorted»;refine gx (m:=checkCount "sorted" 1 1 _) (gO ?_);refine gx (hc _ _ _ rfl fun h1 tk k1=>?_);refine gx (wpAny_newList ?_ (by omega));have ho:(h1.push (seqObj "list" b6.toArray 0)).get? h1.objs.size=some (seqObj "list" b6.toArray 0):=jG _ rfl;have I1:Inv X pins σ H {s with heap:=h1,toks:=tk}:=I.kept k1
 have keep: ∀b o,h1.get? b=some o->(qd (h1.push (seqObj "list" b6.toArray 0)) h1.objs.size b6).get? b=some o:=fun b o e'=>by
  have hb:b≠h1.objs.size:=iL (iu e');refine iF _ (iF _ ?_);rw[JN _ _ _ _ hb];exact iF _ e'
 have I2:Inv X pins σ H {s with heap:=qd (h1.push (seqObj "list" b6.toArray 0)) h1.objs.size b6,toks:=tk}:=I1.kept keep;have cP: ∀i∈List.range b6.length,i<b6.length:=fun i hi=>by simpa using hi
 refine gx (mQ (nD (s:={s with heap:=h1.push (seqObj "list" b6.toArray 0),toks:=tk}) slot_list_sort ⟨_,ho,rfl⟩ entry_list_sort ?body (args_list_sort _)))
 case body=>
  have fin: ∀p:List Nat,p.Perm (List.range b6.length)->p.map (fun i=>ds.getD i .non)=mx ltT ds->EP X pins σ Q (.ref h1.objs.size) {s with heap:=(qd (h1.push (seqObj "list" b6.toArray 0)) h1.objs.size b6).update h1.objs.size (Obj.mapSeq fun _=>(p.map fun i=>b6.getD i Value.none).toArray),toks:=tk}:=fun p hp hs=>by
   have pi: ∀i∈p,i<b6.length:=fun i hi=>by simpa using hp.mem_iff.mp hi
   have ob: ∃n,(qd (h1.push (seqObj "list" b6.toArray 0)) h1.objs.size b6).get? h1.objs.size=some (seqObj "list" #[] n):=by
    obtain⟨e1,v8⟩: ∃e1,((h1.push (seqObj "list" b6.toArray 0)).update h1.objs.size (Obj.mapSeq fun _=>(#[]:Array Value))).get? h1.objs.size=some (seqObj "list" #[] e1):=⟨_,E8 ho fun _=> #[]⟩
    exact⟨e1,iF _ (iF _ v8)⟩
   obtain⟨n,ob⟩:=ob;obtain⟨c2,aG⟩: ∃c2,((qd (h1.push (seqObj "list" b6.toArray 0)) h1.objs.size b6).update h1.objs.size (Obj.mapSeq fun _=>(p.map fun i=>b6.getD i Value.none).toArray)).get? h1.objs.size=some (seqObj "list" (p.map fun i=>b6.getD i Value.none).toArray c2):=⟨_,E8 ob fun _=>(p.map fun i=>b6.getD i Value.none).toArray⟩
   have keep2: ∀b o,h1.get? b=some o->((qd (h1.push (seqObj "list" b6.toArray 0)) h1.objs.size b6).update h1.objs.size (Obj.mapSeq fun _=>(p.map fun i=>b6.getD i Value.none).toArray)).get? b=some o:=fun b o e'=>by
    rw[JN _ _ _ _ (iL (iu e'))];exact keep b o e'
   have pl:p.length=b6.length:=by simpa using hp.length_eq
   refine⟨.ref h1.objs.size,_,I1.laid (t':=tk) keep2 (ir _) (show ObjOk X.prog X.w _ _ _ (.lst (p.map fun i=>xs.getD i .non)) from⟨by rw[jj];omega,_,c2,Dl v p pi,aG⟩),rfl,?_⟩;refine G.lst I1.fresh ?_;rw[<-hs];exact DI rr p fun i hi=>by have:=pi i hi;omega
  rcases AJ hok with hlen|⟨k,B⟩
  ·refine tu (κ:=general') (lt:=fun _ _=>false) (s:={s with heap:=h1.push (seqObj "list" b6.toArray 0),toks:=tk}) ho (by omega) (Wk.mk (fun _=>rfl) (fun _ _ _ h=>absurd h jk) (fun _ _ _ h=>absurd h jk)) (fun h=>by omega) (fun h=>by omega) fun p hp _=>⟨_,rfl,gO ⟨_,rfl,fin p hp ?_⟩⟩
   exact FJ (by omega) hlen hp
  ·refine tu (κ:=HE k) (lt:=fun i j=>ltT (ds.getD i .non) (ds.getD j .non)) (s:={s with heap:=h1.push (seqObj "list" b6.toArray 0),toks:=tk}) ho (by omega) (Pq _) (fun h=>Rh I2 rr v B h) (fun _=>Tv (A:=X.A.in1.in1) I2 (by show X.A.units+1+1+60<cLine;omega) rr v B) fun p hp hs=>⟨_,rfl,gO ⟨_,rfl,fin p hp (Im (by rw[show ds.length=b6.length by omega];exact hp) hs)⟩⟩
theorem CW(hu:X.A.units+62<cLine):jB X (.builtin "sorted") (rDn X.K (g1 vz)):=nX fun pins s σ H x u Q O d z I ru np hd hg G=>by
 obtain⟨l,hl,hg⟩:=gv hg
 have hz:l.length<=sizeLine:=by
  unfold jM at hg;exact(ip hg).1.2
 cases d with
 |lst m=>
  cases hl;obtain⟨p,xs,rfl,q,r⟩:=jL hd;cases ru;obtain⟨b6,v,pl,_⟩:=I.list q;have e1:=r.length;have e2:=v.length;obtain⟨o,ho,hc,n,hd⟩:=pl.isList;refine rF hu I r v hg G fun Q' E' A' _ hQ=>wpAny_collect_seq p (.inl rfl) ho hc hd (fun h' k=>by simpa using hQ h' s.toks k) (by rw[iD];omega)
 |tup m=>
  cases hl;obtain⟨p,xs,rfl,q,r⟩:=kj hd;cases ru;obtain⟨b6,v,⟨o,ho,hc,n,hd⟩,_⟩:=I.tuple q;have e1:=r.length;have e2:=v.length;refine rF hu I r v hg G fun Q' E' A' _ hQ=>wpAny_collect_seq p (.inr rfl) ho hc hd (fun h' k=>by simpa using hQ h' s.toks k) (by rw[iD];omega)
 |_=>cases hl
end
theorem Av:bootBuiltins "isinstance"=some (.builtin "isinstance"):=by decide+kernel
structure Tx(mg:lu):Prop where
 n_len:mg "len"=none
 n_abs:mg "abs"=none
 n_int:mg "int"=none
 n_tuple:mg "tuple"=none
 n_list:mg "list"=none
 n_range:mg "range"=none
 n_isinstance:mg "isinstance"=none
 n_bool:mg "bool"=none
 n_max:mg "max"=none
 n_min:mg "min"=none
 n_all:mg "all"=none
 n_any:mg "any"=none
 n_sorted:mg "sorted"=none
 n_enumerate:mg "enumerate"=none
 n_zip:mg "zip"=none
 n_set:mg "set"=none
theorem AL{K:hG}{H:Hp}{O:AP'}: ∀ns:List Int,RepL K H O (ns.map .int) (ns.map V.int)
 |[]=>RepL.nil
 |n::ns=>RepL.cons Rep.mkInt (AL ns)
theorem Rg{K:hG}{ev:EvF}{H:Hp}{a:gz}{ns:gY}(hS:SqL K H a (ns.map V.int)){o:Bool}{outs:Dn}(h:ev [(.lst (ns.map .int),false)]=some ((.bl true,o),outs)):spF K ev [.ref a] H (fun v _=>v= .bl true) fun _ _ _=>False:=by
 have no: ∀b,¬OwnA [some (V.ref a)] [some (D.lst (ns.map .int),false)] b:=fun b ⟨i,d,h1,h2⟩=>by
  cases i with
  |zero=>simp at h1
  |succ i=>simp at h1
 refine⟨fun _=>False,[(.lst (ns.map .int),false)],_,outs,⟨rfl,fun i d hd=>?_,fun i d hd=>?_,fun i j d e b h1=>?_,fun b z=>absurd z (no b),fun b z=>z.elim⟩,h,fun v H' P=>?_⟩
 ·cases i with
  |zero=>
   simp at hd;subst hd;refine⟨_,rfl,Rep.mkLst (a:=a) (xs:=ns.map V.int) ?_ (AL ns)⟩;exact hS.imp (fun z=>⟨z,fun z=>z.elim (no a) id⟩) id
  |succ i=>simp at hd
 ·cases i with
  |zero=>simp at hd
  |succ i=>simp at hd
 ·cases i with
  |zero=>simp at h1
  |succ i=>simp at h1
 ·cases o with
  |false=>exact P.2.2.bl
  |true=>
   obtain⟨p,_,_,_,ok⟩:=P.2;exact ok.elim
def nS(op n4:CmpOp)(fa fb fc:FO):F:=fun δ=>(fa δ).bind fun p=>(fb p.2).bind fun q=>match res q.2 p.1,res q.2 q.1 with
 |some (.int i),some (.int j)=>if jD op i j=true then(fc q.2).bind fun r=>match res r.2 r.1 with
   |some (.int k)=>some ((.bl (jD n4 j k),false),r.2)
   |_=>none
  else some ((.bl false,false),q.2)
 |_,_=>none
section
variable {X:Cx}{a b c:gR}{fa fb fc:FO}{pos:Pos}{op n4:CmpOp}
theorem yg(h:pj op):OpR X (compareOp op) (rI0 fun i j=> .bl (jD op i j)):=by
 rcases h with rfl|rfl|rfl|rfl
 ·exact SN
 ·exact SO
 ·exact SQ
 ·exact SR
theorem Ba(hw:tF X.K (nS op n4 fa fb fc) σ H Q):FG (rI0 fun i j=> .bl (jD op i j)) (rI0 fun i j=> .bl (jD n4 i j)) (tO X.K fa) (tO X.K fb) (tO X.K fc) σ H Q:=by
 obtain⟨δ,T,rr,δ',E,e,k⟩:=hw;unfold nS at e;obtain⟨⟨o1,δ1⟩,h1,e⟩:=gv e;obtain⟨⟨o2,δ2⟩,h2,e⟩:=gv e;refine⟨δ,T,o1,δ1,E,h1,fun v H1 P1=>⟨δ1,AA T o1 v,o2,δ2,P1.er E,h2,fun u H2 P2=>?_⟩⟩;have B:=Ops.cons E P1 (Ops.cons (P1.er E) P2 (Ops.nil (P2.er (P1.er E))));dsimp only at e;split at e
 ·rename_i i j hx hy;have hv:=ic (B.view (j:=0) rfl rfl hx);have hu:=ic (B.view (j:=1) rfl rfl hy);refine⟨i,j,hv,hu,jD op i j,rfl,?_⟩;by_cases c:jD op i j=true
  ·rw[gG c] at e ⊢;obtain⟨⟨o3,δ3⟩,h3,e⟩:=gv e;dsimp only at e;split at e
   ·rename_i k' hz;obtain⟨rfl,rfl⟩:=hC e;refine⟨δ2,_,o3,δ3,P2.er (P1.er E),h3,fun w H3 P3=>?_⟩;have B3:=Ops.cons E P1 (Ops.cons (P1.er E) P2 (Ops.cons (P2.er (P1.er E)) P3 (Ops.nil (P3.er (P2.er (P1.er E))))));exact⟨j,k',hu,ic (B3.view (j:=2) rfl rfl hz),(B3.done k).bl⟩
   ·cases e
  ·rw[gJ c] at e ⊢;obtain⟨rfl,rfl⟩:=hC e;exact(B.done k).bl
 ·cases e
theorem KZ(ho:pj op)(ak:pj n4)(ha:PO X a fa)(hb:PO X b fb)(hc:PO X c fc)(hm:lastMarks [op,n4] [b,c]=false:=by with_unfolding_all rfl):PX X (.Compare a [op,n4] [b,c] pos) (nS op n4 fa fb fc):=
 PX.imp (Lu (yg ho) (yg ak) ha hb hc hm) fun σ H Q hw=>Ba hw
theorem ID(ho:pj op)(ak:pj n4)(ha:PO X a fa)(hb:PO X b fb)(hc:PO X c fc)(hm:lastMarks [op,n4] [b,c]=false:=by with_unfolding_all rfl):PTX X (.Compare a [op,n4] [b,c] pos) (fT (nS op n4 fa fb fc)):=
 PT.imp' (K5 (yg ho) (yg ak) ha hb hc hm) fun σ H Q hw=>Ba (Ks hw)
end
def vIs(x:V)(c:Bool):Bool:=match x with
 | .bl b=>b==c
 |_=>false
def gIs:D->D->Option (D×Bool)
 | .bl b,.bl c=>some (.bl (b==c),false)
 |_,.bl _=>some (.bl false,false)
 | .non,.non=>some (.bl true,false)
 |_,.non=>some (.bl false,false)
 |_,_=>none
def Mf:D->D->Option (D×Bool)
 | .bl b,.bl c=>some (.bl (!(b==c)),false)
 |_,.bl _=>some (.bl true,false)
 | .non,.non=>some (.bl false,false)
 |_,.non=>some (.bl true,false)
 |_,_=>none
section
variable {X:Cx}
theorem G7(rx:RelV x v)(c:Bool):plainIs v (.bool c)=true/\(v== .bool c)=vIs x c:=by
 cases x<;>first
  |(cases rx;exact⟨rfl,rfl⟩)
  |(obtain⟨t,rfl⟩:=rx;exact⟨rfl,rfl⟩)
  |(rename_i b;cases rx;refine⟨rfl,?_⟩;cases b<;>cases c<;>rfl)
theorem LD:OpR X (compareOp .Is) (fun x y H Q=> ∃c,y= .bl c/\Q (.bl (vIs x c)) H):=by
 intro pins s σ H x y v u Q I rx ry h;obtain⟨c,rfl,q⟩:=h;cases ry;obtain⟨h1,h2⟩:=G7 rx c;exact wpAny_is_plain h1 (CP I q (by rw[h2]))
theorem AR:OpR X (compareOp .IsNot) (fun x y H Q=> ∃c,y= .bl c/\Q (.bl (!vIs x c)) H):=by
 intro pins s σ H x y v u Q I rx ry h;obtain⟨c,rfl,q⟩:=h;cases ry;obtain⟨h1,h2⟩:=G7 rx c;exact wpAny_isNot_plain h1 (CP I q (by rw[h2]))
theorem qH{K H}(h:jh K H O (.bl b) v):v= .bl b:=h.elim (fun h=>h.bl) fun⟨_,_,h⟩=>h.elim
theorem oW{K H}(h:jh K H O .non v):v= .non:=h.elim (fun h=>h.non) fun⟨_,_,h⟩=>h.elim
theorem Dk{K H}(h:jh K H O d v)(nb: ∀b,d≠ .bl b)(c:Bool):vIs v c=false:=by
 cases d with
 |bl b=>exact absurd rfl (nb b)
 |non=>rw[oW h];rfl
 |int i=>rw[ic h];rfl
 |str x=>
   rcases h with h|⟨a,_,h⟩
   ·rw[h.str];rfl
   ·exact h.elim
 |tup l=>
   rcases h with h|⟨a,_,h⟩
   ·rw[Rep] at h;obtain⟨a,xs,rfl,_⟩:=h;rfl
   ·exact h.elim
 |lst l=>
   rcases h with h|⟨a,rfl,h⟩
   ·rw[Rep] at h;obtain⟨a,xs,rfl,_⟩:=h;rfl
   ·rfl
 |oth _ _ _=>
   rcases h with h|⟨a,rfl,h⟩
   ·rw[Rep] at h;obtain⟨a,xs,rfl,_⟩:=h;rfl
   ·rfl
theorem xc{K H}(h:jh K H O d v)(nb:d≠ .non):v≠ .non:=by
 cases d with
 |bl b=>rw[qH h];intro z;cases z
 |non=>exact absurd rfl nb
 |int i=>rw[ic h];intro z;cases z
 |str x=>
   rcases h with h|⟨a,_,h⟩
   ·rw[h.str];intro z;cases z
   ·exact h.elim
 |tup l=>
   rcases h with h|⟨a,_,h⟩
   ·rw[Rep] at h;obtain⟨a,xs,rfl,_⟩:=h;intro z;cases z
   ·exact h.elim
 |lst l=>
   rcases h with h|⟨a,rfl,h⟩
   ·rw[Rep] at h;obtain⟨a,xs,rfl,_⟩:=h;intro z;cases z
   ·intro z;cases z
 |oth _ _ _=>
   rcases h with h|⟨a,rfl,h⟩
   ·rw[Rep] at h;obtain⟨a,xs,rfl,_⟩:=h;intro z;cases z
   ·intro z;cases z
theorem F8:OpR X (compareOp .Is) (rD X.K gIs):=by
 intro pins s σ H x y v u Q I rx ry h;obtain⟨O,d,e,z,np,h1,h2,hg,G⟩:=h
 cases e with
 |bl c=>
  have hy:=qH h2;by_cases hb: ∃b,d= .bl b
  ·obtain⟨b,rfl⟩:=hb;cases hg;refine LD pins s σ H x y v u Q I rx ry ⟨c,hy,?_⟩;rw[qH h1];exact G.bl
  ·have nb: ∀b,d≠ .bl b:=fun b z=>hb ⟨b,z⟩;have hz:z=(.bl false,false):=by cases d<;>first|exact absurd rfl (nb _)|(cases hg;rfl)
   subst hz;refine LD pins s σ H x y v u Q I rx ry ⟨c,hy,?_⟩;rw[Dk h1 nb c];exact G.bl
 |non=>
  have hy:=oW h2;by_cases hb:d= .non
  ·subst hb;cases hg;refine LC pins s σ H x y v u Q I rx ry ⟨hy,?_⟩;rw[oW h1];exact G.bl
  ·have hz:z=(.bl false,false):=by cases d<;>first|exact absurd rfl hb|(cases hg;rfl)
   subst hz;refine LC pins s σ H x y v u Q I rx ry ⟨hy,?_⟩;rw[kX (xc h1 hb)];exact G.bl
 |_=>cases d<;>cases hg
theorem IQ:OpR X (compareOp .IsNot) (rD X.K Mf):=by
 intro pins s σ H x y v u Q I rx ry h;obtain⟨O,d,e,z,np,h1,h2,hg,G⟩:=h
 cases e with
 |bl c=>
  have hy:=qH h2;by_cases hb: ∃b,d= .bl b
  ·obtain⟨b,rfl⟩:=hb;cases hg;refine AR pins s σ H x y v u Q I rx ry ⟨c,hy,?_⟩;rw[qH h1];exact G.bl
  ·have nb: ∀b,d≠ .bl b:=fun b z=>hb ⟨b,z⟩;have hz:z=(.bl true,false):=by cases d<;>first|exact absurd rfl (nb _)|(cases hg;rfl)
   subst hz;refine AR pins s σ H x y v u Q I rx ry ⟨c,hy,?_⟩;rw[Dk h1 nb c];exact G.bl
 |non=>
  have hy:=oW h2;by_cases hb:d= .non
  ·subst hb;cases hg;refine Hv pins s σ H x y v u Q I rx ry ⟨hy,?_⟩;rw[oW h1];exact G.bl
  ·have hz:z=(.bl true,false):=by cases d<;>first|exact absurd rfl hb|(cases hg;rfl)
   subst hz;refine Hv pins s σ H x y v u Q I rx ry ⟨hy,?_⟩;rw[kX (xc h1 hb)];exact G.bl
 |_=>cases d<;>cases hg
end
end PX
namespace HT
open PySem PySem.Spec PyProof.Rows L2
section
variable {prog:hW}{w:gU}{A:gZ}{E:il}{s:gC}
theorem Gu{t sl:gz}{items:kz}{vl vu:gQ}{lo hi:Option Int}{Q:il}(ht:IsTup s.heap t items)(hs:s.heap.IsSliceOf sl vl vu .none)(pl:IsPart vl lo)(pu:IsPart vu hi)
  (hw:sIx items.size 0 lo=0/\sIx items.size items.size hi=items.size)(h:Q (.ref t) s):wpAny (model prog w) A (getItem (.ref t) (.ref sl)) Q E s:=by
 obtain⟨os,bz,cS,dY⟩:=id hs;have gc:s.TypeIs (.ref sl) "slice":=⟨os,bz,cS⟩
 unfold getItem
 try with_reducible refine mQ ?_
 first|refine gx (gO ?_)|skip
 refine gx (wpAny_sequenceKey ht.typeIs (by decide) ?_)
 refine gx (sU (name:=Str.ofString "__getitem__") ht.typeIs Ab
  (nD Ab ht.typeIs JZ ?_ (args_tuple_getitem _ _)))
 show wpAny _ _ (Builtin.Tuple.tupleItemsOf (.ref t)>>=_) _ _ s;refine gx (tupleItemsOf_ ht ?_);refine gx (uS gc ?_);rw[gG (by decide)];refine gx (oZ hs pl pu ?_);rw[hw.1,hw.2];show wpAny _ _ (if((((0:Nat):Int)==0&&(1:Int)==1&&(items.size-0)==items.size)=true) then _ else _) _ _ s;rw[gG (by simp)];refine gx (m:=Builtin.Tuple.tupleIsExact _) ?_;unfold Builtin.Tuple.tupleIsExact;refine gx (uS ht.typeIs ?_);refine gO ?_;rw[gG (by decide)];refine gx (uQ ?_)
 first
  |exact gx (gO ⟨_,rfl,gO h⟩)
  |exact gO ⟨_,rfl,gO h⟩
  |exact gx (gO (gO ⟨_,rfl,gO h⟩))
  |(refine gx ?_;trace_state;done)
end
end HT
namespace PX
open PySem PySem.Spec PyProof.Rows L2 PySem.SeqAt
def xt(l:List D)(lo hi:Option Int):List D:=(l.drop (HT.sIx l.length 0 lo)).take (HT.sIx l.length l.length hi-HT.sIx l.length 0 lo)
def gSl(lo hi:Option Int):D->Option (D×Bool)
 | .tup l=>some (.tup (xt l lo hi),false)
 | .lst l=>some (.lst (xt l lo hi),true)
 |_=>none
def UZ(K:hG):V->Option Int->Option Int->Hp->VK->Prop:=fun x lo hi H Q=> ∃(O:AP') (d:D) (z:D×Bool),(∀p,H p=none-> ¬O p)/\jh K H O d x/\gSl lo hi d=some z/\Gen K H O z Q
theorem RepL.cut{K H}(r:RepL K H O l xs)(lo hi:Option Int):RepL K H O (xt l lo hi) (Eo xs lo hi):=by
 unfold xt Eo;rw[r.length];exact(r.drop _).take _
section
variable {X:Cx}
theorem Dz{pins:iq}{s:gC}{σ:L2.St}{H:Hp}{a:gz}{v vl vu:gQ}{lo hi:Option Int}{sl:gz}{Q:VK}{O:AP'}{l:List D}{xs:List V}(I:Inv X pins σ H s)(rx:RelV (.ref a) v)(hs:s.heap.IsSliceOf sl vl vu .none)(pl:IsPart vl lo)(pu:IsPart vu hi)
  (q:SqL X.K H a xs)(r:RepL X.K H O l xs)(G:Gen X.K H O (.lst (xt l lo hi),true) Q): ∃T id,typeLookup (.type T) "__getitem__"=pure (some (.builtin id))/\s.TypeIs v T/\wpAny (model X.prog X.w) X.A (getItem v (.ref sl)) (EP X pins σ Q) X.xe s:=
 M5 pins s σ H (.ref a) v vl vu lo hi sl Q I rx hs pl pu ⟨a,xs,rfl,q,fun p hp=>G.lst hp (r.cut lo hi)⟩
theorem Sj:SlR X (UZ X.K):=by
 intro pins s σ H x v vl vu lo hi sl Q I rx hs pl pu h;obtain⟨O,d,z,np,hd,hg,G⟩:=h
 cases d with
 |tup l=>
  cases hg;rcases hd with hd|⟨a,_,h⟩
  ·obtain⟨a,xs,rfl,q,r⟩:=hd.tup;by_cases hw:HT.sIx xs.length 0 lo=0/\HT.sIx xs.length xs.length hi=xs.length
   ·cases rx;obtain⟨b6,rv,ht,hz⟩:=I.tuple q.sq;have hlen:b6.toArray.size=xs.length:=by rw[iD];exact rv.length.symm
    refine⟨"tuple",_,Ab.lookup,ht.typeIs,?_⟩;refine HT.Gu ht hs pl pu (by rw[hlen];exact hw) ⟨.ref a,H,I,rfl,?_⟩
    have e:xt l lo hi=l:=by
     unfold xt;rw[<-r.length,hw.1,hw.2];simp[r.length]
    rw[e] at G;exact G (.ref a) H (fun _ _ e=>e) hd
   ·exact PL pins s σ H (.ref a) v vl vu lo hi sl Q I rx hs pl pu ⟨a,xs,rfl,q.sq,hw,fun p hp=>G.tup hp (np p hp) (r.cut lo hi)⟩
  ·exact h.elim
 |lst l=>
  cases hg;rcases hd with hd|⟨a,rfl,h⟩
  ·obtain⟨a,xs,rfl,q,r⟩:=hd.lst;exact Dz I rx hs pl pu q.sq r G
  ·obtain⟨xs,e,r⟩:=h;exact Dz I rx hs pl pu (.inl (.inl e)) r G
 |_=>cases hg
end
def tE(fa fl:FO):F:=fun δ=>(fa δ).bind fun p=>(fl p.2).bind fun q=>match res q.2 q.1 with
 |some (.int i)=>(res q.2 p.1).bind fun x=>(gSl (some i) none x).bind fun z=>some (z,q.2)
 |_=>none
def qg(fa fh:FO):F:=fun δ=>(fa δ).bind fun p=>(fh p.2).bind fun q=>match res q.2 q.1 with
 |some (.int i)=>(res q.2 p.1).bind fun x=>(gSl none (some i) x).bind fun z=>some (z,q.2)
 |_=>none
section
variable {X:Cx}{a lo hi:gR}{fa fl fh:FO}{pos p2:Pos}
theorem Nm(ha:PO X a fa)(hl:PO X lo fl):PX X (.Subscript a (.Slice (some lo) none none p2) pos) (tE fa fl):=
 PX.imp (DO Sj ha (Ho hl) Hq) fun σ H Q hw=>by
  obtain⟨δ,T,rr,δ',E,e,k⟩:=hw;unfold tE at e;obtain⟨⟨o1,δ1⟩,h1,e⟩:=gv e;obtain⟨⟨o2,δ2⟩,h2,e⟩:=gv e;dsimp only at e;split at e
  ·rename_i i hi;obtain⟨x,hx,e⟩:=gv e;obtain⟨z,hz,e⟩:=gv e;obtain⟨rfl,rfl⟩:=hC e;refine⟨δ,T,o1,δ1,E,h1,fun v H1 P1=>⟨δ1,AA T o1 v,o2,δ2,P1.er E,h2,fun u H2 P2=>?_⟩⟩;have B:=Ops.cons E P1 (Ops.cons (P1.er E) P2 (Ops.nil (P2.er (P1.er E))));exact⟨i,ic (B.view (j:=1) rfl rfl hi),_,x,z,fun p hp=>B.np hp,B.view (j:=0) rfl rfl hx,hz,B.done k⟩
  ·cases e
theorem Nn(ha:PO X a fa)(hl:PO X hi fh):PX X (.Subscript a (.Slice none (some hi) none p2) pos) (qg fa fh):=
 PX.imp (DO Sj ha Hq (Ho hl)) fun σ H Q hw=>by
  obtain⟨δ,T,rr,δ',E,e,k⟩:=hw;unfold qg at e;obtain⟨⟨o1,δ1⟩,h1,e⟩:=gv e;obtain⟨⟨o2,δ2⟩,h2,e⟩:=gv e;dsimp only at e;split at e
  ·rename_i i hi;obtain⟨x,hx,e⟩:=gv e;obtain⟨z,hz,e⟩:=gv e;obtain⟨rfl,rfl⟩:=hC e;refine⟨δ,T,o1,δ1,E,h1,fun v H1 P1=>⟨δ1,AA T o1 v,o2,δ2,P1.er E,h2,fun u H2 P2=>?_⟩⟩;have B:=Ops.cons E P1 (Ops.cons (P1.er E) P2 (Ops.nil (P2.er (P1.er E))));exact⟨i,ic (B.view (j:=1) rfl rfl hi),_,x,z,fun p hp=>B.np hp,B.view (j:=0) rfl rfl hx,hz,B.done k⟩
  ·cases e
end
end PX
namespace L2
open PySem PySem.Spec PyProof.Rows
section
variable {X:Cx}
end
end L2
namespace PX
open PySem PySem.Spec PyProof.Rows L2 PySem.SeqAt
section
variable {K:hG}{A:jq}{d:gz}{T:AP'}{σ σ1:L2.St}{δ δ1:Dn}{acc:List D}{H H1:Hp}
end
section
variable {X:Cx}{A:jq}{d:gz}{elt:gR}{f:F}
end
section
variable {X:Cx}{elt:gR}{c:oP}{hZ:qm}{scope:jV}{pos pos' p:Pos}{N':iK}{caps:iM}{k:Nat}{fi:FIt}{tg:Tg}{ti:FT}{fb:FB}
end
end PX
namespace HT
open PySem PySem.Spec PyProof.Rows L2
section
variable {prog:hW}{w:gU}{A:gZ}{E:il}{s:gC}
end
end HT
namespace L2
open PySem PySem.Spec PyProof.Rows
section
variable {X:Cx}{e st:gR}{te ts:TE}{pos p2:Pos}
end
end L2
namespace PX
open PySem PySem.Spec PyProof.Rows L2 PySem.SeqAt
section
variable {X:Cx}{a st:gR}{fa fs:FO}{pos p2:Pos}
end
section
variable {es:jF}{env:Env}
end
end PX
namespace TT
open PySem
def S:Nat->Nat
 |0=>0
 |n+1=>5*S n+1
theorem Ic(m:Nat): ∀n:Nat,S (m+n)=5^n*S m+S n
 |0=>by simp[S]
 |n+1=>by
  rw[<-Nat.add_assoc,S,Ic m n,S,sD,tQ,<-pv,vX 5 (5^n)];lia
theorem zw: ∀n:Nat,∃c,5^n=4*c+1
 |0=>⟨0,rfl⟩
 |n+1=>by
  obtain⟨c,e⟩:=zw n;exact⟨5*c+1,by rw[sD,e];lia⟩
theorem MK: ∀k:Nat,∃c,S (2^k)=2^k*(2*c+1)
 |0=>⟨0,rfl⟩
 |k+1=>by
  obtain⟨c,e⟩:=MK k;obtain⟨d,f⟩:=zw (2^k)
  have h:S (2^(k+1))=(5^2^k+1)*S (2^k):=by
   rw[sD,Nat.mul_two,Ic,Nat.add_mul,E6]
  refine⟨2*(d*c)+d+c,?_⟩;rw[h,f,e,sD];have:4*d+1+1=2*(2*d+1):=by lia
  rw[this,pv 2,vX (2*d+1),pv (2^k),pv (2^k),<-pv 2 (2^k),vX 2 (2^k),pv (2^k) 2]
  congr 2
  rw[Nat.add_mul,tQ,E6,vW,pv 2 c,Bz c 2 d,vX c d]
  lia
theorem ML(k n:Nat):S (2^k+n)%2^k=S n%2^k:=by
 obtain⟨c,e⟩:=MK k;rw[Ic,e,Bz,Nat.mul_add_mod]
theorem C7: ∀(k e:Nat),e<2^k-> ∃n,n<2^k/\S n%2^k=e
 |0,e,h=>⟨0,by simp,by simp at h;subst h;rfl⟩
 |k+1,e,h=>by
  have hP:0<2^k:=Nat.two_pow_pos k;obtain⟨n,hn,hs⟩:=C7 k (e%2^k) (vV _ hP);obtain⟨c,e1⟩:=MK k;obtain⟨d,e2⟩:=zw n
  have h2:S (2^k+n)=2^(k+1)*(4*d*c+2*d+c)+2^k+S n:=by
   rw[Ic,e1,e2,sD,Bz,pv (2^k) 2]
   have:(4*d+1)*(2*c+1)=2*(4*d*c+2*d+c)+1:=by
    rw[Nat.add_mul,tQ,E6,vW,Bz (4*d) 2 c];lia
   rw[this,tQ,vW]
  rw[sD] at h h2 ⊢;generalize 2^k=P at*;have d1:=Nat.div_add_mod (S n) P;have d2:=Nat.div_add_mod e P;rw[hs] at d1;have hq:e / P<2:=Nat.div_lt_of_lt_mul (by rw[vX] at h;lia)
  have mk: ∀a q x,a=P*2*q+x->x<P*2->a%(P*2)=x:=fun a q x h1 h2=>by
   rw[h1,Nat.mul_add_mod,Nat.mod_eq_of_lt h2]
  have hm:=vV e hP;have q2:S n / P=2*(S n / P / 2)+S n / P%2:=by lia
  have sn:S n=P*2*(S n / P / 2)+(P*(S n / P%2)+e%P):=by
   rw[pv,<-Nat.add_assoc,<-tQ,<-q2];exact d1.symm
  generalize S n / P / 2=q at sn;have r2:S n / P%2<2:=vV _ (by decide);generalize S n / P%2=r at sn r2;generalize e / P=f at*;by_cases hr:r=f
  ·exact⟨n,by lia,mk _ q _ (by rw[sn,hr,d2]) h⟩
  ·refine⟨P+n,by lia,mk _ (4*d*c+2*d+c+q+r) _ ?_ h⟩;rw[h2,sn,tQ (P*2) _ r,tQ (P*2) _ q];rcases(show r=0\/r=1 by lia) with rfl|rfl
   ·have:f=1:=by lia
    subst this;rw[E5,E5];rw[vW] at d2;lia
   ·have:f=0:=by lia
    subst this;rw[vW,vW];rw[E5] at d2;lia
def ls(mask:Nat)(h:Int):Nat->Nat×Nat
 |0=>(SetTable.bits h%(mask+1),SetTable.bits h)
 |k+1=>SetTable.leap mask (ls mask h k).1 (ls mask h k).2
theorem Ow(h:Int):SetTable.bits h<2^64:=by
 unfold SetTable.bits;have:=EZ h (show(0:Int)<2^64 by decide);have:=EY h (show(2^64:Int)≠0 by decide)
 lia
theorem Hz(mask:Nat)(h:Int): ∀k,(ls mask h k).1<=mask
 |0=>by have:=vV (SetTable.bits h) (show 0<mask+1 by lia);show _%(mask+1)<=_;lia
 |k+1=>by
  show(_%(mask+1))<=_;have:=vV ((ls mask h k).1*5+1+(ls mask h k).2 / 32) (show 0<mask+1 by lia);lia
theorem Hy(mask:Nat)(h:Int): ∀k,(ls mask h k).2=SetTable.bits h / 32^k
 |0=>by simp[ls]
 |k+1=>by
  show(ls mask h k).2 / 32=_;rw[Hy mask h k,sD,Nat.div_div_eq_div_mul]
theorem Ob(mask:Nat)(h:Int)(k:Nat)(hk:13<=k):(ls mask h k).2=0:=by
 rw[Hy];refine Nat.div_eq_of_lt (mR (Ow h) ?_);exact nF (show 2^64<=32^13 by decide) (yp (by decide) hk)
theorem LO(mask:Nat)(h:Int)(m:Nat)(h0:(ls mask h 13).1=S m%(mask+1)): ∀n,(ls mask h (13+n)).1=S (m+n)%(mask+1)
 |0=>h0
 |n+1=>by
  show(((ls mask h (13+n)).1*5+1+(ls mask h (13+n)).2 / 32)%(mask+1))=_;rw[Ob mask h _ (by lia),LO mask h m h0 n,Nat.zero_div,Fb,<-Nat.add_assoc m n 1,S,Nat.add_mod,Nat.mod_mul_mod,<-Nat.add_mod,vX 5]
theorem D1(hk:mask+1=2^k)(h:Int)(he:e<=mask): ∃n,n<mask+14/\(ls mask h n).1=e:=by
 have hl:=Hz mask h 13;obtain⟨m,hm,em⟩:=C7 k (ls mask h 13).1 (by lia);obtain⟨q,hq,eq⟩:=C7 k e (by lia);rw[<-hk] at em eq hm hq;have far:=LO mask h m em.symm;by_cases hqm:m<=q
 ·exact⟨13+(q-m),by lia,by rw[far,show m+(q-m)=q by lia];exact eq⟩
 ·refine⟨13+(q+(mask+1)-m),by lia,?_⟩;rw[far,show m+(q+(mask+1)-m)=2^k+q by lia,hk,ML,<-hk];exact eq
theorem FU(mask i:Nat)(h:i<=mask):i<=SetTable.runEnd mask i/\SetTable.runEnd mask i<=mask/\SetTable.runEnd mask i<=i+9:=by
 unfold SetTable.runEnd;split<;>lia
def tm(mask:Nat)(h:Int):Nat->Nat
 |0=>0
 |k+1=>tm mask h k+(SetTable.runEnd mask (ls mask h k).1-(ls mask h k).1)+1
theorem OJ(mask:Nat)(h:Int): ∀k,tm mask h k<=10*k
 |0=>ir _
 |k+1=>by
  have:=OJ mask h k;have:=FU mask _ (Hz mask h k);unfold tm;lia
def at_(mask:Nat)(h:Int)(k t:Nat):SetTable.Probe:=⟨(ls mask h k).1+t,SetTable.runEnd mask (ls mask h k).1-(ls mask h k).1-t,(ls mask h k).1,(ls mask h k).2,none⟩
theorem uo(mask:Nat)(h:Int): ∀k t,t<=SetTable.runEnd mask (ls mask h k).1-(ls mask h k).1->pr mask h (tm mask h k+t)=at_ mask h k t
 |0,0,_=>rfl
 |k+1,0,_=>by
  have e:=uo mask h k (SetTable.runEnd mask (ls mask h k).1-(ls mask h k).1) (ir _);show adv mask (pr mask h (tm mask h k+(SetTable.runEnd mask (ls mask h k).1-(ls mask h k).1)))=_;rw[e];unfold adv at_;simp only[Nat.sub_self,oi,jb,gt_iff_lt];rfl
 |k,t+1,ht=>by
  have e:=uo mask h k t (by lia);show adv mask (pr mask h (tm mask h k+t))=_;rw[e];unfold adv at_;rw[gG (show SetTable.runEnd mask (ls mask h k).1-(ls mask h k).1-t>0 by lia)];simp only[SetTable.Probe.mk.injEq,and_true,true_and]
  lia
theorem Lg(hk:mask+1=2^k)(h:Int)(he:e<=mask): ∃n,n<10*(mask+14)/\(pr mask h n).j=e:=by
 obtain⟨r,hr,er⟩:=D1 hk h he;have:=OJ mask h r;refine⟨tm mask h r,by lia,?_⟩;have:=uo mask h r 0 (lN _);rw[Fb] at this;rw[this];exact er
theorem Lf(mask:Nat)(h:Int): ∀n,(pr mask h n).dummy=none
 |0=>rfl
 |n+1=>by
  show(adv mask (pr mask h n)).dummy=none;unfold adv;split<;>exact Lf mask h n
theorem DN(mask:Nat)(h:Int): ∀n,∃k t,n=tm mask h k+t/\t<=SetTable.runEnd mask (ls mask h k).1-(ls mask h k).1
 |0=>⟨0,0,rfl,lN _⟩
 |n+1=>by
  obtain⟨k,t,e,ht⟩:=DN mask h n;by_cases hq:t+1<=SetTable.runEnd mask (ls mask h k).1-(ls mask h k).1
  ·exact⟨k,t+1,by lia,hq⟩
  ·exact⟨k+1,0,by unfold tm;lia,lN _⟩
theorem Le(mask:Nat)(h:Int)(n:Nat):(pr mask h n).j<=mask:=by
 obtain⟨k,t,e,ht⟩:=DN mask h n;rw[e,uo mask h k t ht];have:=FU mask _ (Hz mask h k);show(ls mask h k).1+t<=mask;lia
theorem Co{xs:jQ}(hr:xs.toList.Pairwise (· < ·)){i j:Nat}{a b:Nat}(l9:i<j)(h1:xs[i]?=some a)(h2:xs[j]?=some b):a<b:=by
 rw[<-lg] at h1 h2;obtain⟨hi,rfl⟩:=vS.mp h1;obtain⟨hj,rfl⟩:=vS.mp h2;exact G2.mp hr i j hi hj l9
theorem zN{xs:jQ}(hr:xs.toList.Pairwise (· < ·))(j:Nat): ∀(fuel lo hi:Nat),lo<=hi->hi<=xs.size->hi-lo<=fuel->
  (∀i a,i<lo->xs[i]?=some a->a<j)->(∀i a,hi<=i->xs[i]?=some a->j<=a)->
  let p:=SetTable.below.go xs j fuel lo hi
  p<=xs.size/\(∀i a,i<p->xs[i]?=some a->a<j)/\(∀i a,p<=i->xs[i]?=some a->j<=a)
 |0,lo,hi,h1,h2,h3,h4,h5=>by
  have:lo=hi:=by omega
  subst this;exact⟨h2,h4,h5⟩
 |fuel+1,lo,hi,h1,h2,h3,h4,h5=>by
  unfold SetTable.below.go;by_cases j0:lo<hi
  ·rw[gG j0];have hm:(lo+hi) / 2<xs.size:=by omega
   have hg:xs[(lo+hi) / 2]?=some xs[(lo+hi) / 2]:=mN hm;have hd:xs.getD ((lo+hi) / 2) j=xs[(lo+hi) / 2]:=by simp[Array.getD,hm]
   dsimp only;rw[hd];by_cases hc:xs[(lo+hi) / 2]<j
   ·rw[gG hc];refine zN hr j fuel ((lo+hi) / 2+1) hi (by omega) h2 (by omega) (fun i a dr ha=>?_) h5;by_cases e:i=(lo+hi) / 2
    ·subst e;rw[hg] at ha;cases ha;exact hc
    ·exact Nat.lt_trans (Co hr (by omega) ha hg) hc
   ·rw[gJ hc];refine zN hr j fuel lo ((lo+hi) / 2) (by omega) (by omega) (by omega) h4 (fun i a dr ha=>?_);by_cases e:i=(lo+hi) / 2
    ·subst e;rw[hg] at ha;cases ha;omega
    ·have:=Co hr (show(lo+hi) / 2<i by omega) hg ha;omega
  ·rw[gJ j0];have:lo=hi:=by omega
   subst this;exact⟨h2,h4,h5⟩
theorem nY{xs:jQ}(hr:xs.toList.Pairwise (· < ·))(j:Nat):SetTable.below xs j<=xs.size/\(∀i a,i<SetTable.below xs j->xs[i]?=some a->a<j)/\(∀i a,SetTable.below xs j<=i->xs[i]?=some a->j<=a):=
 zN hr j xs.size 0 xs.size (lN _) (ir _) (by omega) (fun i a h=>by omega) (fun i a h1 h2=>by
  have:=(MQ.mp h2).1;omega)
theorem zO{xs:jQ}(hr:xs.toList.Pairwise (· < ·)){i j:Nat}(h:xs[i]?=some j):SetTable.below xs j=i:=by
 obtain⟨h1,h2,h3⟩:=nY hr j;by_cases hl:i<SetTable.below xs j
 ·exact absurd (h2 i j hl h) (oi _)
 ·by_cases hg:SetTable.below xs j<i
  ·have hi:=(MQ.mp h).1;have hb:xs[SetTable.below xs j]?=some xs[SetTable.below xs j]:=mN (by omega);have:=h3 _ _ (ir _) hb;have:=Co hr hg hb h;omega
  ·omega
theorem CN(j:Nat):SetTable.has #[] j=false:=rfl
theorem oY{t:lb}(hr:t.place.toList.Pairwise (· < ·)){i j:Nat}(h:t.place[i]?=some j):t.slot j= .live i:=by
 unfold SetTable.slot;dsimp only;rw[zO hr h,h];simp
theorem FK{t:lb}(hd:t.dummies= #[]){j:Nat}(h:j∉t.place.toList):t.slot j= .empty:=by
 unfold SetTable.slot;dsimp only
 have:(t.place[SetTable.below t.place j]?==some j)=false:=by
  rw[xv];intro e;rw[<-lg] at e;exact h (mO e)
 rw[this,hd,CN];rfl
theorem MD(t:lb)(p:SetTable.Probe):t.advance p=adv t.mask p:=by
 unfold SetTable.advance adv;split<;>rfl
theorem DM{hs:gY}{t:lb}(ok:TabOk hs t)(hashAt:Nat->Int)(h:Int): ∀(fuel n:Nat),(∃M,n<=M/\M<n+fuel/\(pr t.mask h M).j∉t.place.toList)->
    ∃m,n<=m/\(∀q,n<=q->q<m-> ∃i,t.place[i]?=some (pr t.mask h q).j/\hashAt i≠h)/\
      (((pr t.mask h m).j∉t.place.toList/\SetTable.probe.go t hashAt h fuel (pr t.mask h n)=some (.empty (pr t.mask h m).j none))\/
       (∃i,t.place[i]?=some (pr t.mask h m).j/\hashAt i=h/\SetTable.probe.go t hashAt h fuel (pr t.mask h n)=some (.candidate (pr t.mask h m).j i (pr t.mask h (m+1)))))
  |0,n,⟨M,h1,h2,h3⟩=>by omega
  |fuel+1,n,⟨M,h1,h2,h3⟩=>by
    unfold SetTable.probe.go;by_cases hm:(pr t.mask h n).j∈t.place.toList
    · obtain⟨i,hi⟩:=uO hm
      rw[lg] at hi;rw[oY ok.ris hi];dsimp only;by_cases hh:hashAt i=h
      · refine⟨n,ir _,fun q h1 h2=>by omega,.inr ⟨i,hi,hh,?_⟩⟩
        rw[gG (by simpa using hh),MD];rfl
      · rw[gJ (by simpa using hh),MD]
        have hn:M≠n:=fun e=>h3 (e▸hm);obtain⟨m,g1,g2,g3⟩:=DM ok hashAt h fuel (n+1) ⟨M,by omega,by omega,h3⟩;refine⟨m,by omega,fun q k1 k2=>?_,g3⟩;by_cases e:q=n
        · subst e;exact⟨i,hi,hh⟩
        · exact g2 q (by omega) k2
    · rw[FK ok.dum hm]
      dsimp only;rw[Lf];exact⟨n,ir _,fun q h1 h2=>by omega,.inl ⟨hm,rfl⟩⟩
theorem zk: ∀(n:Nat) (l:iM),l.length<=n-> ∃e,e<=n/\e∉l
 |0,l,h=>⟨0,ir _,by cases l with|nil=>simp|cons _ _=>simp at h⟩
 |n+1,l,h=>by
  by_cases hm:n+1∈l
  ·obtain⟨e,h1,h2⟩:=zk n (l.erase (n+1)) (by rw[List.length_erase_of_mem hm];omega);exact⟨e,by omega,fun z=>h2 ((JM (by omega)).mpr z)⟩
  ·exact⟨n+1,ir _,hm⟩
theorem TabOk.free(ok:TabOk hs t)(h:Int): ∃M,M<10*(t.mask+14)/\(pr t.mask h M).j∉t.place.toList:=by
 obtain⟨k,_,_,hk⟩:=ok.pow
 have h1:t.place.toList.length<=t.mask:=by
  have:=ok.len;have:=ok.room;rw[jr];omega
 obtain⟨e,he,hn⟩:=zk t.mask _ h1;obtain⟨n,h2,h3⟩:=Lg hk h he;exact⟨n,h2,by rw[h3];exact hn⟩
theorem kK{α:Type}(xs:Array α)(p:Nat)(x:α):(SetTable.insertAt xs p x).toList=xs.toList.take p++x::xs.toList.drop p:=by
 unfold SetTable.insertAt;simp[Array.toList_extract,List.extract];rw[sJ (by simp)]
theorem FV(hr:xs.toList.Pairwise (· < ·))(hj:j∉xs.toList):(SetTable.insertAt xs (SetTable.below xs j) j).toList.Pairwise (· < ·):=by
 obtain⟨h1,h2,h3⟩:=nY hr j;rw[kK,lW];refine⟨hr.sublist (mP _ _),?_,?_⟩
 ·rw[qc];refine⟨fun a ha=>?_,hr.sublist (oQ _ _)⟩;obtain⟨i,hi⟩:=uO ha;rw[vZ] at hi;have h4:=h3 _ _ (show SetTable.below xs j<=SetTable.below xs j+i by omega) (by rw[<-lg];exact hi);have:a≠j:=fun e=>hj (e▸mO hi);omega
 ·intro a ha b hb
  have haj:a<j:=by
   obtain⟨i,hi⟩:=uO ha;rw[List.getElem?_take] at hi;split at hi
   ·rename_i j0;exact h2 i a j0 (by rw[<-lg];exact hi)
   ·cases hi
  rcases jC.mp hb with rfl|hb
  ·exact haj
  ·obtain⟨i,hi⟩:=uO hb;rw[vZ] at hi;have h4:=h3 _ _ (show SetTable.below xs j<=SetTable.below xs j+i by omega) (by rw[<-lg];exact hi);omega
theorem TabOk.fresh(finger moves:Nat)(led:Bool):TabOk [] (SetTable.fresh finger moves led) where
 pow:=⟨3,by lia,by lia,rfl⟩
 dum:=rfl
 len:=rfl
 room:=by show 5*0<3*7;lia
 ris:= .nil
 bd:=fun j h=>by simp[SetTable.fresh] at h
 road:=fun i h j h1=>by simp at h1
theorem TabOk.put(ok:TabOk hs t)(he:(pr t.mask h n).j∉t.place.toList)(hb: ∀m,m<n->(pr t.mask h m).j∈t.place.toList)(hr:5*(hs.length+1)<3*t.mask)(hj:j=(pr t.mask h n).j)(hp:p=SetTable.below t.place j):
  TabOk (hs.take p++h::hs.drop p) (t.put j).1/\(t.put j).2=p:=by
 subst hj;subst hp
 have e1:(t.put (pr t.mask h n).j).1={t with place:=SetTable.insertAt t.place (SetTable.below t.place (pr t.mask h n).j) (pr t.mask h n).j,dummies:= #[]}:=by
  unfold SetTable.put;dsimp only;rw[ok.dum,CN];rfl
 obtain⟨h1,_,_⟩:=nY ok.ris (pr t.mask h n).j;have hl:=ok.len
 have mem: ∀x,x∈t.place.toList->x∈(SetTable.insertAt t.place (SetTable.below t.place (pr t.mask h n).j) (pr t.mask h n).j).toList:=fun x hx=>by
  rw[kK];rw[<-lL (SetTable.below t.place (pr t.mask h n).j) t.place.toList] at hx;rcases nG.mp hx with hx|hx
  ·exact nG.mpr (.inl hx)
  ·exact nG.mpr (.inr (je _ hx))
 refine⟨?_,rfl⟩;rw[e1];generalize hP:SetTable.below t.place (pr t.mask h n).j=P at*;refine⟨ok.pow,rfl,?_,?_,?_,fun x hx=>?_,fun i h' j' g1 g2=>?_⟩
 ·show(SetTable.insertAt t.place P (pr t.mask h n).j).size=_;rw[<-jr,kK];simp only[mq,kD,pY,wu,jr];lia
 ·show 5*_<3*t.mask;simp only[mq,kD,pY,wu];lia
 ·have:=FV ok.ris he;rw[hP] at this;exact this
 ·have bY:x∈(SetTable.insertAt t.place P (pr t.mask h n).j).toList:=hx;rw[kK] at bY;show x<=t.mask;rcases nG.mp bY with hx|hx
  ·exact ok.bd x (ml hx)
  ·rcases jC.mp hx with rfl|hx
   ·exact Le _ _ _
   ·exact ok.bd x (ly hx)
 ·have t4:(SetTable.insertAt t.place P (pr t.mask h n).j).toList[i]?=some j':=by rw[lg];exact g2
  rw[kK] at t4;show ∃n',(pr t.mask h' n').j=j'/\ ∀m,m<n'->(pr t.mask h' m).j∈(SetTable.insertAt t.place P (pr t.mask h n).j).toList;have fA:(t.place.toList.take P).length=P:=by rw[pY,jr];lia
  have lt2:(hs.take P).length=P:=by rw[pY];lia
  by_cases hi:i<P
  ·rw[yy (by lia),J1 hi] at g1 t4;rw[lg] at t4;obtain⟨q,q1,q2⟩:=ok.road i h' j' g1 t4;exact⟨q,q1,fun m hm=>mem _ (q2 m hm)⟩
  ·rw[wx (by lia),fA] at t4;rw[wx (by lia),lt2] at g1
   cases hd:i-P with
   |zero=>
    rw[hd] at g1 t4;simp at g1 t4;subst g1;subst t4;exact⟨n,rfl,fun m hm=>mem _ (hb m hm)⟩
   |succ d=>
    rw[hd] at g1 t4;simp only[yo,vZ] at g1 t4;rw[lg] at t4;obtain⟨q,q1,q2⟩:=ok.road _ h' j' g1 t4;exact⟨q,q1,fun m hm=>mem _ (q2 m hm)⟩
def occ(ow:uL)(j:Nat):Prop:= ∃i,ow.getD j none=some i
theorem CO{ow:uL}{j:Nat}{d:Option Nat}(h:j<ow.size):ow.getD j d=ow.getD j none:=by simp[Array.getD,h]
theorem A2{mask:Nat}{ow:uL}(hz:ow.size=mask+1)(h:Int): ∀(fuel k:Nat),(∃r,k<=r/\r<k+fuel/\ ¬occ ow (ls mask h r).1)->(∀m,m<tm mask h k->occ ow (pr mask h m).j)->
  ∃n,SetTable.layClean.free mask ow fuel (ls mask h k).1 (ls mask h k).2=some (pr mask h n).j/\ ¬occ ow (pr mask h n).j/\ ∀m,m<n->occ ow (pr mask h m).j
 |0,k,⟨r,h1,h2,_⟩,_=>by lia
 |fuel+1,k,⟨r,h1,h2,h3⟩,hb=>by
  unfold SetTable.layClean.free;have hl:=Hz mask h k;have hrn:=FU mask _ hl
  cases hf:(List.range (SetTable.runEnd mask (ls mask h k).1+1-(ls mask h k).1)).find? fun t=>(ow.getD ((ls mask h k).1+t) (some 0)).isNone with
  |some t=>
   rw[List.find?_range_eq_some] at hf;obtain⟨a1,a2,a3⟩:=hf;rw[uK] at a2;have ht:t<=SetTable.runEnd mask (ls mask h k).1-(ls mask h k).1:=by lia
   have e:=uo mask h k t ht;refine⟨tm mask h k+t,by rw[e];rfl,?_,fun m hm=>?_⟩
   ·rw[e];rintro⟨i,hi⟩;rw[CO (by show(ls mask h k).1+t<_;lia)] at a1;have dr:ow.getD ((ls mask h k).1+t) none=some i:=hi;rw[dr] at a1;simp at a1
   ·by_cases j0:m<tm mask h k
    ·exact hb m j0
    ·have e2:=uo mask h k (m-tm mask h k) (by lia);rw[show tm mask h k+(m-tm mask h k)=m by lia] at e2;rw[e2];have:=a3 (m-tm mask h k) (by lia);rw[CO (by show(ls mask h k).1+(m-tm mask h k)<_;lia)] at this;show occ ow ((ls mask h k).1+(m-tm mask h k));unfold occ
     cases hq:ow.getD ((ls mask h k).1+(m-tm mask h k)) none with
     |none=>rw[hq] at this;simp at this
     |some i=>exact⟨i,rfl⟩
  |none=>
   rw[List.find?_range_eq_none] at hf
   have all: ∀t,t<=SetTable.runEnd mask (ls mask h k).1-(ls mask h k).1->occ ow ((ls mask h k).1+t):=fun t ht=>by
    have:=hf t (by lia);rw[CO (by lia)] at this;unfold occ
    cases hq:ow.getD ((ls mask h k).1+t) none with
    |none=>rw[hq] at this;simp at this
    |some i=>exact⟨i,rfl⟩
   have hr:r≠k:=fun e=>h3 (by subst e;have:=all 0 (lN _);simpa using this)
   have:=A2 hz h fuel (k+1) ⟨r,by lia,by lia,h3⟩ (fun m hm=>by
    by_cases j0:m<tm mask h k
    ·exact hb m j0
    ·unfold tm at hm;have e2:=uo mask h k (m-tm mask h k) (by lia);rw[show tm mask h k+(m-tm mask h k)=m by lia] at e2;rw[e2];exact all _ (by lia))
   exact this
theorem zv{α β:Type}{f g:α->Option β}: ∀{l:List α},(∀x∈l,f x=g x)->l.filterMap f=l.filterMap g
 |[],_=>rfl
 |x::l,h=>by rw[uU,uU,h x iX,zv fun y hy=>h y (je _ hy)]
def nO(mask:Nat)(ow:uL):List (Nat×Nat):=(List.range (mask+1)).filterMap fun j=>(ow.getD j none).map (j,·)
theorem MR:(j,i)∈nO mask ow↔j<=mask/\ow.getD j none=some i:=by
 unfold nO;simp only[List.mem_filterMap,uK,Option.map_eq_some_iff,Prod.mk.injEq];constructor
 ·rintro⟨a,h1,b,h2,rfl,rfl⟩;exact⟨by lia,h2⟩
 ·rintro⟨h1,h2⟩;exact⟨j,by lia,i,h2,rfl,rfl⟩
theorem LS(mask:Nat)(ow:uL):((nO mask ow).map (·.1)).Pairwise (· < ·):=by
 unfold nO;rw[List.map_filterMap,List.pairwise_filterMap];refine OH.imp fun {a b} cW x hx y hy=>?_;simp only[Option.mem_def,Option.map_map,Option.map_eq_some_iff,Function.comp] at hx hy;obtain⟨_,_,rfl⟩:=hx;obtain⟨_,_,rfl⟩:=hy;exact cW
theorem LR{mask:Nat}{ow:uL}(hz:ow.size=mask+1){j k:Nat}(hj:j<=mask)(hn:ow.getD j none=none):(nO mask (ow.setIfInBounds j (some k))).Perm ((j,k)::nO mask ow):=by
 have g: ∀i,(ow.setIfInBounds j (some k)).getD i none=if i=j then some k else ow.getD i none:=fun i=>by
  simp only[qx,By];by_cases e:i=j
  ·subst e;simp[show i<ow.size by lia]
  ·rw[gJ (fun z=>e z.symm),gJ e]
 have split:List.range (mask+1)=List.range j++j::(List.range (mask-j)).map (fun x=>j+1+x):=by
  rw[show mask+1=j+(mask-j+1) by lia,List.range_add,List.range_succ_eq_map];simp[pW,Nat.add_assoc,Nat.add_comm 1]
 unfold nO;rw[split,JL,JL,uU,uU];simp only[g,hn,gG rfl,Option.map_none,Option.map_some]
 have a1:(List.range j).filterMap (fun i=>(if i=j then some k else ow.getD i none).map (i,·))=(List.range j).filterMap (fun i=>(ow.getD i none).map (i,·)):=
  zv fun i hi=>by rw[uK] at hi;rw[gJ (by lia)]
 have a2:((List.range (mask-j)).map (fun x=>j+1+x)).filterMap (fun i=>(if i=j then some k else ow.getD i none).map (i,·))=((List.range (mask-j)).map (fun x=>j+1+x)).filterMap (fun i=>(ow.getD i none).map (i,·)):=
  zv fun i hi=>by
   obtain⟨x,_,rfl⟩:=mw.mp hi;rw[gJ (by lia)]
 rw[a1,a2];exact EI
structure LayOk(mask:Nat)(hs:gY)(ow:uL):Prop where
 size:ow.size=mask+1
 perm:((nO mask ow).map (·.2)).Perm (List.range hs.length)
 road: ∀j i h,ow.getD j none=some i->hs[i]?=some h-> ∃n,(pr mask h n).j=j/\ ∀m,m<n->occ ow (pr mask h m).j
theorem Hw(h:occ ow x):occ (ow.setIfInBounds j (some k)) x:=by
 obtain⟨i,hi⟩:=h;unfold occ;simp only[qx,By] at hi ⊢;by_cases e:j=x
 ·subst e;rw[gG rfl];split
  ·exact⟨k,rfl⟩
  ·rename_i hz;rw[Bx (by lia)] at hi;simp at hi
 ·rw[gJ e];exact⟨i,hi⟩
theorem LayOk.step{mask k:Nat}(hk:mask+1=2^k){hs:gY}{ow:uL}(ok:LayOk mask hs ow)(h:Int)(hr:hs.length<=mask):
  ∃j,SetTable.layClean.free mask ow (SetTable.turns mask) (SetTable.bits h%(mask+1)) (SetTable.bits h)=some j/\LayOk mask (hs++[h]) (ow.setIfInBounds j (some hs.length)):=by
 have hlen:(nO mask ow).length=hs.length:=by have:=ok.perm.length_eq;simpa using this
 obtain⟨e,he,hn⟩:=zk mask ((nO mask ow).map (·.1)) (by rw[jj];lia)
 have cb: ¬occ ow e:=by
  rintro⟨i,hi⟩;exact hn (mw.mpr ⟨(e,i),MR.mpr ⟨he,hi⟩,rfl⟩)
 obtain⟨r,hr1,hr2⟩:=D1 hk h he;obtain⟨n,f1,f2,f3⟩:=A2 ok.size h (SetTable.turns mask) 0 ⟨r,lN _,by unfold SetTable.turns;lia,by rw[hr2];exact cb⟩ (fun m hm=>by simp[tm] at hm);have hj:=Le mask h n
 have aZ:ow.getD (pr mask h n).j none=none:=by
  cases hq:ow.getD (pr mask h n).j none with
  |none=>rfl
  |some i=>exact absurd ⟨i,hq⟩ f2
 refine⟨_,f1,⟨by rw[Array.size_setIfInBounds];exact ok.size,?_,fun j i h' g1 g2=>?_⟩⟩
 ·refine((LR ok.size hj aZ).map _).trans ?_;rw[iN,mq,yw,List.range_succ];exact(List.Perm.cons _ ok.perm).trans (JK _ _).symm
 ·by_cases hjj:j=(pr mask h n).j
  ·subst hjj
   have:i=hs.length:=by
    simp only[qx,By,gG rfl] at g1;rw[gG True.intro,gG (by rw[ok.size];lia)] at g1;exact(iR g1).symm
   subst this;rw[wx (ir _)] at g2;simp at g2;subst g2;exact⟨n,rfl,fun m hm=>Hw (f3 m hm)⟩
  ·have aN:ow.getD j none=some i:=by
    simp only[qx,By] at g1 ⊢;rw[gJ (fun z=>hjj z.symm)] at g1;exact g1
   have hi:i<hs.length:=by
    have hjm:j<=mask:=by
     by_cases q:j<ow.size
     ·have:=ok.size;lia
     ·rw[qx,Bx (by lia)] at aN;simp at aN
    have:=ok.perm.mem_iff.mp (mw.mpr ⟨(j,i),MR.mpr ⟨hjm,aN⟩,rfl⟩);exact uK.mp this
   rw[yy hi] at g2;obtain⟨q,q1,q2⟩:=ok.road j i h' aN g2;exact⟨q,q1,fun m hm=>Hw (q2 m hm)⟩
theorem LayOk.start(mask:Nat):LayOk mask [] (Array.replicate (mask+1) none) where
 size:=by simp
 perm:=by
  have:nO mask (Array.replicate (mask+1) none)=[]:=by
   unfold nO;refine List.filterMap_eq_nil_iff.mpr fun j hj=>?_;rw[qx,JJ];split<;>rfl
  rw[this];exact tX _
 road:=fun j i h h1=>by
  rw[qx,JJ] at h1;split at h1<;>cases h1
def vp(mask:Nat)(acc:Option (Array (Option Nat)×Nat))(h:Int):Option (Array (Option Nat)×Nat):=do
 let(owner,k) <-acc
 let j <-SetTable.layClean.free mask owner (SetTable.turns mask) (SetTable.bits h%(mask+1)) (SetTable.bits h)
 pure (owner.setIfInBounds j (some k),k+1)
theorem D3{mask k:Nat}(hk:mask+1=2^k): ∀(l hs:gY) (ow:uL),LayOk mask hs ow->hs.length+l.length<=mask+1->
  ∃eE,l.foldl (vp mask) (some (ow,hs.length))=some (eE,hs.length+l.length)/\LayOk mask (hs++l) eE
 |[],hs,ow,ok,_=>⟨ow,rfl,by rw[qF];exact ok⟩
 |h::l,hs,ow,ok,hl=>by
  rw[kD] at hl;obtain⟨j,e,ok'⟩:=ok.step hk h (by lia);obtain⟨eE,e',ok''⟩:=D3 hk l (hs++[h]) _ ok' (by rw[mq,yw];lia);refine⟨eE,?_,by rw[ki] at ok'';exact ok''⟩;rw[tU]
  have:vp mask (some (ow,hs.length)) h=some (ow.setIfInBounds j (some hs.length),hs.length+1):=by
   unfold vp;show(SetTable.layClean.free mask ow (SetTable.turns mask) (SetTable.bits h%(mask+1)) (SetTable.bits h)>>=_)=_;rw[e];rfl
  rw[this];rw[mq,yw] at e';rw[e',kD]
  congr 2;lia
theorem D4(hk:mask+1=2^k)(hs:gY)(hl:hs.length<=mask): ∃ow,SetTable.layClean mask hs.toArray=some ow/\LayOk mask hs ow:=by
 obtain⟨ow,e,ok⟩:=D3 hk hs [] _ (LayOk.start mask) (by simp;lia);refine⟨ow,?_,by simpa using ok⟩;unfold SetTable.layClean;rw[<-Array.foldl_toList];show Option.map _ (List.foldl (vp mask) _ hs)=_;have e':List.foldl (vp mask) (some (Array.replicate (mask+1) none,0)) hs=some (ow,hs.length):=by simpa using e
 rw[e'];rfl
theorem Od(hk:mask+1=2^k)(h3:3<=k)(h11:k<=11)(finger moves:Nat)(led plain:Bool)(hs:gY)(hl:5*hs.length<3*mask):
  ∃t order,SetTable.laid mask finger moves led plain hs.toArray=some (t,order)/\order.toList.Perm (List.range hs.length)/\TabOk (order.toList.map fun i=>hs.getD i 0) t/\t.plain=plain/\t.led=led:=by
 obtain⟨ow,e,ok⟩:=D4 hk hs (by lia);refine⟨{mask,place:=((nO mask ow).map (·.1)).toArray,dummies:= #[],finger,led,moves,plain},((nO mask ow).map (·.2)).toArray,?_,by simpa using ok.perm,?_,rfl,rfl⟩
 ·unfold SetTable.laid;rw[e];rfl
 ·have hlen:(nO mask ow).length=hs.length:=by have:=ok.perm.length_eq;simpa using this
  refine⟨⟨k,h3,h11,hk⟩,rfl,by simp,by simp[hlen];lia,by simpa using LS mask ow,fun j hj=>?_,fun i h j g1 g2=>?_⟩
  ·have fP:j∈(nO mask ow).map (·.1):=by simpa using hj
   obtain⟨⟨a,b⟩,hm,rfl⟩:=mw.mp fP;exact(MR.mp hm).1
  ·have aN:((nO mask ow).map (·.2)).map (fun i=>hs.getD i 0)=(((nO mask ow).map (·.2)).toArray).toList.map fun i=>hs.getD i 0:=by simp
   rw[<-aN,lh,lh] at g1;have t4:((nO mask ow).map (·.1))[i]?=some j:=by simpa using g2
   rw[lh] at t4
   cases hq:(nO mask ow)[i]? with
   |none=>rw[hq] at t4;cases t4
   |some p=>
    obtain⟨a,b⟩:=p;rw[hq] at g1 t4;simp at g1 t4;subst t4;have hm:=MR.mp (mO hq)
    have hb:b<hs.length:=by
     have:=ok.perm.mem_iff.mp (mw.mpr ⟨(a,b),mO hq,rfl⟩);exact uK.mp this
    have hh:hs[b]?=some h:=by rw[jd hb] at g1 ⊢;simpa using g1
    obtain⟨n,q1,q2⟩:=ok.road a b h hm.2 hh;refine⟨n,q1,fun m hm'=>?_⟩;obtain⟨i',dr⟩:=q2 m hm';show(pr mask h m).j∈(((nO mask ow).map (·.1)).toArray).toList;have:(pr mask h m).j∈(nO mask ow).map (·.1):=mw.mpr ⟨(_,i'),MR.mpr ⟨Le mask h m,dr⟩,rfl⟩;simpa using this
theorem Cd: ∀n,n<2048-> ∃k,3<=k/\k<=11/\SetTable.sizeAbove n=2^k/\n<2^k:=by
 intro n hn
 have step: ∀(f k:Nat),3<=k->k<=11->11<k+f-> ∃k',3<=k'/\k'<=11/\SetTable.sizeAbove.go n f (2^k)=2^k'/\n<2^k':=by
  intro f
  induction f with
  |zero=>intro k h1 h2 h3;lia
  |succ f ih=>
   intro k h1 h2 h3;unfold SetTable.sizeAbove.go;by_cases hle:2^k<=n
   ·rw[gG hle,<-sD];have:k≠11:=fun e=>by subst e;lia
    exact ih (k+1) (by lia) (by lia) (by lia)
   ·rw[gJ hle];exact⟨k,h1,h2,rfl,by lia⟩
 exact step 64 3 (by lia) (by lia) (by lia)
open PyProof.Rows PySem.SeqAt
theorem II{hs:gY}{t:lb}(ok:TabOk hs t){hashAt:Nat->Int}{h:Int}{p:SetTable.Probe}{n:Nat}(hp:p=pr t.mask h n)(hn: ∀m,m<n->(pr t.mask h m).j∈t.place.toList):
    ∃m,n<=m/\m<10*(t.mask+14)/\(∀q,n<=q->q<m-> ∃i,t.place[i]?=some (pr t.mask h q).j/\hashAt i≠h)/\
      (((pr t.mask h m).j∉t.place.toList/\t.probe hashAt h p=some (.empty (pr t.mask h m).j none))\/
       (∃i,t.place[i]?=some (pr t.mask h m).j/\hashAt i=h/\t.probe hashAt h p=some (.candidate (pr t.mask h m).j i (pr t.mask h (m+1))))):=by
  subst hp;obtain⟨M,h1,h2⟩:=ok.free h
  have hM:n<=M:=by
    by_cases hq:M<n
    · exact absurd (hn M hq) h2
    · lia
  obtain⟨m,g1,g2,g3⟩:=DM ok hashAt h (10*SetTable.turns t.mask) n ⟨M,hM,by unfold SetTable.turns;lia,h2⟩
  have hm:m<=M:=by
    by_cases hq:M<m
    · obtain⟨i,hi,_⟩:=g2 M hM hq
      rw[<-lg] at hi;exact absurd (mO hi) h2
    · lia
  exact⟨m,g1,by lia,g2,g3⟩
section
variable {prog:hW}{w:gU}{A:gZ}{E:il}{s:gC}
structure Srch(A:gZ)(s:gC)(a:gz)(es:mK)(n:Nat)(t:lb)(x:gQ)(h:Int)(eqs:Nat->Bool):Prop where
 at_: ∃o,s.heap.get? a=some o/\o.data= .set es n t
 tab:TabOk (es.toList.map (·.1)) t
 refs: ∀(i:Nat) (e:Int×Value),es[i]?=some e-> ∃b,e.2= .ref b
 eq: ∀(i:Nat) (e:Int×Value),es[i]?=some e->EqAt A s e.2 x (eqs i)
 hash: ∀(i:Nat) (e:Int×Value),es[i]?=some e->eqs i=true->e.1=h
 quiet: ∀(l:iV) (prog:hW) (w:gU) (E:il) (Q:qp),(∀v∈l,∃e∈es.toList,e.2=v)->Q false s->wpAny (model prog w) A (searchCouldBeSeen x l) Q E s
theorem LI(ok:TabOk hs t):t.gaveWay=false:=by
 obtain⟨k,h1,_,h3⟩:=ok.pow;obtain⟨k',rfl⟩: ∃k',k=k'+1:=⟨k-1,by lia⟩
 rw[sD] at h3;unfold SetTable.gaveWay;rw[xv];lia
theorem HL(ok:TabOk hs t)(h:hs.length=n):t.fits n=true:=by
 have:=ok.len;have:=ok.room;unfold SetTable.fits SetTable.fill;rw[ok.dum];simp only[lO,beq_iff_eq,ub];exact⟨by lia,by show _+0<=_;lia⟩
theorem Srch.fits{a es n t x h eqs}(S:Srch A s a es n t x h eqs):t.fits es.size=true:=HL S.tab (by simp)
theorem qJ{a:gz}{es:mK}{nn:Nat}{t:lb}{x:gQ}{h:Int}{eqs:Nat->Bool}{adding:Bool}(S:Srch A s a es nn t x h eqs){Q:SetFound->Shared->Prop}
  (n9: ∀i r,eqs i=true->i<es.size->(r=none\/r=some i)->(adding=false->r=some i)->Q (.there r) s)
  (n6:(∀i,i<es.size->eqs i=false)-> ∀n,(pr t.mask h n).j∉t.place.toList->(∀m,m<n->(pr t.mask h m).j∈t.place.toList)->Q (.free (pr t.mask h n).j false) s):
  ∀(fuel n:Nat) (x8:Option SetTable.Probe),x8.getD (t.probeStart h)=pr t.mask h n->(∀q,q<n-> ∃i,t.place[i]?=some (pr t.mask h q).j/\eqs i=false)->10*(t.mask+14)<n+fuel->n<=10*(t.mask+14)->
   wpAny (model prog w) A (setSearchFrom a x h adding fuel x8) Q E s
 |0,n,x8,_,_,hf,hn=>by lia
 |fuel+1,n,x8,t9,hb,hf,hn=>by
  obtain⟨o,ho,hd⟩:=S.at_
  have occ: ∀m,m<n->(pr t.mask h m).j∈t.place.toList:=fun m hm=>by
   obtain⟨i,hi,_⟩:=hb m hm;rw[<-lg] at hi;exact mO hi
  unfold setSearchFrom;refine gx (sA ho hd S.fits ?_);dsimp only;rw[LI S.tab];simp only[iO,↓reduceIte];generalize hP:t.probe _ h _=P;obtain⟨m,m1,m2,m3,m4⟩:=II S.tab t9 occ (hashAt:=fun i=>(es[i]?.map (·.1)).getD 0);have hP':t.probe (fun i=>(es[i]?.map (·.1)).getD 0) h (x8.getD (t.probeStart h))=P:=hP;rw[hP'] at m4
  have eN: ∀(i:Nat) (j:Nat),t.place[i]?=some j-> ∃e,es[i]?=some e/\(es[i]?.map (·.1)).getD 0=e.1:=fun i j hi=>by
   have h1:=(MQ.mp hi).1;have h2:=S.tab.len;rw[jj,jr] at h2;exact⟨es[i],mN (by lia),by rw[mN (by lia)];rfl⟩
  have ne: ∀(i:Nat) (j:Nat),t.place[i]?=some j->(es[i]?.map (·.1)).getD 0≠h->eqs i=false:=fun i j hi o7=>by
   obtain⟨e,he,hh⟩:=eN i j hi
   cases hq:eqs i with
   |false=>rfl
   |true=>exact absurd (hh.trans (S.hash i e he hq)) o7
  have seen: ∀q,q<m-> ∃i,t.place[i]?=some (pr t.mask h q).j/\eqs i=false:=fun q hq=>by
   by_cases j0:q<n
   ·exact hb q j0
   ·obtain⟨i,hi,o7⟩:=m3 q (by lia) hq;exact⟨i,hi,ne i _ hi o7⟩
  rcases m4 with⟨a1,a2⟩|⟨i,a1,a2,a3⟩
  ·subst a2;dsimp only;refine gO (n6 (fun i hi=>?_) m a1 fun q hq=>?_)
   ·cases hq:eqs i with
    |false=>rfl
    |true=>
     exfalso;have he:es[i]?=some es[i]:=mN hi;have h1:=S.hash i _ he hq;have h2:=S.tab.len;rw[jj,jr] at h2;have j7:t.place[i]?=some t.place[i]:=mN (by lia);obtain⟨n',r1,r2⟩:=S.tab.road i h t.place[i] (by rw[lh,lg,he];exact pZ some h1) j7
     have:n'<m:=by
      by_cases j0:n'<m
      ·exact j0
      ·exfalso;rcases Nat.lt_or_eq_of_le (Nat.not_lt.mp j0) with j0|heq
       ·exact a1 (r2 m j0)
       ·subst heq;rw[<-lg] at j7;rw[r1] at a1;exact a1 (mO j7)
     obtain⟨i',g1,g2⟩:=seen n' this;rw[r1] at g1;have:i'=i:=by rw[<-zO S.tab.ris g1,zO S.tab.ris j7]
     rw[this,hq] at g2;cases g2
   ·obtain⟨i,hi,_⟩:=seen q hq;rw[<-lg] at hi;exact mO hi
  ·subst a3;dsimp only;obtain⟨e,he,hh⟩:=eN i _ a1;obtain⟨h',y⟩:=e;obtain⟨b,hy⟩:=S.refs i _ he;dsimp only at hy;subst hy;have sm:t.sameMemory t.moves t.mask=some true:=by simp[SetTable.sameMemory]
   have eJ:i<es.size:=(MQ.mp he).1;cases hl:t.led
   ·simp only[Bool.not_false,↓reduceIte];refine gx (S.quiet _ _ _ _ _ (fun v hv=>?_) ?_)
    ·obtain⟨e,bD,rfl⟩:=mw.mp hv;exact⟨e,(RP.mp (by simpa using(Array.mem_filter.mp (RP.mp bD)).1) |> fun z=>by simpa using z),rfl⟩
    simp only[iO,↓reduceIte];rw[he];dsimp only;refine gx (mQ (S.eq i _ he _ _ _ _ ?_));refine gx (sA ho hd S.fits ?_);dsimp only
    cases hq:eqs i with
    |true=>
     cases adding with
     |true=>simp only[Bool.and_self,↓reduceIte];exact gO (n9 i none hq eJ (.inl rfl) (fun z=>by cases z))
     |false=>
      simp only[Bool.false_and,iO,↓reduceIte,sm,oY S.tab.ris a1,he];refine gx (Bw ?_);simp only[↓reduceIte];exact gx (gO (gO (n9 i _ hq eJ (.inr rfl) fun _=>rfl)))
    |false=>
     simp only[Bool.and_false,iO,↓reduceIte,sm,oY S.tab.ris a1,he];refine gx (Bw ?_);simp only[↓reduceIte];refine gx (gO ?_)
     exact qJ S n9 n6 fuel (m+1) _ rfl (fun q hq'=>by
      by_cases e:q=m
      ·subst e;exact⟨i,a1,hq⟩
      ·exact seen q (by lia)) (by lia) (by lia)
   ·simp only[lM,iO,↓reduceIte];rw[he];dsimp only;refine gx (mQ (S.eq i _ he _ _ _ _ ?_));refine gx (sA ho hd S.fits ?_);dsimp only
    cases hq:eqs i with
    |true=>
     cases adding with
     |true=>simp only[Bool.and_self,↓reduceIte];exact gO (n9 i none hq eJ (.inl rfl) (fun z=>by cases z))
     |false=>
      simp only[Bool.false_and,iO,↓reduceIte,sm,oY S.tab.ris a1,he];refine gx (Bw ?_);simp only[↓reduceIte];exact gx (gO (gO (n9 i _ hq eJ (.inr rfl) fun _=>rfl)))
    |false=>
     simp only[Bool.and_false,iO,↓reduceIte,sm,oY S.tab.ris a1,he];refine gx (Bw ?_);simp only[↓reduceIte];refine gx (gO ?_)
     exact qJ S n9 n6 fuel (m+1) _ rfl (fun q hq'=>by
      by_cases e:q=m
      ·subst e;exact⟨i,a1,hq⟩
      ·exact seen q (by lia)) (by lia) (by lia)
end
abbrev jt(es:mK)(n:Nat)(t:lb):Obj:={cls:= .type "set",data:= .set es n t}
section
variable {prog:hW}{w:gU}{A:gZ}{E:il}{s:gC}
theorem Ds{h:hV}{a:gz}{es es':mK}{n:Nat}{t t':lb}(ho:h.get? a=some (jt es n t)):(h.update a (Obj.putSet es' t')).get? a=some (jt es' (n+1) t'):=by
 have:=sQ (Obj.putSet es' t') ho (by rw[putSet_of es' t' rfl];rfl);rw[putSet_of es' t' rfl] at this;exact this
theorem KQ{α:Type}(es:Array α):(List.range es.size).filterMap (fun i=>es[i]?)=es.toList:=by
 have: ∀(l:List α),(List.range l.length).filterMap (fun i=>l[i]?)=l:=by
  intro l
  induction l with
  |nil=>rfl
  |cons x l ih=>
   rw[kD,List.range_succ_eq_map,uU];simp only[Bv,List.filterMap_map,pW,yo,ih]
 have h:=this es.toList;simpa using h
theorem HK{es:mK}: ∀(l:iM),(∀i∈l,i<es.size)->(l.filterMap (fun i=>es[i]?)).map (·.1)=l.map fun i=>(es.toList.map (·.1)).getD i 0
 |[],_=>rfl
 |i::l,h=>by
  have hi:=h i iX;rw[uU,mN hi];simp only[iN];rw[HK l fun j hj=>h j (je _ hj)]
  congr 1
  simp[hi]
theorem KJ{a:gz}{es:mK}{n:Nat}{t:lb}(ho:s.heap.get? a=some (jt es n t))(hf:t.fits es.size=true)(h5:5<=es.size)(hz:es.size<=500){Q:Unit->Shared->Prop}
  (h: ∀h' es' n' t',Heap.SameBut a s.heap h'->h'.get? a=some (jt es' n' t')->es'.toList.Perm es.toList->TabOk (es'.toList.map (·.1)) t'->t'.plain=t.plain->t'.led=t.led->Q () {s with heap:=h'}):
  wpAny (model prog w) A (setRelay a (SetTable.grown es.size)) Q E s:=by
 have hg:SetTable.grown es.size=es.size*4:=by unfold SetTable.grown;rw[gJ (by lia)]
 obtain⟨k,k3,eI,ek,lk⟩:=Cd (es.size*4) (by lia);have hm:SetTable.sizeAbove (es.size*4)-1+1=2^k:=by have:=Nat.two_pow_pos k;lia
 obtain⟨t',order,e1,e2,e3,e4,e5⟩:=Od hm k3 eI t.finger (t.movedTo (SetTable.sizeAbove (es.size*4)-1)) t.led t.plain (es.toList.map (·.1)) (by rw[jj,jr];lia);rw[jj,jr] at e2
 have er:t.relaid (es.map (·.1)) (es.size*4)=some (t',order):=by
  unfold SetTable.relaid;rw[<-e1,<-Array.toList_map]
 have cO: ∀i∈order.toList,i<es.size:=fun i hi=>uK.mp (e2.mem_iff.mp hi);have pl:(order.filterMap (es[·]?)).toList=order.toList.filterMap (fun i=>es[i]?):=by simp
 have perm:(order.filterMap (es[·]?)).toList.Perm es.toList:=by
  rw[pl];refine(e2.filterMap _).trans ?_;rw[KQ]
 have sz:(order.filterMap (es[·]?)).size=es.size:=by rw[<-jr,perm.length_eq,jr]
 rw[hg];unfold setRelay;refine gx (sA ho rfl hf ?_);dsimp only
 have hs:2^k<=sizeLine:=by
  have:2^k<=2^11:=yp (by decide) eI;rw[iQ];lia
 rw[gJ (by rw[ek];lia),er];refine gx ?_;change wpAny _ _ (if((order.filterMap (es[·]?)).size !=es.size)=true then _ else _) _ _ _;rw[gJ (by rw[sz];simp)];refine gO ?_;dsimp only;refine wpAny_storeSet_of ho rfl ?_ (by rw[sz,iQ];lia);refine h _ (order.filterMap (es[·]?)) (n+1) t' (uM s.heap a _) (Ds ho) perm ?_ e4 e5;rw[pl,HK _ cO];exact e3
theorem oI{α:Type}(xs:Array α)(p:Nat)(x:α):(SetTable.insertAt xs p x).toList.Perm (x::xs.toList):=by
 rw[kK];refine EI.trans ?_;rw[lL]
theorem T4{a b:gz}{es:mK}{n:Nat}{t:lb}{h:Int}{eqs:Nat->Bool}(S:Srch A s a es n t (.ref b) h eqs)(ho:s.heap.get? a=some (jt es n t))(j7:t.plain=true)(hz:es.size+1<=500)
  (hbv: ∀(Q':qp),Q' true s->wpAny (model prog w) A (hashByValue 8 (.ref b)) Q' E s){Q:qp}
  (hold:(∃i,i<es.size/\eqs i=true)->Q false s)
  (ao:(∀i,i<es.size->eqs i=false)-> ∀h' es' n' t',Heap.SameBut a s.heap h'->h'.get? a=some (jt es' n' t')->es'.toList.Perm ((h,.ref b)::es.toList)->TabOk (es'.toList.map (·.1)) t'->t'.plain=true->t'.led=t.led->Q true {s with heap:=h'}):
  wpAny (model prog w) A (setAddHashed a (.ref b) h) Q E s:=by
 unfold setAddHashed setAddHashedIn;refine mQ (gx (sA ho rfl S.fits ?_));dsimp only;have hbs:byScan (.ref b) es=false:=rfl;rw[hbs];simp only[iO,↓reduceIte]
 have hm:t.mask+1<=2048:=by
  obtain⟨k,_,eI,ek⟩:=S.tab.pow;have:2^k<=2^11:=yp (by decide) eI
  lia
 refine gx (qJ S (adding:=true) (fun i r h1 h2 _ _=>?_) (fun cb m h1 h2=>?_) 100000 0 none rfl (fun q hq=>by lia) (by lia) (by lia))
 ·dsimp only;exact gO (hold ⟨i,h2,h1⟩)
 ·dsimp only;refine gx (sA ho rfl S.fits ?_);dsimp only
  have e1:(t.put (pr t.mask h m).j).1={t with place:=SetTable.insertAt t.place (SetTable.below t.place (pr t.mask h m).j) (pr t.mask h m).j,dummies:= #[]}:=by
   unfold SetTable.put;dsimp only;rw[S.tab.dum,CN];rfl
  have e2:(t.put (pr t.mask h m).j).2=SetTable.below t.place (pr t.mask h m).j:=rfl;have cG:(t.put (pr t.mask h m).j).1.plain=true:=by rw[e1];exact j7
  rw[gG cG];refine gx (hbv _ ?_);simp only[↓reduceIte]
  have dF:(SetTable.insertAt es (t.put (pr t.mask h m).j).2 (h,Value.ref b)).size=es.size+1:=by
   rw[<-jr,(oI es _ _).length_eq,kD,jr]
  refine gx (wpAny_storeSet_of ho rfl ?_ (by rw[dF,iQ];lia));have v8:=Ds (es':=SetTable.insertAt es (t.put (pr t.mask h m).j).2 (h,Value.ref b)) (t':=(t.put (pr t.mask h m).j).1) ho;have sb1:=uM s.heap a (Obj.putSet (SetTable.insertAt es (t.put (pr t.mask h m).j).2 (h,Value.ref b)) (t.put (pr t.mask h m).j).1);have hlen:es.toList.length=es.size:=jr;have tlen:=S.tab.len;rw[jj,hlen] at tlen
  have hpsz:(t.put (pr t.mask h m).j).1.place.size=es.size+1:=by
   rw[e1];show(SetTable.insertAt t.place _ _).size=_;rw[<-jr,(oI t.place _ _).length_eq,kD,jr,tlen]
  have bh:(t.put (pr t.mask h m).j).1.fill=es.size+1:=by
   unfold SetTable.fill;rw[hpsz,e1];rfl
  have ba:(t.put (pr t.mask h m).j).1.mask=t.mask:=by rw[e1]
  have hled:(t.put (pr t.mask h m).j).1.led=t.led:=by rw[e1]
  by_cases htf:(t.put (pr t.mask h m).j).1.tooFull=true
  ·rw[htf];simp only[Bool.not_false,Bool.and_self,↓reduceIte];have hroom:=S.tab.room;rw[jj,hlen] at hroom
   have hbig:3*t.mask<=5*(es.size+1):=by
    unfold SetTable.tooFull at htf;rw[bh,ba] at htf;have:=of_decide_eq_true htf;lia
   have m7:7<=t.mask:=by
    obtain⟨k,k3,_,ek⟩:=S.tab.pow;have:2^3<=2^k:=yp (by decide) k3
    lia
   have hfit:(t.put (pr t.mask h m).j).1.fits (SetTable.insertAt es (t.put (pr t.mask h m).j).2 (h,Value.ref b)).size=true:=by
    unfold SetTable.fits;rw[hpsz,dF,bh,ba];simp only[BEq.rfl,Bool.true_and,ub];lia
   rw[<-dF];refine gx (KJ v8 hfit (by rw[dF];lia) (by rw[dF];lia) fun h' es' n' t' g1 g2 g3 g4 g5 g6=>?_);exact gO (ao cb h' es' n' t' (sb1.trans g1) g2 (g3.trans (oI es _ _)) g4 (by rw[g5];exact cG) (by rw[g6];exact hled))
  ·have htf':(t.put (pr t.mask h m).j).1.tooFull=false:=by simpa using htf
   rw[htf'];simp only[Bool.and_false,iO,↓reduceIte]
   have hsm:5*(es.size+1)<3*t.mask:=by
    unfold SetTable.tooFull at htf;rw[bh,ba] at htf;have: ¬(es.size+1)*5>=t.mask*3:=fun z=>htf (nC z)
    lia
   obtain⟨p1,p2⟩:=S.tab.put h1 h2 (by rw[jj,hlen];exact hsm) rfl rfl;refine gO (ao cb _ _ _ _ sb1 v8 (oI es _ _) ?_ cG hled);rw[kK,sG,iN,<-List.map_take,<-List.map_drop] at*;rw[e2];exact p1
end
theorem zG:entryFor table "set.__iter__"=some Builtin.«frozenset.__iter__»:=entryFor_alias (id':="frozenset.__iter__") (by kernel_rfl) rfl (by decide+kernel) (by kernel_rfl)
theorem mF:Slot "set_iterator" "__next__" "set_iterator.__next__":= .of (owner:="set_iterator") (n:="__next__") (by rw[typeLookup_type,JI];kernel_rfl) (by decide+kernel) (by decide+kernel) (by decide+kernel) (by first|exact .inl (by decide+kernel)|exact .inr (by decide+kernel)) (by rw[Bu];kernel_rfl)
theorem va:Slot "set_iterator" "__iter__" "set_iterator.__iter__":= .of (owner:="set_iterator") (n:="__iter__") (by rw[typeLookup_type,JI];kernel_rfl) (by decide+kernel) (by decide+kernel) (by decide+kernel) (by first|exact .inl (by decide+kernel)|exact .inr (by decide+kernel)) (by rw[Bu];kernel_rfl)
theorem tK:entryFor table "set_iterator.__next__"=some Builtin.«set_iterator.__next__»:=entryFor_of_fast (by kernel_rfl)
theorem Ar:entryFor table "set_iterator.__iter__"=some Builtin.«dict_keyiterator.__iter__»:=entryFor_alias (id':="dict_keyiterator.__iter__") (by kernel_rfl) rfl (by decide+kernel) (by kernel_rfl)
theorem vO(a:gQ):argsOk "set_iterator.__next__" ⟨[a],[]⟩:=by unfold argsOk;kernel_rfl
theorem C6(a:gQ):argsOk "set_iterator.__iter__" ⟨[a],[]⟩:=by unfold argsOk;kernel_rfl
theorem qh{α:Type}: ∀(l:List α) {i:Nat} (h:i<l.length),(l[i]::l.eraseIdx i).Perm l
 |x::l,0,_=>by simp
 |x::l,i+1,h=>by
  have:=qh l (i:=i) (by simpa using h);simp only[List.getElem_cons_succ,List.eraseIdx_cons_succ];exact(List.Perm.swap x _ _).trans (List.Perm.cons x this)
theorem vf{α:Type}(next:Nat->Nat): ∀(fuel k:Nat) (left:List α) (out:Array α),left.length<=fuel->(pickOrder.go next fuel k left out).toList.Perm (out.toList++left)
 |0,k,left,out,h=>by
  have:left=[]:=RO.mp (by omega);subst this;unfold pickOrder.go;simp
 |fuel+1,k,left,out,h=>by
  unfold pickOrder.go
  cases left with
  |nil=>simp
  |cons y l=>
   have j0:next k%(y::l).length<(y::l).length:=vV _ (by simp);rw[jd j0];dsimp only;refine(vf next fuel (k+1) _ _ (by rw[Bt,gG j0];simp at h ⊢;omega)).trans ?_;rw[Array.toList_push,ki];refine pB _ ?_;exact qh _ j0
theorem yV{α:Type}(next:Nat->Nat)(xs:Array α):(pickOrder next xs).toList.Perm xs.toList:=by
 unfold pickOrder;have:=vf next xs.size 0 xs.toList #[] (by simp);simpa using this
def mD(w:gU)(a:gz)(n:Nat)(es:mK):Array (Int×Value):=if w.params.followText "set-order"=true then pickOrder (w.params.setOrder a n) es else es
theorem EK(w:gU)(a:gz)(n:Nat)(es:mK):(mD w a n es).toList.Perm es.toList:=by
 unfold mD;split
 ·exact yV _ _
 ·exact tX _
theorem nH(w:gU)(a:gz)(n:Nat)(es:mK):(mD w a n es).size=es.size:=by
 rw[<-jr,(EK w a n es).length_eq,jr]
def Hg(t:lb):Nat->Nat
 |0=>0
 |i+1=>t.place.getD i 0+1
def kY(w:gU)(t:lb)(i:Nat):Nat:=if w.params.followText "set-order"=true then 0 else Hg t i
structure SetIs(w:gU)(h:hV)(a:gz)(es:mK)(n:Nat)(t:lb):Prop where
 at_:h.get? a=some (jt es n t)
 tab:TabOk (es.toList.map (·.1)) t
 plain:t.plain=true
 led:t.led=!w.params.followText "set-order"
def SetIter(w:gU)(h:hV)(it a:gz)(t:lb)(size n i:Nat):Prop:= ∃o,h.get? it=some o/\o.cls= .type "set_iterator"/\o.data= .fields #[.int (kY w t i) 0,.int i 0,.ref a,.int size 0,.int n 0]
section
variable {prog:hW}{w:gU}{A:gZ}{E:il}{s:gC}
theorem SetIs.fits{h a es n t}(S:SetIs w h a es n t):t.fits es.size=true:=HL S.tab (by simp)
theorem GN(hr:t.place.toList.Pairwise (· < ·))(hi:i<=t.place.size):SetTable.below t.place (Hg t i)=i:=by
 cases i with
 |zero=>
  obtain⟨h1,h2,_⟩:=nY hr 0
  cases hb:SetTable.below t.place 0 with
  |zero=>exact hb
  |succ k=>
   have hz:0<t.place.size:=by omega
   have:=h2 0 _ (by omega) (mN hz);omega
 |succ i=>
  have hd:t.place.getD i 0=t.place[i]:=by simp[Array.getD,show i<t.place.size by omega]
  show SetTable.below t.place (t.place.getD i 0+1)=i+1;rw[hd];have hg:t.place[i]?=some t.place[i]:=mN (by omega);obtain⟨h1,h2,h3⟩:=nY hr (t.place[i]+1);by_cases j0:SetTable.below t.place (t.place[i]+1)<i+1
  ·have:=h3 i _ (by omega) hg;omega
  ·by_cases hgt:i+1<SetTable.below t.place (t.place[i]+1)
   ·have du:t.place[i+1]?=some t.place[i+1]:=mN (by omega);have:=h2 (i+1) _ hgt du;have:=Co hr (uN i) hg du;omega
   ·omega
theorem yL{a:gz}{es:mK}{n:Nat}{t:lb}(S:SetIs w s.heap a es n t){i:Nat}(hi:i<=es.size){Q:Option (Value×Nat)->Shared->Prop}
  (h1: ∀e,(mD w a n es)[i]?=some e->Q (some (e.2,kY w t (i+1))) s)(h2:i=es.size->Q none s):wpAny (model prog w) A (setNext a (kY w t i) i n) Q E s:=by
 have tl:=S.tab.len;rw[jj,jr] at tl;unfold setNext;refine gx (sA S.at_ rfl S.fits ?_);dsimp only;unfold setsByText;refine gx (gx (wo (gO ?_)));by_cases hb:w.params.followText "set-order"=true
 ·have t6:(model prog w).w.params.followText "set-order"=true:=hb;rw[gG t6,gJ (by simp)];unfold setWalk setsByText;refine gx (gx (sA S.at_ rfl S.fits ?_));dsimp only;refine gx (gx (wo (gO ?_)));rw[gG t6];refine gx (wo (gO (gO ?_)));have e1:mD w a n es=pickOrder (w.params.setOrder a n) es:=by unfold mD;rw[gG hb]
  have e2: ∀k,kY w t k=0:=fun k=>by unfold kY;rw[gG hb]
  show Q (((pickOrder (w.params.setOrder a n) es)[i]?).map fun e=>(e.2,kY w t i)) s;rw[<-e1];rw[e2] at h1;rw[e2]
  cases hg:(mD w a n es)[i]? with
  |some e=>exact h1 e hg
  |none=>
   have:=Array.getElem?_eq_none_iff.mp hg;rw[nH] at this;exact h2 (by omega)
 ·have t6: ¬(model prog w).w.params.followText "set-order"=true:=hb;rw[gJ t6];change wpAny _ _ (if(!t.plain&&decide (es.size>1))=true then _ else _) _ _ _;rw[gJ (by rw[S.plain];simp)];have hl:t.led=true:=by rw[S.led];simpa using hb
  refine gx ?_;change wpAny _ _ (if(!t.led&&!es.isEmpty)=true then _ else _) _ _ _;rw[gJ (by rw[hl];simp)];refine gO ?_;have e1:mD w a n es=es:=by unfold mD;rw[gJ hb]
  have e2: ∀k,kY w t k=Hg t k:=fun k=>by unfold kY;rw[gJ hb]
  have e3:SetTable.below t.place (kY w t i)=i:=by rw[e2];exact GN S.tab.ris (by omega)
  rw[e3];rw[e1] at h1;by_cases j0:i<es.size
  ·have g1:es[i]?=some es[i]:=mN j0;have g2:t.place[i]?=some t.place[i]:=mN (by omega);rw[g1,g2];have:=h1 es[i] g1;rw[e2] at this;rw[show Hg t (i+1)=t.place.getD i 0+1 from rfl] at this;have hd:t.place.getD i 0=t.place[i]:=by simp[Array.getD,show i<t.place.size by omega]
   rw[hd] at this;exact gO this
  ·rw[Bx (by omega)];exact gO (h2 (by omega))
theorem SetIs.typeIs{a es n t}(S:SetIs w s.heap a es n t):s.TypeIs (.ref a) "set":=⟨_,S.at_,rfl⟩
theorem SetIter.typeIs{it a t z n i}(S:SetIter w s.heap it a t z n i):s.TypeIs (.ref it) "set_iterator":=let⟨o,ho,hc,_⟩:=S;⟨o,ho,hc⟩
theorem L8(S:SetIs w s.heap a es n t) 
  (hQ: ∀h',SetIter w h' s.heap.objs.size a t es.size n 0->(∀b o,s.heap.get? b=some o->h'.get? b=some o)->h'.objs.size=s.heap.objs.size+1->Q (.ref s.heap.objs.size) {s with heap:=h'}):
  wpAny (model prog w) A (pyIter (.ref a)) Q E s:=by
 refine EX S.typeIs JH (nD JH S.typeIs zG ?_ (PySem.F.args_set_iter_1 _));unfold Builtin.«frozenset.__iter__» Builtin.Frozenset.slot0 slotArgs;simp only[List.isEmpty_nil,lM,iO,↓reduceIte,qC,sN,uR];unfold Builtin.Frozenset.addrOf Builtin.Frozenset.sizeOf;refine gx (gO ?_);dsimp only;refine gx (gO ?_);refine gx (gx (EW S.at_ rfl S.fits (gO ?_)));unfold setDrawn setsByText;refine gx (gx (sA S.at_ rfl S.fits ?_));dsimp only;refine gx (gx (wo (gO ?_)));refine gO ?_;change wpAny _ _ (if(!w.params.followText "set-order"&&(!t.plain&&decide (es.size>1)))=true then _ else _) _ _ _;rw[gJ (by rw[S.plain];simp)];refine gx (gO ?_);unfold setEpoch;refine gx (gx (sA S.at_ rfl S.fits (gO ?_)));refine gx (mn (gO ⟨_,rfl,"set_iterator",_,⟨_,jG _ rfl,rfl⟩,mF.lookup,?_⟩));refine hQ _ ⟨_,jG _ rfl,rfl,?_⟩ (fun b o e=>iF _ e) (uP _ _);have:kY w t 0=0:=by unfold kY;split<;>rfl
 rw[this];rfl
theorem An{it a:gz}{es:mK}{n:Nat}{t:lb}(S:SetIs w s.heap a es n t){i:Nat}(hI:SetIter w s.heap it a t es.size n i)(o7:it≠a){e:Int×Value}(he:(mD w a n es)[i]?=some e){Q:G0}
  (hQ: ∀h',SetIter w h' it a t es.size n (i+1)->Heap.SameBut it s.heap h'->Q (some e.2) {s with heap:=h'}):wpAny (model prog w) A (pyNext (.ref it)) Q E s:=by
 obtain⟨o,ho,hc,hd⟩:=id hI;have hi:i<es.size:=by have:=(MQ.mp he).1;rw[nH] at this;exact this
 unfold pyNext;refine gx (tZ (sU (name:=Str.ofString "__next__") hI.typeIs mF (nD mF hI.typeIs tK ?_ (vO _))));unfold Builtin.«set_iterator.__next__» slotArgs;simp only[List.isEmpty_nil,lM,iO,↓reduceIte,qC,sN,uR];refine gx (gO ?_);unfold fieldsOf;simp only[qC];refine gx (wy ho ?_);rw[hd];refine gx (gO ?_);dsimp only;refine gx (EW S.at_ rfl S.fits ?_);rw[gJ (by simp)];have h1:((kY w t i:Nat):Int).toNat=kY w t i:=qt _;have h2:((i:Nat):Int).toNat=i:=qt _;have h3:((n:Nat):Int).toNat=n:=qt _;rw[h1,h2,h3];refine gx (yL S (B6 hi) (fun e' bD=>?_) fun z=>by omega);rw[he] at bD;cases bD;dsimp only;refine gx (ua ho hd (by simp) ?_);have v8:=sQ (Obj.mapFields fun vs=>vs.setIfInBounds 0 (rawInt (kY w t (i+1)))) ho (BL (sL hd _));refine gx (ua v8 (sL hd _) (by simp) (gO ⟨_,rfl,gO (hQ _ ?_ ((uM ..).trans (uM ..)))⟩));refine⟨_,sQ _ v8 (BL (sL (sL hd _) _)),?_,?_⟩
 ·rw[BK,BK];exact hc
 ·rw[sL (sL hd _)];simp[rawInt]
theorem CC(hh:A.handled=none)(S:SetIs w s.heap a es n t)(hI:SetIter w s.heap it a t es.size n es.size)(o7:it≠a) 
  (hQ: ∀h',Heap.ExtBut it s.heap h'->Q none {s with heap:=h'}):wpAny (model prog w) A (pyNext (.ref it)) Q E s:=by
 obtain⟨o,ho,hc,hd⟩:=id hI;unfold pyNext;refine gx (tZ (sU (name:=Str.ofString "__next__") hI.typeIs mF (nD mF hI.typeIs tK ?_ (vO _))));unfold Builtin.«set_iterator.__next__» slotArgs;simp only[List.isEmpty_nil,lM,iO,↓reduceIte,qC,sN,uR];refine gx (gO ?_);unfold fieldsOf;simp only[qC];refine gx (wy ho ?_);rw[hd];refine gx (gO ?_);dsimp only;refine gx (EW S.at_ rfl S.fits ?_);rw[gJ (by simp)];have h1:((kY w t es.size:Nat):Int).toNat=kY w t es.size:=qt _;have h2:((es.size:Nat):Int).toNat=es.size:=qt _;have h3:((n:Nat):Int).toNat=n:=qt _;rw[h1,h2,h3];refine gx (yL S (ir _) (fun e' bD=>?_) fun _=>?_)
 ·have:=(MQ.mp bD).1;rw[nH] at this;omega
 dsimp only;refine gx (ua ho hd (by simp) ?_);show wpAny _ _ (newExc (.type "StopIteration") []>>=_) _ _ _;refine gx ?_;simp only[newExc,newTuple];refine gx (mn ?_ (by size_fits));refine gx (m:=firstArgMember _ _) (pX (a:=Value.none) (by first|rfl|(simp only[firstArgMember];rfl)) ?_);refine mn ?_ (by size_fits);simp only[raiseNew];refine gx (Fi ?_);rw[show A.in1.handled=none from hh];refine gx (gO (Fh ?_));refine gx (wg (T:="StopIteration") (b:=true) ⟨_,jG _ rfl,rfl⟩ Fe ?_);exact gO (hQ _ (((uM ..).extBut.push _).push _))
theorem Jc(hI:SetIter w s.heap it a t z n i)(hQ:Q (.ref it) s):wpAny (model prog w) A (pyIter (.ref it)) Q E s:=by
 refine EX hI.typeIs va (nD va hI.typeIs Ar ?_ (C6 _));unfold Builtin.«dict_keyiterator.__iter__» slotArgs;simp only[List.isEmpty_nil,lM,iO,↓reduceIte,qC,sN,uR];exact gx (gO (gO ⟨_,rfl,"set_iterator",_,hI.typeIs,mF.lookup,hQ⟩))
theorem SetIs.stay{a es n t}(S:SetIs w h a es n t)(k: ∀o,h.get? a=some o->h'.get? a=some o):SetIs w h' a es n t:=⟨k _ S.at_,S.tab,S.plain,S.led⟩
theorem Iq(hh:A.handled=none)(I a:gz)(o7:I≠a)(es:mK)(n:Nat)(t:lb):
  Walks prog w A I [I,a] [I] es.size (fun i v=> ∃e,(mD w a n es)[i]?=some e/\v=e.2) (fun i h=>SetIter w h I a t es.size n i/\SetIs w h a es n t) where
 sub:=fun b hb=>by simp at hb;simp[hb]
 frame:=fun _ _ _ st hk=>⟨(by obtain⟨o,h1,h2⟩:=st.1;exact⟨o,hk I (by simp) o h1,h2⟩),st.2.stay fun o e=>hk a (by simp) o e⟩
 item:=fun i s Q E hi st hQ=>by
  have j0:i<(mD w a n es).size:=by rw[nH];exact hi
  have hg:(mD w a n es)[i]?=some (mD w a n es)[i]:=mN j0;refine An st.2 st.1 o7 hg fun h' aD aJ=>?_;exact hQ _ h' s.toks ⟨_,hg,rfl⟩ ⟨aD,st.2.stay fun o e=>aJ.extBut a o (fun h=>o7 h.symm) e⟩ fun b o hb e=>aJ.extBut b o (fun h=>hb (by simp[h])) e
 done:=fun s Q E st hQ=>CC hh st.2 st.1 o7 fun h' bD=>hQ h' s.toks fun b o hb e=>bD b o (fun h=>hb (by simp[h])) e
 self:=fun _ _ _ _ st hQ=>Jc st.1 hQ
theorem Ou(hh:A.handled=none)(S:SetIs w s.heap a es n t)(hn:es.size<=sizeLine) 
  (hQ: ∀h' tk,(∀b o,s.heap.get? b=some o->h'.get? b=some o)->Q ((mD w a n es).toList.map (·.2)) {s with heap:=h',toks:=tk}):wpAny (model prog w) A (collect (.ref a)) Q E s:=by
 have cg:a<s.heap.objs.size:=iu S.at_;have cN:a≠s.heap.objs.size:=iL cg;have cM:a≠s.heap.objs.size+1:=iL (qB cg);have dR:s.heap.objs.size≠s.heap.objs.size+1:=iL (uN _);unfold collect;refine gx (BO (qr JG ?_));rw[sM JF _];show wpAny _ A.in1 (newList []>>=fun l=>again (.builtin "list.__iadd__" ⟨[l,.ref a],[]⟩)) _ _ s;refine gx (mn ?_);refine gO ⟨qy Bs _,qr JE ?_⟩;rw[sM Bs _];show wpAny _ A.in1 (Builtin.List.listExtendWith (.ref s.heap.objs.size) (.ref a) (.ref s.heap.objs.size)) _ _ _;generalize dW:({cls:= .type "list",data:= .seq ([]:List Value).toArray}:Obj)=l0;have S1:SetIs w (s.heap.push l0) a es n t:=S.stay fun o e=>iF _ e;unfold Builtin.List.listExtendWith;refine gx (uS (T:="set") (s:={s with heap:=s.heap.push l0}) S1.typeIs ?_);have h1:Builtin.List.listSameRef (.ref s.heap.objs.size) (.ref a)=false:=by simp only[Builtin.List.listSameRef,xv];exact cN.symm
 have h2:(Value.type "set"==Value.type "list")=false:=by decide
 have h3:(Value.type "set"==Value.type "tuple")=false:=by decide
 simp only[h1,h2,h3,Bool.or_false,iO,jb];refine gx (L8 (s:={s with heap:=s.heap.push l0}) S1 fun h2 dO k2 z2=>?_);have dG:(s.heap.push l0).objs.size=s.heap.objs.size+1:=uP _ _;have S2:SetIs w h2 a es n t:=S1.stay fun o e=>k2 _ _ e;refine gx (mQ ?_);unfold Builtin.List.listLengthHint;refine gx (tP (T:="set") (s:={s with heap:=h2}) S2.typeIs PySem.F.slot_set_len.lookup ?_);generalize dX:("set.__len__":String)=id0;dsimp only;rw[show splitId id0=some ("set","__len__") from by subst dX;decide+kernel];dsimp only;refine gx (wg (T:="set") (s:={s with heap:=h2}) (b:=true) S2.typeIs (by rw[Bu];kernel_rfl) ?_);simp only[lM,iO,jb];change wpAny _ _ (if _=true then _ else _) _ _ _;rw[gG (by subst dX;decide+kernel)];refine gx (uS (T:="set") (s:={s with heap:=h2}) S2.typeIs ?_);dsimp only;refine gO ?_;change wpAny _ _ (if _=true then _ else _) _ _ _;rw[gG (by decide+kernel)];refine gx (uQ ?_);have ef:h2.get? s.heap.objs.size=some l0:=k2 _ _ (jG _ (by subst dW;rfl));subst dW;refine gx ?_;show wpAny _ A.in1 (updateSeq s.heap.objs.size (·.push .none)>>=fun _=>updateSeq s.heap.objs.size (·.pop)) _ _ _;refine gx (Br (s:={s with heap:=h2}) ef rfl ?_);have ee:=sQ (Obj.mapSeq (·.push Value.none)) ef rfl;refine Br ee rfl ?_;have gd:=sQ (Obj.mapSeq (·.pop)) ee rfl
 have oth: ∀b o,b≠s.heap.objs.size->h2.get? b=some o->((h2.update s.heap.objs.size (Obj.mapSeq (·.push Value.none))).update s.heap.objs.size (Obj.mapSeq (·.pop))).get? b=some o:=
  fun b o hb e=>(wt _ _ (qb hb)).trans ((wt _ _ (qb hb)).trans e)
 have W:=(Iq (prog:=prog) (w:=w) (A:=A.in1) (by show A.handled=none;exact hh) (s.heap.objs.size+1) a cM.symm es n t).toS;rw[dG] at dO;refine gO ⟨qy JD _,?_⟩;rw[dG];refine JC W hn s.heap.objs.size (by simp only[jC,kc,lA,oS];exact⟨dR,cN.symm⟩) _ es.size 0 _ _ _ rfl (lN _) ?_ gd (ItemsOf.nil _) fun s' h9 c' hm bp r6=>?_
 ·refine⟨?_,S2.stay fun o e=>oth a o cN e⟩;obtain⟨o,g1,g2⟩:=dO;exact⟨o,oth _ o dR.symm g1,g2⟩
 show wpAny _ A (load s.heap.objs.size>>=_) _ _ s';refine gx (wy bp ?_);obtain⟨h',g',d',bU,cx⟩:=s';have eg:g'=s.gens:=hm.gens;have ed:d'=s.drawn:=hm.drawn;have eo:cx=s.os:=hm.os;subst eg;subst ed;subst eo
 have cX:h9.toList=(mD w a n es).toList.map (·.2):=by
  obtain⟨a1,a2⟩:=r6;apply Fl
  ·rw[jj,jr,jr,a1,nH]
  ·intro j g1 g2;have gj:h9[j]?=some h9.toList[j]:=by rw[<-lg];exact jd g1
   obtain⟨e,he,hv⟩:=a2 j _ gj;rw[hv];rw[jj,jr] at g2;rw[List.getElem_map];rw[<-lg,jd (by rw[jr];exact g2)] at he;cases he;rfl
 refine gO ?_;show Q h9.toList _;rw[cX];refine hQ h' bU fun b o e=>?_;have hb:=iu e;exact hm.heap b o (by simp only[jC,kc,lA,oS];exact⟨iL hb,iL (qB hb)⟩) (oth b o (iL hb) (k2 _ _ (iF _ e)))
end
section
variable {prog:hW}{w:gU}{A:gZ}{R:Result->Shared->Prop}{I:gz}{fp wr:jW}{G:Array GenState->Array GenState->Prop}{n:Nat}{P:Nat->Value->Prop}{St:Nat->Shared->Prop}
theorem Kj(W:WalksS prog w A.in1 I fp wr G n P St)(S:gz)(eT:S∉fp)(s0:gC)(SI:Nat->Heap->Prop)(stay: ∀i h h',SI i h->(∀o,h.get? S=some o->h'.get? S=some o)->SI i h')
  (step: ∀i v (s':gC) (Q:qp) (E:il),i<n->P i v->SI i s'.heap->Moved (S::wr) G s0 s'->(∀r h' tk,s'.toks<=tk->Heap.SameBut S s'.heap h'->SI (i+1) h'->Q r {s' with heap:=h',toks:=tk})->wpAny (model prog w) A.in1 (setAdd S v) Q E s'):
  ∀(k i:Nat) (s:gC),n-i=k->i<=n->St i s->SI i s.heap->Moved (S::wr) G s0 s->(∀s',Moved (S::wr) G s0 s'->SI n s'.heap->R (.ok (.ret .none)) s')->
   codeAny (model prog w) A (.builtin "set.update.loop" ⟨[.ref S,.ref I],[]⟩) R s:=by
 have hSw:S∉wr:=fun h=>eT (W.sub _ h);have aA: ∀b∈wr,b∈S::wr:=fun b hb=>je _ hb;intro k
 induction k with
 |zero=>
  intro i s hk hi t9 hS fK hR;have hin:i=n:=by omega
  subst hin;refine qr JB ?_;rw[sM EV _];show wpAny _ A.in1 (pyNext (.ref I)>>=_) _ _ s;refine gx (W.done s _ _ t9 fun s' hm=>?_);show wpAny _ A.in1 (ret Value.none) _ _ s';exact gO (hR s' (Moved.trans W.gtrans fK (hm.mono aA)) (stay _ _ _ hS fun o e=>hm.heap S o hSw e))
 |succ k ih=>
  intro i s hk hi t9 hS fK hR;have j0:i<n:=by omega
  refine qr JB ?_;rw[sM EV _];show wpAny _ A.in1 (pyNext (.ref I)>>=_) _ _ s;refine gx (W.item i s _ _ j0 t9 fun v s' hP hst' hm=>?_);have hm1:=Moved.trans W.gtrans fK (hm.mono aA);show wpAny _ A.in1 (holding [v] (setAdd S v)>>=_) _ _ s';refine gx (mQ (step i v s' _ _ j0 hP (stay _ _ _ hS fun o e=>hm.heap S o hSw e) hm1 fun r h' tk bx aY hS2=>?_));refine gO ⟨qy EV _,ih (i+1) _ (by omega) j0 (W.frame _ s' _ _ hst' bx fun b hb o e=>?_) hS2 (hm1.then_heap bx fun b o hb e=>?_) hR⟩
  ·rw[aY.2 b (fun h:b=S=>eT (by rw[<-h];exact hb))];exact e
  ·rw[aY.2 b (fun h:b=S=>hb (by rw[h];exact iX))];exact e
end
section
variable {prog:hW}{w:gU}{A:gZ}{E:il}{s:gC}
theorem N9(a:gQ)(h:Q₁ (.ref s.heap.objs.size) {s with heap:=s.heap.push (jt #[] 0 (.fresh 0 0 (!w.params.followText "set-order")))}):
  codeAny (model prog w) A (.call (.builtin "set.__new__") ⟨[.type "set",a],[]⟩) (wants Q₁ E) s:=by
 refine yu ?_;show wpAny _ A.in1 (do checkBuiltinCall "set.__new__" ⟨[.type "set",a],[]⟩;again (.builtin "set.__new__" ⟨[.type "set",a],[]⟩)) _ _ s;refine gx (pX (PySem.F.newCall_set_1 a) (gO ⟨qy JA _,qr PySem.F.entry_set_new ?_⟩));rw[sM JA _];unfold Builtin.«set.__new__» Builtin.Frozenset.newClass;have aA:=sub_set_self;obtain⟨hp,g,d,tk,os⟩:=s;dsimp only
 wp_walk
 refine wo (gO ?_);dsimp only;simp only[newObj];refine gx (wpAny_alloc (gO ?_));exact gO h
abbrev kx(w:gU):SetTable:= .fresh 0 0 (!w.params.followText "set-order")
theorem RT{h:hV}{a:gz}(e:h.get? a=some (jt #[] 0 (kx w))):SetIs w h a #[] 0 (kx w):=⟨e,TabOk.fresh _ _ _,rfl,rfl⟩
set_option maxHeartbeats 8000000 in
theorem RU{l:gz}{items:kz}{Q:il}(hh:A.handled=none)(hl:s.heap.IsList l items\/s.heap.IsTuple l items)(SI:Nat->Heap->Prop)
  (stay: ∀i h h',SI i h->(∀o,h.get? s.heap.objs.size=some o->h'.get? s.heap.objs.size=some o)->SI i h')
  (qi: ∀h',h'.get? s.heap.objs.size=some (jt #[] 0 (kx w))->SI 0 h')
  (step: ∀i v (s':gC) (B:gZ) (Q:qp) (E:il),B.units<=A.units+20->items[i]?=some v->SI i s'.heap->(∀b o,s.heap.get? b=some o->s'.heap.get? b=some o)->s'.gens=s.gens->s'.drawn=s.drawn->s'.os=s.os->
   (∀r h' tk,s'.toks<=tk->Heap.SameBut s.heap.objs.size s'.heap h'->SI (i+1) h'->Q r {s' with heap:=h',toks:=tk})->wpAny (model prog w) B (setAdd s.heap.objs.size v) Q E s')
  (h: ∀(h':hV) (tk:Nat),SI items.size h'->(∀b o,s.heap.get? b=some o->h'.get? b=some o)->Q (.ref s.heap.objs.size) {s with heap:=h',toks:=tk}):
  wpAny (model prog w) A (call (.type "set") [.ref l]) Q E s:=by
 obtain⟨c,tl,hmro⟩:=J7.mro;have hmade:=J7.made;have aA:=J7.sub;refine wpAny_call (yu ?_);show wpAny _ _ (callAny (.type "set") _) _ _ _;refine gO ⟨Code.quiet_builtin _ (by decide+kernel),qr PySem.F.entry_type_call ?_⟩;rw[Around.under_plain (weight_type_call_type "set" [.ref l] []) rfl];have h1:=J7.notType;have h2:=J7.canCreate;have hct:=PySem.F.typeCall_set_1 (.ref l)
 repeat (any_goals (first|assumption|wp_step))
 refine qE (N9 (.ref l) (E:=E) (Q₁:=fun obj s₁=>obj= .ref s.heap.objs.size/\s₁={s with heap:=s.heap.push (jt #[] 0 (kx w))}) ⟨rfl,rfl⟩) fun r s₁ hr=>?_
 cases r with
 |error e=>exact hr
 |ok fl=>
  cases fl with
  |ret obj=>
   obtain⟨rfl,rfl⟩:=hr;have hS:(s.heap.push (jt #[] 0 (kx w))).get? s.heap.objs.size=some (jt #[] 0 (kx w)):=jG _ rfl;have hT:Shared.TypeIs {s with heap:=s.heap.push (jt #[] 0 (kx w))} (.ref s.heap.objs.size) "set":=⟨_,hS,rfl⟩
   have hli:=J7.init.lookup;have hbi:=J7.init.bind (.ref s.heap.objs.size)
   repeat (any_goals (first|assumption|wp_step))
   refine qE (codeAny_call_builtin (R:=wants (fun r s₂=>r= .none/\ ∃h' tk,s₂={s with heap:=h',toks:=tk}/\SI items.size h'/\(∀b o,s.heap.get? b=some o->h'.get? b=some o)) E) J7.init.plain PySem.F.entry_set_init (check_set_init_1 hT ?_)) fun r₂ s₂ fI=>?_
   ·obtain⟨c,hc,ol,dg,v5,nl,av⟩: ∃c,(c="list"\/c="tuple")/\ ∃o,s.heap.get? l=some o/\o.cls= .type c/\ ∃n,o.data= .seq items n:=hl.elim (fun h=>⟨_,.inl rfl,h⟩) (fun h=>⟨_,.inr rfl,h⟩)
    obtain⟨hsls,hslf,o7⟩:isSubtype (.type c) (.type "set")=pure false/\isSubtype (.type c) (.type "frozenset")=pure false/\(Value.type c==Value.type "dict")=false:=by
     rcases hc with rfl|rfl
     ·exact⟨PySem.F.sub_list_set,PySem.F.sub_list_frozenset,by decide⟩
     ·exact⟨PySem.F.sub_tuple_set,PySem.F.sub_tuple_frozenset,by decide⟩
    obtain⟨ocls,odict,odata,oslots⟩:=ol;simp only at v5 av;subst v5;subst av;have hol':(s.heap.push (jt #[] 0 (kx w))).get? l=some {cls:= .type c,dict:=odict,data:= .seq items nl,slots:=oslots}:=iF _ dg;have hlS:l<s.heap.objs.size:=iu dg;have hh3:A.in1.in1.in1.handled=none:=by simp[hh]
    have sz:(s.heap.push (jt #[] 0 (kx w))).objs.size=s.heap.objs.size+1:=uP _ _;have hneI:l≠(s.heap.push (jt #[] 0 (kx w))).objs.size:=by rw[sz];exact iL (qB hlS)
    have eT:s.heap.objs.size∉[(s.heap.push (jt #[] 0 (kx w))).objs.size,l]:=by
     rw[sz];simp only[jC,kc,lA,oS];exact⟨iL (uN _),qu hlS⟩
    obtain⟨St,W,o0,h0,hIt⟩: ∃St,Walks prog w A.in1.in1.in1 (s.heap.push (jt #[] 0 (kx w))).objs.size [(s.heap.push (jt #[] 0 (kx w))).objs.size,l] [(s.heap.push (jt #[] 0 (kx w))).objs.size] items.size (fun i v=>items[i]?=some v) St/\ ∃o0,St 0 ((s.heap.push (jt #[] 0 (kx w))).push o0)/\
      ∀{A':gZ} {Q:il} {E},Q (.ref (s.heap.push (jt #[] 0 (kx w))).objs.size) {s with heap:=(s.heap.push (jt #[] 0 (kx w))).push o0}->wpAny (model prog w) A' (pyIter (.ref l)) Q E {s with heap:=s.heap.push (jt #[] 0 (kx w))}:=by
     rcases hl with hl|hl
     ·exact⟨_,Walks.list hh3 _ l hneI items,_,⟨⟨_,jG _ rfl,rfl,rfl⟩,(hl.push _).push _⟩,fun h=>yz (hl.push _) h⟩
     ·exact⟨_,Walks.tuple hh3 _ l hneI items,_,⟨⟨_,jG _ rfl,rfl,rfl⟩,(hl.push _).push _⟩,fun h=>Fv (hl.push _) h⟩
    unfold Builtin.«set.__init__» noKeywords Builtin.Frozenset.updateFrom;generalize hPI:pyIter=PI
    wp_walk
    subst hPI;refine hIt ?_;refine gx (BO ?_);refine Kj W.toS s.heap.objs.size eT _ SI stay (fun i v s' Q' E' hi hP hSI hm hk=>?_) (items.size-0) 0 _ (by omega) (lN _) h0 (qi _ (iF _ hS)) (Moved.refl fun _=>rfl) ?hR
    ·refine step i v s' _ Q' E' ?_ hP hSI (fun b o e=>?_) hm.gens hm.drawn hm.os hk
     ·show A.units+1+1+1<=A.units+20;omega
     ·have hb:=iu e;exact hm.heap b o (by rw[sz];simp only[jC,kc,lA,oS];exact⟨iL hb,iL (qB hb)⟩) (iF _ (iF _ e))
    case hR=>
     intro s' hm bp;obtain⟨h',g',d',bU,cx⟩:=s';have eg:g'=s.gens:=hm.gens;have ed:d'=s.drawn:=hm.drawn;have eo:cx=s.os:=hm.os;subst eg;subst ed;subst eo;show wpAny _ _ _ _ _ _;refine gO ?_;show wpAny _ _ (ret Value.none) _ _ _;refine gO ⟨rfl,h',bU,rfl,bp,fun b o e=>?_⟩;have hb:=iu e;exact hm.heap b o (by rw[sz];simp only[jC,kc,lA,oS];exact⟨iL hb,iL (qB hb)⟩) (iF _ (iF _ e))
   ·cases r₂ with
    |error e=>exact fI
    |ok fl₂=>
     cases fl₂ with
     |ret r=>
      obtain⟨rfl,h',tk,rfl,bp,dk⟩:=fI
      repeat (any_goals (first|assumption|wp_step))
      exact h _ _ bp dk
     |_=>exact fI.elim
  |_=>exact hr.elim
end
structure DRaw(h:hV)(d:gz)(es:Array DictEntry)(ep:Nat):Prop where
 at_: ∃o,h.get? d=some o/\o.ExactDict/\o.data= .dict es ep
theorem DRaw.stay{d es ep}(x:DRaw h d es ep)(k: ∀o,h.get? d=some o->h'.get? d=some o):DRaw h' d es ep:=let⟨o,h1,r⟩:=x.at_;⟨o,k _ h1,r⟩
section
variable {prog:hW}{w:gU}{A:gZ}{E:il}{s:gC}
theorem DRaw.typeIs{d es ep}(x:DRaw s.heap d es ep):s.TypeIs (.ref d) "dict":=let⟨o,h1,r,_⟩:=x.at_;⟨o,h1,r.1⟩
theorem Jd(hd:(d==sysModules)=false)(hm:DRaw s.heap d es ep)
  (hQ:Q (.ref s.heap.objs.size) {s with heap:=s.heap.push {cls:= .type "dict_keyiterator",data:= .fields #[.ref d,.int 0 0,.int es.size 0,.int ep 0]}}):wpAny (model prog w) A (pyIter (.ref d)) Q E s:=by
 have hT:=hm.typeIs;obtain⟨o,ho,hc,hdat⟩:=hm.at_;refine EX hT Jz (nD Jz hT PySem.F.entry_dict_iter ?_ (PySem.F.args_dict_iter_1 _));unfold Builtin.«dict.__iter__»;refine gx ?_;unfold Builtin.Dict.dictSlotNone;refine gx (wpAny_notOrdered_dict hT ?_);change wpAny _ _ (pure (Value.ref d)) _ _ s;refine gO ?_;change wpAny _ _ (Builtin.Dict.showsAll d>>=_) _ _ s;unfold Builtin.Dict.showsAll;rw[gJ (by rw[hd];exact jk)];refine gx (gO ?_);refine gx (EU ho hdat ?_);refine gx (ET ho hdat ?_);refine gx (mn (gO ⟨_,rfl,"dict_keyiterator",_,⟨_,jG _ rfl,rfl⟩,AD.lookup,?_⟩));simpa[rawInt] using hQ
theorem ze{it d:gz}{i ep:Nat}{es:Array DictEntry}{e:DictEntry}{Q:G0}(hit:s.heap.IsKeyIter it d i es.size ep)(hm:DRaw s.heap d es ep)(hx:es[i]?=some e)
  (hQ: ∀h',h'.IsKeyIter it d (i+1) es.size ep->Heap.SameBut it s.heap h'->Q (some e.key) {s with heap:=h'}):wpAny (model prog w) A (pyNext (.ref it)) Q E s:=by
 obtain⟨o,ho,hc,hd⟩:=id hit;obtain⟨od,dU,y7,bQ⟩:=hm.at_;unfold pyNext;refine gx (tZ (sU (name:=Str.ofString "__next__") hit.typeIs AD (nD AD hit.typeIs Jy ?_ (Jx _))));refine gx (gO ?_);refine gx ?_;refine gx ?_;refine gx (Bp hit.typeIs (gO ?_));refine gx (wpAny_fieldsOf ho hd ?_);have cI:Builtin.Dict_items.ownsTuple "dict_keyiterator"=false:=by decide
 simp only[cI,iO,jb];change wpAny _ _ (if(Value.ref d==Value.none)=true then _ else _) _ _ s;rw[gJ (show ¬((Value.ref d==Value.none)=true) from jk)];refine gx (gO ?_);refine gx (EU dU bQ ?_);rw[gJ (by simp)];refine gx (gO ?_);refine gx (ET dU bQ ?_);rw[gJ (by simp)];refine gO ?_;simp only[show ¬((i:Int)<0) from by omega,jb,qt,hx];refine gx ?_;refine gx (Bp hit.typeIs (gO ?_));refine gx (Jw hit.typeIs ?_);change wpAny _ _ (setField (.ref it) 1 (rawInt ((i:Int)+1))>>=_) _ _ s;refine gx (ua ho hd (by simp) ?_)
 have aD:(s.heap.update it (Obj.mapFields (·.setIfInBounds 1 (rawInt ((i:Int)+1))))).IsKeyIter it d (i+1) es.size ep:=
  ⟨_,sQ _ ho (BL (sL hd _)),(BK ..).trans hc,by rw[sL hd];simp[rawInt]⟩
 refine gx (mQ ?_);refine gx (Jw (s:={s with heap:=s.heap.update it (Obj.mapFields (·.setIfInBounds 1 (rawInt ((i:Int)+1))))}) aD.typeIs ?_);change wpAny _ _ (pure e.key) _ _ _;exact gO (gO ⟨_,rfl,gO (hQ _ aD (uM ..))⟩)
theorem Ao(hh:A.handled=none)(hit:s.heap.IsKeyIter it d es.size es.size ep)(hm:DRaw s.heap d es ep)
  (hQ: ∀h',Heap.ExtBut it s.heap h'->Q none {s with heap:=h'}):wpAny (model prog w) A (pyNext (.ref it)) Q E s:=by
 obtain⟨o,ho,hc,hd⟩:=id hit;obtain⟨od,dU,y7,bQ⟩:=hm.at_;unfold pyNext;refine gx (tZ (sU (name:=Str.ofString "__next__") hit.typeIs AD (nD AD hit.typeIs Jy ?_ (Jx _))));refine gx (gO ?_);refine gx ?_;refine gx ?_;refine gx (Bp hit.typeIs (gO ?_));refine gx (wpAny_fieldsOf ho hd ?_);have cI:Builtin.Dict_items.ownsTuple "dict_keyiterator"=false:=by decide
 simp only[cI,iO,jb];change wpAny _ _ (if(Value.ref d==Value.none)=true then _ else _) _ _ s;rw[gJ (show ¬((Value.ref d==Value.none)=true) from jk)];refine gx (gO ?_);refine gx (EU dU bQ ?_);rw[gJ (by simp)];refine gx (gO ?_);refine gx (ET dU bQ ?_);rw[gJ (by simp)];refine gO ?_;simp only[show ¬((es.size:Int)<0) from by omega,jb,qt,Bx (ir es.size)];refine gx ?_;refine gx (Bp hit.typeIs (gO ?_));change wpAny _ _ (setField (.ref it) 0 .none>>=_) _ _ s;refine gx (ua ho hd (by simp) ?_);change wpAny _ _ (newExc (.type "StopIteration") []>>=_) _ _ _;refine gx ?_;simp only[newExc,newTuple];refine gx (mn ?_ (by size_fits));refine gx (m:=firstArgMember _ _) (pX (a:=Value.none) (by first|rfl|(simp only[firstArgMember];rfl)) ?_);refine mn ?_ (by size_fits);simp only[raiseNew];refine gx (Fi ?_);rw[show A.in1.handled=none from hh];refine gx (gO (Fh ?_));refine gx (wg (T:="StopIteration") (b:=true) ⟨_,jG _ rfl,rfl⟩ Fe ?_);exact gO (hQ _ (((uM ..).extBut.push _).push _))
theorem GB(hh:A.handled=none)(I d:gz)(o7:I≠d)(es:Array DictEntry)(ep:Nat):Walks prog w A I [I,d] [I] es.size (fun i v=> ∃e,es[i]?=some e/\v=e.key) (fun i h=>h.IsKeyIter I d i es.size ep/\DRaw h d es ep) where
 sub:=fun b hb=>by simp at hb;simp[hb]
 frame:=fun _ _ _ st hk=>⟨st.1.at fun o e=>hk I (by simp) o e,st.2.stay fun o e=>hk d (by simp) o e⟩
 item:=fun i s Q E hi st hQ=>by
  have hg:es[i]?=some es[i]:=mN hi;refine ze st.1 st.2 hg fun h' aD aJ=>?_;exact hQ _ h' s.toks ⟨_,hg,rfl⟩ ⟨aD,st.2.stay fun o e=>aJ.extBut d o (fun h=>o7 h.symm) e⟩ fun b o hb e=>aJ.extBut b o (fun h=>hb (by simp[h])) e
 done:=fun s Q E st hQ=>Ao hh st.1 st.2 fun h' bD=>hQ h' s.toks fun b o hb e=>bD b o (fun h=>hb (by simp[h])) e
 self:=fun _ _ _ _ st hQ=>wpAny_pyIter_keyiter st.1 hQ
theorem MS(hd:(a==sysModules)=false)(hh:A.handled=none)(S:DRaw s.heap a es n)(hn:es.size<=sizeLine) 
  (hQ: ∀h' tk,(∀b o,s.heap.get? b=some o->h'.get? b=some o)->Q (es.toList.map (·.key)) {s with heap:=h',toks:=tk}):wpAny (model prog w) A (collect (.ref a)) Q E s:=by
 have cg:a<s.heap.objs.size:=let⟨_,h1,_⟩:=S.at_;iu h1;have cN:a≠s.heap.objs.size:=iL cg;have cM:a≠s.heap.objs.size+1:=iL (qB cg);have dR:s.heap.objs.size≠s.heap.objs.size+1:=iL (uN _);unfold collect;refine gx (BO (qr JG ?_));rw[sM JF _];show wpAny _ A.in1 (newList []>>=fun l=>again (.builtin "list.__iadd__" ⟨[l,.ref a],[]⟩)) _ _ s;refine gx (mn ?_);refine gO ⟨qy Bs _,qr JE ?_⟩;rw[sM Bs _];show wpAny _ A.in1 (Builtin.List.listExtendWith (.ref s.heap.objs.size) (.ref a) (.ref s.heap.objs.size)) _ _ _;generalize dW:({cls:= .type "list",data:= .seq ([]:List Value).toArray}:Obj)=l0;have S1:DRaw (s.heap.push l0) a es n:=S.stay fun o e=>iF _ e;unfold Builtin.List.listExtendWith;refine gx (uS (T:="dict") (s:={s with heap:=s.heap.push l0}) S1.typeIs ?_);have h1:Builtin.List.listSameRef (.ref s.heap.objs.size) (.ref a)=false:=by simp only[Builtin.List.listSameRef,xv];exact cN.symm
 have h2:(Value.type "dict"==Value.type "list")=false:=by decide
 have h3:(Value.type "dict"==Value.type "tuple")=false:=by decide
 simp only[h1,h2,h3,Bool.or_false,iO,jb];refine gx (Jd (s:={s with heap:=s.heap.push l0}) hd S1 ?_);obtain⟨h2,fQ⟩: ∃h2,h2=(s.heap.push l0).push {cls:= .type "dict_keyiterator",data:= .fields #[.ref a,.int 0 0,.int es.size 0,.int n 0]}:=⟨_,rfl⟩
 have dO:h2.IsKeyIter (s.heap.push l0).objs.size a 0 es.size n:=by rw[fQ];exact⟨_,jG _ rfl,rfl,rfl⟩
 have k2: ∀b o,(s.heap.push l0).get? b=some o->h2.get? b=some o:=fun b o e=>by rw[fQ];exact iF _ e
 rw[<-fQ];have dG:(s.heap.push l0).objs.size=s.heap.objs.size+1:=uP _ _;have S2:DRaw h2 a es n:=S1.stay fun o e=>k2 _ _ e;refine gx (mQ ?_);unfold Builtin.List.listLengthHint;refine gx (tP (T:="dict") (s:={s with heap:=h2}) S2.typeIs PySem.F.slot_dict_len.lookup ?_);generalize dX:("dict.__len__":String)=id0;dsimp only;rw[show splitId id0=some ("dict","__len__") from by subst dX;decide+kernel];dsimp only;refine gx (wg (T:="dict") (s:={s with heap:=h2}) (b:=true) S2.typeIs (by rw[Bu];kernel_rfl) ?_);simp only[lM,iO,jb];change wpAny _ _ (if _=true then _ else _) _ _ _;rw[gG (by subst dX;decide+kernel)];refine gx (uS (T:="dict") (s:={s with heap:=h2}) S2.typeIs ?_);dsimp only;refine gO ?_;change wpAny _ _ (if _=true then _ else _) _ _ _;rw[gG (by decide+kernel)];refine gx (uQ ?_);have ef:h2.get? s.heap.objs.size=some l0:=k2 _ _ (jG _ (by subst dW;rfl));subst dW;refine gx ?_;show wpAny _ A.in1 (updateSeq s.heap.objs.size (·.push .none)>>=fun _=>updateSeq s.heap.objs.size (·.pop)) _ _ _;refine gx (Br (s:={s with heap:=h2}) ef rfl ?_);have ee:=sQ (Obj.mapSeq (·.push Value.none)) ef rfl;refine Br ee rfl ?_;have gd:=sQ (Obj.mapSeq (·.pop)) ee rfl
 have oth: ∀b o,b≠s.heap.objs.size->h2.get? b=some o->((h2.update s.heap.objs.size (Obj.mapSeq (·.push Value.none))).update s.heap.objs.size (Obj.mapSeq (·.pop))).get? b=some o:=
  fun b o hb e=>(wt _ _ (qb hb)).trans ((wt _ _ (qb hb)).trans e)
 have W:=(GB (prog:=prog) (w:=w) (A:=A.in1) (by show A.handled=none;exact hh) (s.heap.objs.size+1) a cM.symm es n).toS;rw[dG] at dO;refine gO ⟨qy JD _,?_⟩;rw[dG];refine JC W hn s.heap.objs.size (by simp only[jC,kc,lA,oS];exact⟨dR,cN.symm⟩) _ es.size 0 _ _ _ rfl (lN _) ?_ gd (ItemsOf.nil _) fun s' h9 c' hm bp r6=>?_
 ·refine⟨?_,S2.stay fun o e=>oth a o cN e⟩;obtain⟨o,g1,g2⟩:=dO;exact⟨o,oth _ o dR.symm g1,g2⟩
 show wpAny _ A (load s.heap.objs.size>>=_) _ _ s';refine gx (wy bp ?_);obtain⟨h',g',d',bU,cx⟩:=s';have eg:g'=s.gens:=hm.gens;have ed:d'=s.drawn:=hm.drawn;have eo:cx=s.os:=hm.os;subst eg;subst ed;subst eo
 have cX:h9.toList=es.toList.map (·.key):=by
  obtain⟨a1,a2⟩:=r6;apply Fl
  ·rw[jj,jr,jr,a1]
  ·intro j g1 g2;have gj:h9[j]?=some h9.toList[j]:=by rw[<-lg];exact jd g1
   obtain⟨e,he,hv⟩:=a2 j _ gj;rw[hv];rw[jj,jr] at g2;rw[List.getElem_map];rw[<-lg,jd (by rw[jr];exact g2)] at he;cases he;rfl
 refine gO ?_;show Q h9.toList _;rw[cX];refine hQ h' bU fun b o e=>?_;have hb:=iu e;exact hm.heap b o (by simp only[jC,kc,lA,oS];exact⟨iL hb,iL (qB hb)⟩) (oth b o (iL hb) (k2 _ _ (iF _ e)))
end
end TT
namespace PX
open PySem PySem.Spec PyProof.Rows L2 PySem.SeqAt TS
theorem D.hashL_map: ∀l:List D,D.hashL l=l.map D.hash
 |[]=>by rw[D.hashL];rfl
 |d::l=>by rw[D.hashL,D.hashL_map l];rfl
theorem yT: ∀{l:List D} {d:D},D.prL l=true->d∈l->D.pr d=true
 |[],d,_,h=>by simp at h
 |e::l,d,hp,h=>by
  rw[D.prL,lO] at hp;rcases jC.mp h with rfl|h
  ·exact hp.1
  ·exact yT hp.2 h
theorem pS: ∀{l:List D} {d:D},d∈l->d.dep<=D.depL l:=fun {l d} h=>by
 obtain⟨j,hj⟩:=uO h;exact D.dep_mem hj
section
variable {X:Cx}{pins:iq}{σ:L2.St}{H:Hp}{s:gC}
def RepV(X:Cx)(H:Hp)(O:AP')(ds:List D)(b6:iV):Prop:= ∃xs,RepL X.K H O ds xs/\Vals xs b6
theorem RepV.cons(h:RepV X H O (d::ds) (v::b6)):(∃x,Rep X.K H O d x/\RelV x v)/\RepV X H O ds b6:=by
 obtain⟨xs,r,vs⟩:=h;rw[RepL] at r;obtain⟨x,xr,rfl,r1,r2⟩:=r
 cases vs with
 |cons a b=>exact⟨⟨x,r1,a⟩,xr,r2,b⟩
theorem RepV.nil_of{O:AP'}{ds:List D}(h:RepV X H O ds []):ds=[]:=by
 obtain⟨xs,r,vs⟩:=h;cases vs
 cases ds with
 |nil=>rfl
 |cons d ds=>rw[RepL] at r;obtain⟨_,_,e,_⟩:=r;cases e
theorem RepV.cons_of(h:RepV X H O ds (v::b6)): ∃d ds',ds=d::ds':=by
 cases ds with
 |nil=>obtain⟨xs,r,vs⟩:=h;rw[RepL] at r;subst r;cases vs
 |cons d ds=>exact⟨d,ds,rfl⟩
theorem Rn: ∀(n:Nat) {s:gC} (I:Inv X pins σ H s) (d:D) (v:V) (u:gQ) (O:AP') (A:gZ) (E:il) (Q:Int->Shared->Prop),Rep X.K H O d v->RelV v u->D.pr d=true->d.dep<=n->A.units+n<cLine->(∀tk,s.toks<=tk->Q d.hash {s with toks:=tk})->
  wpAny (model X.prog X.w) A (pyHash u) Q E s:=by
 intro n
 induction n with
 |zero=>
  intro s I d v u O A E Q hr rv hp hd hA hQ
  cases d with
  |int i=>
   have:=hr.int;subst this;obtain⟨t,rfl⟩:=rv;have:=hQ (s.toks+1) (wq _);rw[D.hash] at this;exact Fy this
  |tup l=>rw[D.dep] at hd;omega
  |_=>simp[D.pr] at hp
 |succ n ih=>
  intro s I d v u O A E Q hr rv hp hd hA hQ
  cases d with
  |int i=>
   have:=hr.int;subst this;obtain⟨t,rfl⟩:=rv;have:=hQ (s.toks+1) (wq _);rw[D.hash] at this;exact Fy this
  |tup l=>
   rw[D.pr] at hp;rw[D.dep] at hd;obtain⟨a,xs,rfl,q,r⟩:=hr.tup;cases rv;obtain⟨b6,vs,⟨o,ho,hc,nn,cQ⟩,_⟩:=I.tuple q.sq;have hT:s.TypeIs (.ref a) "tuple":=⟨o,ho,hc⟩
   have hu:A.units<cLine:=by omega
   unfold pyHash;unfold pyHashByItsType;refine gx (wpAny_cRoomFor_or (.inr hu) ?_);refine gx (tP hT G1.lookup ?_);show wpAny _ _ (if(some (Value.builtin "tuple.__hash__")==some Value.none)=true then _ else _) Q E s;rw[gJ (by rw[beq_builtin_none];exact jk)];refine gx (tP hT G1.lookup ?_);show wpAny _ _ (callSpecialIfBoundUnlessNone? (.ref a) "__hash__" _>>=_) Q E s;refine gx (wpAny_callSpecialIfBoundUnlessNone?_slot hT G1 (nD G1 hT PySem.F.entry_tuple_hash ?_ (PySem.F.args_tuple_hash_1 _)));show wpAny _ _ (Builtin.Tuple.tupleItemsOf (.ref a)>>=_) _ _ s;refine gx (wpAny_tupleItemsOf ho cQ ?_);refine gx ?_;rw[<-Bo]
   refine pz _
    (fun hZ (b:Array Int) s'=> ∃done left,l=done++left/\RepV X H (fun a=>O a) left hZ/\b.toList=done.map D.hash/\ ∃tk,s.toks<=tk/\s'={s with toks:=tk})
    _ ?_ ?_ _ _ ⟨[],l,rfl,⟨xs,r,by simpa using vs⟩,rfl,s.toks,ir _,rfl⟩
   ·rintro x hZ b s' ⟨done,left,rfl,hl,hb,tk,bx,rfl⟩;obtain⟨d,left,rfl⟩:=hl.cons_of;obtain⟨⟨y,h1,h2⟩,h3⟩:=hl.cons;have hm:d∈done++d::left:=by simp
    have bQ:=pS hm;refine gx (ih (I.kept (h':=s.heap) (t':=tk) fun _ _ e=>e) d y x O A.in1 E _ h1 h2 (yT hp hm) (by omega) (by show A.units+1+n<cLine;omega) fun bU htk'=>?_)
    first
     |exact gO ⟨done++[d],left,by simp,h3,by simp[hb],bU,nF bx htk',rfl⟩
     |exact gx (gO (gO ⟨done++[d],left,by simp,h3,by simp[hb],bU,nF bx htk',rfl⟩))
   ·rintro b s' ⟨done,left,rfl,hl,hb,tk,bx,rfl⟩;have:=hl.nil_of;subst this;have h:=hQ (tk+1) (Nat.le_succ_of_le bx);rw[D.hash,D.hashL_map,qF] at h;show wpAny _ _ (retInt (Builtin.Tuple.tupleHashOf b.toList)) _ _ _;rw[hb];refine wpAny_ret_mkInt ?_;show wpAny _ _ (if(decide (-(2:Int)^63<=Builtin.Tuple.tupleHashOf (done.map D.hash))&&decide (Builtin.Tuple.tupleHashOf (done.map D.hash)<2^63))=true then _ else _) Q E _;unfold reduceHash at h;by_cases hr:(decide (-(2:Int)^63<=Builtin.Tuple.tupleHashOf (done.map D.hash))&&decide (Builtin.Tuple.tupleHashOf (done.map D.hash)<2^63))=true
    ·rw[gG hr];rw[gG hr] at h;exact gO h
    ·rw[gJ hr];rw[gJ hr] at h;exact gx (uQ (gO h))
  |_=>simp[D.pr] at hp
theorem Tb(I:Inv X pins σ H s): ∀(n:Nat) (d:D) (v:V) (u:gQ) (O:AP') (A:gZ) (E:il) (Q:qp),Rep X.K H O d v->RelV v u->D.pr d=true->d.dep<=n->Q true s->wpAny (model X.prog X.w) A (hashByValue n u) Q E s:=by
 intro n
 induction n with
 |zero=>
  intro d v u O A E Q hr rv hp hd hQ
  cases d with
  |int i=>
   have:=hr.int;subst this;obtain⟨t,rfl⟩:=rv;exact pX (show hashByValue 0 (.int i t)=pure true by simp[hashByValue]) hQ
  |tup l=>rw[D.dep] at hd;omega
  |_=>simp[D.pr] at hp
 |succ n ih=>
  intro d v u O A E Q hr rv hp hd hQ
  cases d with
  |int i=>
   have:=hr.int;subst this;obtain⟨t,rfl⟩:=rv;exact pX (show hashByValue (n+1) (.int i t)=pure true by simp[hashByValue]) hQ
  |tup l=>
   rw[D.pr] at hp;rw[D.dep] at hd;obtain⟨a,xs,rfl,q,r⟩:=hr.tup;cases rv;obtain⟨b6,vs,⟨o,ho,hc,nn,cQ⟩,_⟩:=I.tuple q.sq;have hT:s.TypeIs (.ref a) "tuple":=⟨o,ho,hc⟩
   unfold hashByValue;refine gx (tP hT G1.lookup ?_);dsimp only;refine gx (qq ho cQ ?_);refine gx ?_;show wpAny _ _ (forIn b6.toArray _ _) _ _ s;rw[<-Bo];refine pz _ (fun hZ rr s'=>rr.1=none/\s'=s/\ ∃left,(∀d∈left,d∈l)/\RepV X H O left hZ) _ ?_ ?_ _ _ ⟨rfl,rfl,l,fun d h=>h,xs,r,by simpa using vs⟩
   ·rintro x hZ rr s' ⟨h0,rfl,left,hm,hl⟩;obtain⟨d,left,rfl⟩:=hl.cons_of;obtain⟨⟨y,h1,h2⟩,h3⟩:=hl.cons;have cf:=hm d iX;have bQ:=pS cf;refine gx (ih d y x O A E _ h1 h2 (yT hp cf) (by omega) ?_);simp only[lM,iO,jb];exact gO ⟨rfl,rfl,left,fun d h=>hm d (je _ h),h3⟩
   ·rintro⟨r1,r2⟩ s' ⟨h0,rfl,_⟩;simp only at h0;subst h0;exact gO hQ
  |_=>simp[D.pr] at hp
theorem Nh{P:hW}{W:gU}(I:Inv X pins σ H s): ∀(n:Nat) (d:D) (v:V) (u:gQ) (O:AP') (A:gZ) (E:il) (Q:qp),Rep X.K H O d v->RelV v u->D.pr d=true->d.dep<=n->Q true s->wpAny (model P W) A (eqIsQuiet n u) Q E s:=by
 intro n
 induction n with
 |zero=>
  intro d v u O A E Q hr rv hp hd hQ
  cases d with
  |int i=>
   have:=hr.int;subst this;obtain⟨t,rfl⟩:=rv;exact pX (eqIsQuiet_byValue 0 rfl) hQ
  |tup l=>rw[D.dep] at hd;omega
  |_=>simp[D.pr] at hp
 |succ n ih=>
  intro d v u O A E Q hr rv hp hd hQ
  cases d with
  |int i=>
   have:=hr.int;subst this;obtain⟨t,rfl⟩:=rv;exact pX (eqIsQuiet_byValue (n+1) rfl) hQ
  |tup l=>
   rw[D.pr] at hp;rw[D.dep] at hd;obtain⟨a,xs,rfl,q,r⟩:=hr.tup;cases rv;obtain⟨b6,vs,⟨o,ho,hc,nn,cQ⟩,_⟩:=I.tuple q.sq;have hT:s.TypeIs (.ref a) "tuple":=⟨o,ho,hc⟩
   unfold eqIsQuiet;refine gx (tP hT PySem.F.slot_tuple_eq.lookup ?_);show wpAny _ _ (isInstance (.ref a) (.type "tuple")>>=_) _ _ s;refine gx (wg hT isSubtype_tuple_tuple ?_);simp only[lM,iO,jb];refine gx (qq ho cQ ?_);refine gx ?_;show wpAny _ _ (forIn b6.toArray _ _) _ _ s;rw[<-Bo];refine pz _ (fun hZ rr s'=>rr.1=none/\s'=s/\ ∃left,(∀d∈left,d∈l)/\RepV X H O left hZ) _ ?_ ?_ _ _ ⟨rfl,rfl,l,fun d h=>h,xs,r,by simpa using vs⟩
   ·rintro x hZ rr s' ⟨h0,rfl,left,hm,hl⟩;obtain⟨d,left,rfl⟩:=hl.cons_of;obtain⟨⟨y,h1,h2⟩,h3⟩:=hl.cons;have cf:=hm d iX;have bQ:=pS cf;refine gx (ih d y x O A E _ h1 h2 (yT hp cf) (by omega) ?_);simp only[lM,iO,jb];exact gO ⟨rfl,rfl,left,fun d h=>hm d (je _ h),h3⟩
   ·rintro⟨r1,r2⟩ s' ⟨h0,rfl,_⟩;simp only at h0;subst h0;exact gO hQ
  |_=>simp[D.pr] at hp
theorem IW{P:hW}{W:gU}(I:Inv X pins σ H s): ∀(n:Nat) (d:D) (v:V) (u:gQ) (O:AP') (A:gZ) (E:il) (Q:qp),Rep X.K H O d v->RelV v u->D.pr d=true->d.dep<=n->Q false s->wpAny (model P W) A (ofAClassStatement n u) Q E s:=by
 intro n
 induction n with
 |zero=>
  intro d v u O A E Q hr rv hp hd hQ
  cases d with
  |int i=>
   have:=hr.int;subst this;obtain⟨t,rfl⟩:=rv;exact pX (show ofAClassStatement 0 (.int i t)=pure false by simp[ofAClassStatement]) hQ
  |tup l=>rw[D.dep] at hd;omega
  |_=>simp[D.pr] at hp
 |succ n ih=>
  intro d v u O A E Q hr rv hp hd hQ
  cases d with
  |int i=>
   have:=hr.int;subst this;obtain⟨t,rfl⟩:=rv;exact pX (show ofAClassStatement (n+1) (.int i t)=pure false by simp[ofAClassStatement]) hQ
  |tup l=>
   rw[D.pr] at hp;rw[D.dep] at hd;obtain⟨a,xs,rfl,q,r⟩:=hr.tup;cases rv;obtain⟨b6,vs,⟨o,ho,hc,nn,cQ⟩,_⟩:=I.tuple q.sq;have hT:s.TypeIs (.ref a) "tuple":=⟨o,ho,hc⟩
   unfold ofAClassStatement;refine gx (uS hT ?_);dsimp only;rw[gG (by decide)];refine gx (gO ?_);simp only[lM,iO,jb];refine gx (qq ho cQ ?_);dsimp only;refine gx ?_;show wpAny _ _ (forIn b6.toArray _ _) _ _ s;rw[<-Bo];refine pz _ (fun hZ rr s'=>rr.1=none/\s'=s/\ ∃left,(∀d∈left,d∈l)/\RepV X H O left hZ) _ ?_ ?_ _ _ ⟨rfl,rfl,l,fun d h=>h,xs,r,by simpa using vs⟩
   ·rintro x hZ rr s' ⟨h0,rfl,left,hm,hl⟩;obtain⟨d,left,rfl⟩:=hl.cons_of;obtain⟨⟨y,h1,h2⟩,h3⟩:=hl.cons;have cf:=hm d iX;have bQ:=pS cf;refine gx (ih d y x O A E _ h1 h2 (yT hp cf) (by omega) ?_);simp only[iO,jb];exact gO ⟨rfl,rfl,left,fun d h=>hm d (je _ h),h3⟩
   ·rintro⟨r1,r2⟩ s' ⟨h0,rfl,_⟩;simp only at h0;subst h0;exact gO hQ
  |_=>simp[D.pr] at hp
end
def okS:D->Bool
 | .tup l=>D.prL l&&decide (D.depL l<=6)
 |_=>false
theorem pK(h:okS d=true): ∃l,d= .tup l:=by cases d<;>first|exact⟨_,rfl⟩|(simp[okS] at h)
theorem uw(h:okS d=true):D.pr d=true:=by
 obtain⟨l,rfl⟩:=pK h;simp only[okS,lO] at h;rw[D.pr];exact h.1
theorem rM(h:okS d=true):d.dep<=7:=by
 obtain⟨l,rfl⟩:=pK h;simp only[okS,lO,ub] at h;rw[D.dep];omega
mutual
theorem rh: ∀x y:D,D.pr x=true->D.pr y=true->cT x y= .eq->x=y
 | .int i,.int j,_,_,h=>by
  rw[cT] at h;by_cases h1:i<j
  ·rw[gG h1] at h;cases h
  ·rw[gJ h1] at h;by_cases h2:i=j
   ·rw[h2]
   ·rw[gJ h2] at h;cases h
 | .tup l,.tup m,h1,h2,h=>by rw[D.pr] at h1 h2;rw[cT] at h;rw[Ez l m h1 h2 h]
 | .int _,.tup _,_,_,h=>by simp[cT] at h
 | .tup _,.int _,_,_,h=>by simp[cT] at h
 | .non,_,h,_,_=>by simp[D.pr] at h
 | .bl _,_,h,_,_=>by simp[D.pr] at h
 | .str _,_,h,_,_=>by simp[D.pr] at h
 | .lst _,_,h,_,_=>by simp[D.pr] at h
 | .oth _ _ _,_,h,_,_=>by simp[D.pr] at h
 |_,.non,_,h,_=>by simp[D.pr] at h
 |_,.bl _,_,h,_=>by simp[D.pr] at h
 |_,.str _,_,h,_=>by simp[D.pr] at h
 |_,.lst _,_,h,_=>by simp[D.pr] at h
 |_,.oth _ _ _,_,h,_=>by simp[D.pr] at h
theorem Ez: ∀l m:List D,D.prL l=true->D.prL m=true->cL l m= .eq->l=m
 |[],[],_,_,_=>rfl
 |[],_::_,_,_,h=>by simp[cL] at h
 |_::_,[],_,_,h=>by simp[cL] at h
 |x::l,y::m,h1,h2,h=>by
  rw[D.prL,lO] at h1 h2;rw[cL] at h
  cases hc:cT x y with
  |lt=>rw[hc] at h;cases h
  |gt=>rw[hc] at h;cases h
  |eq=>
   rw[hc] at h;rw[rh x y h1.1 h2.1 hc,Ez l m h1.2 h2.2 h]
end
theorem Gz(h1:D.pr x=true)(h2:D.pr y=true):D.eqb x y=true↔x=y:=by
 rw[GA x y h1 h2];constructor
 ·intro h;exact rh x y h1 h2 (by simpa using h)
 ·rintro rfl;rw[CY];rfl
def rl(vs:List D)(d:D):List D:=if vs.any (D.eqb · d)=true then vs else vs++[d]
def oO(l:List D):List D:=l.foldl rl []
theorem OC(h1:vs.all okS=true)(h2:okS d=true):(rl vs d).all okS=true:=by
 unfold rl;split
 ·exact h1
 ·rw[List.all_append,h1];simp[h2]
theorem ME(vs:List D)(d:D):(rl vs d).length<=vs.length+1:=by unfold rl;split<;>simp
theorem md{α β:Type}(f:α->β){zs m:List β}(h:zs.Perm m): ∀l:List α,m=l.map f-> ∃l':List α,l'.Perm l/\zs=l'.map f:=by
 induction h with
 |nil=>
  intro l e;have:l=[]:=by simpa using e.symm
  subst this;exact⟨[],.refl _,rfl⟩
 |cons x _ ih=>
  intro l e
  cases l with
  |nil=>simp at e
  |cons y l=>
   simp only[iN,List.cons.injEq] at e;obtain⟨l',p,q⟩:=ih l e.2;exact⟨y::l',p.cons y,by rw[q,e.1];rfl⟩
 |swap x y l0=>
  intro l e
  cases l with
  |nil=>simp at e
  |cons a l=>
   cases l with
   |nil=>simp at e
   |cons b l=>
    simp only[iN,List.cons.injEq] at e;exact⟨b::a::l,.swap a b l,by rw[e.1,e.2.1,e.2.2];rfl⟩
 |trans _ _ fE fD=>
  intro l e;obtain⟨l1,p1,q1⟩:=fD l e;obtain⟨l2,p2,q2⟩:=fE l1 q1;exact⟨l2,p2.trans p1,q2⟩
theorem xg{α β:Type}{F:α->β->Prop}{es m:List β}(h:es.Perm m): ∀{z:List α},Paired F z m-> ∃z':List α,Paired F z' es/\z'.Perm z:=by
 induction h with
 |nil=>intro z p;exact⟨z,p,.refl _⟩
 |cons x _ ih=>
  intro z p
  cases p with
  |cons r t=>
   obtain⟨z',h1,h2⟩:=ih t;exact⟨_::z',.cons r h1,h2.cons _⟩
 |swap x y l0=>
  intro z p
  cases p with
  |cons r t=>
   cases t with
   |cons r' t=>exact⟨_,.cons r' (.cons r t),.swap _ _ _⟩
 |trans _ _ fE fD=>
  intro z p;obtain⟨z1,p1,q1⟩:=fD p;obtain⟨z2,p2,q2⟩:=fE p1;exact⟨z2,p2,q2.trans q1⟩
theorem RepL.zip{K H}{O:AP'}: ∀{l:List D} {vs:List V},RepL K H O l vs-> ∀p∈l.zip vs,Rep K H O p.1 p.2
 |[],vs,h,p,hp=>by simp at hp
 |d::l,vs,h,p,hp=>by
  rw[RepL] at h;obtain⟨v,r,rfl,h1,h2⟩:=h;rw[tR] at hp;rcases jC.mp hp with rfl|hp
  ·exact h1
  ·exact RepL.zip h2 p hp
theorem RepL.ofZip{K H}{O:AP'}: ∀{l:List (D×V)},(∀p∈l,Rep K H O p.1 p.2)->RepL K H O (l.map (·.1)) (l.map (·.2))
 |[],_=>RepL.nil
 |p::l,h=>RepL.cons (h p iX) (RepL.ofZip fun q hq=>h q (je _ hq))
abbrev hv(p:D×V):Int×V:=(D.hash p.1,p.2)
theorem yC: ∀(vs:List D) (us:List V),(D.hashL vs).zip us=(vs.zip us).map hv
 |[],us=>by simp[D.hashL]
 |d::vs,[]=>by simp
 |d::vs,u::us=>by rw[D.hashL,tR,tR,iN,yC vs us]
section
variable {X:Cx}{pins:iq}{σ:L2.St}{H:Hp}{s:gC}
structure SetV(X:Cx)(H:Hp)(O:AP')(h:hV)(a:gz)(vs:List D)(es:mK)(n:Nat)(t:lb)(l:List (D×V)):Prop where
 is:TT.SetIs X.w h a es n t
 perm:(l.map (·.1)).Perm vs
 rep: ∀p∈l,Rep X.K H O p.1 p.2
 par:Paired (fun(z:Int×V) (e:Int×Value)=>z.1=e.1/\RelV z.2 e.2) (l.map hv) es.toList
theorem SetV.stay{a vs es n t l}(S:SetV X H O h a vs es n t l)(k: ∀o,h.get? a=some o->h'.get? a=some o):SetV X H O h' a vs es n t l:=⟨S.is.stay k,S.perm,S.rep,S.par⟩
theorem yX{α β:Type}{F:α->β->Prop}: ∀{l:List α} {m:List β},Paired F l m-> ∀{i:Nat} {b:β},m[i]?=some b-> ∃a,l[i]?=some a/\F a b
 |_,_,.nil,i,b,h=>by simp at h
 |_,_,.cons r t,0,b,h=>by simp at h;subst h;exact⟨_,rfl,r⟩
 |_,_,.cons r t,i+1,b,h=>by
  obtain⟨a,h1,h2⟩:=yX t (i:=i) (b:=b) (by simpa using h);exact⟨a,by simpa using h1,h2⟩
theorem yW{α β:Type}{F:α->β->Prop}: ∀{l:List α} {m:List β},Paired F l m->l.length=m.length
 |_,_,.nil=>rfl
 |_,_,.cons r t=>by simp[yW t]
theorem uq: ∀{l:List (Int×V)} {m:List (Int×Value)},Paired (fun(z:Int×V) (e:Int×Value)=>z.1=e.1/\RelV z.2 e.2) l m->l.map (·.1)=m.map (·.1)
 |_,_,.nil=>rfl
 |_,_,.cons r t=>by rw[iN,iN,r.1,uq t]
theorem SetV.srch(I:Inv X pins σ H s){O O':AP'}{a:gz}{vs:List D}{es n t l}(S:SetV X H O s.heap a vs es n t l)(hok:vs.all okS=true){d:D}{v:V}{u:gQ}(hd:jh X.K H O' d v)(ru:RelV v u)(aE:okS d=true){A:gZ}(hA:A.units+60<cLine):
  ∃b,u= .ref b/\TT.Srch A s a es n t u d.hash (fun i=>match l[i]? with|some p=>D.eqb p.1 d|none=>false):=by
 obtain⟨ld,rfl⟩:=pK aE;obtain⟨b,xs,rfl,q,r⟩:=kj hd;cases ru;have hdp:=rM aE;have de:=uw aE;have mem: ∀p∈l,okS p.1=true:=fun p hp=>mC.mp hok _ (S.perm.mem_iff.mp (ES hp))
 have at_: ∀(i:Nat) (e:Int×Value),es[i]?=some e-> ∃p,l[i]?=some p/\p∈l/\D.hash p.1=e.1/\RelV p.2 e.2:=fun i e he=>by
  obtain⟨z,h1,h2,h3⟩:=yX S.par (i:=i) (b:=e) (by rw[lg];exact he);rw[lh] at h1
  cases hl:l[i]? with
  |none=>rw[hl] at h1;cases h1
  |some p=>rw[hl] at h1;cases h1;exact⟨p,rfl,mO hl,h2,h3⟩
 have hqu: ∀(e:D) (y:V) (uu:gQ) (OO:AP') (B:gZ) (P:hW) (W:gU) (Q:qp) (E:il),okS e=true->jh X.K H OO e y->RelV y uu->Q true s->wpAny (model P W) B (eqIsQuiet 8 uu) Q E s:=fun e y uu OO B P W Q E ho hv hr hq=>by
  obtain⟨le,rfl⟩:=pK ho;rcases hv with hv|⟨_,_,hv⟩
  ·exact Nh I 8 _ _ _ OO B E Q hv hr (uw ho) (by have:=rM ho;omega) hq
  ·exact hv.elim
 have v5: ∀(e:D) (y:V) (uu:gQ) (OO:AP') (B:gZ) (P:hW) (W:gU) (Q:qp) (E:il),okS e=true->jh X.K H OO e y->RelV y uu->Q false s->wpAny (model P W) B (ofAClassStatement 8 uu) Q E s:=fun e y uu OO B P W Q E ho hv hr hq=>by
  obtain⟨le,rfl⟩:=pK ho;rcases hv with hv|⟨_,_,hv⟩
  ·exact IW I 8 _ _ _ OO B E Q hv hr (uw ho) (by have:=rM ho;omega) hq
  ·exact hv.elim
 refine⟨b,rfl,⟨_,S.is.at_,rfl⟩,S.is.tab,fun i e he=>?_,fun i e he=>?_,fun i e he hq=>?_,fun ls prog w E Q hls hq=>?_⟩
 ·obtain⟨p,h1,h2,h3,h4⟩:=at_ i e he;obtain⟨lp,hp⟩:=pK (mem p h2);have:=S.rep p h2;rw[hp] at this;obtain⟨c,xs,e1,_⟩:=this.tup;rw[e1] at h4;exact⟨c,h4⟩
 ·obtain⟨p,h1,h2,h3,h4⟩:=at_ i e he;rw[h1];have:=rM (mem p h2);exact zF I 50 p.1 (.tup ld) p.2 (.ref b) _ _ O O' A (.inl (S.rep p h2)) hd h4 rfl (by omega) (by omega) (by omega)
 ·obtain⟨p,h1,h2,h3,h4⟩:=at_ i e he;rw[h1] at hq;rw[(Gz (uw (mem p h2)) de).mp hq] at h3;exact h3.symm
 ·unfold searchCouldBeSeen;refine gx ?_;refine pz _ (fun hZ rr s'=>rr.1=none/\s'=s/\ ∀v∈hZ,∃e∈es.toList,e.2=v) _ ?_ ?_ _ _ ⟨rfl,rfl,hls⟩
  ·rintro y hZ rr s' ⟨h0,rfl,hm⟩;have hrest: ∀v∈hZ,∃e∈es.toList,e.2=v:=fun v hv=>hm v (je _ hv);obtain⟨e,he,rfl⟩:=hm y iX;obtain⟨i,hi⟩:=uO he;rw[lg] at hi;obtain⟨p,h1,h2,h3,h4⟩:=at_ i e hi;obtain⟨lp,hp⟩:=pK (mem p h2);have eO:=S.rep p h2
   obtain⟨c,ec⟩: ∃c,e.2= .ref c:=by
    rw[hp] at eO;obtain⟨c,xs,e1,_⟩:=eO.tup;rw[e1] at h4;exact⟨c,h4⟩
   rw[ec] at h4 ⊢;dsimp only;split
   ·exact gO ⟨rfl,rfl,hrest⟩
   ·refine gx (hqu _ _ _ O' A prog w _ _ aE hd rfl ?_);simp only[lM,iO,jb];refine gx (hqu _ _ _ O A prog w _ _ (mem p h2) (.inl eO) h4 ?_);simp only[lM,iO,jb];refine gx (v5 _ _ _ O' A prog w _ _ aE hd rfl ?_);simp only[iO,jb];refine gx (v5 _ _ _ O A prog w _ _ (mem p h2) (.inl eO) h4 ?_);simp only[iO,jb];exact gO ⟨rfl,rfl,hrest⟩
  ·rintro⟨r1,r2⟩ s' ⟨h0,rfl,_⟩;simp only at h0;subst h0;exact gO hq
theorem OthB.setV(I:Inv X pins σ H s)(h:OthB (H a) .set ks vs us)(r:RepL X.K H O vs us): ∃es n t l,SetV X H O s.heap a vs es n t l:=by
 obtain⟨_,zs,e,p⟩:=h;obtain⟨es,n,t,h1,h2,h3,h4,h5⟩:=(show ObjOk X.prog X.w H s.heap a (.stt zs) from I.hok a _ e)
 rw[yC] at p;obtain⟨l,p1,rfl⟩:=md hv p _ rfl;refine⟨es,n,t,l,⟨h1,by rw[<-uq h2];exact h3,h4,h5⟩,?_,fun q hq=>r.zip q (p1.mem_iff.mp hq),h2⟩;have:=p1.map (·.1);rw[List.map_fst_zip (by rw[r.length];exact ir _)] at this;exact this
theorem SetV.objOk{es n t l}(S:SetV X H O h a vs es n t l):ObjOk X.prog X.w H' h a (.stt (l.map hv)):=
 ⟨es,n,t,S.is.at_,S.par,by rw[uq S.par];exact S.is.tab,S.is.plain,S.is.led⟩
theorem SetV.lens{es n t l}(S:SetV X H O h a vs es n t l):es.size=vs.length/\l.length=vs.length:=by
 have h1:=yW S.par;have h2:=S.perm.length_eq;simp only[jj,jr] at h1 h2;omega
theorem SetV.oth{O:AP'}{h:hV}{a:gz}{vs:List D}{es n t l}(S:SetV X H O h a vs es n t l){K H'}{O':AP'}(hr: ∀p∈l,Rep K H' O' p.1 p.2)(hH:H' a=some (.stt (l.map hv))): ∃us,OthB (H' a) .set [] vs us/\RepL K H' O' vs us:=by
 obtain⟨l',p1,p2⟩:=md (·.1) S.perm.symm l rfl;refine⟨l'.map (·.2),⟨rfl,l.map hv,hH,?_⟩,?_⟩
 ·rw[p2,yC]
  have:(l'.map (·.1)).zip (l'.map (·.2))=l':=by
   clear p1 p2
   induction l' with
   |nil=>rfl
   |cons x l ih=>rw[iN,iN,tR,ih]
  rw[this];exact(p1.map hv).symm
 ·rw[p2];exact RepL.ofZip fun p hp=>hr p (p1.mem_iff.mp hp)
theorem SetV.add(I:Inv X pins σ H s){es n t l}(S:SetV X H O s.heap a vs es n t l)(hok:vs.all okS=true)(hd:jh X.K H O' d v)(cR:Rep X.K H O d v)(ru:RelV v u)(aE:okS d=true)(hz:vs.length<500)
  (hA:A.units+60<cLine) 
  (h: ∀r h' tk es' n' t' l',s.toks<=tk->Heap.SameBut a s.heap h'->SetV X H O h' a (rl vs d) es' n' t' l'->Q r {s with heap:=h',toks:=tk}):wpAny (model X.prog X.w) A (setAdd a u) Q E s:=by
 obtain⟨cP,aK⟩:=S.lens;unfold setAdd;refine mQ (gx (Rn 50 I d v u O A E _ cR ru (uw aE) (by have:=rM aE;omega) (by omega) fun tk bx=>?_));have I1:Inv X pins σ H {s with toks:=tk}:=I.kept (h':=s.heap) (t':=tk) fun _ _ e=>e;obtain⟨b,rfl,Sr⟩:=SetV.srch (s:={s with toks:=tk}) I1 S hok hd ru aE hA;have mem: ∀p∈l,p.1∈vs:=fun p hp=>S.perm.mem_iff.mp (ES hp);refine TT.T4 Sr S.is.at_ S.is.plain (by omega) (fun Q' hq=>Tb I1 8 d v _ O A E Q' cR ru (uw aE) (by have:=rM aE;omega) hq) (fun⟨i,hi,hq⟩=>?_) (fun cb h' es' n' t' g1 g2 g3 g4 g5 g6=>?_)
 ·have:rl vs d=vs:=by
   unfold rl
   cases hl:l[i]? with
   |none=>rw[hl] at hq;cases hq
   |some p=>
    rw[hl] at hq;rw[gG (List.any_eq_true.mpr ⟨p.1,mem p (mO hl),hq⟩)]
  exact h false s.heap tk es n t l bx (BR a s.heap) (by rw[this];exact S)
 ·have aZ:vs.any (D.eqb · d)=false:=by
   rw[List.any_eq_false];intro x hx;have bY:=S.perm.mem_iff.mpr hx;obtain⟨p,hp,rfl⟩:=mw.mp bY;obtain⟨i,hi⟩:=uO hp;have:=cb i (by have:=(vS.mp hi).1;omega);rw[hi] at this;simpa using this
  have hadd:rl vs d=vs++[d]:=by unfold rl;rw[aZ,gJ jk]
  have par:Paired (fun(z:Int×V) (e:Int×Value)=>z.1=e.1/\RelV z.2 e.2) (((d,v)::l).map hv) ((d.hash,Value.ref b)::es.toList):= .cons ⟨rfl,ru⟩ S.par;obtain⟨z',p1,p2⟩:=xg g3 par;obtain⟨l',p3,rfl⟩:=md hv p2 _ rfl;refine h true h' tk es' n' t' l' bx g1 ⟨⟨g2,g4,g5,g6.trans S.is.led⟩,?_,fun p hp=>?_,p1⟩
  ·rw[hadd];refine(p3.map (·.1)).trans ?_;rw[iN];exact(S.perm.cons d).trans (JK d vs).symm
  ·rcases jC.mp (p3.mem_iff.mp hp) with rfl|hp
   ·exact cR
   ·exact S.rep p hp
def xM:D->Option (D×Bool)
 | .lst l| .tup l=>if l.all okS=true/\l.length<500 then some (.oth .set [] (oO l),true) else none
 |_=>none
theorem GC{l:List D}{i:Nat}{d:D}(h:l[i]?=some d):oO (l.take (i+1))=rl (oO (l.take i)) d:=by
 unfold oO;rw[BF,h,List.foldl_append];rfl
theorem El: ∀(l acc:List D),l.all okS=true->acc.all okS=true->(l.foldl rl acc).all okS=true
 |[],acc,_,h=>h
 |d::l,acc,h1,h2=>by
  rw[List.all_cons,lO] at h1;exact El l _ h1.2 (OC h2 h1.1)
theorem A7: ∀(l acc:List D),(l.foldl rl acc).length<=acc.length+l.length
 |[],acc=>by simp
 |d::l,acc=>by
  have:=A7 l (rl acc d);have:=ME acc d;simp only[tU,kD];omega
theorem MC{l:List D}(h:l.all okS=true)(i:Nat):(l.take i).all okS=true:=by
 rw[mC] at h ⊢;exact fun x hx=>h x (ml hx)
theorem rY(hc:X.calm=true)(hu:X.A.units+90<cLine):jB X (.type "set") (rDn X.K (g1 xM)):=nX fun pins s σ H x u Q O d z I ru np hd hg G=>by
 obtain⟨l,p,xs,b6,rfl,r,v,pl,hg⟩: ∃l p xs b6,x= .ref p/\RepL X.K H O l xs/\Vals xs b6/\(s.heap.IsList p b6.toArray\/s.heap.IsTuple p b6.toArray)/\(if l.all okS=true/\l.length<500 then some (D.oth .set [] (oO l),true) else none)=some z:=by
  cases d with
  |lst l=>obtain⟨p,xs,rfl,q,r⟩:=jL hd;obtain⟨b6,v,pl,_⟩:=I.list q;exact⟨l,p,xs,b6,rfl,r,v,.inl pl.isList,hg⟩
  |tup l=>obtain⟨p,xs,rfl,q,r⟩:=kj hd;obtain⟨b6,v,pl,_⟩:=I.tuple q;exact⟨l,p,xs,b6,rfl,r,v,.inr pl,hg⟩
  |_=>cases hg
 obtain⟨⟨hok,hz⟩,rfl⟩:=ip hg;cases ru;have e1:=r.length;have e2:=v.length;have hh:X.A.handled=none:=I.ok.hd hc;have ao:=I.fresh
 refine TT.RU hh pl (fun i h=> ∃es n t l',SetV X H O h s.heap.objs.size (oO (l.take i)) es n t l') (fun i h h' ⟨es,n,t,l',S⟩ k=>⟨es,n,t,l',S.stay k⟩)
  (fun h' e=>⟨#[],0,_,[],⟨TT.RT e,by simp[oO],fun p hp=>by simp at hp,.nil⟩⟩) (fun i w s' B Q' E' hB hi hS hk hg hdr bz hQ'=>?_) (fun h' tk hS hk=>?_)
 ·obtain⟨es,n,t,l',S⟩:=hS
  have hil:i<b6.length:=by
   have:=(MQ.mp hi).1;simpa using this
  have hw:b6[i]?=some w:=by simpa using hi
  have hxi:xs[i]?=some xs[i]:=jd (by omega);have fY:l[i]?=some l[i]:=jd (by omega);obtain⟨w',w1,w2⟩:=v.get hxi;rw[hw] at w1;cases w1;have hrep:Rep X.K H O l[i] xs[i]:=r.views fY hxi;have aE:okS l[i]=true:=mC.mp hok _ (kA _);obtain⟨h1,g1,dr1,tk1,os1⟩:=s';dsimp only at hk hg hdr bz hQ' S;subst hg;subst hdr;subst bz;have I':Inv X pins σ H {s with heap:=h1,toks:=tk1}:=I.kept hk;refine SetV.add I' S (El _ _ (MC hok i) rfl) (.inl hrep) hrep w2 aE ?_ (by omega) fun rr h2 tk2 es' n' t' l'' a1 a2 a3=>?_
  ·have:=A7 (l.take i) [];rw[pY] at this;unfold oO;simp only[sN] at this;omega
  ·rw[<-GC fY] at a3;exact hQ' rr h2 tk2 a1 a2 ⟨es',n',t',l'',a3⟩
 ·obtain⟨es,n,t,l',S⟩:=hS;have hsz:b6.toArray.size=l.length:=by simp;omega
  rw[hsz,List.take_length] at S;refine⟨.ref s.heap.objs.size,upd H s.heap.objs.size (.stt (l'.map hv)),I.laid hk (ir _) S.objOk,rfl,?_⟩;refine G s.heap.objs.size _ ao (kP ao) ?_;exact S.oth (fun p hp=>Rep.mono (fun b o e _=>kP ao b o e) (fun b hb z=>z.elim id fun z=>absurd (z▸ao) hb) (S.rep p hp)) iG
end
theorem Eb{x:D}: ∀{l:List D},l.Pairwise (fun a b=>ltT b a=false)->(xK ltT x l).Pairwise (fun a b=>ltT b a=false)
 |[],_=>BH _ _
 |y::l,h=>by
  rw[qc] at h;have W:=Pq fun i:Nat=>match i with|0=>x|1=>y|_=>x
  rw[xK]
  cases hl:ltT y x with
  |true=>
   rw[gG rfl,qc];refine⟨fun z hz=>?_,Eb h.2⟩;rcases jC.mp ((rQ ltT x l).mem_iff.mp hz) with rfl|hz
   ·rw[AV] at hl;rw[kR,kI,hl];simp
   ·exact h.1 z hz
  |false=>
   rw[gJ jk,qc];refine⟨fun z hz=>?_,qc.mpr h⟩;rcases jC.mp hz with rfl|hz
   ·exact hl
   ·have h1:=h.1 z hz;rw[kR] at h1 hl ⊢;have a1:cT x y≠ .gt:=by rw[kI y x];cases hc:cT y x<;>simp_all
    have a2:cT y z≠ .gt:=by rw[kI z y];cases hc:cT z y<;>simp_all
    have a3:=rf x y z a1 a2;rw[kI x z];cases hc:cT x z<;>simp_all
theorem oX: ∀l:List D,(mx ltT l).Pairwise (fun a b=>ltT b a=false)
 |[]=> .nil
 |x::l=>by rw[mx];exact Eb (oX l)
theorem Kx(hp:l.Perm m)(de: ∀x∈l,D.pr x=true):mx ltT l=mx ltT m:=by
 refine JO (fun x y hx hy h1 h2=>?_) (oX l) (oX m) ((jH ltT l).trans (hp.trans (jH ltT m).symm));have px:=de x ((jH ltT l).mem_iff.mp hx);have py:=de y (hp.mem_iff.mpr ((jH ltT m).mem_iff.mp hy));rw[kR] at h1 h2;refine rh x y px py ?_;rw[kI x y] at h1;cases hc:cT x y<;>simp_all
theorem Io{k:Nat}{l:List D}(h:SortsBy k l):mE l=true:=by
 unfold mE;rw[vY];right
 cases l with
 |nil=>rfl
 |cons x m=>
  simp only[lO,mC,ub];refine⟨⟨by rw[h.hd x iX];rfl,fun y hy=>⟨⟨?_,h.pr y hy⟩,h.dp y hy⟩⟩,fun y hy z hz=>h.cm y hy z hz⟩;rw[h.hd x iX,h.hd y hy];simp
theorem Dx(hp:l.Perm m)(h:mE m=true):mE l=true:=by
 rcases AJ h with hl|⟨k,B⟩
 ·unfold mE;rw[vY];left;rw[hp.length_eq];simpa using hl
 ·exact Io (k:=k) ⟨fun x hx=>B.hd x (hp.mem_iff.mp hx),fun x hx=>B.pr x (hp.mem_iff.mp hx),fun x hx=>B.dp x (hp.mem_iff.mp hx),fun x hx y hy=>B.cm x (hp.mem_iff.mp hx) y (hp.mem_iff.mp hy)⟩
def qS(d:D):Option (D×Bool):=match d with
 | .oth .set [] vs=>if vs.all okS=true then jM vs else none
 |_=>vz d
section
variable {X:Cx}
theorem CV(hc:X.calm=true)(hu:X.A.units+62<cLine):jB X (.builtin "sorted") (rDn X.K (g1 qS)):=nX fun pins s σ H x u Q O d z I ru np hd hg G=>by
 by_cases hs: ∃vs,d= .oth .set [] vs
 ·obtain⟨vs,rfl⟩:=hs;have w6:(if vs.all okS=true then jM vs else none)=some z:=hg;split at w6
  ·rename_i hok;obtain⟨a,us,rfl,q,r⟩:=uW hd;cases ru;obtain⟨es,n,t,l,S⟩:=q.setV I r;obtain⟨cP,aK⟩:=S.lens;have wp:=TT.EK X.w a n es;obtain⟨z',p1,p2⟩:=xg wp S.par;obtain⟨l',p3,rfl⟩:=md hv p2 _ rfl;have rr:RepL X.K H O (l'.map (·.1)) (l'.map (·.2)):=RepL.ofZip fun p hp=>S.rep p (p3.mem_iff.mp hp)
   have vv:Vals (l'.map (·.2)) ((TT.mD X.w a n es).toList.map (·.2)):=by
    clear p2 p3 rr wp;generalize (TT.mD X.w a n es).toList=m at p1;revert p1;generalize hz:l'.map hv=zz;intro p1
    induction p1 generalizing l' with
    |nil=>
      have:l'=[]:=by simpa using hz
      subst this;exact .nil
    |cons r t ih=>
     cases l' with
     |nil=>simp at hz
     |cons p l'=>
      simp only[iN,List.cons.injEq] at hz;rw[iN,iN];refine .cons ?_ (ih l' hz.2);have:=r.2;rw[<-hz.1] at this;exact this
   have au:(l'.map (·.1)).Perm vs:=(p3.map (·.1)).trans S.perm
   have dt:jM (l'.map (·.1))=some z:=by
    unfold jM at w6 ⊢;obtain⟨⟨h1,h2⟩,rfl⟩:=ip w6;rw[gG ⟨Dx au h1,by rw[au.length_eq];exact h2⟩,Kx au fun x hx=>uw (mC.mp hok x (au.mem_iff.mp hx))]
   have hh:X.A.handled=none:=I.ok.hd hc
   have hz:es.size<=sizeLine:=by
    unfold jM at w6;rw[cP];exact(ip w6).1.2
   exact rF hu I rr vv dt G fun Q' E' A' gg hQ=>TT.Ou (by rw[gg];exact hh) S.is hz fun h' tk k=>hQ h' tk k
  ·cases w6
 ·have w6:g1 vz [d]=some z:=by
   have:qS d=vz d:=by
    unfold qS;split
    ·exact absurd ⟨_,rfl⟩ hs
    ·rfl
   show vz d=some z;rw[<-this];exact hg
  exact CW hu pins s σ H [x] [u] Q I (.cons ru .nil) ⟨O,[d],z,np,rfl,(fun j d' v' a b=>by
   cases j with
   |zero=>simp at a b;subst a;subst b;exact hd
   |succ j=>simp at a),w6,G⟩
end
def uz:D->Option Key
 | .int i=>some (.inl i)
 | .str x=>some (.inr x)
 |_=>none
def L1:List D->Option (List Key)
 |[]=>some []
 |d::l=>(uz d).bind fun k=>(L1 l).map (k:: ·)
def Gn:D->Option (List Key)
 | .tup l=>L1 l
 |_=>none
theorem ph(h:uz d=some k):d=jy k:=by
 cases d<;>simp[uz] at h<;>subst h<;>rfl
theorem D7: ∀{l:List D} {ks:List Key},L1 l=some ks->l=ks.map jy
 |[],ks,h=>by cases h;rfl
 |d::l,ks,h=>by
  rw[L1] at h;obtain⟨k,h1,h⟩:=gv h;obtain⟨m,h2,rfl⟩:=iP h;rw[ph h1,D7 h2];rfl
theorem vq(h:Gn d=some ks):d= .tup (ks.map jy):=by
 cases d with
 |tup l=>rw[D7 (show L1 l=some ks from h)]
 |_=>cases h
theorem vJ(a b:Key):D.eqb (jy a) (jy b)=decide (a=b):=by
 cases a with
 |inl i=>cases b with
  |inl j=>simp only[jy,D.eqb,L0]
  |inr y=>simp only[jy,D.eqb,LZ]
 |inr x=>cases b with
  |inl j=>simp only[jy,D.eqb,LY]
  |inr y=>simp only[jy,D.eqb,LX];rfl
theorem rW: ∀a b:List Key,D.eqbL (a.map jy) (b.map jy)=decide (a=b)
 |[],[]=>by simp[D.eqbL]
 |[],_::_=>by simp[D.eqbL]
 |_::_,[]=>by simp[D.eqbL]
 |x::a,y::b=>by
  simp only[iN];rw[D.eqbL,vJ,rW a b];simp only[List.cons.injEq,Bool.decide_and]
def lP:List D->List D->D->Option D
 |k'::ks,v::vs,k=>if D.eqb k' k=true then some v else lP ks vs k
 |_,_,_=>none
def qM:List D->List D->D->D->List D
 |k'::ks,v::vs,k,w=>(if D.eqb k' k=true then w else v)::qM ks vs k w
 |_,vs,_,_=>vs
def sj(ks vs:List D)(k w:D):List D×List D:=if ks.any (D.eqb · k)=true then(ks,qM ks vs k w) else(ks++[k],vs++[w])
def xn(ks:List D)(k:D):Bool:=((uz k).isSome&&ks.all fun x=>(uz x).isSome)||((Gn k).isSome&&ks.all fun x=>(Gn x).isSome)
section
variable {K:hG}{H:Hp}{O:AP'}
theorem DJ(h:Rep K H O (jy k) v):v=kV k:=by
 cases k with
 |inl i=>exact Rep.int h
 |inr x=>exact Rep.str h
theorem AM: ∀{ks:List Key} {vs:List V},RepL K H O (ks.map jy) vs->vs=ks.map kV
 |[],vs,h=>by rw[oT,RepL] at h;exact h
 |k::ks,vs,h=>by
  rw[iN,RepL] at h;obtain⟨v,r,rfl,h1,h2⟩:=h;rw[DJ h1,AM h2];rfl
theorem wB(hk:uz d=some k)(h:jh K H O d v):v=kV k:=by
 rw[ph hk] at h;rcases h with h|⟨a,rfl,h⟩
 ·exact DJ h
 ·cases k<;>exact h.elim
theorem wA(hk:Gn d=some ks)(h:jh K H O d v): ∃b,v= .ref b/\H b=some (.tup (ks.map kV)):=by
 rw[vq hk] at h;rcases h with h|⟨a,rfl,h⟩
 ·obtain⟨b,xs,rfl,q,r⟩:=h.tup;rw[AM r] at q;exact⟨b,rfl,q.1⟩
 ·exact h.elim
theorem LQ{k:Key}: ∀{kvs:List (Key×V)} {vs:List D},RepL K H O vs (kvs.map (·.2))->(∀d,lP (kvs.map fun p=>jy p.1) vs (jy k)=some d-> ∃v,sf kvs k=some v/\Rep K H O d v)/\(lP (kvs.map fun p=>jy p.1) vs (jy k)=none->sf kvs k=none)
 |[],vs,_=>⟨fun d h=>by cases vs<;>simp[lP] at h,fun _=>rfl⟩
 |(k',v)::kvs,[],h=>by rw[iN,RepL] at h;cases h
 |(k',v)::kvs,d'::vs,h=>by
  rw[iN,RepL] at h;obtain⟨w,r,e,h1,h2⟩:=h;obtain⟨rfl,rfl⟩:=tY e;obtain⟨i1,i2⟩:=LQ (k:=k) h2;simp only[iN,lP,vJ];by_cases hk:k'=k
  ·simp only[hk,decide_true,iE];exact⟨fun d h=>by cases h;exact⟨v,qI (p:=(k,v)) rfl,h1⟩,fun h=>by cases h⟩
  ·simp only[hk,decide_false,iO,jb];refine⟨fun d h=>?_,fun h=>?_⟩
   ·obtain⟨u,h3,h4⟩:=i1 d h;exact⟨u,by rw[nI (p:=(k',v)) hk];exact h3,h4⟩
   ·rw[nI (p:=(k',v)) hk];exact i2 h
theorem LP{k:List Key}: ∀{kvs:List (List Key×V)} {vs:List D},RepL K H O vs (kvs.map (·.2))->(∀d,lP (kvs.map fun p=> .tup (p.1.map jy)) vs (.tup (k.map jy))=some d-> ∃v,sf kvs k=some v/\Rep K H O d v)/\(lP (kvs.map fun p=> .tup (p.1.map jy)) vs (.tup (k.map jy))=none->sf kvs k=none)
 |[],vs,_=>⟨fun d h=>by cases vs<;>simp[lP] at h,fun _=>rfl⟩
 |(k',v)::kvs,[],h=>by rw[iN,RepL] at h;cases h
 |(k',v)::kvs,d'::vs,h=>by
  rw[iN,RepL] at h;obtain⟨w,r,e,h1,h2⟩:=h;obtain⟨rfl,rfl⟩:=tY e;obtain⟨i1,i2⟩:=LP (k:=k) h2;simp only[iN,lP,D.eqb,rW];by_cases hk:k'=k
  ·simp only[hk,decide_true,iE];exact⟨fun d h=>by cases h;exact⟨v,qI (p:=(k,v)) rfl,h1⟩,fun h=>by cases h⟩
  ·simp only[hk,decide_false,iO,jb];refine⟨fun d h=>?_,fun h=>?_⟩
   ·obtain⟨u,h3,h4⟩:=i1 d h;exact⟨u,by rw[nI (p:=(k',v)) hk];exact h3,h4⟩
   ·rw[nI (p:=(k',v)) hk];exact i2 h
end
section
variable {P:hW}{w:gU}{H H':Hp}{h:hV}{a:gz}
theorem Tp(x:ObjOk P w H h a (.dT [])):ObjOk P w H' h a (.dK []):=by
 obtain⟨z,y,xs,r,o,es,ep,h1,h2,h3,h4,h5⟩:=x;cases r
 have:es= #[]:=by
  have:es.toList=[]:=by simpa using h4
  exact RW.mp this
 subst this;refine⟨z,y,[],.nil,o,#[],ep,h1,h2,h3,?_,?_,jg⟩
 ·first|exact fun e he=>by simp at he|(intro;simp)
 ·first|exact .nil|trivial|simp[Pairs]
theorem Tq(x:ObjOk P w H h a (.dK [])):ObjOk P w H' h a (.dT []):=by
 obtain⟨z,y,vs,r,o,es,ep,h1,h2,h3,h4,h5,h6⟩:=x;cases r
 have:es= #[]:=by
  have hl:es.toList.length=0:=by
   first
    |simpa using h5.length
    |simpa using(B7 h5)
    |(
      cases he:es.toList with
      |nil=>rfl
      |cons e l=>rw[he] at h5;cases h5)
  exact RW.mp (RO.mp hl)
 subst this;exact⟨z,y,[],.nil,o,#[],ep,h1,h2,h3,rfl,jg⟩
end
section
variable {X:Cx}{pins:iq}{σ:L2.St}{H:Hp}{s:gC}
theorem vt(h:xn ks k=true):(∃κ,uz k=some κ/\ ∀x∈ks,∃c,uz x=some c)\/(∃τ,Gn k=some τ/\ ∀x∈ks,∃c,Gn x=some c):=by
 unfold xn at h;rw[vY,lO,lO,mC,mC] at h;rcases h with⟨h1,h2⟩|⟨h1,h2⟩
 ·exact .inl ⟨_,(J8.mp h1).choose_spec,fun x hx=>J8.mp (h2 x hx)⟩
 ·exact .inr ⟨_,(J8.mp h1).choose_spec,fun x hx=>J8.mp (h2 x hx)⟩
theorem G9{ks:List Key}{c:Key}(h:uz (.tup (ks.map jy))=some c):False:=by cases h
theorem D8(h:Gn (jy k)=some c):False:=by cases k<;>cases h
theorem RC(hu:A.units+1<cLine)(I:Inv X pins σ H s)(q:OthB (H a) .dct ks vs us)(r:RepL X.K H O vs us)(hk:xn ks k=true)(hl:lP ks vs k=some d)(vk:jh X.K H O k y)(ry:RelV y u) 
  (h: ∀v w s',Inv X pins σ H s'->Rep X.K H O d v->RelV v w->Q w s'):wpAny (model X.prog X.w) A (getItem (.ref a) u) Q E s:=by
 have nil: ∀vs:List D,lP [] vs k=none:=fun vs=>by cases vs<;>rfl
 rcases q with⟨kvs,e,rfl,rfl⟩|⟨kvs,e,rfl,rfl⟩
 ·rcases vt hk with⟨κ,h1,_⟩|⟨τ,h1,h2⟩
  ·have:=wB h1 vk;subst this;have bg:=ph h1;subst bg;obtain⟨v,h3,h4⟩:=(LQ (k:=κ) r).1 d hl;refine A8 hu I (v:=v) (y:=kV κ) ?_ ry fun w s' I' ai=>h v w s' I' h4 ai;rw[<-h3];exact DGet.k e
  ·cases kvs with
   |nil=>rw[oT,nil] at hl;cases hl
   |cons p kvs=>obtain⟨c,hc⟩:=h2 (jy p.1) (by simp);exact(D8 hc).elim
 ·rcases vt hk with⟨κ,h1,h2⟩|⟨τ,h1,_⟩
  ·cases kvs with
   |nil=>rw[oT,nil] at hl;cases hl
   |cons p kvs=>obtain⟨c,hc⟩:=h2 (.tup (p.1.map jy)) (by simp);exact(G9 hc).elim
  ·obtain⟨b,rfl,eb⟩:=wA h1 vk;have bg:=vq h1;subst bg;obtain⟨v,h3,h4⟩:=(LP (k:=τ) r).1 d hl;refine A8 hu I (v:=v) (y:= .ref b) ?_ ry fun w s' I' ai=>h v w s' I' h4 ai;rw[<-h3];exact DGet.t e eb
end
def Ef(d k:D):Option (D×Bool):=match d with
 | .oth .dct ks vs=>if xn ks k=true then(lP ks vs k).map fun v=>(v,false) else none
 |_=>gIx d k
section
variable {X:Cx}
theorem SY(hu:X.A.units+1<cLine):IxR X (rD X.K Ef):=by
 intro value slice pins s σ H x y v u Q I rx ry h hs;obtain⟨O,d,e,z,np,h1,h2,hg,G⟩:=h;by_cases hd: ∃ks vs,d= .oth .dct ks vs
 ·obtain⟨ks,vs,rfl⟩:=hd;have w6:(if xn ks e=true then(lP ks vs e).map fun v=>(v,false) else none)=some z:=hg;split at w6
  case isFalse=>cases w6
  rename_i hk;obtain⟨w,hw,rfl⟩:=iP w6;obtain⟨a,us,rfl,q,r⟩:=uW h1;cases rx;have hT:s.TypeIs (.ref a) "dict":=Lz I q;unfold subscriptTail;refine gx ?_;rw[getitemInPython_of_ne hT.not_modules];refine gx (tP hT PySem.F.slot_dict_getitem.lookup ?_)
  have fin:wpAny (model X.prog X.w) X.A (subscripted slice false (.ref a) u) (fun r s₃=>wpAny (model X.prog X.w) X.A (letTemporaryGo value (.ref a) r>>=fun _=>pure r) (EP X pins σ Q) X.xe s₃) X.xe s:=by
   rw[hs];exact wpAny_operating (RC hu I q r hk hw h2 ry fun v' w' s' I' hr rv=>gx (wpAny_letTemporaryGo (gO ⟨v',H,I',rv,G v' H (fun _ _ e=>e) hr⟩)))
  first
   |exact gO (gx fin)
   |exact gx (gO (gx fin))
   |exact gx fin
 ·have:Ef d e=gIx d e:=by
   unfold Ef;split
   ·exact absurd ⟨_,_,rfl⟩ hd
   ·rfl
  rw[this] at hg;exact Pa value slice pins s σ H x y v u Q I rx ry ⟨O,d,e,z,np,h1,h2,hg,G⟩ hs
theorem Qg(hu:X.A.units+1<cLine)(ha:PO X a fa)(hb:PO X b fb)(hs:vR b):PX X (.Subscript a b pos) (gB Ef fa fb):=px2 (OV (SY hu) ha hb hs)
def Mk:F:=fun δ=>some ((.oth .dct [] [],true),δ)
theorem Nr{pos:Pos}:PX X (.Dict [] [] pos) Mk:=PX.imp Ls fun σ H Q hw=>by
 obtain⟨δ,T,rr,δ',E,e,k⟩:=hw;cases e;intro p hp;have B:=Ops.nil E;exact(B.done k) p _ hp (kP hp) ⟨[],.inl ⟨[],iG,rfl,rfl⟩,RepL.nil⟩
end
section
variable {K:hG}{T:AP'}{σ:L2.St}{δ:Dn}{H:Hp}{i:Nat}{d0 d':D}{a:gz}{o:HO}
theorem OwnI.writeG{j:Nat}{b:gz}(hd:δ[i]?=some (some (d0,true)))(h:OwnI σ (δ.set i (some (d',true))) j b):OwnI σ δ j b:=by
 obtain⟨e,h1,h2⟩:=h;rcases kH h1 with⟨rfl,_,_⟩|⟨_,q⟩
 ·exact⟨_,hd,h2⟩
 ·exact⟨e,q,h2⟩
theorem ER.writeG(E:ER K H T σ δ)(hd:δ[i]?=some (some (d0,true)))(hs:σ[i]?=some (some (.ref a)))(r:OwnOk K (upd H a o) (fun b=>OwnA σ δ b\/T b) d' a):
  ER K (upd H a o) T σ (δ.set i (some (d',true)))/\Keep σ δ H (δ.set i (some (d',true))) (upd H a o):=by
 have hi:i<δ.length:=(vS.mp hd).1;have oa:OwnA σ δ a:=⟨i,_,hd,hs⟩
 have ay: ∀b,OwnA σ (δ.set i (some (d',true))) b->OwnA σ δ b:=fun b ⟨j,e,h1,h2⟩=>by
  obtain⟨e',q1,q2⟩:=OwnI.writeG hd ⟨e,h1,h2⟩;exact⟨j,e',q1,q2⟩
 have kp: ∀b u,H b=some u-> ¬(OwnA σ δ b\/T b)->upd H a o b=some u:=fun b u e n=>by rw[iI (by intro z;subst z;exact n (.inl oa))];exact e
 have dm: ∀b,H b≠none->upd H a o b≠none:=fun b z=>by
  by_cases hb:b=a
  ·subst hb;rw[iG];simp
  ·rw[iI hb];exact z
 have sub: ∀b,(OwnA σ (δ.set i (some (d',true))) b\/T b)->OwnA σ δ b\/T b:=fun b z=>z.imp (ay b) id;refine⟨⟨by rw[sP];exact E.len,fun j e hj=>?_,fun j e hj=>?_,fun j k e f b hj hk h1 h2=>?_,fun b z=>E.nT b (ay b z),fun b z=>dm b (E.dom b z)⟩,⟨fun b u e n=>by rw[iI (by intro z;subst z;exact n oa)];exact e,fun j b z=>OwnI.writeG hd z,dm⟩⟩
 ·rcases kH hj with⟨_,_,q⟩|⟨_,q⟩
  ·cases q
  ·obtain⟨w,w1,w2⟩:=E.val j e q;exact⟨w,w1,Rep.mono kp (fun b _ z=>sub b z) w2⟩
 ·rcases kH hj with⟨rfl,_,q⟩|⟨ne,q⟩
  ·cases q;exact⟨a,hs,r.mono (fun _ _ e _=>e) (fun b _ z=>sub b z) fun _ e=>e⟩
  ·obtain⟨b,w1,w2⟩:=E.own j e q;refine⟨b,w1,w2.mono kp (fun b _ z=>sub b z) fun u eo=>?_⟩;rw[iI]
   ·exact eo
   ·intro z;subst z;exact ne (E.inj i j _ _ _ hd q hs w1)
 ·obtain⟨e1,q1,q2⟩:=OwnI.writeG hd ⟨e,hj,h1⟩;obtain⟨e2,q3,q4⟩:=OwnI.writeG hd ⟨f,hk,h2⟩;exact E.inj j k e1 e2 b q1 q3 q2 q4
end
section
variable {X:Cx}{pins:iq}{σ:L2.St}{H:Hp}{s:gC}{a:gz}
theorem PZ(I:Inv X pins σ H s)(e:H a=some (.dT [])):Inv X pins σ (upd H a (.dK [])) s:=by
 have:=yj (t':=s.toks) (h':=s.heap) I (by rw[e];exact True.intro) (BR a s.heap) (by obtain⟨z,y,xs,r,o,es,ep,h1,_⟩:=(show ObjOk X.prog X.w H s.heap a (.dT []) from I.hok a _ e);exact⟨o,h1⟩) (Tp (H':=upd H a (.dK [])) (I.hok a _ e));exact this
theorem PY(I:Inv X pins σ H s)(e:H a=some (.dK [])):Inv X pins σ (upd H a (.dT [])) s:=by
 have:=yj (t':=s.toks) (h':=s.heap) I (by rw[e];exact True.intro) (BR a s.heap) (by obtain⟨z,y,xs,r,o,es,ep,h1,_⟩:=(show ObjOk X.prog X.w H s.heap a (.dK []) from I.hok a _ e);exact⟨o,h1⟩) (Tq (H':=upd H a (.dT [])) (I.hok a _ e));exact this
def Sq:OF:=fun o i v H Q=> ∃a,o= .ref a/\((∃H',DPut H a i v H'/\Q H')\/(∃κ,H a=some (.dT [])/\i=kV κ/\Q (upd H a (.dK [(κ,v)])))\/
 (∃τ b,H a=some (.dK [])/\i= .ref b/\H b=some (.tup (τ.map kV))/\Q (upd H a (.dT [(τ,v)]))))
theorem Kz(hu:X.A.units+1<cLine):RM X Sq:=by
 intro pins s σ H o i v ov iv u Q I ro ri rv h;obtain⟨a,rfl,h⟩:=h;cases ro;rcases h with⟨H',g,q⟩|⟨κ,e,rfl,q⟩|⟨τ,b,e,rfl,eb,q⟩
 ·exact wV hu I g ri rv fun s' I'=>⟨H',I',q⟩
 ·refine wV hu (PZ I e) (DPut.k (k:=κ) (v:=v) iG (by rw[iQ];decide)) ri rv fun s' I'=>⟨_,I',?_⟩
  rw[G8];exact q
 ·have hb:b≠a:=OX eb e (fun z=>nomatch z);refine wV hu (PY I e) (DPut.t (k:=τ) (v:=v) (b:=b) iG (by rw[iI hb];exact eb) (by rw[iQ];decide)) ri rv fun s' I'=>⟨_,I',?_⟩
  rw[G8];exact q
end
section
variable {K:hG}{H:Hp}{O:AP'}
theorem KI{k:Key}{w:D}{v:V}(hw:Rep K H O w v): ∀{kvs:List (Key×V)} {vs:List D},RepL K H O vs (kvs.map (·.2))->RepL K H O (qM (kvs.map fun p=>jy p.1) vs (jy k) w) ((kvs.map fun kv=>if kv.1=k then(kv.1,v) else kv).map (·.2))
 |[],vs,h=>by cases vs<;>simpa[qM] using h
 |(k',u)::kvs,[],h=>by rw[iN,RepL] at h;cases h
 |(k',u)::kvs,d'::vs,h=>by
  rw[iN,RepL] at h;obtain⟨x,r,e,h1,h2⟩:=h;obtain⟨rfl,rfl⟩:=tY e;simp only[iN,qM,vJ];refine RepL.cons ?_ (KI hw h2);by_cases hk:k'=k
  ·simp only[hk,decide_true,iE];exact hw
  ·simp only[hk,decide_false,iO,jb];exact h1
theorem KH{k:List Key}{w:D}{v:V}(hw:Rep K H O w v): ∀{kvs:List (List Key×V)} {vs:List D},RepL K H O vs (kvs.map (·.2))->RepL K H O (qM (kvs.map fun p=> .tup (p.1.map jy)) vs (.tup (k.map jy)) w) ((kvs.map fun kv=>if kv.1=k then(kv.1,v) else kv).map (·.2))
 |[],vs,h=>by cases vs<;>simpa[qM] using h
 |(k',u)::kvs,[],h=>by rw[iN,RepL] at h;cases h
 |(k',u)::kvs,d'::vs,h=>by
  rw[iN,RepL] at h;obtain⟨x,r,e,h1,h2⟩:=h;obtain⟨rfl,rfl⟩:=tY e;simp only[iN,qM,D.eqb,rW];refine RepL.cons ?_ (KH hw h2);by_cases hk:k'=k
  ·simp only[hk,decide_true,iE];exact hw
  ·simp only[hk,decide_false,iO,jb];exact h1
theorem OT(hw:Rep K H O w v)(h:RepL K H O vs (kvs.map (·.2))):
  (sj (kvs.map fun p=>jy p.1) vs (jy k) w).1=(qj kvs k v).map (fun p=>jy p.1)/\RepL K H O (sj (kvs.map fun p=>jy p.1) vs (jy k) w).2 ((qj kvs k v).map (·.2)):=by
 have ha:(kvs.map fun p=>jy p.1).any (D.eqb · (jy k))=kvs.any fun kv=>decide (kv.1=k):=by
  rw[wk];congr 1;funext p;exact vJ _ _
 unfold sj qj;rw[ha];split
 ·refine⟨?_,KI hw h⟩;rw[jX];apply pV;intro p _;simp only[Function.comp];split<;>rfl
 ·exact⟨by simp,by rw[sG];exact h.append (RepL.one hw)⟩
theorem OS{k:List Key}{w:D}{v:V}(hw:Rep K H O w v){kvs:List (List Key×V)}{vs:List D}(h:RepL K H O vs (kvs.map (·.2))):
  (sj (kvs.map fun p=> .tup (p.1.map jy)) vs (.tup (k.map jy)) w).1=(qj kvs k v).map (fun p=> .tup (p.1.map jy))/\RepL K H O (sj (kvs.map fun p=> .tup (p.1.map jy)) vs (.tup (k.map jy)) w).2 ((qj kvs k v).map (·.2)):=by
 have ha:(kvs.map fun p=>D.tup (p.1.map jy)).any (D.eqb · (.tup (k.map jy)))=kvs.any fun kv=>decide (kv.1=k):=by
  rw[wk];congr 1;funext p;simp only[Function.comp,D.eqb,rW]
 unfold sj qj;rw[ha];split
 ·refine⟨?_,KH hw h⟩;rw[jX];apply pV;intro p _;simp only[Function.comp];split<;>rfl
 ·exact⟨by simp,by rw[sG];exact h.append (RepL.one hw)⟩
end
def DG(i:Nat)(f:F)(g:FO):FS:=fun δ=>(f δ).bind fun p=>match p.2[i]? with
 |some (some _)=>(g p.2).bind fun q=>match res q.2 q.1,q.2[i]? with
  |some k,some (some (.oth .dct ks vs,true))=>if xn ks k=true/\ks.length<10000 then some (.nx (q.2.set i (some (.oth .dct (sj ks vs k p.1.1).1 (sj ks vs k p.1.1).2,true)))) else none
  |_,_=>none
 |_=>none
section
variable {X:Cx}{e ix:gR}{f:F}{fo:FO}{pos b9 apos i9:Pos}{i:Nat}{x:Str}{A L:jq}{H0:Hp}
theorem K7{f9:Pos}(hu:X.A.units+1<cLine)(hv:PO X (.Name x b9) (gu i))(he:PX X e f)(hi:PO X ix fo)
  (ha: ∀v,assign (.Subscript (.Name x b9) ix f9) X.env v=(do
   let ov <-holding [v] (eval (.Name x b9) X.env)
   let iv <-holding [v,ov] (eval ix X.env)
   standAt f9
   holding [v,ov,iv] (setItem ov iv v)
   release [v,ov,iv] []))
  (hs:swapsWithSole [.Subscript (.Name x b9) ix f9] e pos.line X.env=pure false)(hw:swappedStores [.Subscript (.Name x b9) ix f9] e X.env=pure none)
  (h1:(assignEach [.Subscript (.Name x b9) ix f9] X.env).map (·.2)=[assign (.Subscript (.Name x b9) ix f9) X.env]):
  PSX X A L H0 (.Assign [.Subscript (.Name x b9) ix f9] e pos) (DG i f fo):=PS.imp' (F3 he (Lp hv hi (Kz hu) ha) hs hw h1) fun D σ H hw=>by
 obtain⟨δ,T,out,E,fi,e,k⟩:=hw;obtain⟨⟨r,δ1⟩,h1,e⟩:=gv e;dsimp only at e;split at e
 case h_2=>cases e
 rename_i y0 h0;obtain⟨⟨o,δ2⟩,h2,e⟩:=gv e;dsimp only at e;split at e
 ·rename_i kk ks vs hk h3;obtain⟨⟨hok,hlen⟩,e⟩:=ip e;cases e;refine⟨δ,T,r,δ1,E,h1,fun v H1 P1=>⟨δ1,Tmp T r v,.slot i,δ1,P1.er E,by unfold gu;rw[h0],fun v2 H2 P2=>⟨δ1,Tmp T r v,o,δ2,P2.er (P1.er E),h2,fun v3 H3 P3=>?_⟩⟩⟩;have gq:PostO X.K T σ δ H (.val r) δ1 v H1:=P1;have B:=Ops.cons E gq (Ops.cons (P1.er E) P2 (Ops.cons (P2.er (P1.er E)) P3 (Ops.nil (P3.er (P2.er (P1.er E))))));have E3:ER X.K H3 T σ δ2:=B.er.mono (fun _ _ e _=>e) (fun b _ z=>B.tt b z) (fun a z=>B.er.dom a (B.tt a z));have hσ:σ[i]?=some (some v2):=P2.2.2;obtain⟨a,q1,us,q2,q3⟩:=E3.own i _ h3;rw[hσ] at q1;cases q1;have vk:=B.view (j:=2) rfl rfl hk;have rv:=B.rep E (j:=0) (r:=r) rfl rfl;have oa:OwnA σ δ2 a:=⟨i,_,h3,hσ⟩
  have kp: ∀(ho:HO) b u,H3 b=some u-> ¬(OwnA σ δ2 b\/T b)->upd H3 a ho b=some u:=fun ho b u e n=>by rw[iI (by intro z;subst z;exact n (.inl oa))];exact e
  have ks10:10000<sizeLine:=by rw[iQ];decide
  have fin: ∀ho eA,OthB (some ho) .dct (sj ks vs kk r.1).1 (sj ks vs kk r.1).2 eA->RepL X.K H3 (fun a=>OwnA σ δ2 a\/T a) (sj ks vs kk r.1).2 eA->D.nx σ (upd H3 a ho):=fun ho eA g1 g2=>by
   obtain⟨E4,K4⟩:=E3.writeG (o:=ho) (d':= .oth .dct (sj ks vs kk r.1).1 (sj ks vs kk r.1).2) h3 hσ ⟨eA,by rw[iG];exact g1,RepL.mono (kp ho) (fun _ _ z=>z) g2⟩;exact k _ _ (B.keep.trans K4).sk E4
  refine⟨a,rfl,?_⟩;rcases q2 with⟨kvs,eH,rfl,rfl⟩|⟨kvs,eH,rfl,rfl⟩
  ·rw[jj] at hlen;rcases vt hok with⟨κ,g1,_⟩|⟨τ,g1,g2⟩
   ·have hy:=wB g1 vk;have bg:=ph g1;subst bg;obtain⟨p1,p2⟩:=OT (k:=κ) rv q3;refine .inl ⟨_,by rw[hy];exact DPut.k eH (by omega),fin _ _ (.inl ⟨_,rfl,p1,rfl⟩) p2⟩
   ·have fM:kvs=[]:=by
     cases kvs with
     |nil=>rfl
     |cons p kvs=>obtain⟨c,hc⟩:=g2 (jy p.1) (by simp);exact(D8 hc).elim
    subst fM;obtain⟨b,hy,eb⟩:=wA g1 vk;have bg:=vq g1;subst bg;obtain⟨p1,p2⟩:=OS (k:=τ) (kvs:=[]) rv q3;exact .inr (.inr ⟨τ,b,eH,hy,eb,fin _ _ (.inr ⟨[(τ,v)],rfl,p1,rfl⟩) p2⟩)
  ·rw[jj] at hlen;rcases vt hok with⟨κ,g1,g2⟩|⟨τ,g1,_⟩
   ·have fM:kvs=[]:=by
     cases kvs with
     |nil=>rfl
     |cons p kvs=>obtain⟨c,hc⟩:=g2 (.tup (p.1.map jy)) (by simp);exact(G9 hc).elim
    subst fM;have hy:=wB g1 vk;have bg:=ph g1;subst bg;obtain⟨p1,p2⟩:=OT (k:=κ) (kvs:=[]) rv q3;exact .inr (.inl ⟨κ,eH,hy,fin _ _ (.inl ⟨[(κ,v)],rfl,p1,rfl⟩) p2⟩)
   ·obtain⟨b,hy,eb⟩:=wA g1 vk;have bg:=vq g1;subst bg;obtain⟨p1,p2⟩:=OS (k:=τ) rv q3;refine .inl ⟨_,by rw[hy];exact DPut.t eH eb (by omega),fin _ _ (.inr ⟨_,rfl,p1,rfl⟩) p2⟩
 ·cases e
end
def jf(d:D):Option (D×Bool):=match d with
 | .oth .dct ks vs=>if(ks.all fun k=>(uz k).isSome)=true/\ks≠[] then jM ks else none
 |_=>qS d
section
variable {X:Cx}
theorem AG{P:hW}{w:gU}: ∀{es:List DictEntry} {vs:List (Key×Value)} {kvs:List (Key×V)},Pairs (kG P w) es vs->KV kvs vs->Vals (kvs.map fun p=>kV p.1) (es.map (·.key))
 |_,_,_,.nil,.nil=> .nil
 |_,_,_,.cons h1 h2 t,.cons r q=>by
  refine .cons ?_ (AG t q);dsimp only;rw[r.1];rcases jA (show zm _ _=true from h1) with⟨i,tk,e1,e2⟩|⟨x,tk,e1,e2⟩
  ·rw[e1,e2];exact⟨tk,rfl⟩
  ·rw[e1,e2];exact⟨tk,rfl⟩
theorem AK{K:hG}{H:Hp}{O:AP'}: ∀(kvs:List (Key×V)),RepL K H O (kvs.map fun p=>jy p.1) (kvs.map fun p=>kV p.1)
 |[]=>RepL.nil
 |(k,v)::kvs=>by
  refine RepL.cons ?_ (AK kvs)
  cases k with
  |inl i=>exact Rep.mkInt
  |inr x=>exact Rep.mkStr
theorem SJ{X:Cx}{id:String}{g g':D->Option (D×Bool)}(hr:jB X (.builtin id) (rDn X.K (g1 g'))){pins:iq}{s:gC}{σ:L2.St}{H:Hp}{x:V}{u:gQ}{Q:VK}{O:AP'}{d:D}{z:D×Bool}(I:Inv X pins σ H s)(ru:L2.RelV x u)(np: ∀p,H p=none-> ¬O p)(hd:jh X.K H O d x)(hg:g' d=some z)(G:Gen X.K H O z Q):
  wpAny (model X.prog X.w) X.A (call (.builtin id) [u]) (EP X pins σ Q) X.xe s:=
 hr pins s σ H [x] [u] Q I (.cons ru .nil) ⟨O,[d],z,np,rfl,(fun j d' v' a b=>by
   cases j with
   |zero=>simp at a b;subst a;subst b;exact hd
   |succ j=>simp at a),hg,G⟩
theorem lJ(hc:X.calm=true)(hu:X.A.units+62<cLine):jB X (.builtin "sorted") (rDn X.K (g1 jf)):=nX fun pins s σ H x u Q O d z I ru np hd hg G=>by
 by_cases hs: ∃ks vs,d= .oth .dct ks vs
 ·obtain⟨ks,vs,rfl⟩:=hs;have w6:(if(ks.all fun k=>(uz k).isSome)=true/\ks≠[] then jM ks else none)=some z:=hg;split at w6
  ·rename_i hok;obtain⟨a,us,rfl,q,r⟩:=uW hd;cases ru;rcases q with⟨kvs,e,rfl,rfl⟩|⟨kvs,e,rfl,rfl⟩
   ·obtain⟨zl,cR,vs',rel,o,es,ep,h1,h2,h3,h4,h5,h6⟩:=Pk I.hok e;have vv:=AG h5 rel;have hl:=vv.length;simp only[jj,jr] at hl;have hh:X.A.handled=none:=I.ok.hd hc;exact rF hu I (AK (O:=O) kvs) vv w6 G fun Q' E' A' gg hQ=>TT.MS cR (by rw[gg];exact hh) ⟨o,h1,h2,h3⟩ (by omega) fun h' tk k=>hQ h' tk k
   ·exfalso
    cases kvs with
    |nil=>exact hok.2 rfl
    |cons p kvs=>
     have:=mC.mp hok.1 (.tup (p.1.map jy)) (by simp);simp[uz] at this
  ·cases w6
 ·have:jf d=qS d:=by
   unfold jf;split
   ·exact absurd ⟨_,_,rfl⟩ hs
   ·rfl
  exact SJ (g:=jf) (CV hc hu) I ru np hd (by rw[<-this];exact hg) G
theorem Nq(hg:Gl X x)(hm:X.mg x=some (.int i t))(hd:(x==("__debug__":Str))=false):PX X (.Name x pos) (fC (.int i)):=PX.imp (NU (v:= .int i) hg hm ⟨t,rfl⟩ hd) fun σ H Q h=>by
 obtain⟨δ,T,r,δ',E,e,k⟩:=h;cases e;exact k _ _ (Post.val .refl E Rep.mkInt)
def wC:FS:=fun _=>none
theorem IF{A L:jq}{H0:Hp}{st:Stmt}:PSX X A L H0 st wC:=fun pins s σ H D I h=>by
 obtain⟨δ,T,out,E,fi,e,k⟩:=h;cases e
end
def rT(i:Nat)(f:F):F:=fun δ=>match δ[i]? with
 |some (some (.lst _,true))=>(f δ).bind fun p=>match p.1,p.2[i]? with
  |(.lst m,true),some (some (.lst l,true))=>if l.length+m.length<=sizeLine then some ((.non,false),p.2.set i (some (.lst (l++m),true))) else none
  |_,_=>none
 |_=>none
section
variable {X:Cx}{e:gR}{f:F}{pos b9 apos i9:Pos}{i:Nat}{x:Str}
theorem IB(hv:PO X (.Name x b9) (gu i))(he:PX X e f)(j9:attributeBase (.Name x b9) "extend" X.env (eval (.Name x b9) X.env)=eval (.Name x b9) X.env)
  (o8:((backTo i9 (starEach [e] X.env)).all (fun x=>!x.1)&&(backToKw i9 (keywordEach [] X.env)).all (fun x=>x.1.isSome)&&decide ([e].length+([]:List Keyword).length+(if([]:List Keyword).isEmpty then 0 else 1)<30))=true)
  (j8:(apos.endLine==i9.line)=true)(hs:starEach [e] X.env=(false,eval e X.env)::starEach [] X.env)(i6:(backTo i9 (starEach [] X.env)).any (·.1)=false):
  PX X (.Call (.Attribute (.Name x b9) "extend" apos) [e] [] i9) (rT i f):=
 PX.imp (Lv Fj PySem.F.slot_list_extend PySem.F.type_list_extend IZ hv (oA he ur hs) j9 o8 j8 hs i6) fun σ H Q hw=>by
 obtain⟨δ,T,rr,δ',E,e,k⟩:=hw;unfold rT at e;split at e
 ·rename_i l0 h0;obtain⟨⟨r,δ1⟩,h1,e⟩:=gv e;dsimp only at e;split at e
  ·rename_i m l h2;obtain⟨hz,e⟩:=ip e;obtain⟨rfl,rfl⟩:=ue e;refine⟨δ,T,.slot i,δ,E,by unfold gu;rw[h0],fun v H1 P=>?_⟩;obtain⟨K1,E1,hσ⟩:=P;obtain⟨a,g1,dC,g2,g3⟩:=E1.own i _ h0;rw[hσ] at g1;cases g1;refine⟨.inl ⟨rfl,dC,SqL.of g2⟩,δ,T,_,δ1,E1,h1,fun y H2 P2=>?_⟩;obtain⟨E2,ry⟩:=P2.rep E1;obtain⟨p,rfl,hp,ez,zs,o1,o2⟩:=P2.2;obtain⟨a',q1,xs,q2,q3⟩:=E2.own i _ h2;rw[hσ] at q1;cases q1;have hrl:RepL X.K H2 (fun b=>OwnA σ δ1 b\/T b) m zs:=RepL.mono (fun _ _ e _=>e) (fun b _ z=>z.elim Or.inl fun z=>Or.inr (Or.inl z)) o2;refine⟨_,p,xs,zs,rfl,rfl,q2,o1,by rw[q3.length,o2.length];exact hz,?_⟩;obtain⟨E3,K3⟩:=E2.write h2 hσ (q3.append hrl);exact k _ _ (Post.val ((K1.trans P2.1).trans K3) E3 Rep.mkNon)
  ·cases e
 ·cases e
end
structure PXs(X:Cx)(es:jF)(fs:List F):Prop where
 pa:PA X es (tA X.K (fs.map gw))
section
variable {X:Cx}{e:gR}{es:jF}{f:F}{fs:List F}{pos:Pos}
theorem Ni:PXs X [] []:=⟨Cq⟩
theorem KW(h:PX X e f)(hr:PXs X es fs)(hs:starEach (e::es) X.env=(false,eval e X.env)::starEach es X.env):PXs X (e::es) (f::fs):=⟨vg (PX.po h) hr.pa hs⟩
theorem Np(h:PXs X es fs):PX X (.List es pos) (lK fs):=Qf h.pa
theorem Nl{x1}(h:PXs X es fs):PX X (.Tuple es x1 pos) (jN fs):=P7 h.pa
theorem Lj{fe:FT}(h:PTX X e fe):PIf X [e] (tT X.K fe):=NO h
theorem Qm{fe:FT}(h:PWX X e fe):PTX X e fe:=PW.pt h
end
structure QX(X:Cx)(e:gR)(f:F):Prop where
 h:PX X e f
structure QO(X:Cx)(e:gR)(f:FO):Prop where
 h:PX.PO X e f
structure QA(X:Cx)(es:jF)(fs:List FO):Prop where
 h:PA X es (tA X.K fs)
structure QL(X:Cx)(es:jF)(fs:List F):Prop where
 h:PXs X es fs
structure QT(X:Cx)(e:gR)(f:FT):Prop where
 h:PTX X e f
structure QW(X:Cx)(e:gR)(f:FT):Prop where
 h:PWX X e f
structure QG(X:Cx)(A:jq)(e:gR)(t:Tg):Prop where
 h:PGX X A e t
structure QI(X:Cx)(B:SB)(tg e:gR)(f:FIt):Prop where
 h:PIX X B tg e f
structure QF(X:Cx)(es:jF)(f:FT):Prop where
 h:PIf X es (tT X.K f)
structure QB(X:Cx)(A:jq)(d:gz)(e:gR)(n:Nat)(f:FB):Prop where
 h:PB X (ja e n (.ref d) X.env) (tBx X.K A d f)
structure QS(X:Cx)(A L:jq)(H0:Hp)(st:Stmt)(f:FS):Prop where
 h:PSX X A L H0 st f
structure QQ(X:Cx)(A L:jq)(H0:Hp)(st:List Stmt)(f:FS):Prop where
 h:C8 X A L H0 st f
structure QC(X:Cx)(v:gQ)(g:List D->Option (D×Bool)):Prop where
 h:jB X v (rDn X.K g)
structure QP(X:Cx)(o:xb)(g:D->D->Option (D×Bool)):Prop where
 h:OpR X o (rD X.K g)
abbrev SE(X:Cx)(e:gR)(es:jF):Prop:=starEach (e::es) X.env=(false,eval e X.env)::starEach es X.env
abbrev BA(X:Cx)(p:Pos)(es:jF):Prop:=(backTo p (starEach es X.env)).any (·.1)=false
abbrev DB(x:Str):Prop:=(x==("__debug__":Str))=false
abbrev un(A:gZ)(n:Nat):Prop:=A.units+n<cLine
structure ZZ where
 P:Program
 w:World
 K:PySem.W.Frag
 mg:Str->Option Value
 base:Heap
def Oz(Z:ZZ)(k:Nat)(x:Str)(ps:iK)(ev:EvF):Prop:= ∃f fd,FnOk Z.P Z.w Z.K Z.mg Z.base CX0 k f fd ps (spF Z.K ev)/\Z.mg x=some (.ref f)/\PySem.W.keepIn Z.K (.ref f)=true/\Binds Z.K fd ps []
theorem Oz.up{Z:ZZ}{k j:Nat}{x:Str}{ps:iK}{ev:EvF}(o:Oz Z k x ps ev)(h:k<=j:=by decide):Oz Z j x ps ev:=let⟨f,fd,a,b⟩:=o;⟨f,fd,a.mono h,b⟩
abbrev zX(X:Cx):ZZ:=⟨X.prog,X.w,X.K,X.mg,X.base⟩
def btT:List (Str×Value):=[("len",.builtin "len"),("abs",.builtin "abs"),("int",.type "int"),("tuple",.type "tuple"),("list",.type "list"),("bool",.type "bool"),("max",.builtin "max"),("min",.builtin "min"),("all",.builtin "all"),("any",.builtin "any"),("sorted",.builtin "sorted"),("set",.type "set")]
theorem btA{mg:lu}(T:Tx mg): ∀p∈btT,mg p.1=none/\bootBuiltins p.1=some p.2:=by
 have h: ∀p∈btT,bootBuiltins p.1=some p.2:=by decide+kernel
 intro p hp;refine⟨?_,h p hp⟩;have cH:p∈btT:=hp;unfold btT at cH;simp only[jC,kc,lA] at cH;rcases cH with rfl|rfl|rfl|rfl|rfl|rfl|rfl|rfl|rfl|rfl|rfl|rfl
 ·exact T.n_len
 ·exact T.n_abs
 ·exact T.n_int
 ·exact T.n_tuple
 ·exact T.n_list
 ·exact T.n_bool
 ·exact T.n_max
 ·exact T.n_min
 ·exact T.n_all
 ·exact T.n_any
 ·exact T.n_sorted
 ·exact T.n_set
theorem Gk{z:Str}{v:gQ}: ∀{l:List (Str×Value)},l.lookup z=some v->(z,v)∈l
 |[],h=>by cases h
 |(y,u)::l,h=>by
  rw[oh] at h;split at h
  ·rename_i q;cases h;rw[qD q];exact .head _
  ·exact .tail _ (Gk h)
theorem btM{mg:lu}{z:Str}{v:gQ}(T:Tx mg)(h:btT.lookup z=some v):mg z=none:=(btA T _ (Gk h)).1
theorem btN{z:Str}{v:gQ}(h:btT.lookup z=some v):bootBuiltins z=some v:=(show ∀p∈btT,bootBuiltins p.1=some p.2 from by decide+kernel) _ (Gk h)
section
variable {X:Cx}{x z:Str}{e a b c st lo hi:gR}{es:jF}{fa fb fc fo fl fh:FO}{f g:F}{ft fu:FT}{p p2 p3 pos b9 apos:Pos}{A L:jq}{B:SB}{H0:Hp}{fs:List FO}{dA:List F}{i j k:Nat}{tg:gR}{S:Stmt}{Ss Ts:List Stmt}{u v:FS}
theorem xV(h1:X.N[i]?=some x:=by rfl)(h2:Vis X.env.scope x:=by first|exact Or.inl rfl|exact Or.inr (Or.inl rfl)|exact Or.inr (Or.inr rfl))(h3:DB x:=by decide)(h4:(x==("__classdict__":Str))=false:=by decide):QO X (.Name x pos) (gu i):=⟨Qx h1 h2 h3 h4⟩
theorem xW(h1:X.N[i]?=some x:=by rfl)(h2:Vis X.env.scope x:=by first|exact Or.inl rfl|exact Or.inr (Or.inl rfl)|exact Or.inr (Or.inr rfl))(h3:DB x:=by decide)(h4:(x==("__classdict__":Str))=false:=by decide):QX X (.Name x pos) (hU i):=⟨P6 h1 h2 h3 h4⟩
theorem xO(h:QX X e f):QO X e (gw f):=⟨PX.po h.h⟩
theorem x1{j}:QX X (.Constant .none j pos) (fC .non):=⟨Qd⟩
theorem x2{i j}:QX X (.Constant (.bool i) j pos) (fC (.bl i)):=⟨Sy⟩
theorem x3{i j}:QX X (.Constant (.int i) j pos) (fC (.int i)):=⟨Qi⟩
theorem x4{i j}:QX X (.Constant (.str i) j pos) (fC (.str i)):=⟨P8⟩
theorem x5{i:Int}(h: ∃t,X.mg x=some (.int i t))(g:Gl X x:=by rfl)(h3:DB x:=by decide):QX X (.Name x pos) (fC (.int i)):=let⟨_,h⟩:=h;⟨Nq g h h3⟩
theorem x7:QX X (.Dict [] [] pos) Mk:=⟨Nr⟩
theorem jm{op:Operator}{g:D->D->Option (D×Bool)}(o:QP X (binaryOp op) g)(ha:QO X a fa)(hb:QO X b fb):QX X (.BinOp a op b pos) (gB g fa fb):=⟨Qk o.h ha.h hb.h⟩
theorem Kb(ha:QO X a fa):QX X (.UnaryOp .USub a pos) (ni wO fa):=⟨Qe ha.h⟩
theorem T7(ha:QX X a f):QX X (.UnaryOp .Not a pos) (Oo f):=⟨Qc ha.h⟩
theorem Ac{op:CmpOp}{g:D->D->Option (D×Bool)}(o:QP X (compareOp op) g)(ha:QO X a fa)(hb:QO X b fb)(hm:behindInMarks op b=false:=by first|exact LK _|with_unfolding_all rfl):QX X (.Compare a [op] [b] pos) (gB g fa fb):=⟨Qj o.h ha.h hb.h hm⟩
theorem tCmp{op:CmpOp}{g:D->D->Option (D×Bool)}(o:QP X (compareOp op) g)(ha:QO X a fa)(hb:QO X b fb)(hm:behindInMarks op b=false:=by first|exact LK _|with_unfolding_all rfl):QT X (.Compare a [op] [b] pos) (fT (gB g fa fb)):=⟨ND o.h ha.h hb.h hm⟩
theorem xCh{op n4:CmpOp}(ha:QO X a fa)(hb:QO X b fb)(hc:QO X c fc)(o1:pj op:=by first|exact .inl rfl|exact .inr (.inl rfl)|exact .inr (.inr (.inl rfl))|exact .inr (.inr (.inr rfl)))(o2:pj n4:=by first|exact .inl rfl|exact .inr (.inl rfl)|exact .inr (.inr (.inl rfl))|exact .inr (.inr (.inr rfl)))(hm:lastMarks [op,n4] [b,c]=false:=by with_unfolding_all rfl):QX X (.Compare a [op,n4] [b,c] pos) (nS op n4 fa fb fc):=⟨KZ o1 o2 ha.h hb.h hc.h hm⟩
theorem tCh{op n4:CmpOp}(ha:QO X a fa)(hb:QO X b fb)(hc:QO X c fc)(o1:pj op:=by first|exact .inl rfl|exact .inr (.inl rfl)|exact .inr (.inr (.inl rfl))|exact .inr (.inr (.inr rfl)))(o2:pj n4:=by first|exact .inl rfl|exact .inr (.inl rfl)|exact .inr (.inr (.inl rfl))|exact .inr (.inr (.inr rfl)))(hm:lastMarks [op,n4] [b,c]=false:=by with_unfolding_all rfl):QT X (.Compare a [op,n4] [b,c] pos) (fT (nS op n4 fa fb fc)):=⟨ID o1 o2 ha.h hb.h hc.h hm⟩
theorem xBo{op}(ha:QX X a f):QX X (.BoolOp op [a] pos) f:=⟨Nv ha.h⟩
theorem B8(ha:QX X a f)(hb:QX X (.BoolOp .And (b::es) pos) g):QX X (.BoolOp .And (a::b::es) pos) (vH f g):=⟨Ql ha.h hb.h⟩
theorem Ua(ha:QT X a ft)(hb:QW X (.BoolOp .And (b::es) pos) fu):QW X (.BoolOp .And (a::b::es) pos) (tH ft fu):=⟨Ny ha.h hb.h⟩
theorem wOr(ha:QT X a ft)(hb:QW X (.BoolOp .Or (b::es) pos) fu):QW X (.BoolOp .Or (a::b::es) pos) (Aq ft fu):=⟨Qn ha.h hb.h⟩
theorem R0(ha:QT X a ft):QW X (.BoolOp .And [a] pos) ft:=⟨K0 ha.h⟩
theorem Pt(ha:QT X a ft):QW X (.BoolOp .Or [a] pos) ft:=⟨Nx ha.h⟩
theorem tW{op}(h:QW X (.BoolOp op es pos) ft):QT X (.BoolOp op es pos) ft:=⟨Qm h.h⟩
theorem tNot(ha:QT X a ft):QT X (.UnaryOp .Not a pos) (lj ft):=⟨NC ha.h⟩
theorem xw(h:QX X e f)(he: ∀whole,isTrue e X.env whole=(do let v <-whole;standAt e.pos;holding [v] (truthy v)):=by intro _;rfl):QT X e (fT f):=⟨NB h.h he⟩
theorem xIf(hc:QT X c ft)(ha:QX X a f)(hb:QX X b g):QX X (.IfExp c a b pos) (fIf ft f g):=⟨Sx hc.h ha.h hb.h⟩
theorem xIx(ha:QO X a fa)(hb:QO X b fb)(hs:vR b:=by exact fun _ _=>rfl):QX X (.Subscript a b pos) (gB gIx fa fb):=⟨Sw ha.h hb.h hs⟩
theorem T8(hu:un X.A 1)(ha:QO X a fa)(hb:QO X b fb)(hs:vR b:=by exact fun _ _=>rfl):QX X (.Subscript a b pos) (gB Ef fa fb):=⟨Qg hu ha.h hb.h hs⟩
theorem RX(ha:QO X a fa)(hl:QO X lo fl):QX X (.Subscript a (.Slice (some lo) none none p2) pos) (tE fa fl):=⟨Nm ha.h hl.h⟩
theorem Pm(ha:QO X a fa)(hh:QO X hi fh):QX X (.Subscript a (.Slice none (some hi) none p2) pos) (qg fa fh):=⟨Nn ha.h hh.h⟩
theorem xL0:QL X [] []:=⟨Ni⟩
theorem xL(ha:QX X e f)(hr:QL X es dA)(hs:SE X e es:=by rfl):QL X (e::es) (f::dA):=⟨KW ha.h hr.h hs⟩
theorem xA0:QA X [] []:=⟨Cq⟩
theorem xA(ha:QO X e fa)(hr:QA X es fs)(hs:SE X e es:=by rfl):QA X (e::es) (fa::fs):=⟨vg ha.h hr.h hs⟩
theorem se{k}(h:QL X es dA):QX X (.Tuple es k pos) (jN dA):=⟨Nl h.h⟩
theorem uh(h:QL X es dA):QX X (.List es pos) (lK dA):=⟨Np h.h⟩
theorem xB{id:String}{g:List D->Option (D×Bool)}(T:Tx X.mg)(hv:btT.lookup z=some (.builtin id))(hc:QC X (.builtin id) g)(ha:QA X (e::es) fs)(hg:Gl X z:=by rfl)(hn:z≠"__name__":=by decide)(p9:DB z:=by decide)(he:SE X e es:=by rfl)(j7:BA X pos es:=by rfl):QX X (.Call (.Name z p) (e::es) [] pos) (gP g fs):=⟨Nw hc.h hg (btM T hv) (btN hv) ha.h hn p9 he j7⟩
theorem xT{id:String}{g:List D->Option (D×Bool)}(T:Tx X.mg)(hv:btT.lookup z=some (.type id))(hc:QC X (.type id) g)(ha:QA X (e::es) fs)(hg:Gl X z:=by rfl)(hn:z≠"__name__":=by decide)(p9:DB z:=by decide)(he:SE X e es:=by rfl)(j7:BA X pos es:=by rfl):QX X (.Call (.Name z p) (e::es) [] pos) (gP g fs):=⟨Nk hc.h hg (btM T hv) (btN hv) ha.h hn p9 he j7⟩
theorem xI{t:Ty}(T:Tx X.mg)(hz:btT.lookup z=some (.type t.n))(ha:QO X e fa)(hg:Gl X "isinstance":=by rfl)(fR:Gl X z:=by rfl)(hn:z≠"__name__":=by decide)(p9:DB z:=by decide)
  (s1:SE X e [.Name z p2]:=by rfl)(s2:SE X (.Name z p2) []:=by rfl)(j7:BA X pos [.Name z p2]:=by rfl):
  QX X (.Call (.Name "isinstance" p) [e,.Name z p2] [] pos) (ni (zq [t]) fa):=⟨Qh ha.h hg T.n_isinstance fR (btM T hz) (btN hz) hn p9 Av s1 s2 j7⟩
theorem xU{k:Nat}{ps:iK}{ev:EvF}(O:Oz (zX X) k x ps ev)(hr:Room k X.A)(ha:QA X (e::es) fs)(hg:Gl X x:=by rfl)(p9:DB x:=by decide)
  (he:SE X e es:=by rfl)(j7:BA X pos es:=by rfl):QX X (.Call (.Name x p) (e::es) [] pos) (gH ev fs):=
 let⟨_,_,ok,hm,kp,bi⟩:=O;⟨Nj ok hr hg hm kp bi ha.h p9 he j7⟩
theorem T5{T:String}{mk:List D->D}{o:Bool}(X0:Tx X.mg)(hv:btT.lookup z=some (.type T))(ha:QA X [a,b] [fa,fb])(hT:(T="list"/\mk= .lst/\o=true)\/(T="tuple"/\mk= .tup/\o=false):=by first|exact .inl ⟨rfl,rfl,rfl⟩|exact .inr ⟨rfl,rfl,rfl⟩)(hc:X.calm=true:=by rfl)(hg:Gl X z:=by rfl)(hn:z≠"__name__":=by decide)(p9:DB z:=by decide)(dt:Gl X "range":=by rfl)
  (s1:SE X (.Call (.Name "range" p2) [a,b] [] p3) []:=by rfl)(s2:SE X a [b]:=by rfl)
  (j7:BA X pos []:=by rfl)(bO:BA X p3 [b]:=by rfl):
  QX X (.Call (.Name z p) [.Call (.Name "range" p2) [a,b] [] p3] [] pos) (gP (gRg mk o) [fa,fb]):=⟨P9 hT hc hg (btM X0 hv) (btN hv) hn p9 dt X0.n_range ha.h s1 s2 j7 bO⟩
theorem MV(hv:QO X (.Name x b9) (gu i))(he:QX X e f)(j9:attributeBase (.Name x b9) "append" X.env (eval (.Name x b9) X.env)=eval (.Name x b9) X.env:=by rfl)
  (o8:((backTo pos (starEach [e] X.env)).all (fun x=>!x.1)&&(backToKw pos (keywordEach [] X.env)).all (fun x=>x.1.isSome)&&decide ([e].length+([]:List Keyword).length+(if([]:List Keyword).isEmpty then 0 else 1)<30))=true:=by rfl)
  (j8:(apos.endLine==pos.line)=true:=by rfl)(hs:SE X e []:=by rfl)(i6:BA X pos []:=by rfl):QX X (.Call (.Attribute (.Name x b9) "append" apos) [e] [] pos) (kT i f):=⟨IC hv.h he.h j9 o8 j8 hs i6⟩
theorem T9(hv:QO X (.Name x b9) (gu i))(he:QX X e f)(j9:attributeBase (.Name x b9) "extend" X.env (eval (.Name x b9) X.env)=eval (.Name x b9) X.env:=by rfl)
  (o8:((backTo pos (starEach [e] X.env)).all (fun x=>!x.1)&&(backToKw pos (keywordEach [] X.env)).all (fun x=>x.1.isSome)&&decide ([e].length+([]:List Keyword).length+(if([]:List Keyword).isEmpty then 0 else 1)<30))=true:=by rfl)
  (j8:(apos.endLine==pos.line)=true:=by rfl)(hs:SE X e []:=by rfl)(i6:BA X pos []:=by rfl):QX X (.Call (.Attribute (.Name x b9) "extend" apos) [e] [] pos) (rT i f):=⟨IB hv.h he.h j9 o8 j8 hs i6⟩
theorem T6(hv:QO X (.Name x b9) (gu i))(he:QO X e fo)(j9:attributeBase (.Name x b9) "pop" X.env (eval (.Name x b9) X.env)=eval (.Name x b9) X.env:=by rfl)
  (o8:((backTo pos (starEach [e] X.env)).all (fun x=>!x.1)&&(backToKw pos (keywordEach [] X.env)).all (fun x=>x.1.isSome)&&decide ([e].length+([]:List Keyword).length+(if([]:List Keyword).isEmpty then 0 else 1)<30))=true:=by rfl)
  (j8:(apos.endLine==pos.line)=true:=by rfl)(hs:SE X e []:=by rfl)(i6:BA X pos []:=by rfl):QX X (.Call (.Attribute (.Name x b9) "pop" apos) [e] [] pos) (uE i fo):=⟨KY hv.h he.h j9 o8 j8 hs i6⟩
theorem iR1(T:Tx X.mg)(ha:QA X [a] [fa])(hg:Gl X "range":=by rfl)(hs:starEach [a] X.env=[(false,eval a X.env)]:=by rfl):QI X B tg (.Call (.Name "range" p) [a] [] pos) (uB fa):=⟨F6 hg T.n_range ha.h hs⟩
theorem iR2(T:Tx X.mg)(ha:QA X [a,b] [fa,fb])(hg:Gl X "range":=by rfl)(hs:starEach [a,b] X.env=[(false,eval a X.env),(false,eval b X.env)]:=by rfl)(p8:starEach [b] X.env=[(false,eval b X.env)]:=by rfl):QI X B tg (.Call (.Name "range" p) [a,b] [] pos) (CI fa fb):=⟨F5 hg T.n_range ha.h hs p8⟩
theorem iZ{elts:jF}{k1:Nat}{aa:Pos}(T:Tx X.mg)(ha:QX X a f)(hb:QX X b g)(hg:Gl X "zip":=by rfl)(hs:SE X a [b]:=by rfl)(p8:SE X b []:=by rfl)(j7:BA X pos [b]:=by rfl):
  QI X B (.Tuple elts k1 aa) (.Call (.Name "zip" p) [a,b] [] pos) (xo f g):=⟨NM hg T.n_zip ha.h hb.h hs p8 j7⟩
theorem iS(h:QX X e f):QI X B tg e (hJ f):=⟨NN h.h⟩
theorem gN(hN:X.N.Nodup)(hi:X.N[i]?=some x:=by rfl)(hx:Loc X.env.scope x:=by first|exact Or.inl rfl|exact Or.inr rfl)(hf:X.fn x=true\/X.env.scope.names.lookup x=some .local:=by first|exact Or.inl rfl|exact Or.inr rfl)(ha:A i:=by decide):QG X A (.Name x pos) (gD i):=⟨Lm hN hi hx hf ha⟩
theorem gT{t1 t2:Tg}{k:Nat}(h1:QG X A a t1)(h2:QG X A b t2)(hc:X.calm=true:=by rfl)(q1:(assignEach [a,b] X.env).map (·.2)=assign a X.env::(assignEach [b] X.env).map (·.2):=by rfl)(q2:(assignEach [b] X.env).map (·.2)=assign b X.env::(assignEach [] X.env).map (·.2):=by rfl)
  (hn:(assignEach [a,b] X.env).length=2:=by rfl)(t9:(assignEach [a,b] X.env).findIdx? (·.1)=none:=by rfl):QG X A (.Tuple [a,b] k pos) (xf [t1,t2]):=⟨NS hc (AN h1.h (AN h2.h Ln q2) q1) hn rfl t9⟩
theorem f0:QF X [] iz:=⟨Lk⟩
theorem f1(h:QT X e ft):QF X [e] ft:=⟨Lj h.h⟩
theorem bE{gens:qm}{sc:jV}{d:gz}{n:Nat}(he:QX X e f)(hn:gens[n+1]?=none:=by rfl):QB X A d (.ListComp e gens sc p) n (ig f):=⟨Lw hn he.h⟩
theorem bF{gens:qm}{sc:jV}{d:gz}{n:Nat}{c:oP}{fi:FIt}{tt:Tg}{fb:FB}(hg:gens[n+1]?=some c)(pi:QI X (fun _=>False) c.target c.iter fi)(pg:QG X A c.target tt)(bK:QF X c.ifs ft)(pb:QB X A d (.ListComp e gens sc p) (n+1) fb)(cC:X.xe=fun _ _=>False:=by rfl)(hc:X.calm=true:=by rfl)
  (ha:c.is_async=0:=by rfl)(q9: ∀g',gens[n+1+1]?=some g'->g'.is_async=0:=by intro g' h;cases h;try rfl)(hs: ∀x,foldedSetIterable c.iter X.env x=pure x:=by intro _;rfl):QB X A d (.ListComp e gens sc p) n (GS fi tt ft fb):=⟨NY cC hc (Or.inl ⟨_,_,_,_,rfl⟩) hg ha q9 hs pi.h pg.h bK.h pb.h⟩
theorem cOk{N P:iK}{sc scope:jV}{N':iK}{caps:iM}(S:FnScope N P sc)(h:CU N sc scope N' caps k=true:=by decide+kernel)(hN:X.N=N:=by rfl)(hs:X.env.scope=sc:=by rfl):CompOk X N' scope caps k:=Ms hN hs h
theorem xC{c:oP}{hZ:qm}{elt:gR}{scope:jV}{fi:FIt}{tt:Tg}{ti:FT}{fb:FB}{caps:iM}{N':iK}(C:CompOk X N' scope caps k)(nd:N'.Nodup)(pi:QI X (fun i=>i∉caps) c.target c.iter fi)
  (aH: ∀(cl:qo) (C:gz) (s3:gC) (H3:Hp) (fp:jW) (pins:iq),(X.comp N' scope cl C s3 H3 fp pins).N.Nodup->
   QG (X.comp N' scope cl C s3 H3 fp pins) (fun i=>caps.length<=i) c.target tt/\QF (X.comp N' scope cl C s3 H3 fp pins) c.ifs ti/\ ∀d,QB (X.comp N' scope cl C s3 H3 fp pins) (fun i=>caps.length<=i) d (.ListComp elt (c::hZ) scope pos) 0 fb)
  (hc:X.calm=true:=by rfl)(ha:c.is_async=0:=by rfl)(q9: ∀g',hZ[0]?=some g'->g'.is_async=0:=by intro g' h;cases h;try rfl)(hs: ∀x,foldedSetIterable c.iter X.env x=pure x:=by intro _;rfl):QX X (.ListComp elt (c::hZ) scope pos) (ie caps k fi tt ti fb):=⟨Nt C hc ha q9 hs pi.h fun cl C s3 H3 fp pins=>let⟨a,b,c⟩:=aH cl C s3 H3 fp pins nd;⟨a.h,b.h,fun d=>(c d).h⟩⟩
theorem sC{c:oP}{hZ:qm}{elt:gR}{scope:jV}{fi:FIt}{tt:Tg}{ti:FT}{fb:FB}{caps:iM}{N':iK}{py f9:Pos}(hN:X.N.Nodup)(C:CompOk X N' scope caps k)(nd:N'.Nodup)(pi:QI X (fun i=>i∉caps) c.target c.iter fi)
  (aH: ∀(cl:qo) (C:gz) (s3:gC) (H3:Hp) (fp:jW) (pins:iq),(X.comp N' scope cl C s3 H3 fp pins).N.Nodup->
   QG (X.comp N' scope cl C s3 H3 fp pins) (fun i=>caps.length<=i) c.target tt/\QF (X.comp N' scope cl C s3 H3 fp pins) c.ifs ti/\ ∀d,QB (X.comp N' scope cl C s3 H3 fp pins) (fun i=>caps.length<=i) d (.ListComp elt (c::hZ) scope pos) 0 fb)
  (dQ:swapsWith (.ListComp elt (c::hZ) scope pos) (some (.Name x py)) f9.line X.env=pure true:=by rfl)(hi:X.N[i]?=some x:=by rfl)(hx:X.env.scope.names.lookup x=some .local:=by rfl)(hf:X.fn x=true:=by rfl)(hA:A i:=by decide)
  (hc:X.calm=true:=by rfl)(ha:c.is_async=0:=by rfl)(q9: ∀g',hZ[0]?=some g'->g'.is_async=0:=by intro g' h;cases h;try rfl)(hs: ∀x,foldedSetIterable c.iter X.env x=pure x:=by intro _;rfl):QS X A L H0 (.Assign [.Name x py] (.ListComp elt (c::hZ) scope pos) f9) (iw i (ie caps k fi tt ti fb)):=⟨K8 dQ C hc ha q9 hs pi.h (Hr hN hi (Or.inl hx) (Or.inl hf)) hA fun cl C s3 H3 fp pins=>let⟨a,b,c⟩:=aH cl C s3 H3 fp pins nd;⟨a.h,b.h,fun d=>(c d).h⟩⟩
theorem s0:QQ X A L H0 [] gS:=⟨K9⟩
theorem s1(h:QS X A L H0 S u)(hr:QQ X A L H0 Ss v):QQ X A L H0 (S::Ss) (gE u v):=⟨IH h.h hr.h⟩
theorem sX:QS X A L H0 S wC:=⟨IF⟩
theorem sR(h:QX X e f):QS X A L H0 (.Return (some e) pos) (ji f):=⟨NI h.h⟩
theorem sRV(hl: ¬L i)(h1:X.N[i]?=some x:=by rfl)(h2:Vis X.env.scope x:=by first|exact Or.inl rfl|exact Or.inr (Or.inl rfl)|exact Or.inr (Or.inr rfl))(h3:DB x:=by decide)(h4:(x==("__classdict__":Str))=false:=by decide):QS X A L H0 (.Return (some (.Name x p)) pos) (mZ i):=⟨F1 h1 h2 h3 h4 hl⟩
theorem sE(h:QX X e f)(hs:swapsWith e none pos.line X.env=pure false:=by rfl):QS X A L H0 (.Expr e pos) (nJ f):=⟨K6 h.h hs⟩
theorem sI(hc:QT X c ft)(ha:QQ X A L H0 Ss u)(hb:QQ X A L H0 Ts v):QS X A L H0 (.If c Ss Ts pos) (sIf ft u v):=⟨Qt hc.h ha.h hb.h⟩
theorem sW{n:Nat}(hc:QT X c ft)(hb:QQ X A L H0 Ss u)(hp:PassesOwn (model X.prog X.w) X.A X.env X.xe:=by exact PassesOwn.never):QS X A L H0 (.While c Ss [] pos) (nR ft u n):=⟨IE hp hc.h hb.h⟩
theorem sF{fi:FIt}{t:Tg}(hi:QI X (fun _=>False) tg e fi)(hg:QG X A tg t)(hb:QQ X A L H0 Ss u)(hp:PassesOwn (model X.prog X.w) X.A X.env X.xe:=by exact PassesOwn.never)(hc:X.calm=true:=by rfl)(hs: ∀x,foldedSetIterable e X.env x=pure x:=by intro _;rfl):QS X A L H0 (.For tg e Ss [] pos) (pI fi t u):=⟨NJ hp hc hi.h hg.h hb.h hs⟩
theorem sS(hN:X.N.Nodup)(he:QX X e f)(hi:X.N[i]?=some x:=by rfl)(hx:Loc X.env.scope x:=by first|exact Or.inl rfl|exact Or.inr rfl)(hf:X.fn x=true\/X.env.scope.names.lookup x=some .local:=by first|exact Or.inl rfl|exact Or.inr rfl)(ha:A i:=by decide)(hs:swapsWith e (some (.Name x p)) pos.line X.env=pure false:=by rfl):QS X A L H0 (.Assign [.Name x p] e pos) (iw i f):=⟨NH hN hi hx he.h hs hf ha⟩
theorem sT{t:Tg}{pt:Pos}(he:QX X e f)(hg:QG X A (.Tuple es k pt) t)(hs:swapsWithSole [.Tuple es k pt] e pos.line X.env=pure false:=by rfl)(hw:swappedStores [.Tuple es k pt] e X.env=pure none:=by rfl)(h1:(assignEach [.Tuple es k pt] X.env).map (·.2)=[assign (.Tuple es k pt) X.env]:=by rfl):QS X A L H0 (.Assign [.Tuple es k pt] e pos) (FR t f):=⟨NG he.h hg.h hs hw h1⟩
theorem sIx{f9:Pos}(hv:QO X (.Name x b9) (gu i))(he:QX X e f)(hi:QO X a fo)
  (ha: ∀v,assign (.Subscript (.Name x b9) a f9) X.env v=(do
   let ov <-holding [v] (eval (.Name x b9) X.env)
   let iv <-holding [v,ov] (eval a X.env)
   standAt f9
   holding [v,ov,iv] (setItem ov iv v)
   release [v,ov,iv] []):=by intro _;rfl)
  (hs:swapsWithSole [.Subscript (.Name x b9) a f9] e pos.line X.env=pure false:=by rfl)(hw:swappedStores [.Subscript (.Name x b9) a f9] e X.env=pure none:=by rfl)
  (h1:(assignEach [.Subscript (.Name x b9) a f9] X.env).map (·.2)=[assign (.Subscript (.Name x b9) a f9) X.env]:=by rfl):QS X A L H0 (.Assign [.Subscript (.Name x b9) a f9] e pos) (wD i f fo):=⟨IG hv.h he.h hi.h ha hs hw h1⟩
theorem sDP{f9:Pos}(hu:un X.A 1)(hv:QO X (.Name x b9) (gu i))(he:QX X e f)(hi:QO X a fo)
  (ha: ∀v,assign (.Subscript (.Name x b9) a f9) X.env v=(do
   let ov <-holding [v] (eval (.Name x b9) X.env)
   let iv <-holding [v,ov] (eval a X.env)
   standAt f9
   holding [v,ov,iv] (setItem ov iv v)
   release [v,ov,iv] []):=by intro _;rfl)
  (hs:swapsWithSole [.Subscript (.Name x b9) a f9] e pos.line X.env=pure false:=by rfl)(hw:swappedStores [.Subscript (.Name x b9) a f9] e X.env=pure none:=by rfl)
  (h1:(assignEach [.Subscript (.Name x b9) a f9] X.env).map (·.2)=[assign (.Subscript (.Name x b9) a f9) X.env]:=by rfl):QS X A L H0 (.Assign [.Subscript (.Name x b9) a f9] e pos) (DG i f fo):=⟨K7 hu hv.h he.h hi.h ha hs hw h1⟩
end
def Fz(K:hG)(mg:lu)(x:Str)(st:Stmt):Prop:= ∃f fd,mg x=some (.ref f)/\Fun K x x st f fd
theorem fz{K:hG}{h:hV}{mg:lu}{x:Str}{st:Stmt}{f:gz}{oc:gQ}{od an:Option Addr}{aT:xa}{kV doc pm h8 ct:gQ}(X:K.In h)(G:h.Ns mainGlobals mg)(a:PySem.W.nsIn K mainGlobals x=some (some (.ref f)))
  (l:K.lookup f=some ⟨oc,od,.func (PySem.W.fnOf x x (rX st) (nv st) (gM st) .none kV doc pm an h8 ct),aT⟩)(c:PySem.W.codeIn K h8 x=true)(k:PySem.W.keepIn K (.ref f)=true):Fz K mg x st:=⟨f,_,PySem.W.mg_of X G a,Rq l c k⟩
def BdA(x:Str)(st:Stmt)(ps:iK):Prop:= ∀(kV doc pm:gQ) (an:Option Addr) (h8 ct:gQ) (us:iV),us.length=ps.length->bindArgs (PySem.W.fnOf x x (rX st) (nv st) (gM st) .none kV doc pm an h8 ct) ⟨us,[]⟩=pure (ps.zip us)
theorem scM{N P:iK}{sc:jV}(h1:sc.kind= .function:=by rfl)(h2:sc.isCoroutine=false:=by rfl)(h3:sc.isGenerator=false:=by rfl)(h4:N.Nodup:=by decide+kernel)(h5:N.take P.length=P:=by rfl)(h6: ∀x∈P,sc.names.lookup x=some .local\/sc.names.lookup x=some .cell:=by decide+kernel)(h7: ∀y∈sc.names,y.2≠ .free:=by decide+kernel):FnScope N P sc:=⟨h1,h2,h3,h4,h5,h6,h7⟩
def Bd(Z:ZZ)(k:Nat)(x:Str)(st:Stmt)(N ps:iK)(asg:iM)(fs:FS):Prop:= ∀(f:gz) (h8:gQ) (A:gZ) (outer:List Env) (s:gC) (H:Hp) (E:XK) (L:jq),(∀i,L i->i<ps.length)->Room k (A.deeper (envOfC x (gM st) s.heap.objs.size f h8))->
 un (A.deeper (envOfC x (gM st) s.heap.objs.size f h8)) 60->un (A.deeper (envOfC x (gM st) s.heap.objs.size f h8)) 1->un (A.deeper (envOfC x (gM st) s.heap.objs.size f h8)) 62->un (A.deeper (envOfC x (gM st) s.heap.objs.size f h8)) 90->N.Nodup->
 QQ (En CX0 Z.P Z.w Z.K Z.mg Z.base N x (gM st) f h8 A outer s H E).nox (fun i=>i∈asg) L H (nv st) fs
theorem fnB{Z:ZZ}{k:Nat}{x:Str}{st:Stmt}{N ps:iK}{asg:iM}{fs:FS}{f:gz}{fd:og}(F:Fun Z.K x x st f fd)(S:FnScope N ps (gM st))(hb:Bd Z k x st N ps asg fs):FnOk Z.P Z.w Z.K Z.mg Z.base CX0 (k+1) f fd ps (spF Z.K (evF N.length ps.length asg fs)):=
 Ro F S fun h8 A outer s H E L hL hr=>by
  have:=hr.un;exact(hb f h8 A outer s H E L hL hr (by unfold un;omega) (by unfold un;omega) (by unfold un;omega) (by unfold un;omega) S.nd).h
theorem ozB{Z:ZZ}{k:Nat}{x:Str}{st:Stmt}{N ps:iK}{asg:iM}{fs:FS}(a:Fz Z.K Z.mg x st)(S:FnScope N ps (gM st))(b:BdA x st ps)(hb:Bd Z k x st N ps asg fs):Oz Z (k+1) x ps (evF N.length ps.length asg fs):=
 let⟨f,fd,m,F⟩:=a;⟨f,fd,fnB F S hb,m,F.kp,F.binds b⟩
theorem us0{P:List Value->Prop}(h:P []): ∀us:List Value,us.length=0->P us:=fun us e=>by cases us with|nil=>exact h|cons a l=>cases e
theorem us1{P:List Value->Prop}{n:Nat}(h: ∀a,∀us:List Value,us.length=n->P (a::us)): ∀us:List Value,us.length=n+1->P us:=fun us e=>by cases us with|nil=>cases e|cons a l=>exact h a l (Nat.succ.inj e)
theorem fzL{K:hG}{mg:lu}{x y:Str}{st:Stmt}{fa:gz}(a:Fz K mg x st)(fV:mg x=some (.ref fa))(b:BdA x st [y]): ∃fd,Fun K x x st fa fd/\ ∀(s:gC) (v:gQ),BindsTo s fd ⟨[v],[]⟩ [(y,v)]:=by
 obtain⟨f,fd,m,F⟩:=a;have e:=fV.symm.trans m;cases e;obtain⟨oc,od,kV,doc,pm,an,h8,ct,aT,e,_⟩:=F.ex;exact⟨fd,F,fun s v=>by subst e;exact .of_eq (b kV doc pm an h8 ct [v] rfl)⟩
theorem mgI{K:hG}{h:hV}{mg:lu}{x:Str}{i:Int}{t:Tok}(X:K.In h)(G:h.Ns mainGlobals mg)(a:PySem.W.nsIn K mainGlobals x=some (some (.int i t))): ∃t,mg x=some (.int i t):=⟨t,PySem.W.mg_of X G a⟩
theorem txK{K:hG}{h:hV}{mg:lu}(X:K.In h)(G:h.Ns mainGlobals mg)(z0:PySem.W.nsIn K mainGlobals "len"=some none)(z1:PySem.W.nsIn K mainGlobals "abs"=some none)(z2:PySem.W.nsIn K mainGlobals "int"=some none)(z3:PySem.W.nsIn K mainGlobals "tuple"=some none)(z4:PySem.W.nsIn K mainGlobals "list"=some none)(z5:PySem.W.nsIn K mainGlobals "range"=some none)(z6:PySem.W.nsIn K mainGlobals "isinstance"=some none)(z7:PySem.W.nsIn K mainGlobals "bool"=some none)(z8:PySem.W.nsIn K mainGlobals "max"=some none)(z9:PySem.W.nsIn K mainGlobals "min"=some none)(z10:PySem.W.nsIn K mainGlobals "all"=some none)(z11:PySem.W.nsIn K mainGlobals "any"=some none)(z12:PySem.W.nsIn K mainGlobals "sorted"=some none)(z13:PySem.W.nsIn K mainGlobals "enumerate"=some none)(z14:PySem.W.nsIn K mainGlobals "zip"=some none)(z15:PySem.W.nsIn K mainGlobals "set"=some none):Tx mg:=⟨mM X G z0,mM X G z1,mM X G z2,mM X G z3,mM X G z4,mM X G z5,mM X G z6,mM X G z7,mM X G z8,mM X G z9,mM X G z10,mM X G z11,mM X G z12,mM X G z13,mM X G z14,mM X G z15⟩
theorem walkG{l:PySem.W.OpenLaw}{q:hW}{loose:iK}{XP:(Str->Option Value)->Heap->Prop}{YP:World->Heap->Prop}{d:DefRec}{K:Params->PySem.W.Frag}{LV:Nat}{x:Str}{ev:EvF}(hk:Room LV callerA)(hn:l.most=some 63)(dZ:d.params.defaults=[])(hY: ∀(w:gU) (h:hV),YP w h->(K w.params).In h)
  (F: ∀(w:gU) (mg:lu) (fa:gz) (h:hV),(K w.params).In h->h.Ns mainGlobals mg->mg d.name=some (.ref fa)-> ∃fd:FuncData,(∀(s:gC) (u:gQ),BindsTo s fd ⟨[u],[]⟩ [(x,u)])/\ ∀base:Heap,(K w.params).In base->base.Ns mainGlobals mg->FnOk l.prog w (K w.params) mg base CX0 LV fa fd [x] (spF (K w.params) ev))
  (M: ∀ns:List Int,ns.length<=63-> ∃o outs,ev [(.lst (ns.map .int),false)]=some ((.bl true,o),outs)):PySem.W.WalkO q loose XP YP l.row.toRowW d [] (fun f vs=>PySem.call f vs):=
 L2.RZ (n:=63) (k:=LV) (x:=x) (CX:=fun _=>CX0) (sp:=fun w=>spF (K w.params) ev) hn (by decide) dZ hk hY F (fun _ _ a ns hl _ hS=>by obtain⟨o,outs,e⟩:=M ns hl;exact Rg hS e) fun _ _ _ _ _ z=>z
end PX
namespace PV
open PySem PySem.Spec PyProof.Rows L2 PX
abbrev Tz:Nat:=100000
def qU:FS:=(gE (ji (vH (ni (zq [.int]) (gu 0)) (Oo (ni (zq [.bool]) (gu 0))))) gS)
def mz:EvF:=evF 1 1 [] qU
def nh:FS:=(gE (ji (vH (gH mz [(gu 0)]) (nS .LtE .LtE (gu 1) (gu 0) (gu 2)))) gS)
def jP:EvF:=evF 3 3 [] nh
def uD:FS:=(gE (ji (gH jP [(gu 1),(gw (fC (.int 1))),(gu 0)])) gS)
def lq:EvF:=evF 2 2 [] uD
def pO:FS:=(gE (ji (vH (gH mz [(gu 1)]) (gH lq [(gu 0),(gw (gP (g1 oN) [(gu 1)]))]))) gS)
def lT:EvF:=evF 2 2 [] pO
def lF:FS:=(gE (sIf (fT (gB (jE .Lt) (gu 1) (gw (gP (g1 nP) [(gu 0)])))) (gE (ji (gB gIx (gu 0) (gu 1))) gS) gS) (gE (ji (fC (.int 0))) gS))
def kM:EvF:=evF 2 2 [] lF
def ng:FS:=(gE (iw 2 (gH kM [(gu 0),(gu 1)])) (gE (sIf (fT (gB (jE .GtE) (gu 2) (gw (gB Jj (gw (fC (.int 10))) (gw (fC (.int 18))))))) (gE (ji (lK [(gB gSub (gu 2) (gw (gB Jj (gw (fC (.int 10))) (gw (fC (.int 18)))))),(fC (.bl true))])) gS) gS) (gE (ji (lK [(gB vA (gu 2) (gw (fC (.int 2147483647)))),(fC (.bl false))])) gS)))
def kU:EvF:=evF 3 2 [2] ng
def oK:FS:=(gE (sIf (fT (gB gIx (gu 0) (gw (fC (.int 1))))) (gE (iw 2 (gB vA (gw (gB gIx (gu 0) (gw (fC (.int 0))))) (gu 1))) (gE (wD 0 (gB Mh (gw (gB gIx (gu 0) (gw (fC (.int 0))))) (gu 1)) (gw (fC (.int 0)))) (gE (mZ 2) gS))) gS) (gE (wD 0 (gB vA (gw (gB ju (gw (gB qk (gw (gB gIx (gu 0) (gw (fC (.int 0))))) (gw (fC (.int 48271))))) (gw (fC (.int 29))))) (gw (fC (.int 2147483647)))) (gw (fC (.int 0)))) (gE (iw 3 (gB vA (gw (gB ju (gw (gB ju (gw (gB qk (gw (gB gIx (gu 0) (gw (fC (.int 0))))) (gw (gB gIx (gu 0) (gw (fC (.int 0))))))) (gw (gB qk (gw (fC (.int 39373))) (gw (gB gIx (gu 0) (gw (fC (.int 0))))))))) (gw (fC (.int 7))))) (gw (fC (.int 2147483629))))) (gE (iw 3 (gB vA (gw (gB ju (gw (gB qk (gu 3) (gu 3))) (gw (gB qk (gw (fC (.int 16807))) (gu 3))))) (gw (fC (.int 2147483587))))) (gE (ji (gB vA (gw (gB Mh (gu 3) (gw (fC (.int 8))))) (gu 1))) gS)))))
def gK:EvF:=evF 4 2 [2,3] oK
def qT:FS:=(gE (iw 2 (gP (gRg .lst true) [(gw (fC (.int 1))),(gw (gB ju (gu 1) (gw (fC (.int 1)))))])) (gE (iw 3 (lK [])) (gE (pI (uB (gu 1)) (gD 4) (gE (nJ (kT 3 (gB qk (gw (uE 2 (gw (gH gK [(gu 0),(gw (gP (g1 nP) [(gu 2)]))])))) (gw (gB gIx (gw (lK [(fC (.int 1)),(ni wO (gw (fC (.int 1))))])) (gw (gH gK [(gu 0),(gw (fC (.int 2)))]))))))) gS)) (gE (ji (gP (g1 kh) [(gu 3)])) gS))))
def kL:EvF:=evF 5 2 [2,3,4] qT
def uC:FS:=(gE (ji (vH (ni (zq [.tuple]) (gu 0)) (gB gEq (gw (gP (g1 nP) [(gu 0)])) (gw (fC (.int 2)))))) gS)
def pR:EvF:=evF 1 1 [] uC
def vD:FS:=(gE (ji (gP (g1 xN) [(gw (ie [] 2 (xo (hU 0) (tE (gu 0) (gw (fC (.int 1))))) (xf [(gD 0),(gD 1)]) iz (ig (gB (jE .Lt) (gu 0) (gu 1)))))])) gS)
def nk:EvF:=evF 1 1 [] vD
def vF:FS:=(gE (sIf (Aq (lj (fT (ni (zq [.tuple]) (gu 1)))) (lj (fT (nS .LtE .LtE (gw (fC (.int 1))) (gw (gP (g1 nP) [(gu 1)])) (gw (fC (.int 5))))))) (gE (ji (fC (.bl false))) gS) gS) (gE (sIf (lj (fT (gP (g1 xN) [(gw (ie [0] 1 (hJ (hU 1)) (gD 1) iz (ig (gH lT [(gu 0),(gu 1)]))))]))) (gE (ji (fC (.bl false))) gS) gS) (gE (ji (gH nk [(gw (ie [] 1 (hJ (hU 1)) (gD 0) iz (ig (gP (g1 oN) [(gu 0)]))))])) gS)))
def nu:EvF:=evF 2 2 [] vF
def qV:FS:=(gE (sIf (Aq (lj (fT (ni (zq [.tuple]) (gu 1)))) (fT (gB (jE .Gt) (gw (gP (g1 nP) [(gu 1)])) (gw (fC (.int 30)))))) (gE (ji (fC (.bl false))) gS) gS) (gE (ji (vH (gP (g1 xN) [(gw (ie [0] 1 (hJ (hU 1)) (gD 1) iz (ig (gH nu [(gu 0),(gu 1)]))))]) (gH nk [(gu 1)]))) gS))
def nW:EvF:=evF 2 2 [] qV
def vE:FS:=(gE (sIf (lj (fT (gH pR [(gu 0)]))) (gE (ji (fC (.bl false))) gS) gS) (gE (FR (xf [(gD 1),(gD 2)]) (hU 0)) (gE (ji (vH (gH jP [(gu 1),(gw (fC (.int 0))),(gw (fC (.int 5)))]) (gH nW [(gu 1),(gu 2)]))) gS)))
def pQ:EvF:=evF 3 1 [1,2] vE
def tD:FS:=(gE (iw 2 (gB gIx (gw (lK [(fC (.int 3)),(fC (.int 4)),(fC (.int 6))])) (gw (gH gK [(gu 0),(gw (fC (.int 3)))])))) (gE (iw 3 (lK [])) (gE (pI (CI (gw (fC (.int 1))) (gw (gB ju (gu 1) (gw (fC (.int 1)))))) (gD 4) (gE (iw 5 (gH gK [(gu 0),(gu 2)])) (gE (sIf (fT (gB (jE .Lt) (gu 5) (gw (fC (.int 2))))) (gE (nJ (kT 3 (gB gIx (gw (lK [(hU 4),(ni wO (gu 4))])) (gu 5)))) gS) gS) gS))) (gE (sIf (fT (gB gEq (gu 3) (gw (lK [])))) (gE (nJ (kT 3 (gB qk (gw (gB gIx (gw (lK [(fC (.int 1)),(ni wO (gw (fC (.int 1))))])) (gw (gH gK [(gu 0),(gw (fC (.int 2)))])))) (gw (gB ju (gw (fC (.int 1))) (gw (gH gK [(gu 0),(gu 1)]))))))) gS) gS) (gE (ji (gP (g1 kh) [(gu 3)])) gS)))))
def kr:EvF:=evF 6 2 [2,3,4,5] tD
def mI:FS:=(gE (ji (gB qk (gw (gB gIx (gu 0) (gw (gB gSub (gw (gP (g1 oN) [(gu 1)])) (gw (fC (.int 1))))))) (gw (gB gIx (gw (lK [(ni wO (gw (fC (.int 1)))),(fC (.int 1))])) (gw (gP (g1 Mg) [(gw (gB (jE .Gt) (gu 1) (gw (fC (.int 0)))))])))))) gS)
def kn:EvF:=evF 2 2 [] mI
def oM:FS:=(gE (iw 2 Mk) (gE (pI (hJ (hU 1)) (gD 3) (gE (iw 4 (gH kn [(gu 0),(gu 3)])) (gE (DG 2 (hU 4) (gw (gP (g1 oN) [(gu 4)]))) gS))) (gE (ji (gP (g1 kh) [(gw (ie [2] 1 (hJ (gP (g1 jf) [(gu 2)])) (gD 1) iz (ig (gB Ef (gu 0) (gu 1)))))])) gS)))
def jO:EvF:=evF 5 2 [2,3,4] oM
def tx:FS:=(gE (iw 2 (gP (g1 HI) [(gu 0)])) (gE (iw 3 (fC (.int 0))) (gE (nR (fT (gB (jE .Lt) (gu 3) (gw (gP (g1 nP) [(gu 2)])))) (gE (pI (hJ (hU 1)) (gD 4) (gE (iw 5 (gH jO [(gu 4),(gw (gB gIx (gu 2) (gu 3)))])) (gE (sIf (fT (gB mH (gu 5) (gu 2))) (gE (nJ (kT 2 (hU 5))) gS) gS) gS))) (gE (iw 3 (gB ju (gu 3) (gw (fC (.int 1))))) gS)) Tz) (gE (mZ 2) gS))))
def mh:EvF:=evF 6 2 [2,3,4,5] tx
def tw:FS:=(gE (iw 3 (gB ju (gu 1) (gw (gH gK [(gu 0),(gw (gB ju (gw (gB gSub (gu 2) (gu 1))) (gw (fC (.int 1)))))])))) (gE (iw 4 (gH gK [(gu 0),(gw (fC (.int 4)))])) (gE (sIf (fT (gB gEq (gu 3) (gw (fC (.int 0))))) (gE (ji (jN [(fC (.int 0)),(jN [])])) gS) gS) (gE (iw 5 (gH gK [(gu 0),(gw (gB gIx (gw (lK [(fC (.int 4)),(fC (.int 8)),(fC (.int 13))])) (gw (gH gK [(gu 0),(gw (fC (.int 3)))]))))])) (gE (iw 6 (ie [0,3] 1 (uB (gu 5)) (gD 2) iz (ig (gH kr [(gu 0),(gu 1)])))) (gE (sIf (fT (gB (jE .Gt) (gu 4) (gw (fC (.int 0))))) (gE (iw 7 (ie [0,3] 1 (uB (gw (gB ju (gw (fC (.int 1))) (gw (gB vA (gu 4) (gw (fC (.int 2)))))))) (gD 2) iz (ig (gH kL [(gu 0),(gu 1)])))) (gE (sIf (fT (gB gEq (gu 4) (gw (fC (.int 3))))) (gE (iw 7 (ie [] 1 (hJ (hU 7)) (gD 0) iz (ig (gP (g1 kh) [(gw (ie [] 1 (hJ (hU 0)) (gD 0) iz (ig (gP (g1 oN) [(gu 0)]))))])))) gS) gS) (gE (iw 6 (gH mh [(gw (qg (gw (gP (g1 jf) [(gw (gP (g1 xM) [(gu 6)]))])) (gw (fC (.int 2))))),(gu 7)])) gS))) gS) (gE (iw 6 (gP (g1 jf) [(gw (gP (g1 xM) [(gu 6)]))])) (gE (sIf (fT (gB (jE .Gt) (gw (gP (g1 nP) [(gu 6)])) (gw (fC (.int 30))))) (gE (iw 6 (qg (gu 6) (gw (gH gK [(gu 0),(gw (fC (.int 30)))])))) gS) gS) (gE (ji (jN [(hU 3),(gP (g1 kh) [(gu 6)])])) gS)))))))))
def mf:EvF:=evF 8 3 [3,4,5,6,7] tw
def wR:FS:=(gE (ji (gH jP [(gu 0),(gw (fC (.int 0))),(gw (fC (.int 1)))])) gS)
def lU:EvF:=evF 1 1 [] wR
def pP:FS:=(gE (ji (vH (ni (zq [.tuple]) (gu 1)) (vH (gB gEq (gw (gP (g1 nP) [(gu 1)])) (gu 0)) (gP (g1 xN) [(gw (ie [] 1 (hJ (hU 1)) (gD 0) iz (ig (gH lU [(gu 0)]))))])))) gS)
def lH:EvF:=evF 2 2 [] pP
def zt:FS:=(gE (ji (gB gEq (gw (gB gIx (gu 0) (gw (gB gSub (gw (gP (g1 oN) [(gu 1)])) (gw (fC (.int 1))))))) (gw (fIf (fT (gB (jE .Gt) (gu 1) (gw (fC (.int 0))))) (fC (.int 1)) (fC (.int 0)))))) gS)
def vI:EvF:=evF 2 2 [] zt
def qf:FS:=(gE (ji (gP (g1 Gv) [(gw (ie [0] 1 (hJ (hU 1)) (gD 1) iz (ig (gH vI [(gu 0),(gu 1)]))))])) gS)
def mJ:EvF:=evF 2 2 [] qf
def Eg:FS:=(gE (FR (xf [(gD 2),(gD 3)]) (hU 0)) (gE (ji (vH (gH lH [(gu 2),(gu 1)]) (gP (g1 xN) [(gw (ie [1] 1 (hJ (hU 3)) (gD 1) iz (ig (gH mJ [(gu 0),(gu 1)]))))]))) gS))
def nV:EvF:=evF 4 2 [2,3] Eg
def qW:FS:=(gE (iw 1 (lK [(jN [])])) (gE (pI (uB (gu 0)) (gD 2) (gE (iw 1 (ie [] 2 (hJ (hU 1)) (gD 0) iz (GS (hJ (jN [(fC (.int 0)),(fC (.int 1))])) (gD 1) iz (ig (gB ju (gu 0) (gw (jN [(hU 1)]))))))) gS)) (gE (mZ 1) gS)))
def kN:EvF:=evF 3 1 [1,2] qW
def zu:FS:=(gE (ji (ie [0] 1 (hJ (gH kN [(gw (gB gIx (gu 0) (gw (fC (.int 0)))))])) (gD 1) (fT (gH nV [(gu 0),(gu 1)])) (ig (hU 1)))) gS)
def jS:EvF:=evF 1 1 [] zu
def wQ:FS:=(gE (ji (gB gEq (gw (gB gIx (gu 0) (gw (gB gSub (gw (gP (g1 oN) [(gu 1)])) (gw (fC (.int 1))))))) (gw (gP (g1 Mg) [(gw (gB (jE .Gt) (gu 1) (gw (fC (.int 0)))))])))) gS)
def rV:EvF:=evF 2 2 [] wQ
def mU:FS:=(gE (ji (gP (g1 Gv) [(gw (ie [0] 1 (hJ (hU 1)) (gD 1) iz (ig (gH rV [(gu 0),(gu 1)]))))])) gS)
def jw:EvF:=evF 2 2 [] mU
def nQ:FS:=(gE (iw 1 (lK [(jN [])])) (gE (pI (uB (gu 0)) (gD 2) (gE (iw 3 (lK [])) (gE (pI (hJ (hU 1)) (gD 4) (gE (nJ (rT 3 (ie [4] 1 (hJ (jN [(fC (.int 0)),(fC (.int 1))])) (gD 1) iz (ig (gB ju (gu 0) (gw (jN [(hU 1)]))))))) gS)) (gE (iw 1 (hU 3)) gS)))) (gE (mZ 1) gS)))
def jI:EvF:=evF 5 1 [1,2,3,4] nQ
def oJ:FS:=(gE (sIf (fT (gB (jE .Lt) (gw (gP (g1 oN) [(gu 0)])) (gu 1))) (gE (ji (hU 0)) gS) gS) (gE (ji (fIf (fT (gB (jE .Gt) (gu 0) (gw (fC (.int 0))))) (gB gSub (gu 0) (gw (fC (.int 1)))) (gB ju (gu 0) (gw (fC (.int 1)))))) gS))
def lr:EvF:=evF 2 2 [] oJ
def qe:FS:=(gE (ji (gP (g1 kh) [(gw (ie [1] 1 (hJ (hU 0)) (gD 1) (fT (gB gNe (gw (gP (g1 oN) [(gu 1)])) (gu 0))) (ig (gH lr [(gu 1),(gu 0)]))))])) gS)
def km:EvF:=evF 2 2 [] qe
def xp:FS:=(gE (FR (xf [(gD 3),(gD 4)]) (hU 0)) (gE (sIf (lj (fT (gH lq [(gu 3),(gu 1)]))) (gE wC gS) gS) (gE (sIf (lj (fT (gH lU [(gu 2)]))) (gE wC gS) gS) (gE (iw 5 (fIf (fT (gB gEq (gu 2) (gw (fC (.int 1))))) (hU 1) (ni wO (gu 1)))) (gE (iw 6 (ie [1,5] 1 (hJ (hU 4)) (gD 2) (fT (gB mH (gu 1) (gu 2))) (ig (gH km [(gu 2),(gu 0)])))) (gE (sIf (fT (gB gIn (gw (jN [])) (gu 6))) (gE (ji (fC .non)) gS) gS) (gE (ji (jN [(gB gSub (gu 3) (gw (fC (.int 1)))),(gP (g1 kh) [(gw (gP (g1 jf) [(gw (gP (g1 xM) [(gu 6)]))]))])])) gS)))))))
def kd:EvF:=evF 7 3 [3,4,5,6] xp
def mT:FS:=(gE (iw 3 (ie [2,1] 1 (hJ (gH jS [(gu 0)])) (gD 2) (fT (gB gEq (gw (gB gIx (gu 2) (gw (gB gSub (gu 1) (gw (fC (.int 1))))))) (gu 0))) (ig (hU 2)))) (gE (iw 4 (gH kd [(gu 0),(gu 1),(gu 2)])) (gE (sIf (fT (gB gIs (gu 4) (gw (fC .non)))) (gE (ji (gB gEq (gu 3) (gw (lK [])))) gS) gS) (gE (sIf (Aq (fT (gB Mf (gw (gH pQ [(gu 4)])) (gw (fC (.bl true))))) (fT (gB gNe (gw (gB gIx (gu 4) (gw (fC (.int 0))))) (gw (gB gSub (gw (gB gIx (gu 0) (gw (fC (.int 0))))) (gw (fC (.int 1)))))))) (gE (ji (fC (.bl false))) gS) gS) (gE (ji (gB gEq (gu 3) (gw (ie [2,1] 1 (hJ (gH jS [(gu 4)])) (gD 2) iz (ig (gB ju (gw (gB ju (gw (qg (gu 2) (gw (gB gSub (gu 1) (gw (fC (.int 1))))))) (gw (jN [(hU 0)])))) (gw (tE (gu 2) (gw (gB gSub (gu 1) (gw (fC (.int 1))))))))))))) gS)))))
def jv:EvF:=evF 5 3 [3,4] mT
def vC:FS:=(gE (iw 4 (gH kd [(gu 0),(gu 1),(gw (gB gIx (gu 3) (gw (fC (.int 0)))))])) (gE (iw 5 (gH kd [(gu 0),(gu 2),(gw (gB gIx (gu 3) (gw (fC (.int 1)))))])) (gE (iw 4 (fIf (fT (gB gIs (gu 4) (gw (fC .non)))) (hU 4) (gH kd [(gu 4),(gw (gB gSub (gu 2) (gw (fC (.int 1))))),(gw (gB gIx (gu 3) (gw (fC (.int 1)))))]))) (gE (iw 5 (fIf (fT (gB gIs (gu 5) (gw (fC .non)))) (hU 5) (gH kd [(gu 5),(gu 1),(gw (gB gIx (gu 3) (gw (fC (.int 0)))))]))) (gE (ji (gB gEq (gu 4) (gu 5))) gS)))))
def nj:EvF:=evF 6 4 [4,5] vC
def zr:FS:=(gE (pI (uB (gw (gP (g2 Me) [(gw (fC (.int 1))),(gw (gP (g2 Md) [(gw (gP (g1 nP) [(gu 0)])),(gw (fC (.int 6)))]))]))) (gD 1) (gE (iw 2 (gH kU [(gu 0),(gu 1)])) (gE (iw 3 (gH mf [(gu 2),(gw (fC (.int 0))),(gw (fC (.int 5)))])) (gE (iw 4 (gB gIx (gu 3) (gw (fC (.int 0))))) (gE (iw 5 (gH jS [(gu 3)])) (gE (sIf (fT (gB gNe (gu 5) (gw (ie [3] 1 (hJ (gH jI [(gu 4)])) (gD 1) (fT (gH nV [(gu 0),(gu 1)])) (ig (hU 1)))))) (gE (ji (fC (.bl false))) gS) gS) (gE (pI (CI (gw (fC (.int 1))) (gw (gB ju (gu 4) (gw (fC (.int 1)))))) (gD 6) (gE (sIf (lj (fT (gP (g1 xN) [(gw (ie [3,6] 1 (hJ (jN [(fC (.int 0)),(fC (.int 1))])) (gD 2) iz (ig (gH jv [(gu 0),(gu 1),(gu 2)]))))]))) (gE (ji (fC (.bl false))) gS) gS) gS)) (gE (sIf (fT (gB (jE .Gt) (gu 4) (gw (fC (.int 1))))) (gE (iw 6 (gB ju (gw (fC (.int 1))) (gw (gH gK [(gu 2),(gw (gB gSub (gu 4) (gw (fC (.int 1)))))])))) (gE (iw 7 (gB ju (gw (gB ju (gu 6) (gw (fC (.int 1))))) (gw (gH gK [(gu 2),(gw (gB gSub (gu 4) (gu 6)))])))) (gE (sIf (lj (fT (gH nj [(gu 3),(gu 6),(gu 7),(gw (jN [(gH gK [(gu 2),(gw (fC (.int 2)))]),(gH gK [(gu 2),(gw (fC (.int 2)))])]))]))) (gE (ji (fC (.bl false))) gS) gS) gS))) gS) (gE (sIf (tH (fT (gB (jE .Gt) (gu 4) (gw (fC (.int 0))))) (fT (gB (jE .Lt) (gw (gP (g1 nP) [(gw (gB gIx (gu 3) (gw (fC (.int 1)))))])) (gw (fC (.int 30)))))) (gE (iw 8 (gH kr [(gu 2),(gu 4)])) (gE (iw 9 (jN [(hU 4),(gP (g1 kh) [(gw (gP (g1 jf) [(gw (gP (g1 xM) [(gw (gB ju (gw (gB gIx (gu 3) (gw (fC (.int 1))))) (gw (jN [(hU 8)]))))]))]))])])) (gE (sIf (fT (gB gNe (gw (gH jS [(gu 9)])) (gw (ie [8] 1 (hJ (hU 5)) (gD 1) (fT (gH jw [(gu 1),(gu 0)])) (ig (hU 1)))))) (gE (ji (fC (.bl false))) gS) gS) gS))) gS) gS))))))))) (gE (ji (fC (.bl true))) gS))
def tJ:EvF:=evF 10 1 [1,2,3,4,5,6,7,8,9] zr
end PV
namespace K14
open PySem PySem.Spec PyProof.Rows L2 PX PV
def top(i:Nat):Stmt:=PySem.Challenge.pw_twinriddles_k14_whole_answers.main.body.getD i (.Pass ⟨0,0,0,0⟩)
section
variable {Z:ZZ}{k:Nat}
abbrev pH:Stmt:=top 8
theorem DE:FnScope ["thing"] ["thing"] (gM pH):=scM
abbrev uy(Z:ZZ)(k:Nat):Prop:=Oz Z k "is_whole" ["thing"] mz
theorem EE:BdA "is_whole" pH ["thing"]:=fun _ _ _ _ _ _=>us1 fun _=>us0 rfl
theorem DU(a:Fz Z.K Z.mg "is_whole" pH)(T:Tx Z.mg):uy Z (k+1):=by
 have S:=DE;refine ozB (asg:=[]) (fs:=qU) a S EE fun f h8 A outer s H E L hL hr hu l7 l6 l8 nd=>?_;exact(s1 (sR (B8 (xI T rfl xV) (xBo (T7 (xI T rfl xV))))) s0)
abbrev ox:Stmt:=top 9
theorem Ck:FnScope ["thing","least","most"] ["thing","least","most"] (gM ox):=scM
abbrev oE(Z:ZZ)(k:Nat):Prop:=Oz Z k "is_number" ["thing","least","most"] jP
theorem C3:BdA "is_number" ox ["thing","least","most"]:=fun _ _ _ _ _ _=>us1 fun _=>us1 fun _=>us1 fun _=>us0 rfl
theorem Cw(a:Fz Z.K Z.mg "is_number" ox)(T:Tx Z.mg)(m9:uy Z k):oE Z (k+1):=by
 have S:=Ck;refine ozB (asg:=[]) (fs:=nh) a S C3 fun f h8 A outer s H E L hL hr hu l7 l6 l8 nd=>?_;exact(s1 (sR (B8 (xU m9 hr (xA xV xA0)) (xBo (xCh xV xV xV)))) s0)
abbrev ve:Stmt:=top 10
theorem Iw:FnScope ["thing"] ["thing"] (gM ve):=scM
abbrev zd(Z:ZZ)(k:Nat):Prop:=Oz Z k "is_bit" ["thing"] lU
theorem Jp:BdA "is_bit" ve ["thing"]:=fun _ _ _ _ _ _=>us1 fun _=>us0 rfl
theorem IU(a:Fz Z.K Z.mg "is_bit" ve)(T:Tx Z.mg)(i8:oE Z k):zd Z (k+1):=by
 have S:=Iw;refine ozB (asg:=[]) (fs:=wR) a S Jp fun f h8 A outer s H E L hL hr hu l7 l6 l8 nd=>?_;exact(s1 (sR (xU i8 hr (xA xV (xA (xO x3) (xA (xO x3) xA0))))) s0)
abbrev rJ:Stmt:=top 11
theorem FP:FnScope ["names","thing"] ["names","thing"] (gM rJ):=scM
abbrev wH(Z:ZZ)(k:Nat):Prop:=Oz Z k "is_name" ["names","thing"] lq
theorem GQ:BdA "is_name" rJ ["names","thing"]:=fun _ _ _ _ _ _=>us1 fun _=>us1 fun _=>us0 rfl
theorem Gd(a:Fz Z.K Z.mg "is_name" rJ)(T:Tx Z.mg)(i8:oE Z k):wH Z (k+1):=by
 have S:=FP;refine ozB (asg:=[]) (fs:=uD) a S GQ fun f h8 A outer s H E L hL hr hu l7 l6 l8 nd=>?_;exact(s1 (sR (xU i8 hr (xA xV (xA (xO x3) (xA xV xA0))))) s0)
abbrev rG:Stmt:=top 12
theorem FL:FnScope ["names","thing"] ["names","thing"] (gM rG):=scM
abbrev AS(Z:ZZ)(k:Nat):Prop:=Oz Z k "is_sign" ["names","thing"] lT
theorem GO:BdA "is_sign" rG ["names","thing"]:=fun _ _ _ _ _ _=>us1 fun _=>us1 fun _=>us0 rfl
theorem Ga(a:Fz Z.K Z.mg "is_sign" rG)(T:Tx Z.mg)(m9:uy Z k)(p7:wH Z k):AS Z (k+1):=by
 have S:=FL;refine ozB (asg:=[]) (fs:=pO) a S GO fun f h8 A outer s H E L hL hr hu l7 l6 l8 nd=>?_;exact(s1 (sR (B8 (xU m9 hr (xA xV xA0)) (xBo (xU p7 hr (xA xV (xA (xO (xB T rfl ⟨kW⟩ (xA xV xA0))) xA0)))))) s0)
abbrev rH:Stmt:=top 13
theorem FN:FnScope ["thing"] ["thing"] (gM rH):=scM
abbrev AU(Z:ZZ)(k:Nat):Prop:=Oz Z k "is_pair" ["thing"] pR
theorem GP:BdA "is_pair" rH ["thing"]:=fun _ _ _ _ _ _=>us1 fun _=>us0 rfl
theorem Gb(a:Fz Z.K Z.mg "is_pair" rH)(T:Tx Z.mg):AU Z (k+1):=by
 have S:=FN;refine ozB (asg:=[]) (fs:=uC) a S GP fun f h8 A outer s H E L hL hr hu l7 l6 l8 nd=>?_;exact(s1 (sR (B8 (xI T rfl xV) (xBo (Ac ⟨(mG hu)⟩ (xO (xB T rfl ⟨ku⟩ (xA xV xA0))) (xO x3))))) s0)
abbrev ot:Stmt:=top 14
theorem Ci:FnScope ["things"] ["things"] (gM ot):=scM
abbrev qR(Z:ZZ)(k:Nat):Prop:=Oz Z k "is_rising" ["things"] nk
theorem C1:BdA "is_rising" ot ["things"]:=fun _ _ _ _ _ _=>us1 fun _=>us0 rfl
theorem Cu(a:Fz Z.K Z.mg "is_rising" ot)(T:Tx Z.mg):qR Z (k+1):=by
 have S:=Ci;refine ozB (asg:=[]) (fs:=vD) a S C1 fun f h8 A outer s H E L hL hr hu l7 l6 l8 nd=>?_;exact(s1 (sR (xB T rfl ⟨(ny rfl)⟩ (xA (xO (by exact xC (N':=["one","other"]) (cOk S) (by decide+kernel) (iZ T xW (RX xV (xO x3))) fun _ _ _ _ _ _ nd=>⟨(gT (gN nd) (gN nd)),f0,fun _=>bE (Ac ⟨(jT (.inl rfl) hu)⟩ xV xV)⟩)) xA0))) s0)
abbrev oy:Stmt:=top 15
theorem Cm:FnScope ["names","thing"] ["names","thing"] (gM oy):=scM
abbrev xk(Z:ZZ)(k:Nat):Prop:=Oz Z k "is_clause" ["names","thing"] nu
theorem C4:BdA "is_clause" oy ["names","thing"]:=fun _ _ _ _ _ _=>us1 fun _=>us1 fun _=>us0 rfl
theorem Cy(a:Fz Z.K Z.mg "is_clause" oy)(T:Tx Z.mg)(l3: ∃t,Z.mg "MOST_SIGNS"=some (.int 5 t))(O_is_sign:AS Z k)(m6:qR Z k):xk Z (k+1):=by
 have S:=Cm;refine ozB (asg:=[]) (fs:=vF) a S C4 fun f h8 A outer s H E L hL hr hu l7 l6 l8 nd=>?_;exact(s1 (sI (tW (wOr (tNot (xw (xI T rfl xV))) (Pt (tNot (tCh (xO x3) (xO (xB T rfl ⟨ku⟩ (xA xV xA0))) (xO (x5 l3))))))) (s1 (sR x2) s0) s0) (s1 (sI (tNot (xw (xB T rfl ⟨(ny rfl)⟩ (xA (xO (by exact xC (N':=["names","sign"]) (cOk S) (by decide+kernel) (iS xW) fun _ _ _ _ _ _ nd=>⟨(gN nd),f0,fun _=>bE (xU O_is_sign hr (xA xV (xA xV xA0)))⟩)) xA0)))) (s1 (sR x2) s0) s0) (s1 (sR (xU m6 hr (xA (xO (by exact xC (N':=["sign"]) (cOk S) (by decide+kernel) (iS xW) fun _ _ _ _ _ _ nd=>⟨(gN nd),f0,fun _=>bE (xB T rfl ⟨kW⟩ (xA xV xA0))⟩)) xA0))) s0)))
abbrev lZ:Stmt:=top 16
theorem yO:FnScope ["names","thing"] ["names","thing"] (gM lZ):=scM
abbrev tj(Z:ZZ)(k:Nat):Prop:=Oz Z k "are_clauses" ["names","thing"] nW
theorem zR:BdA "are_clauses" lZ ["names","thing"]:=fun _ _ _ _ _ _=>us1 fun _=>us1 fun _=>us0 rfl
theorem za(a:Fz Z.K Z.mg "are_clauses" lZ)(T:Tx Z.mg)(j5: ∃t,Z.mg "MOST_CLAUSES"=some (.int 30 t))(O_is_clause:xk Z k)(m6:qR Z k):tj Z (k+1):=by
 have S:=yO;refine ozB (asg:=[]) (fs:=qV) a S zR fun f h8 A outer s H E L hL hr hu l7 l6 l8 nd=>?_;exact(s1 (sI (tW (wOr (tNot (xw (xI T rfl xV))) (Pt (tCmp ⟨(jT (.inr (.inr (.inl rfl))) hu)⟩ (xO (xB T rfl ⟨ku⟩ (xA xV xA0))) (xO (x5 j5)))))) (s1 (sR x2) s0) s0) (s1 (sR (B8 (xB T rfl ⟨(ny rfl)⟩ (xA (xO (by exact xC (N':=["names","clause"]) (cOk S) (by decide+kernel) (iS xW) fun _ _ _ _ _ _ nd=>⟨(gN nd),f0,fun _=>bE (xU O_is_clause hr (xA xV (xA xV xA0)))⟩)) xA0)) (xBo (xU m6 hr (xA xV xA0))))) s0))
abbrev ou:Stmt:=top 17
theorem Cj:FnScope ["thing","names","clauses"] ["thing"] (gM ou):=scM
abbrev xj(Z:ZZ)(k:Nat):Prop:=Oz Z k "is_riddle" ["thing"] pQ
theorem C2:BdA "is_riddle" ou ["thing"]:=fun _ _ _ _ _ _=>us1 fun _=>us0 rfl
theorem Cv(a:Fz Z.K Z.mg "is_riddle" ou)(T:Tx Z.mg)(l4: ∃t,Z.mg "MOST_NAMES"=some (.int 5 t))(O_is_pair:AU Z k)(i8:oE Z k)(O_are_clauses:tj Z k):xj Z (k+1):=by
 have S:=Cj;refine ozB (asg:=[1,2]) (fs:=vE) a S C2 fun f h8 A outer s H E L hL hr hu l7 l6 l8 nd=>?_;exact(s1 (sI (tNot (xw (xU O_is_pair hr (xA xV xA0)))) (s1 (sR x2) s0) s0) (s1 (sT xW (gT (gN nd) (gN nd))) (s1 (sR (B8 (xU i8 hr (xA xV (xA (xO x3) (xA (xO (x5 l4)) xA0)))) (xBo (xU O_are_clauses hr (xA xV (xA xV xA0)))))) s0)))
abbrev oz:Stmt:=top 18
theorem Cn:FnScope ["names","thing"] ["names","thing"] (gM oz):=scM
abbrev xl(Z:ZZ)(k:Nat):Prop:=Oz Z k "is_answer" ["names","thing"] lH
theorem C5:BdA "is_answer" oz ["names","thing"]:=fun _ _ _ _ _ _=>us1 fun _=>us1 fun _=>us0 rfl
theorem Cz(a:Fz Z.K Z.mg "is_answer" oz)(T:Tx Z.mg)(t5:zd Z k):xl Z (k+1):=by
 have S:=Cn;refine ozB (asg:=[]) (fs:=pP) a S C5 fun f h8 A outer s H E L hL hr hu l7 l6 l8 nd=>?_;exact(s1 (sR (B8 (xI T rfl xV) (B8 (Ac ⟨(mG hu)⟩ (xO (xB T rfl ⟨ku⟩ (xA xV xA0))) xV) (xBo (xB T rfl ⟨(ny rfl)⟩ (xA (xO (by exact xC (N':=["bit"]) (cOk S) (by decide+kernel) (iS xW) fun _ _ _ _ _ _ nd=>⟨(gN nd),f0,fun _=>bE (xU t5 hr (xA xV xA0))⟩)) xA0)))))) s0)
abbrev yc:Stmt:=top 19
theorem KD:FnScope ["answer","sign"] ["answer","sign"] (gM yc):=scM
abbrev Hx(Z:ZZ)(k:Nat):Prop:=Oz Z k "is_so" ["answer","sign"] vI
theorem Mz:BdA "is_so" yc ["answer","sign"]:=fun _ _ _ _ _ _=>us1 fun _=>us1 fun _=>us0 rfl
theorem LG(a:Fz Z.K Z.mg "is_so" yc)(T:Tx Z.mg):Hx Z (k+1):=by
 have S:=KD;refine ozB (asg:=[]) (fs:=zt) a S Mz fun f h8 A outer s H E L hL hr hu l7 l6 l8 nd=>?_;exact(s1 (sR (Ac ⟨(mG hu)⟩ (xO (xIx xV (xO (jm ⟨kF⟩ (xO (xB T rfl ⟨kW⟩ (xA xV xA0))) (xO x3))))) (xO (xIf (tCmp ⟨(jT (.inr (.inr (.inl rfl))) hu)⟩ xV (xO x3)) x3 x3)))) s0)
abbrev lE:Stmt:=top 20
theorem xD:FnScope ["answer","clause"] ["answer","clause"] (gM lE):=scM
abbrev qQ(Z:ZZ)(k:Nat):Prop:=Oz Z k "keeps_clause" ["answer","clause"] mJ
theorem xR:BdA "keeps_clause" lE ["answer","clause"]:=fun _ _ _ _ _ _=>us1 fun _=>us1 fun _=>us0 rfl
theorem xG(a:Fz Z.K Z.mg "keeps_clause" lE)(T:Tx Z.mg)(O_is_so:Hx Z k):qQ Z (k+1):=by
 have S:=xD;refine ozB (asg:=[]) (fs:=qf) a S xR fun f h8 A outer s H E L hL hr hu l7 l6 l8 nd=>?_;exact(s1 (sR (xB T rfl ⟨(Bf rfl)⟩ (xA (xO (by exact xC (N':=["answer","sign"]) (cOk S) (by decide+kernel) (iS xW) fun _ _ _ _ _ _ nd=>⟨(gN nd),f0,fun _=>bE (xU O_is_so hr (xA xV (xA xV xA0)))⟩)) xA0))) s0)
abbrev yb:Stmt:=top 21
theorem KC:FnScope ["riddle","thing","names","clauses"] ["riddle","thing"] (gM yb):=scM
abbrev CB(Z:ZZ)(k:Nat):Prop:=Oz Z k "keeps" ["riddle","thing"] nV
theorem My:BdA "keeps" yb ["riddle","thing"]:=fun _ _ _ _ _ _=>us1 fun _=>us1 fun _=>us0 rfl
theorem LF(a:Fz Z.K Z.mg "keeps" yb)(T:Tx Z.mg)(O_is_answer:xl Z k)(O_keeps_clause:qQ Z k):CB Z (k+1):=by
 have S:=KC;refine ozB (asg:=[2,3]) (fs:=Eg) a S My fun f h8 A outer s H E L hL hr hu l7 l6 l8 nd=>?_;exact(s1 (sT xW (gT (gN nd) (gN nd))) (s1 (sR (B8 (xU O_is_answer hr (xA xV (xA xV xA0))) (xBo (xB T rfl ⟨(ny rfl)⟩ (xA (xO (by exact xC (N':=["thing","clause"]) (cOk S) (by decide+kernel) (iS xW) fun _ _ _ _ _ _ nd=>⟨(gN nd),f0,fun _=>bE (xU O_keeps_clause hr (xA xV (xA xV xA0)))⟩)) xA0))))) s0))
abbrev ma:Stmt:=top 22
theorem yP:FnScope ["names","begun","place"] ["names"] (gM ma):=scM
abbrev tq(Z:ZZ)(k:Nat):Prop:=Oz Z k "all_answers" ["names"] kN
theorem zS:BdA "all_answers" ma ["names"]:=fun _ _ _ _ _ _=>us1 fun _=>us0 rfl
theorem zb(a:Fz Z.K Z.mg "all_answers" ma)(T:Tx Z.mg):tq Z (k+1):=by
 have S:=yP;refine ozB (asg:=[1,2]) (fs:=qW) a S zS fun f h8 A outer s H E L hL hr hu l7 l6 l8 nd=>?_;exact(s1 (sS nd (uh (xL (se xL0) xL0))) (s1 (sF (iR1 T (xA xV xA0)) (gN nd) (s1 (sC (N':=["begin","bit"]) nd (cOk S) (by decide+kernel) (iS xW) fun _ _ _ _ _ _ nd=>⟨(gN nd),f0,fun _=>bF rfl (iS (se (xL x3 (xL x3 xL0)))) (gN nd) f0 (bE (jm ⟨jo⟩ xV (xO (se (xL xW xL0)))))⟩) s0)) (s1 (sRV (fun h=>absurd (hL _ h) (by decide))) s0)))
abbrev rK:Stmt:=top 23
theorem FQ:FnScope ["riddle"] ["riddle"] (gM rK):=scM
abbrev wI(Z:ZZ)(k:Nat):Prop:=Oz Z k "answers" ["riddle"] jS
theorem GR:BdA "answers" rK ["riddle"]:=fun _ _ _ _ _ _=>us1 fun _=>us0 rfl
theorem Ge(a:Fz Z.K Z.mg "answers" rK)(T:Tx Z.mg)(O_all_answers:tq Z k)(w5:CB Z k):wI Z (k+1):=by
 have S:=FQ;refine ozB (asg:=[]) (fs:=zu) a S GR fun f h8 A outer s H E L hL hr hu l7 l6 l8 nd=>?_;exact(s1 (sR (by exact xC (N':=["riddle","answer"]) (cOk S) (by decide+kernel) (iS (xU O_all_answers hr (xA (xO (xIx xV (xO x3))) xA0))) fun _ _ _ _ _ _ nd=>⟨(gN nd),(f1 (xw (xU w5 hr (xA xV (xA xV xA0))))),fun _=>bE xW⟩)) s0)
abbrev pF:Stmt:=top 24
theorem DC:FnScope ["sign","name"] ["sign","name"] (gM pF):=scM
abbrev zc(Z:ZZ)(k:Nat):Prop:=Oz Z k "moved_up" ["sign","name"] lr
theorem EC:BdA "moved_up" pF ["sign","name"]:=fun _ _ _ _ _ _=>us1 fun _=>us1 fun _=>us0 rfl
theorem DS(a:Fz Z.K Z.mg "moved_up" pF)(T:Tx Z.mg):zc Z (k+1):=by
 have S:=DC;refine ozB (asg:=[]) (fs:=oJ) a S EC fun f h8 A outer s H E L hL hr hu l7 l6 l8 nd=>?_;exact(s1 (sI (tCmp ⟨(jT (.inl rfl) hu)⟩ (xO (xB T rfl ⟨kW⟩ (xA xV xA0))) xV) (s1 (sR xW) s0) s0) (s1 (sR (xIf (tCmp ⟨(jT (.inr (.inr (.inl rfl))) hu)⟩ xV (xO x3)) (jm ⟨kF⟩ xV (xO x3)) (jm ⟨jo⟩ xV (xO x3)))) s0))
abbrev lC:Stmt:=top 25
theorem xx:FnScope ["clause","name"] ["clause","name"] (gM lC):=scM
abbrev qO(Z:ZZ)(k:Nat):Prop:=Oz Z k "without_name" ["clause","name"] km
theorem xP:BdA "without_name" lC ["clause","name"]:=fun _ _ _ _ _ _=>us1 fun _=>us1 fun _=>us0 rfl
theorem xE(a:Fz Z.K Z.mg "without_name" lC)(T:Tx Z.mg)(O_moved_up:zc Z k):qO Z (k+1):=by
 have S:=xx;refine ozB (asg:=[]) (fs:=qe) a S xP fun f h8 A outer s H E L hL hr hu l7 l6 l8 nd=>?_;exact(s1 (sR (xT T rfl ⟨ke⟩ (xA (xO (by exact xC (N':=["name","sign"]) (cOk S) (by decide+kernel) (iS xW) fun _ _ _ _ _ _ nd=>⟨(gN nd),(f1 (tCmp ⟨(Cr hu)⟩ (xO (xB T rfl ⟨kW⟩ (xA xV xA0))) xV)),fun _=>bE (xU O_moved_up hr (xA xV (xA xV xA0)))⟩)) xA0))) s0)
abbrev pE:Stmt:=top 26
theorem DA:FnScope ["riddle","name","bit","names","clauses","so","rest"] ["riddle","name","bit"] (gM pE):=scM
abbrev ux(Z:ZZ)(k:Nat):Prop:=Oz Z k "narrowed" ["riddle","name","bit"] kd
theorem EB:BdA "narrowed" pE ["riddle","name","bit"]:=fun _ _ _ _ _ _=>us1 fun _=>us1 fun _=>us1 fun _=>us0 rfl
theorem DR(a:Fz Z.K Z.mg "narrowed" pE)(T:Tx Z.mg)(p7:wH Z k)(t5:zd Z k)(O_without_name:qO Z k):ux Z (k+1):=by
 have S:=DA;refine ozB (asg:=[3,4,5,6]) (fs:=xp) a S EB fun f h8 A outer s H E L hL hr hu l7 l6 l8 nd=>?_;exact(s1 (sT xW (gT (gN nd) (gN nd))) (s1 (sI (tNot (xw (xU p7 hr (xA xV (xA xV xA0))))) (s1 sX s0) s0) (s1 (sI (tNot (xw (xU t5 hr (xA xV xA0)))) (s1 sX s0) s0) (s1 (sS nd (xIf (tCmp ⟨(mG hu)⟩ xV (xO x3)) xW (Kb xV))) (s1 (sC (N':=["name","so","clause"]) nd (cOk S) (by decide+kernel) (iS xW) fun _ _ _ _ _ _ nd=>⟨(gN nd),(f1 (tCmp ⟨(AQ hu)⟩ xV xV)),fun _=>bE (xU O_without_name hr (xA xV (xA xV xA0)))⟩) (s1 (sI (tCmp ⟨(QY hu)⟩ (xO (se xL0)) xV) (s1 (sR x1) s0) s0) (s1 (sR (se (xL (jm ⟨kF⟩ xV (xO x3)) (xL (xT T rfl ⟨ke⟩ (xA (xO (xB T rfl ⟨(lJ rfl l6)⟩ (xA (xO (xT T rfl ⟨(rY rfl l8)⟩ (xA xV xA0))) xA0))) xA0)) xL0)))) s0)))))))
abbrev lY:Stmt:=top 28
theorem yN:FnScope ["_law_script","_law_k"] ["_law_script","_law_k"] (gM lY):=scM
abbrev tf(Z:ZZ)(k:Nat):Prop:=Oz Z k "_law_cell_at" ["_law_script","_law_k"] kM
theorem zQ:BdA "_law_cell_at" lY ["_law_script","_law_k"]:=fun _ _ _ _ _ _=>us1 fun _=>us1 fun _=>us0 rfl
theorem yZ(a:Fz Z.K Z.mg "_law_cell_at" lY)(T:Tx Z.mg):tf Z (k+1):=by
 have S:=yN;refine ozB (asg:=[]) (fs:=lF) a S zQ fun f h8 A outer s H E L hL hr hu l7 l6 l8 nd=>?_;exact(s1 (sI (tCmp ⟨(jT (.inl rfl) hu)⟩ xV (xO (xB T rfl ⟨ku⟩ (xA xV xA0)))) (s1 (sR (xIx xV xV)) s0) s0) (s1 (sR x3) s0))
abbrev oq:Stmt:=top 29
theorem Cg:FnScope ["_law_script","_law_k","_law_cell"] ["_law_script","_law_k"] (gM oq):=scM
abbrev xi(Z:ZZ)(k:Nat):Prop:=Oz Z k "_law_state" ["_law_script","_law_k"] kU
theorem C0:BdA "_law_state" oq ["_law_script","_law_k"]:=fun _ _ _ _ _ _=>us1 fun _=>us1 fun _=>us0 rfl
theorem Ct(a:Fz Z.K Z.mg "_law_state" oq)(T:Tx Z.mg)(O_law_cell_at:tf Z k):xi Z (k+1):=by
 have S:=Cg;refine ozB (asg:=[2]) (fs:=ng) a S C0 fun f h8 A outer s H E L hL hr hu l7 l6 l8 nd=>?_;exact(s1 (sS nd (xU O_law_cell_at hr (xA xV (xA xV xA0)))) (s1 (sI (tCmp ⟨(jT (.inr (.inr (.inr rfl))) hu)⟩ xV (xO (jm ⟨Ht⟩ (xO x3) (xO x3)))) (s1 (sR (uh (xL (jm ⟨kF⟩ xV (xO (jm ⟨Ht⟩ (xO x3) (xO x3)))) (xL x2 xL0)))) s0) s0) (s1 (sR (uh (xL (jm ⟨pJ⟩ xV (xO x3)) (xL x2 xL0)))) s0)))
abbrev pG:Stmt:=top 30
theorem DD:FnScope ["_law_state_here","_law_many","_law_found","_law_mixed"] ["_law_state_here","_law_many"] (gM pG):=scM
abbrev nL(Z:ZZ)(k:Nat):Prop:=Oz Z k "_law_take" ["_law_state_here","_law_many"] gK
theorem ED:BdA "_law_take" pG ["_law_state_here","_law_many"]:=fun _ _ _ _ _ _=>us1 fun _=>us1 fun _=>us0 rfl
theorem DT(a:Fz Z.K Z.mg "_law_take" pG)(T:Tx Z.mg):nL Z (k+1):=by
 have S:=DD;refine ozB (asg:=[2,3]) (fs:=oK) a S ED fun f h8 A outer s H E L hL hr hu l7 l6 l8 nd=>?_;exact(s1 (sI (xw (xIx xV (xO x3))) (s1 (sS nd (jm ⟨pJ⟩ (xO (xIx xV (xO x3))) xV)) (s1 (sIx xV (jm ⟨Hu⟩ (xO (xIx xV (xO x3))) xV) (xO x3)) (s1 (sRV (fun h=>absurd (hL _ h) (by decide))) s0))) s0) (s1 (sIx xV (jm ⟨pJ⟩ (xO (jm ⟨jo⟩ (xO (jm ⟨oB⟩ (xO (xIx xV (xO x3))) (xO x3))) (xO x3))) (xO x3)) (xO x3)) (s1 (sS nd (jm ⟨pJ⟩ (xO (jm ⟨jo⟩ (xO (jm ⟨jo⟩ (xO (jm ⟨oB⟩ (xO (xIx xV (xO x3))) (xO (xIx xV (xO x3))))) (xO (jm ⟨oB⟩ (xO x3) (xO (xIx xV (xO x3))))))) (xO x3))) (xO x3))) (s1 (sS nd (jm ⟨pJ⟩ (xO (jm ⟨jo⟩ (xO (jm ⟨oB⟩ xV xV)) (xO (jm ⟨oB⟩ (xO x3) xV)))) (xO x3))) (s1 (sR (jm ⟨pJ⟩ (xO (jm ⟨Hu⟩ xV (xO x3))) xV)) s0)))))
abbrev mY:Stmt:=top 31
theorem Ai:FnScope ["_law_state_here","_law_names","_law_far","_law_found","_law_name","_law_kind"] ["_law_state_here","_law_names"] (gM mY):=scM
abbrev pL(Z:ZZ)(k:Nat):Prop:=Oz Z k "_law_clause" ["_law_state_here","_law_names"] kr
theorem Ay:BdA "_law_clause" mY ["_law_state_here","_law_names"]:=fun _ _ _ _ _ _=>us1 fun _=>us1 fun _=>us0 rfl
theorem Am(a:Fz Z.K Z.mg "_law_clause" mY)(T:Tx Z.mg)(b8:nL Z k):pL Z (k+1):=by
 have S:=Ai;refine ozB (asg:=[2,3,4,5]) (fs:=tD) a S Ay fun f h8 A outer s H E L hL hr hu l7 l6 l8 nd=>?_;exact(s1 (sS nd (xIx (xO (uh (xL x3 (xL x3 (xL x3 xL0))))) (xO (xU b8 hr (xA xV (xA (xO x3) xA0)))))) (s1 (sS nd (uh xL0)) (s1 (sF (iR2 T (xA (xO x3) (xA (xO (jm ⟨jo⟩ xV (xO x3))) xA0))) (gN nd) (s1 (sS nd (xU b8 hr (xA xV (xA xV xA0)))) (s1 (sI (tCmp ⟨(jT (.inl rfl) hu)⟩ xV (xO x3)) (s1 (sE (MV xV (xIx (xO (uh (xL xW (xL (Kb xV) xL0)))) xV))) s0) s0) s0))) (s1 (sI (tCmp ⟨(mG hu)⟩ xV (xO (uh xL0))) (s1 (sE (MV xV (jm ⟨oB⟩ (xO (xIx (xO (uh (xL x3 (xL (Kb (xO x3)) xL0)))) (xO (xU b8 hr (xA xV (xA (xO x3) xA0)))))) (xO (jm ⟨jo⟩ (xO x3) (xO (xU b8 hr (xA xV (xA xV xA0))))))))) s0) s0) (s1 (sR (xT T rfl ⟨ke⟩ (xA xV xA0))) s0)))))
abbrev lX:Stmt:=top 32
theorem yM:FnScope ["_law_state_here","_law_names","_law_rest","_law_found","_law_turn"] ["_law_state_here","_law_names"] (gM lX):=scM
abbrev sZ(Z:ZZ)(k:Nat):Prop:=Oz Z k "_law_turning" ["_law_state_here","_law_names"] kL
theorem zP:BdA "_law_turning" lX ["_law_state_here","_law_names"]:=fun _ _ _ _ _ _=>us1 fun _=>us1 fun _=>us0 rfl
theorem yY(a:Fz Z.K Z.mg "_law_turning" lX)(T:Tx Z.mg)(b8:nL Z k):sZ Z (k+1):=by
 have S:=yM;refine ozB (asg:=[2,3,4]) (fs:=qT) a S zP fun f h8 A outer s H E L hL hr hu l7 l6 l8 nd=>?_;exact(s1 (sS nd (T5 T rfl (xA (xO x3) (xA (xO (jm ⟨jo⟩ xV (xO x3))) xA0)))) (s1 (sS nd (uh xL0)) (s1 (sF (iR1 T (xA xV xA0)) (gN nd) (s1 (sE (MV xV (jm ⟨oB⟩ (xO (T6 xV (xO (xU b8 hr (xA xV (xA (xO (xB T rfl ⟨ku⟩ (xA xV xA0))) xA0)))))) (xO (xIx (xO (uh (xL x3 (xL (Kb (xO x3)) xL0)))) (xO (xU b8 hr (xA xV (xA (xO x3) xA0))))))))) s0)) (s1 (sR (xT T rfl ⟨ke⟩ (xA xV xA0))) s0))))
abbrev lD:Stmt:=top 33
theorem xy:FnScope ["_law_turning_here","_law_sign"] ["_law_turning_here","_law_sign"] (gM lD):=scM
abbrev qP(Z:ZZ)(k:Nat):Prop:=Oz Z k "_law_led_sign" ["_law_turning_here","_law_sign"] kn
theorem xQ:BdA "_law_led_sign" lD ["_law_turning_here","_law_sign"]:=fun _ _ _ _ _ _=>us1 fun _=>us1 fun _=>us0 rfl
theorem xF(a:Fz Z.K Z.mg "_law_led_sign" lD)(T:Tx Z.mg):qP Z (k+1):=by
 have S:=xy;refine ozB (asg:=[]) (fs:=mI) a S xQ fun f h8 A outer s H E L hL hr hu l7 l6 l8 nd=>?_;exact(s1 (sR (jm ⟨oB⟩ (xO (xIx xV (xO (jm ⟨kF⟩ (xO (xB T rfl ⟨kW⟩ (xA xV xA0))) (xO x3))))) (xO (xIx (xO (uh (xL (Kb (xO x3)) (xL x3 xL0)))) (xO (xT T rfl ⟨Bc⟩ (xA (xO (Ac ⟨(jT (.inr (.inr (.inl rfl))) hu)⟩ xV (xO x3))) xA0))))))) s0)
abbrev kQ:Stmt:=top 34
theorem vc:FnScope ["_law_turning_here","_law_clause_here","_law_found","_law_sign","_law_there"] ["_law_turning_here","_law_clause_here"] (gM kQ):=scM
abbrev pf(Z:ZZ)(k:Nat):Prop:=Oz Z k "_law_led_clause" ["_law_turning_here","_law_clause_here"] jO
theorem vM:BdA "_law_led_clause" kQ ["_law_turning_here","_law_clause_here"]:=fun _ _ _ _ _ _=>us1 fun _=>us1 fun _=>us0 rfl
theorem vh(a:Fz Z.K Z.mg "_law_led_clause" kQ)(T:Tx Z.mg)(O_law_led_sign:qP Z k):pf Z (k+1):=by
 have S:=vc;refine ozB (asg:=[2,3,4]) (fs:=oM) a S vM fun f h8 A outer s H E L hL hr hu l7 l6 l8 nd=>?_;exact(s1 (sS nd x7) (s1 (sF (iS xW) (gN nd) (s1 (sS nd (xU O_law_led_sign hr (xA xV (xA xV xA0)))) (s1 (sDP l7 xV xW (xO (xB T rfl ⟨kW⟩ (xA xV xA0)))) s0))) (s1 (sR (xT T rfl ⟨ke⟩ (xA (xO (by exact xC (N':=["_law_found","_law_name"]) (cOk S) (by decide+kernel) (iS (xB T rfl ⟨(lJ rfl l6)⟩ (xA xV xA0))) fun _ _ _ _ _ _ nd=>⟨(gN nd),f0,fun _=>bE (T8 l7 xV xV)⟩)) xA0))) s0)))
abbrev mX:Stmt:=top 36
theorem Ah:FnScope ["_law_clauses","_law_turnings","_law_found","_law_at","_law_turning_here","_law_there"] ["_law_clauses","_law_turnings"] (gM mX):=scM
abbrev vn(Z:ZZ)(k:Nat):Prop:=Oz Z k "_law_closed" ["_law_clauses","_law_turnings"] mh
theorem Ax:BdA "_law_closed" mX ["_law_clauses","_law_turnings"]:=fun _ _ _ _ _ _=>us1 fun _=>us1 fun _=>us0 rfl
theorem Al(a:Fz Z.K Z.mg "_law_closed" mX)(T:Tx Z.mg)(O_law_led_clause:pf Z k):vn Z (k+1):=by
 have S:=Ah;refine ozB (asg:=[2,3,4,5]) (fs:=tx) a S Ax fun f h8 A outer s H E L hL hr hu l7 l6 l8 nd=>?_;exact(s1 (sS nd (xT T rfl ⟨GI⟩ (xA xV xA0))) (s1 (sS nd x3) (s1 (sW (tCmp ⟨(jT (.inl rfl) hu)⟩ xV (xO (xB T rfl ⟨ku⟩ (xA xV xA0)))) (s1 (sF (iS xW) (gN nd) (s1 (sS nd (xU O_law_led_clause hr (xA xV (xA (xO (xIx xV xV)) xA0)))) (s1 (sI (tCmp ⟨(AQ hu)⟩ xV xV) (s1 (sE (MV xV xW)) s0) s0) s0))) (s1 (sS nd (jm ⟨jo⟩ xV (xO x3))) s0))) (s1 (sRV (fun h=>absurd (hL _ h) (by decide))) s0))))
abbrev mW:Stmt:=top 37
theorem Ag:FnScope ["_law_state_here","_law_least","_law_most","_law_names","_law_kind","_law_many","_law_clauses","_law_turnings"] ["_law_state_here","_law_least","_law_most"] (gM mW):=scM
abbrev vm(Z:ZZ)(k:Nat):Prop:=Oz Z k "_law_riddle" ["_law_state_here","_law_least","_law_most"] mf
theorem Aw:BdA "_law_riddle" mW ["_law_state_here","_law_least","_law_most"]:=fun _ _ _ _ _ _=>us1 fun _=>us1 fun _=>us1 fun _=>us0 rfl
theorem Ak(a:Fz Z.K Z.mg "_law_riddle" mW)(T:Tx Z.mg)(b8:nL Z k)(k9:pL Z k)(O_law_turning:sZ Z k)(O_law_closed:vn Z k):vm Z (k+1):=by
 have S:=Ag;refine ozB (asg:=[3,4,5,6,7]) (fs:=tw) a S Aw fun f h8 A outer s H E L hL hr hu l7 l6 l8 nd=>?_;exact(s1 (sS nd (jm ⟨jo⟩ xV (xO (xU b8 hr (xA xV (xA (xO (jm ⟨jo⟩ (xO (jm ⟨kF⟩ xV xV)) (xO x3))) xA0)))))) (s1 (sS nd (xU b8 hr (xA xV (xA (xO x3) xA0)))) (s1 (sI (tCmp ⟨(mG hu)⟩ xV (xO x3)) (s1 (sR (se (xL x3 (xL (se xL0) xL0)))) s0) s0) (s1 (sS nd (xU b8 hr (xA xV (xA (xO (xIx (xO (uh (xL x3 (xL x3 (xL x3 xL0))))) (xO (xU b8 hr (xA xV (xA (xO x3) xA0)))))) xA0)))) (s1 (sC (N':=["_law_state_here","_law_names","_law_turn"]) nd (cOk S) (by decide+kernel) (iR1 T (xA xV xA0)) fun _ _ _ _ _ _ nd=>⟨(gN nd),f0,fun _=>bE (xU k9 hr (xA xV (xA xV xA0)))⟩) (s1 (sI (tCmp ⟨(jT (.inr (.inr (.inl rfl))) hu)⟩ xV (xO x3)) (s1 (sC (N':=["_law_state_here","_law_names","_law_turn"]) nd (cOk S) (by decide+kernel) (iR1 T (xA (xO (jm ⟨jo⟩ (xO x3) (xO (jm ⟨pJ⟩ xV (xO x3))))) xA0)) fun _ _ _ _ _ _ nd=>⟨(gN nd),f0,fun _=>bE (xU O_law_turning hr (xA xV (xA xV xA0)))⟩) (s1 (sI (tCmp ⟨(mG hu)⟩ xV (xO x3)) (s1 (sC (N':=["_law_turning_here"]) nd (cOk S) (by decide+kernel) (iS xW) fun _ _ _ _ _ _ nd=>⟨(gN nd),f0,fun _=>bE (xT T rfl ⟨ke⟩ (xA (xO (by exact xC (N':=["_law_sign"]) (Ms rfl rfl (by with_unfolding_all rfl)) (by decide+kernel) (iS xW) fun _ _ _ _ _ _ nd=>⟨(gN nd),f0,fun _=>bE (xB T rfl ⟨kW⟩ (xA xV xA0))⟩)) xA0))⟩) s0) s0) (s1 (sS nd (xU O_law_closed hr (xA (xO (Pm (xO (xB T rfl ⟨(lJ rfl l6)⟩ (xA (xO (xT T rfl ⟨(rY rfl l8)⟩ (xA xV xA0))) xA0))) (xO x3))) (xA xV xA0)))) s0))) s0) (s1 (sS nd (xB T rfl ⟨(lJ rfl l6)⟩ (xA (xO (xT T rfl ⟨(rY rfl l8)⟩ (xA xV xA0))) xA0))) (s1 (sI (tCmp ⟨(jT (.inr (.inr (.inl rfl))) hu)⟩ (xO (xB T rfl ⟨ku⟩ (xA xV xA0))) (xO x3)) (s1 (sS nd (Pm xV (xO (xU b8 hr (xA xV (xA (xO x3) xA0)))))) s0) s0) (s1 (sR (se (xL xW (xL (xT T rfl ⟨ke⟩ (xA xV xA0)) xL0)))) s0)))))))))
abbrev vd:Stmt:=top 38
theorem Iv:FnScope ["_law_answer","_law_sign"] ["_law_answer","_law_sign"] (gM vd):=scM
abbrev DV(Z:ZZ)(k:Nat):Prop:=Oz Z k "_law_so" ["_law_answer","_law_sign"] rV
theorem Jo:BdA "_law_so" vd ["_law_answer","_law_sign"]:=fun _ _ _ _ _ _=>us1 fun _=>us1 fun _=>us0 rfl
theorem IT(a:Fz Z.K Z.mg "_law_so" vd)(T:Tx Z.mg):DV Z (k+1):=by
 have S:=Iv;refine ozB (asg:=[]) (fs:=wQ) a S Jo fun f h8 A outer s H E L hL hr hu l7 l6 l8 nd=>?_;exact(s1 (sR (Ac ⟨(mG hu)⟩ (xO (xIx xV (xO (jm ⟨kF⟩ (xO (xB T rfl ⟨kW⟩ (xA xV xA0))) (xO x3))))) (xO (xT T rfl ⟨Bc⟩ (xA (xO (Ac ⟨(jT (.inr (.inr (.inl rfl))) hu)⟩ xV (xO x3))) xA0))))) s0)
abbrev kg:Stmt:=top 39
theorem si:FnScope ["_law_answer","_law_clause_here"] ["_law_answer","_law_clause_here"] (gM kg):=scM
abbrev nN(Z:ZZ)(k:Nat):Prop:=Oz Z k "_law_keeps_clause" ["_law_answer","_law_clause_here"] jw
theorem sy:BdA "_law_keeps_clause" kg ["_law_answer","_law_clause_here"]:=fun _ _ _ _ _ _=>us1 fun _=>us1 fun _=>us0 rfl
theorem sv(a:Fz Z.K Z.mg "_law_keeps_clause" kg)(T:Tx Z.mg)(O_law_so:DV Z k):nN Z (k+1):=by
 have S:=si;refine ozB (asg:=[]) (fs:=mU) a S sy fun f h8 A outer s H E L hL hr hu l7 l6 l8 nd=>?_;exact(s1 (sR (xB T rfl ⟨(Bf rfl)⟩ (xA (xO (by exact xC (N':=["_law_answer","_law_sign"]) (cOk S) (by decide+kernel) (iS xW) fun _ _ _ _ _ _ nd=>⟨(gN nd),f0,fun _=>bE (xU O_law_so hr (xA xV (xA xV xA0)))⟩)) xA0))) s0)
abbrev kE:Stmt:=top 40
theorem uk:FnScope ["_law_names","_law_found","_law_place","_law_longer","_law_begun"] ["_law_names"] (gM kE):=scM
abbrev oD(Z:ZZ)(k:Nat):Prop:=Oz Z k "_law_all_answers" ["_law_names"] jI
theorem uJ:BdA "_law_all_answers" kE ["_law_names"]:=fun _ _ _ _ _ _=>us1 fun _=>us0 rfl
theorem uv(a:Fz Z.K Z.mg "_law_all_answers" kE)(T:Tx Z.mg):oD Z (k+1):=by
 have S:=uk;refine ozB (asg:=[1,2,3,4]) (fs:=nQ) a S uJ fun f h8 A outer s H E L hL hr hu l7 l6 l8 nd=>?_;exact(s1 (sS nd (uh (xL (se xL0) xL0))) (s1 (sF (iR1 T (xA xV xA0)) (gN nd) (s1 (sS nd (uh xL0)) (s1 (sF (iS xW) (gN nd) (s1 (sE (T9 xV (by exact xC (N':=["_law_begun","_law_bit"]) (cOk S) (by decide+kernel) (iS (se (xL x3 (xL x3 xL0)))) fun _ _ _ _ _ _ nd=>⟨(gN nd),f0,fun _=>bE (jm ⟨jo⟩ xV (xO (se (xL xW xL0))))⟩))) s0)) (s1 (sS nd xW) s0)))) (s1 (sRV (fun h=>absurd (hL _ h) (by decide))) s0)))
abbrev kf:Stmt:=top 41
theorem sh:FnScope ["_law_riddle_here","_law_name","_law_bit","_law_some","_law_there"] ["_law_riddle_here","_law_name","_law_bit"] (gM kf):=scM
abbrev nM(Z:ZZ)(k:Nat):Prop:=Oz Z k "_law_narrow_right" ["_law_riddle_here","_law_name","_law_bit"] jv
theorem sx:BdA "_law_narrow_right" kf ["_law_riddle_here","_law_name","_law_bit"]:=fun _ _ _ _ _ _=>us1 fun _=>us1 fun _=>us1 fun _=>us0 rfl
theorem su(a:Fz Z.K Z.mg "_law_narrow_right" kf)(T:Tx Z.mg)(k0:wI Z k)(i7:ux Z k)(O_is_riddle:xj Z k):nM Z (k+1):=by
 have S:=sh;refine ozB (asg:=[3,4]) (fs:=mT) a S sx fun f h8 A outer s H E L hL hr hu l7 l6 l8 nd=>?_;exact(s1 (sC (N':=["_law_bit","_law_name","_law_answer"]) nd (cOk S) (by decide+kernel) (iS (xU k0 hr (xA xV xA0))) fun _ _ _ _ _ _ nd=>⟨(gN nd),(f1 (tCmp ⟨(mG hu)⟩ (xO (xIx xV (xO (jm ⟨kF⟩ xV (xO x3))))) xV)),fun _=>bE xW⟩) (s1 (sS nd (xU i7 hr (xA xV (xA xV (xA xV xA0))))) (s1 (sI (tCmp ⟨F8⟩ xV (xO x1)) (s1 (sR (Ac ⟨(mG hu)⟩ xV (xO (uh xL0)))) s0) s0) (s1 (sI (tW (wOr (tCmp ⟨IQ⟩ (xO (xU O_is_riddle hr (xA xV xA0))) (xO x2)) (Pt (tCmp ⟨(Cr hu)⟩ (xO (xIx xV (xO x3))) (xO (jm ⟨kF⟩ (xO (xIx xV (xO x3))) (xO x3))))))) (s1 (sR x2) s0) s0) (s1 (sR (Ac ⟨(mG hu)⟩ xV (xO (by exact xC (N':=["_law_bit","_law_name","_law_answer"]) (cOk S) (by decide+kernel) (iS (xU k0 hr (xA xV xA0))) fun _ _ _ _ _ _ nd=>⟨(gN nd),f0,fun _=>bE (jm ⟨jo⟩ (xO (jm ⟨jo⟩ (xO (Pm xV (xO (jm ⟨kF⟩ xV (xO x3))))) (xO (se (xL xW xL0))))) (xO (RX xV (xO (jm ⟨kF⟩ xV (xO x3))))))⟩)))) s0)))))
abbrev oo:Stmt:=top 42
theorem Cf:FnScope ["_law_riddle_here","_law_name","_law_other","_law_bits","_law_one","_law_two"] ["_law_riddle_here","_law_name","_law_other","_law_bits"] (gM oo):=scM
abbrev xh(Z:ZZ)(k:Nat):Prop:=Oz Z k "_law_twice" ["_law_riddle_here","_law_name","_law_other","_law_bits"] nj
theorem CZ:BdA "_law_twice" oo ["_law_riddle_here","_law_name","_law_other","_law_bits"]:=fun _ _ _ _ _ _=>us1 fun _=>us1 fun _=>us1 fun _=>us1 fun _=>us0 rfl
theorem Cs(a:Fz Z.K Z.mg "_law_twice" oo)(T:Tx Z.mg)(i7:ux Z k):xh Z (k+1):=by
 have S:=Cf;refine ozB (asg:=[4,5]) (fs:=vC) a S CZ fun f h8 A outer s H E L hL hr hu l7 l6 l8 nd=>?_;exact(s1 (sS nd (xU i7 hr (xA xV (xA xV (xA (xO (xIx xV (xO x3))) xA0))))) (s1 (sS nd (xU i7 hr (xA xV (xA xV (xA (xO (xIx xV (xO x3))) xA0))))) (s1 (sS nd (xIf (tCmp ⟨F8⟩ xV (xO x1)) xW (xU i7 hr (xA xV (xA (xO (jm ⟨kF⟩ xV (xO x3))) (xA (xO (xIx xV (xO x3))) xA0)))))) (s1 (sS nd (xIf (tCmp ⟨F8⟩ xV (xO x1)) xW (xU i7 hr (xA xV (xA xV (xA (xO (xIx xV (xO x3))) xA0)))))) (s1 (sR (Ac ⟨(mG hu)⟩ xV xV)) s0)))))
abbrev Hj:Stmt:=top 43
theorem PN:FnScope ["_law_script","_law_k","_law_state_here","_law_riddle_here","_law_names","_law_some","_law_name","_law_other","_law_clause_here","_law_more"] ["_law_script"] (gM Hj):=scM
theorem RK:BdA "law" Hj ["_law_script"]:=fun _ _ _ _ _ _=>us1 fun _=>us0 rfl
theorem Q7{f:gz}{fd:og}(F:Fun Z.K "law" "law" Hj f fd)(T:Tx Z.mg)(O_law_state:xi Z k)(O_law_riddle:vm Z k)(k0:wI Z k)(O_law_all_answers:oD Z k)(w5:CB Z k)(O_law_narrow_right:nM Z k)(b8:nL Z k)(O_law_twice:xh Z k)(k9:pL Z k)(O_law_keeps_clause:nN Z k):FnOk Z.P Z.w Z.K Z.mg Z.base CX0 (k+1) f fd ["_law_script"] (spF Z.K tJ):=by
 have S:=PN;refine fnB (asg:=[1,2,3,4,5,6,7,8,9]) (fs:=zr) F S fun f h8 A outer s H E L hL hr hu l7 l6 l8 nd=>?_;exact(s1 (sF (iR1 T (xA (xO (xB T rfl ⟨(GH rfl)⟩ (xA (xO x3) (xA (xO (xB T rfl ⟨(GG rfl)⟩ (xA (xO (xB T rfl ⟨ku⟩ (xA xV xA0))) (xA (xO x3) xA0)))) xA0)))) xA0)) (gN nd) (s1 (sS nd (xU O_law_state hr (xA xV (xA xV xA0)))) (s1 (sS nd (xU O_law_riddle hr (xA xV (xA (xO x3) (xA (xO x3) xA0))))) (s1 (sS nd (xIx xV (xO x3))) (s1 (sS nd (xU k0 hr (xA xV xA0))) (s1 (sI (tCmp ⟨(Cr hu)⟩ xV (xO (by exact xC (N':=["_law_riddle_here","_law_answer"]) (cOk S) (by decide+kernel) (iS (xU O_law_all_answers hr (xA xV xA0))) fun _ _ _ _ _ _ nd=>⟨(gN nd),(f1 (xw (xU w5 hr (xA xV (xA xV xA0))))),fun _=>bE xW⟩))) (s1 (sR x2) s0) s0) (s1 (sF (iR2 T (xA (xO x3) (xA (xO (jm ⟨jo⟩ xV (xO x3))) xA0))) (gN nd) (s1 (sI (tNot (xw (xB T rfl ⟨(ny rfl)⟩ (xA (xO (by exact xC (N':=["_law_riddle_here","_law_name","_law_bit"]) (cOk S) (by decide+kernel) (iS (se (xL x3 (xL x3 xL0)))) fun _ _ _ _ _ _ nd=>⟨(gN nd),f0,fun _=>bE (xU O_law_narrow_right hr (xA xV (xA xV (xA xV xA0))))⟩)) xA0)))) (s1 (sR x2) s0) s0) s0)) (s1 (sI (tCmp ⟨(jT (.inr (.inr (.inl rfl))) hu)⟩ xV (xO x3)) (s1 (sS nd (jm ⟨jo⟩ (xO x3) (xO (xU b8 hr (xA xV (xA (xO (jm ⟨kF⟩ xV (xO x3))) xA0)))))) (s1 (sS nd (jm ⟨jo⟩ (xO (jm ⟨jo⟩ xV (xO x3))) (xO (xU b8 hr (xA xV (xA (xO (jm ⟨kF⟩ xV xV)) xA0)))))) (s1 (sI (tNot (xw (xU O_law_twice hr (xA xV (xA xV (xA xV (xA (xO (se (xL (xU b8 hr (xA xV (xA (xO x3) xA0))) (xL (xU b8 hr (xA xV (xA (xO x3) xA0))) xL0)))) xA0))))))) (s1 (sR x2) s0) s0) s0))) s0) (s1 (sI (tW (Ua (tCmp ⟨(jT (.inr (.inr (.inl rfl))) hu)⟩ xV (xO x3)) (R0 (tCmp ⟨(jT (.inl rfl) hu)⟩ (xO (xB T rfl ⟨ku⟩ (xA (xO (xIx xV (xO x3))) xA0))) (xO x3))))) (s1 (sS nd (xU k9 hr (xA xV (xA xV xA0)))) (s1 (sS nd (se (xL xW (xL (xT T rfl ⟨ke⟩ (xA (xO (xB T rfl ⟨(lJ rfl l6)⟩ (xA (xO (xT T rfl ⟨(rY rfl l8)⟩ (xA (xO (jm ⟨jo⟩ (xO (xIx xV (xO x3))) (xO (se (xL xW xL0))))) xA0))) xA0))) xA0)) xL0)))) (s1 (sI (tCmp ⟨(Cr hu)⟩ (xO (xU k0 hr (xA xV xA0))) (xO (by exact xC (N':=["_law_clause_here","_law_answer"]) (cOk S) (by decide+kernel) (iS xW) fun _ _ _ _ _ _ nd=>⟨(gN nd),(f1 (xw (xU O_law_keeps_clause hr (xA xV (xA xV xA0))))),fun _=>bE xW⟩))) (s1 (sR x2) s0) s0) s0))) s0) s0))))))))) (s1 (sR x2) s0))
end
theorem all_mk{l:PySem.W.OpenLaw}{w:gU}{K:hG}{mg:lu}{fa:gz}(fV:mg "law"=some (.ref fa))(T:Tx mg)
  (a0:Fz K mg "is_whole" pH)
  (a1:Fz K mg "is_number" ox)
  (a2:Fz K mg "is_bit" ve)
  (a3:Fz K mg "is_name" rJ)
  (a4:Fz K mg "is_sign" rG)
  (a5:Fz K mg "is_pair" rH)
  (a6:Fz K mg "is_rising" ot)
  (a7:Fz K mg "is_clause" oy)
  (a8:Fz K mg "are_clauses" lZ)
  (a9:Fz K mg "is_riddle" ou)
  (a10:Fz K mg "is_answer" oz)
  (a11:Fz K mg "is_so" yc)
  (a12:Fz K mg "keeps_clause" lE)
  (a13:Fz K mg "keeps" yb)
  (a14:Fz K mg "all_answers" ma)
  (a15:Fz K mg "answers" rK)
  (a16:Fz K mg "moved_up" pF)
  (a17:Fz K mg "without_name" lC)
  (a18:Fz K mg "narrowed" pE)
  (a19:Fz K mg "_law_cell_at" lY)
  (a20:Fz K mg "_law_state" oq)
  (a21:Fz K mg "_law_take" pG)
  (a22:Fz K mg "_law_clause" mY)
  (a23:Fz K mg "_law_turning" lX)
  (a24:Fz K mg "_law_led_sign" lD)
  (a25:Fz K mg "_law_led_clause" kQ)
  (a26:Fz K mg "_law_closed" mX)
  (a27:Fz K mg "_law_riddle" mW)
  (a28:Fz K mg "_law_so" vd)
  (a29:Fz K mg "_law_keeps_clause" kg)
  (a30:Fz K mg "_law_all_answers" kE)
  (a31:Fz K mg "_law_narrow_right" kf)
  (a32:Fz K mg "_law_twice" oo)
  (a33:Fz K mg "law" Hj)
  (l3: ∃t,mg "MOST_SIGNS"=some (.int 5 t))
  (j5: ∃t,mg "MOST_CLAUSES"=some (.int 30 t))
  (l4: ∃t,mg "MOST_NAMES"=some (.int 5 t))
  : ∃fd:FuncData,(∀(s:gC) (v:gQ),BindsTo s fd ⟨[v],[]⟩ [("_law_script",v)])/\ ∀base:Heap,K.In base->base.Ns mainGlobals mg->FnOk l.prog w K mg base CX0 9 fa fd ["_law_script"] (spF K tJ):=by
 obtain⟨fd,F,hb⟩:=fzL a33 fV RK;refine⟨fd,hb,fun base _ _=>?_⟩;have O0:=DU (Z:=⟨l.prog,w,K,mg,base⟩) (k:=0) a0 T;have O1:=Cw (Z:=⟨l.prog,w,K,mg,base⟩) (k:=1) a1 T O0.up;have O2:=IU (Z:=⟨l.prog,w,K,mg,base⟩) (k:=2) a2 T O1.up;have O3:=Gd (Z:=⟨l.prog,w,K,mg,base⟩) (k:=2) a3 T O1.up;have O4:=Ga (Z:=⟨l.prog,w,K,mg,base⟩) (k:=3) a4 T O0.up O3.up;have O5:=Gb (Z:=⟨l.prog,w,K,mg,base⟩) (k:=0) a5 T;have O6:=Cu (Z:=⟨l.prog,w,K,mg,base⟩) (k:=0) a6 T;have O7:=Cy (Z:=⟨l.prog,w,K,mg,base⟩) (k:=4) a7 T l3 O4.up O6.up;have O8:=za (Z:=⟨l.prog,w,K,mg,base⟩) (k:=5) a8 T j5 O7.up O6.up;have O9:=Cv (Z:=⟨l.prog,w,K,mg,base⟩) (k:=6) a9 T l4 O5.up O1.up O8.up;have O10:=Cz (Z:=⟨l.prog,w,K,mg,base⟩) (k:=3) a10 T O2.up;have O11:=LG (Z:=⟨l.prog,w,K,mg,base⟩) (k:=0) a11 T;have O12:=xG (Z:=⟨l.prog,w,K,mg,base⟩) (k:=1) a12 T O11.up;have O13:=LF (Z:=⟨l.prog,w,K,mg,base⟩) (k:=4) a13 T O10.up O12.up;have O14:=zb (Z:=⟨l.prog,w,K,mg,base⟩) (k:=0) a14 T;have O15:=Ge (Z:=⟨l.prog,w,K,mg,base⟩) (k:=5) a15 T O14.up O13.up;have O16:=DS (Z:=⟨l.prog,w,K,mg,base⟩) (k:=0) a16 T;have O17:=xE (Z:=⟨l.prog,w,K,mg,base⟩) (k:=1) a17 T O16.up;have O18:=DR (Z:=⟨l.prog,w,K,mg,base⟩) (k:=3) a18 T O3.up O2.up O17.up;have O19:=yZ (Z:=⟨l.prog,w,K,mg,base⟩) (k:=0) a19 T;have O20:=Ct (Z:=⟨l.prog,w,K,mg,base⟩) (k:=1) a20 T O19.up;have eW:=DT (Z:=⟨l.prog,w,K,mg,base⟩) (k:=0) a21 T;have O22:=Am (Z:=⟨l.prog,w,K,mg,base⟩) (k:=1) a22 T eW.up;have O23:=yY (Z:=⟨l.prog,w,K,mg,base⟩) (k:=1) a23 T eW.up;have O24:=xF (Z:=⟨l.prog,w,K,mg,base⟩) (k:=0) a24 T;have O25:=vh (Z:=⟨l.prog,w,K,mg,base⟩) (k:=1) a25 T O24.up;have O26:=Al (Z:=⟨l.prog,w,K,mg,base⟩) (k:=2) a26 T O25.up;have O27:=Ak (Z:=⟨l.prog,w,K,mg,base⟩) (k:=3) a27 T eW.up O22.up O23.up O26.up;have O28:=IT (Z:=⟨l.prog,w,K,mg,base⟩) (k:=0) a28 T;have O29:=sv (Z:=⟨l.prog,w,K,mg,base⟩) (k:=1) a29 T O28.up;have O30:=uv (Z:=⟨l.prog,w,K,mg,base⟩) (k:=0) a30 T;have O31:=su (Z:=⟨l.prog,w,K,mg,base⟩) (k:=7) a31 T O15.up O18.up O9.up;have O32:=Cs (Z:=⟨l.prog,w,K,mg,base⟩) (k:=4) a32 T O18.up;exact Q7 (Z:=⟨l.prog,w,K,mg,base⟩) (k:=8) F T O20.up O27.up O15.up O30.up O13.up O31.up eW.up O32.up O22.up O29.up
end K14
namespace PV
open PySem PySem.Spec PyProof.Rows L2 PX
@[simp] theorem Vu(d:D)(δ:Dn):fC d δ=some ((d,false),δ):=rfl
@[simp] theorem UG(f:F)(δ:Dn):gw f δ=(f δ).bind fun p=>some (.val p.1,p.2):=rfl
@[simp] theorem TR(x:D×Bool)(δ:Dn):gu 0 (some x::δ)=some (.slot 0,some x::δ):=rfl
@[simp] theorem TQ(a:Sl)(x:D×Bool)(δ:Dn):gu 1 (a::some x::δ)=some (.slot 1,a::some x::δ):=rfl
@[simp] theorem TN(a b:Sl)(x:D×Bool)(δ:Dn):gu 2 (a::b::some x::δ)=some (.slot 2,a::b::some x::δ):=rfl
@[simp] theorem TM(a b c:Sl)(x:D×Bool)(δ:Dn):gu 3 (a::b::c::some x::δ)=some (.slot 3,a::b::c::some x::δ):=rfl
@[simp] theorem TL(a b c d:Sl)(x:D×Bool)(δ:Dn):gu 4 (a::b::c::d::some x::δ)=some (.slot 4,a::b::c::d::some x::δ):=rfl
@[simp] theorem TK(a b c d e:Sl)(x:D×Bool)(δ:Dn):gu 5 (a::b::c::d::e::some x::δ)=some (.slot 5,a::b::c::d::e::some x::δ):=rfl
@[simp] theorem TJ(a b c d e f:Sl)(x:D×Bool)(δ:Dn):gu 6 (a::b::c::d::e::f::some x::δ)=some (.slot 6,a::b::c::d::e::f::some x::δ):=rfl
@[simp] theorem TH(a b c d e f g:Sl)(x:D×Bool)(δ:Dn):gu 7 (a::b::c::d::e::f::g::some x::δ)=some (.slot 7,a::b::c::d::e::f::g::some x::δ):=rfl
@[simp] theorem TF(a b c d e f g h:Sl)(x:D×Bool)(δ:Dn):gu 8 (a::b::c::d::e::f::g::h::some x::δ)=some (.slot 8,a::b::c::d::e::f::g::h::some x::δ):=rfl
@[simp] theorem FY(δ:Dn)(r:D×Bool):res δ (.val r)=some r.1:=rfl
@[simp] theorem UE(x:D×Bool)(δ:Dn):res (some x::δ) (.slot 0)=some x.1:=rfl
@[simp] theorem UD(a:Sl)(x:D×Bool)(δ:Dn):res (a::some x::δ) (.slot 1)=some x.1:=rfl
@[simp] theorem UC(a b:Sl)(x:D×Bool)(δ:Dn):res (a::b::some x::δ) (.slot 2)=some x.1:=rfl
@[simp] theorem UB(a b c:Sl)(x:D×Bool)(δ:Dn):res (a::b::c::some x::δ) (.slot 3)=some x.1:=rfl
@[simp] theorem UA(a b c d:Sl)(x:D×Bool)(δ:Dn):res (a::b::c::d::some x::δ) (.slot 4)=some x.1:=rfl
@[simp] theorem Uz(a b c d e:Sl)(x:D×Bool)(δ:Dn):res (a::b::c::d::e::some x::δ) (.slot 5)=some x.1:=rfl
@[simp] theorem Uy(a b c d e f:Sl)(x:D×Bool)(δ:Dn):res (a::b::c::d::e::f::some x::δ) (.slot 6)=some x.1:=rfl
@[simp] theorem Ux(a b c d e f g:Sl)(x:D×Bool)(δ:Dn):res (a::b::c::d::e::f::g::some x::δ) (.slot 7)=some x.1:=rfl
@[simp] theorem Uw(a b c d e f g h:Sl)(x:D×Bool)(δ:Dn):res (a::b::c::d::e::f::g::h::some x::δ) (.slot 8)=some x.1:=rfl
@[simp] theorem UR(g:D->Option (D×Bool))(fa:FO)(δ:Dn):ni g fa δ=(fa δ).bind fun p=>(res p.2 p.1).bind fun x=>(g x).bind fun z=>some (z,p.2):=rfl
@[simp] theorem UQ(g:D->D->Option (D×Bool))(fa fb:FO)(δ:Dn):gB g fa fb δ=(fa δ).bind fun p=>(fb p.2).bind fun q=>(res q.2 p.1).bind fun x=>(res q.2 q.1).bind fun y=>(g x y).bind fun z=>some (z,q.2):=rfl
@[simp] theorem Sm(δ:Dn):jl [] δ=some ([],δ):=rfl
@[simp] theorem TZ(f:FO)(fs:List FO)(δ:Dn):jl (f::fs) δ=(f δ).bind fun p=>(jl fs p.2).bind fun q=>some (p.1::q.1,q.2):=rfl
@[simp] theorem Nc(δ:Dn):um δ []=some []:=rfl
@[simp] theorem P4(δ:Dn)(o:Opd)(os:List Opd):um δ (o::os)=(res δ o).bind fun d=>(um δ os).bind fun l=>some (d::l):=rfl
@[simp] theorem TY(g:List D->Option (D×Bool))(fs:List FO)(δ:Dn):gP g fs δ=(jl fs δ).bind fun p=>(um p.2 p.1).bind fun ds=>(g ds).bind fun z=>some (z,p.2):=rfl
@[simp] theorem TC:pD []=some []:=rfl
@[simp] theorem Ul(r:D×Bool)(os:List Opd):pD (.val r::os)=(pD os).map (r.1:: ·):=rfl
@[simp] theorem FZ(fs:List F)(δ:Dn):jN fs δ=(jl (fs.map gw) δ).bind fun p=>(pD p.1).bind fun ds=>if ds.length<=sizeLine then some ((.tup ds,false),p.2) else none:=rfl
@[simp] theorem UT(fs:List F)(δ:Dn):lK fs δ=(jl (fs.map gw) δ).bind fun p=>(pD p.1).bind fun ds=>if ds.length<=sizeLine then some ((.lst ds,true),p.2) else none:=rfl
@[simp] theorem Vn(b o:Bool)(δ:Dn):asB ((.bl b,o),δ)=some (b,δ):=rfl
@[simp] theorem Vt(f:F)(δ:Dn):fT f δ=(f δ).bind asB:=rfl
@[simp] theorem T3(f g:FT)(δ:Dn):tH f g δ=(f δ).bind fun p=>if p.1=true then g p.2 else some (false,p.2):=rfl
@[simp] theorem UP(f g:FT)(δ:Dn):Aq f g δ=(f δ).bind fun p=>if p.1=true then some (true,p.2) else g p.2:=rfl
@[simp] theorem TX(f:FT)(δ:Dn):lj f δ=(f δ).bind fun p=>some (!p.1,p.2):=rfl
@[simp] theorem KR(f g:F)(δ:Dn):vH f g δ=(f δ).bind fun p=>(asB p).bind fun q=>if q.1=true then g q.2 else some ((.bl false,false),q.2):=rfl
@[simp] theorem Vl(f g:F)(δ:Dn):fOr f g δ=(f δ).bind fun p=>(asB p).bind fun q=>if q.1=true then some ((.bl true,false),q.2) else g q.2:=rfl
@[simp] theorem US(f:F)(δ:Dn):Oo f δ=(f δ).bind fun p=>(asB p).bind fun q=>some ((.bl (!q.1),false),q.2):=rfl
@[simp] theorem OR(t:FT)(f g:F)(δ:Dn):fIf t f g δ=(t δ).bind fun p=>if p.1=true then f p.2 else g p.2:=rfl
@[simp] theorem Uu(δ:Dn):gS δ=some (.nx δ):=rfl
def nxt(g:FS):Out->Option Out
 | .nx δ1=>g δ1
 |o=>some o
@[simp] theorem UI(g:FS)(δ:Dn):nxt g (.nx δ)=g δ:=rfl
@[simp] theorem UH(g:FS)(r:D×Bool)(δ:Dn):nxt g (.rt r δ)=some (.rt r δ):=rfl
@[simp] theorem Us(f g:FS)(δ:Dn):gE f g δ=(f δ).bind (nxt g):=by
 unfold gE
 cases f δ with
 |none=>rfl
 |some o=>cases o<;>rfl
@[simp] theorem Nb(f:F)(δ:Dn):nJ f δ=(f δ).bind fun p=>some (.nx p.2):=rfl
@[simp] theorem Ut(f:F)(δ:Dn):ji f δ=(f δ).bind fun p=>some (.rt p.1 p.2):=rfl
@[simp] theorem Vf(t:FT)(f g:FS)(δ:Dn):sIf t f g δ=(t δ).bind fun p=>if p.1=true then f p.2 else g p.2:=rfl
@[simp] theorem Ur(i:Nat)(f:F)(δ:Dn):iw i f δ=(f δ).bind fun p=>if i<p.2.length then some (.nx (p.2.set i (some p.1))) else none:=rfl
@[simp] theorem Uq(tg:Tg)(f:F)(δ:Dn):FR tg f δ=(f δ).bind fun p=>(tg p.1.1 p.2).bind fun δ1=>some (.nx δ1):=rfl
@[simp] theorem Vs(g:D->Option (D×Bool))(d:D):g1 g [d]=g d:=rfl
@[simp] theorem Vr(g:D->D->Option (D×Bool))(d e:D):g2 g [d,e]=g d e:=rfl
@[simp] theorem KU(i j:Int):ju (.int i) (.int j)=some (.int (i+j),false):=rfl
@[simp] theorem Ve(i j:Int):PX.gSub (.int i) (.int j)=some (.int (i-j),false):=rfl
@[simp] theorem Vg(i:Int):wO (.int i)=some (.int (-i),false):=rfl
@[simp] theorem Vo(i:Int):oN (.int i)=some (.int (if i<0 then -i else i),false):=rfl
@[simp] theorem UL(l:List D):nP (.tup l)=some (.int l.length,false):=rfl
@[simp] theorem UM(l:List D):nP (.lst l)=some (.int l.length,false):=rfl
@[simp] theorem Uo(l:List D):kh (.lst l)=some (.tup l,false):=rfl
@[simp] theorem Um(l:List D):kh (.tup l)=some (.tup l,false):=rfl
@[simp] theorem UJ(l:List D):HI (.tup l)=some (.lst l,true):=rfl
@[simp] theorem UK(l:List D):HI (.lst l)=some (.lst l,true):=rfl
@[simp] theorem UO(b:Bool):Mg (.bl b)=some (.int (if b then 1 else 0),false):=rfl
@[simp] theorem UN(b:Int):Mg (.int b)=some (.int b,false):=rfl
@[simp] theorem Vj(i j:Int):Me (.int i) (.int j)=some (.int (if j>i then j else i),false):=rfl
@[simp] theorem Vi(i j:Int):Md (.int i) (.int j)=some (.int (if j<i then j else i),false):=rfl
@[simp] theorem Vk(ts:List Ty)(d:D):zq ts d=some (.bl (ts.any (isT d)),false):=rfl
@[simp] theorem KS(i j:Int):gEq (.int i) (.int j)=some (.bl (i==j),false):=by unfold gEq;rw[gG (by simp[D.dep])];simp[D.eqb]
@[simp] theorem Sk(i j:Int):gNe (.int i) (.int j)=some (.bl (!(i==j)),false):=by unfold gNe;rw[gG (by simp[D.dep])];simp[D.eqb]
@[simp] theorem Vm(i j:Bool):gEq (.bl i) (.bl j)=some (.bl (i==j),false):=by unfold gEq;rw[gG (by simp[D.dep])];simp[D.eqb]
@[simp] theorem Vh(i j:Bool):gNe (.bl i) (.bl j)=some (.bl (!(i==j)),false):=by unfold gNe;rw[gG (by simp[D.dep])];simp[D.eqb]
@[simp] theorem Nd(i j:Int):jE .Lt (.int i) (.int j)=some (.bl (decide (i<j)),false):=by simp[jE,lI,jD,D.dep]
@[simp] theorem Vp(i j:Int):jE .LtE (.int i) (.int j)=some (.bl (decide (i<=j)),false):=by simp[jE,lI,jD,D.dep]
@[simp] theorem IA(i j:Int):jE .Gt (.int i) (.int j)=some (.bl (decide (i>j)),false):=by simp[jE,lI,jD,D.dep]
@[simp] theorem Vq(i j:Int):jE .GtE (.int i) (.int j)=some (.bl (decide (i>=j)),false):=by simp[jE,lI,jD,D.dep]
@[simp] theorem TU(f:F)(δ:Dn):hJ f δ=(f δ).bind fun p=>match p.1.1 with| .lst l=>some (l,p.2)| .tup l=>some (l,p.2)|_=>none:=rfl
@[simp] theorem Uv(fi:FIt)(tg:Tg)(fb:FS)(δ:Dn):pI fi tg fb δ=(fi δ).bind fun p=>qX tg fb p.1 p.2:=rfl
@[simp] theorem yd(δ:Dn):iz δ=some (true,δ):=rfl
@[simp] theorem ye(f:F)(acc:List D)(δ:Dn):ig f acc δ=(f δ).bind fun p=>if acc.length<sizeLine then some (acc++[p.1.1],p.2) else none:=rfl
theorem Cc(h:n<=10000):n<=sizeLine:=by rw[iQ];omega
theorem Hh(h:n<=10000):n<sizeLine:=by rw[iQ];omega
abbrev enc(t:gY):D×Bool:=(.tup (t.map .int),false)
abbrev stt(a:Int)(b:Bool):Sl:=some (.lst [.int a,.bl b],true)
abbrev lsi(l:gY):Sl:=some (.lst (l.map .int),true)
@[simp] theorem TV(ev:EvF)(fs:List FO)(δ:Dn):gH ev fs δ=(jl fs δ).bind fun p=>(jJ p.2 p.1).bind fun args=>if(hX p.1 args).Nodup then(ev args).bind fun q=>some (q.1,wb p.1 args q.2 p.2) else none:=rfl
@[simp] theorem wF(δ:Dn):jJ δ []=some []:=rfl
@[simp] theorem Sn(δ:Dn)(o:Opd)(os:List Opd):jJ δ (o::os)=(vP δ o).bind fun a=>(jJ δ os).bind fun l=>some (a::l):=rfl
@[simp] theorem UU(δ:Dn)(r:D×Bool):vP δ (.val r)=some (r.1,false):=rfl
@[simp] theorem UW(δ:Dn)(i:Nat):vP δ (.slot i)=(δ[i]?).join:=rfl
theorem rE(a:Int)(b:Bool)(m:Int)(hm:0<m)(bP:m<1073741824):
  ∃v a',0<=v/\v<m/\gK [(.lst [.int a,.bl b],true),(.int m,false)]=some ((.int v,false),[some (.lst [.int a',.bl b],true),some (.int m,false)]):=by
 cases b
 ·have h1: ∀x:Int, -18446744073709551616<x%2147483647/\x%2147483647<18446744073709551616:=fun x=>by omega
  have h2: ∀x:Int, -18446744073709551616<x%2147483629/\x%2147483629<18446744073709551616:=fun x=>by omega
  simp only[gK,oK];simp[evF,gIx,atI,ixN,vA,gI,Mh,qk,Jj,wD,mZ,iA,hX,wb,Jt,C9,CMul,hm,bP,h1,h2];exact⟨EY _ (by omega),EZ _ hm⟩
 ·simp only[gK,oK];simp[evF,gIx,atI,ixN,vA,gI,Mh,qk,Jj,wD,mZ,iA,hX,wb,Jt,C9,CMul,hm,bP];exact⟨EY _ (by omega),EZ _ hm⟩
theorem ym(x y:Int):(x==y)=decide (x=y):=rfl
theorem iH{g:List D->Option (D×Bool)}{fs:List FO}{δ δ':Dn}{os:List Opd}{ds:List D}{z:D×Bool}(h1:jl fs δ=some (os,δ'))(h2:um δ' os=some ds)(h3:g ds=some z):gP g fs δ=some (z,δ'):=by
 unfold gP;rw[h1];simp only[jc];rw[h2];simp only[jc];rw[h3];rfl
theorem jz(h1:args.length=np/\np<=n/\(args.zipIdx.all fun p=>!(p.1.2&&asg.contains p.2))=true)(h2:f (args.map some++List.replicate (n-np) none)=some (.rt r δ)):evF n np asg f args=some (r,iA args δ):=by
 unfold evF;rw[gG h1,h2]
theorem gF(h:f δ=some (.nx δ1)):gE f g δ=g δ1:=by unfold gE;rw[h];rfl
theorem iJ{r}(h:f δ=some (.rt r δ1)):gE f g δ=some (.rt r δ1):=by unfold gE;rw[h];rfl
theorem jx{r}(h:f δ=some (r,δ1)):ji f δ=some (.rt r δ1):=by unfold ji;rw[h];rfl
theorem iC{r}(h:f δ=some (r,δ1))(hi:i<δ1.length):iw i f δ=some (.nx (δ1.set i (some r))):=by unfold iw;rw[h];simp only[jc];rw[gG hi]
theorem js(h:f δ=some ((.bl b,o),δ1)):fT f δ=some (b,δ1):=by unfold fT;rw[h];rfl
theorem gL{r}(h:f δ=some (r,δ1)):gw f δ=some (.val r,δ1):=by unfold gw;rw[h];rfl
theorem gX(h1:fa δ=some (o1,δ1))(h2:fb δ1=some (o2,δ2))(h3:res δ2 o1=some x)(h4:res δ2 o2=some y)(h5:g x y=some z):gB g fa fb δ=some (z,δ2):=by
 unfold gB;rw[h1];simp only[jc];rw[h2];simp only[jc];rw[h3,h4];simp only[jc];rw[h5];rfl
theorem gW{ev:EvF}{fs:List FO}{δ δ1:Dn}{os:List Opd}{args:List (D×Bool)}{r:D×Bool}{outs:Dn}(h1:jl fs δ=some (os,δ1))(h2:jJ δ1 os=some args)(h3:(hX os args).Nodup)(h4:ev args=some (r,outs)):gH ev fs δ=some (r,wb os args outs δ1):=by
 unfold gH;rw[h1];simp only[jc];rw[h2];simp only[jc];rw[gG h3,h4];rfl
theorem Mj(h:f δ=some (false,δ1)):Aq f g δ=g δ1:=by unfold Aq;rw[h];rfl
theorem pk(h:f δ=some (b,δ1)):lj f δ=some (!b,δ1):=by unfold lj;rw[h];rfl
theorem kJ(h:t δ=some (false,δ1)):sIf t f g δ=g δ1:=by unfold sIf;rw[h];rfl
theorem qK(h:t δ=some (true,δ1)):sIf t f g δ=f δ1:=by unfold sIf;rw[h];rfl
theorem nU{fa fb:FO}{δ δ1 δ2:Dn}{o1 o2:Opd}(h1:fa δ=some (o1,δ1))(h2:fb δ1=some (o2,δ2)):jl [fa,fb] δ=some ([o1,o2],δ2):=by
 simp only[jl];rw[h1];simp only[jc];rw[h2];rfl
theorem lG{fa:FO}{δ δ1:Dn}{o1:Opd}(h1:fa δ=some (o1,δ1)):jl [fa] δ=some ([o1],δ1):=by
 simp only[jl];rw[h1];rfl
theorem nc(h:fi δ=some (ds,δ1)):pI fi tg fb δ=qX tg fb ds δ1:=by unfold pI;rw[h];rfl
theorem uF{os}(h1:fa δ=some (o1,δ1))(h2:jl fs δ1=some (os,δ2)):jl (fa::fs) δ=some (o1::os,δ2):=by
 simp only[jl];rw[h1];simp only[jc];rw[h2];rfl
theorem Ov(ns:gY)(k:Nat): ∃c,kM [(.lst (ns.map .int),false),(.int k,false)]=some ((.int c,false),[some (.lst (ns.map .int),false),some (.int k,false)]):=by
 by_cases hk:k<ns.length
 ·refine⟨ns[k],?_⟩;simp[kM,lF,evF,gIx,atI,ixN,iA,hk]
 ·refine⟨0,?_⟩;simp[kM,lF,evF,iA,hk]
theorem OU:Jj (.int 10) (.int 18)=some (.int 1000000000000000000,false):=by
 have:C9 10 18:=by unfold C9;decide+kernel
 show((if C9 10 18 then some (D.int (10^(18:Int).toNat)) else none).map fun z=>(z,false))=_;rw[gG this];rfl
theorem Kv(ns:gY)(k:Nat): ∃a b,kU [(.lst (ns.map .int),false),(.int k,false)]=some ((.lst [.int a,.bl b],true),[some (.lst (ns.map .int),false),some (.int k,false)]):=by
 obtain⟨c,hc⟩:=Ov ns k;by_cases h:c>=1000000000000000000
 ·refine⟨c-1000000000000000000,true,?_⟩;simp[kU,ng,evF,hc,hX,wb,OU,h,iQ,iA]
 ·refine⟨c%2147483647,false,?_⟩;simp[kU,ng,evF,hc,hX,wb,OU,h,iQ,iA,vA,gI]
def st(n:Nat):List Int:=(List.range n).map fun(k:Nat)=>(1+(k:Int))
theorem PD(n:Nat):(st n).map D.int=ik 1 n:=by simp[st,ik]
def nK:Nat->List Int->List Int->List (List Int)
 |0,_,f=>[f]
 |k+1,r,f=>(List.range r.length).flatMap fun v=>nK k (r.eraseIdx v) (f++[r.getD v 0*1])++nK k (r.eraseIdx v) (f++[r.getD v 0* -1])
theorem A5(f:Int->D): ∀(l:gY) (k:Nat),(l.map f).eraseIdx k=(l.eraseIdx k).map f
 |[],k=>by simp
 |x::l,0=>by simp
 |x::l,k+1=>by simp[A5 f l k]
theorem Jk{i:Nat}{f:FO}{δ δ1:Dn}{o:Opd}{l0 l:List D}{k:Int}{j:Nat}{d:D}(h0:δ[i]?=some (some (.lst l0,true)))(h1:f δ=some (o,δ1))(h2:res δ1 o=some (.int k))(h3:δ1[i]?=some (some (.lst l,true)))(h4: -(2^63)<=k/\k<2^63)(h5:ixN l.length k=some j)(h6:l[j]?=some d):
  uE i f δ=some ((d,false),δ1.set i (some (.lst (l.eraseIdx j),true))):=by
 unfold uE;rw[h0];simp only[];rw[h1];simp only[jc];rw[h2,h3];simp only[];rw[gG h4,h5];simp only[jc];rw[h6];rfl
theorem zC{i:Nat}{f:F}{δ δ1:Dn}{r:D×Bool}{l0 l:List D}(h0:δ[i]?=some (some (.lst l0,true)))(h1:f δ=some (r,δ1))(h3:δ1[i]?=some (some (.lst l,true)))(h4:l.length<sizeLine):
  kT i f δ=some ((.non,false),δ1.set i (some (.lst (l++[r.1]),true))):=by
 unfold kT;rw[h0];simp only[];rw[h1];simp only[jc];rw[h3];simp only[];rw[gG h4]
theorem DF{r}(h:f δ=some (r,δ1)):nJ f δ=some (.nx δ1):=by unfold nJ;rw[h];rfl
abbrev Tn:F:=(uE 2 (gw (gH gK [(gu 0),(gw (gP (g1 nP) [(gu 2)]))])))
abbrev Tj:F:=(gB gIx (gw (lK [(fC (.int 1)),(ni wO (gw (fC (.int 1))))])) (gw (gH gK [(gu 0),(gw (fC (.int 2)))])))
abbrev fbT:FS:=(gE (nJ (kT 3 (gB qk (gw Tn) (gw Tj)))) gS)
theorem Qw(a:Int)(b:Bool)(n:Sl)(r f:gY)(x:Sl)(h0:0<r.length)(h5:r.length<=5): ∃v a',v<r.length/\Tn [stt a b,n,lsi r,lsi f,x]=some ((.int (r.getD v 0),false),[stt a' b,n,lsi (r.eraseIdx v),lsi f,x]):=by
 obtain⟨v,a',hv0,hv,e⟩:=rE a b r.length (by lia) (by lia);have hn:v.toNat<r.length:=by lia
 refine⟨v.toNat,a',hn,?_⟩;have e1:(lsi (r.eraseIdx v.toNat):Sl)=some (.lst ((r.map D.int).eraseIdx v.toNat),true):=by rw[A5]
 rw[e1];refine Jk (k:=v) (δ1:=[stt a' b,n,lsi r,lsi f,x]) rfl (gL (r:=(.int v,false)) (gW (δ1:=[stt a b,n,lsi r,lsi f,x]) (os:=[.slot 0,.val (.int r.length,false)]) (args:=[(.lst [.int a,.bl b],true),(.int r.length,false)]) ?_ rfl (show([0]:List Nat).Nodup from by decide) e)) rfl rfl ⟨by lia,by lia⟩ (j:=v.toNat) ?_ ?_
 ·show some ([Opd.slot 0,Opd.val (D.int ((r.map D.int).length:Nat),false)],_)=_;rw[jj]
 ·unfold ixN;rw[gG hv0,gG (by simpa using hv)]
 ·simp[hn]
theorem PM(a:Int)(b:Bool)(n y z x:Sl): ∃s a',(s=1\/s= -1)/\Tj [stt a b,n,y,z,x]=some ((.int s,false),[stt a' b,n,y,z,x]):=by
 obtain⟨v,a',hv0,hv,e⟩:=rE a b 2 (by lia) (by lia);have hl: ∀δ:Dn,lK [(fC (.int 1)),(ni wO (gw (fC (.int 1))))] δ=some ((.lst [.int 1,.int (-1)],true),δ):=fun δ=>rfl;refine⟨if v=0 then 1 else -1,a',by split<;>simp,?_⟩;refine gX (δ1:=[stt a b,n,y,z,x]) (gL (hl _)) (gL (δ1:=[stt a' b,n,y,z,x]) (gW (δ1:=[stt a b,n,y,z,x]) (os:=[.slot 0,.val (.int 2,false)]) (args:=[(.lst [.int a,.bl b],true),(.int 2,false)]) rfl rfl (show([0]:List Nat).Nodup from by decide) e)) rfl rfl ?_;rcases(show v=0\/v=1 by lia) with rfl|rfl<;>rfl
theorem Ru(a:Int)(b:Bool)(n:Sl)(r f:gY)(x:Sl)(h0:0<r.length)(h5:r.length<=5)(hf:f.length<=5): ∃v s a',v<r.length/\(s=1\/s= -1)/\fbT [stt a b,n,lsi r,lsi f,x]=some (.nx [stt a' b,n,lsi (r.eraseIdx v),lsi (f++[r.getD v 0*s]),x]):=by
 obtain⟨v,a1,hv,e1⟩:=Qw a b n r f x h0 h5;obtain⟨s,a2,hs,e2⟩:=PM a1 b n (lsi (r.eraseIdx v)) (lsi f) x;refine⟨v,s,a2,hv,hs,?_⟩
 have hm:qk (.int (r.getD v 0)) (.int s)=some (.int (r.getD v 0*s),false):=by
  have:CMul (r.getD v 0) s:= .inr (by lia);show((if CMul (r.getD v 0) s then some (D.int (r.getD v 0*s)) else none).map fun z=>(z,false))=_;rw[gG this];rfl
 have hl:(f.map D.int).length<sizeLine:=by rw[jj];exact Nat.lt_of_le_of_lt hf (by decide)
 have e3:=zC (i:=3) (δ:=[stt a b,n,lsi r,lsi f,x]) (l0:=f.map .int) rfl (gX (gL e1) (gL e2) rfl rfl hm) (l:=f.map .int) rfl hl;refine(gF (DF e3)).trans ?_;simp[gS,lsi]
theorem Pc(b:Bool)(n:Sl): ∀(ds:List D) (a:Int) (r f:gY) (x:Sl),ds.length=r.length->f.length+r.length<=5->
  ∃a' t r' x',t∈nK ds.length r f/\qX (gD 4) fbT ds [stt a b,n,lsi r,lsi f,x]=some (.nx [stt a' b,n,lsi r',lsi t,x'])
 |[],a,r,f,x,_,_=>⟨a,f,r,x,by simp[nK],rfl⟩
 |d::ds,a,r,f,x,h,hl=>by
  simp only[kD] at h;obtain⟨v,s,a1,hv,hs,e⟩:=Ru a b n r f (some (d,false)) (by lia) (by lia) (by lia);obtain⟨a',t,r',x',ht,e'⟩:=Pc b n ds a1 (r.eraseIdx v) (f++[r.getD v 0*s]) (some (d,false)) (by rw[Bt,gG hv];lia) (by rw[Bt,gG hv,mq];simp only[kD,sN];lia);refine⟨a',t,r',x',?_,?_⟩
  ·simp only[kD,nK,List.mem_flatMap,nG,uK];refine⟨v,hv,?_⟩;rcases hs with rfl|rfl
   ·exact .inl ht
   ·exact .inr ht
  ·unfold qX;rw[show gD 4 d [stt a b,n,lsi r,lsi f,x]=some [stt a b,n,lsi r,lsi f,some (d,false)] from rfl];simp only[jc];rw[e];simp only[jc];exact e'
theorem PU(n:Nat)(hn:n<=5):gRg .lst true [.int 1,.int ((n:Int)+1)]=some (.lst ((st n).map .int),true):=by
 have:n=0\/n=1\/n=2\/n=3\/n=4\/n=5:=by lia
 have h1:RgOk 1 ((n:Int)+1):=by rcases this with rfl|rfl|rfl|rfl|rfl|rfl<;>decide+kernel
 have h2:((n:Int)+1-1).toNat=n:=by lia
 show(if RgOk 1 ((n:Int)+1) then some (D.lst (ik 1 ((n:Int)+1-1).toNat),true) else none)=_;rw[gG h1,h2,<-PD]
theorem rP{f:FO}{δ δ1:Dn}{o:Opd}{n:Nat}(h1:f δ=some (o,δ1))(h2:res δ1 o=some (.int n))(hn:n<=63):uB f δ=some (ik 0 n,δ1):=by
 have hb:(-(2^62)<=(n:Int)/\(n:Int)<2^62):=⟨by lia,by lia⟩
 have h3:jl [f] δ=some ([o],δ1):=by simp[jl,h1]
 have h4:um δ1 [o]=some [.int n]:=by simp[um,h2]
 unfold uB;rw[h3];simp only[jc];rw[h4];simp only[];rw[gG hb];rfl
theorem FD(a:Int)(b:Bool)(n:Nat)(hn:n<=5): ∃a' t,t∈nK n (st n) []/\kL [(.lst [.int a,.bl b],true),(.int n,false)]=some (enc t,[stt a' b,some (.int n,false)]):=by
 have hlen:(ik 0 n).length=n:=by simp[ik]
 have t9:(st n).length=n:=by simp[st]
 obtain⟨a',t,r',x',ht,e⟩:=Pc b (some (.int n,false)) (ik 0 n) a (st n) [] none (by rw[hlen,t9]) (by rw[t9];simpa using hn);rw[hlen] at ht;refine⟨a',t,ht,?_⟩;refine jz (δ:=[stt a' b,some (.int n,false),lsi r',lsi t,x']) ⟨rfl,by decide,rfl⟩ ?_;refine(gF (δ1:=[stt a b,some (.int n,false),lsi (st n),none,none]) (iC (i:=2) (δ1:=[stt a b,some (.int n,false),none,none,none]) (iH (os:=[.val (.int 1,false),.val (.int ((n:Int)+1),false)]) rfl rfl (PU n hn)) (show 2<5 by decide))).trans ?_;refine(gF (δ1:=[stt a b,some (.int n,false),lsi (st n),lsi [],none]) rfl).trans ?_;refine(gF ((nc (rP (o:= .slot 1) rfl rfl (by lia))).trans e)).trans ?_;exact iJ (jx (iH (os:=[.slot 3]) rfl rfl rfl))
theorem wG: ∀(k:Nat) (r f t:gY),r.length=k->t∈nK k r f->t.length=f.length+k
 |0,r,f,t,_,h=>by simp[nK] at h;subst h;simp
 |k+1,r,f,t,hr,h=>by
  simp only[nK,List.mem_flatMap,nG,uK] at h;obtain⟨v,hv,h⟩:=h;have hl:(r.eraseIdx v).length=k:=by rw[Bt,gG hv];lia
  rcases h with h|h
  ·have:=wG k _ _ t hl h;simp at this;lia
  ·have:=wG k _ _ t hl h;simp at this;lia
theorem Km{n:Nat}{t:gY}(h:t∈nK n (st n) []):t.length=n:=by
 have:=wG n (st n) [] t (by simp[st]) h;simpa using this
theorem qZ: ∀t:List Int,D.depL (t.map .int)=0
 |[]=>by simp[D.depL]
 |s::t=>by simp[D.depL,D.dep,qZ t]
theorem zE: ∀a b:List Int,D.eqbL (a.map .int) (b.map .int)=decide (a=b)
 |[],[]=>by simp[D.eqbL]
 |[],_::_=>by simp[D.eqbL]
 |_::_,[]=>by simp[D.eqbL]
 |x::a,y::b=>by simp[D.eqbL,D.eqb,zE a b,Bool.decide_and,ym]
@[simp] theorem A1(a b:gY):gEq (.lst (a.map .int)) (.lst (b.map .int))=some (.bl (decide (a=b)),false):=by unfold gEq;rw[gG (by simp[D.dep,qZ])];simp[D.eqb,zE]
theorem RQ:x∈st n↔1<=x/\x<=n:=by
 simp only[st,mw,uK];constructor
 ·rintro⟨k,h,rfl⟩;omega
 ·rintro⟨h1,h2⟩;exact⟨(x-1).toNat,by omega,by omega⟩
theorem CJ{l:gY}{m:List D}(h:m.Perm (l.map D.int)): ∃k:List Int,m=k.map .int:=by
 refine⟨m.map fun d=>match d with|D.int i=>i|_=>0,?_⟩;rw[jX]
 symm
 rw[pV (g:=id),tN];intro d hd;obtain⟨i,_,rfl⟩:=mw.mp (h.mem_iff.mp hd);rfl
theorem Dy(l:gY):mE (l.map .int)=true:=by
 unfold mE
 cases l with
 |nil=>rfl
 |cons x l=>
  rw[vY];right;simp only[iN];simp[jZ,D.pr,D.dep,lI]
theorem Ha(pre:Dn)(x:Sl)(d:D):gD pre.length d (pre++[x])=some (pre++[some (d,false)]):=by
 unfold gD;rw[gG (by simp)];simp[List.set_append]
theorem zM(f:F)(g:D->D)(pre:Dn): ∀(l acc:List D) (x:Sl),(∀d∈l,∃o,f (pre++[some (d,false)])=some ((g d,o),pre++[some (d,false)]))->acc.length+l.length<=sizeLine->
  ∃x',kO (gD pre.length) iz (ig f) l acc (pre++[x])=some (acc++l.map g,pre++[x'])
 |[],acc,x,_,_=>⟨x,by simp[kO]⟩
 |d::l,acc,x,h,hl=>by
  obtain⟨o,hd⟩:=h d iX;obtain⟨x',e⟩:=zM f g pre l (acc++[g d]) (some (d,false)) (fun d' h'=>h d' (je _ h')) (by simp at hl ⊢;omega);refine⟨x',?_⟩;have hs:acc.length<sizeLine:=by simp at hl;omega
  rw[kO,Ha];simp only[jc,yd,iE,ye];rw[hd];simp only[jc];rw[gG hs];simp only[jc];rw[e];simp
theorem wY(p:D->Bool): ∀l:List D,rZ (l.map fun d=> .bl (p d))=some (l.map p)
 |[]=>rfl
 |d::l=>by simp[rZ,wY p l]
theorem De(p:D->Bool)(l:List D):xN (.lst (l.map fun d=> .bl (p d)))=some (.bl (l.all p),false):=by
 simp[xN,wY,List.all_map,pW]
theorem MA(p:D->Bool)(l:List D):Gv (.lst (l.map fun d=> .bl (p d)))=some (.bl (l.any p),false):=by
 simp[Gv,wY,wk,pW]
def ab(s:Int):Int:=if s<0 then -s else s
def wh:D->Bool
 | .int _=>true
 |_=>false
def sg(n:Int):D->Bool
 | .int s=>decide (1<=ab s)&&decide (ab s<=n)
 |_=>false
def iOf:D->Int
 | .int s=>s
 |_=>0
theorem uV(d:D):mz [(d,false)]=some ((.bl (wh d),false),[some (d,false)]):=by
 cases d<;>simp[mz,qU,evF,iA,wh,isT]
theorem wJ(d:D)(lo hi:Int):jP [(d,false),(.int lo,false),(.int hi,false)]=some ((.bl (match d with| .int s=>decide (lo<=s)&&decide (s<=hi)|_=>false),false),[some (d,false),some (.int lo,false),some (.int hi,false)]):=by
 cases d with
 |int s=>by_cases h:lo<=s<;>simp[jP,nh,evF,iA,uV,wh,hX,wb,nS,jD,h]
 |_=>simp[jP,nh,evF,iA,uV,wh,hX,wb]
theorem CD(d:D)(n:Int):lq [(.int n,false),(d,false)]=some ((.bl (match d with| .int s=>decide (1<=s)&&decide (s<=n)|_=>false),false),[some (.int n,false),some (d,false)]):=by
 simp[lq,uD,evF,iA,wJ,hX,wb]
theorem M6(n:Int)(d:D):lT [(.int n,false),(d,false)]=some ((.bl (sg n d),false),[some (.int n,false),some (d,false)]):=by
 cases d with
 |int s=>
  simp[lT,pO,evF,iA,uV,CD,wh,hX,wb,sg,ab];rfl
 |_=>simp[lT,pO,evF,iA,uV,CD,wh,hX,wb,sg,ab]
def OkD(d:D):Prop:= ∀l,d= .tup l->l.length<=60
theorem ixi{t:gY}{v:Int}(h0:0<=v)(h:v<t.length):gIx (.tup (t.map .int)) (.int v)=some (.int (t.getD v.toNat 0),false):=by
 have h1:v.toNat<t.length:=by lia
 simp[gIx,atI,ixN,h0,h,h1]
theorem S0{t:gY}{v:Int}(h0:0<=v)(h:v<t.length):gIx (.lst (t.map .int)) (.int v)=some (.int (t.getD v.toNat 0),false):=by
 have h1:v.toNat<t.length:=by lia
 simp[gIx,atI,ixN,h0,h,h1]
theorem mV(a:Int)(b:Bool)(m:Int)(hm:0<m)(bP:m<1073741824): ∃v a',0<=v/\v<m/\ ∀(fo:FO) (δ:Dn) (o:Opd),fo (stt a b::δ)=some (o,stt a b::δ)->vP (stt a b::δ) o=some (.int m,false)->gH gK [gu 0,fo] (stt a b::δ)=some ((.int v,false),stt a' b::δ):=by
 obtain⟨v,a',h0,h1,e⟩:=rE a b m hm bP;refine⟨v,a',h0,h1,fun fo δ o h2 h3=>?_⟩;refine(gW (os:=[.slot 0,o]) (args:=[(.lst [.int a,.bl b],true),(.int m,false)]) (nU rfl h2) ?_ ?_ e).trans ?_
 ·simp[h3]
 ·cases o<;>simp[hX]
 ·cases o<;>simp[wb]
def led(u:gY)(s:Int):Int:=if 0<s then u.getD (s-1).toNat 0 else -(u.getD (-s-1).toNat 0)
theorem U3(x:Int):qk (.int x) (.int 1)=some (.int x,false):=by
 have:CMul x 1:= .inr (by omega);show((if CMul x 1 then some (D.int (x*1)) else none).map fun z=>(z,false))=_;rw[gG this,Fw];rfl
theorem U2(x:Int):qk (.int x) (.int (-1))=some (.int (-x),false):=by
 have:CMul x (-1):= .inr (by omega);show((if CMul x (-1) then some (D.int (x*(-1))) else none).map fun z=>(z,false))=_;rw[gG this,Int.mul_neg,Fw];rfl
theorem uY(a:Int)(b:Bool)(m:Int)(hm:0<m)(bP:m<1073741824): ∃v a',0<=v/\v<m/\ ∀(fo:FO) (c0 c1:Sl) (δ:Dn) (o:Opd),fo (c0::c1::stt a b::δ)=some (o,c0::c1::stt a b::δ)->vP (c0::c1::stt a b::δ) o=some (.int m,false)->gH gK [gu 2,fo] (c0::c1::stt a b::δ)=some ((.int v,false),c0::c1::stt a' b::δ):=by
 obtain⟨v,a',h0,h1,e⟩:=rE a b m hm bP;refine⟨v,a',h0,h1,fun fo c0 c1 δ o h2 h3=>?_⟩;refine(gW (os:=[.slot 2,o]) (args:=[(.lst [.int a,.bl b],true),(.int m,false)]) (nU rfl h2) ?_ ?_ e).trans ?_
 ·simp[h3]
 ·cases o<;>simp[hX]
 ·cases o<;>simp[wb]
theorem lS(h:f δ=some ((.lst l,o),δ1)):hJ f δ=some (l,δ1):=by unfold hJ;rw[h];rfl
def ClOk(n:Nat)(c:gY):Prop:=c≠[]/\(c.map ab).Pairwise (· < ·)/\ ∀s∈c,1<=ab s/\ab s<=n
def CA(j:Int)(c:gY):Prop:=(c.map ab).Pairwise (· < ·)/\ ∀s∈c,1<=ab s/\ab s<j
theorem zY(h:0<=i):ab i=i:=by unfold ab;rw[gJ (by lia)]
theorem GY(h:0<=i):ab (-i)=i:=by unfold ab;split<;>lia
theorem CA.snoc{j s:Int}{c:gY}(h:CA j c)(h1:ab s=j)(h0:1<=j):CA (j+1) (c++[s]):=by
 refine⟨?_,fun x hx=>?_⟩
 ·rw[sG,lW];refine⟨h.1,by simp,fun x hx y hy=>?_⟩;obtain⟨z,hz,rfl⟩:=mw.mp hx;simp at hy;subst hy;have:=h.2 z hz;lia
 ·rcases nG.mp hx with hx|hx
  ·have:=h.2 x hx;lia
  ·simp at hx;subst hx;lia
theorem CA.up(h:CA j c):CA (j+1) c:=⟨h.1,fun x hx=>by have:=h.2 x hx;lia⟩
abbrev fbC:FS:=(gE (iw 5 (gH gK [(gu 0),(gu 2)])) (gE (sIf (fT (gB (jE .Lt) (gu 5) (gw (fC (.int 2))))) (gE (nJ (kT 3 (gB gIx (gw (lK [(hU 4),(ni wO (gu 4))])) (gu 5)))) gS) gS) gS))
theorem uG{i:Nat}{f:F}{δ δ1:Dn}{r:D×Bool}{l0 l:List D}(h0:δ[i]?=some (some (.lst l0,true)))(h1:f δ=some (r,δ1))(h3:δ1[i]?=some (some (.lst l,true)))(h4:l.length<=10000):
  gE (nJ (kT i f)) gS δ=some (.nx (δ1.set i (some (.lst (l++[r.1]),true)))):=
 (gF (DF (zC h0 h1 h3 (Hh h4)))).trans rfl
theorem Rz(a:Int)(b:Bool)(n w:Int)(hw:0<w)(fH:w<100)(j:Int)(hj:1<=j)(c:gY)(hc:CA j c)(hl:c.length<=10)(x:Sl): ∃a' c' x',CA (j+1) c'/\c'.length<=c.length+1/\fbC [stt a b,some (.int n,false),some (.int w,false),lsi c,some (.int j,false),x]=some (.nx [stt a' b,some (.int n,false),some (.int w,false),lsi c',some (.int j,false),x']):=by
 obtain⟨v,a',v0,v1,e⟩:=mV a b w hw (by lia)
 have s1: ∀g,gE (iw 5 (gH gK [(gu 0),(gu 2)])) g [stt a b,some (.int n,false),some (.int w,false),lsi c,some (.int j,false),x]=g [stt a' b,some (.int n,false),some (.int w,false),lsi c,some (.int j,false),some (.int v,false)]:=fun g=>
  gF (iC (i:=5) (δ1:=[stt a' b,some (.int n,false),some (.int w,false),lsi c,some (.int j,false),x]) (e _ [some (.int n,false),some (.int w,false),lsi c,some (.int j,false),x] (.slot 2) rfl rfl) (show 5<6 by decide))
 by_cases h:v<2
 ·have hix:gIx (.lst [.int j,.int (-j)]) (.int v)=some (.int (if v=0 then j else -j),false):=by
   rcases(show v=0\/v=1 by lia) with rfl|rfl<;>rfl
  refine⟨a',c++[if v=0 then j else -j],some (.int v,false),hc.snoc (by split;exact zY (by lia);exact GY (by lia)) hj,by simp,?_⟩;refine(s1 _).trans ((gF ((qK (δ1:=[stt a' b,some (.int n,false),some (.int w,false),lsi c,some (.int j,false),some (.int v,false)]) (by simp[h])).trans (uG (δ1:=[stt a' b,some (.int n,false),some (.int w,false),lsi c,some (.int j,false),some (.int v,false)]) (r:=(.int (if v=0 then j else -j),false)) (l0:=c.map .int) (l:=c.map .int) rfl (by simp[hU,iQ,hix]) rfl (by simp;lia)))).trans ?_);simp[lsi]
 ·refine⟨a',c,some (.int v,false),hc.up,by lia,?_⟩;exact(s1 _).trans ((gF ((kJ (by simp[h])).trans rfl)).trans rfl)
theorem Tf(b:Bool)(n w:Int)(hw:0<w)(fH:w<100): ∀(m:Nat) (j:Nat) (a:Int) (c:gY) (x4 x5:Sl),1<=j->CA j c->c.length+m<=10-> ∃a' c' x6 y9,CA (j+m:Nat) c'/\c'.length<=10/\qX (gD 4) fbC ((List.range' j m).map fun(k:Nat)=>D.int (k:Int)) [stt a b,some (.int n,false),some (.int w,false),lsi c,x4,x5]=some (.nx [stt a' b,some (.int n,false),some (.int w,false),lsi c',x6,y9])
 |0,j,a,c,x4,x5,hj,hc,hl=>⟨a,c,x4,x5,by simpa using hc,by lia,rfl⟩
 |m+1,j,a,c,x4,x5,hj,hc,hl=>by
  obtain⟨a1,c1,x1,h1,l1,e1⟩:=Rz a b n w hw fH j (by lia) c hc (by lia) x5;obtain⟨a',c',x6,y9,h2,l2,e2⟩:=Tf b n w hw fH m (j+1) a1 c1 (some (.int j,false)) x1 (by lia) (by simpa using h1) (by lia);refine⟨a',c',x6,y9,by rw[show j+(m+1)=j+1+m by lia];exact h2,l2,?_⟩;rw[Fd,iN];unfold qX;rw[show gD 4 (.int (j:Int)) [stt a b,some (.int n,false),some (.int w,false),lsi c,x4,x5]=some [stt a b,some (.int n,false),some (.int w,false),lsi c,some (.int j,false),x5] from rfl];simp only[jc];rw[e1];simp only[jc];exact e2
theorem HG(h1:f δ=some (o1,δ1))(h2:g δ1=some (o2,δ2))(h3:res δ2 o1=some (.int i))(h4:res δ2 o2=some (.int j))(hi:0<=i/\i<=1000)(hj:0<=j/\j<=1000):CI f g δ=some (ik i (j-i).toNat,δ2):=by
 unfold CI;rw[nU h1 h2];simp only[jc,P4,Nc,h3,h4];rw[gG ⟨by lia,by lia,by lia,by lia⟩]
theorem A9(a:Int)(b:Bool)(n:Nat)(h1:1<=n)(h5:n<=5): ∃a' c,ClOk n c/\kr [(.lst [.int a,.bl b],true),(.int n,false)]=some (enc c,[stt a' b,some (.int n,false)]):=by
 obtain⟨v,a1,v0,v1,e1⟩:=mV a b 3 (by lia) (by lia)
 let wL:List Int:=[3,4,6]
 let w:=wL.getD v.toNat 0
 have hw:0<w/\w<100:=by
  rcases(show v=0\/v=1\/v=2 by lia) with rfl|rfl|rfl<;>decide
 obtain⟨a2,c,x4,x5,hc,hl,e2⟩:=Tf b n w hw.1 hw.2 n 1 a1 [] none none (by lia) ⟨by simp,by simp⟩ (by simp;lia)
 have r1:CI (gw (fC (.int 1))) (gw (gB ju (gu 1) (gw (fC (.int 1))))) [stt a1 b,some (.int n,false),some (.int w,false),lsi [],none,none]=some (((List.range' 1 n).map fun(k:Nat)=>D.int (k:Int)),[stt a1 b,some (.int n,false),some (.int w,false),lsi [],none,none]):=by
  rw[HG (o1:= .val (.int 1,false)) (o2:= .val (.int ((n:Int)+1),false)) (i:=1) (j:=(n:Int)+1) rfl rfl rfl rfl (by lia) (by lia)];rw[show((n:Int)+1-1).toNat=n by lia]
  congr 2
  unfold ik;rw[List.range'_eq_map_range,jX];apply pV;intro k _;simp
 have pre: ∀g,(gE (iw 2 (gB gIx (gw (lK [(fC (.int 3)),(fC (.int 4)),(fC (.int 6))])) (gw (gH gK [(gu 0),(gw (fC (.int 3)))])))) (gE (iw 3 (lK [])) (gE (pI (CI (gw (fC (.int 1))) (gw (gB ju (gu 1) (gw (fC (.int 1)))))) (gD 4) fbC) g))) [stt a b,some (.int n,false),none,none,none,none]=g [stt a2 b,some (.int n,false),some (.int w,false),lsi c,x4,x5]:=by
  intro g;refine(gF (δ1:=[stt a1 b,some (.int n,false),some (.int w,false),none,none,none]) ?_).trans ?_
  ·refine iC (i:=2) (δ1:=[stt a1 b,some (.int n,false),none,none,none,none]) (gX (o1:= .val (.lst (wL.map .int),true)) (o2:= .val (.int v,false)) (gL (δ1:=[stt a b,some (.int n,false),none,none,none,none]) (by simp[wL,iQ])) (gL (e1 _ [some (.int n,false),none,none,none,none] _ rfl rfl)) rfl rfl (S0 v0 (by simpa[wL] using v1))) (show 2<6 by decide)
  refine(gF (δ1:=[stt a1 b,some (.int n,false),some (.int w,false),lsi [],none,none]) (by simp[lsi,iQ])).trans ?_;exact gF ((nc r1).trans e2)
 by_cases hn:c=[]
 ·subst hn;obtain⟨s,a3,s0,s1,e3⟩:=mV a2 b 2 (by lia) (by lia);obtain⟨i,a4,i0,i1,e4⟩:=mV a3 b n (by lia) (by lia);refine⟨a4,[if s=0 then 1+i else -(1+i)],?_,?_⟩
  ·refine⟨by simp,by simp,fun x hx=>?_⟩;simp at hx;subst hx;split
   ·rw[zY (by lia)];lia
   ·rw[show -(1+i)= -(1+i) from rfl,GY (by lia)];lia
  ·refine jz (δ:=[stt a4 b,some (.int n,false),some (.int w,false),lsi [if s=0 then 1+i else -(1+i)],x4,x5]) ⟨rfl,by decide,rfl⟩ ((pre _).trans ?_)
   have hm: ∀q,gIx (.lst [.int 1,.int (-1)]) (.int s)=some q->qk q.1 (.int (1+i))=some (.int (if s=0 then 1+i else -(1+i)),false):=by
    intro q hq;have k1:CMul 1 (1+i):=by unfold CMul;lia
    have k2:CMul (-1) (1+i):=by unfold CMul;lia
    rcases(show s=0\/s=1 by lia) with rfl|rfl
    ·cases hq;simp[qk,gI,k1]
    ·cases hq;simp[qk,gI,k2]
   have hs:gIx (.lst [.int 1,.int (-1)]) (.int s)=some (.int (if s=0 then 1 else -1),false):=by
    rcases(show s=0\/s=1 by lia) with rfl|rfl<;>rfl
   refine(gF ((qK (δ1:=[stt a2 b,some (.int n,false),some (.int w,false),lsi [],x4,x5]) (js (gX (o1:= .slot 3) (o2:= .val (.lst [],true)) (δ2:=[stt a2 b,some (.int n,false),some (.int w,false),lsi [],x4,x5]) rfl (gL (by simp[iQ])) rfl rfl (A1 [] [])))).trans (uG (r:=(.int (if s=0 then 1+i else -(1+i)),false)) (δ1:=[stt a4 b,some (.int n,false),some (.int w,false),lsi [],x4,x5]) (l0:=[]) (l:=[]) rfl ?_ rfl (by simp)))).trans ?_
   ·refine gX (δ1:=[stt a3 b,some (.int n,false),some (.int w,false),lsi [],x4,x5]) (gL (gX (δ1:=[stt a2 b,some (.int n,false),some (.int w,false),lsi [],x4,x5]) (o1:= .val (.lst [.int 1,.int (-1)],true)) (gL (by simp[iQ])) (gL (e3 _ _ _ rfl rfl)) rfl rfl hs)) (gL (gX (o1:= .val (.int 1,false)) rfl (gL (e4 _ _ (.slot 1) rfl rfl)) rfl rfl rfl)) rfl rfl (hm _ hs)
   ·exact iJ (jx (iH (os:=[.slot 3]) rfl rfl rfl))
 ·refine⟨a2,c,⟨hn,hc.1,fun s hs=>by have:=hc.2 s hs;lia⟩,?_⟩;refine jz (δ:=[stt a2 b,some (.int n,false),some (.int w,false),lsi c,x4,x5]) ⟨rfl,by decide,rfl⟩ ((pre _).trans ?_);refine(gF ((kJ (δ1:=[stt a2 b,some (.int n,false),some (.int w,false),lsi c,x4,x5]) (js (o:=false) (gX (o1:= .slot 3) (o2:= .val (.lst [],true)) (δ2:=[stt a2 b,some (.int n,false),some (.int w,false),lsi c,x4,x5]) rfl (gL (by simp[iQ])) rfl rfl ((A1 c []).trans (by rw[kX hn]))))).trans rfl)).trans ?_;exact iJ (jx (iH (os:=[.slot 3]) rfl rfl rfl))
theorem zf{α:Type}[BEq α][LawfulBEq α]: ∀(l m:List α),l.Nodup->(∀x∈l,x∈m)->l.length<=m.length
 |[],m,_,_=>lN _
 |x::l,m,nd,hs=>by
  rw[J6] at nd;have hx:=hs x iX;have hp:=List.perm_cons_erase hx
  have:=zf l (m.erase x) nd.2 (fun y hy=>by
   have hy2:=hs y (je _ hy);have o7:y≠x:=fun e=>nd.1 (e▸hy);exact(JM o7).mpr hy2)
  have h2:=hp.length_eq;simp only[kD] at h2 ⊢
  lia
theorem SA{l:gY}(h:l.Pairwise (· < ·)):l.Nodup:=h.imp fun h=>by lia
theorem ClOk.len{n:Nat}{c:gY}(h:ClOk n c):c.length<=n:=by
 have:=zf (c.map ab) (st n) (SA h.2.1) (fun x hx=>by
  obtain⟨s,hs,rfl⟩:=mw.mp hx;exact RQ.mpr (h.2.2 s hs))
 simpa[st] using this
def TOk(n:Nat)(t:gY):Prop:=t.length=n/\ ∀x∈t,1<=ab x/\ab x<=n
theorem mp0:gIx (.lst [.int (-1),.int 1]) (.int 0)=some (.int (-1),false):=rfl
theorem mp1:gIx (.lst [.int (-1),.int 1]) (.int 1)=some (.int 1,false):=rfl
theorem SW(u:gY)(s:Int)(h0:s≠0)(h1: -(u.length:Int)<=s)(h2:s<=u.length):
  kn [enc u,(.int s,false)]=some ((.int (led u s),false),[some (enc u),some (.int s,false)]):=by
 simp only[kn,mI];by_cases h:0<s
 ·have:=ixi (t:=u) (v:=s-1) (by lia) (by lia);have e0: ¬s<0:=by lia
  simp only[evF];simp[h,e0,led,this,iA,iQ,mp1,U3]
 ·have:=ixi (t:=u) (v:= -s-1) (by lia) (by lia);have e0:s<0:=by lia
  simp only[evF];simp[h,e0,led,this,iA,iQ,mp0,U2]
theorem Js(i:Int):ab (-i)=ab i:=by unfold ab;split<;>split<;>lia
theorem wN{l:gY}{k:Nat}(h:k<l.length):l.getD k 0∈l:=by
 rw[EO,jd h];exact kA h
theorem Rf{n:Nat}{t:gY}(ht:TOk n t){s:Int}(h1:1<=ab s)(h2:ab s<=n):1<=ab (led t s)/\ab (led t s)<=n:=by
 unfold led;unfold ab at h1 h2;have hl:=ht.1;split
 ·rename_i h;rw[gJ (by lia)] at h1 h2;exact ht.2 _ (wN (by lia))
 ·rename_i h;rw[Js];split at h1
  ·rw[gG (by assumption)] at h2;exact ht.2 _ (wN (by lia))
  ·lia
def dD(ws:gY):D:= .oth .dct (ws.map fun w=> .int (ab w)) (ws.map .int)
def Cp(ws:gY)(w:Int):List Int:=if ab w∈ws.map ab then ws.map fun x=>if ab x=ab w then w else x else ws++[w]
theorem MB(w:Int): ∀ws:List Int,((ws.map fun w=>D.int (ab w)).any (D.eqb · (.int (ab w))))=decide (ab w∈ws.map ab)
 |[]=>by simp
 |x::ws=>by
  simp only[iN,qA,MB w ws,D.eqb,jC];by_cases h:ab x=ab w
  ·simp[h]
  ·have: ¬ab w=ab x:=fun e=>h e.symm;simp[h,this]
theorem Hn(w:Int): ∀ws:List Int,qM (ws.map fun w=>D.int (ab w)) (ws.map .int) (.int (ab w)) (.int w)=(ws.map fun x=>if ab x=ab w then w else x).map .int
 |[]=>by simp[qM]
 |x::ws=>by
  simp only[iN,qM,Hn w ws,D.eqb];by_cases h:ab x=ab w<;>simp[h]
theorem Qq(ws:gY)(w:Int):D.oth .dct (sj (ws.map fun w=> .int (ab w)) (ws.map .int) (.int (ab w)) (.int w)).1 (sj (ws.map fun w=> .int (ab w)) (ws.map .int) (.int (ab w)) (.int w)).2=dD (Cp ws w):=by
 unfold sj Cp dD;rw[MB];by_cases h:ab w∈ws.map ab
 ·rw[gG (by simpa using h),gG h,Hn]
  congr 1
  show(ws.map fun w=>D.int (ab w))=List.map (fun w=>D.int (ab w)) (ws.map fun x=>if ab x=ab w then w else x);rw[jX];apply pV;intro x _;simp only[Function.comp];split
  ·rename_i e;rw[e]
  ·rfl
 ·rw[gJ (by simpa using h),gJ h];simp
def DW(n:Nat)(ws:gY):Prop:=(ws.map ab).Nodup/\ ∀w∈ws,1<=ab w/\ab w<=n
theorem DW.put(h:DW n ws)(h1:1<=ab w/\ab w<=n):DW n (Cp ws w):=by
 unfold Cp;split
 ·rename_i hm;refine⟨?_,fun x hx=>?_⟩
  ·have:((ws.map fun x=>if ab x=ab w then w else x).map ab)=ws.map ab:=by
    rw[jX];apply pV;intro x _;simp only[Function.comp];split
    ·rename_i e;rw[e]
    ·rfl
   rw[this];exact h.1
  ·obtain⟨y,hy,rfl⟩:=mw.mp hx;split
   ·exact h1
   ·exact h.2 y hy
 ·rename_i hm;refine⟨?_,fun x hx=>?_⟩
  ·rw[sG,EN];refine⟨h.1,by simp,fun x hx y hy e=>?_⟩;simp at hy;subst hy;subst e;exact hm hx
  ·rcases nG.mp hx with hx|hx
   ·exact h.2 x hx
   ·simp at hx;subst hx;exact h1
theorem NA(ws:gY)(w:Int):Cp ws w≠[]:=by
 unfold Cp;split
 ·rename_i h
  cases ws with
  |nil=>simp at h
  |cons=>simp
 ·simp
theorem DW.len(h:DW n ws):ws.length<=n:=by
 have:=zf (ws.map ab) (st n) h.1 (fun x hx=>by
  obtain⟨s,hs,rfl⟩:=mw.mp hx;exact RQ.mpr (h.2 s hs))
 simpa[st] using this
theorem CF(k:Int): ∀ws:List Int,k∈ws.map ab-> ∃w∈ws,ab w=k/\lP (ws.map fun w=>D.int (ab w)) (ws.map .int) (.int k)=some (.int w)
 |[],h=>by simp at h
 |x::ws,h=>by
  simp only[iN,lP,D.eqb];by_cases e:ab x=k
  ·exact⟨x,by simp,e,by simp[e]⟩
  ·have:k∈ws.map ab:=by
    simp only[iN,jC] at h;rcases h with h|h
    ·exact absurd h.symm e
    ·exact h
   obtain⟨w,hw,h1,h2⟩:=CF k ws this;exact⟨w,by simp[hw],h1,by simp[e,h2]⟩
theorem D6(ws:gY)(k:Int):xn (ws.map fun w=>D.int (ab w)) (.int k)=true:=by simp[xn,uz]
abbrev fbL:FS:=(gE (iw 4 (gH kn [(gu 0),(gu 3)])) (gE (DG 2 (hU 4) (gw (gP (g1 oN) [(gu 4)]))) gS))
theorem Rx{n:Nat}{t:gY}(ht:TOk n t)(hn:n<=5){s:Int}(h1:1<=ab s/\ab s<=n){ws:gY}(hw:DW n ws)(c1 x4:Sl):fbL [some (enc t),c1,some (dD ws,true),some (.int s,false),x4]=some (.nx [some (enc t),c1,some (dD (Cp ws (led t s)),true),some (.int s,false),some (.int (led t s),false)]):=by
 have hl:=ht.1
 have h0:s≠0/\ -(t.length:Int)<=s/\s<=t.length:=by
  have:=h1;unfold ab at this;split at this<;>lia
 refine(gF (δ1:=[some (enc t),c1,some (dD ws,true),some (.int s,false),some (.int (led t s),false)]) ?_).trans ?_
 ·exact iC (i:=4) (δ1:=[some (enc t),c1,some (dD ws,true),some (.int s,false),x4]) (gW (δ1:=[some (enc t),c1,some (dD ws,true),some (.int s,false),x4]) (os:=[.slot 0,.slot 3]) (args:=[enc t,(.int s,false)]) rfl rfl jg (SW t s h0.1 h0.2.1 h0.2.2)) (show 4<5 by decide)
 ·refine(gF (δ1:=[some (enc t),c1,some (dD (Cp ws (led t s)),true),some (.int s,false),some (.int (led t s),false)]) ?_).trans rfl;have e1:hU 4 [some (enc t),c1,some (dD ws,true),some (.int s,false),some (.int (led t s),false)]=some ((.int (led t s),false),[some (enc t),c1,some (dD ws,true),some (.int s,false),some (.int (led t s),false)]):=rfl;have e2:gw (gP (g1 oN) [(gu 4)]) [some (enc t),c1,some (dD ws,true),some (.int s,false),some (.int (led t s),false)]=some (.val (.int (ab (led t s)),false),[some (enc t),c1,some (dD ws,true),some (.int s,false),some (.int (led t s),false)]):=rfl;unfold DG;rw[e1];simp only[jc,yo,Bv];rw[e2];simp only[jc,FY,yo,Bv,dD];rw[gG ⟨D6 ws _,by have:=hw.len;simp;lia⟩,Qq];rfl
theorem Pe{n:Nat}{t:gY}(ht:TOk n t)(hn:n<=5)(c1:Sl): ∀(c ws:gY) (x3 x4:Sl),(∀s∈c,1<=ab s/\ab s<=n)->DW n ws-> ∃dE eY x6,DW n dE/\(ws≠[]\/c≠[]->dE≠[])/\qX (gD 3) fbL (c.map .int) [some (enc t),c1,some (dD ws,true),x3,x4]=some (.nx [some (enc t),c1,some (dD dE,true),eY,x6])
 |[],ws,x3,x4,_,hw=>⟨ws,x3,x4,hw,fun h=>h.elim id fun h=>absurd rfl h,rfl⟩
 |s::c,ws,x3,x4,h,hw=>by
  have hs:=h s iX;obtain⟨dE,eY,x6,h1,h2,e⟩:=Pe ht hn c1 c (Cp ws (led t s)) (some (.int s,false)) (some (.int (led t s),false)) (fun x hx=>h x (je _ hx)) (hw.put (Rf ht hs.1 hs.2));refine⟨dE,eY,x6,h1,fun _=>h2 (.inl (NA _ _)),?_⟩;rw[iN];unfold qX;rw[show gD 3 (.int s) [some (enc t),c1,some (dD ws,true),x3,x4]=some [some (enc t),c1,some (dD ws,true),some (.int s,false),x4] from rfl];simp only[jc];rw[Rx ht hn hs hw];simp only[jc];exact e
theorem PF{l k:gY}(nd:l.Nodup)(h:mx ltT (l.map .int)=k.map .int):k.Perm l/\k.Pairwise (· < ·):=by
 have hp:=jH ltT (l.map D.int);rw[h] at hp;have df:=(hp.map fun d=>match d with|D.int i=>i|_=>0)
 simp only[jX] at df;have e:((fun d=>match d with|D.int i=>i|_=>0)∘D.int)=id:=rfl;rw[e,tN,tN] at df;refine⟨df,?_⟩;have hs:=oX (l.map D.int);rw[h,Dc] at hs;have nd2:=df.symm.nodup nd;have:=hs.and nd2;refine this.imp fun {a b} h=>?_;have h1:=h.1;rw[kR] at h1;simp only[cT] at h1;by_cases q:b<a
 ·simp[q] at h1
 ·have:=h.2;lia
theorem AZ(ws:gY): ∀k:List Int,(∀x∈k,x∈ws.map ab)-> ∃c:List Int,c.map ab=k/\(∀w∈c,w∈ws)/\k.map (fun x=>(lP (ws.map fun w=>D.int (ab w)) (ws.map .int) (.int x)).getD .non)=c.map .int
 |[],_=>⟨[],rfl,by simp,rfl⟩
 |x::k,h=>by
  obtain⟨w,hw,h1,h2⟩:=CF x ws (h x iX);obtain⟨c,e1,e2,e3⟩:=AZ ws k fun y hy=>h y (je _ hy);exact⟨w::c,by simp[h1,e1],by simp[hw];exact e2,by simp[h2,e3]⟩
theorem Ap{n:Nat}(hn:n<=5){t c:gY}(ht:TOk n t)(hc:ClOk n c): ∃c',ClOk n c'/\jO [enc t,enc c]=some (enc c',[some (enc t),some (enc c)]):=by
 obtain⟨ws,x3,x4,hw,o7,e⟩:=Pe ht hn (some (enc c)) c [] none none hc.2.2 ⟨by simp,by simp⟩;have o7:=o7 (.inr hc.1);have hlen:=hw.len;obtain⟨k,hk⟩:=CJ (jH ltT ((ws.map ab).map D.int));obtain⟨kp,kl⟩:=PF hw.1 hk;obtain⟨c',e1,e2,e3⟩:=AZ ws k fun x hx=>kp.mem_iff.mp hx;refine⟨c',⟨?_,by rw[e1];exact kl,fun s hs=>hw.2 s (e2 s hs)⟩,?_⟩
 ·intro z;have:k=[]:=by rw[<-e1,z];rfl
  have h2:=kp.length_eq;rw[this] at h2;simp at h2;exact o7 (RO.mp h2.symm)
 ·have klen:k.length<=5:=by have:=kp.length_eq;simp at this;lia
  have s1:jf (dD ws)=some (.lst (k.map .int),true):=by
   unfold jf dD;have q:((ws.map fun w=>D.int (ab w)).all fun k=>(uz k).isSome)=true:=by simp[uz]
   have q2:(ws.map fun w=>D.int (ab w))≠[]:=by simpa using o7
   simp only;rw[gG ⟨q,q2⟩];have em:(ws.map fun w=>D.int (ab w))=(ws.map ab).map D.int:=by rw[jX];rfl
   unfold jM;rw[em,gG ⟨Dy _,by rw[iQ];simp;lia⟩,hk]
  obtain⟨x',b1⟩:=zM (gB Ef (gu 0) (gu 1)) (fun d=>match d with| .int x=>(lP (ws.map fun w=>D.int (ab w)) (ws.map .int) (.int x)).getD .non|_=> .non) [some (dD ws,true)] (k.map .int) [] none (by
    intro d hd;obtain⟨x,hx,rfl⟩:=mw.mp hd;obtain⟨w,hw',h1,h2⟩:=CF x ws (kp.mem_iff.mp hx);refine⟨false,gX (o1:= .slot 0) (o2:= .slot 1) rfl rfl rfl rfl ?_⟩;simp only[Ef,dD];rw[gG (D6 ws x),h2];rfl) (by rw[iQ];simp;lia)
  have m1:((k.map D.int).map fun d=>match d with| .int x=>(lP (ws.map fun w=>D.int (ab w)) (ws.map .int) (.int x)).getD .non|_=> .non)=c'.map .int:=by
   rw[jX,<-e3];rfl
  rw[m1] at b1;simp only[List.cons_append,pA,kD,sN,Nat.zero_add] at b1;refine jz (δ:=[some (enc t),some (enc c),some (dD ws,true),x3,x4]) ⟨rfl,by decide,rfl⟩ ?_;refine(gF (δ1:=[some (enc t),some (enc c),some (dD [],true),none,none]) rfl).trans ?_;refine(gF ((nc (ds:=c.map .int) (δ1:=[some (enc t),some (enc c),some (dD [],true),none,none]) rfl).trans e)).trans ?_;refine iJ (jx (iH (os:=[.val (.lst (c'.map .int),true)]) (lG (gL ?_)) rfl rfl));have i1:hJ (gP (g1 jf) [(gu 2)]) [some (enc t),some (enc c),some (dD ws,true),x3,x4]=some (k.map .int,[some (enc t),some (enc c),some (dD ws,true),x3,x4]):=lS (iH (os:=[.slot 2]) rfl rfl s1);unfold ie;rw[i1];simp only[jc,iN,oT];rw[show jJ [some (enc t),some (enc c),some (dD ws,true),x3,x4] [.slot 2]=some [(dD ws,true)] from rfl];simp only[jc];rw[gG (show(hX [Opd.slot 2] [(dD ws,true)]).Nodup from(show([2]:List Nat).Nodup by decide))];rw[show(List.map some [(dD ws,true)]++List.replicate 1 none:Dn)=[some (dD ws,true),none] from rfl,b1];rfl
abbrev cD(c:gY):D:= .tup (c.map .int)
theorem zH(c:gY):D.dep (cD c)=1:=by simp[D.dep,qZ]
theorem yi: ∀cs:List (List Int),D.depL (cs.map cD)<=1
 |[]=>by simp[D.depL]
 |c::cs=>by
  have:=yi cs;simp only[iN,D.depL,zH];lia
theorem RA(a b:gY):D.eqb (cD a) (cD b)=decide (a=b):=by simp[D.eqb,zE]
theorem GV(c:gY): ∀cs:List (List Int),(cs.map cD).any (fun d=>D.eqb d (cD c))=decide (c∈cs)
 |[]=>by simp
 |x::cs=>by
  simp only[iN,qA,GV c cs,RA,jC];by_cases h:x=c
  ·simp[h]
  ·have: ¬c=x:=fun e=>h e.symm;simp[h,this]
theorem DX(c:gY)(cs:iW):mH (cD c) (.lst (cs.map cD))=some (.bl (!decide (c∈cs)),false):=by
 have:inD (cD c) (.lst (cs.map cD))=some (decide (c∈cs)):=by
  have hd:=yi cs;show(if D.depL (cs.map cD)<=50/\(cD c).dep<=50 then some ((cs.map cD).any fun d=>D.eqb d (cD c)) else none)=_;rw[gG ⟨by lia,by rw[zH];lia⟩,GV]
 unfold mH;rw[this];rfl
def zV:Nat->List (List Int)
 |0=>[[]]
 |k+1=>zV k++((zV k).map fun c=>c++[((k:Int)+1)])++((zV k).map fun c=>c++[-((k:Int)+1)])
theorem vQ: ∀(k:Nat) (c:gY),(c.map ab).Pairwise (· < ·)->(∀s∈c,1<=ab s/\ab s<=k)->c∈zV k
 |0,c,_,h=>by
  cases c with
  |nil=>simp[zV]
  |cons s c=>have:=h s iX;lia
 |k+1,c,hp,h=>by
  simp only[zV,nG,mw];by_cases hn:c=[]
  ·subst hn;exact .inl (.inl (vQ k [] (by simp) (by simp)))
  ·have hd:=List.dropLast_concat_getLast hn;generalize c.dropLast=i at hd;generalize c.getLast hn=s at hd;subst hd;rw[sG,lW] at hp;have hs:=h s (by simp);have hi: ∀x∈i,1<=ab x/\ab x<ab s:=fun x hx=>⟨(h x (by simp[hx])).1,hp.2.2 (ab x) (ES hx) (ab s) (by simp)⟩
   by_cases q:ab s<=k
   ·refine .inl (.inl (vQ k _ ?_ fun x hx=>?_))
    ·rw[sG,lW];exact hp
    ·rcases nG.mp hx with hx|hx
     ·have:=hi x hx;lia
     ·simp at hx;subst hx;lia
   ·have e:ab s=(k:Int)+1:=by lia
    have hk:=vQ k i hp.1 fun x hx=>by have:=hi x hx;lia
    unfold ab at e;split at e
    ·exact .inr ⟨i,hk,by rw[show s= -((k:Int)+1) by lia]⟩
    ·exact .inl (.inr ⟨i,hk,by rw[show s=((k:Int)+1) by lia]⟩)
theorem Bl: ∀(k:Nat) (n:Nat),n<=k->(zV n).length<=(zV k).length
 |0,n,h=>by rw[show n=0 by lia];exact ir _
 |k+1,n,h=>by
  by_cases e:n=k+1
  ·subst e;exact ir _
  ·have:=Bl k n (by lia);simp only[zV,mq,jj];lia
def CsOk(n:Nat)(cs:iW):Prop:=cs.Nodup/\ ∀c∈cs,ClOk n c
theorem CsOk.len(hn:n<=5)(h:CsOk n cs):cs.length<=243:=by
 have h1:=zf cs (zV n) h.1 fun c hc=>vQ n c (h.2 c hc).2.1 (h.2 c hc).2.2;have h2:=Bl 5 n hn;have h3:(zV 5).length=243:=by decide
 lia
theorem CsOk.snoc{n:Nat}{cs:iW}{c:gY}(h:CsOk n cs)(hc:ClOk n c)(hm:c∉cs):CsOk n (cs++[c]):=by
 refine⟨?_,fun x hx=>?_⟩
 ·rw[EN];exact⟨h.1,by simp,fun x hx y hy e=>by simp at hy;subst hy;subst e;exact hm hx⟩
 ·rcases nG.mp hx with hx|hx
  ·exact h.2 x hx
  ·simp at hx;subst hx;exact hc
abbrev lsC(cs:iW):Sl:=some (.lst (cs.map cD),true)
abbrev Rv:FS:=(gE (iw 5 (gH jO [(gu 4),(gw (gB gIx (gu 2) (gu 3)))])) (gE (sIf (fT (gB mH (gu 5) (gu 2))) (gE (nJ (kT 2 (hU 5))) gS) gS) gS))
theorem ixc{cs:iW}{i:Nat}(h:i<cs.length):gIx (.lst (cs.map cD)) (.int i)=some (cD (cs.getD i []),false):=by
 have:(i:Int)<cs.length:=by lia
 simp[gIx,atI,ixN,h]
theorem Jh{cs:iW}{i:Nat}(h:i<cs.length):cs.getD i []∈cs:=by
 rw[EO,jd h];exact kA h
theorem Ol{n:Nat}(hn:n<=5){t:gY}(ht:TOk n t){cs:iW}(hc:CsOk n cs){i:Nat}(hi:i<cs.length)(c0 c1 x5:Sl): ∃t7 y9,CsOk n t7/\cs.length<=t7.length/\Rv [c0,c1,lsC cs,some (.int i,false),some (enc t),x5]=some (.nx [c0,c1,lsC t7,some (.int i,false),some (enc t),y9]):=by
 obtain⟨c',cU,e⟩:=Ap hn ht (hc.2 _ (Jh hi));have hl:=hc.len hn
 have s1: ∀g,gE (iw 5 (gH jO [(gu 4),(gw (gB gIx (gu 2) (gu 3)))])) g [c0,c1,lsC cs,some (.int i,false),some (enc t),x5]=g [c0,c1,lsC cs,some (.int i,false),some (enc t),some (enc c')]:=fun g=>
  gF (iC (i:=5) (δ1:=[c0,c1,lsC cs,some (.int i,false),some (enc t),x5]) (gW (δ1:=[c0,c1,lsC cs,some (.int i,false),some (enc t),x5]) (os:=[.slot 4,.val (enc (cs.getD i []))]) (args:=[enc t,enc (cs.getD i [])]) (nU rfl (gL (gX (o1:= .slot 2) (o2:= .slot 3) rfl rfl rfl rfl (ixc hi)))) rfl jg e) (show 5<6 by decide))
 have t1:(fT (gB mH (gu 5) (gu 2))) [c0,c1,lsC cs,some (.int i,false),some (enc t),some (enc c')]=some (!decide (c'∈cs),[c0,c1,lsC cs,some (.int i,false),some (enc t),some (enc c')]):=
  js (o:=false) (gX (o1:= .slot 5) (o2:= .slot 2) rfl rfl rfl rfl (DX c' cs))
 by_cases h:c'∈cs
 ·refine⟨cs,some (enc c'),hc,ir _,(s1 _).trans ((gF ((kJ ?_).trans rfl)).trans rfl)⟩;rw[t1,nC h];rfl
 ·refine⟨cs++[c'],some (enc c'),hc.snoc cU h,by simp,(s1 _).trans ?_⟩;rw[kX h] at t1;refine(gF ((qK t1).trans (uG (δ1:=[c0,c1,lsC cs,some (.int i,false),some (enc t),some (enc c')]) (r:=enc c') (l0:=cs.map cD) (l:=cs.map cD) rfl rfl rfl (by simp;lia)))).trans ?_;simp[lsC,gS]
theorem Pd{n:Nat}(hn:n<=5)(i:Nat)(c0 c1:Sl): ∀(ts:iW) (cs:iW) (x4 x5:Sl),(∀t∈ts,TOk n t)->CsOk n cs->i<cs.length-> ∃t7 x6 y9,CsOk n t7/\cs.length<=t7.length/\qX (gD 4) Rv (ts.map cD) [c0,c1,lsC cs,some (.int i,false),x4,x5]=some (.nx [c0,c1,lsC t7,some (.int i,false),x6,y9])
 |[],cs,x4,x5,_,hc,hi=>⟨cs,x4,x5,hc,ir _,rfl⟩
 |t::ts,cs,x4,x5,ht,hc,hi=>by
  obtain⟨ej,y5,h1,l1,e1⟩:=Ol hn (ht t iX) hc hi c0 c1 x5;obtain⟨t7,x6,y9,h2,l2,e2⟩:=Pd hn i c0 c1 ts ej (some (enc t)) y5 (fun u hu=>ht u (je _ hu)) h1 (by lia);refine⟨t7,x6,y9,h2,by lia,?_⟩;rw[iN];unfold qX;rw[show gD 4 (cD t) [c0,c1,lsC cs,some (.int i,false),x4,x5]=some [c0,c1,lsC cs,some (.int i,false),some (enc t),x5] from rfl];simp only[jc];rw[e1];simp only[jc];exact e2
abbrev ftW:FT:=(fT (gB (jE .Lt) (gu 3) (gw (gP (g1 nP) [(gu 2)]))))
abbrev fbW:FS:=(gE (pI (hJ (hU 1)) (gD 4) Rv) (gE (iw 3 (gB ju (gu 3) (gw (fC (.int 1))))) gS))
theorem Pr{n:Nat}(hn:n<=5)(c0:Sl)(ts:iW)(cE: ∀t∈ts,TOk n t): ∀(m fuel i:Nat) (o:Bool) (cs:iW) (x4 x5:Sl),i+m=243->m<fuel->CsOk n cs-> ∃t7 o' i' x6 y9,CsOk n t7/\cs.length<=t7.length/\nR ftW fbW fuel [c0,some (.lst (ts.map cD),o),lsC cs,some (.int i,false),x4,x5]=some (.nx [c0,some (.lst (ts.map cD),o'),lsC t7,some (.int i',false),x6,y9]):=by
 intro m
 induction m with
 |zero=>
  intro fuel i o cs x4 x5 him hf hc;have hl:=hc.len hn;obtain⟨f,rfl⟩: ∃f,fuel=f+1:=⟨fuel-1,by lia⟩
  refine⟨cs,o,i,x4,x5,hc,ir _,?_⟩;have h: ¬((i:Int)<cs.length):=by lia
  have t1:ftW [c0,some (.lst (ts.map cD),o),lsC cs,some (.int i,false),x4,x5]=some (false,[c0,some (.lst (ts.map cD),o),lsC cs,some (.int i,false),x4,x5]):=
   js (o:=false) (gX (o1:= .slot 3) (o2:= .val (.int cs.length,false)) rfl (gL (iH (os:=[.slot 2]) rfl rfl (by simp))) rfl rfl (by rw[Nd,kX h]))
  unfold nR;rw[t1];rfl
 |succ m ih=>
  intro fuel i o cs x4 x5 him hf hc;obtain⟨f,rfl⟩: ∃f,fuel=f+1:=⟨fuel-1,by lia⟩
  have t1:ftW [c0,some (.lst (ts.map cD),o),lsC cs,some (.int i,false),x4,x5]=some (decide ((i:Int)<cs.length),[c0,some (.lst (ts.map cD),o),lsC cs,some (.int i,false),x4,x5]):=
   js (o:=false) (gX (o1:= .slot 3) (o2:= .val (.int cs.length,false)) rfl (gL (iH (os:=[.slot 2]) rfl rfl (by simp))) rfl rfl (by rw[Nd]))
  by_cases h:((i:Int)<cs.length)
  ·rw[nC h] at t1;obtain⟨ej,y4,y5,h1,l1,e1⟩:=Pd hn i c0 (some (.lst (ts.map cD),false)) ts cs x4 x5 cE hc (by lia);obtain⟨t7,o',i',x6,y9,h2,l2,e2⟩:=ih f (i+1) false ej y4 y5 (by lia) (by lia) h1;refine⟨t7,o',i',x6,y9,h2,by lia,?_⟩;unfold nR;rw[t1];simp only[jc,iE]
   have b1:fbW [c0,some (.lst (ts.map cD),o),lsC cs,some (.int i,false),x4,x5]=some (.nx [c0,some (.lst (ts.map cD),false),lsC ej,some (.int (i+1:Nat),false),y4,y5]):=by
    refine(gF ((nc (ds:=ts.map cD) (δ1:=[c0,some (.lst (ts.map cD),false),lsC cs,some (.int i,false),x4,x5]) rfl).trans e1)).trans ?_;refine(gF (iC (i:=3) (δ1:=[c0,some (.lst (ts.map cD),false),lsC ej,some (.int i,false),y4,y5]) (gX (o1:= .slot 3) (o2:= .val (.int 1,false)) rfl rfl rfl rfl rfl) (show 3<6 by decide))).trans ?_;simp[gS]
   rw[b1];simp only[jc];exact e2
  ·rw[kX h] at t1;refine⟨cs,o,i,x4,x5,hc,ir _,?_⟩;unfold nR;rw[t1];rfl
theorem Jl{n:Nat}(hn:n<=5){ts cs:iW}(cE: ∀t∈ts,TOk n t)(hc:CsOk n cs)(o:Bool): ∃t7 sl,CsOk n t7/\cs.length<=t7.length/\mh [(.lst (cs.map cD),false),(.lst (ts.map cD),o)]=some ((.lst (t7.map cD),true),[some (.lst (cs.map cD),false),sl]):=by
 obtain⟨t7,o',i',x6,y9,h2,l2,e⟩:=Pr hn (some (.lst (cs.map cD),false)) ts cE 243 Tz 0 o cs none none (by lia) (by decide) hc;refine⟨t7,if o=true then some (.lst (ts.map cD),o') else some (.lst (ts.map cD),o),h2,l2,?_⟩;refine(jz (r:=(.lst (t7.map cD),true)) (δ:=[some (.lst (cs.map cD),false),some (.lst (ts.map cD),o'),none,some (.int i',false),x6,y9]) ⟨rfl,(show 2<=6 by decide),by cases o<;>rfl⟩ ?_).trans ?_
 ·refine(gF (δ1:=[some (.lst (cs.map cD),false),some (.lst (ts.map cD),o),lsC cs,none,none,none]) rfl).trans ?_;refine(gF (δ1:=[some (.lst (cs.map cD),false),some (.lst (ts.map cD),o),lsC cs,some (.int 0,false),none,none]) rfl).trans ?_;exact(gF e).trans (iJ rfl)
 ·cases o<;>rfl
def Az(vs:iW)(c:gY):List (List Int):=if c∈vs then vs else vs++[c]
def dd(cs:iW):List (List Int):=cs.foldl Az []
theorem OD(vs:iW)(c:gY):rl (vs.map cD) (cD c)=(Az vs c).map cD:=by
 unfold rl Az;rw[show(vs.map cD).any (D.eqb · (cD c))=decide (c∈vs) from GV c vs];by_cases h:c∈vs<;>simp[h]
theorem Em: ∀(cs vs:iW),(cs.map cD).foldl rl (vs.map cD)=(cs.foldl Az vs).map cD
 |[],vs=>rfl
 |c::cs,vs=>by rw[iN,tU,tU,OD,Em cs]
theorem MF:x∈Az vs c↔x∈vs\/x=c:=by
 unfold Az;by_cases h:c∈vs
 ·rw[gG h];constructor
  ·exact .inl
  ·rintro(h1|rfl)
   ·exact h1
   ·exact h
 ·rw[gJ h];simp
theorem A3: ∀(cs vs:iW) (x:gY),x∈cs.foldl Az vs↔x∈vs\/x∈cs
 |[],vs,x=>by simp
 |c::cs,vs,x=>by rw[tU,A3 cs,MF,jC,or_assoc]
theorem OE(h:vs.Nodup):(Az vs c).Nodup:=by
 unfold Az;split
 ·exact h
 ·rename_i hm;rw[EN];exact⟨h,by simp,fun x hx y hy e=>by simp at hy;subst hy;subst e;exact hm hx⟩
theorem Ei: ∀(cs vs:iW),vs.Nodup->(cs.foldl Az vs).Nodup
 |[],vs,h=>h
 |c::cs,vs,h=>by rw[tU];exact Ei cs _ (OE h)
theorem qN: ∀l:List Int,D.prL (l.map .int)=true
 |[]=>by simp[D.prL]
 |x::l=>by simp[D.prL,D.pr,qN l]
theorem Q8(c:gY):okS (cD c)=true:=by simp[okS,qN,qZ]
theorem LH(cs:iW):(cs.map cD).all okS=true:=by
 rw[mC];intro d hd;obtain⟨c,_,rfl⟩:=mw.mp hd;exact Q8 c
theorem wX(op:CmpOp): ∀a b:List Int,(pT op (a.map .int) (b.map .int)).isSome=true
 |[],b=>by simp[pT]
 |x::a,[]=>by simp[pT]
 |x::a,y::b=>by
  simp only[iN,pT];split
  ·exact wX op a b
  ·simp[lI]
theorem Ip(cs:iW)(h: ∀c∈cs,c≠[]):mE (cs.map cD)=true:=by
 have hk: ∀c:List Int,c≠[]->jZ (cD c)=some 1:=fun c hc=>by
  cases c with
  |nil=>exact absurd rfl hc
  |cons=>rfl
 unfold mE
 cases cs with
 |nil=>rfl
 |cons c cs=>
  rw[vY];right;simp only[iN];rw[lO,lO,hk c (h c iX)];refine⟨⟨rfl,?_⟩,?_⟩
  ·rw[mC];intro d hd;rw[<-iN (f:=cD)] at hd;obtain⟨x,hx,rfl⟩:=mw.mp hd;rw[hk x (h x hx),zH];simp[D.pr,qN]
  ·rw[mC];intro d hd;rw[mC];intro e he;rw[<-iN (f:=cD)] at hd he;obtain⟨x,hx,rfl⟩:=mw.mp hd;obtain⟨y,hy,rfl⟩:=mw.mp he;simp only[lI];exact wX _ _ _
def unC:D->List Int
 | .tup l=>l.map iOf
 |_=>[]
theorem lB(c:gY):unC (cD c)=c:=by
 simp only[unC,jX];rw[pV (g:=id),tN];intro x _;rfl
theorem GD(h:m.Perm (cs.map cD)): ∃ks:List (List Int),m=ks.map cD/\ks.Perm cs:=by
 refine⟨m.map unC,?_,?_⟩
 ·rw[jX]
  symm
  rw[pV (g:=id),tN];intro d hd;obtain⟨c,_,rfl⟩:=mw.mp (h.mem_iff.mp hd);simp only[Function.comp,lB];rfl
 ·have:=h.map unC;rw[jX] at this;rw[show List.map (unC∘cD) cs=List.map id cs from pV (fun c _=>lB c),tN] at this;exact this
def SrtC(ks:iW):Prop:=ks.Pairwise fun a b=>ltT (cD b) (cD a)=false
theorem M0{n:Nat}{cs:iW}(hc: ∀c∈cs,ClOk n c)(hl:cs.length<500): ∃vs ks:List (List Int),CsOk n ks/\SrtC ks/\(∀c,c∈ks↔c∈cs)/\ks.length<=cs.length/\xM (.lst (cs.map cD))=some (.oth .set [] (vs.map cD),true)/\jf (.oth .set [] (vs.map cD))=some (.lst (ks.map cD),true):=by
 have hm: ∀c,c∈dd cs↔c∈cs:=fun c=>by unfold dd;rw[A3];simp
 have hnd:(dd cs).Nodup:=Ei cs [] (by simp);obtain⟨ks,e,hp⟩:=GD (jH ltT ((dd cs).map cD));have hlen:(dd cs).length<=cs.length:=zf _ _ hnd fun c h=>(hm c).mp h;refine⟨dd cs,ks,⟨hp.symm.nodup hnd,fun c h=>hc c ((hm c).mp (hp.mem_iff.mp h))⟩,?_,fun c=>hp.mem_iff.trans (hm c),by rw[hp.length_eq];exact hlen,?_,?_⟩
 ·have:=oX ((dd cs).map cD);rw[e,Dc] at this;exact this
 ·show(if(cs.map cD).all okS=true/\(cs.map cD).length<500 then some (D.oth .set [] (oO (cs.map cD)),true) else none)=_;rw[gG ⟨LH cs,by simpa using hl⟩];unfold oO;rw[show([]:List D)=([]:List (List Int)).map cD from rfl,Em];rfl
 ·show(if((dd cs).map cD).all okS=true then jM ((dd cs).map cD) else none)=_;rw[gG (LH _)];unfold jM;rw[gG ⟨Ip _ fun c h=>(hc c ((hm c).mp h)).1,by rw[iQ];simp;omega⟩,e]
theorem AO: ∀(k:Nat) (r f t:gY),t∈nK k r f-> ∀x∈t,x∈f\/ ∃y∈r,x=y*1\/x=y* -1
 |0,r,f,t,h,x,hx=>by simp[nK] at h;subst h;exact .inl hx
 |k+1,r,f,t,h,x,hx=>by
  simp only[nK,List.mem_flatMap,nG,uK] at h;obtain⟨v,hv,h⟩:=h
  have key: ∀s:Int,(s=1\/s= -1)->t∈nK k (r.eraseIdx v) (f++[r.getD v 0*s])->x∈f\/ ∃y∈r,x=y*1\/x=y* -1:=by
   intro s hs h;rcases AO k _ _ t h x hx with h1|⟨y,hy,h1⟩
   ·rcases nG.mp h1 with h1|h1
    ·exact .inl h1
    ·simp at h1;refine .inr ⟨r.getD v 0,wN hv,?_⟩;rw[EO];rcases hs with rfl|rfl<;>simp[h1]
   ·exact .inr ⟨y,List.mem_of_mem_eraseIdx hy,h1⟩
  rcases h with h|h
  ·exact key 1 (.inl rfl) h
  ·exact key (-1) (.inr rfl) h
theorem Kn{n:Nat}{t:gY}(h:t∈nK n (st n) []):TOk n t:=by
 refine⟨Km h,fun x hx=>?_⟩;rcases AO n _ _ t h x hx with h1|⟨y,hy,h1⟩
 ·simp at h1
 ·have:=RQ.mp hy;unfold ab;rcases h1 with rfl|rfl<;>split<;>lia
theorem TOk.abs(h:TOk n t):TOk n (t.map ab):=by
 refine⟨by simpa using h.1,fun x hx=>?_⟩;obtain⟨y,hy,rfl⟩:=mw.mp hx;have:=h.2 y hy;rw[zY (i:=ab y) (by lia)];exact this
theorem EA(ev:EvF)(P:List Int->Prop)(b:Bool)(n:Int)(h: ∀a,∃a' c,P c/\ev [(.lst [.int a,.bl b],true),(.int n,false)]=some (enc c,[stt a' b,some (.int n,false)])): ∀(ds:List D) (acc:iW) (a:Int) (x:Sl),(∀c∈acc,P c)->acc.length+ds.length<=1000->
  ∃(a':Int) (h9:iW) (x':Sl),(∀c∈h9,P c)/\h9.length=acc.length+ds.length/\kO (gD 2) iz (ig (gH ev [gu 0,gu 1])) ds (acc.map cD) [stt a b,some (.int n,false),x]=some (h9.map cD,[stt a' b,some (.int n,false),x'])
 |[],acc,a,x,hp,_=>⟨a,acc,x,hp,by simp,rfl⟩
 |d::ds,acc,a,x,hp,hl=>by
  obtain⟨a1,z,hz,e1⟩:=h a
  obtain⟨a',h9,x',h',fL,e⟩:=EA ev P b n h ds (acc++[z]) a1 (some (d,false)) (fun y hy=>by
   rcases nG.mp hy with hy|hy
   ·exact hp y hy
   ·simp at hy;subst hy;exact hz) (by simp at hl ⊢;lia)
  refine⟨a',h9,x',h',by simp at fL ⊢;lia,?_⟩;have hs:(acc.map cD).length<sizeLine:=by rw[iQ];simp at hl ⊢;lia
  have e2:gH ev [gu 0,gu 1] [stt a b,some (.int n,false),some (d,false)]=some (enc z,[stt a1 b,some (.int n,false),some (d,false)]):=
   gW (δ1:=[stt a b,some (.int n,false),some (d,false)]) (os:=[.slot 0,.slot 1]) (args:=[(.lst [.int a,.bl b],true),(.int n,false)]) rfl rfl (show([0]:List Nat).Nodup by decide) e1
  rw[kO,show gD 2 d [stt a b,some (.int n,false),x]=some [stt a b,some (.int n,false),some (d,false)] from rfl];simp only[jc,yd,iE,ye];rw[e2];simp only[jc];rw[gG hs];rw[sG] at e;exact e
theorem zJ(ev:EvF)(P:List Int->Prop)(b:Bool)(n:Int)(h: ∀a,∃a' c,P c/\ev [(.lst [.int a,.bl b],true),(.int n,false)]=some (enc c,[stt a' b,some (.int n,false)]))(ds:List D)(hd:ds.length<=1000)(a:Int)(c1 c2:Sl)(hZ:Dn)(fi:FIt)(hfi:fi (stt a b::c1::c2::some (.int n,false)::hZ)=some (ds,stt a b::c1::c2::some (.int n,false)::hZ)):
  ∃(a':Int) (cs:iW),(∀c∈cs,P c)/\cs.length=ds.length/\ie [0,3] 1 fi (gD 2) iz (ig (gH ev [gu 0,gu 1])) (stt a b::c1::c2::some (.int n,false)::hZ)=some ((.lst (cs.map cD),true),stt a' b::c1::c2::some (.int n,false)::hZ):=by
 obtain⟨a',cs,x',h1,h2,e⟩:=EA ev P b n h ds [] a none (by simp) (by simpa using hd);refine⟨a',cs,h1,by simpa using h2,?_⟩;unfold ie;rw[hfi];simp only[jc,iN,oT];rw[show jJ (stt a b::c1::c2::some (.int n,false)::hZ) [.slot 0,.slot 3]=some [(.lst [.int a,.bl b],true),(.int n,false)] from rfl];simp only[jc];rw[gG (show(hX [Opd.slot 0,Opd.slot 3] [(D.lst [.int a,.bl b],true),(.int n,false)]).Nodup from(show([0]:List Nat).Nodup by decide))];rw[show(List.map some [(D.lst [.int a,.bl b],true),(D.int n,false)]++List.replicate 1 none:Dn)=[stt a b,some (.int n,false),none] from rfl];rw[show([]:List D)=([]:List (List Int)).map cD from rfl,e];rfl
theorem Mq(ks:iW)(v:Nat): ∃m,m<=v/\PX.xt (ks.map cD) none (some (v:Int))=(ks.take m).map cD:=by
 refine⟨min v ks.length,by lia,?_⟩;unfold PX.xt;rw[HT.M7,HT.OP,List.map_take,jj,wa,Nat.sub_zero]
theorem SrtC.take(h:SrtC ks)(m:Nat):SrtC (ks.take m):=List.Pairwise.sublist (mP m ks) h
theorem CsOk.take(h:CsOk n ks)(m:Nat):CsOk n (ks.take m):=⟨List.Nodup.sublist (mP m ks) h.1,fun c hc=>h.2 c (ml hc)⟩
theorem MJ(t:gY)(ht:t.length<=100):gP (g1 kh) [(gw (ie [] 1 (hJ (hU 0)) (gD 0) iz (ig (gP (g1 oN) [(gu 0)]))))] [some (cD t,false)]=some ((cD (t.map ab),false),[some (cD t,false)]):=by
 obtain⟨x',e⟩:=zM (gP (g1 oN) [gu 0]) (fun d=> .int (ab (iOf d))) [] (t.map .int) [] none (by
  intro d hd;obtain⟨i,_,rfl⟩:=mw.mp hd;exact⟨false,rfl⟩) (by rw[iQ];simp;lia)
 simp only[List.cons_append,pA,kD,sN,jX] at e;refine iH (os:=[.val (.lst ((t.map ab).map .int),true)]) (lG (gL ?_)) rfl rfl;unfold ie;rw[show hJ (hU 0) [some (cD t,false)]=some (t.map .int,[some (cD t,false)]) from rfl];simp only[jc,oT,wF,hX,jg,iE,pA,List.replicate_succ,List.replicate_zero];rw[e,jX];rfl
theorem Tr{f:F}{fi:FIt}{δ δ1:Dn}{ds rs:List D}{x':Sl}(h1:fi δ=some (ds,δ1))(h2:kO (gD 0) iz (ig f) ds [] [none]=some (rs,[x'])):ie [] 1 fi (gD 0) iz (ig f) δ=some ((.lst rs,true),δ1):=by
 unfold ie;rw[h1];simp only[jc,oT,wF,hX,jg,iE,pA,List.replicate_succ,List.replicate_zero];rw[h2];rfl
theorem Jr(ts:iW)(hl:ts.length<=1000)(ht: ∀t∈ts,t.length<=100)(c0 c1 c2 c3 c4 c5 c6:Sl)(o:Bool):ie [] 1 (hJ (hU 7)) (gD 0) iz (ig (gP (g1 kh) [(gw (ie [] 1 (hJ (hU 0)) (gD 0) iz (ig (gP (g1 oN) [(gu 0)]))))])) [c0,c1,c2,c3,c4,c5,c6,some (.lst (ts.map cD),o)]=some ((.lst ((ts.map (List.map ab)).map cD),true),[c0,c1,c2,c3,c4,c5,c6,some (.lst (ts.map cD),false)]):=by
 obtain⟨x',e⟩:=zM (gP (g1 kh) [(gw (ie [] 1 (hJ (hU 0)) (gD 0) iz (ig (gP (g1 oN) [(gu 0)]))))]) (fun d=>cD ((unC d).map ab)) [] (ts.map cD) [] none (by
  intro d hd;obtain⟨t,h,rfl⟩:=mw.mp hd;refine⟨false,?_⟩;rw[lB];exact MJ t (ht t h)) (by rw[iQ];simp;lia)
 simp only[List.cons_append,pA,kD,sN,jX] at e;have:(ts.map ((fun d=>cD ((unC d).map ab))∘cD))=ts.map (cD∘List.map ab):=pV fun t _=>by simp only[Function.comp,lB]
 rw[this] at e;rw[jX];exact Tr rfl e
def xS(n:Nat)(ks:iW):Prop:=n<=5/\CsOk n ks/\SrtC ks/\ks.length<=30
abbrev rD'(n:Nat)(ks:iW):D:= .tup [.int n,.tup (ks.map cD)]
abbrev lv(L:List D):Sl:=some (.lst L,true)
abbrev ii(n:Int):Sl:=some (.int n,false)
theorem Gy(h:jl fs δ=jl gh δ'):gH ev fs δ=gH ev gh δ':=by unfold gH;rw[h]
theorem Iz(a:Int)(b:Bool)(lo hi:Nat)(h1:lo<=hi)(h5:hi<=5): ∃a' n ks,xS n ks/\lo<=n/\n<=hi/\mf [(.lst [.int a,.bl b],true),(.int lo,false),(.int hi,false)]=some ((rD' n ks,false),[stt a' b,ii lo,ii hi]):=by
 obtain⟨v,a1,v0,v1,e1⟩:=mV a b ((hi:Int)-lo+1) (by lia) (by lia);obtain⟨w,a2,w0,w1,e2⟩:=mV a1 b 4 (by lia) (by lia);obtain⟨n,hn⟩: ∃n:Nat,(lo:Int)+v=n:=⟨(lo+v).toNat,by lia⟩
 have pre: ∀g,gE (iw 3 (gB ju (gu 1) (gw (gH gK [(gu 0),(gw (gB ju (gw (gB gSub (gu 2) (gu 1))) (gw (fC (.int 1)))))])))) (gE (iw 4 (gH gK [(gu 0),(gw (fC (.int 4)))])) g) [stt a b,ii lo,ii hi,none,none,none,none,none]=g [stt a2 b,ii lo,ii hi,ii n,ii w,none,none,none]:=by
  intro g;refine(gF (δ1:=[stt a1 b,ii lo,ii hi,ii n,none,none,none,none]) ?_).trans ?_
  ·refine iC (i:=3) (δ1:=[stt a1 b,ii lo,ii hi,none,none,none,none,none]) (gX (o1:= .slot 1) (o2:= .val (.int v,false)) rfl (gL (e1 _ _ _ rfl rfl)) rfl rfl ?_) (show 3<8 by decide);rw[KU,hn]
  ·exact gF (iC (i:=4) (δ1:=[stt a2 b,ii lo,ii hi,ii n,none,none,none,none]) (e2 _ [ii lo,ii hi,ii n,none,none,none,none] _ rfl rfl) (show 4<8 by decide))
 by_cases hz:n=0
 ·subst hz;refine⟨a2,0,[],⟨by lia,⟨by simp,by simp⟩,List.Pairwise.nil,by simp⟩,by lia,by lia,?_⟩;refine jz (δ:=[stt a2 b,ii lo,ii hi,ii (0:Nat),ii w,none,none,none]) ⟨rfl,by decide,rfl⟩ ((pre _).trans ?_);refine iJ ((qK (δ1:=[stt a2 b,ii lo,ii hi,ii (0:Nat),ii w,none,none,none]) (by simp)).trans (iJ (jx ?_)));simp[iQ]
 ·have n1:1<=n:=by lia
  have n5:n<=5:=by lia
  obtain⟨u,a3,u0,u1,e3⟩:=mV a2 b 3 (by lia) (by lia)
  let mL:List Int:=[4,8,13]
  let m:=mL.getD u.toNat 0
  have hm:0<m/\m<=13:=by
   rcases(show u=0\/u=1\/u=2 by lia) with rfl|rfl|rfl<;>decide
  obtain⟨c,a4,q0,q1,e4⟩:=mV a3 b m hm.1 (by lia);obtain⟨cn,rfl⟩: ∃cn:Nat,c=cn:=⟨c.toNat,by lia⟩
  have i1:uB (gu 5) [stt a4 b,ii lo,ii hi,ii n,ii w,ii cn,none,none]=some (ik 0 cn,[stt a4 b,ii lo,ii hi,ii n,ii w,ii cn,none,none]):=rP (o:= .slot 5) rfl rfl (by lia);obtain⟨a5,cs,cS,v5,e5⟩:=zJ kr (ClOk n) b n (fun a=>A9 a b n n1 n5) (ik 0 cn) (by simp[ik];lia) a4 (ii lo) (ii hi) [ii w,ii cn,none,none] (uB (gu 5)) i1;have m8:cs.length<13:=by simp[ik] at v5;lia
  have mid: ∃(a6:Int) (cp:iW) (sl:Sl),(∀c∈cp,ClOk n c)/\cp.length<500/\(sIf (fT (gB (jE .Gt) (gu 4) (gw (fC (.int 0))))) (gE (iw 7 (ie [0,3] 1 (uB (gw (gB ju (gw (fC (.int 1))) (gw (gB vA (gu 4) (gw (fC (.int 2)))))))) (gD 2) iz (ig (gH kL [(gu 0),(gu 1)])))) (gE (sIf (fT (gB gEq (gu 4) (gw (fC (.int 3))))) (gE (iw 7 (ie [] 1 (hJ (hU 7)) (gD 0) iz (ig (gP (g1 kh) [(gw (ie [] 1 (hJ (hU 0)) (gD 0) iz (ig (gP (g1 oN) [(gu 0)]))))])))) gS) gS) (gE (iw 6 (gH mh [(gw (qg (gw (gP (g1 jf) [(gw (gP (g1 xM) [(gu 6)]))])) (gw (fC (.int 2))))),(gu 7)])) gS))) gS) [stt a5 b,ii lo,ii hi,ii n,ii w,ii cn,lv (cs.map cD),none]=some (.nx [stt a6 b,ii lo,ii hi,ii n,ii w,ii cn,lv (cp.map cD),sl]):=by
   by_cases hw:0<w
   ·obtain⟨k,hk,fO⟩: ∃k:Nat,(1:Int)+w%2=k/\k<=2:=⟨(1+w%2).toNat,by lia,by lia⟩
    have i2:uB (gw (gB ju (gw (fC (.int 1))) (gw (gB vA (gu 4) (gw (fC (.int 2))))))) [stt a5 b,ii lo,ii hi,ii n,ii w,ii cn,lv (cs.map cD),none]=some (ik 0 k,[stt a5 b,ii lo,ii hi,ii n,ii w,ii cn,lv (cs.map cD),none]):=by
     refine rP (o:= .val (.int k,false)) (gL ?_) rfl (by lia);rw[<-hk];simp[vA,gI]
    obtain⟨a6,ts,cE,dP,e6⟩:=zJ kL (TOk n) b n (fun a=>by
     obtain⟨a',t,ht,e⟩:=FD a b n n5;exact⟨a',t,Kn ht,e⟩) (ik 0 k) (by simp[ik];lia) a5 (ii lo) (ii hi) [ii w,ii cn,lv (cs.map cD),none] _ i2
    have htl2:ts.length<=1000:=by simp[ik] at dP;lia
    have th: ∃bt:List (List Int),(∀t∈bt,TOk n t)/\ ∀g,gE (sIf (fT (gB gEq (gu 4) (gw (fC (.int 3))))) (gE (iw 7 (ie [] 1 (hJ (hU 7)) (gD 0) iz (ig (gP (g1 kh) [(gw (ie [] 1 (hJ (hU 0)) (gD 0) iz (ig (gP (g1 oN) [(gu 0)]))))])))) gS) gS) g [stt a6 b,ii lo,ii hi,ii n,ii w,ii cn,lv (cs.map cD),lv (ts.map cD)]=g [stt a6 b,ii lo,ii hi,ii n,ii w,ii cn,lv (cs.map cD),lv (bt.map cD)]:=by
     by_cases h3:w=3
     ·refine⟨ts.map (List.map ab),fun t ht=>?_,fun g=>?_⟩
      ·obtain⟨t',ht',rfl⟩:=mw.mp ht;exact(cE t' ht').abs
      ·refine gF ((qK (δ1:=[stt a6 b,ii lo,ii hi,ii n,ii w,ii cn,lv (cs.map cD),lv (ts.map cD)]) (js (o:=false) (gX (o1:= .slot 4) (o2:= .val (.int 3,false)) rfl rfl rfl rfl (by rw[KS,h3];rfl)))).trans ((gF (iC (i:=7) (δ1:=[stt a6 b,ii lo,ii hi,ii n,ii w,ii cn,lv (cs.map cD),some (.lst (ts.map cD),false)]) (Jr ts htl2 (fun t ht=>by have:=(cE t ht).1;lia) _ _ _ _ _ _ _ true) (show 7<8 by decide))).trans rfl))
     ·refine⟨ts,cE,fun g=>gF ((kJ (δ1:=[stt a6 b,ii lo,ii hi,ii n,ii w,ii cn,lv (cs.map cD),lv (ts.map cD)]) (js (o:=false) (gX (o1:= .slot 4) (o2:= .val (.int 3,false)) rfl rfl rfl rfl (by rw[KS,ym,kX h3])))).trans rfl)⟩
    obtain⟨bt,hts2,th⟩:=th;obtain⟨vs,ks,aL,eR,hkm,fN,aN,t4⟩:=M0 cS (by lia);obtain⟨mm,hmm,ct⟩:=Mq ks 2;obtain⟨cp,sl,aG,_,e7⟩:=Jl n5 hts2 (aL.take mm) true;refine⟨a6,cp,sl,aG.2,by have:=aG.len n5;lia,?_⟩;refine(qK (δ1:=[stt a5 b,ii lo,ii hi,ii n,ii w,ii cn,lv (cs.map cD),none]) (js (o:=false) (gX (o1:= .slot 4) (o2:= .val (.int 0,false)) rfl rfl rfl rfl (by rw[IA,nC (show w>0 from hw)])))).trans ?_;refine(gF (iC (i:=7) e6 (show 7<8 by decide))).trans ((th _).trans ((gF (iC (i:=6) (δ1:=[stt a6 b,ii lo,ii hi,ii n,ii w,ii cn,lv (cs.map cD),sl]) (gW (δ1:=[stt a6 b,ii lo,ii hi,ii n,ii w,ii cn,lv (cs.map cD),lv (bt.map cD)]) (os:=[.val (.lst ((ks.take mm).map cD),true),.slot 7]) (args:=[(.lst ((ks.take mm).map cD),false),(.lst (bt.map cD),true)]) (nU (δ1:=[stt a6 b,ii lo,ii hi,ii n,ii w,ii cn,lv (cs.map cD),lv (bt.map cD)]) (gL ?_) rfl) rfl (show([7]:List Nat).Nodup by decide) e7) (show 6<8 by decide))).trans rfl))
    have f1:gP (g1 jf) [(gw (gP (g1 xM) [(gu 6)]))] [stt a6 b,ii lo,ii hi,ii n,ii w,ii cn,lv (cs.map cD),lv (bt.map cD)]=some ((.lst (ks.map cD),true),[stt a6 b,ii lo,ii hi,ii n,ii w,ii cn,lv (cs.map cD),lv (bt.map cD)]):=
     iH (os:=[.val (.oth .set [] (vs.map cD),true)]) (lG (gL (iH (os:=[.slot 6]) rfl rfl aN))) rfl t4
    unfold qg;rw[gL f1];simp only[jc];rw[show gw (fC (.int 2)) [stt a6 b,ii lo,ii hi,ii n,ii w,ii cn,lv (cs.map cD),lv (bt.map cD)]=some (.val (.int 2,false),[stt a6 b,ii lo,ii hi,ii n,ii w,ii cn,lv (cs.map cD),lv (bt.map cD)]) from rfl];simp only[jc,FY];rw[show gSl none (some 2) (.lst (ks.map cD))=some (.lst (PX.xt (ks.map cD) none (some 2)),true) from rfl];simp only[jc];rw[show PX.xt (ks.map cD) none (some 2)=(ks.take mm).map cD from ct]
   ·refine⟨a5,cs,none,cS,by lia,?_⟩;exact(kJ (δ1:=[stt a5 b,ii lo,ii hi,ii n,ii w,ii cn,lv (cs.map cD),none]) (js (o:=false) (gX (o1:= .slot 4) (o2:= .val (.int 0,false)) rfl rfl rfl rfl (by rw[IA,kX (show ¬w>0 from hw)])))).trans rfl
  obtain⟨a6,cp,sl,aG,aK,mid⟩:=mid;obtain⟨vs,ks,aL,eR,hkm,fN,aN,t4⟩:=M0 aG aK
  have f1:gP (g1 jf) [(gw (gP (g1 xM) [(gu 6)]))] [stt a6 b,ii lo,ii hi,ii n,ii w,ii cn,lv (cp.map cD),sl]=some ((.lst (ks.map cD),true),[stt a6 b,ii lo,ii hi,ii n,ii w,ii cn,lv (cp.map cD),sl]):=
   iH (os:=[.val (.oth .set [] (vs.map cD),true)]) (lG (gL (iH (os:=[.slot 6]) rfl rfl aN))) rfl t4
  have last: ∃(a7:Int) (cz:iW),CsOk n cz/\SrtC cz/\cz.length<=30/\sIf (fT (gB (jE .Gt) (gw (gP (g1 nP) [(gu 6)])) (gw (fC (.int 30))))) (gE (iw 6 (qg (gu 6) (gw (gH gK [(gu 0),(gw (fC (.int 30)))])))) gS) gS [stt a6 b,ii lo,ii hi,ii n,ii w,ii cn,lv (ks.map cD),sl]=some (.nx [stt a7 b,ii lo,ii hi,ii n,ii w,ii cn,lv (cz.map cD),sl]):=by
   have t1:(fT (gB (jE .Gt) (gw (gP (g1 nP) [(gu 6)])) (gw (fC (.int 30))))) [stt a6 b,ii lo,ii hi,ii n,ii w,ii cn,lv (ks.map cD),sl]=some (decide ((ks.length:Int)>30),[stt a6 b,ii lo,ii hi,ii n,ii w,ii cn,lv (ks.map cD),sl]):=
    js (o:=false) (gX (o1:= .val (.int ks.length,false)) (o2:= .val (.int 30,false)) (gL (iH (os:=[.slot 6]) rfl rfl (by simp))) rfl rfl rfl (IA _ _))
   by_cases hb:(ks.length:Int)>30
   ·obtain⟨p,a7,p0,p1,e8⟩:=mV a6 b 30 (by lia) (by lia);obtain⟨pn,rfl⟩: ∃pn:Nat,p=pn:=⟨p.toNat,by lia⟩
    obtain⟨mm,hmm,ct⟩:=Mq ks pn;refine⟨a7,ks.take mm,aL.take mm,eR.take mm,by rw[pY];lia,?_⟩;rw[nC hb] at t1;refine(qK t1).trans ((gF (iC (i:=6) (δ1:=[stt a7 b,ii lo,ii hi,ii n,ii w,ii cn,lv (ks.map cD),sl]) (r:=(.lst ((ks.take mm).map cD),true)) ?_ (show 6<8 by decide))).trans rfl);unfold qg;rw[show gu 6 [stt a6 b,ii lo,ii hi,ii n,ii w,ii cn,lv (ks.map cD),sl]=some (.slot 6,[stt a6 b,ii lo,ii hi,ii n,ii w,ii cn,lv (ks.map cD),sl]) from rfl];simp only[jc];rw[gL (e8 _ [ii lo,ii hi,ii n,ii w,ii cn,lv (ks.map cD),sl] _ rfl rfl)];simp only[jc,FY];rw[show res (stt a7 b::[ii lo,ii hi,ii n,ii w,ii cn,lv (ks.map cD),sl]) (.slot 6)=some (.lst (ks.map cD)) from rfl];simp only[jc];rw[show gSl none (some (pn:Int)) (.lst (ks.map cD))=some (.lst (PX.xt (ks.map cD) none (some (pn:Int))),true) from rfl,ct];rfl
   ·rw[kX hb] at t1;exact⟨a6,ks,aL,eR,by lia,(kJ t1).trans rfl⟩
  obtain⟨a7,cz,k1,k2,k3,last⟩:=last;refine⟨a7,n,cz,⟨n5,k1,k2,k3⟩,by lia,by lia,?_⟩;refine jz (δ:=[stt a7 b,ii lo,ii hi,ii n,ii w,ii cn,lv (cz.map cD),sl]) ⟨rfl,by decide,rfl⟩ ((pre _).trans ?_);refine(gF ((kJ (δ1:=[stt a2 b,ii lo,ii hi,ii n,ii w,none,none,none]) (by simp[hz])).trans rfl)).trans ?_;refine(gF (δ1:=[stt a4 b,ii lo,ii hi,ii n,ii w,ii cn,none,none]) ?_).trans ?_
  ·refine iC (i:=5) (δ1:=[stt a4 b,ii lo,ii hi,ii n,ii w,none,none,none]) ?_ (show 5<8 by decide)
   have em:gw (gB gIx (gw (lK [(fC (.int 4)),(fC (.int 8)),(fC (.int 13))])) (gw (gH gK [(gu 0),(gw (fC (.int 3)))]))) [stt a2 b,ii lo,ii hi,ii n,ii w,none,none,none]=some (.val (.int m,false),[stt a3 b,ii lo,ii hi,ii n,ii w,none,none,none]):=
    gL (gX (o1:= .val (.lst (mL.map .int),true)) (o2:= .val (.int u,false)) (gL (δ1:=[stt a2 b,ii lo,ii hi,ii n,ii w,none,none,none]) (by simp[mL,iQ])) (gL (e3 _ [ii lo,ii hi,ii n,ii w,none,none,none] _ rfl rfl)) rfl rfl (S0 u0 (by simpa[mL] using u1)))
   have e4':=e4 (fun _=>some (.val (.int m,false),[stt a3 b,ii lo,ii hi,ii n,ii w,none,none,none])) [ii lo,ii hi,ii n,ii w,none,none,none] (.val (.int m,false)) rfl rfl
   have hf:jl [gu 0,gw (gB gIx (gw (lK [(fC (.int 4)),(fC (.int 8)),(fC (.int 13))])) (gw (gH gK [(gu 0),(gw (fC (.int 3)))])))] [stt a2 b,ii lo,ii hi,ii n,ii w,none,none,none]=jl [gu 0,fun _=>some (.val (.int m,false),[stt a3 b,ii lo,ii hi,ii n,ii w,none,none,none])] (stt a3 b::[ii lo,ii hi,ii n,ii w,none,none,none]):=by
    rw[nU (o1:= .slot 0) rfl em];rfl
   exact(Gy hf).trans e4'
  refine(gF (iC (i:=6) e5 (show 6<8 by decide))).trans ?_;refine(gF mid).trans ?_;refine(gF (iC (i:=6) f1 (show 6<8 by decide))).trans ?_;refine(gF last).trans (iJ (jx ?_));simp[hU,iQ]
abbrev frz(ds:List D):Dn:=ds.map fun d=>some (d,false)
theorem zj: ∀(os:List Opd) (ds:List D),hX os (ds.map fun d=>(d,false))=[]
 |[],_=>by simp[hX]
 |_::_,[]=>by simp[hX]
 |o::os,d::ds=>by cases o<;>simp[hX,zj os ds]
theorem Kh: ∀(os:List Opd) (ds:List D) (outs δ:Dn),wb os (ds.map fun d=>(d,false)) outs δ=δ
 |[],_,_,_=>by simp[wb]
 |_::_,[],_,_=>by simp[wb]
 |_::_,_::_,[],_=>by simp[wb]
 |o::os,d::ds,x::xs,δ=>by cases o<;>simp[wb,Kh os ds xs]
theorem RI{f:F}{ti:FT}{g:D->D}{p:D->Bool}{pre:Dn}: ∀(l acc:List D) (x:Sl),(∀d∈l,ti (pre++[some (d,false)])=some (p d,pre++[some (d,false)])/\(p d=true-> ∃o,f (pre++[some (d,false)])=some ((g d,o),pre++[some (d,false)])))->acc.length+l.length<=sizeLine->
  ∃x',kO (gD pre.length) ti (ig f) l acc (pre++[x])=some (acc++(l.filter p).map g,pre++[x'])
 |[],acc,x,_,_=>⟨x,by simp[kO]⟩
 |d::l,acc,x,h,hl=>by
  obtain⟨h1,h2⟩:=h d iX;have hs:acc.length<sizeLine:=by simp at hl;omega
  rw[kO,Ha];simp only[jc];rw[h1]
  cases hp:p d with
  |false=>
   obtain⟨x',e⟩:=RI l acc (some (d,false)) (fun d' h'=>h d' (je _ h')) (by simp at hl ⊢;omega);exact⟨x',by simp[e,hp]⟩
  |true=>
   obtain⟨o,hd⟩:=h2 hp;obtain⟨x',e⟩:=RI l (acc++[g d]) (some (d,false)) (fun d' h'=>h d' (je _ h')) (by simp at hl ⊢;omega);refine⟨x',?_⟩;simp only[jc,iE,ye];rw[hd];simp only[jc];rw[gG hs];simp only[jc];rw[e];simp[hp]
theorem uH{caps:iM}{fi:FIt}{f:F}{ti:FT}{δ δ1:Dn}{l args:List D}(g:D->D)(p:D->Bool)(h1:fi δ=some (l,δ1))(h2:jJ δ1 (caps.map .slot)=some (args.map fun d=>(d,false)))(hc:args.length=caps.length)
  (h: ∀d∈l,ti (frz args++[some (d,false)])=some (p d,frz args++[some (d,false)])/\(p d=true-> ∃o,f (frz args++[some (d,false)])=some ((g d,o),frz args++[some (d,false)])))(hl:l.length<=10000):
  ie caps 1 fi (gD caps.length) ti (ig f) δ=some ((.lst ((l.filter p).map g),true),δ1):=by
 obtain⟨x',e⟩:=RI (f:=f) (ti:=ti) (g:=g) (p:=p) (pre:=frz args) l [] none h (by rw[iQ];simp;omega);unfold ie;rw[h1];simp only[jc];rw[h2];simp only[jc,zj,jg,iE,jX,Kh];rw[show gD caps.length=gD (frz args).length from by rw[jj,hc]];rw[show((args.map (some∘fun d=>(d,false)))++List.replicate 1 none:Dn)=frz args++[none] from rfl,e];simp
theorem zI{caps:iM}{fi:FIt}{f:F}{δ δ1:Dn}{l args:List D}(g:D->D)(h1:fi δ=some (l,δ1))(h2:jJ δ1 (caps.map .slot)=some (args.map fun d=>(d,false)))(hc:args.length=caps.length)
  (h: ∀d∈l,∃o,f (frz args++[some (d,false)])=some ((g d,o),frz args++[some (d,false)]))(hl:l.length<=10000):
  ie caps 1 fi (gD caps.length) iz (ig f) δ=some ((.lst (l.map g),true),δ1):=by
 rw[uH g (fun _=>true) h1 h2 hc (fun d hd=>⟨rfl,fun _=>h d hd⟩) hl,List.filter_eq_self.mpr fun _ _=>rfl]
theorem rd{caps:iM}{fi:FIt}{f:F}{δ δ1:Dn}{l args:List D}(p:D->Bool)(h1:fi δ=some (l,δ1))(h2:jJ δ1 (caps.map .slot)=some (args.map fun d=>(d,false)))(hc:args.length=caps.length)
  (h: ∀d∈l,∃o,f (frz args++[some (d,false)])=some ((.bl (p d),o),frz args++[some (d,false)]))(hl:l.length<=10000):
  gP (g1 xN) [gw (ie caps 1 fi (gD caps.length) iz (ig f))] δ=some ((.bl (l.all p),false),δ1):=
 iH (lG (gL (zI (fun d=> .bl (p d)) h1 h2 hc h hl))) rfl (De p l)
theorem Mr{caps:iM}{fi:FIt}{f:F}{δ δ1:Dn}{l args:List D}(p:D->Bool)(h1:fi δ=some (l,δ1))(h2:jJ δ1 (caps.map .slot)=some (args.map fun d=>(d,false)))(hc:args.length=caps.length)
  (h: ∀d∈l,∃o,f (frz args++[some (d,false)])=some ((.bl (p d),o),frz args++[some (d,false)]))(hl:l.length<=10000):
  gP (g1 Gv) [gw (ie caps 1 fi (gD caps.length) iz (ig f))] δ=some ((.bl (l.any p),false),δ1):=
 iH (lG (gL (zI (fun d=> .bl (p d)) h1 h2 hc h hl))) rfl (MA p l)
theorem Tu{f:F}{fi:FIt}{g:D->D->D}{m:List D}(hf: ∀d y,fi [some (d,false),y]=some (m,[some (d,false),y])): ∀(l acc:List D) (x y:Sl),(∀d∈l,∀e∈m,∃o,f [some (d,false),some (e,false)]=some ((g d e,o),[some (d,false),some (e,false)]))->acc.length+l.length*m.length<=sizeLine->
  ∃x' y',kO (gD 0) iz (GS fi (gD 1) iz (ig f)) l acc [x,y]=some (acc++l.flatMap fun d=>m.map (g d),[x',y'])
 |[],acc,x,y,_,_=>⟨x,y,by simp[kO]⟩
 |d::l,acc,x,y,h,hl=>by
  have fL:acc.length+m.length+l.length*m.length<=sizeLine:=by simp[Nat.add_mul] at hl;omega
  obtain⟨y',e1⟩:=zM f (g d) [some (d,false)] m acc y (fun e he=>h d iX e he) (by omega);obtain⟨x2,y2,e2⟩:=Tu hf l (acc++m.map (g d)) (some (d,false)) y' (fun d' h'=>h d' (je _ h')) (by simp;omega);refine⟨x2,y2,?_⟩;rw[kO];rw[show gD 0 d [x,y]=some [some (d,false),y] from rfl];simp only[jc,yd,iE];unfold GS;rw[hf];simp only[jc];rw[show kO (gD 1) iz (ig f) m acc [some (d,false),y]=_ from e1];simp only[jc];rw[show kO (gD 0) iz (fun acc δ=>(fi δ).bind fun p=>kO (gD 1) iz (ig f) p.1 acc p.2) l (acc++m.map (g d)) ([some (d,false)]++[y'])=_ from e2];simp
theorem RG{fi fi2:FIt}{f:F}{δ δ1:Dn}{l m:List D}(g:D->D->D)(h1:fi δ=some (l,δ1))(hf: ∀d y,fi2 [some (d,false),y]=some (m,[some (d,false),y]))(h: ∀d∈l,∀e∈m,∃o,f [some (d,false),some (e,false)]=some ((g d e,o),[some (d,false),some (e,false)]))(hl:l.length*m.length<=10000):
  ie [] 2 fi (gD 0) iz (GS fi2 (gD 1) iz (ig f)) δ=some ((.lst (l.flatMap fun d=>m.map (g d)),true),δ1):=by
 obtain⟨x',y',e⟩:=Tu (f:=f) (g:=g) hf l [] none none h (by rw[iQ];simp;omega);unfold ie;rw[h1];simp only[jc,oT,wF,hX,jg,iE,pA,List.replicate_succ,List.replicate_zero];rw[e];simp[wb]
theorem rS{tg:Tg}{fb:FS}(I:List D->Dn->Prop)(step: ∀d ds δ,I (d::ds) δ-> ∃δ1 δ2,tg d δ=some δ1/\fb δ1=some (.nx δ2)/\I ds δ2): ∀(ds:List D) (δ:Dn),I ds δ-> ∃δ',I [] δ'/\qX tg fb ds δ=some (.nx δ')
 |[],δ,h=>⟨δ,h,rfl⟩
 |d::ds,δ,h=>by
  obtain⟨δ1,δ2,h1,h2,h3⟩:=step d ds δ h;obtain⟨δ',h4,h5⟩:=rS I step ds δ2 h3;refine⟨δ',h4,?_⟩;unfold qX;rw[h1];simp only[jc];rw[h2];exact h5
theorem Mv{tg:Tg}{f:F}(I:List D->List D->Dn->Prop)(step: ∀d ds acc δ,I (d::ds) acc δ-> ∃δ1 r o δ2,tg d δ=some δ1/\f δ1=some ((r,o),δ2)/\acc.length<=10000/\I ds (acc++[r]) δ2): ∀(ds acc:List D) (δ:Dn),I ds acc δ-> ∃h9 δ',I [] h9 δ'/\kO tg iz (ig f) ds acc δ=some (h9,δ')
 |[],acc,δ,h=>⟨acc,δ,h,rfl⟩
 |d::ds,acc,δ,h=>by
  obtain⟨δ1,r,o,δ2,h1,h2,hs,h3⟩:=step d ds acc δ h;obtain⟨h9,δ',h4,h5⟩:=Mv I step ds _ δ2 h3;refine⟨h9,δ',h4,?_⟩;unfold kO;rw[h1];simp only[jc,yd,iE,ye];rw[h2];simp only[jc];rw[gG (Hh hs)];exact h5
theorem Ml{caps:iM}{k:Nat}{fi:FIt}{tg:Tg}{ti:FT}{fb:FB}{δ δ1 δ':Dn}{l acc:List D}{args:List (D×Bool)}(h1:fi δ=some (l,δ1))(h2:jJ δ1 (caps.map .slot)=some args)(h3:(hX (caps.map .slot) args).Nodup)(h4:kO tg ti fb l [] (args.map some++List.replicate k none)=some (acc,δ')):
  ie caps k fi tg ti fb δ=some ((.lst acc,true),wb (caps.map .slot) args (iA args δ') δ1):=by
 unfold ie;rw[h1];simp only[jc];rw[h2];simp only[jc];rw[gG h3,h4];rfl
def GL:D->Bool
 | .int i=>decide (0<=i)&&decide (i<=1)
 |_=>false
theorem Mx(d:D):lU [(d,false)]=some ((.bl (GL d),false),[some (d,false)]):=by
 cases d<;>simp[lU,wR,evF,iA,wJ,hX,wb,GL]
def isA(n:Nat):D->Bool
 | .tup l=>decide (l.length=n)&&l.all GL
 |_=>false
theorem zD(h:f δ=some ((.bl true,o),δ1)):vH f g δ=g δ1:=by rw[KR,h];rfl
theorem Mm(h:f δ=some ((.bl false,o),δ1)):vH f g δ=some ((.bl false,false),δ1):=by rw[KR,h];rfl
theorem Jq(n:Nat)(d:D)(hd:OkD d):lH [(.int n,false),(d,false)]=some ((.bl (isA n d),false),[some (.int n,false),some (d,false)]):=by
 cases d with
 |tup l=>
  have c:=rd (caps:=[]) (fi:=hJ (hU 1)) (f:=gH lU [(gu 0)]) (δ:=[some (.int n,false),some (.tup l,false)]) (l:=l) (args:=[]) GL rfl rfl rfl (fun d _=>⟨false,by simp[Mx,hX,wb]⟩) (by have:=hd l rfl;omega)
  have e:gB gEq (gw (gP (g1 nP) [(gu 1)])) (gu 0) [some (.int n,false),some (.tup l,false)]=some ((.bl (decide (l.length=n)),false),[some (.int n,false),some (.tup l,false)]):=by
   simp[ym,Int.natCast_inj]
  refine jz (δ:=[some (.int n,false),some (.tup l,false)]) ⟨rfl,by decide,rfl⟩ (iJ (jx ((zD rfl).trans ?_)));rw[isA];by_cases h:l.length=n
  ·rw[nC h] at e ⊢;exact(zD e).trans c
  ·rw[kX h] at e ⊢;exact Mm e
 |_=>simp[lH,pP,evF,iA,isT,isA]
def Af:D->List D
 | .tup l=>l
 | .lst l=>l
 |_=>[]
def soB(t:gY)(s:Int):Bool:=t.getD ((ab s).toNat-1) 0==(if s>0 then 1 else 0)
theorem Rk(t:gY)(s:Int)(h:1<=ab s/\ab s<=t.length):gIx (.tup (t.map .int)) (.int (ab s-1))=some (.int (t.getD ((ab s).toNat-1) 0),false):=by
 have h1:0<=ab s-1:=by omega
 have h2:ab s-1<((t.map D.int).length:Int):=by simp;omega
 have h3:(ab s-1).toNat=(ab s).toNat-1:=by omega
 have h4:(ab s).toNat-1<t.length:=by omega
 have h5:ixN (t.map D.int).length (ab s-1)=some ((ab s).toNat-1):=by unfold ixN;rw[gG h1,gG h2,h3]
 rw[jj] at h5;simp[gIx,atI,h5,h4]
theorem Si(t:gY)(s:Int)(h:1<=ab s/\ab s<=t.length):vI [enc t,(.int s,false)]=some ((.bl (soB t s),false),[some (enc t),some (.int s,false)]):=by
 have:=Rk t s h;unfold ab at this;by_cases hs:s>0<;>simp[vI,zt,evF,iA,this,hs,soB,ab]
theorem Rc(t:gY)(s:Int)(h:1<=ab s/\ab s<=t.length):rV [enc t,(.int s,false)]=some ((.bl (soB t s),false),[some (enc t),some (.int s,false)]):=by
 have:=Rk t s h;unfold ab at this;by_cases hs:s>0<;>simp[rV,wQ,evF,iA,this,hs,soB,ab]
def kC(t c:gY):Bool:=c.any (soB t)
theorem Oy(p:Int->Bool)(c:gY):(c.map D.int).any (fun d=>p (iOf d))=c.any p:=by
 simp[wk,pW,iOf]
theorem OZ(n:Nat)(hn:n<=5)(t c:gY)(ht:t.length=n)(hc:ClOk n c)(ev:EvF)(fX: ∀s,1<=ab s/\ab s<=t.length->ev [enc t,(.int s,false)]=some ((.bl (soB t s),false),[some (enc t),some (.int s,false)])):
  evF 2 2 [] (gE (ji (gP (g1 Gv) [(gw (ie [0] 1 (hJ (hU 1)) (gD 1) iz (ig (gH ev [(gu 0),(gu 1)]))))])) gS) [enc t,enc c]=some ((.bl (kC t c),false),[some (enc t),some (enc c)]):=by
 have c1:=Mr (caps:=[0]) (fi:=hJ (hU 1)) (f:=gH ev [(gu 0),(gu 1)]) (δ:=[some (enc t),some (enc c)]) (l:=c.map .int) (args:=[cD t]) (fun d=>soB t (iOf d)) rfl rfl rfl (fun d hd=>⟨false,by
  obtain⟨s,hs,rfl⟩:=mw.mp hd;have:=hc.2.2 s hs;simp[fX s (by omega),hX,wb,iOf]⟩) (by have:=ClOk.len hc;simp;omega)
 rw[Oy] at c1;exact jz ⟨rfl,by decide,rfl⟩ (iJ (jx c1))
theorem Ri{n:Nat}(hn:n<=5){t c:gY}(ht:t.length=n)(hc:ClOk n c):mJ [enc t,enc c]=some ((.bl (kC t c),false),[some (enc t),some (enc c)]):=OZ n hn t c ht hc _ fun s h=>Si t s h
theorem Oc{n:Nat}(hn:n<=5){t c:gY}(ht:t.length=n)(hc:ClOk n c):jw [enc t,enc c]=some ((.bl (kC t c),false),[some (enc t),some (enc c)]):=OZ n hn t c ht hc _ fun s h=>Rc t s h
def kB(n:Nat)(ks:iW)(d:D):Bool:=isA n d&&ks.all (kC ((Af d).map iOf))
theorem Og(h:isA n d=true): ∃t:List Int,d=cD t/\t.length=n:=by
 cases d with
 |tup l=>
  rw[isA,lO,ub,mC] at h;refine⟨l.map iOf,?_,by simp[h.1]⟩;rw[cD,jX]
  congr 1
  rw[pV (g:=id),tN];intro x hx;have:=h.2 x hx;cases x<;>simp[GL,iOf] at this ⊢
 |_=>cases h
theorem OA{n:Nat}(hn:n<=5){ks:iW}(hk: ∀c∈ks,ClOk n c)(hl:ks.length<=30){t:gY}(ht:t.length=n){ev:EvF}(fX: ∀c,ClOk n c->ev [enc t,enc c]=some ((.bl (kC t c),false),[some (enc t),some (enc c)])){fi:FIt}{δ:Dn}{i:Nat}(hi:δ[i]?=some (some (enc t)))(h1:fi δ=some (ks.map cD,δ)):
  gP (g1 xN) [(gw (ie [i] 1 fi (gD 1) iz (ig (gH ev [(gu 0),(gu 1)]))))] δ=some ((.bl (ks.all (kC t)),false),δ):=by
 have:=rd (caps:=[i]) (fi:=fi) (f:=gH ev [(gu 0),(gu 1)]) (δ:=δ) (l:=ks.map cD) (args:=[cD t]) (fun d=>kC t ((Af d).map iOf)) h1 (by simp[hi]) rfl (fun d hd=>⟨false,by
  obtain⟨c,hc,rfl⟩:=mw.mp hd;simp[fX c (hk c hc),hX,wb,Af,pW,iOf]⟩) (by simp;omega)
 refine this.trans ?_;simp[List.all_map,pW,Af,iOf]
theorem D9{n:Nat}{ks:iW}(h:xS n ks)(d:D)(hd:OkD d):nV [(rD' n ks,false),(d,false)]=some ((.bl (kB n ks d),false),[some (rD' n ks,false),some (d,false)]):=by
 let δ:Dn:=[some (rD' n ks,false),some (d,false),some (.int n,false),some (.tup (ks.map cD),false)]
 have e:gH lH [(gu 2),(gu 1)] δ=some ((.bl (isA n d),false),δ):=gW (os:=[.slot 2,.slot 1]) (args:=[(.int n,false),(d,false)]) rfl rfl jg (Jq n d hd);refine jz (δ:=δ) ⟨rfl,by decide,rfl⟩ ((gF (δ1:=δ) rfl).trans (iJ (jx ?_)));rw[kB]
 cases hA:isA n d with
 |false=>rw[hA] at e;exact Mm e
 |true=>
  rw[hA] at e;refine(zD e).trans ?_;obtain⟨t,rfl,ht⟩:=Og hA;refine(OA h.1 h.2.1.2 h.2.2.2 ht (fun c hc=>Ri h.1 ht hc) (i:=1) rfl rfl).trans ?_;simp[Af,pW,iOf]
def ky:Nat->List (List Int)
 |0=>[[]]
 |n+1=>(ky n).flatMap fun t=>[t++[0],t++[1]]
theorem Bm: ∀n:Nat,(ky n).length=2^n
 |0=>rfl
 |n+1=>by
  rw[ky,List.length_flatMap,sD,<-Bm n];generalize ky n=L
  induction L with
  |nil=>rfl
  |cons t L ih=>simp at ih ⊢;omega
theorem mB: ∀{n:Nat} {t:gY},t∈ky n->t.length=n/\ ∀x∈t,x=0\/x=1
  |0,t,h=>by simp[ky] at h;simp[h]
  |n+1,t,h=>by
    rw[ky,List.mem_flatMap] at h;obtain⟨u,hu,h⟩:=h;obtain⟨h1,h2⟩:=mB hu;simp only[jC,kc,lA] at h
    rcases h with rfl|rfl<;>
      (refine⟨by simp[h1],fun x hx=>?_⟩
       rcases nG.mp hx with hx|hx
       · exact h2 x hx
       · simp at hx;simp[hx])
theorem zW{n:Nat}(hn:n<=5):(ky n).length<=32:=by
 rw[Bm];exact yp (n:=2) (by decide) hn
abbrev GK:List D:=[.int 0,.int 1]
def GX(d e:D):D:= .tup (Af d++[e])
theorem MI(L:iW):(L.map cD).flatMap (fun d=>GK.map (GX d))=(L.flatMap fun t=>[t++[0],t++[1]]).map cD:=by
 simp[List.flatMap_map,List.map_flatMap,GX,Af,cD]
theorem Ib(t:gY)(ht:t.length<=100)(e:D):gB ju (gu 0) (gw (jN [(hU 1)])) [some (cD t,false),some (e,false)]=some ((GX (cD t) e,false),[some (cD t,false),some (e,false)]):=by
 have:=iQ;have h:t.length<=16777215:=by omega
 simp[hU,this,ju,GX,Af,h]
theorem wW(δ:Dn):hJ (jN [(fC (.int 0)),(fC (.int 1))]) δ=some (GK,δ):=by simp[iQ]
abbrev fbA:FS:=(gE (iw 1 (ie [] 2 (hJ (hU 1)) (gD 0) iz (GS (hJ (jN [(fC (.int 0)),(fC (.int 1))])) (gD 1) iz (ig (gB ju (gu 0) (gw (jN [(hU 1)]))))))) gS)
theorem zU{n:Nat}(hn:n<=5):kN [(.int n,false)]=some ((.lst ((ky n).map cD),true),[some (.int n,false)]):=by
 let z:Sl:=some (.int n,false)
 obtain⟨δ',⟨j,x,hj,rfl⟩,e⟩:=rS (tg:=gD 2) (fb:=fbA) (fun ds δ=> ∃j x,j+ds.length=n/\δ=[z,some (.lst ((ky j).map cD),true),x]) (fun d ds δ ⟨j,x,hj,e⟩=>by
  subst e
  have c:=RG (fi:=hJ (hU 1)) (fi2:=hJ (jN [(fC (.int 0)),(fC (.int 1))])) (f:=gB ju (gu 0) (gw (jN [(hU 1)]))) (δ:=[z,some (.lst ((ky j).map cD),true),some (d,false)]) (δ1:=[z,some (.lst ((ky j).map cD),false),some (d,false)]) (l:=(ky j).map cD) (m:=GK) GX rfl (fun d y=>wW _) (fun d hd e _=>by
   obtain⟨t,ht,rfl⟩:=mw.mp hd;exact⟨false,Ib t (by have:=(mB ht).1;simp at hj;omega) e⟩) (by have:=zW (n:=j) (by omega);simp;omega)
  rw[MI] at c;exact⟨_,_,rfl,(gF (iC c (show 1<3 by decide))).trans rfl,j+1,_,by simp at hj;omega,rfl⟩) (ik 0 n) [z,some (.lst ((ky 0).map cD),true),none] ⟨0,none,by simp[ik],rfl⟩
 have:j=n:=by simpa using hj
 subst this;exact jz (δ:=[z,none,x]) ⟨rfl,by decide,rfl⟩ ((gF (δ1:=[z,some (.lst ((ky 0).map cD),true),none]) rfl).trans ((gF ((nc (rP (o:= .slot 0) rfl rfl (by omega))).trans e)).trans (iJ rfl)))
abbrev Ry:FS:=(gE (nJ (rT 3 (ie [4] 1 (hJ (jN [(fC (.int 0)),(fC (.int 1))])) (gD 1) iz (ig (gB ju (gu 0) (gw (jN [(hU 1)]))))))) gS)
abbrev Ti:FS:=(gE (iw 3 (lK [])) (gE (pI (hJ (hU 1)) (gD 4) Ry) (gE (iw 1 (hU 3)) gS)))
theorem Om(z x1 x2:Sl)(L:iW)(hL:L.length<=100)(t:gY)(ht:t.length<=100):Ry [z,x1,x2,lv (L.map cD),some (cD t,false)]=some (.nx [z,x1,x2,lv ((L++[t++[0],t++[1]]).map cD),some (cD t,false)]):=by
 have c:=zI (caps:=[4]) (fi:=hJ (jN [(fC (.int 0)),(fC (.int 1))])) (f:=gB ju (gu 0) (gw (jN [(hU 1)]))) (δ:=[z,x1,x2,lv (L.map cD),some (cD t,false)]) (l:=GK) (args:=[cD t]) (GX (cD t)) (wW _) rfl rfl (fun e _=>⟨false,Ib t ht e⟩) (by simp);have h1:=iQ;have h2:L.length+2<=16777216:=by omega
 refine(gF ?_).trans rfl;rw[Nb];unfold rT;simp only[yo,Bv];rw[show ie [4] 1 (hJ (jN [(fC (.int 0)),(fC (.int 1))])) (gD 1) iz (ig (gB ju (gu 0) (gw (jN [(hU 1)])))) [z,x1,x2,lv (L.map cD),some (cD t,false)]=_ from c];simp[h1,h2,GX,Af,cD]
abbrev ext(t:gY):List (List Int):=[t++[0],t++[1]]
theorem xH{n:Nat}(hn:n<=5): ∃o,jI [(.int n,false)]=some ((.lst ((ky n).map cD),o),[some (.int n,false)]):=by
 let z:Sl:=some (.int n,false)
 obtain⟨δ',⟨j,o,x2,x3,x4,hj,rfl⟩,e⟩:=rS (tg:=gD 2) (fb:=Ti) (fun ds δ=> ∃j o x2 x3 x4,j+ds.length=n/\δ=[z,some (.lst ((ky j).map cD),o),x2,x3,x4]) (fun d ds δ ⟨j,o,x2,x3,x4,hj,e⟩=>by
  subst e;have hj5:j<=5:=by simp at hj;omega
  have h32:=zW hj5
  obtain⟨δ',⟨cY,hZ,y4,h1,h2,rfl⟩,e⟩:=rS (tg:=gD 4) (fb:=Ry) (fun ds δ=> ∃cY hZ y4,cY++hZ=ky j/\ds=hZ.map cD/\δ=[z,some (.lst ((ky j).map cD),false),some (d,false),lv ((cY.flatMap ext).map cD),y4]) (fun t ds δ ⟨cY,hZ,y4,h1,h2,h3⟩=>by
   subst h3
   cases hZ with
   |nil=>cases h2
   |cons u hZ=>
    obtain⟨rfl,rfl⟩:=tY h2;have hu:u∈ky j:=by rw[<-h1];simp
    have hd:cY.length<=32:=by have:=pZ List.length h1;simp at this;omega
    refine⟨_,_,rfl,Om z _ _ (cY.flatMap ext) ?_ u (by have:=(mB hu).1;omega),cY++[u],hZ,some (cD u,false),by simp[<-h1],rfl,?_⟩
    ·have: ∀L:List (List Int),(L.flatMap ext).length=2*L.length:=fun L=>by
      induction L with
      |nil=>rfl
      |cons t L ih=>simp at ih ⊢;omega
     rw[this];omega
    ·simp[List.flatMap_append]) ((ky j).map cD) [z,some (.lst ((ky j).map cD),false),some (d,false),lv [],x4] ⟨[],ky j,x4,rfl,rfl,rfl⟩
  have hr:hZ=[]:=by simpa using h2.symm
  subst hr;rw[qF] at h1;subst h1;exact⟨_,_,rfl,(gF (δ1:=[z,some (.lst ((ky j).map cD),o),some (d,false),lv [],x4]) rfl).trans ((gF ((nc (lS (o:=false) rfl)).trans e)).trans rfl),j+1,false,_,_,_,by simp at hj;omega,rfl⟩) (ik 0 n) [z,some (.lst ((ky 0).map cD),true),none,none,none] ⟨0,true,none,none,none,by simp[ik],rfl⟩
 have:j=n:=by simpa using hj
 subst this
 have pre: ∀g,gE (iw 1 (lK [(jN [])])) (gE (pI (uB (gu 0)) (gD 2) Ti) g) [z,none,none,none,none]=g [z,some (.lst ((ky j).map cD),o),x2,x3,x4]:=fun g=>
  (gF (δ1:=[z,some (.lst ((ky 0).map cD),true),none,none,none]) rfl).trans (gF ((nc (rP (o:= .slot 0) rfl rfl (by omega))).trans e))
 refine⟨o,?_⟩
 cases o with
 |true=>exact jz (δ:=[z,none,x2,x3,x4]) ⟨rfl,by decide,rfl⟩ ((pre _).trans (iJ rfl))
 |false=>exact jz (δ:=[z,some (.lst ((ky j).map cD),false),x2,x3,x4]) ⟨rfl,by decide,rfl⟩ ((pre _).trans (iJ rfl))
def lQ(n:Nat)(ks:iW):List (List Int):=(ky n).filter fun t=>ks.all (kC t)
theorem Oh{n:Nat}{t:gY}(h:t∈ky n):isA n (cD t)=true:=by
 obtain⟨h1,h2⟩:=mB h;simp only[isA,jj,h1,decide_true,Bool.true_and,List.all_map,mC,Function.comp];intro x hx;rcases h2 x hx with rfl|rfl<;>rfl
theorem L6{n:Nat}{ks:iW}{t:gY}(h:t∈ky n):kB n ks (cD t)=ks.all (kC t):=by
 rw[kB,Oh h];simp[Af,pW,iOf]
theorem OW{t:gY}(h:t.length<=60):OkD (cD t):=fun l e=>by cases e;simpa using h
theorem wU(p:D->Bool)(L:iW):((L.map cD).filter p).map (fun d=>d)=(L.filter fun t=>p (cD t)).map cD:=by
 rw[List.map_id',yn];rfl
theorem pU{n:Nat}{ks:iW}(h:xS n ks):jS [(rD' n ks,false)]=some ((.lst ((lQ n ks).map cD),true),[some (rD' n ks,false)]):=by
 have h1:hJ (gH kN [(gw (gB gIx (gu 0) (gw (fC (.int 0)))))]) [some (rD' n ks,false)]=some ((ky n).map cD,[some (rD' n ks,false)]):=
  lS (gW (os:=[.val (.int n,false)]) (args:=[(.int n,false)]) rfl rfl jg (zU h.1))
 have c:=uH (caps:=[0]) (fi:=hJ (gH kN [(gw (gB gIx (gu 0) (gw (fC (.int 0)))))])) (f:=hU 1) (ti:=fT (gH nV [(gu 0),(gu 1)])) (δ:=[some (rD' n ks,false)]) (l:=(ky n).map cD) (args:=[rD' n ks]) (fun d=>d) (kB n ks) h1 rfl rfl (fun d hd=>by
  obtain⟨t,ht,rfl⟩:=mw.mp hd;have:=(mB ht).1;have h5:=h.1;exact⟨js (gW (os:=[.slot 0,.slot 1]) (args:=[(rD' n ks,false),(cD t,false)]) rfl rfl jg (D9 h _ (OW (by omega)))),fun _=>⟨false,rfl⟩⟩) (by have:=zW h.1;simp;omega)
 rw[wU,vU fun t ht=>L6 ht] at c;exact jz ⟨rfl,by decide,rfl⟩ (iJ (jx c))
def sO(j b:Int):Int:=if b=1 then j else -j
def mv(j s:Int):Int:=if ab s<j then s else if s>0 then s-1 else s+1
def wn(j:Int)(c:gY):List Int:=(c.filter fun s=>!(ab s==j)).map (mv j)
def rst(j b:Int)(ks:iW):List (List Int):=(ks.filter fun c=>!c.contains (sO j b)).map (wn j)
def ins(j b:Int)(t:gY):List Int:=t.take (j-1).toNat++[b]++t.drop (j-1).toNat
theorem Aj{j b:Int}{ks:iW}{c:gY}:c∈rst j b ks↔ ∃x∈ks,sO j b∉x/\wn j x=c:=by
 simp[rst,and_assoc]
theorem M9{j b:Int}{ks:iW}(h:[]∈ks):[]∈rst j b ks:=Aj.mpr ⟨[],h,by simp,rfl⟩
theorem pq{j s:Int}(h0:1<=ab s)(h:ab s≠j)(hj:1<=j):ab (mv j s)=(if ab s<j then ab s else ab s-1)/\(0<mv j s↔0<s):=by
 unfold mv;by_cases h1:ab s<j
 ·rw[gG h1,gG h1];exact⟨rfl,Iff.rfl⟩
 ·rw[gJ h1,gJ h1];unfold ab at*;by_cases h2:s>0
  ·rw[gG h2,gJ (by lia),gJ (by lia)];lia
  ·rw[gJ h2];rw[gG (show s<0 by lia)] at*;rw[gG (by lia)];lia
theorem Bn{x y:Int}(h:ab x=ab y)(h0:0<x↔0<y):x=y:=by
 unfold ab at h;split at h<;>split at h<;>lia
theorem RY{n:Nat}{j:Int}{c:gY}(h:ClOk n c)(hj:1<=j/\j<=n)(o7:wn j c≠[]):ClOk (n-1) (wn j c):=by
 refine⟨o7,?_,fun s hs=>?_⟩
 ·have h1:(c.filter fun s=>!(ab s==j)).Pairwise fun a b=>ab a<ab b:=List.Pairwise.filter _ (Dc.mp h.2.1);rw[wn,jX,Dc];refine List.Pairwise.imp_of_mem (fun {a b} ha hb cW=>?_) h1;rw[Aa] at ha hb;have ax:ab a≠j:=by simpa using ha.2
  have bj:ab b≠j:=by simpa using hb.2
  have:=h.2.2 a ha.1;have:=h.2.2 b hb.1;simp only[Function.comp];rw[(pq (by lia) ax (by lia)).1,(pq (by lia) bj (by lia)).1];split<;>split<;>lia
 ·obtain⟨x,hx,rfl⟩:=mw.mp hs;rw[Aa] at hx;have hx1:ab x≠j:=by simpa using hx.2
  have:=h.2.2 x hx.1;rw[(pq (by lia) hx1 (by lia)).1];split<;>lia
theorem EH{j b:Int}(hj:1<=j):ab (sO j b)=j/\(0<sO j b↔b=1):=by
 unfold sO;split
 ·exact⟨zY (by lia),by lia⟩
 ·exact⟨GY (by lia),by lia⟩
theorem ins_get(b:Int): ∀(t:gY) (m k:Nat),m<=t.length->(t.take m++b::t.drop m).getD k 0=if k<m then t.getD k 0 else if k=m then b else t.getD (k-1) 0
 |t,0,0,_=>by simp
 |t,0,k+1,_=>by simp
 |x::t,m+1,0,_=>by simp
 |x::t,m+1,k+1,h=>by
  have:=ins_get b t m k (by simpa using h);simp only[List.take_succ_cons,List.drop_succ_cons,List.cons_append,List.getD_cons_succ,this,Nat.add_lt_add_iff_right,Nat.add_right_cancel_iff,Nat.add_sub_cancel];by_cases h1:k<m
  ·rw[gG h1,gG h1]
  ·rw[gJ h1,gJ h1];by_cases h2:k=m
   ·rw[gG h2,gG h2]
   ·obtain⟨k',rfl⟩: ∃k',k=k'+1:=⟨k-1,by lia⟩
    rw[gJ h2,gJ h2];rfl
theorem PK{n:Nat}{j b s:Int}{t:gY}(ht:t.length=n-1)(hj:1<=j/\j<=n)(hb:b=0\/b=1)(hs:1<=ab s/\ab s<=n):soB (ins j b t) s=if ab s=j then s==sO j b else soB t (mv j s):=by
 obtain⟨m,rfl⟩: ∃m:Nat,j=m+1:=⟨(j-1).toNat,by lia⟩
 obtain⟨k,hk⟩: ∃k:Nat,ab s=k+1:=⟨(ab s-1).toNat,by lia⟩
 obtain⟨o1,o2⟩:=EH (b:=b) hj.1;unfold soB ins;rw[show((m:Int)+1-1).toNat=m by lia,ki,BD,ins_get b t m _ (by lia),hk,show((k:Int)+1).toNat-1=k by lia];by_cases h:k=m
 ·subst h;rw[gJ (oi _),gG rfl,gG rfl,Bool.eq_iff_iff,beq_iff_eq,beq_iff_eq];constructor
  ·intro e;refine Bn (by lia) ?_;rw[o2,e];split<;>simp_all
  ·rintro e;rw[<-e] at o2;by_cases hp:s>0
   ·rw[gG hp];exact o2.mp hp
   ·rw[gJ hp];rcases hb with h|h
    ·exact h
    ·exact absurd (o2.mpr h) hp
 ·obtain⟨h1,h2⟩:=pq hs.1 (show ab s≠m+1 by lia) hj.1;rw[gJ (show ¬((k:Int)+1=m+1) by lia),gJ h];simp only[gt_iff_lt,h2]
  congr 1
  rw[h1,hk];by_cases hl:k<m
  ·rw[gG hl,gG (by lia)];congr 1
  ·rw[gJ hl,gJ (by lia)];congr 1;lia
theorem L5{n:Nat}{j b:Int}{t:gY}(ht:t.length=n-1)(hj:1<=j/\j<=n)(hb:b=0\/b=1): ∀c:List Int,(∀s∈c,1<=ab s/\ab s<=n)->kC (ins j b t) c=(c.contains (sO j b)||kC t (wn j c))
 |[],_=>by simp[kC,wn]
 |s::c,h=>by
  have ih:=L5 ht hj hb c fun x hx=>h x (je _ hx);have h1:=PK ht hj hb (h s iX);unfold kC at ih ⊢;rw[qA,ih,h1,List.contains_cons];unfold wn;by_cases he:ab s=j
  ·rw[gG he,vT (by simp[he])];rw[show(sO j b==s)=(s==sO j b) from BEq.comm,EM]
  ·have:(sO j b==s)=false:=by
    have:=(EH (b:=b) hj.1).1;simp only[xv,ne_eq];intro e;rw[<-e] at he;exact he this
   rw[gJ he,tM (by simp[he]),iN,qA,this,Bool.false_or,<-EM,<-EM,Bool.or_comm (soB t (mv j s))]
theorem Ia{n:Nat}{j b:Int}{t:gY}(ht:t.length=n-1)(hj:1<=j/\j<=n)(hb:b=0\/b=1): ∀ks:List (List Int),(∀c∈ks,ClOk n c)->ks.all (kC (ins j b t))=(rst j b ks).all (kC t)
 |[],_=>by simp[rst]
 |c::ks,h=>by
  have ih:=Ia ht hj hb ks fun x hx=>h x (je _ hx);rw[List.all_cons,ih,L5 ht hj hb c (h c iX).2.2];unfold rst
  cases hc:c.contains (sO j b) with
  |true=>rw[vT (by rw[hc];decide)];simp
  |false=>rw[tM (by rw[hc];rfl)];simp
theorem Mw: ∀n:Nat,n<6-> ∀j:Nat,j<n-> ∀b:Nat,b<2->(ky n).filter (fun a=>a.getD j 0==(b:Int))=(ky (n-1)).map (ins ((j:Int)+1) b):=by decide+kernel
theorem H9{p:List Int->Bool}{k l:iW}(h: ∀c,c∈k↔c∈l):k.all p=l.all p:=by
 rw[Bool.eq_iff_iff,mC,mC];exact⟨fun a c hc=>a c ((h c).mpr hc),fun a c hc=>a c ((h c).mp hc)⟩
theorem L3{n:Nat}{ks:iW}{j b:Nat}(hr: ∀c∈ks,ClOk n c)(hn:n<=5)(hj:j<n)(hb:b<2):(lQ n ks).filter (fun a=>a.getD j 0==(b:Int))=((ky (n-1)).filter fun t=>(rst ((j:Int)+1) b ks).all (kC t)).map (ins ((j:Int)+1) b):=by
 unfold lQ;rw[EL,vU (q:=fun t=>ks.all (kC t)&&(t.getD j 0==(b:Int))) (fun t _=>Bool.and_comm _ _),<-EL,Mw n (by lia) j hj b hb,yn]
 congr 1
 refine vU fun t ht=>?_;exact Ia (mB ht).1 ⟨by lia,by lia⟩ (by lia) ks hr
theorem SV{i j s:Int}(l9:i<j)(hi:1<=i)(h0:1<=ab s)(h1:ab s≠i)(h2:ab s≠j):mv (j-1) (mv i s)=mv i (mv j s):=by
 obtain⟨a1,a2⟩:=pq h0 h1 hi;obtain⟨b1,b2⟩:=pq h0 h2 (show 1<=j by lia);obtain⟨c1,c2⟩:=pq (j:=j-1) (s:=mv i s) (by rw[a1];split<;>lia) (by rw[a1];split<;>lia) (by lia);obtain⟨d1,d2⟩:=pq (j:=i) (s:=mv j s) (by rw[b1];split<;>lia) (by rw[b1];split<;>lia) hi;refine Bn ?_ (c2.trans (a2.trans (b2.symm.trans d2.symm)));rw[c1,d1,a1,b1];by_cases ha:ab s<i
 ·rw[gG ha,gG (show ab s<j by lia),gG (by lia),gG ha]
 ·rw[gJ ha];by_cases hb:ab s<j
  ·rw[gG hb,gG (by lia),gJ ha]
  ·rw[gJ hb,gJ (by lia),gJ (by lia)]
theorem Kg{i j:Int}(l9:i<j)(hi:1<=i): ∀c:List Int,(∀s∈c,1<=ab s)->wn (j-1) (wn i c)=wn i (wn j c)
 |[],_=>rfl
 |s::c,h=>by
  have ih:=Kg l9 hi c fun x hx=>h x (je _ hx);have h0:=h s iX;unfold wn at ih ⊢;by_cases h1:ab s=i
  ·rw[vT (by simp[h1]),ih];rw[tM (p:=fun s=>!(ab s==j)) (by simp;lia),iN];have e:=(pq (j:=j) h0 (by lia) (by lia)).1;rw[vT (by simp[e];lia)]
  ·rw[tM (by simp[h1]),iN];have e:=(pq (j:=i) h0 h1 hi).1;by_cases h2:ab s=j
   ·rw[vT (by simp[e];lia),ih,vT (by simp[h2])]
   ·have e2:=(pq (j:=j) h0 h2 (by lia)).1;rw[tM (by simp[e];lia),tM (by simp[h2]),iN,iN,ih,tM (by simp[e2];lia),iN,SV l9 hi h0 h1 h2]
theorem ON{i j b:Int}(l9:i<j)(hi:1<=i){c:gY}(h: ∀s∈c,1<=ab s):sO (j-1) b∈wn i c↔sO j b∈c:=by
 obtain⟨o1,o2⟩:=EH (b:=b) (j:=j) (by lia);obtain⟨p1,p2⟩:=EH (b:=b) (j:=j-1) (by lia)
 have key: ∀s,1<=ab s->ab s≠i->(mv i s=sO (j-1) b↔s=sO j b):=fun s h0 h1=>by
  obtain⟨a1,a2⟩:=pq h0 h1 hi;constructor
  ·intro e;rw[e] at a1 a2;refine Bn ?_ (a2.symm.trans (p2.trans o2.symm));rw[p1] at a1;rw[o1];split at a1<;>lia
  ·intro e;refine Bn ?_ (a2.trans (by rw[e,o2,p2]));rw[a1,e,o1,p1,gJ (by lia)]
 simp only[wn,mw,Aa];constructor
 ·rintro⟨s,⟨hs,h1⟩,h2⟩;rw[<-(key s (h s hs) (by simpa using h1)).mp h2];exact hs
 ·intro hs;exact⟨_,⟨hs,by simp[o1];lia⟩,(key _ (by lia) (by lia)).mpr rfl⟩
theorem OM{i j b:Int}(l9:i<j)(hi:1<=i){c:gY}(h: ∀s∈c,1<=ab s):sO i b∈wn j c↔sO i b∈c:=by
 obtain⟨o1,o2⟩:=EH (b:=b) (j:=i) (by lia)
 have key: ∀s,1<=ab s->ab s≠j->(mv j s=sO i b↔s=sO i b):=fun s h0 h1=>by
  obtain⟨a1,a2⟩:=pq h0 h1 (by lia);constructor
  ·intro e;rw[e] at a1 a2;refine Bn ?_ a2.symm;rw[o1] at a1 ⊢;split at a1<;>lia
  ·intro e;refine Bn ?_ (a2.trans (by rw[e]));rw[a1,e,o1,gG l9]
 simp only[wn,mw,Aa];constructor
 ·rintro⟨s,⟨hs,h1⟩,h2⟩;rw[<-(key s (h s hs) (by simpa using h1)).mp h2];exact hs
 ·intro hs;exact⟨_,⟨hs,by simp[o1];lia⟩,(key _ (by lia) (by lia)).mpr rfl⟩
theorem M8{n:Nat}{i j b b':Int}{ks:iW}(l9:i<j)(hi:1<=i)(hr: ∀c∈ks,ClOk n c)(c:gY):c∈rst (j-1) b' (rst i b ks)↔c∈rst i b (rst j b' ks):=by
 simp only[Aj];constructor
 ·rintro⟨x,⟨y,hy,h1,rfl⟩,h2,rfl⟩;have aX: ∀s∈y,1<=ab s:=fun s hs=>((hr y hy).2.2 s hs).1;exact⟨_,⟨y,hy,fun h=>h2 ((ON l9 hi aX).mpr h),rfl⟩,fun h=>h1 ((OM l9 hi aX).mp h),(Kg l9 hi y aX).symm⟩
 ·rintro⟨x,⟨y,hy,h1,rfl⟩,h2,rfl⟩;have aX: ∀s∈y,1<=ab s:=fun s hs=>((hr y hy).2.2 s hs).1;exact⟨_,⟨y,hy,fun h=>h2 ((OM l9 hi aX).mpr h),rfl⟩,fun h=>h1 ((ON l9 hi aX).mp h),Kg l9 hi y aX⟩
theorem LM(s j:Int):lr [(.int s,false),(.int j,false)]=some ((.int (mv j s),false),[ii s,ii j]):=by
 by_cases h:ab s<j
 ·have h':=h;unfold ab at h';simp[lr,oJ,evF,iA,h',mv,h,hU]
 ·have h':=h;unfold ab at h';by_cases h2:s>0<;>simp[lr,oJ,evF,iA,h',mv,h,h2]
theorem Q9(c:gY)(p:Int->Bool)(g:Int->Int):((c.map D.int).filter fun d=>p (iOf d)).map (fun d=>D.int (g (iOf d)))=((c.filter p).map g).map D.int:=by
 rw[yn,jX,jX];rfl
theorem FC(c:gY)(hc:c.length<=10)(j:Int):km [enc c,(.int j,false)]=some ((cD (wn j c),false),[some (enc c),ii j]):=by
 have e:=uH (caps:=[1]) (fi:=hJ (hU 0)) (f:=gH lr [(gu 1),(gu 0)]) (ti:=fT (gB gNe (gw (gP (g1 oN) [(gu 1)])) (gu 0))) (δ:=[some (enc c),ii j]) (δ1:=[some (enc c),ii j]) (l:=c.map .int) (args:=[.int j]) (fun d=> .int (mv j (iOf d))) (fun d=>!(ab (iOf d)==j)) rfl rfl rfl (fun d hd=>by
  obtain⟨s,_,rfl⟩:=mw.mp hd;exact⟨js (gX (o1:= .val (.int (ab s),false)) (o2:= .slot 0) (gL rfl) rfl rfl rfl (Sk _ _)),fun _=>⟨false,gW (os:=[.slot 1,.slot 0]) (args:=[(.int s,false),(.int j,false)]) rfl rfl jg (LM s j)⟩⟩) (by simp;lia)
 rw[Q9 c (fun s=>!(ab s==j)) (mv j)] at e;exact jz (δ:=[some (enc c),ii j]) ⟨rfl,by decide,rfl⟩ (iJ (jx (iH (lG (gL e)) rfl rfl)))
theorem Tw(x:Int)(c:gY):(c.map D.int).any (fun d=>D.eqb d (.int x))=c.contains x:=by
 induction c with
 |nil=>rfl
 |cons y c ih=>rw[iN,qA,ih,List.contains_cons];simp[D.eqb,ym,eq_comm]
theorem N8(x:Int)(c:gY):mH (.int x) (cD c)=some (.bl (!c.contains x),false):=by
 have:inD (.int x) (cD c)=some (c.contains x):=by
  show(if D.depL (c.map .int)<=50/\(D.int x).dep<=50 then some ((c.map D.int).any fun d=>D.eqb d (.int x)) else none)=_;rw[gG ⟨by rw[qZ];lia,by simp[D.dep]⟩,Tw]
 unfold mH;rw[this];rfl
theorem Pb(c:gY)(cs:iW):gIn (cD c) (.lst (cs.map cD))=some (.bl (decide (c∈cs)),false):=by
 have h:=DX c cs;unfold mH at h;unfold gIn
 cases hx:inD (cD c) (.lst (cs.map cD)) with
 |none=>rw[hx] at h;cases h
 |some b=>rw[hx] at h;simp at h ⊢;cases b<;>simp at h ⊢ <;>exact h
theorem Ra(ks:iW)(p:List Int->Bool)(g:List Int->List Int):((ks.map cD).filter fun d=>p (unC d)).map (fun d=>cD (g (unC d)))=((ks.filter p).map g).map cD:=by
 rw[yn,jX,jX];simp only[pW,lB]
def NR(n:Nat)(cs:iW)(r:D):Prop:=(r= .non/\[]∈cs)\/ ∃ks,r=rD' n ks/\xS n ks/\[]∉cs/\ ∀c,c∈ks↔c∈cs
theorem ClOk.len5{n:Nat}{c:gY}(h:ClOk n c)(hn:n<=5):c.length<=10:=by have:=ClOk.len h;lia
theorem oF{n:Nat}{ks:iW}(h:xS n ks){j:Nat}(hj:1<=j/\j<=n){b:Nat}(hb:b<2): ∃r,NR (n-1) (rst j b ks) r/\kd [(rD' n ks,false),(.int j,false),(.int b,false)]=some ((r,false),[some (rD' n ks,false),ii j,ii b]):=by
 let R:Sl:=some (rD' n ks,false)
 let T:Sl:=some (.tup (ks.map cD),false)
 let S:Sl:=ii (sO j b)
 let L:Sl:=lv ((rst j b ks).map cD)
 have hlen:(rst j b ks).length<=ks.length:=by unfold rst;rw[jj];exact Jv _ _
 have eR:=h.2.2.2
 have c:=uH (caps:=[1,5]) (fi:=hJ (hU 4)) (f:=gH km [(gu 2),(gu 0)]) (ti:=fT (gB mH (gu 1) (gu 2))) (δ:=[R,ii j,ii b,ii n,T,S,none]) (δ1:=[R,ii j,ii b,ii n,T,S,none]) (l:=ks.map cD) (args:=[.int j,.int (sO j b)]) (fun d=>cD (wn j (unC d))) (fun d=>!(unC d).contains (sO j b)) rfl rfl rfl (fun d hd=>by
  obtain⟨c,hc,rfl⟩:=mw.mp hd;rw[lB];refine⟨js (gX (o1:= .slot 1) (o2:= .slot 2) rfl rfl rfl rfl (N8 _ c)),fun _=>⟨false,?_⟩⟩;exact gW (os:=[.slot 2,.slot 0]) (args:=[enc c,(.int j,false)]) rfl rfl jg (FC c ((h.2.1.2 c hc).len5 h.1) j)) (by simp;lia)
 rw[Ra ks (fun c=>!c.contains (sO j b)) (wn j)] at c
 have pre: ∀g,gE (FR (xf [(gD 3),(gD 4)]) (hU 0)) (gE (sIf (lj (fT (gH lq [(gu 3),(gu 1)]))) (gE wC gS) gS) (gE (sIf (lj (fT (gH lU [(gu 2)]))) (gE wC gS) gS) (gE (iw 5 (fIf (fT (gB gEq (gu 2) (gw (fC (.int 1))))) (hU 1) (ni wO (gu 1)))) (gE (iw 6 (ie [1,5] 1 (hJ (hU 4)) (gD 2) (fT (gB mH (gu 1) (gu 2))) (ig (gH km [(gu 2),(gu 0)])))) g)))) [R,ii j,ii b,none,none,none,none]=g [R,ii j,ii b,ii n,T,S,L]:=fun g=>by
  refine(gF (δ1:=[R,ii j,ii b,ii n,T,none,none]) rfl).trans ?_;refine(gF ((kJ (δ1:=[R,ii j,ii b,ii n,T,none,none]) (pk (b:=true) (js (o:=false) ?_))).trans rfl)).trans ?_
  ·have hnm:lq [(.int n,false),(.int j,false)]=some ((.bl true,false),[ii n,ii j]):=by rw[CD];simp;lia
   exact gW (δ1:=[R,ii j,ii b,ii n,T,none,none]) (os:=[.slot 3,.slot 1]) (args:=[(.int n,false),(.int j,false)]) rfl rfl jg hnm
  refine(gF ((kJ (δ1:=[R,ii j,ii b,ii n,T,none,none]) (pk (b:=true) (js (o:=false) ?_))).trans rfl)).trans ?_
  ·refine(gW (δ1:=[R,ii j,ii b,ii n,T,none,none]) (os:=[.slot 2]) (args:=[(.int b,false)]) rfl rfl jg (Mx (.int b))).trans ?_;have:GL (.int b)=true:=by unfold GL;simp;lia
   rw[this];rfl
  refine(gF (δ1:=[R,ii j,ii b,ii n,T,S,none]) ?_).trans ?_
  ·rcases(show b=0\/b=1 by lia) with rfl|rfl<;>simp[R,T,S,hU,sO]
  ·exact gF (iC c (show 6<7 by decide))
 have t0:jN [] [R,ii j,ii b,ii n,T,S,L]=some ((cD [],false),[R,ii j,ii b,ii n,T,S,L]):=by simp[iQ]
 by_cases hn:[]∈rst j b ks
 ·refine⟨.non,.inl ⟨rfl,hn⟩,jz (δ:=[R,ii j,ii b,ii n,T,S,L]) ⟨rfl,by decide,rfl⟩ ((pre _).trans (iJ ((qK (δ1:=[R,ii j,ii b,ii n,T,S,L]) (js (o:=false) (gX (o1:= .val (cD [],false)) (o2:= .slot 6) (gL t0) rfl rfl rfl ?_))).trans (iJ rfl))))⟩;rw[Pb,nC hn]
 ·obtain⟨vs,bL,k1,k2,k3,k4,k5,k6⟩:=M0 (n:=n-1) (cs:=rst j b ks) (fun c hc=>by
   obtain⟨x,hx,_,rfl⟩:=Aj.mp hc;exact RY (h.2.1.2 x hx) ⟨by lia,by lia⟩ fun e=>hn (e▸hc)) (by lia)
  refine⟨rD' (n-1) bL,.inr ⟨bL,rfl,⟨by have:=h.1;lia,k1,k2,by lia⟩,hn,k3⟩,jz (δ:=[R,ii j,ii b,ii n,T,S,L]) ⟨rfl,by decide,rfl⟩ ((pre _).trans ((gF ((kJ (δ1:=[R,ii j,ii b,ii n,T,S,L]) (js (o:=false) (gX (o1:= .val (cD [],false)) (o2:= .slot 6) (gL t0) rfl rfl rfl ?_))).trans rfl)).trans (iJ (jx ?_))))⟩
  ·rw[Pb,kX hn]
  ·have e:gP (g1 kh) [(gw (gP (g1 jf) [(gw (gP (g1 xM) [(gu 6)]))]))] [R,ii j,ii b,ii n,T,S,L]=some ((.tup (bL.map cD),false),[R,ii j,ii b,ii n,T,S,L]):=
    iH (lG (gL (iH (lG (gL (iH (os:=[.slot 6]) rfl rfl k5))) rfl k6))) rfl rfl
   have e':gB PX.gSub (gu 3) (gw (fC (.int 1))) [R,ii j,ii b,ii n,T,S,L]=some ((.int ((n-1:Nat):Int),false),[R,ii j,ii b,ii n,T,S,L]):=by
    rw[show((n-1:Nat):Int)=(n:Int)-1 by lia];rfl
   rw[FZ,iN,iN,oT,nU (gL e') (gL e)];simp[iQ]
theorem yB{α:Type}{R:α->α->Prop}: ∀{l:List α},l.Pairwise R-> ∀p∈l.zip l.tail,R p.1 p.2
 |[],_,p,h=>by simp at h
 |[_],_,p,h=>by simp at h
 |x::y::l,hp,p,h=>by
  simp only[List.tail_cons,tR] at h;obtain⟨h1,h2⟩:=qc.mp hp;rcases jC.mp h with rfl|h
  ·exact h1 y iX
  ·exact yB h2 p h
theorem Pl(l:List D):PX.xt l (some 1) none=l.tail:=by
 unfold PX.xt;rw[show(some (1:Int))=some ((1:Nat):Int) from rfl,HT.OP,HT.M7]
 cases l with
 |nil=>rfl
 |cons x l=>rw[show min 1 (x::l).length=1 from by simp];simp
theorem Hk(l:List D)(d:D)(hd:d= .lst l\/d= .tup l)(h: ∀p∈l.zip l.tail,jE .Lt p.1 p.2=some (.bl true,false))(hl:l.length<=1000):nk [(d,false)]=some ((.bl true,false),[some (d,false)]):=by
 have hz:xo (hU 0) (tE (gu 0) (gw (fC (.int 1)))) [some (d,false)]=some ((l.zip l.tail).map fun p=> .tup [p.1,p.2],[some (d,false)]):=by
  rcases hd with rfl|rfl
  ·have:tE (gu 0) (gw (fC (.int 1))) [some (.lst l,false)]=some ((.lst l.tail,true),[some (.lst l,false)]):=by rw[<-Pl l];rfl
   simp[xo,hU,this,sY]
  ·have:tE (gu 0) (gw (fC (.int 1))) [some (.tup l,false)]=some ((.tup l.tail,false),[some (.tup l,false)]):=by rw[<-Pl l];rfl
   simp[xo,hU,this,sY]
 have hzl:(l.zip l.tail).length<=1000:=by rw[List.length_zip];lia
 obtain⟨acc,δ',⟨ps,us,u,v,h1,h2,h3,h4,rfl⟩,e⟩:=Mv (tg:=xf [(gD 0),(gD 1)]) (f:=gB (jE .Lt) (gu 0) (gu 1)) (fun ds acc δ=> ∃(ps:List (D×D)) (us:List D) (u v:Sl),ds=ps.map (fun p=> .tup [p.1,p.2])/\(∀p∈ps,jE .Lt p.1 p.2=some (.bl true,false))/\acc=us.map (fun _=> .bl true)/\acc.length+ps.length<=1000/\δ=[u,v]) (fun d ds acc δ ⟨ps,us,u,v,h1,h2,h3,h4,h5⟩=>by
  subst h5
  cases ps with
  |nil=>cases h1
  |cons p ps=>
   obtain⟨rfl,rfl⟩:=tY h1;exact⟨[some (p.1,false),some (p.2,false)],.bl true,false,[some (p.1,false),some (p.2,false)],rfl,gX (o1:= .slot 0) (o2:= .slot 1) rfl rfl rfl rfl (h2 p iX),by lia,ps,us++[.non],_,_,rfl,fun q hq=>h2 q (je _ hq),by simp[h3],by simp at h4 ⊢;lia,rfl⟩) ((l.zip l.tail).map fun p=> .tup [p.1,p.2]) [] [none,none] ⟨l.zip l.tail,[],none,none,rfl,h,rfl,by simpa using hzl,rfl⟩
 refine jz (δ:=[some (d,false)]) ⟨rfl,by decide,rfl⟩ (iJ (jx (iH (lG (gL (Ml (caps:=[]) (k:=2) (args:=[]) hz rfl jg e))) rfl ?_)));subst h3;refine(De (fun _=>true) us).trans ?_;simp
theorem Rm{n:Nat}(hn:n<=5){c:gY}(h:ClOk n c):nu [(.int n,false),enc c]=some ((.bl true,false),[ii n,some (enc c)]):=by
 have hl:=ClOk.len h;have h1:1<=c.length:=List.length_pos_iff.mpr h.1;have k1:(1:Int)<=c.length:=by lia
 have k2:(c.length:Int)<=5:=by lia
 have aN:(Aq (lj (fT (ni (zq [.tuple]) (gu 1)))) (lj (fT (nS .LtE .LtE (gw (fC (.int 1))) (gw (gP (g1 nP) [(gu 1)])) (gw (fC (.int 5))))))) [ii n,some (enc c)]=some (false,[ii n,some (enc c)]):=by
  simp[isT,nS,jD,k1,k2]
 have c1:=rd (caps:=[0]) (fi:=hJ (hU 1)) (f:=gH lT [(gu 0),(gu 1)]) (δ:=[ii n,some (enc c)]) (δ1:=[ii n,some (enc c)]) (l:=c.map .int) (args:=[.int n]) (fun _=>true) rfl rfl rfl (fun d hd=>⟨false,by
  obtain⟨s,hs,rfl⟩:=mw.mp hd;have:=h.2.2 s hs;refine(gW (δ1:=[ii n,ii s]) (os:=[.slot 0,.slot 1]) (args:=[(.int n,false),(.int s,false)]) rfl rfl jg (M6 n (.int s))).trans ?_;rw[sg,nC this.1,nC this.2];rfl⟩) (by simp;lia)
 rw[show(c.map D.int).all (fun _=>true)=true by simp] at c1
 have c2:=zI (caps:=[]) (fi:=hJ (hU 1)) (f:=gP (g1 oN) [(gu 0)]) (δ:=[ii n,some (enc c)]) (δ1:=[ii n,some (enc c)]) (l:=c.map .int) (args:=[]) (fun d=> .int (ab (iOf d))) rfl rfl rfl (fun d hd=>⟨false,by
  obtain⟨s,hs,rfl⟩:=mw.mp hd;rfl⟩) (by simp;lia)
 rw[show(c.map D.int).map (fun d=>D.int (ab (iOf d)))=(c.map ab).map D.int by rw[jX,jX];rfl] at c2
 have r:=Hk ((c.map ab).map .int) (.lst ((c.map ab).map .int)) (.inl rfl) (fun p hp=>by
  have:=yB (R:=fun a b:D=>jE .Lt a b=some (.bl true,false)) (l:=(c.map ab).map .int) (Dc.mpr (h.2.1.imp fun {a b} cW=>by rw[Nd,nC cW])) p hp;exact this) (by simp;lia)
 refine jz (δ:=[ii n,some (enc c)]) ⟨rfl,by decide,rfl⟩ ((gF ((kJ aN).trans rfl)).trans ((gF ((kJ (pk (js c1))).trans rfl)).trans ?_));exact iJ (jx (gW (δ1:=[ii n,some (enc c)]) (args:=[(.lst ((c.map ab).map .int),false)]) (lG (gL c2)) rfl jg r))
theorem Rb{a b:gY}(h:ltT (cD b) (cD a)=false)(o7:a≠b):jE .Lt (cD a) (cD b)=some (.bl true,false):=by
 obtain⟨r,hr⟩: ∃r,lI .Lt (cD a) (cD b)=some r:=J8.mp (wX .Lt a b);have pa: ∀x:List Int,D.pr (cD x)=true:=fun x=>by simp[D.pr,qN]
 have e:=yk (cD a) (cD b) (pa a) (pa b) r hr
 have j0:ltT (cD a) (cD b)=true:=by
  rw[kR,kI] at h;rw[AV]
  cases hc:cT (cD a) (cD b) with
  |lt=>rfl
  |gt=>rw[hc] at h;exact absurd rfl h
  |eq=>
   have:=rh _ _ (pa a) (pa b) hc;exact absurd (by simpa[lB] using pZ unC this) o7
 unfold jE;rw[gG ⟨by rw[zH];lia,by rw[zH];lia⟩,hr,e,j0];rfl
theorem Rl{n:Nat}{ks:iW}(h:xS n ks):pQ [(rD' n ks,false)]=some ((.bl true,false),[some (rD' n ks,false)]):=by
 have hn:=h.1;have hl:=h.2.2.2;have hp:(ks.map cD).Pairwise fun a b=>jE .Lt a b=some (.bl true,false):=Dc.mpr ((List.Pairwise.and h.2.2.1 h.2.1.1).imp fun {a b} cW=>Rb cW.1 cW.2);have r:=Hk (ks.map cD) (.tup (ks.map cD)) (.inr rfl) (yB hp) (by simp;lia)
 have c1:=rd (caps:=[0]) (fi:=hJ (hU 1)) (f:=gH nu [(gu 0),(gu 1)]) (δ:=[ii n,some (.tup (ks.map cD),false)]) (δ1:=[ii n,some (.tup (ks.map cD),false)]) (l:=ks.map cD) (args:=[.int n]) (fun _=>true) rfl rfl rfl (fun d hd=>⟨false,by
  obtain⟨c,hc,rfl⟩:=mw.mp hd;exact gW (δ1:=[ii n,some (enc c)]) (os:=[.slot 0,.slot 1]) (args:=[(.int n,false),enc c]) rfl rfl jg (Rm hn (h.2.1.2 c hc))⟩) (by simp;lia)
 rw[show(ks.map cD).all (fun _=>true)=true by simp] at c1
 have t1:(Aq (lj (fT (ni (zq [.tuple]) (gu 1)))) (fT (gB (jE .Gt) (gw (gP (g1 nP) [(gu 1)])) (gw (fC (.int 30)))))) [ii n,some (.tup (ks.map cD),false)]=some (false,[ii n,some (.tup (ks.map cD),false)]):=
  (Mj (δ1:=[ii n,some (.tup (ks.map cD),false)]) rfl).trans (js (o:=false) (gX (o1:= .val (.int (ks.map cD).length,false)) (o2:= .val (.int 30,false)) rfl rfl rfl rfl (by rw[IA,kX (by simp;lia)])))
 have are:nW [(.int n,false),(.tup (ks.map cD),false)]=some ((.bl true,false),[ii n,some (.tup (ks.map cD),false)]):=
  jz (δ:=[ii n,some (.tup (ks.map cD),false)]) ⟨rfl,by decide,rfl⟩ ((gF ((kJ t1).trans rfl)).trans (iJ (jx ((zD c1).trans (gW (δ1:=[ii n,some (.tup (ks.map cD),false)]) (os:=[.slot 1]) (args:=[(.tup (ks.map cD),false)]) rfl rfl jg r)))))
 let R:Sl:=some (rD' n ks,false)
 let δ:Dn:=[R,ii n,some (.tup (ks.map cD),false)]
 have de:pR [(rD' n ks,false)]=some ((.bl true,false),[R]):=by simp[pR,uC,evF,isT,iA,R]
 have hnb:jP [(.int n,false),(.int 0,false),(.int 5,false)]=some ((.bl true,false),[ii n,ii 0,ii 5]):=by rw[wJ];simp;lia
 refine jz (δ:=δ) ⟨rfl,by decide,rfl⟩ ((gF ((kJ (δ1:=[R,none,none]) (pk (b:=true) (js (o:=false) (gW (δ1:=[R,none,none]) (os:=[.slot 0]) (args:=[(rD' n ks,false)]) rfl rfl jg de)))).trans rfl)).trans ((gF (δ1:=δ) rfl).trans (iJ (jx ((zD (o:=false) (δ1:=δ) ?_).trans ?_)))))
 ·exact gW (δ1:=δ) (os:=[.slot 1,.val (.int 0,false),.val (.int 5,false)]) (args:=[(.int n,false),(.int 0,false),(.int 5,false)]) rfl rfl jg hnb
 ·exact gW (δ1:=δ) (os:=[.slot 1,.slot 2]) (args:=[(.int n,false),(.tup (ks.map cD),false)]) rfl rfl jg are
theorem vB{d:D}(h:d.dep<=50):gEq d d=some (.bl true,false):=by unfold gEq;rw[gG ⟨h,h⟩,D.eqb_refl]
theorem zp{d:D}(h:d.dep<=50):gNe d d=some (.bl false,false):=by unfold gNe;rw[gG ⟨h,h⟩,D.eqb_refl];rfl
theorem CQ(L:iW):(D.lst (L.map cD)).dep<=50:=by have:=yi L;rw[D.dep];lia
theorem RD(n:Nat)(ks:iW):(rD' n ks).dep<=50:=by have:=yi ks;simp only[D.dep,D.depL];lia
theorem RF(l:List D)(v:Nat):PX.xt l (some (v:Int)) none=l.drop v:=by
 unfold PX.xt;rw[HT.OP,HT.M7];by_cases h:v<=l.length
 ·rw[sH h,sJ (by simp)]
 ·rw[Nat.min_eq_right (by lia),uc (ir _),uc (by lia),List.take_nil]
theorem RE(l:List D)(v:Nat):PX.xt l none (some (v:Int))=l.take v:=by
 unfold PX.xt;rw[HT.M7,HT.OP,wa,Nat.sub_zero];by_cases h:v<=l.length
 ·rw[sH h]
 ·rw[Nat.min_eq_right (by lia),sJ (ir _),sJ (by lia)]
theorem wM{n:Nat}{ks:iW}{t:gY}(h:t∈lQ n ks):t.length=n:=(mB (Aa.mp h).1).1
theorem uA{n:Nat}(hn:n<=5)(ks:iW):(lQ n ks).length<=32:=nF (Jv _ _) (zW hn)
theorem IY{n:Nat}{ks:iW}(h:xS n ks){j:Nat}(hj:1<=j/\j<=n){b:Nat}(hb:b<2):jv [(rD' n ks,false),(.int j,false),(.int b,false)]=some ((.bl true,false),[some (rD' n ks,false),ii j,ii b]):=by
 have hn:=h.1;obtain⟨i,rfl⟩: ∃i,j=i+1:=⟨j-1,by lia⟩
 let R:Sl:=some (rD' n ks,false)
 let J:Sl:=ii ((i+1:Nat):Int)
 obtain⟨r,hr,e2⟩:=oF h hj hb
 let M:=(lQ n ks).filter fun a=>a.getD i 0==(b:Int)
 let δ3:Dn:=[R,J,ii b,lv (M.map cD),some (r,false)]
 have c1:=uH (caps:=[2,1]) (fi:=hJ (gH jS [(gu 0)])) (f:=hU 2) (ti:=fT (gB gEq (gw (gB gIx (gu 2) (gw (gB PX.gSub (gu 1) (gw (fC (.int 1))))))) (gu 0))) (δ:=[R,J,ii b,none,none]) (δ1:=[R,J,ii b,none,none]) (l:=(lQ n ks).map cD) (args:=[.int b,.int ((i+1:Nat):Int)]) (fun d=>d) (fun d=>(unC d).getD i 0==(b:Int)) (lS (o:=true) (gW (δ1:=[R,J,ii b,none,none]) (os:=[.slot 0]) (args:=[(rD' n ks,false)]) rfl rfl jg (pU h))) rfl rfl (fun d hd=>by
  obtain⟨t,ht,rfl⟩:=mw.mp hd;have hl:=wM ht;rw[lB];refine⟨js (o:=false) (gX (o1:= .val (.int (t.getD i 0),false)) (o2:= .slot 0) (gL (gX (o1:= .slot 2) (o2:= .val (.int (((i+1:Nat):Int)-1),false)) rfl rfl rfl rfl ?_)) rfl rfl rfl (KS _ _)),fun _=>⟨false,rfl⟩⟩;have hx:ab (((i+1:Nat):Int))=((i+1:Nat):Int):=zY (by lia);have:=Rk t ((i+1:Nat):Int) (by rw[hx];lia);rw[hx] at this;rw[this]
  congr) (by have:=uA hn ks;simp;lia)
 rw[show((List.map cD (lQ n ks)).filter fun d=>(unC d).getD i 0==(b:Int)).map (fun d=>d)=M.map cD by rw[List.map_id',yn];simp only[pW,lB];rfl] at c1;have hM:=L3 h.2.1.2 hn (show i<n by lia) hb;refine jz (δ:=δ3) ⟨rfl,by decide,rfl⟩ ((gF (iC c1 (show 3<5 by decide))).trans ((gF (δ1:=δ3) (iC (i:=4) (δ1:=[R,J,ii b,lv (M.map cD),none]) (gW (δ1:=[R,J,ii b,lv (M.map cD),none]) (os:=[.slot 0,.slot 1,.slot 2]) (args:=[(rD' n ks,false),(.int ((i+1:Nat):Int),false),(.int b,false)]) rfl rfl jg e2) (show 4<5 by decide))).trans ?_));rcases hr with⟨rfl,hnil⟩|⟨bL,rfl,dS,hnn,cO⟩
 ·have hE:M=[]:=by
   rw[show M=_ from hM,List.map_eq_nil_iff,List.filter_eq_nil_iff];intro t _ ha;rw[mC] at ha;have:=ha [] (by rw[show((i:Int)+1)=((i+1:Nat):Int) by lia];exact hnil);simp[kC] at this
  refine iJ ((qK (δ1:=δ3) rfl).trans (iJ (jx (gX (δ2:=δ3) (o1:= .slot 3) (o2:= .val (.lst [],true)) (x:= .lst (M.map cD)) rfl (gL (by simp[iQ])) rfl rfl ?_))));rw[hE];exact vB (by simp[D.dep,D.depL])
 ·have c2:=zI (caps:=[2,1]) (fi:=hJ (gH jS [(gu 4)])) (f:=gB ju (gw (gB ju (gw (qg (gu 2) (gw (gB PX.gSub (gu 1) (gw (fC (.int 1))))))) (gw (jN [(hU 0)])))) (gw (tE (gu 2) (gw (gB PX.gSub (gu 1) (gw (fC (.int 1)))))))) (δ:=δ3) (δ1:=δ3) (l:=(lQ (n-1) bL).map cD) (args:=[.int b,.int ((i+1:Nat):Int)]) (fun d=>cD (ins ((i:Int)+1) b (unC d))) (lS (o:=true) (gW (δ1:=δ3) (os:=[.slot 4]) (args:=[(rD' (n-1) bL,false)]) rfl rfl jg (pU dS))) rfl rfl (fun d hd=>by
   obtain⟨t,ht,rfl⟩:=mw.mp hd;have hl:=wM ht;rw[lB];have hi1:(((i+1:Nat):Int)-1)=(i:Int):=by lia
   have s1:qg (gu 2) (gw (gB PX.gSub (gu 1) (gw (fC (.int 1))))) [ii b,J,some (cD t,false)]=some ((.tup ((t.map D.int).take i),false),[ii b,J,some (cD t,false)]):=by
    rw[<-RE,<-hi1];rfl
   have s2:tE (gu 2) (gw (gB PX.gSub (gu 1) (gw (fC (.int 1))))) [ii b,J,some (cD t,false)]=some ((.tup ((t.map D.int).drop i),false),[ii b,J,some (cD t,false)]):=by
    rw[<-RF,<-hi1];rfl
   have s3:jN [(hU 0)] [ii b,J,some (cD t,false)]=some ((.tup [.int b],false),[ii b,J,some (cD t,false)]):=by simp[iQ,hU]
   have a1:ju (.tup ((t.map D.int).take i)) (.tup [.int b])=some (.tup ((t.map D.int).take i++[.int b]),false):=by
    simp only[ju];rw[gG (Cc (by simp;lia))]
   have a2:ju (.tup ((t.map D.int).take i++[.int b])) (.tup ((t.map D.int).drop i))=some (.tup ((t.map D.int).take i++[.int b]++(t.map D.int).drop i),false):=by
    simp only[ju];rw[gG (Cc (by simp;lia))]
   refine⟨false,(gX (δ2:=[ii b,J,some (cD t,false)]) (gL (gX (gL s1) (gL s3) rfl rfl a1)) (gL s2) rfl rfl a2).trans ?_⟩
   rw[show(cD (ins ((i:Int)+1) b t))= .tup ((t.map D.int).take i++[.int b]++(t.map D.int).drop i) from by
    unfold ins;rw[show((i:Int)+1-1).toNat=i by lia];simp]
   rfl) (by have:=uA dS.1 bL;simp;lia)
  rw[jX] at c2
  have hL:(lQ (n-1) bL).map ((fun d=>cD (ins ((i:Int)+1) b (unC d)))∘cD)=M.map cD:=by
   rw[show M=_ from hM,jX];unfold lQ;rw[vU (q:=fun t=>(rst ((i:Int)+1) b ks).all (kC t)) fun t _=>by rw[H9 cO,show((i+1:Nat):Int)=(i:Int)+1 by lia]];exact pV fun t _=>by simp only[Function.comp,lB]
  rw[hL] at c2;refine(gF ((kJ (δ1:=δ3) rfl).trans rfl)).trans ?_;refine(gF ((kJ (δ1:=δ3) ((Mj (δ1:=δ3) (js (o:=false) (gX (o1:= .val (.bl true,false)) (o2:= .val (.bl true,false)) (gL (gW (δ1:=δ3) (os:=[.slot 4]) (args:=[(rD' (n-1) bL,false)]) rfl rfl jg (Rl dS))) rfl rfl rfl rfl))).trans (js (o:=false) (gX (δ2:=δ3) (o1:= .val (.int ((n-1:Nat):Int),false)) (o2:= .val (.int ((n:Int)-1),false)) rfl rfl rfl rfl ?_)))).trans rfl)).trans ?_
  ·rw[show((n:Int)-1)=((n-1:Nat):Int) by lia];exact zp (by simp[D.dep])
  ·exact iJ (jx (gX (o1:= .slot 3) (x:= .lst (M.map cD)) rfl (gL c2) rfl rfl (vB (CQ _))))
theorem PH{n:Nat}{k l:iW}(h1:xS n k)(h2:xS n l)(h: ∀c,c∈k↔c∈l):k=l:=by
 have hp:k.Perm l:=(List.perm_ext_iff_of_nodup h1.2.1.1 h2.2.1.1).mpr h;refine hp.eq_of_pairwise (le:=fun a b=>ltT (cD b) (cD a)=false) (fun a b _ _ x y=>?_) h1.2.2.1 h2.2.2.1;rw[kR] at x y;have pa: ∀x:List Int,D.pr (cD x)=true:=fun x=>by simp[D.pr,qN]
 have e:cT (cD a) (cD b)= .eq:=by
  rw[kI] at x
  cases hc:cT (cD a) (cD b) with
  |lt=>exact absurd hc y
  |gt=>rw[hc] at x;exact absurd rfl x
  |eq=>rfl
 have:=rh _ _ (pa a) (pa b) e;simpa[lB] using pZ unC this
theorem NR.eq{n:Nat}{k l:iW}{x y:D}(h1:NR n k x)(h2:NR n l y)(h: ∀c,c∈k↔c∈l):gEq x y=some (.bl true,false):=by
 rcases h1 with⟨rfl,a⟩|⟨k',rfl,a1,a2,a3⟩<;>rcases h2 with⟨rfl,b⟩|⟨l',rfl,b1,b2,b3⟩
 ·exact vB (by simp[D.dep])
 ·exact absurd ((h []).mp a) b2
 ·exact absurd ((h []).mpr b) a2
 ·rw[PH a1 b1 fun c=>(a3 c).trans ((h c).trans (b3 c).symm)];exact vB (RD _ _)
theorem Iy{j b:Int}{k l:iW}(h: ∀c,c∈k↔c∈l)(c:gY):c∈rst j b k↔c∈rst j b l:=by
 rw[Aj,Aj];exact⟨fun⟨x,hx,r⟩=>⟨x,(h x).mp hx,r⟩,fun⟨x,hx,r⟩=>⟨x,(h x).mpr hx,r⟩⟩
theorem NR.congr{n:Nat}{k l:iW}{x:D}(h1:NR n k x)(h: ∀c,c∈k↔c∈l):NR n l x:=by
 rcases h1 with⟨rfl,a⟩|⟨k',rfl,a1,a2,a3⟩
 ·exact .inl ⟨rfl,(h []).mp a⟩
 ·exact .inr ⟨k',rfl,a1,fun z=>a2 ((h []).mpr z),fun c=>(a3 c).trans (h c)⟩
theorem KA{n:Nat}{cs:iW}{r:D}(h:NR n cs r){j:Nat}(hj:1<=j/\j<=n){b:Nat}(hb:b<2){i:Nat}{δ:Dn}(hi:δ[i]?=some (some (r,false)))(hf:hU i δ=some ((r,false),δ))(ho:gu i δ=some (.slot i,δ)){fj fb:FO}{oj ob:Opd}(h1:fj δ=some (oj,δ))(h2:fb δ=some (ob,δ))(h3:vP δ oj=some (.int j,false))(h4:vP δ ob=some (.int b,false)):
  ∃r',NR (n-1) (rst j b cs) r'/\fIf (fT (gB gIs (gu i) (gw (fC .non)))) (hU i) (gH kd [(gu i),fj,fb]) δ=some ((r',false),δ):=by
 have aB:res δ (.slot i)=some r:=by simp[res,hi]
 rcases h with⟨rfl,a⟩|⟨k',rfl,a1,a2,a3⟩
 ·refine⟨.non,.inl ⟨rfl,M9 a⟩,?_⟩;have e:fT (gB gIs (gu i) (gw (fC .non))) δ=some (true,δ):=js (o:=false) (gX (o2:= .val (.non,false)) ho rfl aB rfl rfl);rw[OR,e];exact hf
 ·obtain⟨r',dS,e'⟩:=oF a1 hj hb;refine⟨r',dS.congr (Iy a3),?_⟩;have e:fT (gB gIs (gu i) (gw (fC .non))) δ=some (false,δ):=js (o:=false) (gX (o2:= .val (.non,false)) ho rfl aB rfl rfl);rw[OR,e];refine(gW (δ1:=δ) (os:=[.slot i,oj,ob]) (args:=[(rD' n k',false),(.int j,false),(.int b,false)]) (uF ho (nU h1 h2)) ?_ ?_ e').trans ?_
  ·simp[hi,h3,h4]
  ·exact(zj [.slot i,oj,ob] [rD' n k',.int j,.int b])▸jg
  ·rw[show wb [.slot i,oj,ob] [(rD' n k',false),(.int j,false),(.int b,false)] [some (rD' n k',false),ii j,ii b] δ=δ from Kh [.slot i,oj,ob] [rD' n k',.int j,.int b] _ δ]
theorem Kk{n:Nat}{ks:iW}(h:xS n ks){i j:Nat}(hi:1<=i)(l9:i<j)(hj:j<=n){a b:Nat}(ha:a<2)(hb:b<2):nj [(rD' n ks,false),(.int i,false),(.int j,false),(.tup [.int a,.int b],false)]=some ((.bl true,false),[some (rD' n ks,false),ii i,ii j,some (.tup [.int a,.int b],false)]):=by
 let R:Sl:=some (rD' n ks,false)
 let B:Sl:=some (.tup [.int a,.int b],false)
 obtain⟨x,hx,ex⟩:=oF h ⟨hi,by lia⟩ ha;obtain⟨y,hy,ey⟩:=oF h (j:=j) ⟨by lia,hj⟩ hb;obtain⟨x',bY,ex'⟩:=KA hx (j:=j-1) (by lia) hb (i:=4) (δ:=[R,ii i,ii j,B,some (x,false),some (y,false)]) rfl rfl rfl (fj:=gw (gB PX.gSub (gu 2) (gw (fC (.int 1))))) (fb:=gw (gB gIx (gu 3) (gw (fC (.int 1))))) (oj:= .val (.int ((j:Int)-1),false)) (ob:= .val (.int b,false)) rfl rfl (by rw[show((j-1:Nat):Int)=(j:Int)-1 by lia];rfl) rfl;obtain⟨y',aX,ey'⟩:=KA hy (j:=i) (by lia) ha (i:=5) (δ:=[R,ii i,ii j,B,some (x',false),some (y,false)]) rfl rfl rfl (fj:=gu 1) (fb:=gw (gB gIx (gu 3) (gw (fC (.int 0))))) (oj:= .slot 1) (ob:= .val (.int a,false)) rfl rfl rfl rfl;refine jz (δ:=[R,ii i,ii j,B,some (x',false),some (y',false)]) ⟨rfl,by decide,rfl⟩ ?_;refine(gF (δ1:=[R,ii i,ii j,B,some (x,false),none]) (iC (i:=4) (δ1:=[R,ii i,ii j,B,none,none]) (gW (δ1:=[R,ii i,ii j,B,none,none]) (os:=[.slot 0,.slot 1,.val (.int a,false)]) (args:=[(rD' n ks,false),(.int i,false),(.int a,false)]) rfl rfl jg ex) (show 4<6 by decide))).trans ?_;refine(gF (δ1:=[R,ii i,ii j,B,some (x,false),some (y,false)]) (iC (i:=5) (δ1:=[R,ii i,ii j,B,some (x,false),none]) (gW (δ1:=[R,ii i,ii j,B,some (x,false),none]) (os:=[.slot 0,.slot 2,.val (.int b,false)]) (args:=[(rD' n ks,false),(.int j,false),(.int b,false)]) rfl rfl jg ey) (show 5<6 by decide))).trans ?_;refine(gF (iC ex' (show 4<6 by decide))).trans ((gF (iC ey' (show 5<6 by decide))).trans (iJ (jx (gX (o1:= .slot 4) (o2:= .slot 5) (x:=x') (y:=y') rfl rfl rfl rfl (bY.eq aX fun c=>?_)))));rw[show((j-1:Nat):Int)=(j:Int)-1 by lia];exact M8 (by lia) (by lia) h.2.1.2 c
abbrev fbN:FS:=(gE (sIf (lj (fT (gP (g1 xN) [(gw (ie [3,6] 1 (hJ (jN [(fC (.int 0)),(fC (.int 1))])) (gD 2) iz (ig (gH jv [(gu 0),(gu 1),(gu 2)]))))]))) (gE (ji (fC (.bl false))) gS) gS) gS)
abbrev Rr:FS:=(gE (iw 6 (gB ju (gw (fC (.int 1))) (gw (gH gK [(gu 2),(gw (gB PX.gSub (gu 4) (gw (fC (.int 1)))))])))) (gE (iw 7 (gB ju (gw (gB ju (gu 6) (gw (fC (.int 1))))) (gw (gH gK [(gu 2),(gw (gB PX.gSub (gu 4) (gu 6)))])))) (gE (sIf (lj (fT (gH nj [(gu 3),(gu 6),(gu 7),(gw (jN [(gH gK [(gu 2),(gw (fC (.int 2)))]),(gH gK [(gu 2),(gw (fC (.int 2)))])]))]))) (gE (ji (fC (.bl false))) gS) gS) gS)))
abbrev Rt:FS:=(gE (iw 8 (gH kr [(gu 2),(gu 4)])) (gE (iw 9 (jN [(hU 4),(gP (g1 kh) [(gw (gP (g1 jf) [(gw (gP (g1 xM) [(gw (gB ju (gw (gB gIx (gu 3) (gw (fC (.int 1))))) (gw (jN [(hU 8)]))))]))]))])])) (gE (sIf (fT (gB gNe (gw (gH jS [(gu 9)])) (gw (ie [8] 1 (hJ (hU 5)) (gD 1) (fT (gH jw [(gu 1),(gu 0)])) (ig (hU 1)))))) (gE (ji (fC (.bl false))) gS) gS) gS)))
section
variable {n:Nat}{ks:iW}(h:xS n ks)
include h
theorem Rw(c0 c1 c2 c4 c5 c7 c8 c9:Sl){j:Nat}(hj:1<=j/\j<=n):fbN [c0,c1,c2,some (rD' n ks,false),c4,c5,ii j,c7,c8,c9]=some (.nx [c0,c1,c2,some (rD' n ks,false),c4,c5,ii j,c7,c8,c9]):=by
 let δ:Dn:=[c0,c1,c2,some (rD' n ks,false),c4,c5,ii j,c7,c8,c9]
 have c:=rd (caps:=[3,6]) (fi:=hJ (jN [(fC (.int 0)),(fC (.int 1))])) (f:=gH jv [(gu 0),(gu 1),(gu 2)]) (δ:=δ) (δ1:=δ) (l:=GK) (args:=[rD' n ks,.int j]) (fun _=>true) (wW _) rfl rfl (fun d hd=>⟨false,by
  obtain⟨b,hb,rfl⟩: ∃b:Nat,b<2/\d= .int b:=by
   simp only[jC,kc,lA] at hd;rcases hd with rfl|rfl
   ·exact⟨0,by lia,rfl⟩
   ·exact⟨1,by lia,rfl⟩
  exact gW (δ1:=[some (rD' n ks,false),ii j,ii b]) (os:=[.slot 0,.slot 1,.slot 2]) (args:=[(rD' n ks,false),(.int j,false),(.int b,false)]) rfl rfl jg (IY h hj hb)⟩) (by simp)
 exact(gF ((kJ (pk (b:=true) (js c))).trans rfl)).trans rfl
theorem Oi(eQ:1<n)(a:Int)(b:Bool)(c0 c1 c5 c6 c7 c8 c9:Sl): ∃a' d6 d7,Rr [c0,c1,stt a b,some (rD' n ks,false),ii n,c5,c6,c7,c8,c9]=some (.nx [c0,c1,stt a' b,some (rD' n ks,false),ii n,c5,d6,d7,c8,c9]):=by
 have hn:=h.1
 let R:Sl:=some (rD' n ks,false)
 obtain⟨v,a1,v0,v1,e1⟩:=uY a b ((n:Int)-1) (by lia) (by lia);obtain⟨i,hi⟩: ∃i:Nat,1+v=(i:Int):=⟨(1+v).toNat,by lia⟩
 obtain⟨w,a2,w0,w1,e2⟩:=uY a1 b ((n:Int)-i) (by lia) (by lia);obtain⟨j,hj⟩: ∃j:Nat,(i:Int)+1+w=(j:Int):=⟨((i:Int)+1+w).toNat,by lia⟩
 obtain⟨x,a3,x0,x1,e3⟩:=uY a2 b 2 (by lia) (by lia);obtain⟨y,a4,y0,y1,e4⟩:=uY a3 b 2 (by lia) (by lia);obtain⟨p,rfl⟩: ∃p:Nat,x=p:=⟨x.toNat,by lia⟩
 obtain⟨q,rfl⟩: ∃q:Nat,y=q:=⟨y.toNat,by lia⟩
 let B:D:= .tup [.int p,.int q]
 refine⟨a4,ii i,ii j,?_⟩;refine(gF (δ1:=[c0,c1,stt a1 b,R,ii n,c5,ii i,c7,c8,c9]) (iC (i:=6) (r:=(.int i,false)) (δ1:=[c0,c1,stt a1 b,R,ii n,c5,c6,c7,c8,c9]) (gX (o1:= .val (.int 1,false)) (o2:= .val (.int v,false)) (x:= .int 1) (y:= .int v) rfl (gL (e1 _ c0 c1 [R,ii n,c5,c6,c7,c8,c9] (.val (.int ((n:Int)-1),false)) rfl rfl)) rfl rfl (by rw[KU,hi])) (show 6<10 by decide))).trans ?_;refine(gF (δ1:=[c0,c1,stt a2 b,R,ii n,c5,ii i,ii j,c8,c9]) (iC (i:=7) (r:=(.int j,false)) (δ1:=[c0,c1,stt a2 b,R,ii n,c5,ii i,c7,c8,c9]) (gX (o1:= .val (.int ((i:Int)+1),false)) (o2:= .val (.int w,false)) (x:= .int ((i:Int)+1)) (y:= .int w) rfl (gL (e2 _ c0 c1 [R,ii n,c5,ii i,c7,c8,c9] (.val (.int ((n:Int)-i),false)) rfl rfl)) rfl rfl (by rw[KU,hj])) (show 7<10 by decide))).trans ?_
 let δ:Dn:=[c0,c1,stt a4 b,R,ii n,c5,ii i,ii j,c8,c9]
 have t:jN [(gH gK [(gu 2),(gw (fC (.int 2)))]),(gH gK [(gu 2),(gw (fC (.int 2)))])] [c0,c1,stt a2 b,R,ii n,c5,ii i,ii j,c8,c9]=some ((B,false),δ):=by
  rw[FZ,iN,iN,oT,nU (gL (e3 _ c0 c1 [R,ii n,c5,ii i,ii j,c8,c9] (.val (.int 2,false)) rfl rfl)) (gL (e4 _ c0 c1 [R,ii n,c5,ii i,ii j,c8,c9] (.val (.int 2,false)) rfl rfl))];simp[iQ,B,δ]
 refine(gF ((kJ (δ1:=δ) (pk (b:=true) (js (o:=false) ?_))).trans rfl)).trans rfl;exact gW (δ1:=δ) (os:=[.slot 3,.slot 6,.slot 7,.val (B,false)]) (args:=[(rD' n ks,false),(.int i,false),(.int j,false),(B,false)]) (uF rfl (uF rfl (nU rfl (gL t)))) rfl jg (Kk h (by lia) (by lia) (by lia) (by lia) (by lia))
theorem Oj(eQ:0<n)(hl:ks.length<30)(a:Int)(b:Bool)(c0 c1 c6 c7 c8 c9:Sl)(o:Bool): ∃a' d5 d8 d9,Rt [c0,c1,stt a b,some (rD' n ks,false),ii n,some (.lst ((lQ n ks).map cD),o),c6,c7,c8,c9]=some (.nx [c0,c1,stt a' b,some (rD' n ks,false),ii n,d5,c6,c7,d8,d9]):=by
 have hn:=h.1
 let R:Sl:=some (rD' n ks,false)
 let M:D:= .lst ((lQ n ks).map cD)
 obtain⟨a1,c,hc,e1⟩:=A9 a b n eQ hn
 obtain⟨vs,k2,p1,p2,p3,p4,p5,p6⟩:=M0 (n:=n) (cs:=ks++[c]) (fun x hx=>by
  rcases nG.mp hx with hx|hx
  ·exact h.2.1.2 x hx
  ·simp at hx;subst hx;exact hc) (by simp;lia)
 have h2:xS n k2:=⟨hn,p1,p2,by simp at p4;lia⟩
 let δ1:Dn:=[c0,c1,stt a1 b,R,ii n,some (M,o),c6,c7,some (enc c),c9]
 let δ2:Dn:=[c0,c1,stt a1 b,R,ii n,some (M,o),c6,c7,some (enc c),some (rD' n k2,false)]
 let δ3:Dn:=[c0,c1,stt a1 b,R,ii n,some (M,false),c6,c7,some (enc c),some (rD' n k2,false)]
 refine⟨a1,some (M,false),some (enc c),some (rD' n k2,false),?_⟩;refine(gF (δ1:=δ1) (iC (i:=8) (δ1:=[c0,c1,stt a1 b,R,ii n,some (M,o),c6,c7,c8,c9]) (gW (δ1:=[c0,c1,stt a b,R,ii n,some (M,o),c6,c7,c8,c9]) (os:=[.slot 2,.slot 4]) (args:=[(.lst [.int a,.bl b],true),(.int n,false)]) rfl rfl (show([2]:List Nat).Nodup by decide) e1) (show 8<10 by decide))).trans ?_;have t1:jN [(hU 8)] δ1=some ((.tup [cD c],false),δ1):=by simp[iQ,hU,δ1]
 have ga:ju (.tup (ks.map cD)) (.tup [cD c])=some (.tup ((ks++[c]).map cD),false):=by
  simp only[ju];rw[gG (Cc (by simp;lia)),sG];rfl
 have e2:gP (g1 kh) [(gw (gP (g1 jf) [(gw (gP (g1 xM) [(gw (gB ju (gw (gB gIx (gu 3) (gw (fC (.int 1))))) (gw (jN [(hU 8)]))))]))]))] δ1=some ((.tup (k2.map cD),false),δ1):=
  iH (lG (gL (iH (lG (gL (iH (lG (gL (gX (o1:= .val (.tup (ks.map cD),false)) rfl (gL t1) rfl rfl ga))) rfl p5))) rfl p6))) rfl rfl
 refine(gF (δ1:=δ2) (iC (i:=9) (r:=(rD' n k2,false)) (δ1:=δ1) ?_ (show 9<10 by decide))).trans ?_
 ·rw[FZ,iN,iN,oT,nU (gL (r:=(.int n,false)) (δ1:=δ1) rfl) (gL e2)];simp[iQ]
 have cc:=uH (caps:=[8]) (fi:=hJ (hU 5)) (f:=hU 1) (ti:=fT (gH jw [(gu 1),(gu 0)])) (δ:=δ2) (δ1:=δ3) (l:=(lQ n ks).map cD) (args:=[cD c]) (fun d=>d) (fun d=>kC (unC d) c) (lS (o:=false) rfl) rfl rfl (fun d hd=>by
  obtain⟨t,ht,rfl⟩:=mw.mp hd;rw[lB];exact⟨js (o:=false) (gW (os:=[.slot 1,.slot 0]) (args:=[enc t,enc c]) rfl rfl jg (Oc hn (wM ht) hc)),fun _=>⟨false,rfl⟩⟩) (by have:=uA hn ks;simp;lia)
 rw[wU] at cc
 have hk:(lQ n ks).filter (fun t=>kC (unC (cD t)) c)=lQ n k2:=by
  unfold lQ;rw[EL];refine vU fun t _=>?_;rw[H9 p3,List.all_append,lB];simp[Bool.and_comm]
 rw[hk] at cc;refine(gF ((kJ (δ1:=δ3) (js (o:=false) (gX (gL (gW (δ1:=δ2) (os:=[.slot 9]) (args:=[(rD' n k2,false)]) rfl rfl jg (pU h2))) (gL cc) rfl rfl (zp (CQ _))))).trans rfl)).trans rfl
end
abbrev Pg:FS:=(gE (iw 2 (gH kU [(gu 0),(gu 1)])) (gE (iw 3 (gH mf [(gu 2),(gw (fC (.int 0))),(gw (fC (.int 5)))])) (gE (iw 4 (gB gIx (gu 3) (gw (fC (.int 0))))) (gE (iw 5 (gH jS [(gu 3)])) (gE (sIf (fT (gB gNe (gu 5) (gw (ie [3] 1 (hJ (gH jI [(gu 4)])) (gD 1) (fT (gH nV [(gu 0),(gu 1)])) (ig (hU 1)))))) (gE (ji (fC (.bl false))) gS) gS) (gE (pI (CI (gw (fC (.int 1))) (gw (gB ju (gu 4) (gw (fC (.int 1)))))) (gD 6) fbN) (gE (sIf (fT (gB (jE .Gt) (gu 4) (gw (fC (.int 1))))) Rr gS) (gE (sIf (tH (fT (gB (jE .Gt) (gu 4) (gw (fC (.int 0))))) (fT (gB (jE .Lt) (gw (gP (g1 nP) [(gw (gB gIx (gu 3) (gw (fC (.int 1)))))])) (gw (fC (.int 30)))))) Rt gS) gS))))))))
theorem HM(h:f δ=some (true,δ1)):tH f g δ=g δ1:=by unfold tH;rw[h];rfl
theorem Oq(h:f δ=some (false,δ1)):tH f g δ=some (false,δ1):=by unfold tH;rw[h];rfl
theorem Mi(ns:gY)(k:Nat)(c2 c3 c4 c5 c6 c7 c8 c9:Sl): ∃d2 d3 d4 d5 d6 d7 d8 d9,Pg [some (.lst (ns.map .int),false),ii k,c2,c3,c4,c5,c6,c7,c8,c9]=some (.nx [some (.lst (ns.map .int),false),ii k,d2,d3,d4,d5,d6,d7,d8,d9]):=by
 let z0:Sl:=some (.lst (ns.map .int),false)
 let z1:Sl:=ii k
 obtain⟨a,b,e0⟩:=Kv ns k;obtain⟨a1,n,ks,hr,_,_,e1⟩:=Iz a b 0 5 (by lia) (by lia);have hn:=hr.1
 let R:Sl:=some (rD' n ks,false)
 let M:D:= .lst ((lQ n ks).map cD)
 obtain⟨o2,e4⟩:=xH hn
 let δ5:Dn:=[z0,z1,stt a1 b,R,ii n,some (M,true),c6,c7,c8,c9]
 have c:=uH (caps:=[3]) (fi:=hJ (gH jI [(gu 4)])) (f:=hU 1) (ti:=fT (gH nV [(gu 0),(gu 1)])) (δ:=δ5) (δ1:=δ5) (l:=(ky n).map cD) (args:=[rD' n ks]) (fun d=>d) (kB n ks) (lS (gW (δ1:=δ5) (os:=[.slot 4]) (args:=[(.int n,false)]) rfl rfl jg e4)) rfl rfl (fun d hd=>by
  obtain⟨t,ht,rfl⟩:=mw.mp hd;have:=(mB ht).1;exact⟨js (gW (os:=[.slot 0,.slot 1]) (args:=[(rD' n ks,false),(cD t,false)]) rfl rfl jg (D9 hr _ (OW (by lia)))),fun _=>⟨false,rfl⟩⟩) (by have:=zW hn;simp;lia)
 rw[wU,vU fun t ht=>L6 ht] at c
 obtain⟨_,⟨d6,_,rfl⟩,e6⟩:=rS (tg:=gD 6) (fb:=fbN) (fun ds δ=> ∃d6,(∀d∈ds,∃j:Nat,d= .int j/\1<=j/\j<=n)/\δ=[z0,z1,stt a1 b,R,ii n,some (M,true),d6,c7,c8,c9]) (fun d ds δ ⟨d6,h1,h⟩=>by
  subst h;obtain⟨j,rfl,hj⟩:=h1 d iX
  exact⟨_,_,rfl,Rw hr _ _ _ _ _ _ _ _ hj,_,fun x hx=>h1 x (je _ hx),rfl⟩) (ik 1 ((n:Int)+1-1).toNat) δ5 ⟨c6,fun d hd=>by
   obtain⟨j,hj,rfl⟩:=mw.mp hd;rw[uK] at hj;exact⟨j+1,by simp[Int.add_comm],by lia,by lia⟩,rfl⟩
 let δ6:Dn:=[z0,z1,stt a1 b,R,ii n,some (M,true),d6,c7,c8,c9]
 obtain⟨a7,dB,d7,e7⟩: ∃a7 dB d7,sIf (fT (gB (jE .Gt) (gu 4) (gw (fC (.int 1))))) Rr gS δ6=some (.nx [z0,z1,stt a7 b,R,ii n,some (M,true),dB,d7,c8,c9]):=by
  have t:fT (gB (jE .Gt) (gu 4) (gw (fC (.int 1)))) δ6=some (decide ((n:Int)>1),δ6):=js (gX (o1:= .slot 4) (o2:= .val (.int 1,false)) rfl rfl rfl rfl (IA _ _));by_cases h1:(n:Int)>1
  ·obtain⟨a7,x,y,e⟩:=Oi hr (by lia) a1 b z0 z1 (some (M,true)) d6 c7 c8 c9;rw[nC h1] at t;exact⟨a7,x,y,(qK t).trans e⟩
  ·rw[kX h1] at t;exact⟨a1,d6,c7,(kJ t).trans rfl⟩
 let δ7:Dn:=[z0,z1,stt a7 b,R,ii n,some (M,true),dB,d7,c8,c9]
 obtain⟨a8,d5,d8,d9,e8⟩: ∃a8 d5 d8 d9,sIf (tH (fT (gB (jE .Gt) (gu 4) (gw (fC (.int 0))))) (fT (gB (jE .Lt) (gw (gP (g1 nP) [(gw (gB gIx (gu 3) (gw (fC (.int 1)))))])) (gw (fC (.int 30)))))) Rt gS δ7=some (.nx [z0,z1,stt a8 b,R,ii n,d5,dB,d7,d8,d9]):=by
  have t:fT (gB (jE .Gt) (gu 4) (gw (fC (.int 0)))) δ7=some (decide ((n:Int)>0),δ7):=js (gX (o1:= .slot 4) (o2:= .val (.int 0,false)) rfl rfl rfl rfl (IA _ _));have t2:fT (gB (jE .Lt) (gw (gP (g1 nP) [(gw (gB gIx (gu 3) (gw (fC (.int 1)))))])) (gw (fC (.int 30)))) δ7=some (decide (((ks.map cD).length:Int)<30),δ7):=js (gX (o1:= .val (.int (ks.map cD).length,false)) (o2:= .val (.int 30,false)) rfl rfl rfl rfl (Nd _ _));by_cases h1:(n:Int)>0
  ·rw[nC h1] at t;by_cases h2:((ks.map cD).length:Int)<30
   ·rw[nC h2] at t2;obtain⟨a8,x,y,z,e⟩:=Oj hr (by lia) (by simp at h2;lia) a7 b z0 z1 dB d7 c8 c9 true;exact⟨a8,x,y,z,(qK ((HM t).trans t2)).trans e⟩
   ·rw[kX h2] at t2;exact⟨a7,_,c8,c9,(kJ ((HM t).trans t2)).trans rfl⟩
  ·rw[kX h1] at t;exact⟨a7,_,c8,c9,(kJ (Oq t)).trans rfl⟩
 refine⟨stt a8 b,R,ii n,d5,dB,d7,d8,d9,?_⟩;refine(gF (δ1:=[z0,z1,stt a b,c3,c4,c5,c6,c7,c8,c9]) (iC (i:=2) (δ1:=[z0,z1,c2,c3,c4,c5,c6,c7,c8,c9]) (gW (os:=[.slot 0,.slot 1]) (args:=[(.lst (ns.map .int),false),(.int k,false)]) rfl rfl jg e0) (show 2<10 by decide))).trans ?_;refine(gF (δ1:=[z0,z1,stt a1 b,R,c4,c5,c6,c7,c8,c9]) (iC (i:=3) (δ1:=[z0,z1,stt a1 b,c3,c4,c5,c6,c7,c8,c9]) (gW (δ1:=[z0,z1,stt a b,c3,c4,c5,c6,c7,c8,c9]) (os:=[.slot 2,.val (.int 0,false),.val (.int 5,false)]) (args:=[(.lst [.int a,.bl b],true),(.int 0,false),(.int 5,false)]) rfl rfl (show([2]:List Nat).Nodup by decide) e1) (show 3<10 by decide))).trans ?_;refine(gF (δ1:=[z0,z1,stt a1 b,R,ii n,c5,c6,c7,c8,c9]) rfl).trans ?_;refine(gF (δ1:=δ5) (iC (i:=5) (δ1:=[z0,z1,stt a1 b,R,ii n,c5,c6,c7,c8,c9]) (gW (os:=[.slot 3]) (args:=[(rD' n ks,false)]) rfl rfl jg (pU hr)) (show 5<10 by decide))).trans ?_;refine(gF ((kJ (δ1:=δ5) (js (o:=false) (gX (o1:= .slot 5) (x:=M) rfl (gL c) rfl rfl (zp (CQ _))))).trans rfl)).trans ?_;refine(gF ((nc (HG (o1:= .val (.int 1,false)) (o2:= .val (.int ((n:Int)+1),false)) rfl rfl rfl rfl (by lia) (by lia))).trans e6)).trans ?_;exact(gF e7).trans ((gF e8).trans rfl)
theorem RS(ns:gY)(hl:ns.length<=63): ∃o outs,tJ [(.lst (ns.map .int),false)]=some ((.bl true,o),outs):=by
 let z0:Sl:=some (.lst (ns.map .int),false)
 let N:Nat:=if 1<min ns.length 6 then min ns.length 6 else 1
 obtain⟨_,⟨d1,d2,d3,d4,d5,d6,d7,d8,d9,_,rfl⟩,e⟩:=rS (tg:=gD 1) (fb:=Pg) (fun ds δ=> ∃d1 d2 d3 d4 d5 d6 d7 d8 d9,(∀d∈ds,∃k:Nat,d= .int k)/\δ=[z0,d1,d2,d3,d4,d5,d6,d7,d8,d9]) (fun d ds δ ⟨d1,d2,d3,d4,d5,d6,d7,d8,d9,h1,h⟩=>by
  subst h;obtain⟨k,rfl⟩:=h1 d iX;obtain⟨g2,g3,g4,g5,g6,g7,g8,g9,e⟩:=Mi ns k d2 d3 d4 d5 d6 d7 d8 d9
  exact⟨_,_,rfl,e,_,_,_,_,_,_,_,_,_,fun x hx=>h1 x (je _ hx),rfl⟩) (ik 0 N) [z0,none,none,none,none,none,none,none,none,none] ⟨none,none,none,none,none,none,none,none,none,fun d hd=>by
   obtain⟨k,_,rfl⟩:=mw.mp hd;exact⟨k,by simp⟩,rfl⟩
 refine⟨false,_,jz (δ:=[z0,d1,d2,d3,d4,d5,d6,d7,d8,d9]) ⟨rfl,by decide,rfl⟩ ?_⟩;refine(gF ((nc (ds:=ik 0 N) (δ1:=[z0,none,none,none,none,none,none,none,none,none]) ?_).trans e)).trans (iJ rfl);refine rP (o:= .val (.int N,false)) (gL ?_) rfl (by simp only[N];split<;>lia)
 have hN:(N:Int)=if(if(6:Int)<ns.length then 6 else(ns.length:Int))>1 then(if(6:Int)<ns.length then 6 else(ns.length:Int)) else 1:=by
  simp only[N];split<;>split<;>split<;>lia
 rw[hN];simp[z0]
end PV
theorem K14.main(ns:gY)(hl:ns.length<=63): ∃o outs,PV.tJ [(.lst (ns.map .int),false)]=some ((.bl true,o),outs):=PV.RS ns hl
namespace PySem.W.Fast
def tw6440859674597504571:=()
def tw4209041775410295253:=()
def tw324243110836118422:=()
def tw2218046885755917665:=()
def tw7488517082229812648:=()
def tw5496255144093551833:=()
def tw4676811701776535505:=()
def tw9190062629851009894:=()
def tw6255971548930574445:=()
def tw17767501739564343363:=()
def tw3855444572236873488:=()
def tw10260744405154110118:=()
def tw12324085155203601030:=()
def tw986407398617209015:=()
def tw11559805007757712001:=()
def tw8554595872919537076:=()
def tw751018824719029220:=()
def tw17873671184786866045:=()
def tw4887941014569964256:=()
def tw9080191012681848277:=()
def tw13776967908946342208:=()
def tw1141816945256663745:=()
def tw17151377434486744657:=()
def tw18293421863010563622:=()
def tw238620369379542275:=()
def tw11239341520543869135:=()
def tw16731414951430853560:=()
def tw10016074593026675627:=()
def tw8336482722703575026:=()
def tw4664084500942528189:=()
def tw9714731540870449315:=()
def tw17927594692374239060:=()
def tw18152190457054107227:=()
def tw537055435943037254:=()
def tw12124549149909637025:=()
def tw2416720716248846655:=()
def tw4407719599321655942:=()
def tw15725623012636767919:=()
def tw7798726520113597519:=()
def tw11498888801995526741:=()
def tw6843036200770275770:=()
def tw2263071044912542789:=()
def tw8624155712788775530:=()
def tw5907804043016905202:=()
def tw12751858313360874957:=()
def tw15395129547189782941:=()
def tw13172094664978843848:=()
def tw18321126900827796177:=()
def tw18216928129264892508:=()
def tw296541458329749906:=()
def tw12536397253921583022:=()
def tw2163501779421392338:=()
def tw1875177705040563175:=()
def tw4578283901458170571:=()
def tw14775664559613144398:=()
def tw6701300860569462931:=()
def tw17649639817888865250:=()
def tw2822140336988968618:=()
def tw10626802603758158904:=()
def tw173991869271297886:=()
def tw894020823564367316:=()
def tw6849477434410625789:=()
def tw3005386299044507575:=()
def tw6702466485935818380:=()
def tw18299084399795662663:=()
def tw6894190272216977765:=()
def tw15711072726309162825:=()
def tw3437712481700605768:=()
def tw251309062607657848:=()
def tw3197103982280343215:=()
def tw3544151868409023582:=()
def tw14762828073696980658:=()
def tw10353235750994433533:=()
def tw7474938402988037072:=()
def tw4811332037159614592:=()
def tw17177711933016066309:=()
def tw16403186291163483304:=()
def tw1800205113397667256:=()
def tw6749024252555514123:=()
def tw10304089963967968504:=()
def tw10756671405122212924:=()
def tw18251185843752364358:=()
def tw10530172781988258503:=()
end PySem.W.Fast
open PySem PySem.W PyProof.Rows PX
set_option maxRecDepth 100000 in
set_option maxHeartbeats 0 in
theorem PySem.Challenge.cw_twinriddles_k14_whole_answers_holds : PySem.Challenge.rw_twinriddles_k14_whole_answers.Holds := by
  w_on; o_law; k_head; (case hw => w_witness2)
  k_fill
  refine walkG (l := PySem.Challenge.rw_twinriddles_k14_whole_answers) (LV := 9) (x := "_law_script") ⟨rfl, by decide, by decide⟩ rfl rfl (fun w h Y => PySem.W.kIn_of Y) ?F K14.main
  case F =>
   intro w mg fa h KX G hmg
   refine' K14.all_mk hmg (txK KX G ?_ ?_ ?_ ?_ ?_ ?_ ?_ ?_ ?_ ?_ ?_ ?_ ?_ ?_ ?_ ?_) ?_ ?_ ?_ ?_ ?_ ?_ ?_ ?_ ?_ ?_ ?_ ?_ ?_ ?_ ?_ ?_ ?_ ?_ ?_ ?_ ?_ ?_ ?_ ?_ ?_ ?_ ?_ ?_ ?_ ?_ ?_ ?_ ?_ ?_ ?_ ?_ ?_
   all_goals first|k_is|(refine' fz KX G ?_ ?_ ?_ ?_<;>try k_is)|(refine' mgI KX G ?_<;>try k_is)
