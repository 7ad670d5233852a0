import PyProof.Rows.All
import Wide.All
import OpenK.AllK
import Wide.FinOn
import PyProof.EqAt
import PyProof.EqKinds
import PyProof.TupleCall
import Lean
import PySem.Challenge.RW_twinriddles_k24_whole_turnings
set_option Elab.async false
set_option linter.all false
set_option maxRecDepth 100000
set_option maxHeartbeats 8000000
noncomputable section
section
open PySem PySem.Spec PyProof.Rows
abbrev gH:=Value->Shared->Prop
abbrev gE:=List (Addr×Obj)
abbrev gq:=PySem.W.Frag
abbrev iJ:=List (List Int)
abbrev gc:=List Int
abbrev hV:=List Value
abbrev kM:=Str->Option Value
abbrev hU:=List Nat
abbrev kL:=Nat->Nat->Bool
abbrev jD:=Array Nat
abbrev jz:=Array Value
abbrev gZ:=List Str
abbrev iL:=List Expr
abbrev Ci:=Option Value->Shared->Prop
abbrev vF:=Value->Value->Sem Value
abbrev vE:=Array (Option Value)
abbrev jS:=List (Str×Addr)
abbrev mH:=List Comprehension
abbrev mG:=Array Keyed
abbrev mF:=Nat->Keyed
abbrev zC:=Option Nat->SortSt->Prop
abbrev iu:=Nat->Prop
abbrev iN:=List Addr
abbrev fW:=Shared
abbrev gA:=Program
abbrev gw:=Around
abbrev gu:=World
abbrev ik:=SortSt
abbrev gg:=Value
abbrev lY:=Comprehension
abbrev mZ:=FuncData
abbrev iK:=Scope
abbrev gf:=Expr
abbrev gD:=Heap
abbrev fR:=Addr
end
section
open PySem PySem.Spec PyProof.Rows PySem.SeqAt
def fS:=@wpAny_bind
theorem gd:type_of% @if_pos:=@if_pos
theorem gk:type_of% @if_neg:=@if_neg
def gr:=@wpAny_pure
theorem gY:type_of% @Nat.le_refl:=@Nat.le_refl
def iw:=@Heap.lt_size
theorem iD:type_of% @Option.bind_some:=@Option.bind_some
def iF:=@Heap.get?_push_of_some
theorem iE:type_of% @if_false:=@if_false
theorem iH:type_of% @List.size_toArray:=@List.size_toArray
theorem gM:type_of% @if_true:=@if_true
theorem hC:type_of% @Bool.false_eq_true:=@Bool.false_eq_true
def hX:=@List.getElem?_eq_getElem
def iq:=@Option.some.inj
def ip:=@Nat.ne_of_lt
theorem il:type_of% @List.map_cons:=@List.map_cons
theorem jQ:type_of% @List.mem_cons:=@List.mem_cons
theorem lS:type_of% @List.mem_map:=@List.mem_map
theorem iC:type_of% @List.map_map:=@List.map_map
theorem iG:type_of% @List.length_map:=@List.length_map
def iM:=@Bool.false_ne_true
def iO:=@List.mem_cons_self
def iT:=@List.mem_cons_of_mem
theorem nU:type_of% @List.mem_append:=@List.mem_append
def jb:=@Heap.get?_push_size
theorem jr:type_of% @List.getElem?_map:=@List.getElem?_map
def lT:=@List.pairwise_append
theorem jA:type_of% @sizeLine_eq:=@sizeLine_eq
theorem jI:type_of% @List.append_assoc:=@List.append_assoc
def jT:=@List.getElem_mem
def wz:=@List.getElem?_eq_some_iff
def kn:=@wpAny_field
theorem km:type_of% @List.length_cons:=@List.length_cons
theorem kj:type_of% @List.not_mem_nil:=@List.not_mem_nil
def pA:=@List.mem_singleton
def kN:=@wpAny_holding
theorem kZ:type_of% @List.all_eq_true:=@List.all_eq_true
def lj:=@List.mem_of_mem_drop
def pz:=@List.pairwise_cons
theorem lh:type_of% @List.getD_eq_getElem?_getD:=@List.getD_eq_getElem?_getD
def lL:=@decide_eq_false
def lK:=@List.take_append_drop
theorem lJ:type_of% @List.nodup_nil:=@List.nodup_nil
theorem mf:type_of% @Array.length_toList:=@Array.length_toList
def md:=@Nat.ne_of_gt
theorem ma:type_of% @List.map_congr_left:=@List.map_congr_left
def lZ:=@PySem.W.mg_none_of
def mY:=@List.pairwise_map
def mP:=@Nat.lt_of_lt_of_le
def mO:=@Nat.le_trans
def mN:=@wpAny_mono
def mM:=@List.take_sublist
theorem mK:type_of% @Bool.and_eq_true:=@Bool.and_eq_true
def mJ:=@Nat.zero_le
def mI:=@List.mem_of_mem_take
theorem ng:type_of% @List.lookup_cons:=@List.lookup_cons
theorem nc:type_of% @or_false:=@or_false
def nY:=@congrArg
def nX:=@List.mem_append_right
def nW:=@wpAny_newObj_type
theorem nV:type_of% @List.drop_drop:=@List.drop_drop
def pv:=@List.getElem?_set_self
theorem pq:type_of% @List.length_append:=@List.length_append
def pk:=@wpAny_call_entry
def pj:=@List.drop_sublist
def pP:=@Nat.lt_irrefl
def pO:=@List.getElem?_set_ne
def pN:=@Heap.size_push
def pM:=@wpAny_setField_rec
def rl:=@Ne.symm
def rk:=@wpAny_callSpecial?_slot
theorem rh:type_of% @List.length_set:=@List.length_set
theorem rf:type_of% @decide_eq_true:=@decide_eq_true
def qZ:=@List.map_id
def IA:=@List.mem_filter
def sP:=@wpAny_truthy_bool
def sO:=@codeAny_mono
def Iz:=@Option.isSome_iff_exists
def sN:=@eq_of_beq
def sM:=@wpAny_rule
def sL:=@List.drop_eq_getElem_cons
def sJ:=@List.Perm.append_left
def sH:=@List.take_of_length_le
def sG:=@List.Perm.of_eq
def sD:=@Nat.min_eq_left
theorem DL:type_of% @List.mem_range:=@List.mem_range
def vR:=@wpAny_standAt
theorem Cf:type_of% @List.nodup_cons:=@List.nodup_cons
theorem vQ:type_of% @List.length_take:=@List.length_take
def vP:=@PySem.mem_of_lookup
theorem vO:type_of% @List.replicate_succ:=@List.replicate_succ
theorem vN:type_of% @List.map_nil:=@List.map_nil
theorem vM:type_of% @Function.comp_def:=@Function.comp_def
def vL:=@Prod.mk.inj
def vK:=@PySem.W.kia_one
def vJ:=@wpAny_seqItems
def vI:=@wpAny_attempt
theorem vH:type_of% @List.nil_append:=@List.nil_append
theorem vG:type_of% @List.map_append:=@List.map_append
def wW:=@wpAny_passesOwn
def rQ:=@Array.getElem?_toList
def rP:=@List.ext_getElem?
def rO:=@Heap.SameBut.update
theorem rN:type_of% @Nat.zero_add:=@Nat.zero_add
def rM:=@List.cons.inj
theorem rL:type_of% @List.take_take:=@List.take_take
def rK:=@listUpdate_at
def uS:=@Paired.length
def uR:=@wpAny_Call_Name_kw
def uQ:=@List.mem_of_getElem?
def yY:=@PyProof.Rows.slot_tuple_getitem
def uP:=@wpAny_typeOf
def uO:=@List.flatten_cons
def uN:=@Nat.le_succ
def uM:=@call_meets
theorem uL:type_of% @bne_self_eq_false:=@bne_self_eq_false
def uK:=@Nat.lt_succ_of_lt
theorem uJ:type_of% @List.find?_cons:=@List.find?_cons
theorem uI:type_of% @List.any_cons:=@List.any_cons
def uH:=@List.drop_eq_nil_of_le
def uG:=@Nat.lt_succ_self
def uF:=@codeAny_builtin
theorem uE:type_of% @Bool.not_true:=@Bool.not_true
def uD:=@List.Perm.refl
def uC:=@List.Perm.append_right
theorem uB:type_of% @List.extract_toArray:=@List.extract_toArray
theorem uA:type_of% @List.extract_eq_take_drop:=@List.extract_eq_take_drop
def uz:=@get?_update_seq
theorem uy:type_of% @decide_true:=@decide_true
def Mo:=@List.length_eq_zero_iff
def xq:=@Nat.le_of_lt
def xp:=@Int.mul_one
def xo:=@wpAny_pyIter_list
def xn:=@List.append_nil
theorem xm:type_of% @Int.toNat_natCast:=@Int.toNat_natCast
def xl:=@Heap.get?_update_self
theorem xk:type_of% @List.forIn_cons:=@List.forIn_cons
def xj:=@wpAny_of_eq
def xi:=@tupleKind_room_in1
theorem xh:type_of% @decide_eq_true_eq:=@decide_eq_true_eq
def xg:=@Around.under_plainId
def xf:=@wpAny_letGo
def xc:=@wpAny_onRaise
def N6:=@Array.perm_iff_toList_perm
def xb:=@List.getElem_of_mem
def xa:=@List.drop_zero
def wZ:=@seqEpoch_at
def zD:=@PySem.F.slot_dict_keyiterator_next
def wY:=@List.ext_getElem
theorem wX:type_of% @List.getElem_map:=@List.getElem_map
def A4:=@boot_range
def A3:=@PyProof.Rows.callWith_type1
def A2:=@PySem.W.cellsFrom_some
def A1:=@concat_meets
def A0:=@IsTup.new
def AZ:=@Heap.get?_update_other
def AY:=@codeAny_of_tree
def AX:=@Nat.lt_trans
def AW:=@List.getElem?_set
def Mm:=@List.getElem?_zip_eq_some
def AV:=@plainId_quiet
theorem AU:type_of% @List.getElem?_eq_none:=@List.getElem?_eq_none
def AS:=@F.slot_tuple_iterator_next
def AR:=@wpAny_setField
def AQ:=@Obj.data_mapFields
def AO:=@wpAny_newTuple
def AN:=@F.slot_enumerate_next
def AM:=@wpAny_isInstance
def AL:=@F.slot_zip_next
def AK:=@List.range'_succ
def AJ:=@Nat.lt_or_ge
def AI:=@List.pairwise_singleton
def AH:=@List.perm_append_comm
def G9:=@List.pairwise_iff_getElem
def AG:=@AutoSeq1.sub_tuple_tuple
def AF:=@wpAny_forIn_list
def AE:=@richCompare_meets_room
def AD:=@wpAny_newList
def AB:=@wpAny_typeNameOfWhole_keyiter
def AA:=@List.mem_map_of_mem
def Az:=@Bool.eq_iff_iff
def Eo:=@List.filterMap_cons
def En:=@List.getElem_inj
def Em:=@wpAny_execs_nil
def El:=@List.of_mem_zip
def Ek:=@List.getElem?_append_right
def Ej:=@List.getElem?_append_left
def Ei:=@noFill_tuple_add
def Eh:=@seq_tuple_add
def Eg:=@PySem.F.slot_tuple_add
def Ef:=@PySem.F.entry_tuple_add
def Ee:=@PySem.F.args_tuple_add_2
def Ed:=@seqIndex_of
def Eb:=@seqIndex_neg
def Ea:=@List.length_dropLast
def D9:=@Nat.lt_asymm
def D8:=@wpAny_comprehension_free
def D7:=@Heap.SameBut.refl
def D6:=@Option.isSome_map
def D5:=@List.getElem?_zipIdx
def D4:=@PySem.F.plainAttrs_list
def Mn:=@F.called_tuple
def D3:=@isSubtype_stop
def D2:=@wpAny_updateSeq_pair
def D1:=@StateT.run_pure
def Iw:=@List.perm_middle
def D0:=@List.take_succ
def DZ:=@List.singleton_append
def DY:=@List.drop_left
def DX:=@Array.getElem?_eq_getElem
def DW:=@Array.size_map
def DV:=@listItems_at
def DU:=@Array.Perm.refl
def Iv:=@List.pairwise_lt_range
def DT:=@Bool.or_eq_true
def DS:=@Heap.get?_update_ne
def DR:=@wpAny_collect_seq
def DQ:=@wpAny_dictEntries
def DP:=@wpAny_dictEpoch
def DO:=@List.length_eraseIdx
def DN:=@List.dropLast_concat_getLast
def Jr:=@List.mem_append_left
def Jq:=@wpAny_loadName_local
def Jp:=@wpAny_loadName_cell
def Jo:=@Calls.Name_function_global
def Jn:=@Int.fdiv_eq_ediv_of_nonneg
def Jm:=@entry_tuple_getitem
def Jl:=@subscriptTail_builtinR
def Jk:=@Calls.callWith_builtin
def Jj:=@F.entry_list_append
def Ji:=@F.args_list_append_2
def Jh:=@List.length_singleton
def Jg:=@List.eraseIdxIfInBounds_toArray
def Jf:=@PySem.F.slot_list_pop
def Je:=@PySem.F.type_list_pop
def Jd:=@F.entry_object_init
def Jc:=@F.entry_tuple_iterator_next
def Jb:=@F.args_tuple_iterator_next_1
def Ja:=@Obj.isFreed_of_fields
def I9:=@F.entry_enumerate_next
def IZ:=@F.args_enumerate_next_1
def IY:=@codeAny_call_builtin
def IW:=@PySem.W.kas_swaps_map
def IV:=@List.take_set_of_le
def IU:=@List.drop_set_of_lt
def IT:=@List.take_succ_cons
def IS:=@List.eraseIdx_eq_take_drop_succ
def IQ:=@PySem.F.slot_dict_iter
def IM:=@PySem.F.entry_dict_keyiterator_next
def IL:=@PySem.F.args_dict_keyiterator_next_1
def IK:=@wpAny_isOneOf_keyiter
def IJ:=@PySem.F.plain_list_iadd
def RI:=@Array.toList_eq_nil_iff
def II:=@Array.toArray_toList
def IH:=@List.dropLast_eq_take
def RH:=@Array.getElem?_eq_none_iff
def RG:=@List.getElem?_eq_none_iff
def IG:=@List.perm_cons_erase
def IF:=@List.mem_erase_of_ne
def IE:=@Nat.pow_le_pow_right
def RF:=@List.length_pos_iff
def ID:=@List.length_filter_le
def IC:=@List.perm_ext_iff_of_nodup
def IB:=@List.dropLast_subset
end
namespace TT
open PySem
noncomputable def adv(mask:Nat)(p:SetTable.Probe):SetTable.Probe:=
 if p.more>0 then {p with j:=p.j+1,more:=p.more-1} else
 {p with j:=(SetTable.leap mask p.i p.perturb).1,more:=SetTable.runEnd mask (SetTable.leap mask p.i p.perturb).1-(SetTable.leap mask p.i p.perturb).1,i:=(SetTable.leap mask p.i p.perturb).1,perturb:=(SetTable.leap mask p.i p.perturb).2}
noncomputable def stt(mask:Nat)(h:Int):SetTable.Probe:={j:=SetTable.bits h%(mask+1),more:=SetTable.runEnd mask (SetTable.bits h%(mask+1))-SetTable.bits h%(mask+1),i:=SetTable.bits h%(mask+1),perturb:=SetTable.bits h,dummy:=none}
noncomputable def pr(mask:Nat)(h:Int):Nat->SetTable.Probe
 |0=>stt mask h
 |n+1=>adv mask (pr mask h n)
structure TabOk(hs:gc)(t:SetTable):Prop where
 pow: ∃k,3<=k/\k<=11/\t.mask+1=2^k
 dum:t.dummies= #[]
 len:t.place.size=hs.length
 room:5*hs.length<3*t.mask
 ris:t.place.toList.Pairwise (· < ·)
 bd: ∀j∈t.place.toList,j<=t.mask
 road: ∀(i:Nat) (h:Int) (j:Nat),hs[i]?=some h->t.place[i]?=some j-> ∃n,(pr t.mask h n).j=j/\ ∀m,m<n->(pr t.mask h m).j∈t.place.toList
end TT
namespace L2
open PySem PySem.Spec PyProof.Rows
abbrev Key:=Sum Int Str
noncomputable def yq:Key->Value->Bool
 | .inl k,v=>Value.isInt k v
 | .inr x,v=>Value.isStrOf x v
noncomputable def UM(w:gu):Key->Int
 | .inl k=>hashInt k
 | .inr x=>hashStr w x
theorem iU: ∀{k:Key} {v:gg},yq k v=true->(∃i t,k=Sum.inl i/\v=Value.int i t)\/(∃x t,k=Sum.inr x/\v=Value.str x t)
 | .inl i,v,h=>by
  obtain⟨t,e⟩:=Value.isInt_shape (k:=i) (v:=v) h;exact .inl ⟨i,t,rfl,e⟩
 | .inr x,v,h=>by
  obtain⟨t,e⟩:=Value.isStrOf_shape (x:=x) (v:=v) h;exact .inr ⟨x,t,rfl,e⟩
theorem HL(i:Int)(t:Tok):yq (.inl i) (.int i t)=true:=by simp[yq,Value.isInt]
theorem HK(x:Str)(t:Tok):yq (.inr x) (.str x t)=true:=by simp[yq,Value.isStrOf]
theorem Lp(a b:Int):decide ((Sum.inl a:Key)=Sum.inl b)=(a==b):=by
 by_cases e:a=b
 ·subst e;simp
 ·have h: ¬(Sum.inl a:Key)=Sum.inl b:=fun q=>e (Sum.inl.inj q);rw[lL h];exact(beq_eq_false_iff_ne.mpr e).symm
theorem Lm(a b:Str):decide ((Sum.inr a:Key)=Sum.inr b)=decide (a=b):=by
 by_cases e:a=b
 ·subst e;simp
 ·have h: ¬(Sum.inr a:Key)=Sum.inr b:=fun q=>e (Sum.inr.inj q);rw[lL h,lL e]
theorem Lo(a:Int)(b:Str):decide ((Sum.inl a:Key)=Sum.inr b)=false:=lL (fun q=>nomatch q)
theorem Ln(a:Str)(b:Int):decide ((Sum.inr a:Key)=Sum.inl b)=false:=lL (fun q=>nomatch q)
noncomputable def jt(prog:gA)(w:gu):PySem.KeyKind prog w Key where
 is:=yq
 hash:=UM w
 inj:=fun v a b ha hb=>by
  rcases iU ha with⟨i,t,rfl,rfl⟩|⟨x,t,rfl,rfl⟩
  ·rcases iU hb with⟨j,u,rfl,e⟩|⟨y,u,rfl,e⟩
   ·injection e with e1 _;rw[e1]
   ·exact nomatch e
  ·rcases iU hb with⟨j,u,rfl,e⟩|⟨y,u,rfl,e⟩
   ·exact nomatch e
   ·injection e with e1 _;rw[e1]
 byValue:=fun k v h=>by
  rcases iU h with⟨i,t,rfl,rfl⟩|⟨x,t,rfl,rfl⟩<;>rfl
 pyHash:=fun hv h=>by
  rcases iU hv with⟨i,t,rfl,rfl⟩|⟨x,t,rfl,rfl⟩
  ·exact wpAny_pyHash_int h
  ·exact wpAny_pyHash_str h
 eqBool:=fun hu hv h=>by
  rcases iU hu with⟨i,t,rfl,rfl⟩|⟨x,t,rfl,rfl⟩
  ·rcases iU hv with⟨j,u,rfl,rfl⟩|⟨y,u,rfl,rfl⟩
   ·rw[Lp] at h;exact wpAny_eqBool_int h
   ·rw[Lo] at h;exact SeqAt.EqAt.int_str i t y u _ _ _ _ h
  ·rcases iU hv with⟨j,u,rfl,rfl⟩|⟨y,u,rfl,rfl⟩
   ·rw[Ln] at h;exact SeqAt.EqAt.str_int x t j u _ _ _ _ h
   ·rw[Lm] at h;exact wpAny_eqBool_str h
 «strs»:=fun k x t v h=>by
  rcases iU h with⟨i,u,rfl,e⟩|⟨y,u,rfl,e⟩
  ·exact nomatch e
  ·injection e with e1 _
   subst e1;cases v<;>rfl
theorem C3(prog:gA)(w:gu)(i:Int)(t:Tok):(jt prog w).is (.inl i) (.int i t)=true:=HL i t
theorem C2(prog:gA)(w:gu)(x:Str)(t:Tok):(jt prog w).is (.inr x) (.str x t)=true:=HK x t
inductive V where
 |non|bl(b:Bool)|int(i:Int)|str(x:Str)|byt(b:Array UInt8)|flt(b:UInt64)|ref(a:fR)|ty(n:String)
 deriving DecidableEq
def RelV:V->Value->Prop
 | .non,u=>u=Value.none
 | .bl b,u=>u=Value.bool b
 | .int i,u=> ∃t,u=Value.int i t
 | .str x,u=> ∃t,u=Value.str x t
 | .byt b,u=> ∃t,u=Value.bytes b t
 | .flt b,u=> ∃t,u=Value.float b t
 | .ref a,u=>u=Value.ref a
 | .ty n,u=>u=Value.type n
abbrev Vals:List V->List Value->Prop:=Paired RelV
theorem Vals.length{xs:List V}{us:hV}(r:Vals xs us):xs.length=us.length:=uS r
theorem Vals.get: ∀{xs:List V} {us:hV} {i:Nat} {x:V},Vals xs us->xs[i]?=some x-> ∃u,us[i]?=some u/\RelV x u
 |_,_,_,_,.nil,e=>by simp at e
 |_,_,0,_,.cons r _,e=>by simp at e;subst e;exact⟨_,rfl,r⟩
 |_,_,i+1,x,.cons _ t,e=>by
  obtain⟨u,h1,h2⟩:=Vals.get (i:=i) (x:=x) t (by simpa using e);exact⟨u,by simpa using h1,h2⟩
theorem Vals.set{x:V}{u:gg}(r:RelV x u): ∀{xs:List V} {us:hV} (i:Nat),Vals xs us->Vals (xs.set i x) (us.set i u)
 |_,_,_,.nil=> .nil
 |_,_,0,.cons _ t=> .cons r t
 |_,_,i+1,.cons q t=> .cons q (Vals.set r i t)
theorem Vals.append: ∀{xs ys:List V} {us ws:hV},Vals xs us->Vals ys ws->Vals (xs++ys) (us++ws)
 |_,_,_,_,.nil,s=>s
 |_,_,_,_,.cons r t,s=> .cons r (Vals.append t s)
theorem Vals.take: ∀{xs:List V} {us:hV} (n:Nat),Vals xs us->Vals (xs.take n) (us.take n)
 |_,_,0,_=> .nil
 |_,_,_+1,.nil=> .nil
 |_,_,n+1,.cons r t=> .cons r (Vals.take n t)
theorem Vals.drop: ∀{xs:List V} {us:hV} (n:Nat),Vals xs us->Vals (xs.drop n) (us.drop n)
 |_,_,0,r=>r
 |_,_,_+1,.nil=> .nil
 |_,_,n+1,.cons _ t=>Vals.drop n t
def RelO:Option V->Option Value->Prop
 |some v,some u=>RelV v u
 |none,none=>True
 |_,_=>False
def KV{κ:Type}:List (κ×V)->List (κ×Value)->Prop:=Paired fun(p:κ×V) (q:κ×Value)=>p.1=q.1/\RelV p.2 q.2
noncomputable def kV:Key->V
 | .inl i=> .int i
 | .inr x=> .str x
inductive HO where
 /-- a list -/
 |lst(xs:List V)
 /-- a tuple(never changes) -/
 |tup(xs:List V)
 /-- a dict whose keys are ints and texts;one whose keys are tuples of ints and texts(the empty one is both) -/
 |dK(kvs:List (Key×V))|dT(kvs:List (List Key×V))
 /-- a set of ints:its members,its size -/
 |set (S:Int->Bool) (n:Nat)
 |stt (zs:List (Int×V))
 /-- an instance of the class at C,its dict at dx,its attributes -/
 |ins (C dx:fR) (fs:List (Str×V))
 /-- the dict of the instance at x -/
 |own (x:fR)
 /-- the dict of an exception -/
 |xd (fs:List (Str×V))
 /-- a bound method,f of x -/
 |met (f x:fR)
 /-- a range object lo,lo+1,.. below hi -/
 |rng (lo hi:Int)
 /-- a thing that is known to the object (the script;a dict while a loop walks it):read,never written while it is so -/
 |frz (o:Obj) (u:HO)
 /-- a code object's table -/
 |tbl (ps:jz)
 /-- any other thing,by what is true of its one object (a def of one's own:SetO a S n:=HO.ext fun h=> ..) -/
 |ext (φ:Heap->Prop)
abbrev Hp:=Addr->Option HO
noncomputable def upd(H:Hp)(a:fR)(o:HO):Hp:=fun b=>if b=a then some o else H b
theorem gF{H:Hp}{a:fR}{o:HO}:upd H a o a=some o:=by unfold upd;rw[gd rfl]
theorem gG{H:Hp}{a b:fR}{o:HO}(h:b≠a):upd H a o b=H b:=by unfold upd;rw[gk h]
theorem F0{H:Hp}{a:fR}{o u:HO}:upd (upd H a o) a u=upd H a u:=by
 funext b;unfold upd;split<;>rfl
theorem Oo{H:Hp}{a b:fR}{o u:HO}(h:H a=some o)(h':H b=some u)(d:o≠u):a≠b:=by
 intro e;subst e;rw[h] at h';exact d (iq h')
theorem lr{H:Hp}{a b:fR}{o:HO}(h:H a=some o)(h':H b=none):a≠b:=by
 intro e;subst e;rw[h] at h';cases h'
section
variable(P:gA)(w:gu)
def ObjOk(H:Hp)(h:gD)(a:fR):HO->Prop
 | .lst xs=>xs.length<=sizeLine/\ ∃(its:hV) (n:Nat),Vals xs its/\h.get? a=some {cls:= .type "list",data:= .seq its.toArray n}
 | .tup xs=>xs.length<=sizeLine/\ ∃its:List Value,Vals xs its/\IsTup h a its.toArray
 | .dK kvs=>kvs.length<=sizeLine/\(a==sysModules)=false/\ ∃vs,KV kvs vs/\h.DictOf (jt P w) a vs
 | .dT kvs=>kvs.length<=sizeLine/\(a==sysModules)=false/\ ∃xs:List (List Key×Addr×Value),
   Paired (fun(p:List Key×V) (q:List Key×Addr×Value)=>p.1=q.1/\H q.2.1=some (.tup (p.1.map kV))/\RelV p.2 q.2.2) kvs xs/\
   ∃o es ep,h.get? a=some o/\o.ExactDict/\o.data= .dict es ep/\es.toList=xs.map (entryOfKey (tupleKind (jt P w)))/\(xs.map (·.1)).Nodup
 | .set S n=>h.SetOf (intKind P w) a S n
 | .stt zs=> ∃(es:Array (Int×Value)) (n:Nat) (t:SetTable),h.get? a=some {cls:= .type "set",data:= .set es n t}/\Paired (fun(z:Int×V) (e:Int×Value)=>z.1=e.1/\RelV z.2 e.2) zs es.toList/\
   TT.TabOk (zs.map (·.1)) t/\t.plain=true/\t.led=!w.params.followText "set-order"
 | .ins C dx fs=>H dx=some (.own a)/\fs.length<=1000/\dx≠a/\h.get? a=some (PySem.W.instObj C dx)/\
   ∃mA,h.Ns1 dx mA/\(∀f,RelO (fs.lookup f) (mA f))/\PySem.Within mA (fs.map (·.1))
 | .own _=> ∃o,h.get? a=some o
 | .xd fs=> ∃mA,h.Ns1 a mA/\ ∀f,RelO (fs.lookup f) (mA f)
 | .rng lo hi=> ∃t u v,h.get? a=some {cls:= .type "range",data:= .fields #[.int lo t,.int hi u,.int 1 v]}
 | .frz o u=>h.get? a=some o/\ObjOk H h a u
 | .tbl ps=>h.get? a=some {cls:= .none,data:= .fields ps}
 | .met f x=>h.get? a=some (PySem.W.methodObj (.ref f) (.ref x))
 | .ext φ=>φ h/\(∃o,h.get? a=some o)/\ ∀h1 h2:Heap,φ h1->(∀o,h1.get? a=some o->h2.get? a=some o)->φ h2
def HOk(H:Hp)(h:gD):Prop:= ∀a o,H a=some o->ObjOk P w H h a o
end
section
variable {P:gA}{w:gu}{H H':Hp}{h h':gD}{a:fR}{o:HO}
theorem ObjOk.lt(x:ObjOk P w H h a o):a<h.objs.size:=by
 cases o with
 |lst xs=>obtain⟨_,_,_,_,e⟩:=x;exact iw e
 |tup xs=>obtain⟨_,_,_,p⟩:=x;exact p.lt
 |dK kvs=>obtain⟨_,_,_,_,o,_,_,e,_⟩:=x;exact iw e
 |dT kvs=>obtain⟨_,_,_,_,o,_,_,e,_⟩:=x;exact iw e
 |set S n=>obtain⟨o,_,_,_,e,_⟩:=x;exact iw e
 |stt zs=>obtain⟨_,_,_,e,_⟩:=x;exact iw e
 |ins C dx fs=>obtain⟨_,_,_,e,_⟩:=x;exact iw e
 |own y=>obtain⟨_,e⟩:=x;exact iw e
 |xd fs=>obtain⟨_,⟨_,_,_,e,_⟩,_⟩:=x;exact iw e
 |rng lo hi=>obtain⟨_,_,_,e⟩:=x;exact iw e
 |frz ob u=>obtain⟨e,_⟩:=x;exact iw e
 |tbl ps=>exact iw (show h.get? a=some _ from x)
 |met f y=>exact iw (show h.get? a=some _ from x)
 |ext φ=>obtain⟨_,⟨_,e⟩,_⟩:=x;exact iw e
theorem Paired.mapP{α β:Type}{F G:α->β->Prop}: ∀{l₁:List α} {l₂:List β},Paired F l₁ l₂->(∀a b,F a b->G a b)->Paired G l₁ l₂
 |_,_,.nil,_=> .nil
 |_,_,.cons r t,f=> .cons (f _ _ r) (Paired.mapP t f)
theorem ObjOk.stay(x:ObjOk P w H h a o)(k: ∀b u,(b=a\/H b=some (.own a))->h.get? b=some u->h'.get? b=some u)
  (ho: ∀b,H b=some (.own a)->H' b=some (.own a))(ht: ∀b xs,H b=some (.tup xs)->H' b=some (.tup xs)):ObjOk P w H' h' a o:=by
 induction o with
 |lst xs=>obtain⟨z,its,n,r,e⟩:=x;exact⟨z,its,n,r,k _ _ (.inl rfl) e⟩
 |tup xs=>obtain⟨z,its,r,ob,e,c⟩:=x;exact⟨z,its,r,ob,k _ _ (.inl rfl) e,c⟩
 |dK kvs=>obtain⟨z,y,vs,r,ob,es,ep,e,c⟩:=x;exact⟨z,y,vs,r,ob,es,ep,k _ _ (.inl rfl) e,c⟩
 |dT kvs=>
  obtain⟨z,y,xs,r,ob,es,ep,e,c⟩:=x;exact⟨z,y,xs,Paired.mapP r fun p q z=>⟨z.1,ht _ _ z.2.1,z.2.2⟩,ob,es,ep,k _ _ (.inl rfl) e,c⟩
 |set S n=>obtain⟨ob,es,ep,t,e,c⟩:=x;exact⟨ob,es,ep,t,k _ _ (.inl rfl) e,c⟩
 |stt zs=>obtain⟨es,n,t,e,c⟩:=x;exact⟨es,n,t,k _ _ (.inl rfl) e,c⟩
 |ins C dx fs=>
  obtain⟨d,z,ne,e,mA,⟨od,es,ep,e2,c⟩,r⟩:=x;exact⟨ho _ d,z,ne,k _ _ (.inl rfl) e,mA,⟨od,es,ep,k _ _ (.inr d) e2,c⟩,r⟩
 |own y=>obtain⟨ob,e⟩:=x;exact⟨ob,k _ _ (.inl rfl) e⟩
 |xd fs=>obtain⟨mA,⟨od,es,ep,e,c⟩,r⟩:=x;exact⟨mA,⟨od,es,ep,k _ _ (.inl rfl) e,c⟩,r⟩
 |rng lo hi=>obtain⟨t,u,v,e⟩:=x;exact⟨t,u,v,k _ _ (.inl rfl) e⟩
 |frz ob u ih=>obtain⟨e,q⟩:=x;exact⟨k _ _ (.inl rfl) e,ih q⟩
 |tbl ps=>
  have e:h.get? a=some {cls:= .none,data:= .fields ps}:=x;show h'.get? a=some {cls:= .none,data:= .fields ps};exact k a _ (.inl rfl) e
 |met f y=>
  have e:h.get? a=some (PySem.W.methodObj (.ref f) (.ref y)):=x;show h'.get? a=some (PySem.W.methodObj (.ref f) (.ref y));exact k a _ (.inl rfl) e
 |ext φ=>obtain⟨p,⟨o,e⟩,st⟩:=x;exact⟨st _ _ p fun o q=>k _ _ (.inl rfl) q,⟨o,k _ _ (.inl rfl) e⟩,st⟩
theorem HOk.lt(x:HOk P w H h)(e:H a=some o):a<h.objs.size:=(x a o e).lt
theorem HOk.fresh(x:HOk P w H h)(e:h.objs.size<=a):H a=none:=by
 cases q:H a with
 |none=>rfl
 |some u=>exact absurd (mP (x.lt q) e) (pP _)
theorem HOk.kept(x:HOk P w H h)(k: ∀b u,h.get? b=some u->h'.get? b=some u):HOk P w H h':=fun a o e=>
 (x a o e).stay (fun b u _ q=>k b u q) (fun _ q=>q) fun _ _ q=>q
theorem HOk.laid(x:HOk P w H h)(k: ∀b u,h.get? b=some u->h'.get? b=some u)(hp:h.objs.size<=a)(new:ObjOk P w (upd H a o) h' a o):HOk P w (upd H a o) h':=fun b u e=>by
 have hn:=x.fresh hp;by_cases hb:b=a
 ·subst hb;rw[gF] at e;cases e;exact new
 ·rw[gG hb] at e;exact(x b u e).stay (fun c v _ q=>k c v q) (fun c q=>by rw[gG (lr q hn)];exact q) fun c xs q=>by rw[gG (lr q hn)];exact q
end
def Rd(H:Hp)(a:fR)(u:HO):Prop:=H a=some u\/ ∃o,H a=some (.frz o u)
theorem Rd.ok{P:gA}{w:gu}{H:Hp}{h:gD}{a:fR}{u:HO}(r:Rd H a u)(x:HOk P w H h):ObjOk P w H h a u:=by
 rcases r with r|⟨o,r⟩
 ·exact x a u r
 ·obtain⟨_,q⟩:=x a _ r;exact q
def Mut:Option HO->Prop
 |some (.lst _)=>True
 |some (.dK _)=>True
 |some (.dT _)=>True
 |some (.set _ _)=>True
 |some (.stt _)=>True
 |some (.ins _ _ _)=>True
 |some (.ext _)=>True
 |_=>False
section
variable {P:gA}{w:gu}{H:Hp}{h h':gD}{x e:fR}{o':HO}
theorem HOk.write(ok:HOk P w H h)(mu:Mut (H x))(he:e=x\/H e=some (.own x))(k: ∀b u,b≠e->h.get? b=some u->h'.get? b=some u)(cC: ∃u,h'.get? e=some u)
  (new:ObjOk P w (upd H x o') h' x o'):HOk P w (upd H x o') h':=fun b u q=>by
 have nown: ∀c y,H c=some (.own y)->c≠x:=fun c y r z=>by subst z;rw[r] at mu;exact mu
 have ntup: ∀c xs,H c=some (.tup xs)->c≠x:=fun c xs r z=>by subst z;rw[r] at mu;exact mu
 by_cases hb:b=x
 ·subst hb;rw[gF] at q;cases q;exact new
 ·rw[gG hb] at q;by_cases cp:b=e
  ·have q':H b=some (.own x):=by
    rcases he with z|z
    ·exact absurd (cp.trans z) hb
    ·rw[cp];exact z
   rw[q] at q';cases q';obtain⟨v,hv⟩:=cC;exact⟨v,by rw[cp];exact hv⟩
  ·refine(ok b u q).stay (fun c v hc r=>k c v ?_ r) (fun c r=>by rw[gG (nown c b r)];exact r) fun c xs r=>by rw[gG (ntup c xs r)];exact r
   rcases hc with rfl|hc
   ·exact cp
   ·rintro rfl;rcases he with z|z
    ·exact nown c b hc z
    ·rw[hc] at z;cases z;exact hb rfl
end
structure Un(fs ex:iN)(H H':Hp)(h h':gD):Prop where
 keep: ∀b o,h.get? b=some o->H b=none->b∉fs->b∉ex->h'.get? b=some o
 slot: ∀b o,h.get? b=some o->H b=none->b∈fs->b∉ex-> ∃sl,h'.get? b=some {o with slots:=sl}
 free: ∀b o,h.get? b=some o->H b=none->b∉ex->H' b=none
 there: ∀b o,h.get? b=some o->b∉ex-> ∃o',h'.get? b=some o'
 tups: ∀b xs,H b=some (.tup xs)->H' b=some (.tup xs)
 frzs: ∀b o u,H b=some (.frz o u)->H' b=some (.frz o u)
 tbls: ∀b ps,H b=some (.tbl ps)-> ∃more,H' b=some (.tbl (ps++more))
section
variable {fs fs' ex ex':iN}{H H1 H2:Hp}{h h1 h2 h':gD}{a x e:fR}{o:HO}
theorem Un.any(u:Un fs ex H H1 h h1){b:fR}{ob:Obj}(q:h.get? b=some ob)(n:H b=none)(hx:b∉ex): ∃sl,h1.get? b=some {ob with slots:=sl}:=by
 by_cases hb:b∈fs
 ·exact u.slot b ob q n hb hx
 ·exact⟨ob.slots,u.keep b ob q n hb hx⟩
theorem Un.kept(k: ∀b u,h.get? b=some u->h'.get? b=some u):Un fs ex H H h h':=
 ⟨fun b ob q _ _ _=>k b ob q,fun b ob q _ _ _=>⟨ob.slots,k b ob q⟩,fun _ _ _ n _=>n,fun b ob q _=>⟨ob,k b ob q⟩,fun _ _ q=>q,fun _ _ _ q=>q,fun _ ps q=>⟨#[],by rw[q];simp⟩⟩
theorem Un.refl:Un fs ex H H h h:=Un.kept fun _ _ q=>q
theorem Un.laid(k: ∀b u,h.get? b=some u->h'.get? b=some u)(hp:h.objs.size<=a)(hn:H a=none):Un fs ex H (upd H a o) h h' where
 keep:=fun b u q _ _ _=>k b u q
 slot:=fun b u q _ _ _=>⟨u.slots,k b u q⟩
 free:=fun b u q n _=>by rw[gG (ip (mP (iw q) hp))];exact n
 there:=fun b u q _=>⟨u,k b u q⟩
 tups:=fun b xs q=>by rw[gG (lr q hn)];exact q
 frzs:=fun b u xs q=>by rw[gG (lr q hn)];exact q
 tbls:=fun b ps q=>⟨#[],by rw[gG (lr q hn),q];simp⟩
theorem Un.write(mu:Mut (H x))(he:e=x\/H e=some (.own x))(k: ∀b u,b≠e->h.get? b=some u->h'.get? b=some u)(cC: ∃u,h'.get? e=some u):Un fs ex H (upd H x o) h h':=by
 have hx: ∀b,H b=none->b≠x:=fun b n z=>by subst z;rw[n] at mu;exact mu
 have hb: ∀b,H b=none->b≠e:=fun b n z=>by
  subst z;rcases he with r|r
  ·exact hx b n r
  ·rw[n] at r;cases r
 have hm: ∀b u,H b=some u-> ¬Mut (some u)->b≠x:=fun b u q nm z=>by subst z;rw[q] at mu;exact nm mu
 refine⟨fun b u q n _ _=>k b u (hb b n) q,fun b u q n _ _=>⟨u.slots,k b u (hb b n) q⟩,fun b u q n _=>by rw[gG (hx b n)];exact n,fun b u q _=>?_,
  fun b xs q=>by rw[gG (hm b _ q fun z=>z)];exact q,fun b u xs q=>by rw[gG (hm b _ q fun z=>z)];exact q,fun b ps q=>⟨#[],by rw[gG (hm b _ q fun z=>z),q];simp⟩⟩
 by_cases cp:b=e
 ·subst cp;exact cC
 ·exact⟨u,k b u cp q⟩
end
noncomputable def trk(h:gD)(H:Hp):List Addr:=(List.range h.objs.size).filter fun a=>(H a).isSome
noncomputable def BL(h:gD)(H:Hp):Heap:=PySem.W.hideAll h (trk h H)
theorem HU(h:gD)(H:Hp):(BL h H).objs.size=h.objs.size:=PySem.W.hideAll_size _ _
theorem Lx{h:gD}{H:Hp}{b:fR}{o:Obj}(e:h.get? b=some o)(n:H b=none):(BL h H).get? b=some o:=
 PySem.W.hideAll_get _ e fun hm=>by
  have q:(H b).isSome=true:=(IA.mp hm).2;rw[n] at q;simp at q
theorem NA{h:gD}{H:Hp}{b:fR}{o:Obj}(e:(BL h H).get? b=some o):h.get? b=some o/\H b=none:=by
 have e':h.get? b=some o:=PySem.W.of_hideAll (trk h H) e;refine⟨e',?_⟩
 cases q:H b with
 |none=>rfl
 |some x=>
  have hm:b∈trk h H:=IA.mpr ⟨DL.mpr (iw e'),by simp[q]⟩;have z:(BL h H).get? b=none:=PySem.W.hideAll_none (trk h H) hm;rw[z] at e;cases e
noncomputable def N1(g h:gD)(L:fR):List (Addr×Obj):=(List.range h.objs.size).filterMap fun a=>if a=L\/(g.get? a).isSome=true then none else(h.get? a).map fun o=>(a,o)
noncomputable def gL(g h:gD)(L d:fR):List (Addr×Obj):=(N1 g h L).filter fun p=>decide (p.1≠d)
structure Mod(K:gq)(mg:kM)(base:gD):Prop where
 kin:K.In base
 glob:base.Ns mainGlobals mg
 blt: ∃mb,base.Ns builtinsNs mb/\ ∀x:Str,x≠"__name__"->mb x=bootBuiltins x
 nolimit:base.NoLimit
structure Cx where
 prog:Program
 w:World
 K:PySem.W.Frag
 mg:Str->Option Value
 base:Heap
 A:Around
 N:List Str
 s₀:Shared
 H₀:Hp
 env:Env
 outer:List Env
 stack:List Env
 ex:List Addr
 fn:Str->Bool
 calm:Bool
 pn:List (Addr×Obj)
 xe:Value->Shared->Prop
noncomputable def frs(l:List Env):List Addr:=l.filterMap (·.frame)
abbrev Cx.fs(X:Cx):List Addr:=frs X.outer
def Vis(sc:iK)(x:Str):Prop:=sc.names.lookup x=some .local\/sc.names.lookup x=some .cell\/sc.names.lookup x=some .free
def Loc(sc:iK)(x:Str):Prop:=sc.names.lookup x=some .local\/sc.names.lookup x=some .cell
def UZ(env:Env)(h:gD)(m:kM)(x:Str)(u:gg):Prop:=
 (env.kindOf x=some .local/\m x=some u)\/((env.kindOf x=some .cell\/env.kindOf x=some .free)/\ ∃c,env.cells.lookup x=some c/\h.IsCell c (some u))
structure Cx.Ok(X:Cx):Prop where
 mod:Mod X.K X.mg X.base
 kind:X.env.scope.kind= .function
 glob:X.env.globals=mainGlobals
 blt:X.env.builtins=builtinsNs
 above:X.s₀.heap.objs.size<=X.env.locals
 inj: ∀x y c,X.env.cells.lookup x=some c->X.env.cells.lookup y=some c->x=y
 has: ∀x,(X.env.kindOf x=some .cell\/X.env.kindOf x=some .free)-> ∃c,X.env.cells.lookup x=some c
 cab: ∀x c,X.fn x=true->X.env.cells.lookup x=some c->X.s₀.heap.objs.size<=c
 hd:X.calm=true->X.A.handled=none
 frames:X.A.frames=some X.stack
 stk:X.stack=X.outer\/(X.stack=X.env::X.outer/\X.env.frame=some X.env.locals)
 exf: ∀b∈X.ex,b≠X.env.locals/\ ∀x c,X.env.cells.lookup x=some c->c≠b
 bs: ∀b o,X.base.get? b=some o->X.s₀.heap.get? b=some o/\X.H₀ b=none
 bsz:X.base.objs.size<=X.s₀.heap.objs.size
 noex: ∀b o,X.base.get? b=some o->b∉X.ex
 exfs: ∀b∈X.ex,b∉X.fs
 funs:X.s₀.heap.FunFrames X.base X.outer
 frf: ∀b∈X.fs,X.H₀ b=none
structure Inv(X:Cx)(pins:gE)(σ:List (Option V))(H:Hp)(s:fW):Prop where
 ok:X.Ok
 os:s.os=X.s₀.os
 bare:AllBare s.gens
 base:Un X.fs X.ex X.H₀ H X.s₀.heap s.heap
 loc: ∃m,s.heap.Ns X.env.locals m/\ ∀(i:Nat) (x:Str) (v:V),X.N[i]?=some x->σ[i]?=some (some v)->Vis X.env.scope x-> ∃u,RelV v u/\UZ X.env s.heap m x u
 cell: ∀x c,X.env.cells.lookup x=some c-> ∃v,s.heap.IsCell c v
 free:H X.env.locals=none
 freeC: ∀x c,X.env.cells.lookup x=some c->H c=none
 pin: ∀p∈X.pn++pins,s.heap.get? p.1=some p.2/\H p.1=none/\p.1≠X.env.locals/\p.1∉X.fs/\ ∀v,p.2.data≠ .cell v
 hok:HOk X.prog X.w H s.heap
 len:σ.length=X.N.length
section
variable {X:Cx}{pins:gE}{σ:List (Option V)}{H H':Hp}{s:fW}{h':gD}
theorem Cx.Ok.nofr(ok:X.Ok){b:fR}{o:Obj}(e:X.base.get? b=some o):b∉X.fs:=fun hb=>by
 have:=(ok.funs.mem hb).1;rw[e] at this;cases this
theorem Inv.bs(I:Inv X pins σ H s): ∀b o,X.base.get? b=some o->s.heap.get? b=some o/\H b=none:=fun b o e=>
 ⟨I.base.keep b o (I.ok.bs b o e).1 (I.ok.bs b o e).2 (I.ok.nofr e) (I.ok.noex b o e),I.base.free b o (I.ok.bs b o e).1 (I.ok.bs b o e).2 (I.ok.noex b o e)⟩
theorem Inv.bk(I:Inv X pins σ H s): ∀b o,X.base.get? b=some o->s.heap.get? b=some o:=fun b o e=>(I.bs b o e).1
theorem Inv.mod(I:Inv X pins σ H s):Mod X.K X.mg X.base:=I.ok.mod
theorem Inv.kIn(I:Inv X pins σ H s):X.K.In s.heap:=I.ok.mod.kin.keeps I.bk
theorem Inv.lt(I:Inv X pins σ H s):X.env.locals<s.heap.objs.size:=let⟨_,hn,_⟩:=I.loc;hn.lt
theorem Inv.sz(I:Inv X pins σ H s):X.s₀.heap.objs.size<=s.heap.objs.size:=mO I.ok.above (xq I.lt)
theorem Inv.nofs(I:Inv X pins σ H s){a:fR}(h:s.heap.objs.size<=a):a∉X.fs:=fun hb=>by
 obtain⟨_,o,ho,_⟩:=I.ok.funs.mem hb;exact absurd (mP (iw ho) (mO I.sz h)) (pP _)
theorem Inv.cne(I:Inv X pins σ H s): ∀x c,X.env.cells.lookup x=some c->c≠X.env.locals:=fun x c e z=>by
 obtain⟨v,o,ho,hd⟩:=I.cell x c e;obtain⟨m,⟨o',es,ep,aa,bt,_⟩,_⟩:=I.loc;rw[z,aa] at ho;cases ho;rw[bt] at hd;cases hd
theorem Inv.funs(I:Inv X pins σ H s):s.heap.FunFrames X.base X.outer:=by
 have all: ∀(l:List Env),(∀b∈frs l,b∈X.fs)->X.s₀.heap.FunFrames X.base l->s.heap.FunFrames X.base l:=by
  intro l
  induction l with
  |nil=>intro _ _;trivial
  |cons env r ih=>
   intro hs hl;obtain⟨hk,⟨L,o,hf,hn,ho,hd⟩,hr⟩:=hl;have hL:L∈X.fs:=hs L (by unfold frs;rw[Eo,hf];exact iO);obtain⟨sl,e⟩:=I.base.slot L o ho (I.ok.frf L hL) hL fun z=>I.ok.exfs L z hL;exact⟨hk,⟨L,_,hf,hn,e,hd⟩,ih (fun b hb=>hs b (by unfold frs;rw[Eo,hf];exact iT _ hb)) hr⟩
 exact all X.outer (fun _ hb=>hb) I.ok.funs
theorem Inv.stack(I:Inv X pins σ H s):s.heap.FunFrames X.base X.stack:=by
 rcases I.ok.stk with e|⟨e,hf⟩
 ·rw[e];exact I.funs
 ·rw[e];obtain⟨m,hn,_⟩:=I.loc;refine .cons (by rw[I.ok.kind];decide) hf hn ?_ I.funs;exact Heap.get?_none_of_le (mO I.ok.bsz I.ok.above)
theorem Inv.stkSub(I:Inv X pins σ H s): ∀b∈frs X.stack,b∈X.env.locals::X.fs:=fun b hb=>by
 rcases I.ok.stk with e|⟨e,hf⟩
 ·rw[e] at hb;exact iT _ hb
 ·rw[e] at hb;unfold frs at hb;rw[Eo,hf] at hb;exact hb
theorem Inv.stkFree(I:Inv X pins σ H s): ∀b∈frs X.stack,H b=none:=fun b hb=>by
 rcases jQ.mp (I.stkSub b hb) with e|hb
 ·rw[e];exact I.free
 ·obtain⟨_,o,ho,_⟩:=I.ok.funs.mem hb;exact I.base.free b o ho (I.ok.frf b hb) fun z=>I.ok.exfs b z hb
theorem Inv.step{g':Array GenState}{t':Nat}{d':Drawn}{ch:iN}(I:Inv X pins σ H s)
  (aT: ∀b∈ch,(b∈X.ex\/X.s₀.heap.objs.size<=b)/\b≠X.env.locals/\(∀x c,X.env.cells.lookup x=some c->c≠b)/\ ∀p∈X.pn++pins,p.1≠b)
  (keep: ∀b o,b≠X.env.locals->b∉X.fs->b∉ch->s.heap.get? b=some o->H b=none->h'.get? b=some o)
  (slot: ∀b o,b≠X.env.locals->b∈X.fs->b∉ch->s.heap.get? b=some o->H b=none-> ∃sl,h'.get? b=some {o with slots:=sl})(free: ∀b o,b∉ch->s.heap.get? b=some o->H b=none->H' b=none)
  (there: ∀b o,b∉ch->s.heap.get? b=some o-> ∃o',h'.get? b=some o')
  (tups: ∀b xs,H b=some (.tup xs)->H' b=some (.tup xs))(frzs: ∀b o u,H b=some (.frz o u)->H' b=some (.frz o u))(tbls: ∀b ps,H b=some (.tbl ps)-> ∃more,H' b=some (.tbl (ps++more)))
  (ns: ∀m,s.heap.Ns X.env.locals m->h'.Ns X.env.locals m)(hok:HOk X.prog X.w H' h')(hg:AllBare g'):
  Inv X pins σ H' {s with heap:=h',gens:=g',drawn:=d',toks:=t'}:=by
 have neL: ∀b o,X.s₀.heap.get? b=some o->b≠X.env.locals:=fun b o e=>ip (mP (iw e) I.ok.above)
 have dr: ∀b o,X.s₀.heap.get? b=some o->b∉X.ex->b∉ch:=fun b o e hx hb=>by
  rcases(aT b hb).1 with z|z
  ·exact hx z
  ·exact absurd (mP (iw e) z) (pP _)
 have cellK: ∀x c,X.env.cells.lookup x=some c-> ∀v,s.heap.IsCell c v->h'.IsCell c v:=fun x c e v ⟨o,ho,hd⟩=>by
  have aA:c∉ch:=fun z=>(aT c z).2.2.1 x c e rfl;by_cases hc:c∈X.fs
  ·obtain⟨sl,q⟩:=slot c o (I.cne x c e) hc aA ho (I.freeC x c e);exact⟨_,q,hd⟩
  ·exact⟨o,keep c o (I.cne x c e) hc aA ho (I.freeC x c e),hd⟩
 refine⟨I.ok,I.os,hg,⟨fun b o e n hb hx=>?_,fun b o e n hb hx=>?_,fun b o e n hx=>?_,fun b o e hx=>?_,fun b xs e=>tups b xs (I.base.tups b xs e),fun b o xs e=>frzs b o xs (I.base.frzs b o xs e),fun b ps e=>?_⟩,?_,fun x c e=>?_,?_,fun x c e=>?_,fun p hp=>?_,hok,I.len⟩
 ·exact keep b o (neL b o e) hb (dr b o e hx) (I.base.keep b o e n hb hx) (I.base.free b o e n hx)
 ·obtain⟨sl,e1⟩:=I.base.slot b o e n hb hx;obtain⟨sl',e2⟩:=slot b _ (neL b o e) hb (dr b o e hx) e1 (I.base.free b o e n hx);exact⟨sl',e2⟩
 ·obtain⟨o',e1⟩:=I.base.there b o e hx;exact free b o' (dr b o e hx) e1 (I.base.free b o e n hx)
 ·obtain⟨o',e1⟩:=I.base.there b o e hx;exact there b o' (dr b o e hx) e1
 ·obtain⟨m1,e1⟩:=I.base.tbls b ps e;obtain⟨m2,e2⟩:=tbls b _ e1;exact⟨m1++m2,by rw[e2,Array.append_assoc]⟩
 ·obtain⟨m,hn,hl⟩:=I.loc;refine⟨m,ns m hn,fun i x v e1 e2 e3=>?_⟩;obtain⟨u,r,l⟩:=hl i x v e1 e2 e3;refine⟨u,r,?_⟩;rcases l with l|⟨k,c,e,z⟩
  ·exact .inl l
  ·exact .inr ⟨k,c,e,cellK x c e _ z⟩
 ·obtain⟨v,z⟩:=I.cell x c e;exact⟨v,cellK x c e v z⟩
 ·obtain⟨m,⟨o,_,_,ho,_⟩,_⟩:=I.loc;exact free _ o (fun z=>(aT _ z).2.1 rfl) ho I.free
 ·obtain⟨v,o,ho,hd⟩:=I.cell x c e;exact free c o (fun z=>(aT c z).2.2.1 x c e rfl) ho (I.freeC x c e)
 ·obtain⟨e,n,ne,nf,d⟩:=I.pin p hp;have aA:p.1∉ch:=fun z=>(aT p.1 z).2.2.2 p hp rfl;exact⟨keep p.1 p.2 ne nf aA e n,free p.1 p.2 aA e n,ne,nf,d⟩
theorem Inv.un{t':Nat}(I:Inv X pins σ H s)(u:Un X.fs [] H H' s.heap h')(hok:HOk X.prog X.w H' h'):Inv X pins σ H' {s with heap:=h',toks:=t'}:=by
 obtain⟨m,⟨o,es,ep,ho,r⟩,_⟩:=id I.loc;obtain⟨sl,hL⟩:=u.any ho I.free (by simp)
 exact I.step (g':=s.gens) (d':=s.drawn) (ch:=[]) (fun _ z=>nomatch z) (fun b o _ hb _ e n=>u.keep b o e n hb (by simp)) (fun b o _ hb _ e n=>u.slot b o e n hb (by simp)) (fun b o _ e n=>u.free b o e n (by simp)) (fun b o _ e=>u.there b o e (by simp)) u.tups u.frzs u.tbls (fun m' hm=>by
  obtain⟨o',fw,fA,aa,r'⟩:=hm;rw[ho] at aa;cases aa;exact⟨_,fw,fA,hL,r'⟩) hok I.bare
theorem Inv.call{g':Array GenState}{t':Nat}{d':Drawn}{ch:iN}(I:Inv X pins σ H s)(u:Un (frs X.stack) ch H H' s.heap h')(hok:HOk X.prog X.w H' h')(hg:AllBare g')
  (aT: ∀b∈ch,(b∈X.ex\/X.s₀.heap.objs.size<=b)/\b≠X.env.locals/\(∀x c,X.env.cells.lookup x=some c->c≠b)/\ ∀p∈X.pn++pins,p.1≠b):
  Inv X pins σ H' {s with heap:=h',gens:=g',drawn:=d',toks:=t'}:=by
 obtain⟨m,⟨o,es,ep,ho,r⟩,_⟩:=id I.loc;obtain⟨sl,hL⟩:=u.any ho I.free fun z=>(aT _ z).2.1 rfl
 exact I.step (ch:=ch) aT (fun b o hL hb hc e n=>u.keep b o e n (fun z=>(jQ.mp (I.stkSub b z)).elim hL hb) hc) (fun b o _ _ hc e n=>u.any e n hc) (fun b o hc e n=>u.free b o e n hc) (fun b o hc e=>u.there b o e hc) u.tups u.frzs u.tbls (fun m' hm=>by
  obtain⟨o',fw,fA,aa,r'⟩:=hm;rw[ho] at aa;cases aa;exact⟨_,fw,fA,hL,r'⟩) hok hg
theorem Inv.turned{t':Nat}{it:fR}(I:Inv X pins σ H s)(k: ∀b o,b≠it->s.heap.get? b=some o->h'.get? b=some o)(hn:H it=none)(hL:it≠X.env.locals)
  (h1:it∈X.ex\/X.s₀.heap.objs.size<=it)(h2: ∀x c,X.env.cells.lookup x=some c->c≠it)(h3: ∀p∈X.pn++pins,p.1≠it):Inv X pins σ H {s with heap:=h',toks:=t'}:=by
 have nit: ∀b u,H b=some u->b≠it:=fun b u e z=>by rw[z,hn] at e;cases e
 refine I.step (g':=s.gens) (d':=s.drawn) (ch:=[it]) (fun b hb=>?_) (fun b o _ _ hc e _=>k b o (fun z=>hc (by simp[z])) e) (fun b o _ _ hc e _=>⟨o.slots,k b o (fun z=>hc (by simp[z])) e⟩) (fun _ _ _ _ n=>n)
  (fun b o hc e=>⟨o,k b o (fun z=>hc (by simp[z])) e⟩) (fun _ _ e=>e) (fun _ _ _ e=>e) (fun b ps e=>⟨#[],by rw[e];simp⟩) (fun m hm=>?_) (fun b u e=>?_) I.bare
 ·have e:b=it:=by simpa using hb
  subst e;exact⟨h1,hL,h2,h3⟩
 ·obtain⟨o,es,ep,ho,r⟩:=hm;exact⟨o,es,ep,k _ o (rl hL) ho,r⟩
 ·refine(I.hok b u e).stay (fun c v hc q=>k c v ?_ q) (fun _ q=>q) fun _ _ q=>q;rcases hc with z|z
  ·rw[z];exact nit b u e
  ·exact nit c _ z
theorem Inv.tok(I:Inv X pins σ H s)(t:Nat):Inv X pins σ H {s with toks:=t}:=I.un (h':=s.heap) (t':=t) Un.refl I.hok
theorem Inv.kept{t':Nat}(I:Inv X pins σ H s)(k: ∀b u,s.heap.get? b=some u->h'.get? b=some u):Inv X pins σ H {s with heap:=h',toks:=t'}:=I.un (Un.kept k) (I.hok.kept k)
theorem Inv.laid{a:fR}{o:HO}{t':Nat}(I:Inv X pins σ H s)(k: ∀b u,s.heap.get? b=some u->h'.get? b=some u)(hp:s.heap.objs.size<=a)(new:ObjOk X.prog X.w (upd H a o) h' a o):
  Inv X pins σ (upd H a o) {s with heap:=h',toks:=t'}:=I.un (Un.laid k hp (I.hok.fresh hp)) (I.hok.laid k hp new)
theorem Inv.write{x e:fR}{o:HO}{t':Nat}(I:Inv X pins σ H s)(mu:Mut (H x))(he:e=x\/H e=some (.own x))(k: ∀b u,b≠e->s.heap.get? b=some u->h'.get? b=some u)(cC: ∃u,h'.get? e=some u)
  (new:ObjOk X.prog X.w (upd H x o) h' x o):Inv X pins σ (upd H x o) {s with heap:=h',toks:=t'}:=I.un (Un.write mu he k cC) (I.hok.write mu he k cC new)
theorem Inv.pins_of{pins':gE}(I:Inv X pins σ H s)(h: ∀p∈pins',s.heap.get? p.1=some p.2/\H p.1=none/\p.1≠X.env.locals/\p.1∉X.fs/\ ∀v,p.2.data≠ .cell v):Inv X pins' σ H s:=
 ⟨I.ok,I.os,I.bare,I.base,I.loc,I.cell,I.free,I.freeC,fun p hp=>(nU.mp hp).elim (fun z=>I.pin p (Jr _ z)) (h p),I.hok,I.len⟩
theorem C1{N:gZ}(hN:N.Nodup){i j:Nat}{x:Str}(a:N[i]?=some x)(b:N[j]?=some x):i=j:=by
 obtain⟨h1,e1⟩:=wz.mp a;obtain⟨h2,e2⟩:=wz.mp b;exact(En hN).mp (e1.trans e2.symm)
theorem He{M:Model}{A:gw}{E:gH}{i:Nat}{x:Str}{v:V}{u:gg}{Q:Unit->Shared->Prop}(I:Inv X pins σ H s)(hN:X.N.Nodup)(hi:X.N[i]?=some x)(hx:Loc X.env.scope x)(r:RelV v u)
  (h: ∀s',Inv X pins (σ.set i (some v)) H s'->(∃a,Heap.SameBut a s.heap s'.heap/\(a=X.env.locals\/X.env.cells.lookup x=some a))->Q () s')(hf:X.fn x=true\/X.env.scope.names.lookup x=some .local:=by first|exact .inl rfl|exact .inr rfl|assumption):wpAny M A (storeName X.env x u) Q E s:=by
 obtain⟨m,hn,hl⟩:=id I.loc;have hcls:(X.env.scope.kind== .class||(X.env.scope.kind== .module&&X.env.locals !=X.env.globals))=false:=by rw[I.ok.kind];rfl
 have hiσ:i<σ.length:=by rw[I.len];exact(wz.mp hi).1
 have cne:=I.cne
 have tracked: ∀{a:fR} {h':gD},(∃o,s.heap.get? a=some o/\H a=none)->Heap.SameBut a s.heap h'->HOk X.prog X.w H h':=fun {a h'} ha hs b ob e=>by
  obtain⟨_,_,x8⟩:=ha;refine(I.hok b ob e).stay (fun c w' hc q=>(hs.2 c ?_).trans q) (fun _ q=>q) fun _ _ q=>q;rintro rfl;rcases hc with rfl|hc
  ·rw[x8] at e;cases e
  ·rw[x8] at hc;cases hc
 rcases hx with hk|hk
 ·refine wpAny_storeName_local hk hn (fun h' hn' hs=>?_) hcls;obtain⟨oL,_,_,dz,_⟩:=id hn;refine h _ ⟨I.ok,I.os,I.bare,⟨fun b o e n hb hx=>?_,fun b o e n hb hx=>?_,I.base.free,fun b o e hx=>?_,I.base.tups,I.base.frzs,I.base.tbls⟩,⟨_,hn',fun j y v' e1 e2 e3=>?_⟩,fun y c e=>?_,I.free,I.freeC,fun p hp=>?_,tracked ⟨oL,dz,I.free⟩ hs,by simpa using I.len⟩ ⟨_,hs,.inl rfl⟩
  ·exact(hs.2 b (ip (mP (iw e) I.ok.above))).trans (I.base.keep b o e n hb hx)
  ·obtain⟨sl,e1⟩:=I.base.slot b o e n hb hx;exact⟨sl,(hs.2 b (ip (mP (iw e) I.ok.above))).trans e1⟩
  ·obtain⟨o',e1⟩:=I.base.there b o e hx;exact⟨o',(hs.2 b (ip (mP (iw e) I.ok.above))).trans e1⟩
  ·by_cases hj:j=i
   ·subst hj;rw[hi] at e1;cases e1;rw[pv hiσ] at e2;cases e2;exact⟨u,r,.inl ⟨hk,by simp⟩⟩
   ·rw[pO (rl hj)] at e2;obtain⟨u',r',q⟩:=hl j y v' e1 e2 e3;refine⟨u',r',?_⟩;rcases q with⟨k,e⟩|⟨k,c,e,z⟩
    ·refine .inl ⟨k,?_⟩;have:y≠x:=fun e=>hj (C1 hN e1 (e▸hi));simp[this,e]
    ·exact .inr ⟨k,c,e,z.sameBut hs (cne y c e)⟩
  ·obtain⟨w',z⟩:=I.cell y c e;exact⟨w',z.sameBut hs (cne y c e)⟩
  ·obtain⟨e,n,ne,nf,d⟩:=I.pin p hp;exact⟨(hs.2 p.1 ne).trans e,n,ne,nf,d⟩
 ·have eO:X.fn x=true:=by
   rcases hf with z|z
   ·exact z
   ·rw[z] at hk;cases hk
  obtain⟨c,hc⟩:=I.ok.has x (.inl hk);obtain⟨w',z⟩:=I.cell x c hc;refine wpAny_storeName_cell I.ok.kind hk hc z (fun h' bx hs=>?_);obtain⟨oc,hoc,hocd⟩:=id z;refine h {s with heap:=h'} ⟨I.ok,I.os,I.bare,⟨fun b o e n hb hx=>?_,fun b o e n hb hx=>?_,I.base.free,fun b o e hx=>?_,I.base.tups,I.base.frzs,I.base.tbls⟩,⟨m,hn.sameBut hs (rl (cne x c hc)),fun j y v' e1 e2 e3=>?_⟩,fun y c' e=>?_,I.free,I.freeC,fun p hp=>?_,tracked ⟨oc,hoc,I.freeC x c hc⟩ hs,by simpa using I.len⟩ ⟨c,hs,.inr hc⟩
  ·exact(hs.2 b (ip (mP (iw e) (I.ok.cab x c eO hc)))).trans (I.base.keep b o e n hb hx)
  ·obtain⟨sl,e1⟩:=I.base.slot b o e n hb hx;exact⟨sl,(hs.2 b (ip (mP (iw e) (I.ok.cab x c eO hc)))).trans e1⟩
  ·obtain⟨o',e1⟩:=I.base.there b o e hx;exact⟨o',(hs.2 b (ip (mP (iw e) (I.ok.cab x c eO hc)))).trans e1⟩
  ·by_cases hj:j=i
   ·subst hj;rw[hi] at e1;cases e1;rw[pv hiσ] at e2;cases e2;exact⟨u,r,.inr ⟨.inl hk,c,hc,bx⟩⟩
   ·rw[pO (rl hj)] at e2;obtain⟨u',r',q⟩:=hl j y v' e1 e2 e3;refine⟨u',r',?_⟩;rcases q with q|⟨k,c',e,z'⟩
    ·exact .inl q
    ·refine .inr ⟨k,c',e,z'.sameBut hs ?_⟩;rintro rfl;exact hj (C1 hN e1 (I.ok.inj _ _ _ e hc▸hi))
  ·by_cases hcc:c'=c
   ·subst hcc;exact⟨_,bx⟩
   ·obtain⟨w2,z2⟩:=I.cell y c' e;exact⟨w2,z2.sameBut hs hcc⟩
  ·obtain⟨e,n,ne,nf,d⟩:=I.pin p hp;refine⟨(hs.2 p.1 ?_).trans e,n,ne,nf,d⟩;intro q;rw[q,hoc] at e;have q':oc=p.2:=iq e;exact d w' (by rw[<-q'];exact hocd)
theorem xK{M:Model}{A:gw}{E:gH}{i:Nat}{x:Str}{v:V}{u:gg}{Q:Unit->Shared->Prop}(I:Inv X pins σ H s)(hN:X.N.Nodup)(hi:X.N[i]?=some x)(hx:Loc X.env.scope x)(r:RelV v u)
  (h: ∀s',Inv X pins (σ.set i (some v)) H s'->Q () s')(hf:X.fn x=true\/X.env.scope.names.lookup x=some .local:=by first|exact .inl rfl|exact .inr rfl|assumption):wpAny M A (storeName X.env x u) Q E s:=
 He I hN hi hx r (fun s' I' _=>h s' I') hf
theorem Inv.call'{s':fW}{ch:iN}(I:Inv X pins σ H s)(ho:s'.os=s.os)(u:Un (frs X.stack) ch H H' s.heap s'.heap)(hok:HOk X.prog X.w H' s'.heap)(hg:AllBare s'.gens)
  (aT: ∀b∈ch,(b∈X.ex\/X.s₀.heap.objs.size<=b)/\b≠X.env.locals/\(∀x c,X.env.cells.lookup x=some c->c≠b)/\ ∀p∈X.pn++pins,p.1≠b):Inv X pins σ H' s':=by
 obtain⟨h',g',d',t',o'⟩:=s';have e:o'=s.os:=ho;subst e;exact I.call (g':=g') (t':=t') (d':=d') u hok hg aT
end
abbrev XK:=Value->Option Addr->Hp->Prop
abbrev St:=List (Option V)
abbrev VK:=V->Hp->Prop
abbrev TE:=St->Hp->VK->Prop
abbrev TT:=St->Hp->(Bool->Hp->Prop)->Prop
abbrev TA:=St->Hp->(List V->Hp->Prop)->Prop
structure Ends where
 nx:St->Hp->Prop
 rt:VK
 bk:St->Hp->Prop:=fun _ _=>False
 ct:St->Hp->Prop:=fun _ _=>False
abbrev TS:=Ends->St->Hp->Prop
def EP(X:Cx)(pins:gE)(σ:St)(Q:VK)(u:gg)(s':fW):Prop:= ∃v H',Inv X pins σ H' s'/\RelV v u/\Q v H'
def TP(X:Cx)(pins:gE)(σ:St)(Q:Bool->Hp->Prop)(b:Bool)(s':fW):Prop:= ∃H',Inv X pins σ H' s'/\Q b H'
def AP(X:Cx)(pins:gE)(σ:St)(Q:List V->Hp->Prop)(us:hV)(s':fW):Prop:= ∃vs H',Inv X pins σ H' s'/\Vals vs us/\Q vs H'
def SP(X:Cx)(pins:gE)(D:Ends)(f:Flow)(s':fW):Prop:=
 match f with
 | .next=> ∃σ' H',Inv X pins σ' H' s'/\D.nx σ' H'
 | .brk=> ∃σ' H',Inv X pins σ' H' s'/\D.bk σ' H'
 | .cont=> ∃σ' H',Inv X pins σ' H' s'/\D.ct σ' H'
 | .ret u=> ∃v σ' H',Inv X pins σ' H' s'/\RelV v u/\D.rt v H'
def PE(X:Cx)(e:gf)(t:TE):Prop:=
 ∀(pins:gE) (s:fW) (σ:St) (H:Hp) (Q:VK),Inv X pins σ H s->t σ H Q->wpAny (model X.prog X.w) X.A (eval e X.env) (EP X pins σ Q) X.xe s
def PT(X:Cx)(e:gf)(t:TT):Prop:=
 ∀(pins:gE) (s:fW) (σ:St) (H:Hp) (Q:Bool->Hp->Prop),Inv X pins σ H s->t σ H Q->wpAny (model X.prog X.w) X.A (isTrue e X.env (eval e X.env)) (TP X pins σ Q) X.xe s
def PW(X:Cx)(e:gf)(t:TT):Prop:=
 ∀(whole:Sem Value) (pins:gE) (s:fW) (σ:St) (H:Hp) (Q:Bool->Hp->Prop),Inv X pins σ H s->t σ H Q->wpAny (model X.prog X.w) X.A (isTrue e X.env whole) (TP X pins σ Q) X.xe s
theorem PW.pt{X:Cx}{e:gf}{t:TT}(h:PW X e t):PT X e t:=h _
def PA(X:Cx)(es:iL)(t:TA):Prop:=
 ∀(pos:Pos) (pins:gE) (s:fW) (σ:St) (H:Hp) (Q:List V->Hp->Prop),Inv X pins σ H s->t σ H Q->wpAny (model X.prog X.w) X.A (spliced (backTo pos (starEach es X.env))) (AP X pins σ Q) X.xe s
def PS(X:Cx)(st:Stmt)(t:TS):Prop:=
 ∀(pins:gE) (s:fW) (σ:St) (H:Hp) (D:Ends),Inv X pins σ H s->t D σ H->wpAny (model X.prog X.w) X.A (exec st X.env) (SP X pins D) X.xe s
def PSs(X:Cx)(st:List Stmt)(t:TS):Prop:=
 ∀(pins:gE) (s:fW) (σ:St) (H:Hp) (D:Ends),Inv X pins σ H s->t D σ H->wpAny (model X.prog X.w) X.A (execs st X.env) (SP X pins D) X.xe s
theorem thn{α:Type}{t:Sem α}{Q Q':α->Shared->Prop}{M:Model}{A:gw}{E:gH}{s:fW}(h:wpAny M A t Q E s)(hQ: ∀a s,Q a s->Q' a s):wpAny M A t Q' E s:=mN h hQ fun _ _ x=>x
section
variable {X:Cx}
def TN(i:Nat):TE:=fun σ H Q=> ∃v,σ[i]?=some (some v)/\Q v H
noncomputable def tC(v:V):TE:=fun _ H Q=>Q v H
theorem ES{i:Nat}{x:Str}{pos:Pos}(hN:X.N[i]?=some x)(hv:Vis X.env.scope x)(hd:(x==("__debug__":Str))=false:=by decide)(x9:(x==("__classdict__":Str))=false:=by decide):PE X (.Name x pos) (TN i):=by
 intro pins s σ H Q I h;obtain⟨v,e,h⟩:=h;obtain⟨m,hn,hl⟩:=I.loc;obtain⟨u,r,l⟩:=hl i x v hN e hv;have fin:EP X pins σ Q u s:=⟨v,H,I,r,h⟩
 rcases l with⟨hk,hm⟩|⟨hk,c,hc,m6⟩
 ·exact wpAny_Name (Jq I.ok.kind hk hn hm fin) hd
 ·rcases hk with hk|hk
  ·exact wpAny_Name (Jp I.ok.kind hk hc m6 fin) hd
  ·exact wpAny_Name (wpAny_loadName_free I.ok.kind hk hc m6 fin x9) hd
theorem KO{i j pos}:PE X (.Constant (.int i) j pos) (tC (.int i)):=fun _ _ _ H _ I h=>wpAny_Constant_int ⟨.int i,H,I.tok _,⟨_,rfl⟩,h⟩
theorem Sx{b j pos}:PE X (.Constant (.bool b) j pos) (tC (.bl b)):=fun _ _ _ H _ I h=>Constant_bool ⟨.bl b,H,I,rfl,h⟩
theorem Qk{j pos}:PE X (.Constant .none j pos) (tC .non):=fun _ _ _ H _ I h=>Constant_none ⟨.non,H,I,rfl,h⟩
theorem Qh{x j pos}:PE X (.Constant (.str x) j pos) (tC (.str x)):=fun _ _ _ H _ I h=>Calls.Constant_str ⟨.str x,H,I.tok _,⟨_,rfl⟩,h⟩
def Gl(X:Cx)(x:Str):Prop:=X.env.kindOf x=some .globalImplicit
theorem GA{E:gH}{pins:gE}{s:fW}{σ:St}{H:Hp}{x:Str}{u:gg}{pos:Pos}{Q:gH}(I:Inv X pins σ H s)(hg:Gl X x)(hm:X.mg x=some u)(h:Q u s)
  (hd:(x==("__debug__":Str))=false:=by decide):wpAny (model X.prog X.w) X.A (eval (.Name x pos) X.env) Q E s:=
 Jo I.ok.kind hg (Calls.loadGlobal_global (by rw[I.ok.glob];exact I.mod.glob.keeps I.bk) hm h) hd
theorem oR{E:gH}{pins:gE}{s:fW}{σ:St}{H:Hp}{x:Str}{u:gg}{pos:Pos}{Q:gH}(I:Inv X pins σ H s)(hg:Gl X x)(hm:X.mg x=none)(hv:bootBuiltins x=some u)(h:Q u s)
  (hn:x≠"__name__":=by decide)(hd:(x==("__debug__":Str))=false:=by decide):wpAny (model X.prog X.w) X.A (eval (.Name x pos) X.env) Q E s:=by
 obtain⟨mb,h1,h2⟩:=I.mod.blt;exact Jo I.ok.kind hg (Calls.loadGlobal_builtin (by rw[I.ok.glob];exact I.mod.glob.keeps I.bk) hm (by rw[I.ok.blt];exact h1.keeps I.bk) ((h2 x hn).trans hv) h) hd
theorem Gp{x:Str}{v:V}{u:gg}{pos:Pos}(hg:Gl X x)(hm:X.mg x=some u)(r:RelV v u)(hd:(x==("__debug__":Str))=false:=by decide):PE X (.Name x pos) (tC v):=
 fun _ _ _ H _ I h=>GA I hg hm ⟨v,H,I,r,h⟩ hd
theorem Nk{x:Str}{v:V}{u:gg}{pos:Pos}(hg:Gl X x)(hm:X.mg x=none)(hv:bootBuiltins x=some u)(r:RelV v u)(hn:x≠"__name__":=by decide)(hd:(x==("__debug__":Str))=false:=by decide):PE X (.Name x pos) (tC v):=
 fun _ _ _ H _ I h=>oR I hg hm hv ⟨v,H,I,r,h⟩ hn hd
def t2I(ta tb:TE)(k:Int->Int->Hp->Prop):St->Hp->Prop:=fun σ H=>ta σ H fun x H1=>tb σ H1 fun y H2=> ∃i j,x= .int i/\y= .int j/\k i j H2
variable {a b:gf}{ta tb:TE}{pos:Pos}
noncomputable def tCmp(p:Int->Int->Bool)(ta tb:TE):TE:=fun σ H Q=>t2I ta tb (fun i j H2=>Q (.bl (p i j)) H2) σ H
def tB(t:TE):TT:=fun σ H Q=>t σ H fun x H1=> ∃c,x= .bl c/\Q c H1
theorem P4{e:gf}{t:TE}(h:PE X e t)(he: ∀whole,isTrue e X.env whole=(do let v <-whole;standAt e.pos;holding [v] (truthy v)):=by intro _;rfl):PT X e (tB t):=by
 intro pins s σ H Q I hw;refine isTrue_plain (thn (h pins s σ H _ I hw) fun v s1 ⟨x,H1,I1,r1,q1⟩=>?_) (he _);obtain⟨d,rfl,q⟩:=q1;cases r1;exact sP ⟨H1,I1,q⟩
variable {tA tB':TT}{gL:iL}
noncomputable def tOr(t u:TT):TT:=fun σ H Q=>t σ H fun c H1=>if c=true then Q true H1 else u σ H1 Q
noncomputable def tNot(t:TT):TT:=fun σ H Q=>t σ H fun c H1=>Q (!c) H1
theorem PY(ha:PT X a tA):PW X (.BoolOp .Or [a] pos) tA:=by
 intro wh pins s σ H Q I h;refine isTrue_or (thn (ha pins s σ H Q I h) fun c s1 e=>?_)
 cases c with
 |false=>exact isTrue_or_nil e
 |true=>exact e
theorem Sq(ha:PT X a tA)(hb:PW X (.BoolOp .Or (b::gL) pos) tB'):PW X (.BoolOp .Or (a::b::gL) pos) (tOr tA tB'):=by
 intro wh pins s σ H Q I h;refine isTrue_or (thn (ha pins s σ H _ I h) fun c s1 ⟨H1,I1,q1⟩=>?_)
 cases c with
 |true=>exact⟨H1,I1,q1⟩
 |false=>exact hb wh pins s1 σ H1 Q I1 q1
theorem P5(ha:PT X a tA):PT X (.UnaryOp .Not a pos) (tNot tA):=by
 intro pins s σ H Q I h;exact isTrue_not (ha pins s σ H (fun c H1=>Q (!c) H1) I h)
def R6(ta tb:TE):TE:=fun σ H Q=>ta σ H fun x H1=> ∃c,x= .bl c/\if c=true then tb σ H1 Q else Q (.bl false) H1
def RS(ta:TE):TE:=fun σ H Q=>ta σ H fun x H1=> ∃c,x= .bl c/\Q (.bl (!c)) H1
theorem Qi{op}{t:TE}(h:PE X a t):PE X (.BoolOp op [a] pos) t:=fun pins s σ H Q I hw=>BoolOp_one (h pins s σ H Q I hw)
theorem Qn(ha:PE X a ta)(hb:PE X (.BoolOp .And (b::gL) pos) tb):PE X (.BoolOp .And (a::b::gL) pos) (R6 ta tb):=by
 intro pins s σ H Q I h;refine BoolOp_and (thn (ha pins s σ H _ I h) fun v s1 ⟨x,H1,I1,r1,q1⟩=>?_);obtain⟨c,rfl,q1⟩:=q1;cases r1;refine sP ?_
 cases c with
 |true=>exact hb pins s1 σ H1 Q I1 q1
 |false=>exact⟨.bl false,H1,I1,rfl,q1⟩
theorem Qj(ha:PE X a ta):PE X (.UnaryOp .Not a pos) (RS ta):=by
 intro pins s σ H Q I h;refine UnaryOp_ (thn (ha pins s σ H _ I h) fun v s1 ⟨x,H1,I1,r1,q1⟩=>?_);obtain⟨c,rfl,q1⟩:=q1;cases r1;exact not_of (sP ⟨.bl (!c),H1,I1,rfl,q1⟩)
noncomputable def tIf(t:TT)(ta tb:TE):TE:=fun σ H Q=>t σ H fun c H1=>if c=true then ta σ H1 Q else tb σ H1 Q
theorem KP{c:gf}(hc:PT X c tA)(ha:PE X a ta)(hb:PE X b tb):PE X (.IfExp c a b pos) (tIf tA ta tb):=by
 intro pins s σ H Q I h;refine wpAny_IfExp (thn (hc pins s σ H _ I h) fun d s1 ⟨H1,I1,q1⟩=>?_)
 cases d with
 |true=>exact ha pins s1 σ H1 Q I1 q1
 |false=>exact hb pins s1 σ H1 Q I1 q1
end
def SqL(K:gq)(H:Hp)(a:fR)(xs:List V):Prop:=
 Rd H a (.lst xs)\/
  ∃(o:Obj) (its:jz) (n:Nat),K.lookup a=some o/\o.cls= .type "list"/\o.dict=none/\o.data= .seq its n/\its.size<=sizeLine/\Vals xs its.toList
def SqT(K:gq)(H:Hp)(a:fR)(xs:List V):Prop:=
 Rd H a (.tup xs)\/
  ∃(o:Obj) (its:jz) (n:Nat),K.lookup a=some o/\o.cls= .type "tuple"/\o.data= .seq its n/\its.size<=sizeLine/\Vals xs its.toList
noncomputable def UW:Value->Option V
 | .none=>some .non
 | .bool b=>some (.bl b)
 | .int i _=>some (.int i)
 | .str x _=>some (.str x)
 | .bytes b _=>some (.byt b)
 | .float b _=>some (.flt b)
 | .ref a=>some (.ref a)
 | .type n=>some (.ty n)
 |_=>none
theorem RelV.abs{x:V}{u:gg}(r:RelV x u):UW u=some x:=by
 cases x with
 |non=>cases r;rfl
 |bl _=>cases r;rfl
 |int _=>obtain⟨t,rfl⟩:=r;rfl
 |str _=>obtain⟨t,rfl⟩:=r;rfl
 |byt _=>obtain⟨t,rfl⟩:=r;rfl
 |flt _=>obtain⟨t,rfl⟩:=r;rfl
 |ref _=>cases r;rfl
 |ty _=>cases r;rfl
theorem RelV.inj{x y:V}{u:gg}(r:RelV x u)(q:RelV y u):x=y:=iq (r.abs.symm.trans q.abs)
theorem Vals.inj: ∀{xs ys:List V} {us:hV},Vals xs us->Vals ys us->xs=ys
 |_,_,_,.nil,.nil=>rfl
 |_,_,_,.cons r t,.cons r' t'=>by rw[r.inj r',Vals.inj t t']
section
variable {X:Cx}{pins:gE}{σ:St}{H:Hp}{s:fW}{a:fR}{xs ys:List V}
theorem SqL.of{K:gq}(h:H a=some (.lst xs)):SqL K H a xs:= .inl (.inl h)
theorem Inv.list(I:Inv X pins σ H s)(h:SqL X.K H a xs): ∃its:List Value,Vals xs its/\PlainL s.heap a its.toArray/\xs.length<=sizeLine:=by
 rcases h with h|⟨o,its,n,hk,hc,hd,hs,hz,r⟩
 ·obtain⟨z,its,n,r,e⟩:=h.ok I.hok;exact⟨its,r,⟨_,n,e,rfl,rfl,rfl⟩,z⟩
 ·refine⟨its.toList,r,⟨o,n,I.kIn a o hk,hc,hd,by simpa using hs⟩,?_⟩;have e:=r.length;simp only[mf] at e;omega
theorem Inv.tuple(I:Inv X pins σ H s)(h:SqT X.K H a xs): ∃its:List Value,Vals xs its/\IsTup s.heap a its.toArray/\xs.length<=sizeLine:=by
 rcases h with h|⟨o,its,n,hk,hc,hs,hz,r⟩
 ·obtain⟨z,its,r,p⟩:=h.ok I.hok;exact⟨its,r,p,z⟩
 ·refine⟨its.toList,r,⟨o,I.kIn a o hk,hc,n,by simpa using hs⟩,?_⟩;have e:=r.length;simp only[mf] at e;omega
theorem Inv.list_inj(I:Inv X pins σ H s)(h:SqL X.K H a xs)(h':SqL X.K H a ys):xs=ys:=by
 obtain⟨its,r,⟨o,n,e,_,_,d⟩,_⟩:=I.list h;obtain⟨its',r',⟨o',n',e',_,_,d'⟩,_⟩:=I.list h';rw[e] at e';cases e';rw[d] at d';injection d' with d1 _
 have:its=its':=by simpa using nY Array.toList d1
 subst this;exact r.inj r'
theorem Inv.tuple_inj(I:Inv X pins σ H s)(h:SqT X.K H a xs)(h':SqT X.K H a ys):xs=ys:=by
 obtain⟨its,r,⟨o,e,_,n,d⟩,_⟩:=I.tuple h;obtain⟨its',r',⟨o',e',_,n',d'⟩,_⟩:=I.tuple h';rw[e] at e';cases e';rw[d] at d';injection d' with d1 _
 have:its=its':=by simpa using nY Array.toList d1
 subst this;exact r.inj r'
end
abbrev Cx.wish(X:Cx)(E:gH):Cx:={X with xe:=E}
abbrev Cx.nox(X:Cx):Cx:=X.wish fun _ _=>False
theorem Cx.Ok.wish{X:Cx}(ok:X.Ok)(E:gH):(X.wish E).Ok:=
 ⟨ok.mod,ok.kind,ok.glob,ok.blt,ok.above,ok.inj,ok.has,ok.cab,ok.hd,ok.frames,ok.stk,ok.exf,ok.bs,ok.bsz,ok.noex,ok.exfs,ok.funs,ok.frf⟩
theorem Cx.Ok.unwish{X:Cx}{E:gH}(ok:(X.wish E).Ok):X.Ok:=
 ⟨ok.mod,ok.kind,ok.glob,ok.blt,ok.above,ok.inj,ok.has,ok.cab,ok.hd,ok.frames,ok.stk,ok.exf,ok.bs,ok.bsz,ok.noex,ok.exfs,ok.funs,ok.frf⟩
section
variable {X:Cx}{pins:gE}{σ:St}{H:Hp}{s:fW}{E:gH}
theorem Inv.wish(I:Inv X pins σ H s)(E:gH):Inv (X.wish E) pins σ H s:=⟨I.ok.wish E,I.os,I.bare,I.base,I.loc,I.cell,I.free,I.freeC,I.pin,I.hok,I.len⟩
theorem Inv.unwish(I:Inv (X.wish E) pins σ H s):Inv X pins σ H s:=⟨I.ok.unwish,I.os,I.bare,I.base,I.loc,I.cell,I.free,I.freeC,I.pin,I.hok,I.len⟩
theorem SP.unwish{D:Ends}{f:Flow}{s':fW}(h:SP (X.wish E) pins D f s'):SP X pins D f s':=by
 cases f with
 |next=>obtain⟨σ',H',I,q⟩:=h;exact⟨σ',H',I.unwish,q⟩
 |brk=>obtain⟨σ',H',I,q⟩:=h;exact⟨σ',H',I.unwish,q⟩
 |cont=>obtain⟨σ',H',I,q⟩:=h;exact⟨σ',H',I.unwish,q⟩
 |ret u=>obtain⟨v,σ',H',I,r,q⟩:=h;exact⟨v,σ',H',I.unwish,r,q⟩
theorem PSs.nox{st:List Stmt}{t:TS}(h:PSs X.nox st t):PSs X st t:=fun pins s σ H D I hw=>
 mN (h pins s σ H D (I.wish _) hw) (fun _ _ q=>q.unwish) fun _ _ z=>False.elim z
end
section
variable {X:Cx}{st:Stmt}{gL:List Stmt}{t u:TS}{e:gf}{te:TE}{pos:Pos}
noncomputable def RT:TS:=fun D σ H=>D.nx σ H
noncomputable def TR(t u:TS):TS:=fun D σ H=>t {D with nx:=u D} σ H
theorem M8:PSs X [] RT:=fun _ _ σ H _ I h=>Em ⟨σ,H,I,h⟩
theorem Kr(h1:PS X st t)(h2:PSs X gL u):PSs X (st::gL) (TR t u):=by
 intro pins s σ H D I h;refine wpAny_execs_cons (thn (h1 pins s σ H {D with nx:=u D} I h) fun f s1 q=>?_)
 cases f with
 |next=>
  obtain⟨σ',H',I',q⟩:=q;exact h2 pins s1 σ' H' D I' q
 |ret v=>exact q
 |brk=>exact q
 |cont=>exact q
theorem Inv.quiet{pins:gE}{σ:St}{H:Hp}{s:fW}(I:Inv X pins σ H s):interactive X.env=false:=by simp[interactive,I.ok.kind]
noncomputable def RW(te:TE):TS:=fun D σ H=>te σ H fun _ H1=>D.nx σ H1
theorem M9(he:PE X e te)(hs:swapsWith e none pos.line X.env=pure false:=by rfl):PS X (.Expr e pos) (RW te):=by
 intro pins s σ H D I h;exact wpAny_Expr_any (thn (he pins s σ H _ I h) fun v s1 ⟨x,H1,I1,r1,q1⟩=>⟨σ,H1,I1,q1⟩) I.quiet hs
noncomputable def TU(te:TE):TS:=fun D σ H=>te σ H D.rt
theorem Kt(he:PE X e te):PS X (.Return (some e) pos) (TU te):=by
 intro pins s σ H D I h;exact wpAny_Return_some (thn (he pins s σ H _ I h) fun v s1 ⟨x,H1,I1,r1,q1⟩=>⟨x,σ,H1,I1,r1,q1⟩)
noncomputable def TY(c:TT)(t u:TS):TS:=fun D σ H=>c σ H fun b H1=>if b=true then t D σ H1 else u D σ H1
theorem Sr{c:gf}{a b:List Stmt}{tc:TT}(hc:PT X c tc)(ha:PSs X a t)(hb:PSs X b u):PS X (.If c a b pos) (TY tc t u):=by
 intro pins s σ H D I h;refine wpAny_If (thn (hc pins s σ H _ I h) fun d s1 ⟨H1,I1,q1⟩=>?_)
 cases d with
 |true=>exact ha pins s1 σ H1 D I1 q1
 |false=>exact hb pins s1 σ H1 D I1 q1
end
abbrev TG:=V->St->Hp->(St->Hp->Prop)->Prop
abbrev TGs:=List V->St->Hp->(St->Hp->Prop)->Prop
def PG(X:Cx)(target:gf)(t:TG):Prop:=
 ∀(pins:gE) (s:fW) (σ:St) (H:Hp) (v:V) (u:gg) (Q:St->Hp->Prop),Inv X pins σ H s->RelV v u->t v σ H Q->
  wpAny (model X.prog X.w) X.A (assign target X.env u) (fun _ s'=> ∃σ' H',Inv X pins σ' H' s'/\Q σ' H') X.xe s
def PGs(X:Cx)(ts:iL)(t:TGs):Prop:=
 ∀(pins:gE) (s:fW) (σ:St) (H:Hp) (vs:List V) (us:hV) (Q:St->Hp->Prop),Inv X pins σ H s->Vals vs us->t vs σ H Q->
  wpAny (model X.prog X.w) X.A (assignInOrder ((assignEach ts X.env).map (·.2)) us) (fun _ s'=> ∃σ' H',Inv X pins σ' H' s'/\Q σ' H') X.xe s
abbrev N3:=V->V->V->Hp->(Hp->Prop)->Prop
def RB(X:Cx)(t:N3):Prop:=
 ∀(pins:gE) (s:fW) (σ:St) (H:Hp) (o i v:V) (ov iv u:gg) (Q:Hp->Prop),Inv X pins σ H s->RelV o ov->RelV i iv->RelV v u->t o i v H Q->
  wpAny (model X.prog X.w) X.A (setItem ov iv u) (fun _ s'=> ∃H',Inv X pins σ H' s'/\Q H') X.xe s
abbrev TIp:=V->V->Hp->VK->Prop
def PIp(X:Cx)(op:Operator)(t:TIp):Prop:=
 ∀(pins:gE) (s:fW) (σ:St) (H:Hp) (x y:V) (v u:gg) (Q:VK),Inv X pins σ H s->RelV x v->RelV y u->t x y H Q->
  wpAny (model X.prog X.w) X.A (inplaceOp op v u) (EP X pins σ Q) X.xe s
section
variable {X:Cx}{pos:Pos}
noncomputable def Di(i:Nat):TG:=fun v σ H Q=>Q (σ.set i (some v)) H
theorem Gn{i:Nat}{x:Str}(hN:X.N.Nodup)(hi:X.N[i]?=some x)(hx:Loc X.env.scope x)(hf:X.fn x=true\/X.env.scope.names.lookup x=some .local:=by first|exact .inl rfl|exact .inr rfl|assumption):PG X (.Name x pos) (Di i):=by
 intro pins s σ H v u Q I r h;exact wpAny_assign_Name (xK I hN hi hx r (fun s' I'=>⟨_,H,I',h⟩) hf)
noncomputable def UT:TGs:=fun vs σ H Q=>vs=[]/\Q σ H
def SW(t:TG)(u:TGs):TGs:=fun vs σ H Q=> ∃v r,vs=v::r/\t v σ H fun σ' H'=>u r σ' H' Q
theorem Nh:PGs X [] UT:=by
 intro pins s σ H vs us Q I r h;obtain⟨e,h⟩:=h;subst e;cases r;exact assignInOrder_nil ⟨σ,H,I,h⟩
theorem KD{e:gf}{es:iL}{t:TG}{u:TGs}(h1:PG X e t)(h2:PGs X es u)
  (hs:(assignEach (e::es) X.env).map (·.2)=assign e X.env::(assignEach es X.env).map (·.2):=by rfl):PGs X (e::es) (SW t u):=by
 intro pins s σ H vs us Q I r h;obtain⟨v,vr,e1,h⟩:=h;subst e1
 cases r with
 |cons r rr=>
  rw[hs];refine assignInOrder_cons (thn (h1 pins s σ H _ _ _ I r h) fun _ s1 ⟨σ1,H1,I1,q1⟩=>?_);exact h2 pins s1 σ1 H1 _ _ Q I1 rr q1
def US(K:gq)(n:Nat)(t:TGs):TG:=fun v σ H Q=> ∃a xs,v= .ref a/\SqT K H a xs/\xs.length=n/\t xs σ H Q
theorem Qf{es:iL}{k:Nat}{t:TGs}{n:Nat}(hc:X.calm=true)(h:PGs X es t)
  (hn:(assignEach es X.env).length=n:=by rfl)(u3:(assignEach es X.env).findIdx? (·.1)=none:=by rfl):PG X (.Tuple es k pos) (US X.K n t):=by
 intro pins s σ H v u Q I r hw;obtain⟨a,xs,e1,hq,hl,hw⟩:=hw;subst e1;cases r;obtain⟨its,rv,ht,hz⟩:=I.tuple hq;refine assign_Tuple_tuple (I.ok.hd hc) ht (by simp[hn,<-hl,rv.length]) u3 fun h' hx=>?_;have I1:Inv X pins σ H {s with heap:=h'}:=I.kept (t':=s.toks) fun b o e=>hx b o (ip (iw e)) e;exact h pins _ σ H xs _ Q I1 (by simpa using rv) hw
noncomputable def gSub(to ti:TE)(t:N3):TG:=fun v σ H Q=>to σ H fun o H1=>ti σ H1 fun i H2=>t o i v H2 fun H3=>Q σ H3
theorem KG{o i:gf}{to ti:TE}{t:N3}(ho:PE X o to)(hi:PE X i ti)(hs:RB X t)
  (ha: ∀v,assign (.Subscript o i pos) X.env v=(do
   let ov <-holding [v] (eval o X.env)
   let iv <-holding [v,ov] (eval i X.env)
   standAt pos
   holding [v,ov,iv] (setItem ov iv v)
   release [v,ov,iv] []):=by intro _;rfl):PG X (.Subscript o i pos) (gSub to ti t):=by
 intro pins s σ H v u Q I r h;rw[ha];refine fS (kN (thn (ho pins s σ H _ I h) fun ov s1 ⟨x,H1,I1,r1,q1⟩=>?_));refine fS (kN (thn (hi pins s1 σ H1 _ I1 q1) fun iv s2 ⟨y,H2,I2,r2,q2⟩=>?_));refine fS (vR (fS (kN (thn (hs pins s2 σ H2 x y v ov iv u _ I2 r1 r2 r q2) fun _ s3 ⟨H3,I3,q3⟩=>?_))));exact wpAny_release ⟨σ,H3,I3,q3⟩
noncomputable def OW(te:TE)(g:TG):TS:=fun D σ H=>te σ H fun x H1=>g x σ H1 D.nx
theorem EL{tg e:gf}{te:TE}{g:TG}(he:PE X e te)(hg:PG X tg g)(hs:swapsWithSole [tg] e pos.line X.env=pure false:=by rfl)(hw:swappedStores [tg] e X.env=pure none:=by rfl)
  (h1:(assignEach [tg] X.env).map (·.2)=[assign tg X.env]:=by rfl):PS X (.Assign [tg] e pos) (OW te g):=by
 intro pins s σ H D I h;refine wpAny_Assign_stores (thn (he pins s σ H _ I h) fun v s1 ⟨x,H1,I1,r1,q1⟩=>?_) hs hw;rw[h1];exact thn (hg pins s1 σ H1 x v _ I1 r1 q1) fun _ s2 q=>q
theorem P7{i:Nat}{x:Str}{e:gf}{te:TE}{pos':Pos}(hN:X.N.Nodup)(hi:X.N[i]?=some x)(hx:Loc X.env.scope x)(he:PE X e te)(hs:swapsWith e (some (.Name x pos')) pos.line X.env=pure false:=by rfl)(hf:X.fn x=true\/X.env.scope.names.lookup x=some .local:=by first|exact .inl rfl|exact .inr rfl|assumption):
  PS X (.Assign [.Name x pos'] e pos) (OW te (Di i)):=by
 intro pins s σ H D I h;refine wpAny_Assign_Name (thn (he pins s σ H _ I h) fun v s1 ⟨y,H1,I1,r1,q1⟩=>?_) hs;exact xK I1 hN hi hx r1 (fun s2 I2=>⟨_,H1,I2,q1⟩) hf
def T4(i:Nat)(te:TE)(ti:TIp):TS:=fun D σ H=> ∃x,σ[i]?=some (some x)/\te σ H fun y H1=>ti x y H1 fun z H2=>D.nx (σ.set i (some z)) H2
theorem P9{i:Nat}{x:Str}{e:gf}{te:TE}{op:Operator}{ti:TIp}{pos':Pos}(hN:X.N.Nodup)(hi:X.N[i]?=some x)(hx:Loc X.env.scope x)(he:PE X e te)(ho:PIp X op ti)(hf:X.fn x=true\/X.env.scope.names.lookup x=some .local:=by first|exact .inl rfl|exact .inr rfl|assumption):
  PS X (.AugAssign (.Name x pos') op e pos) (T4 i te ti):=by
 intro pins s σ H D I h;obtain⟨v,e1,h⟩:=h;obtain⟨m,hn,hl⟩:=I.loc;have vis:Vis X.env.scope x:=by rcases hx with k|k;exact .inl k;exact .inr (.inl k)
 obtain⟨u,r,l⟩:=hl i x v hi e1 vis;refine wpAny_AugAssign_Name ?_
 have go:wpAny (model X.prog X.w) X.A (eval e X.env) (fun w s₂=>wpAny (model X.prog X.w) X.A (inplaceOp op u w) (fun r s₃=>wpAny (model X.prog X.w) X.A (storeName X.env x r) (fun _=>SP X pins D .next) X.xe s₃) X.xe s₂) X.xe s:=by
  refine thn (he pins s σ H _ I h) fun w s1 ⟨y,H1,I1,r1,q1⟩=>?_;refine thn (ho pins s1 σ H1 v y u w _ I1 r r1 q1) fun z s2 ⟨zv,H2,I2,r2,q2⟩=>?_;exact xK I2 hN hi hx r2 (fun s3 I3=>⟨_,H2,I3,q2⟩) hf
 rcases l with⟨hk,hm⟩|⟨hk,c,hc,m6⟩
 ·exact Jq I.ok.kind hk hn hm go
 ·rcases hk with hk|hk
  ·exact Jp I.ok.kind hk hc m6 go
  ·rcases hx with k|k
   ·have:X.env.scope.names.lookup x=some .free:=hk;rw[k] at this;cases this
   ·have:X.env.scope.names.lookup x=some .free:=hk;rw[k] at this;cases this
def ipI(f:Int->Int->Int):TIp:=fun x y H Q=> ∃i j,x= .int i/\y= .int j/\Q (.int (f i j)) H
theorem Q7:PIp X .Add (ipI fun i j=>i+j):=by
 intro pins s σ H x y v u Q I r1 r2 h;obtain⟨i,j,e1,e2,q⟩:=h;subst e1;subst e2;obtain⟨t,rfl⟩:=r1;obtain⟨t',rfl⟩:=r2;exact iadd_int ⟨.int _,H,I.tok _,⟨_,rfl⟩,q⟩
def OT(c:TT)(tb:TS):TS:=fun D σ H=> ∃W:Nat->St->Hp->Prop,(∃m,W m σ H)/\ ∀m σ H,W m σ H->
 c σ H fun b H1=>if b=true then ∃N:St->Hp->Prop,(∀σ' H',N σ' H'-> ∃m',m'<m/\W m' σ' H')/\tb {D with nx:=N,ct:=N,bk:=D.nx} σ H1 else D.nx σ H1
theorem Ks{c:gf}{body:List Stmt}{tc:TT}{tb:TS}(hp:PassesOwn (model X.prog X.w) X.A X.env X.xe)(hc:PT X c tc)(hb:PSs X body tb):PS X (.While c body [] pos) (OT tc tb):=by
 intro pins s σ H D I h;obtain⟨W,⟨m0,w0⟩,turn⟩:=h;refine wpAny_While (codeAny_whileLoop (fun n s'=> ∃σ' H',Inv X pins σ' H' s'/\W n σ' H') ?_ m0 ⟨σ,H,I,w0⟩);rintro n s1 ⟨σ1,H1,I1,w1⟩;refine wW hp (thn (hc pins s1 σ1 H1 _ I1 (turn n σ1 H1 w1)) fun b s2 ⟨H2,I2,q2⟩=>?_)
 cases b with
 |true=>
  obtain⟨N,hN,q2⟩:=q2;rw[gd rfl];refine wW hp (thn (hb pins s2 σ1 H2 _ I2 q2) fun f s3 q3=>?_)
  cases f with
  |next=>
   obtain⟨σ3,H3,I3,n3⟩:=q3;obtain⟨m',hm,w3⟩:=hN σ3 H3 n3;exact⟨m',hm,σ3,H3,I3,w3⟩
  |cont=>
   obtain⟨σ3,H3,I3,n3⟩:=q3;obtain⟨m',hm,w3⟩:=hN σ3 H3 n3;exact⟨m',hm,σ3,H3,I3,w3⟩
  |brk=>exact q3
  |ret v=>exact q3
 |false=>
  rw[gk iM];exact Em ⟨σ1,H2,I2,q2⟩
end
structure It where
 go:Nat->Hp->Prop
 yld:Nat->Hp->V->Hp->Prop
 stop:Nat->Hp->Prop
def nS(X:Cx)(pins:gE)(H:Hp)(b:fR):Prop:=
 H b=none/\b≠X.env.locals/\b∉X.fs/\(b∈X.ex\/X.s₀.heap.objs.size<=b)/\(∀x c,X.env.cells.lookup x=some c->c≠b)/\ ∀p∈X.pn++pins,p.1≠b
theorem Inv.fpOk{X:Cx}{pins:gE}{σ:St}{H H':Hp}{s:fW}{b:fR}(I:Inv X pins σ H s)(hb:s.heap.objs.size<=b)(hn:H' b=none):nS X pins H' b:=by
 refine⟨hn,md (mP I.lt hb),I.nofs hb,.inr (mO I.sz hb),fun x c e z=>?_,fun p hp z=>?_⟩
 ·obtain⟨v,q⟩:=I.cell x c e;exact absurd (mP q.lt (by rw[z];exact hb)) (pP _)
 ·exact absurd (mP (iw (I.pin p hp).1) (by rw[z];exact hb)) (pP _)
structure Turn(P:gA)(w:gu)(K:gq)(tg:gf)(J:It)(fp:iN)(it:fR)(tn:Nat->Heap->Prop):Prop where
 mem:it∈fp
 obj: ∀i h,tn i h-> ∀b∈fp,∃o,h.get? b=some o/\ ∀v,o.data≠ .cell v
 keep: ∀i h h',tn i h->(∀b∈fp,∀o,h.get? b=some o->h'.get? b=some o)->tn i h'
 item: ∀(X:Cx),X.prog=P->X.w=w->X.K=K->X.calm=true-> ∀(i:Nat) (pins:gE) (s:fW) (σ:St) (H:Hp) (E:gH),Inv X pins σ H s->(∀b∈fp,nS X pins H b)->tn i s.heap->J.go i H->
  wpAny (model P w) X.A (pyNext (.ref it)) (fun r s1=> ∃u,r=some u/\
   wpAny (model P w) X.A (letOwnedTupleGo tg (.ref it) u) (fun _ s2=> ∃x H',Inv X pins σ H' s2/\RelV x u/\J.yld i H x H'/\tn (i+1) s2.heap/\ ∀b∈fp,H' b=none) E s1) E s
 done: ∀(X:Cx),X.prog=P->X.w=w->X.K=K->X.calm=true-> ∀(i:Nat) (pins:gE) (s:fW) (σ:St) (H:Hp) (E:gH),Inv X pins σ H s->(∀b∈fp,nS X pins H b)->tn i s.heap->J.stop i H->
  wpAny (model P w) X.A (pyNext (.ref it)) (fun r s1=>r=none/\Inv X pins σ H s1) E s
 self: ∀(A:gw) (i:Nat) (s:fW) (Q:gH) (E:gH),tn i s.heap->Q (.ref it) s->wpAny (model P w) A (pyIter (.ref it)) Q E s
abbrev TI:=St->Hp->(It->Hp->Prop)->Prop
def PIE(X:Cx)(pins:gE)(σ:St)(tg:gf)(R:It->Hp->Prop)(cA:gg)(s2:fW):Prop:=
 ∃(it:fR) (fp:iN) (tn:Nat->Heap->Prop) (J:It) (H':Hp),cA= .ref it/\Inv X pins σ H' s2/\Turn X.prog X.w X.K tg J fp it tn/\tn 0 s2.heap/\(∀b∈fp,nS X pins H' b)/\R J H'
def PI(X:Cx)(tg iter:gf)(wi:TI):Prop:=
 ∀(pins:gE) (s:fW) (σ:St) (H:Hp) (R:It->Hp->Prop),Inv X pins σ H s->wi σ H R->
  wpAny (model X.prog X.w) X.A (eval iter X.env) (fun v s1=>wpAny (model X.prog X.w) X.A (pyIter v) (PIE X pins σ tg R) X.xe s1) X.xe s
theorem Ly{M:Model}{A:gw}{E:gH}{s:fW}{tg:gf}{it:fR}{u:gg}{o:Obj}{n:String}{vs:jz}{Q:Unit->Shared->Prop}(ho:s.heap.get? it=some o)(hc:o.cls= .type n)(hd:o.data= .fields vs)
  (hn:["enumerate","zip","dict_itemiterator","dict_reverseitemiterator","odict_iterator","itertools.zip_longest","itertools.pairwise"].contains n=false)(hQ:Q () s):wpAny M A (letOwnedTupleGo tg (.ref it) u) Q E s:=by
 unfold letOwnedTupleGo
 cases tg<;>first
  |exact gr hQ
  |(cases u<;>first
    |exact gr hQ
    |(
      refine fS (wpAny_load ho ?_);rw[hc,hd];show wpAny M A (if(["enumerate","zip","dict_itemiterator","dict_reverseitemiterator","odict_iterator","itertools.zip_longest","itertools.pairwise"].contains n&&vs[0]?==some (rawInt _))=true then _ else _) Q E s;rw[gk (by intro h;rw[hn,Bool.false_and] at h;cases h)];exact gr hQ))
noncomputable def Itl(K:gq)(a:fR):It:=
 ⟨fun i H=> ∃xs x,SqL K H a xs/\xs[i]?=some x,fun i H x H'=>H'=H/\ ∀xs,SqL K H a xs->xs[i]?=some x,fun i H=> ∃xs,SqL K H a xs/\xs.length<=i⟩
noncomputable def Itt(K:gq)(a:fR):It:=
 ⟨fun i H=> ∃xs x,SqT K H a xs/\xs[i]?=some x,fun i H x H'=>H'=H/\ ∀xs,SqT K H a xs->xs[i]?=some x,fun i H=> ∃xs,SqT K H a xs/\xs.length<=i⟩
noncomputable def Itr(lo:Int)(n:Nat):It:=⟨fun i _=>i<n,fun i H x H'=>H'=H/\x= .int (lo+i),fun i _=>n<=i⟩
theorem Hb{P:gA}{w:gu}{K:gq}{tg:gf}(a it:fR):Turn P w K tg (Itl K a) [it] it (fun i h=>h.IsListIter it a i) where
 mem:=by simp
 obj:=fun i h st b hb=>by
  have e:b=it:=by simpa using hb
  subst e;obtain⟨o,e,c,d⟩:=st;exact⟨o,e,fun v z=>by rw[d] at z;cases z⟩
 keep:=fun i h h' st k=>st.at fun o e=>k it (by simp) o e
 item:=by
  intro X hP hw hK hc i pins s σ H E I hf st hg;subst hP hw hK;obtain⟨xs,x,hq,hx⟩:=hg;obtain⟨its,rv,p,hz⟩:=I.list hq;obtain⟨u,hu,ru⟩:=rv.get hx;obtain⟨f0,f1,f2,f3,f4,f5⟩:=hf it (by simp);refine wpAny_pyNext_list_item st p.isList (x:=u) (by simpa using hu) fun h' b6 sb=>?_;have I1:Inv X pins σ H {s with heap:=h'}:=I.turned (t':=s.toks) (fun b o hb e=>(sb.2 b hb).trans e) f0 f1 f3 f4 f5;obtain⟨o,e,c,d⟩:=id b6;exact⟨u,rfl,Ly (s:={s with heap:=h'}) e c d (by decide) ⟨x,H,I1,ru,⟨rfl,fun ys hy=>by rw[I.list_inj hy hq];exact hx⟩,b6,fun b hb=>(hf b hb).1⟩⟩
 done:=by
  intro X hP hw hK hc i pins s σ H E I hf st hg;subst hP hw hK;obtain⟨xs,hq,hx⟩:=hg;obtain⟨its,rv,p,hz⟩:=I.list hq;obtain⟨f0,f1,f2,f3,f4,f5⟩:=hf it (by simp);have hl:=rv.length;exact wpAny_pyNext_list_end (I.ok.hd hc) st p.isList (by simp;omega) fun h' eb=>⟨rfl,I.turned (t':=s.toks) (fun b o hb e=>eb b o hb e) f0 f1 f3 f4 f5⟩
 self:=fun _ _ _ _ _ st h=>wpAny_pyIter_listiter st h
theorem Et{P:gA}{w:gu}{K:gq}{tg:gf}(a it:fR):Turn P w K tg (Itt K a) [it] it (fun i h=>h.IsTupleIter it a i) where
 mem:=by simp
 obj:=fun i h st b hb=>by
  have e:b=it:=by simpa using hb
  subst e;obtain⟨o,e,c,d⟩:=st;exact⟨o,e,fun v z=>by rw[d] at z;cases z⟩
 keep:=fun i h h' st k=>st.at fun o e=>k it (by simp) o e
 item:=by
  intro X hP hw hK hc i pins s σ H E I hf st hg;subst hP hw hK;obtain⟨xs,x,hq,hx⟩:=hg;obtain⟨its,rv,p,hz⟩:=I.tuple hq;obtain⟨u,hu,ru⟩:=rv.get hx;obtain⟨f0,f1,f2,f3,f4,f5⟩:=hf it (by simp);refine wpAny_pyNext_tuple_item st (show s.heap.IsTuple a its.toArray from p) (x:=u) (by simpa using hu) fun h' b6 sb=>?_;have I1:Inv X pins σ H {s with heap:=h'}:=I.turned (t':=s.toks) (fun b o hb e=>(sb.2 b hb).trans e) f0 f1 f3 f4 f5;obtain⟨o,e,c,d⟩:=id b6;exact⟨u,rfl,Ly (s:={s with heap:=h'}) e c d (by decide) ⟨x,H,I1,ru,⟨rfl,fun ys hy=>by rw[I.tuple_inj hy hq];exact hx⟩,b6,fun b hb=>(hf b hb).1⟩⟩
 done:=by
  intro X hP hw hK hc i pins s σ H E I hf st hg;subst hP hw hK;obtain⟨xs,hq,hx⟩:=hg;obtain⟨its,rv,p,hz⟩:=I.tuple hq;obtain⟨f0,f1,f2,f3,f4,f5⟩:=hf it (by simp);have hl:=rv.length;exact wpAny_pyNext_tuple_end (I.ok.hd hc) st (show s.heap.IsTuple a its.toArray from p) (by simp;omega) fun h' eb=>⟨rfl,I.turned (t':=s.toks) (fun b o hb e=>eb b o hb e) f0 f1 f3 f4 f5⟩
 self:=fun _ _ _ _ _ st h=>wpAny_pyIter_tupleiter st h
theorem Eu{P:gA}{w:gu}{K:gq}{tg:gf}(it:fR)(lo:Int)(n:Nat):Turn P w K tg (Itr lo n) [it] it (fun i h=>IsRangeIter h it (lo+(i:Nat)*1) ((n:Int)-(i:Nat)) 1) where
 mem:=by simp
 obj:=fun i h st b hb=>by
  have e:b=it:=by simpa using hb
  subst e
  exact⟨_,st,fun v z=>by
   have z':Data.fields _=Data.cell v:=z;cases z'⟩
 keep:=fun i h h' st k=>k it (by simp) _ st
 item:=by
  intro X hP hw hK hc i pins s σ H E I hf st hg;subst hP hw hK;obtain⟨f0,f1,f2,f3,f4,f5⟩:=hf it (by simp);have W:=Walks.range (prog:=X.prog) (w:=X.w) (I.ok.hd hc) it lo 1 n;refine W.item i s _ _ hg st fun v h' tk hv b6 kk=>?_;obtain⟨t,rfl⟩:=hv;have I1:Inv X pins σ H {s with heap:=h',toks:=tk}:=I.turned (fun b o hb e=>kk b o (by simpa using hb) e) f0 f1 f3 f4 f5;refine⟨_,rfl,Ly (s:={s with heap:=h',toks:=tk}) (n:="range_iterator") b6 rfl rfl (by decide) ⟨.int (lo+i),H,I1,⟨t,?_⟩,⟨rfl,rfl⟩,b6,fun b hb=>(hf b hb).1⟩⟩;rw[xp]
 done:=by
  intro X hP hw hK hc i pins s σ H E I hf st hg;subst hP hw hK;obtain⟨f0,f1,f2,f3,f4,f5⟩:=hf it (by simp);exact wpAny_pyNext_range_end (I.ok.hd hc) st (by have:n<=i:=hg;omega) fun h' eb=>⟨rfl,I.turned (t':=s.toks) (fun b o hb e=>eb b o hb e) f0 f1 f3 f4 f5⟩
 self:=fun _ _ _ _ _ st h=>wpAny_pyIter_rangeiter st h
section
variable {X:Cx}{tg:gf}
def SV(K:gq)(tl:TE):TI:=fun σ H R=>tl σ H fun x H1=> ∃a,x= .ref a/\(∃xs,SqL K H1 a xs)/\R (Itl K a) H1
def UR(K:gq)(tl:TE):TI:=fun σ H R=>tl σ H fun x H1=> ∃a,x= .ref a/\(∃xs,SqT K H1 a xs)/\R (Itt K a) H1
theorem Nf{l:gf}{tl:TE}(hl:PE X l tl):PI X tg l (SV X.K tl):=by
 intro pins s σ H R I h;refine thn (hl pins s σ H _ I h) fun v s1 ⟨x,H1,I1,r1,q1⟩=>?_;obtain⟨a,e,⟨xs,hq⟩,q⟩:=q1;subst e;cases r1;obtain⟨its,rv,p,hz⟩:=I1.list hq;refine xo p.isList ?_;refine⟨s1.heap.objs.size,[s1.heap.objs.size],_,_,H1,rfl,I1.kept (t':=s1.toks) fun b o e=>iF _ e,Hb a _,⟨_,jb _ rfl,rfl,rfl⟩,fun b hb=>?_,q⟩;have e:b=s1.heap.objs.size:=by simpa using hb
 subst e;exact I1.fpOk (gY _) (I1.hok.fresh (gY _))
theorem Qe{l:gf}{tl:TE}(hl:PE X l tl):PI X tg l (UR X.K tl):=by
 intro pins s σ H R I h;refine thn (hl pins s σ H _ I h) fun v s1 ⟨x,H1,I1,r1,q1⟩=>?_;obtain⟨a,e,⟨xs,hq⟩,q⟩:=q1;subst e;cases r1;obtain⟨its,rv,p,hz⟩:=I1.tuple hq;refine wpAny_pyIter_tuple (show s1.heap.IsTuple a its.toArray from p) ?_;refine⟨s1.heap.objs.size,[s1.heap.objs.size],_,_,H1,rfl,I1.kept (t':=s1.toks) fun b o e=>iF _ e,Et a _,⟨_,jb _ rfl,rfl,rfl⟩,fun b hb=>?_,q⟩;have e:b=s1.heap.objs.size:=by simpa using hb
 subst e;exact I1.fpOk (gY _) (I1.hok.fresh (gY _))
theorem CO{pins:gE}{σ:St}{H:Hp}{s:fW}{R:It->Hp->Prop}{E:gH}{lo hi:Int}{t u v:Tok}{tk:Nat}(I:Inv X pins σ H s)(h1: -(2^62)<=lo)(h2:lo<2^62)(h3: -(2^62)<=hi)(h4:hi<2^62)
  (q:R (Itr lo (hi-lo).toNat) H):wpAny (model X.prog X.w) X.A (pyIter (.ref s.heap.objs.size)) (PIE X pins σ tg R) E {s with heap:=s.heap.push {cls:= .type "range",data:= .fields #[.int lo t,.int hi u,.int 1 v]},toks:=tk}:=by
 refine wpAny_pyIter_range (IsRange.new ..) (small_one h1 h2 h3 h4) ?_;have I1:Inv X pins σ H {s with heap:=s.heap.push {cls:= .type "range",data:= .fields #[.int lo t,.int hi u,.int 1 v]},toks:=tk}:=I.kept fun b o e=>iF _ e
 refine⟨(s.heap.push {cls:= .type "range",data:= .fields #[.int lo t,.int hi u,.int 1 v]}).objs.size,[(s.heap.push {cls:= .type "range",data:= .fields #[.int lo t,.int hi u,.int 1 v]}).objs.size],_,_,H,rfl,
  I1.kept (t':=tk) fun b o e=>iF _ e,Eu _ lo (hi-lo).toNat,?_,fun b hb=>?_,q⟩
 ·have e1:lo+((0:Nat):Int)*1=lo:=by simp
  have e2:(((hi-lo).toNat:Nat):Int)-((0:Nat):Int)=Builtin.Range.rangeSize lo hi 1:=by rw[rangeSize_one];split<;>omega
  show IsRangeIter _ _ (lo+((0:Nat):Int)*1) ((((hi-lo).toNat:Nat):Int)-((0:Nat):Int)) 1;rw[e1,e2];exact jb _ rfl
 ·have e:b=(s.heap.push {cls:= .type "range",data:= .fields #[.int lo t,.int hi u,.int 1 v]}).objs.size:=by simpa using hb
  subst e;exact I1.fpOk (gY _) (I1.hok.fresh (gY _))
def SU(ta:TA):TI:=fun σ H R=>ta σ H fun vs H1=> ∃j:Int,vs=[.int j]/\ -(2^62)<=j/\j<2^62/\R (Itr 0 j.toNat) H1
def SR(ta:TA):TI:=fun σ H R=>ta σ H fun vs H1=> ∃i j:Int,vs=[.int i,.int j]/\(-(2^62)<=i/\i<2^62/\ -(2^62)<=j/\j<2^62)/\R (Itr i (j-i).toNat) H1
theorem HA{a:gf}{ta:TA}{p pos:Pos}(hg:Gl X "range")(hm:X.mg "range"=none)(ha:PA X [a] ta)(hs:starEach [a] X.env=[(false,eval a X.env)]:=by rfl):PI X tg (.Call (.Name "range" p) [a] [] pos) (SU ta):=by
 intro pins s σ H R I h;refine Call_ (oR I hg hm A4 (A3 (thn (ha pos pins s σ H _ I h) fun us s1 ⟨vs,H1,I1,r1,q1⟩=>?_) hs rfl));obtain⟨j,e,q1,q2,q⟩:=q1;subst e
 cases r1 with
 |cons r rr=>
  cases rr;obtain⟨t,rfl⟩:=r;exact call_range_1 (CO I1 (by omega) (by omega) q1 q2 (by simpa using q))
theorem Hz{a b:gf}{ta:TA}{p pos:Pos}(hg:Gl X "range")(hm:X.mg "range"=none)(ha:PA X [a,b] ta)(hs:starEach [a,b] X.env=[(false,eval a X.env),(false,eval b X.env)]:=by rfl)(n5:starEach [b] X.env=[(false,eval b X.env)]:=by rfl):
  PI X tg (.Call (.Name "range" p) [a,b] [] pos) (SR ta):=by
 intro pins s σ H R I h;refine Call_ (oR I hg hm A4 (A3 (thn (ha pos pins s σ H _ I h) fun us s1 ⟨vs,H1,I1,r1,q1⟩=>?_) (by rw[hs,n5]) (by rw[n5];rfl)));obtain⟨i,j,e,⟨q1,q2,q3,q4⟩,q⟩:=q1;subst e
 cases r1 with
 |cons r rr=>
  cases rr with
  |cons r' rr=>
   cases rr;obtain⟨t,rfl⟩:=r;obtain⟨t',rfl⟩:=r';exact call_range_2 (CO I1 q1 q2 q3 q4 q)
def TZ(wi:TI)(g:TG)(tb:TS):TS:=fun D σ H=>wi σ H fun J H1=> ∃W:Nat->Nat->St->Hp->Prop,(∃m,W 0 m σ H1)/\ ∀i m σ H,W i m σ H->
 (J.stop i H/\D.nx σ H)\/(J.go i H/\ ∃N:St->Hp->Prop,(∀σ' H',N σ' H'-> ∃m',m'<m/\W (i+1) m' σ' H')/\ ∀x H',J.yld i H x H'->g x σ H' fun σ2 H2=>tb {D with nx:=N,ct:=N,bk:=D.nx} σ2 H2)
noncomputable def yc(fp:iN)(h:gD):List (Addr×Obj):=fp.filterMap fun b=>(h.get? b).map fun o=>(b,o)
theorem oQ{fp:iN}{h:gD}{b:fR}{o:Obj}(hb:b∈fp)(e:h.get? b=some o):(b,o)∈yc fp h:=List.mem_filterMap.mpr ⟨b,hb,by rw[e];rfl⟩
theorem HG{fp:iN}{h:gD}{p:Addr×Obj}(hp:p∈yc fp h):p.1∈fp/\h.get? p.1=some p.2:=by
 obtain⟨b,hb,e⟩:=List.mem_filterMap.mp hp
 cases q:h.get? b with
 |none=>rw[q] at e;cases e
 |some o=>
  rw[q] at e;have e':(b,o)=p:=iq e;subst e';exact⟨hb,q⟩
theorem Inv.pinned{pins:gE}{σ:St}{H:Hp}{s:fW}{fp:iN}(I:Inv X pins σ H s)(hf: ∀b∈fp,nS X pins H b)(ho: ∀b∈fp,∃o,s.heap.get? b=some o/\ ∀v,o.data≠ .cell v):Inv X (pins++yc fp s.heap) σ H s:=
 I.pins_of fun p hp=>(nU.mp hp).elim (fun z=>I.pin p (nX _ z)) fun z=>by
  obtain⟨hb,e⟩:=HG z;obtain⟨f0,f1,f2,_⟩:=hf p.1 hb;obtain⟨o,e',d⟩:=ho p.1 hb;rw[e] at e';cases e';exact⟨e,f0,f1,f2,d⟩
theorem Inv.unpinned{pins pl:gE}{σ:St}{H:Hp}{s:fW}(I:Inv X (pins++pl) σ H s):Inv X pins σ H s:=I.pins_of fun p hp=>I.pin p (nX _ (Jr _ hp))
theorem P8{iter:gf}{body:List Stmt}{wi:TI}{g:TG}{tb:TS}{pos:Pos}(hp:PassesOwn (model X.prog X.w) X.A X.env X.xe)(hc:X.calm=true)(hi:PI X tg iter wi)(hg:PG X tg g)(hb:PSs X body tb)
  (hs: ∀x,foldedSetIterable iter X.env x=pure x:=by intro _;rfl):PS X (.For tg iter body [] pos) (TZ wi g tb):=by
 intro pins s σ H D I h;refine wpAny_For (thn (hi pins s σ H _ I h) fun v s1 h1=>thn h1 fun cA s2 h2=>?_) hs;obtain⟨it,fp,tn,J,H2,e,I2,T,g0,f2,W,⟨m0,w0⟩,turn⟩:=h2;subst e;have y7: ∀{H':Hp},(∀b∈fp,H' b=none)-> ∀b∈fp,nS X pins H' b:=fun hn b hb=>⟨hn b hb,(f2 b hb).2⟩
 refine codeAny_forLoop_any (fun n s'=> ∃i σ' H',Inv X pins σ' H' s'/\tn i s'.heap/\(∀b∈fp,H' b=none)/\W i n σ' H') ?_ m0 ⟨0,σ,H2,I2,g0,fun b hb=>(f2 b hb).1,w0⟩;rintro n s3 ⟨i,σ3,H3,I3,l5,cF,w3⟩;rcases turn i n σ3 H3 w3 with⟨stop,qn⟩|⟨go,N,hN,step⟩
 ·refine wW hp (thn (T.done X rfl rfl rfl hc i pins s3 σ3 H3 X.xe I3 (y7 cF) l5 stop) fun r s4 ⟨hr,I4⟩=>?_);subst hr;exact Em ⟨σ3,H3,I4,qn⟩
 ·refine wW hp (thn (T.item X rfl rfl rfl hc i pins s3 σ3 H3 X.xe I3 (y7 cF) l5 go) fun r s4 ⟨u,hr,h4⟩=>?_);subst hr;refine wW hp (thn h4 fun _ s5 ⟨x,H5,I5,r5,y5,aW,fm⟩=>?_);have fL:=I5.pinned (y7 fm) (T.obj _ _ aW);refine wW hp (thn (hg _ s5 σ3 H5 x u _ fL r5 (step x H5 y5)) fun _ s6 ⟨σ6,H6,I6,q6⟩=>?_);refine wW hp (thn (hb _ s6 σ6 H6 _ I6 q6) fun f s7 q7=>?_)
  have again: ∀{σ7:St} {H7:Hp},Inv X (pins++yc fp s5.heap) σ7 H7 s7->N σ7 H7-> ∃m,m<n/\ ∃i σ' H',Inv X pins σ' H' s7/\tn i s7.heap/\(∀b∈fp,H' b=none)/\W i m σ' H':=fun {σ7 H7} I7 n7=>by
   obtain⟨m',hm,w7⟩:=hN σ7 H7 n7;refine⟨m',hm,i+1,σ7,H7,I7.unpinned,T.keep _ _ _ aW fun b hb o e=>(I7.pin (b,o) (nX _ (nX _ (oQ hb e)))).1,fun b hb=>?_,w7⟩;obtain⟨o,e,d⟩:=T.obj _ _ aW b hb;exact(I7.pin (b,o) (nX _ (nX _ (oQ hb e)))).2.1
  cases f with
  |next=>obtain⟨σ7,H7,I7,n7⟩:=q7;exact again I7 n7
  |cont=>obtain⟨σ7,H7,I7,n7⟩:=q7;exact again I7 n7
  |brk=>obtain⟨σ7,H7,I7,q7⟩:=q7;exact⟨σ7,H7,I7.unpinned,q7⟩
  |ret v=>obtain⟨x7,σ7,H7,I7,r7,q7⟩:=q7;exact⟨x7,σ7,H7,I7.unpinned,r7,q7⟩
end
abbrev R2:=V->V->Hp->VK->Prop
def OpR(X:Cx)(f:vF)(r:R2):Prop:=
 ∀(pins:gE) (s:fW) (σ:St) (H:Hp) (x y:V) (v u:gg) (Q:VK),Inv X pins σ H s->RelV x v->RelV y u->r x y H Q->
  wpAny (model X.prog X.w) X.A (f v u) (EP X pins σ Q) X.xe s
def UnR(X:Cx)(f:Value->Sem Value)(r:V->Hp->VK->Prop):Prop:=
 ∀(pins:gE) (s:fW) (σ:St) (H:Hp) (x:V) (v:gg) (Q:VK),Inv X pins σ H s->RelV x v->r x H Q->
  wpAny (model X.prog X.w) X.A (f v) (EP X pins σ Q) X.xe s
def je(X:Cx)(f:gg)(r:List V->Hp->VK->Prop):Prop:=
 ∀(pins:gE) (s:fW) (σ:St) (H:Hp) (xs:List V) (us:hV) (Q:VK),Inv X pins σ H s->Vals xs us->r xs H Q->
  wpAny (model X.prog X.w) X.A (call f us) (EP X pins σ Q) X.xe s
noncomputable def tOp(r:R2)(ta tb:TE):TE:=fun σ H Q=>ta σ H fun x H1=>tb σ H1 fun y H2=>r x y H2 Q
def tUn(r:V->Hp->VK->Prop)(ta:TE):TE:=fun σ H Q=>ta σ H fun x H1=>r x H1 Q
def rI(C:Int->Int->Prop)(g:Int->Int->V):R2:=fun x y H Q=> ∃i j,x= .int i/\y= .int j/\C i j/\Q (g i j) H
def rI0(g:Int->Int->V):R2:=fun x y H Q=> ∃i j,x= .int i/\y= .int j/\Q (g i j) H
def rU(g:Int->V):V->Hp->VK->Prop:=fun x H Q=> ∃i,x= .int i/\Q (g i) H
section
variable {X:Cx}{a b c:gf}{ta tb tc:TE}{pos:Pos}
theorem Rx(ha:PE X a ta)(hb:PE X b tb){pins:gE}{s:fW}{σ:St}{H:Hp}{R:V->V->Hp->Prop}(I:Inv X pins σ H s)
  (h:ta σ H fun x H1=>tb σ H1 fun y H2=>R x y H2){Q:gH}{f:vF}
  (hf: ∀v u s2 x y H2,Inv X pins σ H2 s2->RelV x v->RelV y u->R x y H2->wpAny (model X.prog X.w) X.A (f v u) Q X.xe s2):
  wpAny (model X.prog X.w) X.A (eval a X.env) (fun v s₁=>wpAny (model X.prog X.w) X.A (eval b X.env) (fun u s₂=>wpAny (model X.prog X.w) X.A (f v u) Q X.xe s₂) X.xe s₁) X.xe s:=by
 refine thn (ha pins s σ H _ I h) fun v s1 ⟨x,H1,I1,r1,q1⟩=>?_;refine thn (hb pins s1 σ H1 _ I1 q1) fun u s2 ⟨y,H2,I2,r2,q2⟩=>?_;exact hf v u s2 x y H2 I2 r1 r2 q2
theorem Sv{op:Operator}{r:R2}(ho:OpR X (binaryOp op) r)(ha:PE X a ta)(hb:PE X b tb):PE X (.BinOp a op b pos) (tOp r ta tb):=by
 intro pins s σ H Q I h;exact wpAny_BinOp (Rx ha hb I h fun v u s2 x y H2 I2 rx ry q=>ho pins s2 σ H2 x y v u Q I2 rx ry q)
theorem Su{op:UnaryOp}{r:V->Hp->VK->Prop}(ho:UnR X (unaryOp op) r)(ha:PE X a ta):PE X (.UnaryOp op a pos) (tUn r ta):=by
 intro pins s σ H Q I h;exact UnaryOp_ (thn (ha pins s σ H _ I h) fun v s1 ⟨x,H1,I1,r1,q1⟩=>ho pins s1 σ H1 x v Q I1 r1 q1)
theorem opI{f:vF}{C:Int->Int->Prop}{g:Int->Int->Int}
  (rule: ∀(i j:Int) (t u:Tok) (s:fW) (Q:gH) (E:gH),C i j->Q (.int (g i j) s.toks) {s with toks:=s.toks+1}->wpAny (model X.prog X.w) X.A (f (.int i t) (.int j u)) Q E s):
  OpR X f (rI C fun i j=> .int (g i j)):=by
 intro pins s σ H x y v u Q I rx ry h;obtain⟨i,j,rfl,rfl,hc,q⟩:=h;obtain⟨t,rfl⟩:=rx;obtain⟨t',rfl⟩:=ry;exact rule i j t t' s _ _ hc ⟨.int (g i j),H,I.tok _,⟨_,rfl⟩,q⟩
theorem QD{f:vF}{g:Int->Int->Int}
  (rule: ∀(i j:Int) (t u:Tok) (s:fW) (Q:gH) (E:gH),Q (.int (g i j) s.toks) {s with toks:=s.toks+1}->wpAny (model X.prog X.w) X.A (f (.int i t) (.int j u)) Q E s):
  OpR X f (rI0 fun i j=> .int (g i j)):=by
 intro pins s σ H x y v u Q I rx ry h;obtain⟨i,j,rfl,rfl,q⟩:=h;obtain⟨t,rfl⟩:=rx;obtain⟨t',rfl⟩:=ry;exact rule i j t t' s _ _ ⟨.int (g i j),H,I.tok _,⟨_,rfl⟩,q⟩
theorem Nx{f:vF}{g:Int->Int->Bool}
  (rule: ∀(i j:Int) (t u:Tok) (s:fW) (Q:gH) (E:gH),Q (.bool (g i j)) s->wpAny (model X.prog X.w) X.A (f (.int i t) (.int j u)) Q E s):
  OpR X f (rI0 fun i j=> .bl (g i j)):=by
 intro pins s σ H x y v u Q I rx ry h;obtain⟨i,j,rfl,rfl,q⟩:=h;obtain⟨t,rfl⟩:=rx;obtain⟨t',rfl⟩:=ry;exact rule i j t t' s _ _ ⟨.bl (g i j),H,I,rfl,q⟩
def Iu(i j:Int):Prop:=0<j/\j<1073741824
def ux(i j:Int):Prop:=0<=j/\j<=1000000/\i.natAbs<2^64
def CMul(i j:Int):Prop:=(-(2^64)<i/\i<2^64)\/(-(2^64)<j/\j<2^64)
theorem CMul.ok{i j:Int}(h:CMul i j):IntMulOk i j:=by
 rcases h with⟨h1,h2⟩|⟨h1,h2⟩
 ·exact .of_left (intBits_le_64 h1 h2)
 ·exact .of_right (intBits_le_64 h1 h2)
theorem Es(k:Nat):(0:Int)<=2^k:=by
 rw[two_pow_cast];exact Int.natCast_nonneg _
theorem Qz:OpR X (binaryOp .Add) (rI0 fun i j=> .int (i+j)):=QD fun _ _ _ _ _ _ _ q=>add_int q
theorem Qq:OpR X (binaryOp .Sub) (rI0 fun i j=> .int (i-j)):=QD fun _ _ _ _ _ _ _ q=>sub_int q
theorem Qv:OpR X (binaryOp .Mult) (rI CMul fun i j=> .int (i*j)):=opI fun _ _ _ _ _ _ _ hc q=>mul_int q hc.ok
theorem Nv:OpR X (binaryOp .FloorDiv) (rI Iu fun i j=> .int (i / j)):=opI fun i j _ _ _ _ _ hc q=>by
 have h1:(0:Int)<j:=hc.1;have h2:j<1073741824:=hc.2;exact floordiv_int (by omega) (by rw[Jn i (by omega)];exact q) (.inl (PyProof.noPylong_small (by omega)))
theorem Qw:OpR X (binaryOp .Mod) (rI (fun _ j=>0<j) fun i j=> .int (i%j)):=opI fun i j _ _ _ _ _ hc q=>by
 have h1:(0:Int)<j:=hc;exact mod_int' (by omega) (by rw[Int.fmod_eq_emod_of_nonneg i (by omega)];exact q)
theorem Qt:OpR X (binaryOp .Pow) (rI ux fun i j=> .int (i^j.toNat)):=opI fun _ _ _ _ _ _ _ hc q=>pow_int_small hc.1 hc.2.1 hc.2.2 q
theorem Qs:OpR X (binaryOp .LShift) (rI ux fun i j=> .int (i*2^j.toNat)):=opI fun _ _ _ _ _ _ _ hc q=>lshift_int_small hc.1 hc.2.1 hc.2.2 q
theorem Qr:OpR X (binaryOp .RShift) (rI (fun _ j=>0<=j) fun i j=> .int (i / 2^j.toNat)):=opI fun i j _ _ _ _ _ hc q=>
 rshift_int hc (by rw[Jn i (Es _)];exact q)
theorem Qy:OpR X (binaryOp .BitAnd) (rI0 fun i j=> .int (Builtin.bitAnd i j)):=QD fun _ _ _ _ _ _ _ q=>and_int q
theorem unI{f:Value->Sem Value}{g:Int->Int}
  (rule: ∀(i:Int) (t:Tok) (s:fW) (Q:gH) (E:gH),Q (.int (g i) s.toks) {s with toks:=s.toks+1}->wpAny (model X.prog X.w) X.A (f (.int i t)) Q E s):
  UnR X f (rU fun i=> .int (g i)):=by
 intro pins s σ H x v Q I rx h;obtain⟨i,rfl,q⟩:=h;obtain⟨t,rfl⟩:=rx;exact rule i t s _ _ ⟨.int (g i),H,I.tok _,⟨_,rfl⟩,q⟩
theorem OR:UnR X (unaryOp .USub) (rU fun i=> .int (-i)):=unI fun _ _ _ _ _ q=>neg_int q
theorem LH{pins:gE}{σ:St}{H:Hp}{s:fW}{Q:VK}{k k':Bool}(I:Inv X pins σ H s)(q:Q (.bl k) H)(e:k=k'):EP X pins σ Q (.bool k') s:=by
 subst e;exact⟨.bl k,H,I,rfl,q⟩
theorem SD:OpR X (compareOp .Lt) (rI0 fun i j=> .bl (decide (i<j))):=Nx fun _ _ _ _ _ _ _ q=>lt_int q
theorem SF:OpR X (compareOp .LtE) (rI0 fun i j=> .bl (decide (i<=j))):=Nx fun _ _ _ _ _ _ _ q=>le_int q
theorem SH:OpR X (compareOp .Gt) (rI0 fun i j=> .bl (decide (j<i))):=Nx fun _ _ _ _ _ _ _ q=>gt_int q
theorem SI:OpR X (compareOp .GtE) (rI0 fun i j=> .bl (decide (j<=i))):=Nx fun _ _ _ _ _ _ _ q=>ge_int q
theorem Gu:OpR X (compareOp .IsNot) (fun x y H Q=>y= .non/\Q (.bl (!decide (x= .non))) H):=by
 intro pins s σ H x y v u Q I rx ry h;obtain⟨rfl,q⟩:=h;cases ry;refine isnot_none_gen (LH I q ?_)
 cases x<;>first
  |(cases rx;rfl)
  |(obtain⟨t,rfl⟩:=rx;rfl)
theorem La(b:gf){op:CmpOp}(h:op≠ .In:=by decide)(h2:op≠ .NotIn:=by decide):behindInMarks op b=false:=by
 have e1:(op==CmpOp.In)=false:=by cases op<;>first|rfl|exact absurd rfl h
 have e2:(op==CmpOp.NotIn)=false:=by cases op<;>first|rfl|exact absurd rfl h2
 cases b<;>simp[behindInMarks,e1,e2]
theorem Ni{op:CmpOp}{r:R2}(ho:OpR X (compareOp op) r)(ha:PE X a ta)(hb:PE X b tb)(hm:behindInMarks op b=false):PE X (.Compare a [op] [b] pos) (tOp r ta tb):=by
 intro pins s σ H Q I h;exact wpAny_Compare1 (Rx ha hb I h fun v u s2 x y H2 I2 rx ry q=>ho pins s2 σ H2 x y v u Q I2 rx ry q) hm
def N7(t:TE):TT:=fun σ H Q=>t σ H fun x H'=> ∃k,x= .bl k/\Q k H'
theorem MZ{op:CmpOp}{r:R2}(ho:OpR X (compareOp op) r)(ha:PE X a ta)(hb:PE X b tb)(hm:behindInMarks op b=false):PT X (.Compare a [op] [b] pos) (N7 (tOp r ta tb)):=by
 intro pins s σ H Q I h
 refine wpAny_isTrue_Compare1 (thn (ha pins s σ H _ I h) fun v s1 ⟨x,H1,I1,r1,q1⟩=>thn (hb pins s1 σ H1 _ I1 q1) fun u s2 ⟨y,H2,I2,r2,q2⟩=>
  thn (ho pins s2 σ H2 x y v u _ I2 r1 r2 q2) fun c s3 ⟨z,H3,I3,r3,k,e,q3⟩=>?_) hm
 subst e;cases r3;exact sP ⟨H3,I3,q3⟩
def Ew(r r':R2)(ta tb tc:TE):TE:=fun σ H Q=>ta σ H fun x H1=>tb σ H1 fun y H2=>r x y H2 fun z H3=> ∃k,z= .bl k/\
 (if k=true then tc σ H3 fun w' H4=>r' y w' H4 Q else Q (.bl false) H3)
theorem KR{op m4:CmpOp}{r r':R2}(ho:OpR X (compareOp op) r)(aa:OpR X (compareOp m4) r')(ha:PE X a ta)(hb:PE X b tb)(hc:PE X c tc)
  (hm:lastMarks [op,m4] [b,c]=false:=by with_unfolding_all rfl):PE X (.Compare a [op,m4] [b,c] pos) (Ew r r' ta tb tc):=by
 intro pins s σ H Q I h
 refine Compare_chain (thn (ha pins s σ H _ I h) fun v s1 ⟨x,H1,I1,r1,q1⟩=>chain_link (thn (hb pins s1 σ H1 _ I1 q1) fun u s2 ⟨y,H2,I2,r2,q2⟩=>
  thn (ho pins s2 σ H2 x y v u _ I2 r1 r2 q2) fun d s3 ⟨z,H3,I3,r3,k,e,q3⟩=>?_)) hm
 subst e;cases r3;refine sP ?_
 cases k with
 |false=>exact ite_ff ⟨.bl false,H3,I3,rfl,q3⟩
 |true=>exact ite_tt (chain_last (thn (hc pins s3 σ H3 _ I3 q3) fun w' s4 ⟨z',H4,I4,r4,q4⟩=>aa pins s4 σ H4 y z' u w' Q I4 r2 r4 q4))
theorem Km{op m4:CmpOp}{r r':R2}(ho:OpR X (compareOp op) r)(aa:OpR X (compareOp m4) r')(ha:PE X a ta)(hb:PE X b tb)(hc:PE X c tc)
  (hm:lastMarks [op,m4] [b,c]=false:=by with_unfolding_all rfl):PT X (.Compare a [op,m4] [b,c] pos) (N7 (Ew r r' ta tb tc)):=by
 intro pins s σ H Q I h
 refine isTrue_chain (thn (ha pins s σ H _ I h) fun v s1 ⟨x,H1,I1,r1,q1⟩=>test_link (thn (hb pins s1 σ H1 _ I1 q1) fun u s2 ⟨y,H2,I2,r2,q2⟩=>
  thn (ho pins s2 σ H2 x y v u _ I2 r1 r2 q2) fun d s3 ⟨z,H3,I3,r3,k,e,q3⟩=>?_)) hm
 subst e;cases r3;refine sP ?_
 cases k with
 |false=>
  obtain⟨k',e',q'⟩:=q3;cases e';exact ite_ff ⟨H3,I3,q'⟩
 |true=>
  refine ite_tt (test_last (thn (hc pins s3 σ H3 _ I3 q3) fun w' s4 ⟨z',H4,I4,r4,q4⟩=>thn (aa pins s4 σ H4 y z' u w' _ I4 r2 r4 q4) fun d' s5 ⟨z2,H5,I5,r5,k2,e2,q5⟩=>?_));subst e2;cases r5;exact sP ⟨H5,I5,q5⟩
theorem BG:(sizeLine:Nat)<2^63:=by rw[jA];decide
theorem EU:OpR X (binaryOp .Add) (fun x y H Q=> ∃i j,x= .str i/\y= .str j/\i.length+j.length<=sizeLine/\Q (.str (i++j)) H):=by
 intro pins s σ H x y v u Q I rx ry h;obtain⟨i,j,rfl,rfl,hz,q⟩:=h;obtain⟨t,rfl⟩:=rx;obtain⟨t',rfl⟩:=ry;exact add_str (fun t' tk=>⟨.str (i++j),H,I.tok _,⟨_,rfl⟩,q⟩) hz
theorem pB{x:V}{us:hV}(r:Vals [x] us): ∃u,us=[u]/\RelV x u:=by
 cases r with
 |cons r1 r2=>cases r2;exact⟨_,rfl,r1⟩
theorem Ct{x y:V}{us:hV}(r:Vals [x,y] us): ∃u w',us=[u,w']/\RelV x u/\RelV y w':=by
 cases r with
 |cons r1 r2=>
  cases r2 with
  |cons r3 r4=>cases r4;exact⟨_,_,rfl,r1,r3⟩
theorem L5:je X (.builtin "abs") (fun xs H Q=> ∃i,xs=[.int i]/\Q (.int (if i<0 then -i else i)) H):=by
 intro pins s σ H xs us Q I r h;obtain⟨i,rfl,q⟩:=h;obtain⟨u,rfl,t,rfl⟩:=pB r;exact call_abs_int fun u tk=>⟨.int (if i<0 then -i else i),H,I.tok _,⟨_,rfl⟩,q⟩
theorem Ii(hc:X.calm=true):je X (.builtin "max") (fun xs H Q=> ∃i j,xs=[.int i,.int j]/\Q (.int (if j>i then j else i)) H):=by
 intro pins s σ H xs us Q I r h;obtain⟨i,j,rfl,q⟩:=h;obtain⟨u,w',rfl,⟨t,rfl⟩,⟨t',rfl⟩⟩:=Ct r;refine max_two_ints (I.ok.hd hc) fun h' tk k=>⟨_,H,I.kept k,?_,q⟩
 by_cases hj:j>i
 ·rw[gd hj,gd hj];exact⟨_,rfl⟩
 ·rw[gk hj,gk hj];exact⟨_,rfl⟩
theorem Ih(hc:X.calm=true):je X (.builtin "min") (fun xs H Q=> ∃i j,xs=[.int i,.int j]/\Q (.int (if j<i then j else i)) H):=by
 intro pins s σ H xs us Q I r h;obtain⟨i,j,rfl,q⟩:=h;obtain⟨u,w',rfl,⟨t,rfl⟩,⟨t',rfl⟩⟩:=Ct r;refine min_two_ints (I.ok.hd hc) fun h' tk k=>⟨_,H,I.kept k,?_,q⟩
 by_cases hj:j<i
 ·rw[gd hj,gd hj];exact⟨_,rfl⟩
 ·rw[gk hj,gk hj];exact⟨_,rfl⟩
theorem Aq:je X (.type "int") (fun xs H Q=>(∃i,xs=[.int i]/\Q (.int i) H)\/ ∃k,xs=[.bl k]/\Q (.int (if k then 1 else 0)) H):=by
 intro pins s σ H xs us Q I r h;rcases h with⟨i,rfl,q⟩|⟨k,rfl,q⟩
 ·obtain⟨u,rfl,t,rfl⟩:=pB r;exact call_int_int ⟨.int i,H,I,⟨_,rfl⟩,q⟩
 ·obtain⟨u,rfl,r1⟩:=pB r;cases r1;exact call_int_bool ⟨.int (if k then 1 else 0),H,I.tok _,⟨_,rfl⟩,q⟩
end
section
variable {prog:gA}{w:gu}{A:gw}{E:gH}{s:fW}{K:gq}{x dx C f:fR}{mA:kM}{name:Str}{v:gg}
end
section
variable {P:gA}{w:gu}{H H':Hp}{h h':gD}{a C dx:fR}{fs fs':List (Str×V)}
end
section
variable {X:Cx}{pins:gE}{σ:St}{H:Hp}{s:fW}{a C dx:fR}{fs:List (Str×V)}{f:Str}{v:V}{A:gw}{E:gH}
end
section
variable {X:Cx}{o e value:gf}{f:Str}{pos pos' n6:Pos}{ta tv:TE}
end
section
variable {X:Cx}{pins:gE}{σ:St}{H:Hp}{s:fW}{A:gw}{E:gH}{Q:gH}{c:gg}{b:Bool}
end
structure Room(k:Nat)(A:gw):Prop where
 hd:A.handled=none
 dp:A.depth+3*k+5<recursionLimit
 un:A.units+16*k+200<cLine
theorem Room.mono{j k:Nat}{A:gw}(r:Room k A)(h:j<=k):Room j A:=⟨r.hd,by have:=r.dp;omega,by have:=r.un;omega⟩
theorem Room.deeper{k:Nat}{A:gw}(r:Room (k+1) A)(env:Env):Room k (A.deeper env):=
 ⟨r.hd,by have:=r.dp;show A.depth+1+3*k+5<_;omega,by have:=r.un;show A.units+3+16*k+200<_;omega⟩
theorem Room.depth{k:Nat}{A:gw}(r:Room k A):A.depth<recursionLimit:=by have:=r.dp;omega
noncomputable def TV:TA:=fun _ H Q=>Q [] H
noncomputable def RX(ta:TE)(tr:TA):TA:=fun σ H Q=>ta σ H fun x H1=>tr σ H1 fun xs H2=>Q (x::xs) H2
section
variable {X:Cx}{e:gf}{es:iL}{te:TE}{t:TA}{pos:Pos}
theorem rY:PA X [] TV:=fun _ _ _ _ H Q I h=>Calls.spliced_nil ⟨[],H,I,.nil,h⟩
theorem nB(ha:PE X e te)(hr:PA X es t)(hs:starEach (e::es) X.env=(false,eval e X.env)::starEach es X.env:=by rfl):PA X (e::es) (RX te t):=by
 intro pos pins s σ H Q I h;rw[hs];show wpAny _ _ (spliced ((false,eval e X.env)::backTo pos (starEach es X.env))) _ _ s;refine Calls.spliced_cons (thn (ha pins s σ H _ I h) fun u s1 ⟨x,H1,I1,r1,q1⟩=>?_);exact thn (hr pos pins s1 σ H1 _ I1 q1) fun us s2 ⟨xs,H2,I2,r2,q2⟩=>⟨x::xs,H2,I2,.cons r1 r2,q2⟩
noncomputable def TQ(t:TA):TE:=fun σ H Q=>t σ H fun xs H1=>xs.length<=sizeLine/\ ∀p,H1 p=none->Q (.ref p) (upd H1 p (.tup xs))
noncomputable def TX(t:TA):TE:=fun σ H Q=>t σ H fun xs H1=>xs.length<=sizeLine/\ ∀p,H1 p=none->Q (.ref p) (upd H1 p (.lst xs))
theorem Qg{x1}(h:PA X es t):PE X (.Tuple es x1 pos) (TQ t):=by
 intro pins s σ H Q I hq;refine wpAny_Tuple_spliced (thn (h pos pins s σ H _ I hq) fun us s1 ⟨xs,H1,I1,r,z,q⟩=>⟨by rw[<-r.length];exact z,?_⟩);have hf:H1 s1.heap.objs.size=none:=I1.hok.fresh (gY _);refine⟨.ref s1.heap.objs.size,upd H1 s1.heap.objs.size (.tup xs),I1.laid (t':=s1.toks) (fun b u e=>iF _ e) (gY _) ?_,rfl,q _ hf⟩;exact⟨z,us,r,⟨_,jb _ rfl,rfl,_,rfl⟩⟩
theorem Ql(h:PA X es t):PE X (.List es pos) (TX t):=by
 intro pins s σ H Q I hq;refine wpAny_List_spliced (thn (h pos pins s σ H _ I hq) fun us s1 ⟨xs,H1,I1,r,z,q⟩=>⟨by rw[<-r.length];exact z,?_⟩);have hf:H1 s1.heap.objs.size=none:=I1.hok.fresh (gY _);refine⟨.ref s1.heap.objs.size,upd H1 s1.heap.objs.size (.lst xs),I1.laid (t':=s1.toks) (fun b u e=>iF _ e) (gY _) ?_,rfl,q _ hf⟩;exact⟨z,us,0,r,jb _ rfl⟩
end
abbrev Sp:=List V->Hp->VK->XK->Prop
abbrev CXT:=List Env->Hp->Shared->XK->Value->Shared->Prop
structure Env0(P:gA)(w:gu)(K:gq)(mg:kM)(base:gD)(A:gw)(outer:List Env)(s:fW)(H:Hp):Prop where
 frames:A.frames=some outer
 mod:Mod K mg base
 bs: ∀b o,base.get? b=some o->s.heap.get? b=some o/\H b=none
 bsz:base.objs.size<=s.heap.objs.size
 funs:s.heap.FunFrames base outer
 frf: ∀b∈frs outer,H b=none
 hok:HOk P w H s.heap
 bare:AllBare s.gens
def CE(outer:List Env)(P:gA)(w:gu)(H:Hp)(s:fW)(Q:VK)(u:gg)(s':fW):Prop:=
 ∃v H',s'.os=s.os/\AllBare s'.gens/\Un (frs outer) [] H H' s.heap s'.heap/\HOk P w H' s'.heap/\RelV v u/\Q v H'
def CR(CX:CXT)(outer:List Env)(P:gA)(w:gu)(H:Hp)(s:fW)(Q:VK)(E:XK)(r:Result)(s':fW):Prop:=
 match r with
 | .ok (.ret u)=>CE outer P w H s Q u s'
 | .ok _=>False
 | .error e=>CX outer H s E e s'
structure FnOk(P:gA)(w:gu)(K:gq)(mg:kM)(base:gD)(CX:CXT)(k:Nat)(f:fR)(fd:mZ)(ps:gZ)(sp:Sp):Prop where
 len: ∀vs H Q E,sp vs H Q E->vs.length=ps.length
 run: ∀(A:gw) (outer:List Env) (s:fW) (H:Hp) (args:Args) (us:hV) (vs:List V) (Q:VK) (E:XK),Room k A->Env0 P w K mg base A outer s H->BindsTo s fd args (ps.zip us)->Vals vs us->sp vs H Q E->
  codeAny (model P w) A (.call (.ref f) args) (CR CX outer P w H s Q E) s
theorem FnOk.mono{P:gA}{w:gu}{K:gq}{mg:kM}{base:gD}{CX:CXT}{j k:Nat}{f:fR}{fd:mZ}{ps:gZ}{sp:Sp}(F:FnOk P w K mg base CX j f fd ps sp)(h:j<=k):
  FnOk P w K mg base CX k f fd ps sp:=⟨F.len,fun A outer s H args us vs Q E hr=>F.run A outer s H args us vs Q E (hr.mono h)⟩
section
variable {X:Cx}{pins:gE}{σ:St}{H:Hp}{s s':fW}
theorem Inv.env0(I:Inv X pins σ H s):Env0 X.prog X.w X.K X.mg X.base X.A X.stack s H:=
 ⟨I.ok.frames,I.ok.mod,I.bs,mO I.ok.bsz I.sz,I.stack,I.stkFree,I.hok,I.bare⟩
theorem Inv.after{Q:VK}{u:gg}(I:Inv X pins σ H s)(h:CE X.stack X.prog X.w H s Q u s'):EP X pins σ Q u s':=by
 obtain⟨v,H',os,bare,un,hok,r,q⟩:=h;obtain⟨hh,g,d,t,dZ⟩:=s';obtain rfl:dZ=s.os:=os;exact⟨v,H',I.call (h':=hh) (g':=g) (d':=d) (t':=t) (ch:=[]) un hok bare (fun b z=>absurd z (by simp)),r,q⟩
end
noncomputable def RY(sp:Sp)(bN:List V)(E:XK)(t:TA):TE:=fun σ H Q=>t σ H fun vs H1=>sp (vs++bN) H1 Q E
def Binds(K:gq)(fd:mZ)(ps:gZ)(ds:hV):Prop:=
 ∀(s:fW) (us:hV),K.In s.heap->(us++ds).length=ps.length->BindsTo s fd ⟨us,[]⟩ (ps.zip (us++ds))
theorem Binds.all{K:gq}{fd:mZ}{ps:gZ}(h: ∀us:List Value,us.length=ps.length->bindArgs fd ⟨us,[]⟩=pure (ps.zip us)):Binds K fd ps []:=fun s us _ hl=>by
 rw[xn] at hl ⊢;exact .of_eq (h us hl)
def FQ(CX:CXT)(X:Cx)(E:XK):Prop:= ∀(pins:gE) (σ:St) (H:Hp) (s:fW) (e:gg) (s':fW),Inv X pins σ H s->CX X.stack H s E e s'->X.xe e s'
section
variable {X:Cx}{CX:CXT}{k:Nat}{f C:fR}{fd:mZ}{ps:gZ}{sp:Sp}{bN:List V}{ds:hV}{E:XK}{x m:Str}{p pos apos:Pos}{e o:gf}{es:iL}{ta:TE}{t:TA}
theorem Pf{pins:gE}{σ:St}{H:Hp}{s:fW}{Q:VK}{us:hV}{vs:List V}(F:FnOk X.prog X.w X.K X.mg X.base CX k f fd ps sp)(hr:Room k X.A)(hb:Binds X.K fd ps ds)(hd:Vals bN ds)(hx:FQ CX X E)
  (I:Inv X pins σ H s)(r:Vals vs us)(h:sp (vs++bN) H Q E):wpAny (model X.prog X.w) X.A (call (.ref f) us) (EP X pins σ Q) X.xe s:=by
 have r2:Vals (vs++bN) (us++ds):=r.append hd;have hl:(us++ds).length=ps.length:=by rw[<-r2.length];exact F.len _ _ _ _ h
 refine wpAny_call (sO (F.run X.A X.stack s H ⟨us,[]⟩ (us++ds) (vs++bN) Q E hr I.env0 (hb s us I.kIn hl) r2 h) fun r s' hq=>?_)
 cases r with
 |error e=>exact hx pins σ H s e s' I hq
 |ok fl=>
  cases fl with
  |ret u=>exact I.after hq
  |next=>exact False.elim hq
  |brk=>exact False.elim hq
  |cont=>exact False.elim hq
theorem Nj(F:FnOk X.prog X.w X.K X.mg X.base CX k f fd ps sp)(hr:Room k X.A)(hg:Gl X x)(hm:X.mg x=some (.ref f))(hk:PySem.W.keepIn X.K (.ref f)=true)(hb:Binds X.K fd ps ds)(hd:Vals bN ds)(hx:FQ CX X E)
  (ha:PA X (e::es) t)(m8:(x==("__debug__":Str))=false:=by decide)(he:starEach (e::es) X.env=(false,eval e X.env)::starEach es X.env:=by rfl)(j7:(backTo pos (starEach es X.env)).any (·.1)=false:=by rfl):
  PE X (.Call (.Name x p) (e::es) [] pos) (RY sp bN E t):=by
 intro pins s σ H Q I h;refine uR (GA I hg hm ?_ m8);refine PySem.W.callWith_K (h₀:=X.base) I.ok.mod.kin hk (thn (ha pos pins s σ H _ I h) fun us s1 ⟨vs,H1,I1,r,q⟩=>⟨I1.kIn,?_⟩) he j7;exact Pf F hr hb hd hx I1 r q
end
section
variable {X:Cx}{CX:CXT}{k:Nat}{f C:fR}{fd:mZ}{ps ks:gZ}{sp:Sp}{E:XK}{x m:Str}{p pos apos kpos:Pos}{e o:gf}{es:iL}{bT:List Keyword}{te ta:TE}{t tk:TA}{nm:Option Str}
variable {g:List Value->List Value->List Value}{gV:List V->List V->List V}
end
structure FnScope(N P:gZ)(sc:iK):Prop where
 kind:sc.kind= .function
 co:sc.isCoroutine=false
 gen:sc.isGenerator=false
 nd:N.Nodup
 pre:N.take P.length=P
 par: ∀x∈P,sc.names.lookup x=some .local\/sc.names.lookup x=some .cell
 nofree: ∀y∈sc.names,y.2≠ .free
theorem Ar{kindOf:Str->Option NameKind}{x:Str}: ∀{binds:List (Str×Value)} {m:kM},(∀v,(x,v)∉binds)->bindL kindOf binds m x=m x
 |[],_,_=>rfl
 |(n,v)::r,m,h=>by
  unfold bindL;rw[Ar fun w hw=>h w (iT _ hw)];split
  ·have:x≠n:=by rintro rfl;exact h v iO
   simp[this]
  ·rfl
theorem Au{kindOf:Str->Option NameKind}{x:Str}: ∀{binds:List (Str×Value)} {m:kM},(∀v,(x,v)∉binds)->bindC kindOf binds m x=m x
 |[],_,_=>rfl
 |(n,v)::r,m,h=>by
  unfold bindC;rw[Au fun w hw=>h w (iT _ hw)];split
  ·rfl
  ·have:x≠n:=by rintro rfl;exact h v iO
   simp[this]
theorem As{kindOf:Str->Option NameKind}{x:Str}{v:gg}: ∀{P:gZ} {vs:hV} {i:Nat} {m:kM},P.Nodup->P[i]?=some x->vs[i]?=some v->kindOf x=some .local->
  bindL kindOf (P.zip vs) m x=some v
 |[],_,_,_,_,h,_,_=>by simp at h
 |_::_,[],_,_,_,_,h,_=>by simp at h
 |p::P,w::vs,0,m,nd,h1,h2,hk=>by
  simp at h1 h2;subst h1;subst h2;show bindL kindOf ((p,w)::P.zip vs) m p=_;unfold bindL;rw[Ar fun v hv=>(Cf.mp nd).1 (El hv).1,gd hk];simp
 |p::P,w::vs,i+1,m,nd,h1,h2,hk=>by
  show bindL kindOf ((p,w)::P.zip vs) m x=_;unfold bindL;exact As (i:=i) (Cf.mp nd).2 (by simpa using h1) (by simpa using h2) hk
theorem Av{kindOf:Str->Option NameKind}{x:Str}{v:gg}: ∀{P:gZ} {vs:hV} {i:Nat} {m:kM},P.Nodup->P[i]?=some x->vs[i]?=some v->kindOf x≠some .local->
  bindC kindOf (P.zip vs) m x=some v
 |[],_,_,_,_,h,_,_=>by simp at h
 |_::_,[],_,_,_,_,h,_=>by simp at h
 |p::P,w::vs,0,m,nd,h1,h2,hk=>by
  simp at h1 h2;subst h1;subst h2;show bindC kindOf ((p,w)::P.zip vs) m p=_;unfold bindC;rw[Au fun v hv=>(Cf.mp nd).1 (El hv).1,gk hk];simp
 |p::P,w::vs,i+1,m,nd,h1,h2,hk=>by
  show bindC kindOf ((p,w)::P.zip vs) m x=_;unfold bindC;exact Av (i:=i) (Cf.mp nd).2 (by simpa using h1) (by simpa using h2) hk
noncomputable def sY(N:gZ)(vs:List V):St:=vs.map some++List.replicate (N.length-vs.length) none
noncomputable def Dt(CX:CXT)(P:gA)(w:gu)(K:gq)(mg:kM)(base:gD)(N:gZ)(qual:Str)(scope:iK)(f:fR)(cd:gg)(A:gw)(outer:List Env)(s:fW)(H:Hp)(E:XK):Cx where
 prog:=P
 w:=w
 K:=K
 mg:=mg
 base:=base
 A:=A.deeper (envOfC qual scope s.heap.objs.size f cd)
 N:=N
 s₀:=s
 H₀:=H
 env:=envOfC qual scope s.heap.objs.size f cd
 outer:=outer
 stack:=envOfC qual scope s.heap.objs.size f cd::outer
 ex:=[]
 calm:=true
 fn:=fun _=>true
 pn:=[]
 xe:=fun e s'=>wpAny (model P w) (A.deeper (envOfC qual scope s.heap.objs.size f cd)) (leaving (envOfC qual scope s.heap.objs.size f cd) e) (fun _ bH=>CX outer H s E e bH) (fun e' bH=>CX outer H s E e' bH) s'
theorem DA{sc:iK}{n:Nat}{x:Str}(h:sc.names.lookup x=some .cell): ∃c,(cellsFrom n sc.names []).lookup x=some c:=by
 have q:=A2 sc.names n [] (.inl h);exact Iz.mp q
theorem HQ{CX:CXT}{P:gA}{w:gu}{K:gq}{mg:kM}{base:gD}{N ps:gZ}{qual:Str}{scope:iK}{f:fR}{cd:gg}{A:gw}{outer:List Env}{s s1:fW}{H:Hp}{E:XK}{us:hV}{vs:List V}
  (S:FnScope N ps scope)(hd:A.handled=none)(e0:Env0 P w K mg base A outer s H)(hl:vs.length=ps.length)(r:Vals vs us)
  (x:InCallC s s.heap.objs.size (bindL (envOfC qual scope s.heap.objs.size f cd).kindOf (ps.zip us) fun _=>none) (cellsFrom (s.heap.objs.size+1) scope.names []) (bindC (envOfC qual scope s.heap.objs.size f cd).kindOf (ps.zip us) fun _=>none) s1):
  Inv (Dt CX P w K mg base N qual scope f cd A outer s H E) [] (sY N vs) H s1:=by
 have j7:ps.length<=N.length:=by have:=nY List.length S.pre;rw[vQ] at this;omega
 obtain⟨h1,tk,rfl,hk⟩:=x.done;have cM: ∀b:Addr,b∉(Dt CX P w K mg base N qual scope f cd A outer s H E).ex:=fun b z=>absurd (show b∈([]:List Addr) from z) (by simp)
 refine⟨⟨e0.mod,S.kind,rfl,rfl,gY _,fun y z c h1 h2=>?_,fun y hy=>?_,fun y c _ h=>?_,fun _=>hd,Around.frames_deeper e0.frames,.inr ⟨rfl,rfl⟩,fun b z=>absurd z (cM b),e0.bs,e0.bsz,fun b _ _=>cM b,fun b z=>absurd z (cM b),e0.funs,e0.frf⟩,
  rfl,e0.bare,Un.kept hk,⟨_,x.toInCall.ns,fun i y v h1 h2 h3=>?_⟩,fun y c h=>⟨_,x.cell y c h⟩,e0.hok.fresh (gY _),fun y c h=>?_,fun p hp=>absurd (show p∈([]:List (Addr×Obj)) from hp) (by simp),e0.hok.kept hk,?_⟩
 ·exact name_of_addr x.apart (vP h1) (vP h2)
 ·have hy:scope.names.lookup y=some .cell\/scope.names.lookup y=some .free:=hy;rcases hy with hy|hy
  ·exact DA hy
  ·exact absurd rfl (S.nofree _ (vP hy))
 ·exact xq (x.above y c (vP h))
 ·have hi:i<vs.length:=by
   unfold sY at h2;by_cases hi:i<vs.length
   ·exact hi
   ·rw[Ek (by simpa using hi)] at h2;rw[List.getElem?_replicate] at h2;split at h2<;>cases h2
  have ha:vs[i]?=some v:=by
   unfold sY at h2;rw[Ej (by simpa using hi),jr] at h2
   cases e:vs[i]? with
   |none=>rw[e] at h2;cases h2
   |some a=>rw[e] at h2;cases h2;rfl
  obtain⟨u,hu,rv⟩:=r.get ha
  have hp:ps[i]?=some y:=by
   rw[<-S.pre,List.getElem?_take_of_lt (by omega)];exact h1
  have ndP:ps.Nodup:=by rw[<-S.pre];exact S.nd.sublist (mM _ _)
  refine⟨u,rv,?_⟩;rcases S.par y (uQ hp) with k|k
  ·exact .inl ⟨k,As ndP hp hu k⟩
  ·obtain⟨c,e⟩:=DA (n:=s.heap.objs.size+1) k;refine .inr ⟨.inl k,c,e,?_⟩;have q:=x.cell y c e;rw[Av ndP hp hu (by show scope.names.lookup y≠_;rw[k];decide)] at q;exact q
 ·exact e0.hok.fresh (xq (x.above y c (vP h)))
 ·unfold sY;show _=N.length;rw[pq,iG,List.length_replicate];omega
theorem S0{CX:CXT}{P:gA}{w:gu}{K:gq}{mg:kM}{base:gD}{k:Nat}{f:fR}{name qual:Str}{params:Arguments}{body:List Stmt}{scope:iK}{dV kV doc pm d8 ct oc:gg}{an od:Option Addr}
  {ax:vE}{N ps:gZ}{sp:Sp}(lk:K.lookup f=some ⟨oc,od,.func (PySem.W.fnOf name qual params body scope dV kV doc pm an d8 ct),ax⟩)(x9:PySem.W.codeIn K d8 qual=true)(S:FnScope N ps scope)
  (len: ∀vs H Q E,sp vs H Q E->vs.length=ps.length)
  (y3: ∀(A:gw) (outer:List Env) (s:fW) (H:Hp) (vs:List V) (Q:VK) (E:XK),Room k (A.deeper (envOfC qual scope s.heap.objs.size f d8))->sp vs H Q E->
   ∃t,PSs (Dt CX P w K mg base N qual scope f d8 A outer s H E) body t/\t {nx:=fun _ H'=>Q .non H',rt:=Q} (sY N vs) H):
  FnOk P w K mg base CX (k+1) f (PySem.W.fnOf name qual params body scope dV kV doc pm an d8 ct) ps sp:=by
 refine⟨len,fun A outer s H args us vs Q E hr e0 hb r bK=>?_⟩;have hl:=len _ _ _ _ bK;have KX:K.In s.heap:=e0.mod.kin.keeps fun b o e=>(e0.bs b o e).1;have lim:s.heap.NoLimit:=e0.mod.nolimit.keeps fun b o e=>(e0.bs b o e).1
 have hkind: ∀y∈ps.zip us,scope.names.lookup y.1=some .local\/(scope.names.lookup y.1=some .cell/\((cellsFrom (s.heap.objs.size+1) scope.names []).lookup y.1).isSome=true):=fun⟨n,v⟩ hy=>by
  rcases S.par n (El hy).1 with q|q
  ·exact .inl q
  ·exact .inr ⟨q,A2 _ _ _ (.inl q)⟩
 refine codeAny_call_function hr.depth (KX _ _ lk) rfl S.co S.gen rfl (PySem.W.codeRec_of KX x9) (hb _ _ _ _ ?_);refine wpAny_newFunctionEnv_cells S.kind hkind fun env he s1 x=>?_;subst he;refine⟨lim.keeps x.toInCall.keep,codeAny_func ?_⟩;obtain⟨t,ht,hq⟩:=y3 A outer s H vs Q E (hr.deeper _) bK;have I:Inv (Dt CX P w K mg base N qual scope f d8 A outer s H E) [] (sY N vs) H s1:=HQ S hr.hd e0 hl r x;refine mN (ht [] s1 (sY N vs) H _ I hq) (fun fl s' hs=>?_) fun e s' hs=>hs
 have fin: ∀{σ':St} {H':Hp} {v:V} {u:gg},Inv (Dt CX P w K mg base N qual scope f d8 A outer s H E) [] σ' H' s'->RelV v u->Q v H'->CE outer P w H s Q u s':=
  fun {σ' H' v u} J rv q=>⟨v,H',J.os,J.bare,J.base,J.hok,rv,q⟩
 cases fl with
 |ret u=>
  obtain⟨v,σ',H',J,rv,q⟩:=hs;exact fin J rv q
 |next=>
  obtain⟨σ',H',J,q⟩:=hs;exact fin (v:=V.non) (u:=Value.none) J rfl q
 |brk=>
  obtain⟨_,_,_,q⟩:=hs;exact False.elim q
 |cont=>
  obtain⟨_,_,_,q⟩:=hs;exact False.elim q
section
variable {X:Cx}{x:Str}{p pos:Pos}{e:gf}{es:iL}{t:TA}{id T:String}{r:List V->Hp->VK->Prop}
def tCB(r:List V->Hp->VK->Prop)(t:TA):TE:=fun σ H Q=>t σ H fun vs H1=>r vs H1 Q
theorem yd(hc:je X (.builtin id) r)(hg:Gl X x)(hm:X.mg x=none)(hv:bootBuiltins x=some (.builtin id))(ha:PA X (e::es) t)(hn:x≠"__name__":=by decide)(m8:(x==("__debug__":Str))=false:=by decide)
  (he:starEach (e::es) X.env=(false,eval e X.env)::starEach es X.env:=by rfl)(j7:(backTo pos (starEach es X.env)).any (·.1)=false:=by rfl):PE X (.Call (.Name x p) (e::es) [] pos) (tCB r t):=by
 intro pins s σ H Q I h;refine uR (oR I hg hm hv ?_ hn m8);exact PyProof.Rows.callWith_builtin1 (thn (ha pos pins s σ H _ I h) fun us s1 ⟨vs,H1,I1,r1,q1⟩=>hc pins s1 σ H1 vs us Q I1 r1 q1) he j7
theorem oo(hc:je X (.type T) r)(hg:Gl X x)(hm:X.mg x=none)(hv:bootBuiltins x=some (.type T))(ha:PA X (e::es) t)(hn:x≠"__name__":=by decide)(m8:(x==("__debug__":Str))=false:=by decide)
  (he:starEach (e::es) X.env=(false,eval e X.env)::starEach es X.env:=by rfl)(j7:(backTo pos (starEach es X.env)).any (·.1)=false:=by rfl):PE X (.Call (.Name x p) (e::es) [] pos) (tCB r t):=by
 intro pins s σ H Q I h;refine uR (oR I hg hm hv ?_ hn m8);exact A3 (thn (ha pos pins s σ H _ I h) fun us s1 ⟨vs,H1,I1,r1,q1⟩=>hc pins s1 σ H1 vs us Q I1 r1 q1) he j7
end
end L2
namespace HT
open PySem PyProof.Rows
section
open PySem.SeqAt
open PySem.AutoSeq1 (wpAny_loadPart')
open PySem.MeetsSeq PySem.MeetsSeq2 PySem.MeetsSeq3
end
section
variable {prog:gA}{w:gu}{A:gw}{E:gH}{s:fW}
theorem Tb{t b:fR}{vs ws:hV}{Q:gH}(ht:IsTup s.heap t vs.toArray)(hb:IsTup s.heap b ws.toArray)(hv:vs≠[])
  (h1:ws=[]->Q (.ref t) s)(h2:ws≠[]->Q (.ref s.heap.objs.size) {s with heap:=s.heap.push {cls:= .type "tuple",data:= .seq (vs++ws).toArray}})
  (hsz:vs.length+ws.length<=sizeLine):wpAny (model prog w) A (binaryOp .Add (.ref t) (.ref b)) Q E s:=by
 obtain⟨⟨cls,dd,data,sl⟩,ho,hc,n,hd⟩:=id ht;obtain⟨⟨cw,u6,data2,u4⟩,s9,aH,n2,hd2⟩:=id hb;simp only at hc hd aH hd2;subst hc hd aH hd2;have e:vs.toArray++ws.toArray=(vs++ws).toArray:=by simp
 by_cases hw:ws=[]
 ·exact A1 ⟨_,ho,rfl⟩ ⟨_,s9,rfl⟩ Ei Eh Eg Ef (Ee _ _)
   (tuple_addW1 t b vs.toArray ws.toArray n n2 dd u6 sl u4 (by simpa using hv) (by simp[hw])) ⟨ho,s9,h1 hw⟩
 ·refine A1 ⟨_,ho,rfl⟩ ⟨_,s9,rfl⟩ Ei Eh Eg Ef (Ee _ _)
   (tuple_addW2 t b vs.toArray ws.toArray n n2 dd u6 sl u4 (by simpa using hv) (by simpa using hw) (by rw[iH,iH];exact hsz)) ⟨ho,s9,?_⟩
  rw[e];exact h2 hw
noncomputable def sIx(n d:Nat):Option Int->Nat
 |none=>d
 |some v=>if v<0 then(v+(n:Int)).toNat else min v.toNat n
theorem Pd(n d:Nat):sIx n d none=d:=rfl
theorem RD(n d k:Nat):sIx n d (some (k:Int))=min k n:=by
 show(if(k:Int)<0 then((k:Int)+(n:Int)).toNat else min (k:Int).toNat n)=min k n;rw[gk (by omega),xm]
theorem Pe(n d:Nat)(hd:d<=n)(o:Option Int):sIx n d o<=n:=by
 cases o with
 |none=>exact hd
 |some v=>
  show(if v<0 then(v+(n:Int)).toNat else min v.toNat n)<=n;by_cases hv:v<0
  ·rw[gd hv];omega
  ·rw[gk hv];exact Nat.min_le_right _ _
theorem GW(v:Int)(n d:Nat):(if v<0 then max (v+(n:Int)) 0 else min v (n:Int))=((sIx n d (some v):Nat):Int):=by
 show(if v<0 then max (v+(n:Int)) 0 else min v (n:Int))=(((if v<0 then(v+(n:Int)).toNat else min v.toNat n):Nat):Int)
 by_cases hv:v<0
 ·simp only[gd hv];omega
 ·simp only[gk hv];omega
theorem FP(lo hi:Option Int)(n:Nat):Builtin.Slice.sliceAdjust lo hi 1 (n:Int)=(((sIx n 0 lo:Nat):Int),((sIx n n hi:Nat):Int)):=by
 have h1: ¬((1:Int)<0):=by omega
 unfold Builtin.Slice.sliceAdjust;simp only[h1,iE];refine Prod.ext ?_ ?_
 ·cases lo with
  |none=>rfl
  |some v=>exact GW v n 0
 ·cases hi with
  |none=>rfl
  |some v=>exact GW v n n
theorem EM(i j:Nat):Builtin.Slice.slicePlaces (i:Int) (j:Int) 1=j-i:=by
 unfold Builtin.Slice.slicePlaces;have h1:(1:Int)>0:=by omega
 simp only[h1,gM,Int.ediv_one];split<;>omega
theorem xP{v:gg}{o:Option Int}{Q:Option Int->Shared->Prop}(p:IsPart v o)(h:Q o s):wpAny (model prog w) A (Builtin.Slice.slicePartIndex v) Q E s:=by
 cases p with
 |none=>exact slicePart_none h
 |int i t=>exact slicePart_int h
theorem oi{sl:fR}{vl vu:gg}{lo hi:Option Int}{n:Nat}{Q:Int×Int×Nat->Shared->Prop}(hs:s.heap.IsSliceOf sl vl vu .none)(pl:IsPart vl lo)(pu:IsPart vu hi)
  (h:Q (((sIx n 0 lo:Nat):Int),1,sIx n n hi-sIx n 0 lo) s):wpAny (model prog w) A (Builtin.Slice.sliceApplied (.ref sl) (pure (n:Int))) Q E s:=by
 obtain⟨os,cc,bL,cW⟩:=id hs;unfold Builtin.Slice.sliceApplied Builtin.Slice.sliceFields;refine fS (fS (kn cc cW (x:=vl) rfl (fS (kn cc cW (x:=vu) rfl (fS (kn cc cW (x:= .none) rfl (gr ?_)))))));refine fS (slicePart_none ?_);show wpAny _ _ (if((1:Int)==0)=true then _ else _) _ _ s;rw[gk (by decide)];refine fS (xP pl (fS (xP pu (fS (gr ?_)))));show wpAny _ _ (match Builtin.Slice.sliceAdjust lo hi 1 (n:Int) with|(lo,hi)=>pure (lo,(1:Int),Builtin.Slice.slicePlaces lo hi 1)) _ _ s;rw[FP lo hi n];show wpAny _ _ (pure (((sIx n 0 lo:Nat):Int),(1:Int),Builtin.Slice.slicePlaces ((sIx n 0 lo:Nat):Int) ((sIx n n hi:Nat):Int) 1)) _ _ s;rw[EM];exact gr h
theorem Kz(xs:jz)(i k:Nat):((List.range k).filterMap fun(m:Nat)=>xs[((i:Int)+(m:Int)*1).toNat]?).toArray=((xs.toList.drop i).take k).toArray:=by
 have e:(fun(m:Nat)=>xs[((i:Int)+(m:Int)*1).toNat]?)=fun m=>xs[i+m]?:=by
  funext m;have:((i:Int)+(m:Int)*1).toNat=i+m:=by omega
  rw[this]
 rw[e];have:=pick_run xs i k;rw[List.filterMap_map] at this;have e2:((fun x=>xs[x]?)∘fun x=>i+x)=fun m=>xs[i+m]?:=rfl;rw[e2] at this;rw[this]
theorem Fg{t sl:fR}{items:jz}{vl vu:gg}{lo hi:Option Int}{Q:gH}(ht:IsTup s.heap t items)(hs:s.heap.IsSliceOf sl vl vu .none)(pl:IsPart vl lo)(pu:IsPart vu hi)
  (hw: ¬(sIx items.size 0 lo=0/\sIx items.size items.size hi=items.size))
  (h:Q (.ref s.heap.objs.size) {s with heap:=s.heap.push {cls:= .type "tuple",data:= .seq ((items.toList.drop (sIx items.size 0 lo)).take (sIx items.size items.size hi-sIx items.size 0 lo)).toArray}})
  (hsz:items.size<=sizeLine):wpAny (model prog w) A (getItem (.ref t) (.ref sl)) Q E s:=by
 have ae:sizeOk (.seq ((items.toList.drop (sIx items.size 0 lo)).take (sIx items.size items.size hi-sIx items.size 0 lo)).toArray):=by
  show((items.toList.drop (sIx items.size 0 lo)).take (sIx items.size items.size hi-sIx items.size 0 lo)).toArray.size<=sizeLine;rw[iH,vQ,List.length_drop,mf];omega
 have hj:sIx items.size items.size hi<=items.size:=Pe _ _ (gY _) hi;obtain⟨os,cc,bL,cW⟩:=id hs;have eZ:s.TypeIs (.ref sl) "slice":=⟨os,cc,bL⟩
 unfold getItem
 try with_reducible refine kN ?_
 first|refine fS (gr ?_)|skip
 refine fS (wpAny_sequenceKey ht.typeIs (by decide) ?_)
 refine fS (rk (name:=Str.ofString "__getitem__") ht.typeIs yY
  (pk yY ht.typeIs Jm ?_ (args_tuple_getitem _ _)))
 show wpAny _ _ (Builtin.Tuple.tupleItemsOf (.ref t)>>=_) _ _ s;refine fS (tupleItemsOf_ ht ?_);refine fS (uP eZ ?_);rw[gd (by decide)];refine fS (oi hs pl pu ?_)
 have hno: ¬((((sIx items.size 0 lo:Nat):Int)==0&&(1:Int)==1&&(sIx items.size items.size hi-sIx items.size 0 lo)==items.size)=true):=by
  intro q;rw[mK,mK] at q;have q1:((sIx items.size 0 lo:Nat):Int)=0:=sN q.1.1;have q2:sIx items.size items.size hi-sIx items.size 0 lo=items.size:=sN q.2;exact hw ⟨by omega,by omega⟩
 show wpAny _ _ (if(((sIx items.size 0 lo:Nat):Int)==0&&(1:Int)==1&&(sIx items.size items.size hi-sIx items.size 0 lo)==items.size)=true then _ else _) _ _ s;rw[gk hno,Kz]
 first
  |exact fS (m:=Builtin.Tuple.tupleExact _) (nW (gr ⟨_,rfl,gr h⟩) ae)
  |exact fS (m:=Builtin.Tuple.tupleExact _) (nW (fS (gr (gr ⟨_,rfl,gr h⟩))) ae)
  |exact fS (fS (m:=Builtin.Tuple.tupleExact _) (nW (gr (gr ⟨_,rfl,gr h⟩)) ae))
  |exact fS (fS (m:=Builtin.Tuple.tupleExact _) (nW (gr ⟨_,rfl,gr h⟩) ae))
end
end HT
namespace L2
open PySem PySem.Spec PyProof.Rows
abbrev TO:=St->Hp->(Option Int->Hp->Prop)->Prop
def PO(X:Cx)(e:Option Expr)(t:TO):Prop:=
 ∀(pins:gE) (s:fW) (σ:St) (H:Hp) (Q:Option Int->Hp->Prop),Inv X pins σ H s->t σ H Q->
  wpAny (model X.prog X.w) X.A (evalPart e X.env) (fun u s'=> ∃o H',Inv X pins σ H' s'/\IsPart u o/\Q o H') X.xe s
noncomputable def Mu:TO:=fun _ H Q=>Q none H
def RQ(t:TE):TO:=fun σ H Q=>t σ H fun x H1=> ∃i,x= .int i/\Q (some i) H1
section
variable {X:Cx}{e:gf}{te:TE}{lo hi:Option Expr}{tl th:TO}{pos p2:Pos}
theorem Gk:PO X none Mu:=by
 intro pins s σ H Q I h;rw[evalPart_none];exact gr ⟨none,H,I,.none,h⟩
theorem Gj(h:PE X e te):PO X (some e) (RQ te):=by
 intro pins s σ H Q I hw;rw[evalPart_some];refine thn (h pins s σ H _ I hw) fun u s1 ⟨x,H1,I1,r1,q1⟩=>?_;obtain⟨i,rfl,q⟩:=q1;obtain⟨t,rfl⟩:=r1;exact⟨some i,H1,I1,.int i t,q⟩
def SlR(X:Cx)(r:V->Option Int->Option Int->Hp->VK->Prop):Prop:=
 ∀(pins:gE) (s:fW) (σ:St) (H:Hp) (x:V) (v vl vu:gg) (lo hi:Option Int) (sl:fR) (Q:VK),Inv X pins σ H s->RelV x v->s.heap.IsSliceOf sl vl vu .none->IsPart vl lo->IsPart vu hi->r x lo hi H Q->
  ∃T id,typeLookup (.type T) "__getitem__"=pure (some (.builtin id))/\s.TypeIs v T/\wpAny (model X.prog X.w) X.A (getItem v (.ref sl)) (EP X pins σ Q) X.xe s
def tSl(r:V->Option Int->Option Int->Hp->VK->Prop)(te:TE)(tl th:TO):TE:=fun σ H Q=>te σ H fun x H1=>tl σ H1 fun l H2=>th σ H2 fun u H3=>r x l u H3 Q
theorem CQ{r:V->Option Int->Option Int->Hp->VK->Prop}(hr:SlR X r)(he:PE X e te)(hl:PO X lo tl)(hu:PO X hi th):PE X (.Subscript e (.Slice lo hi none p2) pos) (tSl r te tl th):=by
 intro pins s σ H Q I h;refine Subscript_ (thn (he pins s σ H _ I h) fun v s1 ⟨x,H1,I1,r1,q1⟩=>?_);refine wpAny_Slice (thn (hl pins s1 σ H1 _ I1 q1) fun vl s2 ⟨l,H2,I2,pl,q2⟩=>thn (hu pins s2 σ H2 _ I2 q2) fun vu s3 ⟨u,H3,I3,pu,q3⟩=>?_);rw[evalPart_none];refine gr ?_;have I4:Inv X pins σ H3 {s3 with heap:=s3.heap.push {cls:= .type "slice",data:= .fields #[vl,vu,.none]}}:=I3.kept (t':=s3.toks) fun b ob q=>iF _ q;obtain⟨T,id,hT,ht,hg⟩:=hr pins {s3 with heap:=s3.heap.push {cls:= .type "slice",data:= .fields #[vl,vu,.none]}} σ H3 x v vl vu l u s3.heap.objs.size Q I4 r1 (Heap.IsSliceOf.new ..) pl pu q3;show wpAny (model X.prog X.w) X.A (subscriptTail e (.Slice lo hi none p2) v (.ref s3.heap.objs.size)) (EP X pins σ Q) X.xe {s3 with heap:=s3.heap.push {cls:= .type "slice",data:= .fields #[vl,vu,.none]}};exact tail_any (ops:=[.ref s3.heap.objs.size,v]) ht hT hg (by with_unfolding_all rfl)
noncomputable def Du(xs:List V)(lo hi:Option Int):List V:=(xs.drop (HT.sIx xs.length 0 lo)).take (HT.sIx xs.length xs.length hi-HT.sIx xs.length 0 lo)
theorem wc(xs:List V)(lo hi:Option Int):(Du xs lo hi).length<=xs.length:=by
 unfold Du;rw[vQ,List.length_drop];omega
def UE(K:gq):V->Option Int->Option Int->Hp->VK->Prop:=fun x lo hi H Q=> ∃a xs,x= .ref a/\SqT K H a xs/\
 ¬(HT.sIx xs.length 0 lo=0/\HT.sIx xs.length xs.length hi=xs.length)/\ ∀p,H p=none->Q (.ref p) (upd H p (.tup (Du xs lo hi)))
theorem OZ:SlR X (UE X.K):=by
 intro pins s σ H x v vl vu lo hi sl Q I rx hs pl pu h;obtain⟨a,xs,rfl,hx,hw,q⟩:=h;cases rx;obtain⟨its,r,ht,hz⟩:=I.tuple hx;have hlen:its.toArray.size=xs.length:=by rw[iH];exact r.length.symm
 refine⟨"tuple",_,yY.lookup,ht.typeIs,?_⟩;refine HT.Fg ht hs pl pu (by rw[hlen];exact hw) ?_ (by rw[hlen];exact hz);rw[hlen];refine⟨.ref s.heap.objs.size,_,I.laid (t':=s.toks) (o:= .tup (Du xs lo hi)) (fun b ob q=>iF _ q) (gY _) ?_,rfl,q _ (I.hok.fresh (gY _))⟩;exact⟨mO (wc xs lo hi) hz,_,(r.drop (HT.sIx xs.length 0 lo)).take (HT.sIx xs.length xs.length hi-HT.sIx xs.length 0 lo),A0 _ _⟩
def Sk(K:gq):R2:=fun x y H Q=> ∃a b xs ys,x= .ref a/\y= .ref b/\SqT K H a xs/\SqT K H b ys/\xs≠[]/\xs.length+ys.length<=sizeLine/\
 (ys=[]->Q (.ref a) H)/\(ys≠[]-> ∀p,H p=none->Q (.ref p) (upd H p (.tup (xs++ys))))
theorem Vals.nil_iff{xs:List V}{us:hV}(r:Vals xs us):us=[]↔xs=[]:=by
 cases r with
 |nil=>simp
 |cons _ _=>simp
theorem Nw:OpR X (binaryOp .Add) (Sk X.K):=by
 intro pins s σ H x y v u Q I rx ry h;obtain⟨a,b,xs,ys,rfl,rfl,ha,hb,hx,hz,q1,q2⟩:=h;cases rx;cases ry;obtain⟨its,r1,p1,_⟩:=I.tuple ha;obtain⟨b9,r2,p2,_⟩:=I.tuple hb;refine HT.Tb p1 p2 (fun z=>hx (r1.nil_iff.mp z)) (fun z=>⟨.ref a,H,I,rfl,q1 (r2.nil_iff.mp z)⟩) (fun z=>?_) (by rw[<-r1.length,<-r2.length];exact hz);refine⟨.ref s.heap.objs.size,_,I.laid (t':=s.toks) (o:= .tup (xs++ys)) (fun b ob q=>iF _ q) (gY _) ?_,rfl,q2 (fun w=>z (r2.nil_iff.mpr w)) _ (I.hok.fresh (gY _))⟩;exact⟨by rw[pq];exact hz,_,r1.append r2,A0 _ _⟩
end
noncomputable def ixN(n:Nat)(i:Int):Option Nat:=if 0<=i then(if i<n then some i.toNat else none) else if -(n:Int)<=i then some (i+n).toNat else none
noncomputable def atI{α:Type}(xs:List α)(i:Int):Option α:=(ixN xs.length i).bind fun j=>xs[j]?
theorem BH{n:Nat}{i:Int}{j:Nat}(h:ixN n i=some j):seqIndex? i n=some j/\j<n/\ -(n:Int)<=i/\i<n:=by
 unfold ixN at h;by_cases h0:0<=i
 ·rw[gd h0] at h;by_cases h1:i<n
  ·rw[gd h1] at h;have e:i.toNat=j:=iq h;exact⟨by rw[Ed h0 h1,e],by omega,by omega,h1⟩
  ·rw[gk h1] at h;cases h
 ·rw[gk h0] at h;by_cases h1: -(n:Int)<=i
  ·rw[gd h1] at h;have e:(i+n).toNat=j:=iq h;exact⟨by rw[Eb (by omega) h1,e],by omega,h1,by omega⟩
  ·rw[gk h1] at h;cases h
theorem G2{α:Type}{xs:List α}{i:Int}{v:α}(h:atI xs i=some v): ∃j,seqIndex? i xs.length=some j/\xs[j]?=some v/\j<xs.length/\ -(xs.length:Int)<=i/\i<xs.length:=by
 unfold atI at h
 cases e:ixN xs.length i with
 |none=>rw[e] at h;cases h
 |some j=>
  rw[e] at h;obtain⟨h1,h2,h3,h4⟩:=BH e;exact⟨j,h1,h,h2,h3,h4⟩
def Cd(b:gf):Prop:= ∀o i,subscripted b false o i=operate [o,i] (getItem o i)
def IxR(X:Cx)(r:R2):Prop:=
 ∀(value slice:gf) (pins:gE) (s:fW) (σ:St) (H:Hp) (x y:V) (v u:gg) (Q:VK),Inv X pins σ H s->RelV x v->RelV y u->r x y H Q->
  subscripted slice false v u=operate [v,u] (getItem v u)->wpAny (model X.prog X.w) X.A (subscriptTail value slice v u) (EP X pins σ Q) X.xe s
def MtR(X:Cx)(id:String)(r:V->List V->Hp->VK->Prop):Prop:=
 ∀(pins:gE) (s:fW) (σ:St) (H:Hp) (x:V) (xs:List V) (v:gg) (us:hV) (Q:VK),Inv X pins σ H s->RelV x v->Vals xs us->r x xs H Q->
  wpAny (model X.prog X.w) X.A (call (.builtin id) (v::us)) (EP X pins σ Q) X.xe s
section
variable {X:Cx}{a b:gf}{ta tb:TE}{pos:Pos}
theorem Sw{r:R2}(hr:IxR X r)(ha:PE X a ta)(hb:PE X b tb)(hs:Cd b):PE X (.Subscript a b pos) (tOp r ta tb):=by
 intro pins s σ H Q I h;exact Subscript_ (Rx ha hb I h fun v u s2 x y H2 I2 rx ry q=>hr a b pins s2 σ H2 x y v u Q I2 rx ry q (hs _ _))
def UK(K:gq):R2:=fun x y H Q=> ∃p xs i v,x= .ref p/\y= .int i/\SqL K H p xs/\atI xs i=some v/\Q v H
def UJ(K:gq):R2:=fun x y H Q=> ∃p xs i v,x= .ref p/\y= .int i/\SqT K H p xs/\atI xs i=some v/\Q v H
theorem NH:IxR X (UK X.K):=by
 intro value slice pins s σ H x y v u Q I rx ry h hs;obtain⟨p,xs,i,z,rfl,rfl,hq,he,q⟩:=h;cases rx;obtain⟨t,rfl⟩:=ry;obtain⟨its,r,pl,hz⟩:=I.list hq;obtain⟨j,h1,h2,h3,h4,h5⟩:=G2 he;obtain⟨w,ew,bQ⟩:=r.get h2;have hl:=r.length;have hn:=BG;have fin:EP X pins σ Q w s:=⟨z,H,I,bQ,q⟩
 by_cases h0:0<=i
 ·have hj:i.toNat=j:=by
   rw[Ed h0 h5] at h1;exact iq h1
  exact item_listR pl.isList h0 (by omega) (by rw[hj];simpa using ew) fin hs
 ·have hj:(i+(its.toArray.size:Int)).toNat=j:=by
   rw[Eb (by omega) h4] at h1;rw[iH,<-hl];exact iq h1
  exact Jl (x:=w) pl.isList.typeIs slot_list_getitem.lookup
   (wpAny_getItem_list_neg (Q:=fun r s'=>r=w/\EP X pins σ Q r s') pl.isList (by omega) (by rw[iH]<;>omega) (by omega) (by rw[hj];simpa using ew) ⟨rfl,fin⟩) hs
theorem QZ:IxR X (UJ X.K):=by
 intro value slice pins s σ H x y v u Q I rx ry h hs;obtain⟨p,xs,i,z,rfl,rfl,hq,he,q⟩:=h;cases rx;obtain⟨t,rfl⟩:=ry;obtain⟨its,r,pl,hz⟩:=I.tuple hq;obtain⟨j,h1,h2,h3,h4,h5⟩:=G2 he;obtain⟨w,ew,bQ⟩:=r.get h2;have hl:=r.length;have hn:=BG;have fin:EP X pins σ Q w s:=⟨z,H,I,bQ,q⟩
 exact Jl (x:=w) pl.typeIs slot_tuple_getitem.lookup
  (getItem_tuple (j:=j) (Q:=fun r s'=>r=w/\EP X pins σ Q r s') pl (by omega) (by omega) (by rw[iH,<-hl];exact h1) (by simpa using ew) ⟨rfl,fin⟩) hs
theorem E8(its:hV)(n j:Nat)(u:gg):Obj.mapSeq (·.setIfInBounds j u) {cls:= .type "list",data:= .seq its.toArray n}={cls:= .type "list",data:= .seq (its.set j u).toArray n}:=by
 simp[Obj.mapSeq]
theorem Inv.lst{pins:gE}{σ:St}{H:Hp}{s:fW}{p:fR}{xs:List V}(I:Inv X pins σ H s)(h:H p=some (.lst xs)):
  ∃(its:hV) (n:Nat),Vals xs its/\s.heap.get? p=some {cls:= .type "list",data:= .seq its.toArray n}/\xs.length<=sizeLine:=by
 obtain⟨z,its,n,r,e⟩:=I.hok p _ h;exact⟨its,n,r,e,z⟩
theorem Inv.lstUpd{pins:gE}{σ:St}{H:Hp}{s:fW}{p:fR}{xs ys:List V}{its its':hV}{n n':Nat}{f:Obj->Obj}(I:Inv X pins σ H s)(h:H p=some (.lst xs))
  (ho:s.heap.get? p=some {cls:= .type "list",data:= .seq its.toArray n})(hf:f {cls:= .type "list",data:= .seq its.toArray n}={cls:= .type "list",data:= .seq its'.toArray n'})(r:Vals ys its')(hz:ys.length<=sizeLine)(t:Nat):
  Inv X pins σ (upd H p (.lst ys)) {s with heap:=s.heap.update p f,toks:=t}:=by
 have e:(s.heap.update p f).get? p=some {cls:= .type "list",data:= .seq its'.toArray n'}:=by
  rw[xl f ho (by rw[hf]<;>rfl),hf]
 refine I.write (x:=p) (e:=p) (by rw[h];trivial) (.inl rfl) (fun b u hb q=>(AZ _ _ (rl hb)).trans q) ⟨_,e⟩ ?_;exact⟨hz,its',n',r,e⟩
def Sg:V->V->V->Hp->(Hp->Prop)->Prop:=fun o i v H Q=> ∃p xs k j,o= .ref p/\i= .int k/\H p=some (.lst xs)/\ixN xs.length k=some j/\Q (upd H p (.lst (xs.set j v)))
theorem JX:RB X Sg:=by
 intro pins s σ H o i v ov iv u Q I ro ri rv h;obtain⟨p,xs,k,j,rfl,rfl,hp,hj,q⟩:=h;cases ro;obtain⟨t,rfl⟩:=ri;obtain⟨its,n,r,ho,hz⟩:=I.lst hp;obtain⟨h1,h2,h3,h4⟩:=BH hj;have hl:=r.length;have hn:=BG
 have I':Inv X pins σ (upd H p (.lst (xs.set j v))) {s with heap:=s.heap.update p (Obj.mapSeq (·.setIfInBounds j u))}:=
  I.lstUpd hp ho (E8 its n j u) (r.set rv j) (by rw[rh];exact hz) s.toks
 by_cases h0:0<=k
 ·have hk:k.toNat=j:=by
   rw[Ed h0 h4] at h1;exact iq h1
  exact PySem.W.ki_setAt ho h0 (by omega) (by rw[iH,<-hl];exact h4) (by rw[hk];exact⟨_,I',q⟩)
 ·have hk:(k+(its.toArray.size:Int)).toNat=j:=by
   rw[Eb (by omega) h3] at h1;rw[iH,<-hl];exact iq h1
  exact PySem.W.ki_setBack ho (by omega) (by rw[iH,<-hl];exact h3) (by omega) (by rw[hk];exact⟨_,I',q⟩)
theorem Bb(lo hi:Option Int)(n:Nat):(sliceBounds lo hi none n).1=((HT.sIx n 0 lo:Nat):Int)/\(sliceBounds lo hi none n).2.1=((HT.sIx n n hi:Nat):Int)/\(sliceBounds lo hi none n).2.2=1:=by
 refine⟨?_,?_,rfl⟩
 ·cases lo with
  |none=>simp[sliceBounds,HT.sIx]
  |some i=>
   simp only[sliceBounds,HT.sIx,Option.getD_none,show(1:Int)>0 by decide,gM];by_cases h:i<0
   ·simp only[h,gM]<;>omega
   ·simp only[h,iE]<;>omega
 ·cases hi with
  |none=>simp[sliceBounds,HT.sIx]
  |some i=>
   simp only[sliceBounds,HT.sIx,Option.getD_none,show(1:Int)>0 by decide,gM];by_cases h:i<0
   ·simp only[h,gM]<;>omega
   ·simp only[h,iE]<;>omega
theorem za(its:hV)(lo hi:Option Int):slicePick its.toArray lo hi none=((its.drop (HT.sIx its.length 0 lo)).take (HT.sIx its.length its.length hi-HT.sIx its.length 0 lo)).toArray:=by
 obtain⟨h1,h2,h3⟩:=Bb lo hi its.toArray.size;unfold slicePick;rw[h1,h2,h3];simp only[sliceRange_one,pick_run,iH]<;>rfl
def UG(K:gq):V->Option Int->Option Int->Hp->VK->Prop:=fun x lo hi H Q=> ∃a xs,x= .ref a/\SqL K H a xs/\ ∀p,H p=none->Q (.ref p) (upd H p (.lst (Du xs lo hi)))
theorem Mw:SlR X (UG X.K):=by
 intro pins s σ H x v vl vu lo hi sl Q I rx hs pl pu h;obtain⟨a,xs,rfl,hx,q⟩:=h;cases rx;obtain⟨its,r,ht,hz⟩:=I.list hx;have hlen:=r.length;refine⟨"list",_,slot_list_getitem.lookup,ht.isList.typeIs,?_⟩;refine wpAny_getItem_list_slice ht.isList hs pl pu .none (by simp) ?_ (by rw[iH]<;>omega);rw[za,<-hlen];refine⟨.ref s.heap.objs.size,_,I.laid (t':=s.toks) (o:= .lst (Du xs lo hi)) (fun b ob q=>iF _ q) (gY _) ?_,rfl,q _ (I.hok.fresh (gY _))⟩;exact⟨mO (wc xs lo hi) hz,_,0,(r.drop (HT.sIx xs.length 0 lo)).take (HT.sIx xs.length xs.length hi-HT.sIx xs.length 0 lo),jb _ rfl⟩
noncomputable def OD:V->Bool
 | .non=>true
 | .bl _=>true
 | .int _=>true
 | .str _=>true
 |_=>false
noncomputable def eqV:V->V->Bool
 | .non,.non=>true
 | .bl a,.bl b=>a==b
 | .bl a,.int b=>(if a then 1 else 0)==b
 | .int a,.bl b=>a==(if b then 1 else 0)
 | .int a,.int b=>a==b
 | .str a,.str b=>a==b
 |_,_=>false
theorem ki{A:gw}{s:fW}{y x:V}{u v:gg}(ry:RelV y u)(rx:RelV x v)(fy:OD y=true)(fx:OD x=true):SeqAt.EqAt A s u v (eqV y x):=by
 cases y with
 |non=>
  cases ry
  cases x with
  |non=>cases rx;exact SeqAt.EqAt.same _
  |bl b=>cases rx;exact SeqAt.EqAt.none_bool b
  |int b=>obtain⟨t,rfl⟩:=rx;exact SeqAt.EqAt.none_int b t
  |str b=>obtain⟨t,rfl⟩:=rx;exact SeqAt.EqAt.none_str b t
  |_=>exact absurd (show false=true from fx) iM
 |bl a=>
  cases ry
  cases x with
  |non=>cases rx;exact SeqAt.EqAt.bool_none a
  |bl b=>cases rx;exact SeqAt.EqAt.bool_bool a b
  |int b=>obtain⟨t,rfl⟩:=rx;exact SeqAt.EqAt.bool_int a b t
  |str b=>obtain⟨t,rfl⟩:=rx;exact SeqAt.EqAt.bool_str a b t
  |_=>exact absurd (show false=true from fx) iM
 |int a=>
  obtain⟨t',rfl⟩:=ry
  cases x with
  |non=>cases rx;exact SeqAt.EqAt.int_none a t'
  |bl b=>cases rx;exact SeqAt.EqAt.int_bool a t' b
  |int b=>obtain⟨t,rfl⟩:=rx;exact SeqAt.EqAt.int_int a t' b t
  |str b=>obtain⟨t,rfl⟩:=rx;exact SeqAt.EqAt.int_str a t' b t
  |_=>exact absurd (show false=true from fx) iM
 |str a=>
  obtain⟨t',rfl⟩:=ry
  cases x with
  |non=>cases rx;exact SeqAt.EqAt.str_none a t'
  |bl b=>cases rx;exact SeqAt.EqAt.str_bool a t' b
  |int b=>obtain⟨t,rfl⟩:=rx;exact SeqAt.EqAt.str_int a t' b t
  |str b=>obtain⟨t,rfl⟩:=rx;exact SeqAt.EqAt.str_str a t' b t
  |_=>exact absurd (show false=true from fx) iM
 |_=>exact absurd (show false=true from fy) iM
theorem uo:je X (.builtin "len") (fun xs H Q=> ∃p ys,xs=[.ref p]/\(SqL X.K H p ys\/SqT X.K H p ys)/\Q (.int ys.length) H):=by
 intro pins s σ H xs us Q I r h;obtain⟨p,ys,rfl,hq,q⟩:=h;obtain⟨u,rfl,rx⟩:=pB r;cases rx;have hn:=BG;rcases hq with hq|hq
 ·obtain⟨its,r',pl,hz⟩:=I.list hq;have hlen:=r'.length;exact Calls.call_len_list pl.isList (by simp only[iH]<;>omega) ⟨.int ys.length,H,I.tok _,⟨s.toks+1,by rw[iH,hlen]⟩,q⟩
 ·obtain⟨its,r',pl,hz⟩:=I.tuple hq;have hlen:=r'.length;exact len_tuple pl (by simp only[iH]<;>omega) ⟨.int ys.length,H,I.tok _,⟨s.toks+1,by rw[iH,hlen]⟩,q⟩
theorem um:je X (.type "list") (fun xs H Q=> ∃p ys,xs=[.ref p]/\(SqL X.K H p ys\/SqT X.K H p ys)/\ ∀l,H l=none->Q (.ref l) (upd H l (.lst ys))):=by
 intro pins s σ H xs us Q I r h;obtain⟨p,ys,rfl,hq,q⟩:=h;obtain⟨u,rfl,rx⟩:=pB r;cases rx
 have fin: ∀(its:hV),Vals ys its->ys.length<=sizeLine-> ∀(h':gD) (c':Nat),(∀b o',s.heap.get? b=some o'->h'.get? b=some o')->
   h'.get? s.heap.objs.size=some {cls:= .type "list",dict:=none,data:= .seq its.toArray c',slots:= #[]}->EP X pins σ Q (.ref s.heap.objs.size) {s with heap:=h'}:=fun its r' hz h' c' kp e=>
  ⟨.ref s.heap.objs.size,_,I.laid (t':=s.toks) kp (gY _) (show ObjOk X.prog X.w _ h' _ (.lst ys) from⟨hz,its,c',r',e⟩),rfl,q _ (I.hok.fresh (gY _))⟩
 rcases hq with hq|hq
 ·obtain⟨its,r',pl,hz⟩:=I.list hq;have hlen:=r'.length;obtain⟨o,ho,hc,n,hd⟩:=pl.isList;exact call_list_seq p (.inl rfl) ho hc hd (fun h' c' kp e=>fin its r' hz h' c' kp e) (by simp only[iH]<;>omega)
 ·obtain⟨its,r',pl,hz⟩:=I.tuple hq;have hlen:=r'.length;obtain⟨o,ho,hc,n,hd⟩:=pl;exact call_list_seq p (.inr rfl) ho hc hd (fun h' c' kp e=>fin its r' hz h' c' kp e) (by simp only[iH]<;>omega)
theorem rJ:je X (.type "tuple") (fun xs H Q=> ∃p ys,xs=[.ref p]/\((SqL X.K H p ys/\ ∀l,H l=none->Q (.ref l) (upd H l (.tup ys)))\/(SqT X.K H p ys/\Q (.ref p) H))):=by
 intro pins s σ H xs us Q I r h;obtain⟨p,ys,rfl,h⟩:=h;obtain⟨u,rfl,rx⟩:=pB r;cases rx;rcases h with⟨hq,q⟩|⟨hq,q⟩
 ·obtain⟨its,r',pl,hz⟩:=I.list hq;have hlen:=r'.length;refine call_tuple_list pl.isList (fun h' kp=>?_) (by simp only[iH]<;>omega);have I1:Inv X pins σ H {s with heap:=h'}:=I.kept (t':=s.toks) kp
  have I2:Inv X pins σ (upd H h'.objs.size (.tup ys)) {s with heap:=h'.push {cls:= .type "tuple",data:= .seq its.toArray}}:=
   I1.laid (t':=s.toks) (fun b o e=>iF _ e) (gY _) (show ObjOk X.prog X.w _ _ _ (.tup ys) from⟨hz,its,r',A0 _ _⟩)
  exact⟨.ref h'.objs.size,_,I2,rfl,q _ (I1.hok.fresh (gY _))⟩
 ·obtain⟨its,r',pl,hz⟩:=I.tuple hq;exact call_tuple_same pl ⟨.ref p,H,I,rfl,q⟩
def tyV(K:gq)(T:String)(x:V)(H:Hp):Prop:=match x with
 | .str _=>T="str"
 | .int _=>T="int"
 | .ref p=>(T="list"/\ ∃xs,SqL K H p xs)\/(T="tuple"/\ ∃o,K.lookup p=some o/\o.cls= .type "tuple"/\o.dict=none)\/
   (T="dict"/\((∃kvs,H p=some (.dK kvs))\/ ∃kvs,H p=some (.dT kvs)))\/(T="set"/\ ∃S n,H p=some (.set S n))
 |_=>False
theorem JC{pins:gE}{σ:St}{H:Hp}{s:fW}{T:String}{x:V}{v:gg}(I:Inv X pins σ H s)(r:RelV x v)(ty:tyV X.K T x H):
  s.TypeIs v T/\ ∀a,v= .ref a-> ∃ob,s.heap.get? a=some ob/\ob.dict=none:=by
 cases x with
 |str z=>
  obtain⟨t,rfl⟩:=r;cases(show T="str" from ty);exact⟨typeIs_str s z t,fun _ e=>nomatch e⟩
 |int i=>
  obtain⟨t,rfl⟩:=r;cases(show T="int" from ty);exact⟨typeIs_int s i t,fun _ e=>nomatch e⟩
 |ref p=>
  cases r;rcases ty with⟨rfl,xs,hq⟩|⟨rfl,o,hk,hc,hd⟩|⟨rfl,hk⟩|⟨rfl,S,n,hk⟩
  ·obtain⟨its,_,pl,_⟩:=I.list hq;refine⟨pl.isList.typeIs,fun a e=>?_⟩;cases e;obtain⟨o,n,e,c,hd,_⟩:=pl;exact⟨o,e,hd⟩
  ·refine⟨⟨o,I.kIn p o hk,hc⟩,fun a e=>?_⟩;cases e;exact⟨o,I.kIn _ o hk,hd⟩
  ·have z: ∃o,s.heap.get? p=some o/\o.ExactDict:=by
    rcases hk with⟨kvs,hk⟩|⟨kvs,hk⟩
    ·obtain⟨_,_,_,_,o,_,_,e,ex,_⟩:=I.hok p _ hk;exact⟨o,e,ex⟩
    ·obtain⟨_,_,_,_,o,_,_,e,ex,_⟩:=I.hok p _ hk;exact⟨o,e,ex⟩
   obtain⟨o,e,ex⟩:=z;refine⟨⟨o,e,ex.1⟩,fun a e2=>?_⟩;cases e2;exact⟨o,e,ex.2.1⟩
  ·obtain⟨o,_,_,_,e,ex,_⟩:=I.hok p _ hk;refine⟨⟨o,e,ex.1⟩,fun a e2=>?_⟩;cases e2;exact⟨o,e,ex.2.1⟩
 |_=>exact False.elim ty
def T3(K:gq)(T:String)(r:V->List V->Hp->VK->Prop)(to:TE):TE:=fun σ H Q=>to σ H fun x H1=>tyV K T x H1/\r x [] H1 Q
def tBM(K:gq)(T:String)(r:V->List V->Hp->VK->Prop)(to:TE)(t:TA):TE:=fun σ H Q=>to σ H fun x H1=>tyV K T x H1/\t σ H1 fun xs H2=>r x xs H2 Q
variable {o e:gf}{es:iL}{to:TE}{t:TA}{name:Str}{apos i5:Pos}{T id:String}{r:V->List V->Hp->VK->Prop}
theorem Qm(pa:PlainAttrs T)(slot:Slot T name id)(eB:typeOf (.builtin id)=pure (.type "method_descriptor"))(hm:MtR X id r)(ho:PE X o to)
  (j4:attributeBase o name X.env (eval o X.env)=eval o X.env:=by rfl)(j0:(apos.endLine==i5.line)=true:=by rfl):PE X (.Call (.Attribute o name apos) [] [] i5) (T3 X.K T r to):=by
 intro pins s σ H Q I h;refine wpAny_Call_method0_late j4 j0 (thn (ho pins s σ H _ I h) fun v s1 ⟨x,H1,I1,r1,ty,q1⟩=>?_);obtain⟨h1,h2⟩:=JC I1 r1 ty;exact⟨T,id,pa,slot,eB,h1,h2,Jk rfl (PySem.evalArgs_none (hm pins s1 σ H1 x [] v [] Q I1 r1 .nil q1))⟩
theorem Ol(pa:PlainAttrs T)(slot:Slot T name id)(eB:typeOf (.builtin id)=pure (.type "method_descriptor"))(hm:MtR X id r)(ho:PE X o to)(ha:PA X (e::es) t)
  (j4:attributeBase o name X.env (eval o X.env)=eval o X.env:=by rfl)
  (u5:((backTo i5 (starEach (e::es) X.env)).all (fun x=>!x.1)&&(backToKw i5 (keywordEach [] X.env)).all (fun x=>x.1.isSome)
   &&decide ((e::es).length+([]:List Keyword).length+(if([]:List Keyword).isEmpty then 0 else 1)<30))=true:=by rfl)
  (j0:(apos.endLine==i5.line)=true:=by rfl)(hs:starEach (e::es) X.env=(false,eval e X.env)::starEach es X.env:=by rfl)(f7:(backTo i5 (starEach es X.env)).any (·.1)=false:=by rfl):
  PE X (.Call (.Attribute o name apos) (e::es) [] i5) (tBM X.K T r to t):=by
 intro pins s σ H Q I h;refine wpAny_Call_method_late j4 u5 j0 rfl (thn (ho pins s σ H _ I h) fun v s1 ⟨x,H1,I1,r1,ty,q1⟩=>?_);obtain⟨h1,h2⟩:=JC I1 r1 ty;refine⟨T,id,pa,slot,eB,h1,h2,?_⟩;have hA:=ha i5 pins s1 σ H1 _ I1 q1;rw[hs] at hA ⊢;refine Jk (by show(false||(backTo i5 (starEach es X.env)).any (·.1))=false;rw[f7]<;>rfl) (Calls.evalArgs_plain ?_);exact thn hA fun us s2 ⟨vs,H2,I2,r2,q2⟩=>hm pins s2 σ H2 x vs v us Q I2 r1 r2 q2
end
def MtM(X:Cx)(id:String)(r:V->List V->Hp->VK->Prop):Prop:=
 ∀(pins:gE) (s:fW) (σ:St) (H:Hp) (x:V) (xs:List V) (v:gg) (us:hV) (Q:VK),Inv X pins σ H s->RelV x v->Vals xs us->r x xs H Q->
  wpAny (model X.prog X.w) X.A (call (.builtin id) (v::us)) (EP X pins σ Q) X.xe s
theorem Vals.one: ∀{x:V} {us:hV},Vals [x] us-> ∃u,us=[u]/\RelV x u
 |_,_,.cons r .nil=>⟨_,rfl,r⟩
theorem Vals.zero: ∀{us:hV},Vals [] us->us=[]
 |_,.nil=>rfl
theorem Vals.dropLast{xs:List V}{us:hV}(h:Vals xs us):Vals xs.dropLast us.dropLast:=by
 induction h with
 |nil=>exact .nil
 |cons r t ih=>
  cases t with
  |nil=>exact .nil
  |cons q t'=>exact .cons r ih
theorem Vals.eraseIdx: ∀{xs:List V} {us:hV} (i:Nat),Vals xs us->Vals (xs.eraseIdx i) (us.eraseIdx i)
 |_,_,_,.nil=> .nil
 |_,_,0,.cons _ t=>t
 |_,_,i+1,.cons r t=> .cons r (Vals.eraseIdx i t)
theorem Vals.rep{xs:List V}{us:hV}(h:Vals xs us): ∀k:Nat,Vals (List.replicate k xs).flatten (List.replicate k us).flatten
 |0=> .nil
 |k+1=>by
  rw[vO,vO,uO,uO];exact Vals.append h (Vals.rep h k)
theorem Fm{α:Type}(l:List α):l.eraseIdx (l.length-1)=l.dropLast:=by
 induction l with
 |nil=>rfl
 |cons a r ih=>
  cases r with
  |nil=>rfl
  |cons b r=>
   have e:(a::b::r).length-1=((b::r).length-1)+1:=by
    have h1:(a::b::r).length=r.length+2:=rfl;have h2:(b::r).length=r.length+1:=rfl;omega
   rw[e,List.eraseIdx_cons_succ,ih]
   all_goals rfl
theorem Ae{α:Type}: ∀(l:List α) (i:Nat),(l.eraseIdx i).length<=l.length
 |[],_=>gY _
 |_::_,0=>uN _
 |_::r,i+1=>Nat.succ_le_succ (Ae r i)
theorem Aj(its:hV): ∀(k:Nat) (acc:hV),
  List.foldl (fun x1 x2=>x1++x2) acc.toArray (List.replicate k its.toArray)=(acc++(List.replicate k its).flatten).toArray
 |0,acc=>by simp
 |k+1,acc=>by
  have e:acc.toArray++its.toArray=(acc++its).toArray:=by simp
  have e2:(acc++its)++(List.replicate k its).flatten=acc++(List.replicate (k+1) its).flatten:=by
   rw[vO,uO,jI]
  rw[<-e2,<-Aj its k (acc++its),<-e,vO,List.foldl_cons]
section
variable {X:Cx}{pins:gE}{σ:St}{H:Hp}{s:fW}{l b:fR}{xs ys zs:List V}
theorem Inv.lset{its its':hV}{n:Nat}{f:Array Value->Array Value}{t':Nat}(I:Inv X pins σ H s)(hH:H l=some (.lst xs))
  (e:s.heap.get? l=some {cls:= .type "list",data:= .seq its.toArray n})(hf:f its.toArray=its'.toArray)(hv:Vals ys its')(hz:ys.length<=sizeLine):
  Inv X pins σ (upd H l (.lst ys)) {s with heap:=s.heap.update l (Obj.mapSeq f),toks:=t'}:=by
 have q:=PySem.IsL.update e f;rw[hf] at q;refine I.write (x:=l) (e:=l) (by rw[hH];exact trivial) (.inl rfl) (fun b' u hb hu=>(AZ s.heap (Obj.mapSeq f) (rl hb)).trans hu) ⟨_,q⟩ ?_;exact⟨hz,its',_,hv,q⟩
theorem Inv.lnew{its:hV}{t':Nat}(I:Inv X pins σ H s)(hv:Vals ys its)(hz:ys.length<=sizeLine):
  Inv X pins σ (upd H s.heap.objs.size (.lst ys)) {s with heap:=s.heap.push {cls:= .type "list",data:= .seq its.toArray},toks:=t'}:=
 I.laid (fun _ _ q=>iF _ q) (gY _) ⟨hz,its,0,hv,jb _ rfl⟩
theorem Inv.fresh(I:Inv X pins σ H s):H s.heap.objs.size=none:=I.hok.fresh (gY _)
theorem Inv.lstM(I:Inv X pins σ H s)(hH:H l=some (.lst xs)):xs.length<=sizeLine/\ ∃(its:hV) (n:Nat),Vals xs its/\xs.length=its.length/\s.heap.get? l=some {cls:= .type "list",data:= .seq its.toArray n}:=by
 obtain⟨z,its,n,r,e⟩:=I.hok l _ hH;exact⟨z,its,n,r,r.length,e⟩
theorem K9{n:Nat}(h:n<=sizeLine):Builtin.List.listTooLong n=false:=by
 unfold Builtin.List.listTooLong;exact lL (by omega)
end
section
variable {X:Cx}
def MD:V->List V->Hp->VK->Prop:=fun x vs H Q=> ∃l xs y,x= .ref l/\vs=[y]/\H l=some (.lst xs)/\xs.length<sizeLine/\Q .non (upd H l (.lst (xs++[y])))
theorem HI:MtM X "list.append" MD:=by
 intro pins s σ H x vs v us Q I rx rv h;obtain⟨l,xs,y,rfl,rfl,hH,hz,q⟩:=h;cases rx;obtain⟨u,rfl,ru⟩:=rv.one;obtain⟨z,its,n,r,hl,e⟩:=I.lstM hH;refine uM F.slot_list_append ⟨_,e,rfl⟩ Jj (Ji _ _) (PySem.list_append l its.toArray n u (by rw[iH];omega)) ⟨e,?_⟩;refine⟨.non,_,I.lset (its':=its++[u]) hH e (by simp) (r.append (.cons ru .nil)) ?_,rfl,q⟩;rw[pq,Jh];omega
def UI:V->List V->Hp->VK->Prop:=fun x vs H Q=> ∃l xs y,x= .ref l/\vs=[]/\H l=some (.lst xs)/\xs[xs.length-1]?=some y/\Q y (upd H l (.lst xs.dropLast))
theorem QJ:MtM X "list.pop" UI:=by
 intro pins s σ H x vs v us Q I rx rv h;obtain⟨l,xs,y,rfl,rfl,hH,hy,q⟩:=h;cases rx;have hus:=rv.zero;subst hus;obtain⟨z,its,n,r,hl,e⟩:=I.lstM hH;obtain⟨u,hu,ru⟩:=r.get hy
 have eu:its.toArray[its.toArray.size-1]?=some u:=by
  show its.toArray[its.length-1]?=some u;rw[<-rQ,<-hl];exact hu
 refine uM F.slot_list_pop ⟨_,e,rfl⟩ F.entry_list_pop (F.args_list_pop_1 _) (MeetsSeq.list_pop_last l its.toArray n u eu (by rw[iH];omega)) ⟨e,?_⟩;refine⟨y,_,I.lset (its':=its.dropLast) hH e ?_ r.dropLast ?_,ru,q⟩
 ·show its.toArray.eraseIdxIfInBounds (its.toArray.size-1)=its.dropLast.toArray;rw[iH,Jg,Fm]
 ·rw[Ea];omega
def Pr:V->List V->Hp->VK->Prop:=fun x vs H Q=> ∃l xs i k y,x= .ref l/\vs=[.int i]/\H l=some (.lst xs)/\ -(2^63)<=i/\i<2^63/\seqIndex? i xs.length=some k/\xs[k]?=some y/\Q y (upd H l (.lst (xs.eraseIdx k)))
theorem Lb:MtM X "list.pop" Pr:=by
 intro pins s σ H x vs v us Q I rx rv h;obtain⟨l,xs,i,k,y,rfl,rfl,hH,h1,h2,hk,hy,q⟩:=h;cases rx;obtain⟨u,rfl,ru⟩:=rv.one;obtain⟨t,rfl⟩:=ru;obtain⟨z,its,n,r,hl,e⟩:=I.lstM hH;obtain⟨w,hw,bQ⟩:=r.get hy
 refine uM F.slot_list_pop ⟨_,e,rfl⟩ F.entry_list_pop (F.args_list_pop_2 _ _)
  (MeetsSeq.list_pop_at l its.toArray n i t k w (fitsIndex_both h1 h2) (by rw[iH,<-hl];exact hk) (by rw[<-rQ];exact hw) (by rw[iH];omega)) ⟨e,?_⟩
 refine⟨y,_,I.lset (its':=its.eraseIdx k) hH e ?_ (r.eraseIdx k) ?_,bQ,q⟩
 ·show its.toArray.eraseIdxIfInBounds k=(its.eraseIdx k).toArray;rw[Jg]
 ·have:=Ae xs k;omega
theorem ND{α:Type}(xs:List α)(k:Nat):(List.replicate k xs).flatten.length=k*xs.length:=by
 induction k with
 |zero=>simp
 |succ k ih=>rw[vO,uO,pq,ih,Nat.succ_mul,Nat.add_comm]
end
section
variable {prog:gA}{w:gu}{A:gw}{E:gH}{s:fW}
end
section
variable {X:Cx}
end
end L2
namespace Att
open PySem PySem.W PySem.Calls PyProof.Rows
theorem wq{P:Params}{h:gD}: ∀(ns:gc) (vs:hV),WellAll P h vs (ns.map WData.int)->IntsAre vs ns:=by
 intro ns
 induction ns with
 |nil=>
  intro vs w;rw[vN] at w;cases w;exact .nil
 |cons n ns ih=>
  intro vs w;rw[il] at w
  cases w with
  |cons a b=>
   cases a;exact .cons _ _ (ih _ b)
theorem Hj{l:OpenLaw}{n:Nat}(hn:l.most=some n){P:Params}{h:gD}{args:List WData}{vals:hV}
  (w9:l.row.toRowW.claim.pre args=true)(ez:WellAll P h vals args):
  ∃a vs ns,vals=[Value.ref a]/\args=[WData.list (ns.map WData.int)]/\h.get? a=some {cls:= .type "list",data:= .seq vs.toArray}/\IntsAre vs ns/\ns.length<=n:=by
 have hsh:WShape.hasAll [] args [.list .int]=true:=(pre_splitW w9).1;have hc:l.pre.holds [] {args:=args}=true:=(pre_splitW w9).2;obtain⟨d,r,rfl,h1,h2⟩:=hasAllW_cons hsh;obtain rfl:=hasAllW_nil h2;obtain⟨xs,rfl,h3⟩:=hasW_list h1;obtain⟨ns,rfl⟩:=items_int h3
 have hlen:ns.length<=n:=by
  unfold OpenLaw.pre at hc
  have h4:(WTm.not (.lt (.lit (.int (n:Int))) (.len (.arg 0)))).holds [] {args:=[.list (ns.map .int)]}=true:=by
   have h4:=(holds_andW hc).1;rw[hn] at h4;exact h4
  have h5:=condW_of h4 (w_not (w_lt w_lit (w_len_list (w_arg rfl))));rw[iG] at h5;refine Nat.le_of_not_lt fun q=>?_;have q':(n:Int)<((ns.length:Nat):Int):=by omega
  first
   |(rw[rf q'] at h5;exact absurd h5 (by decide))
   |(simp at h5;omega)
 cases ez with
 |cons w1 w2=>
  cases w2
  cases w1 with
  |list ho cq=>exact⟨_,_,ns,rfl,rfl,ho,wq ns _ cq,hlen⟩
theorem Hx(l:OpenLaw)(args:List WData):l.row.toRowW.claim.post args (.bool true) args=true:=
 postW_of (r:=l.row.toRowW) (X:=(true==true))
  (show WShape.has [] (.bool true) .bool=true by first|rfl|decide|simp[WShape.has,WShape.arms,WShape.armsAll])
  (show(WTm.eq .res (.lit (.bool true))).value [] {args:=args,res:=some (.bool true),after:=args}=some (.bool (true==true)) from w_eq_bool (w_res rfl) w_lit) rfl
theorem NX{l:OpenLaw}{n:Nat}{q:gA}{loose:gZ}{XP:(Str->Option Value)->Heap->Prop}{YP:World->Heap->Prop}{d:DefRec}
  (hn:l.most=some n)(cX:d.params.defaults=[])
  (call: ∀(w:gu) (s₀ s₁:fW) (mg mb:kM) (fa:fR) (o:Obj) (pm cd doc:gg) (a:fR) (vs:hV) (ns:gc),
   Ground q loose [] XP w s₀ mg mb s₁.heap->YP w s₁.heap->
   s₁.heap.get? fa=some o->o.data= .func (docDef d.name d.params d.body d.scope pm cd doc)->s₁.heap.CodeRec cd d.name->mg d.name=some (.ref fa)->
   s₁.heap.get? a=some {cls:= .type "list",data:= .seq vs.toArray}->IntsAre vs ns->ns.length<=n->s₁.gens= #[]->
   codeAny (model l.prog w) callerA (.call (.ref fa) ⟨[.ref a],[]⟩) (fun r s'=>r= .ok (.ret (.bool true))/\OldK s₁.heap s'.heap/\s'.os=s₁.os/\AllBare s'.gens) s₁):
  WalkO q loose XP YP l.row.toRowW d [] (fun f vs=>PySem.call f vs):=by
 intro w s₀ s₁ mg mb G Y fa o pm cd doc dV kV ho hd x9 hD hmg hg args vals as w9 hlay hrd ez hlo;obtain rfl:dV= .none:=Dflts.none hD cX;obtain rfl:kV= .none:=Dflts.noKw hD;obtain⟨a,vs,ns,rfl,rfl,cg,hints,hlen⟩:=Hj hn w9 ez;refine enter_call (sO (call w s₀ s₁ mg mb fa o pm cd doc a vs ns G Y ho (fd_plain hd) x9 hmg cg hints hlen hg) fun r s' hq=>?_);obtain⟨rfl,h2,h3,h4⟩:=hq;exact⟨.inl ⟨.bool true,.bool true,[],rfl,fun _=>rfl,.bool true,Hx l _,fun _=>⟨List.Pairwise.nil,fun _ hm=>(nomatch hm)⟩⟩,h2,h3,h4⟩
section
variable {prog:gA}{w:gu}{A:gw}{E:gH}{s:fW}{K:Frag}
end
end Att
namespace L2
open PySem PySem.Spec PyProof.Rows
theorem zG: ∀{vs:hV} {ns:gc},IntsAre vs ns->Vals (ns.map V.int) vs
 |_,_,.nil=> .nil
 |_,_,.cons n t h=> .cons ⟨t,rfl⟩ (zG h)
def RC(H:Hp):Prop:= ∀b,H b=none\/ ∃o xs,H b=some (.frz o (.lst xs))
theorem Lk{P:gA}{w:gu}{K:gq}{mg mb:kM}{CX:CXT}{k:Nat}{fa a:fR}{fd:mZ}{x:Str}{sp:Sp}{s₁:fW}{vs:hV}{ns:gc}
  (KX:K.In s₁.heap)(aO:s₁.heap.Ns mainGlobals mg)(hb:s₁.heap.Ns builtinsNs mb)(hbb: ∀x:Str,x≠"__name__"->mb x=bootBuiltins x)(hlim:s₁.heap.NoLimit)(hg:s₁.gens= #[])
  (ha:s₁.heap.get? a=some {cls:= .type "list",data:= .seq vs.toArray})(hi:IntsAre vs ns)(hl:ns.length<=sizeLine)(hr:Room k callerA)
  (F: ∀base:Heap,K.In base->base.Ns mainGlobals mg->FnOk P w K mg base CX k fa fd [x] sp)(hbind: ∀(s:fW) (u:gg),BindsTo s fd ⟨[u],[]⟩ [(x,u)])
  (bK: ∀H:Hp,RC H->SqL K H a (ns.map V.int)->sp [.ref a] H (fun v _=>v= .bl true) fun _ _ _=>False)
  (fj: ∀H e s',CX [] H s₁ (fun _ _ _=>False) e s'->False):
  codeAny (model P w) callerA (.call (.ref fa) ⟨[.ref a],[]⟩) (fun r s'=>r= .ok (.ret (.bool true))/\OldK s₁.heap s'.heap/\s'.os=s₁.os/\AllBare s'.gens) s₁:=by
 have rv:=zG hi;have lenV:=hi.length
 have core: ∀H:Hp,RC H->SqL K H a (ns.map V.int)->HOk P w H s₁.heap->(∀b,H b≠none->b=a)->(H a≠none->K.lookup a=none)->
   codeAny (model P w) callerA (.call (.ref fa) ⟨[.ref a],[]⟩) (fun r s'=>r= .ok (.ret (.bool true))/\OldK s₁.heap s'.heap/\s'.os=s₁.os/\AllBare s'.gens) s₁:=by
  intro H hO hS hok hA hK;have base_of: ∀{b:fR} {o:Obj},s₁.heap.get? b=some o->H b=none->(BL s₁.heap H).get? b=some o:=fun e n=>Lx e n
  have cM: ∀{b:fR} {o:Obj} {es:Array DictEntry} {ep:Nat},s₁.heap.get? b=some o->o.data= .dict es ep->H b=none:=fun {b o es ep} e d=>by
   cases q:H b with
   |none=>rfl
   |some u=>
    have e':b=a:=hA b (by rw[q];simp);subst e';rw[ha] at e;cases e;have d':Data.seq vs.toArray _=Data.dict es ep:=d;cases d'
  have dq: ∀{b:fR} {m:kM},s₁.heap.Ns b m->(BL s₁.heap H).Ns b m:=fun {b m} ⟨o,es,ep,e,d,r⟩=>⟨o,es,ep,base_of e (cM e d),d,r⟩
  have hKb:K.In (BL s₁.heap H):=fun b o e=>base_of (KX b o e) (by
   cases q:H b with
   |none=>rfl
   |some u=>
    have e':b=a:=hA b (by rw[q];simp);subst e';rw[hK (by rw[q];simp)] at e;cases e)
  have hM:Mod K mg (BL s₁.heap H):=⟨hKb,dq aO,⟨mb,dq hb,hbb⟩,let⟨mc,h1,h2⟩:=hlim;⟨mc,dq h1,h2⟩⟩
  have e0:Env0 P w K mg (BL s₁.heap H) callerA [] s₁ H:=⟨rfl,hM,fun b o e=>NA e,Nat.le_of_eq (HU _ _),trivial,fun b hb=>absurd (show b∈([]:List Addr) from hb) (by simp),hok,.of_eq hg⟩
  refine sO ((F _ hKb (dq aO)).run callerA [] s₁ H ⟨[.ref a],[]⟩ [.ref a] [.ref a] _ _ hr e0 (hbind s₁ (.ref a)) (.cons rfl .nil) (bK H hO hS)) fun r s' h=>?_
  cases r with
  |error e=>exact(fj H e s' h).elim
  |ok fl=>
   cases fl with
   |next=>exact False.elim h
   |brk=>exact False.elim h
   |cont=>exact False.elim h
   |ret u=>
    obtain⟨v,H',os,bare,un,hok',r',q⟩:=h;have q':v= .bl true:=q;subst q';obtain rfl:u=Value.bool true:=r';refine⟨rfl,OldK.of_keep fun b o e=>?_,os,bare⟩
    cases q:H b with
    |none=>exact un.keep b o e q (by intro z;exact absurd (show b∈([]:List Addr) from z) (by simp)) (by simp)
    |some u=>
     rcases hO b with z|⟨ob,xs,z⟩
     ·rw[q] at z;cases z
     ·have z2:=un.frzs b ob _ z;obtain⟨e1,_⟩:=hok b _ z;obtain⟨e2,_⟩:=hok' b _ z2;rw[e] at e1;cases e1;exact e2
 cases hk:K.lookup a with
 |some o=>
  have e:=KX a o hk;rw[ha] at e;cases e;refine core (fun _=>none) (fun _=> .inl rfl) (.inr ⟨_,vs.toArray,_,hk,rfl,rfl,rfl,by rw[iH,lenV];exact hl,by simpa using rv⟩) (fun b u z=>by have z':(none:Option HO)=some u:=z;cases z') (fun b z=>absurd rfl z) fun z=>absurd rfl z
 |none=>
  refine core (fun b=>if b=a then some (.frz {cls:= .type "list",data:= .seq vs.toArray} (.lst (ns.map V.int))) else none) (fun b=>?_) (.inl (.inr ⟨{cls:= .type "list",data:= .seq vs.toArray},gd rfl⟩)) (fun b u z=>?_) (fun b z=>?_) fun _=>hk
  ·by_cases hb:b=a
   ·exact .inr ⟨_,_,gd hb⟩
   ·exact .inl (gk hb)
  ·by_cases hb:b=a
   ·have z':=(gd hb).symm.trans z;cases z';subst hb;exact⟨ha,by rw[iG];exact hl,vs,_,rv,ha⟩
   ·have z':=(gk hb).symm.trans z;cases z'
  ·by_cases hb:b=a
   ·exact hb
   ·exact absurd (gk hb) z
theorem RO{l:PySem.W.OpenLaw}{n k:Nat}{q:gA}{loose:gZ}{XP:(Str->Option Value)->Heap->Prop}{YP:World->Heap->Prop}{d:DefRec}{K:Params->PySem.W.Frag}{CX:World->CXT}{sp:World->Sp}{x:Str}
  (hn:l.most=some n)(hn2:n<=sizeLine)(cX:d.params.defaults=[])(hr:Room k callerA)
  (hY: ∀(w:gu) (h:gD),YP w h->(K w.params).In h)
  (F: ∀(w:gu) (mg:kM) (fa:fR) (h:gD),(K w.params).In h->h.Ns mainGlobals mg->mg d.name=some (.ref fa)->
   ∃fd:FuncData,(∀(s:fW) (u:gg),BindsTo s fd ⟨[u],[]⟩ [(x,u)])/\
    ∀base:Heap,(K w.params).In base->base.Ns mainGlobals mg->FnOk l.prog w (K w.params) mg base (CX w) k fa fd [x] (sp w))
  (bK: ∀(w:gu) (H:Hp) (a:fR) (ns:gc),ns.length<=n->RC H->SqL (K w.params) H a (ns.map V.int)->sp w [.ref a] H (fun v _=>v= .bl true) fun _ _ _=>False)
  (fj: ∀(w:gu) (H:Hp) (s:fW) (e:gg) (s':fW),CX w [] H s (fun _ _ _=>False) e s'->False):
  PySem.W.WalkO q loose XP YP l.row.toRowW d [] (fun f vs=>PySem.call f vs):=by
 refine Att.NX hn cX fun w s₀ s₁ mg mb fa o pm cd doc a vs ns G Y ho hd x9 hmg cg hints hlen hg=>?_;have KX:=hY w _ Y;obtain⟨fd,hb,hF⟩:=F w mg fa _ KX G.T.g hmg;exact Lk KX G.T.g G.T.b G.T.builtins G.T.nolimit hg cg hints (mO hlen hn2) hr hF hb (fun H hO hS=>bK w H a ns hlen hO hS) fun H e s'=>fj w H s₁ e s'
noncomputable def qT(s:Stmt):Arguments:=match s with
 | .FunctionDef _ a _ _ _ _ _ _ _ _=>a
 |_=>{posonlyargs:=[],args:=[],vararg:=none,kwonlyargs:=[],kw_defaults:=[],kwarg:=none,defaults:=[]}
noncomputable def mD(s:Stmt):List Stmt:=match s with
 | .FunctionDef _ _ b _ _ _ _ _ _ _=>b
 |_=>[]
noncomputable def gb(s:Stmt):Scope:=match s with
 | .FunctionDef _ _ _ _ _ _ sc _ _ _=>sc
 |_=>{kind:= .function,names:=[],isGenerator:=false,isCoroutine:=false}
abbrev CX0:CXT:=fun _ _ _ _ _ _=>False
abbrev E0:XK:=fun _ _ _=>False
theorem Sy{X:Cx}:FQ CX0 X E0:=fun _ _ _ _ _ _ _ h=>h.elim
structure Fun(K:gq)(x qual:Str)(st:Stmt)(f:fR)(fd:mZ):Prop where
 ex: ∃(oc:gg) (od:Option Addr) (kV doc pm:gg) (an:Option Addr) (d8 ct:gg) (ax:vE),
  fd=PySem.W.fnOf x qual (qT st) (mD st) (gb st) .none kV doc pm an d8 ct/\K.lookup f=some ⟨oc,od,.func fd,ax⟩/\PySem.W.codeIn K d8 qual=true
 kp:PySem.W.keepIn K (.ref f)=true
section
variable {P:gA}{w:gu}{K:gq}{mg:kM}{base:gD}
theorem Fun.ok{x qual:Str}{st:Stmt}{f:fR}{fd:mZ}{N ps:gZ}{k:Nat}{sp:Sp}(F:Fun K x qual st f fd)(S:FnScope N ps (gb st))(len: ∀vs H Q E,sp vs H Q E->vs.length=ps.length)
  (y3: ∀(d8:gg) (A:gw) (outer:List Env) (s:fW) (H:Hp) (vs:List V) (Q:VK) (E:XK),Room k (A.deeper (envOfC qual (gb st) s.heap.objs.size f d8))->sp vs H Q E->
   ∃t,PSs (Dt CX0 P w K mg base N qual (gb st) f d8 A outer s H E).nox (mD st) t/\t {nx:=fun _ H'=>Q .non H',rt:=Q} (sY N vs) H):FnOk P w K mg base CX0 (k+1) f fd ps sp:=by
 obtain⟨oc,od,kV,doc,pm,an,d8,ct,ax,rfl,lk,x9⟩:=F.ex;refine S0 lk x9 S len fun A outer s H vs Q E hr bK=>?_;obtain⟨t,h,q⟩:=y3 d8 A outer s H vs Q E hr bK;exact⟨t,h.nox,q⟩
theorem Fun.binds{x qual:Str}{st:Stmt}{f:fR}{fd:mZ}{ps:gZ}(F:Fun K x qual st f fd)
  (h: ∀(kV doc pm:gg) (an:Option Addr) (d8 ct:gg) (us:hV),us.length=ps.length->bindArgs (PySem.W.fnOf x qual (qT st) (mD st) (gb st) .none kV doc pm an d8 ct) ⟨us,[]⟩=pure (ps.zip us)):Binds K fd ps []:=by
 obtain⟨oc,od,kV,doc,pm,an,d8,ct,ax,rfl,lk,x9⟩:=F.ex;exact .all (h kV doc pm an d8 ct)
theorem Rf{x qual:Str}{st:Stmt}{f:fR}{oc:gg}{od an:Option Addr}{ax:vE}{kV doc pm d8 ct:gg}(l:K.lookup f=some ⟨oc,od,.func (PySem.W.fnOf x qual (qT st) (mD st) (gb st) .none kV doc pm an d8 ct),ax⟩)
  (c:PySem.W.codeIn K d8 qual=true)(k:PySem.W.keepIn K (.ref f)=true):Fun K x qual st f (PySem.W.fnOf x qual (qT st) (mD st) (gb st) .none kV doc pm an d8 ct):=⟨⟨oc,od,kV,doc,pm,an,d8,ct,ax,rfl,l,c⟩,k⟩
end
section
variable {X:Cx}
end
theorem Q4{A B:Prop}(h:B):if false=true then A else B:=by
 rw[gk iM];exact h
theorem Q3{A B:Prop}(h:A):if true=true then A else B:=by
 rw[gd rfl];exact h
def Same(H H':Hp):Prop:= ∀b o,H b=some o->H' b=some o
theorem Same.refl(H:Hp):Same H H:=fun _ _ h=>h
theorem Same.trans{H H1 H2:Hp}(a:Same H H1)(b:Same H1 H2):Same H H2:=fun c o h=>b c o (a c o h)
theorem sA(env:Env): ∀(l:List (Str×NameKind)) (cs:jS),(∀x∈l,x.2= .free-> ∃c,env.cells.lookup x.1=some c)->(∀x c,cs.lookup x=some c->env.cells.lookup x=some c)->
  ∃cl,(forIn l cs fun x r=>if x.2==NameKind.free then do let a <-cellOf env x.1;pure (ForInStep.yield ((x.1,a)::r)) else pure (ForInStep.yield r))=(pure cl:Sem (List (Str×Addr)))/\
   (∀x c,cl.lookup x=some c->env.cells.lookup x=some c)/\(∀x,(x,NameKind.free)∈l-> ∃c,cl.lookup x=some c)/\ ∀x c,cs.lookup x=some c-> ∃c,cl.lookup x=some c
 |[],cs,_,hc=>⟨cs,rfl,hc,fun x h=>by simp at h,fun x c h=>⟨c,h⟩⟩
 |(n,k)::l,cs,h,hc=>by
  by_cases hk:k= .free
  ·subst hk;obtain⟨c,e⟩:=h (n,.free) iO rfl;have e':env.cells.lookup n=some c:=e
   obtain⟨cl,h1,h2,h3,h4⟩:=sA env l ((n,c)::cs) (fun x hx=>h x (iT _ hx)) (fun x d hx=>by
    rw[ng] at hx
    cases hb:x==n with
    |true=>rw[hb] at hx;have:=sN hb;subst this;cases hx;exact e'
    |false=>rw[hb] at hx;exact hc x d hx)
   refine⟨cl,?_,h2,fun x hx=>?_,fun x d hx=>?_⟩
   ·rw[xk];have:cellOf env n=pure c:=by unfold cellOf;rw[e']
    simp only[this,pure_bind,beq_self_eq_true,gM];exact h1
   ·rcases jQ.mp hx with z|z
    ·cases z;exact h4 n c (by simp[ng])
    ·exact h3 x z
   ·cases hb:x==n with
    |true=>have:=sN hb;subst this;exact h4 x c (by simp[ng])
    |false=>exact h4 x d (by rw[ng,hb];exact hx)
  ·obtain⟨cl,h1,h2,h3,h4⟩:=sA env l cs (fun x hx=>h x (iT _ hx)) hc;have hb:(k==NameKind.free)=false:=by simpa using hk
   refine⟨cl,?_,h2,fun x hx=>?_,h4⟩
   ·rw[xk];simp only[hb,hC,iE,pure_bind];exact h1
   ·rcases jQ.mp hx with z|z
    ·cases z;exact absurd rfl hk
    ·exact h3 x z
theorem sy(env:Env)(scope:iK)(h: ∀x∈scope.names,x.2= .free-> ∃c,env.cells.lookup x.1=some c):
  ∃cl,closureFor scope env=pure cl/\(∀x c,cl.lookup x=some c->env.cells.lookup x=some c)/\ ∀x,(x,NameKind.free)∈scope.names-> ∃c,cl.lookup x=some c:=by
 obtain⟨cl,h1,h2,h3,_⟩:=sA env scope.names [] h (fun x c hx=>by simp at hx);refine⟨cl,?_,h2,h3⟩;unfold closureFor;have:(forIn scope.names ([]:List (Str×Addr)) fun x r=>if x.2==NameKind.free then do let a <-cellOf env x.1;pure (ForInStep.yield ((x.1,a)::r)) else pure (ForInStep.yield r))=(pure cl:Sem (List (Str×Addr))):=h1
 first
  |exact(nY (· >>=fun r=>pure r) this).trans (pure_bind _ _)
  |(simp only[bind_pure];exact this)
  |exact this
theorem kD: ∀(names:List (Str×NameKind)) (n:Nat) (acc:jS),cellsFrom n names acc=cellsFrom n names []++acc
 |[],_,_=>rfl
 |(x,k)::r,n,acc=>by
  unfold cellsFrom;split
  ·rw[kD r (n+1) ((x,n)::acc),kD r (n+1) [(x,n)],jI];rfl
  ·exact kD r n acc
theorem nQ{x:Str}{c:fR}: ∀(names:List (Str×NameKind)) (n:Nat),(x,c)∈cellsFrom n names []->(x,NameKind.cell)∈names
 |[],_,h=>by simp[cellsFrom] at h
 |(y,k)::r,n,h=>by
  unfold cellsFrom at h;split at h
  ·rename_i hk;rw[kD] at h;rcases nU.mp h with z|z
   ·exact iT _ (nQ r _ z)
   ·cases pA.mp z;rw[sN hk];exact iO
  ·exact iT _ (nQ r _ h)
structure BCls(cells:jS)(scope:iK)(C:fR)(h:gD)(cl:jS):Prop where
 one: ∀x c,cl.lookup x=some c->(cells.lookup x=some c/\scope.names.lookup x≠some .cell)\/(C<c/\scope.names.lookup x=some .cell/\h.IsCell c none)
 all: ∀x,(x,NameKind.free)∈scope.names\/(x,NameKind.cell)∈scope.names-> ∃c,cl.lookup x=some c
 inj: ∀x y c,C<c->cl.lookup x=some c->cl.lookup y=some c->(∀z d,cells.lookup z=some d->d<C)->x=y
 ex: ∀x c,cl.lookup x=some c->cells.lookup x=some c\/C<c
theorem Gw{M:Model}{A:gw}{E:gH}{s:fW}{scope:iK}{globals:fR}{env:Env}{cl:jS}{qual:Str}{Q:Env->Shared->Prop}(m6: ∀y∈scope.names,y.2= .cell->scope.names.lookup y.1=some .cell)
  (m5: ∀x c,cl.lookup x=some c->env.cells.lookup x=some c)(l6: ∀x,(x,NameKind.free)∈scope.names-> ∃c,cl.lookup x=some c)
  (hQ: ∀h' cs,h'.Ns s.heap.objs.size (fun _=>none)->(∀b o,s.heap.get? b=some o->h'.get? b=some o)->BCls env.cells scope s.heap.objs.size h' cs->
   Q {scope,locals:=s.heap.objs.size,globals,cells:=cs,qual,func:=none,code:=env.code,frame:=env.frame,builtins:=env.builtins} {s with heap:=h'}):
  wpAny M A (newFunctionEnv scope globals cl [] qual none .none (some env)) Q E s:=by
 simp only[newFunctionEnv,Option.isSome_some,gM];refine fS (wpAny_alloc ?_);refine fS (wpAny_layCells _ (fun name kind cells=>by cases hkc:kind==NameKind.cell<;>simp[hkc]) _ _ _ _ ?_);have ok:=cellsFrom_ok scope.names (s.heap.push {cls:= .type "dict",data:= .dict #[]}) (s.heap.objs.size+1) [] ⟨fun _ _ hm=>(nomatch hm),List.Pairwise.nil⟩ (by rw[pN];exact gY _);rw[pN] at ok;rw[show({s with heap:=s.heap.push {cls:= .type "dict",data:= .dict #[]}}:Shared).heap.objs.size=s.heap.objs.size+1 from pN ..];simp only[List.forIn_nil];have look: ∀x,(cellsFrom (s.heap.objs.size+1) scope.names cl).lookup x=((cellsFrom (s.heap.objs.size+1) scope.names []).lookup x).or (cl.lookup x):=fun x=>by rw[kD,List.lookup_append]
 have two: ∀x c,(cellsFrom (s.heap.objs.size+1) scope.names cl).lookup x=some c->(cl.lookup x=some c/\(cellsFrom (s.heap.objs.size+1) scope.names []).lookup x=none)\/(x,c)∈cellsFrom (s.heap.objs.size+1) scope.names []:=fun x c h=>by
  rw[look] at h
  cases hx:(cellsFrom (s.heap.objs.size+1) scope.names []).lookup x with
  |none=>rw[hx] at h;exact .inl ⟨h,rfl⟩
  |some d=>rw[hx] at h;cases h;exact .inr (vP hx)
 have lo: ∀{x:Str} {c:fR},(x,c)∈cellsFrom (s.heap.objs.size+1) scope.names []->s.heap.objs.size<c:=fun {x c} h=>(ok.empty x c h).2;refine fS (gr (gr (hQ _ _ ((Heap.Ns.new s.heap (.type "dict")).keeps (pushCells_keeps _ _)) (fun b o e=>pushCells_keeps _ _ b o (iF _ e)) ⟨fun x c h=>?_,fun x h=>?_,fun x y c hc h1 h2 hz=>?_,fun x c h=>?_⟩)))
 ·rcases two x c h with⟨z,hn⟩|z
  ·refine .inl ⟨m5 x c z,fun e=>?_⟩;have:=A2 scope.names (s.heap.objs.size+1) [] (.inl e);rw[hn] at this;cases this
  ·exact .inr ⟨lo z,m6 _ (nQ _ _ z) rfl,(ok.empty x c z).1⟩
 ·rcases h with h|h
  ·obtain⟨c,hc⟩:=l6 x h;rw[look,hc];cases(cellsFrom (s.heap.objs.size+1) scope.names []).lookup x<;>exact⟨_,rfl⟩
  ·have:=A2 scope.names (s.heap.objs.size+1) cl (.inl (m6 _ h rfl));exact Iz.mp this
 ·rcases two x c h1 with⟨z,_⟩|z
  ·exact absurd (hz x c (m5 x c z)) (D9 hc)
  ·rcases two y c h2 with⟨z',_⟩|z'
   ·exact absurd (hz y c (m5 y c z')) (D9 hc)
   ·exact name_of_addr ok.apart z z'
 ·rcases two x c h with⟨z,_⟩|z
  ·exact .inl (m5 x c z)
  ·exact .inr (lo z)
noncomputable def Cx.comp(X:Cx)(N':gZ)(scope:iK)(cl:jS)(C:fR)(s3:fW)(H3:Hp)(fp:iN)(pins:gE):Cx:=
 {X with N:=N',s₀:=s3,H₀:=H3,env:=compEnvC scope cl C X.env,outer:=X.stack,stack:=X.stack,ex:=fp,fn:=fun x=>scope.names.lookup x==some .cell,pn:=X.pn++pins,xe:=fun _ _=>False}
abbrev TB:=St->Hp->(St->Hp->Prop)->Prop
def PB(X:Cx)(code:Sem Unit)(t:TB):Prop:=
 ∀(pins:gE) (s:fW) (σ:St) (H:Hp) (N:St->Hp->Prop),Inv X pins σ H s->t σ H N->
  wpAny (model X.prog X.w) X.A code (fun _ s'=> ∃σ' H',Inv X pins σ' H' s'/\N σ' H') X.xe s
def PIf(X:Cx)(ifs:iL)(t:TT):Prop:=
 ∀(pins:gE) (s:fW) (σ:St) (H:Hp) (Q:Bool->Hp->Prop),Inv X pins σ H s->t σ H Q->
  wpAny (model X.prog X.w) X.A (forIn ifs true fun c r=>if r=true then do let ok <-isTrue c X.env (eval c X.env);pure (ForInStep.yield ok) else pure (ForInStep.yield r)) (TP X pins σ Q) X.xe s
noncomputable def RP:TT:=fun _ H Q=>Q true H
section
variable {X:Cx}
theorem Nd:PIf X [] RP:=fun pins s σ H Q I h=>wpAny_tests_nil ⟨H,I,h⟩
theorem Nc{c:gf}{t:TT}(h:PT X c t):PIf X [c] t:=fun pins s σ H Q I hw=>wpAny_tests_one (h pins s σ H Q I hw)
noncomputable def gK(e:gf)(depth:Nat)(acc:gg)(env:Env):Sem Unit:=
 match(clausesOf e)[depth+1]? with
 |some g'=>do
  let x <-eval g'.iter env
  standAt g'.iter.pos
  let x <-foldedSetIterable g'.iter env x
  let _ <-runOwn (.compStart e (depth+1) (<-holding [x] (pyIter x)) acc env) env
 |none=>match e with
  | .ListComp elt _ _ _=>do let _ <-call (.builtin "list.append") [acc,<-eval elt env]
  | .SetComp elt _ _ _=>do let v <-eval elt env;standAt elt.pos;let _ <-call (.builtin "set.add") [acc,v]
  |_=>unsupported "no"
def zL(J:It)(g:TG)(ti:TT)(tb:TB):TB:=fun σ H N=> ∃W:Nat->Nat->St->Hp->Prop,(∃m,W 0 m σ H)/\ ∀i m σ H,W i m σ H->
 (J.stop i H/\N σ H)\/(J.go i H/\ ∀x H',J.yld i H x H'->g x σ H' fun σ2 H2=>ti σ2 H2 fun b H3=>if b=true then tb σ2 H3 fun σ4 H4=> ∃m',m'<m/\W (i+1) m' σ4 H4 else ∃m',m'<m/\W (i+1) m' σ2 H3)
theorem BV(e:gf)(depth:Nat)(it acc:gg)(env:Env)(g:lY)(hl:(∃elt gens sc p,e= .ListComp elt gens sc p)\/(∃elt gens sc p,e= .SetComp elt gens sc p))
  (hg:(clausesOf e)[depth]?=some g)(ha:g.is_async=0)(k0: ∀g',(clausesOf e)[depth+1]?=some g'->g'.is_async=0):
  compTurn e depth it acc env=(do
   standAt g.iter.pos
   match <-pyNext it with
   |none=>pure (.done .next)
   |some v=>
    letOwnedTupleGo g.target it v
    assign g.target env v
    let ok <-forIn g.ifs true fun c r=>if r=true then do let ok <-isTrue c env (eval c env);pure (ForInStep.yield ok) else pure (ForInStep.yield r)
    if ok=true then gK e depth acc env
    again (.compLoop e depth it acc env)):=by
 rcases hl with⟨elt,gens,sc,p,rfl⟩|⟨elt,gens,sc,p,rfl⟩
 ·have eN:gens[depth]?=some g:=hg;unfold compTurn gK;simp only[clausesOf] at hg k0 ⊢;rw[eN];simp only[ha]
  cases hn:gens[depth+1]? with
  |none=>rfl
  |some g'=>
   have:=k0 g' hn;simp only[this,uL,hC,iE]
   congr 1;funext _;congr 1;funext r
   cases r with
   |none=>rfl
   |some v=>
    dsimp only
    congr 1;funext _;congr 1;funext _;congr 1;funext ok
    cases ok with
    |false=>rfl
    |true=>simp only[gM,bind_assoc];rfl
 ·have eN:gens[depth]?=some g:=hg;unfold compTurn gK;simp only[clausesOf] at hg k0 ⊢;rw[eN];simp only[ha]
  cases hn:gens[depth+1]? with
  |none=>rfl
  |some g'=>
   have:=k0 g' hn;simp only[this,uL,hC,iE]
   congr 1;funext _;congr 1;funext r
   cases r with
   |none=>rfl
   |some v=>
    dsimp only
    congr 1;funext _;congr 1;funext _;congr 1;funext ok
    cases ok with
    |false=>rfl
    |true=>simp only[gM,bind_assoc];rfl
theorem LY 
  (hl:(∃elt gens sc p,e= .ListComp elt gens sc p)\/(∃elt gens sc p,e= .SetComp elt gens sc p))
  (h:wpAny (model prog w) A ((compTurn e depth it acc env).onRaise (fun x=>do noteFrame x env;theTreesLotGoes x)) Q E s):
  wpAny (model prog w) (A.under (.compLoop e depth it acc env)) ((model prog w).den (.compLoop e depth it acc env)) Q E s:=by
 rcases hl with⟨elt,gens,sc,p,rfl⟩|⟨elt,gens,sc,p,rfl⟩
 ·exact h
 ·exact h
theorem BF{e:gf}{depth:Nat}{acc:gg}{c:lY}{g:TG}{ti:TT}{tb:TB}{J:It}{fp:iN}{it:fR}{tn:Nat->Heap->Prop}(bW:X.xe=fun _ _=>False)(hc:X.calm=true)
  (hl:(∃elt gens sc p,e= .ListComp elt gens sc p)\/(∃elt gens sc p,e= .SetComp elt gens sc p))(hg:(clausesOf e)[depth]?=some c)(ha:c.is_async=0)(k0: ∀g',(clausesOf e)[depth+1]?=some g'->g'.is_async=0)
  (T:Turn X.prog X.w X.K c.target J fp it tn)(pg:PG X c.target g)(av:PIf X c.ifs ti)(pb:PB X (gK e depth acc X.env) tb)
  {pins:gE}{s:fW}{σ:St}{H:Hp}{N:St->Hp->Prop}(I:Inv X pins σ H s)(f2: ∀b∈fp,nS X pins H b)(st:tn 0 s.heap)(h:zL J g ti tb σ H N):
  codeAny (model X.prog X.w) X.A (.compLoop e depth (.ref it) acc X.env) (fun r s'=>r= .ok .next/\ ∃σ' H',Inv X pins σ' H' s'/\(∀b∈fp,H' b=none)/\N σ' H') s:=by
 obtain⟨W,⟨m0,w0⟩,turn⟩:=h;have y7: ∀{H':Hp},(∀b∈fp,H' b=none)-> ∀b∈fp,nS X pins H' b:=fun hn b hb=>⟨hn b hb,(f2 b hb).2⟩
 have F2: ∀{α:Type} {t:Sem α} {Q:α->Shared->Prop} {E:gH} {s:fW},wpAny (model X.prog X.w) X.A t Q X.xe s->wpAny (model X.prog X.w) X.A t Q E s:=fun h=>mN h (fun _ _ x=>x) fun _ _ z=>by rw[bW] at z;exact z.elim
 refine codeAny_loop rfl (fun n s'=> ∃i σ' H',Inv X pins σ' H' s'/\tn i s'.heap/\(∀b∈fp,H' b=none)/\W i n σ' H') (fun n s3 hI=>?_) m0 ⟨0,σ,H,I,st,fun b hb=>(f2 b hb).1,w0⟩;refine LY hl ?_;refine wpAny_noted ?_;rw[BV e depth (.ref it) acc X.env c hl hg ha k0];obtain⟨i,σ3,H3,I3,l5,cF,w3⟩:=hI;refine fS (vR ?_);rcases turn i n σ3 H3 w3 with⟨stop,qn⟩|⟨go,step⟩
 ·refine fS (thn (T.done X rfl rfl rfl hc i pins s3 σ3 H3 _ I3 (y7 cF) l5 stop) fun r s4 ⟨hr,I4⟩=>?_);subst hr;exact gr ⟨rfl,σ3,H3,I4,cF,qn⟩
 ·refine fS (thn (T.item X rfl rfl rfl hc i pins s3 σ3 H3 _ I3 (y7 cF) l5 go) fun r s4 ⟨u,hr,h4⟩=>?_);subst hr;refine fS (thn h4 fun _ s5 ⟨x,H5,I5,r5,y5,aW,fm⟩=>?_);have fL:=I5.pinned (y7 fm) (T.obj _ _ aW);refine fS (thn (F2 (pg _ s5 σ3 H5 x u _ fL r5 (step x H5 y5))) fun _ s6 ⟨σ6,H6,I6,q6⟩=>?_);refine fS (thn (F2 (av _ s6 σ6 H6 _ I6 q6)) fun ok s7 ⟨H7,I7,q7⟩=>?_)
  have again: ∀{s8:fW} {σ8:St} {H8:Hp},Inv X (pins++yc fp s5.heap) σ8 H8 s8->(∃m',m'<n/\W (i+1) m' σ8 H8)-> ∃m,m<n/\ ∃i σ' H',Inv X pins σ' H' s8/\tn i s8.heap/\(∀b∈fp,H' b=none)/\W i m σ' H':=fun {s8 σ8 H8} I8 ⟨m',hm,w8⟩=>by
   refine⟨m',hm,i+1,σ8,H8,I8.unpinned,T.keep _ _ _ aW fun b hb o e=>(I8.pin (b,o) (nX _ (nX _ (oQ hb e)))).1,fun b hb=>?_,w8⟩;obtain⟨o,e,d⟩:=T.obj _ _ aW b hb;exact(I8.pin (b,o) (nX _ (nX _ (oQ hb e)))).2.1
  cases ok with
  |false=>
   rw[gk iM] at q7;exact gr ⟨rfl,again I7 q7⟩
  |true=>
   rw[gd rfl] at q7;simp only[gM];refine fS (thn (F2 (pb _ s7 σ6 H7 _ I7 q7)) fun _ s8 ⟨σ8,H8,I8,q8⟩=>?_);exact gr ⟨rfl,again I8 q8⟩
def RU(d:fR)(te:TE):TB:=fun σ H N=>te σ H fun y H1=> ∃ys,H1 d=some (.lst ys)/\ys.length<sizeLine/\N σ (upd H1 d (.lst (ys++[y])))
theorem Nm{elt:gf}{gens:mH}{sc:iK}{p:Pos}{depth:Nat}{d:fR}{te:TE}(hn:gens[depth+1]?=none)(he:PE X elt te):PB X (gK (.ListComp elt gens sc p) depth (.ref d) X.env) (RU d te):=by
 intro pins s σ H N I h
 have e1:gK (.ListComp elt gens sc p) depth (.ref d) X.env=(do let _ <-call (.builtin "list.append") [.ref d,<-eval elt X.env]):=by
  unfold gK;simp only[clausesOf];rw[hn]
 rw[e1];refine fS (thn (he pins s σ H _ I h) fun u s1 ⟨y,H1,I1,ru,ys,hd,hz,q⟩=>?_);obtain⟨z,its,n,r,hl,e⟩:=I1.lstM hd;refine fS (uM F.slot_list_append ⟨_,e,rfl⟩ Jj (Ji _ _) (PySem.list_append d its.toArray n u (by rw[iH];omega)) ⟨e,?_⟩);refine gr ⟨σ,_,I1.lset (its':=its++[u]) hd e (by simp) (r.append (.cons ru .nil)) ?_,q⟩;rw[pq,Jh];omega
theorem xM{prog:gA}{w:gu}{A:gw}{e:gf}{depth:Nat}{it acc:gg}{env:Env}{R:Result->Shared->Prop}{s:fW}{c:lY}
  (hl:(∃elt gens sc p,e= .ListComp elt gens sc p)\/(∃elt gens sc p,e= .SetComp elt gens sc p))(hg:(clausesOf e)[depth]?=some c)(ha:c.is_async=0)
  (h0:codeAny (model prog w) A (.compLoop e depth it acc env) R s)
  (self: ∀(Q:gH) (E:gH),Q it s->wpAny (model prog w) A (pyIter it) Q E s):
  codeAny (model prog w) A (.compStart e depth it acc env) R s:=by
 have core:wpAny (model prog w) A (compStart e depth it acc env) (fun fin s'=>match fin with| .done f=>R (.ok f) s'| .again c'=>c'.quiet=true/\codeAny (model prog w) A c' R s') (notedBy (model prog w) A env fun x s'=>R (.error x) s') s:=by
  unfold compStart;rw[hg];simp only[Option.elim,ha,uL,hC,iE];refine fS (wpAny_askSetting (wpAny_ite ?_));split
  ·first
    |exact fS (gr (gr (And.intro rfl h0)))
    |exact gr (And.intro rfl h0)
  ·exact fS (sM (fS (vR (fS (self _ _ (gr (And.intro rfl h0)))))))
 rcases hl with⟨elt,gens,sc,p,rfl⟩|⟨elt,gens,sc,p,rfl⟩
 ·refine AY ?_;show wpAny _ A ((compStart (.ListComp elt gens sc p) depth it acc env).onRaise (fun x=>do noteFrame x env;standAt theWindowsPlace)) _ _ s;exact wpAny_notedAt core
 ·refine AY ?_;show wpAny _ A ((compStart (.SetComp elt gens sc p) depth it acc env).onRaise (fun x=>do noteFrame x env;standAt theWindowsPlace)) _ _ s;exact wpAny_notedAt core
noncomputable def JK(wi:TI)(g:TG)(ti:TT)(tb:TB):TB:=fun σ H N=>wi σ H fun J H1=>zL J g ti tb σ H1 N
theorem Qo{e:gf}{depth:Nat}{acc:gg}{c:lY}{wi:TI}{g:TG}{ti:TT}{tb:TB}(bW:X.xe=fun _ _=>False)(hc:X.calm=true)
  (hl:(∃elt gens sc p,e= .ListComp elt gens sc p)\/(∃elt gens sc p,e= .SetComp elt gens sc p))(hg:(clausesOf e)[depth+1]?=some c)(ha:c.is_async=0)(k0: ∀g',(clausesOf e)[depth+1+1]?=some g'->g'.is_async=0)
  (hs: ∀x,foldedSetIterable c.iter X.env x=pure x)(pi:PI X c.target c.iter wi)(pg:PG X c.target g)(av:PIf X c.ifs ti)(pb:PB X (gK e (depth+1) acc X.env) tb):
  PB X (gK e depth acc X.env) (JK wi g ti tb):=by
 intro pins s σ H N I h
 have e1:gK e depth acc X.env=(do
  let x <-eval c.iter X.env
  standAt c.iter.pos
  let x <-foldedSetIterable c.iter X.env x
  let _ <-runOwn (.compStart e (depth+1) (<-holding [x] (pyIter x)) acc X.env) X.env):=by
  unfold gK;rw[hg]
 rw[e1];refine fS (thn (pi pins s σ H _ I h) fun v s1 h1=>fS (vR (fS (xj (hs v) (fS (kN (thn h1 fun cA s2 h2=>?_)))))));obtain⟨it,fp,tn,J,H2,rfl,I2,T,g0,f2,hw⟩:=h2;refine fS (wpAny_runOwn ?_);refine xM hl hg ha ?_ (fun Q E hq=>T.self X.A 0 s2 Q E g0 hq);refine sO (BF bW hc hl hg ha k0 T pg av pb I2 f2 g0 hw) fun r s3 hr=>?_;obtain⟨rfl,σ3,H3,I3,_,q⟩:=hr;exact gr ⟨σ3,H3,I3,q⟩
end
theorem mh{env:Env}: ∀{names:List (Str×NameKind)} {x:Str},names.lookup x=some .free->
  (names.map fun(n,k)=>if(k==NameKind.free&&env.scope.kind== .function&&env.kindOf n==some .cell) then(n,NameKind.cell) else(n,k)).lookup x=some .cell\/
  (names.map fun(n,k)=>if(k==NameKind.free&&env.scope.kind== .function&&env.kindOf n==some .cell) then(n,NameKind.cell) else(n,k)).lookup x=some .free
 |[],_,h=>by simp at h
 |(n,k)::r,x,h=>by
  have ih:= @mh env r x;rw[il]
  cases hx:x==n with
  |true=>
   simp only[ng,hx] at h;cases h;by_cases hc:(NameKind.free==NameKind.free&&env.scope.kind== .function&&env.kindOf n==some .cell)=true
   ·left;simp only[hc,gM,ng,hx]
   ·right;simp only[hc,iE,ng,hx,hC]
  |false=>
   simp only[ng,hx] at h;by_cases hc:(k==NameKind.free&&env.scope.kind== .function&&env.kindOf n==some .cell)=true
   ·simp only[hc,gM,ng,hx];exact ih h
   ·simp only[hc,iE,ng,hx,hC];exact ih h
theorem ju{env:Env}: ∀{names:List (Str×NameKind)} {x:Str} {k':NameKind},
  (names.map fun(n,k)=>if(k==NameKind.free&&env.scope.kind== .function&&env.kindOf n==some .cell) then(n,NameKind.cell) else(n,k)).lookup x=some k'-> ∃k,(x,k)∈names/\(k=k'\/k= .free)
 |[],_,_,h=>by simp at h
 |(n,k)::r,x,k',h=>by
  rw[il] at h
  cases hx:x==n with
  |true=>
   have e:=sN hx;subst e;by_cases hc:(k==NameKind.free&&env.scope.kind== .function&&env.kindOf x==some .cell)=true
   ·refine⟨k,iO,.inr ?_⟩
    have h1:(k==NameKind.free)=true:=by
     cases hk:(k==NameKind.free) with
     |true=>rfl
     |false=>rw[hk] at hc;simp at hc
    exact sN h1
   ·simp only[hc,iE,ng,hx,hC] at h;exact⟨k,iO,.inl (by simpa using h)⟩
  |false=>
   by_cases hc:(k==NameKind.free&&env.scope.kind== .function&&env.kindOf n==some .cell)=true
   ·simp only[hc,gM,ng,hx] at h;obtain⟨k2,h1,h2⟩:=ju h;exact⟨k2,iT _ h1,h2⟩
   ·simp only[hc,iE,ng,hx,hC] at h;obtain⟨k2,h1,h2⟩:=ju h;exact⟨k2,iT _ h1,h2⟩
structure CompScope(X:Cx)(N':gZ)(scope:iK)(pre:St->St):Prop where
 cell: ∀y∈scope.names,y.2= .cell->scope.names.lookup y.1=some .cell
 kind:scope.kind= .function
 names: ∀y∈scope.names,y.2= .local->scope.names.lookup y.1=some .local
 free: ∀y∈scope.names,y.2= .free->X.env.scope.names.lookup y.1=some .cell\/X.env.scope.names.lookup y.1=some .free
 len: ∀σ:St,(pre σ).length=N'.length
 pre: ∀(σ:St) (i:Nat) (v:V) (x:Str),(pre σ)[i]?=some (some v)->N'[i]?=some x->scope.names.lookup x=some .free/\ ∃j:Nat,X.N[j]?=some x/\σ[j]?=some (some v)
section
variable {X:Cx}
theorem GS{N':gZ}{scope:iK}{pre:St->St}(S:CompScope X N' scope pre){pins:gE}{s3:fW}{σ:St}{H3:Hp}{fp:iN}{cl:jS}{h':gD}{t':Nat}(I:Inv X pins σ H3 s3)
  (B:BCls X.env.cells scope s3.heap.objs.size h' cl)
  (ff: ∀b∈fp,nS X pins H3 b)(fo: ∀b∈fp,b<s3.heap.objs.size)
  (aO:h'.Ns s3.heap.objs.size (fun _=>none))(hk: ∀b o,s3.heap.get? b=some o->h'.get? b=some o):
  Inv (X.comp N' scope cl s3.heap.objs.size s3 H3 fp pins) [] (pre σ) H3 {s3 with heap:=h',toks:=t'}:=by
 have hfr: ∀b∈frs X.stack,H3 b=none:=I.stkFree;have nfs: ∀b,b≠X.env.locals->b∉X.fs->b∉frs X.stack:=fun b h1 h2 z=>(jQ.mp (I.stkSub b z)).elim h1 h2;have old: ∀x c,X.env.cells.lookup x=some c->c<s3.heap.objs.size:=fun x c e=>(I.cell x c e).elim fun _ z=>z.lt
 refine⟨⟨I.ok.mod,?_,I.ok.glob,I.ok.blt,gY _,fun x y c h1 h2=>?_,fun x hx=>?_,fun x c hf e=>?_,I.ok.hd,I.ok.frames,.inl rfl,fun b hb=>?_,
  I.bs,mO I.ok.bsz I.sz,fun b o e hb=>?_,fun b hb=>nfs b (ff b hb).2.1 (ff b hb).2.2.1,I.stack,hfr⟩,rfl,I.bare,Un.kept hk,⟨_,aO,fun i x v h1 h2 h3=>?_⟩,fun x c hx=>?_,I.hok.fresh (gY _),fun x c hx=>?_,fun p hp=>?_,I.hok.kept hk,S.len σ⟩
 ·show(relabel scope X.env).kind= .function;simp[relabel,S.kind]
 ·rcases B.ex x c h1 with z|z
  ·rcases B.ex y c h2 with z'|z'
   ·exact I.ok.inj x y c z z'
   ·exact absurd (old x c z) (D9 z')
  ·exact B.inj x y c z h1 h2 old
 ·
  have hx':(relabel scope X.env).names.lookup x=some .cell\/(relabel scope X.env).names.lookup x=some .free:=hx;refine B.all x ?_;rcases hx' with z|z
  ·obtain⟨k,h1,h2⟩:=ju z;rcases h2 with h2|h2<;>subst h2
   ·exact .inr h1
   ·exact .inl h1
  ·obtain⟨k,h1,h2⟩:=ju z;rcases h2 with h2|h2<;>(subst h2;exact .inl h1)
 ·rcases B.one x c e with⟨_,z⟩|⟨z,_⟩
  ·exact absurd (sN hf) z
  ·exact xq z
 ·refine⟨ip (fo b hb),fun x c hx=>?_⟩;rcases B.ex x c hx with z|z
  ·exact(ff b hb).2.2.2.2.1 x c z
  ·exact md (AX (fo b hb) z)
 ·
  have r6:b∈fp:=hb;rcases(ff b r6).2.2.2.1 with z|z
  ·exact I.ok.noex b o e z
  ·exact absurd (mP (iw e) (mO I.ok.bsz z)) (pP _)
 ·obtain⟨hf,j,hj,hv⟩:=S.pre σ i v x h2 h1;obtain⟨m,hn,hl⟩:=I.loc;have x8:=S.free (x,.free) (vP hf) rfl;obtain⟨u,r,l⟩:=hl j x v hj hv (by rcases x8 with z|z;exact .inr (.inl z);exact .inr (.inr z));refine⟨u,r,.inr ⟨mh hf,?_⟩⟩;rcases l with⟨dE,_⟩|⟨_,c,hc,m6⟩
  ·have hk2:X.env.scope.names.lookup x=some .local:=dE;rcases x8 with z|z<;>(have z':X.env.scope.names.lookup x=_:=z;rw[hk2] at z';cases z')
  ·obtain⟨c',bx⟩:=B.all x (.inl (vP hf));rcases B.one x c' bx with⟨this,_⟩|⟨_,z,_⟩
   ·rw[hc] at this;cases this;exact⟨c,bx,m6.keeps hk⟩
   ·rw[hf] at z;cases z
 ·rcases B.one x c hx with⟨z,_⟩|⟨_,_,z⟩
  ·obtain⟨v,hv⟩:=I.cell x c z;exact⟨v,hv.keeps hk⟩
  ·exact⟨_,z⟩
 ·rcases B.ex x c hx with z|z
  ·exact I.freeC x c z
  ·exact I.hok.fresh (xq z)
 ·have cR:p∈X.pn++pins:=by simpa[Cx.comp] using hp
  obtain⟨e,n,h1,h2,h3⟩:=I.pin p cR;exact⟨hk _ _ e,n,ip (iw e),nfs _ h1 h2,h3⟩
theorem yK{N':gZ}{scope:iK}{pins:gE}{s3 s4:fW}{σ σ':St}{H3 H4:Hp}{fp:iN}{cl:jS}{h':gD}(I:Inv X pins σ H3 s3)(ff: ∀b∈fp,nS X pins H3 b)
  (J:Inv (X.comp N' scope cl s3.heap.objs.size s3 H3 fp pins) [] σ' H4 s4)(hs:Heap.SameBut s3.heap.objs.size s4.heap h'):Inv X pins σ H4 {s4 with heap:=h'}:=by
 have K:=I.call' (s':=s4) (ch:=fp) J.os J.base J.hok J.bare fun b hb=>⟨(ff b hb).2.2.2.1,(ff b hb).2.1,(ff b hb).2.2.2.2.1,(ff b hb).2.2.2.2.2⟩
 have lt1:X.env.locals<s3.heap.objs.size:=I.lt;refine K.turned (it:=s3.heap.objs.size) (t':=s4.toks) (fun b o hb e=>by rw[hs.2 b hb];exact e) J.free (md lt1) (.inr I.sz) (fun x c hx z=>?_) (fun p hp z=>?_)
 ·obtain⟨v,o,e,_⟩:=I.cell x c hx;exact absurd (iw e) (by rw[z];exact pP _)
 ·obtain⟨e,_⟩:=I.pin p hp;exact absurd (iw e) (by rw[z];exact pP _)
def RZ(J:It)(g:TG)(ti:TT)(tb:Addr->TB)(pre:St->St)(σ:St)(H:Hp)(Q:VK):Prop:=
 ∀d,H d=none->zL J g ti (tb d) (pre σ) (upd H d (.lst [])) fun _ H2=>Q (.ref d) H2
theorem Dw{elt:gf}{c:lY}{gL:mH}{scope:iK}{pos:Pos}{N':gZ}{pre:St->St}{g:TG}{ti:TT}{tb:Addr->TB}{cx:jS}{J:It}{fp:iN}{it:fR}{tn:Nat->Heap->Prop}
  (S:CompScope X N' scope pre)(hc:X.calm=true)(ha:c.is_async=0)(k0: ∀g',gL[0]?=some g'->g'.is_async=0)
  (t8: ∀(cl:jS) (C:fR) (s3:fW) (H3:Hp) (fp:iN) (pins:gE),let X':=X.comp N' scope cl C s3 H3 fp pins
   PG X' c.target g/\PIf X' c.ifs ti/\ ∀d,PB X' (gK (.ListComp elt (c::gL) scope pos) 0 (.ref d) X'.env) (tb d))
  (m5: ∀x c,cx.lookup x=some c->X.env.cells.lookup x=some c)(l6: ∀x,(x,NameKind.free)∈scope.names-> ∃c,cx.lookup x=some c)
  {pins:gE}{s2:fW}{σ:St}{H2:Hp}{Q:VK}{E:gH}{RR:Value->Addr->Result->Shared->Prop}(I2:Inv X pins σ H2 s2)(T:Turn X.prog X.w X.K c.target J fp it tn)(g0:tn 0 s2.heap)(f2: ∀b∈fp,nS X pins H2 b)
  (h:RZ J g ti tb pre σ H2 Q)
  (fg: ∀(d:fR) (cl:jS) (s3:fW) (H3 H4:Hp) (σ':St) (s4:fW),Inv X pins σ H3 s3->(∀b∈fp,nS X pins H3 b)->Inv (X.comp N' scope cl s3.heap.objs.size s3 H3 fp pins) [] σ' H4 s4->Q (.ref d) H4->RR (.ref d) s3.heap.objs.size (.ok .next) s4):
  wpAny (model X.prog X.w) X.A (newList []) (fun acc s₃=>wpAny (model X.prog X.w) X.A (newFunctionEnv scope X.env.globals cx [] X.env.qual none .none (some X.env)) (fun aJ s₄=>
   codeAny (model X.prog X.w) X.A (.compStart (.ListComp elt (c::gL) scope pos) 0 (.ref it) acc {aJ with scope:=relabel scope X.env}) (RR acc aJ.locals) s₄) E s₃) E s2:=by
 have I3:Inv X pins σ (upd H2 s2.heap.objs.size (.lst [])) {s2 with heap:=s2.heap.push {cls:= .type "list",data:= .seq ([]:List Value).toArray}}:=I2.lnew (t':=s2.toks) .nil (by simp);have fo: ∀b∈fp,b<s2.heap.objs.size:=fun b hb=>by obtain⟨o,e,_⟩:=T.obj _ _ g0 b hb;exact iw e
 have ff: ∀b∈fp,nS X pins (upd H2 s2.heap.objs.size (.lst [])) b:=fun b hb=>⟨by rw[gG (ip (fo b hb))];exact(f2 b hb).1,(f2 b hb).2⟩
 refine nW ?_;refine Gw S.cell m5 l6 fun h1 cl aO dD B=>?_;have hk: ∀b o,(s2.heap.push {cls:= .type "list",data:= .seq ([]:List Value).toArray}).get? b=some o->h1.get? b=some o:=dD;have cn: ∀b∈fp,b<(s2.heap.push {cls:= .type "list",data:= .seq ([]:List Value).toArray}).objs.size:=fun b hb=>by rw[pN];exact uK (fo b hb)
 have J0:=GS (t':=s2.toks) S I3 B ff cn aO hk;obtain⟨pg,av,pb⟩:=t8 cl (s2.heap.push {cls:= .type "list",data:= .seq ([]:List Value).toArray}).objs.size {s2 with heap:=s2.heap.push {cls:= .type "list",data:= .seq ([]:List Value).toArray}} (upd H2 s2.heap.objs.size (.lst [])) fp pins;have o8:tn 0 h1:=T.keep _ _ _ g0 fun b hb o e=>hk b o (iF _ e);have hw:=h s2.heap.objs.size (I2.hok.fresh (gY _))
 have fv: ∀b∈fp,nS (X.comp N' scope cl (s2.heap.push {cls:= .type "list",data:= .seq ([]:List Value).toArray}).objs.size {s2 with heap:=s2.heap.push {cls:= .type "list",data:= .seq ([]:List Value).toArray}} (upd H2 s2.heap.objs.size (.lst [])) fp pins) []
   (upd H2 s2.heap.objs.size (.lst [])) b:=fun b hb=>by
  obtain⟨z1,z2,z3,z4,z5,z6⟩:=ff b hb;refine⟨z1,ip (cn b hb),fun z=>(jQ.mp (I3.stkSub b z)).elim z2 z3,.inl hb,fun x c hx=>(B.ex x c hx).elim (z5 x c) fun z=>md (AX (cn b hb) z),fun p hp=>z6 p (by simpa[Cx.comp] using hp)⟩
 have hl:(∃el gens sc p,Expr.ListComp elt (c::gL) scope pos= .ListComp el gens sc p)\/(∃el gens sc p,Expr.ListComp elt (c::gL) scope pos= .SetComp el gens sc p):= .inl ⟨_,_,_,_,rfl⟩;refine xM hl rfl ha ?_ (fun Q' E' hq=>T.self X.A 0 _ Q' E' o8 hq)
 refine sO (BF (X:=X.comp N' scope cl (s2.heap.push {cls:= .type "list",data:= .seq ([]:List Value).toArray}).objs.size {s2 with heap:=s2.heap.push {cls:= .type "list",data:= .seq ([]:List Value).toArray}} (upd H2 s2.heap.objs.size (.lst [])) fp pins)
  (depth:=0) (acc:= .ref s2.heap.objs.size) rfl hc hl rfl ha (fun g' cB=>k0 g' (by simpa[clausesOf] using cB)) T pg av (pb _) J0 fv o8 hw) fun r s4 hr=>?_
 obtain⟨rfl,σ4,H4,I4,_,q⟩:=hr;exact fg _ _ _ _ _ _ _ I3 ff I4 q
noncomputable def JL(wi:TI)(g:TG)(ti:TT)(tb:Addr->TB)(pre:St->St):TE:=fun σ H Q=>wi σ H fun J H1=>RZ J g ti tb pre σ H1 Q
theorem KN{elt:gf}{c:lY}{gL:mH}{scope:iK}{pos:Pos}{N':gZ}{pre:St->St}{wi:TI}{g:TG}{ti:TT}{tb:Addr->TB}
  (S:CompScope X N' scope pre)(hc:X.calm=true)(ha:c.is_async=0)(k0: ∀g',gL[0]?=some g'->g'.is_async=0)
  (hs: ∀x,foldedSetIterable c.iter X.env x=pure x)(pi:PI X c.target c.iter wi)
  (t8: ∀(cl:jS) (C:fR) (s3:fW) (H3:Hp) (fp:iN) (pins:gE),let X':=X.comp N' scope cl C s3 H3 fp pins
   PG X' c.target g/\PIf X' c.ifs ti/\ ∀d,PB X' (gK (.ListComp elt (c::gL) scope pos) 0 (.ref d) X'.env) (tb d)):
  PE X (.ListComp elt (c::gL) scope pos) (JL wi g ti tb pre):=by
 intro pins s σ H Q I h;obtain⟨tg,aZ,ifs,az⟩:=c;obtain rfl:az=0:=ha;obtain⟨cl,o6,m5,l6⟩:=sy X.env scope fun x hx hf=>I.ok.has x.1 (S.free x hx hf);rw[eval_ListComp];show wpAny _ X.A (comprehension _ scope X.env _ (newList []) false (eval aZ X.env)) _ _ s;refine D8 (use:=none) (g:=⟨tg,aZ,ifs,0⟩) (gs:=gL) rfl hs o6 S.kind S.names (thn (pi pins s σ H _ I h) fun v s1 h1=>thn h1 fun cA s2 h2=>?_);obtain⟨it,fp,tn,J,H2,rfl,I2,T,g0,f2,hw⟩:=h2;refine Dw (RR:=fun acc C=>compPost (model X.prog X.w) X.A X.xe none (EP X pins σ Q) acc C) S hc rfl k0 t8 m5 l6 I2 T g0 f2 hw fun d cl' s3 H3 H4 σ' s4 I3 ff J4 q=>?_;obtain⟨m,hn,_⟩:=id J4.loc;exact⟨m,hn,fun h' aN=>⟨.ref d,H4,yK I3 ff J4 aN,rfl,q⟩⟩
theorem Ku{elt:gf}{c:lY}{gL:mH}{scope:iK}{pos d9 py:Pos}{N':gZ}{pre:St->St}{wi:TI}{g:TG}{ti:TT}{tb:Addr->TB}{y:Str}{i:Nat}
  (cQ:swapsWith (.ListComp elt (c::gL) scope pos) (some (.Name y py)) d9.line X.env=pure true)
  (S:CompScope X N' scope pre)(hc:X.calm=true)(ha:c.is_async=0)(k0: ∀g',gL[0]?=some g'->g'.is_async=0)
  (hs: ∀x,foldedSetIterable c.iter X.env x=pure x)(pi:PI X c.target c.iter wi)(dW:PG X (.Name y py) (Di i))
  (t8: ∀(cl:jS) (C:fR) (s3:fW) (H3:Hp) (fp:iN) (pins:gE),let X':=X.comp N' scope cl C s3 H3 fp pins
   PG X' c.target g/\PIf X' c.ifs ti/\ ∀d,PB X' (gK (.ListComp elt (c::gL) scope pos) 0 (.ref d) X'.env) (tb d)):
  PS X (.Assign [.Name y py] (.ListComp elt (c::gL) scope pos) d9) (OW (JL wi g ti tb pre) (Di i)):=by
 intro pins s σ H D I h;obtain⟨tg,aZ,ifs,az⟩:=c;obtain rfl:az=0:=ha;obtain⟨cl,o6,m5,l6⟩:=sy X.env scope fun x hx hf=>I.ok.has x.1 (S.free x hx hf);rw[exec_Assign_Name_used _ _ _ _ cQ];refine fS (vR (fS ?_));show wpAny _ X.A (do let _ <-comprehension (.ListComp elt (⟨tg,aZ,ifs,0⟩::gL) scope pos) scope X.env _ (newList []) false (eval aZ X.env) (some (assign (.Name y py) X.env))) _ _ s
 refine fS (mN (D8 (use:=some (assign (.Name y py) X.env)) (g:=⟨tg,aZ,ifs,0⟩) (gs:=gL) (Q:=fun _ s'=>SP X pins D .next s') rfl hs o6 S.kind S.names
  (thn (pi pins s σ H _ I h) fun v s1 h1=>thn h1 fun cA s2 h2=>?_)) (fun _ s' hq=>gr (gr hq)) fun _ _ e=>e)
 obtain⟨it,fp,tn,J,H2,rfl,I2,T,g0,f2,hw⟩:=h2;refine Dw (RR:=fun acc C=>compPost (model X.prog X.w) X.A X.xe (some (assign (.Name y py) X.env)) (fun _ s'=>SP X pins D .next s') acc C) S hc rfl k0 t8 m5 l6 I2 T g0 f2 hw fun d cl' s3 H3 H4 σ' s4 I3 ff J4 q=>?_;obtain⟨m,hn,_⟩:=id J4.loc;obtain⟨oC,es,ep,ho,hd,hr⟩:=id hn;have IX:Inv X pins σ H4 s4:=yK I3 ff J4 (D7 ..);have hCl:s3.heap.objs.size≠X.env.locals:=md I3.lt;have hCf:s3.heap.objs.size∉X.fs:=fun z=>I3.nofs (gY _) z
 have IP:Inv X (pins++[(s3.heap.objs.size,oC)]) σ H4 s4:=IX.pins_of fun p hp=>by
  rcases nU.mp hp with z|z
  ·exact IX.pin p (nX _ z)
  ·rcases pA.mp z with rfl
   exact⟨ho,J4.free,hCl,hCf,fun v z=>by rw[hd] at z;cases z⟩
 show wpAny _ X.A (assign (.Name y py) X.env (.ref d)) _ _ _;refine thn (dW _ s4 σ H4 (.ref d) (.ref d) _ IP rfl q) fun _ s5 ⟨σ5,H5,I5,q5⟩=>?_;have pC:=I5.pin (s3.heap.objs.size,oC) (by simp);refine⟨m,⟨oC,es,ep,pC.1,hd,hr⟩,fun h' aN=>⟨σ5,H5,?_,q5⟩⟩;refine I5.unpinned.turned (it:=s3.heap.objs.size) (t':=s5.toks) (fun b o hb e=>by rw[aN.2 b hb];exact e) pC.2.1 hCl (.inr I3.sz) (fun x c hx z=>?_) (fun p hp z=>?_)
 ·obtain⟨v,o,e,_⟩:=I3.cell x c hx;exact absurd (iw e) (by rw[z];exact pP _)
 ·obtain⟨e,_⟩:=I3.pin p hp;exact absurd (iw e) (by rw[z];exact pP _)
end
section
variable {κ:Type}[DecidableEq κ]
noncomputable def pG(kvs:List (κ×V))(k:κ):Option V:=(kvs.find? fun kv=>decide (kv.1=k)).map (·.2)
noncomputable def pI(kvs:List (κ×V))(k:κ)(v:V):List (κ×V):=
 if(kvs.any fun kv=>decide (kv.1=k))=true then kvs.map (fun kv=>if kv.1=k then(kv.1,v) else kv) else kvs++[(k,v)]
theorem pR{p:κ×V}{r:List (κ×V)}{k:κ}(e:p.1=k):pG (p::r) k=some p.2:=by simp[pG,uJ,e]
theorem mQ{p:κ×V}{r:List (κ×V)}{k:κ}(e: ¬p.1=k):pG (p::r) k=pG r k:=by simp[pG,uJ,e]
theorem Cu(k:κ): ∀kvs:List (κ×V),(kvs.any fun kv=>decide (kv.1=k))=(pG kvs k).isSome
 |[]=>rfl
 |p::r=>by
  rw[uI];by_cases e:p.1=k
  ·simp only[pR e,rf e,Bool.true_or,Option.isSome_some]
  ·rw[mQ e,lL e,Bool.false_or];exact Cu k r
theorem vX(kvs:List (κ×V))(k:κ)(v:V):(pI kvs k v).length<=kvs.length+1:=by
 unfold pI;split
 ·rw[iG];omega
 ·rw[pq,km,List.length_nil];omega
theorem RelO.isSome_eq{o:Option V}{u:Option Value}(r:RelO o u):o.isSome=u.isSome:=by
 cases o with
 |none=>cases u with
  |none=>rfl
  |some _=>exact(show False from r).elim
 |some _=>cases u with
  |none=>exact(show False from r).elim
  |some _=>rfl
theorem KV.val{kvs:List (κ×V)}{vs:List (κ×Value)}(r:KV kvs vs)(k:κ):RelO (pG kvs k) (valueAt vs k):=by
 unfold KV at r
 induction r with
 |nil=>exact True.intro
 | @cons p q ps qs h t ih=>
  obtain⟨h1,h2⟩:=h;by_cases e:p.1=k
  ·have e':q.1=k:=h1.symm.trans e;have b:valueAt (q::qs) k=some q.2:=by simp[valueAt,uJ,e']
   rw[pR e,b];exact h2
  ·have e': ¬q.1=k:=fun z=>e (h1.trans z);have b:valueAt (q::qs) k=valueAt qs k:=by simp[valueAt,uJ,e']
   rw[mQ e,b];exact ih
theorem KV.any{kvs:List (κ×V)}{vs:List (κ×Value)}(r:KV kvs vs)(k:κ):(kvs.any fun kv=>decide (kv.1=k))=vs.any fun kv=>decide (kv.1=k):=by
 unfold KV at r
 induction r with
 |nil=>rfl
 |cons h t ih=>rw[uI,uI,ih,h.1]
theorem KV.repl{kvs:List (κ×V)}{vs:List (κ×Value)}(r:KV kvs vs)(k:κ){y:V}{u:gg}(ry:RelV y u):
  KV (kvs.map fun kv=>if kv.1=k then(kv.1,y) else kv) (vs.map fun kv=>if kv.1=k then(kv.1,u) else kv):=by
 unfold KV at r ⊢
 induction r with
 |nil=>exact .nil
 | @cons p q ps qs h t ih=>
  rw[il,il];refine .cons ?_ ih;obtain⟨h1,h2⟩:=h;by_cases e:p.1=k
  ·rw[gd e,gd (h1.symm.trans e)];exact⟨h1,ry⟩
  ·rw[gk e,gk (fun z=>e (h1.trans z))];exact⟨h1,h2⟩
theorem KV.put{kvs:List (κ×V)}{vs:List (κ×Value)}(r:KV kvs vs)(k:κ){y:V}{u:gg}(ry:RelV y u):KV (pI kvs k y) (stored vs k u):=by
 unfold pI stored;rw[r.any k];by_cases e:(vs.any fun kv=>decide (kv.1=k))=true
 ·rw[gd e,gd e];exact r.repl k ry
 ·rw[gk e,gk e];exact Paired.snoc r ⟨rfl,ry⟩
theorem KV.length{kvs:List (κ×V)}{vs:List (κ×Value)}(r:KV kvs vs):kvs.length=vs.length:=uS r
end
theorem Ag{P:gA}{w:gu}{k:Key}{u:gg}(r:RelV (kV k) u):(jt P w).is k u=true:=by
 cases k with
 |inl i=>obtain⟨t,e⟩:=(show ∃t,u=Value.int i t from r);subst e;exact C3 P w i t
 |inr x=>obtain⟨t,e⟩:=(show ∃t,u=Value.str x t from r);subst e;exact C2 P w x t
theorem Ah{P:gA}{w:gu}: ∀{ks:List Key} {us:hV},Vals (ks.map kV) us->ItemsAre (jt P w) ks us
 |[],_,r=>by rw[vN] at r;cases r;exact .nil
 |k::ks,_,r=>by
  rw[il] at r
  cases r with
  |cons h t=>exact .cons (Ag h) (Ah t)
abbrev KT(H:Hp):List (List Key×V)->List (List Key×Addr×Value)->Prop:=Paired fun p q=>p.1=q.1/\H q.2.1=some (.tup (p.1.map kV))/\RelV p.2 q.2.2
theorem KT.val{H:Hp}{kvs:List (List Key×V)}{xs:List (List Key×Addr×Value)}(r:KT H kvs xs)(k:List Key):RelO (pG kvs k) ((atKey xs k).map (·.2)):=by
 induction r with
 |nil=>exact True.intro
 | @cons p q ps qs h t ih=>
  obtain⟨h1,_,h2⟩:=h;by_cases e:p.1=k
  ·have e':q.1=k:=h1.symm.trans e;have b:atKey (q::qs) k=some q.2:=by simp[atKey,uJ,e']
   rw[pR e,b];exact h2
  ·have e': ¬q.1=k:=fun z=>e (h1.trans z);have b:atKey (q::qs) k=atKey qs k:=by simp[atKey,uJ,e']
   rw[mQ e,b];exact ih
theorem KT.repl{H:Hp}{kvs:List (List Key×V)}{xs:List (List Key×Addr×Value)}(r:KT H kvs xs)(k:List Key){y:V}{u:gg}(ry:RelV y u):
  KT H (kvs.map fun kv=>if kv.1=k then(kv.1,y) else kv) (xs.map (putAt k u)):=by
 induction r with
 |nil=>exact .nil
 | @cons p q ps qs h t ih=>
  rw[il,il];refine .cons ?_ ih;obtain⟨h1,h2,h3⟩:=h;unfold putAt;by_cases e:p.1=k
  ·rw[gd e,gd (h1.symm.trans e)];exact⟨h1,h2,ry⟩
  ·rw[gk e,gk (fun z=>e (h1.trans z))];exact⟨h1,h2,h3⟩
theorem KT.put{H:Hp}{kvs:List (List Key×V)}{xs:List (List Key×Addr×Value)}(r:KT H kvs xs)(k:List Key){b:fR}{y:V}{u:gg}(hb:H b=some (.tup (k.map kV)))(ry:RelV y u):
  KT H (pI kvs k y) (storedH xs k b u):=by
 have e:(kvs.any fun kv=>decide (kv.1=k))=(atKey xs k).isSome:=by
  rw[Cu,(r.val k).isSome_eq,D6]
 unfold pI storedH;rw[e];by_cases q:(atKey xs k).isSome=true
 ·rw[gd q,gd q];exact r.repl k ry
 ·rw[gk q,gk q];exact Paired.snoc r ⟨rfl,hb,ry⟩
theorem KT.keeps{H H':Hp}{kvs:List (List Key×V)}{xs:List (List Key×Addr×Value)}(r:KT H kvs xs)(ht: ∀b ys,H b=some (.tup ys)->H' b=some (.tup ys)):KT H' kvs xs:=
 Paired.mapP r fun _ _ z=>⟨z.1,ht _ _ z.2.1,z.2.2⟩
section
variable {P:gA}{w:gu}{H:Hp}{h:gD}{a:fR}
theorem Od{u:HO}(ok:HOk P w H h)(e:Rd H a u):ObjOk P w H h a u:=e.ok ok
theorem LP{kvs:List (Key×V)}(ok:HOk P w H h)(e:Rd H a (.dK kvs)):kvs.length<=sizeLine/\(a==sysModules)=false/\ ∃vs,KV kvs vs/\h.DictOf (jt P w) a vs:=
 show ObjOk P w H h a (.dK kvs) from Od ok e
theorem LQ{kvs:List (Key×V)}(ok:HOk P w H h)(e:H a=some (.dK kvs)):kvs.length<=sizeLine/\(a==sysModules)=false/\ ∃vs,KV kvs vs/\h.DictOf (jt P w) a vs:=LP ok (.inl e)
theorem vh{ks:List Key}(ok:HOk P w H h)(e:H a=some (.tup (ks.map kV))):(tupleKind (jt P w)).is h ks a:=by
 obtain⟨_,its,r,o,h1,h2,n,h3⟩:=(show ObjOk P w H h a (.tup (ks.map kV)) from ok a _ e)
 exact⟨o,its.toArray,n,h1,h2,h3,by simpa using Ah r⟩
theorem LN{kvs:List (List Key×V)}(ok:HOk P w H h)(e:Rd H a (.dT kvs)):kvs.length<=sizeLine/\(a==sysModules)=false/\
  ∃xs,KT H kvs xs/\h.DictOfH (tupleKind (jt P w)) a xs:=by
 obtain⟨z,y,xs,r,o,es,ep,h1,h2,h3,h4,h5⟩:=(show ObjOk P w H h a (.dT kvs) from Od ok e)
 refine⟨z,y,xs,r,o,es,ep,h1,h2,h3,h4,fun x hx=>?_,h5⟩
 have all: ∀{l:List (List Key×V)} {m:List (List Key×Addr×Value)},KT H l m-> ∀x∈m,(tupleKind (jt P w)).is h x.1 x.2.1:=by
  intro l m q
  induction q with
  |nil=>intro x hx;exact nomatch hx
  | @cons p q ps qs hq t ih=>
   intro x hx;rcases jQ.mp hx with e|hx
   ·subst e;exact vh ok (by rw[<-hq.1];exact hq.2.1)
   ·exact ih x hx
 exact all r x hx
theorem LO{kvs:List (List Key×V)}(ok:HOk P w H h)(e:H a=some (.dT kvs)):kvs.length<=sizeLine/\(a==sysModules)=false/\
  ∃xs,KT H kvs xs/\h.DictOfH (tupleKind (jt P w)) a xs:=LN ok (.inl e)
end
def DGet(H:Hp)(a:fR)(y:V)(r:Option V):Prop:=
 (∃kvs k,Rd H a (.dK kvs)/\y=kV k/\r=pG kvs k)\/ ∃kvs k b,Rd H a (.dT kvs)/\y= .ref b/\H b=some (.tup (k.map kV))/\r=pG kvs k
def DPut(H:Hp)(a:fR)(y v:V)(H':Hp):Prop:=
 (∃kvs k,H a=some (.dK kvs)/\y=kV k/\kvs.length<sizeLine/\H'=upd H a (.dK (pI kvs k v)))\/
 ∃kvs k b,H a=some (.dT kvs)/\y= .ref b/\H b=some (.tup (k.map kV))/\kvs.length<sizeLine/\H'=upd H a (.dT (pI kvs k v))
theorem DGet.k{H:Hp}{a:fR}{kvs:List (Key×V)}{k:Key}(e:H a=some (.dK kvs)):DGet H a (kV k) (pG kvs k):= .inl ⟨kvs,k,.inl e,rfl,rfl⟩
theorem DGet.t{H:Hp}{a b:fR}{kvs:List (List Key×V)}{k:List Key}(e:H a=some (.dT kvs))(eb:H b=some (.tup (k.map kV))):DGet H a (.ref b) (pG kvs k):= .inr ⟨kvs,k,b,.inl e,rfl,eb,rfl⟩
theorem DPut.k{H:Hp}{a:fR}{kvs:List (Key×V)}{k:Key}{v:V}(e:H a=some (.dK kvs))(hl:kvs.length<sizeLine):DPut H a (kV k) v (upd H a (.dK (pI kvs k v))):= .inl ⟨kvs,k,e,rfl,hl,rfl⟩
theorem DPut.t{H:Hp}{a b:fR}{kvs:List (List Key×V)}{k:List Key}{v:V}(e:H a=some (.dT kvs))(eb:H b=some (.tup (k.map kV)))(hl:kvs.length<sizeLine):
  DPut H a (.ref b) v (upd H a (.dT (pI kvs k v))):= .inr ⟨kvs,k,b,e,rfl,eb,hl,rfl⟩
section
variable {X:Cx}{pins:gE}{σ:St}{H:Hp}{s:fW}{a:fR}{y v:V}{u r:gg}{o:Option V}{A:gw}{E:gH}
theorem Inv.big(I:Inv X pins σ H s):sysModules<s.heap.objs.size:=by
 have h:mainGlobals<s.heap.objs.size:=(I.mod.glob.keeps I.bk).lt;exact AX (by decide) h
theorem Ta{Q:gH}(hu:A.units+1<cLine)(I:Inv X pins σ H s)(g:DGet H a y o)(ry:RelV y u)(h: ∀s',Inv X pins σ H s'->Q (.bool o.isSome) s'):
  wpAny (model X.prog X.w) A (compareOp .In u (.ref a)) Q E s:=by
 rcases g with⟨kvs,k,e,ey,l⟩|⟨kvs,k,b,e,ey,eb,l⟩
 ·subst ey;obtain⟨z,hd,vs,rel,dd⟩:=LP I.hok e;refine wpAny_in_of (Ag ry) hd dd.mapOf ?_;rw[<-(rel.val k).isSome_eq,<-l];exact h _ (I.tok _)
 ·subst ey;cases(show u=Value.ref b from ry);obtain⟨z,hd,xs,rel,dd⟩:=LN I.hok e;refine wpAny_in_heap (xi hu) (vh I.hok eb) hd dd ?_;have q:=(rel.val k).isSome_eq;rw[D6] at q;rw[<-q,<-l];exact h _ (I.tok _)
theorem GR{Q:gH}(hu:A.units+1<cLine)(I:Inv X pins σ H s)(g:DGet H a y o)(ry:RelV y u)(h: ∀s',Inv X pins σ H s'->Q (.bool (!o.isSome)) s'):
  wpAny (model X.prog X.w) A (compareOp .NotIn u (.ref a)) Q E s:=by
 rcases g with⟨kvs,k,e,ey,l⟩|⟨kvs,k,b,e,ey,eb,l⟩
 ·subst ey;obtain⟨z,hd,vs,rel,dd⟩:=LP I.hok e;refine wpAny_notIn_of (Ag ry) hd dd.mapOf ?_;rw[<-(rel.val k).isSome_eq,<-l];exact h _ (I.tok _)
 ·subst ey;cases(show u=Value.ref b from ry);obtain⟨z,hd,xs,rel,dd⟩:=LN I.hok e;refine wpAny_notIn_heap (xi hu) (vh I.hok eb) hd dd ?_;have q:=(rel.val k).isSome_eq;rw[D6] at q;rw[<-q,<-l];exact h _ (I.tok _)
theorem wR{h':gD}{t':Nat}{ob:HO}(I:Inv X pins σ H s)(mu:Mut (H a))(hs:Heap.SameBut a s.heap h')(he: ∃q,h'.get? a=some q)(new:ObjOk X.prog X.w (upd H a ob) h' a ob):
  Inv X pins σ (upd H a ob) {s with heap:=h',toks:=t'}:=
 I.write (x:=a) (e:=a) mu (.inl rfl) (fun b q hb z=>(hs.2 b hb).trans z) he new
theorem Rn{P:gA}{w:gu}{H':Hp}{h':gD}{kvs:List (Key×V)}{vs:List (Key×Value)}(z:kvs.length<=sizeLine)(hd:(a==sysModules)=false)(rel:KV kvs vs)(dd:h'.DictOf (jt P w) a vs):
  ObjOk P w H' h' a (.dK kvs):=⟨z,hd,vs,rel,dd⟩
theorem vq{H':Hp}{Q:Unit->Shared->Prop}(hu:A.units+1<cLine)(I:Inv X pins σ H s)(g:DPut H a y v H')(ry:RelV y u)(rv:RelV v r)(h: ∀s',Inv X pins σ H' s'->Q () s'):
  wpAny (model X.prog X.w) A (setItem (.ref a) u r) Q E s:=by
 rcases g with⟨kvs,k,e,ey,l,eH⟩|⟨kvs,k,b,e,ey,eb,l,eH⟩
 ·subst ey eH;obtain⟨z,hd,vs,rel,dd⟩:=LQ I.hok e;have hz:vs.length<=sizeLine:=by rw[<-rel.length];exact z
  have hl:(pI kvs k v).length<=sizeLine:=by have:=vX kvs k v;omega
  refine wpAny_setItem_pairs (hsz:=hz) (Ag ry) dd fun h' dM hs=>h _ ?_;have he: ∃q,h'.get? a=some q:=let⟨q,_,_,hq,_⟩:=dM;⟨q,hq⟩
  exact wR I (by rw[e];exact True.intro) hs he (Rn hl hd (rel.put k rv) dM)
 ·subst ey eH;cases(show u=Value.ref b from ry);obtain⟨z,hd,xs,rel,dd⟩:=LO I.hok e;have hz:xs.length<=sizeLine:=by rw[<-uS rel];exact z
  have hl:(pI kvs k v).length<=sizeLine:=by have:=vX kvs k v;omega
  refine wpAny_setItem_heap (hsz:=hz) (xi hu) (vh I.hok eb) dd fun h' dM hs=>h _ ?_;obtain⟨q,es,ep,hq,h2,h3,h4,_,h5⟩:=dM;refine wR I (by rw[e];exact True.intro) hs ⟨q,hq⟩ ⟨hl,hd,_,(rel.put k eb rv).keeps fun c ys ec=>?_,q,es,ep,hq,h2,h3,h4,h5⟩;rw[gG (Oo ec e (fun z=>nomatch z))];exact ec
end
theorem LS{P:gA}{w:gu}{H:Hp}(h:gD)(hb:sysModules<h.objs.size):ObjOk P w H (h.push {cls:= .type "dict",data:= .dict #[]}) h.objs.size (.dK []):=
 ⟨mJ _,beq_eq_false_iff_ne.mpr (rl (ip hb)),[],.nil,Heap.DictOf.new h⟩
noncomputable def OV:TE:=fun _ H Q=> ∀p,H p=none->Q (.ref p) (upd H p (.dK []))
section
variable {X:Cx}{pos:Pos}
theorem KQ:PE X (.Dict [] [] pos) OV:=fun pins s σ H Q I h=>
 wpAny_Dict_empty ⟨.ref s.heap.objs.size,_,I.laid (a:=s.heap.objs.size) (o:= .dK []) (t':=s.toks) (fun _ _ q=>iF _ q) (gY _) (LS s.heap I.big),rfl,h _ (I.hok.fresh (gY _))⟩
end
end L2
namespace PX
open PySem PySem.Spec PyProof.Rows L2
inductive OK where
 |dct|set|fn(i:Nat)|exc(c:Nat)
 deriving DecidableEq
inductive D where
 |non|bl(b:Bool)|int(i:Int)|str(x:Str)|tup(l:List D)|lst(l:List D)|oth(k:OK)(ks vs:List D)
mutual
/-- the hash of ints and of tuples of such -/
noncomputable def D.hash:D->Int
 | .int i=>hashInt i
 | .tup l=>reduceHash (Builtin.Tuple.tupleHashOf (D.hashL l))
 |_=>0
noncomputable def D.hashL:List D->List Int
 |[]=>[]
 |d::l=>D.hash d::D.hashL l
end
noncomputable def iB:Key->D
 | .inl i=> .int i
 | .inr x=> .str x
def OthB(h:Option HO)(k:OK)(ks vs:List D)(us:List V):Prop:=
 match k with
 | .dct=>(∃kvs:List (Key×V),h=some (.dK kvs)/\ks=kvs.map (fun p=>iB p.1)/\us=kvs.map (·.2))\/
   (∃kvs:List (List Key×V),h=some (.dT kvs)/\ks=kvs.map (fun p=> .tup (p.1.map iB))/\us=kvs.map (·.2))
 | .set=>ks=[]/\ ∃zs:List (Int×V),h=some (.stt zs)/\zs.Perm ((D.hashL vs).zip us)
 |_=>False
theorem OthB.ex{h k ks vs us}(x:OthB h k ks vs us): ∃o,h=some o:=by
 cases k with
 |dct=>rcases x with⟨_,e,_⟩|⟨_,e,_⟩<;>exact⟨_,e⟩
 |set=>obtain⟨_,_,e,_⟩:=x;exact⟨_,e⟩
 |_=>exact x.elim
theorem OthB.keep{k ks vs us}(x:OthB h k ks vs us)(kp: ∀o,h=some o->h'=some o):OthB h' k ks vs us:=by
 obtain⟨o,e⟩:=x.ex;rw[kp o e,<-e];exact x
abbrev AP':=Addr->Prop
def KT(K:gq)(a:fR)(xs:List V):Prop:= ∃(o:Obj) (its:jz) (n:Nat),K.lookup a=some o/\o.cls= .type "tuple"/\o.data= .seq its n/\its.size<=sizeLine/\Vals xs its.toList
def KL(K:gq)(a:fR)(xs:List V):Prop:= ∃(o:Obj) (its:jz) (n:Nat),K.lookup a=some o/\o.cls= .type "list"/\o.dict=none/\o.data= .seq its n/\its.size<=sizeLine/\Vals xs its.toList
def SqTO(K:gq)(H:Hp)(O:AP')(a:fR)(xs:List V):Prop:=H a=some (.tup xs)/\ ¬O a
def SqLO(K:gq)(H:Hp)(O:AP')(a:fR)(xs:List V):Prop:=(Rd H a (.lst xs)/\ ¬O a)\/KL K a xs
theorem SqTO.sq{K H O a xs}(h:SqTO K H O a xs):SqT K H a xs:= .inl (.inl h.1)
theorem SqLO.sq{K H O a xs}(h:SqLO K H O a xs):SqL K H a xs:=h.elim (fun z=> .inl z.1) .inr
theorem Rd.mono{a u}(h:Rd H a u)(k: ∀o,H a=some o->H' a=some o):Rd H' a u:=by
 rcases h with h|⟨o,h⟩
 ·exact .inl (k _ h)
 ·exact .inr ⟨o,k _ h⟩
theorem SqTO.mono{K H H'}{a xs}(h:SqTO K H O a xs)(k: ∀b o,H b=some o-> ¬O b->H' b=some o)(hO: ∀b,H b≠none->O' b->O b):SqTO K H' O' a xs:=
 ⟨k a _ h.1 h.2,fun z=>h.2 (hO a (by rw[h.1];simp) z)⟩
theorem SqLO.mono{K H H'}{a xs}(h:SqLO K H O a xs)(k: ∀b o,H b=some o-> ¬O b->H' b=some o)(hO: ∀b,H b≠none->O' b->O b):SqLO K H' O' a xs:=by
 rcases h with⟨r,n⟩|h
 ·refine .inl ⟨Rd.mono r fun o e=>k a o e n,fun z=>n (hO a ?_ z)⟩;rcases r with r|⟨_,r⟩<;>(rw[r];simp)
 ·exact .inr h
mutual
/-- v is the datum,in H;nothing of it stands at an address of O -/
def Rep(K:gq)(H:Hp)(O:AP'):D->V->Prop
 | .non,v=>v= .non
 | .bl b,v=>v= .bl b
 | .int i,v=>v= .int i
 | .str x,v=>v= .str x
 | .tup l,v=> ∃a xs,v= .ref a/\SqTO K H O a xs/\RepL K H O l xs
 | .lst l,v=> ∃a xs,v= .ref a/\SqLO K H O a xs/\RepL K H O l xs
 | .oth k ks vs,v=> ∃a us,v= .ref a/\(¬O a/\OthB (H a) k ks vs us)/\RepL K H O vs us
def RepL(K:gq)(H:Hp)(O:AP'):List D->List V->Prop
 |[],vs=>vs=[]
 |d::l,vs=> ∃v r,vs=v::r/\Rep K H O d v/\RepL K H O l r
end
mutual
theorem Rep.mono{K H H'}{O O':AP'}(k: ∀b o,H b=some o-> ¬O b->H' b=some o)(hO: ∀b,H b≠none->O' b->O b): ∀{d:D} {v:V},Rep K H O d v->Rep K H' O' d v
 | .non,_,h=>h
 | .bl _,_,h=>h
 | .int _,_,h=>h
 | .str _,_,h=>h
 | .tup l,_,h=>by
  rw[Rep] at h ⊢;obtain⟨a,xs,e,s,r⟩:=h;exact⟨a,xs,e,s.mono k hO,RepL.mono k hO r⟩
 | .lst l,_,h=>by
  rw[Rep] at h ⊢;obtain⟨a,xs,e,s,r⟩:=h;exact⟨a,xs,e,s.mono k hO,RepL.mono k hO r⟩
 | .oth kk ks vs,_,h=>by
  rw[Rep] at h ⊢;obtain⟨a,us,e,s,r⟩:=h;exact⟨a,us,e,⟨fun z=>s.1 (hO a (by obtain⟨o,q⟩:=s.2.ex;rw[q];simp) z),s.2.keep fun o q=>k a o q s.1⟩,RepL.mono k hO r⟩
theorem RepL.mono{K H H'}{O O':AP'}(k: ∀b o,H b=some o-> ¬O b->H' b=some o)(hO: ∀b,H b≠none->O' b->O b): ∀{l:List D} {vs:List V},RepL K H O l vs->RepL K H' O' l vs
 |[],_,h=>h
 |d::l,_,h=>by
  rw[RepL] at h ⊢;obtain⟨v,r,e,h1,h2⟩:=h;exact⟨v,r,e,Rep.mono k hO h1,RepL.mono k hO h2⟩
end
theorem Rep.mkInt{K H O i}:Rep K H O (.int i) (.int i):=by rw[Rep]
theorem Rep.mkBl{K H O i}:Rep K H O (.bl i) (.bl i):=by rw[Rep]
theorem Rep.mkNon{K H O}:Rep K H O .non .non:=by rw[Rep]
theorem Rep.mkStr{K H O i}:Rep K H O (.str i) (.str i):=by rw[Rep]
theorem Rep.int{K H O i v}(h:Rep K H O (.int i) v):v= .int i:=by rwa [Rep] at h
theorem Rep.bl{K H O i v}(h:Rep K H O (.bl i) v):v= .bl i:=by rwa [Rep] at h
theorem Rep.non{K H O v}(h:Rep K H O .non v):v= .non:=by rwa [Rep] at h
theorem Rep.str{K H O i v}(h:Rep K H O (.str i) v):v= .str i:=by rwa [Rep] at h
theorem Rep.tup{K H O l v}(h:Rep K H O (.tup l) v): ∃a xs,v= .ref a/\SqTO K H O a xs/\RepL K H O l xs:=by rwa [Rep] at h
theorem Rep.lst{K H O l v}(h:Rep K H O (.lst l) v): ∃a xs,v= .ref a/\SqLO K H O a xs/\RepL K H O l xs:=by rwa [Rep] at h
theorem Rep.oth{K H O k ks vs v}(h:Rep K H O (.oth k ks vs) v): ∃a us,v= .ref a/\(¬O a/\OthB (H a) k ks vs us)/\RepL K H O vs us:=by rwa [Rep] at h
theorem Rep.mkOth{K H O k ks vs a us}(n: ¬O a)(h:OthB (H a) k ks vs us)(r:RepL K H O vs us):Rep K H O (.oth k ks vs) (.ref a):=by rw[Rep];exact⟨a,us,rfl,⟨n,h⟩,r⟩
theorem Rep.mkTup{K H O l a xs}(h:SqTO K H O a xs)(r:RepL K H O l xs):Rep K H O (.tup l) (.ref a):=by rw[Rep];exact⟨a,xs,rfl,h,r⟩
theorem Rep.mkLst{K H O l a xs}(h:SqLO K H O a xs)(r:RepL K H O l xs):Rep K H O (.lst l) (.ref a):=by rw[Rep];exact⟨a,xs,rfl,h,r⟩
theorem RepL.length{K H O}: ∀{l:List D} {vs:List V},RepL K H O l vs->vs.length=l.length
 |[],vs,h=>by rw[RepL] at h;rw[h];rfl
 |d::l,vs,h=>by
  rw[RepL] at h;obtain⟨v,r,rfl,_,h2⟩:=h;simp[RepL.length h2]
theorem RepL.get{K H O}: ∀{l:List D} {vs:List V} {i:Nat} {d:D},RepL K H O l vs->l[i]?=some d-> ∃v,vs[i]?=some v/\Rep K H O d v
 |[],_,_,_,_,e=>by simp at e
 |d::l,vs,0,d',h,e=>by
  rw[RepL] at h;obtain⟨v,r,rfl,h1,_⟩:=h;simp at e;subst e;exact⟨v,rfl,h1⟩
 |d::l,vs,i+1,d',h,e=>by
  rw[RepL] at h;obtain⟨v,r,rfl,_,h2⟩:=h;obtain⟨w,h3,h4⟩:=RepL.get (i:=i) h2 (by simpa using e);exact⟨w,by simpa using h3,h4⟩
theorem RepL.append{K H O}: ∀{l m:List D} {vs ws:List V},RepL K H O l vs->RepL K H O m ws->RepL K H O (l++m) (vs++ws)
 |[],_,vs,_,h,h'=>by rw[RepL] at h;subst h;exact h'
 |d::l,_,vs,_,h,h'=>by
  rw[RepL] at h;obtain⟨v,r,rfl,h1,h2⟩:=h;show RepL K H O (d::(l++_)) _;rw[RepL];exact⟨v,_,rfl,h1,RepL.append h2 h'⟩
theorem RepL.one{K H O}{d:D}{v:V}(h:Rep K H O d v):RepL K H O [d] [v]:=by
 rw[RepL];exact⟨v,[],rfl,h,by rw[RepL]⟩
theorem RepL.nil{K H O}:RepL K H O [] []:=by rw[RepL]
theorem RepL.cons{K H O}{l vs}(h:Rep K H O d v)(h':RepL K H O l vs):RepL K H O (d::l) (v::vs):=by
 rw[RepL];exact⟨v,vs,rfl,h,h'⟩
theorem RepL.take{K H O}: ∀{l:List D} {vs:List V} (n:Nat),RepL K H O l vs->RepL K H O (l.take n) (vs.take n)
 |_,_,0,_=>by simp[RepL]
 |[],vs,n+1,h=>by rw[RepL] at h;subst h;simp[RepL]
 |d::l,vs,n+1,h=>by
  rw[RepL] at h;obtain⟨v,r,rfl,h1,h2⟩:=h;exact RepL.cons h1 (RepL.take n h2)
theorem RepL.drop{K H O}: ∀{l:List D} {vs:List V} (n:Nat),RepL K H O l vs->RepL K H O (l.drop n) (vs.drop n)
 |_,_,0,h=>h
 |[],vs,n+1,h=>by rw[RepL] at h;subst h;simp[RepL]
 |d::l,vs,n+1,h=>by
  rw[RepL] at h;obtain⟨v,r,rfl,h1,h2⟩:=h;exact RepL.drop n h2
theorem RepL.set{K H O}{d:D}{v:V}(hv:Rep K H O d v): ∀{l:List D} {vs:List V} (i:Nat),RepL K H O l vs->RepL K H O (l.set i d) (vs.set i v)
 |[],vs,i,h=>by rw[RepL] at h;subst h;simp[RepL]
 |e::l,vs,0,h=>by
  rw[RepL] at h;obtain⟨w,r,rfl,h1,h2⟩:=h;exact RepL.cons hv h2
 |e::l,vs,i+1,h=>by
  rw[RepL] at h;obtain⟨w,r,rfl,h1,h2⟩:=h;exact RepL.cons h1 (RepL.set hv i h2)
abbrev Sl:=Option (D×Bool)
abbrev Dn:=List Sl
def OwnA(σ:L2.St)(δ:Dn)(a:fR):Prop:= ∃(i:Nat) (d:D),δ[i]?=some (some (d,true))/\σ[i]?=some (some (V.ref a))
def OwnOk(K:gq)(H:Hp)(O:AP'):D->Addr->Prop
 | .lst l,a=> ∃xs,H a=some (.lst xs)/\RepL K H O l xs
 | .oth k ks vs,a=> ∃us,OthB (H a) k ks vs us/\RepL K H O vs us
 |_,_=>False
theorem OwnOk.mono{K H H'}(h:OwnOk K H O d a)(k: ∀b o,H b=some o-> ¬O b->H' b=some o)(hO: ∀b,H b≠none->O' b->O b)(ka: ∀o,H a=some o->H' a=some o):OwnOk K H' O' d a:=by
 cases d with
 |lst l=>obtain⟨xs,e,r⟩:=h;exact⟨xs,ka _ e,RepL.mono k hO r⟩
 |oth kk ks vs=>obtain⟨us,e,r⟩:=h;exact⟨us,e.keep ka,RepL.mono k hO r⟩
 |_=>exact h
theorem OwnOk.rep{K H}(h:OwnOk K H O d a)(na: ¬O' a)(hO: ∀b,H b≠none->O' b->O b):Rep K H O' d (.ref a):=by
 cases d with
 |lst l=>
  obtain⟨xs,e,r⟩:=h;rw[Rep];exact⟨a,xs,rfl,.inl ⟨.inl e,na⟩,RepL.mono (fun b o e _=>e) hO r⟩
 |oth kk ks vs=>
  obtain⟨us,e,r⟩:=h;exact Rep.mkOth na e (RepL.mono (fun b o e _=>e) hO r)
 |_=>exact h.elim
def Ow:Option HO->Prop
 |none=>False
 |some (.tup _)=>False
 |_=>True
theorem Ow.ne{o:Option HO}(h:Ow o):o≠none:=fun e=>by rw[e] at h;exact h
theorem Ow.up{o o':Option HO}(h:Ow o)(k: ∀x,o=some x->o'=some x):Ow o':=by
 cases o with
 |none=>exact h.elim
 |some x=>rw[k x rfl];exact h
theorem nOw{o:Option HO}(h:o=none): ¬Ow o:=fun z=>z.ne h
theorem Ow.nt{o:Option HO}(h:Ow o)(xs:List V):o≠some (.tup xs):=fun e=>by rw[e] at h;exact h
theorem OwnOk.ow{K H}{O:AP'}{d:D}{a:fR}(h:OwnOk K H O d a):Ow (H a):=by
 cases d with
 |lst l=>obtain⟨xs,e,_⟩:=h;rw[e];trivial
 |oth k ks vs=>
  obtain⟨us,e,_⟩:=h
  cases k with
  |dct=>rcases e with⟨_,e,_⟩|⟨_,e,_⟩<;>(rw[e];trivial)
  |set=>obtain⟨_,_,e,_⟩:=e;rw[e];trivial
  |_=>exact e.elim
 |_=>exact h.elim
structure ER(K:gq)(H:Hp)(T:AP')(σ:L2.St)(δ:Dn):Prop where
 len:σ.length=δ.length
 val: ∀(i:Nat) (d:D),δ[i]?=some (some (d,false))-> ∃v,σ[i]?=some (some v)/\Rep K H (fun a=>OwnA σ δ a\/T a) d v
 own: ∀(i:Nat) (d:D),δ[i]?=some (some (d,true))-> ∃a,σ[i]?=some (some (V.ref a))/\OwnOk K H (fun a=>OwnA σ δ a\/T a) d a
 inj: ∀(i j:Nat) (d e:D) (a:fR),δ[i]?=some (some (d,true))->δ[j]?=some (some (e,true))->σ[i]?=some (some (V.ref a))->σ[j]?=some (some (V.ref a))->i=j
 nT: ∀a,OwnA σ δ a-> ¬T a
 dom: ∀a,T a->Ow (H a)
theorem ER.ownOw{K H T σ δ}(E:ER K H T σ δ)(h:OwnA σ δ a):Ow (H a):=by
 obtain⟨i,d,h1,h2⟩:=h;obtain⟨b,h3,h4⟩:=E.own i d h1;rw[h2] at h3;cases h3;exact h4.ow
theorem ER.ownDom{K H T σ δ}(E:ER K H T σ δ)(h:OwnA σ δ a):H a≠none:=(E.ownOw h).ne
theorem ER.mono{K H H' σ δ}(E:ER K H T σ δ)(k: ∀b o,H b=some o-> ¬T b->H' b=some o)(hT: ∀b,H b≠none->T' b->T b)(hd: ∀a,T' a->Ow (H' a)):ER K H' T' σ δ where
 len:=E.len
 val:=fun i d h=>by
  obtain⟨v,h1,h2⟩:=E.val i d h;exact⟨v,h1,Rep.mono (fun b o e n=>k b o e fun z=>n (.inr z)) (fun b hb z=>z.elim .inl fun z=> .inr (hT b hb z)) h2⟩
 own:=fun i d h=>by
  obtain⟨a,h1,h2⟩:=E.own i d h;exact⟨a,h1,h2.mono (fun b o e n=>k b o e fun z=>n (.inr z)) (fun b hb z=>z.elim .inl fun z=> .inr (hT b hb z)) fun o e=>k a o e (E.nT a ⟨i,d,h,h1⟩)⟩
 inj:=E.inj
 nT:=fun a h z=>E.nT a h (hT a (E.ownDom h) z)
 dom:=hd
theorem OwnA.set(h:OwnA σ (δ.set i (some (d,false))) a):OwnA σ δ a:=by
 obtain⟨j,e,h1,h2⟩:=h;rw[AW] at h1;split at h1
 ·split at h1<;>simp at h1
 ·exact⟨j,e,h1,h2⟩
theorem ER.freeze{K H T σ δ}(E:ER K H T σ δ){i:Nat}{d:D}{b:Bool}(h:δ[i]?=some (some (d,b))):ER K H T σ (δ.set i (some (d,false)))/\ ∃v,σ[i]?=some (some v)/\Rep K H (fun a=>OwnA σ (δ.set i (some (d,false))) a\/T a) d v:=by
 have hi:i<δ.length:=(wz.mp h).1
 have me: ∃v,σ[i]?=some (some v)/\Rep K H (fun a=>OwnA σ (δ.set i (some (d,false))) a\/T a) d v:=by
  cases b with
  |false=>
   obtain⟨v,h1,h2⟩:=E.val i d h;exact⟨v,h1,Rep.mono (fun _ _ e _=>e) (fun b _ z=>z.elim (fun z=> .inl z.set) .inr) h2⟩
  |true=>
   obtain⟨a,h1,h2⟩:=E.own i d h;refine⟨.ref a,h1,h2.rep (fun z=>?_) fun b _ z=>z.elim (fun z=> .inl z.set) .inr⟩;rcases z with⟨j,e,h3,h4⟩|z
   ·rw[AW] at h3;split at h3
    ·first
      |(split at h3<;>simp at h3)
      |simp at h3
    ·rename_i j9;exact j9 (E.inj i j d e a h h3 h1 h4)
   ·exact E.nT a ⟨i,d,h,h1⟩ z
 refine⟨⟨by rw[rh];exact E.len,fun j e hj=>?_,fun j e hj=>?_,fun j k e f a hj hk h1 h2=>?_,fun a z=>E.nT a z.set,E.dom⟩,me⟩
 ·by_cases q9:i=j
  ·subst q9;rw[pv hi] at hj;cases hj;exact me
  ·rw[pO q9] at hj;obtain⟨v,h1,h2⟩:=E.val j e hj;exact⟨v,h1,Rep.mono (fun _ _ e _=>e) (fun b _ z=>z.elim (fun z=> .inl z.set) .inr) h2⟩
 ·by_cases q9:i=j
  ·subst q9;rw[pv hi] at hj;cases hj
  ·rw[pO q9] at hj;obtain⟨a,h1,h2⟩:=E.own j e hj;exact⟨a,h1,h2.mono (fun _ _ e _=>e) (fun b _ z=>z.elim (fun z=> .inl z.set) .inr) fun _ e=>e⟩
 ·have g1:δ[j]?=some (some (e,true)):=by
   by_cases q9:i=j
   ·subst q9;rw[pv hi] at hj;cases hj
   ·rwa [pO q9] at hj
  have g2:δ[k]?=some (some (f,true)):=by
   by_cases q9:i=k
   ·subst q9;rw[pv hi] at hk;cases hk
   ·rwa [pO q9] at hk
  exact E.inj j k e f a g1 g2 h1 h2
def OwnI(σ:L2.St)(δ:Dn)(i:Nat)(a:fR):Prop:= ∃d:D,δ[i]?=some (some (d,true))/\σ[i]?=some (some (V.ref a))
structure Keep(σ:L2.St)(δ:Dn)(H:Hp)(δ':Dn)(H':Hp):Prop where
 kp: ∀a o,H a=some o-> ¬OwnA σ δ a->H' a=some o
 owi: ∀i a,OwnI σ δ' i a->OwnI σ δ i a
 dm: ∀a,H a≠none->H' a≠none
theorem Keep.ow{σ δ H δ' H'}(k:Keep σ δ H δ' H')(a:fR)(h:OwnA σ δ' a):OwnA σ δ a:=by
 obtain⟨i,d,h1,h2⟩:=h;obtain⟨e,h3,h4⟩:=k.owi i a ⟨d,h1,h2⟩;exact⟨i,e,h3,h4⟩
theorem Keep.refl{σ δ H}:Keep σ δ H δ H:=⟨fun _ _ e _=>e,fun _ _ z=>z,fun _ z=>z⟩
theorem Keep.trans{σ δ δ1 δ2 H H1 H2}(x:Keep σ δ H δ1 H1)(y:Keep σ δ1 H1 δ2 H2):Keep σ δ H δ2 H2:=
 ⟨fun a o e n=>y.kp a o (x.kp a o e n) fun z=>n (x.ow a z),fun i a z=>x.owi i a (y.owi i a z),fun a z=>y.dm a (x.dm a z)⟩
theorem Keep.ext{σ δ H H1}(k: ∀a o,H a=some o->H1 a=some o):Keep σ δ H δ H1:=⟨fun a o e _=>k a o e,fun _ _ z=>z,fun a z=>by
 cases h:H a with
 |none=>exact absurd h z
 |some o=>rw[k a o h];simp⟩
theorem OwnI.set(h:OwnI σ (δ.set i (some (d,false))) j a):OwnI σ δ j a:=by
 obtain⟨e,h1,h2⟩:=h;rw[AW] at h1;split at h1
 ·split at h1<;>simp at h1
 ·exact⟨e,h1,h2⟩
theorem Keep.set{σ δ H i d}:Keep σ δ H (δ.set i (some (d,false))) H:=⟨fun _ _ e _=>e,fun _ _ z=>z.set,fun _ z=>z⟩
def Post(K:gq)(T:AP')(σ:L2.St)(δ:Dn)(H:Hp)(r:D×Bool)(δ':Dn)(v:V)(H':Hp):Prop:=
 Keep σ δ H δ' H'/\
 match r with
 |(d,false)=>ER K H' T σ δ'/\Rep K H' (fun a=>OwnA σ δ' a\/T a) d v
 |(d,true)=> ∃p,v= .ref p/\H p=none/\ER K H' (fun a=>T a\/a=p) σ δ'/\OwnOk K H' (fun a=>OwnA σ δ' a\/T a\/a=p) d p
abbrev F:=Dn->Option ((D×Bool)×Dn)
def tF(K:gq)(f:F):TE:=fun σ H Q=> ∃δ T r δ',ER K H T σ δ/\f δ=some (r,δ')/\ ∀v H',Post K T σ δ H r δ' v H'->Q v H'
def PX(X:Cx)(e:gf)(f:F):Prop:=PE X e (tF X.K f)
noncomputable def Tmp(T:AP')(r:D×Bool)(v:V):AP':=fun a=>T a\/(r.2=true/\v= .ref a)
section
variable {K:gq}{T:AP'}{σ:L2.St}{δ δ1 δ2:Dn}{H H1 H2:Hp}{x y:D×Bool}{v u:V}
theorem Post.er(E:ER K H T σ δ)(P:Post K T σ δ H x δ1 v H1):ER K H1 (Tmp T x v) σ δ1:=by
 obtain⟨d,b⟩:=x
 cases b with
 |false=>
  refine P.2.1.mono (fun _ _ e _=>e) (fun b _ z=>z.elim id fun z=>absurd z.1 (by simp)) (fun a z=>?_);rcases z with z|z
  ·exact P.2.1.dom a z
  ·exact absurd z.1 (by simp)
 |true=>
  obtain⟨p,rfl,hp,E1,o1⟩:=P.2;refine E1.mono (fun _ _ e _=>e) (fun b _ z=>z.elim .inl fun z=> .inr (by have:=z.2;cases this;rfl)) (fun a z=>?_);rcases z with z|z
  ·exact E1.dom a (.inl z)
  ·have:=z.2;cases this;exact E1.dom _ (.inr rfl)
theorem Post.rep(E:ER K H T σ δ)(P:Post K T σ δ H x δ1 v H1):ER K H1 T σ δ1/\Rep K H1 (fun a=>OwnA σ δ1 a\/T a) x.1 v:=by
 obtain⟨d,b⟩:=x
 cases b with
 |false=>exact P.2
 |true=>
  obtain⟨p,rfl,hp,E1,o1⟩:=P.2;refine⟨E1.mono (fun _ _ e _=>e) (fun b _ z=> .inl z) (fun a z=>E1.dom a (.inl z)),o1.rep (fun z=>?_) fun b _ z=>z.elim .inl fun z=> .inr (.inl z)⟩;rcases z with z|z
  ·exact E1.nT p z (.inr rfl)
  ·exact(E.dom p z).ne hp
theorem Post.val(k:Keep σ δ H δ2 H2)(E:ER K H2 T σ δ2)(r:Rep K H2 (fun a=>OwnA σ δ2 a\/T a) d w):Post K T σ δ H (d,false) δ2 w H2:=⟨k,E,r⟩
end
theorem gp{α β:Type}{a a':α}{b b':β}(h:some (a,b)=some (a',b')):a=a'/\b=b':=by cases h;exact⟨rfl,rfl⟩
noncomputable def fC(d:D):F:=fun δ=>some ((d,false),δ)
noncomputable def iI(i:Nat):F:=fun δ=>match δ[i]? with
 |some (some (d,_))=>some ((d,false),δ.set i (some (d,false)))
 |_=>none
section
variable {X:Cx}{a b c:gf}{pos:Pos}{fa fb fc:F}
theorem PX.imp(h:PE X e t)(k: ∀σ H Q,tF X.K f σ H Q->t σ H Q):PX X e f:=fun pins s σ H Q I hw=>h pins s σ H Q I (k σ H Q hw)
theorem PL{i j}:PX X (.Constant (.int i) j pos) (fC (.int i)):=PX.imp KO fun σ H Q h=>by
 obtain⟨δ,T,r,δ',E,e,k⟩:=h;cases e;exact k _ _ (Post.val .refl E (by first|exact Rep.mkInt|exact Rep.mkBl|exact Rep.mkNon|exact Rep.mkStr))
theorem So{i j}:PX X (.Constant (.bool i) j pos) (fC (.bl i)):=PX.imp Sx fun σ H Q h=>by
 obtain⟨δ,T,r,δ',E,e,k⟩:=h;cases e;exact k _ _ (Post.val .refl E (by first|exact Rep.mkInt|exact Rep.mkBl|exact Rep.mkNon|exact Rep.mkStr))
theorem PF{j}:PX X (.Constant .none j pos) (fC .non):=PX.imp Qk fun σ H Q h=>by
 obtain⟨δ,T,r,δ',E,e,k⟩:=h;cases e;exact k _ _ (Post.val .refl E (by first|exact Rep.mkInt|exact Rep.mkBl|exact Rep.mkNon|exact Rep.mkStr))
theorem Pw{i j}:PX X (.Constant (.str i) j pos) (fC (.str i)):=PX.imp Qh fun σ H Q h=>by
 obtain⟨δ,T,r,δ',E,e,k⟩:=h;cases e;exact k _ _ (Post.val .refl E (by first|exact Rep.mkInt|exact Rep.mkBl|exact Rep.mkNon|exact Rep.mkStr))
theorem Pt{i:Nat}{x:Str}(hN:X.N[i]?=some x)(hv:Vis X.env.scope x)(hd:(x==("__debug__":Str))=false)(x9:(x==("__classdict__":Str))=false):PX X (.Name x pos) (iI i):=PX.imp (ES hN hv hd x9) fun σ H Q h=>by
 obtain⟨δ,T,r,δ',E,e,k⟩:=h;unfold iI at e
 cases hi:δ[i]? with
 |none=>rw[hi] at e;cases e
 |some o=>
  cases o with
  |none=>rw[hi] at e;cases e
  |some p=>
   obtain⟨d,b⟩:=p;rw[hi] at e;cases e;obtain⟨E1,v,h1,h2⟩:=E.freeze hi;exact⟨v,h1,k v H (Post.val .set E1 h2)⟩
end
inductive Opd where
 |val(r:D×Bool)|slot(i:Nat)
noncomputable def res(δ:Dn):Opd->Option D
 | .val r=>some r.1
 | .slot i=>match δ[i]? with
  |some (some (d,_))=>some d
  |_=>none
def ja(K:gq)(H:Hp)(O:AP')(d:D)(v:V):Prop:=Rep K H O d v\/ ∃a,v= .ref a/\OwnOk K H O d a
abbrev FO:=Dn->Option (Opd×Dn)
def PostO(K:gq)(T:AP')(σ:L2.St)(δ:Dn)(H:Hp)(o:Opd)(δ':Dn)(v:V)(H':Hp):Prop:=
 match o with
 | .val r=>Post K T σ δ H r δ' v H'
 | .slot i=>Keep σ δ H δ' H'/\ER K H' T σ δ'/\σ[i]?=some (some v)
noncomputable def zB(T:AP')(o:Opd)(v:V):AP':=match o with
 | .val r=>Tmp T r v
 | .slot _=>T
def tO(K:gq)(f:FO):TE:=fun σ H Q=> ∃δ T o δ',ER K H T σ δ/\f δ=some (o,δ')/\ ∀v H',PostO K T σ δ H o δ' v H'->Q v H'
def PO(X:Cx)(e:gf)(f:FO):Prop:=PE X e (tO X.K f)
noncomputable def fP(f:F):FO:=fun δ=>(f δ).bind fun p=>some (.val p.1,p.2)
noncomputable def fO(i:Nat):FO:=fun δ=>match δ[i]? with
 |some (some _)=>some (.slot i,δ)
 |_=>none
theorem PE.imp'(h:PE X e t)(k: ∀σ H Q,t' σ H Q->t σ H Q):PE X e t':=fun pins s σ H Q I hw=>h pins s σ H Q I (k σ H Q hw)
section
variable {X:Cx}{pos:Pos}
theorem PX.po(h:PX X e f):PO X e (fP f):=PE.imp' h fun σ H Q hw=>by
 obtain⟨δ,T,o,δ',E,e,k⟩:=hw;unfold fP at e
 cases h1:f δ with
 |none=>rw[h1] at e;cases e
 |some p=>
  obtain⟨r,δ1⟩:=p;rw[h1] at e;obtain⟨rfl,rfl⟩:=gp e;exact⟨δ,T,r,δ1,E,h1,fun v H' P=>k v H' P⟩
theorem Qb{i:Nat}{x:Str}(hN:X.N[i]?=some x)(hv:Vis X.env.scope x)(hd:(x==("__debug__":Str))=false)(x9:(x==("__classdict__":Str))=false):PO X (.Name x pos) (fO i):=PE.imp' (ES hN hv hd x9) fun σ H Q h=>by
 obtain⟨δ,T,o,δ',E,e,k⟩:=h;unfold fO at e
 cases hi:δ[i]? with
 |none=>rw[hi] at e;cases e
 |some q=>
  cases q with
  |none=>rw[hi] at e;cases e
  |some p=>
   obtain⟨d,b⟩:=p;rw[hi] at e;obtain⟨rfl,rfl⟩:=gp e;obtain⟨E1,v,h1,h2⟩:=E.freeze hi;exact⟨v,h1,k v H ⟨.refl,E,h1⟩⟩
end
structure Ops(K:gq)(T:AP')(σ:L2.St)(δ:Dn)(H:Hp)(os:List Opd)(vs:List V)(δ':Dn)(H':Hp)(T':AP'):Prop where
 len:os.length=vs.length
 keep:Keep σ δ H δ' H'
 er:ER K H' T' σ δ'
 tt: ∀a,T a->T' a
 val: ∀(j:Nat) (d:D) (v:V),os[j]?=some (.val (d,false))->vs[j]?=some v->Rep K H' (fun a=>OwnA σ δ' a\/T a) d v
 tmp: ∀(j:Nat) (d:D) (v:V),os[j]?=some (.val (d,true))->vs[j]?=some v-> ∃p,v= .ref p/\T' p/\H p=none/\OwnOk K H' (fun a=>OwnA σ δ' a\/T a) d p
 slt: ∀(j i:Nat) (v:V),os[j]?=some (.slot i)->vs[j]?=some v->σ[i]?=some (some v)
section
variable {K:gq}{T T':AP'}{σ:L2.St}{δ δ' δ2:Dn}{H H' H2:Hp}{os:List Opd}{vs:List V}{o:Opd}{v:V}
theorem Ops.nil(E:ER K H T σ δ):Ops K T σ δ H [] [] δ H T:=⟨rfl,.refl,E,fun _ z=>z,fun j d v h=>by simp at h,fun j d v h=>by simp at h,fun j i v h=>by simp at h⟩
theorem PostO.keep(P:PostO K T σ δ H o δ' v H'):Keep σ δ H δ' H':=by
 cases o with
 |val r=>exact P.1
 |slot i=>exact P.1
theorem PostO.er(E:ER K H T σ δ)(P:PostO K T σ δ H o δ' v H'):ER K H' (zB T o v) σ δ':=by
 cases o with
 |val r=>exact Post.er E P
 |slot i=>exact P.2.1
end
def Gen(K:gq)(H:Hp)(O:AP')(z:D×Bool)(Q:VK):Prop:=
 match z with
 |(d,false)=> ∀w H',(∀a o,H a=some o->H' a=some o)->Rep K H' O d w->Q w H'
 |(d,true)=> ∀p H',H p=none->(∀a o,H a=some o->H' a=some o)->OwnOk K H' (fun a=>O a\/a=p) d p->Q (.ref p) H'
section
variable {K:gq}{T T':AP'}{σ:L2.St}{δ δ1 δ' δ2:Dn}{H H1 H' H2:Hp}{os:List Opd}{vs:List V}{o:Opd}{v:V}{z:D×Bool}{Q:VK}
theorem Ops.cons(E:ER K H T σ δ)(P:PostO K T σ δ H o δ1 v H1)(B:Ops K (zB T o v) σ δ1 H1 os vs δ2 H2 T'):Ops K T σ δ H (o::os) (v::vs) δ2 H2 T':=by
 have E1:=P.er E;have p1:=B.keep.kp;have p2:=B.keep.ow
 have dQ: ∀a,T a->zB T o v a:=fun a z=>by
  cases o with
  |val r=>exact .inl z
  |slot i=>exact z
 refine⟨by simp[B.len],P.keep.trans B.keep,B.er,fun a z=>B.tt a (dQ a z),fun j d w h1 h2=>?_,fun j d w h1 h2=>?_,fun j i w h1 h2=>?_⟩
 ·cases j with
  |zero=>
   simp at h1 h2;subst h1;subst h2;have P':Post K T σ δ H (d,false) δ1 v H1:=P;exact Rep.mono (fun b ob e n=>p1 b ob e fun z=>n (.inl z)) (fun b _ z=>z.elim (fun z=>Or.inl (p2 b z)) Or.inr) (P'.rep E).2
  |succ j=>exact Rep.mono (fun _ _ e _=>e) (fun b _ z=>z.elim Or.inl fun z=>Or.inr (dQ b z)) (B.val j d w (by simpa using h1) (by simpa using h2))
 ·cases j with
  |zero=>
   simp at h1 h2;subst h1;subst h2;have P':Post K T σ δ H (d,true) δ1 v H1:=P;obtain⟨p,rfl,hp,E3,ok⟩:=P'.2;have tp:zB T (.val (d,true)) (V.ref p) p:= .inr ⟨rfl,rfl⟩;refine⟨p,rfl,B.tt p tp,hp,ok.mono (fun b ob e n=>p1 b ob e fun z=>n (.inl z)) (fun b _ z=>z.elim (fun z=>Or.inl (p2 b z)) fun z=>Or.inr (Or.inl z)) fun ob e=>p1 p ob e fun z=>E1.nT p z tp⟩
  |succ j=>
   obtain⟨p,rfl,tp,hp,ok⟩:=B.tmp j d w (by simpa using h1) (by simpa using h2);refine⟨p,rfl,tp,?_,ok.mono (fun _ _ e _=>e) (fun b _ z=>z.elim Or.inl fun z=>Or.inr (dQ b z)) fun _ e=>e⟩
   cases hH:H p with
   |none=>rfl
   |some ob=>exact absurd hp (P.keep.dm p (by rw[hH];simp))
 ·cases j with
  |zero=>
   simp at h1 h2;subst h1;subst h2;exact P.2.2
  |succ j=>exact B.slt j i w (by simpa using h1) (by simpa using h2)
theorem Ops.view(B:Ops K T σ δ H os vs δ' H' T'){j:Nat}{d:D}(h1:os[j]?=some o)(h2:vs[j]?=some v)(hr:res δ' o=some d):ja K H' (fun a=>OwnA σ δ' a\/T a) d v:=by
 cases o with
 |val r=>
  obtain⟨e,b⟩:=r;have hd:e=d:=iq hr;subst hd
  cases b with
  |false=>exact .inl (B.val j e v h1 h2)
  |true=>
   obtain⟨p,rfl,_,_,ok⟩:=B.tmp j e v h1 h2;exact .inr ⟨p,rfl,ok⟩
 |slot i=>
  have hs:=B.slt j i v h1 h2;unfold res at hr;dsimp only at hr
  cases hi:δ'[i]? with
  |none=>rw[hi] at hr;cases hr
  |some q=>
   cases q with
   |none=>rw[hi] at hr;cases hr
   |some p=>
    obtain⟨e,b⟩:=p;rw[hi] at hr;have hd:e=d:=iq hr;subst hd
    cases b with
    |false=>
     obtain⟨w,h3,h4⟩:=B.er.val i e hi;rw[hs] at h3;cases h3;exact .inl (Rep.mono (fun _ _ e _=>e) (fun b _ z=>z.elim Or.inl fun z=>Or.inr (B.tt b z)) h4)
    |true=>
     obtain⟨a,h3,h4⟩:=B.er.own i e hi;rw[hs] at h3;cases h3;exact .inr ⟨a,rfl,h4.mono (fun _ _ e _=>e) (fun b _ z=>z.elim Or.inl fun z=>Or.inr (B.tt b z)) fun _ e=>e⟩
theorem Ops.done(B:Ops K T σ δ H os vs δ' H' T')(k: ∀v H2,Post K T σ δ H z δ' v H2->Q v H2):Gen K H' (fun a=>OwnA σ δ' a\/T a) z Q:=by
 obtain⟨d,b⟩:=z;have dom: ∀{H2:Hp},(∀a o,H' a=some o->H2 a=some o)-> ∀a,T a->Ow (H2 a):=fun {H2} hx a z=>(B.er.dom a (B.tt a z)).up (hx a)
 cases b with
 |false=>
  intro w H2 hx r;exact k w H2 ⟨B.keep.trans (.ext hx),B.er.mono (fun b o e _=>hx b o e) (fun b _ z=>B.tt b z) (dom hx),r⟩
 |true=>
  intro p H2 hp hx ok
  have hp0:H p=none:=by
   cases hH:H p with
   |none=>rfl
   |some ob=>exact absurd hp (B.keep.dm p (by rw[hH];simp))
  refine k (.ref p) H2 ⟨B.keep.trans (.ext hx),p,rfl,hp0,B.er.mono (fun b o e _=>hx b o e) (fun b hb z=>z.elim (B.tt b) fun z=>absurd (z▸hp) hb) (fun a z=>?_),ok.mono (fun _ _ e _=>e) (fun b _ z=>?_) fun _ e=>e⟩
  ·rcases z with z|z
   ·exact dom hx a z
   ·subst z;exact ok.ow
  ·rcases z with z|z|z
   ·exact Or.inl (Or.inl z)
   ·exact Or.inl (Or.inr z)
   ·exact Or.inr z
theorem Gen.int(g:Gen K H O (.int i,false) Q):Q (.int i) H:=g _ H (fun _ _ e=>e) Rep.mkInt
theorem Gen.bl(g:Gen K H O (.bl i,false) Q):Q (.bl i) H:=g _ H (fun _ _ e=>e) Rep.mkBl
theorem jY{H:Hp}{p:fR}{o:HO}(hp:H p=none): ∀a u,H a=some u->upd H p o a=some u:=fun a u e=>by rw[gG (by intro z;subst z;rw[e] at hp;cases hp)];exact e
theorem Gen.lst{O:AP'}{l:List D}{xs:List V}{p:fR}(g:Gen K H O (.lst l,true) Q)(hp:H p=none)(r:RepL K H O l xs):Q (.ref p) (upd H p (.lst xs)):=
 g p _ hp (jY hp) ⟨xs,gF,RepL.mono (fun b o e _=>jY hp b o e) (fun b hb z=>z.elim id fun z=>absurd (z▸hp) hb) r⟩
theorem Gen.tup(g:Gen K H O (.tup l,false) Q)(hp:H p=none)(np: ¬O p)(r:RepL K H O l xs):Q (.ref p) (upd H p (.tup xs)):=
 g _ _ (jY hp) (Rep.mkTup ⟨gF,np⟩ (RepL.mono (fun b o e _=>jY hp b o e) (fun b hb z=>z) r))
theorem Ops.np(B:Ops K T σ δ H os vs δ' H' T')(hp: ¬Ow (H' p)): ¬(OwnA σ δ' p\/T p):=fun z=>hp (z.elim (fun z=>B.er.ownOw z) fun z=>B.er.dom p (B.tt p z))
end
noncomputable def kh(g:D->Option (D×Bool))(fa:FO):F:=fun δ=>(fa δ).bind fun p=>(res p.2 p.1).bind fun x=>(g x).bind fun z=>some (z,p.2)
noncomputable def fZ(g:D->D->Option (D×Bool))(fa fb:FO):F:=fun δ=>(fa δ).bind fun p=>(fb p.2).bind fun q=>(res q.2 p.1).bind fun x=>(res q.2 q.1).bind fun y=>(g x y).bind fun z=>some (z,q.2)
noncomputable def iV:List FO->Dn->Option (List Opd×Dn)
 |[],δ=>some ([],δ)
 |f::fs,δ=>(f δ).bind fun p=>(iV fs p.2).bind fun q=>some (p.1::q.1,q.2)
noncomputable def pV(δ:Dn):List Opd->Option (List D)
 |[]=>some []
 |o::os=>(res δ o).bind fun d=>(pV δ os).bind fun l=>some (d::l)
noncomputable def gn(g:List D->Option (D×Bool))(fs:List FO):F:=fun δ=>(iV fs δ).bind fun p=>(pV p.2 p.1).bind fun ds=>(g ds).bind fun z=>some (z,p.2)
def tA(K:gq)(fs:List FO):TA:=fun σ H Q=> ∃δ T os δ',ER K H T σ δ/\iV fs δ=some (os,δ')/\ ∀vs H' T',Ops K T σ δ H os vs δ' H' T'->Q vs H'
section
variable {X:Cx}{e a b:gf}{es:iL}{fa fb:FO}{fs:List FO}{pos:Pos}
theorem fN{α β:Type}{x:Option α}{f:α->Option β}{b:β}(h:x.bind f=some b): ∃a,x=some a/\f a=some b:=by
 cases x with
 |none=>cases h
 |some a=>exact⟨a,rfl,h⟩
def UY(K:gq)(r:V->Hp->VK->Prop)(g:D->Option (D×Bool)):Prop:=
 ∀x z v H (O:AP') (Q:VK),(∀p,¬Ow (H p)-> ¬O p)->ja K H O x v->g x=some z->Gen K H O z Q->r v H Q
def RA(K:gq)(r:R2)(g:D->D->Option (D×Bool)):Prop:=
 ∀x y z v u H (O:AP') (Q:VK),(∀p,¬Ow (H p)-> ¬O p)->ja K H O x v->ja K H O y u->g x y=some z->Gen K H O z Q->r v u H Q
def UX(K:gq)(r:List V->Hp->VK->Prop)(g:List D->Option (D×Bool)):Prop:=
 ∀ds z vs H (O:AP') (Q:VK),(∀p,¬Ow (H p)-> ¬O p)->ds.length=vs.length->(∀(j:Nat) d v,ds[j]?=some d->vs[j]?=some v->ja K H O d v)->g ds=some z->Gen K H O z Q->r vs H Q
theorem PC{r:V->Hp->VK->Prop}{g:D->Option (D×Bool)}(h:PE X e (tUn r (tO X.K fa)))(hr:UY X.K r g):PX X e (kh g fa):=PX.imp h fun σ H Q hw=>by
 obtain⟨δ,T,rr,δ',E,e,k⟩:=hw;obtain⟨⟨o,δ1⟩,h1,e⟩:=fN e;obtain⟨x,h2,e⟩:=fN e;obtain⟨z,h3,e⟩:=fN e;obtain⟨rfl,rfl⟩:=gp e;refine⟨δ,T,o,δ1,E,h1,fun v H1 P1=>?_⟩;have B:=Ops.cons E P1 (Ops.nil (P1.er E));exact hr x z v H1 _ Q (fun p hp=>B.np hp) (B.view (j:=0) rfl rfl h2) h3 (B.done k)
theorem Pz{r:R2}{g:D->D->Option (D×Bool)}(h:PE X e (tOp r (tO X.K fa) (tO X.K fb)))(hr:RA X.K r g):PX X e (fZ g fa fb):=PX.imp h fun σ H Q hw=>by
 obtain⟨δ,T,rr,δ',E,e,k⟩:=hw;obtain⟨⟨o,δ1⟩,h1,e⟩:=fN e;obtain⟨⟨o2,δ2⟩,h2,e⟩:=fN e;obtain⟨x,h3,e⟩:=fN e;obtain⟨y,h4,e⟩:=fN e;obtain⟨z,h5,e⟩:=fN e;obtain⟨rfl,rfl⟩:=gp e;refine⟨δ,T,o,δ1,E,h1,fun v H1 P1=>⟨δ1,zB T o v,o2,δ2,P1.er E,h2,fun u H2 P2=>?_⟩⟩;have B:=Ops.cons E P1 (Ops.cons (P1.er E) P2 (Ops.nil (P2.er (P1.er E))));exact hr x y z v u H2 _ Q (fun p hp=>B.np hp) (B.view (j:=0) rfl rfl h3) (B.view (j:=1) rfl rfl h4) h5 (B.done k)
theorem wK:PA X [] (tA X.K []):=fun pos pins s σ H Q I h=>by
 obtain⟨δ,T,os,δ',E,e,k⟩:=h;obtain⟨rfl,rfl⟩:=gp e;exact rY pos pins s σ H Q I (k [] H T (Ops.nil E))
theorem pX(ha:PO X e fa)(hr:PA X es (tA X.K fs))(hs:starEach (e::es) X.env=(false,eval e X.env)::starEach es X.env):PA X (e::es) (tA X.K (fa::fs)):=fun pos pins s σ H Q I h=>by
 obtain⟨δ,T,os,δ',E,e,k⟩:=h;unfold iV at e;obtain⟨⟨o,δ1⟩,h1,e⟩:=fN e;obtain⟨⟨os2,δ2⟩,h2,e⟩:=fN e;obtain⟨rfl,rfl⟩:=gp e;exact nB ha hr hs pos pins s σ H Q I ⟨δ,T,o,δ1,E,h1,fun v H1 P1=>⟨δ1,zB T o v,os2,δ2,P1.er E,h2,fun vs H2 T2 B=>k _ H2 T2 (Ops.cons E P1 B)⟩⟩
theorem lO{δ:Dn}: ∀{os:List Opd} {ds:List D},pV δ os=some ds->ds.length=os.length/\ ∀(j:Nat) d,ds[j]?=some d-> ∃o,os[j]?=some o/\res δ o=some d
 |[],ds,h=>by cases h;exact⟨rfl,fun j d h=>by simp at h⟩
 |o::os,ds,h=>by
  unfold pV at h;obtain⟨d,h1,h⟩:=fN h;obtain⟨l,h2,h⟩:=fN h;cases h;obtain⟨h3,h4⟩:=lO h2;refine⟨by simp[h3],fun j e he=>?_⟩
  cases j with
  |zero=>simp at he;subst he;exact⟨o,rfl,h1⟩
  |succ j=>
   obtain⟨o',q1,q2⟩:=h4 j e (by simpa using he);exact⟨o',by simpa using q1,q2⟩
theorem MR{r:List V->Hp->VK->Prop}{g:List D->Option (D×Bool)}(h:PE X e (tCB r (tA X.K fs)))(hr:UX X.K r g):PX X e (gn g fs):=PX.imp h fun σ H Q hw=>by
 obtain⟨δ,T,rr,δ',E,e,k⟩:=hw;obtain⟨⟨os,δ1⟩,h1,e⟩:=fN e;obtain⟨ds,h2,e⟩:=fN e;obtain⟨z,h3,e⟩:=fN e;obtain⟨rfl,rfl⟩:=gp e;obtain⟨h4,h5⟩:=lO h2;refine⟨δ,T,os,δ1,E,h1,fun vs H1 T1 B=>?_⟩;refine hr ds z vs H1 _ Q (fun p hp=>B.np hp) (h4.trans B.len) (fun j d v hd hv=>?_) h3 (B.done k);obtain⟨o,ho,bZ⟩:=h5 j d hd;exact B.view ho hv bZ
end
open PySem.SeqAt
mutual
/-- ==of data -/
noncomputable def D.eqb:D->D->Bool
 | .non,.non=>true
 | .bl a,.bl b=>a==b
 | .bl a,.int b=>(if a then 1 else 0)==b
 | .int a,.bl b=>a==(if b then 1 else 0)
 | .int a,.int b=>a==b
 | .str a,.str b=>a==b
 | .tup l,.tup m=>D.eqbL l m
 | .lst l,.lst m=>D.eqbL l m
 | .oth _ _ _,.oth _ _ _=>true
 |_,_=>false
noncomputable def D.eqbL:List D->List D->Bool
 |[],[]=>true
 |a::l,b::m=>D.eqb a b&&D.eqbL l m
 |_,_=>false
end
mutual
noncomputable def D.dep:D->Nat
 | .tup l=>D.depL l+1
 | .lst l=>D.depL l+1
 | .oth _ _ _=>20000
 |_=>0
noncomputable def D.depL:List D->Nat
 |[]=>0
 |d::l=>max (D.dep d) (D.depL l)
end
mutual
theorem D.eqb_refl: ∀d:D,D.eqb d d=true
 | .non=>rfl
 | .bl a=>by simp[D.eqb]
 | .int a=>by simp[D.eqb]
 | .str a=>by simp[D.eqb]
 | .tup l=>by rw[D.eqb];exact D.eqbL_refl l
 | .lst l=>by rw[D.eqb];exact D.eqbL_refl l
 | .oth _ _ _=>by rw[D.eqb]
theorem D.eqbL_refl: ∀l:List D,D.eqbL l l=true
 |[]=>rfl
 |d::l=>by rw[D.eqbL,D.eqb_refl d,D.eqbL_refl l];rfl
end
theorem D.dep_mem{d:D}: ∀{l:List D} {j:Nat},l[j]?=some d->d.dep<=D.depL l
 |[],j,h=>by simp at h
 |e::l,0,h=>by simp at h;subst h;rw[D.depL];exact Nat.le_max_left _ _
 |e::l,j+1,h=>by rw[D.depL];exact mO (D.dep_mem (by simpa using h)) (Nat.le_max_right _ _)
noncomputable def qj(l m:List D)(j:Nat):Bool:=match l[j]?,m[j]? with
 |some d,some e=>D.eqb d e
 |_,_=>true
theorem lx: ∀l m:List D,((List.range (min l.length m.length)).all (qj l m)&&l.length==m.length)=D.eqbL l m
 |[],[]=>rfl
 |[],e::m=>by simp[D.eqbL]
 |d::l,[]=>by simp[D.eqbL]
 |d::l,e::m=>by
  rw[D.eqbL,<-lx l m];simp only[km,Nat.succ_min_succ,List.range_succ_eq_map,List.all_cons,List.all_map,vM];have h0:qj (d::l) (e::m) 0=D.eqb d e:=rfl;have h1:(fun x=>qj (d::l) (e::m) (Nat.succ x))=qj l m:=by funext x;simp[qj]
  rw[h0];simp only[h1,Bool.and_assoc]
  congr 2
  simp
section
variable {X:Cx}{pins:gE}{σ:L2.St}{H:Hp}{s:fW}
theorem lM(h:ja X.K H O (.tup l) v): ∃a xs,v= .ref a/\SqT X.K H a xs/\RepL X.K H O l xs:=by
 rcases h with h|⟨a,rfl,h⟩
 ·obtain⟨a,xs,e,q,r⟩:=h.tup;exact⟨a,xs,e,q.sq,r⟩
 ·exact h.elim
theorem jw(h:ja X.K H O (.lst l) v): ∃a xs,v= .ref a/\SqL X.K H a xs/\RepL X.K H O l xs:=by
 rcases h with h|⟨a,rfl,h⟩
 ·obtain⟨a,xs,e,q,r⟩:=h.lst;exact⟨a,xs,e,q.sq,r⟩
 ·obtain⟨xs,e,r⟩:=h;exact⟨a,xs,rfl,.inl (.inl e),r⟩
theorem RepL.views{O:AP'}{l:List D}{xs:List V}(r:RepL X.K H O l xs){j:Nat}{d:D}{v:V}(h1:l[j]?=some d)(h2:xs[j]?=some v):Rep X.K H O d v:=by
 obtain⟨w,h3,h4⟩:=r.get h1;rw[h2] at h3;cases h3;exact h4
theorem KY(I:Inv X pins σ H s)(h:OthB (H a) k ks vs us): ∃o,s.heap.get? a=some o/\(o.cls= .type "dict"\/o.cls= .type "set"):=by
 cases k with
 |dct=>
  rcases h with⟨kvs,e,_⟩|⟨kvs,e,_⟩
  ·obtain⟨_,_,vs,_,o,es,ep,h1,h2,_⟩:=(show ObjOk X.prog X.w H s.heap a (.dK kvs) from I.hok a _ e)
   exact⟨o,h1,.inl h2.1⟩
  ·obtain⟨_,_,xs,_,o,es,ep,h1,h2,_⟩:=(show ObjOk X.prog X.w H s.heap a (.dT kvs) from I.hok a _ e)
   exact⟨o,h1,.inl h2.1⟩
 |set=>
  obtain⟨_,zs,e,_⟩:=h;obtain⟨es,n,t,h1,_⟩:=(show ObjOk X.prog X.w H s.heap a (.stt zs) from I.hok a _ e)
  exact⟨_,h1,.inr rfl⟩
 |_=>exact h.elim
theorem Cy(I:Inv X pins σ H s)(h1:SqT X.K H a xs)(h2:SqL X.K H a ys):False:=by
 obtain⟨its,_,⟨o,e,c,_⟩,_⟩:=I.tuple h1;obtain⟨b9,_,⟨o2,n2,e2,c2,_⟩,_⟩:=I.list h2;rw[e] at e2;cases e2;rw[c] at c2;exact absurd c2 (by simp)
theorem Nn(I:Inv X pins σ H s)(h1:SqT X.K H a xs)(h2:OthB (H a) k ks vs us):False:=by
 obtain⟨its,_,⟨o,e,c,_⟩,_⟩:=I.tuple h1;obtain⟨o2,e2,c2⟩:=KY I h2;rw[e] at e2;cases e2;rw[c] at c2;rcases c2 with c2|c2<;>exact absurd c2 (by simp)
theorem Np(I:Inv X pins σ H s)(h1:SqL X.K H a xs)(h2:OthB (H a) k ks vs us):False:=by
 obtain⟨its,_,⟨o,n,e,c,_⟩,_⟩:=I.list h1;obtain⟨o2,e2,c2⟩:=KY I h2;rw[e] at e2;cases e2;rw[c] at c2;rcases c2 with c2|c2<;>exact absurd c2 (by simp)
mutual
theorem Rep.inj(I:Inv X pins σ H s): ∀{d e:D} {v:V},d.dep<20000->Rep X.K H O d v->Rep X.K H O' e v->d=e
 | .non,e,v,hz,h,h'=>by
  have:=h.non;subst this
  cases e with
  |non=>rfl
  |bl b=>have:=h'.bl;cases this
  |int b=>have:=h'.int;cases this
  |str b=>have:=h'.str;cases this
  |tup m=>obtain⟨a,xs,z,_⟩:=h'.tup;cases z
  |lst m=>obtain⟨a,xs,z,_⟩:=h'.lst;cases z
  |oth m m1 m2=>obtain⟨a,xs,z,_⟩:=h'.oth;cases z
 | .bl b,e,v,hz,h,h'=>by
  have:=h.bl;subst this
  cases e with
  |non=>have:=h'.non;cases this
  |bl b=>have:=h'.bl;cases this;rfl
  |int b=>have:=h'.int;cases this
  |str b=>have:=h'.str;cases this
  |tup m=>obtain⟨a,xs,z,_⟩:=h'.tup;cases z
  |lst m=>obtain⟨a,xs,z,_⟩:=h'.lst;cases z
  |oth m m1 m2=>obtain⟨a,xs,z,_⟩:=h'.oth;cases z
 | .int b,e,v,hz,h,h'=>by
  have:=h.int;subst this
  cases e with
  |non=>have:=h'.non;cases this
  |bl b=>have:=h'.bl;cases this
  |int b=>have:=h'.int;cases this;rfl
  |str b=>have:=h'.str;cases this
  |tup m=>obtain⟨a,xs,z,_⟩:=h'.tup;cases z
  |lst m=>obtain⟨a,xs,z,_⟩:=h'.lst;cases z
  |oth m m1 m2=>obtain⟨a,xs,z,_⟩:=h'.oth;cases z
 | .str b,e,v,hz,h,h'=>by
  have:=h.str;subst this
  cases e with
  |non=>have:=h'.non;cases this
  |bl b=>have:=h'.bl;cases this
  |int b=>have:=h'.int;cases this
  |str b=>have:=h'.str;cases this;rfl
  |tup m=>obtain⟨a,xs,z,_⟩:=h'.tup;cases z
  |lst m=>obtain⟨a,xs,z,_⟩:=h'.lst;cases z
  |oth m m1 m2=>obtain⟨a,xs,z,_⟩:=h'.oth;cases z
 | .tup l,e,v,hz,h,h'=>by
  rw[D.dep] at hz;obtain⟨a,xs,rfl,q,r⟩:=h.tup
  cases e with
  |non=>have:=h'.non;cases this
  |bl b=>have:=h'.bl;cases this
  |int b=>have:=h'.int;cases this
  |str b=>have:=h'.str;cases this
  |tup m=>
   obtain⟨a2,dO,z,q2,r2⟩:=h'.tup;cases z;have:=I.tuple_inj q.sq q2.sq;subst this;rw[RepL.inj I (by omega) r r2]
  |lst m=>
   obtain⟨a2,dO,z,q2,r2⟩:=h'.lst;cases z;exact(Cy I q.sq q2.sq).elim
  |oth m m1 m2=>
   obtain⟨a2,us2,z,q2,r2⟩:=h'.oth;cases z;exact(Nn I q.sq q2.2).elim
 | .lst l,e,v,hz,h,h'=>by
  rw[D.dep] at hz;obtain⟨a,xs,rfl,q,r⟩:=h.lst
  cases e with
  |non=>have:=h'.non;cases this
  |bl b=>have:=h'.bl;cases this
  |int b=>have:=h'.int;cases this
  |str b=>have:=h'.str;cases this
  |tup m=>
   obtain⟨a2,dO,z,q2,r2⟩:=h'.tup;cases z;exact(Cy I q2.sq q.sq).elim
  |lst m=>
   obtain⟨a2,dO,z,q2,r2⟩:=h'.lst;cases z;have:=I.list_inj q.sq q2.sq;subst this;rw[RepL.inj I (by omega) r r2]
  |oth m m1 m2=>
   obtain⟨a2,us2,z,q2,r2⟩:=h'.oth;cases z;exact(Np I q.sq q2.2).elim
 | .oth _ _ _,e,v,hz,h,h'=>by rw[D.dep] at hz;omega
theorem RepL.inj(I:Inv X pins σ H s){O O':AP'}: ∀{l m:List D} {vs:List V},D.depL l<20000->RepL X.K H O l vs->RepL X.K H O' m vs->l=m
 |[],m,vs,_,h,h'=>by
  rw[RepL] at h;subst h
  cases m with
  |nil=>rfl
  |cons e m=>rw[RepL] at h';obtain⟨_,_,z,_⟩:=h';cases z
 |d::l,m,vs,hz,h,h'=>by
  rw[D.depL] at hz;rw[RepL] at h;obtain⟨v,r,rfl,h1,h2⟩:=h
  cases m with
  |nil=>rw[RepL] at h';cases h'
  |cons e m=>
   rw[RepL] at h';obtain⟨v',r',z,h3,h4⟩:=h';cases z;rw[Rep.inj I (by omega) h1 h3,RepL.inj I (by omega) h2 h4]
end
theorem uf(h:ja X.K H O d v)(hd:d.dep=0)(nt: ∀l,d≠ .tup l)(nl: ∀l,d≠ .lst l):Rep X.K H O d v:=by
 rcases h with h|⟨a,rfl,h⟩
 ·exact h
 ·cases d with
  |lst l=>exact absurd rfl (nl l)
  |oth _ _ _=>rw[D.dep] at hd;omega
  |_=>exact h.elim
inductive Sh(X:Cx)(H:Hp)(s:fW)(O:AP'):D->V->Value->Prop
 |non:Sh X H s O .non .non .none
 |bl (b:Bool):Sh X H s O (.bl b) (.bl b) (.bool b)
 |int (i:Int) (t:Tok):Sh X H s O (.int i) (.int i) (.int i t)
 |str (x:Str) (t:Tok):Sh X H s O (.str x) (.str x) (.str x t)
 |tup {l:List D} {p:fR} {xs:List V} {its:hV} (q:SqT X.K H p xs) (r:RepL X.K H O l xs) (v:Vals xs its) (pl:IsTup s.heap p its.toArray):Sh X H s O (.tup l) (.ref p) (.ref p)
 |lst {l:List D} {p:fR} {xs:List V} {its:hV} (q:SqL X.K H p xs) (r:RepL X.K H O l xs) (v:Vals xs its) (pl:s.heap.IsList p its.toArray):Sh X H s O (.lst l) (.ref p) (.ref p)
theorem qu(I:Inv X pins σ H s)(h:ja X.K H O d v)(ra:RelV v a)(hn:d.dep<20000):Sh X H s O d v a:=by
 cases d with
 |oth m m1 m2=>rw[D.dep] at hn;omega
 |tup l=>obtain⟨p,xs,rfl,q,r⟩:=lM h;cases ra;obtain⟨its,v1,pl,_⟩:=I.tuple q;exact .tup q r v1 pl
 |lst l=>obtain⟨p,xs,rfl,q,r⟩:=jw h;cases ra;obtain⟨its,v1,pl,_⟩:=I.list q;exact .lst q r v1 pl.isList
 |non=>have:=(uf h rfl (by simp) (by simp)).non;subst this;cases ra;exact .non
 |bl c=>have:=(uf h rfl (by simp) (by simp)).bl;subst this;cases ra;exact .bl c
 |int c=>have:=(uf h rfl (by simp) (by simp)).int;subst this;obtain⟨t,rfl⟩:=ra;exact .int c t
 |str c=>have:=(uf h rfl (by simp) (by simp)).str;subst this;obtain⟨t,rfl⟩:=ra;exact .str c t
theorem Am(I:Inv X pins σ H s)(n:Nat)
  (ih: ∀(d e:D) (v u:V) (a b:gg) (O O':AP') (A:gw),ja X.K H O d v->ja X.K H O' e u->RelV v a->RelV u b->d.dep+1<=n->e.dep<20000->A.units+n<cLine+1->EqAt A s a b (D.eqb d e)):
  ∀(d e:D) (v u:V) (a b:gg) (O O':AP') (A:gw),ja X.K H O d v->ja X.K H O' e u->RelV v a->RelV u b->d.dep<=n->e.dep<20000->A.units+n<cLine->EqAt A s a b (D.eqb d e):=by
 intro d e v u a b O O' A hd he ra rb hn t5 hA;have hu:A.units<cLine:=by omega
 have o6:cLine=9900:=rfl
 have items: ∀(l m:List D) (xs ys:List V) (its b9:hV) (O1 O2:AP'),D.depL l+1<=n->D.depL m<20000->RepL X.K H O1 l xs->RepL X.K H O2 m ys->Vals xs its->Vals ys b9->
   ∀j (h1:j<its.toArray.size) (h2:j<b9.toArray.size),EqAt A.in1 s its.toArray[j] b9.toArray[j] (qj l m j):=fun l m xs ys its b9 O1 O2 hl hm r1 r2 v1 v2 j h1 h2=>by
  have e1:=v1.length;have e2:=v2.length;have e3:=r1.length;have e4:=r2.length;simp only[iH] at h1 h2;have hx:xs[j]?=some xs[j]:=hX (by omega);have hy:ys[j]?=some ys[j]:=hX (by omega);have aG:l[j]?=some l[j]:=hX (by omega);have ak:m[j]?=some m[j]:=hX (by omega);obtain⟨w,w1,w2⟩:=v1.get hx;obtain⟨w',w3,w4⟩:=v2.get hy
  have i1:its.toArray[j]=w:=by
   have:its[j]?=some its[j]:=hX (by omega);rw[this] at w1;simpa using w1
  have i2:b9.toArray[j]=w':=by
   have:b9[j]?=some b9[j]:=hX (by omega);rw[this] at w3;simpa using w3
  rw[i1,i2];have hj:qj l m j=D.eqb l[j] m[j]:=by unfold qj;rw[aG,ak]
  rw[hj];have ai:=D.dep_mem aG;have hdep2:=D.dep_mem ak;exact ih _ _ _ _ _ _ O1 O2 A.in1 (.inl (r1.views aG hx)) (.inl (r2.views ak hy)) w2 w4 (by omega) (by omega) (by show A.units+1+n<cLine+1;omega)
 have h1:=qu I hd ra (by omega);have h2:=qu I he rb t5
 cases h1 with
 |non=>
  cases h2 with
  |non=>exact ki ra rb rfl rfl
  |bl c2=>exact ki ra rb rfl rfl
  |int c2 t2=>exact ki ra rb rfl rfl
  |str c2 t2=>exact ki ra rb rfl rfl
  |tup q2 r2 v2 f6=>exact EqAt.none_tuple f6 hu
  |lst q2 r2 v2 f6=>exact EqAt.none_list f6 hu
 |bl c1=>
  cases h2 with
  |non=>exact ki ra rb rfl rfl
  |bl c2=>exact ki ra rb rfl rfl
  |int c2 t2=>exact ki ra rb rfl rfl
  |str c2 t2=>exact ki ra rb rfl rfl
  |tup q2 r2 v2 f6=>exact EqAt.bool_tuple c1 f6 hu
  |lst q2 r2 v2 f6=>exact EqAt.bool_list c1 f6 hu
 |int c1 t1=>
  cases h2 with
  |non=>exact ki ra rb rfl rfl
  |bl c2=>exact ki ra rb rfl rfl
  |int c2 t2=>exact ki ra rb rfl rfl
  |str c2 t2=>exact ki ra rb rfl rfl
  |tup q2 r2 v2 f6=>exact EqAt.int_tuple c1 t1 f6 hu
  |lst q2 r2 v2 f6=>exact EqAt.int_list c1 t1 f6 hu
 |str c1 t1=>
  cases h2 with
  |non=>exact ki ra rb rfl rfl
  |bl c2=>exact ki ra rb rfl rfl
  |int c2 t2=>exact ki ra rb rfl rfl
  |str c2 t2=>exact ki ra rb rfl rfl
  |tup q2 r2 v2 f6=>exact EqAt.str_tuple c1 t1 f6 hu
  |lst q2 r2 v2 f6=>exact EqAt.str_list c1 t1 f6 hu
 | @tup l p xs its q r v1 pl=>
  cases h2 with
  |non=>exact EqAt.tuple_none pl hu
  |bl c2=>exact EqAt.tuple_bool c2 pl hu
  |int c2 t2=>exact EqAt.tuple_int c2 t2 pl hu
  |str c2 t2=>exact EqAt.tuple_str c2 t2 pl hu
  | @tup m p2 ys b9 q2 r2 v2 f6=>
   by_cases hp:p=p2
   ·subst hp;have:=I.tuple_inj q q2;subst this;rw[RepL.inj I (by rw[D.dep] at hn;omega) r r2,D.eqb_refl];exact EqAt.same _
   ·refine .of_refs hp ?_;have hl:D.depL l+1<=n:=by rw[D.dep] at hn;exact hn
    have hm:D.depL m<20000:=by rw[D.dep] at t5;omega
    have z:=RcAt.tuples pl f6 hu (items l m xs ys its b9 _ _ hl hm r r2 v1 v2);have e1:=v1.length;have e2:=v2.length;have e3:=r.length;have e4:=r2.length;simp only[iH] at z;rw[show its.length=l.length by omega,show b9.length=m.length by omega,lx] at z;rw[D.eqb];exact z
  |lst q2 r2 v2 f6=>exact EqAt.tuple_list pl f6 hu
 | @lst l p xs its q r v1 pl=>
  cases h2 with
  |non=>exact EqAt.list_none pl hu
  |bl c2=>exact EqAt.list_bool c2 pl hu
  |int c2 t2=>exact EqAt.list_int c2 t2 pl hu
  |str c2 t2=>exact EqAt.list_str c2 t2 pl hu
  |tup q2 r2 v2 f6=>exact EqAt.list_tuple pl f6 hu
  | @lst m p2 ys b9 q2 r2 v2 f6=>
   by_cases hp:p=p2
   ·subst hp;have:=I.list_inj q q2;subst this;rw[RepL.inj I (by rw[D.dep] at hn;omega) r r2,D.eqb_refl];exact EqAt.same _
   ·refine .of_refs hp ?_;have hl:D.depL l+1<=n:=by rw[D.dep] at hn;exact hn
    have hm:D.depL m<20000:=by rw[D.dep] at t5;omega
    have e1:=v1.length;have e2:=v2.length;have e3:=r.length;have e4:=r2.length;have al:=lx l m;by_cases hlen:l.length=m.length
    ·have z:=RcAt.lists pl f6 (by simp only[iH];omega) hu (items l m xs ys its b9 _ _ hl hm r r2 v1 v2);simp only[iH] at z;rw[show its.length=min l.length m.length by omega] at z;rw[D.eqb,<-al,hlen];rw[hlen] at z;simpa using z
    ·have z:=RcAt.lists_lengths pl f6 (by simp only[iH,bne_iff_ne,ne_eq];omega) hu;rw[D.eqb,<-al];rw[show(l.length==m.length)=false by simpa using hlen];simpa using z
theorem Fn(I:Inv X pins σ H s): ∀(n:Nat) (d e:D) (v u:V) (a b:gg) (O O':AP') (A:gw),ja X.K H O d v->ja X.K H O' e u->RelV v a->RelV u b->d.dep<=n->e.dep<20000->A.units+n<cLine->EqAt A s a b (D.eqb d e):=by
 intro n
 induction n with
 |zero=>
  intro d e v u a b O O' A hd he ra rb hn t5 hA;exact Am I 0 (fun d e v u a b O O' A hd he ra rb hn t5 hA=>absurd hn (by omega)) d e v u a b O O' A hd he ra rb hn t5 hA
 |succ n ih=>
  intro d e v u a b O O' A hd he ra rb hn t5 hA;exact Am I (n+1) (fun d e v u a b O O' A hd he ra rb hn t5 hA=>ih d e v u a b O O' A hd he ra rb (by omega) t5 (by omega)) d e v u a b O O' A hd he ra rb hn t5 hA
end
section
variable {X:Cx}{pins:gE}{σ:L2.St}{H:Hp}{s:fW}
theorem Dq(I:Inv X pins σ H s){A:gw}{n:Nat}(hA:A.units+n<cLine): ∀(l m:List D) (xs ys:List V) (its b9:hV) (O1 O2:AP'),D.depL l+1<=n->D.depL m<20000->RepL X.K H O1 l xs->RepL X.K H O2 m ys->Vals xs its->Vals ys b9->
   ∀j (h1:j<its.toArray.size) (h2:j<b9.toArray.size),EqAt A.in1 s its.toArray[j] b9.toArray[j] (qj l m j):=fun l m xs ys its b9 O1 O2 hl hm r1 r2 v1 v2 j h1 h2=>by
 have e1:=v1.length;have e2:=v2.length;have e3:=r1.length;have e4:=r2.length;simp only[iH] at h1 h2;have hx:xs[j]?=some xs[j]:=hX (by omega);have hy:ys[j]?=some ys[j]:=hX (by omega);have aG:l[j]?=some l[j]:=hX (by omega);have ak:m[j]?=some m[j]:=hX (by omega);obtain⟨w,w1,w2⟩:=v1.get hx;obtain⟨w',w3,w4⟩:=v2.get hy
 have i1:its.toArray[j]=w:=by
  have:its[j]?=some its[j]:=hX (by omega);rw[this] at w1;simpa using w1
 have i2:b9.toArray[j]=w':=by
  have:b9[j]?=some b9[j]:=hX (by omega);rw[this] at w3;simpa using w3
 rw[i1,i2];have hj:qj l m j=D.eqb l[j] m[j]:=by unfold qj;rw[aG,ak]
 rw[hj];have ai:=D.dep_mem aG;have hdep2:=D.dep_mem ak;exact Fn I (n-1) _ _ _ _ _ _ O1 O2 A.in1 (.inl (r1.views aG hx)) (.inl (r2.views ak hy)) w2 w4 (by omega) (by omega) (by show A.units+1+(n-1)<cLine;omega)
theorem Pl(I:Inv X pins σ H s)(hd:ja X.K H O d v)(he:ja X.K H O' e u)(ra:RelV v a)(rb:RelV u b)(hn:d.dep<=n)(t5:e.dep<20000)(hA:A.units+n<cLine):RcAt A s a b (D.eqb d e):=by
 have hu:A.units<cLine:=by omega
 have items:=Dq I hA;have o6:cLine=9900:=rfl;have h1:=qu I hd ra (by omega);have h2:=qu I he rb t5
 cases h1 with
 |non=>
  cases h2 with
  |non=>exact RcAt.none_none
  |bl c2=>exact RcAt.none_bool c2
  |int c2 t2=>exact RcAt.none_int c2 t2
  |str c2 t2=>exact RcAt.none_str c2 t2
  |tup q2 r2 v2 f6=>exact RcAt.none_tuple f6 hu
  |lst q2 r2 v2 f6=>exact RcAt.none_list f6 hu
 |bl c1=>
  cases h2 with
  |non=>exact RcAt.bool_none c1
  |bl c2=>exact RcAt.bool_bool c1 c2
  |int c2 t2=>exact RcAt.bool_int c1 c2 t2
  |str c2 t2=>exact RcAt.bool_str c1 c2 t2
  |tup q2 r2 v2 f6=>exact RcAt.bool_tuple c1 f6 hu
  |lst q2 r2 v2 f6=>exact RcAt.bool_list c1 f6 hu
 |int c1 t1=>
  cases h2 with
  |non=>exact RcAt.int_none c1 t1
  |bl c2=>exact RcAt.int_bool c1 t1 c2
  |int c2 t2=>exact RcAt.int_int c1 t1 c2 t2
  |str c2 t2=>exact RcAt.int_str c1 t1 c2 t2
  |tup q2 r2 v2 f6=>exact RcAt.int_tuple c1 t1 f6 hu
  |lst q2 r2 v2 f6=>exact RcAt.int_list c1 t1 f6 hu
 |str c1 t1=>
  cases h2 with
  |non=>exact RcAt.str_none c1 t1
  |bl c2=>exact RcAt.str_bool c1 t1 c2
  |int c2 t2=>exact RcAt.str_int c1 t1 c2 t2
  |str c2 t2=>exact RcAt.str_str c1 t1 c2 t2
  |tup q2 r2 v2 f6=>exact RcAt.str_tuple c1 t1 f6 hu
  |lst q2 r2 v2 f6=>exact RcAt.str_list c1 t1 f6 hu
 | @tup l p xs its q r v1 pl=>
  cases h2 with
  |non=>exact RcAt.tuple_none pl hu
  |bl c2=>exact RcAt.tuple_bool c2 pl hu
  |int c2 t2=>exact RcAt.tuple_int c2 t2 pl hu
  |str c2 t2=>exact RcAt.tuple_str c2 t2 pl hu
  | @tup m p2 ys b9 q2 r2 v2 f6=>
   have hl:D.depL l+1<=n:=by rw[D.dep] at hn;exact hn
   have hm:D.depL m<20000:=by rw[D.dep] at t5;omega
   have e1:=v1.length;have e2:=v2.length;have e3:=r.length;have e4:=r2.length;have z:=RcAt.tuples pl f6 hu (items l m xs ys its b9 _ _ hl hm r r2 v1 v2);simp only[iH] at z;rw[show its.length=l.length by omega,show b9.length=m.length by omega,lx] at z;rw[D.eqb];exact z
  |lst q2 r2 v2 f6=>exact RcAt.tuple_list pl f6 hu
 | @lst l p xs its q r v1 pl=>
  cases h2 with
  |non=>exact RcAt.list_none pl hu
  |bl c2=>exact RcAt.list_bool c2 pl hu
  |int c2 t2=>exact RcAt.list_int c2 t2 pl hu
  |str c2 t2=>exact RcAt.list_str c2 t2 pl hu
  |tup q2 r2 v2 f6=>exact RcAt.list_tuple pl f6 hu
  | @lst m p2 ys b9 q2 r2 v2 f6=>
   have hl:D.depL l+1<=n:=by rw[D.dep] at hn;exact hn
   have hm:D.depL m<20000:=by rw[D.dep] at t5;omega
   have e1:=v1.length;have e2:=v2.length;have e3:=r.length;have e4:=r2.length;have al:=lx l m;by_cases hlen:l.length=m.length
   ·have z:=RcAt.lists pl f6 (by simp only[iH];omega) hu (items l m xs ys its b9 _ _ hl hm r r2 v1 v2);simp only[iH] at z;rw[show its.length=min l.length m.length by omega] at z;rw[D.eqb,<-al,hlen];rw[hlen] at z;simpa using z
   ·have z:=RcAt.lists_lengths pl f6 (by simp only[iH,bne_iff_ne,ne_eq];omega) hu;rw[D.eqb,<-al];rw[show(l.length==m.length)=false by simpa using hlen];simpa using z
theorem Kd(I:Inv X pins σ H s)(hd:ja X.K H O d v)(he:ja X.K H O' e u)(ra:RelV v a)(rb:RelV u b)(hn:d.dep<=n)(t5:e.dep<20000)(hA:A.units+n<cLine):RcNeAt A s a b (!D.eqb d e):=by
 have hu:A.units<cLine:=by omega
 have items:=Dq I hA;have o6:cLine=9900:=rfl;have h1:=qu I hd ra (by omega);have h2:=qu I he rb t5
 cases h1 with
 |non=>
  cases h2 with
  |non=>exact RcNeAt.none_none
  |bl c2=>exact RcNeAt.none_bool c2
  |int c2 t2=>exact RcNeAt.none_int c2 t2
  |str c2 t2=>exact RcNeAt.none_str c2 t2
  |tup q2 r2 v2 f6=>exact RcNeAt.none_tuple f6 hu
  |lst q2 r2 v2 f6=>exact RcNeAt.none_list f6 hu
 |bl c1=>
  cases h2 with
  |non=>exact RcNeAt.bool_none c1
  |bl c2=>exact RcNeAt.bool_bool c1 c2
  |int c2 t2=>exact RcNeAt.bool_int c1 c2 t2
  |str c2 t2=>exact RcNeAt.bool_str c1 c2 t2
  |tup q2 r2 v2 f6=>exact RcNeAt.bool_tuple c1 f6 hu
  |lst q2 r2 v2 f6=>exact RcNeAt.bool_list c1 f6 hu
 |int c1 t1=>
  cases h2 with
  |non=>exact RcNeAt.int_none c1 t1
  |bl c2=>exact RcNeAt.int_bool c1 t1 c2
  |int c2 t2=>exact RcNeAt.int_int c1 t1 c2 t2
  |str c2 t2=>exact RcNeAt.int_str c1 t1 c2 t2
  |tup q2 r2 v2 f6=>exact RcNeAt.int_tuple c1 t1 f6 hu
  |lst q2 r2 v2 f6=>exact RcNeAt.int_list c1 t1 f6 hu
 |str c1 t1=>
  cases h2 with
  |non=>exact RcNeAt.str_none c1 t1
  |bl c2=>exact RcNeAt.str_bool c1 t1 c2
  |int c2 t2=>exact RcNeAt.str_int c1 t1 c2 t2
  |str c2 t2=>exact RcNeAt.str_str c1 t1 c2 t2
  |tup q2 r2 v2 f6=>exact RcNeAt.str_tuple c1 t1 f6 hu
  |lst q2 r2 v2 f6=>exact RcNeAt.str_list c1 t1 f6 hu
 | @tup l p xs its q r v1 pl=>
  cases h2 with
  |non=>exact RcNeAt.tuple_none pl hu
  |bl c2=>exact RcNeAt.tuple_bool c2 pl hu
  |int c2 t2=>exact RcNeAt.tuple_int c2 t2 pl hu
  |str c2 t2=>exact RcNeAt.tuple_str c2 t2 pl hu
  | @tup m p2 ys b9 q2 r2 v2 f6=>
   have hl:D.depL l+1<=n:=by rw[D.dep] at hn;exact hn
   have hm:D.depL m<20000:=by rw[D.dep] at t5;omega
   have e1:=v1.length;have e2:=v2.length;have e3:=r.length;have e4:=r2.length;have z:=RcNeAt.tuples pl f6 hu (items l m xs ys its b9 _ _ hl hm r r2 v1 v2);simp only[iH] at z;rw[show its.length=l.length by omega,show b9.length=m.length by omega,lx] at z;rw[D.eqb];exact z
  |lst q2 r2 v2 f6=>exact RcNeAt.tuple_list pl f6 hu
 | @lst l p xs its q r v1 pl=>
  cases h2 with
  |non=>exact RcNeAt.list_none pl hu
  |bl c2=>exact RcNeAt.list_bool c2 pl hu
  |int c2 t2=>exact RcNeAt.list_int c2 t2 pl hu
  |str c2 t2=>exact RcNeAt.list_str c2 t2 pl hu
  |tup q2 r2 v2 f6=>exact RcNeAt.list_tuple pl f6 hu
  | @lst m p2 ys b9 q2 r2 v2 f6=>
   have hl:D.depL l+1<=n:=by rw[D.dep] at hn;exact hn
   have hm:D.depL m<20000:=by rw[D.dep] at t5;omega
   have e1:=v1.length;have e2:=v2.length;have e3:=r.length;have e4:=r2.length;have al:=lx l m;by_cases hlen:l.length=m.length
   ·have z:=RcNeAt.lists pl f6 (by simp only[iH];omega) hu (items l m xs ys its b9 _ _ hl hm r r2 v1 v2);simp only[iH] at z;rw[show its.length=min l.length m.length by omega] at z;rw[D.eqb,<-al,hlen];rw[hlen] at z;simpa using z
   ·have z:=RcNeAt.lists_lengths pl f6 (by simp only[iH,bne_iff_ne,ne_eq];omega) hu;rw[D.eqb,<-al];rw[show(l.length==m.length)=false by simpa using hlen];simpa using z
theorem Qx(hu:X.A.units+60<cLine):OpR X (compareOp .Eq) (fun x y H Q=> ∃O d e,ja X.K H O d x/\ja X.K H O e y/\(d.dep<=50/\e.dep<=50)/\Q (.bl (D.eqb d e)) H):=by
 intro pins s σ H x y v u Q I rx ry h;obtain⟨O,d,e,h1,h2,h3,q⟩:=h;exact Pl (A:=X.A) I h1 h2 rx ry h3.1 (by omega) (by omega) _ _ _ _ ⟨.bl _,H,I,rfl,q⟩
theorem Qu(hu:X.A.units+60<cLine):OpR X (compareOp .NotEq) (fun x y H Q=> ∃O d e,ja X.K H O d x/\ja X.K H O e y/\(d.dep<=50/\e.dep<=50)/\Q (.bl (!D.eqb d e)) H):=by
 intro pins s σ H x y v u Q I rx ry h;obtain⟨O,d,e,h1,h2,h3,q⟩:=h;exact Kd (A:=X.A) I h1 h2 rx ry h3.1 (by omega) (by omega) _ _ _ _ ⟨.bl _,H,I,rfl,q⟩
end
theorem gP{α:Type}{c:Prop}[Decidable c]{a b:α}(h:(if c then some a else none)=some b):c/\a=b:=by
 split at h
 ·rename_i hc;exact⟨hc,iq h⟩
 ·cases h
section
variable {X:Cx}{pins:gE}{σ:L2.St}{H:Hp}{s:fW}
end
def rD1(K:gq)(g:D->Option (D×Bool)):V->Hp->VK->Prop:=fun x H Q=> ∃(O:AP') (d:D) (z:D×Bool),(∀p,¬Ow (H p)-> ¬O p)/\ja K H O d x/\g d=some z/\Gen K H O z Q
def rD(K:gq)(g:D->D->Option (D×Bool)):R2:=fun x y H Q=> ∃(O:AP') (d e:D) (z:D×Bool),(∀p,¬Ow (H p)-> ¬O p)/\ja K H O d x/\ja K H O e y/\g d e=some z/\Gen K H O z Q
def rDn(K:gq)(g:List D->Option (D×Bool)):List V->Hp->VK->Prop:=fun vs H Q=> ∃(O:AP') (ds:List D) (z:D×Bool),(∀p,¬Ow (H p)-> ¬O p)/\ds.length=vs.length/\(∀(j:Nat) d v,ds[j]?=some d->vs[j]?=some v->ja K H O d v)/\g ds=some z/\Gen K H O z Q
section
variable {X:Cx}{e a b:gf}{fa fb:FO}{fs:List FO}{pos:Pos}
theorem px1(h:PE X e (tUn (rD1 X.K g) (tO X.K fa))):PX X e (kh g fa):=PC h fun x z v H O Q np hx hg G=>⟨O,x,z,np,hx,hg,G⟩
theorem px2(h:PE X e (tOp (rD X.K g) (tO X.K fa) (tO X.K fb))):PX X e (fZ g fa fb):=Pz h fun x y z v u H O Q np hx hy hg G=>⟨O,x,y,z,np,hx,hy,hg,G⟩
theorem pxn(h:PE X e (tCB (rDn X.K g) (tA X.K fs))):PX X e (gn g fs):=MR h fun ds z vs H O Q np hl hv hg G=>⟨O,ds,z,np,hl,hv,hg,G⟩
theorem gx{K H}{O:AP'}{i:Int}{v:V}(h:ja K H O (.int i) v):v= .int i:=h.elim (fun h=>h.int) fun⟨_,_,h⟩=>h.elim
theorem FZ{K H}(h:ja K H O (.bl i) v):v= .bl i:=h.elim (fun h=>h.bl) fun⟨_,_,h⟩=>h.elim
theorem xy{K H}(h:ja K H O (.str i) v):v= .str i:=h.elim (fun h=>h.str) fun⟨_,_,h⟩=>h.elim
theorem JB{K H}(h:ja K H O .non v):v= .non:=h.elim (fun h=>h.non) fun⟨_,_,h⟩=>h.elim
theorem Gen.str{K H}(g:Gen K H O (.str i,false) Q):Q (.str i) H:=g _ H (fun _ _ e=>e) Rep.mkStr
noncomputable def gI(f:Int->Int->Option D):D->D->Option (D×Bool)
 | .int i,.int j=>(f i j).map fun z=>(z,false)
 |_,_=>none
theorem wQ{f:Int->Int->Option D}{d e:D}{z:D×Bool}(h:gI f d e=some z): ∃i j y,d= .int i/\e= .int j/\f i j=some y/\z=(y,false):=by
 cases d with
 |int i=>
  cases e with
  |int j=>
   cases hf:f i j with
   |none=>rw[gI,hf] at h;cases h
   |some y=>rw[gI,hf] at h;cases h;exact⟨i,j,y,rfl,rfl,hf,rfl⟩
  |_=>cases h
 |_=>cases h
theorem qL{f:vF}{C:Int->Int->Prop}[∀i j,Decidable (C i j)]{g:Int->Int->Int}(ho:OpR X f (rI C fun i j=> .int (g i j))):OpR X f (rD X.K (gI fun i j=>if C i j then some (.int (g i j)) else none)):=by
 intro pins s σ H x y v u Q I rx ry h;obtain⟨O,d,e,z,np,h1,h2,hg,G⟩:=h;obtain⟨i,j,w,rfl,rfl,hf,rfl⟩:=wQ hg;obtain⟨hc,rfl⟩:=gP hf;exact ho pins s σ H x y v u Q I rx ry ⟨i,j,gx h1,gx h2,hc,G.int⟩
theorem CT{f:vF}{g:Int->Int->Int}(ho:OpR X f (rI0 fun i j=> .int (g i j))):OpR X f (rD X.K (gI fun i j=>some (.int (g i j)))):=by
 intro pins s σ H x y v u Q I rx ry h;obtain⟨O,d,e,z,np,h1,h2,hg,G⟩:=h;obtain⟨i,j,w,rfl,rfl,hf,rfl⟩:=wQ hg;cases hf;exact ho pins s σ H x y v u Q I rx ry ⟨i,j,gx h1,gx h2,G.int⟩
instance(i j:Int):Decidable (CMul i j):=by unfold CMul;exact inferInstance
instance(i j:Int):Decidable (Iu i j):=by unfold Iu;exact inferInstance
instance(i j:Int):Decidable (ux i j):=by unfold ux;exact inferInstance
noncomputable def gSub:=gI fun i j=>some (.int (i-j))
noncomputable def mT:=gI fun i j=>if CMul i j then some (.int (i*j)) else none
noncomputable def LD:=gI fun i j=>if Iu i j then some (.int (i / j)) else none
noncomputable def zo:=gI fun i j=>if 0<j then some (.int (i%j)) else none
noncomputable def HW:=gI fun i j=>if ux i j then some (.int (i^j.toNat)) else none
theorem mv:OpR X (binaryOp .Sub) (rD X.K gSub):=CT Qq
theorem lH:OpR X (binaryOp .Mult) (rD X.K mT):=qL Qv
theorem Gs:OpR X (binaryOp .FloorDiv) (rD X.K LD):=qL Nv
theorem qK:OpR X (binaryOp .Mod) (rD X.K zo):=qL Qw
theorem Gr:OpR X (binaryOp .Pow) (rD X.K HW):=qL Qt
noncomputable def oU:D->D->Option (D×Bool)
 | .int i,.int j=>some (.int (i+j),false)
 | .str i,.str j=>if i.length+j.length<=sizeLine then some (.str (i++j),false) else none
 | .tup l,.tup m=>if l.length+m.length<=sizeLine then some (.tup (l++m),false) else none
 | .lst l,.lst m=>if l.length+m.length<=sizeLine then some (.lst (l++m),true) else none
 |_,_=>none
theorem kR:OpR X (binaryOp .Add) (rD X.K oU):=by
 intro pins s σ H x y v u Q I rx ry h;obtain⟨O,d,e,z,np,h1,h2,hg,G⟩:=h
 cases d with
 |int i=>
  cases e with
  |int j=>cases hg;exact Qz pins s σ H x y v u Q I rx ry ⟨i,j,gx h1,gx h2,G.int⟩
  |_=>cases hg
 |str i=>
  cases e with
  |str j=>
   obtain⟨hc,rfl⟩:=gP hg;exact EU pins s σ H x y v u Q I rx ry ⟨i,j,xy h1,xy h2,hc,G.str⟩
  |_=>cases hg
 |tup l=>
  cases e with
  |tup m=>
   obtain⟨hc,rfl⟩:=gP hg;have k1:Rep X.K H O (.tup l) x:=h1.elim id fun⟨_,_,z⟩=>z.elim;have k2:Rep X.K H O (.tup m) y:=h2.elim id fun⟨_,_,z⟩=>z.elim;obtain⟨p1,xs,rfl,q1,r1⟩:=k1.tup;obtain⟨p2,ys,rfl,q2,r2⟩:=k2.tup;have l1:=r1.length;have l2:=r2.length;by_cases hx:xs=[]
   ·subst hx;have:l=[]:=by simpa using l1.symm
    subst this;cases rx;cases ry;obtain⟨its,v1,dY,_⟩:=I.tuple q1.sq;obtain⟨b9,v2,f6,_⟩:=I.tuple q2.sq;have e1:its=[]:=by have:=v1.length;simpa using this.symm
    subst e1;obtain⟨⟨cls,dd,data,sl⟩,ho,o6,n,hd⟩:=id dY;obtain⟨⟨cw,u6,data2,u4⟩,s9,l6,n2,hd2⟩:=id f6;simp only at o6 hd l6 hd2;subst o6 hd l6 hd2
    refine A1 ⟨_,ho,rfl⟩ ⟨_,s9,rfl⟩ Ei Eh Eg Ef (Ee _ _)
     (tuple_addW0 p1 p2 #[] b9.toArray n n2 dd u6 sl u4 (by simp)) ⟨ho,s9,⟨.ref p2,H,I,rfl,?_⟩⟩
    exact G _ H (fun _ _ e=>e) (by simpa using k2)
   ·refine Nw pins s σ H _ _ v u Q I rx ry ⟨p1,p2,xs,ys,rfl,rfl,q1.sq,q2.sq,hx,by omega,fun hy=>?_,fun hy p hp=>?_⟩
    ·subst hy;have:m=[]:=by simpa using l2.symm
     subst this;exact G _ H (fun _ _ e=>e) (by simpa using k1)
    ·exact G.tup hp (np p (nOw hp)) (r1.append r2)
  |_=>cases hg
 |lst l=>
  cases e with
  |lst m=>
   obtain⟨hc,rfl⟩:=gP hg;obtain⟨p1,xs,rfl,q1,r1⟩:=jw h1;obtain⟨p2,ys,rfl,q2,r2⟩:=jw h2;have l1:=r1.length;have l2:=r2.length;cases rx;cases ry;obtain⟨its,v1,dY,_⟩:=I.list q1;obtain⟨b9,v2,f6,_⟩:=I.list q2;have e1:=v1.length;have e2:=v2.length;obtain⟨⟨cls,dd,data,sl⟩,ho,o6,n,hd⟩:=id dY.isList;obtain⟨⟨cw,u6,data2,u4⟩,s9,l6,n2,hd2⟩:=id f6.isList;simp only at o6 hd l6 hd2;subst o6 hd l6 hd2
   refine A1 ⟨_,ho,rfl⟩ ⟨_,s9,rfl⟩ noFill_list_add seq_list_add PySem.F.slot_list_add PySem.F.entry_list_add (PySem.F.args_list_add_2 _ _)
    (list_addW p1 p2 its.toArray b9.toArray n n2 dd u6 sl u4 (by simp only[iH];omega)) ⟨ho,s9,?_⟩
   rw[show its.toArray++b9.toArray=(its++b9).toArray by simp];exact⟨.ref _,_,I.lnew (t':=s.toks) (v1.append v2) (by rw[pq];omega),rfl,G.lst I.fresh (r1.append r2)⟩
  |_=>cases hg
 |_=>cases hg
noncomputable def gEq(d e:D):Option (D×Bool):=if d.dep<=50/\e.dep<=50 then some (.bl (D.eqb d e),false) else none
noncomputable def gNe(d e:D):Option (D×Bool):=if d.dep<=50/\e.dep<=50 then some (.bl (!D.eqb d e),false) else none
theorem oN(hu:X.A.units+60<cLine):OpR X (compareOp .Eq) (rD X.K gEq):=by
 intro pins s σ H x y v u Q I rx ry h;obtain⟨O,d,e,z,np,h1,h2,hg,G⟩:=h;obtain⟨hc,rfl⟩:=gP hg;exact Qx hu pins s σ H x y v u Q I rx ry ⟨O,d,e,h1,h2,hc,G.bl⟩
theorem kQ(hu:X.A.units+60<cLine):OpR X (compareOp .NotEq) (rD X.K gNe):=by
 intro pins s σ H x y v u Q I rx ry h;obtain⟨O,d,e,z,np,h1,h2,hg,G⟩:=h;obtain⟨hc,rfl⟩:=gP hg;exact Qu hu pins s σ H x y v u Q I rx ry ⟨O,d,e,h1,h2,hc,G.bl⟩
theorem gU{α β:Type}{x:Option α}{f:α->β}{b:β}(h:x.map f=some b): ∃a,x=some a/\f a=b:=by
 cases x with
 |none=>cases h
 |some a=>exact⟨a,rfl,iq h⟩
noncomputable def oA:D->Option (D×Bool)
 | .int i=>some (.int (-i),false)
 |_=>none
theorem Mt:UnR X (unaryOp .USub) (rD1 X.K oA):=by
 intro pins s σ H x v Q I rx h;obtain⟨O,d,z,np,h1,hg,G⟩:=h
 cases d with
 |int i=>cases hg;exact OR pins s σ H x v Q I rx ⟨i,gx h1,G.int⟩
 |_=>cases hg
noncomputable def gIx:D->D->Option (D×Bool)
 | .tup l,.int i=>(atI l i).map fun d=>(d,false)
 | .lst l,.int i=>(atI l i).map fun d=>(d,false)
 |_,_=>none
theorem G1{K H}{O:AP'}{l:List D}{xs:List V}{i:Int}{d:D}(r:RepL K H O l xs)(h:atI l i=some d): ∃v,atI xs i=some v/\Rep K H O d v:=by
 unfold atI at h ⊢;rw[r.length];obtain⟨j,h1,h2⟩:=fN h;rw[h1];exact r.get h2
theorem SQ:IxR X (rD X.K gIx):=by
 intro value slice pins s σ H x y v u Q I rx ry h hs;obtain⟨O,d,e,z,np,h1,h2,hg,G⟩:=h
 cases d with
 |tup l=>
  cases e with
  |int i=>
   obtain⟨w,hw,rfl⟩:=gU hg;obtain⟨p,xs,rfl,q,r⟩:=lM h1;obtain⟨vv,hv,hr⟩:=G1 r hw;exact QZ value slice pins s σ H _ _ v u Q I rx ry ⟨p,xs,i,vv,rfl,gx h2,q,hv,G _ H (fun _ _ e=>e) hr⟩ hs
  |_=>cases hg
 |lst l=>
  cases e with
  |int i=>
   obtain⟨w,hw,rfl⟩:=gU hg;obtain⟨p,xs,rfl,q,r⟩:=jw h1;obtain⟨vv,hv,hr⟩:=G1 r hw;exact NH value slice pins s σ H _ _ v u Q I rx ry ⟨p,xs,i,vv,rfl,gx h2,q,hv,G _ H (fun _ _ e=>e) hr⟩ hs
  |_=>cases hg
 |_=>cases hg
theorem PN(ho:OpR X (binaryOp op) (rD X.K g))(ha:PO X a fa)(hb:PO X b fb):PX X (.BinOp a op b pos) (fZ g fa fb):=px2 (Sv ho ha hb)
theorem PM{op:CmpOp}{g:D->D->Option (D×Bool)}(ho:OpR X (compareOp op) (rD X.K g))(ha:PO X a fa)(hb:PO X b fb)(hm:behindInMarks op b=false):PX X (.Compare a [op] [b] pos) (fZ g fa fb):=px2 (Ni ho ha hb hm)
theorem PH(ha:PO X a fa):PX X (.UnaryOp .USub a pos) (kh oA fa):=px1 (Su Mt ha)
theorem Sm(ha:PO X a fa)(hb:PO X b fb)(hs:Cd b):PX X (.Subscript a b pos) (fZ gIx fa fb):=px2 (Sw SQ ha hb hs)
end
noncomputable def nM:List Opd->Option (List D)
 |[]=>some []
 | .val r::os=>(nM os).map (r.1:: ·)
 | .slot _::_=>none
noncomputable def oD(fs:List F):F:=fun δ=>(iV (fs.map fP) δ).bind fun p=>(nM p.1).bind fun ds=>if ds.length<=sizeLine then some ((.tup ds,false),p.2) else none
noncomputable def my(fs:List F):F:=fun δ=>(iV (fs.map fP) δ).bind fun p=>(nM p.1).bind fun ds=>if ds.length<=sizeLine then some ((.lst ds,true),p.2) else none
section
variable {K:gq}{T T':AP'}{σ:L2.St}{δ δ':Dn}{H H':Hp}{os:List Opd}{vs:List V}
theorem Ops.rep(E:ER K H T σ δ)(B:Ops K T σ δ H os vs δ' H' T'){j:Nat}{r:D×Bool}{v:V}(h1:os[j]?=some (.val r))(h2:vs[j]?=some v):Rep K H' (fun a=>OwnA σ δ' a\/T a) r.1 v:=by
 obtain⟨d,b⟩:=r
 cases b with
 |false=>exact B.val j d v h1 h2
 |true=>
  obtain⟨p,rfl,tp,hp,ok⟩:=B.tmp j d v h1 h2;refine ok.rep (fun z=>?_) fun b _ z=>z;rcases z with z|z
  ·exact B.er.nT p z tp
  ·exact(E.dom p z).ne hp
theorem rR{O:AP'}: ∀{os:List Opd} {vs:List V} {ds:List D},nM os=some ds->os.length=vs.length->(∀(j:Nat) (r:D×Bool) (v:V),os[j]?=some (.val r)->vs[j]?=some v->Rep K H' O r.1 v)->RepL K H' O ds vs
 |[],vs,ds,h,hl,_=>by
  cases h;have:vs=[]:=by simpa using hl.symm
  subst this;exact RepL.nil
 | .slot i::os,vs,ds,h,_,_=>by cases h
 | .val r::os,vs,ds,h,hl,k=>by
  obtain⟨l,h1,rfl⟩:=gU h
  cases vs with
  |nil=>simp at hl
  |cons v vs=>exact RepL.cons (k 0 r v rfl rfl) (rR h1 (by simpa using hl) fun j r' v' a b=>k (j+1) r' v' (by simpa using a) (by simpa using b))
end
section
variable {X:Cx}{e a b:gf}{es:iL}{fa fb:FO}{fs:List F}{pos:Pos}
theorem Pu{x1}(h:PA X es (tA X.K (fs.map fP))):PX X (.Tuple es x1 pos) (oD fs):=PX.imp (Qg h) fun σ H Q hw=>by
 obtain⟨δ,T,rr,δ',E,e,k⟩:=hw;obtain⟨⟨os,δ1⟩,h1,e⟩:=fN e;obtain⟨ds,h2,e⟩:=fN e;obtain⟨hn,e⟩:=gP e;obtain⟨rfl,rfl⟩:=vL e;refine⟨δ,T,os,δ1,E,h1,fun vs H1 T1 B=>?_⟩;have r:=rR h2 B.len fun j r v a b=>B.rep E a b;exact⟨by rw[r.length];exact hn,fun p hp=>(B.done k).tup hp (B.np (nOw hp)) r⟩
theorem PJ(h:PA X es (tA X.K (fs.map fP))):PX X (.List es pos) (my fs):=PX.imp (Ql h) fun σ H Q hw=>by
 obtain⟨δ,T,rr,δ',E,e,k⟩:=hw;obtain⟨⟨os,δ1⟩,h1,e⟩:=fN e;obtain⟨ds,h2,e⟩:=fN e;obtain⟨hn,e⟩:=gP e;obtain⟨rfl,rfl⟩:=vL e;refine⟨δ,T,os,δ1,E,h1,fun vs H1 T1 B=>?_⟩;have r:=rR h2 B.len fun j r v a b=>B.rep E a b;exact⟨by rw[r.length];exact hn,fun p hp=>(B.done k).lst hp r⟩
theorem Gv{ds:List D}{vs:List V}{d:D}(hl:ds.length=vs.length)(hd:ds=[d]): ∃v,vs=[v]:=by
 subst hd
 cases vs with
 |nil=>simp at hl
 |cons v r=>
  cases r with
  |nil=>exact⟨v,rfl⟩
  |cons _ _=>simp at hl
noncomputable def g1(g:D->Option (D×Bool)):List D->Option (D×Bool)
 |[d]=>g d
 |_=>none
noncomputable def g2(g:D->D->Option (D×Bool)):List D->Option (D×Bool)
 |[d,e]=>g d e
 |_=>none
theorem nR{f:gg}{g:D->Option (D×Bool)}(h: ∀(pins:gE) (s:fW) (σ:L2.St) (H:Hp) (x:V) (u:gg) (Q:VK) (O:AP') (d:D) (z:D×Bool),Inv X pins σ H s->RelV x u->(∀p,¬Ow (H p)-> ¬O p)->ja X.K H O d x->g d=some z->Gen X.K H O z Q->
  wpAny (model X.prog X.w) X.A (call f [u]) (EP X pins σ Q) X.xe s):je X f (rDn X.K (g1 g)):=by
 intro pins s σ H xs us Q I r hq;obtain⟨O,ds,z,np,hl,hv,hg,G⟩:=hq
 match ds,hg with
 |[d],hg=>
  obtain⟨v,rfl⟩:=Gv hl rfl;obtain⟨u,rfl,ru⟩:=pB r;exact h pins s σ H v u Q O d z I ru np (hv 0 d v rfl rfl) hg G
theorem L4{f:gg}{g:D->D->Option (D×Bool)}(h: ∀(pins:gE) (s:fW) (σ:L2.St) (H:Hp) (x y:V) (us:hV) (Q:VK) (O:AP') (d e:D) (z:D×Bool),Inv X pins σ H s->Vals [x,y] us->(∀p,¬Ow (H p)-> ¬O p)->ja X.K H O d x->ja X.K H O e y->g d e=some z->Gen X.K H O z Q->
  wpAny (model X.prog X.w) X.A (call f us) (EP X pins σ Q) X.xe s):je X f (rDn X.K (g2 g)):=by
 intro pins s σ H xs us Q I r hq;obtain⟨O,ds,z,np,hl,hv,hg,G⟩:=hq
 match ds,hg,xs,hl with
 |[d,e],hg,[x,y],_=>exact h pins s σ H x y us Q O d e z I r np (hv 0 d x rfl rfl) (hv 1 e y rfl rfl) hg G
noncomputable def lV:D->Option (D×Bool)
 | .tup l=>some (.int l.length,false)
 | .lst l=>some (.int l.length,false)
 |_=>none
theorem iY:je X (.builtin "len") (rDn X.K (g1 lV)):=nR fun pins s σ H x u Q O d z I ru np hd hg G=>by
 cases d with
 |tup l=>
  cases hg;obtain⟨p,xs,rfl,q,r⟩:=lM hd;refine uo pins s σ H [_] [u] Q I (.cons ru .nil) ⟨p,xs,rfl,.inr q,?_⟩;rw[r.length];exact G.int
 |lst l=>
  cases hg;obtain⟨p,xs,rfl,q,r⟩:=jw hd;refine uo pins s σ H [_] [u] Q I (.cons ru .nil) ⟨p,xs,rfl,.inl q,?_⟩;rw[r.length];exact G.int
 |_=>cases hg
noncomputable def sh:D->Option (D×Bool)
 | .int i=>some (.int (if i<0 then -i else i),false)
 |_=>none
theorem ly:je X (.builtin "abs") (rDn X.K (g1 sh)):=nR fun pins s σ H x u Q O d z I ru np hd hg G=>by
 cases d with
 |int i=>cases hg;exact L5 pins s σ H [x] [u] Q I (.cons ru .nil) ⟨i,by rw[gx hd],G.int⟩
 |_=>cases hg
noncomputable def NM:D->Option (D×Bool)
 | .int i=>some (.int i,false)
 | .bl b=>some (.int (if b then 1 else 0),false)
 |_=>none
theorem Ik:je X (.type "int") (rDn X.K (g1 NM)):=nR fun pins s σ H x u Q O d z I ru np hd hg G=>by
 cases d with
 |int i=>cases hg;exact Aq pins s σ H [x] [u] Q I (.cons ru .nil) (.inl ⟨i,by rw[gx hd],G.int⟩)
 |bl i=>
  cases hg;refine Aq pins s σ H [x] [u] Q I (.cons ru .nil) (.inr ⟨i,by rw[FZ hd],?_⟩);have:=G.int;cases i<;>exact this
 |_=>cases hg
noncomputable def kT:D->Option (D×Bool)
 | .tup l=>some (.tup l,false)
 | .lst l=>some (.tup l,false)
 |_=>none
theorem iW:je X (.type "tuple") (rDn X.K (g1 kT)):=nR fun pins s σ H x u Q O d z I ru np hd hg G=>by
 cases d with
 |tup l=>
  cases hg;have k1:Rep X.K H O (.tup l) x:=hd.elim id fun⟨_,_,z⟩=>z.elim;obtain⟨p,xs,rfl,q,r⟩:=k1.tup;exact rJ pins s σ H [_] [u] Q I (.cons ru .nil) ⟨p,xs,rfl,.inr ⟨q.sq,G _ H (fun _ _ e=>e) k1⟩⟩
 |lst l=>
  cases hg;obtain⟨p,xs,rfl,q,r⟩:=jw hd;exact rJ pins s σ H [_] [u] Q I (.cons ru .nil) ⟨p,xs,rfl,.inl ⟨q,fun t ht=>G.tup ht (np t (nOw ht)) r⟩⟩
 |_=>cases hg
noncomputable def yw:D->Option (D×Bool)
 | .tup l=>some (.lst l,true)
 | .lst l=>some (.lst l,true)
 |_=>none
theorem yN:je X (.type "list") (rDn X.K (g1 yw)):=nR fun pins s σ H x u Q O d z I ru np hd hg G=>by
 cases d with
 |tup l=>
  cases hg;obtain⟨p,xs,rfl,q,r⟩:=lM hd;exact um pins s σ H [_] [u] Q I (.cons ru .nil) ⟨p,xs,rfl,.inr q,fun t ht=>G.lst ht r⟩
 |lst l=>
  cases hg;obtain⟨p,xs,rfl,q,r⟩:=jw hd;exact um pins s σ H [_] [u] Q I (.cons ru .nil) ⟨p,xs,rfl,.inl q,fun t ht=>G.lst ht r⟩
 |_=>cases hg
end
abbrev FT:=Dn->Option (Bool×Dn)
def tT(K:gq)(f:FT):TT:=fun σ H Q=> ∃δ T b δ',ER K H T σ δ/\f δ=some (b,δ')/\ ∀H',Keep σ δ H δ' H'->ER K H' T σ δ'->Q b H'
def PTX(X:Cx)(e:gf)(f:FT):Prop:=PT X e (tT X.K f)
def PWX(X:Cx)(e:gf)(f:FT):Prop:=PW X e (tT X.K f)
noncomputable def asB:(D×Bool)×Dn->Option (Bool×Dn)
 |((.bl b,_),δ)=>some (b,δ)
 |_=>none
noncomputable def fT(f:F):FT:=fun δ=>(f δ).bind asB
theorem yT(h:asB p=some q): ∃o,p=((.bl q.1,o),q.2):=by
 obtain⟨⟨d,o⟩,δ⟩:=p
 cases d with
 |bl b=>cases h;exact⟨o,rfl⟩
 |_=>cases h
theorem JJ{K:gq}{f:F}{σ:L2.St}{H:Hp}{Q:Bool->Hp->Prop}(h:tT K (fT f) σ H Q):tF K f σ H fun x H1=> ∃c,x= .bl c/\Q c H1:=by
 obtain⟨δ,T,b,δ',E,e,k⟩:=h;obtain⟨p,h1,h2⟩:=fN e;obtain⟨o,rfl⟩:=yT h2;refine⟨δ,T,_,_,E,h1,fun v H' P=>?_⟩;obtain⟨E1,r⟩:=P.rep E;exact⟨b,r.bl,k H' P.1 E1⟩
section
variable {X:Cx}{e a b c:gf}{es:iL}{fa fb:FO}{f g:F}{ft fu:FT}{pos:Pos}
theorem PT.imp'(h:PT X e t)(k: ∀σ H Q,t' σ H Q->t σ H Q):PT X e t':=fun pins s σ H Q I hw=>h pins s σ H Q I (k σ H Q hw)
theorem PW.imp'(h:PW X e t)(k: ∀σ H Q,t' σ H Q->t σ H Q):PW X e t':=fun wh pins s σ H Q I hw=>h wh pins s σ H Q I (k σ H Q hw)
theorem MW(h:PX X e f)(he: ∀whole,isTrue e X.env whole=(do let v <-whole;standAt e.pos;holding [v] (truthy v))):PTX X e (fT f):=PT.imp' (P4 h he) fun σ H Q hw=>JJ hw
theorem Ny{r:R2}{g:D->D->Option (D×Bool)}(hr:RA X.K r g){σ:L2.St}{H:Hp}{Q:VK}(hw:tF X.K (fZ g fa fb) σ H Q):tOp r (tO X.K fa) (tO X.K fb) σ H Q:=by
 obtain⟨δ,T,rr,δ',E,e,k⟩:=hw;obtain⟨⟨o,δ1⟩,h1,e⟩:=fN e;obtain⟨⟨o2,δ2⟩,h2,e⟩:=fN e;obtain⟨x,h3,e⟩:=fN e;obtain⟨y,h4,e⟩:=fN e;obtain⟨z,h5,e⟩:=fN e;obtain⟨rfl,rfl⟩:=gp e;refine⟨δ,T,o,δ1,E,h1,fun v H1 P1=>⟨δ1,zB T o v,o2,δ2,P1.er E,h2,fun u H2 P2=>?_⟩⟩;have B:=Ops.cons E P1 (Ops.cons (P1.er E) P2 (Ops.nil (P2.er (P1.er E))));exact hr x y z v u H2 _ Q (fun p hp=>B.np hp) (B.view (j:=0) rfl rfl h3) (B.view (j:=1) rfl rfl h4) h5 (B.done k)
theorem Sj{K:gq}{g:D->D->Option (D×Bool)}:RA K (rD K g) g:=fun x y z v u H O Q np hx hy hg G=>⟨O,x,y,z,np,hx,hy,hg,G⟩
theorem MY{op:CmpOp}{g:D->D->Option (D×Bool)}(ho:OpR X (compareOp op) (rD X.K g))(ha:PO X a fa)(hb:PO X b fb)(hm:behindInMarks op b=false):PTX X (.Compare a [op] [b] pos) (fT (fZ g fa fb)):=
 PT.imp' (MZ ho ha hb hm) fun σ H Q hw=>Ny Sj (JJ hw)
noncomputable def S8(f g:FT):FT:=fun δ=>(f δ).bind fun p=>if p.1=true then g p.2 else some (false,p.2)
noncomputable def oE(f g:FT):FT:=fun δ=>(f δ).bind fun p=>if p.1=true then some (true,p.2) else g p.2
noncomputable def kW(f:FT):FT:=fun δ=>(f δ).bind fun p=>some (!p.1,p.2)
theorem MU(ha:PTX X a ft):PWX X (.BoolOp .Or [a] pos) ft:=PY ha
theorem PU(ha:PTX X a ft)(hb:PWX X (.BoolOp .Or (b::es) pos) fu):PWX X (.BoolOp .Or (a::b::es) pos) (oE ft fu):=PW.imp' (Sq ha hb) fun σ H Q hw=>by
 obtain⟨δ,T,c,δ',E,e,k⟩:=hw;obtain⟨⟨c1,δ1⟩,h1,e⟩:=fN e;refine⟨δ,T,c1,δ1,E,h1,fun H1 K1 E1=>?_⟩
 cases c1 with
 |true=>
  rw[gd rfl] at e;rw[gd rfl];obtain⟨rfl,rfl⟩:=gp e;exact k H1 K1 E1
 |false=>
  rw[gk iM] at e;rw[gk iM];exact⟨δ1,T,c,δ',E1,e,fun H2 K2 E2=>k H2 (K1.trans K2) E2⟩
theorem MX(ha:PTX X a ft):PTX X (.UnaryOp .Not a pos) (kW ft):=PT.imp' (P5 ha) fun σ H Q hw=>by
 obtain⟨δ,T,c,δ',E,e,k⟩:=hw;obtain⟨⟨c1,δ1⟩,h1,e⟩:=fN e;obtain⟨rfl,rfl⟩:=gp e;exact⟨δ,T,c1,δ1,E,h1,k⟩
noncomputable def ui(f g:F):F:=fun δ=>(f δ).bind fun p=>(asB p).bind fun q=>if q.1=true then g q.2 else some ((.bl false,false),q.2)
noncomputable def fOr(f g:F):F:=fun δ=>(f δ).bind fun p=>(asB p).bind fun q=>if q.1=true then some ((.bl true,false),q.2) else g q.2
noncomputable def NO(f:F):F:=fun δ=>(f δ).bind fun p=>(asB p).bind fun q=>some ((.bl (!q.1),false),q.2)
theorem Post.pre{K:gq}{T:AP'}{σ:L2.St}{δ δ1 δ2:Dn}{H H1 H2:Hp}{r:D×Bool}{v:V}(k:Keep σ δ H δ1 H1)(P:Post K T σ δ1 H1 r δ2 v H2):Post K T σ δ H r δ2 v H2:=by
 refine⟨k.trans P.1,?_⟩;obtain⟨d,o⟩:=r
 cases o with
 |false=>exact P.2
 |true=>
  obtain⟨p,h1,h2,h3⟩:=P.2;refine⟨p,h1,?_,h3⟩
  cases hH:H p with
  |none=>rfl
  |some ob=>exact absurd h2 (k.dm p (by rw[hH];simp))
theorem PQ(ha:PX X a f)(hb:PX X (.BoolOp .And (b::es) pos) g):PX X (.BoolOp .And (a::b::es) pos) (ui f g):=PX.imp (Qn ha hb) fun σ H Q hw=>by
 obtain⟨δ,T,r,δ',E,e,k⟩:=hw;obtain⟨p,h1,e⟩:=fN e;obtain⟨⟨c,δ1⟩,h2,e2⟩:=fN e;obtain⟨o,rfl⟩:=yT h2;refine⟨δ,T,_,_,E,h1,fun v H1 P=>?_⟩;obtain⟨E1,rv⟩:=P.rep E;refine⟨c,rv.bl,?_⟩
 cases c with
 |true=>
  rw[gd rfl] at e2;rw[gd rfl];exact⟨δ1,T,r,δ',E1,e2,fun w H2 P2=>k w H2 (P2.pre P.1)⟩
 |false=>
  rw[gk iM] at e2;rw[gk iM];obtain⟨rfl,rfl⟩:=gp e2;exact k _ H1 (Post.val P.1 E1 Rep.mkBl)
theorem MS{op}(ha:PX X a f):PX X (.BoolOp op [a] pos) f:=Qi ha
theorem PD(ha:PX X a f):PX X (.UnaryOp .Not a pos) (NO f):=PX.imp (Qj ha) fun σ H Q hw=>by
 obtain⟨δ,T,r,δ',E,e,k⟩:=hw;obtain⟨p,h1,e⟩:=fN e;obtain⟨⟨c,δ1⟩,h2,e2⟩:=fN e;obtain⟨o,rfl⟩:=yT h2;obtain⟨rfl,rfl⟩:=gp e2;refine⟨δ,T,_,_,E,h1,fun v H1 P=>?_⟩;obtain⟨E1,rv⟩:=P.rep E;exact⟨c,rv.bl,k _ H1 (Post.val P.1 E1 Rep.mkBl)⟩
noncomputable def fIf(t:FT)(f g:F):F:=fun δ=>(t δ).bind fun p=>if p.1=true then f p.2 else g p.2
theorem Sn(hc:PTX X c ft)(ha:PX X a f)(hb:PX X b g):PX X (.IfExp c a b pos) (fIf ft f g):=PX.imp (KP hc ha hb) fun σ H Q hw=>by
 obtain⟨δ,T,r,δ',E,e,k⟩:=hw;obtain⟨⟨c,δ1⟩,h1,e⟩:=fN e;refine⟨δ,T,c,δ1,E,h1,fun H1 K1 E1=>?_⟩
 cases c with
 |true=>rw[gd rfl] at e;rw[gd rfl];exact⟨δ1,T,r,δ',E1,e,fun w H2 P2=>k w H2 (P2.pre K1)⟩
 |false=>rw[gk iM] at e;rw[gk iM];exact⟨δ1,T,r,δ',E1,e,fun w H2 P2=>k w H2 (P2.pre K1)⟩
end
inductive Out where
 |nx(δ:Dn)|rt(r:D×Bool)(δ:Dn)|bk(δ:Dn)|ct(δ:Dn)
abbrev FS:=Dn->Option Out
structure SK(A:iu)(σ:L2.St)(δ:Dn)(H:Hp)(σ':L2.St)(δ':Dn)(H':Hp):Prop where
 kp: ∀a o,H a=some o-> ¬OwnA σ δ a->H' a=some o
 owi: ∀i a,OwnI σ' δ' i a->OwnI σ δ i a\/H a=none
 dm: ∀a,H a≠none->H' a≠none
 as: ∀i,¬A i->σ'[i]?=σ[i]?
structure FI(L:iu)(H0:Hp)(σ:L2.St)(δ:Dn)(H:Hp):Prop where
 ow: ∀i a,OwnI σ δ i a->L i\/H0 a=none
 dm: ∀a,H0 a≠none->H a≠none
def RV(K:gq)(T:AP')(H0:Hp)(r:D×Bool)(σ':L2.St)(δ':Dn)(v:V)(H':Hp):Prop:=
 match r with
 |(d,false)=>ER K H' T σ' δ'/\Rep K H' (fun a=>OwnA σ' δ' a\/T a) d v
 |(d,true)=> ∃p,v= .ref p/\H0 p=none/\ER K H' (fun a=>T a\/a=p) σ' δ'/\OwnOk K H' (fun a=>OwnA σ' δ' a\/T a\/a=p) d p
section
variable {A:iu}{σ σ1 σ2:L2.St}{δ δ1 δ2:Dn}{H H0 H1 H2:Hp}{L:iu}{K:gq}{T:AP'}
theorem SK.refl:SK A σ δ H σ δ H:=⟨fun _ _ e _=>e,fun _ _ z=> .inl z,fun _ z=>z,fun _ _=>rfl⟩
theorem SK.ow(k:SK A σ δ H σ1 δ1 H1)(a:fR)(h:OwnA σ1 δ1 a):OwnA σ δ a\/H a=none:=by
 obtain⟨i,d,h1,h2⟩:=h;rcases k.owi i a ⟨d,h1,h2⟩ with⟨e,h3,h4⟩|z
 ·exact .inl ⟨i,e,h3,h4⟩
 ·exact .inr z
theorem SK.trans(x:SK A σ δ H σ1 δ1 H1)(y:SK A σ1 δ1 H1 σ2 δ2 H2):SK A σ δ H σ2 δ2 H2 where
 kp:=fun a o e n=>y.kp a o (x.kp a o e n) fun z=>(x.ow a z).elim n fun z=>by rw[z] at e;cases e
 owi:=fun i a z=>(y.owi i a z).elim (x.owi i a) fun z=> .inr (by
  cases h:H a with
  |none=>rfl
  |some o=>exact absurd z (x.dm a (by rw[h];simp)))
 dm:=fun a z=>y.dm a (x.dm a z)
 as:=fun i h=>(y.as i h).trans (x.as i h)
theorem Keep.sk(k:Keep σ δ H δ1 H1):SK A σ δ H σ δ1 H1:=⟨k.kp,fun i a z=> .inl (k.owi i a z),k.dm,fun _ _=>rfl⟩
theorem FI.step(f:FI L H0 σ δ H)(k:SK A σ δ H σ1 δ1 H1):FI L H0 σ1 δ1 H1 where
 ow:=fun i a z=>(k.owi i a z).elim (f.ow i a) fun z=> .inr (by
  cases h:H0 a with
  |none=>rfl
  |some o=>exact absurd z (f.dm a (by rw[h];simp)))
 dm:=fun a z=>k.dm a (f.dm a z)
theorem FI.fresh(f:FI L H0 σ δ H)(hp:H p=none):H0 p=none:=by
 cases h:H0 p with
 |none=>rfl
 |some o=>exact absurd hp (f.dm p (by rw[h];simp))
end
def tS(K:gq)(A L:iu)(H0:Hp)(f:FS):TS:=fun D σ H=> ∃δ T out,ER K H T σ δ/\FI L H0 σ δ H/\f δ=some out/\
 match out with
 | .nx δ'=> ∀σ' H',SK A σ δ H σ' δ' H'->ER K H' T σ' δ'->D.nx σ' H'
 | .bk δ'=> ∀σ' H',SK A σ δ H σ' δ' H'->ER K H' T σ' δ'->D.bk σ' H'
 | .ct δ'=> ∀σ' H',SK A σ δ H σ' δ' H'->ER K H' T σ' δ'->D.ct σ' H'
 | .rt r δ'=> ∀v σ' H',SK A σ δ H σ' δ' H'->RV K T H0 r σ' δ' v H'->D.rt v H'
def PSX(X:Cx)(A L:iu)(H0:Hp)(st:Stmt)(f:FS):Prop:=PS X st (tS X.K A L H0 f)
def Ce(X:Cx)(A L:iu)(H0:Hp)(st:List Stmt)(f:FS):Prop:=PSs X st (tS X.K A L H0 f)
noncomputable def gm:FS:=fun δ=>some (.nx δ)
noncomputable def fY(f g:FS):FS:=fun δ=>(f δ).bind fun o=>match o with
 | .nx δ1=>g δ1
 |o=>some o
noncomputable def pD(f:F):FS:=fun δ=>(f δ).bind fun p=>some (.nx p.2)
noncomputable def hW(f:F):FS:=fun δ=>(f δ).bind fun p=>some (.rt p.1 p.2)
noncomputable def ny(i:Nat):FS:=fun δ=>match δ[i]? with
 |some (some (d,true))=>some (.rt (d,true) (δ.set i none))
 |some (some (d,false))=>some (.rt (d,false) δ)
 |_=>none
noncomputable def sIf(t:FT)(f g:FS):FS:=fun δ=>(t δ).bind fun p=>if p.1=true then f p.2 else g p.2
noncomputable def js(i:Nat)(f:F):FS:=fun δ=>(f δ).bind fun p=>if i<p.2.length then some (.nx (p.2.set i (some p.1))) else none
section
variable {X:Cx}{A L:iu}{H0:Hp}{st:Stmt}{dg:List Stmt}{f g:FS}{fe:F}{ft:FT}{e c:gf}{pos:Pos}
theorem PS.imp'(h:PS X st t)(k: ∀D σ H,t' D σ H->t D σ H):PS X st t':=fun pins s σ H D I hw=>h pins s σ H D I (k D σ H hw)
theorem PSs.imp'(h:PSs X dg t)(k: ∀D σ H,t' D σ H->t D σ H):PSs X dg t':=fun pins s σ H D I hw=>h pins s σ H D I (k D σ H hw)
theorem Kq:Ce X A L H0 [] gm:=PSs.imp' M8 fun D σ H hw=>by
 obtain⟨δ,T,out,E,fi,e,k⟩:=hw;cases e;exact k σ H .refl E
theorem Hv(h1:PSX X A L H0 st f)(h2:Ce X A L H0 dg g):Ce X A L H0 (st::dg) (fY f g):=PSs.imp' (Kr h1 h2) fun D σ H hw=>by
 obtain⟨δ,T,out,E,fi,e,k⟩:=hw;obtain⟨o,h3,e⟩:=fN e;refine⟨δ,T,o,E,fi,h3,?_⟩
 cases o with
 |nx δ1=>
  intro σ1 H1 K1 E1;refine⟨δ1,T,out,E1,fi.step K1,e,?_⟩
  cases out with
  |nx δ2=>exact fun σ2 H2 K2 E2=>k σ2 H2 (K1.trans K2) E2
  |bk δ2=>exact fun σ2 H2 K2 E2=>k σ2 H2 (K1.trans K2) E2
  |ct δ2=>exact fun σ2 H2 K2 E2=>k σ2 H2 (K1.trans K2) E2
  |rt r δ2=>exact fun v σ2 H2 K2 R2=>k v σ2 H2 (K1.trans K2) R2
 |rt r δ1=>cases e;exact k
 |bk δ1=>cases e;exact k
 |ct δ1=>cases e;exact k
theorem Kn(h:PX X e fe)(hs:swapsWith e none pos.line X.env=pure false):PSX X A L H0 (.Expr e pos) (pD fe):=PS.imp' (M9 h hs) fun D σ H hw=>by
 obtain⟨δ,T,out,E,fi,e,k⟩:=hw;obtain⟨p,h3,e⟩:=fN e;cases e;exact⟨δ,T,p.1,p.2,E,h3,fun v H1 P=>k σ H1 P.1.sk (P.rep E).1⟩
theorem M5(h:PX X e fe):PSX X A L H0 (.Return (some e) pos) (hW fe):=PS.imp' (Kt h) fun D σ H hw=>by
 obtain⟨δ,T,out,E,fi,e,k⟩:=hw;obtain⟨p,h3,e⟩:=fN e;cases e;refine⟨δ,T,p.1,p.2,E,h3,fun v H1 P=>k v σ H1 P.1.sk ?_⟩;obtain⟨⟨d,o⟩,δ1⟩:=p
 cases o with
 |false=>exact P.2
 |true=>
  obtain⟨q,h1,h2,h3⟩:=P.2;exact⟨q,h1,fi.fresh h2,h3⟩
theorem P6(hc:PTX X c ft)(ha:Ce X A L H0 a f)(hb:Ce X A L H0 b g):PSX X A L H0 (.If c a b pos) (sIf ft f g):=PS.imp' (Sr hc ha hb) fun D σ H hw=>by
 obtain⟨δ,T,out,E,fi,e,k⟩:=hw;obtain⟨⟨c,δ1⟩,h1,e⟩:=fN e;refine⟨δ,T,c,δ1,E,h1,fun H1 K1 E1=>?_⟩;have de:SK A σ δ H σ δ1 H1:=K1.sk
 have fin: ∀(h:FS),h δ1=some out->tS X.K A L H0 h D σ H1:=fun h he=>by
  refine⟨δ1,T,out,E1,fi.step de,he,?_⟩
  cases out with
  |nx δ2=>exact fun σ2 H2 K2 E2=>k σ2 H2 (de.trans K2) E2
  |bk δ2=>exact fun σ2 H2 K2 E2=>k σ2 H2 (de.trans K2) E2
  |ct δ2=>exact fun σ2 H2 K2 E2=>k σ2 H2 (de.trans K2) E2
  |rt r δ2=>exact fun v σ2 H2 K2 R2=>k v σ2 H2 (de.trans K2) R2
 cases c with
 |true=>rw[gd rfl] at e;exact(show(if true=true then tS X.K A L H0 f D σ H1 else _) from by rw[gd rfl];exact fin f e)
 |false=>rw[gk iM] at e;exact(show(if false=true then _ else tS X.K A L H0 g D σ H1) from by rw[gk iM];exact fin g e)
end
theorem jM{α:Type}{l:List α}{i j:Nat}{x y:α}(h:(l.set i x)[j]?=some y):(i=j/\i<l.length/\y=x)\/(i≠j/\l[j]?=some y):=by
 rw[AW] at h;split at h
 ·rename_i q9;split at h
  ·rename_i hl;exact .inl ⟨q9,hl,(iq h).symm⟩
  ·cases h
 ·rename_i q9;exact .inr ⟨q9,h⟩
section
variable {K:gq}{T:AP'}{σ:L2.St}{δ δ1:Dn}{H H1:Hp}{x:D×Bool}{v:V}{i:Nat}
theorem OwnI.store{j:Nat}{a:fR}(h:OwnI (σ.set i (some v)) (δ.set i (some x)) j a):(i≠j/\OwnI σ δ j a)\/(i=j/\x.2=true/\v= .ref a):=by
 obtain⟨d,h1,h2⟩:=h;rcases jM h1 with⟨e,_,q⟩|⟨ne,q⟩
 ·rcases jM h2 with⟨_,_,q2⟩|⟨ne2,_⟩
  ·right;cases q;exact⟨e,rfl,(iq q2).symm⟩
  ·exact absurd e ne2
 ·rcases jM h2 with⟨e2,_,_⟩|⟨_,q2⟩
  ·exact absurd e2 ne
  ·exact .inl ⟨ne,d,q,q2⟩
theorem OwnA.store(h:OwnA (σ.set i (some v)) (δ.set i (some x)) a):OwnA σ δ a\/(x.2=true/\v= .ref a):=by
 obtain⟨j,d,h1,h2⟩:=h;rcases OwnI.store ⟨d,h1,h2⟩ with⟨_,e,h3,h4⟩|⟨_,h3⟩
 ·exact .inl ⟨j,e,h3,h4⟩
 ·exact .inr h3
theorem ER.store(E1:ER K H1 (Tmp T x v) σ δ1)(hi:i<δ1.length)(hx:match x with|(d,false)=>Rep K H1 (fun a=>OwnA σ δ1 a\/T a) d v|(d,true)=> ∃p,v= .ref p/\ ¬T p/\OwnOk K H1 (fun a=>OwnA σ δ1 a\/T a\/a=p) d p):
  ER K H1 T (σ.set i (some v)) (δ1.set i (some x)):=by
 have hσ:i<σ.length:=by rw[E1.len];exact hi
 have sub: ∀b,H1 b≠none->(OwnA (σ.set i (some v)) (δ1.set i (some x)) b\/T b)->(OwnA σ δ1 b\/Tmp T x v b):=fun b _ z=>by
  rcases z with z|z
  ·rcases z.store with z|z
   ·exact .inl z
   ·exact .inr (.inr z)
  ·exact .inr (.inl z)
 refine⟨by rw[rh,rh];exact E1.len,fun j d hj=>?_,fun j d hj=>?_,fun j k d e a hj hk h1 h2=>?_,fun a z=>?_,fun a z=>E1.dom a (.inl z)⟩
 ·rcases jM hj with⟨rfl,_,q⟩|⟨ne,q⟩
  ·have q:=iq q;subst q
   exact⟨v,pv hσ,Rep.mono (fun _ _ e _=>e) (fun b hb z=>by
    rcases z with z|z
    ·rcases z.store with z|z
     ·exact .inl z
     ·exact absurd z.1 (by simp)
    ·exact .inr z) hx⟩
  ·obtain⟨w,h1,h2⟩:=E1.val j d q;exact⟨w,by rw[pO ne];exact h1,Rep.mono (fun _ _ e _=>e) sub h2⟩
 ·rcases jM hj with⟨rfl,_,q⟩|⟨ne,q⟩
  ·have q:=iq q;subst q;obtain⟨p,rfl,np,ok⟩:=hx;refine⟨p,pv hσ,ok.mono (fun _ _ e _=>e) (fun b hb z=>?_) fun _ e=>e⟩;rcases z with z|z
   ·rcases z.store with z|z
    ·exact .inl z
    ·have:=z.2;cases this;exact .inr (.inr rfl)
   ·exact .inr (.inl z)
  ·obtain⟨a,h1,h2⟩:=E1.own j d q;exact⟨a,by rw[pO ne];exact h1,h2.mono (fun _ _ e _=>e) sub fun _ e=>e⟩
 ·rcases OwnI.store ⟨d,hj,h1⟩ with⟨n1,d',g1,g2⟩|⟨e1,g1,g2⟩
  ·rcases OwnI.store ⟨e,hk,h2⟩ with⟨n2,e',g3,g4⟩|⟨e2,g3,g4⟩
   ·exact E1.inj j k d' e' a g1 g3 g2 g4
   ·exact absurd (Or.inr ⟨g3,g4⟩) (E1.nT a ⟨j,d',g1,g2⟩)
  ·rcases OwnI.store ⟨e,hk,h2⟩ with⟨n2,e',g3,g4⟩|⟨e2,g3,g4⟩
   ·exact absurd (Or.inr ⟨g1,g2⟩) (E1.nT a ⟨k,e',g3,g4⟩)
   ·exact e1.symm.trans e2
 ·rcases z.store with z|z
  ·exact fun t=>E1.nT a z (.inl t)
  ·obtain⟨d,b⟩:=x
   cases b with
   |false=>exact absurd z.1 (by simp)
   |true=>
    obtain⟨p,rfl,np,_⟩:=hx;have:=z.2;cases this;exact np
theorem SK.store(k:Keep σ δ H δ1 H1)(ha:A i)(hp:x.2=true-> ∀p,v= .ref p->H p=none):SK A σ δ H (σ.set i (some v)) (δ1.set i (some x)) H1 where
 kp:=k.kp
 owi:=fun j a z=>by
  rcases z.store with⟨_,z⟩|⟨_,z1,z2⟩
  ·exact .inl (k.owi j a z)
  ·exact .inr (hp z1 a z2)
 dm:=k.dm
 as:=fun j hj=>pO (fun(e:i=j)=>hj (by subst e;exact ha))
end
section
variable {X:Cx}{A L:iu}{H0:Hp}{fe:F}{e c:gf}{pos pos':Pos}
theorem sV{K:gq}{T:AP'}{σ:L2.St}{δ δ1:Dn}{H H1:Hp}{r:D×Bool}{v:V}{i:Nat}(E:ER K H T σ δ)(P:Post K T σ δ H r δ1 v H1)(hi:i<δ1.length)(ha:A i):
  SK A σ δ H (σ.set i (some v)) (δ1.set i (some r)) H1/\ER K H1 T (σ.set i (some v)) (δ1.set i (some r)):=by
 have hp:r.2=true-> ∀p,v= .ref p->H p=none:=fun h p hv=>by
  obtain⟨d,o⟩:=r
  cases o with
  |false=>cases h
  |true=>obtain⟨q,h1,h2,_⟩:=P.2;rw[hv] at h1;cases h1;exact h2
 refine⟨SK.store P.1 ha hp,ER.store (P.er E) hi ?_⟩;obtain⟨d,o⟩:=r
 cases o with
 |false=>exact P.2.2
 |true=>
  obtain⟨p,rfl,h2,h3,h4⟩:=P.2;exact⟨p,rfl,fun z=>(E.dom p z).ne h2,h4⟩
theorem M1{i:Nat}{x:Str}(hN:X.N.Nodup)(hi:X.N[i]?=some x)(hx:Loc X.env.scope x)(he:PX X e fe)(hs:swapsWith e (some (.Name x pos')) pos.line X.env=pure false)(hf:X.fn x=true\/X.env.scope.names.lookup x=some .local)(ha:A i):
  PSX X A L H0 (.Assign [.Name x pos'] e pos) (js i fe):=PS.imp' (P7 hN hi hx he hs hf) fun D σ H hw=>by
 obtain⟨δ,T,out,E,fi,e,k⟩:=hw;obtain⟨⟨r,δ1⟩,h3,e⟩:=fN e;obtain⟨hi,rfl⟩:=gP e;refine⟨δ,T,r,δ1,E,h3,fun v H1 P=>?_⟩;obtain⟨h1,h2⟩:=sV (A:=A) E P hi ha;exact k _ H1 h1 h2
theorem EK{i:Nat}{x:Str}(hN:X.N[i]?=some x)(hv:Vis X.env.scope x)(hd:(x==("__debug__":Str))=false)(x9:(x==("__classdict__":Str))=false)(hl: ¬L i):PSX X A L H0 (.Return (some (.Name x pos')) pos) (ny i):=PS.imp' (Kt (ES hN hv hd x9)) fun D σ H hw=>by
 obtain⟨δ,T,out,E,fi,e,k⟩:=hw;unfold ny at e
 cases hi:δ[i]? with
 |none=>rw[hi] at e;cases e
 |some q=>
  cases q with
  |none=>rw[hi] at e;cases e
  |some p=>
   obtain⟨d,b⟩:=p;have hil:i<δ.length:=(wz.mp hi).1
   cases b with
   |false=>
    rw[hi] at e;cases e;obtain⟨v,h1,h2⟩:=E.val i d hi;exact⟨v,h1,k v σ H .refl ⟨E,h2⟩⟩
   |true=>
    rw[hi] at e;cases e;obtain⟨a,h1,h2⟩:=E.own i d hi
    have gone: ∀j b,OwnI σ (δ.set i none) j b->i≠j/\OwnI σ δ j b:=fun j b ⟨d',g1,g2⟩=>by
     rcases jM g1 with⟨_,_,q⟩|⟨ne,q⟩
     ·cases q
     ·exact⟨ne,d',q,g2⟩
    have goneA: ∀b,OwnA σ (δ.set i none) b->OwnA σ δ b/\b≠a:=fun b ⟨j,d',g1,g2⟩=>by
     obtain⟨ne,d2,g3,g4⟩:=gone j b ⟨d',g1,g2⟩;exact⟨⟨j,d2,g3,g4⟩,fun z=>ne (by subst z;exact E.inj i j d d2 _ hi g3 h1 g4)⟩
    have ha:OwnA σ δ a:=⟨i,d,hi,h1⟩
    have sub: ∀b,H b≠none->(OwnA σ (δ.set i none) b\/(T b\/b=a))->(OwnA σ δ b\/T b):=fun b _ z=>by
     rcases z with z|z|z
     ·exact .inl (goneA b z).1
     ·exact .inr z
     ·subst z;exact .inl ha
    refine⟨.ref a,h1,k (.ref a) σ H ⟨fun _ _ e _=>e,fun j b z=> .inl (gone j b z).2,fun _ z=>z,fun _ _=>rfl⟩ ⟨a,rfl,?_,?_,h2.mono (fun _ _ e _=>e) sub fun _ e=>e⟩⟩
    ·rcases fi.ow i a ⟨d,hi,h1⟩ with z|z
     ·exact absurd z hl
     ·exact z
    ·refine⟨by rw[rh];exact E.len,fun j d' hj=>?_,fun j d' hj=>?_,fun j k d' e' b hj hk g1 g2=>?_,fun b z t=>?_,fun b z=>?_⟩
     ·rcases jM hj with⟨_,_,q⟩|⟨ne,q⟩
      ·cases q
      ·obtain⟨w,w1,w2⟩:=E.val j d' q;exact⟨w,w1,Rep.mono (fun _ _ e _=>e) sub w2⟩
     ·rcases jM hj with⟨_,_,q⟩|⟨ne,q⟩
      ·cases q
      ·obtain⟨w,w1,w2⟩:=E.own j d' q;exact⟨w,w1,w2.mono (fun _ _ e _=>e) sub fun _ e=>e⟩
     ·obtain⟨_,d2,q1,q2⟩:=gone j b ⟨d',hj,g1⟩;obtain⟨_,d3,q3,q4⟩:=gone k b ⟨e',hk,g2⟩;exact E.inj j k d2 d3 b q1 q3 q2 q4
     ·obtain⟨z1,z2⟩:=goneA b z;rcases t with t|t
      ·exact E.nT b z1 t
      ·exact z2 t
     ·rcases z with z|z
      ·exact E.dom b z
      ·subst z;exact E.ownOw ha
end
abbrev Tg:=D->Dn->Option Dn
def tG(K:gq)(A:iu)(tg:Tg):TG:=fun v σ H Q=> ∃δ T d δ',ER K H T σ δ/\Rep K H (fun a=>OwnA σ δ a\/T a) d v/\tg d δ=some δ'/\ ∀σ',SK A σ δ H σ' δ' H->ER K H T σ' δ'->Q σ' H
def PGX(X:Cx)(A:iu)(e:gf)(tg:Tg):Prop:=PG X e (tG X.K A tg)
noncomputable def fX(i:Nat):Tg:=fun d δ=>if i<δ.length then some (δ.set i (some (d,false))) else none
noncomputable def zK:List Tg->List D->Dn->Option Dn
 |[],[],δ=>some δ
 |t::ts,d::ds,δ=>(t d δ).bind (zK ts ds)
 |_,_,_=>none
noncomputable def mR(ts:List Tg):Tg
 | .tup ds,δ=>zK ts ds δ
 |_,_=>none
def tGs(K:gq)(A:iu)(ts:List Tg):TGs:=fun vs σ H Q=> ∃δ T ds δ',ER K H T σ δ/\RepL K H (fun a=>OwnA σ δ a\/T a) ds vs/\zK ts ds δ=some δ'/\ ∀σ',SK A σ δ H σ' δ' H->ER K H T σ' δ'->Q σ' H
section
variable {X:Cx}{A:iu}{pos:Pos}{e:gf}{es:iL}{t:Tg}{ts:List Tg}
theorem PG.imp'{t t':TG}(h:PG X e t)(k: ∀v σ H Q,t' v σ H Q->t v σ H Q):PG X e t':=fun pins s σ H v u Q I r hw=>h pins s σ H v u Q I r (k v σ H Q hw)
theorem PGs.imp'{t t':TGs}(h:PGs X es t)(k: ∀v σ H Q,t' v σ H Q->t v σ H Q):PGs X es t':=fun pins s σ H v u Q I r hw=>h pins s σ H v u Q I r (k v σ H Q hw)
theorem KC{i:Nat}{x:Str}(hN:X.N.Nodup)(hi:X.N[i]?=some x)(hx:Loc X.env.scope x)(hf:X.fn x=true\/X.env.scope.names.lookup x=some .local)(ha:A i):PGX X A (.Name x pos) (fX i):=PG.imp' (Gn hN hi hx hf) fun v σ H Q hw=>by
 obtain⟨δ,T,d,δ',E,r,e,k⟩:=hw;obtain⟨hi,rfl⟩:=gP e;obtain⟨h1,h2⟩:=sV (A:=A) (r:=(d,false)) (v:=v) E (Post.val .refl E r) hi ha;exact k _ h1 h2
theorem CP:PGs X [] (tGs X.K A []):=PGs.imp' Nh fun v σ H Q hw=>by
 obtain⟨δ,T,ds,δ',E,r,e,k⟩:=hw
 cases ds with
 |nil=>
  cases e;rw[RepL] at r;exact⟨r,k σ .refl E⟩
 |cons _ _=>cases e
theorem qJ(h1:PGX X A e t)(h2:PGs X es (tGs X.K A ts))(hs:(assignEach (e::es) X.env).map (·.2)=assign e X.env::(assignEach es X.env).map (·.2)):PGs X (e::es) (tGs X.K A (t::ts)):=PGs.imp' (KD h1 h2 hs) fun v σ H Q hw=>by
 obtain⟨δ,T,ds,δ',E,r,e,k⟩:=hw
 cases ds with
 |nil=>cases e
 |cons d ds=>
  rw[RepL] at r;obtain⟨v1,vr,rfl,r1,r2⟩:=r;obtain⟨δ1,h3,e⟩:=fN e;refine⟨v1,vr,rfl,δ,T,d,δ1,E,r1,h3,fun σ1 K1 E1=>⟨δ1,T,ds,δ',E1,?_,e,fun σ2 K2 E2=>k σ2 (K1.trans K2) E2⟩⟩;exact RepL.mono (fun _ _ e _=>e) (fun b hb z=>z.elim (fun z=>(K1.ow b z).elim Or.inl fun z=>absurd z hb) Or.inr) r2
theorem Gm{k:Nat}(hc:X.calm=true)(h:PGs X es (tGs X.K A ts)){n:Nat}(hn:(assignEach es X.env).length=n)(hl:ts.length=n)(u3:(assignEach es X.env).findIdx? (·.1)=none):PGX X A (.Tuple es k pos) (mR ts):=PG.imp' (Qf hc h hn u3) fun v σ H Q hw=>by
 obtain⟨δ,T,d,δ',E,r,e,k⟩:=hw
 cases d with
 |tup ds=>
  obtain⟨a,xs,rfl,q,rr⟩:=r.tup;refine⟨a,xs,rfl,q.sq,?_,δ,T,ds,δ',E,rr,e,k⟩
  have: ∀(ts:List Tg) (ds:List D) (δ:Dn),zK ts ds δ=some δ'->ds.length=ts.length:=by
   intro ts
   induction ts with
   |nil=>intro ds δ h;cases ds with|nil=>rfl|cons _ _=>cases h
   |cons t ts ih=>
    intro ds δ h
    cases ds with
    |nil=>cases h
    |cons d ds=>obtain⟨δ1,_,h⟩:=fN h;simp[ih ds δ1 h]
  rw[rr.length,this ts ds δ e,hl]
 |_=>cases e
end
abbrev SB:=Nat->Prop
def OwB(B:SB)(T:AP')(σ:L2.St)(δ:Dn):AP':=fun a=>(∃i,¬B i/\OwnI σ δ i a)\/T a
theorem OwB.own(h:OwB B T σ δ a):OwnA σ δ a\/T a:=h.imp (fun⟨i,_,d,h1,h2⟩=>⟨i,d,h1,h2⟩) id
structure ItOk(K:gq)(J:It)(ds:List D)(P O:AP')(H1:Hp):Prop where
 go: ∀(i:Nat) d Hi,ds[i]?=some d->(∀a o,H1 a=some o-> ¬P a->Hi a=some o)->J.go i Hi/\ ∀x H',J.yld i Hi x H'->(∀a o,Hi a=some o->H' a=some o)/\
  ∀O':AP',(∀b,H1 b≠none->O' b->O b)->(∀b,Hi b=none-> ¬O' b)->Rep K H' O' d x
 stop: ∀(i:Nat) Hi,ds.length<=i->(∀a o,H1 a=some o-> ¬P a->Hi a=some o)->J.stop i Hi
abbrev FIt:=Dn->Option (List D×Dn)
def tI(K:gq)(B:SB)(fi:FIt):TI:=fun σ H R=> ∃δ T ds δ',ER K H T σ δ/\fi δ=some (ds,δ')/\ ∀J H',Keep σ δ H δ' H'->ER K H' T σ δ'->ItOk K J ds (OwB B T σ δ') (fun a=>OwnA σ δ' a\/T a) H'->R J H'
def PIX(X:Cx)(B:SB)(tg iter:gf)(fi:FIt):Prop:=PI X tg iter (tI X.K B fi)
noncomputable def pT:D->Option (List D)
 | .tup l=>some l
 | .lst l=>some l
 |_=>none
noncomputable def Fe(f:FO):FIt:=fun δ=>(f δ).bind fun p=>(res p.2 p.1).bind fun d=>(pT d).bind fun l=>some (l,p.2)
noncomputable def hZ(f:F):FIt:=fun δ=>(f δ).bind fun p=>match p.1.1 with
 | .lst l=>some (l,p.2)
 | .tup l=>some (l,p.2)
 |_=>none
noncomputable def gB(lo:Int)(n:Nat):List D:=(List.range n).map fun(k:Nat)=> .int (lo+k)
noncomputable def pK(f:FO):FIt:=fun δ=>(iV [f] δ).bind fun p=>match pV p.2 p.1 with
 |some [.int j]=>if -(2^62)<=j/\j<2^62 then some (gB 0 j.toNat,p.2) else none
 |_=>none
def SlB(B:SB)(f:FO):Prop:= ∀δ i δ',f δ=some (.slot i,δ')->B i
theorem Bc:SlB B (fP f):=fun δ i δ' h=>by
 obtain⟨p,_,h⟩:=fN h;cases h
noncomputable def isL:D->Bool
 | .lst _=>true
 |_=>false
def SqA(b:Bool)(K:gq)(H:Hp)(P:AP')(a:fR)(xs:List V):Prop:=if b=true then SqLO K H P a xs else SqTO K H P a xs
theorem SqA.mono{K H H'}{P P':AP'}(q:SqA b K H P a xs)(k: ∀b o,H b=some o-> ¬P b->H' b=some o)(hP: ∀b,P' b->P b):SqA b K H' P' a xs:=by
 cases b with
 |true=>exact SqLO.mono q k fun b _=>hP b
 |false=>exact SqTO.mono (K:=K) q k fun b _=>hP b
theorem SqA.l{K H}(q:SqA true K H P a xs):SqL K H a xs:=SqLO.sq q
theorem SqA.t{K H}(q:SqA false K H P a xs):SqT K H a xs:=SqTO.sq (K:=K) q
theorem zR{K H}(h:pT d=some l)(r:Rep K H O d v): ∃a xs,v= .ref a/\SqA (isL d) K H O a xs/\RepL K H O l xs:=by
 cases d with
 |tup m=>cases h;obtain⟨a,xs,rfl,q,rr⟩:=r.tup;exact⟨a,xs,rfl,q,rr⟩
 |lst m=>cases h;obtain⟨a,xs,rfl,q,rr⟩:=r.lst;exact⟨a,xs,rfl,q,rr⟩
 |_=>cases h
theorem Ops.seq{K:gq}{T T':AP'}{σ:L2.St}{δ δ':Dn}{H H':Hp}{os:List Opd}{vs:List V}(E:ER K H T σ δ)(W:Ops K T σ δ H os vs δ' H' T'){j:Nat}(h1:os[j]?=some o)(h2:vs[j]?=some v)(hr:res δ' o=some d)(hs:pT d=some l)(hB: ∀i,o= .slot i->B i):
  ∃a xs,v= .ref a/\SqA (isL d) K H' (OwB B T σ δ') a xs/\RepL K H' (fun a=>OwnA σ δ' a\/T a) l xs:=by
 have fin:Rep K H' (fun a=>OwnA σ δ' a\/T a) d v-> ∃a xs,v= .ref a/\SqA (isL d) K H' (OwB B T σ δ') a xs/\RepL K H' (fun a=>OwnA σ δ' a\/T a) l xs:=fun r=>by
  obtain⟨a,xs,rfl,q,rr⟩:=zR hs r;exact⟨a,xs,rfl,q.mono (fun _ _ e _=>e) fun a z=>z.own,rr⟩
 cases o with
 |val r=>cases hr;exact fin (W.rep E h1 h2)
 |slot i=>
  have hk:=W.slt j i _ h1 h2
  have hd: ∃f,δ'[i]?=some (some (d,f)):=by
   unfold res at hr;dsimp only at hr;split at hr<;>cases hr
   exact⟨_,by assumption⟩
  obtain⟨f,hd⟩:=hd
  cases f with
  |false=>
   obtain⟨w,e1,e2⟩:=W.er.val i _ hd;rw[hk] at e1;cases e1;exact fin (Rep.mono (fun _ _ e _=>e) (fun b _ z=>z.imp id (W.tt b)) e2)
  |true=>
   obtain⟨a,e1,ok⟩:=W.er.own i _ hd;rw[hk] at e1;cases e1
   cases d with
   |lst m=>
    cases hs;obtain⟨xs,e,rr⟩:=ok;exact⟨a,xs,rfl,.inl ⟨.inl e,fun z=>z.elim (fun⟨k,nb,d',g1,g2⟩=>nb (W.er.inj i k _ _ a hd g1 hk g2▸hB i rfl)) fun z=>W.er.nT a ⟨i,_,hd,hk⟩ (W.tt a z)⟩,RepL.mono (fun _ _ e _=>e) (fun b _ z=>z.imp id (W.tt b)) rr⟩
   |tup m=>exact ok.elim
   |_=>cases hs
section
variable {X:Cx}{B:SB}{tg e:gf}{f:F}{fo:FO}{pos p:Pos}
theorem PI.imp'(h:PI X tg e t)(k: ∀σ H R,t' σ H R->t σ H R):PI X tg e t':=fun pins s σ H R I hw=>h pins s σ H R I (k σ H R hw)
theorem PI.or(h:PI X tg e t)(h':PI X tg e t'):PI X tg e (fun σ H R=>t σ H R\/t' σ H R):=fun pins s σ H R I hw=>hw.elim (h pins s σ H R I) (h' pins s σ H R I)
noncomputable def ItS(b:Bool)(K:gq)(a:fR):It:=if b=true then Itl K a else Itt K a
theorem Lu{K:gq}{P O:AP'}{H1:Hp}{a:fR}{xs:List V}{l:List D}(q:SqA b K H1 P a xs)(r:RepL K H1 O l xs)(hP: ∀a,P a->O a):ItOk K (ItS b K a) l P O H1:=by
 cases b<;>(
  refine⟨fun i d Hi hd hp=>?_,fun i Hi hi hp=>?_⟩
  ·have q2:=SqA.mono q hp fun _ z=>z
   first|replace q2:=q2.l|replace q2:=q2.t
   obtain⟨x,hx,rx⟩:=r.get hd;refine⟨⟨xs,x,q2,hx⟩,fun y H' hy=>?_⟩;obtain⟨rfl,hy⟩:=hy;have:=hy xs q2;rw[hx] at this;cases this;exact⟨fun _ _ e=>e,fun O' h1 h2=>Rep.mono (fun b o e n=>hp b o e fun z=>n (hP b z)) h1 rx⟩
  ·exact⟨xs,by first|exact(SqA.mono q hp fun _ z=>z).l|exact(SqA.mono q hp fun _ z=>z).t,by rw[r.length];exact hi⟩)
theorem yv{K:gq}{P O:AP'}{H1:Hp}(lo:Int)(n:Nat):ItOk K (Itr lo n) (gB lo n) P O H1:=by
 refine⟨fun i d Hi hd hp=>?_,fun i Hi hi hp=>?_⟩
 ·unfold gB at hd;rw[jr] at hd;obtain⟨k,h1,h2⟩:=gU hd;have hi:i<n:=by have:=(wz.mp h1).1;simpa using this
  have hk:k=i:=by rw[List.getElem?_range hi] at h1;exact(iq h1).symm
  subst hk;refine⟨hi,fun y H' hy=>?_⟩;obtain⟨rfl,rfl⟩:=hy;refine⟨fun _ _ e=>e,fun O' _ _=>?_⟩;rw[<-h2];exact Rep.mkInt
 ·unfold gB at hi;have:n<=i:=by simpa using hi
  exact this
theorem Kw(h:PO X e fo)(hB:SlB B fo):PIX X B tg e (Fe fo):=PI.imp' (PI.or (Nf (tg:=tg) h) (Qe h)) fun σ H R hw=>by
 obtain⟨δ,T,ds,δ',E,e,k⟩:=hw;obtain⟨⟨o,δ1⟩,h1,e⟩:=fN e;obtain⟨d,h2,e⟩:=fN e;obtain⟨l,h3,e⟩:=fN e;obtain⟨rfl,rfl⟩:=gp e
 have key: ∀v H1,PostO X.K T σ δ H o δ1 v H1-> ∃a xs,v= .ref a/\SqA (isL d) X.K H1 (OwB B T σ δ1) a xs/\R (ItS (isL d) X.K a) H1:=fun v H1 P=>by
  have W:=Ops.cons E P (Ops.nil (P.er E));obtain⟨a,xs,rfl,q,rr⟩:=W.seq E (j:=0) rfl rfl h2 h3 fun i hi=>hB _ _ _ (hi▸h1);exact⟨a,xs,rfl,q,k _ H1 W.keep (W.er.mono (fun _ _ e _=>e) (fun b _ z=>W.tt b z) (fun a z=>W.er.dom a (W.tt a z))) (Lu q rr fun a z=>z.own)⟩
 cases d with
 |lst m=>exact .inl ⟨δ,T,_,_,E,h1,fun v H1 P=>let⟨a,xs,e,q,r⟩:=key v H1 P;⟨a,e,⟨xs,q.l⟩,r⟩⟩
 |tup m=>exact .inr ⟨δ,T,_,_,E,h1,fun v H1 P=>let⟨a,xs,e,q,r⟩:=key v H1 P;⟨a,e,⟨xs,q.t⟩,r⟩⟩
 |_=>cases h3
theorem Nb(h:PX X e f):PIX X B tg e (hZ f):=PI.imp' (Kw (B:=B) (PX.po h) Bc) fun σ H R hw=>by
 have:hZ f=Fe (fP f):=funext fun δ=>by
  unfold hZ Fe fP
  cases f δ with
  |none=>rfl
  |some p=>obtain⟨⟨d,o⟩,δ1⟩:=p;cases d<;>rfl
 rwa [this] at hw
end
noncomputable def ue(tg:Tg)(fb:FS):List D->FS
 |[],δ=>some (.nx δ)
 |d::ds,δ=>(tg d δ).bind fun δ1=>(fb δ1).bind fun o=>match o with
  | .nx δ2=>ue tg fb ds δ2
  | .ct δ2=>ue tg fb ds δ2
  | .bk δ2=>some (.nx δ2)
  | .rt r δ2=>some (.rt r δ2)
noncomputable def tx(fi:FIt)(tg:Tg)(fb:FS):FS:=fun δ=>(fi δ).bind fun p=>ue tg fb p.1 p.2
section
variable {X:Cx}{A L:iu}{H0:Hp}{tg iter:gf}{body:List Stmt}{fi:FIt}{t:Tg}{fb:FS}{pos:Pos}
theorem M6(hp:PassesOwn (model X.prog X.w) X.A X.env X.xe)(hc:X.calm=true)(hi:PIX X (fun _=>False) tg iter fi)(hg:PGX X A tg t)(hb:Ce X A L H0 body fb)(hs: ∀x,foldedSetIterable iter X.env x=pure x):
  PSX X A L H0 (.For tg iter body [] pos) (tx fi t fb):=PS.imp' (P8 hp hc hi hg hb hs) fun D σ H hw=>by
 obtain⟨δ,T,out,E,fq,e,k⟩:=hw;obtain⟨⟨ds,δ1⟩,h1,e⟩:=fN e;refine⟨δ,T,ds,δ1,E,h1,fun J H1 K1 E1 ok=>?_⟩;have S1:SK A σ δ H σ δ1 H1:=K1.sk;refine⟨fun i m σ' H'=>m=ds.length-i/\i<=ds.length/\ ∃δ',SK A σ δ1 H1 σ' δ' H'/\ER X.K H' T σ' δ'/\ue t fb (ds.drop i) δ'=some out,⟨ds.length,by simp,mJ _,δ1,.refl,E1,by simpa using e⟩,?_⟩;rintro i m σ2 H2 ⟨rfl,hle,δ2,S2,E2,e2⟩;have v8: ∀a o,H1 a=some o-> ¬OwB (fun _=>False) T σ δ1 a->H2 a=some o:=fun a o ea n=>S2.kp a o ea fun⟨i,d,z⟩=>n (.inl ⟨i,id,d,z⟩);by_cases n9:i<ds.length
 ·refine .inr ?_;have hd:ds[i]?=some ds[i]:=hX n9;obtain⟨go,yl⟩:=ok.go i _ H2 hd v8;rw[sL n9] at e2;obtain⟨δ3,h3,e3⟩:=fN e2;obtain⟨o,h4,e4⟩:=fN e3;refine⟨go,fun σ' H'=> ∃δ',SK A σ δ1 H1 σ' δ' H'/\ER X.K H' T σ' δ'/\ue t fb (ds.drop (i+1)) δ'=some out,fun σ' H' ⟨δ',q1,q2,q3⟩=>⟨ds.length-(i+1),by omega,rfl,n9,δ',q1,q2,q3⟩,fun x H' hy=>?_⟩;obtain⟨ext,rep⟩:=yl x H' hy;have cz:ER X.K H' T σ2 δ2:=E2.mono (fun b ob eb _=>ext b ob eb) (fun _ _ z=>z) (fun a z=>(E2.dom a z).up (ext a));have dc:SK A σ δ1 H1 σ2 δ2 H':=S2.trans (Keep.ext ext).sk;have rx:=rep (fun a=>OwnA σ2 δ2 a\/T a) (fun b hb z=>z.elim (fun z=>(S2.ow b z).elim Or.inl fun z=>absurd z hb) Or.inr) (fun b hb z=>z.elim (fun z=>E2.ownDom z hb) fun z=>(E2.dom b z).ne hb);refine⟨δ2,T,ds[i],δ3,cz,rx,h3,fun σ3 S3 E3=>?_⟩;have bD:=dc.trans S3;refine⟨δ3,T,o,E3,(fq.step S1).step bD,h4,?_⟩
  cases o with
  |nx δ4=>exact fun σ4 H4 S4 E4=>⟨δ4,bD.trans S4,E4,e4⟩
  |ct δ4=>exact fun σ4 H4 S4 E4=>⟨δ4,bD.trans S4,E4,e4⟩
  |bk δ4=>cases e4;exact fun σ4 H4 S4 E4=>k σ4 H4 (S1.trans (bD.trans S4)) E4
  |rt r δ4=>cases e4;exact fun v σ4 H4 S4 R4=>k v σ4 H4 (S1.trans (bD.trans S4)) R4
 ·refine .inl ⟨ok.stop i H2 (by omega) v8,?_⟩;rw[uH (by omega)] at e2;cases e2;exact k σ2 H2 (S1.trans S2) E2
end
noncomputable def kI(ft:FT)(fb:FS):Nat->FS
 |0,_=>none
 |n+1,δ=>(ft δ).bind fun p=>if p.1=true then(fb p.2).bind fun o=>(match o with
   | .nx δ2=>kI ft fb n δ2
   | .ct δ2=>kI ft fb n δ2
   | .bk δ2=>some (.nx δ2)
   | .rt r δ2=>some (.rt r δ2)) else some (.nx p.2)
noncomputable def De(f g:FO):FIt:=fun δ=>(iV [f,g] δ).bind fun p=>match pV p.2 p.1 with
 |some [.int i,.int j]=>if -(2^62)<=i/\i<2^62/\ -(2^62)<=j/\j<2^62 then some (gB i (j-i).toNat,p.2) else none
 |_=>none
section
variable {X:Cx}{A L:iu}{H0:Hp}{B:SB}{tg e c a b:gf}{body:List Stmt}{ft:FT}{fb:FS}{fa fo:FO}{pos p:Pos}
theorem Hs{n:Nat}(hp:PassesOwn (model X.prog X.w) X.A X.env X.xe)(hc:PTX X c ft)(hb:Ce X A L H0 body fb):PSX X A L H0 (.While c body [] pos) (kI ft fb n):=PS.imp' (Ks hp hc hb) fun D σ H hw=>by
 obtain⟨δ,T,out,E,fq,e,k⟩:=hw;refine⟨fun m σ' H'=> ∃δ',SK A σ δ H σ' δ' H'/\ER X.K H' T σ' δ'/\kI ft fb m δ'=some out,⟨n,δ,.refl,E,e⟩,?_⟩;rintro m σ2 H2 ⟨δ2,S2,E2,e2⟩
 cases m with
 |zero=>cases e2
 |succ m=>
  obtain⟨⟨c1,δ3⟩,h3,e3⟩:=fN e2;refine⟨δ2,T,c1,δ3,E2,h3,fun H3 K3 E3=>?_⟩;have S3:SK A σ δ H σ2 δ3 H3:=S2.trans K3.sk
  cases c1 with
  |false=>
   rw[gk iM] at e3;cases e3;exact Q4 (k σ2 H3 S3 E3)
  |true=>
   rw[gd rfl] at e3;obtain⟨o,h4,e4⟩:=fN e3;refine Q3 ⟨fun σ' H'=> ∃δ',SK A σ δ H σ' δ' H'/\ER X.K H' T σ' δ'/\kI ft fb m δ'=some out,fun σ' H' q=>⟨m,uG _,q⟩,δ3,T,o,E3,fq.step S3,h4,?_⟩
   cases o with
   |nx δ4=>exact fun σ4 H4 S4 E4=>⟨δ4,S3.trans S4,E4,e4⟩
   |ct δ4=>exact fun σ4 H4 S4 E4=>⟨δ4,S3.trans S4,E4,e4⟩
   |bk δ4=>cases e4;exact fun σ4 H4 S4 E4=>k σ4 H4 (S3.trans S4) E4
   |rt r δ4=>cases e4;exact fun v σ4 H4 S4 R4=>k v σ4 H4 (S3.trans S4) R4
theorem qx{K:gq}{T T':AP'}{σ:L2.St}{δ δ':Dn}{H H':Hp}{os:List Opd}{vs:List V}{ds:List D}(B:Ops K T σ δ H os vs δ' H' T')(h:pV δ' os=some ds){j:Nat}{i:Int}(hd:ds[j]?=some (.int i)):vs[j]?=some (.int i):=by
 obtain⟨h1,h2⟩:=lO h;obtain⟨o,h3,h4⟩:=h2 j _ hd;have hj:j<vs.length:=by have:=(wz.mp h3).1;have:=B.len;omega
 have hv:vs[j]?=some vs[j]:=hX hj;have:=gx (B.view h3 hv h4);rw[hv,this]
theorem EO(hg:Gl X "range")(hm:X.mg "range"=none)(ha:PA X [a] (tA X.K [fa]))(hs:starEach [a] X.env=[(false,eval a X.env)]):PIX X B tg (.Call (.Name "range" p) [a] [] pos) (pK fa):=PI.imp' (HA hg hm ha hs) fun σ H R hw=>by
 obtain⟨δ,T,ds,δ',E,e,k⟩:=hw;obtain⟨⟨os,δ1⟩,h1,e⟩:=fN e;refine⟨δ,T,os,δ1,E,h1,fun vs H1 T1 B=>?_⟩;dsimp only at e;split at e
 ·rename_i j hj;obtain⟨⟨c1,c2⟩,e⟩:=gP e;obtain⟨rfl,rfl⟩:=vL e;have hv:=qx B hj (j:=0) rfl;obtain⟨hl,_⟩:=lO hj
  have:vs=[.int j]:=by
   have hlen:=B.len
   cases vs with
   |nil=>simp at hv
   |cons v r=>
    cases r with
    |nil=>simp at hv;rw[hv]
    |cons _ _=>simp at hl hlen;omega
  exact⟨j,this,c1,c2,k _ H1 B.keep (B.er.mono (fun _ _ e _=>e) (fun b _ z=>B.tt b z) (fun a z=>B.er.dom a (B.tt a z))) (yv 0 j.toNat)⟩
 ·cases e
theorem EN(hg:Gl X "range")(hm:X.mg "range"=none)(ha:PA X [a,b] (tA X.K [fa,fo]))(hs:starEach [a,b] X.env=[(false,eval a X.env),(false,eval b X.env)])(n5:starEach [b] X.env=[(false,eval b X.env)]):PIX X B tg (.Call (.Name "range" p) [a,b] [] pos) (De fa fo):=PI.imp' (Hz hg hm ha hs n5) fun σ H R hw=>by
 obtain⟨δ,T,ds,δ',E,e,k⟩:=hw;obtain⟨⟨os,δ1⟩,h1,e⟩:=fN e;refine⟨δ,T,os,δ1,E,h1,fun vs H1 T1 B=>?_⟩;dsimp only at e;split at e
 ·rename_i i j hj;obtain⟨c1,e⟩:=gP e;obtain⟨rfl,rfl⟩:=vL e;have hv:=qx B hj (j:=0) rfl;have dy:=qx B hj (j:=1) rfl;obtain⟨hl,_⟩:=lO hj
  have:vs=[.int i,.int j]:=by
   have hlen:=B.len
   match vs,hv,dy with
   |[x,y],hv,dy=>simp at hv dy;rw[hv,dy]
   |x::y::z::r,_,_=>simp at hl hlen;omega
  exact⟨i,j,this,c1,k _ H1 B.keep (B.er.mono (fun _ _ e _=>e) (fun b _ z=>B.tt b z) (fun a z=>B.er.dom a (B.tt a z))) (yv i (j-i).toNat)⟩
 ·cases e
end
abbrev EvF:=List (D×Bool)->Option ((D×Bool)×Dn)
def spF(K:gq)(ev:EvF):Sp:=fun vs H Q _=> ∃T args r outs,ER K H T (vs.map some) (args.map some)/\ev args=some (r,outs)/\ ∀v H',Post K T (vs.map some) (args.map some) H r outs v H'->Q v H'
noncomputable def gC(args:List (D×Bool))(δ:Dn):Dn:=args.zipIdx.map fun p=>if p.1.2=true then(δ[p.2]?).join else some p.1
noncomputable def evF(n np:Nat)(asg:hU)(f:FS):EvF:=fun args=>
 if args.length=np/\np<=n/\(args.zipIdx.all fun p=>!(p.1.2&&asg.contains p.2))=true then
  match f (args.map some++List.replicate (n-np) none) with
  |some (.rt r δ)=>some (r,gC args δ)
  |some (.nx δ)=>some ((.non,false),gC args δ)
  |_=>none
 else none
theorem KW(args:List (D×Bool))(δ:Dn)(i:Nat):(gC args δ)[i]?=args[i]?.map fun x=>if x.2=true then(δ[i]?).join else some x:=by
 unfold gC;rw[jr,D5]
 cases args[i]? with
 |none=>rfl
 |some x=>simp
theorem ox(h:x.join=some p):x=some (some p):=by
 cases x with
 |none=>cases h
 |some y=>exact nY some h
section
variable {K:gq}{T:AP'}{A:iu}{vs:List V}{args:List (D×Bool)}{H H':Hp}{m:Nat}{σ':L2.St}{δ':Dn}{r:D×Bool}{v:V}
theorem Cg{α:Type}{xs:List α}{m i:Nat}{y:α}:(xs.map some++List.replicate m none)[i]?=some (some y)↔xs[i]?=some y:=by
 by_cases h:i<xs.length
 ·rw[Ej (by simpa using h),jr];cases xs[i]?<;>simp
 ·rw[Ek (by simpa using h)];constructor
  ·intro e;rw[List.getElem?_replicate] at e;split at e<;>cases e
  ·intro e;exact absurd (wz.mp e).1 h
theorem qO{α:Type}{xs:List α}{i:Nat}{y:α}:(xs.map some)[i]?=some (some y)↔xs[i]?=some y:=by
 rw[jr];cases xs[i]?<;>simp
theorem Iy{i:Nat}{a:fR}:OwnI (vs.map some++List.replicate m none) (args.map some++List.replicate m none) i a↔OwnI (vs.map some) (args.map some) i a:=by
 unfold OwnI;simp only[Cg,qO]
theorem CS:OwnA σ δ a↔ ∃i,OwnI σ δ i a:=Iff.rfl
theorem HD:OwnA (vs.map some++List.replicate m none) (args.map some++List.replicate m none) a↔OwnA (vs.map some) (args.map some) a:=by
 rw[CS,CS];exact exists_congr fun i=>Iy
theorem ER.pad(E:ER K H T (vs.map some) (args.map some)):ER K H T (vs.map some++List.replicate m none) (args.map some++List.replicate m none):=by
 have len:vs.length=args.length:=by simpa using E.len
 refine⟨by simp[len],fun i d h=>?_,fun i d h=>?_,fun i j d e a h1 h2 h3 h4=>?_,fun a z=>E.nT a (HD.mp z),E.dom⟩
 ·obtain⟨w,w1,w2⟩:=E.val i d (qO.mpr (Cg.mp h));exact⟨w,Cg.mpr (qO.mp w1),Rep.mono (fun _ _ e _=>e) (fun b _ z=>z.imp HD.mp id) w2⟩
 ·obtain⟨w,w1,w2⟩:=E.own i d (qO.mpr (Cg.mp h));exact⟨w,Cg.mpr (qO.mp w1),w2.mono (fun _ _ e _=>e) (fun b _ z=>z.imp HD.mp id) fun _ e=>e⟩
 ·exact E.inj i j d e a (qO.mpr (Cg.mp h1)) (qO.mpr (Cg.mp h2)) (qO.mpr (Cg.mp h3)) (qO.mpr (Cg.mp h4))
theorem Gq{T':AP'}(E:ER K H T (vs.map some) (args.map some))(S:SK A (vs.map some++List.replicate m none) (args.map some++List.replicate m none) H σ' δ' H')(hA: ∀(i:Nat) d,args[i]?=some (d,true)-> ¬A i)
  (E':ER K H' T' σ' δ')(hT: ∀b,H b≠none->T' b->T b):ER K H' T' (vs.map some) (gC args δ')/\(∀b,OwnA (vs.map some) (gC args δ') b->OwnA σ' δ' b)/\Keep (vs.map some) (args.map some) H (gC args δ') H':=by
 have len:vs.length=args.length:=by simpa using E.len
 have here: ∀(i:Nat) d w,args[i]?=some (d,true)->vs[i]?=some w->σ'[i]?=some (some w):=fun i d w h1 h2=>by
  rw[S.as i (hA i d h1)];exact Cg.mpr h2
 have outI: ∀(i:Nat) d b,(gC args δ')[i]?=some (some (d,b))->(∃e,args[i]?=some (e,true)/\δ'[i]?=some (some (d,b)))\/(b=false/\args[i]?=some (d,false)):=fun i d b h=>by
  rw[KW] at h;obtain⟨⟨e,c⟩,h1,h2⟩:=gU h
  cases c with
  |true=>
   left;exact⟨e,h1,ox (by simpa using h2)⟩
  |false=>
   right;have:some (e,false)=some (d,b):=by simpa using h2
   cases this;exact⟨rfl,h1⟩
 have aw: ∀i a,OwnI (vs.map some) (gC args δ') i a->OwnI σ' δ' i a/\OwnI (vs.map some) (args.map some) i a:=fun i a ⟨d,h1,h2⟩=>by
  rcases outI i d true h1 with⟨e,h3,h4⟩|⟨z,_⟩
  ·exact⟨⟨d,h4,here i e _ h3 (qO.mp h2)⟩,⟨e,qO.mpr h3,h2⟩⟩
  ·cases z
 have ah: ∀b,OwnA (vs.map some) (gC args δ') b->OwnA σ' δ' b:=fun b ⟨i,d,h1,h2⟩=>by
  obtain⟨⟨e,q1,q2⟩,_⟩:=aw i b ⟨d,h1,h2⟩;exact⟨i,e,q1,q2⟩
 have owA2: ∀b,OwnA (vs.map some) (gC args δ') b->OwnA (vs.map some) (args.map some) b:=fun b ⟨i,d,h1,h2⟩=>by
  obtain⟨_,⟨e,q1,q2⟩⟩:=aw i b ⟨d,h1,h2⟩;exact⟨i,e,q1,q2⟩
 have kp: ∀a o,H a=some o-> ¬OwnA (vs.map some) (args.map some) a->H' a=some o:=fun a o e n=>S.kp a o e fun z=>n (HD.mp z);refine⟨⟨?_,fun i d h=>?_,fun i d h=>?_,fun i j d e a h1 h2 h3 h4=>?_,fun a z=>E'.nT a (ah a z),E'.dom⟩,ah,⟨kp,fun i a z=>(aw i a z).2,S.dm⟩⟩
 ·simp[gC,len]
 ·have hi:i<vs.length:=by
   have:=(wz.mp h).1;simp[gC] at this;omega
  have hv:vs[i]?=some vs[i]:=hX hi;rcases outI i d false h with⟨e,h3,h4⟩|⟨_,h3⟩
  ·obtain⟨w,w1,w2⟩:=E'.val i d h4;rw[here i e _ h3 hv] at w1;cases w1;exact⟨_,qO.mpr hv,Rep.mono (fun _ _ e _=>e) (fun b _ z=>z.imp (ah b) id) w2⟩
  ·obtain⟨w,w1,w2⟩:=E.val i d (qO.mpr h3);exact⟨w,w1,Rep.mono (fun b o e n=>kp b o e fun z=>n (.inl z)) (fun b hb z=>z.imp (owA2 b) (hT b hb)) w2⟩
 ·have hi:i<vs.length:=by
   have:=(wz.mp h).1;simp[gC] at this;omega
  have hv:vs[i]?=some vs[i]:=hX hi;rcases outI i d true h with⟨e,h3,h4⟩|⟨z,_⟩
  ·obtain⟨w,w1,w2⟩:=E'.own i d h4;rw[here i e _ h3 hv] at w1;have w1':vs[i]=V.ref w:=by simpa using w1
   exact⟨w,by rw[<-w1'];exact qO.mpr hv,w2.mono (fun _ _ e _=>e) (fun b _ z=>z.imp (ah b) id) fun _ e=>e⟩
  ·cases z
 ·obtain⟨_,⟨d1,q1,q2⟩⟩:=aw i a ⟨d,h1,h3⟩;obtain⟨_,⟨d2,q3,q4⟩⟩:=aw j a ⟨e,h2,h4⟩;exact E.inj i j d1 d2 a q1 q3 q2 q4
theorem qV(E:ER K H T (vs.map some) (args.map some))(S:SK A (vs.map some++List.replicate m none) (args.map some++List.replicate m none) H σ' δ' H')(hA: ∀(i:Nat) d,args[i]?=some (d,true)-> ¬A i)
  (R:RV K T H r σ' δ' v H'):Post K T (vs.map some) (args.map some) H r (gC args δ') v H':=by
 obtain⟨d,b⟩:=r
 cases b with
 |false=>
  obtain⟨E',rv⟩:=R;obtain⟨E2,ow,kp⟩:=Gq E S hA E' (fun _ _ z=>z);exact⟨kp,E2,Rep.mono (fun _ _ e _=>e) (fun b _ z=>z.imp (ow b) id) rv⟩
 |true=>
  obtain⟨p,rfl,hp,E',ok⟩:=R;obtain⟨E2,ow,kp⟩:=Gq E S hA E' (fun b hb z=>z.elim id fun z=>by subst z;exact absurd hp hb);exact⟨kp,p,rfl,hp,E2,ok.mono (fun _ _ e _=>e) (fun b _ z=>z.imp (ow b) id) fun _ e=>e⟩
end
section
variable {P:gA}{w:gu}{K:gq}{mg:kM}{base:gD}{N:gZ}{m:Nat}{asg:hU}{fs:FS}{vs:List V}{H:Hp}{Q:VK}{E:XK}
theorem Mv(h:spF K (evF N.length m asg fs) vs H Q E):vs.length=m:=by
 obtain⟨T,args,r,outs,E0,e,_⟩:=h;unfold evF at e;split at e
 ·rename_i hc;have:=E0.len;simp at this;rw[this];exact hc.1
 ·cases e
theorem OY(h:spF K (evF N.length m asg fs) vs H Q E): ∃L:Nat->Prop,(∀i,L i->i<m)/\tS K (fun i=>i∈asg) L H fs {nx:=fun _ H'=>Q .non H',rt:=Q} (L2.sY N vs) H:=by
 obtain⟨T,args,r,outs,E0,e,kq⟩:=h;unfold evF at e;split at e
 ·rename_i hc;obtain⟨h1,h2,h3⟩:=hc;have hlen:vs.length=args.length:=by simpa using E0.len
  refine⟨fun i=> ∃d,args[i]?=some (d,true),fun i ⟨d,hd⟩=>by have:=(wz.mp hd).1;omega,?_⟩;have u3:L2.sY N vs=vs.map some++List.replicate (N.length-m) none:=by unfold L2.sY;rw[hlen,h1]
  have hA: ∀(i:Nat) d,args[i]?=some (d,true)-> ¬(i∈asg):=fun i d hd hm=>by
   have hz:(args.zipIdx)[i]?=some ((d,true),i):=by rw[D5,hd];simp
   have:=kZ.mp h3 _ (uQ hz);simp at this;exact this hm
  rw[u3]
  have fi:FI (fun i=> ∃d,args[i]?=some (d,true)) H (vs.map some++List.replicate (N.length-m) none) (args.map some++List.replicate (N.length-m) none) H:=⟨fun i a z=>by
   obtain⟨d,q1,_⟩:=Iy.mp z;exact .inl ⟨d,qO.mp q1⟩,fun _ z=>z⟩
  cases hf:fs (args.map some++List.replicate (N.length-m) none) with
  |none=>rw[hf] at e;cases e
  |some out=>
   rw[hf] at e;refine⟨_,T,out,E0.pad,fi,hf,?_⟩
   cases out with
   |rt r1 δ1=>
    obtain⟨rfl,rfl⟩:=gp e;exact fun v σ' H' S1 R1=>kq v H' (qV E0 S1 hA R1)
   |nx δ1=>
    obtain⟨rfl,rfl⟩:=gp e;exact fun σ' H' S1 E1=>kq .non H' (qV (r:=(.non,false)) E0 S1 hA ⟨E1,Rep.mkNon⟩)
   |bk δ1=>cases e
   |ct δ1=>cases e
 ·cases e
theorem Rc{x qual:Str}{st:Stmt}{f:fR}{fd:mZ}{ps:gZ}{k:Nat}(F:Fun K x qual st f fd)(S:FnScope N ps (gb st))
  (y3: ∀(d8:gg) (A:gw) (outer:List Env) (s:fW) (H:Hp) (E:XK) (L:iu),(∀i,L i->i<ps.length)->Room k (A.deeper (envOfC qual (gb st) s.heap.objs.size f d8))->
   Ce (Dt CX0 P w K mg base N qual (gb st) f d8 A outer s H E).nox (fun i=>i∈asg) L H (mD st) fs):FnOk P w K mg base CX0 (k+1) f fd ps (spF K (evF N.length ps.length asg fs)):=
 F.ok S (fun vs H Q E h=>Mv h) fun d8 A outer s H vs Q E hr h=>let⟨L,h1,h2⟩:=OY h;⟨_,y3 d8 A outer s H E L h1 hr,h2⟩
end
noncomputable def wd(δ:Dn):Opd->Option (D×Bool)
 | .val r=>some (r.1,false)
 | .slot i=>(δ[i]?).join
noncomputable def iR(δ:Dn):List Opd->Option (List (D×Bool))
 |[]=>some []
 |o::os=>(wd δ o).bind fun a=>(iR δ os).bind fun l=>some (a::l)
noncomputable def gv:List Opd->List (D×Bool)->List Nat
 | .slot i::os,(_,true)::as=>i::gv os as
 |_::os,_::as=>gv os as
 |_,_=>[]
noncomputable def wb:List Opd->List (D×Bool)->Dn->Dn->Dn
 | .slot i::os,(_,true)::as,o::outs,δ=>wb os as outs (δ.set i o)
 |_::os,_::as,_::outs,δ=>wb os as outs δ
 |_,_,_,δ=>δ
noncomputable def fV(ev:EvF)(fs:List FO):F:=fun δ=>(iV fs δ).bind fun p=>(iR p.2 p.1).bind fun args=>if(gv p.1 args).Nodup then(ev args).bind fun q=>some (q.1,wb p.1 args q.2 p.2) else none
theorem lA{δ:Dn}: ∀{os:List Opd} {as:List (D×Bool)},iR δ os=some as->as.length=os.length/\ ∀(j:Nat) a,as[j]?=some a-> ∃o,os[j]?=some o/\wd δ o=some a
 |[],as,h=>by cases h;exact⟨rfl,fun j d h=>by simp at h⟩
 |o::os,as,h=>by
  unfold iR at h;obtain⟨d,h1,h⟩:=fN h;obtain⟨l,h2,h⟩:=fN h;cases h;obtain⟨h3,h4⟩:=lA h2;refine⟨by simp[h3],fun j e he=>?_⟩
  cases j with
  |zero=>simp at he;subst he;exact⟨o,rfl,h1⟩
  |succ j=>
   obtain⟨o',q1,q2⟩:=h4 j e (by simpa using he);exact⟨o',by simpa using q1,q2⟩
theorem qM: ∀{os:List Opd} {as:List (D×Bool)} {j i:Nat} {d:D},os[j]?=some (.slot i)->as[j]?=some (d,true)->i∈gv os as
 |[],_,_,_,_,h,_=>by simp at h
 |_::_,[],_,_,_,_,h=>by simp at h
 |o::os,(e,b)::as,0,i,d,h1,h2=>by
  simp at h1 h2;obtain⟨rfl,rfl⟩:=h2;subst h1;simp[gv]
 |o::os,(e,b)::as,j+1,i,d,h1,h2=>by
  have ih:=qM (os:=os) (as:=as) (j:=j) (i:=i) (d:=d) (by simpa using h1) (by simpa using h2)
  cases o with
  |val r=>simpa[gv] using ih
  |slot k=>
   cases b with
   |true=>simp[gv,ih]
   |false=>simpa[gv] using ih
theorem Ab: ∀{os:List Opd} {as:List (D×Bool)} {i:Nat},i∈gv os as-> ∃(j:Nat) (d:D),os[j]?=some (.slot i)/\as[j]?=some (d,true)
 |[],_,_,h=>by simp[gv] at h
 |o::_,[],_,h=>by cases o<;>simp[gv] at h
 |o::os,(e,b)::as,i,h=>by
  have bS:i∈gv os as-> ∃(j:Nat) (d:D),(o::os)[j]?=some (.slot i)/\((e,b)::as)[j]?=some (d,true):=fun h=>by
   obtain⟨j,d,h1,h2⟩:=Ab h;exact⟨j+1,d,by simpa using h1,by simpa using h2⟩
  cases o with
  |val r=>exact bS (by simpa[gv] using h)
  |slot k=>
   cases b with
   |true=>
    simp[gv] at h;rcases h with rfl|h
    ·exact⟨0,e,rfl,rfl⟩
    ·exact bS h
   |false=>exact bS (by simpa[gv] using h)
theorem Ac: ∀{os:List Opd} {as:List (D×Bool)} {j k i:Nat} {d e:D},(gv os as).Nodup->os[j]?=some (.slot i)->as[j]?=some (d,true)->os[k]?=some (.slot i)->as[k]?=some (e,true)->j=k
 |[],_,_,_,_,_,_,_,h,_,_,_=>by simp at h
 |_::_,[],_,_,_,_,_,_,_,h,_,_=>by simp at h
 |o::os,(e0,b)::as,j,k,i,d,e,nd,h1,h2,h3,h4=>by
  cases j with
  |zero=>
   cases k with
   |zero=>rfl
   |succ k=>
    simp at h1 h2;obtain⟨rfl,rfl⟩:=h2;subst h1;have:=qM (os:=os) (as:=as) (j:=k) (by simpa using h3) (by simpa using h4);simp[gv] at nd;exact absurd this nd.1
  |succ j=>
   cases k with
   |zero=>
    simp at h3 h4;obtain⟨rfl,rfl⟩:=h4;subst h3;have:=qM (os:=os) (as:=as) (j:=j) (by simpa using h1) (by simpa using h2);simp[gv] at nd;exact absurd this nd.1
   |succ k=>
    have cN:(gv os as).Nodup:=by
     cases o with
     |val r=>simpa[gv] using nd
     |slot m=>
      cases b with
      |true=>simp[gv] at nd;exact nd.2
      |false=>simpa[gv] using nd
    have:=Ac (os:=os) (as:=as) (j:=j) (k:=k) cN (by simpa using h1) (by simpa using h2) (by simpa using h3) (by simpa using h4);omega
theorem xw: ∀{os:List Opd} {as:List (D×Bool)} {outs δ:Dn} {i:Nat},i∉gv os as->(wb os as outs δ)[i]?=δ[i]?
 |[],_,_,_,_,_=>by simp[wb]
 |o::_,[],_,_,_,_=>by cases o<;>simp[wb]
 |o::os,(e,b)::as,[],_,_,_=>by cases o<;>cases b<;>simp[wb]
 |o::os,(e,b)::as,x::outs,δ,i,h=>by
  cases o with
  |val r=>simp only[wb];exact xw (by simpa[gv] using h)
  |slot k=>
   cases b with
   |true=>
    simp[gv] at h;rw[wb,xw h.2,pO (rl h.1)]
   |false=>simp only[wb];exact xw (by simpa[gv] using h)
theorem xx: ∀{os:List Opd} {as:List (D×Bool)} {outs δ:Dn},(wb os as outs δ).length=δ.length
 |[],_,_,_=>by simp[wb]
 |o::_,[],_,_=>by cases o<;>simp[wb]
 |o::os,(e,b)::as,[],_=>by cases o<;>cases b<;>simp[wb]
 |o::os,(e,b)::as,x::outs,δ=>by
  cases o with
  |val r=>simp only[wb];exact xx
  |slot k=>
   cases b with
   |true=>simp only[wb];rw[xx,rh]
   |false=>simp only[wb];exact xx
theorem FX: ∀{os:List Opd} {as:List (D×Bool)} {outs δ:Dn} {i j:Nat} {d:D} {x:Sl},(gv os as).Nodup->os[j]?=some (.slot i)->as[j]?=some (d,true)->outs[j]?=some x->i<δ.length->(wb os as outs δ)[i]?=some x
 |[],_,_,_,_,_,_,_,_,h,_,_,_=>by simp at h
 |o::_,[],_,_,_,_,_,_,_,_,h,_,_=>by simp at h
 |o::os,(e,b)::as,[],_,_,_,_,_,_,_,_,h,_=>by simp at h
 |o::os,(e,b)::as,y::outs,δ,i,0,d,x,nd,h1,h2,h3,hi=>by
  simp at h1 h2 h3;obtain⟨rfl,rfl⟩:=h2;subst h1;subst h3;simp[gv] at nd;rw[wb,xw nd.1,pv hi]
 |o::os,(e,b)::as,y::outs,δ,i,j+1,d,x,nd,h1,h2,h3,hi=>by
  have cN:(gv os as).Nodup:=by
   cases o with
   |val r=>simpa[gv] using nd
   |slot m=>
    cases b with
    |true=>simp[gv] at nd;exact nd.2
    |false=>simpa[gv] using nd
  cases o with
  |val r=>simp only[wb];exact FX cN (by simpa using h1) (by simpa using h2) (by simpa using h3) hi
  |slot k=>
   cases b with
   |true=>simp only[wb];exact FX cN (by simpa using h1) (by simpa using h2) (by simpa using h3) (by rw[rh];exact hi)
   |false=>simp only[wb];exact FX cN (by simpa using h1) (by simpa using h2) (by simpa using h3) hi
section
variable {K:gq}{T T1:AP'}{σ:L2.St}{δ δ1:Dn}{H H1 H':Hp}{os:List Opd}{vs:List V}{args:List (D×Bool)}{outs:Dn}{r:D×Bool}{v:V}
noncomputable def Tc(T:AP')(σ:L2.St)(δ1:Dn)(vs:List V)(args:List (D×Bool)):AP':=fun a=>T a\/(OwnA σ δ1 a/\ ¬OwnA (vs.map some) (args.map some) a)
theorem tR(B:Ops K T σ δ H os vs δ1 H1 T1)(ha:iR δ1 os=some args){j:Nat}{d:D}(h:args[j]?=some (d,true)): ∃(i:Nat) (a:fR),os[j]?=some (.slot i)/\δ1[i]?=some (some (d,true))/\vs[j]?=some (.ref a)/\σ[i]?=some (some (.ref a)):=by
 obtain⟨hl,hg⟩:=lA ha;obtain⟨o,h1,h2⟩:=hg j _ h
 cases o with
 |val r=>cases h2
 |slot i=>
  have h3:δ1[i]?=some (some (d,true)):=ox h2;have hj:j<vs.length:=by have:=(wz.mp h1).1;have:=B.len;omega
  have hv:vs[j]?=some vs[j]:=hX hj;have h4:=B.slt j i _ h1 hv;obtain⟨a,h5,_⟩:=B.er.own i d h3;rw[h4] at h5;have:vs[j]=V.ref a:=by simpa using h5
  exact⟨i,a,h1,h3,by rw[hv,this],by rw[h4,this]⟩
theorem Ad(B:Ops K T σ δ H os vs δ1 H1 T1)(ha:iR δ1 os=some args){j:Nat}{a:fR}(h:OwnI (vs.map some) (args.map some) j a): ∃(i:Nat) (d:D),os[j]?=some (.slot i)/\args[j]?=some (d,true)/\OwnI σ δ1 i a:=by
 obtain⟨d,h1,h2⟩:=h;have h1':=qO.mp h1;obtain⟨i,b,q1,q2,q3,q4⟩:=tR B ha h1';have:=qO.mp h2;rw[q3] at this;cases this;exact⟨i,d,q1,h1',d,q2,q4⟩
theorem C4(B:Ops K T σ δ H os vs δ1 H1 T1)(ha:iR δ1 os=some args)(h:OwnA (vs.map some) (args.map some) a):OwnA σ δ1 a:=by
 obtain⟨j,d,h1,h2⟩:=h;obtain⟨i,_,_,_,e,q1,q2⟩:=Ad B ha ⟨d,h1,h2⟩;exact⟨i,e,q1,q2⟩
theorem BY(E:ER K H T σ δ)(B:Ops K T σ δ H os vs δ1 H1 T1)(ha:iR δ1 os=some args)(nd:(gv os args).Nodup):ER K H1 (Tc T σ δ1 vs args) (vs.map some) (args.map some):=by
 obtain⟨hl,hg⟩:=lA ha
 have sub: ∀b,(OwnA (vs.map some) (args.map some) b\/Tc T σ δ1 vs args b)->OwnA σ δ1 b\/T b:=fun b z=>by
  rcases z with z|z|z
  ·exact .inl (C4 B ha z)
  ·exact .inr z
  ·exact .inl z.1
 refine⟨by simp[hl,B.len],fun j d h=>?_,fun j d h=>?_,fun j k d e a h1 h2 h3 h4=>?_,fun a z t=>?_,fun a z=>?_⟩
 ·have h:=qO.mp h;obtain⟨o,h1,h2⟩:=hg j _ h;have hj:j<vs.length:=by have:=(wz.mp h1).1;have:=B.len;omega
  have hv:vs[j]?=some vs[j]:=hX hj;refine⟨_,qO.mpr hv,?_⟩
  cases o with
  |val q=>
   have:q.1=d:=by cases h2;rfl
   subst this;exact Rep.mono (fun _ _ e _=>e) (fun b _ z=>sub b z) (B.rep E h1 hv)
  |slot i=>
   have h3:δ1[i]?=some (some (d,false)):=ox h2;have h4:=B.slt j i _ h1 hv;obtain⟨w,w1,w2⟩:=B.er.val i d h3;rw[h4] at w1;have:vs[j]=w:=by simpa using w1
   rw[this];exact Rep.mono (fun _ _ e _=>e) (fun b _ z=>(sub b z).imp id (B.tt b)) w2
 ·obtain⟨i,a,q1,q2,q3,q4⟩:=tR B ha (qO.mp h);obtain⟨b,h5,h6⟩:=B.er.own i d q2;rw[q4] at h5;cases h5;exact⟨a,qO.mpr q3,h6.mono (fun _ _ e _=>e) (fun b _ z=>(sub b z).imp id (B.tt b)) fun _ e=>e⟩
 ·obtain⟨i,d1,q1,q2,e1,q3,q4⟩:=Ad B ha ⟨d,h1,h3⟩;obtain⟨i2,d2,g1,g2,e2,g3,g4⟩:=Ad B ha ⟨e,h2,h4⟩;have:=B.er.inj i i2 e1 e2 a q3 g3 q4 g4;subst this;exact Ac nd q1 q2 g1 g2
 ·rcases t with t|t
  ·exact B.er.nT a (C4 B ha z) (B.tt a t)
  ·exact t.2 z
 ·rcases z with z|z
  ·exact B.er.dom a (B.tt a z)
  ·exact B.er.ownOw z.1
theorem GX{T' Td:AP'}(E:ER K H T σ δ)(B:Ops K T σ δ H os vs δ1 H1 T1)(ha:iR δ1 os=some args)(nd:(gv os args).Nodup)(kC:Keep (vs.map some) (args.map some) H1 outs H')
  (E':ER K H' Td (vs.map some) outs)(t1: ∀b,Tc T σ δ1 vs args b->Td b)(t2: ∀b,T' b->Td b)(t3: ∀b,H1 b≠none->T' b->T b):
  ER K H' T' σ (wb os args outs δ1)/\(∀b,OwnA σ (wb os args outs δ1) b->OwnA (vs.map some) outs b\/Tc T σ δ1 vs args b)/\Keep σ δ1 H1 (wb os args outs δ1) H':=by
 obtain⟨hl,hg⟩:=lA ha;have ol:outs.length=args.length:=by have:=E'.len;have:=B.len;simp at*;omega
 have au: ∀(i:Nat) (x:Sl),(wb os args outs δ1)[i]?=some x->(i∉gv os args/\δ1[i]?=some x)\/ ∃(j:Nat) (d:D),os[j]?=some (.slot i)/\args[j]?=some (d,true)/\outs[j]?=some x:=fun i x h=>by
  by_cases hm:i∈gv os args
  ·right;obtain⟨j,d,h1,h2⟩:=Ab hm;have hj:j<outs.length:=by have:=(wz.mp h2).1;omega
   have ho:outs[j]?=some outs[j]:=hX hj;have hi:i<δ1.length:=by have:=(wz.mp h).1;rwa [xx] at this
   have:=FX (δ:=δ1) nd h1 h2 ho hi;rw[h] at this;cases this;exact⟨j,d,h1,h2,ho⟩
  ·left;rw[xw hm] at h;exact⟨hm,h⟩
 have notL: ∀{i:Nat} {a:fR},i∉gv os args->OwnI σ δ1 i a-> ¬OwnA (vs.map some) (args.map some) a:=fun {i a} hm ⟨e,q1,q2⟩ ⟨j,d,h1,h2⟩=>by
  obtain⟨i2,d2,g1,g2,e2,g3,g4⟩:=Ad B ha ⟨d,h1,h2⟩;have:=B.er.inj i i2 e e2 a q1 g3 q2 g4;subst this;exact hm (qM g1 g2)
 have aw: ∀i a,OwnI σ (wb os args outs δ1) i a->OwnI σ δ1 i a/\(OwnA (vs.map some) outs a\/Tc T σ δ1 vs args a):=fun i a ⟨d,h1,h2⟩=>by
  rcases au i _ h1 with⟨hm,h3⟩|⟨j,e,g1,g2,g3⟩
  ·exact⟨⟨d,h3,h2⟩,.inr (.inr ⟨⟨i,d,h3,h2⟩,notL hm ⟨d,h3,h2⟩⟩)⟩
  ·obtain⟨i2,b,q1,q2,q3,q4⟩:=tR B ha g2;rw[g1] at q1;cases q1;rw[h2] at q4;cases q4;exact⟨⟨e,q2,h2⟩,.inl ⟨j,d,g3,qO.mpr q3⟩⟩
 have ah: ∀b,OwnA σ (wb os args outs δ1) b->OwnA (vs.map some) outs b\/Tc T σ δ1 vs args b:=fun b ⟨i,d,h1,h2⟩=>(aw i b ⟨d,h1,h2⟩).2
 have dk: ∀b,OwnA σ (wb os args outs δ1) b->OwnA σ δ1 b:=fun b ⟨i,d,h1,h2⟩=>by
  obtain⟨⟨e,q1,q2⟩,_⟩:=aw i b ⟨d,h1,h2⟩;exact⟨i,e,q1,q2⟩
 have kp: ∀a o,H1 a=some o-> ¬OwnA σ δ1 a->H' a=some o:=fun a o e n=>kC.kp a o e fun z=>n (C4 B ha z)
 have subO: ∀b,(OwnA σ (wb os args outs δ1) b\/T' b)->OwnA (vs.map some) outs b\/Td b:=fun b z=>by
  rcases z with z|z
  ·exact(ah b z).imp id (t1 b)
  ·exact .inr (t2 b z)
 refine⟨⟨by rw[xx];exact B.er.len,fun i d h=>?_,fun i d h=>?_,fun i k d e a h1 h2 h3 h4=>?_,fun a z t=>?_,fun a z=>E'.dom a (t2 a z)⟩,ah,⟨kp,fun i a z=>(aw i a z).1,kC.dm⟩⟩
 ·rcases au i _ h with⟨hm,h3⟩|⟨j,e,g1,g2,g3⟩
  ·obtain⟨w,w1,w2⟩:=B.er.val i d h3;exact⟨w,w1,Rep.mono (fun b o e n=>kp b o e fun z=>n (.inl z)) (fun b hb z=>z.imp (dk b) fun z=>B.tt b (t3 b hb z)) w2⟩
  ·obtain⟨i2,b,q1,q2,q3,q4⟩:=tR B ha g2;rw[g1] at q1;cases q1;obtain⟨w,w1,w2⟩:=E'.val j d g3;have:=qO.mp w1;rw[q3] at this;cases this;exact⟨_,q4,Rep.mono (fun _ _ e _=>e) (fun b _ z=>subO b z) w2⟩
 ·rcases au i _ h with⟨hm,h3⟩|⟨j,e,g1,g2,g3⟩
  ·obtain⟨a,w1,w2⟩:=B.er.own i d h3;exact⟨a,w1,w2.mono (fun b o e n=>kp b o e fun z=>n (.inl z)) (fun b hb z=>z.imp (dk b) fun z=>B.tt b (t3 b hb z)) fun o e=>kC.kp a o e (notL hm ⟨d,h3,w1⟩)⟩
  ·obtain⟨i2,b,q1,q2,q3,q4⟩:=tR B ha g2;rw[g1] at q1;cases q1;obtain⟨a,w1,w2⟩:=E'.own j d g3;have:=qO.mp w1;rw[q3] at this;cases this;exact⟨_,q4,w2.mono (fun _ _ e _=>e) (fun b _ z=>subO b z) fun _ e=>e⟩
 ·obtain⟨⟨e1,q1,q2⟩,_⟩:=aw i a ⟨d,h1,h3⟩;obtain⟨⟨e2,q3,q4⟩,_⟩:=aw k a ⟨e,h2,h4⟩;exact B.er.inj i k e1 e2 a q1 q3 q2 q4
 ·exact B.er.nT a (dk a z) (B.tt a (t3 a (B.er.ownDom (dk a z)) t))
theorem yM(E:ER K H T σ δ)(B:Ops K T σ δ H os vs δ1 H1 T1)(ha:iR δ1 os=some args)(nd:(gv os args).Nodup)(P:Post K (Tc T σ δ1 vs args) (vs.map some) (args.map some) H1 r outs v H'):
  Post K T σ δ H r (wb os args outs δ1) v H':=by
 obtain⟨d,b⟩:=r
 cases b with
 |false=>
  obtain⟨kC,E',rv⟩:=P;obtain⟨E2,ow,k2⟩:=GX (T':=T) E B ha nd kC E' (fun _ z=>z) (fun _ z=> .inl z) (fun _ _ z=>z);refine⟨B.keep.trans k2,E2,Rep.mono (fun _ _ e _=>e) (fun b _ z=>?_) rv⟩;rcases z with z|z
  ·exact ow b z
  ·exact .inr (.inl z)
 |true=>
  obtain⟨kC,p,rfl,hp,E',ok⟩:=P;obtain⟨E2,ow,k2⟩:=GX (T':=fun a=>T a\/a=p) E B ha nd kC E' (fun _ z=> .inl z) (fun b z=>z.elim (fun z=> .inl (.inl z)) .inr) (fun b hb z=>z.elim id fun z=>by subst z;exact absurd hp hb);refine⟨B.keep.trans k2,p,rfl,?_,E2,ok.mono (fun _ _ e _=>e) (fun b _ z=>?_) fun _ e=>e⟩
  ·cases hH:H p with
   |none=>rfl
   |some ob=>exact absurd hp (B.keep.dm p (by rw[hH];simp))
  ·rcases z with z|z|z
   ·exact(ow b z).imp id .inl
   ·exact .inr (.inl (.inl z))
   ·exact .inr (.inr z)
end
section
variable {X:Cx}{e:gf}{es:iL}{fs:List FO}{pos p:Pos}{k:Nat}{f:fR}{fd:mZ}{ps:gZ}{ev:EvF}{x:Str}
theorem MF(F:FnOk X.prog X.w X.K X.mg X.base CX0 k f fd ps (spF X.K ev))(hr:Room k X.A)(hg:Gl X x)(hm:X.mg x=some (.ref f))(hk:PySem.W.keepIn X.K (.ref f)=true)(hb:Binds X.K fd ps [])
  (ha:PA X (e::es) (tA X.K fs))(m8:(x==("__debug__":Str))=false)(he:starEach (e::es) X.env=(false,eval e X.env)::starEach es X.env)(j7:(backTo pos (starEach es X.env)).any (·.1)=false):
  PX X (.Call (.Name x p) (e::es) [] pos) (fV ev fs):=PX.imp (Nj F hr hg hm hk hb (.nil) Sy ha m8 he j7) fun σ H Q hw=>by
 obtain⟨δ,T,rr,δ',E,e,k⟩:=hw;obtain⟨⟨os,δ1⟩,h1,e⟩:=fN e;obtain⟨args,h2,e⟩:=fN e;dsimp only at e;split at e
 ·rename_i nd;obtain⟨⟨r,outs⟩,h3,e⟩:=fN e;obtain⟨rfl,rfl⟩:=gp e;refine⟨δ,T,os,δ1,E,h1,fun vs H1 T1 B=>?_⟩;show spF X.K ev (vs++[]) H1 Q E0;rw[xn];exact⟨Tc T σ δ1 vs args,args,r,outs,BY E B h2 nd,h3,fun v H' P=>k v H' (yM E B h2 nd P)⟩
 ·cases e
end
structure SKd(A:iu)(d:fR)(σ:L2.St)(δ:Dn)(H:Hp)(σ':L2.St)(δ':Dn)(H':Hp):Prop where
 kp: ∀a o,H a=some o-> ¬OwnA σ δ a->a≠d->H' a=some o
 owi: ∀i a,OwnI σ' δ' i a->OwnI σ δ i a\/H a=none
 dm: ∀a,H a≠none->H' a≠none
 as: ∀i,¬A i->σ'[i]?=σ[i]?
section
variable {A:iu}{d:fR}{σ σ1 σ2:L2.St}{δ δ1 δ2:Dn}{H H1 H2:Hp}
theorem SK.skd(k:SK A σ δ H σ1 δ1 H1):SKd A d σ δ H σ1 δ1 H1:=⟨fun a o e n _=>k.kp a o e n,k.owi,k.dm,k.as⟩
theorem SKd.ow(k:SKd A d σ δ H σ1 δ1 H1)(a:fR)(h:OwnA σ1 δ1 a):OwnA σ δ a\/H a=none:=by
 obtain⟨i,e,h1,h2⟩:=h;rcases k.owi i a ⟨e,h1,h2⟩ with⟨e,h3,h4⟩|z
 ·exact .inl ⟨i,e,h3,h4⟩
 ·exact .inr z
theorem SKd.trans(x:SKd A d σ δ H σ1 δ1 H1)(y:SKd A d σ1 δ1 H1 σ2 δ2 H2):SKd A d σ δ H σ2 δ2 H2 where
 kp:=fun a o e n nd=>y.kp a o (x.kp a o e n nd) (fun z=>(x.ow a z).elim n fun z=>by rw[z] at e;cases e) nd
 owi:=fun i a z=>(y.owi i a z).elim (x.owi i a) fun z=> .inr (by
  cases h:H a with
  |none=>rfl
  |some o=>exact absurd z (x.dm a (by rw[h];simp)))
 dm:=fun a z=>y.dm a (x.dm a z)
 as:=fun i h=>(y.as i h).trans (x.as i h)
end
structure BS(K:gq)(d:fR)(T:AP')(σ:L2.St)(δ:Dn)(acc:List D)(H:Hp):Prop where
 er:ER K H T σ δ
 td:T d
 at': ∃ys,H d=some (.lst ys)/\RepL K H (fun a=>OwnA σ δ a\/T a) acc ys
abbrev FB:=List D->Dn->Option (List D×Dn)
def tBx(K:gq)(A:iu)(d:fR)(f:FB):TB:=fun σ H N=> ∃δ T acc i3 δ',BS K d T σ δ acc H/\f acc δ=some (i3,δ')/\ ∀σ' H',SKd A d σ δ H σ' δ' H'->BS K d T σ' δ' i3 H'->N σ' H'
noncomputable def gQ(f:F):FB:=fun acc δ=>(f δ).bind fun p=>if acc.length<sizeLine then some (acc++[p.1.1],p.2) else none
noncomputable def iP(tg:Tg)(ti:FT)(fb:FB):List D->FB
 |[],acc,δ=>some (acc,δ)
 |x::xs,acc,δ=>(tg x δ).bind fun δ1=>(ti δ1).bind fun p=>(if p.1=true then fb acc p.2 else some (acc,p.2)).bind fun q=>iP tg ti fb xs q.1 q.2
noncomputable def FH(fi:FIt)(tg:Tg)(ti:FT)(fb:FB):FB:=fun acc δ=>(fi δ).bind fun p=>iP tg ti fb p.1 acc p.2
section
variable {K:gq}{A:iu}{d:fR}{T:AP'}{σ σ1:L2.St}{δ δ1:Dn}{acc:List D}{H H1:Hp}
theorem BS.step(b:BS K d T σ δ acc H)(k:SK A σ δ H σ1 δ1 H1)(E1:ER K H1 T σ1 δ1):BS K d T σ1 δ1 acc H1:=by
 obtain⟨ys,h1,h2⟩:=b.at';refine⟨E1,b.td,ys,k.kp d _ h1 fun z=>b.er.nT d z b.td,RepL.mono (fun b o e n=>k.kp b o e fun z=>n (.inl z)) (fun c hc z=>?_) h2⟩;rcases z with z|z
 ·exact(k.ow c z).elim Or.inl fun z=>absurd z hc
 ·exact .inr z
theorem Gy(hg: ∀v σ H Q,tG K A tg v σ H Q->g v σ H Q)(hi: ∀σ H Q,tT K ft σ H Q->ti σ H Q)(hb: ∀σ H N,tBx K A d fb σ H N->tb σ H N)
  (b:BS K d T σ δ acc H)(P O:AP')(ok:ItOk K J ds P O H1)(s1: ∀a o,H1 a=some o-> ¬P a->H a=some o)(s0: ∀a,H1 a≠none->OwnA σ δ a\/a=d->P a)(s2: ∀a,H1 a≠none->(OwnA σ δ a\/T a)->O a)(s3: ∀a,H1 a≠none->H a≠none)(e:iP tg ft fb ds acc δ=some (i3,δ'))
  (k: ∀σ' H',SKd A d σ δ H σ' δ' H'->BS K d T σ' δ' i3 H'->N σ' H'):zL J g ti tb σ H N:=by
 refine⟨fun i m σ2 H2=>m=ds.length-i/\i<=ds.length/\ ∃δ2 p7,SKd A d σ δ H σ2 δ2 H2/\BS K d T σ2 δ2 p7 H2/\iP tg ft fb (ds.drop i) p7 δ2=some (i3,δ'),⟨ds.length,by simp,mJ _,δ,acc,SK.refl.skd,b,by simpa using e⟩,?_⟩;rintro i m σ2 H2 ⟨rfl,hle,δ2,p7,S2,B2,e2⟩
 have hO: ∀a,H1 a≠none->(OwnA σ2 δ2 a\/T a)->O a:=fun a ha z=>by
  rcases z with z|z
  ·exact(S2.ow a z).elim (fun z=>s2 a ha (.inl z)) fun z=>absurd z (s3 a ha)
  ·exact s2 a ha (.inr z)
 have v8: ∀a o,H1 a=some o-> ¬P a->H2 a=some o:=fun a o ea n=>S2.kp a o (s1 a o ea n) (fun z=>n (s0 a (by rw[ea];simp) (.inl z))) fun z=>n (s0 a (by rw[ea];simp) (.inr z));by_cases n9:i<ds.length
 ·refine .inr ?_;have hd:ds[i]?=some ds[i]:=hX n9;obtain⟨go,yl⟩:=ok.go i _ H2 hd v8;rw[sL n9] at e2;obtain⟨δ3,h3,e3⟩:=fN e2;obtain⟨⟨c,δ4⟩,h4,e4⟩:=fN e3;obtain⟨⟨aK,δ5⟩,h5,e5⟩:=fN e4;refine⟨go,fun x H' hy=>?_⟩;obtain⟨ext,rep⟩:=yl x H' hy;have cz:ER K H' T σ2 δ2:=B2.er.mono (fun b ob eb _=>ext b ob eb) (fun _ _ z=>z) (fun a z=>(B2.er.dom a z).up (ext a));have SX:SK A σ2 δ2 H2 σ2 δ2 H':=(Keep.ext ext).sk;have fM:=B2.step SX cz;have dc:SKd A d σ δ H σ2 δ2 H':=S2.trans SX.skd;have rx:=rep (fun a=>OwnA σ2 δ2 a\/T a) hO (fun b hb z=>z.elim (fun z=>B2.er.ownDom z hb) fun z=>(B2.er.dom b z).ne hb);refine hg _ _ _ _ ⟨δ2,T,ds[i],δ3,cz,rx,h3,fun σ3 S3 E3=>?_⟩;have B3:=fM.step S3 E3;have bD:=dc.trans S3.skd;refine hi _ _ _ ⟨δ3,T,c,δ4,E3,h4,fun H4 K4 E4=>?_⟩;have S4:SK A σ3 δ3 H' σ3 δ4 H4:=K4.sk;have B4:=B3.step S4 E4;have da:=bD.trans S4.skd
  cases c with
  |false=>
   rw[gk iM] at h5;obtain⟨rfl,rfl⟩:=gp h5;exact Q4 ⟨ds.length-(i+1),by omega,rfl,n9,δ4,p7,da,B4,e5⟩
  |true=>
   rw[gd rfl] at h5;exact Q3 (hb _ _ _ ⟨δ4,T,p7,aK,δ5,B4,h5,fun σ5 H5 S5 B5=>⟨ds.length-(i+1),by omega,rfl,n9,δ5,aK,da.trans S5,B5,e5⟩⟩)
 ·refine .inl ⟨ok.stop i H2 (by omega) v8,?_⟩;rw[uH (by omega)] at e2;obtain⟨rfl,rfl⟩:=gp e2;exact k σ2 H2 S2 B2
end
section
variable {X:Cx}{A:iu}{d:fR}{elt:gf}{f:F}
theorem PB.imp'{code:Sem Unit}{t t':TB}(h:PB X code t)(k: ∀σ H N,t' σ H N->t σ H N):PB X code t':=fun pins s σ H N I hw=>h pins s σ H N I (k σ H N hw)
theorem KS{gens:mH}{sc:iK}{p:Pos}{depth:Nat}(hn:gens[depth+1]?=none)(he:PX X elt f):PB X (gK (.ListComp elt gens sc p) depth (.ref d) X.env) (tBx X.K A d (gQ f)):=PB.imp' (Nm hn he) fun σ H N hw=>by
 obtain⟨δ,T,acc,i3,δ',B,e,k⟩:=hw;obtain⟨⟨r,δ1⟩,h1,e⟩:=fN e;obtain⟨hz,e⟩:=gP e;obtain⟨rfl,rfl⟩:=vL e;refine⟨δ,T,r,δ1,B.er,h1,fun v H1 P=>?_⟩;obtain⟨E1,rv⟩:=P.rep B.er;have S1:SK A σ δ H σ δ1 H1:=P.1.sk;have B1:=B.step S1 E1;obtain⟨ys,hy,ry⟩:=B1.at';refine⟨ys,hy,by rw[ry.length];exact hz,k σ _ ?_ ?_⟩
 ·have:SKd A d σ δ1 H1 σ δ1 (upd H1 d (.lst (ys++[v]))):=⟨fun a o e n nd=>by rw[gG nd];exact e,fun i a z=> .inl z,fun a z=>by
   by_cases ha:a=d
   ·subst ha;rw[gF];simp
   ·rw[gG ha];exact z,fun _ _=>rfl⟩
  exact S1.skd.trans this
 ·have hk: ∀b o,H1 b=some o-> ¬T b->upd H1 d (.lst (ys++[v])) b=some o:=fun b o e n=>by rw[gG (by intro z;subst z;exact n B.td)];exact e
  have hd: ∀a,T a->Ow (upd H1 d (.lst (ys++[v])) a):=fun a z=>by
   by_cases ha:a=d
   ·subst ha;rw[gF];trivial
   ·rw[gG ha];exact E1.dom a z
  refine⟨E1.mono hk (fun _ _ z=>z) hd,B.td,ys++[v],gF,?_⟩;exact RepL.mono (fun b o e n=>hk b o e fun z=>n (.inr z)) (fun _ _ z=>z) (ry.append (RepL.one rv))
theorem Nl{e:gf}{depth:Nat}{c:lY}{fi:FIt}{tg:Tg}{ft:FT}{fb:FB}(bW:X.xe=fun _ _=>False)(hc:X.calm=true)
  (hl:(∃elt gens sc p,e= .ListComp elt gens sc p)\/(∃elt gens sc p,e= .SetComp elt gens sc p))(hg:(clausesOf e)[depth+1]?=some c)(ha:c.is_async=0)(k0: ∀g',(clausesOf e)[depth+1+1]?=some g'->g'.is_async=0)
  (hs: ∀x,foldedSetIterable c.iter X.env x=pure x)(pi:PIX X (fun _=>False) c.target c.iter fi)(pg:PGX X A c.target tg)(av:PIf X c.ifs (tT X.K ft))(pb:PB X (gK e (depth+1) (.ref d) X.env) (tBx X.K A d fb)):
  PB X (gK e depth (.ref d) X.env) (tBx X.K A d (FH fi tg ft fb)):=PB.imp' (Qo bW hc hl hg ha k0 hs pi pg av pb) fun σ H N hw=>by
 obtain⟨δ,T,acc,i3,δ',B,e,k⟩:=hw;obtain⟨⟨ds,δ1⟩,h1,e⟩:=fN e;refine⟨δ,T,ds,δ1,B.er,h1,fun J H1 K1 E1 ok=>?_⟩;have S1:SK A σ δ H σ δ1 H1:=K1.sk;exact Gy (fun _ _ _ _ h=>h) (fun _ _ _ h=>h) (fun _ _ _ h=>h) (B.step S1 E1) _ _ ok (fun a o e _=>e) (fun a _ z=>z.elim (fun⟨i,x,z⟩=> .inl ⟨i,id,x,z⟩) fun z=> .inr (z▸B.td)) (fun a _ z=>z) (fun a z=>z) e fun σ' H' S' B'=>k σ' H' (S1.skd.trans S') B'
end
noncomputable def hJ(caps:hU)(k:Nat)(fi:FIt)(tg:Tg)(ti:FT)(fb:FB):F:=fun δ=>(fi δ).bind fun p=>(iR p.2 (caps.map .slot)).bind fun args=>
 if(gv (caps.map .slot) args).Nodup then(iP tg ti fb p.1 [] (args.map some++List.replicate k none)).bind fun q=>some ((.lst q.1,true),wb (caps.map .slot) args (gC args q.2) p.2) else none
noncomputable def yb(caps:hU)(k:Nat)(σ:L2.St):L2.St:=(caps.map fun j=>(σ[j]?).join)++List.replicate k none
theorem Dx{K:gq}{caps:hU}{k:Nat}{fi:FIt}{tg:Tg}{ti:FT}{fb:FB}{σ:L2.St}{H:Hp}{Q:VK}(h:tF K (hJ caps k fi tg ti fb) σ H Q):
  JL (tI K (fun i=>i∉caps) fi) (tG K (fun i=>caps.length<=i) tg) (tT K ti) (fun d=>tBx K (fun i=>caps.length<=i) d fb) (yb caps k) σ H Q:=by
 obtain⟨δ,T,rr,δr,E,e,kq⟩:=h;obtain⟨⟨ds,δ1⟩,h1,e⟩:=fN e;obtain⟨args,ha,e⟩:=fN e;dsimp only at e ha;split at e
 case isFalse=>cases e
 rename_i nd;obtain⟨⟨acc,δ'⟩,h2,e⟩:=fN e;obtain⟨rfl,rfl⟩:=gp e;refine⟨δ,T,ds,δ1,E,h1,fun J H1 K1 E1 ok d hd=>?_⟩;obtain⟨hl,hg⟩:=lA ha;have hl':args.length=caps.length:=by simpa using hl
 let vs:List V:=caps.map fun j=>((σ[j]?).join).getD .non
 have there: ∀(i j:Nat),caps[i]?=some j-> ∃v,σ[j]?=some (some v):=fun i j hj=>by
  have hi:i<args.length:=by have:=(wz.mp hj).1;omega
  obtain⟨o,q1,q2⟩:=hg i _ (hX hi);rw[jr,hj] at q1;cases q1;have q3:=ox q2;generalize args[i]=y at q3;obtain⟨x,b⟩:=y
  cases b with
  |false=>obtain⟨v,h,_⟩:=E1.val j x q3;exact⟨v,h⟩
  |true=>obtain⟨a,h,_⟩:=E1.own j x q3;exact⟨_,h⟩
 have cP: ∀(i j:Nat),caps[i]?=some j-> ∃v,vs[i]?=some v/\σ[j]?=some (some v):=fun i j hj=>by
  obtain⟨v,hv⟩:=there i j hj;refine⟨v,?_,hv⟩;show(caps.map fun j=>((σ[j]?).join).getD .non)[i]?=some v;rw[jr,hj];simp[hv]
 have w9:yb caps k σ=vs.map some++List.replicate k none:=by
  unfold yb
  congr 1
  apply rP;intro i;show _=((caps.map fun j=>((σ[j]?).join).getD .non).map some)[i]?;rw[jr,jr,jr]
  cases hj:caps[i]? with
  |none=>rfl
  |some j=>obtain⟨v,hv⟩:=there i j hj;simp[hv]
 have B0:Ops K T σ δ1 H1 (caps.map Opd.slot) vs δ1 H1 T:=by
  refine⟨by simp[vs],.refl,E1,fun _ z=>z,fun j x v hj=>?_,fun j x v hj=>?_,fun j i v hj hv=>?_⟩
  ·rw[jr] at hj;obtain⟨_,_,z⟩:=gU hj;cases z
  ·rw[jr] at hj;obtain⟨_,_,z⟩:=gU hj;cases z
  ·rw[jr] at hj;obtain⟨c,hc,z⟩:=gU hj;cases z;obtain⟨v',q1,q2⟩:=cP j i hc;rw[hv] at q1;cases q1;exact q2
 have Ec:=BY E1 B0 ha nd
 have hA: ∀(i:Nat) x,args[i]?=some (x,true)-> ¬(caps.length<=i):=fun i x hx=>by
  have:=(wz.mp hx).1;omega
 rw[w9];have hx:=jY (o:= .lst []) hd
 have nz: ∀a,H1 a≠none->upd H1 d (.lst []) a≠none:=fun a z=>by
  cases hh:H1 a with
  |none=>exact absurd hh z
  |some o=>rw[hx a o hh];simp
 have b0:BS K d (fun a=>Tc T σ δ1 vs args a\/a=d) (vs.map some++List.replicate k none) (args.map some++List.replicate k none) [] (upd H1 d (.lst [])):=by
  refine⟨(Ec.pad).mono (fun b o eb _=>hx b o eb) (fun b hb z=>z.elim id fun z=>by subst z;exact absurd hd hb) (fun a z=>?_),.inr rfl,[],gF,RepL.nil⟩;rcases z with z|z
  ·exact(Ec.dom a z).up (hx a)
  ·subst z;rw[gF];trivial
 refine Gy (fun _ _ _ _ h=>h) (fun _ _ _ h=>h) (fun _ _ _ h=>h) b0 _ _ ok (fun a o ea _=>hx a o ea) (fun a cu z=>?_) (fun a cu z=>?_) nz h2 fun σ' H2 S2 B2=>?_
 ·rcases z with z|z
  ·obtain⟨j,x,g1,g2⟩:=HD.mp z;obtain⟨i,_,q1,_,q3⟩:=Ad B0 ha ⟨x,g1,g2⟩;refine .inl ⟨i,fun n=>n ?_,q3⟩;rw[jr] at q1;obtain⟨c,hc,e⟩:=gU q1;cases e;exact uQ hc
  ·subst z;exact absurd hd cu
 ·rcases z with z|z|z
  ·exact .inl (C4 B0 ha (HD.mp z))
  ·rcases z with z|z
   ·exact .inr z
   ·exact .inl z.1
  ·subst z;exact absurd hd cu
 ·have SS:SK (fun i=>caps.length<=i) (vs.map some++List.replicate k none) (args.map some++List.replicate k none) H1 σ' δ' H2:=
   ⟨fun a o ea n=>S2.kp a o (hx a o ea) n (by intro z;subst z;rw[ea] at hd;cases hd),fun i a z=>(S2.owi i a z).imp id fun z=>by
    cases hh:H1 a with
    |none=>rfl
    |some o=>exact absurd z (nz a (by rw[hh];simp)),fun a z=>S2.dm a (nz a z),S2.as⟩
  obtain⟨ys,hy,ry⟩:=B2.at';have P:=qV (r:=(.lst acc,true)) (v:= .ref d) Ec SS hA ⟨d,rfl,hd,B2.er,ys,hy,RepL.mono (fun _ _ e _=>e) (fun b _ z=>z) ry⟩;exact kq (.ref d) H2 ((yM E1 B0 ha nd P).pre K1)
section
variable {X:Cx}{elt:gf}{c:lY}{gL:mH}{scope:iK}{pos d9 py:Pos}{N':gZ}{caps:hU}{k:Nat}{fi:FIt}{tg:Tg}{ti:FT}{fb:FB}{A L:iu}{H0:Hp}
structure CompOk(X:Cx)(N':gZ)(scope:iK)(caps:hU)(k:Nat):Prop where
 cell: ∀y∈scope.names,y.2= .cell->scope.names.lookup y.1=some .cell
 kind:scope.kind= .function
 names: ∀y∈scope.names,y.2= .local->scope.names.lookup y.1=some .local
 free: ∀y∈scope.names,y.2= .free->X.env.scope.names.lookup y.1=some .cell\/X.env.scope.names.lookup y.1=some .free
 len:caps.length+k=N'.length
 caps: ∀(i j:Nat) (x:Str),caps[i]?=some j->N'[i]?=some x->X.N[j]?=some x/\scope.names.lookup x=some .free
theorem CompOk.sco(C:CompOk X N' scope caps k):CompScope X N' scope (yb caps k):=by
 refine⟨C.cell,C.kind,C.names,C.free,fun σ=>by simp[yb,C.len],fun σ i v x h1 h2=>?_⟩;unfold yb at h1;by_cases hi:i<caps.length
 ·rw[Ej (by simpa using hi),jr,hX hi] at h1;obtain⟨q1,q2⟩:=C.caps i caps[i] x (hX hi) h2;refine⟨q2,caps[i],q1,?_⟩;have h3:(σ[caps[i]]?).join=some v:=by simpa using h1
  cases hs:σ[caps[i]]? with
  |none=>rw[hs] at h3;cases h3
  |some y=>rw[hs] at h3;exact nY some h3
 ·rw[Ek (by simpa using hi),List.getElem?_replicate] at h1;split at h1<;>cases h1
theorem MQ(C:CompOk X N' scope caps k)(hc:X.calm=true)(ha:c.is_async=0)(k0: ∀g',gL[0]?=some g'->g'.is_async=0)
  (hs: ∀x,foldedSetIterable c.iter X.env x=pure x)(pi:PIX X (fun i=>i∉caps) c.target c.iter fi)
  (t8: ∀(cl:jS) (C:fR) (s3:fW) (H3:Hp) (fp:iN) (pins:gE),let X':=X.comp N' scope cl C s3 H3 fp pins
   PGX X' (fun i=>caps.length<=i) c.target tg/\PIf X' c.ifs (tT X.K ti)/\ ∀d,PB X' (gK (.ListComp elt (c::gL) scope pos) 0 (.ref d) X'.env) (tBx X.K (fun i=>caps.length<=i) d fb)):
  PX X (.ListComp elt (c::gL) scope pos) (hJ caps k fi tg ti fb):=PX.imp (KN (g:=tG X.K (fun i=>caps.length<=i) tg) (ti:=tT X.K ti) (tb:=fun d=>tBx X.K (fun i=>caps.length<=i) d fb) C.sco hc ha k0 hs pi t8) fun σ H Q h=>Dx h
theorem Kp{y:Str}{i:Nat}(cQ:swapsWith (.ListComp elt (c::gL) scope pos) (some (.Name y py)) d9.line X.env=pure true)
  (C:CompOk X N' scope caps k)(hc:X.calm=true)(ha:c.is_async=0)(k0: ∀g',gL[0]?=some g'->g'.is_async=0)
  (hs: ∀x,foldedSetIterable c.iter X.env x=pure x)(pi:PIX X (fun i=>i∉caps) c.target c.iter fi)(dW:PG X (.Name y py) (Di i))(hA:A i)
  (t8: ∀(cl:jS) (C:fR) (s3:fW) (H3:Hp) (fp:iN) (pins:gE),let X':=X.comp N' scope cl C s3 H3 fp pins
   PGX X' (fun i=>caps.length<=i) c.target tg/\PIf X' c.ifs (tT X.K ti)/\ ∀d,PB X' (gK (.ListComp elt (c::gL) scope pos) 0 (.ref d) X'.env) (tBx X.K (fun i=>caps.length<=i) d fb)):
  PSX X A L H0 (.Assign [.Name y py] (.ListComp elt (c::gL) scope pos) d9) (js i (hJ caps k fi tg ti fb)):=PS.imp' (Ku (g:=tG X.K (fun i=>caps.length<=i) tg) (ti:=tT X.K ti) (tb:=fun d=>tBx X.K (fun i=>caps.length<=i) d fb) cQ C.sco hc ha k0 hs pi dW t8) fun D σ H hw=>by
 obtain⟨δ,T,out,E,fi,e,k⟩:=hw;obtain⟨⟨r,δ1⟩,h3,e⟩:=fN e;obtain⟨hi,rfl⟩:=gP e;refine Dx ⟨δ,T,r,δ1,E,h3,fun v H1 P=>?_⟩;obtain⟨h1,h2⟩:=sV (A:=A) E P hi hA;exact k _ H1 h1 h2
end
section
variable {K:gq}{T:AP'}{σ:L2.St}{δ:Dn}{H:Hp}{i:Nat}{l l':List D}{a:fR}{bG:List V}
theorem OwnI.write{j:Nat}{b:fR}(hd:δ[i]?=some (some (.lst l,true)))(h:OwnI σ (δ.set i (some (.lst l',true))) j b):OwnI σ δ j b:=by
 obtain⟨e,h1,h2⟩:=h;rcases jM h1 with⟨rfl,_,_⟩|⟨_,q⟩
 ·exact⟨_,hd,h2⟩
 ·exact⟨e,q,h2⟩
theorem ER.write(E:ER K H T σ δ)(hd:δ[i]?=some (some (.lst l,true)))(hs:σ[i]?=some (some (.ref a)))(r:RepL K H (fun b=>OwnA σ δ b\/T b) l' bG):
  ER K (upd H a (.lst bG)) T σ (δ.set i (some (.lst l',true)))/\Keep σ δ H (δ.set i (some (.lst l',true))) (upd H a (.lst bG)):=by
 have hi:i<δ.length:=(wz.mp hd).1;have oa:OwnA σ δ a:=⟨i,_,hd,hs⟩
 have ah: ∀b,OwnA σ (δ.set i (some (.lst l',true))) b->OwnA σ δ b:=fun b ⟨j,e,h1,h2⟩=>by
  obtain⟨e',q1,q2⟩:=OwnI.write hd ⟨e,h1,h2⟩;exact⟨j,e',q1,q2⟩
 have kp: ∀b o,H b=some o-> ¬(OwnA σ δ b\/T b)->upd H a (.lst bG) b=some o:=fun b o e n=>by rw[gG (by intro z;subst z;exact n (.inl oa))];exact e
 have dm: ∀b,H b≠none->upd H a (.lst bG) b≠none:=fun b z=>by
  by_cases hb:b=a
  ·subst hb;rw[gF];simp
  ·rw[gG hb];exact z
 have sub: ∀b,H b≠none->(OwnA σ (δ.set i (some (.lst l',true))) b\/T b)->OwnA σ δ b\/T b:=fun b _ z=>z.imp (ah b) id;refine⟨⟨by rw[rh];exact E.len,fun j e hj=>?_,fun j e hj=>?_,fun j k e f b hj hk h1 h2=>?_,fun b z=>E.nT b (ah b z),fun b z=>by have ne:b≠a:=fun e=>E.nT a oa (e▸z);rw[gG ne];exact E.dom b z⟩,⟨fun b o e n=>by rw[gG (by intro z;subst z;exact n oa)];exact e,fun j b z=>OwnI.write hd z,dm⟩⟩
 ·rcases jM hj with⟨_,_,q⟩|⟨_,q⟩
  ·cases q
  ·obtain⟨w,w1,w2⟩:=E.val j e q;exact⟨w,w1,Rep.mono kp sub w2⟩
 ·rcases jM hj with⟨rfl,_,q⟩|⟨ne,q⟩
  ·cases q;exact⟨a,hs,bG,gF,RepL.mono kp sub r⟩
  ·obtain⟨b,w1,w2⟩:=E.own j e q;refine⟨b,w1,w2.mono kp sub fun o eo=>?_⟩;rw[gG]
   ·exact eo
   ·intro z;subst z;exact ne (E.inj i j _ _ _ hd q hs w1)
 ·obtain⟨e1,q1,q2⟩:=OwnI.write hd ⟨e,hj,h1⟩;obtain⟨e2,q3,q4⟩:=OwnI.write hd ⟨f,hk,h2⟩;exact E.inj j k e1 e2 b q1 q3 q2 q4
end
noncomputable def lI(i:Nat)(f:F):F:=fun δ=>match δ[i]? with
 |some (some (.lst _,true))=>(f δ).bind fun p=>match p.2[i]? with
  |some (some (.lst l,true))=>if l.length<sizeLine then some ((.non,false),p.2.set i (some (.lst (l++[p.1.1]),true))) else none
  |_=>none
 |_=>none
noncomputable def sm(i:Nat)(f:FO):F:=fun δ=>match δ[i]? with
 |some (some (.lst _,true))=>(f δ).bind fun p=>match res p.2 p.1,p.2[i]? with
  |some (.int k),some (some (.lst l,true))=>if -(2^63)<=k/\k<2^63 then(ixN l.length k).bind fun j=>(l[j]?).bind fun d=>some ((d,false),p.2.set i (some (.lst (l.eraseIdx j),true))) else none
  |_,_=>none
 |_=>none
noncomputable def oM(i:Nat)(f:F)(g:FO):FS:=fun δ=>(f δ).bind fun p=>match p.2[i]? with
 |some (some _)=>(g p.2).bind fun q=>match res q.2 q.1,q.2[i]? with
  |some (.int k),some (some (.lst l,true))=>(ixN l.length k).bind fun j=>some (.nx (q.2.set i (some (.lst (l.set j p.1.1),true))))
  |_,_=>none
 |_=>none
section
variable {X:Cx}{e ix:gf}{f:F}{fo:FO}{pos b7 apos i5:Pos}{i:Nat}{x:Str}{A L:iu}{H0:Hp}
theorem RepL.erase{K H}{O:AP'}: ∀{l:List D} {vs:List V} (j:Nat),RepL K H O l vs->RepL K H O (l.eraseIdx j) (vs.eraseIdx j)
 |[],vs,j,h=>by rw[RepL] at h;subst h;simp[RepL]
 |d::l,vs,0,h=>by
  rw[RepL] at h;obtain⟨v,r,rfl,h1,h2⟩:=h;exact h2
 |d::l,vs,j+1,h=>by
  rw[RepL] at h;obtain⟨v,r,rfl,h1,h2⟩:=h;exact RepL.cons h1 (RepL.erase j h2)
theorem Hq(hv:PO X (.Name x b7) (fO i))(he:PX X e f)(j4:attributeBase (.Name x b7) "append" X.env (eval (.Name x b7) X.env)=eval (.Name x b7) X.env)
  (u5:((backTo i5 (starEach [e] X.env)).all (fun x=>!x.1)&&(backToKw i5 (keywordEach [] X.env)).all (fun x=>x.1.isSome)&&decide ([e].length+([]:List Keyword).length+(if([]:List Keyword).isEmpty then 0 else 1)<30))=true)
  (j0:(apos.endLine==i5.line)=true)(hs:starEach [e] X.env=(false,eval e X.env)::starEach [] X.env)(f7:(backTo i5 (starEach [] X.env)).any (·.1)=false):
  PX X (.Call (.Attribute (.Name x b7) "append" apos) [e] [] i5) (lI i f):=
 PX.imp (Ol D4 PySem.F.slot_list_append PySem.F.type_list_append HI hv (nB he rY hs) j4 u5 j0 hs f7) fun σ H Q hw=>by
 obtain⟨δ,T,rr,δ',E,e,k⟩:=hw;unfold lI at e;split at e
 ·rename_i l0 h0;obtain⟨⟨r,δ1⟩,h1,e⟩:=fN e;dsimp only at e;split at e
  ·rename_i l h2;obtain⟨hz,e⟩:=gP e;obtain⟨rfl,rfl⟩:=vL e;refine⟨δ,T,.slot i,δ,E,by unfold fO;rw[h0],fun v H1 P=>?_⟩;obtain⟨K1,E1,hσ⟩:=P;obtain⟨a,g1,dP,g2,g3⟩:=E1.own i _ h0;rw[hσ] at g1;cases g1;refine⟨.inl ⟨rfl,dP,SqL.of g2⟩,δ,T,r,δ1,E1,h1,fun y H2 P2=>?_⟩;obtain⟨E2,ry⟩:=P2.rep E1;obtain⟨a',q1,xs,q2,q3⟩:=E2.own i _ h2;rw[hσ] at q1;cases q1;refine⟨_,xs,y,rfl,rfl,q2,by rw[q3.length];exact hz,?_⟩;obtain⟨E3,K3⟩:=E2.write h2 hσ (q3.append (RepL.one ry));exact k _ _ (Post.val ((K1.trans P2.1).trans K3) E3 Rep.mkNon)
  ·cases e
 ·cases e
theorem Kk(hv:PO X (.Name x b7) (fO i))(he:PO X e fo)(j4:attributeBase (.Name x b7) "pop" X.env (eval (.Name x b7) X.env)=eval (.Name x b7) X.env)
  (u5:((backTo i5 (starEach [e] X.env)).all (fun x=>!x.1)&&(backToKw i5 (keywordEach [] X.env)).all (fun x=>x.1.isSome)&&decide ([e].length+([]:List Keyword).length+(if([]:List Keyword).isEmpty then 0 else 1)<30))=true)
  (j0:(apos.endLine==i5.line)=true)(hs:starEach [e] X.env=(false,eval e X.env)::starEach [] X.env)(f7:(backTo i5 (starEach [] X.env)).any (·.1)=false):
  PX X (.Call (.Attribute (.Name x b7) "pop" apos) [e] [] i5) (sm i fo):=
 PX.imp (Ol D4 Jf Je Lb hv (nB he rY hs) j4 u5 j0 hs f7) fun σ H Q hw=>by
 obtain⟨δ,T,rr,δ',E,e,k⟩:=hw;unfold sm at e;split at e
 ·rename_i l0 h0;obtain⟨⟨o,δ1⟩,h1,e⟩:=fN e;dsimp only at e;split at e
  ·rename_i kk l hk h2;split at e
   case isFalse=>cases e
   rename_i hb;obtain⟨j,hj,e⟩:=fN e;obtain⟨d,hd,e⟩:=fN e;obtain⟨rfl,rfl⟩:=gp e;refine⟨δ,T,.slot i,δ,E,by unfold fO;rw[h0],fun v H1 P=>?_⟩;obtain⟨K1,E1,hσ⟩:=P;obtain⟨a,g1,dP,g2,g3⟩:=E1.own i _ h0;rw[hσ] at g1;cases g1;refine⟨.inl ⟨rfl,dP,SqL.of g2⟩,δ,T,o,δ1,E1,h1,fun y H2 P2=>?_⟩;have B:=Ops.cons E1 P2 (Ops.nil (P2.er E1));have vy:=gx (B.view (j:=0) rfl rfl hk);have E2:ER X.K H2 T σ δ1:=B.er.mono (fun _ _ e _=>e) (fun b _ z=>B.tt b z) (fun a z=>B.er.dom a (B.tt a z));obtain⟨a',q1,xs,q2,q3⟩:=E2.own i _ h2;rw[hσ] at q1;cases q1;obtain⟨w,w1,w2⟩:=q3.get hd;have hl:=q3.length;have hj':ixN xs.length kk=some j:=by rw[hl];exact hj
   obtain⟨s1,s2,s3,s4⟩:=BH hj';obtain⟨E3,K3⟩:=E2.write h2 hσ (RepL.erase j q3);refine⟨_,xs,kk,j,w,rfl,by rw[vy],q2,hb.1,hb.2,s1,w1,?_⟩;exact k _ _ (Post.val ((K1.trans B.keep).trans K3) E3 (Rep.mono (fun b o e n=>K3.kp b o e fun z=>n (.inl z)) (fun b _ z=>z.imp (K3.ow b) id) w2))
  ·cases e
 ·cases e
theorem Hu{d9:Pos}(hv:PO X (.Name x b7) (fO i))(he:PX X e f)(hi:PO X ix fo)
  (ha: ∀v,assign (.Subscript (.Name x b7) ix d9) X.env v=(do
   let ov <-holding [v] (eval (.Name x b7) X.env)
   let iv <-holding [v,ov] (eval ix X.env)
   standAt d9
   holding [v,ov,iv] (setItem ov iv v)
   release [v,ov,iv] []))
  (hs:swapsWithSole [.Subscript (.Name x b7) ix d9] e pos.line X.env=pure false)(hw:swappedStores [.Subscript (.Name x b7) ix d9] e X.env=pure none)
  (h1:(assignEach [.Subscript (.Name x b7) ix d9] X.env).map (·.2)=[assign (.Subscript (.Name x b7) ix d9) X.env]):
  PSX X A L H0 (.Assign [.Subscript (.Name x b7) ix d9] e pos) (oM i f fo):=PS.imp' (EL he (KG hv hi JX ha) hs hw h1) fun D σ H hw=>by
 obtain⟨δ,T,out,E,fi,e,k⟩:=hw;obtain⟨⟨r,δ1⟩,h1,e⟩:=fN e;dsimp only at e;split at e
 case h_2=>cases e
 rename_i y0 h0;obtain⟨⟨o,δ2⟩,h2,e⟩:=fN e;dsimp only at e;split at e
 ·rename_i kk l hk h3;obtain⟨j,hj,e⟩:=fN e;cases e;refine⟨δ,T,r,δ1,E,h1,fun v H1 P1=>⟨δ1,Tmp T r v,.slot i,δ1,P1.er E,by unfold fO;rw[h0],fun v2 H2 P2=>⟨δ1,Tmp T r v,o,δ2,P2.er (P1.er E),h2,fun v3 H3 P3=>?_⟩⟩⟩;have fG:PostO X.K T σ δ H (.val r) δ1 v H1:=P1;have B:=Ops.cons E fG (Ops.cons (P1.er E) P2 (Ops.cons (P2.er (P1.er E)) P3 (Ops.nil (P3.er (P2.er (P1.er E))))));have E3:ER X.K H3 T σ δ2:=B.er.mono (fun _ _ e _=>e) (fun b _ z=>B.tt b z) (fun a z=>B.er.dom a (B.tt a z));have hσ:σ[i]?=some (some v2):=P2.2.2;obtain⟨a,q1,xs,q2,q3⟩:=E3.own i _ h3;rw[hσ] at q1;cases q1;have vk:=gx (B.view (j:=2) rfl rfl hk);have rv:=B.rep E (j:=0) (r:=r) rfl rfl;refine⟨a,xs,kk,j,rfl,vk,q2,by rw[q3.length];exact hj,?_⟩;obtain⟨E4,K4⟩:=E3.write h3 hσ (RepL.set rv j q3);exact k _ _ (B.keep.trans K4).sk E4
 ·cases e
noncomputable def J5(i:Nat)(g:Int->Int->Int)(f:F):FS:=fun δ=>match δ[i]? with
 |some (some (.int a,_))=>(f δ).bind fun p=>match p.1.1 with
  | .int b=>if i<p.2.length then some (.nx (p.2.set i (some (.int (g a b),false)))) else none
  |_=>none
 |_=>none
theorem M7{op:Operator}{g:Int->Int->Int}(hN:X.N.Nodup)(hi:X.N[i]?=some x)(hx:Loc X.env.scope x)(he:PX X e f)(ho:PIp X op (ipI g))(hf:X.fn x=true\/X.env.scope.names.lookup x=some .local)(hA:A i):
  PSX X A L H0 (.AugAssign (.Name x b7) op e pos) (J5 i g f):=PS.imp' (P9 hN hi hx he ho hf) fun D σ H hw=>by
 obtain⟨δ,T,out,E,fi,e,k⟩:=hw;unfold J5 at e;split at e
 ·rename_i a bb h0;obtain⟨⟨r,δ1⟩,h1,e⟩:=fN e;dsimp only at e;split at e
  ·rename_i b hb;obtain⟨hl,rfl⟩:=gP e
   have hs:σ[i]?=some (some (.int a)):=by
    cases bb with
    |false=>obtain⟨w,w1,w2⟩:=E.val i _ h0;rw[w1,w2.int]
    |true=>obtain⟨w,w1,w2⟩:=E.own i _ h0;exact w2.elim
   refine⟨.int a,hs,δ,T,r,δ1,E,h1,fun v H1 P1=>?_⟩;obtain⟨E1,rv⟩:=P1.rep E;rw[hb] at rv;refine⟨a,b,rfl,rv.int,?_⟩;obtain⟨q1,q2⟩:=sV (A:=A) (r:=(.int (g a b),false)) E (Post.val P1.1 E1 Rep.mkInt) hl hA;exact k _ H1 q1 q2
  ·cases e
 ·cases e
end
noncomputable def Bp(tg:Tg)(f:F):FS:=fun δ=>(f δ).bind fun p=>(tg p.1.1 p.2).bind fun δ1=>some (.nx δ1)
section
variable {X:Cx}{A L:iu}{H0:Hp}{a b tg e:gf}{fs:List F}{f:F}{t:Tg}{pos px py pt pt2:Pos}{x y:Str}{i j:Nat}{kt k2}
theorem M0(he:PX X e f)(hg:PGX X A tg t)(hs:swapsWithSole [tg] e pos.line X.env=pure false)(hw:swappedStores [tg] e X.env=pure none)(h1:(assignEach [tg] X.env).map (·.2)=[assign tg X.env]):
  PSX X A L H0 (.Assign [tg] e pos) (Bp t f):=PS.imp' (EL he hg hs hw h1) fun D σ H hw=>by
 obtain⟨δ,T,out,E,fi,e,k⟩:=hw;obtain⟨⟨r,δ1⟩,h1,e⟩:=fN e;obtain⟨δ2,h2,e⟩:=fN e;cases e;refine⟨δ,T,r,δ1,E,h1,fun v H1 P=>?_⟩;obtain⟨E1,rv⟩:=P.rep E;exact⟨δ1,T,r.1,δ2,E1,rv,h2,fun σ' S' E'=>k σ' H1 (P.1.sk.trans S') E'⟩
theorem MT{id:String}{p:Pos}{es:iL}{fo:List FO}{g:List D->Option (D×Bool)}{z:Str}(hc:je X (.builtin id) (rDn X.K g))(hg:Gl X z)(hm:X.mg z=none)(hv:bootBuiltins z=some (.builtin id))(ha:PA X (e::es) (tA X.K fo))(hn:z≠"__name__")(m8:(z==("__debug__":Str))=false)
  (he:starEach (e::es) X.env=(false,eval e X.env)::starEach es X.env)(j7:(backTo pos (starEach es X.env)).any (·.1)=false):PX X (.Call (.Name z p) (e::es) [] pos) (gn g fo):=pxn (yd hc hg hm hv ha hn m8 he j7)
theorem MI{id:String}{p:Pos}{es:iL}{fo:List FO}{g:List D->Option (D×Bool)}{z:Str}(hc:je X (.type id) (rDn X.K g))(hg:Gl X z)(hm:X.mg z=none)(hv:bootBuiltins z=some (.type id))(ha:PA X (e::es) (tA X.K fo))(hn:z≠"__name__")(m8:(z==("__debug__":Str))=false)
  (he:starEach (e::es) X.env=(false,eval e X.env)::starEach es X.env)(j7:(backTo pos (starEach es X.env)).any (·.1)=false):PX X (.Call (.Name z p) (e::es) [] pos) (gn g fo):=pxn (oo hc hg hm hv ha hn m8 he j7)
end
theorem Rt:bootBuiltins "len"=some (.builtin "len"):=by decide+kernel
theorem Ru:bootBuiltins "abs"=some (.builtin "abs"):=by decide+kernel
noncomputable def BW(N:gZ)(sc scope:iK)(N':gZ)(caps:hU)(k:Nat):Bool:=
 (scope.names.all fun y=>y.2 != .cell||scope.names.lookup y.1==some .cell)&&decide (scope.kind= .function)&&(scope.names.all fun y=>y.2 != .local||scope.names.lookup y.1==some .local)&&
 (scope.names.all fun y=>y.2 != .free||(sc.names.lookup y.1==some .cell||sc.names.lookup y.1==some .free))&&decide (caps.length+k=N'.length)&&
 ((caps.zip N').all fun p=>N[p.1]?==some p.2&&scope.names.lookup p.2==some .free)
theorem L1(hN:X.N=N)(hs:X.env.scope=sc)(h:BW N sc scope N' caps k=true):CompOk X N' scope caps k:=by
 subst hN;subst hs;unfold BW at h;simp only[mK,kZ,xh] at h;obtain⟨⟨⟨⟨⟨h1,h2⟩,h3⟩,h4⟩,h5⟩,h6⟩:=h;refine⟨fun y hy e=>?_,h2,fun y hy e=>?_,fun y hy e=>?_,h5,fun i j x hi hx=>?_⟩
 ·have:=h1 y hy;rw[e] at this;simpa using this
 ·have:=h3 y hy;rw[e] at this;simpa using this
 ·have:=h4 y hy;rw[e] at this;simpa using this
 ·have hm:(j,x)∈caps.zip N':=by
   have:(caps.zip N')[i]?=some (j,x):=by rw[Mm];exact⟨hi,hx⟩
   exact uQ this
  have:=h6 _ hm;simpa using this
noncomputable def gW:FT:=fun δ=>some (true,δ)
theorem Ky{X:Cx}:PIf X [] (tT X.K gW):=fun pins s σ H Q I h=>by
 obtain⟨δ,T,b,δ',E,e,k⟩:=h;cases e;exact Nd pins s σ H Q I (k H .refl E)
inductive Ty where
 |int|bool|str|tuple|list|dict
noncomputable def Ty.n:Ty->String
 | .int=>"int"| .bool=>"bool"| .str=>"str"| .tuple=>"tuple"| .list=>"list"| .dict=>"dict"
noncomputable def isT:D->Ty->Bool
 | .bl _,.bool=>true
 | .bl _,.int=>true
 | .int _,.int=>true
 | .str _,.str=>true
 | .tup _,.tuple=>true
 | .lst _,.list=>true
 | .oth .dct _ _,.dict=>true
 |_,_=>false
noncomputable def tyD:D->String
 | .non=>"NoneType"| .bl _=>"bool"| .int _=>"int"| .str _=>"str"| .tup _=>"tuple"| .lst _=>"list"| .oth .dct _ _=>"dict"| .oth .set _ _=>"set"| .oth _ _ _=>"NoneType"
section
variable {X:Cx}{pins:gE}{σ:L2.St}{H:Hp}{s:fW}
theorem C6(K:gq)(d:D)(t:Ty):PySem.W.kitOne K (.type (tyD d)) (.type t.n)=some (isT d t):=by
 cases d with
 |oth k _ _=>cases k<;>cases t<;>with_unfolding_all rfl
 |_=>cases t<;>with_unfolding_all rfl
theorem Qp(I:Inv X pins σ H s)(h:OthB (H a) k ks vs us):s.TypeIs (.ref a) (tyD (.oth k ks vs)):=by
 cases k with
 |dct=>
  rcases h with⟨kvs,e,_⟩|⟨kvs,e,_⟩
  ·obtain⟨_,_,vs,_,o,es,ep,h1,h2,_⟩:=(show ObjOk X.prog X.w H s.heap a (.dK kvs) from I.hok a _ e)
   exact⟨o,h1,h2.1⟩
  ·obtain⟨_,_,xs,_,o,es,ep,h1,h2,_⟩:=(show ObjOk X.prog X.w H s.heap a (.dT kvs) from I.hok a _ e)
   exact⟨o,h1,h2.1⟩
 |set=>
  obtain⟨_,zs,e,_⟩:=h;obtain⟨es,n,t,h1,_⟩:=(show ObjOk X.prog X.w H s.heap a (.stt zs) from I.hok a _ e)
  exact⟨_,h1,rfl⟩
 |_=>exact h.elim
theorem sU{K H}(h:ja K H O (.oth k ks vs) v): ∃a us,v= .ref a/\OthB (H a) k ks vs us/\RepL K H O vs us:=by
 rcases h with h|⟨a,rfl,h⟩
 ·obtain⟨a,us,e,q,r⟩:=h.oth;exact⟨a,us,e,q.2,r⟩
 ·obtain⟨us,e,r⟩:=h;exact⟨a,us,rfl,e,r⟩
theorem UP(I:Inv X pins σ H s)(hd:ja X.K H O d x)(rx:RelV x u)(h: ∀tk,Q (.bool (isT d t)) {s with toks:=tk}):
  wpAny (model X.prog X.w) A (call (.builtin "isinstance") [u,.type t.n]) Q E s:=by
 cases d with
 |non=>have:=JB hd;subst this;cases rx;exact vK PySem.W.kitx_none I.kIn True.intro (C6 X.K .non t) (fun z=>nomatch z) h
 |bl b=>have:=FZ hd;subst this;cases rx;exact vK PySem.W.kitx_bool I.kIn True.intro (C6 X.K (.bl b) t) (fun z=>nomatch z) h
 |int b=>have:=gx hd;subst this;obtain⟨tk,rfl⟩:=rx;exact vK PySem.W.kitx_int I.kIn True.intro (C6 X.K (.int b) t) (fun z=>nomatch z) h
 |str b=>have:=xy hd;subst this;obtain⟨tk,rfl⟩:=rx;exact vK PySem.W.kitx_str I.kIn True.intro (C6 X.K (.str b) t) (fun z=>nomatch z) h
 |tup l=>
  obtain⟨a,xs,rfl,q,_⟩:=lM hd;cases rx;obtain⟨its,_,⟨o,h1,h2,_⟩,_⟩:=I.tuple q;exact vK PySem.W.kitx_tuple I.kIn ⟨o,h1,h2⟩ (C6 X.K (.tup l) t) (fun z=>nomatch z) h
 |lst l=>
  obtain⟨a,xs,rfl,q,_⟩:=jw hd;cases rx;obtain⟨its,_,⟨o,n,h1,h2,_⟩,_⟩:=I.list q;exact vK PySem.W.kitx_list I.kIn ⟨o,h1,h2⟩ (C6 X.K (.lst l) t) (fun z=>nomatch z) h
 |oth k ks vs=>
  obtain⟨a,us,rfl,q,_⟩:=sU hd;cases rx;have ht:=Qp I q
  cases k with
  |dct=>exact vK PySem.W.kitx_dict I.kIn ht (C6 X.K (.oth .dct ks vs) t) (fun z=>nomatch z) h
  |set=>exact vK PySem.W.kitx_set I.kIn ht (C6 X.K (.oth .set ks vs) t) (fun z=>nomatch z) h
  |_=>exact q.elim
end
noncomputable def wt(ts:List Ty)(d:D):Option (D×Bool):=some (.bl (ts.any (isT d)),false)
section
variable {X:Cx}{e:gf}{fa:FO}{pos p p2:Pos}{z:Str}
theorem PK{t:Ty}(ha:PO X e fa)(hg:Gl X "isinstance")(hm:X.mg "isinstance"=none)(eL:Gl X z)(hmz:X.mg z=none)(hz:bootBuiltins z=some (.type t.n))(hn:z≠"__name__")(m8:(z==("__debug__":Str))=false)(hv:bootBuiltins "isinstance"=some (.builtin "isinstance"))
  (s1:starEach [e,.Name z p2] X.env=(false,eval e X.env)::starEach [.Name z p2] X.env)(s2:starEach [.Name z p2] X.env=(false,eval (.Name z p2) X.env)::starEach [] X.env)(j7:(backTo pos (starEach [.Name z p2] X.env)).any (·.1)=false):
  PX X (.Call (.Name "isinstance" p) [e,.Name z p2] [] pos) (kh (wt [t]) fa):=by
 have hc:je X (.builtin "isinstance") (fun xs H Q=> ∃(O:AP') (d:D) (x:V),xs=[x,.ty t.n]/\ja X.K H O d x/\Q (.bl (isT d t)) H):=by
  intro pins s σ H xs us Q I r h;obtain⟨O,d,x,rfl,hd,q⟩:=h;obtain⟨u,w',rfl,ru,bQ⟩:=Ct r;cases bQ;exact UP I hd ru fun tk=>⟨.bl _,H,I.tok _,rfl,q⟩
 refine PX.imp (yd hc hg hm hv (nB ha (nB (Nk (v:= .ty t.n) eL hmz hz rfl hn m8) rY s2) s1) (by decide) (by decide) s1 j7) fun σ H Q hw=>?_;obtain⟨δ,T,rr,δ',E,e,k⟩:=hw;obtain⟨⟨o,δ1⟩,h1,e⟩:=fN e;obtain⟨x,h2,e⟩:=fN e;obtain⟨zz,h3,e⟩:=fN e;cases h3;obtain⟨rfl,rfl⟩:=gp e;refine⟨δ,T,o,δ1,E,h1,fun v H1 P1=>?_⟩;have B:=Ops.cons E P1 (Ops.nil (P1.er E));refine⟨_,x,v,rfl,B.view (j:=0) rfl rfl h2,?_⟩;have:=(B.done k).bl;simpa using this
end
noncomputable def qU:List D->Option (List Bool)
 |[]=>some []
 | .bl b::l=>(qU l).map (b:: ·)
 |_::_=>none
noncomputable def yy:D->Option (D×Bool)
 | .lst l=>(qU l).map fun bs=>(.bl (bs.all id),false)
 |_=>none
noncomputable def HY:D->Option (D×Bool)
 | .lst l=>(qU l).map fun bs=>(.bl (bs.any id),false)
 |_=>none
theorem qo{K H}{O:AP'}: ∀{l:List D} {bs:List Bool} {xs:List V} {its:hV},qU l=some bs->RepL K H O l xs->Vals xs its->LSm.BoolsAre its bs
 |[],bs,xs,its,h,r,v=>by
  cases h;rw[RepL] at r;subst r;cases v;exact .nil
 | .bl b::l,bs,xs,its,h,r,v=>by
  obtain⟨bs',h1,rfl⟩:=gU h;rw[RepL] at r;obtain⟨x,xr,rfl,r1,r2⟩:=r;have:=r1.bl;subst this
  cases v with
  |cons a c=>cases a;exact .cons b (qo h1 r2 c)
 | .non::l,_,_,_,h,_,_=>by cases h
 | .int _::l,_,_,_,h,_,_=>by cases h
 | .str _::l,_,_,_,h,_,_=>by cases h
 | .tup _::l,_,_,_,h,_,_=>by cases h
 | .lst _::l,_,_,_,h,_,_=>by cases h
 | .oth _ _ _::l,_,_,_,h,_,_=>by cases h
section
variable {X:Cx}
theorem tZ{h h':gD}{o:Obj}(hk: ∀b x,b∉[h.objs.size]->(h.push o).get? b=some x->h'.get? b=some x)(b:fR)(x:Obj)(e:h.get? b=some x):h'.get? b=some x:=
 hk b x (fun z=>by have:=pA.mp z;subst this;exact absurd (iw e) (pP _)) (iF _ e)
theorem mE(hc:X.calm=true):je X (.builtin "all") (rDn X.K (g1 yy)):=nR fun pins s σ H x u Q O d z I ru np hd hg G=>by
 cases d with
 |lst l=>
  obtain⟨bs,hb,rfl⟩:=gU hg;obtain⟨p,xs,rfl,q,r⟩:=jw hd;cases ru;obtain⟨its,v,pl,_⟩:=I.list q;have are:=qo hb r v;have hh:X.A.in1.handled=none:=I.ok.hd hc;have dX:p<s.heap.objs.size:=by obtain⟨_,e,_⟩:=pl.isList;exact iw e
  refine call_all_walk (xo pl.isList ⟨s.heap.objs.size,[s.heap.objs.size,p],[s.heap.objs.size],its.toArray.size,_,_,fun i=>(bs[i]?).getD true,rfl,Walks.list hh _ p (ip dX) its.toArray,
   ⟨⟨_,jb _ rfl,rfl,rfl⟩,pl.isList.push _⟩,fun i w s' Q' E' hP hQ=>?_,fun h' tk hk=>?_⟩)
  ·obtain⟨b,e,rfl⟩:=are.get i w (by simpa using hP);dsimp only at hQ;rw[e] at hQ;exact sP hQ
  ·rw[iH,are.length,LSm.range_all];exact⟨.bl _,H,I.kept (tZ hk),rfl,G.bl⟩
 |_=>cases hg
theorem Il(hc:X.calm=true):je X (.builtin "any") (rDn X.K (g1 HY)):=nR fun pins s σ H x u Q O d z I ru np hd hg G=>by
 cases d with
 |lst l=>
  obtain⟨bs,hb,rfl⟩:=gU hg;obtain⟨p,xs,rfl,q,r⟩:=jw hd;cases ru;obtain⟨its,v,pl,_⟩:=I.list q;have are:=qo hb r v;have hh:X.A.in1.handled=none:=I.ok.hd hc;have dX:p<s.heap.objs.size:=by obtain⟨_,e,_⟩:=pl.isList;exact iw e
  refine call_any_walk (xo pl.isList ⟨s.heap.objs.size,[s.heap.objs.size,p],[s.heap.objs.size],its.toArray.size,_,_,fun i=>(bs[i]?).getD false,rfl,Walks.list hh _ p (ip dX) its.toArray,
   ⟨⟨_,jb _ rfl,rfl,rfl⟩,pl.isList.push _⟩,fun i w s' Q' E' hP hQ=>?_,fun h' tk hk=>?_⟩)
  ·obtain⟨b,e,rfl⟩:=are.get i w (by simpa using hP);dsimp only at hQ;rw[e] at hQ;exact sP hQ
  ·rw[iH,are.length,LSm.range_any];exact⟨.bl _,H,I.kept (tZ hk),rfl,G.bl⟩
 |_=>cases hg
noncomputable def LB:=gI fun i j=>some (.int (if j>i then j else i))
noncomputable def LA:=gI fun i j=>some (.int (if j<i then j else i))
theorem Fu(hc:X.calm=true):je X (.builtin "max") (rDn X.K (g2 LB)):=L4 fun pins s σ H x y us Q O d e z I r np h1 h2 hg G=>by
 obtain⟨i,j,w,rfl,rfl,hf,rfl⟩:=wQ hg;cases hf;exact Ii hc pins s σ H [x,y] us Q I r ⟨i,j,by rw[gx h1,gx h2],G.int⟩
theorem Ft(hc:X.calm=true):je X (.builtin "min") (rDn X.K (g2 LA)):=L4 fun pins s σ H x y us Q O d e z I r np h1 h2 hg G=>by
 obtain⟨i,j,w,rfl,rfl,hf,rfl⟩:=wQ hg;cases hf;exact Ih hc pins s σ H [x,y] us Q I r ⟨i,j,by rw[gx h1,gx h2],G.int⟩
theorem xZ{lo:Int}{n:Nat}{acc:jz}(h:ItemsOf (fun i v=> ∃t,v= .int (lo+(i:Int)*1) t) acc n):Vals ((List.range n).map fun(k:Nat)=>V.int (lo+k)) acc.toList:=by
 have key: ∀(l:hV) (m:Nat),(∀(j:Nat) v,l[j]?=some v-> ∃t,v= .int (lo+((m+j:Nat):Int)) t)->Vals ((List.range' m l.length).map fun(k:Nat)=>V.int (lo+k)) l:=by
  intro l
  induction l with
  |nil=>intro m _;exact .nil
  |cons v l ih=>
   intro m hv;obtain⟨t,e⟩:=hv 0 v rfl;refine .cons ⟨t,by simpa using e⟩ (ih (m+1) fun j w hw=>?_);obtain⟨t',e'⟩:=hv (j+1) w (by simpa using hw);exact⟨t',by rw[e'];congr 2;first|done|omega⟩
 have:=key acc.toList 0 fun j v hv=>by
  obtain⟨t,e⟩:=h.2 j v (by simpa using hv);exact⟨t,by rw[e];congr 1⟩
 rw[mf,h.1,<-List.range_eq_range'] at this;exact this
theorem EI{K H}(lo:Int)(n:Nat):RepL K H O (gB lo n) ((List.range n).map fun(k:Nat)=>V.int (lo+k)):=by
 unfold gB
 induction(List.range n) with
 |nil=>exact RepL.nil
 |cons k l ih=>exact RepL.cons Rep.mkInt ih
end
def RgOk(lo hi:Int):Prop:= -(2^62)<=lo/\lo<2^62/\ -(2^62)<=hi/\hi<2^62/\(hi-lo).toNat<=2^24
instance(lo hi:Int):Decidable (RgOk lo hi):=by unfold RgOk;infer_instance
noncomputable def rgV(lo hi:Int):List V:=(List.range (hi-lo).toNat).map fun(k:Nat)=>V.int (lo+k)
theorem RgOk.small{lo hi:Int}(h:RgOk lo hi):Builtin.Range.small lo hi 1=true:=small_one h.1 h.2.1 h.2.2.1 h.2.2.2.1
theorem Ge(lo hi:Int):Builtin.Range.rangeSize lo hi 1=((hi-lo).toNat:Nat):=by rw[rangeSize_one];split<;>omega
section
variable {prog:gA}{w:gu}{A:gw}{E:gH}{s:fW}
theorem Fq{Q:List Value->Shared->Prop}{r:fR}{lo hi:Int}{t u v:Tok}(hh:A.handled=none)(hr:IsRange s.heap r lo hi 1 t u v)(ok:RgOk lo hi)
  (hQ: ∀(h':gD) tk (acc:jz),(∀b o,s.heap.get? b=some o->h'.get? b=some o)->ItemsOf (fun i v=> ∃t,v= .int (lo+(i:Int)*1) t) acc (hi-lo).toNat->Q acc.toList {s with heap:=h',toks:=tk}):
  wpAny (model prog w) A (collect (.ref r)) Q E s:=by
 unfold collect;refine fS (wpAny_runValue (uF F.entry_proto_collect ?_));rw[xg F.plain_proto_collect _];refine fS (m:=newList []) (nW ?_);refine gr ⟨AV F.plain_list_iadd _,uF F.entry_list_iadd ?_⟩;rw[xg F.plain_list_iadd _];have e0:=jb s.heap (o:=({cls:= .type "list",data:= .seq ([]:List Value).toArray}:Obj)) rfl
 let R:Result->Shared->Prop:=fun r s'=> ∃(h':gD) (tk:Nat) (acc:jz) (c':Nat),r= .ok (.ret (.ref s.heap.objs.size))/\s'={s with heap:=h',toks:=tk}/\(∀b o,s.heap.get? b=some o->h'.get? b=some o)/\
  h'.get? s.heap.objs.size=some {cls:= .type "list",dict:=none,data:= .seq acc c',slots:= #[]}/\ItemsOf (fun i v=> ∃t,v= .int (lo+(i:Int)*1) t) acc (hi-lo).toNat
 have fin: ∀{r s'},R r s'-> ∃v,r= .ok (.ret v)/\wpAny (model prog w) A (match v with
   |Value.ref a=>do
    match(<-load a).data with
     |Data.seq xs _=>pure xs.toList
     |_=>unsupported "internal:collect"
   |_=>unsupported "internal:collect") Q E s':=fun {r s'} hR=>by
  obtain⟨h',tk,acc,c',rfl,rfl,hk,bM,t6⟩:=hR;exact⟨_,rfl,fS (m:=load s.heap.objs.size) (wpAny_load bM (gr (hQ h' tk acc hk t6)))⟩
 refine mN (wpAny_extend_range (A:=A) (R:=R) (s:={s with heap:=s.heap.push {cls:= .type "list",data:= .seq ([]:List Value).toArray}}) hh (iF _ hr) ok.small (Ge lo hi) ok.2.2.2.2 _ _ 0 e0 fun h' tk i3 c' hk bM t6=>
  ⟨h',tk,i3,c',rfl,rfl,fun b o e=>hk b o (ip (iw e)) (iF _ e),bM,t6⟩) (fun f s' h=>?_) (fun e s' h=>?_)
 ·cases f with
  |done f=>
   obtain⟨v,hv,h2⟩:=fin h;cases hv;exact h2
  |again c'=>exact⟨h.1,sO h.2 fun r bH hr=>by obtain⟨v,rfl,h2⟩:=fin hr;exact h2⟩
 ·obtain⟨v,hv,_⟩:=fin h;cases hv
theorem A7{Q₁:gH}{r:fR}{lo hi:Int}{t u v:Tok}(hh:A.handled=none)(hr:IsRange s.heap r lo hi 1 t u v)(ok:RgOk lo hi)
  (h: ∀(h':gD) tk (acc:jz),(∀b o,s.heap.get? b=some o->h'.get? b=some o)->ItemsOf (fun i v=> ∃t,v= .int (lo+(i:Int)*1) t) acc (hi-lo).toNat->Q₁ (.ref h'.objs.size) {s with heap:=h'.push {cls:= .type "tuple",data:= .seq acc},toks:=tk}):
  codeAny (model prog w) A (.call (.builtin "tuple.__new__") ⟨[.type "tuple",.ref r],[]⟩) (wants Q₁ E) s:=by
 refine AY ?_;refine fS (m:=checkBuiltinCall "tuple.__new__" _) (xj (F.newCall_tuple_1 _) (gr ⟨AV F.plain_tuple_new _,uF F.entry_tuple_new ?_⟩));rw[xg F.plain_tuple_new _];have bX:=sub_tuple_self;have hinit:=init_tuple_lookup;have hmh:=madeHere_tuple;have t7:s.TypeIs (.ref r) "range":=⟨_,hr,rfl⟩
 have hh1:A.in1.handled=none:=hh
 wp_walk using uP t7,Fq hh1 hr ok
 intro h' tk acc hk t6;have hz:acc.size<=sizeLine:=by rw[t6.1,jA];have:=ok.2.2.2.2;omega
 refine fS (m:=Builtin.Tuple.tupleExact acc.toList.toArray) ?_;unfold Builtin.Tuple.tupleExact;refine nW ?_ (by show acc.toList.toArray.size<=sizeLine;simpa using hz);refine gr ?_;have e:acc.toList.toArray=acc:=by simp
 rw[e];exact h h' tk acc hk t6
theorem zp{Q:gH}{r:fR}{lo hi:Int}{t u v:Tok}(hh:A.handled=none)(hr:IsRange s.heap r lo hi 1 t u v)(ok:RgOk lo hi)
  (h: ∀(h':gD) tk (acc:jz),(∀b o,s.heap.get? b=some o->h'.get? b=some o)->ItemsOf (fun i v=> ∃t,v= .int (lo+(i:Int)*1) t) acc (hi-lo).toNat->Q (.ref h'.objs.size) {s with heap:=h'.push {cls:= .type "tuple",data:= .seq acc},toks:=tk}):
  wpAny (model prog w) A (call (.type "tuple") [.ref r]) Q E s:=by
 refine callType_codes (Q₁:=fun obj s₁=>s₁.TypeIs obj "tuple"/\Q obj s₁) Mn (F.typeCall_tuple_1 _) Jd
  (A7 hh hr ok fun h' tk acc hm t6=>⟨⟨_,jb _ rfl,rfl⟩,h h' tk acc hm t6⟩) fun obj s₁ h₁=>?_
 exact⟨h₁.1,F.args_object_init_2 obj _,object_init_meets Mn.init.lookup Mn.made (by decide) prog w A.in1 _ s₁ ⟨h₁.1,rfl,h₁.2⟩⟩
end
section
variable {X:Cx}
theorem Ap:je X (.type "range") (fun xs H Q=> ∃i j,xs=[.int i,.int j]/\ ∀r,H r=none->Q (.ref r) (upd H r (.rng i j))):=by
 intro pins s σ H xs us Q I r h;obtain⟨i,j,rfl,h⟩:=h;obtain⟨u,u',rfl,⟨t,rfl⟩,⟨t',rfl⟩⟩:=Ct r;exact call_range_2 ⟨.ref _,_,I.laid (o:= .rng i j) (fun b o e=>iF _ e) (gY _) ⟨_,_,_,jb _ rfl⟩,rfl,h _ I.fresh⟩
theorem zq(hc:X.calm=true):je X (.type "list") (fun xs H Q=> ∃r lo hi,xs=[.ref r]/\H r=some (.rng lo hi)/\RgOk lo hi/\ ∀l,H l=none->Q (.ref l) (upd H l (.lst (rgV lo hi)))):=by
 intro pins s σ H xs us Q I dU h;obtain⟨r,lo,hi,rfl,hr,ok,h⟩:=h;obtain⟨u,rfl,ru⟩:=pB dU;cases ru;obtain⟨t,u,v,er⟩:=I.hok r _ hr;refine call_list_range (A:=X.A) (I.ok.hd hc) er ok.small (Ge lo hi) ok.2.2.2.2 fun h' tk acc c kp e items=>?_;have rv:=xZ items;refine⟨.ref _,_,I.laid kp (gY _) (show ObjOk X.prog X.w _ _ _ (.lst (rgV lo hi)) from⟨?_,acc.toList,c,rv,by simpa using e⟩),rfl,h _ I.fresh⟩;have:=ok.2.2.2.2;simp only[rgV,iG,List.length_range,jA];omega
theorem yL(hc:X.calm=true):je X (.type "tuple") (fun xs H Q=> ∃r lo hi,xs=[.ref r]/\H r=some (.rng lo hi)/\RgOk lo hi/\ ∀l,H l=none->Q (.ref l) (upd H l (.tup (rgV lo hi)))):=by
 intro pins s σ H xs us Q I dU h;obtain⟨r,lo,hi,rfl,hr,ok,h⟩:=h;obtain⟨u,rfl,ru⟩:=pB dU;cases ru;obtain⟨t,u,v,er⟩:=I.hok r _ hr;refine zp (A:=X.A) (I.ok.hd hc) er ok fun h' tk acc kp items=>?_;have rv:=xZ items;have I1:Inv X pins σ H {s with heap:=h',toks:=tk}:=I.kept kp;refine⟨.ref _,_,I1.laid (fun b o e=>iF _ e) (gY _) (show ObjOk X.prog X.w _ _ _ (.tup (rgV lo hi)) from⟨?_,acc.toList,rv,by have:=A0 h' acc;simpa using this⟩),rfl,h _ I1.fresh⟩;have:=ok.2.2.2.2;simp only[rgV,iG,List.length_range,jA];omega
noncomputable def gRg(mk:List D->D)(o:Bool):List D->Option (D×Bool)
 |[.int j]=>if RgOk 0 j then some (mk (gB 0 j.toNat),o) else none
 |[.int i,.int j]=>if RgOk i j then some (mk (gB i (j-i).toNat),o) else none
 |_=>none
theorem Gf{K H}(lo hi:Int):RepL K H O (gB lo (hi-lo).toNat) (rgV lo hi):=EI lo _
variable {a b:gf}{fa fb:FO}{p p2 pos aY:Pos}
theorem Cv(h:upd H r o l=none):H l=none:=by
 by_cases e:l=r
 ·subst e;rw[gF] at h;cases h
 ·rwa [gG e] at h
theorem Aw{K:gq}{T T':AP'}{σ:L2.St}{δ δ':Dn}{H H':Hp}{os:List Opd}{vs:List V}{ds:List D}(B:Ops K T σ δ H os vs δ' H' T')(h:pV δ' os=some ds){is:gc}(hd:ds=is.map .int):vs=is.map .int:=by
 obtain⟨h1,h2⟩:=lO h;apply rP;intro j;by_cases hj:j<is.length
 ·rw[qx B h (j:=j) (i:=is[j]) (by rw[hd];simp[hj])];simp[hj]
 ·have l1:=B.len;subst hd;simp at h1;rw[AU (by omega),AU (by simp;omega)]
theorem Px{T:String}{z:Str}{mk:List D->D}{o:Bool}(hT:(T="list"/\mk= .lst/\o=true)\/(T="tuple"/\mk= .tup/\o=false))(hc:X.calm=true)(hg:Gl X z)(hm:X.mg z=none)(hv:bootBuiltins z=some (.type T))(hn:z≠"__name__")(m8:(z==("__debug__":Str))=false)
  (dF:Gl X "range")(bo:X.mg "range"=none)(ha:PA X [a,b] (tA X.K [fa,fb]))
  (s1:starEach [.Call (.Name "range" p2) [a,b] [] aY] X.env=(false,eval (.Call (.Name "range" p2) [a,b] [] aY) X.env)::starEach [] X.env)(s2:starEach [a,b] X.env=(false,eval a X.env)::starEach [b] X.env)
  (j7:(backTo pos (starEach [] X.env)).any (·.1)=false)(bj:(backTo aY (starEach [b] X.env)).any (·.1)=false):
  PX X (.Call (.Name z p) [.Call (.Name "range" p2) [a,b] [] aY] [] pos) (gn (gRg mk o) [fa,fb]):=by
 have len2: ∀{δ δ1:Dn} {os:List Opd},iV [fa,fb] δ=some (os,δ1)->os.length=2:=fun {δ δ1 os} h1=>by
  unfold iV at h1;obtain⟨p,q1,h1⟩:=fN h1;obtain⟨q,q2,h1⟩:=fN h1;unfold iV at q2;obtain⟨p3,q3,q2⟩:=fN q2;obtain⟨q4,q5,q2⟩:=fN q2;unfold iV at q5;cases q5;obtain⟨rfl,rfl⟩:=gp h1;cases q2;rfl
 rcases hT with⟨rfl,rfl,rfl⟩|⟨rfl,rfl,rfl⟩
 ·refine PX.imp (oo (zq hc) hg hm hv (nB (oo Ap dF bo A4 ha (by decide) (by decide) s2 bj) rY s1) hn m8 s1 j7) fun σ H Q hw=>?_;obtain⟨δ,T,rr,δ',E,e,k⟩:=hw;obtain⟨⟨os,δ1⟩,h1,e⟩:=fN e;obtain⟨ds,h2,e⟩:=fN e;obtain⟨zz,h3,e⟩:=fN e;obtain⟨rfl,rfl⟩:=gp e;refine⟨δ,T,os,δ1,E,h1,fun vs H1 T1 B=>?_⟩;unfold gRg at h3;split at h3
  ·obtain⟨hl,_⟩:=lO h2;have:=len2 h1;simp at hl;omega
  ·rename_i i j;obtain⟨ok,rfl⟩:=gP h3;refine⟨i,j,Aw B h2 (is:=[i,j]) rfl,fun r hr=>⟨r,i,j,rfl,gF,ok,fun l hl=>?_⟩⟩;have hx: ∀a u,H1 a=some u->upd (upd H1 r (.rng i j)) l (.lst (rgV i j)) a=some u:=fun a u e=>jY hl a u (jY hr a u e);exact(B.done k) l _ (Cv hl) hx ⟨rgV i j,gF,Gf i j⟩
  ·cases h3
 ·refine PX.imp (oo (yL hc) hg hm hv (nB (oo Ap dF bo A4 ha (by decide) (by decide) s2 bj) rY s1) hn m8 s1 j7) fun σ H Q hw=>?_;obtain⟨δ,T,rr,δ',E,e,k⟩:=hw;obtain⟨⟨os,δ1⟩,h1,e⟩:=fN e;obtain⟨ds,h2,e⟩:=fN e;obtain⟨zz,h3,e⟩:=fN e;obtain⟨rfl,rfl⟩:=gp e;refine⟨δ,T,os,δ1,E,h1,fun vs H1 T1 B=>?_⟩;unfold gRg at h3;split at h3
  ·obtain⟨hl,_⟩:=lO h2;have:=len2 h1;simp at hl;omega
  ·rename_i i j;obtain⟨ok,rfl⟩:=gP h3;refine⟨i,j,Aw B h2 (is:=[i,j]) rfl,fun r hr=>⟨r,i,j,rfl,gF,ok,fun l hl=>?_⟩⟩;have hx: ∀a u,H1 a=some u->upd (upd H1 r (.rng i j)) l (.tup (rgV i j)) a=some u:=fun a u e=>jY hl a u (jY hr a u e);exact(B.done k) _ _ hx (Rep.mkTup ⟨gF,B.np (nOw (Cv hl))⟩ (Gf i j))
  ·cases h3
end
def Src(h:gD)(it l:fR)(i:Nat)(xs:jz):Prop:=(h.IsListIter it l i/\h.IsList l xs)\/(h.IsTupleIter it l i/\h.IsTuple l xs)
section
variable {prog:gA}{w:gu}{A:gw}{E:gH}{s:fW}{it l:fR}{i:Nat}{xs:jz}
theorem Src.ne(x:Src h it l i xs):l≠it:=by
 intro e;subst e;rcases x with⟨⟨o,h1,h2,h3⟩,o',g1,g2,n,g3⟩|⟨⟨o,h1,h2,h3⟩,o',g1,g2,n,g3⟩<;>(rw[h1] at g1;cases g1;rw[h3] at g3;cases g3)
theorem Src.lt(x:Src h it l i xs):it<h.objs.size/\l<h.objs.size:=by
 rcases x with⟨⟨o,h1,_⟩,o',g1,_⟩|⟨⟨o,h1,_⟩,o',g1,_⟩<;>exact⟨iw h1,iw g1⟩
theorem Src.keep(x:Src h it l i xs)(k1: ∀o,h.get? it=some o->h'.get? it=some o)(k2: ∀o,h.get? l=some o->h'.get? l=some o):Src h' it l i xs:=by
 rcases x with⟨⟨o,h1,r⟩,o',g1,r'⟩|⟨⟨o,h1,r⟩,o',g1,r'⟩
 ·exact .inl ⟨⟨o,k1 _ h1,r⟩,o',k2 _ g1,r'⟩
 ·exact .inr ⟨⟨o,k1 _ h1,r⟩,o',k2 _ g1,r'⟩
theorem xH{x:gg}{Q:gH}(hit:s.heap.IsTupleIter it l i)(hl:s.heap.IsTuple l xs)(hx:xs[i]?=some x)
  (hQ: ∀h',h'.IsTupleIter it l (i+1)->Heap.SameBut it s.heap h'->Q x {s with heap:=h'}):wpAny (model prog w) A (Builtin.SmallTypes.nextOf (.ref it)) Q E s:=by
 obtain⟨o,ho,hc,hd⟩:=id hit;obtain⟨ol,eE,_,nl,aG⟩:=hl;unfold Builtin.SmallTypes.nextOf;refine fS (rk (name:=Str.ofString "__next__") hit.typeIs AS (pk AS hit.typeIs Jc ?_ (Jb _)));refine fS (m:=field (.ref it) 0) (kn ho hd (x:= .ref l) rfl ?_);show wpAny _ _ (if(Value.ref l==Value.none)=true then _ else _) _ _ s;rw[gk (by show ¬(Value.ref l==Value.none)=true;exact iM)];refine fS (m:=field (.ref it) 1) (kn ho hd (x:= .int i 0) rfl ?_);refine fS (m:=seqItems? (.ref l)) (vJ eE aG ?_);simp only[xm,hx];refine fS (AR ho hd (by simp) (gr ⟨x,rfl,gr (hQ _ ⟨_,xl _ ho (Ja (AQ hd _)),(Obj.cls_mapFields ..).trans hc,?_⟩ (rO ..))⟩));rw[AQ hd];simp[rawInt]
theorem yZ{Q:gH}(hh:A.handled=none)(hit:s.heap.IsTupleIter it l i)(hl:s.heap.IsTuple l xs)(hx:xs[i]?=none)
  (hE: ∀h' e,Heap.ExtBut it s.heap h'->(∃o,h'.get? e=some o/\o.cls= .type "StopIteration")->E (.ref e) {s with heap:=h'}):wpAny (model prog w) A (Builtin.SmallTypes.nextOf (.ref it)) Q E s:=by
 obtain⟨o,ho,hc,hd⟩:=id hit;obtain⟨ol,eE,_,nl,aG⟩:=hl;unfold Builtin.SmallTypes.nextOf;refine fS (rk (name:=Str.ofString "__next__") hit.typeIs AS (pk AS hit.typeIs Jc ?_ (Jb _)));refine fS (m:=field (.ref it) 0) (kn ho hd (x:= .ref l) rfl ?_);show wpAny _ _ (if(Value.ref l==Value.none)=true then _ else _) _ _ s;rw[gk (by show ¬(Value.ref l==Value.none)=true;exact iM)];refine fS (m:=field (.ref it) 1) (kn ho hd (x:= .int i 0) rfl ?_);refine fS (m:=seqItems? (.ref l)) (vJ eE aG ?_);simp only[xm,hx];refine fS (sM (fS (AR ho hd (by simp) ?_)));refine fS (m:=newExc (.type "StopIteration") []) ?_;simp only[newExc,newTuple];refine fS (nW (fS (m:=firstArgMember _ _) (xj (a:=Value.none) (by first|rfl|(simp only[firstArgMember];rfl)) ?_)) (by size_fits));refine nW ?_ (by size_fits);simp only[raiseNew];refine fS (wpAny_handled ?_)
 first|rw[show A.in1.handled=none from hh]|rw[hh]
 exact fS (gr (wpAny_throw (hE _ _ (((rO ..).extBut.push _).push _) ⟨_,jb _ rfl,rfl⟩)))
theorem Src.item{x:gg}{Q:gH}(st:Src s.heap it l i xs)(hx:xs[i]?=some x)(hQ: ∀h',Src h' it l (i+1) xs->Heap.SameBut it s.heap h'->Q x {s with heap:=h'}):
  wpAny (model prog w) A (Builtin.SmallTypes.nextOf (.ref it)) Q E s:=by
 have ne:=st.ne;rcases st with⟨a,b⟩|⟨a,b⟩
 ·exact wpAny_nextOf_list_item a b hx fun h' a' sb=>hQ h' (.inl ⟨a',b.extBut sb.extBut ne⟩) sb
 ·exact xH a b hx fun h' a' sb=>hQ h' (.inr ⟨a',b.extBut sb.extBut ne⟩) sb
theorem Src.stop{Q:gH}(hh:A.handled=none)(st:Src s.heap it l i xs)(hx:xs[i]?=none)
  (hE: ∀h' e,Heap.ExtBut it s.heap h'->(∃o,h'.get? e=some o/\o.cls= .type "StopIteration")->E (.ref e) {s with heap:=h'}):wpAny (model prog w) A (Builtin.SmallTypes.nextOf (.ref it)) Q E s:=by
 rcases st with⟨a,b⟩|⟨a,b⟩
 ·exact wpAny_nextOf_list_end hh a b hx hE
 ·exact yZ hh a b hx hE
theorem Src.new(hl:s.heap.IsList l xs\/s.heap.IsTuple l xs)(hQ: ∀h',Src h' s.heap.objs.size l 0 xs->h'.objs.size=s.heap.objs.size+1->(∀b o,s.heap.get? b=some o->h'.get? b=some o)->Q (.ref s.heap.objs.size) {s with heap:=h'}):
  wpAny (model prog w) A (pyIter (.ref l)) Q E s:=by
 rcases hl with hl|hl
 ·exact xo hl (hQ _ (.inl ⟨⟨_,jb _ rfl,rfl,rfl⟩,hl.push _⟩) (pN ..) fun b o e=>iF _ e)
 ·exact wpAny_pyIter_tuple hl (hQ _ (.inr ⟨⟨_,jb _ rfl,rfl,rfl⟩,hl.push _⟩) (pN ..) fun b o e=>iF _ e)
end
section
variable {prog:gA}{w:gu}{A:gw}{E:gH}{s:fW}{e it l:fR}{i:Nat}{c:Int}{xs:jz}
theorem Ib{x old:gg}{Q:gH}(he:IsEnum s.heap e it c old)(st:Src s.heap it l i xs)(hx:xs[i]?=some x)(j9:e≠it)(cU:e≠l)
  (hQ: ∀h',IsEnumOut h' e it (c+1) x s.heap.objs.size->Src h' it l (i+1) xs->h'.get? s.heap.objs.size=some {cls:= .type "tuple",data:= .seq #[.int c s.toks,x]}->h'.objs.size=s.heap.objs.size+1->
   (∀b o,b≠e->b≠it->s.heap.get? b=some o->h'.get? b=some o)->Q (.ref s.heap.objs.size) {s with heap:=h',toks:=s.toks+1}):
  wpAny (model prog w) A (Builtin.«enumerate.__next__» ⟨[.ref e],[]⟩) (fun fin s'=> ∃v,fin= .done (.ret v)/\Q v s') E s:=by
 obtain⟨hp,g,d,tk,os⟩:=s;refine fS (m:=field (.ref e) 2) (kn he rfl (x:= .ref it) rfl (fS (st.item hx fun h₁ st₁ r8=>?_)));replace r8:Heap.SameBut it hp h₁:=r8;have eW:IsEnum h₁ e it c old:=(r8.2 e j9).trans he;refine fS (m:=field (.ref e) 3) (kn (s:=⟨h₁,g,d,tk,os⟩) eW rfl (x:=rawInt c) rfl ?_);refine fS (m:=field (.ref e) 4) (kn (s:=⟨h₁,g,d,tk,os⟩) eW rfl (x:= .none) rfl ?_);refine fS (m:=mkInt c) (wpAny_mkInt (s:=⟨h₁,g,d,tk,os⟩) ?_);refine fS (m:=setField (.ref e) 3 (rawInt (c+1))) (pM (s:=⟨h₁,g,d,tk+1,os⟩) eW (by simp) fun h₂ eV p9=>?_);replace p9:Heap.SameBut e h₁ h₂:=p9;replace eV:IsEnum h₂ e it (c+1) old:=eV;refine fS (m:=setField (.ref e) 4 .none) (pM (s:=⟨h₂,g,d,tk+1,os⟩) eV (by simp) fun h₃ eU p8=>?_);replace p8:Heap.SameBut e h₂ h₃:=p8;replace eU:IsEnum h₃ e it (c+1) old:=eU;refine fS (m:=newTuple [.int c tk,x]) (AO (s:=⟨h₃,g,d,tk+1,os⟩) ?_);have hsz:h₃.objs.size=hp.objs.size:=by rw[p8.1,p9.1,r8.1]
 have dG:IsEnum (h₃.push {cls:= .type "tuple",data:= .seq #[.int c tk,x]}) e it (c+1) old:=iF _ eU;have hel:e<hp.objs.size:=iw he;have ht₄:(h₃.push {cls:= .type "tuple",data:= .seq #[.int c tk,x]}).get? hp.objs.size=some {cls:= .type "tuple",data:= .seq #[.int c tk,x]}:=by rw[<-hsz];exact jb _ rfl
 have up: ∀b o,b≠e->b≠it->hp.get? b=some o->(h₃.push {cls:= .type "tuple",data:= .seq #[.int c tk,x]}).get? b=some o:=fun b o b1 b2 q=>iF _ (p8.extBut b o b1 (p9.extBut b o b1 (r8.extBut b o b2 q)));have st₄:Src (h₃.push {cls:= .type "tuple",data:= .seq #[.int c tk,x]}) it l (i+1) xs:=st₁.keep (fun o q=>iF _ (p8.extBut _ o j9.symm (p9.extBut _ o j9.symm q))) (fun o q=>iF _ (p8.extBut _ o cU.symm (p9.extBut _ o cU.symm q)));have cO:(h₃.push {cls:= .type "tuple",data:= .seq #[.int c tk,x]}).objs.size=hp.objs.size+1:=by rw[pN,hsz]
 rw[hsz];generalize (h₃.push {cls:= .type "tuple",data:= .seq #[.int c tk,x]})=h₄ at dG ht₄ up st₄ cO;refine fS (m:=Builtin.SmallTypes.ownedTupleIsFree (.ref e)) ?_;unfold Builtin.SmallTypes.ownedTupleIsFree;refine fS (kn (s:=⟨h₄,g,d,tk+1,os⟩) dG rfl (x:= .none) rfl (gr ?_));simp only[gM];refine fS (sM (fS (kn (s:=⟨h₄,g,d,tk+1,os⟩) dG rfl (x:=old) rfl (fS (pM (s:=⟨h₄,g,d,tk+1,os⟩) dG (by simp) fun h₅ eT y8=>?_)))));replace y8:Heap.SameBut e h₄ h₅:=y8;replace eT:IsEnum h₅ e it (c+1) x:=eT;refine fS (m:=Builtin.SmallTypes.ownedTupleHandOut (.ref e) (.ref hp.objs.size)) ?_;unfold Builtin.SmallTypes.ownedTupleHandOut;refine fS (pM (s:=⟨h₅,g,d,tk+1,os⟩) eT (by simp) fun h₆ eS dh=>?_);replace dh:Heap.SameBut e h₅ h₆:=dh;replace eS:IsEnumOut h₆ e it (c+1) x hp.objs.size:=eS;refine pM (s:=⟨h₆,g,d,tk+1,os⟩) eS (by simp) fun h₇ eR bP=>?_;replace bP:Heap.SameBut e h₆ h₇:=bP;replace eR:IsEnumOut h₇ e it (c+1) x hp.objs.size:=eR;have all: ∀b o,b≠e->h₄.get? b=some o->h₇.get? b=some o:=fun b o b1 q=>bP.extBut b o b1 (dh.extBut b o b1 (y8.extBut b o b1 q));refine fS (xf (gr ⟨_,rfl,hQ h₇ eR (st₄.keep (fun o q=>all _ o j9.symm q) fun o q=>all _ o cU.symm q) (all _ _ (md hel) ht₄) ?_ fun b o b1 b2 q=>all b o b1 (up b o b1 b2 q)⟩));rw[bP.1,dh.1,y8.1,cO]
theorem vb{x old:gg}{Q:Ci}(he:IsEnum s.heap e it c old)(st:Src s.heap it l i xs)(hx:xs[i]?=some x)(j9:e≠it)(cU:e≠l)
  (hQ: ∀h',IsEnumOut h' e it (c+1) x s.heap.objs.size->Src h' it l (i+1) xs->h'.get? s.heap.objs.size=some {cls:= .type "tuple",data:= .seq #[.int c s.toks,x]}->h'.objs.size=s.heap.objs.size+1->
   (∀b o,b≠e->b≠it->s.heap.get? b=some o->h'.get? b=some o)->Q (some (.ref s.heap.objs.size)) {s with heap:=h',toks:=s.toks+1}):
  wpAny (model prog w) A (pyNext (.ref e)) Q E s:=by
 have hT:s.TypeIs (.ref e) "enumerate":=⟨_,he,rfl⟩
 unfold pyNext
 exact fS (vI (rk (name:=Str.ofString "__next__") hT AN (pk AN hT I9
  (Ib he st hx j9 cU fun h' a b c d k=>gr (hQ h' a b c d k)) (IZ _))))
theorem wk{old:gg}{Q:Ci}(hh:A.handled=none)(he:IsEnum s.heap e it c old)(st:Src s.heap it l i xs)(hx:xs[i]?=none)
  (hQ: ∀h',Heap.ExtBut it s.heap h'->Q none {s with heap:=h'}):wpAny (model prog w) A (pyNext (.ref e)) Q E s:=by
 have hT:s.TypeIs (.ref e) "enumerate":=⟨_,he,rfl⟩
 unfold pyNext;refine fS (vI (rk (name:=Str.ofString "__next__") hT AN (pk AN hT I9 ?_ (IZ _))));refine fS (m:=field (.ref e) 2) (kn he rfl (x:= .ref it) rfl (fS (st.stop hh hx fun h' x cE ⟨o,ho,hc⟩=>?_)));exact fS (AM (T:="StopIteration") (b:=true) ⟨o,ho,hc⟩ D3 (gr (hQ _ cE)))
end
section
variable {X:Cx}{pins:gE}{σ:L2.St}{H:Hp}{s:fW}{h':gD}
theorem zH{t':Nat}{ch:iN}{a:fR}{o:HO}(I:Inv X pins σ H s)(hf: ∀b∈ch,nS X pins H b)(k: ∀b u,b∉ch->s.heap.get? b=some u->h'.get? b=some u)(ha:s.heap.objs.size<=a)(new:ObjOk X.prog X.w (upd H a o) h' a o):
  Inv X pins σ (upd H a o) {s with heap:=h',toks:=t'}:=by
 have hn:=I.hok.fresh ha;have aA: ∀b u,H b=some u->b∉ch:=fun b u e z=>by have:=(hf b z).1;rw[this] at e;cases e
 have up: ∀b u,H b=some u->upd H a o b=some u:=fun b u e=>by rw[gG (lr e hn)];exact e
 have fr: ∀b u,s.heap.get? b=some u->H b=none->upd H a o b=none:=fun b u e n=>by
  rw[gG (fun z=>by subst z;exact absurd (iw e) (Nat.not_lt.mpr ha))];exact n
 refine I.step (g':=s.gens) (d':=s.drawn) (ch:=ch) (fun b hb=>?_) (fun b u _ _ hc e _=>k b u hc e) (fun b u _ _ hc e _=>⟨u.slots,k b u hc e⟩) (fun b u _ e n=>fr b u e n)
  (fun b u hc e=>⟨u,k b u hc e⟩) (fun b xs e=>up b _ e) (fun b _ _ e=>up b _ e) (fun b ps e=>⟨#[],by rw[up b _ e];simp⟩) (fun m hm=>?_) (fun b u e=>?_) I.bare
 ·obtain⟨_,f1,f2,f3,f4,f5⟩:=hf b hb;exact⟨f3,f1,f4,f5⟩
 ·obtain⟨u,es,ep,ho,r⟩:=hm;exact⟨u,es,ep,k _ u (fun z=>(hf _ z).2.1 rfl) ho,r⟩
 ·by_cases hb:b=a
  ·subst hb;rw[gF] at e;cases e;exact new
  ·rw[gG hb] at e;refine(I.hok b u e).stay (fun c v hc q=>k c v ?_ q) (fun c q=>up c _ q) fun c xs q=>up c _ q;rcases hc with z|z
   ·rw[z];exact aA b u e
   ·exact aA c _ z
theorem zI{t':Nat}{ch:iN}(I:Inv X pins σ H s)(hf: ∀b∈ch,nS X pins H b)(k: ∀b u,b∉ch->s.heap.get? b=some u->h'.get? b=some u):Inv X pins σ H {s with heap:=h',toks:=t'}:=by
 have aA: ∀b u,H b=some u->b∉ch:=fun b u e z=>by have:=(hf b z).1;rw[this] at e;cases e
 refine I.step (g':=s.gens) (d':=s.drawn) (ch:=ch) (fun b hb=>?_) (fun b u _ _ hc e _=>k b u hc e) (fun b u _ _ hc e _=>⟨u.slots,k b u hc e⟩) (fun b u _ e n=>n)
  (fun b u hc e=>⟨u,k b u hc e⟩) (fun b xs e=>e) (fun b _ _ e=>e) (fun b ps e=>⟨#[],by rw[e];simp⟩) (fun m hm=>?_) (fun b u e=>?_) I.bare
 ·obtain⟨_,f1,f2,f3,f4,f5⟩:=hf b hb;exact⟨f3,f1,f4,f5⟩
 ·obtain⟨u,es,ep,ho,r⟩:=hm;exact⟨u,es,ep,k _ u (fun z=>(hf _ z).2.1 rfl) ho,r⟩
 ·refine(I.hok b u e).stay (fun c v hc q=>k c v ?_ q) (fun c q=>q) fun c xs q=>q;rcases hc with z|z
  ·rw[z];exact aA b u e
  ·exact aA c _ z
end
def SqX(b:Bool)(K:gq)(H:Hp)(l:fR)(xs:List V):Prop:=if b=true then SqL K H l xs else SqT K H l xs
def ItX(b:Bool)(h:gD)(it l:fR)(i:Nat):Prop:=if b=true then h.IsListIter it l i else h.IsTupleIter it l i
theorem ItX.keep(x:ItX b h it l i)(k: ∀o,h.get? it=some o->h'.get? it=some o):ItX b h' it l i:=by
 cases b
 ·exact PySem.Heap.IsTupleIter.at (show h.IsTupleIter it l i from x) k
 ·exact PySem.Heap.IsListIter.at (show h.IsListIter it l i from x) k
theorem ItX.obj(x:ItX b h it l i): ∃o,h.get? it=some o/\ ∀v,o.data≠ .cell v:=by
 cases b<;>(obtain⟨o,e,c,d⟩:=x;exact⟨o,e,fun v z=>by rw[d] at z;cases z⟩)
section
variable {X:Cx}{pins:gE}{σ:L2.St}{H:Hp}{s:fW}
theorem qB(I:Inv X pins σ H s)(q:SqX b X.K H l xs)(t:ItX b s.heap it l i): ∃its,Vals xs its/\Src s.heap it l i its.toArray:=by
 cases b with
 |true=>obtain⟨its,v,p,_⟩:=I.list q;exact⟨its,v,.inl ⟨t,p.isList⟩⟩
 |false=>obtain⟨its,v,p,_⟩:=I.tuple q;exact⟨its,v,.inr ⟨t,p⟩⟩
theorem Ba(I:Inv X pins σ H s)(q:SqX b X.K H l xs)(q':SqX b X.K H l ys):xs=ys:=by
 cases b with
 |true=>exact I.list_inj q q'
 |false=>exact I.tuple_inj q q'
theorem Fc(t:ItX b h it l i)(hs:Src h it l i xs)(ba:Src h' it l i' xs)(kl: ∀o,h.get? l=some o->h'.get? l=some o):ItX b h' it l i':=by
 cases b with
 |true=>
  rcases ba with⟨a,_⟩|⟨a,c⟩
  ·exact a
  ·rcases hs with⟨_,o,h1,h2,_⟩|⟨⟨o,h1,h2,_⟩,_⟩
   ·obtain⟨o',g1,g2,_⟩:=c;rw[kl _ h1] at g1;cases g1;rw[h2] at g2;injection g2 with g2;exact absurd g2 (by decide)
   ·obtain⟨o',g1,g2,_⟩:=t;rw[h1] at g1;cases g1;rw[h2] at g2;injection g2 with g2;exact absurd g2 (by decide)
 |false=>
  rcases ba with⟨a,c⟩|⟨a,_⟩
  ·rcases hs with⟨⟨o,h1,h2,_⟩,_⟩|⟨_,o,h1,h2,_⟩
   ·obtain⟨o',g1,g2,_⟩:=t;rw[h1] at g1;cases g1;rw[h2] at g2;injection g2 with g2;exact absurd g2 (by decide)
   ·obtain⟨o',g1,g2,_⟩:=c;rw[kl _ h1] at g1;cases g1;rw[h2] at g2;injection g2 with g2;exact absurd g2 (by decide)
  ·exact a
end
noncomputable def ItE(b:Bool)(K:gq)(l:fR)(c:Int):It:=⟨fun i H=> ∃xs x,SqX b K H l xs/\xs[i]?=some x,
 fun i H x H'=> ∃(T:fR) (y:V),x= .ref T/\H T=none/\H'=upd H T (.tup [.int (c+i),y])/\ ∀xs,SqX b K H l xs->xs[i]?=some y,fun i H=> ∃xs,SqX b K H l xs/\xs.length<=i⟩
theorem Hc{P:gA}{w:gu}{K:gq}{elts:iL}{k1}{pos:Pos}(b:Bool)(e it l:fR)(c:Int)(j9:e≠it):
  Turn P w K (.Tuple elts k1 pos) (ItE b K l c) [e,it] e (fun i h=>(∃old,IsEnum h e it (c+i) old)/\ItX b h it l i) where
 mem:=by simp
 obj:=fun i h st a ha=>by
  obtain⟨⟨old,he⟩,st⟩:=st;have r6:a=e\/a=it:=by simpa using ha
  rcases r6 with rfl|rfl
  ·exact⟨_,he,fun v z=>by
    have z':Data.fields _=Data.cell v:=z;cases z'⟩
  ·exact st.obj
 keep:=fun i h h' st k=>by
  obtain⟨⟨old,he⟩,st⟩:=st;exact⟨⟨old,k e (by simp) _ he⟩,st.keep fun o q=>k it (by simp) o q⟩
 item:=by
  intro X hP hw hK hc i pins s σ H E I hf st hg;subst hP hw hK;obtain⟨⟨old,he⟩,st⟩:=st;obtain⟨xs,x,hq,hx⟩:=hg;obtain⟨its,rv,src⟩:=qB I hq st;obtain⟨u,hu,ru⟩:=rv.get hx
  have ee:e≠l:=fun z=>by
   subst z;have n0:=(hf e (by simp)).1;rcases src with⟨_,o,h1,h2,_⟩|⟨_,o,h1,h2,_⟩<;>(have cE:s.heap.get? e=_:=he;rw[h1] at cE;cases cE;injection h2 with h2;exact absurd h2 (by decide))
  refine vb he src (x:=u) (by simpa using hu) j9 ee fun h' ho src' hT hsz kp=>⟨.ref s.heap.objs.size,rfl,?_⟩
  refine wpAny_letOwnedTupleGo_enum ho fun ao he'' sb=>?_;have het:e<s.heap.objs.size:=iw he
  have aM: ∀a o,a∉[e,it]->s.heap.get? a=some o->ao.get? a=some o:=fun a o na q=>by
   have n1:a≠e:=fun z=>na (by simp[z]);have n2:a≠it:=fun z=>na (by simp[z]);exact sb.extBut a o n1 (kp a o n1 n2 q)
  have cv:ao.get? s.heap.objs.size=some {cls:= .type "tuple",data:= .seq #[.int (c+i) s.toks,u]}:=sb.extBut _ _ (md het) hT
  have I1:Inv X pins σ (upd H s.heap.objs.size (.tup [.int (c+i),x])) {s with heap:=ao,toks:=s.toks+1}:=
   zH I hf aM (gY _) (show ObjOk X.prog X.w _ _ _ (.tup [.int (c+i),x]) from⟨by show 2<=sizeLine;decide,[.int (c+i) s.toks,u],.cons ⟨_,rfl⟩ (.cons ru .nil),_,cv,rfl,0,rfl⟩)
  have st'':ItX b ao it l (i+1):=by
   refine Fc st src (src'.keep (fun o q=>sb.extBut _ o j9.symm q) fun o q=>sb.extBut _ o ee.symm q) fun o q=>aM l o ?_ q;have:=src.ne;simp only[jQ,kj,nc,not_or];exact⟨ee.symm,this⟩
  refine⟨.ref s.heap.objs.size,_,I1,rfl,⟨_,x,rfl,I.fresh,rfl,fun ys hy=>by rw[Ba I hy hq];exact hx⟩,⟨⟨u,?_⟩,st''⟩,fun a ha=>?_⟩
  ·have e1:c+((i+1:Nat):Int)=c+i+1:=by omega
   show IsEnum ao e it (c+((i+1:Nat):Int)) u;rw[e1];exact he''
  ·have n0:=(hf a ha).1;rw[gG]
   ·exact n0
   ·intro z;have k0:a=e\/a=it:=by simpa using ha
    rcases k0 with rfl|rfl
    ·exact absurd z (ip het)
    ·exact absurd z (ip src.lt.1)
 done:=by
  intro X hP hw hK hc i pins s σ H E I hf st hg;subst hP hw hK;obtain⟨⟨old,he⟩,st⟩:=st;obtain⟨xs,hq,hx⟩:=hg;obtain⟨its,rv,src⟩:=qB I hq st;have hl:=rv.length;exact wk (I.ok.hd hc) he src (by simp;omega) fun h' eb=>⟨rfl,zI (t':=s.toks) I hf fun a o na q=>eb a o (fun z=>na (by simp[z])) q⟩
 self:=fun _ _ _ _ _ st h=>by
  obtain⟨⟨old,he⟩,_⟩:=st;exact wpAny_pyIter_enum he h
theorem xN{K H}(q:SqA b K H P a xs):SqX b K H a xs:=by
 cases b with
 |true=>exact q.l
 |false=>exact q.t
theorem HN{K:gq}{P O:AP'}{H1:Hp}{a:fR}{xs:List V}{ds:List D}{b:Bool}{c:Int}(q:SqA b K H1 P a xs)(r:RepL K H1 O ds xs)(hP: ∀a,P a->O a):
  ItOk K (ItE b K a c) (ds.zipIdx.map fun p=> .tup [.int (c+p.2),p.1]) P O H1:=by
 have sq: ∀Hi,(∀a o,H1 a=some o-> ¬P a->Hi a=some o)->SqX b K Hi a xs:=fun Hi hp=>xN (q.mono hp fun _ z=>z);refine⟨fun i d Hi hd hp=>?_,fun i Hi hi hp=>⟨xs,sq Hi hp,by rw[r.length];simpa using hi⟩⟩;rw[jr] at hd;obtain⟨⟨d0,j⟩,h1,h2⟩:=gU hd;rw[D5] at h1;obtain⟨d1,h3,h4⟩:=gU h1;obtain⟨rfl,rfl⟩:=vL h4;obtain⟨x,hx,rx⟩:=r.get h3;refine⟨⟨xs,x,sq Hi hp,hx⟩,fun y H' hy=>?_⟩;obtain⟨T,z,rfl,hT,rfl,hz⟩:=hy;have hz:=hz xs (sq Hi hp);rw[hx] at hz;cases hz;have ext:=jY (o:= .tup [.int (c+i),x]) hT;refine⟨ext,fun O' h1 bC=>?_⟩;subst h2;refine Rep.mkTup ⟨gF,bC T hT⟩ (RepL.cons ?_ (RepL.cons (Rep.mono (fun b o e n=>ext b o (hp b o e fun z=>n (hP b z))) (fun b hb z=>h1 b hb z) rx) RepL.nil));simp only[rN];exact Rep.mkInt
open AutoSeq1 (wpAny_loadPart')
section
variable {prog:gA}{w:gu}{A:gw}{E:gH}{s:fW}
theorem Q8{T newId:String}{self:gg}{rz:hV}{kw:List (Str×Value)}(hl:typeLookup (.type T) "__init__"=pure (some (.builtin "object.__init__")))(hm:Bind.madeBy (.type T)=pure (some newId))(j9:(some newId !=some "object.__new__")=true):
  Meets (Builtin.«object.__init__» ⟨self::rz,kw⟩) (fun _ R s=>s.TypeIs self T/\R (.ok (.ret .none)) s):=by
 refine Meets.of_wp fun prog w A R s hs=>?_;obtain⟨hT,hq⟩:=hs;by_cases hb:(!rz.isEmpty||!kw.isEmpty)=true
 ·unfold Builtin.«object.__init__»;simp only[hb,gM]
  repeat (any_goals (first|assumption|wp_step))
  exact⟨_,rfl,hq⟩
 ·unfold Builtin.«object.__init__»;simp only[hb,iE];exact gr ⟨_,rfl,hq⟩
theorem Fx{T newId:String}{Bn:Builtin}{args:hV}{kw:List (Str×Value)}{S:PySem.Spec}{Q:gH}(ft:TypeCalled T newId "object.__init__")(j9:(some newId !=some "object.__new__")=true)(hct:checkTypeCall T ⟨args,kw⟩=pure ())
  (hcn:checkBuiltinCall newId ⟨.type T::args,kw⟩=pure ())(hok: ∀obj,argsOk "object.__init__" ⟨obj::args,kw⟩)(entryN:entryFor table newId=some Bn)(g:Meets (Bn ⟨.type T::args,kw⟩) S)
  (h:S A.in1 (wants (fun obj s₁=>s₁.TypeIs obj T/\Q obj s₁) E) s):wpAny (model prog w) A (call (.type T) args kw) Q E s:=by
 obtain⟨c,tl,hmro⟩:=ft.mro;have hmade:=ft.made;have bX:=ft.sub;refine wpAny_call (AY ?_);show wpAny _ _ (callAny (.type T) _) _ _ _;refine gr ⟨Code.quiet_builtin _ (by decide+kernel),uF F.entry_type_call ?_⟩;rw[Around.under_plain (weight_type_call_type T args kw) (units_type_call_type T args kw)];have h1:=ft.notType;have h2:=ft.canCreate
 repeat (any_goals (first|assumption|wp_step))
 refine sO (IY ft.plain entryN (xj hcn (g prog w A.in1 _ s h))) fun r s₁ hr=>?_
 cases r with
 |error e=>exact hr
 |ok fl=>
  cases fl with
  |ret obj=>
   obtain⟨hT,hq⟩:=hr;have hli:=ft.init.lookup;have hbi:=ft.init.bind obj
   repeat (any_goals (first|assumption|wp_step))
   have gi:=Q8 (self:=obj) (rz:=args) (kw:=kw) ft.init.lookup ft.made j9;refine sO (IY ft.init.plain Jd (ft.init.check _ _ _ _ _ _ _ _ hT (hok obj) (gi prog w A.in1 (wants (fun r s₂=>r= .none/\Q obj s₂) E) s₁ ⟨hT,rfl,hq⟩))) fun r₂ s₂ eD=>?_
   cases r₂ with
   |error e=>exact eD
   |ok fl₂=>
    cases fl₂ with
    |ret r=>
     obtain⟨rfl,hq⟩:=eD
     repeat (any_goals (first|assumption|wp_step))
    |_=>exact eD.elim
  |_=>exact hr.elim
theorem BP(a b:gg):checkTypeCall "enumerate" ⟨[a],[("start",b)]⟩=pure ():=by kernel_rfl
theorem Dr(a b:gg):checkBuiltinCall "enumerate.__new__" ⟨[.type "enumerate",a],[("start",b)]⟩=pure ():=by kernel_rfl
theorem BQ(o a b:gg):argsOk "object.__init__" ⟨[o,a],[("start",b)]⟩:=by
 unfold argsOk;rw[signature?_of (id:="object.__init__") (n:=['_','_','t','i','n','i','_','_']) (o:=['t','c','e','j','b','o']) (by kernel_rfl) F.owner_object];kernel_rfl
noncomputable def qS(it:fR)(c:Int):Obj:={cls:= .type "enumerate",data:= .fields #[.none,.bool false,.ref it,rawInt c,.none,.none]}
theorem Ia(l:fR)(xs:jz)(c:Int)(t:Tok)(hc:Builtin.SmallTypes.fitsIndex c=true):Meets (Builtin.«enumerate.__new__» ⟨[.type "enumerate",.ref l],[("start",.int c t)]⟩) (fun _ R s=>(s.heap.IsList l xs\/s.heap.IsTuple l xs)/\
  ∀h',Src h' s.heap.objs.size l 0 xs->h'.objs.size=s.heap.objs.size+1->(∀b o,s.heap.get? b=some o->h'.get? b=some o)->R (.ok (.ret (.ref h'.objs.size))) {s with heap:=h'.push (qS s.heap.objs.size c)}):=
 .of_wp fun prog w A R s h=>by
  obtain⟨hp,g,d,tk,os⟩:=s;obtain⟨hl,h⟩:=h;have bX:=sub_enumerate
  wp_walk
  refine wpAny_stack_any fun st=>gr ?_;split
  ·rename_i c _ _ _ _ _;cases(c==Value.type "enumerate")<;>(wp_walk using Src.new hl;intro h' a b c;wp_walk;exact⟨_,rfl,h h' a b c⟩)
  ·wp_walk using Src.new hl
   intro h' a b c
   wp_walk
   exact⟨_,rfl,h h' a b c⟩
theorem Fw(hl:s.heap.IsList l xs\/s.heap.IsTuple l xs)(hc:Builtin.SmallTypes.fitsIndex c=true)
  (h: ∀h',Src h' s.heap.objs.size l 0 xs->h'.objs.size=s.heap.objs.size+1->(∀b o,s.heap.get? b=some o->h'.get? b=some o)->Q (.ref h'.objs.size) {s with heap:=h'.push (qS s.heap.objs.size c)}):
  wpAny (model prog w) A (call (.type "enumerate") [.ref l] [("start",.int c t)]) Q E s:=
 Fx F.called_enumerate (by decide) (BP _ _) (Dr _ _) (fun obj=>BQ obj _ _) F.entry_enumerate_new (Ia l xs c t hc) ⟨hl,fun h' a b c=>⟨⟨_,jb _ rfl,rfl⟩,h h' a b c⟩⟩
end
section
variable {X:Cx}{pins:gE}{σ:L2.St}{H:Hp}{s:fW}{elts:iL}{k1:Nat}{n6:Pos}
theorem NQ{R:It->Hp->Prop}{E:gH}{b:Bool}{l:fR}{xs:List V}{its:hV}{h':gD}{c:Int}(I:Inv X pins σ H s)(hq:SqX b X.K H l xs)(src:Src h' s.heap.objs.size l 0 its.toArray)(hz:h'.objs.size=s.heap.objs.size+1)
  (kp: ∀b o,s.heap.get? b=some o->h'.get? b=some o)(r:R (ItE b X.K l c) H):wpAny (model X.prog X.w) X.A (pyIter (.ref h'.objs.size)) (PIE X pins σ (.Tuple elts k1 n6) R) E {s with heap:=h'.push (qS s.heap.objs.size c)}:=by
 have he:IsEnum (h'.push (qS s.heap.objs.size c)) h'.objs.size s.heap.objs.size c .none:=jb _ rfl;refine wpAny_pyIter_enum he ?_;have I1:Inv X pins σ H {s with heap:=h'.push (qS s.heap.objs.size c)}:=I.kept (t':=s.toks) fun b o e=>iF _ (kp b o e);have j9:h'.objs.size≠s.heap.objs.size:=by rw[hz];exact Nat.succ_ne_self _
 refine⟨h'.objs.size,[h'.objs.size,s.heap.objs.size],_,_,H,rfl,I1,Hc b h'.objs.size s.heap.objs.size l c j9,⟨⟨.none,by simpa using he⟩,?_⟩,fun a ha=>?_,r⟩
 ·have v7:=src.keep (h':=h'.push (qS s.heap.objs.size c)) (fun o e=>iF _ e) (fun o e=>iF _ e)
  cases b with
  |true=>
   rcases v7 with⟨a,_⟩|⟨_,o,h1,h2,_⟩
   ·exact a
   ·obtain⟨_,_,p,_⟩:=I1.list hq;obtain⟨o',g1,g2,_⟩:=p.isList;rw[h1] at g1;cases g1;rw[h2] at g2;injection g2 with g2;exact absurd g2 (by decide)
  |false=>
   rcases v7 with⟨_,o,h1,h2,_⟩|⟨a,_⟩
   ·obtain⟨_,_,p,_⟩:=I1.tuple hq;obtain⟨o',g1,g2,_⟩:=p;rw[h1] at g1;cases g1;rw[h2] at g2;injection g2 with g2;exact absurd g2 (by decide)
   ·exact a
 ·have k0:a=h'.objs.size\/a=s.heap.objs.size:=by simpa using ha
  rcases k0 with rfl|rfl
  ·exact I.fpOk (by rw[hz];exact uN _) (I.hok.fresh (by rw[hz];exact uN _))
  ·exact I.fpOk (gY _) (I.hok.fresh (gY _))
def OB(K:gq)(c:Int)(ta:TA):TI:=fun σ H R=>ta σ H fun vs H1=> ∃b l xs,vs=[.ref l]/\SqX b K H1 l xs/\R (ItE b K l c) H1
theorem Ey(I:Inv X pins σ H s)(q:SqX b X.K H l xs): ∃its,Vals xs its/\(s.heap.IsList l its.toArray\/s.heap.IsTuple l its.toArray):=by
 cases b with
 |true=>obtain⟨its,v,p,_⟩:=I.list q;exact⟨its,v,.inl p.isList⟩
 |false=>obtain⟨its,v,p,_⟩:=I.tuple q;exact⟨its,v,.inr p⟩
theorem NT:bootBuiltins "enumerate"=some (.type "enumerate"):=by decide+kernel
theorem wu{M:Model}{A:gw}{E:gH}{s:fW}{env:Env}{pos:Pos}{T:String}{e:gf}{bT:List Keyword}{Q:gH}
  (h:wpAny M A (spliced (backTo pos (starEach [e] env))) (fun vs s₁=>wpAny M A (evalAll ((backToKw pos (keywordEach bT env)).map (·.2))) (fun kvs s₂=>wpAny M A (call (.type T) vs (((backToKw pos (keywordEach bT env)).filterMap (·.1)).zip kvs)) Q E s₂) E s₁) E s)
  (he:backTo pos (starEach [e] env)=(false,eval e env)::backTo pos (starEach [] env))(f7:(backTo pos (starEach [e] env)).any (·.1)=false)(cq:(backToKw pos (keywordEach bT env)).all (·.1.isSome)=true)(hkw:(backToKw pos (keywordEach bT env)).any (·.1.isNone)=false):
  wpAny M A (callWith pos (.type T) [] (backTo pos (starEach [e] env)) (backToKw pos (keywordEach bT env))) Q E s:=by
 have h2:wpAny M A (evalArgs (.type T) true (backTo pos (starEach [e] env)) (backToKw pos (keywordEach bT env))) (fun a s₁=>wpAny M A (call (.type T) ([]++a.pos) a.kw) Q E s₁) E s:=by
  rw[he] at h ⊢;exact evalArgs_kwB cq h
 unfold callWith;refine fS (kN (mN h2 (fun a s₁ h₁=>fS (vR ?_)) fun _ _ x=>x));simp only[f7,hkw,Bool.or_false];exact fS (gr (fS (mN h₁ (fun r s₂ hr=>fS (kN (wpAny_point (gr hr)))) fun _ _ x=>x)))
theorem KA{a:gf}{ta:TA}{p pos p1 kp:Pos}{c:Int}{z:Nat}(hg:Gl X "enumerate")(hm:X.mg "enumerate"=none)(ha:PA X [a] ta)(hc:Builtin.SmallTypes.fitsIndex c=true)
  (he:backTo pos (starEach [a] X.env)=(false,eval a X.env)::backTo pos (starEach [] X.env))(f7:(backTo pos (starEach [a] X.env)).any (·.1)=false):
  PI X (.Tuple elts k1 n6) (.Call (.Name "enumerate" p) [a] [⟨some "start",.Constant (.int c) z p1,kp⟩] pos) (OB X.K c ta):=by
 intro pins s σ H R I h;refine uR (oR I hg hm NT (wu (thn (ha pos pins s σ H _ I h) fun us s1 ⟨vs,H1,I1,r1,b,l,xs,hv,hq,q⟩=>?_) he f7 rfl rfl));subst hv;obtain⟨u,rfl,ru⟩:=pB r1;cases ru;refine kws_cons (thn (KO pins s1 σ H1 (fun v H'=>v= .int c/\H'=H1) I1 ⟨rfl,rfl⟩) fun v s2 ⟨x,H2,I2,rx,hx,hH⟩=>kws_nil ?_);subst hx;subst hH;obtain⟨t,rfl⟩:=rx;obtain⟨its,_,hl⟩:=Ey I2 hq;exact Fw hl hc fun h' src hz kp=>NQ I2 hq src hz kp q
noncomputable def BI(c:Int)(f:F):FIt:=fun δ=>(f δ).bind fun p=>match p.1.1 with
 | .tup l=>some (l.zipIdx.map fun q=> .tup [.int (c+q.2),q.1],p.2)
 | .lst l=>some (l.zipIdx.map fun q=> .tup [.int (c+q.2),q.1],p.2)
 |_=>none
theorem Nq{K:gq}{T:AP'}{σ:L2.St}{δ δ1:Dn}{H:Hp}{r:D×Bool}{f:F}{Q:List V->Hp->Prop}(E:ER K H T σ δ)(h:f δ=some (r,δ1))(k: ∀v H',Keep σ δ H δ1 H'->ER K H' T σ δ1->Rep K H' (fun a=>OwnA σ δ1 a\/T a) r.1 v->Q [v] H'):tA K [fP f] σ H Q:=by
 refine⟨δ,T,[.val r],δ1,E,?_,fun vs H1 T1 B=>?_⟩
 ·show((fP f δ).bind fun p=>(iV [] p.2).bind fun q=>some (p.1::q.1,q.2))=_;simp only[fP,h,Option.bind,iV]
 ·have hl:=B.len
  match vs,hl with
  |[v],_=>exact k v H1 B.keep (B.er.mono (fun _ _ e _=>e) (fun b _ z=>B.tt b z) (fun a z=>B.er.dom a (B.tt a z))) (B.rep E (j:=0) rfl rfl)
theorem LM{K:gq}{B:SB}{c:Int}{f:F}{σ:L2.St}{H:Hp}{R:It->Hp->Prop}(hw:tI K B (BI c f) σ H R):OB K c (tA K [fP f]) σ H R:=by
 obtain⟨δ,T,ds,δ',E,e,k⟩:=hw;obtain⟨⟨⟨d,o⟩,δ1⟩,h1,e⟩:=fN e;refine Nq E h1 fun v H1 K1 E1 rv=>?_
 have key: ∀{l},pT d=some l->some (l.zipIdx.map fun q=>D.tup [.int (c+q.2),q.1],δ1)=some (ds,δ')-> ∃b a xs,[v]=[V.ref a]/\SqX b K H1 a xs/\R (ItE b K a c) H1:=fun hs e=>by
  obtain⟨rfl,rfl⟩:=gp e;obtain⟨a,xs,rfl,q,rr⟩:=zR hs rv;have q:=q.mono (fun _ _ e _=>e) (P':=OwB B T σ δ1) fun a z=>z.own;exact⟨_,a,xs,rfl,xN q,k _ H1 K1 E1 (HN q rr fun a z=>z.own)⟩
 cases d with
 |tup l=>exact key rfl e
 |lst l=>exact key rfl e
 |_=>cases e
theorem Hy{B:SB}{a:gf}{f:F}{p pos p1 kp:Pos}{c:Int}{z:Nat}(hg:Gl X "enumerate")(hm:X.mg "enumerate"=none)(ha:PX X a f)(hc:Builtin.SmallTypes.fitsIndex c=true)(s0:starEach [a] X.env=(false,eval a X.env)::starEach [] X.env)
  (he:backTo pos (starEach [a] X.env)=(false,eval a X.env)::backTo pos (starEach [] X.env))(f7:(backTo pos (starEach [a] X.env)).any (·.1)=false):
  PIX X B (.Tuple elts k1 n6) (.Call (.Name "enumerate" p) [a] [⟨some "start",.Constant (.int c) z p1,kp⟩] pos) (BI c f):=PI.imp' (KA hg hm (pX (PX.po ha) wK s0) hc he f7) fun σ H R hw=>LM hw
end
section
variable {prog:gA}{w:gu}{A:gw}{E:gH}{s:fW}{z TI TO i1 i2 l1 l2:fR}{k:Nat}{xs ys:jz}{x y a b:gg}
theorem Jt{Q:gH}(D:ZipApart z TI TO i1 i2 l1 l2)(hz:IsZip s.heap z TI TO .none)(t7:IsPair s.heap TI (.ref i1) (.ref i2))(u9:IsPair s.heap TO a b)(h1:Src s.heap i1 l1 k xs)(h2:Src s.heap i2 l2 k ys)(hx:xs[k]?=some x)(hy:ys[k]?=some y)
  (hQ: ∀h',IsZip h' z TI TO (rawInt s.heap.objs.size)->IsPair h' TO x y->Src h' i1 l1 (k+1) xs->Src h' i2 l2 (k+1) ys->IsPair h' s.heap.objs.size x y->(∀c o,c≠z->c≠TO->c≠i1->c≠i2->s.heap.get? c=some o->h'.get? c=some o)->Q (.ref s.heap.objs.size) {s with heap:=h'}):
  wpAny (model prog w) A (Builtin.«zip.__next__» ⟨[.ref z],[]⟩) (fun fin s'=> ∃v,fin= .done (.ret v)/\Q v s') E s:=by
 refine fS (m:=field (.ref z) 2) (kn hz rfl (x:= .bool false) rfl (fS (m:=field (.ref z) 3) (kn hz rfl (x:= .ref TI) rfl (fS (vJ t7 rfl (fS (m:=Builtin.SmallTypes.ownedTupleIsFree (.ref z)) ?_))))));unfold Builtin.SmallTypes.ownedTupleIsFree;refine fS (kn hz rfl (x:= .none) rfl (gr ?_));simp only[gM];refine fS (sM (fS (kn hz rfl (x:= .ref TO) rfl (fS (pM hz (by simp) fun h₁ bJ r8=>?_)))));replace bJ:IsZip h₁ z TI TO .ellipsis:=bJ;refine fS ?_;simp only[List.zipIdx_cons,List.zipIdx_nil,xk,List.forIn_nil];have c1:Src h₁ i1 l1 k xs:=h1.keep (fun o e=>r8.extBut _ o D.i1z e) (fun o e=>r8.extBut _ o D.l1z e);refine fS (fS (xc (fS (m:=Builtin.SmallTypes.nextOf (.ref i1)) (c1.item (s:={s with heap:=h₁}) hx fun h₂ c1₂ p9=>gr ?_))));have aI:IsPair h₂ TO a b:=p9.extBut _ _ D.TOi1 (r8.extBut _ _ D.TOz u9);refine fS (vJ (s:={s with heap:=h₂}) aI rfl (fS (D2 (s:={s with heap:=h₂}) aI fun h₃ bB p8=>fS (xf (gr ?_)))));replace bB:IsPair h₃ TO x b:=bB;have c2:Src h₃ i2 l2 k ys:=h2.keep (fun o e=>p8.extBut _ o D.TOi2.symm (p9.extBut _ o D.i12.symm (r8.extBut _ o D.i2z e))) (fun o e=>p8.extBut _ o D.l2TO (p9.extBut _ o D.l2i1 (r8.extBut _ o D.l2z e)));refine fS (fS (xc (fS (m:=Builtin.SmallTypes.nextOf (.ref i2)) (c2.item (s:={s with heap:=h₃}) hy fun h₄ c2₄ aX=>gr ?_))));have hTO₄:IsPair h₄ TO x b:=aX.extBut _ _ D.TOi2 bB;refine fS (vJ (s:={s with heap:=h₄}) hTO₄ rfl (fS (D2 (s:={s with heap:=h₄}) hTO₄ fun h₅ bA y8=>fS (xf (gr (gr ?_))))));replace bA:IsPair h₅ TO x y:=bA;refine fS (vJ (s:={s with heap:=h₅}) bA rfl (fS (AO (s:={s with heap:=h₅}) ?_)));have hsz:h₅.objs.size=s.heap.objs.size:=by rw[y8.1,aX.1,p8.1,p9.1,r8.1]
 have hz₅:IsZip h₅ z TI TO .ellipsis:=y8.extBut _ _ D.TOz.symm (aX.extBut _ _ D.i2z.symm (p8.extBut _ _ D.TOz.symm (p9.extBut _ _ D.i1z.symm bJ)));have hk₅: ∀c o,c≠z->c≠TO->c≠i1->c≠i2->s.heap.get? c=some o->h₅.get? c=some o:=fun c o d1 d2 d3 d4 e=>y8.extBut _ _ d2 (aX.extBut _ _ d4 (p8.extBut _ _ d2 (p9.extBut _ _ d3 (r8.extBut _ _ d1 e))));have c1₅:Src h₅ i1 l1 (k+1) xs:=c1₂.keep (fun o e=>y8.extBut _ o D.TOi1.symm (aX.extBut _ o D.i12 (p8.extBut _ o D.TOi1.symm e))) (fun o e=>y8.extBut _ o D.l1TO (aX.extBut _ o D.l1i2 (p8.extBut _ o D.l1TO e)));have c2₅:Src h₅ i2 l2 (k+1) ys:=c2₄.keep (fun o e=>y8.extBut _ o D.TOi2.symm e) (fun o e=>y8.extBut _ o D.l2TO e);have hzlt:z<h₅.objs.size:=iw hz₅;refine fS (m:=Builtin.SmallTypes.ownedTupleHandOut (.ref z) (.ref h₅.objs.size)) ?_;unfold Builtin.SmallTypes.ownedTupleHandOut;have hz₆:IsZip (h₅.push {cls:= .type "tuple",data:= .seq #[x,y]}) z TI TO .ellipsis:=iF _ hz₅;refine fS (pM (s:={s with heap:=h₅.push {cls:= .type "tuple",data:= .seq #[x,y]}}) hz₆ (by simp) fun h₇ ei bP=>?_);replace ei:IsZip h₇ z TI TO (rawInt h₅.objs.size):=ei;refine pM (s:={s with heap:=h₇}) ei (by simp) fun h₈ du sb₈=>?_;replace du:IsZip h₈ z TI TO (rawInt h₅.objs.size):=du;have up: ∀c o,c≠z->h₅.get? c=some o->h₈.get? c=some o:=fun c o d1 e=>sb₈.extBut _ _ d1 (bP.extBut _ _ d1 (iF _ e));have hT₈:IsPair h₈ h₅.objs.size x y:=sb₈.extBut _ _ (md hzlt) (bP.extBut _ _ (md hzlt) (jb _ rfl));rw[hsz] at du hT₈;refine gr ⟨_,rfl,?_⟩;show Q (.ref h₅.objs.size) _;rw[hsz];exact hQ h₈ du (up _ _ D.TOz bA) (c1₅.keep (fun o e=>up _ o D.i1z e) fun o e=>up _ o D.l1z e) (c2₅.keep (fun o e=>up _ o D.i2z e) fun o e=>up _ o D.l2z e) hT₈ fun c o d1 d2 d3 d4 e=>up c o d1 (hk₅ c o d1 d2 d3 d4 e)
theorem Js{Q:Fin->Shared->Prop}(hh:A.handled=none)(D:ZipApart z TI TO i1 i2 l1 l2)(hz:IsZip s.heap z TI TO .none)(t7:IsPair s.heap TI (.ref i1) (.ref i2))(u9:IsPair s.heap TO a b)(h1:Src s.heap i1 l1 k xs)(h2:Src s.heap i2 l2 k ys)(t4:xs[k]?=none\/ys[k]?=none)
  (hE: ∀h' e,(∀c o,c≠z->c≠TO->c≠i1->c≠i2->s.heap.get? c=some o->h'.get? c=some o)->(∃o,h'.get? e=some o/\o.cls= .type "StopIteration")->E (.ref e) {s with heap:=h'}):wpAny (model prog w) A (Builtin.«zip.__next__» ⟨[.ref z],[]⟩) Q E s:=by
 have notzip: ∀{h:gD} {e:fR} {oe:Obj} {f0:gg},IsZip h z TI TO f0->h.get? e=some oe->oe.cls= .type "StopIteration"->e≠z:=fun hzz cf bw q=>by
  subst q;have hzz':_=_:=hzz;rw[cf] at hzz';cases hzz';injection bw with bw;exact absurd bw (by decide)
 refine fS (m:=field (.ref z) 2) (kn hz rfl (x:= .bool false) rfl (fS (m:=field (.ref z) 3) (kn hz rfl (x:= .ref TI) rfl (fS (vJ t7 rfl (fS (m:=Builtin.SmallTypes.ownedTupleIsFree (.ref z)) ?_))))));unfold Builtin.SmallTypes.ownedTupleIsFree;refine fS (kn hz rfl (x:= .none) rfl (gr ?_));simp only[gM];refine fS (sM (fS (kn hz rfl (x:= .ref TO) rfl (fS (pM hz (by simp) fun h₁ bJ r8=>?_)))));replace bJ:IsZip h₁ z TI TO .ellipsis:=bJ;refine fS ?_;simp only[List.zipIdx_cons,List.zipIdx_nil,xk,List.forIn_nil];have c1:Src h₁ i1 l1 k xs:=h1.keep (fun o e=>r8.extBut _ o D.i1z e) (fun o e=>r8.extBut _ o D.l1z e)
 cases hx:xs[k]? with
 |none=>
  refine fS (fS (xc (fS (m:=Builtin.SmallTypes.nextOf (.ref i1)) (c1.stop (s:={s with heap:=h₁}) hh hx fun h₂ e p9 ⟨oe,cf,bw⟩=>?_))));have hz₂:IsZip h₂ z TI TO .ellipsis:=p9 _ _ D.i1z.symm bJ;exact pM (s:={s with heap:=h₂}) hz₂ (by simp) fun h₃ _ p8=>hE h₃ e (fun c o d1 _ d3 _ q=>p8.extBut _ _ d1 (p9 _ _ d3 (r8.extBut _ _ d1 q))) ⟨oe,p8.extBut _ _ (notzip hz₂ cf bw) cf,bw⟩
 |some x=>
  have hy:ys[k]?=none:=by rcases t4 with h|h;rw[hx] at h;cases h;exact h
  refine fS (fS (xc (fS (m:=Builtin.SmallTypes.nextOf (.ref i1)) (c1.item (s:={s with heap:=h₁}) hx fun h₂ c1₂ p9=>gr ?_))));have aI:IsPair h₂ TO a b:=p9.extBut _ _ D.TOi1 (r8.extBut _ _ D.TOz u9);refine fS (vJ (s:={s with heap:=h₂}) aI rfl (fS (D2 (s:={s with heap:=h₂}) aI fun h₃ bB p8=>fS (xf (gr ?_)))));have c2:Src h₃ i2 l2 k ys:=h2.keep (fun o e=>p8.extBut _ o D.TOi2.symm (p9.extBut _ o D.i12.symm (r8.extBut _ o D.i2z e))) (fun o e=>p8.extBut _ o D.l2TO (p9.extBut _ o D.l2i1 (r8.extBut _ o D.l2z e)));refine fS (fS (xc (fS (m:=Builtin.SmallTypes.nextOf (.ref i2)) (c2.stop (s:={s with heap:=h₃}) hh hy fun h₄ e aX ⟨oe,cf,bw⟩=>?_))));have cO:IsZip h₄ z TI TO .ellipsis:=aX _ _ D.i2z.symm (p8.extBut _ _ D.TOz.symm (p9.extBut _ _ D.i1z.symm bJ));exact pM (s:={s with heap:=h₄}) cO (by simp) fun h₅ _ y8=>hE h₅ e (fun c o d1 d2 d3 d4 q=>y8.extBut _ _ d1 (aX _ _ d4 (p8.extBut _ _ d2 (p9.extBut _ _ d3 (r8.extBut _ _ d1 q))))) ⟨oe,y8.extBut _ _ (notzip cO cf bw) cf,bw⟩
theorem EJ{Q:Ci}(D:ZipApart z TI TO i1 i2 l1 l2)(hz:IsZip s.heap z TI TO .none)(t7:IsPair s.heap TI (.ref i1) (.ref i2))(u9:IsPair s.heap TO a b)(h1:Src s.heap i1 l1 k xs)(h2:Src s.heap i2 l2 k ys)(hx:xs[k]?=some x)(hy:ys[k]?=some y)
  (hQ: ∀h',IsZip h' z TI TO (rawInt s.heap.objs.size)->IsPair h' TO x y->Src h' i1 l1 (k+1) xs->Src h' i2 l2 (k+1) ys->IsPair h' s.heap.objs.size x y->(∀c o,c≠z->c≠TO->c≠i1->c≠i2->s.heap.get? c=some o->h'.get? c=some o)->Q (some (.ref s.heap.objs.size)) {s with heap:=h'}):
  wpAny (model prog w) A (pyNext (.ref z)) Q E s:=by
 have hT:s.TypeIs (.ref z) "zip":=⟨_,hz,rfl⟩
 unfold pyNext
 exact fS (vI (rk (name:=Str.ofString "__next__") hT AL (pk AL hT F.entry_zip_next
  (Jt D hz t7 u9 h1 h2 hx hy fun h' a1 a2 a3 a4 a5 a6=>gr (hQ h' a1 a2 a3 a4 a5 a6)) (F.args_zip_next_1 _))))
theorem ya{Q:Ci}(hh:A.handled=none)(D:ZipApart z TI TO i1 i2 l1 l2)(hz:IsZip s.heap z TI TO .none)(t7:IsPair s.heap TI (.ref i1) (.ref i2))(u9:IsPair s.heap TO a b)(h1:Src s.heap i1 l1 k xs)(h2:Src s.heap i2 l2 k ys)(t4:xs[k]?=none\/ys[k]?=none)
  (hQ: ∀h',(∀c o,c≠z->c≠TO->c≠i1->c≠i2->s.heap.get? c=some o->h'.get? c=some o)->Q none {s with heap:=h'}):wpAny (model prog w) A (pyNext (.ref z)) Q E s:=by
 have hT:s.TypeIs (.ref z) "zip":=⟨_,hz,rfl⟩
 unfold pyNext
 exact fS (vI (rk (name:=Str.ofString "__next__") hT AL (pk AL hT F.entry_zip_next
  (Js hh D hz t7 u9 h1 h2 t4 fun h' e hk ⟨o,ho,hc⟩=>fS (AM (T:="StopIteration") (b:=true) ⟨o,ho,hc⟩ D3 (gr (hQ _ hk)))) (F.args_zip_next_1 _))))
end
theorem Mp(l1 l2:fR)(xs ys:jz):Meets (Builtin.«zip.__new__» ⟨[.type "zip",.ref l1,.ref l2],[]⟩) (fun _ R s=>(s.heap.IsList l1 xs\/s.heap.IsTuple l1 xs)/\(s.heap.IsList l2 ys\/s.heap.IsTuple l2 ys)/\
  ∀h1 h2,Src h1 s.heap.objs.size l1 0 xs->h1.objs.size=s.heap.objs.size+1->(∀b o,s.heap.get? b=some o->h1.get? b=some o)->Src h2 h1.objs.size l2 0 ys->h2.objs.size=h1.objs.size+1->(∀b o,h1.get? b=some o->h2.get? b=some o)->
   R (.ok (.ret (.ref ((h2.push {cls:= .type "tuple",data:= .seq #[.ref s.heap.objs.size,.ref h1.objs.size]}).push {cls:= .type "tuple",data:= .seq #[.none,.none]}).objs.size)))
    {s with heap:=((h2.push {cls:= .type "tuple",data:= .seq #[.ref s.heap.objs.size,.ref h1.objs.size]}).push {cls:= .type "tuple",data:= .seq #[.none,.none]}).push {cls:= .type "zip",data:= .fields #[.none,.bool false,.bool false,.ref h2.objs.size,.ref (h2.push {cls:= .type "tuple",data:= .seq #[.ref s.heap.objs.size,.ref h1.objs.size]}).objs.size]}}):=
 .of_wp fun prog w A R s h=>by
  obtain⟨hp,g,d,tk,os⟩:=s;obtain⟨dB,aP,h⟩:=h;have bX:=sub_zip
  wp_walk using Src.new dB
  intro h1 a1 a2 a3
  have hl2':h1.IsList l2 ys\/h1.IsTuple l2 ys:=by
   rcases aP with⟨o,e,r⟩|⟨o,e,r⟩
   ·exact .inl ⟨o,a3 _ _ e,r⟩
   ·exact .inr ⟨o,a3 _ _ e,r⟩
  wp_walk using Src.new (s:=⟨h1,g,d,tk,os⟩) hl2'
  intro h2 b1 b2 b3
  wp_walk
  exact⟨_,rfl,h h1 h2 a1 a2 a3 b1 b2 b3⟩
noncomputable def ItZ(b1 b2:Bool)(K:gq)(l1 l2:fR):It:=⟨fun i H=> ∃xs ys x y,SqX b1 K H l1 xs/\SqX b2 K H l2 ys/\xs[i]?=some x/\ys[i]?=some y,
 fun i H x H'=> ∃(T:fR) (u v:V),x= .ref T/\H T=none/\H'=upd H T (.tup [u,v])/\ ∀xs ys,SqX b1 K H l1 xs->SqX b2 K H l2 ys->xs[i]?=some u/\ys[i]?=some v,
 fun i H=> ∃xs ys,SqX b1 K H l1 xs/\SqX b2 K H l2 ys/\(xs.length<=i\/ys.length<=i)⟩
structure ZA(z TI TO i1 i2:fR):Prop where
 a1:TI≠z
 a2:TO≠z
 a3:i1≠z
 a4:i2≠z
 a5:TI≠TO
 a6:TI≠i1
 a7:TI≠i2
 a8:TO≠i1
 a9:TO≠i2
 a10:i1≠i2
theorem sZ{b:Bool}{K:gq}{H:Hp}{l:fR}{xs:List V}{X:Cx}{pins:gE}{σ:L2.St}{s:fW}(I:Inv X pins σ H s)(hK:X.K=K)(q:SqX b K H l xs){fp:iN}(hf: ∀a∈fp,nS X pins H a):l∉fp:=by
 subst hK;intro hm;have hn:=(hf l hm).1
 have base: ∀o,X.K.lookup l=some o->False:=fun o e=>by
  have e1:=I.mod.kin l o e;rcases(hf l hm).2.2.2.1 with z|z
  ·exact I.ok.noex l o e1 z
  ·have:=(I.ok.bs l o e1).1;exact absurd (iw this) (Nat.not_lt.mpr z)
 cases b with
 |true=>
  rcases q with(q|⟨o,q⟩)|⟨o,its,n,e,_⟩
  ·rw[hn] at q;cases q
  ·rw[hn] at q;cases q
  ·exact base o e
 |false=>
  rcases q with(q|⟨o,q⟩)|⟨o,its,n,e,_⟩
  ·rw[hn] at q;cases q
  ·rw[hn] at q;cases q
  ·exact base o e
theorem JD{P:gA}{w:gu}{K:gq}{elts:iL}{k1}{pos:Pos}(b1 b2:Bool)(z TI TO i1 i2 l1 l2:fR)(D:ZA z TI TO i1 i2):
  Turn P w K (.Tuple elts k1 pos) (ItZ b1 b2 K l1 l2) [z,TI,TO,i1,i2] z (fun i h=>IsZip h z TI TO .none/\IsPair h TI (.ref i1) (.ref i2)/\(∃a b,IsPair h TO a b)/\ItX b1 h i1 l1 i/\ItX b2 h i2 l2 i) where
 mem:=by simp
 obj:=fun i h st a ha=>by
  obtain⟨hz,t7,⟨u,v,u9⟩,s1,s2⟩:=st;simp only[jQ,kj,nc] at ha;rcases ha with rfl|rfl|rfl|rfl|rfl
  ·exact⟨_,hz,fun v e=>by have e':Data.fields _=Data.cell v:=e;cases e'⟩
  ·exact⟨_,t7,fun v e=>by have e':Data.seq _ _=Data.cell v:=e;cases e'⟩
  ·exact⟨_,u9,fun v e=>by have e':Data.seq _ _=Data.cell v:=e;cases e'⟩
  ·exact s1.obj
  ·exact s2.obj
 keep:=fun i h h' st k=>by
  obtain⟨hz,t7,⟨u,v,u9⟩,s1,s2⟩:=st;exact⟨k z (by simp) _ hz,k TI (by simp) _ t7,⟨u,v,k TO (by simp) _ u9⟩,s1.keep fun o q=>k i1 (by simp) o q,s2.keep fun o q=>k i2 (by simp) o q⟩
 item:=by
  intro X hP hw hK hc i pins s σ H E I hf st hg;obtain⟨hz,t7,⟨a0,b0,u9⟩,s1,s2⟩:=st;obtain⟨xs,ys,x,y,bg,bf,hx,hy⟩:=hg;have n1:=sZ I hK bg hf;have n2:=sZ I hK bf hf;simp only[jQ,kj,nc,not_or] at n1 n2;subst hP hw hK;obtain⟨bU,dS,v7⟩:=qB I bg s1;obtain⟨b9,dR,ar⟩:=qB I bf s2;obtain⟨u,hu,ru⟩:=dS.get hx;obtain⟨v,hv,rv⟩:=dR.get hy;have AP:ZipApart z TI TO i1 i2 l1 l2:=⟨D.a1,D.a2,D.a3,D.a4,D.a5,D.a6,D.a7,D.a8,D.a9,D.a10,n1.1,n1.2.2.1,n1.2.2.2.1,n1.2.2.2.2,n2.1,n2.2.2.1,n2.2.2.2.1,n2.2.2.2.2⟩
  refine EJ AP hz t7 u9 v7 ar (x:=u) (y:=v) (by simpa using hu) (by simpa using hv) fun h' z' t1 c1 c2 hT kp=>⟨.ref s.heap.objs.size,rfl,?_⟩
  refine wpAny_letOwnedTupleGo_zip (s:={s with heap:=h'}) z' fun ao z'' sb=>?_;replace sb:Heap.SameBut z h' ao:=sb
  have aM: ∀a o,a∉[z,TI,TO,i1,i2]->s.heap.get? a=some o->ao.get? a=some o:=fun a o na q=>by
   simp only[jQ,kj,nc,not_or] at na;exact sb.extBut a o na.1 (kp a o na.1 na.2.2.1 na.2.2.2.1 na.2.2.2.2 q)
  have lt: ∀{c o},s.heap.get? c=some o->s.heap.objs.size≠c:=fun e=>md (iw e);have cv:IsPair ao s.heap.objs.size u v:=sb.extBut _ _ (lt hz) hT
  have I1:Inv X pins σ (upd H s.heap.objs.size (.tup [x,y])) {s with heap:=ao}:=
   zH (t':=s.toks) I hf aM (gY _) (show ObjOk X.prog X.w _ _ _ (.tup [x,y]) from⟨by show 2<=sizeLine;decide,[u,v],.cons ru (.cons rv .nil),_,cv,rfl,0,rfl⟩)
  have t1'':ItX b1 ao i1 l1 (i+1):=Fc s1 v7 (c1.keep (fun o q=>sb.extBut _ o D.a3 q) fun o q=>sb.extBut _ o n1.1 q) fun o q=>aM l1 o (by simp only[jQ,kj,nc,not_or];exact n1) q;have t2'':ItX b2 ao i2 l2 (i+1):=Fc s2 ar (c2.keep (fun o q=>sb.extBut _ o D.a4 q) fun o q=>sb.extBut _ o n2.1 q) fun o q=>aM l2 o (by simp only[jQ,kj,nc,not_or];exact n2) q;refine⟨.ref s.heap.objs.size,_,I1,rfl,⟨_,x,y,rfl,I.fresh,rfl,fun bG ys' q1 q2=>by rw[Ba I q1 bg,Ba I q2 bf];exact⟨hx,hy⟩⟩,⟨z'',sb.extBut _ _ D.a1 (kp _ _ D.a1 D.a5 D.a6 D.a7 t7),⟨u,v,sb.extBut _ _ D.a2 t1⟩,t1'',t2''⟩,fun a ha=>?_⟩;have n0:=(hf a ha).1;rw[gG]
  ·exact n0
  ·intro e;simp only[jQ,kj,nc] at ha;rcases ha with rfl|rfl|rfl|rfl|rfl
   ·exact lt hz e.symm
   ·exact lt t7 e.symm
   ·exact lt u9 e.symm
   ·exact absurd e (ip v7.lt.1)
   ·exact absurd e (ip ar.lt.1)
 done:=by
  intro X hP hw hK hc i pins s σ H E I hf st hg;obtain⟨hz,t7,⟨a0,b0,u9⟩,s1,s2⟩:=st;obtain⟨xs,ys,bg,bf,t4⟩:=hg;have n1:=sZ I hK bg hf;have n2:=sZ I hK bf hf;simp only[jQ,kj,nc,not_or] at n1 n2;subst hP hw hK;obtain⟨bU,dS,v7⟩:=qB I bg s1;obtain⟨b9,dR,ar⟩:=qB I bf s2;have e1:=dS.length;have e2:=dR.length;have AP:ZipApart z TI TO i1 i2 l1 l2:=⟨D.a1,D.a2,D.a3,D.a4,D.a5,D.a6,D.a7,D.a8,D.a9,D.a10,n1.1,n1.2.2.1,n1.2.2.2.1,n1.2.2.2.2,n2.1,n2.2.2.1,n2.2.2.2.1,n2.2.2.2.2⟩
  refine ya (I.ok.hd hc) AP hz t7 u9 v7 ar (t4.imp (fun h=>by simp;omega) fun h=>by simp;omega) fun h' kp=>⟨rfl,zI (t':=s.toks) I hf fun a o na q=>?_⟩
  simp only[jQ,kj,nc,not_or] at na;exact kp a o na.1 na.2.2.1 na.2.2.2.1 na.2.2.2.2 q
 self:=fun _ _ _ _ _ st h=>wpAny_pyIter_zip st.1 h
theorem Ls{K:gq}{P O:AP'}{H1:Hp}{a1 a2:fR}{xs ys:List V}{ds es:List D}{b1 b2:Bool}(q1:SqA b1 K H1 P a1 xs)(r1:RepL K H1 O ds xs)(q2:SqA b2 K H1 P a2 ys)(r2:RepL K H1 O es ys)(hP: ∀a,P a->O a):
  ItOk K (ItZ b1 b2 K a1 a2) ((ds.zip es).map fun p=> .tup [p.1,p.2]) P O H1:=by
 have sq: ∀{b:Bool} {a:fR} {xs:List V},SqA b K H1 P a xs-> ∀Hi,(∀a o,H1 a=some o-> ¬P a->Hi a=some o)->SqX b K Hi a xs:=fun q Hi hp=>xN (q.mono hp fun _ z=>z);refine⟨fun i d Hi hd hp=>?_,fun i Hi hi hp=>⟨xs,ys,sq q1 Hi hp,sq q2 Hi hp,by rw[r1.length,r2.length];simp at hi;omega⟩⟩;rw[jr] at hd;obtain⟨⟨d1,d2⟩,h1,h2⟩:=gU hd;obtain⟨h3,h4⟩:=Mm.mp h1;obtain⟨x,hx,rx⟩:=r1.get h3;obtain⟨y,hy,ry⟩:=r2.get h4;refine⟨⟨xs,ys,x,y,sq q1 Hi hp,sq q2 Hi hp,hx,hy⟩,fun v H' eu=>?_⟩;obtain⟨T,u,w,rfl,hT,rfl,hz⟩:=eu;obtain⟨g1,g2⟩:=hz xs ys (sq q1 Hi hp) (sq q2 Hi hp);rw[hx] at g1;cases g1;rw[hy] at g2;cases g2;have ext:=jY (o:= .tup [x,y]) hT;refine⟨ext,fun O' h1 bC=>?_⟩;subst h2;exact Rep.mkTup ⟨gF,bC T hT⟩ (RepL.cons (Rep.mono (fun b o e n=>ext b o (hp b o e fun z=>n (hP b z))) (fun b hb z=>h1 b hb z) rx) (RepL.cons (Rep.mono (fun b o e n=>ext b o (hp b o e fun z=>n (hP b z))) (fun b hb z=>h1 b hb z) ry) RepL.nil))
section
variable {X:Cx}{elts:iL}{k1:Nat}{n6:Pos}
theorem Rr:bootBuiltins "zip"=some (.type "zip"):=by decide+kernel
def UQ(K:gq)(ta:TA):TI:=fun σ H R=>ta σ H fun vs H1=> ∃b1 b2 l1 l2 xs ys,vs=[.ref l1,.ref l2]/\SqX b1 K H1 l1 xs/\SqX b2 K H1 l2 ys/\R (ItZ b1 b2 K l1 l2) H1
theorem GG(I:Inv X pins σ H s)(hq:SqX b X.K H l xs)(src:Src s.heap it l i its):ItX b s.heap it l i:=by
 cases b with
 |true=>
  rcases src with⟨a,_⟩|⟨_,o,h1,h2,_⟩
  ·exact a
  ·obtain⟨_,_,p,_⟩:=I.list hq;obtain⟨o',g1,g2,_⟩:=p.isList;rw[h1] at g1;cases g1;rw[h2] at g2;injection g2 with g2;exact absurd g2 (by decide)
 |false=>
  rcases src with⟨_,o,h1,h2,_⟩|⟨a,_⟩
  ·obtain⟨_,_,p,_⟩:=I.tuple hq;obtain⟨o',g1,g2,_⟩:=p;rw[h1] at g1;cases g1;rw[h2] at g2;injection g2 with g2;exact absurd g2 (by decide)
  ·exact a
theorem Qd{a b:gf}{ta:TA}{p pos:Pos}(hg:Gl X "zip")(hm:X.mg "zip"=none)(ha:PA X [a,b] ta)(hs:starEach [a,b] X.env=(false,eval a X.env)::starEach [b] X.env)(j7:(backTo pos (starEach [b] X.env)).any (·.1)=false):
  PI X (.Tuple elts k1 n6) (.Call (.Name "zip" p) [a,b] [] pos) (UQ X.K ta):=by
 intro pins s0 σ H0 R I0 h;refine uR (oR I0 hg hm Rr (A3 (thn (ha pos pins s0 σ H0 _ I0 h) fun us s ⟨vs,H,I,r1,b1,b2,l1,l2,xs,ys,hv,bg,bf,q⟩=>?_) hs j7));subst hv;obtain⟨u,v,rfl,ru,rv⟩:=Ct r1;cases ru;cases rv;obtain⟨bU,_,dB⟩:=Ey I bg;obtain⟨b9,_,aP⟩:=Ey I bf;refine callType_new F.called_zip (by decide) (F.typeCall_zip_2 _ _) (F.newCall_zip_2 _ _) (fun obj=>F.args_object_init_3 obj _ _) F.entry_zip_new (Mp l1 l2 bU.toArray b9.toArray) ⟨dB,aP,fun h1 h2 c1 z1 k1 c2 z2 k2=>?_⟩;generalize ho3:({cls:= .type "tuple",data:= .seq #[.ref s.heap.objs.size,.ref h1.objs.size]}:Obj)=o3;generalize ho4:({cls:= .type "tuple",data:= .seq #[.none,.none]}:Obj)=o4;have z3:(h2.push o3).objs.size=h2.objs.size+1:=pN ..;have z4:((h2.push o3).push o4).objs.size=h2.objs.size+2:=by rw[pN,z3]
 generalize ho5:({cls:= .type "zip",data:= .fields #[.none,.bool false,.bool false,.ref h2.objs.size,.ref (h2.push o3).objs.size]}:Obj)=o5;have g5:(((h2.push o3).push o4).push o5).get? ((h2.push o3).push o4).objs.size=some o5:=jb _ (by rw[<-ho5];rfl);have g4:(((h2.push o3).push o4).push o5).get? (h2.push o3).objs.size=some o4:=iF _ (jb _ (by rw[<-ho4];rfl));have g3:(((h2.push o3).push o4).push o5).get? h2.objs.size=some o3:=iF _ (iF _ (jb _ (by rw[<-ho3];rfl)));have kp: ∀c o,h2.get? c=some o->(((h2.push o3).push o4).push o5).get? c=some o:=fun c o e=>iF _ (iF _ (iF _ e));have bV:IsZip (((h2.push o3).push o4).push o5) ((h2.push o3).push o4).objs.size h2.objs.size (h2.push o3).objs.size .none:=by show _=_;rw[g5,<-ho5]
 have t7:IsPair (((h2.push o3).push o4).push o5) h2.objs.size (.ref s.heap.objs.size) (.ref h1.objs.size):=by show _=_;rw[g3,<-ho3]
 have u9:IsPair (((h2.push o3).push o4).push o5) (h2.push o3).objs.size .none .none:=by show _=_;rw[g4,<-ho4]
 have I1:Inv X pins σ H {s with heap:=((h2.push o3).push o4).push o5}:=I.kept (t':=s.toks) fun c o e=>kp c o (k2 c o (k1 c o e));have d1:=c1.keep (h':=((h2.push o3).push o4).push o5) (fun o e=>kp _ o (k2 _ o e)) (fun o e=>kp _ o (k2 _ o e));have d2:=c2.keep (h':=((h2.push o3).push o4).push o5) (fun o e=>kp _ o e) (fun o e=>kp _ o e);refine⟨⟨_,bV,rfl⟩,wpAny_pyIter_zip (s:={s with heap:=((h2.push o3).push o4).push o5}) bV ?_⟩;refine⟨((h2.push o3).push o4).objs.size,[((h2.push o3).push o4).objs.size,h2.objs.size,(h2.push o3).objs.size,s.heap.objs.size,h1.objs.size],_,_,H,rfl,I1,JD b1 b2 _ _ _ _ _ l1 l2 ⟨?_,?_,?_,?_,?_,?_,?_,?_,?_,?_⟩,⟨bV,t7,⟨_,_,u9⟩,GG I1 bg d1,GG I1 bf d2⟩,fun a ha=>?_,q⟩
 ·rw[z4];exact ip (Nat.lt_add_of_pos_right (by decide))
 ·rw[z4,z3];exact ip (uG _)
 ·rw[z4,z2,z1];exact ip (by
   have:s.heap.objs.size<s.heap.objs.size+1+1+2:=by omega
   exact this)
 ·rw[z4,z2];exact ip (by
   have:h1.objs.size<h1.objs.size+1+2:=by omega
   exact this)
 ·rw[z3];exact ip (uG _)
 ·rw[z2,z1];exact md (by
   have:s.heap.objs.size<s.heap.objs.size+1+1:=by omega
   exact this)
 ·rw[z2];exact md (uG _)
 ·rw[z3,z2,z1];exact md (by
   have:s.heap.objs.size<s.heap.objs.size+1+1+1:=by omega
   exact this)
 ·rw[z3,z2];exact md (by
   have:h1.objs.size<h1.objs.size+1+1:=by omega
   exact this)
 ·rw[z1];exact ip (uG _)
 ·have le:s.heap.objs.size<=a:=by
   simp only[jQ,kj,nc] at ha;rcases ha with rfl|rfl|rfl|rfl|rfl
   ·rw[z4,z2,z1];have:s.heap.objs.size<=s.heap.objs.size+1+1+2:=by omega
    exact this
   ·rw[z2,z1];have:s.heap.objs.size<=s.heap.objs.size+1+1:=by omega
    exact this
   ·rw[z3,z2,z1];have:s.heap.objs.size<=s.heap.objs.size+1+1+1:=by omega
    exact this
   ·exact gY _
   ·rw[z1];exact uN _
  exact I.fpOk le (I.hok.fresh le)
noncomputable def Fd(f g:FO):FIt:=fun δ=>(f δ).bind fun p=>(g p.2).bind fun q=>(res q.2 p.1).bind fun x=>(res q.2 q.1).bind fun y=>(pT x).bind fun l=>(pT y).bind fun m=>some ((l.zip m).map fun p=> .tup [p.1,p.2],q.2)
noncomputable def vY(f g:F):FIt:=fun δ=>(f δ).bind fun p=>(g p.2).bind fun q=>(pT p.1.1).bind fun l=>(pT q.1.1).bind fun m=>some ((l.zip m).map fun p=> .tup [p.1,p.2],q.2)
theorem Kv{B:SB}{a b:gf}{f g:FO}{p pos:Pos}(hg:Gl X "zip")(hm:X.mg "zip"=none)(ha:PO X a f)(hb:PO X b g)(B1:SlB B f)(B2:SlB B g)(hs:starEach [a,b] X.env=(false,eval a X.env)::starEach [b] X.env)(n5:starEach [b] X.env=(false,eval b X.env)::starEach [] X.env)(j7:(backTo pos (starEach [b] X.env)).any (·.1)=false):
  PIX X B (.Tuple elts k1 n6) (.Call (.Name "zip" p) [a,b] [] pos) (Fd f g):=PI.imp' (Qd hg hm (pX ha (pX hb wK n5) hs) hs j7) fun σ H R hw=>by
 obtain⟨δ,T,ds,δ',E,e,k⟩:=hw;obtain⟨⟨o1,δ1⟩,h1,e⟩:=fN e;obtain⟨⟨o2,δ2⟩,h2,e⟩:=fN e;obtain⟨x,h3,e⟩:=fN e;obtain⟨y,h4,e⟩:=fN e;obtain⟨l,h5,e⟩:=fN e;obtain⟨m,h6,e⟩:=fN e;obtain⟨rfl,rfl⟩:=gp e;dsimp only at h2;refine⟨δ,T,[o1,o2],δ2,E,?_,fun vs H1 T1 W=>?_⟩
 ·simp only[iV,h1,h2,Option.bind]
 ·have hl:=W.len
  match vs,hl with
  |[v,u],_=>
   obtain⟨a1,xs,rfl,q1,rr1⟩:=W.seq E (j:=0) rfl rfl h3 h5 fun i hi=>B1 _ _ _ (hi▸h1);obtain⟨a2,ys,rfl,q2,rr2⟩:=W.seq E (j:=1) rfl rfl h4 h6 fun i hi=>B2 _ _ _ (hi▸h2);exact⟨_,_,a1,a2,xs,ys,rfl,xN q1,xN q2,k _ H1 W.keep (W.er.mono (fun _ _ e _=>e) (fun b _ z=>W.tt b z) (fun a z=>W.er.dom a (W.tt a z))) (Ls q1 rr1 q2 rr2 fun a z=>z.own)⟩
theorem Na{B:SB}{a b:gf}{f g:F}{p pos:Pos}(hg:Gl X "zip")(hm:X.mg "zip"=none)(ha:PX X a f)(hb:PX X b g)(hs:starEach [a,b] X.env=(false,eval a X.env)::starEach [b] X.env)(n5:starEach [b] X.env=(false,eval b X.env)::starEach [] X.env)(j7:(backTo pos (starEach [b] X.env)).any (·.1)=false):
  PIX X B (.Tuple elts k1 n6) (.Call (.Name "zip" p) [a,b] [] pos) (vY f g):=PI.imp' (Kv (B:=B) hg hm (PX.po ha) (PX.po hb) Bc Bc hs n5 j7) fun σ H R hw=>by
 have:vY f g=Fd (fP f) (fP g):=funext fun δ=>by
  unfold vY Fd fP
  cases f δ with
  |none=>rfl
  |some p=>simp only[Option.bind];cases g p.2<;>rfl
 rwa [this] at hw
end
end PX
namespace TS
open PySem PyProof.Rows
section
variable(M:Model)(A:gw)(E:gH)(G:Shared->Prop){σ:Type}
def wpI{α:Type}(m:StateT σ Sem α)(Q:α->σ->Prop)(st:σ):Prop:= ∀s,G s->wpAny M A (m.run st) (fun r s'=>G s'/\Q r.1 r.2) E s
variable {M A E G}
theorem fU{α:Type}{a:α}{Q:α->σ->Prop}{st:σ}(h:Q a st):wpI M A E G (pure a:StateT σ Sem α) Q st:=fun s g=>by rw[D1];exact gr ⟨g,h⟩
theorem fQ{α β:Type}{m:StateT σ Sem α}{f:α->StateT σ Sem β}{Q:β->σ->Prop}{st:σ}(h:wpI M A E G m (fun a b6=>wpI M A E G (f a) Q b6) st):wpI M A E G (m>>=f) Q st:=fun s g=>by
 rw[StateT.run_bind];exact fS (mN (h s g) (fun r s' h'=>h'.2 s' h'.1) fun _ _ e=>e)
theorem gR{α:Type}{c:Prop}[Decidable c]{t e:StateT σ Sem α}{Q:α->σ->Prop}{st:σ}(h1:c->wpI M A E G t Q st)(h2: ¬c->wpI M A E G e Q st):wpI M A E G (if c then t else e) Q st:=by split<;>simp_all
theorem ic{α:Type}{m:StateT σ Sem α}{Q Q':α->σ->Prop}{st:σ}(h:wpI M A E G m Q st)(hq: ∀a b6,Q a b6->Q' a b6):wpI M A E G m Q' st:=fun s g=>mN (h s g) (fun r _ h'=>⟨h'.1,hq _ _ h'.2⟩) fun _ _ e=>e
theorem kF{Q:σ->σ->Prop}{st:σ}(h:Q st st):wpI M A E G (get:StateT σ Sem σ) Q st:=fun s g=>by rw[StateT.run_get];exact gr ⟨g,h⟩
theorem Mq{Q:PUnit->σ->Prop}{st b6:σ}(h:Q ⟨⟩ b6):wpI M A E G (set b6:StateT σ Sem PUnit) Q st:=fun s g=>by rw[StateT.run_set];exact gr ⟨g,h⟩
theorem jq{f:σ->σ}{Q:PUnit->σ->Prop}{st:σ}(h:Q ⟨⟩ (f st)):wpI M A E G (modify f:StateT σ Sem PUnit) Q st:=fun s g=>by rw[StateT.run_modify];exact gr ⟨g,h⟩
theorem Cn{α:Type}{m:Sem α}{Q:α->σ->Prop}{st:σ}(h: ∀s,G s->wpAny M A m (fun a s'=>G s'/\Q a st) E s):wpI M A E G (liftM m:StateT σ Sem α) Q st:=fun s g=>by
 show wpAny M A ((StateT.lift m:StateT σ Sem α).run st) _ E s;rw[StateT.run_lift];exact fS (mN (h s g) (fun a s' h'=>gr h') fun _ _ e=>e)
theorem nZ{x:String}{Q:Unit->σ->Prop}{st:σ}(h:Q () st):wpI M A E G (liftM (rule x):StateT σ Sem Unit) Q st:=Cn fun s g=>sM ⟨g,h⟩
theorem Cm{β:Type}(f:Nat->β->StateT σ Sem (ForInStep β))(I:List Nat->β->σ->Prop)(Q:β->σ->Prop)
  (af: ∀x gL b st,I (x::gL) b st->wpI M A E G (f x b) (fun r b6=>match r with| .done b'=>Q b' b6| .yield b'=>I gL b' b6) st)(t4: ∀b st,I [] b st->Q b st):
  ∀(l:hU) (b:β) (st:σ),I l b st->wpI M A E G (forIn l b f) Q st
 |[],b,st,h=>by rw[List.forIn_nil];exact fU (t4 _ _ h)
 |x::gL,b,st,h=>by
  rw[xk];refine fQ (ic (af x gL b st h) fun r b6 h'=>?_)
  cases r with
  |done b'=>exact fU h'
  |yield b'=>exact Cm f I Q af t4 gL b' b6 h'
theorem ir{β:Type}{a b:Nat}{f:Nat->β->StateT σ Sem (ForInStep β)}(I:Nat->β->σ->Prop){Q:β->σ->Prop}
  (af: ∀i c st,a<=i->i<b->I i c st->wpI M A E G (f i c) (fun r b6=>match r with| .done c'=>Q c' b6| .yield c'=>I (i+1) c' b6) st)
  (t4: ∀c st,I (max a b) c st->Q c st){c:β}{st:σ}(h:I a c st):wpI M A E G (forIn [a:b] c f) Q st:=by
 rw[Std.Legacy.Range.forIn_eq_forIn_range'];have hsz:([a:b]:Std.Legacy.Range).size=b-a:=by simp[Std.Legacy.Range.size]
 show wpI M A E G (forIn (List.range' a ([a:b]:Std.Legacy.Range).size 1) c f) Q st;rw[hsz];refine Cm f (fun l c st=> ∃i,a<=i/\i<=max a b/\l=List.range' i (max a b-i) 1/\I i c st) Q ?_ ?_ _ c st ⟨a,gY _,by omega,by congr 1;omega,h⟩
 ·rintro x gL c st ⟨i,hai,hib,hl,hI⟩
  cases hn:max a b-i with
  |zero=>rw[hn] at hl;simp at hl
  |succ n=>
   rw[hn,AK] at hl;obtain⟨rfl,rfl⟩:=rM hl;refine ic (af x c st hai (by omega) hI) fun r b6 h'=>?_
   cases r with
   |done c'=>exact h'
   |yield c'=>exact⟨x+1,by omega,by omega,by congr 1;omega,h'⟩
 ·rintro c st ⟨i,hai,hib,hl,hI⟩
  have:max a b-i=0:=by
   cases hn:max a b-i with
   |zero=>rfl
   |succ n=>rw[hn,AK] at hl;cases hl
  have:i=max a b:=by omega
  subst this;exact t4 _ _ hI
end
structure Wk(lt:kL):Prop where
 irr: ∀i,lt i i=false
 tr: ∀i j k,lt i j=true->lt j k=true->lt i k=true
 nt: ∀i j k,lt i k=true->lt i j=true\/lt j k=true
def SL(lt:kL)(i j:Nat):Prop:=lt i j=true\/(lt j i=false/\i<j)
section
variable {lt:kL}(W:Wk lt)
include W
theorem Wk.asym(h:lt i j=true):lt j i=false:=by
 cases h2:lt j i with
 |false=>rfl
 |true=>have:=W.tr _ _ _ h h2;rw[W.irr] at this;cases this
theorem Wk.le_tr(h1:lt j i=false)(h2:lt k j=false):lt k i=false:=by
 cases h:lt k i with
 |false=>rfl
 |true=>
   rcases W.nt _ j _ h with q|q
   ·rw[h2] at q;cases q
   ·rw[h1] at q;cases q
theorem Wk.lt_le(h1:lt i j=true)(h2:lt k j=false):lt i k=true:=by
 rcases W.nt _ k _ h1 with q|q
 ·exact q
 ·rw[h2] at q;cases q
theorem Wk.le_lt(h1:lt j i=false)(h2:lt j k=true):lt i k=true:=by
 rcases W.nt _ i _ h2 with q|q
 ·rw[h1] at q;cases q
 ·exact q
theorem SL.trans(h1:SL lt i j)(h2:SL lt j k):SL lt i k:=by
 rcases h1 with h1|⟨h1,e1⟩<;>rcases h2 with h2|⟨h2,e2⟩
 ·exact .inl (W.tr _ _ _ h1 h2)
 ·exact .inl (W.lt_le h1 h2)
 ·exact .inl (W.le_lt h1 h2)
 ·exact .inr ⟨W.le_tr h1 h2,by omega⟩
theorem SL.le(h:SL lt i j):lt j i=false:=h.elim W.asym fun h=>h.1
theorem SL.asym(h1:SL lt i j)(h2:SL lt j i):False:=by
 have a:=SL.le W h1;have b:=SL.le W h2;rcases h1 with h1|⟨_,e1⟩
 ·rw[b] at h1;cases h1
 ·rcases h2 with h2|⟨_,e2⟩
  ·rw[a] at h2;cases h2
  ·omega
end
noncomputable def P(p:jD)(k:Nat):Nat:=p.getD k 0
theorem Mj{p q:jD}{i j:Nat}(h:p[i]?=q[j]?):P p i=P q j:=by
 simp only[P,Array.getD_eq_getD_getElem?,h]
theorem we{p:jD}{i:Nat}(h:i<p.size):p[i]?=some (P p i):=by simp[P,h]
def Up(lt:kL)(p:jD)(a b:Nat):Prop:= ∀i j,a<=i->i<j->j<b->SL lt (P p i) (P p j)
def Dn(lt:kL)(p:jD)(a b:Nat):Prop:= ∀i j,a<=i->i<j->j<b->SL lt (P p j) (P p i)
def Reg(p:jD)(a b:Nat):Prop:= ∀k,a<=k->k<b->a<=P p k/\P p k<b
section
variable {prog:gA}{w:gu}{A:gw}{E:gH}{G:Shared->Prop}{it:mF}{lt:kL}{κ:SortKind}{N:Nat}
structure Rp(it:mF)(κ:SortKind)(N:Nat)(st:ik)(p:jD):Prop where
 arr:arrOf st=p.map it
 kind:kindOf st=κ
 ok:failedOf st=none
 size:p.size=N
 perm:p.Perm (Array.range N)
def Ask(prog:gA)(w:gu)(A:gw)(E:gH)(G:Shared->Prop)(it:mF)(κ:SortKind)(N:Nat)(lt:kL):Prop:=
 ∀i j,i<N->j<N-> ∀s,G s-> ∀E',wpAny (model prog w) A (keyLt' κ (it i).1 (it j).1) (fun b s'=>G s'/\b=lt i j) E' s
theorem Rp.bound{st:ik}{p:jD}(R:Rp it κ N st p){i:Nat}(h:i<N):P p i<N:=by
 have hm:P p i∈p.toList:=by
  have:=we (p:=p) (i:=i) (by rw[R.size];exact h);exact Array.mem_toList_iff.mpr (Array.mem_of_getElem? this)
 have:=(N6.mp R.perm).mem_iff.mp hm;simpa using this
theorem xu(H:Ask prog w A E G it κ N lt){st:ik}(hk:kindOf st=κ){i j:Nat}(hi:i<N)(hj:j<N){Q:Option Bool->SortSt->Prop}(h:Q (some (lt i j)) st):wpI (model prog w) A E G (lt' (it i) (it j)) Q st:=by
 rw[lt'_eq];refine fQ (kF ?_);rw[hk];refine fQ (Cn fun s g=>vI (mN (H i j hi hj s g fun _ _=>False) (fun b s' hb=>?_) fun e s' he=>he.elim));obtain⟨g',rfl⟩:=hb;exact⟨g',fU h⟩
theorem xv{xs:mG}{q:jD}(hx:xs=q.map it){i:Nat}(hi:i<q.size){st:ik}{Q:Keyed->SortSt->Prop}(h:Q (it (P q i)) st):wpI (model prog w) A E G (elem' xs i) Q st:=by
 rw[elem'_eq,hx];have:(q.map it)[i]?=some (it (P q i)):=by rw[Array.getElem?_map,we hi];rfl
 rw[this];exact fU h
theorem pQ(H:Ask prog w A E G it κ N lt){st:ik}{p:jD}(R:Rp it κ N st p){i j:Nat}(hi:i<N)(hj:j<N){Q:Option Bool->SortSt->Prop}(h:Q (some (lt (P p i) (P p j))) st):wpI (model prog w) A E G (ltAt' i j) Q st:=by
 rw[ltAt'_eq];refine fQ (kF ?_);refine fQ (xv R.arr (by rw[R.size];exact hi) (fQ (xv R.arr (by rw[R.size];exact hj) ?_)));exact xu H R.kind (R.bound hi) (R.bound hj) h
theorem EZ(p:jD)(i j d:Nat):mirror (p.map it) i j d=(mirror p i j d).map it:=IW it _ _ _ _
theorem Fy(p:jD)(i d:Nat):bubble (p.map it) i d=(bubble p i d).map it:=IW it _ _ _ _
theorem Rp.mirror{st:ik}{p:jD}(R:Rp it κ N st p)(i j d:Nat):Rp it κ N (setArr st (PyProof.Rows.mirror (arrOf st) i j d)) (PyProof.Rows.mirror p i j d):=
 ⟨by show PyProof.Rows.mirror (arrOf st) i j d=_;rw[R.arr,EZ],R.kind,R.ok,by rw[mirror_size,R.size],(mirror_perm _ _ _ _).trans R.perm⟩
theorem Rp.bubble{st:ik}{p:jD}(R:Rp it κ N st p)(i d:Nat):Rp it κ N (setArr st (PyProof.Rows.bubble (arrOf st) i d)) (PyProof.Rows.bubble p i d):=
 ⟨by show PyProof.Rows.bubble (arrOf st) i d=_;rw[R.arr,Fy],R.kind,R.ok,by rw[bubble_size,R.size],(bubble_perm _ _ _).trans R.perm⟩
theorem wA{st:ik}{i j:Nat}{Q:Unit->SortSt->Prop}(h:Q () (setArr st (mirror (arrOf st) i j ((j-i) / 2)))):wpI (model prog w) A E G (reverseSlice' i j) Q st:=by
 rw[reverseSlice'_eq];exact jq h
theorem Jv{st:ik}{i j:Nat}{Q:Unit->SortSt->Prop}(h:Q () (setArr st (bubble (arrOf st) i (i-j)))):wpI (model prog w) A E G (moveDown' i j) Q st:=by
 rw[moveDown'_eq];exact jq h
theorem jd(hj:j<=p.size)(k:Nat):P (mirror p i j ((j-i) / 2)) k=if i<=k/\k<j then P p (i+j-1-k) else P p k:=by
 have e:=getElem?_mirror_all (i:=i) hj k;split at e
 ·rename_i h;rw[gd h];exact Mj e
 ·rename_i h;rw[gk h];exact Mj e
theorem Mk(hs:src<p.size)(hd:d<=src)(k:Nat):P (bubble p src d) k=if k=src-d then P p src else if src-d<k/\k<=src then P p (k-1) else P p k:=by
 have e:=getElem?_bubble hs d hd k;split at e
 ·rename_i h;rw[gd h];exact Mj e
 ·rename_i h;rw[gk h];split at e
  ·rename_i h2;rw[gd h2];exact Mj e
  ·rename_i h2;rw[gk h2];exact Mj e
theorem Up.mirror(h:Up lt p a b)(hb:b<=p.size):Dn lt (PyProof.Rows.mirror p a b ((b-a) / 2)) a b:=fun i j h1 h2 h3=>by
 rw[jd hb,jd hb,gd ⟨by lia,h3⟩,gd ⟨h1,by lia⟩];exact h _ _ (by lia) (by lia) (by lia)
theorem Dn.mirror(h:Dn lt p a b)(hb:b<=p.size):Up lt (PyProof.Rows.mirror p a b ((b-a) / 2)) a b:=fun i j h1 h2 h3=>by
 rw[jd hb,jd hb,gd ⟨h1,by lia⟩,gd ⟨by lia,h3⟩];exact h _ _ (by lia) (by lia) (by lia)
theorem Reg.mirror(h:Reg p a b)(hj:j<=p.size)(h1:a<=i)(h2:j<=b):Reg (PyProof.Rows.mirror p i j ((j-i) / 2)) a b:=fun k h3 h4=>by
 rw[jd hj];split
 ·exact h _ (by lia) (by lia)
 ·exact h _ h3 h4
theorem FU(W:Wk lt)(H:Ask prog w A E G it κ N lt){lo c9 a:Nat}(hN:lo+c9=N)(h1:1<=a)(ha:a<=c9){st:ik}{p:jD}(R:Rp it κ N st p)(rg:Reg p lo (lo+a))(fx: ∀k,lo+a<=k->k<N->P p k=k)(up:Up lt p lo (lo+a)){Q:Option (Option Nat)×Nat->SortSt->Prop}
  (h: ∀m,a<=m->m<=c9->Reg p lo (lo+m)->Up lt p lo (lo+m)->(m=c9\/lt (P p (lo+m)) (P p (lo+m-1))=true)->Q (none,m) st):
  wpI (model prog w) A E G (forIn [a:c9] ((none,a):Option (Option Nat)×Nat) fun _ r=>do
   let x <-ltAt' (lo+r.2) (lo+r.2-1)
   match x with
   |some k6=>if k6=true then pure (ForInStep.done (none,r.2)) else pure (ForInStep.yield (none,r.2+1))
   |_=>pure (ForInStep.done (some none,r.2))) Q st:=by
 refine ir (I:=fun x c b6=>b6=st/\c=(none,x)/\Reg p lo (lo+x)/\Up lt p lo (lo+x)) ?step ?fin ⟨rfl,rfl,rg,up⟩
 case fin=>
  rintro c b6 ⟨rfl,rfl,r1,u1⟩;rw[show max a c9=c9 by lia] at r1 u1 ⊢;exact h c9 ha (gY _) r1 u1 (.inl rfl)
 case step=>
  rintro x c b6 eY hxn ⟨rfl,rfl,r1,u1⟩;refine fQ (pQ H R (by lia) (by lia) ?_);dsimp only
  cases hl:lt (P p (lo+x)) (P p (lo+x-1)) with
  |true=>simp only[gM];exact fU (h x eY (by lia) r1 u1 (.inr hl))
  |false=>
   simp only[hC,iE];have hx:P p (lo+x)=lo+x:=fx _ (by lia) (by lia);have aC:=r1 (lo+x-1) (by lia) (by lia);have sl:SL lt (P p (lo+x-1)) (P p (lo+x)):= .inr ⟨hl,by lia⟩;refine fU ⟨rfl,rfl,fun k k1 k2=>?_,fun i j i1 ij j2=>?_⟩
   ·rcases AJ k (lo+x) with q|q
    ·have:=r1 k k1 q;lia
    ·have:k=lo+x:=by lia
     subst this;lia
   ·rcases AJ j (lo+x) with q|q
    ·exact u1 i j i1 ij q
    ·have:j=lo+x:=by lia
     subst this;rcases AJ i (lo+x-1) with q2|q2
     ·exact SL.trans W (u1 i _ i1 q2 (by lia)) sl
     ·have:i=lo+x-1:=by lia
      subst this;exact sl
structure Fall(lt:kL)(p:jD)(lo x q N:Nat):Prop where
 le:q+1<=x
 fx: ∀k,lo+x<=k->k<N->P p k=k
 rg:Reg p lo (lo+x)
 dn:Dn lt p lo (lo+x-(q+1))
 st: ∀i j,lo<=i->i<lo+x-(q+1)->lo+x-(q+1)<=j->j<lo+x->lt (P p j) (P p i)=true
 eq: ∀i j,lo+x-(q+1)<=i->i<j->j<lo+x->lt (P p i) (P p j)=false/\lt (P p j) (P p i)=false/\P p i<P p j
theorem Fall.turn{p:jD}{lo x q:Nat}(F:Fall lt p lo x q N)(hz:lo+x<=p.size):Dn lt (PyProof.Rows.mirror p (lo+x-(q+1)) (lo+x) ((lo+x-(lo+x-(q+1))) / 2)) lo (lo+x):=fun i j i1 ij j2=>by
 have hle:=F.le;rw[jd hz,jd hz];by_cases hj:lo+x-(q+1)<=j
 ·rw[gd ⟨hj,j2⟩];by_cases hi:lo+x-(q+1)<=i
  ·rw[gd ⟨hi,by lia⟩];obtain⟨e1,e2,e3⟩:=F.eq (lo+x-(q+1)+(lo+x)-1-j) (lo+x-(q+1)+(lo+x)-1-i) (by lia) (by lia) (by lia);exact .inr ⟨e2,e3⟩
  ·rw[gk (fun z=>hi z.1)];exact .inl (F.st _ _ i1 (by lia) (by lia) (by lia))
 ·rw[gk (fun z=>hj z.1),gk (fun z=>by lia)];exact F.dn i j i1 ij (by lia)
theorem Fall.flat{p:jD}{lo x:Nat}(F:Fall lt p lo x 0 N):Dn lt p lo (lo+x):=fun i j i1 ij j2=>by
 have hle:=F.le;by_cases hj:lo+x-1<=j
 ·exact .inl (F.st i j i1 (by lia) (by lia) (by lia))
 ·exact F.dn i j i1 ij (by lia)
def Ran(it:mF)(lt:kL)(κ:SortKind)(N lo c9:Nat)(p0:jD)(aL:ik)(Q:zC):Prop:=
 ∀n st p,Rp it κ N st p->pendingOf st=pendingOf aL->1<=n->n<=c9->(∀k,k<lo->P p k=P p0 k)->(∀k,lo+n<=k->k<N->P p k=k)->Reg p lo (lo+n)->Up lt p lo (lo+n)->Q (some n) st
theorem Jx(W:Wk lt)(H:Ask prog w A E G it κ N lt){lo c9 n:Nat}(hN:lo+c9=N)(hn:n<=c9){st:ik}{p:jD}(R:Rp it κ N st p)(F:Fall lt p lo n 0 N){Q:Option (Option Nat)×Nat×Nat->SortSt->Prop}
  (h: ∀x q b6 p',Rp it κ N b6 p'->pendingOf b6=pendingOf st->n<=x->x<=c9->(∀k,k<lo->P p' k=P p k)->Fall lt p' lo x q N->Q (none,x,q) b6):
  wpI (model prog w) A E G (forIn [n:c9] ((none,n,0):Option (Option Nat)×Nat×Nat) fun _ r=>do
   let x <-ltAt' (lo+r.2.1) (lo+r.2.1-1)
   match x with
   |some k6=>
    if k6=true then
     if r.2.2>0 then do
      reverseSlice' (lo+r.2.1-(r.2.2+1)) (lo+r.2.1)
      pure (ForInStep.yield (none,r.2.1+1,0))
     else pure (ForInStep.yield (none,r.2.1+1,0))
    else do
     let x <-ltAt' (lo+r.2.1-1) (lo+r.2.1)
     match x with
     |some y9=>if y9=true then pure (ForInStep.done (none,r.2.1,r.2.2)) else pure (ForInStep.yield (none,r.2.1+1,r.2.2+1))
     |_=>pure (ForInStep.done (some none,r.2.1,r.2.2))
   |_=>pure (ForInStep.done (some none,r.2.1,r.2.2))) Q st:=by
 refine ir (I:=fun x c b6=> ∃q p',c=(none,x,q)/\Rp it κ N b6 p'/\pendingOf b6=pendingOf st/\(∀k,k<lo->P p' k=P p k)/\Fall lt p' lo x q N) ?step ?fin ⟨0,p,rfl,R,rfl,fun _ _=>rfl,F⟩
 case fin=>
  rintro c b6 ⟨q,p',rfl,R',e',f',F'⟩;rw[show max n c9=c9 by lia] at F' ⊢;exact h c9 q b6 p' R' e' hn (gY _) f' F'
 case step=>
  rintro x c b6 eY hxn ⟨q,p',rfl,R',e',f',F'⟩;have hle:=F'.le;have hx:P p' (lo+x)=lo+x:=F'.fx _ (by lia) (by lia);dsimp only;refine fQ (pQ H R' (by lia) (by lia) ?_);dsimp only
  have next:lt (P p' (lo+x)) (P p' (lo+x-1))=true-> ∀i,lo<=i->i<lo+x->lt (P p' (lo+x)) (P p' i)=true:=fun hl i i1 i2=>by
   by_cases hi:lo+x-(q+1)<=i
   ·by_cases br:i=lo+x-1
    ·subst br;exact hl
    ·exact W.lt_le hl (F'.eq i (lo+x-1) hi (by lia) (by lia)).1
   ·exact W.tr _ _ _ hl (F'.st i (lo+x-1) i1 (by lia) (by lia) (by lia))
  have grow: ∀p2:Array Nat,(∀k,¬(lo<=k/\k<lo+x)->P p2 k=P p' k)->(∀i,lo<=i->i<lo+x-> ∃j,lo<=j/\j<lo+x/\P p2 i=P p' j)->Dn lt p2 lo (lo+x)->lt (P p' (lo+x)) (P p' (lo+x-1))=true->Fall lt p2 lo (x+1) 0 N:=fun p2 h1 h2 h3 hl=>by
   refine⟨by lia,fun k k1 k2=>by rw[h1 k (by lia)];exact F'.fx k (by lia) k2,fun k k1 k2=>?_,?_,fun i j i1 i2 j1 j2=>?_,fun i j i1 i2 j2=>by lia⟩
   ·by_cases hk:k<lo+x
    ·obtain⟨j,j1,j2,e⟩:=h2 k k1 hk;have:=F'.rg j j1 j2
     lia
    ·have:k=lo+x:=by lia
     subst this;rw[h1 _ (by lia),hx];lia
   ·rw[show lo+(x+1)-(0+1)=lo+x by lia];exact h3
   ·have:j=lo+x:=by lia
    subst this;rw[h1 (lo+x) (by lia)];obtain⟨j,j1,j2,e⟩:=h2 i i1 (by lia);rw[e];exact next hl j j1 j2
  cases hl:lt (P p' (lo+x)) (P p' (lo+x-1)) with
  |true=>
   simp only[gM];have hz:lo+x<=p'.size:=by rw[R'.size];lia
   by_cases hq:q>0
   ·rw[gd hq];refine fQ (wA (fU ⟨0,_,rfl,R'.mirror _ _ _,e',fun k hk=>?_,grow _ (fun k hk=>?_) (fun i i1 i2=>?_) (F'.turn hz) hl⟩))
    ·rw[jd hz,gk (by lia)];exact f' k hk
    ·rw[jd hz,gk (by lia)]
    ·rw[jd hz];split
     ·exact⟨_,by lia,by lia,rfl⟩
     ·exact⟨i,i1,i2,rfl⟩
   ·rw[gk hq];have:q=0:=by lia
    subst this;exact fU ⟨0,p',rfl,R',e',f',grow p' (fun _ _=>rfl) (fun i i1 i2=>⟨i,i1,i2,rfl⟩) F'.flat hl⟩
  |false=>
   simp only[hC,iE];refine fQ (pQ H R' (by lia) (by lia) ?_);dsimp only
   cases aP:lt (P p' (lo+x-1)) (P p' (lo+x)) with
   |true=>simp only[gM];exact fU (h x q b6 p' R' e' eY (by lia) f' F')
   |false=>
    simp only[hC,iE];have aC:=F'.rg (lo+x-1) (by lia) (by lia)
    have same: ∀i,lo+x-(q+1)<=i->i<lo+x->lt (P p' i) (P p' (lo+x))=false/\lt (P p' (lo+x)) (P p' i)=false:=fun i i1 i2=>by
     by_cases hi:i=lo+x-1
     ·subst hi;exact⟨aP,hl⟩
     ·obtain⟨e1,e2,_⟩:=F'.eq i (lo+x-1) i1 (by lia) (by lia);exact⟨W.le_tr aP e1,W.le_tr e2 hl⟩
    refine fU ⟨q+1,p',rfl,R',e',f',by lia,fun k k1 k2=>F'.fx k (by lia) k2,fun k k1 k2=>?_,?_,fun i j i1 i2 j1 j2=>?_,fun i j i1 ij j2=>?_⟩
    ·by_cases hk:k<lo+x
     ·have:=F'.rg k k1 hk;lia
     ·have:k=lo+x:=by lia
      subst this;lia
    ·rw[show lo+(x+1)-(q+1+1)=lo+x-(q+1) by lia];exact F'.dn
    ·by_cases hj:j<lo+x
     ·exact F'.st i j i1 (by lia) (by lia) hj
     ·have:j=lo+x:=by lia
      subst this;have:=F'.st i (lo+x-1) i1 (by lia) (by lia) (by lia);exact W.le_lt aP this
    ·by_cases hj:j<lo+x
     ·exact F'.eq i j (by lia) ij hj
     ·have:j=lo+x:=by lia
      subst this;obtain⟨e1,e2⟩:=same i (by lia) (by lia);have:=F'.rg i (by lia) (by lia);exact⟨e1,e2,by lia⟩
noncomputable def FK(lo a c9:Nat):StateT SortSt Sem (Option (Option Nat)×Nat):=forIn [a:c9] ((none,a):Option (Option Nat)×Nat) fun _ r=>do
   let x <-ltAt' (lo+r.2) (lo+r.2-1)
   match x with
   |some k6=>if k6=true then pure (ForInStep.done (none,r.2)) else pure (ForInStep.yield (none,r.2+1))
   |_=>pure (ForInStep.done (some none,r.2))
noncomputable def LU(lo n c9:Nat):StateT SortSt Sem (Option (Option Nat)×Nat×Nat):=forIn [n:c9] ((none,n,0):Option (Option Nat)×Nat×Nat) fun _ r=>do
   let x <-ltAt' (lo+r.2.1) (lo+r.2.1-1)
   match x with
   |some k6=>
    if k6=true then
     if r.2.2>0 then do
      reverseSlice' (lo+r.2.1-(r.2.2+1)) (lo+r.2.1)
      pure (ForInStep.yield (none,r.2.1+1,0))
     else pure (ForInStep.yield (none,r.2.1+1,0))
    else do
     let x <-ltAt' (lo+r.2.1-1) (lo+r.2.1)
     match x with
     |some y9=>if y9=true then pure (ForInStep.done (none,r.2.1,r.2.2)) else pure (ForInStep.yield (none,r.2.1+1,r.2.2+1))
     |_=>pure (ForInStep.done (some none,r.2.1,r.2.2))
   |_=>pure (ForInStep.done (some none,r.2.1,r.2.2))
noncomputable def Ds(lo n c9:Nat):StateT SortSt Sem (Option Nat):=do
 reverseSlice' lo (lo+n)
 let r <-FK lo n c9
 match r.1 with
 |some r=>pure r
 |none=>pure (some r.2)
noncomputable def Ak(lo n c9:Nat):StateT SortSt Sem (Option Nat):=do
 liftM (rule "list.sort.descending-run")
 let r <-LU lo (n+1) c9
 match r.1 with
 |some r=>pure r
 |none=>
  if r.2.2>0 then do
   reverseSlice' (lo+r.2.1-(r.2.2+1)) (lo+r.2.1)
   Ds lo r.2.1 c9
  else Ds lo r.2.1 c9
theorem Dv(lo c9:Nat):countRun' lo c9=(do
  let r <-FK lo 1 c9
  match r.1 with
  |some r=>pure r
  |none=>
   if(r.2==c9)=true then pure (some r.2)
   else if r.2>1 then do
    let x <-ltAt' lo (lo+r.2-1)
    match x with
    |some bR=>if bR=true then pure (some r.2) else do
      reverseSlice' lo (lo+r.2)
      Ak lo r.2 c9
    |_=>pure none
   else Ak lo r.2 c9):=by
 rw[countRun'_eq];dsimp only;unfold FK
 congr 1
 funext r;obtain⟨r,n⟩:=r
 cases r with
 |some r=>rfl
 |none=>
  dsimp only;by_cases h1:(n==c9)=true
  ·rw[gd h1,gd h1]
  ·rw[gk h1,gk h1];by_cases h2:n>1
   ·rw[gd h2,gd h2]
    congr 1
    funext x
    cases x with
    |none=>rfl
    |some bR=>
     dsimp only
     cases bR with
     |true=>rfl
     |false=>
      simp only[hC,iE]
      congr 1
      funext _;unfold Ak LU
      congr 1
      funext _
      congr 1
      funext r2;obtain⟨r2,n2,q2⟩:=r2
      cases r2 with
      |some r=>rfl
      |none=>
       dsimp only;by_cases h3:q2>0
       ·rw[gd h3,gd h3]
        congr 1
        funext _;unfold Ds FK
        congr 1
        funext _
        congr 1
        funext r3;obtain⟨r3,n3⟩:=r3;cases r3<;>rfl
       ·rw[gk h3,gk h3];unfold Ds FK
        congr 1
        funext _
        congr 1
        funext r3;obtain⟨r3,n3⟩:=r3;cases r3<;>rfl
   ·rw[gk h2,gk h2];unfold Ak LU
    congr 1
    funext _
    congr 1
    funext r2;obtain⟨r2,n2,q2⟩:=r2
    cases r2 with
    |some r=>rfl
    |none=>
     dsimp only;by_cases h3:q2>0
     ·rw[gd h3,gd h3]
      congr 1
      funext _;unfold Ds FK
      congr 1
      funext _
      congr 1
      funext r3;obtain⟨r3,n3⟩:=r3;cases r3<;>rfl
     ·rw[gk h3,gk h3];unfold Ds FK
      congr 1
      funext _
      congr 1
      funext r3;obtain⟨r3,n3⟩:=r3;cases r3<;>rfl
theorem FR(W:Wk lt)(H:Ask prog w A E G it κ N lt){lo c9 n:Nat}(hN:lo+c9=N)(h1:1<=n)(hn:n<=c9){st aL:ik}{p p0:jD}(R:Rp it κ N st p)(e0:pendingOf st=pendingOf aL)(f0: ∀k,k<lo->P p k=P p0 k)(fx: ∀k,lo+n<=k->k<N->P p k=k)(rg:Reg p lo (lo+n))(dn:Dn lt p lo (lo+n))
  {Q:zC}(h:Ran it lt κ N lo c9 p0 aL Q):wpI (model prog w) A E G (Ds lo n c9) Q st:=by
 unfold Ds;have hz:lo+n<=p.size:=by rw[R.size];lia
 have out: ∀k,¬(lo<=k/\k<lo+n)->P (PyProof.Rows.mirror p lo (lo+n) ((lo+n-lo) / 2)) k=P p k:=fun k hk=>by rw[jd hz,gk hk]
 refine fQ (wA ?_);have R1:=R.mirror lo (lo+n) ((lo+n-lo) / 2);refine fQ (FU W H hN h1 hn R1 (rg.mirror hz (gY _) (gY _)) (fun k k1 k2=>by rw[out k (by lia)];exact fx k k1 k2) (dn.mirror hz) fun m m1 m2 cJ bO _=>?_);exact fU (h m _ _ R1 e0 (by lia) m2 (fun k hk=>by rw[out k (by lia)];exact f0 k hk) (fun k k1 k2=>by rw[out k (by lia)];exact fx k (by lia) k2) cJ bO)
theorem Cp(W:Wk lt)(H:Ask prog w A E G it κ N lt){lo c9 n:Nat}(hN:lo+c9=N)(hn:n+1<=c9){st aL:ik}{p p0:jD}(R:Rp it κ N st p)(e0:pendingOf st=pendingOf aL)(f0: ∀k,k<lo->P p k=P p0 k)(F:Fall lt p lo (n+1) 0 N)
  {Q:zC}(h:Ran it lt κ N lo c9 p0 aL Q):wpI (model prog w) A E G (Ak lo n c9) Q st:=by
 unfold Ak;refine fQ (nZ (fQ (Jx W H hN hn R F fun x q b6 p' R' e' x1 x2 f' F'=>?_)));dsimp only;have hle:=F'.le;have hz:lo+x<=p'.size:=by rw[R'.size];lia
 by_cases hq:q>0
 ·rw[gd hq];refine fQ (wA (FR W H hN (by lia) x2 (R'.mirror _ _ _) (e'.trans e0) (fun k hk=>?_) (fun k k1 k2=>?_) (F'.rg.mirror hz (by lia) (gY _)) (F'.turn hz) h))
  ·rw[jd hz,gk (by lia)];exact(f' k hk).trans (f0 k hk)
  ·rw[jd hz,gk (by lia)];exact F'.fx k k1 k2
 ·rw[gk hq];have:q=0:=by lia
  subst this;exact FR W H hN (by lia) x2 R' (e'.trans e0) (fun k hk=>(f' k hk).trans (f0 k hk)) F'.fx F'.rg F'.flat h
theorem Ha(W:Wk lt)(H:Ask prog w A E G it κ N lt){lo c9:Nat}(hN:lo+c9=N)(h1:1<=c9){st:ik}{p:jD}(R:Rp it κ N st p)(fx: ∀k,lo<=k->k<N->P p k=k){Q:zC}(h:Ran it lt κ N lo c9 p st Q):
  wpI (model prog w) A E G (countRun' lo c9) Q st:=by
 rw[Dv];refine fQ (FU W H hN (gY _) h1 R (fun k k1 k2=>by rw[fx k k1 (by lia)];lia) (fun k k1 k2=>fx k (by lia) k2) (fun i j i1 ij j2=>by lia) fun n n1 n2 rg up hl=>?_);dsimp only;by_cases he:(n==c9)=true
 ·rw[gd he];exact fU (h n st p R rfl n1 n2 (fun _ _=>rfl) (fun k k1 k2=>fx k (by lia) k2) rg up)
 ·rw[gk he];have j9:n≠c9:=fun z=>he (by simp[z]);have hl:lt (P p (lo+n)) (P p (lo+n-1))=true:=hl.resolve_left j9;have hx:P p (lo+n)=lo+n:=fx _ (by lia) (by lia);by_cases hg:n>1
  ·rw[gd hg];refine fQ (pQ H R (by lia) (by lia) ?_);dsimp only
   cases hr:lt (P p lo) (P p (lo+n-1)) with
   |true=>simp only[gM];exact fU (h n st p R rfl n1 n2 (fun _ _=>rfl) (fun k k1 k2=>fx k (by lia) k2) rg up)
   |false=>
    simp only[hC,iE];have hz:lo+n<=p.size:=by rw[R.size];lia
    have out: ∀k,¬(lo<=k/\k<lo+n)->P (PyProof.Rows.mirror p lo (lo+n) ((lo+n-lo) / 2)) k=P p k:=fun k hk=>by rw[jd hz,gk hk]
    have small: ∀i,lo<=i->i<lo+n->lt (P p (lo+n)) (P p i)=true:=fun i i1 i2=>by
     have hi:lt (P p i) (P p (lo+n-1))=false:=by
      by_cases hi:i=lo
      ·subst hi;exact hr
      ·exact W.le_tr hr (SL.le W (up lo i (gY _) (by lia) i2)) |> fun z=>by
        cases hc:lt (P p i) (P p (lo+n-1)) with
        |false=>rfl
        |true=>
         have:=W.le_lt (SL.le W (up lo i (gY _) (by lia) i2)) hc;rw[hr] at this;cases this
     exact W.lt_le hl hi
    refine fQ (wA (Cp W H hN (by lia) (R.mirror _ _ _) rfl (fun k hk=>out k (by lia)) ⟨by lia,fun k k1 k2=>by rw[out k (by lia)];exact fx k (by lia) k2,fun k k1 k2=>?_,?_,fun i j i1 i2 j1 j2=>?_,fun i j i1 ij j2=>by lia⟩ h))
    ·by_cases hk:k<lo+n
     ·have:=rg.mirror (i:=lo) (j:=lo+n) hz (gY _) (gY _) k k1 hk;lia
     ·have:k=lo+n:=by lia
      subst this;rw[out _ (by lia),hx];lia
    ·rw[show lo+(n+1)-(0+1)=lo+n by lia];exact up.mirror hz
    ·have:j=lo+n:=by lia
     subst this;rw[out (lo+n) (by lia),jd hz,gd ⟨i1,by lia⟩];exact small _ (by lia) (by lia)
  ·rw[gk hg];have:n=1:=by lia
   subst this;refine Cp W H hN (by lia) R rfl (fun _ _=>rfl) ⟨by lia,fun k k1 k2=>fx k (by lia) k2,fun k k1 k2=>by rw[fx k k1 (by lia)];lia,fun i j i1 ij j2=>by lia,fun i j i1 i2 j1 j2=>?_,fun i j i1 ij j2=>by lia⟩ h;have e1:j=lo+1:=by lia
   have e2:i=lo:=by lia
   subst e1;subst e2;exact hl
theorem Mr(W:Wk lt)(H:Ask prog w A E G it κ N lt){lo n ok:Nat}(h1:1<=ok)(hok:ok<=n)(hn:lo+n<=N){st:ik}{p:jD}(R:Rp it κ N st p)(fx: ∀k,lo+ok<=k->k<N->P p k=k)(rg:Reg p lo (lo+ok))(up:Up lt p lo (lo+ok)){Q:Bool->SortSt->Prop}
  (h: ∀b6 p',Rp it κ N b6 p'->pendingOf b6=pendingOf st->(∀k,k<lo->P p' k=P p k)->(∀k,lo+n<=k->k<N->P p' k=k)->Reg p' lo (lo+n)->Up lt p' lo (lo+n)->Q true b6):wpI (model prog w) A E G (binarySort' lo n ok) Q st:=by
 rw[binarySort'_eq];dsimp only;rw[show max ok 1=ok by lia]
 refine fQ (ic (ir (I:=fun k c b6=>c=(none,())/\ ∃p',Rp it κ N b6 p'/\pendingOf b6=pendingOf st/\(∀i,i<lo->P p' i=P p i)/\(∀i,lo+k<=i->i<N->P p' i=i)/\Reg p' lo (lo+k)/\Up lt p' lo (lo+k))
  (Q:=fun c b6=>c=(none,())/\ ∃p',Rp it κ N b6 p'/\pendingOf b6=pendingOf st/\(∀i,i<lo->P p' i=P p i)/\(∀i,lo+n<=i->i<N->P p' i=i)/\Reg p' lo (lo+n)/\Up lt p' lo (lo+n)) ?step ?fin ⟨rfl,p,R,rfl,fun _ _=>rfl,fx,rg,up⟩) ?post)
 case post=>
  rintro c b6 ⟨rfl,p',a1,a2,a3,a4,a5,a6⟩;exact fU (h b6 p' a1 a2 a3 a4 a5 a6)
 case fin=>
  rintro c b6 hc;rw[show max ok n=n by lia] at hc;exact hc
 case step=>
  rintro k c b6 aS hk2 ⟨rfl,p',R',e',f',fx',cJ,bO⟩;have hkey:P p' (lo+k)=lo+k:=fx' _ (by lia) (by lia)
  refine fQ (ic (ir (I:=fun i c g0=>g0=b6/\ ∃l r,c=(none,l,r)/\l<=r/\r<=k/\r-l<=k-i/\(∀i,i<l->lt (P p' (lo+k)) (P p' (lo+i))=false)/\(∀i,r<=i->i<k->lt (P p' (lo+k)) (P p' (lo+i))=true))
   (Q:=fun c g0=>g0=b6/\ ∃l r,c=(none,l,r)/\l<=k/\(∀i,i<l->lt (P p' (lo+k)) (P p' (lo+i))=false)/\(∀i,l<=i->i<k->lt (P p' (lo+k)) (P p' (lo+i))=true)) ?s2 ?f2 ⟨rfl,0,k,rfl,by lia,by lia,by lia,fun i hi=>by lia,fun i i1 i2=>by lia⟩) ?p2)
  case f2=>
   rintro c g0 ⟨rfl,l,r,rfl,a1,a2,a3,a4,a5⟩;have:l=r:=by lia
   subst this;exact⟨rfl,l,l,rfl,a2,a4,a5⟩
  case s2=>
   rintro i c g0 _ hi ⟨rfl,l,r,rfl,a1,a2,a3,a4,a5⟩;dsimp only;by_cases hlr:l>=r
   ·rw[gd hlr];have:l=r:=by lia
    subst this;exact fU ⟨rfl,l,l,rfl,a2,a4,a5⟩
   ·rw[gk hlr];refine fQ (pQ H R' (by lia) (by lia) ?_);dsimp only
    cases hl:lt (P p' (lo+k)) (P p' (lo+(l+r) / 2)) with
    |true=>
     simp only[gM];refine fU ⟨rfl,l,(l+r) / 2,rfl,by lia,by lia,by lia,a4,fun i i1 i2=>?_⟩;by_cases hi:i=(l+r) / 2
     ·subst hi;exact hl
     ·exact W.lt_le hl (SL.le W (bO (lo+(l+r) / 2) (lo+i) (by lia) (by lia) (by lia)))
    |false=>
     simp only[hC,iE];refine fU ⟨rfl,(l+r) / 2+1,r,rfl,by lia,a2,by lia,fun i i1=>?_,a5⟩;by_cases hi:i=(l+r) / 2
     ·subst hi;exact hl
     ·exact W.le_tr (SL.le W (bO (lo+i) (lo+(l+r) / 2) (by lia) (by lia) (by lia))) hl
  case p2=>
   rintro c g0 ⟨rfl,l,r,rfl,hl,a4,a5⟩;dsimp only;have hz:lo+k<p'.size:=by rw[R'.size];lia
   have hd:lo+k-(lo+l)<=lo+k:=by lia
   have ib: ∀i,P (PyProof.Rows.bubble p' (lo+k) (lo+k-(lo+l))) i=if i=lo+l then P p' (lo+k) else if lo+l<i/\i<=lo+k then P p' (i-1) else P p' i:=fun i=>by
    rw[Mk hz hd,show lo+k-(lo+k-(lo+l))=lo+l by lia]
   refine fQ (Jv (fU ⟨rfl,_,R'.bubble _ _,e',fun i hi=>?_,fun i i1 i2=>?_,fun i i1 i2=>?_,fun i j i1 ij j2=>?_⟩))
   ·rw[ib,gk (by lia),gk (by lia)];exact f' i hi
   ·rw[ib,gk (by lia),gk (by lia)];exact fx' i (by lia) i2
   ·rw[ib];split
    ·rw[hkey];lia
    ·split
     ·have:=cJ (i-1) (by lia) (by lia);lia
     ·have:=cJ i i1 (by lia);lia
   ·
    have above: ∀m,l<=m->m<k->SL lt (P p' (lo+k)) (P p' (lo+m)):=fun m m1 m2=> .inl (a5 m m1 m2);have below: ∀m,m<l->SL lt (P p' (lo+m)) (P p' (lo+k)):=fun m m1=> .inr ⟨a4 m m1,by have:=cJ (lo+m) (by lia) (by lia);lia⟩;rw[ib,ib];by_cases hi:i=lo+l
    ·subst hi;rw[gd rfl,gk (by lia),gd (by lia)];have:=above (j-1-lo) (by lia) (by lia)
     rwa [show lo+(j-1-lo)=j-1 by lia] at this
    ·rw[gk hi];by_cases hj:j=lo+l
     ·subst hj;rw[gd rfl,gk (by lia)];have:=below (i-lo) (by lia)
      rwa [show lo+(i-lo)=i by lia] at this
     ·rw[gk hj];by_cases ci:lo+l<i/\i<=lo+k
      ·rw[gd ci,gd (by lia)];exact bO _ _ (by lia) (by lia) (by lia)
      ·rw[gk ci];by_cases cj:lo+l<j/\j<=lo+k
       ·rw[gd cj];exact bO _ _ i1 (by lia) (by lia)
       ·rw[gk cj];exact bO _ _ i1 ij (by lia)
end
noncomputable def kc:Bool->Keyed->Array Keyed->Nat->Nat->Nat->StateT SortSt Sem (Option Nat):=sortPriv%PySem.Builtin.gallop
noncomputable def yn:Array Keyed->Array Keyed->StateT SortSt Sem (Array Keyed):=sortPriv%PySem.Builtin.mergeLo
noncomputable def yo:Array Keyed->Array Keyed->StateT SortSt Sem (Array Keyed):=sortPriv%PySem.Builtin.mergeHi
noncomputable def tj:Nat->StateT SortSt Sem Unit:=sortPriv%PySem.Builtin.setMinGallop
def bey(left:Bool)(key:Keyed)(arr:mG)(base i:Nat):StateT SortSt Sem (Option Bool):=do
 let y <-elem' arr (base+i)
 if left=true then lt' y key else do
  let r <-lt' key y
  pure (Option.map (fun x=>!x) r)
theorem HV(left:Bool)(key:Keyed)(arr:mG)(base n hint:Nat):kc left key arr base n hint=(do
 let mut lastofs:=0
 let mut ofs:=1
 let mut lo:=0
 let mut hi:=0
 let some right <-bey left key arr base hint|return none
 if right then
  let o9:=n-hint
  for _ in [0:n] do
   if ofs>=o9 then break
   let some more <-bey left key arr base (hint+ofs)|return none
   if !more then break
   lastofs:=ofs
   ofs:=2*ofs+1
  lo:=hint+lastofs+1
  hi:=hint+min ofs o9
 else
  let o9:=hint+1
  for _ in [0:n] do
   if ofs>=o9 then break
   let some found <-bey left key arr base (hint-ofs)|return none
   if found then break
   lastofs:=ofs
   ofs:=2*ofs+1
  lo:=hint+1-min ofs o9
  hi:=hint-lastofs
 for _ in [0:n] do
  if lo>=hi then break
  let m:=lo+(hi-lo) / 2
  let some more <-bey left key arr base m|return none
  if more then lo:=m+1 else hi:=m
 return some hi):=rfl
section
variable {prog:gA}{w:gu}{A:gw}{E:gH}{G:Shared->Prop}{it:mF}{lt:kL}{κ:SortKind}{N:Nat}
def Bq(lt:kL)(left:Bool)(x:Nat)(q:jD)(base i:Nat):Bool:=if left=true then lt (P q (base+i)) x else !lt x (P q (base+i))
theorem wB(H:Ask prog w A E G it κ N lt){left:Bool}{x:Nat}{q:jD}{base i:Nat}(hx:x<N)(hq: ∀k,k<q.size->P q k<N)(hi:base+i<q.size){st:ik}(hk:kindOf st=κ){Q:Option Bool->SortSt->Prop}(h:Q (some (Bq lt left x q base i)) st):
  wpI (model prog w) A E G (bey left (it x) (q.map it) base i) Q st:=by
 unfold bey;refine fQ (xv rfl hi ?_);unfold Bq at h
 cases left with
 |true=>simp only[gM] at h ⊢;exact xu H hk (hq _ hi) hx h
 |false=>simp only[hC,iE] at h ⊢;exact fQ (xu H hk hx (hq _ hi) (fU h))
theorem Co(H:Ask prog w A E G it κ N lt){left:Bool}{x:Nat}{q:jD}{base n:Nat}(hx:x<N)(hq: ∀k,k<q.size->P q k<N)(hn:base+n<=q.size){st:ik}(hk:kindOf st=κ)(mono: ∀i j,i<=j->j<n->Bq lt left x q base j=true->Bq lt left x q base i=true)
  {lo hi:Nat}(h1:lo<=hi)(h2:hi<=n)(h3: ∀i,i<lo->Bq lt left x q base i=true)(h4: ∀i,hi<=i->i<n->Bq lt left x q base i=false){Q:Option (Option Nat)×Nat×Nat->SortSt->Prop}
  (h: ∀r,r<=n->(∀i,i<r->Bq lt left x q base i=true)->(∀i,r<=i->i<n->Bq lt left x q base i=false)->Q (none,r,r) st):
  wpI (model prog w) A E G (forIn [:n] ((none,lo,hi):Option (Option Nat)×Nat×Nat) fun _ r=>
    if r.2.1>=r.2.2 then pure (ForInStep.done (none,r.2.1,r.2.2))
    else do
     let y <-bey left (it x) (q.map it) base (r.2.1+(r.2.2-r.2.1) / 2)
     match y with
     |some more=>if more=true then pure (ForInStep.yield (none,r.2.1+(r.2.2-r.2.1) / 2+1,r.2.2)) else pure (ForInStep.yield (none,r.2.1,r.2.1+(r.2.2-r.2.1) / 2))
     |_=>pure (ForInStep.done (some none,r.2.1,r.2.2))) Q st:=by
 refine(ic (ir (I:=fun i c g0=>g0=st/\ ∃lo hi,c=(none,lo,hi)/\lo<=hi/\hi<=n/\hi-lo<=n-i/\(∀i,i<lo->Bq lt left x q base i=true)/\(∀i,hi<=i->i<n->Bq lt left x q base i=false))
  (Q:=fun c g0=>g0=st/\ ∃r,c=(none,r,r)/\r<=n/\(∀i,i<r->Bq lt left x q base i=true)/\(∀i,r<=i->i<n->Bq lt left x q base i=false)) ?step ?fin ⟨rfl,lo,hi,rfl,h1,h2,by omega,h3,h4⟩) ?post)
 case post=>
  rintro c g0 ⟨rfl,r,rfl,a1,a2,a3⟩;exact h r a1 a2 a3
 case fin=>
  rintro c g0 ⟨rfl,lo,hi,rfl,a1,a2,a3,a4,a5⟩;have:lo=hi:=by omega
  subst this;exact⟨rfl,lo,rfl,a2,a4,a5⟩
 case step=>
  rintro i c g0 _ hi' ⟨rfl,lo,hi,rfl,a1,a2,a3,a4,a5⟩;dsimp only;by_cases hlh:lo>=hi
  ·rw[gd hlh];have:lo=hi:=by omega
   subst this;exact fU ⟨rfl,lo,rfl,a2,a4,a5⟩
  ·rw[gk hlh];refine fQ (wB (i:=lo+(hi-lo) / 2) H hx hq (by omega) hk ?_);dsimp only
   cases hb:Bq lt left x q base (lo+(hi-lo) / 2) with
   |true=>
    simp only[gM];exact fU ⟨rfl,_,hi,rfl,by omega,a2,by omega,fun i br=>mono i (lo+(hi-lo) / 2) (by omega) (by omega) hb,a5⟩
   |false=>
    simp only[hC,iE];refine fU ⟨rfl,lo,_,rfl,by omega,by omega,by omega,a4,fun i i1 i2=>?_⟩
    cases hc:Bq lt left x q base i with
    |false=>rfl
    |true=>have:=mono _ _ i1 i2 hc;rw[hb] at this;cases this
theorem Er(H:Ask prog w A E G it κ N lt){left:Bool}{x:Nat}{q:jD}{base n hint:Nat}(hx:x<N)(hq: ∀k,k<q.size->P q k<N)(hn:base+n<=q.size)(hh:hint<n){st:ik}(hk:kindOf st=κ)(mono: ∀i j,i<=j->j<n->Bq lt left x q base j=true->Bq lt left x q base i=true)
  {Q:zC}(h: ∀r,r<=n->(∀i,i<r->Bq lt left x q base i=true)->(∀i,r<=i->i<n->Bq lt left x q base i=false)->Q (some r) st):
  wpI (model prog w) A E G (kc left (it x) (q.map it) base n hint) Q st:=by
 have anti: ∀i j,i<=j->j<n->Bq lt left x q base i=false->Bq lt left x q base j=false:=fun i j ij jn hi=>by
  cases hc:Bq lt left x q base j with
  |false=>rfl
  |true=>have:=mono _ _ ij jn hc;rw[hi] at this;cases this
 rw[HV];dsimp only;refine fQ (wB (i:=hint) H hx hq (by omega) hk ?_);dsimp only
 cases hb:Bq lt left x q base hint with
 |true=>
  simp only[gM]
  refine fQ (ic (ir (I:=fun i c g0=>g0=st/\ ∃last ofs,c=(none,last,ofs)/\last<ofs/\i+1<=ofs/\hint+last<n/\Bq lt left x q base (hint+last)=true)
   (Q:=fun c g0=>g0=st/\ ∃last ofs,c=(none,last,ofs)/\last<ofs/\hint+last<n/\Bq lt left x q base (hint+last)=true/\(ofs>=n-hint\/Bq lt left x q base (hint+ofs)=false)) ?step ?fin ⟨rfl,0,1,rfl,by omega,by omega,by omega,hb⟩) ?post)
  case post=>
   rintro c g0 ⟨rfl,last,ofs,rfl,a1,a2,a3,a4⟩;dsimp only;refine fQ (Co H hx hq hn hk mono (lo:=hint+last+1) (hi:=hint+min ofs (n-hint)) (by omega) (by omega) (fun i hi=>mono i _ (by omega) a2 a3) (fun i i1 i2=>?_) fun r b1 b2 b3=>fU (h r b1 b2 b3));rcases a4 with a4|a4
   ·omega
   ·exact anti (hint+ofs) i (by omega) i2 a4
  case fin=>
   rintro c g0 ⟨rfl,last,ofs,rfl,a1,a2,a3,a4⟩;exact⟨rfl,last,ofs,rfl,a1,a3,a4,.inl (by omega)⟩
  case step=>
   rintro i c g0 _ hi ⟨rfl,last,ofs,rfl,a1,a2,a3,a4⟩;dsimp only;by_cases ho:ofs>=n-hint
   ·rw[gd ho];exact fU ⟨rfl,last,ofs,rfl,a1,a3,a4,.inl ho⟩
   ·rw[gk ho];refine fQ (wB (i:=hint+ofs) H hx hq (by omega) hk ?_);dsimp only
    cases hc:Bq lt left x q base (hint+ofs) with
    |false=>simp only[Bool.not_false,gM];exact fU ⟨rfl,last,ofs,rfl,a1,a3,a4,.inr hc⟩
    |true=>simp only[uE,hC,iE];exact fU ⟨rfl,ofs,2*ofs+1,rfl,by omega,by omega,by omega,hc⟩
 |false=>
  simp only[hC,iE]
  refine fQ (ic (ir (I:=fun i c g0=>g0=st/\ ∃last ofs,c=(none,last,ofs)/\last<ofs/\i+1<=ofs/\last<=hint/\Bq lt left x q base (hint-last)=false)
   (Q:=fun c g0=>g0=st/\ ∃last ofs,c=(none,last,ofs)/\last<ofs/\last<=hint/\Bq lt left x q base (hint-last)=false/\(ofs>=hint+1\/Bq lt left x q base (hint-ofs)=true)) ?step ?fin ⟨rfl,0,1,rfl,by omega,by omega,by omega,hb⟩) ?post)
  case post=>
   rintro c g0 ⟨rfl,last,ofs,rfl,a1,a2,a3,a4⟩;dsimp only;refine fQ (Co H hx hq hn hk mono (lo:=hint+1-min ofs (hint+1)) (hi:=hint-last) (by omega) (by omega) (fun i hi=>?_) (fun i i1 i2=>anti _ i i1 i2 a3) fun r b1 b2 b3=>fU (h r b1 b2 b3));rcases a4 with a4|a4
   ·omega
   ·by_cases ho:ofs>=hint+1
    ·omega
    ·exact mono i _ (by omega) (by omega) a4
  case fin=>
   rintro c g0 ⟨rfl,last,ofs,rfl,a1,a2,a3,a4⟩;exact⟨rfl,last,ofs,rfl,a1,a3,a4,.inl (by omega)⟩
  case step=>
   rintro i c g0 _ hi ⟨rfl,last,ofs,rfl,a1,a2,a3,a4⟩;dsimp only;by_cases ho:ofs>=hint+1
   ·rw[gd ho];exact fU ⟨rfl,last,ofs,rfl,a1,a3,a4,.inl ho⟩
   ·rw[gk ho];refine fQ (wB (i:=hint-ofs) H hx hq (by omega) hk ?_);dsimp only
    cases hc:Bq lt left x q base (hint-ofs) with
    |true=>simp only[gM];exact fU ⟨rfl,last,ofs,rfl,a1,a3,a4,.inr hc⟩
    |false=>simp only[hC,iE];exact fU ⟨rfl,ofs,2*ofs+1,rfl,by omega,by omega,by omega,hc⟩
end
theorem E5(a b:mG):yn a b=(do
 rule "list.sort.merge-lo"
 let total:=a.size+b.size
 let done (out:mG) (ia ib:Nat):=out++a.extract ia a.size++b.extract ib b.size
 let n8 (out:mG) (ia ib:Nat):=out++b.extract ib b.size++a.extract ia a.size
 let mut out:Array Keyed:= #[<-elem' b 0]
 let mut ia:=0
 let mut ib:=1
 if ib==b.size then return done out ia ib
 if ia+1==a.size then return n8 out ia ib
 let mut minGallop:=gallopOf (<-get)
 for _ in [0:total] do
  let mut acount:=0
  let mut bcount:=0
  for _ in [0:total] do
   let some bWins <-lt' (<-elem' b ib) (<-elem' a ia)|return done out ia ib
   if bWins then
    out:=out.push (<-elem' b ib);ib:=ib+1;bcount:=bcount+1;acount:=0
    if ib==b.size then return done out ia ib
    if bcount>=minGallop then break
   else
    out:=out.push (<-elem' a ia);ia:=ia+1;acount:=acount+1;bcount:=0
    if ia+1==a.size then return n8 out ia ib
    if acount>=minGallop then break
  rule "list.sort.gallop"
  minGallop:=minGallop+1
  for _ in [0:total] do
   if minGallop>1 then minGallop:=minGallop-1
   tj minGallop
   let some k <-kc false (<-elem' b ib) a ia (a.size-ia) 0|return done out ia ib
   acount:=k
   if k>0 then
    out:=out++a.extract ia (ia+k);ia:=ia+k
    if ia+1==a.size then return n8 out ia ib
    if ia==a.size then return done out ia ib
   out:=out.push (<-elem' b ib);ib:=ib+1
   if ib==b.size then return done out ia ib
   let some k <-kc true (<-elem' a ia) b ib (b.size-ib) 0|return done out ia ib
   bcount:=k
   if k>0 then
    out:=out++b.extract ib (ib+k);ib:=ib+k
    if ib==b.size then return done out ia ib
   out:=out.push (<-elem' a ia);ia:=ia+1
   if ia+1==a.size then return n8 out ia ib
   if acount<7&&bcount<7 then break
  minGallop:=minGallop+1
  tj minGallop
 unsupported "internal:list.sort.merge-bound"):=rfl
section
variable {prog:gA}{w:gu}{A:gw}{E:gH}{G:Shared->Prop}{it:mF}{lt:kL}{κ:SortKind}{N:Nat}
structure Pre(lt:kL)(N:Nat)(q r:hU):Prop where
 sq:q.Pairwise (SL lt)
 sr:r.Pairwise (SL lt)
 ix: ∀x∈q,∀y∈r,x<y
 nq: ∀x∈q,x<N
 nr: ∀x∈r,x<N
structure MG(lt:kL)(q r o:hU)(ia ib:Nat):Prop where
 srt:o.Pairwise (SL lt)
 low: ∀x∈o,∀y,(y∈q.drop ia\/y∈r.drop ib)->SL lt x y
 pm:(o++(q.drop ia++r.drop ib)).Perm (q++r)
def Res(lt:kL)(it:mF)(q r:hU)(out:mG):Prop:= ∃o:List Nat,out=(o.map it).toArray/\o.Pairwise (SL lt)/\o.Perm (q++r)
theorem jy{l:hU}{i:Nat}(h:i<l.length):l.drop i=l[i]::l.drop (i+1):=sL h
theorem nF{l:hU}{i j:Nat}{x:Nat}(h:x∈l.drop j)(q9:i<=j):x∈l.drop i:=by
 rw[show j=i+(j-i) by omega,<-nV] at h;exact lj h
section
variable {q r o:hU}{ia ib:Nat}(W:Wk lt)(B:Pre lt N q r)
include W B
theorem Ff(h:ia<q.length): ∀y∈q.drop (ia+1),SL lt q[ia] y:=fun y hy=>by
 have:=B.sq.sublist (pj ia q);rw[jy h,pz] at this;exact this.1 y hy
theorem BM(h:ib<r.length): ∀y∈r.drop (ib+1),SL lt r[ib] y:=fun y hy=>by
 have:=B.sr.sublist (pj ib r);rw[jy h,pz] at this;exact this.1 y hy
theorem MG.putB(m:MG lt q r o ia ib)(hb:ib<r.length)(h: ∀y∈q.drop ia,SL lt r[ib] y):MG lt q r (o++[r[ib]]) ia (ib+1):=by
 have hm:r[ib]∈r.drop ib:=by rw[jy hb];exact iO
 refine⟨lT.mpr ⟨m.srt,AI _ _,fun x hx y hy=>?_⟩,fun x hx y hy=>?_,?_⟩
 ·rw[pA] at hy;subst hy;exact m.low x hx _ (.inr hm)
 ·rcases nU.mp hx with hx|hx
  ·exact m.low x hx y (hy.imp id fun z=>nF z (uN _))
  ·rw[pA] at hx;subst hx;exact hy.elim (h y) (BM W B hb y)
 ·refine List.Perm.trans ?_ m.pm;rw[jy hb,jI];refine sJ o ?_;exact(Iw (l₁:=q.drop ia) (l₂:=r.drop (ib+1)) (a:=r[ib])).symm
theorem MG.putA(m:MG lt q r o ia ib)(ha:ia<q.length)(h: ∀y∈r.drop ib,SL lt q[ia] y):MG lt q r (o++[q[ia]]) (ia+1) ib:=by
 have hm:q[ia]∈q.drop ia:=by rw[jy ha];exact iO
 refine⟨lT.mpr ⟨m.srt,AI _ _,fun x hx y hy=>?_⟩,fun x hx y hy=>?_,?_⟩
 ·rw[pA] at hy;subst hy;exact m.low x hx _ (.inl hm)
 ·rcases nU.mp hx with hx|hx
  ·exact m.low x hx y (hy.imp (fun z=>nF z (uN _)) id)
  ·rw[pA] at hx;subst hx;exact hy.elim (Ff W B ha y) (h y)
 ·refine List.Perm.trans ?_ m.pm;rw[jy ha,jI];exact uD _
theorem MG.putBs(m:MG lt q r o ia ib)(h: ∀x∈(r.drop ib).take k,∀y∈q.drop ia,SL lt x y):MG lt q r (o++(r.drop ib).take k) ia (ib+k):=by
 have hs:=B.sr.sublist (pj ib r);rw[<-lK k (r.drop ib),lT] at hs;obtain⟨s1,s2,s3⟩:=hs;have e:r.drop (ib+k)=(r.drop ib).drop k:=by rw[nV]
 refine⟨lT.mpr ⟨m.srt,s1,fun x hx y hy=>m.low x hx y (.inr (mI hy))⟩,fun x hx y hy=>?_,?_⟩
 ·rcases nU.mp hx with hx|hx
  ·exact m.low x hx y (hy.imp id fun z=>nF z (Nat.le_add_right _ _))
  ·exact hy.elim (h x hx y) fun z=>s3 x hx y (by rw[<-e];exact z)
 ·refine List.Perm.trans ?_ m.pm;rw[e,jI];refine sJ o ?_
  have:(List.take k (r.drop ib)++(q.drop ia++List.drop k (r.drop ib))).Perm (q.drop ia++(List.take k (r.drop ib)++List.drop k (r.drop ib))):=by
   rw[<-jI,<-jI];exact uC _ AH
  rw[lK] at this;exact this
theorem MG.putAs(m:MG lt q r o ia ib)(h: ∀x∈(q.drop ia).take k,∀y∈r.drop ib,SL lt x y):MG lt q r (o++(q.drop ia).take k) (ia+k) ib:=by
 have hs:=B.sq.sublist (pj ia q);rw[<-lK k (q.drop ia),lT] at hs;obtain⟨s1,s2,s3⟩:=hs;have e:q.drop (ia+k)=(q.drop ia).drop k:=by rw[nV]
 refine⟨lT.mpr ⟨m.srt,s1,fun x hx y hy=>m.low x hx y (.inl (mI hy))⟩,fun x hx y hy=>?_,?_⟩
 ·rcases nU.mp hx with hx|hx
  ·exact m.low x hx y (hy.imp (fun z=>nF z (Nat.le_add_right _ _)) id)
  ·exact hy.elim (fun z=>s3 x hx y (by rw[<-e];exact z)) (h x hx y)
 ·refine List.Perm.trans ?_ m.pm;rw[e,jI];refine sJ o ?_;rw[<-jI,lK]
theorem MG.endA(m:MG lt q r o ia ib)(h:r.drop ib=[]):(o++q.drop ia).Pairwise (SL lt)/\(o++q.drop ia).Perm (q++r):=by
 have pm:=m.pm;rw[h,xn] at pm;exact⟨lT.mpr ⟨m.srt,B.sq.sublist (pj ia q),fun x hx y hy=>m.low x hx y (.inl hy)⟩,pm⟩
theorem MG.endB(m:MG lt q r o ia ib)(h:q.drop ia=[]):(o++r.drop ib).Pairwise (SL lt)/\(o++r.drop ib).Perm (q++r):=by
 have pm:=m.pm;rw[h,vH] at pm;exact⟨lT.mpr ⟨m.srt,B.sr.sublist (pj ib r),fun x hx y hy=>m.low x hx y (.inr hy)⟩,pm⟩
theorem MG.endL(m:MG lt q r o ia ib)(h: ∀x∈r.drop ib,∀y∈q.drop ia,SL lt x y):(o++(r.drop ib++q.drop ia)).Pairwise (SL lt)/\(o++(r.drop ib++q.drop ia)).Perm (q++r):=by
 refine⟨lT.mpr ⟨m.srt,lT.mpr ⟨B.sr.sublist (pj ib r),B.sq.sublist (pj ia q),h⟩,fun x hx y hy=>m.low x hx y ((nU.mp hy).symm)⟩,?_⟩;exact List.Perm.trans (sJ o AH) m.pm
end
theorem jv{q:hU}{i:Nat}(hi:i<q.length){st:ik}{Q:Keyed->SortSt->Prop}(h:Q (it q[i]) st):wpI (model prog w) A E G (elem' (q.map it).toArray i) Q st:=by
 rw[elem'_eq];have:(q.map it).toArray[i]?=some (it q[i]):=by simp[hi]
 rw[this];exact fU h
theorem Mi{q:hU}{i:Nat}(hi:i<q.length):P q.toArray i=q[i]:=by simp[P,hi]
theorem qt(W:Wk lt)(H:Ask prog w A E G it κ N lt){left:Bool}{x:Nat}{q:hU}{base n hint:Nat}(hx:x<N)(hq: ∀y∈q,y<N)(hn:base+n<=q.length)(hh:hint<n){st:ik}(hk:kindOf st=κ)(srt:((q.drop base).take n).Pairwise (SL lt)){Q:zC}
  (h: ∀r,r<=n->(∀y∈((q.drop base).take n).take r,(if left=true then lt y x else !lt x y)=true)->(∀y∈((q.drop base).take n).drop r,(if left=true then lt y x else !lt x y)=false)->Q (some r) st):
  wpI (model prog w) A E G (kc left (it x) (q.map it).toArray base n hint) Q st:=by
 have ea:(q.map it).toArray=q.toArray.map it:=by simp
 rw[ea];have hl:((q.drop base).take n).length=n:=by simp;lia
 have get: ∀i (hi:i<n),P q.toArray (base+i)=((q.drop base).take n)[i]:=fun i hi=>by
  rw[Mi (by lia)];simp
 have bq: ∀i (hi:i<n),Bq lt left x q.toArray base i=(if left=true then lt (((q.drop base).take n)[i]) x else !lt x (((q.drop base).take n)[i])):=fun i hi=>by unfold Bq;rw[get i hi]
 refine Er H hx (fun k hk=>?_) (by simpa using hn) hh hk (fun i j ij jn hb=>?_) fun r r1 r2 r3=>h r r1 (fun y hy=>?_) (fun y hy=>?_)
 ·have dE:k<q.length:=by simpa using hk
  rw[Mi dE];exact hq _ (jT dE)
 ·rcases AJ i j with n9|eM
  ·rw[bq j jn] at hb;rw[bq i (by lia)];have sl:=G9.mp srt i j (by lia) (by lia) n9
   cases left with
   |true=>
    simp only[gM] at hb ⊢;exact W.le_lt (SL.le W sl) hb
   |false=>
    simp only[hC,iE,Bool.not_eq_true'] at hb ⊢;exact W.le_tr (SL.le W sl) hb
  ·have:i=j:=by lia
   subst this;exact hb
 ·obtain⟨i,hi,e⟩:=xb hy;have br:i<r:=by simp at hi;lia
  have:=r2 i br;rw[bq i (by lia)] at this;rw[<-e,List.getElem_take];exact this
 ·obtain⟨i,hi,e⟩:=xb hy;have br:r+i<n:=by simp at hi;lia
  have:=r3 (r+i) (by lia) br;rw[bq (r+i) br] at this;rw[<-e,List.getElem_drop];exact this
theorem uu{o:hU}{x:Nat}:((o.map it).toArray.push (it x))=((o++[x]).map it).toArray:=by simp
theorem G4{o q r:hU}{i j:Nat}:((o.map it).toArray++(q.map it).toArray.extract i (q.map it).toArray.size++(r.map it).toArray.extract j (r.map it).toArray.size)=((o++(q.drop i++r.drop j)).map it).toArray:=by
 simp[uB,uA];rw[sH (by simp),sH (by simp)]
theorem G3{o q:hU}{i k:Nat}:((o.map it).toArray++(q.map it).toArray.extract i (i+k))=((o++(q.drop i).take k).map it).toArray:=by
 simp[uB,uA]
def Same(st b6:ik):Prop:=kindOf b6=kindOf st/\arrOf b6=arrOf st/\pendingOf b6=pendingOf st/\failedOf b6=failedOf st
theorem Same.refl{st:ik}:Same st st:=⟨rfl,rfl,rfl,rfl⟩
theorem Same.trans{a b c:ik}(x:Same a b)(y:Same b c):Same a c:=⟨y.1.trans x.1,y.2.1.trans x.2.1,y.2.2.1.trans x.2.2.1,y.2.2.2.trans x.2.2.2⟩
theorem qr{n:Nat}{st:ik}{Q:Unit->SortSt->Prop}(h: ∀b6,Same st b6->Q () b6):wpI (model prog w) A E G (tj n) Q st:=
 jq (f:=fun s=>SortSt.mk' (kindOf s) (arrOf s) (pendingOf s) n (failedOf s)) (h _ ⟨rfl,rfl,rfl,rfl⟩)
theorem pU(W:Wk lt){q r o:hU}{ia ib:Nat}(B:Pre lt N q r)(m:MG lt q r o ia ib)(h:q.length<=ia\/r.length<=ib):Res lt it q r ((o.map it).toArray++(q.map it).toArray.extract ia (q.map it).toArray.size++(r.map it).toArray.extract ib (r.map it).toArray.size):=by
 refine⟨_,G4,?_⟩;rcases h with h|h
 ·have e:q.drop ia=[]:=uH h;have:=m.endB W B e;rw[e,vH];exact this
 ·have e:r.drop ib=[]:=uH h;have:=m.endA W B e;rw[e,xn];exact this
theorem CK(W:Wk lt){q r o:hU}{ia ib:Nat}(B:Pre lt N q r)(m:MG lt q r o ia ib)(h: ∀x∈r.drop ib,∀y∈q.drop ia,SL lt x y):Res lt it q r ((o.map it).toArray++(r.map it).toArray.extract ib (r.map it).toArray.size++(q.map it).toArray.extract ia (q.map it).toArray.size):=
 ⟨_,G4,m.endL W B h⟩
abbrev sz(q:hU)(it:mF):(q.map it).toArray.size=q.length:=by simp
abbrev LoS:=Option (Array Keyed)×Array Keyed×Nat×Nat×Nat×Nat×Nat
def F5(a b out:mG)(ia ib mg k k2:Nat):StateT SortSt Sem (ForInStep LoS):=do
 let y <-elem' a ia
 if(ia+1+1==a.size)=true then pure (ForInStep.done (some (out.push y++b.extract ib b.size++a.extract (ia+1) a.size),out.push y,ia+1,ib,mg,k,k2))
 else if(decide (k<7)&&decide (k2<7))=true then pure (ForInStep.done (none,out.push y,ia+1,ib,mg,k,k2)) else pure (ForInStep.yield (none,out.push y,ia+1,ib,mg,k,k2))
def Lc(a b out:mG)(ia ib mg k bc:Nat):StateT SortSt Sem (ForInStep LoS):=do
 let y <-elem' b ib
 if(ib+1==b.size)=true then pure (ForInStep.done (some (out.push y++a.extract ia a.size++b.extract (ib+1) b.size),out.push y,ia,ib+1,mg,k,bc))
 else do
  let z <-elem' a ia
  let x <-kc true z b (ib+1) (b.size-(ib+1)) 0
  match x with
  |some k2=>
   if k2>0 then
    if(ib+1+k2==b.size)=true then pure (ForInStep.done (some (out.push y++b.extract (ib+1) (ib+1+k2)++a.extract ia a.size++b.extract (ib+1+k2) b.size),out.push y++b.extract (ib+1) (ib+1+k2),ia,ib+1+k2,mg,k,k2))
    else F5 a b (out.push y++b.extract (ib+1) (ib+1+k2)) ia (ib+1+k2) mg k k2
   else F5 a b (out.push y) ia (ib+1) mg k k2
  |_=>pure (ForInStep.done (some (out.push y++a.extract ia a.size++b.extract (ib+1) b.size),out.push y,ia,ib+1,mg,k,bc))
def G8(lt:kL)(it:mF)(q r:hU)(c st:Nat)(S:SortSt->Prop)(x:ForInStep LoS)(b6:ik):Prop:=
 match x with
 | .done c'=>S b6/\((∃res x,c'=(some res,x)/\Res lt it q r res)\/ ∃o2 h8 l3 r9 ac bc,c'=(none,(o2.map it).toArray,h8,l3,r9,ac,bc)/\MG lt q r o2 h8 l3/\h8+1<q.length/\l3<r.length/\c<=h8+l3)
 | .yield c'=> ∃o2 h8 l3 r9 ac bc,c'=(none,(o2.map it).toArray,h8,l3,r9,ac,bc)/\MG lt q r o2 h8 l3/\h8+1<q.length/\l3<r.length/\st<=h8+l3/\S b6
section
variable(W:Wk lt)(H:Ask prog w A E G it κ N lt){q r:hU}(B:Pre lt N q r)(top: ∀x∈r,∀y∈q.drop (q.length-1),SL lt x y){S:SortSt->Prop}{o:hU}{ia ib mg k k2 bc c cy:Nat}{st:ik}
include W H B top
theorem zE(m:MG lt q r o ia ib)(ha:ia+1<q.length)(hb:ib<r.length)(fb: ∀y∈r.drop ib,SL lt q[ia] y)(hs:S st)(hc:c<=ia+1+ib)(hy:cy<=ia+1+ib):
  wpI (model prog w) A E G (F5 (q.map it).toArray (r.map it).toArray (o.map it).toArray ia ib mg k k2) (G8 lt it q r c cy S) st:=by
 unfold F5;refine fQ (jv (i:=ia) (by lia) ?_);have m2:=m.putA W B (by lia) fb;rw[uu];refine gR (fun he=>?_) fun he=>?_
 ·have:ia+1+1=q.length:=by simpa using he
  exact fU ⟨hs,.inl ⟨_,_,rfl,CK W B m2 fun x hx y hy=>top x (lj hx) y (by rw[show q.length-1=ia+1 by lia];exact hy)⟩⟩
 ·have:ia+1+1≠q.length:=by simpa using he
  refine gR (fun h7=>?_) fun h7=>?_
  ·exact fU ⟨hs,.inr ⟨_,_,_,_,_,_,rfl,m2,by lia,hb,hc⟩⟩
  ·exact fU ⟨_,_,_,_,_,_,rfl,m2,by lia,hb,hy,hs⟩
theorem Jw(hk:kindOf st=κ)(m:MG lt q r o ia ib)(ha:ia+1<q.length)(hb:ib<r.length)(fa: ∀y∈q.drop ia,SL lt r[ib] y)(hs:S st)(hc:c<=ia+ib)(hy:cy<=ia+1+ib):
  wpI (model prog w) A E G (Lc (q.map it).toArray (r.map it).toArray (o.map it).toArray ia ib mg k bc) (G8 lt it q r c cy S) st:=by
 unfold Lc;refine fQ (jv hb ?_);have m2:=m.putB W B hb fa;rw[uu];refine gR (fun he=>?_) fun he=>?_
 ·have:ib+1=r.length:=by simpa using he
  exact fU ⟨hs,.inl ⟨_,_,rfl,pU W B m2 (.inr (by lia))⟩⟩
 ·have he:ib+1≠r.length:=by simpa using he
  have en:(r.drop (ib+1)).take ((r.map it).toArray.size-(ib+1))=r.drop (ib+1):=sH (by simp);refine fQ (jv (i:=ia) (by lia) (fQ (qt W H (B.nq _ (jT _)) B.nr (by rw[sz];lia) (by rw[sz];lia) hk (by rw[en];exact B.sr.sublist (pj _ _)) fun k' k1 k2 k3=>?_)));rw[en] at k2 k3;rw[sz] at k1;simp only[gM] at k2 k3
  have m3:=m2.putBs W B (k:=k') fun x hx y hy=>by
   rw[jy (show ia<q.length by lia)] at hy;rcases jQ.mp hy with rfl|hy
   ·exact .inl (k2 x hx)
   ·exact SL.trans W (.inl (k2 x hx)) (Ff W B (by lia) y hy)
  have fb: ∀y∈r.drop (ib+1+k'),SL lt q[ia] y:=fun y hy=>by
   rw[<-nV] at hy;exact .inr ⟨k3 y hy,B.ix _ (jT _) _ (lj (lj hy))⟩
  dsimp only;refine gR (fun hp=>?_) fun hp=>?_
  ·rw[G3];refine gR (fun hf=>?_) fun hf=>?_
   ·have:ib+1+k'=r.length:=by simpa using hf
    exact fU ⟨hs,.inl ⟨_,_,rfl,pU W B m3 (.inr (by lia))⟩⟩
   ·have:ib+1+k'≠r.length:=by simpa using hf
    exact zE W H B top m3 ha (by lia) fb hs (by lia) (by lia)
  ·have hz:k'=0:=by lia
   subst hz;exact zE W H B top m2 ha (by lia) fb hs (by lia) (by lia)
end
theorem OL(W:Wk lt)(H:Ask prog w A E G it κ N lt){q r:hU}(B:Pre lt N q r)(h1:1<=q.length)(h2:1<=r.length)(hd: ∀y∈q,SL lt r[0] y)(top: ∀x∈r,∀y∈q.drop (q.length-1),SL lt x y){st:ik}(hk:kindOf st=κ){Q:Array Keyed->SortSt->Prop}
  (h: ∀out b6,Res lt it q r out->Same st b6->Q out b6):wpI (model prog w) A E G (yn (q.map it).toArray (r.map it).toArray) Q st:=by
 have aB: ∀{o ia ib},MG lt q r o ia ib->ia+1=q.length->Res lt it q r ((o.map it).toArray++(r.map it).toArray.extract ib (r.map it).toArray.size++(q.map it).toArray.extract ia (q.map it).toArray.size):=fun {o ia ib} m e=>CK W B m fun x hx y hy=>top x (lj hx) y (by rw[show q.length-1=ia by lia];exact hy);rw[E5];dsimp only;refine fQ (nZ (fQ (jv (by lia) ?_)))
 have m0:MG lt q r [r[0]] 0 1:=by
  have:=MG.putB (o:=[]) (ia:=0) (ib:=0) W B ⟨List.Pairwise.nil,fun x hx=>absurd hx kj,by simp⟩ (by lia) (by simpa using hd);simpa using this
 have e0: #[it r[0]]=(([r[0]]:List Nat).map it).toArray:=rfl;rw[e0];refine gR (fun bz=>?_) fun bz=>?_
 ·have:1=r.length:=by simpa using bz
  exact fU (h _ _ (pU W B m0 (.inr (by lia))) .refl)
 ·have bz:1≠r.length:=by simpa using bz
  refine gR (fun ag=>?_) fun ag=>?_
  ·have:0+1=q.length:=by simpa using ag
   exact fU (h _ _ (aB m0 this) .refl)
  ·have ag:1≠q.length:=by simpa using ag
   refine fQ (kF ?_)
   refine fQ (ic (ir (I:=fun i c b6=> ∃o ia ib mg,c=(none,(o.map it).toArray,ia,ib,mg)/\MG lt q r o ia ib/\ia+1<q.length/\ib<r.length/\i+1<=ia+ib/\Same st b6)
    (Q:=fun c b6=> ∃res x,c=(some res,x)/\Res lt it q r res/\Same st b6) ?step ?fin ⟨_,0,1,_,rfl,m0,by lia,by lia,by lia,.refl⟩) ?post)
   case post=>
    rintro c b6 ⟨res,x,rfl,hr,hs⟩;exact fU (h res b6 hr hs)
   case fin=>
    rintro c b6 ⟨o,ia,ib,mg,rfl,m,b1,b2,b3,hs⟩;rw[sz,sz] at b3
    lia
   case step=>
    rintro i c v5 _ _ ⟨o,ia,ib,mg,rfl,m,b1,b2,b3,hs⟩;dsimp only
    refine fQ (ic (ir (I:=fun j c b6=>b6=v5/\ ∃o' u2 w5 ac bc,c=(none,(o'.map it).toArray,u2,w5,ac,bc)/\MG lt q r o' u2 w5/\u2+1<q.length/\w5<r.length/\ia+ib+j<=u2+w5)
     (Q:=fun c b6=>b6=v5/\((∃res x,c=(some res,x)/\Res lt it q r res)\/ ∃o' u2 w5 ac bc,c=(none,(o'.map it).toArray,u2,w5,ac,bc)/\MG lt q r o' u2 w5/\u2+1<q.length/\w5<r.length/\ia+ib+1<=u2+w5)) ?step1 ?fin1 ⟨rfl,o,ia,ib,0,0,rfl,m,b1,b2,by lia⟩) ?post1)
    case fin1=>
     rintro c b6 ⟨rfl,o',u2,w5,ac,bc,rfl,m',c1,c2,c3⟩;rw[sz,sz] at c3
     lia
    case step1=>
     rintro j c b6 _ _ ⟨rfl,o',u2,w5,ac,bc,rfl,m',c1,c2,c3⟩;dsimp only;refine fQ (jv c2 (fQ (jv (i:=u2) (by lia) (fQ (xu H (hs.1.trans hk) (B.nr _ (jT _)) (B.nq _ (jT _)) ?_)))));dsimp only
     cases hl:lt r[w5] q[u2] with
     |true=>
      simp only[gM];refine fQ (jv c2 ?_)
      have m2:=m'.putB W B c2 fun y hy=>by
       rw[jy (show u2<q.length by lia)] at hy;rcases jQ.mp hy with rfl|hy
       ·exact .inl hl
       ·exact SL.trans W (.inl hl) (Ff W B (by lia) y hy)
      rw[uu];refine gR (fun he=>?_) fun he=>?_
      ·have:w5+1=r.length:=by simpa using he
       exact fU ⟨rfl,.inl ⟨_,_,rfl,pU W B m2 (.inr (by lia))⟩⟩
      ·have:w5+1≠r.length:=by simpa using he
       refine gR (fun hg=>?_) fun hg=>?_
       ·exact fU ⟨rfl,.inr ⟨_,_,_,_,_,rfl,m2,c1,by lia,by lia⟩⟩
       ·exact fU ⟨rfl,_,_,_,_,_,rfl,m2,c1,by lia,by lia⟩
     |false=>
      simp only[hC,iE];refine fQ (jv (i:=u2) (by lia) ?_)
      have m2:=m'.putA W B (by lia) fun y hy=>by
       rw[jy c2] at hy;have first:SL lt q[u2] r[w5]:= .inr ⟨hl,B.ix _ (jT _) _ (jT _)⟩;rcases jQ.mp hy with rfl|hy
       ·exact first
       ·exact SL.trans W first (BM W B c2 y hy)
      rw[uu];refine gR (fun he=>?_) fun he=>?_
      ·have:u2+1+1=q.length:=by simpa using he
       exact fU ⟨rfl,.inl ⟨_,_,rfl,aB m2 this⟩⟩
      ·have:u2+1+1≠q.length:=by simpa using he
       refine gR (fun hg=>?_) fun hg=>?_
       ·exact fU ⟨rfl,.inr ⟨_,_,_,_,_,rfl,m2,by lia,c2,by lia⟩⟩
       ·exact fU ⟨rfl,_,_,_,_,_,rfl,m2,by lia,c2,by lia⟩
    case post1=>
     rintro c b6 ⟨rfl,⟨res,x,rfl,hr⟩|⟨o',u2,w5,ac,bc,rfl,m',c1,c2,c3⟩⟩
     ·exact fU ⟨res,_,rfl,hr,hs⟩
     ·dsimp only
      refine fQ (nZ (fQ (ic (ir (I:=fun j c b6=> ∃o2 h8 l3 r9 ac bc,c=(none,(o2.map it).toArray,h8,l3,r9,ac,bc)/\MG lt q r o2 h8 l3/\h8+1<q.length/\l3<r.length/\ia+ib+1+j<=h8+l3/\Same st b6)
       (Q:=fun c b6=>Same st b6/\((∃res x,c=(some res,x)/\Res lt it q r res)\/ ∃o2 h8 l3 r9 ac bc,c=(none,(o2.map it).toArray,h8,l3,r9,ac,bc)/\MG lt q r o2 h8 l3/\h8+1<q.length/\l3<r.length/\ia+ib+1<=h8+l3)) ?step2 ?fin2 ⟨o',u2,w5,_,_,_,rfl,m',c1,c2,by lia,hs⟩) ?post2)))
      case fin2=>
       rintro c b6 ⟨o2,h8,l3,r9,ac,bc,rfl,m2,d1,d2,d3,n5⟩;rw[sz,sz] at d3
       lia
      case post2=>
       rintro c b6 ⟨n5,⟨res,x,rfl,hr⟩|⟨o2,h8,l3,r9,ac,bc,rfl,m2,d1,d2,d3⟩⟩
       ·exact fU ⟨res,_,rfl,hr,n5⟩
       ·dsimp only;exact fQ (qr fun l5 m9=>fU ⟨o2,h8,l3,_,rfl,m2,d1,d2,by lia,n5.trans m9⟩)
      case step2=>
       rintro j c g0 _ _ ⟨o2,h8,l3,r9,ac,bc,rfl,m2,d1,d2,d3,n5⟩;dsimp only;have en:(q.drop h8).take ((q.map it).toArray.size-h8)=q.drop h8:=sH (by simp)
       have mid: ∀(v9 k:Nat) (l5:ik),Same st l5->k<=(q.map it).toArray.size-h8->(∀y∈(q.drop h8).take k,lt r[l3] y=false)->(∀y∈(q.drop h8).drop k,lt r[l3] y=true)->h8+k+1≠q.length->h8+k≠q.length->
         wpI (model prog w) A E G (Lc (q.map it).toArray (r.map it).toArray ((o2++(q.drop h8).take k).map it).toArray (h8+k) l3 v9 k bc) (G8 lt it q r (ia+ib+1) (ia+ib+1+(j+1)) (Same st)) l5:=fun v9 k l5 m9 k1 k2 k3 e1 e2=>by
        rw[sz] at k1;refine Jw W H B top (m9.1.trans hk) (m2.putAs W B fun x hx y hy=>?_) (by lia) d2 (fun y hy=>?_) m9 (by lia) (by lia)
        ·have first:SL lt x r[l3]:= .inr ⟨k2 x hx,B.ix x (lj (mI hx)) _ (jT _)⟩;rw[jy d2] at hy;rcases jQ.mp hy with rfl|hy
         ·exact first
         ·exact SL.trans W first (BM W B d2 y hy)
        ·rw[<-nV] at hy;exact .inl (k3 y hy)
       have body: ∀(v9:Nat) (l5:ik),Same st l5->wpI (model prog w) A E G (do
         let y <-elem' (r.map it).toArray l3
         let x <-kc false y (q.map it).toArray h8 ((q.map it).toArray.size-h8) 0
         match x with
         |some k=>
          if k>0 then
           if(h8+k+1==(q.map it).toArray.size)=true then pure (ForInStep.done (some ((o2.map it).toArray++(q.map it).toArray.extract h8 (h8+k)++(r.map it).toArray.extract l3 (r.map it).toArray.size++(q.map it).toArray.extract (h8+k) (q.map it).toArray.size),(o2.map it).toArray++(q.map it).toArray.extract h8 (h8+k),h8+k,l3,v9,k,bc))
           else if(h8+k==(q.map it).toArray.size)=true then pure (ForInStep.done (some ((o2.map it).toArray++(q.map it).toArray.extract h8 (h8+k)++(q.map it).toArray.extract (h8+k) (q.map it).toArray.size++(r.map it).toArray.extract l3 (r.map it).toArray.size),(o2.map it).toArray++(q.map it).toArray.extract h8 (h8+k),h8+k,l3,v9,k,bc))
           else Lc (q.map it).toArray (r.map it).toArray ((o2.map it).toArray++(q.map it).toArray.extract h8 (h8+k)) (h8+k) l3 v9 k bc
          else Lc (q.map it).toArray (r.map it).toArray (o2.map it).toArray h8 l3 v9 k bc
         |_=>pure (ForInStep.done (some ((o2.map it).toArray++(q.map it).toArray.extract h8 (q.map it).toArray.size++(r.map it).toArray.extract l3 (r.map it).toArray.size),(o2.map it).toArray,h8,l3,v9,ac,bc))) (G8 lt it q r (ia+ib+1) (ia+ib+1+(j+1)) (Same st)) l5:=fun v9 l5 m9=>by
        refine fQ (jv d2 (fQ (qt W H (B.nr _ (jT _)) B.nq (by rw[sz];lia) (by rw[sz];lia) (m9.1.trans hk) (by rw[en];exact B.sq.sublist (pj _ _)) fun k k1 k2 k3=>?_)));rw[en] at k2 k3;simp only[hC,iE,Bool.not_eq_true',Bool.not_eq_false'] at k2 k3;have hkl:=k1;rw[sz] at hkl
        have mA:MG lt q r (o2++(q.drop h8).take k) (h8+k) l3:=m2.putAs W B fun x hx y hy=>by
         have first:SL lt x r[l3]:= .inr ⟨k2 x hx,B.ix x (lj (mI hx)) _ (jT _)⟩;rw[jy d2] at hy;rcases jQ.mp hy with rfl|hy
         ·exact first
         ·exact SL.trans W first (BM W B d2 y hy)
        dsimp only;refine gR (fun hp=>?_) fun hp=>?_
        ·rw[G3];refine gR (fun he=>?_) fun he=>?_
         ·exact fU ⟨m9,.inl ⟨_,_,rfl,aB mA (by simpa using he)⟩⟩
         ·refine gR (fun hf=>?_) fun hf=>?_
          ·have:h8+k=q.length:=by simpa using hf
           exact fU ⟨m9,.inl ⟨_,_,rfl,pU W B mA (.inl (by lia))⟩⟩
          ·exact mid v9 k l5 m9 k1 k2 k3 (by simpa using he) (by simpa using hf)
        ·have hz:k=0:=by lia
         subst hz;have:=mid v9 0 l5 m9 k1 k2 k3 (by lia) (by lia);simpa using this
       refine gR (fun hm=>?_) fun hm=>?_
       ·refine fQ (qr fun l5 m9=>?_);exact ic (body _ l5 (n5.trans m9)) fun x b6 hx=>by cases x<;>exact hx
       ·refine fQ (qr fun l5 m9=>?_);exact ic (body _ l5 (n5.trans m9)) fun x b6 hx=>by cases x<;>exact hx
end
theorem E6(a b:mG):yo a b=(do
 rule "list.sort.merge-hi"
 let total:=a.size+b.size
 let done (out:mG) (na nb:Nat):=a.extract 0 na++b.extract 0 nb++out.reverse
 let m7 (out:mG) (na nb:Nat):=b.extract 0 nb++a.extract 0 na++out.reverse
 let mut na:=a.size-1
 let mut nb:=b.size
 let mut out:Array Keyed:= #[<-elem' a na]
 if na==0 then return done out na nb
 if nb==1 then return m7 out na nb
 let mut minGallop:=gallopOf (<-get)
 for _ in [0:total] do
  let mut acount:=0
  let mut bcount:=0
  for _ in [0:total] do
   let some aWins <-lt' (<-elem' b (nb-1)) (<-elem' a (na-1))|return done out na nb
   if aWins then
    na:=na-1;out:=out.push (<-elem' a na);acount:=acount+1;bcount:=0
    if na==0 then return done out na nb
    if acount>=minGallop then break
   else
    nb:=nb-1;out:=out.push (<-elem' b nb);bcount:=bcount+1;acount:=0
    if nb==1 then return m7 out na nb
    if bcount>=minGallop then break
  rule "list.sort.gallop"
  minGallop:=minGallop+1
  for _ in [0:total] do
   if minGallop>1 then minGallop:=minGallop-1
   tj minGallop
   let some at_ <-kc false (<-elem' b (nb-1)) a 0 na (na-1)|return done out na nb
   let k:=na-at_
   acount:=k
   if k>0 then
    out:=out++(a.extract at_ na).reverse;na:=at_
    if na==0 then return done out na nb
   nb:=nb-1;out:=out.push (<-elem' b nb)
   if nb==1 then return m7 out na nb
   let some at_ <-kc true (<-elem' a (na-1)) b 0 nb (nb-1)|return done out na nb
   let k:=nb-at_
   bcount:=k
   if k>0 then
    out:=out++(b.extract at_ nb).reverse;nb:=at_
    if nb==1 then return m7 out na nb
    if nb==0 then return done out na nb
   na:=na-1;out:=out.push (<-elem' a na)
   if na==0 then return done out na nb
   if acount<7&&bcount<7 then break
  minGallop:=minGallop+1
  tj minGallop
 unsupported "internal:list.sort.merge-bound"):=rfl
section
variable {prog:gA}{w:gu}{A:gw}{E:gH}{G:Shared->Prop}{it:mF}{lt:kL}{κ:SortKind}{N:Nat}
structure MH(lt:kL)(q r s:hU)(na nb:Nat):Prop where
 srt:s.Pairwise (SL lt)
 high: ∀y,(y∈q.take na\/y∈r.take nb)-> ∀x∈s,SL lt y x
 pm:(q.take na++r.take nb++s).Perm (q++r)
theorem jJ{l:hU}{n:Nat}(h1:0<n)(h:n<=l.length):l.take n=l.take (n-1)++[l[n-1]]:=by
 obtain⟨m,rfl⟩: ∃m,n=m+1:=⟨n-1,by omega⟩
 rw[D0,hX (by omega)];rfl
theorem nE{l:hU}{i j x:Nat}(h:x∈l.take i)(q9:i<=j):x∈l.take j:=by
 have:=List.take_sublist_take_left (l:=l) q9;exact this.subset h
section
variable {q r s:hU}{na nb k:Nat}(W:Wk lt)(B:Pre lt N q r)
include W B
theorem Fj(h0:0<na)(h:na<=q.length): ∀y∈q.take (na-1),SL lt y q[na-1]:=fun y hy=>by
 have:=B.sq.sublist (mM na q);rw[jJ h0 h,lT] at this;exact this.2.2 y hy _ (pA.mpr rfl)
theorem Fi(h0:0<nb)(h:nb<=r.length): ∀y∈r.take (nb-1),SL lt y r[nb-1]:=fun y hy=>by
 have:=B.sr.sublist (mM nb r);rw[jJ h0 h,lT] at this;exact this.2.2 y hy _ (pA.mpr rfl)
theorem MH.putA(m:MH lt q r s na nb)(h0:0<na)(h1:na<=q.length)(h: ∀y∈r.take nb,SL lt y q[na-1]):MH lt q r (q[na-1]::s) (na-1) nb:=by
 have hm:q[na-1]∈q.take na:=by rw[jJ h0 h1];exact nX _ (pA.mpr rfl)
 refine⟨pz.mpr ⟨fun x hx=>m.high _ (.inl hm) x hx,m.srt⟩,fun y hy x hx=>?_,?_⟩
 ·rcases jQ.mp hx with rfl|hx
  ·exact hy.elim (Fj W B h0 h1 y) (h y)
  ·exact m.high y (hy.imp (fun z=>nE z (Nat.sub_le _ _)) id) x hx
 ·refine List.Perm.trans ?_ m.pm;rw[jJ h0 h1]
  have e:(q.take (na-1)++r.take nb++q[na-1]::s).Perm (q.take (na-1)++(q[na-1]::(r.take nb++s))):=by
   rw[jI];exact sJ _ Iw
  refine e.trans (sG ?_);rw[jI,jI,DZ]
theorem MH.putB(m:MH lt q r s na nb)(h0:0<nb)(h1:nb<=r.length)(h: ∀y∈q.take na,SL lt y r[nb-1]):MH lt q r (r[nb-1]::s) na (nb-1):=by
 have hm:r[nb-1]∈r.take nb:=by rw[jJ h0 h1];exact nX _ (pA.mpr rfl)
 refine⟨pz.mpr ⟨fun x hx=>m.high _ (.inr hm) x hx,m.srt⟩,fun y hy x hx=>?_,?_⟩
 ·rcases jQ.mp hx with rfl|hx
  ·exact hy.elim (h y) (Fi W B h0 h1 y)
  ·exact m.high y (hy.imp id fun z=>nE z (Nat.sub_le _ _)) x hx
 ·refine List.Perm.trans ?_ m.pm;refine sG ?_;rw[jJ h0 h1,jI,jI,jI,DZ]
theorem MH.putAs(m:MH lt q r s na nb)(hk:k<=na)(h: ∀y∈r.take nb,∀x∈(q.take na).drop k,SL lt y x):MH lt q r ((q.take na).drop k++s) k nb:=by
 have e:q.take k=(q.take na).take k:=by rw[rL,sD hk]
 have hs:=B.sq.sublist (mM na q);rw[<-lK k (q.take na),lT] at hs;obtain⟨s1,s2,s3⟩:=hs;refine⟨lT.mpr ⟨s2,m.srt,fun y hy x hx=>m.high y (.inl (lj hy)) x hx⟩,fun y hy x hx=>?_,?_⟩
 ·rcases nU.mp hx with hx|hx
  ·exact hy.elim (fun z=>s3 y (by rw[<-e];exact z) x hx) fun z=>h y z x hx
  ·exact m.high y (hy.imp (fun z=>nE z hk) id) x hx
 ·refine List.Perm.trans ?_ m.pm;rw[<-jI];refine uC s ?_;rw[e]
  have:((q.take na).take k++r.take nb++(q.take na).drop k).Perm ((q.take na).take k++(q.take na).drop k++r.take nb):=by
   rw[jI,jI];exact sJ _ AH
  rwa [lK] at this
theorem MH.putBs(m:MH lt q r s na nb)(hk:k<=nb)(h: ∀y∈q.take na,∀x∈(r.take nb).drop k,SL lt y x):MH lt q r ((r.take nb).drop k++s) na k:=by
 have e:r.take k=(r.take nb).take k:=by rw[rL,sD hk]
 have hs:=B.sr.sublist (mM nb r);rw[<-lK k (r.take nb),lT] at hs;obtain⟨s1,s2,s3⟩:=hs;refine⟨lT.mpr ⟨s2,m.srt,fun y hy x hx=>m.high y (.inr (lj hy)) x hx⟩,fun y hy x hx=>?_,?_⟩
 ·rcases nU.mp hx with hx|hx
  ·exact hy.elim (fun z=>h y z x hx) fun z=>s3 y (by rw[<-e];exact z) x hx
  ·exact m.high y (hy.imp id fun z=>nE z hk) x hx
 ·refine List.Perm.trans ?_ m.pm;rw[e,<-jI];refine uC s ?_;rw[jI,lK]
theorem MH.endA(m:MH lt q r s na nb)(h:na=0\/nb=0):(q.take na++r.take nb++s).Pairwise (SL lt):=by
 refine lT.mpr ⟨?_,m.srt,fun y hy x hx=>m.high y (nU.mp hy) x hx⟩;rcases h with rfl|rfl
 ·rw[List.take_zero,vH];exact B.sr.sublist (mM _ _)
 ·rw[List.take_zero,xn];exact B.sq.sublist (mM _ _)
theorem MH.endL(m:MH lt q r s na nb)(h: ∀x∈r.take nb,∀y∈q.take na,SL lt x y):(r.take nb++q.take na++s).Pairwise (SL lt)/\(r.take nb++q.take na++s).Perm (q++r):=
 ⟨lT.mpr ⟨lT.mpr ⟨B.sr.sublist (mM _ _),B.sq.sublist (mM _ _),h⟩,m.srt,fun y hy x hx=>m.high y ((nU.mp hy).symm) x hx⟩,(uC s AH).trans m.pm⟩
end
theorem qW:((s.reverse.map it).toArray.push (it x))=((x::s).reverse.map it).toArray:=by simp
theorem DK{s q r:hU}{i j:Nat}:((q.map it).toArray.extract 0 i++(r.map it).toArray.extract 0 j++(s.reverse.map it).toArray.reverse)=((q.take i++r.take j++s).map it).toArray:=by
 simp[uB,uA]
theorem DJ{s q:hU}{i k:Nat}:((s.reverse.map it).toArray++((q.map it).toArray.extract k i).reverse)=(((q.take i).drop k++s).reverse.map it).toArray:=by
 simp[uB,uA,List.drop_take]
theorem oj(W:Wk lt){q r s:hU}{na nb:Nat}(B:Pre lt N q r)(m:MH lt q r s na nb)(h:na=0\/nb=0):Res lt it q r ((q.map it).toArray.extract 0 na++(r.map it).toArray.extract 0 nb++(s.reverse.map it).toArray.reverse):=⟨_,DK,m.endA W B h,m.pm⟩
theorem EH(W:Wk lt){q r s:hU}{na nb:Nat}(B:Pre lt N q r)(m:MH lt q r s na nb)(h: ∀x∈r.take nb,∀y∈q.take na,SL lt x y):Res lt it q r ((r.map it).toArray.extract 0 nb++(q.map it).toArray.extract 0 na++(s.reverse.map it).toArray.reverse):=⟨_,DK,m.endL W B h⟩
end
abbrev HiS:=Option (Array Keyed)×Nat×Nat×Array Keyed×Nat×Nat×Nat
def F6(a b out:mG)(na nb mg k k2:Nat):StateT SortSt Sem (ForInStep HiS):=do
 let y <-elem' a (na-1)
 if(na-1==0)=true then pure (ForInStep.done (some (a.extract 0 (na-1)++b.extract 0 nb++(out.push y).reverse),na-1,nb,out.push y,mg,k,k2))
 else if(decide (k<7)&&decide (k2<7))=true then pure (ForInStep.done (none,na-1,nb,out.push y,mg,k,k2)) else pure (ForInStep.yield (none,na-1,nb,out.push y,mg,k,k2))
def NB(a b out:mG)(na nb mg k bc:Nat):StateT SortSt Sem (ForInStep HiS):=do
 let y <-elem' b (nb-1)
 if(nb-1==1)=true then pure (ForInStep.done (some (b.extract 0 (nb-1)++a.extract 0 na++(out.push y).reverse),na,nb-1,out.push y,mg,k,bc))
 else do
  let z <-elem' a (na-1)
  let x <-kc true z b 0 (nb-1) (nb-1-1)
  match x with
  |some at_=>
   if nb-1-at_>0 then
    if(at_==1)=true then pure (ForInStep.done (some (b.extract 0 at_++a.extract 0 na++(out.push y++(b.extract at_ (nb-1)).reverse).reverse),na,at_,out.push y++(b.extract at_ (nb-1)).reverse,mg,k,nb-1-at_))
    else if(at_==0)=true then pure (ForInStep.done (some (a.extract 0 na++b.extract 0 at_++(out.push y++(b.extract at_ (nb-1)).reverse).reverse),na,at_,out.push y++(b.extract at_ (nb-1)).reverse,mg,k,nb-1-at_))
    else F6 a b (out.push y++(b.extract at_ (nb-1)).reverse) na at_ mg k (nb-1-at_)
   else F6 a b (out.push y) na (nb-1) mg k (nb-1-at_)
  |_=>pure (ForInStep.done (some (a.extract 0 na++b.extract 0 (nb-1)++(out.push y).reverse),na,nb-1,out.push y,mg,k,bc))
def Ml(lt:kL)(it:mF)(q r:hU)(c cy:Nat)(S:SortSt->Prop)(x:ForInStep HiS)(b6:ik):Prop:=
 match x with
 | .done c'=>S b6/\((∃res x,c'=(some res,x)/\Res lt it q r res)\/ ∃s2 j6 k7 r9 ac bc,c'=(none,j6,k7,(s2.reverse.map it).toArray,r9,ac,bc)/\MH lt q r s2 j6 k7/\1<=j6/\j6<=q.length/\2<=k7/\k7<=r.length/\j6+k7+c<=q.length+r.length)
 | .yield c'=> ∃s2 j6 k7 r9 ac bc,c'=(none,j6,k7,(s2.reverse.map it).toArray,r9,ac,bc)/\MH lt q r s2 j6 k7/\1<=j6/\j6<=q.length/\2<=k7/\k7<=r.length/\j6+k7+cy<=q.length+r.length/\S b6
section
variable {prog:gA}{w:gu}{A:gw}{E:gH}{G:Shared->Prop}{it:mF}{lt:kL}{κ:SortKind}{N:Nat}
section
variable(W:Wk lt)(H:Ask prog w A E G it κ N lt){q r:hU}(B:Pre lt N q r)(bot: ∀x∈r.take 1,∀y∈q,SL lt x y){S:SortSt->Prop}{s:hU}{na nb mg k k2 bc c cy:Nat}{st:ik}
include W H B bot
theorem zF(m:MH lt q r s na nb)(ha:1<=na)(aV:na<=q.length)(hb:2<=nb)(dI:nb<=r.length)(fa: ∀y∈r.take nb,SL lt y q[na-1])(hs:S st)(hc:na-1+nb+c<=q.length+r.length)(hy:na-1+nb+cy<=q.length+r.length):
  wpI (model prog w) A E G (F6 (q.map it).toArray (r.map it).toArray (s.reverse.map it).toArray na nb mg k k2) (Ml lt it q r c cy S) st:=by
 unfold F6;refine fQ (jv (i:=na-1) (by lia) ?_);have m2:=m.putA W B (by lia) aV fa;rw[qW];refine gR (fun he=>?_) fun he=>?_
 ·exact fU ⟨hs,.inl ⟨_,_,rfl,oj W B m2 (.inl (by simpa using he))⟩⟩
 ·have:na-1≠0:=fun z=>he (by simp[z]);refine gR (fun h7=>?_) fun h7=>?_
  ·exact fU ⟨hs,.inr ⟨_,_,_,_,_,_,rfl,m2,by lia,by lia,hb,dI,hc⟩⟩
  ·exact fU ⟨_,_,_,_,_,_,rfl,m2,by lia,by lia,hb,dI,hy,hs⟩
theorem yD(m:MH lt q r s na nb)(h:nb=1):Res lt it q r ((r.map it).toArray.extract 0 nb++(q.map it).toArray.extract 0 na++(s.reverse.map it).toArray.reverse):=EH W B m fun x hx y hy=>bot x (by rw[<-h];exact hx) y (mI hy)
theorem Ck(hk:kindOf st=κ)(m:MH lt q r s na nb)(ha:1<=na)(aV:na<=q.length)(hb:2<=nb)(dI:nb<=r.length)(fb: ∀y∈q.take na,SL lt y r[nb-1])(hs:S st)(hc:na+nb+c<=q.length+r.length+1)(hy:na+nb+cy<=q.length+r.length+2):
  wpI (model prog w) A E G (NB (q.map it).toArray (r.map it).toArray (s.reverse.map it).toArray na nb mg k bc) (Ml lt it q r c cy S) st:=by
 unfold NB;refine fQ (jv (i:=nb-1) (by lia) ?_);have m2:=m.putB W B (by lia) dI fb;rw[qW];refine gR (fun he=>?_) fun he=>?_
 ·exact fU ⟨hs,.inl ⟨_,_,rfl,yD W H B bot m2 (by simpa using he)⟩⟩
 ·have he:nb-1≠1:=fun z=>he (by simp[z]);have en:(r.drop 0).take (nb-1)=r.take (nb-1):=by rw[xa]
  refine fQ (jv (i:=na-1) (by lia) (fQ (qt W H (B.nq _ (jT _)) B.nr (by lia) (by lia) hk (by rw[en];exact B.sr.sublist (mM _ _)) fun k' k1 k2 k3=>?_)));rw[en] at k2 k3;simp only[gM] at k2 k3
  have m3:=m2.putBs W B (k:=k') k1 fun y hy x hx=>by
   have first:SL lt q[na-1] x:= .inr ⟨k3 x hx,B.ix _ (jT _) _ (mI (lj hx))⟩;rw[jJ ha aV] at hy;rcases nU.mp hy with hy|hy
   ·exact SL.trans W (Fj W B ha aV y hy) first
   ·rw[pA] at hy;subst hy;exact first
  have e2:r.take k'=(r.take (nb-1)).take k':=by rw[rL,sD k1]
  have fa: ∀y∈r.take k',SL lt y q[na-1]:=fun y hy=> .inl (k2 y (by rw[<-e2];exact hy));dsimp only;refine gR (fun hp=>?_) fun hp=>?_
  ·rw[DJ];refine gR (fun hf=>?_) fun hf=>?_
   ·exact fU ⟨hs,.inl ⟨_,_,rfl,yD W H B bot m3 (by simpa using hf)⟩⟩
   ·have hf:k'≠1:=fun z=>hf (by simp[z]);refine gR (fun hg=>?_) fun hg=>?_
    ·exact fU ⟨hs,.inl ⟨_,_,rfl,oj W B m3 (.inr (by simpa using hg))⟩⟩
    ·have hg:k'≠0:=fun z=>hg (by simp[z]);exact zF W H B bot m3 ha aV (by lia) (by lia) fa hs (by lia) (by lia)
  ·have hz:k'=nb-1:=by lia
   subst hz;exact zF W H B bot m2 ha aV (by lia) (by lia) fa hs (by lia) (by lia)
end
theorem OM(W:Wk lt)(H:Ask prog w A E G it κ N lt){q r:hU}(B:Pre lt N q r)(h1:1<=q.length)(h2:1<=r.length)(bot: ∀x∈r.take 1,∀y∈q,SL lt x y)(top: ∀x∈r,SL lt x q[q.length-1]){st:ik}(hk:kindOf st=κ){Q:Array Keyed->SortSt->Prop}
  (h: ∀out b6,Res lt it q r out->Same st b6->Q out b6):wpI (model prog w) A E G (yo (q.map it).toArray (r.map it).toArray) Q st:=by
 have firstB: ∀{s na nb},MH lt q r s na nb->nb=1->Res lt it q r ((r.map it).toArray.extract 0 nb++(q.map it).toArray.extract 0 na++(s.reverse.map it).toArray.reverse):=fun m e=>yD W H B bot m e;rw[E6];dsimp only;have e1:(q.map it).toArray.size=q.length:=sz q it;have e2:(r.map it).toArray.size=r.length:=sz r it;rw[e1,e2];refine fQ (nZ (fQ (jv (i:=q.length-1) (by lia) ?_)))
 have m0:MH lt q r [q[q.length-1]] (q.length-1) r.length:=by
  have:=MH.putA (s:=[]) (na:=q.length) (nb:=r.length) W B ⟨List.Pairwise.nil,fun y hy x hx=>absurd hx kj,by simp⟩ (by lia) (gY _) (fun y hy=>top y (mI hy));exact this
 have e0: #[it q[q.length-1]]=(([q[q.length-1]]:List Nat).reverse.map it).toArray:=rfl;rw[e0];refine gR (fun ag=>?_) fun ag=>?_
 ·exact fU (h _ _ (oj W B m0 (.inl (by simpa using ag))) .refl)
 ·have ag:q.length-1≠0:=fun z=>ag (by simp[z]);refine gR (fun bz=>?_) fun bz=>?_
  ·exact fU (h _ _ (firstB m0 (by simpa using bz)) .refl)
  ·have bz:r.length≠1:=fun z=>bz (by simp[z]);refine fQ (kF ?_)
   refine fQ (ic (ir (I:=fun i c b6=> ∃s na nb mg,c=(none,na,nb,(s.reverse.map it).toArray,mg)/\MH lt q r s na nb/\1<=na/\na<=q.length/\2<=nb/\nb<=r.length/\na+nb+(i+1)<=q.length+r.length/\Same st b6)
    (Q:=fun c b6=> ∃res x,c=(some res,x)/\Res lt it q r res/\Same st b6) ?step ?fin ⟨_,q.length-1,r.length,_,rfl,m0,by lia,by lia,by lia,by lia,by lia,.refl⟩) ?post)
   case post=>
    rintro c b6 ⟨res,x,rfl,hr,hs⟩;exact fU (h res b6 hr hs)
   case fin=>
    rintro c b6 ⟨s,na,nb,mg,rfl,m,b1,b2,b3,b4,b5,hs⟩
    lia
   case step=>
    rintro i c v5 _ _ ⟨s,na,nb,mg,rfl,m,b1,b2,b3,b4,b5,hs⟩;dsimp only
    refine fQ (ic (ir (I:=fun j c b6=>b6=v5/\ ∃s' t9 h9 ac bc,c=(none,t9,h9,(s'.reverse.map it).toArray,ac,bc)/\MH lt q r s' t9 h9/\1<=t9/\t9<=q.length/\2<=h9/\h9<=r.length/\t9+h9+j<=na+nb)
     (Q:=fun c b6=>b6=v5/\((∃res x,c=(some res,x)/\Res lt it q r res)\/ ∃s' t9 h9 ac bc,c=(none,t9,h9,(s'.reverse.map it).toArray,ac,bc)/\MH lt q r s' t9 h9/\1<=t9/\t9<=q.length/\2<=h9/\h9<=r.length/\t9+h9+1<=na+nb)) ?step1 ?fin1 ⟨rfl,s,na,nb,0,0,rfl,m,b1,b2,b3,b4,by lia⟩) ?post1)
    case fin1=>
     rintro c b6 ⟨rfl,s',t9,h9,ac,bc,rfl,m',c1,c2,c3,c4,c5⟩
     lia
    case step1=>
     rintro j c b6 _ _ ⟨rfl,s',t9,h9,ac,bc,rfl,m',c1,c2,c3,c4,c5⟩;dsimp only;refine fQ (jv (i:=h9-1) (by lia) (fQ (jv (i:=t9-1) (by lia) (fQ (xu H (hs.1.trans hk) (B.nr _ (jT _)) (B.nq _ (jT _)) ?_)))));dsimp only
     cases hl:lt r[h9-1] q[t9-1] with
     |true=>
      simp only[gM];refine fQ (jv (i:=t9-1) (by lia) ?_)
      have m2:=m'.putA W B c1 c2 fun y hy=>by
       rw[jJ (show 0<h9 by lia) c4] at hy;rcases nU.mp hy with hy|hy
       ·exact SL.trans W (Fi W B (by lia) c4 y hy) (.inl hl)
       ·rw[pA] at hy;subst hy;exact .inl hl
      rw[qW];refine gR (fun he=>?_) fun he=>?_
      ·exact fU ⟨rfl,.inl ⟨_,_,rfl,oj W B m2 (.inl (by simpa using he))⟩⟩
      ·have:t9-1≠0:=fun z=>he (by simp[z]);refine gR (fun hg=>?_) fun hg=>?_
       ·exact fU ⟨rfl,.inr ⟨_,_,_,_,_,rfl,m2,by lia,by lia,c3,c4,by lia⟩⟩
       ·exact fU ⟨rfl,_,_,_,_,_,rfl,m2,by lia,by lia,c3,c4,by lia⟩
     |false=>
      simp only[hC,iE];refine fQ (jv (i:=h9-1) (by lia) ?_)
      have m2:=m'.putB W B (by lia) c4 fun y hy=>by
       have first:SL lt q[t9-1] r[h9-1]:= .inr ⟨hl,B.ix _ (jT _) _ (jT _)⟩;rw[jJ c1 c2] at hy;rcases nU.mp hy with hy|hy
       ·exact SL.trans W (Fj W B c1 c2 y hy) first
       ·rw[pA] at hy;subst hy;exact first
      rw[qW];refine gR (fun he=>?_) fun he=>?_
      ·exact fU ⟨rfl,.inl ⟨_,_,rfl,firstB m2 (by simpa using he)⟩⟩
      ·have:h9-1≠1:=fun z=>he (by simp[z]);refine gR (fun hg=>?_) fun hg=>?_
       ·exact fU ⟨rfl,.inr ⟨_,_,_,_,_,rfl,m2,c1,c2,by lia,by lia,by lia⟩⟩
       ·exact fU ⟨rfl,_,_,_,_,_,rfl,m2,c1,c2,by lia,by lia,by lia⟩
    case post1=>
     rintro c b6 ⟨rfl,⟨res,x,rfl,hr⟩|⟨s',t9,h9,ac,bc,rfl,m',c1,c2,c3,c4,c5⟩⟩
     ·exact fU ⟨res,_,rfl,hr,hs⟩
     ·dsimp only
      refine fQ (nZ (fQ (ic (ir (I:=fun j c b6=> ∃s2 j6 k7 r9 ac bc,c=(none,j6,k7,(s2.reverse.map it).toArray,r9,ac,bc)/\MH lt q r s2 j6 k7/\1<=j6/\j6<=q.length/\2<=k7/\k7<=r.length/\j6+k7+(i+2+j)<=q.length+r.length/\Same st b6)
       (Q:=fun c b6=>Same st b6/\((∃res x,c=(some res,x)/\Res lt it q r res)\/ ∃s2 j6 k7 r9 ac bc,c=(none,j6,k7,(s2.reverse.map it).toArray,r9,ac,bc)/\MH lt q r s2 j6 k7/\1<=j6/\j6<=q.length/\2<=k7/\k7<=r.length/\j6+k7+(i+2)<=q.length+r.length)) ?step2 ?fin2 ⟨s',t9,h9,_,_,_,rfl,m',c1,c2,c3,c4,by lia,hs⟩) ?post2)))
      case fin2=>
       rintro c b6 ⟨s2,j6,k7,r9,ac,bc,rfl,m2,d1,d2,d3,d4,d5,n5⟩
       lia
      case post2=>
       rintro c b6 ⟨n5,⟨res,x,rfl,hr⟩|⟨s2,j6,k7,r9,ac,bc,rfl,m2,d1,d2,d3,d4,d5⟩⟩
       ·exact fU ⟨res,_,rfl,hr,n5⟩
       ·dsimp only;exact fQ (qr fun l5 m9=>fU ⟨s2,j6,k7,_,rfl,m2,d1,d2,d3,d4,by lia,n5.trans m9⟩)
      case step2=>
       rintro j c g0 _ _ ⟨s2,j6,k7,r9,ac,bc,rfl,m2,d1,d2,d3,d4,d5,n5⟩;dsimp only;have en:(q.drop 0).take j6=q.take j6:=by rw[xa]
       have body: ∀(v9:Nat) (l5:ik),Same st l5->wpI (model prog w) A E G (do
         let y <-elem' (r.map it).toArray (k7-1)
         let x <-kc false y (q.map it).toArray 0 j6 (j6-1)
         match x with
         |some at_=>
          if j6-at_>0 then
           if(at_==0)=true then pure (ForInStep.done (some ((q.map it).toArray.extract 0 at_++(r.map it).toArray.extract 0 k7++((s2.reverse.map it).toArray++((q.map it).toArray.extract at_ j6).reverse).reverse),at_,k7,(s2.reverse.map it).toArray++((q.map it).toArray.extract at_ j6).reverse,v9,j6-at_,bc))
           else NB (q.map it).toArray (r.map it).toArray ((s2.reverse.map it).toArray++((q.map it).toArray.extract at_ j6).reverse) at_ k7 v9 (j6-at_) bc
          else NB (q.map it).toArray (r.map it).toArray (s2.reverse.map it).toArray j6 k7 v9 (j6-at_) bc
         |_=>pure (ForInStep.done (some ((q.map it).toArray.extract 0 j6++(r.map it).toArray.extract 0 k7++(s2.reverse.map it).toArray.reverse),j6,k7,(s2.reverse.map it).toArray,v9,ac,bc))) (Ml lt it q r (i+2) (i+2+(j+1)) (Same st)) l5:=fun v9 l5 m9=>by
        refine fQ (jv (i:=k7-1) (by lia) (fQ (qt W H (B.nr _ (jT _)) B.nq (by lia) (by lia) (m9.1.trans hk) (by rw[en];exact B.sq.sublist (mM _ _)) fun k k1 k2 k3=>?_)));rw[en] at k2 k3;simp only[hC,iE,Bool.not_eq_true',Bool.not_eq_false'] at k2 k3
        have mA:MH lt q r ((q.take j6).drop k++s2) k k7:=m2.putAs W B k1 fun y hy x hx=>by
         have first:SL lt r[k7-1] x:= .inl (k3 x hx);rw[jJ (show 0<k7 by lia) d4] at hy;rcases nU.mp hy with hy|hy
         ·exact SL.trans W (Fi W B (by lia) d4 y hy) first
         ·rw[pA] at hy;subst hy;exact first
        have ek:q.take k=(q.take j6).take k:=by rw[rL,sD k1]
        have fb: ∀y∈q.take k,SL lt y r[k7-1]:=fun y hy=> .inr ⟨k2 y (by rw[<-ek];exact hy),B.ix _ (mI hy) _ (jT _)⟩;dsimp only;refine gR (fun hp=>?_) fun hp=>?_
        ·rw[DJ];refine gR (fun he=>?_) fun he=>?_
         ·exact fU ⟨m9,.inl ⟨_,_,rfl,oj W B mA (.inl (by simpa using he))⟩⟩
         ·have he:k≠0:=fun z=>he (by simp[z]);exact Ck W H B bot (m9.1.trans hk) mA (by lia) (by lia) d3 d4 fb m9 (by lia) (by lia)
        ·have hz:k=j6:=by lia
         subst hz;exact Ck W H B bot (m9.1.trans hk) m2 d1 d2 d3 d4 fb m9 (by lia) (by lia)
       refine gR (fun hm=>?_) fun hm=>?_
       ·refine fQ (qr fun l5 m9=>?_);exact ic (body _ l5 (n5.trans m9)) fun x b6 hx=>by cases x<;>exact hx
       ·refine fQ (qr fun l5 m9=>?_);exact ic (body _ l5 (n5.trans m9)) fun x b6 hx=>by cases x<;>exact hx
end
theorem E7(i:Nat):mergeAt' i=(do
 let s <-get
 let(some (sa,na,power),some (sb,nb,_)):=((pendingOf s)[i]?,(pendingOf s)[i+1]?)|unsupported "internal:list.sort.pending"
 set (setPending s (((pendingOf s).setIfInBounds i (sa,na+nb,power)).eraseIdxIfInBounds (i+1)))
 let some k <-kc false (<-elem' (arrOf s) sb) (arrOf s) sa na 0|return false
 let(sa,na):=(sa+k,na-k)
 if na==0 then return true
 let some nb <-kc true (<-elem' (arrOf s) (sa+na-1)) (arrOf s) sb nb (nb-1)|return false
 if nb==0 then return true
 let x:=(arrOf s).extract sa sb
 let y:=(arrOf s).extract sb (sb+nb)
 let merged <-if na<=nb then yn x y else yo x y
 modify fun s=>setArr s (merged.toList.zipIdx.foldl (fun a (p,j)=>a.setIfInBounds (sa+j) p) (arrOf s))
 return (failedOf (<-get)).isNone):=rfl
def seg(L:hU)(a n:Nat):List Nat:=(L.drop a).take n
section
variable {lt:kL}{p:jD}{a b n m:Nat}{L:hU}
theorem wF(h:a+n<=L.length):(seg L a n).length=n:=by simp[seg];omega
theorem Bg{i:Nat}(hi:i<n):(seg L a n)[i]?=L[a+i]?:=by
 simp only[seg,List.getElem?_take,hi,gM,List.getElem?_drop]
theorem OQ(h:a+n<=p.size):Up lt p a (a+n)↔(seg p.toList a n).Pairwise (SL lt):=by
 have hl:(seg p.toList a n).length=n:=wF (by simpa using h)
 have get: ∀i (hi:i<n),(seg p.toList a n)[i]'(by omega)=P p (a+i):=fun i hi=>by
  have:(seg p.toList a n)[i]?=some (P p (a+i)):=by
   rw[Bg hi];have:=we (p:=p) (i:=a+i) (by omega);simpa using this
  rw[hX (by omega)] at this;exact iq this
 rw[G9];constructor
 ·intro u i j hi hj q9;rw[get i (by omega),get j (by omega)];exact u _ _ (by omega) (by omega) (by omega)
 ·intro u i j h1 h2 h3;have:=u (i-a) (j-a) (by omega) (by omega) (by omega);rw[get _ (by omega),get _ (by omega),show a+(i-a)=i by omega,show a+(j-a)=j by omega] at this;exact this
theorem MB(h:a+n<=p.size)(lo hi:Nat):(∀k,a<=k->k<a+n->lo<=P p k/\P p k<hi)↔ ∀x∈seg p.toList a n,lo<=x/\x<hi:=by
 have hl:(seg p.toList a n).length=n:=wF (by simpa using h)
 have get: ∀i (hi:i<n),(seg p.toList a n)[i]'(by omega)=P p (a+i):=fun i hi=>by
  have:(seg p.toList a n)[i]?=some (P p (a+i)):=by
   rw[Bg hi];have:=we (p:=p) (i:=a+i) (by omega);simpa using this
  rw[hX (by omega)] at this;exact iq this
 constructor
 ·intro u x hx;obtain⟨i,hi,e⟩:=xb hx;rw[<-e,get i (by omega)];exact u _ (by omega) (by omega)
 ·intro u k k1 k2;have:=u _ (jT (l:=seg p.toList a n) (n:=k-a) (by omega));rw[get _ (by omega),show a+(k-a)=k by omega] at this;exact this
theorem rW(h:a+n+m<=L.length):seg L a (n+m)=seg L a n++seg L (a+n) m:=by
 unfold seg;rw[List.take_add,nV]
theorem Lh(h:a+n<=L.length):L=L.take a++(seg L a n++L.drop (a+n)):=by
 unfold seg;rw[show L.drop (a+n)=(L.drop a).drop n by rw[nV],lK,lK]
theorem Dm{α:Type}: ∀(m:List α) (j a:Nat) (L:List α),a+j+m.length<=L.length->((m.zipIdx j).foldl (fun(x:Array α) (p:α×Nat)=>x.setIfInBounds (a+p.2) p.1) L.toArray).toList=L.take (a+j)++(m++L.drop (a+j+m.length))
 |[],j,a,L,h=>by simp
 |x::m,j,a,L,h=>by
  simp only[km] at h;rw[List.zipIdx_cons,List.foldl_cons];dsimp only;rw[List.setIfInBounds_toArray,Dm m (j+1) a (L.set (a+j) x) (by rw[rh];omega)]
  have e1:(L.set (a+j) x).take (a+(j+1))=L.take (a+j)++[x]:=by
   rw[show a+(j+1)=a+j+1 by omega,D0,IV (gY _),pv (by omega)];rfl
  have e2:(L.set (a+j) x).drop (a+(j+1)+m.length)=L.drop (a+(j+1)+m.length):=IU (by omega);rw[e1,e2];simp only[km];rw[show a+j+(m.length+1)=a+(j+1)+m.length by omega,jI,DZ];rfl
end
section
variable {prog:gA}{w:gu}{A:gw}{E:gH}{G:Shared->Prop}{it:mF}{lt:kL}{κ:SortKind}{N:Nat}
theorem BU(hT:T.length=a)(hM:M.length=n):seg (T++(M++D)) a n=M/\(T++(M++D)).take a=T/\(T++(M++D)).drop (a+n)=D:=by
 subst hT hM;refine⟨?_,List.take_left,?_⟩
 ·unfold seg;rw[DY,List.take_left]
 ·rw[<-nV,DY,DY]
def Run(lt:kL)(L:hU)(a n:Nat):Prop:=1<=n/\(seg L a n).Pairwise (SL lt)/\ ∀x∈seg L a n,a<=x/\x<a+n
theorem ON(W:Wk lt)(H:Ask prog w A E G it κ N lt){i sa na sb nb pw cK:Nat}{st:ik}{p:jD}(R:Rp it κ N st p)(e1:(pendingOf st)[i]?=some (sa,na,pw))(e2:(pendingOf st)[i+1]?=some (sb,nb,cK))(hs:sb=sa+na)(hn:sb+nb<=N)(r1:Run lt p.toList sa na)(r2:Run lt p.toList sb nb)
  {Q:Bool->SortSt->Prop}(h: ∀b6 p',Rp it κ N b6 p'->pendingOf b6=((pendingOf st).setIfInBounds i (sa,na+nb,pw)).eraseIdxIfInBounds (i+1)->Run lt p'.toList sa (na+nb)->p'.toList.take sa=p.toList.take sa->p'.toList.drop (sa+(na+nb))=p.toList.drop (sa+(na+nb))->Q true b6):
  wpI (model prog w) A E G (mergeAt' i) Q st:=by
 rw[E7];refine fQ (kF ?_);rw[e1,e2];dsimp only;refine fQ (Mq ?_);rw[R.arr];obtain⟨n1,s1,x1⟩:=r1;obtain⟨n2,s2,x2⟩:=r2;have hL:p.toList.length=N:=by simp[R.size]
 have hp:p=p.toList.toArray:=by simp
 generalize hLL:p.toList=L at*;subst hp;have ea:(L.toArray.map it)=(L.map it).toArray:=by simp
 rw[ea]
 have dJ: ∀y∈L,y<N:=fun y hy=>by
  have:=(N6.mp R.perm).mem_iff.mp (by simpa using hy);simpa using this
 generalize u3:setPending st (((pendingOf st).setIfInBounds i (sa,na+nb,pw)).eraseIdxIfInBounds (i+1))=v5;have aS:kindOf v5=κ:=by rw[<-u3];exact R.kind
 have ag:arrOf v5=(L.map it).toArray:=by rw[<-u3];show arrOf st=_;rw[R.arr,ea]
 have hp1:pendingOf v5=((pendingOf st).setIfInBounds i (sa,na+nb,pw)).eraseIdxIfInBounds (i+1):=by rw[<-u3]
 have eQ:failedOf v5=none:=by rw[<-u3];exact R.ok
 have hlen1:(seg L sa na).length=na:=wF (by lia);have hlen2:(seg L sb nb).length=nb:=wF (by lia);have aN:sb<L.length:=by lia
 have r0:seg L sb nb=L[sb]::seg L (sb+1) (nb-1):=by
  unfold seg;rw[sL aN,show nb=nb-1+1 by lia,IT];rfl
 have key_mem:L[sb]∈seg L sb nb:=by rw[r0];exact iO
 have key_le: ∀z∈seg L sb nb,z=L[sb]\/SL lt L[sb] z:=fun z hz=>by
  rw[r0] at s2 hz;rcases jQ.mp hz with hz|hz
  ·exact .inl hz
  ·exact .inr ((pz.mp s2).1 z hz)
 have idx: ∀y∈seg L sa na,∀z∈seg L sb nb,y<z:=fun y hy z hz=>by
  have:=x1 y hy;have:=x2 z hz;lia
 have up: ∀y∈seg L sa na,lt L[sb] y=false-> ∀z∈seg L sb nb,SL lt y z:=fun y hy hl z hz=>by
  have first:SL lt y L[sb]:= .inr ⟨hl,idx y hy _ key_mem⟩;rcases key_le z hz with rfl|hz
  ·exact first
  ·exact SL.trans W first hz
 refine fQ (jv aN (fQ (qt W H (dJ _ (jT _)) dJ (by lia) (by lia) aS s1 fun k k1 k2 k3=>?_)));dsimp only;change ∀y∈(seg L sa na).take k,_ at k2;change ∀y∈(seg L sa na).drop k,_ at k3;simp only[hC,iE,Bool.not_eq_true',Bool.not_eq_false'] at k2 k3;by_cases hz:(na-k==0)=true
 ·rw[gd hz];have hz:na-k=0:=by simpa using hz
  have k2': ∀y∈seg L sa na,lt L[sb] y=false:=fun y hy=>k2 y (by rw[sH (by lia)];exact hy);refine fU (h v5 L.toArray ⟨by rw[ag,ea],aS,eQ,R.size,R.perm⟩ hp1 ?_ rfl rfl);show Run lt L sa (na+nb);refine⟨by lia,?_,fun x hx=>?_⟩
  ·rw[rW (by lia),<-hs];exact lT.mpr ⟨s1,s2,fun y hy z hz=>up y hy (k2' y hy) z hz⟩
  ·rw[rW (by lia),<-hs] at hx;rcases nU.mp hx with hx|hx
   ·have:=x1 x hx;lia
   ·have:=x2 x hx;lia
 ·rw[gk hz];have hz:na-k≠0:=fun z=>hz (by simp[z]);have aC:sa+k+(na-k)-1<L.length:=by lia
  have i9:(seg L sa na)[na-1]?=some L[sa+k+(na-k)-1]:=by
   rw[Bg (by lia),hX (by lia)]
   congr 2;lia
  have p6:L[sa+k+(na-k)-1]∈(seg L sa na).drop k:=by
   refine uQ (i:=na-1-k) ?_;rw[List.getElem?_drop,show k+(na-1-k)=na-1 by lia];exact i9
  generalize aE:L[sa+k+(na-k)-1]=la at i9 p6
  have le_last: ∀y∈seg L sa na,y=la\/SL lt y la:=fun y hy=>by
   obtain⟨j,hj,e⟩:=xb hy;by_cases eJ:j=na-1
   ·left;subst eJ;rw[hX hj] at i9;rw[<-e];exact iq i9
   ·right;have:=G9.mp s1 j (na-1) hj (by lia) (by lia);rw[hX (by lia)] at i9;rw[e,iq i9] at this;exact this
  have la_seg:la∈seg L sa na:=lj p6;refine fQ (jv aC ?_);rw[aE];refine fQ (qt W H (dJ _ (by rw[<-aE];exact jT _)) dJ (by lia) (by lia) aS s2 fun h9 j1 j2 j3=>?_);dsimp only;change ∀y∈(seg L sb nb).take h9,_ at j2;change ∀y∈(seg L sb nb).drop h9,_ at j3;simp only[gM] at j2 j3;by_cases hy:(h9==0)=true
  ·have hy:h9=0:=by simpa using hy
   subst hy;have:=j3 L[sb] (by rw[xa];exact key_mem);rw[k3 la p6] at this;cases this
  ·rw[gk hy];have hy:h9≠0:=fun z=>hy (by simp[z])
   have ex:(L.map it).toArray.extract (sa+k) sb=(((seg L sa na).drop k).map it).toArray:=by
    simp only[uB,uA,seg,List.drop_take,nV,List.map_take,List.map_drop];rw[show sb-(sa+k)=na-k by lia]
   have ey:(L.map it).toArray.extract sb (sb+h9)=(((seg L sb nb).take h9).map it).toArray:=by
    simp only[uB,uA,seg,rL,List.map_take,List.map_drop];rw[show sb+h9-sb=h9 by lia,sD j1]
   rw[ex,ey];have hq:((seg L sa na).drop k).length=na-k:=by simp[hlen1]
   have hr:((seg L sb nb).take h9).length=h9:=by rw[vQ,hlen2,sD j1]
   have B:Pre lt N ((seg L sa na).drop k) ((seg L sb nb).take h9):=
    ⟨s1.sublist (pj _ _),s2.sublist (mM _ _),fun x hx y hy=>idx x (lj hx) y (mI hy),fun x hx=>by have:=x1 x (lj hx);lia,fun x hx=>by have:=x2 x (mI hx);lia⟩
   have rz:((seg L sb nb).take h9)[0]'(by lia)=L[sb]:=by
    rw[List.getElem_take];have:(seg L sb nb)[0]?=some L[sb]:=by rw[r0];rfl
    rw[hX (by lia)] at this;exact iq this
   have ql:((seg L sa na).drop k)[((seg L sa na).drop k).length-1]'(by lia)=la:=by
    rw[List.getElem_drop];have:(seg L sa na)[k+(((seg L sa na).drop k).length-1)]?=some la:=by rw[hq,show k+(na-k-1)=na-1 by lia];exact i9
    rw[hX (by lia)] at this;exact iq this
   have fin: ∀merged b6,Res lt it ((seg L sa na).drop k) ((seg L sb nb).take h9) merged->Same v5 b6->wpI (model prog w) A E G (do
     modify fun s=>setArr s (List.foldl (fun a x=>a.setIfInBounds (sa+k+x.snd) x.fst) (arrOf s) merged.toList.zipIdx)
     let r <-get
     pure (failedOf r).isNone) Q b6:=fun merged b6 bZ w6=>by
    obtain⟨o,rfl,so,po⟩:=bZ;have ol:o.length=na-k+h9:=by rw[po.length_eq,pq,hq,hr]
    refine fQ (jq (fQ (kF (fU ?_))));have arr':arrOf b6=(L.map it).toArray:=w6.2.1.trans ag
    have c1:L.take (sa+k)=L.take sa++(seg L sa na).take k:=by
     unfold seg;rw[rL,sD k1,<-List.take_add]
    have c2:L.drop (sa+k+o.length)=(seg L sb nb).drop h9++L.drop (sa+(na+nb)):=by
     have e3:L.drop (sa+(na+nb))=(L.drop (sb+h9)).drop (nb-h9):=by rw[nV];congr 1;lia
     rw[ol,show sa+k+(na-k+h9)=sb+h9 by lia,e3];unfold seg;rw[List.drop_take,nV,lK]
    have fold:List.foldl (fun(a:mG) (x:Keyed×Nat)=>a.setIfInBounds (sa+k+x.snd) x.fst) (arrOf b6) (o.map it).toArray.toList.zipIdx=(((L.take sa++(((seg L sa na).take k++(o++(seg L sb nb).drop h9))++L.drop (sa+(na+nb)))):List Nat).toArray).map it:=by
     rw[arr'];apply Array.toList_inj.mp;have:=Dm (o.map it) 0 (sa+k) (L.map it) (by simp only[iG,ol];lia);rw[Nat.add_zero] at this;refine this.trans ?_;simp only[Array.toList_map,iG];rw[<-List.map_take,<-List.map_drop,c1,c2];simp only[vG,jI]
    have hpm:(L.take sa++(((seg L sa na).take k++(o++(seg L sb nb).drop h9))++L.drop (sa+(na+nb)))).Perm L:=by
     have cut:=Lh (L:=L) (a:=sa) (n:=na+nb) (by lia);refine List.Perm.trans ?_ (sG cut.symm);refine sJ _ (uC _ ?_);rw[rW (by lia),<-hs];have e1:=lK k (seg L sa na);have e2:=lK h9 (seg L sb nb);have:((seg L sa na).take k++(o++(seg L sb nb).drop h9)).Perm ((seg L sa na).take k++(((seg L sa na).drop k++(seg L sb nb).take h9)++(seg L sb nb).drop h9)):=sJ _ (uC _ po);refine this.trans (sG ?_);rw[jI,e2,<-jI,e1]
    have eG:((seg L sa na).take k++(o++(seg L sb nb).drop h9)).length=na+nb:=by
     simp only[pq,vQ,List.length_drop,hlen1,hlen2,ol];lia
    have eC:(L.take sa).length=sa:=by simp;lia
    show Q (failedOf b6).isNone _;rw[w6.2.2.2,eQ];refine h _ (L.take sa++(((seg L sa na).take k++(o++(seg L sb nb).drop h9))++L.drop (sa+(na+nb)))).toArray ⟨fold,w6.1.trans aS,w6.2.2.2.trans eQ,by rw[iH,hpm.length_eq,hL],N6.mpr (hpm.trans (N6.mp R.perm))⟩ (w6.2.2.1.trans hp1) ?_ ?_ ?_
    ·have hseg:=(BU (D:=L.drop (sa+(na+nb))) eC eG).1;show Run lt (L.take sa++_) sa (na+nb);unfold Run;rw[hseg];have om: ∀x∈o,x∈(seg L sa na).drop k\/x∈(seg L sb nb).take h9:=fun x hx=>nU.mp (po.mem_iff.mp hx);refine⟨by lia,lT.mpr ⟨s1.sublist (mM _ _),lT.mpr ⟨so,s2.sublist (pj _ _),fun x hx z hz=>?_⟩,fun y hy x hx=>?_⟩,fun x hx=>?_⟩
     ·rcases om x hx with hx|hx
      ·have lz:SL lt la z:= .inr ⟨j3 z hz,idx la la_seg z (lj hz)⟩;rcases le_last x (lj hx) with rfl|hx
       ·exact lz
       ·exact SL.trans W hx lz
      ·have:=s2;rw[<-lK h9 (seg L sb nb),lT] at this;exact this.2.2 x hx z hz
     ·have hyl:=k2 y hy;have hys:=mI hy;rcases nU.mp hx with hx|hx
      ·rcases om x hx with hx|hx
       ·have:=s1;rw[<-lK k (seg L sa na),lT] at this;exact this.2.2 y hy x hx
       ·exact up y hys hyl x (mI hx)
      ·exact up y hys hyl x (lj hx)
     ·have in1:x∈seg L sa na\/x∈seg L sb nb:=by
       rcases nU.mp hx with hx|hx
       ·exact .inl (mI hx)
       ·rcases nU.mp hx with hx|hx
        ·exact(om x hx).imp lj mI
        ·exact .inr (lj hx)
      rcases in1 with hx|hx
      ·have:=x1 x hx;lia
      ·have:=x2 x hx;lia
    ·show(L.take sa++_).take sa=L.take sa;exact(BU eC eG).2.1
    ·show(L.take sa++_).drop (sa+(na+nb))=L.drop (sa+(na+nb));exact(BU eC eG).2.2
   by_cases hle:na-k<=h9
   ·rw[gd hle];refine fQ (OL W H B (by lia) (by lia) (fun y hy=>by rw[rz];exact .inl (k3 y hy)) (fun x hx y hy=>?_) aS fin)
    have:y=la:=by
     have e:((seg L sa na).drop k).drop (((seg L sa na).drop k).length-1)=[la]:=by
      rw[sL (by lia),ql,uH (by lia)]
     rw[e] at hy;exact pA.mp hy
    subst this;exact .inl (j2 x hx)
   ·rw[gk hle];refine fQ (OM W H B (by lia) (by lia) (fun x hx y hy=>?_) (fun x hx=>by rw[ql];exact .inl (j2 x hx)) aS fin)
    have:x=L[sb]:=by
     have e:((seg L sb nb).take h9).take 1=[L[sb]]:=by
      rw[r0,show h9=h9-1+1 by lia,IT];rfl
     rw[e] at hx;exact pA.mp hx
    subst this;exact .inl (k3 y hy)
def Chain(lt:kL)(L:hU):Nat->List (Nat×Nat×Nat)->Nat->Prop
 |a,[],b=>a=b
 |a,(s,n,_)::r,b=>s=a/\Run lt L a n/\Chain lt L (a+n) r b
theorem Chain.le{L:hU}: ∀{l:List (Nat×Nat×Nat)} {a b:Nat},Chain lt L a l b->a+l.length<=b
 |[],a,b,h=>by have:a=b:=h;simp;omega
 |(s,n,x)::r,a,b,h=>by
  obtain⟨_,r1,h2⟩:=h;have:=Chain.le h2;have:=r1.1;simp only[km];omega
theorem J6(h:Run lt L a n)(hc:a+n<=c)(e:L'.take c=L.take c):Run lt L' a n:=by
 have:seg L' a n=seg L a n:=by
  have q: ∀X:List Nat,seg X a n=seg (X.take c) a n:=fun X=>by
   unfold seg;rw[List.drop_take,rL,sD (by omega)]
  rw[q L',q L,e]
 unfold Run;rw[this];exact h
theorem xY(h:Run lt L a n)(hc:c<=a)(e:L'.drop c=L.drop c):Run lt L' a n:=by
 have:seg L' a n=seg L a n:=by
  have q: ∀X:List Nat,seg X a n=seg (X.drop c) (a-c) n:=fun X=>by
   unfold seg;rw[nV,show c+(a-c)=a by omega]
  rw[q L',q L,e]
 unfold Run;rw[this];exact h
theorem Chain.take{L L':hU}{c:Nat}(e:L'.take c=L.take c): ∀{l:List (Nat×Nat×Nat)} {a b:Nat},Chain lt L a l b->b<=c->Chain lt L' a l b
 |[],a,b,h,_=>h
 |(s,n,x)::r,a,b,h,hc=>by
  obtain⟨h1,h2,h3⟩:=h;have:=Chain.le h3;exact⟨h1,J6 h2 (by omega) e,Chain.take e h3 hc⟩
theorem Chain.drop{L L':hU}{c:Nat}(e:L'.drop c=L.drop c): ∀{l:List (Nat×Nat×Nat)} {a b:Nat},Chain lt L a l b->c<=a->Chain lt L' a l b
 |[],a,b,h,_=>h
 |(s,n,x)::r,a,b,h,hc=>by
  obtain⟨h1,h2,h3⟩:=h;exact⟨h1,xY h2 hc e,Chain.drop e h3 (by omega)⟩
theorem Chain.append{L:hU}: ∀{l m:List (Nat×Nat×Nat)} {a b:Nat},Chain lt L a (l++m) b↔ ∃c,Chain lt L a l c/\Chain lt L c m b
 |[],m,a,b=>⟨fun h=>⟨a,rfl,h⟩,fun⟨c,h1,h2⟩=>by have:a=c:=h1;subst this;exact h2⟩
 |(s,n,x)::r,m,a,b=>by
  constructor
  ·rintro⟨h1,h2,h3⟩;obtain⟨c,h4,h5⟩:=Chain.append.mp h3;exact⟨c,⟨h1,h2,h4⟩,h5⟩
  ·rintro⟨c,⟨h1,h2,h4⟩,h5⟩;exact⟨h1,h2,Chain.append.mpr ⟨c,h4,h5⟩⟩
theorem uU(W:Wk lt)(H:Ask prog w A E G it κ N lt){i lo:Nat}{st:ik}{p:jD}(R:Rp it κ N st p)(ch:Chain lt p.toList 0 (pendingOf st).toList lo)(hlo:lo<=N)(hi:i+1<(pendingOf st).size){Q:Bool->SortSt->Prop}
  (h: ∀b6 p',Rp it κ N b6 p'->Chain lt p'.toList 0 (pendingOf b6).toList lo->(pendingOf b6).size+1=(pendingOf st).size->p'.toList.drop lo=p.toList.drop lo->Q true b6):wpI (model prog w) A E G (mergeAt' i) Q st:=by
 obtain⟨⟨sa,na,pw⟩,e1⟩: ∃x,(pendingOf st)[i]?=some x:=⟨_,DX (by omega)⟩
 obtain⟨⟨sb,nb,cK⟩,e2⟩: ∃x,(pendingOf st)[i+1]?=some x:=⟨_,DX hi⟩
 have f1:(pendingOf st).toList[i]?=some (sa,na,pw):=by simpa using e1
 have f2:(pendingOf st).toList[i+1]?=some (sb,nb,cK):=by simpa using e2
 have hl:(pendingOf st).toList.length=(pendingOf st).size:=by simp
 have cut:(pendingOf st).toList=(pendingOf st).toList.take i++((sa,na,pw)::(sb,nb,cK)::(pendingOf st).toList.drop (i+2)):=by
  have a1:(pendingOf st).toList.drop i=(sa,na,pw)::(pendingOf st).toList.drop (i+1):=by
   rw[sL (by omega)];rw[hX (by omega)] at f1;rw[iq f1]
  have a2:(pendingOf st).toList.drop (i+1)=(sb,nb,cK)::(pendingOf st).toList.drop (i+2):=by
   rw[sL (by omega)];rw[hX (by omega)] at f2;rw[iq f2]
  rw[<-a2,<-a1,lK]
 rw[cut] at ch;obtain⟨c,c1,c2⟩:=Chain.append.mp ch;obtain⟨rfl,r1,rfl,r2,c3⟩:=c2;have le3:=Chain.le c3;refine ON W H R e1 e2 rfl (by omega) r1 r2 fun b6 p' R' ep rn et ed=>?_
 have lst:(pendingOf b6).toList=(pendingOf st).toList.take i++((sa,na+nb,pw)::(pendingOf st).toList.drop (i+2)):=by
  rw[ep];have hx:i+1<((pendingOf st).setIfInBounds i (sa,na+nb,pw)).size:=by simpa using hi
  rw[Array.eraseIdxIfInBounds,dif_pos hx]
  have: ∀(l:List (Nat×Nat×Nat)) (z:Nat×Nat×Nat),i+1<l.length->(l.set i z).eraseIdx (i+1)=l.take i++(z::l.drop (i+2)):=fun l z hz=>by
   rw[IS];rw[show i+1+1=i+2 from rfl,IU (by omega),D0,IV (gY _),pv (by omega)];simp
  have q:=this (pendingOf st).toList (sa,na+nb,pw) (by omega);simpa using q
 refine h b6 p' R' ?_ ?_ ?_
 ·rw[lst];refine Chain.append.mpr ⟨sa,Chain.take et c1 (gY _),rfl,rn,?_⟩;rw[<-Nat.add_assoc];exact Chain.drop ed c3 (by omega)
 ·have:=nY List.length lst;simp only[mf,pq,vQ,km,List.length_drop] at this;omega
 ·have q: ∀X:List Nat,X.drop lo=(X.drop (sa+(na+nb))).drop (lo-(sa+(na+nb))):=fun X=>by rw[nV];congr 1;omega
  rw[q,q p.toList,ed]
theorem Hd{p p':jD}{lo:Nat}(hs:p'.size=p.size)(h: ∀k,k<lo->P p' k=P p k):p'.toList.take lo=p.toList.take lo:=by
 apply rP;intro k;rw[List.getElem?_take,List.getElem?_take];split
 ·rename_i hk;by_cases hz:k<p.size
  ·have a:=we (p:=p) hz;have b:=we (p:=p') (by rw[hs];exact hz);have a':p.toList[k]?=some (P p k):=by simpa using a
   have b':p'.toList[k]?=some (P p' k):=by simpa using b
   rw[a',b',h k hk]
  ·rw[AU (by simp;omega),AU (by simp;omega)]
 ·rfl
theorem GK{p p':jD}{lo n:Nat}(hs:p'.size=p.size)(e:p'.toList.drop lo=p.toList.drop lo)(h: ∀k,lo+n<=k->k<p.size->P p k=k): ∀k,lo+n<=k->k<p'.size->P p' k=k:=fun k k1 k2=>by
 have a:=we (p:=p) (i:=k) (by omega);have b:=we (p:=p') k2;have a':p.toList[k]?=some (P p k):=by simpa using a
 have b':p'.toList[k]?=some (P p' k):=by simpa using b
 have q: ∀X:List Nat,X[k]?=(X.drop lo)[k-lo]?:=fun X=>by rw[List.getElem?_drop,show lo+(k-lo)=k by omega]
 rw[q,e,<-q,a'] at b';rw[<-iq b'];exact h k k1 (by omega)
theorem NI{c:Prop}[Decidable c]{a b m:Nat}(ha:a<=m)(hb:b<=m):(if c then a else b)<=m:=by
 by_cases h:c
 ·rw[gd h];exact ha
 ·rw[gk h];exact hb
structure Mid(it:mF)(lt:kL)(κ:SortKind)(N lo:Nat)(st:ik)(p:jD):Prop where
 R:Rp it κ N st p
 ch:Chain lt p.toList 0 (pendingOf st).toList lo
 le:lo<=N
 fx: ∀k,lo<=k->k<N->P p k=k
structure Mid2(it:mF)(lt:kL)(κ:SortKind)(N lo n:Nat)(st:ik)(p:jD):Prop where
 R:Rp it κ N st p
 ch:Chain lt p.toList 0 (pendingOf st).toList lo
 le:lo+n<=N
 fx: ∀k,lo+n<=k->k<N->P p k=k
 rn:Run lt p.toList lo n
theorem Mid2.of{lo n:Nat}{aL st:ik}{p0 p:jD}(M:Mid it lt κ N lo aL p0)(R:Rp it κ N st p)(e:pendingOf st=pendingOf aL)(h1:1<=n)(h2:lo+n<=N)(f: ∀k,k<lo->P p k=P p0 k)(fx: ∀k,lo+n<=k->k<N->P p k=k)(rg:Reg p lo (lo+n))(up:Up lt p lo (lo+n)):Mid2 it lt κ N lo n st p:=by
 have hz:lo+n<=p.size:=by rw[R.size];exact h2
 refine⟨R,?_,h2,fx,h1,(OQ hz).mp up,(MB hz lo (lo+n)).mp rg⟩;rw[e];exact Chain.take (Hd (by rw[R.size,M.R.size]) f) M.ch (gY _)
theorem Mid2.push{lo n pw:Nat}{st:ik}{p:jD}(M:Mid2 it lt κ N lo n st p):Mid it lt κ N (lo+n) (setPending st ((pendingOf st).push (lo,n,pw))) p:=by
 refine⟨⟨M.R.arr,M.R.kind,M.R.ok,M.R.size,M.R.perm⟩,?_,M.le,M.fx⟩;show Chain lt p.toList 0 ((pendingOf st).push (lo,n,pw)).toList (lo+n);rw[Array.toList_push];exact Chain.append.mpr ⟨lo,M.ch,rfl,M.rn,rfl⟩
theorem Dz{L:hU}{f:Nat×Nat×Nat->Nat×Nat×Nat}(hf: ∀x,(f x).1=x.1/\(f x).2.1=x.2.1): ∀{l:List (Nat×Nat×Nat)} {a b:Nat} (i:Nat),Chain lt L a l b->Chain lt L a (l.modify i f) b
 |[],a,b,i,h=>by cases i<;>exact h
 |(s,n,x)::r,a,b,0,h=>by
  obtain⟨h1,h2,h3⟩:=h;have e:=hf (s,n,x);show Chain lt L a (f (s,n,x)::r) b;rcases hq:f (s,n,x) with⟨s',n',x'⟩
  rw[hq] at e;obtain⟨rfl,rfl⟩:=e;exact⟨h1,h2,h3⟩
 |(s,n,x)::r,a,b,i+1,h=>by
  obtain⟨h1,h2,h3⟩:=h;exact⟨h1,h2,Dz hf i h3⟩
theorem Mid2.pw{lo n pw i:Nat}{st:ik}{p:jD}(M:Mid2 it lt κ N lo n st p):Mid2 it lt κ N lo n (setPending st ((pendingOf st).modify i fun x=>(x.fst,x.2.fst,pw))) p:=by
 refine⟨⟨M.R.arr,M.R.kind,M.R.ok,M.R.size,M.R.perm⟩,?_,M.le,M.fx,M.rn⟩;show Chain lt p.toList 0 ((pendingOf st).modify i fun x=>(x.fst,x.2.fst,pw)).toList lo;rw[Array.toList_modify];exact Dz (f:=fun x=>(x.fst,x.2.fst,pw)) (fun x=>⟨rfl,rfl⟩) i M.ch
theorem Ju(W:Wk lt)(H:Ask prog w A E G it κ N lt)(h2:1<=N){st:ik}{p:jD}(R:Rp it κ N st p)(e0:pendingOf st= #[])(fx0: ∀k,k<N->P p k=k){Q:Unit->SortSt->Prop}
  (h: ∀b6 p',Rp it κ N b6 p'->p'.toList.Pairwise (SL lt)->Q () b6):wpI (model prog w) A E G sortRuns' Q st:=by
 rw[sortRuns'_eq];refine fQ (kF ?_);dsimp only;have hz:(arrOf st).size=N:=by rw[R.arr,DW,R.size]
 rw[hz];generalize hmr:minRun' N N 0=mr;have m0:Mid it lt κ N 0 st p:=⟨R,by rw[e0];rfl,mJ _,fun k _ k2=>fx0 k k2⟩
 refine fQ (ic (ir (I:=fun x c b6=> ∃lo p',c=(none,lo)/\x<=lo/\Mid it lt κ N lo b6 p') (Q:=fun c b6=> ∃p',c=(none,N)/\Mid it lt κ N N b6 p') ?step ?fin ⟨0,p,rfl,gY _,m0⟩) ?post)
 case fin=>
  rintro c b6 ⟨lo,p',rfl,hx,M⟩;have:=M.le;have:lo=N:=by omega
  subst this;exact⟨p',rfl,M⟩
 case step=>
  rintro x c b6 _ hx ⟨lo,p',rfl,hlo,M⟩;dsimp only;by_cases eM:lo>=N
  ·rw[gd eM];have:=M.le;have:lo=N:=by omega
   subst this;exact fU ⟨p',rfl,M⟩
  ·rw[gk eM];refine fQ (Ha W H (by omega) (by omega) M.R M.fx fun n g0 p2 R2 e2 n1 n2 f2 fx2 rg2 up2=>?_);dsimp only;by_cases n9:n<mr
   ·rw[gd n9];refine fQ (nZ (fQ (Mr W H n1 (by omega) (by omega) R2 fx2 rg2 up2 fun l5 p3 R3 e3 f3 fx3 rg3 up3=>?_)));simp only[uE,hC,iE];have M3:Mid2 it lt κ N lo (min (N-lo) mr) l5 p3:=Mid2.of M R3 (e3.trans e2) (by omega) (by omega) (fun k hk=>(f3 k hk).trans (f2 k hk)) fx3 rg3 up3;have hn1:1<=min (N-lo) mr:=by omega
    generalize min (N-lo) mr=n' at*;refine fQ (kF ?_)
    cases hb:(pendingOf l5).back? with
    |none=>
     dsimp only;exact fQ (jq (fU ⟨lo+n',p3,rfl,by omega,M3.push⟩))
    |some x1=>
     obtain⟨s1,m1,y1⟩:=x1;dsimp only;generalize power' N (2*s1+m1) (2*s1+m1+m1+n') N=pw;refine fQ (ic (ir (I:=fun x c o8=>c=(none,())/\ ∃p4,Mid2 it lt κ N lo n' o8 p4) (Q:=fun c o8=>c=(none,())/\ ∃p4,Mid2 it lt κ N lo n' o8 p4) ?_ (fun _ _ q=>q) ⟨rfl,p3,M3⟩) ?_)
     ·rintro y c o8 _ _ ⟨rfl,p4,M4⟩;refine fQ (kF ?_);by_cases h1:(pendingOf o8).size>1
      ·rw[gd h1]
       cases hc:(pendingOf o8)[(pendingOf o8).size-2]? with
       |none=>dsimp only;exact fU ⟨rfl,p4,M4⟩
       |some z=>
        obtain⟨z1,z2,ay⟩:=z;dsimp only;by_cases ho:ay<=pw
        ·rw[gd ho];exact fU ⟨rfl,p4,M4⟩
        ·rw[gk ho];refine fQ (uU W H M4.R M4.ch (by have:=M4.le;omega) (by omega) fun aW p5 R5 fB _ cZ=>?_);simp only[uE,hC,iE];refine fU ⟨rfl,p5,R5,fB,M4.le,?_,xY M4.rn (gY _) cZ⟩;have:=GK (p:=p4) (p':=p5) (lo:=lo) (n:=n') (by rw[R5.size,M4.R.size]) cZ (by rw[M4.R.size];exact M4.fx);rw[R5.size] at this;exact this
      ·rw[gk h1];dsimp only;exact fU ⟨rfl,p4,M4⟩
     ·rintro c o8 ⟨rfl,p4,M4⟩;dsimp only;exact fQ (jq (fQ (jq (fU ⟨lo+n',p4,rfl,by omega,(M4.pw).push⟩))))
   ·rw[gk n9];have M3:Mid2 it lt κ N lo n g0 p2:=Mid2.of M R2 e2 n1 (by omega) f2 fx2 rg2 up2;have hn1:=n1;generalize n=n' at*;generalize g0=l5 at*;generalize p2=p3 at*;refine fQ (kF ?_)
    cases hb:(pendingOf l5).back? with
    |none=>
     dsimp only;exact fQ (jq (fU ⟨lo+n',p3,rfl,by omega,M3.push⟩))
    |some x1=>
     obtain⟨s1,m1,y1⟩:=x1;dsimp only;generalize power' N (2*s1+m1) (2*s1+m1+m1+n') N=pw;refine fQ (ic (ir (I:=fun x c o8=>c=(none,())/\ ∃p4,Mid2 it lt κ N lo n' o8 p4) (Q:=fun c o8=>c=(none,())/\ ∃p4,Mid2 it lt κ N lo n' o8 p4) ?_ (fun _ _ q=>q) ⟨rfl,p3,M3⟩) ?_)
     ·rintro y c o8 _ _ ⟨rfl,p4,M4⟩;refine fQ (kF ?_);by_cases h1:(pendingOf o8).size>1
      ·rw[gd h1]
       cases hc:(pendingOf o8)[(pendingOf o8).size-2]? with
       |none=>dsimp only;exact fU ⟨rfl,p4,M4⟩
       |some z=>
        obtain⟨z1,z2,ay⟩:=z;dsimp only;by_cases ho:ay<=pw
        ·rw[gd ho];exact fU ⟨rfl,p4,M4⟩
        ·rw[gk ho];refine fQ (uU W H M4.R M4.ch (by have:=M4.le;omega) (by omega) fun aW p5 R5 fB _ cZ=>?_);simp only[uE,hC,iE];refine fU ⟨rfl,p5,R5,fB,M4.le,?_,xY M4.rn (gY _) cZ⟩;have:=GK (p:=p4) (p':=p5) (lo:=lo) (n:=n') (by rw[R5.size,M4.R.size]) cZ (by rw[M4.R.size];exact M4.fx);rw[R5.size] at this;exact this
      ·rw[gk h1];dsimp only;exact fU ⟨rfl,p4,M4⟩
     ·rintro c o8 ⟨rfl,p4,M4⟩;dsimp only;exact fQ (jq (fQ (jq (fU ⟨lo+n',p4,rfl,by omega,(M4.pw).push⟩))))
 case post=>
  rintro c b6 ⟨p',rfl,M⟩;dsimp only;refine fQ (ic (ir (I:=fun x c g0=> ∃p2,c=(none,())/\Mid it lt κ N N g0 p2/\(pendingOf g0).size<=max 1 (N-x)) (Q:=fun c g0=> ∃p2,c=(none,())/\Mid it lt κ N N g0 p2/\(pendingOf g0).size<=1) ?step2 ?fin2 ⟨p',rfl,M,?init⟩) ?post2)
  case init=>
   have:=M.ch.le;simp only[mf] at this;omega
  case fin2=>
   rintro c g0 ⟨p2,rfl,M2,hs⟩;exact⟨p2,rfl,M2,by omega⟩
  case post2=>
   rintro c g0 ⟨p2,rfl,M2,hs⟩;refine fU (h g0 p2 M2.R ?_);have ch:=M2.ch;have hl:p2.toList.length=N:=by simp[M2.R.size]
   match hq:(pendingOf g0).toList,ch with
   |[],ch=>have:0=N:=ch;omega
   |[(s,n,pw)],ch=>
    obtain⟨rfl,r,e⟩:=ch;have e:0+n=N:=e;have:seg p2.toList 0 n=p2.toList:=by unfold seg;rw[xa,sH (by omega)]
    have q:=r.2.1
    rwa [this] at q
   |_::_::_,ch=>
    have:(pendingOf g0).toList.length<=1:=by simpa using hs
    rw[hq] at this;simp at this
  case step2=>
   rintro x c g0 _ hx ⟨p2,rfl,M2,hs⟩;refine fQ (kF ?_);by_cases h1:(pendingOf g0).size<=1
   ·rw[gd h1];exact fU ⟨p2,rfl,M2,h1⟩
   ·rw[gk h1];refine fQ (uU W H M2.R M2.ch (gY _) ?_ fun l5 p3 R3 ch3 sz3 dr3=>?_)
    ·exact Nat.lt_of_le_of_lt (Nat.add_le_add_right (NI (m:=(pendingOf g0).size-2) (by omega) (gY _)) 1) (by omega)
    ·simp only[uE,hC,iE];exact fU ⟨p3,rfl,⟨R3,ch3,gY _,fun k k1 k2=>by omega⟩,by omega⟩
end
end TS
namespace PX
open PySem PySem.Spec PyProof.Rows L2 PySem.SeqAt
open PySem.AutoSeq1 (wpAny_loadPart')
open PySem.MeetsSeq PySem.MeetsSeq2 PySem.MeetsSeq3
def iX(op:CmpOp)(i j:Int):Bool:=match op with
 | .Lt=>decide (i<j)| .LtE=>decide (i<=j)| .Gt=>decide (i>j)|_=>decide (i>=j)
def oy(op:CmpOp):Prop:=op= .Lt\/op= .LtE\/op= .Gt\/op= .GtE
def N4(op:CmpOp)(A:gw)(s:fW)(y x:gg)(b:Bool):Prop:= ∀(prog:gA) (w:gu) (E:gH) (Q:gH),Q (.bool b) s->wpAny (model prog w) A (richCompare op y x) Q E s
def yX(op:CmpOp)(A:gw)(s:fW)(fin:Bool):List (Value×Value)->Bool->Prop
 |[],r=>r=fin
 |(y,x)::gL,r=> ∃e,EqAt A s y x e/\(if e=true then yX op A s fin gL r else N4 op A s y x r)
theorem JE(l b:fR)(items b8:jz)(n n2:Nat)(dd u6:Option Addr)(sl u4:vE)(r:Bool):
  Meets (Builtin.«tuple.__lt__» ⟨[.ref l,.ref b],[]⟩) (fun A R s=>s.heap.get? l=some {cls:= .type "tuple",dict:=dd,data:= .seq items n,slots:=sl}/\s.heap.get? b=some {cls:= .type "tuple",dict:=u6,data:= .seq b8 n2,slots:=u4}/\
   yX .Lt A.in1 s (iX .Lt items.size b8.size) (items.toList.zip b8.toList) r/\R (.ok (.ret (.bool r))) s):=
 .of_wp fun prog w A R s h=>by
  obtain⟨hp,g,d,tk,os⟩:=s;obtain⟨hl,hb,hx,h⟩:=h;have f2:=AG
  wp_walk using wpAny_loadPart' hl,wpAny_loadPart' hb,AF _ (fun gL b s'=>b.1=none/\s'=⟨hp,g,d,tk,os⟩/\yX .Lt A.in1 ⟨hp,g,d,tk,os⟩ (iX .Lt items.size b8.size) gL r) _
  case turn=>
   rintro⟨y,x⟩ gL b s' ⟨r6,rfl,e,he,hx⟩;refine fS (he prog w _ _ ?_)
   cases e with
   |true=>
    simp only[gM] at hx
    wp_walk
    exact⟨rfl,rfl,hx⟩
   |false=>
    simp only[hC,iE] at hx;have bY:=hx prog w
    wp_walk using bY
    exact⟨_,rfl,by simpa using h⟩
  case fin=>
   rintro⟨b1,b2⟩ s' ⟨r6,rfl,hx⟩;simp only at r6;subst r6;have hx:r=iX .Lt items.size b8.size:=hx;rw[hx] at h
   wp_walk
   exact⟨_,rfl,by simpa[Builtin.Tuple.tupleCompareSizes,iX] using h⟩
  case h=>exact⟨rfl,rfl,hx⟩
theorem JF(l b:fR)(items b8:jz)(n n2:Nat)(dd u6:Option Addr)(sl u4:vE)(r:Bool):
  Meets (Builtin.«tuple.__le__» ⟨[.ref l,.ref b],[]⟩) (fun A R s=>s.heap.get? l=some {cls:= .type "tuple",dict:=dd,data:= .seq items n,slots:=sl}/\s.heap.get? b=some {cls:= .type "tuple",dict:=u6,data:= .seq b8 n2,slots:=u4}/\
   yX .LtE A.in1 s (iX .LtE items.size b8.size) (items.toList.zip b8.toList) r/\R (.ok (.ret (.bool r))) s):=
 .of_wp fun prog w A R s h=>by
  obtain⟨hp,g,d,tk,os⟩:=s;obtain⟨hl,hb,hx,h⟩:=h;have f2:=AG
  wp_walk using wpAny_loadPart' hl,wpAny_loadPart' hb,AF _ (fun gL b s'=>b.1=none/\s'=⟨hp,g,d,tk,os⟩/\yX .LtE A.in1 ⟨hp,g,d,tk,os⟩ (iX .LtE items.size b8.size) gL r) _
  case turn=>
   rintro⟨y,x⟩ gL b s' ⟨r6,rfl,e,he,hx⟩;refine fS (he prog w _ _ ?_)
   cases e with
   |true=>
    simp only[gM] at hx
    wp_walk
    exact⟨rfl,rfl,hx⟩
   |false=>
    simp only[hC,iE] at hx;have bY:=hx prog w
    wp_walk using bY
    exact⟨_,rfl,by simpa using h⟩
  case fin=>
   rintro⟨b1,b2⟩ s' ⟨r6,rfl,hx⟩;simp only at r6;subst r6;have hx:r=iX .LtE items.size b8.size:=hx;rw[hx] at h
   wp_walk
   exact⟨_,rfl,by simpa[Builtin.Tuple.tupleCompareSizes,iX] using h⟩
  case h=>exact⟨rfl,rfl,hx⟩
theorem JG(l b:fR)(items b8:jz)(n n2:Nat)(dd u6:Option Addr)(sl u4:vE)(r:Bool):
  Meets (Builtin.«tuple.__gt__» ⟨[.ref l,.ref b],[]⟩) (fun A R s=>s.heap.get? l=some {cls:= .type "tuple",dict:=dd,data:= .seq items n,slots:=sl}/\s.heap.get? b=some {cls:= .type "tuple",dict:=u6,data:= .seq b8 n2,slots:=u4}/\
   yX .Gt A.in1 s (iX .Gt items.size b8.size) (items.toList.zip b8.toList) r/\R (.ok (.ret (.bool r))) s):=
 .of_wp fun prog w A R s h=>by
  obtain⟨hp,g,d,tk,os⟩:=s;obtain⟨hl,hb,hx,h⟩:=h;have f2:=AG
  wp_walk using wpAny_loadPart' hl,wpAny_loadPart' hb,AF _ (fun gL b s'=>b.1=none/\s'=⟨hp,g,d,tk,os⟩/\yX .Gt A.in1 ⟨hp,g,d,tk,os⟩ (iX .Gt items.size b8.size) gL r) _
  case turn=>
   rintro⟨y,x⟩ gL b s' ⟨r6,rfl,e,he,hx⟩;refine fS (he prog w _ _ ?_)
   cases e with
   |true=>
    simp only[gM] at hx
    wp_walk
    exact⟨rfl,rfl,hx⟩
   |false=>
    simp only[hC,iE] at hx;have bY:=hx prog w
    wp_walk using bY
    exact⟨_,rfl,by simpa using h⟩
  case fin=>
   rintro⟨b1,b2⟩ s' ⟨r6,rfl,hx⟩;simp only at r6;subst r6;have hx:r=iX .Gt items.size b8.size:=hx;rw[hx] at h
   wp_walk
   exact⟨_,rfl,by simpa[Builtin.Tuple.tupleCompareSizes,iX] using h⟩
  case h=>exact⟨rfl,rfl,hx⟩
theorem JH(l b:fR)(items b8:jz)(n n2:Nat)(dd u6:Option Addr)(sl u4:vE)(r:Bool):
  Meets (Builtin.«tuple.__ge__» ⟨[.ref l,.ref b],[]⟩) (fun A R s=>s.heap.get? l=some {cls:= .type "tuple",dict:=dd,data:= .seq items n,slots:=sl}/\s.heap.get? b=some {cls:= .type "tuple",dict:=u6,data:= .seq b8 n2,slots:=u4}/\
   yX .GtE A.in1 s (iX .GtE items.size b8.size) (items.toList.zip b8.toList) r/\R (.ok (.ret (.bool r))) s):=
 .of_wp fun prog w A R s h=>by
  obtain⟨hp,g,d,tk,os⟩:=s;obtain⟨hl,hb,hx,h⟩:=h;have f2:=AG
  wp_walk using wpAny_loadPart' hl,wpAny_loadPart' hb,AF _ (fun gL b s'=>b.1=none/\s'=⟨hp,g,d,tk,os⟩/\yX .GtE A.in1 ⟨hp,g,d,tk,os⟩ (iX .GtE items.size b8.size) gL r) _
  case turn=>
   rintro⟨y,x⟩ gL b s' ⟨r6,rfl,e,he,hx⟩;refine fS (he prog w _ _ ?_)
   cases e with
   |true=>
    simp only[gM] at hx
    wp_walk
    exact⟨rfl,rfl,hx⟩
   |false=>
    simp only[hC,iE] at hx;have bY:=hx prog w
    wp_walk using bY
    exact⟨_,rfl,by simpa using h⟩
  case fin=>
   rintro⟨b1,b2⟩ s' ⟨r6,rfl,hx⟩;simp only at r6;subst r6;have hx:r=iX .GtE items.size b8.size:=hx;rw[hx] at h
   wp_walk
   exact⟨_,rfl,by simpa[Builtin.Tuple.tupleCompareSizes,iX] using h⟩
  case h=>exact⟨rfl,rfl,hx⟩
section
variable {A:gw}{s:fW}{l b:fR}{items b8:jz}{r:Bool}
theorem Kb(ho:oy op)(hl:s.heap.IsTuple l items)(hb:s.heap.IsTuple b b8)(hu:A.units<cLine)(hx:yX op A.in1 s (iX op items.size b8.size) (items.toList.zip b8.toList) r):N4 op A s (.ref l) (.ref b) r:=fun prog w E Q h=>by
 obtain⟨⟨cls,dd,data,sl⟩,y6,hc,n,hd⟩:=id hl;obtain⟨⟨cw,u6,data2,u4⟩,s9,aH,n2,hd2⟩:=id hb;simp only at hc hd aH hd2;subst hc hd aH hd2;rcases ho with rfl|rfl|rfl|rfl
 ·exact AE (op:= .Lt) ⟨_,y6,rfl⟩ ⟨_,s9,rfl⟩ PySem.F.slot_tuple_lt PySem.F.entry_tuple_lt (PySem.F.args_tuple_lt_2 _ _) (JE l b items b8 n n2 dd u6 sl u4 r) ⟨y6,s9,hx,show Value.bool r≠Value.notImplemented/\Q (.bool r) s from⟨(fun x=>nomatch x),h⟩⟩ hu
 ·exact AE (op:= .LtE) ⟨_,y6,rfl⟩ ⟨_,s9,rfl⟩ PySem.F.slot_tuple_le PySem.F.entry_tuple_le (PySem.F.args_tuple_le_2 _ _) (JF l b items b8 n n2 dd u6 sl u4 r) ⟨y6,s9,hx,show Value.bool r≠Value.notImplemented/\Q (.bool r) s from⟨(fun x=>nomatch x),h⟩⟩ hu
 ·exact AE (op:= .Gt) ⟨_,y6,rfl⟩ ⟨_,s9,rfl⟩ PySem.F.slot_tuple_gt PySem.F.entry_tuple_gt (PySem.F.args_tuple_gt_2 _ _) (JG l b items b8 n n2 dd u6 sl u4 r) ⟨y6,s9,hx,show Value.bool r≠Value.notImplemented/\Q (.bool r) s from⟨(fun x=>nomatch x),h⟩⟩ hu
 ·exact AE (op:= .GtE) ⟨_,y6,rfl⟩ ⟨_,s9,rfl⟩ PySem.F.slot_tuple_ge PySem.F.entry_tuple_ge (PySem.F.args_tuple_ge_2 _ _) (JH l b items b8 n n2 dd u6 sl u4 r) ⟨y6,s9,hx,show Value.bool r≠Value.notImplemented/\Q (.bool r) s from⟨(fun x=>nomatch x),h⟩⟩ hu
end
mutual
def lg(op:CmpOp):D->D->Option Bool
 | .int i,.int j=>some (iX op i j)
 | .tup l,.tup m=>pe op l m
 |_,_=>none
def pe(op:CmpOp):List D->List D->Option Bool
 |[],m=>some (iX op 0 m.length)
 |x::l,[]=>some (iX op ((x::l).length) 0)
 |x::l,y::m=>if D.eqb x y=true then pe op l m else lg op x y
end
theorem oT(op:CmpOp)(a b k:Int):iX op (a+k) (b+k)=iX op a b:=by
 cases op<;>simp[iX]
section
variable {X:Cx}{pins:gE}{σ:L2.St}{H:Hp}{s:fW}
theorem CN(ho:oy op):N4 op A s (.int i t) (.int j u) (iX op i j):=fun prog w E Q h=>by
 rcases ho with rfl|rfl|rfl|rfl
 ·exact(PyProof.Rows.lt_int h:wpAny (model prog w) A (compareOp .Lt _ _) Q E s)
 ·exact(PyProof.Rows.le_int h:wpAny (model prog w) A (compareOp .LtE _ _) Q E s)
 ·exact(PyProof.Rows.gt_int h:wpAny (model prog w) A (compareOp .Gt _ _) Q E s)
 ·exact(PyProof.Rows.ge_int h:wpAny (model prog w) A (compareOp .GtE _ _) Q E s)
theorem Kc(ho:oy op)(I:Inv X pins σ H s): ∀(n:Nat) (d e:D) (v u:V) (a b:gg) (O O':AP') (A:gw) (r:Bool),ja X.K H O d v->ja X.K H O' e u->RelV v a->RelV u b->d.dep<=n->e.dep<20000->A.units+n<cLine->lg op d e=some r->N4 op A s a b r:=by
 intro n
 induction n with
 |zero=>
  intro d e v u a b O O' A r hd he ra rb hn t5 hA hc
  cases d with
  |int i=>
   cases e with
   |int j=>
    have:=gx hd;subst this;have:=gx he;subst this;obtain⟨t,rfl⟩:=ra;obtain⟨t',rfl⟩:=rb;rw[lg] at hc;rw[<-iq hc];exact CN ho
   |_=>rw[lg] at hc<;>first|cases hc|(intros;simp_all)
  |tup l=>rw[D.dep] at hn;omega
  |_=>rw[lg] at hc<;>first|cases hc|(intros;simp_all)
 |succ n ih=>
  intro d e v u a b O O' A r hd he ra rb hn t5 hA hc
  cases d with
  |int i=>
   cases e with
   |int j=>
    have:=gx hd;subst this;have:=gx he;subst this;obtain⟨t,rfl⟩:=ra;obtain⟨t',rfl⟩:=rb;rw[lg] at hc;rw[<-iq hc];exact CN ho
   |_=>rw[lg] at hc<;>first|cases hc|(intros;simp_all)
  |tup l=>
   cases e with
   |tup m=>
    rw[lg] at hc;rw[D.dep] at hn t5;obtain⟨p,xs,rfl,q,r1⟩:=lM hd;obtain⟨p2,ys,rfl,q2,r2⟩:=lM he;cases ra;cases rb;obtain⟨its,v1,pl,_⟩:=I.tuple q;obtain⟨b9,v2,f6,_⟩:=I.tuple q2;have k5:A.in1.units=A.units+1:=rfl
    have key: ∀(l m:List D) (xs ys:List V) (its b9:hV) (k:Int),D.depL l+1<=n+1->D.depL m<20000->RepL X.K H O l xs->RepL X.K H O' m ys->Vals xs its->Vals ys b9->pe op l m=some r->yX op A.in1 s (iX op (its.length+k) (b9.length+k)) (its.zip b9) r:=by
     intro l
     induction l with
     |nil=>
      intro m xs ys its b9 k ai ak r1 r2 v1 v2 hc;rw[RepL] at r1;subst r1;cases v1;rw[pe] at hc;have e1:=r2.length;have e2:=v2.length;show r=_;rw[oT,<-iq hc]
      congr 1
      omega
     |cons x l ihl=>
      intro m xs ys its b9 k ai ak r1 r2 v1 v2 hc;rw[RepL] at r1;obtain⟨vx,xr,rfl,g1,g2⟩:=r1
      cases v1 with
      |cons a1 a2=>
       cases m with
       |nil=>
        rw[RepL] at r2;subst r2;cases v2;rw[pe] at hc;have e1:=g2.length;have e2:=a2.length;rw[List.zip_nil_right];show r=_;rw[oT,<-iq hc]
        congr 1
        simp only[km];omega
       |cons y m=>
        rw[RepL] at r2;obtain⟨vy,yr,rfl,g3,g4⟩:=r2
        cases v2 with
        |cons b1 b2=>
         rw[pe] at hc;rw[D.depL] at ai ak;rw[List.zip_cons_cons];refine⟨D.eqb x y,Fn I n x y vx vy _ _ O O' A.in1 (.inl g1) (.inl g3) a1 b1 (by omega) (by omega) (by rw[k5];omega),?_⟩
         cases hq:D.eqb x y with
         |true=>
          rw[hq,gd rfl] at hc;rw[gd rfl];have:=ihl m xr yr _ _ (k+1) (by omega) (by omega) g2 g4 a2 b2 hc;simp only[km];have e: ∀a:Nat,(((a+1:Nat):Int)+k)=(a:Int)+(k+1):=fun a=>by omega
          rw[e,e];exact this
         |false=>
          rw[hq,gk iM] at hc;rw[gk iM];exact ih x y vx vy _ _ O O' A.in1 r (.inl g1) (.inl g3) a1 b1 (by omega) (by omega) (by rw[k5];omega) hc
    have:=key l m xs ys its b9 0 (by omega) (by omega) r1 r2 v1 v2 hc;refine Kb ho pl f6 (by omega) ?_;simpa using this
   |_=>rw[lg] at hc<;>first|cases hc|(intros;simp_all)
  |_=>rw[lg] at hc<;>first|cases hc|(intros;simp_all)
def lb(op:CmpOp)(d e:D):Option (D×Bool):=if d.dep<=50/\e.dep<=50 then(lg op d e).map fun b=>(.bl b,false) else none
theorem nC(ho:oy op)(hu:X.A.units+60<cLine):OpR X (compareOp op) (rD X.K (lb op)):=by
 intro pins s σ H x y v u Q I rx ry h;obtain⟨O,d,e,z,np,h1,h2,hg,G⟩:=h;unfold lb at hg;split at hg
 ·rename_i hd;obtain⟨r,hr,rfl⟩:=gU hg;have:=Kc ho I 50 d e x y v u O O X.A r h1 h2 rx ry hd.1 (by omega) (by omega) hr X.prog X.w X.xe (EP X pins σ Q) ⟨.bl r,H,I,rfl,G.bl⟩;rcases ho with rfl|rfl|rfl|rfl<;>exact this
 ·cases hg
end
open TS
section
variable {prog:gA}{w:gu}{A:gw}{E:gH}{s:fW}
def oh(h:gD)(a:fR)(vs:hV):Heap:=((h.update a (Obj.mapSeq fun _=> #[])).push (seqObj "tuple" vs.toArray 0)).push (seqObj "list" #[] 0)
def HP(vs:hV)(i:Nat):Keyed:=(vs.getD i Value.none,vs.getD i Value.none)
theorem rE{a:fR}{vs:hV}{n:Nat}{P:PySem.Fin->Shared->Prop}{κ:SortKind}{lt:kL}(ho:s.heap.get? a=some (seqObj "list" vs.toArray n))(hz:vs.length<=sizeLine)(W:Wk lt)
  (hk:2<=vs.length->wpAny (model prog w) A (keyKind' vs.toArray) (fun κ' s'=>s'={s with heap:=oh s.heap a vs}/\κ'=κ) (fun _ _=>False) {s with heap:=oh s.heap a vs})
  (ask:2<=vs.length->Ask prog w A E (fun s'=>s'={s with heap:=oh s.heap a vs}) (HP vs) κ vs.length lt)
  (h: ∀p:List Nat,p.Perm (List.range vs.length)->p.Pairwise (SL lt)->P (.done (.ret .none)) {s with heap:=(oh s.heap a vs).update a (Obj.mapSeq fun _=>(p.map fun i=>vs.getD i Value.none).toArray)}):
  wpAny (model prog w) A (Builtin.«list.sort» ⟨[.ref a],[]⟩) P E s:=by
 rw[list_sort_plain];have ha:a<s.heap.objs.size:=iw ho;refine fS (DV ho rfl (fS (rK ho rfl ?_ (by rw[iH];exact hz) (mJ _))));obtain⟨e1,y6⟩: ∃e1,(s.heap.update a (Obj.mapSeq fun _=>(#[]:Array Value))).get? a=some (seqObj "list" #[] e1):=⟨_,uz ho fun _=> #[]⟩
 refine fS (wZ y6 rfl (fS (AO ?_ (by show vs.length<=_;exact hz))));refine fS (AD ?_ (mJ _));refine kN ?_;have dA:(oh s.heap a vs).get? a=some (seqObj "list" #[] e1):=iF _ (iF _ y6);show wpAny (model prog w) A _ P E {s with heap:=oh s.heap a vs};dsimp only;by_cases h2:vs.toArray.size<2
 ·rw[gd h2,gd h2];refine fS (gr ?_);rw[D1];refine fS (gr ?_);dsimp only;refine fS (wZ dA rfl (fS (rK dA rfl ?_ (mJ _) ?_)))
  ·simp only[uL,hC,iE];refine gr ?_;have bC:vs.length<2:=by simpa using h2
   have:=h (List.range vs.length) (uD _) (by
    rw[G9];intro i j hi hj q9;simp at hi hj;omega)
   have e:((vs.toArray.zip vs.toArray).map (·.2))=((List.range vs.length).map fun i=>vs.getD i Value.none).toArray:=by
    apply Array.ext
    ·simp
    ·intro i h1 h3;have hi:i<vs.length:=by simpa using h1
     simp[hi]
   rw[e];exact this
  ·rw[DW,Array.size_zip];simp;omega
 ·rw[gk h2,gk h2];have bC:2<=vs.length:=by simpa using h2
  refine fS (mN (hk bC) (fun κ' s' hκ=>?_) fun _ _ x=>x.elim);obtain⟨rfl,rfl⟩:=hκ
  have R:Rp (HP vs) κ' vs.length (SortSt.mk' κ' (vs.toArray.zip vs.toArray) #[] 7 none) (Array.range vs.length):=by
   refine⟨?_,rfl,rfl,by simp,DU _⟩;show vs.toArray.zip vs.toArray=_;apply Array.ext
   ·simp
   ·intro i h1 h3;have hi:i<vs.length:=by simpa using h1
    simp[HP,hi]
  refine fS (mN (Ju (lt:=lt) W (ask bC) (by omega) R rfl (fun k hk=>by simp[TS.P,hk]) (Q:=fun _ b6=> ∃p',Rp (HP vs) κ' vs.length b6 p'/\p'.toList.Pairwise (SL lt)) (fun b6 p' R' hp=>⟨p',R',hp⟩) _ rfl) ?_ fun _ _ e=>e);rintro⟨⟨⟩,b6⟩ s' ⟨rfl,p',R',hp⟩;dsimp only;have ba:failedOf b6=none:=R'.ok
  have out:(arrOf b6).map (·.2)=(p'.toList.map fun i=>vs.getD i Value.none).toArray:=by
   rw[R'.arr,Array.map_map];apply Array.toList_inj.mp;simp[HP]
  have pl:p'.toList.length=vs.length:=by simp[R'.size]
  refine fS (wZ dA rfl (fS (rK dA rfl ?_ (mJ _) ?_)))
  ·rw[ba];simp only[uL,hC,iE];rw[out];refine gr (h p'.toList ?_ hp);have:=N6.mp R'.perm;simpa using this
  ·rw[out,iH,iG,pl];omega
end
mutual
def cT:D->D->Ordering
 | .int i,.int j=>if i<j then .lt else if i=j then .eq else .gt
 | .int _,_=> .lt
 | .tup _,.int _=> .gt
 | .tup l,.tup m=>cL l m
 | .tup _,_=> .lt
 |_,.int _=> .gt
 |_,.tup _=> .gt
 |_,_=> .eq
def cL:List D->List D->Ordering
 |[],[]=> .eq
 |[],_::_=> .lt
 |_::_,[]=> .gt
 |x::l,y::m=>match cT x y with
  | .lt=> .lt
  | .gt=> .gt
  | .eq=>cL l m
end
mutual
theorem GY: ∀x:D,cT x x= .eq
 | .int i=>by simp[cT]
 | .tup l=>by rw[cT];exact G0 l
 | .non=>by simp[cT]
 | .bl _=>by simp[cT]
 | .str _=>by simp[cT]
 | .lst _=>by simp[cT]
 | .oth _ _ _=>by simp[cT]
theorem G0: ∀l:List D,cL l l= .eq
 |[]=>by simp[cL]
 |x::l=>by rw[cL,GY x];exact G0 l
end
mutual
theorem jP: ∀x y:D,cT y x=(cT x y).swap
 | .int i,.int j=>by
  rw[cT,cT];by_cases h1:i<j
  ·rw[gd h1,gk (by omega),gk (by omega)];rfl
  ·rw[gk h1];by_cases h2:i=j
   ·rw[gd h2,gk (by omega),gd h2.symm];rfl
   ·rw[gk h2,gd (by omega)];rfl
 | .tup l,.tup m=>by rw[cT,cT];exact GZ l m
 | .int _,.tup _=>by simp[cT]
 | .int _,.non=>by simp[cT]
 | .int _,.bl _=>by simp[cT]
 | .int _,.str _=>by simp[cT]
 | .int _,.lst _=>by simp[cT]
 | .int _,.oth _ _ _=>by simp[cT]
 | .tup _,.int _=>by simp[cT]
 | .tup _,.non=>by simp[cT]
 | .tup _,.bl _=>by simp[cT]
 | .tup _,.str _=>by simp[cT]
 | .tup _,.lst _=>by simp[cT]
 | .tup _,.oth _ _ _=>by simp[cT]
 | .non,y=>by cases y<;>simp[cT]
 | .bl _,y=>by cases y<;>simp[cT]
 | .str _,y=>by cases y<;>simp[cT]
 | .lst _,y=>by cases y<;>simp[cT]
 | .oth _ _ _,y=>by cases y<;>simp[cT]
theorem GZ: ∀l m:List D,cL m l=(cL l m).swap
 |[],[]=>by simp[cL]
 |[],_::_=>by simp[cL]
 |_::_,[]=>by simp[cL]
 |x::l,y::m=>by
  rw[cL,cL,jP x y];cases h:cT x y<;>simp[Ordering.swap]
  exact GZ l m
end
theorem Ot(h1:cT x y≠ .gt)(h2:cT y x≠ .gt):cT x y= .eq:=by
 rw[jP x y] at h2
 cases h:cT x y with
 |lt=>rw[h] at h2;exact absurd rfl h2
 |eq=>rfl
 |gt=>exact absurd h h1
mutual
theorem qm: ∀x y z:D,cT x y≠ .gt->cT y z≠ .gt->cT x z≠ .gt
 | .int i,y,z,h1,h2=>by
  cases z with
  |int k=>
   cases y with
   |int j=>
    rw[cT] at h1 h2 ⊢
    have a:i<=j:=by
     by_cases a:i<j
     ·omega
     ·rw[gk a] at h1;by_cases b:i=j
      ·omega
      ·rw[gk b] at h1;exact absurd rfl h1
    have b:j<=k:=by
     by_cases a:j<k
     ·omega
     ·rw[gk a] at h2;by_cases b:j=k
      ·omega
      ·rw[gk b] at h2;exact absurd rfl h2
    by_cases c:i<k
    ·rw[gd c];simp
    ·rw[gk c,gd (by omega)];simp
   |_=>simp[cT] at h2
  |_=>simp[cT]
 | .tup l,y,z,h1,h2=>by
  cases y with
  |int j=>simp[cT] at h1
  |tup m=>
   cases z with
   |int k=>simp[cT] at h2
   |tup n=>rw[cT] at h1 h2 ⊢;exact DC l m n h1 h2
   |_=>simp[cT]
  |_=>cases z<;>simp_all [cT]
 | .non,y,z,h1,h2=>by cases y<;>cases z<;>simp_all [cT]
 | .bl _,y,z,h1,h2=>by cases y<;>cases z<;>simp_all [cT]
 | .str _,y,z,h1,h2=>by cases y<;>cases z<;>simp_all [cT]
 | .lst _,y,z,h1,h2=>by cases y<;>cases z<;>simp_all [cT]
 | .oth _ _ _,y,z,h1,h2=>by cases y<;>cases z<;>simp_all [cT]
 termination_by x y z=>sizeOf x+sizeOf y+sizeOf z
theorem DC: ∀l m n:List D,cL l m≠ .gt->cL m n≠ .gt->cL l n≠ .gt
 |[],m,n,_,_=>by cases n<;>simp[cL]
 |x::l,[],n,h1,_=>by simp[cL] at h1
 |x::l,y::m,[],_,h2=>by simp[cL] at h2
 |x::l,y::m,z::n,h1,h2=>by
  have a1:cT x y≠ .gt:=fun h=>by rw[cL,h] at h1;exact h1 rfl
  have a2:cT y z≠ .gt:=fun h=>by rw[cL,h] at h2;exact h2 rfl
  have a3:=qm x y z a1 a2;rw[cL]
  cases hxz:cT x z with
  |lt=>simp
  |gt=>exact absurd hxz a3
  |eq=>
   have zx:cT z x≠ .gt:=by rw[jP x z,hxz];simp[Ordering.swap]
   have exy:cT x y= .eq:=Ot a1 (qm y z x a2 zx);have eyz:cT y z= .eq:=Ot a2 (qm z x y zx a1);rw[cL,exy] at h1;rw[cL,eyz] at h2;exact DC l m n h1 h2
 termination_by l m n=>sizeOf l+sizeOf m+sizeOf n
end
def ltT(x y:D):Bool:=cT x y== .lt
theorem Aa:ltT x y=true↔cT x y= .lt:=by simp[ltT]
theorem kb:ltT x y=false↔cT x y≠ .lt:=by simp[ltT]
theorem OO(f:Nat->D):Wk fun i j=>ltT (f i) (f j):=by
 have key: ∀x y z:D,ltT x z=true->ltT x y=true\/ltT y z=true:=fun x y z h=>by
  cases h1:ltT x y with
  |true=>exact .inl rfl
  |false=>
   cases h2:ltT y z with
   |true=>exact .inr rfl
   |false=>
    exfalso
    have yx:cT y x≠ .gt:=by
     rw[jP x y];intro e;rw[kb] at h1
     cases hc:cT x y with
     |lt=>exact h1 hc
     |eq=>rw[hc] at e;cases e
     |gt=>rw[hc] at e;cases e
    have zy:cT z y≠ .gt:=by
     rw[jP y z];intro e;rw[kb] at h2
     cases hc:cT y z with
     |lt=>exact h2 hc
     |eq=>rw[hc] at e;cases e
     |gt=>rw[hc] at e;cases e
    have:=qm z y x zy yx;rw[jP x z,Aa.mp h] at this;exact this rfl
 refine⟨fun i=>by rw[kb,GY];simp,fun i j k h1 h2=>?_,fun i j k h=>key _ _ _ h⟩;rcases key (f i) (f k) (f j) h1 with h|h
 ·exact h
 ·
  rw[Aa] at h h2;rw[jP,h] at h2;cases h2
mutual
/-- ints,and tuples of such -/
def D.pr:D->Bool
 | .int _=>true
 | .tup l=>D.prL l
 |_=>false
def D.prL:List D->Bool
 |[]=>true
 |x::l=>D.pr x&&D.prL l
end
mutual
theorem LL: ∀x y:D,D.pr x=true->D.pr y=true->D.eqb x y=(cT x y== .eq)
 | .int i,.int j,_,_=>by
  rw[D.eqb,cT];by_cases h:i=j
  ·subst h;simp
  ·rw[gk h];by_cases h2:i<j<;>simp[h,h2]
 | .int _,.tup _,_,_=>by simp[D.eqb,cT]
 | .tup _,.int _,_,_=>by simp[D.eqb,cT]
 | .tup l,.tup m,h1,h2=>by rw[D.eqb,cT];rw[D.pr] at h1 h2;exact GO l m h1 h2
 | .non,_,h,_=>by simp[D.pr] at h
 | .bl _,_,h,_=>by simp[D.pr] at h
 | .str _,_,h,_=>by simp[D.pr] at h
 | .lst _,_,h,_=>by simp[D.pr] at h
 | .oth _ _ _,_,h,_=>by simp[D.pr] at h
 |_,.non,_,h=>by simp[D.pr] at h
 |_,.bl _,_,h=>by simp[D.pr] at h
 |_,.str _,_,h=>by simp[D.pr] at h
 |_,.lst _,_,h=>by simp[D.pr] at h
 |_,.oth _ _ _,_,h=>by simp[D.pr] at h
theorem GO: ∀l m:List D,D.prL l=true->D.prL m=true->D.eqbL l m=(cL l m== .eq)
 |[],[],_,_=>by simp[D.eqbL,cL]
 |[],_::_,_,_=>by simp[D.eqbL,cL]
 |_::_,[],_,_=>by simp[D.eqbL,cL]
 |x::l,y::m,h1,h2=>by
  rw[D.prL,mK] at h1 h2;rw[D.eqbL,cL,LL x y h1.1 h2.1,GO l m h1.2 h2.2];cases cT x y<;>simp
end
mutual
theorem wU: ∀x y:D,D.pr x=true->D.pr y=true-> ∀b,lg .Lt x y=some b->b=ltT x y
 | .int i,.int j,_,_,b,h=>by
  rw[lg] at h;rw[<-iq h,ltT,cT,iX];by_cases h1:i<j
  ·simp[h1]
  ·rw[gk h1];by_cases h2:i=j<;>simp[h1,h2]
 | .int _,.tup _,_,_,b,h=>by simp[lg] at h
 | .tup _,.int _,_,_,b,h=>by simp[lg] at h
 | .tup l,.tup m,h1,h2,b,h=>by
  rw[lg] at h;rw[D.pr] at h1 h2;rw[ltT,cT];exact GV l m h1 h2 b h
 | .non,_,h,_,_,_=>by simp[D.pr] at h
 | .bl _,_,h,_,_,_=>by simp[D.pr] at h
 | .str _,_,h,_,_,_=>by simp[D.pr] at h
 | .lst _,_,h,_,_,_=>by simp[D.pr] at h
 |_,.non,_,h,_,_=>by simp[D.pr] at h
 |_,.bl _,_,h,_,_=>by simp[D.pr] at h
 |_,.str _,_,h,_,_=>by simp[D.pr] at h
 |_,.lst _,_,h,_,_=>by simp[D.pr] at h
theorem GV: ∀l m:List D,D.prL l=true->D.prL m=true-> ∀b,pe .Lt l m=some b->b=(cL l m== .lt)
 |[],[],_,_,b,h=>by rw[pe] at h;rw[<-iq h];simp[iX,cL]
 |[],_::_,_,_,b,h=>by rw[pe] at h;rw[<-iq h];simp[iX,cL]<;>omega
 |_::_,[],_,_,b,h=>by rw[pe] at h;rw[<-iq h];simp[iX,cL]<;>omega
 |x::l,y::m,h1,h2,b,h=>by
  rw[D.prL,mK] at h1 h2;rw[pe,LL x y h1.1 h2.1] at h;rw[cL]
  cases hc:cT x y with
  |eq=>rw[hc] at h;simp at h;exact GV l m h1.2 h2.2 b h
  |lt=>rw[hc] at h;simp at h;have:=wU x y h1.1 h2.1 b h;rw[this,ltT,hc]
  |gt=>rw[hc] at h;simp at h;have:=wU x y h1.1 h2.1 b h;rw[this,ltT,hc]
end
section
variable {α:Type}(lt:α->α->Bool)
def sf(x:α):List α->List α
 |[]=>[x]
 |y::l=>if lt y x=true then y::sf x l else x::y::l
def kr:List α->List α
 |[]=>[]
 |x::l=>sf lt x (kr l)
theorem oz(x:α): ∀l:List α,(sf lt x l).Perm (x::l)
 |[]=>uD _
 |y::l=>by
  rw[sf];split
  ·exact((oz x l).cons y).trans (List.Perm.swap x y l)
  ·exact uD _
theorem jF: ∀l:List α,(kr lt l).Perm l
 |[]=>uD _
 |x::l=>(oz lt x _).trans ((jF l).cons x)
theorem Dg{β:Type}(bI:β->β->Bool)(f:α->β)(x:α): ∀l:List α,(∀y∈l,bI (f y) (f x)=lt y x)->sf bI (f x) (l.map f)=(sf lt x l).map f
 |[],_=>rfl
 |y::l,h=>by
  rw[il,sf,sf,h y iO];split
  ·rw[il,Dg bI f x l fun z hz=>h z (iT _ hz)]
  ·rfl
theorem zO{β:Type}(bI:β->β->Bool)(f:α->β): ∀l:List α,(∀x∈l,∀y∈l,bI (f y) (f x)=lt y x)->kr bI (l.map f)=(kr lt l).map f
 |[],_=>rfl
 |x::l,h=>by
  rw[il,kr,kr,zO bI f l fun a ha b hb=>h a (iT _ ha) b (iT _ hb)];exact Dg lt bI f x _ fun y hy=>h x iO y (iT _ ((jF lt l).mem_iff.mp hy))
end
theorem GJ{lt:kL}(W:Wk lt){x:Nat}: ∀{l:hU},l.Pairwise (SL lt)->(∀y∈l,x<y)->(sf lt x l).Pairwise (SL lt)
 |[],_,_=>AI _ _
 |y::l,h,hx=>by
  rw[pz] at h;rw[sf]
  cases hl:lt y x with
  |true=>
   rw[gd rfl,pz];refine⟨fun z hz=>?_,GJ W h.2 fun z hz=>hx z (iT _ hz)⟩;rcases jQ.mp ((oz lt x l).mem_iff.mp hz) with rfl|hz
   ·exact .inl hl
   ·exact h.1 z hz
  |false=>
   rw[gk iM,pz];have first:SL lt x y:= .inr ⟨hl,hx y iO⟩;refine⟨fun z hz=>?_,pz.mpr h⟩;rcases jQ.mp hz with rfl|hz
   ·exact first
   ·exact SL.trans W first (h.1 z hz)
theorem CB{lt:kL}(W:Wk lt): ∀{l:hU},l.Pairwise (· < ·)->(kr lt l).Pairwise (SL lt)
 |[],_=>List.Pairwise.nil
 |x::l,h=>by
  rw[pz] at h;exact GJ W (CB W h.2) fun y hy=>h.1 y ((jF lt l).mem_iff.mp hy)
theorem Cz(W:Wk lt)(hp:p.Perm (List.range n))(hs:p.Pairwise (SL lt)):p=kr lt (List.range n):=by
 refine List.Perm.eq_of_pairwise (fun x y _ _ h1 h2=>(SL.asym W h1 h2).elim) hs (CB W Iv) (hp.trans (jF lt _).symm)
theorem Hg{ds:List D}{p:hU}(hp:p.Perm (List.range ds.length))(hs:p.Pairwise (SL fun i j=>ltT (ds.getD i .non) (ds.getD j .non))):p.map (fun i=>ds.getD i .non)=kr ltT ds:=by
 rw[Cz (OO fun i=>ds.getD i .non) hp hs,<-zO _ ltT (fun i=>ds.getD i .non) _ fun x _ y _=>rfl]
 congr 1
 apply rP;intro i;by_cases hi:i<ds.length
 ·simp[hi]
 ·simp[hi]
def jB:D->Option Nat
 | .int _=>some 0
 | .tup (.int _::_)=>some 1
 | .tup (.tup _::_)=>some 2
 |_=>none
def GC:Nat->SortKind
 |0=>oneType'
 |1=>tuples' true
 |_=>tuples' false
structure SortsBy(k:Nat)(l:List D):Prop where
 hd: ∀x∈l,jB x=some k
 pr: ∀x∈l,D.pr x=true
 dp: ∀x∈l,x.dep<=50
 cm: ∀x∈l,∀y∈l,(lg .Lt x y).isSome=true
def rV(l:List D):Bool:=l.length<=1||match l with
 |[]=>true
 |x::_=>(jB x).isSome&&(l.all fun y=>jB y==jB x&&D.pr y&&decide (y.dep<=50))&&l.all fun y=>l.all fun z=>(lg .Lt y z).isSome
theorem Hh(h:rV l=true):l.length<=1\/ ∃k,SortsBy k l:=by
 unfold rV at h;rw[DT] at h;rcases h with h|h
 ·left;simpa using h
 ·right
  cases l with
  |nil=>exact⟨0,fun x hx=>absurd hx kj,fun x hx=>absurd hx kj,fun x hx=>absurd hx kj,fun x hx=>absurd hx kj⟩
  |cons x m=>
   simp only[mK,kZ,xh] at h;obtain⟨⟨h1,h2⟩,h3⟩:=h;obtain⟨k,hk⟩:=Iz.mp h1;refine⟨k,fun y hy=>?_,fun y hy=>(h2 y hy).1.2,fun y hy=>(h2 y hy).2,fun y hy z hz=>h3 y hy z hz⟩;have:=(h2 y hy).1.1;rw[hk] at this;simpa using this
section
variable {X:Cx}{pins:gE}{σ:L2.St}{H:Hp}{s:fW}
theorem qy(v:Vals xs its)(hi:i<its.length):RelV (xs.getD i .non) (its.getD i Value.none):=by
 have e:=v.length;have hx:xs[i]?=some xs[i]:=hX (by omega);obtain⟨w,w1,w2⟩:=v.get hx;have h1:xs.getD i .non=xs[i]:=by simp[show i<xs.length by omega]
 have h2:its.getD i Value.none=w:=by
  rw[hX hi] at w1;have:=iq w1;simp[hi,this]
 rw[h1,h2];exact w2
theorem qI(r:RepL X.K H O ds xs)(hi:i<ds.length):Rep X.K H O (ds.getD i .non) (xs.getD i .non):=by
 have e:=r.length;have hd:ds[i]?=some ds[i]:=hX hi;obtain⟨v,v1,v2⟩:=r.get hd;have h1:ds.getD i .non=ds[i]:=by simp[hi]
 have h2:xs.getD i .non=v:=by
  rw[hX (by omega)] at v1;have:=iq v1;simp[show i<xs.length by omega,this]
 rw[h1,h2];exact v2
theorem yp{ds:List D}{i:Nat}(hi:i<ds.length):ds.getD i .non∈ds:=by simp[hi]
theorem Dd(I:Inv X pins σ H s){A:gw}{b:Bool}{O O':AP'}(hA:A.units+60<cLine){r:Bool}{Q:Bool->Shared->Prop}(hQ:Q r s): ∀(l m:List D) (xs ys:List V) (its b9:hV) (k:Int) (i:Nat),D.depL l<=50->D.depL m<=50->
  ((b&&i==0)=true-> ∀x y l' m',l=x::l'->m=y::m'->(∃a,x= .int a)/\ ∃c,y= .int c)->RepL X.K H O l xs->RepL X.K H O' m ys->Vals xs its->Vals ys b9->pe .Lt l m=some r->
  ∀fin:Bool,fin=iX .Lt (its.length+k) (b9.length+k)->PySem.W.KatLex X.prog X.w A b fin Q (its.zip b9) i s
 |[],m,xs,ys,its,b9,k,i,_,_,_,r1,r2,v1,v2,hc,fin,hf=>by
  rw[RepL] at r1;subst r1;cases v1;rw[pe] at hc;have e1:=r2.length;have e2:=v2.length;show Q fin s;rw[hf,oT];rw[<-iq hc] at hQ;have:iX .Lt ((([]:List Value).length:Nat):Int) (b9.length:Int)=iX .Lt 0 (m.length:Int):=by congr 1;omega
  rw[this];exact hQ
 |x::l,[],xs,ys,its,b9,k,i,_,_,_,r1,r2,v1,v2,hc,fin,hf=>by
  rw[RepL] at r2;subst r2;cases v2;rw[pe] at hc;have e1:=r1.length;have e2:=v1.length;rw[List.zip_nil_right];show Q fin s;rw[hf,oT];rw[<-iq hc] at hQ;have:iX .Lt (its.length:Int) ((([]:List Value).length:Nat):Int)=iX .Lt (((x::l).length:Nat):Int) 0:=by congr 1;omega
  rw[this];exact hQ
 |x::l,y::m,xs,ys,its,b9,k,i,ai,ak,hb,r1,r2,v1,v2,hc,fin,hf=>by
  rw[RepL] at r1 r2;obtain⟨vx,xr,rfl,g1,g2⟩:=r1;obtain⟨vy,yr,rfl,g3,g4⟩:=r2
  cases v1 with
  |cons a1 a2=>
   cases v2 with
   |cons b1 b2=>
    rw[pe] at hc;rw[D.depL] at ai ak;rw[List.zip_cons_cons];refine PySem.W.kat_cons (Fn I 50 x y vx vy _ _ O O' A (.inl g1) (.inl g3) a1 b1 (by omega) (by omega) (by omega) X.prog X.w _ _ ?_)
    cases hq:D.eqb x y with
    |true=>
     rw[hq,gd rfl] at hc;refine PySem.W.kat_yes (Dd I hA hQ l m xr yr _ _ (k+1) (i+1) (by omega) (by omega) (fun h=>by simp at h) g2 g4 a2 b2 hc fin ?_);rw[hf];simp only[km];have e: ∀a:Nat,(((a+1:Nat):Int)+k)=(a:Int)+(k+1):=fun a=>by omega
     rw[e,e]
    |false=>
     rw[hq,gk iM] at hc;refine PySem.W.kat_no ?_
     cases hbi:(b&&i==0) with
     |true=>
      obtain⟨⟨a,rfl⟩,c,rfl⟩:=hb hbi x y l m rfl rfl;have:=g1.int;subst this;have:=g3.int;subst this;obtain⟨t,rfl⟩:=a1;obtain⟨t',rfl⟩:=b1;rw[lg] at hc;rw[<-iq hc] at hQ;exact oneLt_int hQ
     |false=>
      exact PySem.W.kat_one _ _ (Kc (.inl rfl) I 50 x y vx vy _ _ O O' A r (.inl g1) (.inl g3) a1 b1 (by omega) (by omega) (by omega) hc X.prog X.w _ _ hQ)
theorem Tf(I:Inv X pins σ H s){O:AP'}{ds:List D}{xs:List V}{its:hV}{A:gw}{E:gH}(hA:A.units+60<cLine)(rr:RepL X.K H O ds xs)(v:Vals xs its){k:Nat}(B:SortsBy k ds):
  Ask X.prog X.w A E (fun s'=>s'=s) (HP its) (GC k) its.length (fun i j=>ltT (ds.getD i .non) (ds.getD j .non)):=by
 intro i j hi hj s' ba E';subst ba;have e1:=rr.length;have e2:=v.length;have mi:ds.getD i .non∈ds:=yp (by omega);have mj:ds.getD j .non∈ds:=yp (by omega);have ri:=qI rr (i:=i) (by omega);have rj:=qI rr (i:=j) (by omega);have vi:=qy v hi;have vj:=qy v hj;obtain⟨b,hb⟩:=Iz.mp (B.cm _ mi _ mj);have n9:=wU _ _ (B.pr _ mi) (B.pr _ mj) b hb;have aR:=B.hd _ mi;have aQ:=B.hd _ mj;have di:=B.dp _ mi;have dj:=B.dp _ mj;show wpAny _ _ (keyLt' (GC k) (its.getD i Value.none) (its.getD j Value.none)) _ _ _;dsimp only;rw[<-n9];generalize ds.getD i .non=x at*;generalize ds.getD j .non=y at*;generalize xs.getD i .non=vx at*;generalize xs.getD j .non=vy at*;generalize its.getD i Value.none=a at*;generalize its.getD j Value.none=c at*
 have tups: ∀(l m:List D) (bb:Bool),x= .tup l->y= .tup m->(bb=true-> ∀x y l' m',l=x::l'->m=y::m'->(∃a,x= .int a)/\ ∃c,y= .int c)->wpAny (model X.prog X.w) A (keyLt' (tuples' bb) a c) (fun b' bH=>bH=s'/\b'=b) E' s':=fun l m bb hl hm hh=>by
  subst hl hm;obtain⟨p,us,rfl,q,r1⟩:=ri.tup;obtain⟨p2,ws,rfl,q2,r2⟩:=rj.tup;cases vi;cases vj;obtain⟨dt,w1,⟨o,ho,hc,n,hd⟩,_⟩:=I.tuple q.sq;obtain⟨is2,w2,⟨o2,s9,aH,n2,hd2⟩,_⟩:=I.tuple q2.sq;rw[lg] at hb;rw[D.dep] at di dj;refine PySem.W.kat_lt ho hd s9 hd2 ?_;have:=Dd I (b:=bb) hA (Q:=fun b' bH=>bH=s'/\b'=b) ⟨rfl,rfl⟩ l m us ws dt is2 0 0 (by omega) (by omega) (fun h=>hh (by simpa using h)) r1 r2 w1 w2 hb (decide (dt.toArray.size<is2.toArray.size)) (by simp[iX]);simpa using this
 match k,aR,aQ with
 |0,aR,aQ=>
  cases x with
  |int ix=>
   cases y with
   |int iy=>
    have:=ri.int;subst this;have:=rj.int;subst this;obtain⟨t,rfl⟩:=vi;obtain⟨t',rfl⟩:=vj;rw[lg] at hb;rw[<-iq hb];show wpAny _ _ (keyLt' oneType' _ _) _ _ _;rw[keyLt'_oneType];exact oneLt_int ⟨rfl,rfl⟩
   |tup m=>cases m with
    |nil=>simp[jB] at aQ
    |cons z m=>cases z<;>simp[jB] at aQ
   |_=>simp[jB] at aQ
  |tup m=>cases m with
   |nil=>simp[jB] at aR
   |cons z m=>cases z<;>simp[jB] at aR
  |_=>simp[jB] at aR
 |1,aR,aQ=>
  cases x with
  |tup l=>
   cases y with
   |tup m=>
    refine tups l m true rfl rfl fun _ x y l' m' hl hm=>?_;subst hl hm;refine⟨?_,?_⟩
    ·cases x with
     |int a=>exact⟨a,rfl⟩
     |_=>simp[jB] at aR
    ·cases y with
     |int a=>exact⟨a,rfl⟩
     |_=>simp[jB] at aQ
   |_=>simp[jB] at aQ
  |_=>simp[jB] at aR
 |(n+2),aR,aQ=>
  cases x with
  |tup l=>
   cases y with
   |tup m=>exact tups l m false rfl rfl fun h=>absurd h iM
   |_=>simp[jB] at aQ
  |_=>simp[jB] at aR
end
open PySem.W
section
variable {X:Cx}{pins:gE}{σ:L2.St}{H:Hp}{s:fW}
theorem yC(I:Inv X pins σ H s){O:AP'}{T:gg}(P:D->Prop)(hP: ∀x v u,P x->Rep X.K H O x v->RelV v u->Looks (model X.prog X.w) s.heap (typeOf u) T): ∀{ds:List D} {xs:List V} {its:hV},RepL X.K H O ds xs->Vals xs its->
  (∀d∈ds,∃x l,d= .tup (x::l)/\P x)-> ∃fs,KatTups s.heap its fs/\fs.length=its.length/\ ∀f∈fs,Looks (model X.prog X.w) s.heap (typeOf f) T
 |[],xs,its,r,v,_=>by
  rw[RepL] at r;subst r;cases v;exact⟨[],KatTups.nil,rfl,fun f hf=>absurd hf kj⟩
 |d::ds,xs,its,r,v,h=>by
  rw[RepL] at r;obtain⟨vx,xr,rfl,g1,g2⟩:=r
  cases v with
  |cons a1 a2=>
   obtain⟨fs,k1,k2,k3⟩:=yC I P hP g2 a2 fun d hd=>h d (iT _ hd);obtain⟨x,l,rfl,px⟩:=h d iO;obtain⟨p,us,rfl,q,r1⟩:=g1.tup;cases a1;obtain⟨dt,w1,⟨o,ho,hc,n,hd⟩,_⟩:=I.tuple q.sq;rw[RepL] at r1;obtain⟨vy,yr,rfl,g3,g4⟩:=r1
   cases w1 with
   |cons b1 b2=>
    rename_i f fr;refine⟨f::fs,KatTups.cons ho hc hd (by simp) k1,by simp[k2],fun g hg=>?_⟩;rcases jQ.mp hg with rfl|hg
    ·exact hP x vy _ px g3 b1
    ·exact k3 g hg
theorem QV(I:Inv X pins σ H s){O:AP'}{ds:List D}{xs:List V}{its:hV}{A:gw}(rr:RepL X.K H O ds xs)(v:Vals xs its){k:Nat}(B:SortsBy k ds)(h2:2<=its.length):
  wpAny (model X.prog X.w) A (keyKind' its.toArray) (fun κ' s'=>s'=s/\κ'=GC k) (fun _ _=>False) s:=by
 have e1:=rr.length;have e2:=v.length
 match k,B with
 |0,B=>
  refine kas_kind (T:= .type "int") h2 (fun u hu=>?_) rfl rfl ⟨rfl,rfl⟩;obtain⟨i,hi,e⟩:=xb hu;have ri:=qI rr (i:=i) (by omega);have vi:=qy v hi;have hd:=B.hd _ (yp (ds:=ds) (i:=i) (by omega));have:its.getD i Value.none=u:=by simp[hi,e]
  rw[this] at vi
  cases hx:ds.getD i .non with
  |int a=>
   rw[hx] at ri;have:=ri.int;rw[this] at vi;obtain⟨t,rfl⟩:=vi;exact Looks.of_pure rfl
  |tup l=>
   rw[hx] at hd
   cases l with
   |nil=>simp[jB] at hd
   |cons z m=>cases z<;>simp[jB] at hd
  |_=>rw[hx] at hd;simp[jB] at hd
 |1,B=>
  obtain⟨fs,f1,f2,f3⟩:=yC I (T:= .type "int") (fun x=> ∃a,x= .int a) (fun x vv u px rx rv=>by
   obtain⟨a,rfl⟩:=px;have:=rx.int;subst this;obtain⟨t,rfl⟩:=rv
   exact Looks.of_pure rfl) rr v fun d hd=>by
    have:=B.hd d hd
    cases d with
    |tup l=>
     cases l with
     |nil=>simp[jB] at this
     |cons z m=>
      cases z with
      |int a=>exact⟨_,m,rfl,a,rfl⟩
      |_=>simp[jB] at this
    |_=>simp[jB] at this
  exact kat_kind f1 (by omega) f3 rfl ⟨rfl,rfl⟩
 |(n+2),B=>
  obtain⟨fs,f1,f2,f3⟩:=yC I (T:= .type "tuple") (fun x=> ∃a,x= .tup a) (fun x vv u px rx rv=>by
   obtain⟨a,rfl⟩:=px;obtain⟨p,us,rfl,q,r1⟩:=rx.tup;cases rv;obtain⟨dt,w1,⟨o,ho,hc,n,hd⟩,_⟩:=I.tuple q.sq;have:Looks (model X.prog X.w) s.heap (typeOf (.ref p)) o.cls:=(Looks.ld ho).andThen .now
   rw[hc] at this;exact this) rr v fun d hd=>by
    have:=B.hd d hd
    cases d with
    |tup l=>
     cases l with
     |nil=>simp[jB] at this
     |cons z m=>
      cases z with
      |tup a=>exact⟨_,m,rfl,a,rfl⟩
      |_=>simp[jB] at this
    |_=>simp[jB] at this
  exact kat_kind f1 (by omega) f3 rfl ⟨rfl,rfl⟩
def ky(l:List D):Option (D×Bool):=if rV l=true/\l.length<=sizeLine then some (.lst (kr ltT l),true) else none
def nI(d:D):Option (D×Bool):=(pT d).bind ky
theorem Cs{xs:List V}{its:hV}(v:Vals xs its): ∀(p:hU),(∀i∈p,i<its.length)->Vals (p.map fun i=>xs.getD i .non) (p.map fun i=>its.getD i Value.none)
 |[],_=> .nil
 |i::p,h=> .cons (qy v (h i iO)) (Cs v p fun j hj=>h j (iT _ hj))
theorem CL{O:AP'}{ds:List D}{xs:List V}(r:RepL X.K H O ds xs): ∀(p:hU),(∀i∈p,i<ds.length)->RepL X.K H O (p.map fun i=>ds.getD i .non) (p.map fun i=>xs.getD i .non)
 |[],_=>RepL.nil
 |i::p,h=>RepL.cons (qI r (h i iO)) (CL r p fun j hj=>h j (iT _ hj))
theorem EA{ds:List D}{n:Nat}(hl:n=ds.length)(h1:ds.length<=1){p:hU}(hp:p.Perm (List.range n)):p.map (fun i=>ds.getD i .non)=kr ltT ds:=by
 subst hl
 match ds,h1,hp with
 |[],_,hp=>
  have:p=[]:=by simpa using hp.length_eq
  subst this;rfl
 |[d],_,hp=>
  have hl:p.length=1:=by simpa using hp.length_eq
  match p,hl,hp with
  |[i],_,hp=>
   have:i=0:=by have:=hp.mem_iff.mp (pA.mpr rfl);simpa using this
   subst this;rfl
theorem qC(hu:X.A.units+62<cLine)(I:Inv X pins σ H s){O:AP'}{ds:List D}{xs:List V}{its:hV}{x:gg}{Q:VK}{z:D×Bool}(rr:RepL X.K H O ds xs)(v:Vals xs its)(hg:ky ds=some z)(G:Gen X.K H O z Q)
  (hc: ∀(Q':List Value->Shared->Prop) (E':gH) (A':gw),A'.handled=X.A.handled->(∀(h':gD) (tk:Nat),(∀b o,s.heap.get? b=some o->h'.get? b=some o)->Q' its {s with heap:=h',toks:=tk})->wpAny (model X.prog X.w) A' (collect x) Q' E' s):
  wpAny (model X.prog X.w) X.A (call (.builtin "sorted") [x]) (EP X pins σ Q) X.xe s:=by
 unfold ky at hg;obtain⟨⟨hok,hz⟩,rfl⟩:=gP hg;have e1:=rr.length;have e2:=v.length;refine Calls.call_function_entry kind_sorted plain_sorted entry_sorted (args_sorted1 _) ?_;unfold Builtin.«sorted»;refine fS (m:=checkCount "sorted" 1 1 _) (gr ?_);refine fS (hc _ _ _ rfl fun h1 tk k1=>?_);refine fS (AD ?_ (by omega));have ho:(h1.push (seqObj "list" its.toArray 0)).get? h1.objs.size=some (seqObj "list" its.toArray 0):=jb _ rfl;have I1:Inv X pins σ H {s with heap:=h1,toks:=tk}:=I.kept k1
 have keep: ∀b o,h1.get? b=some o->(oh (h1.push (seqObj "list" its.toArray 0)) h1.objs.size its).get? b=some o:=fun b o e'=>by
  have hb:b≠h1.objs.size:=ip (iw e');refine iF _ (iF _ ?_);rw[DS _ _ _ _ hb];exact iF _ e'
 have I2:Inv X pins σ H {s with heap:=oh (h1.push (seqObj "list" its.toArray 0)) h1.objs.size its,toks:=tk}:=I1.kept keep;have dB: ∀i∈List.range its.length,i<its.length:=fun i hi=>by simpa using hi
 refine fS (kN (pk (s:={s with heap:=h1.push (seqObj "list" its.toArray 0),toks:=tk}) slot_list_sort ⟨_,ho,rfl⟩ entry_list_sort ?body (args_list_sort _)))
 case body=>
  have fin: ∀p:List Nat,p.Perm (List.range its.length)->p.map (fun i=>ds.getD i .non)=kr ltT ds->EP X pins σ Q (.ref h1.objs.size) {s with heap:=(oh (h1.push (seqObj "list" its.toArray 0)) h1.objs.size its).update h1.objs.size (Obj.mapSeq fun _=>(p.map fun i=>its.getD i Value.none).toArray),toks:=tk}:=fun p hp hs=>by
   have pi: ∀i∈p,i<its.length:=fun i hi=>by simpa using hp.mem_iff.mp hi
   have ob: ∃n,(oh (h1.push (seqObj "list" its.toArray 0)) h1.objs.size its).get? h1.objs.size=some (seqObj "list" #[] n):=by
    obtain⟨e1,y6⟩: ∃e1,((h1.push (seqObj "list" its.toArray 0)).update h1.objs.size (Obj.mapSeq fun _=>(#[]:Array Value))).get? h1.objs.size=some (seqObj "list" #[] e1):=⟨_,uz ho fun _=> #[]⟩
    exact⟨e1,iF _ (iF _ y6)⟩
   obtain⟨n,ob⟩:=ob;obtain⟨c2,aH⟩: ∃c2,((oh (h1.push (seqObj "list" its.toArray 0)) h1.objs.size its).update h1.objs.size (Obj.mapSeq fun _=>(p.map fun i=>its.getD i Value.none).toArray)).get? h1.objs.size=some (seqObj "list" (p.map fun i=>its.getD i Value.none).toArray c2):=⟨_,uz ob fun _=>(p.map fun i=>its.getD i Value.none).toArray⟩
   have keep2: ∀b o,h1.get? b=some o->((oh (h1.push (seqObj "list" its.toArray 0)) h1.objs.size its).update h1.objs.size (Obj.mapSeq fun _=>(p.map fun i=>its.getD i Value.none).toArray)).get? b=some o:=fun b o e'=>by
    rw[DS _ _ _ _ (ip (iw e'))];exact keep b o e'
   have pl:p.length=its.length:=by simpa using hp.length_eq
   refine⟨.ref h1.objs.size,_,I1.laid (t':=tk) keep2 (gY _) (show ObjOk X.prog X.w _ _ _ (.lst (p.map fun i=>xs.getD i .non)) from⟨by rw[iG];omega,_,c2,Cs v p pi,aH⟩),rfl,?_⟩;refine G.lst I1.fresh ?_;rw[<-hs];exact CL rr p fun i hi=>by have:=pi i hi;omega
  rcases Hh hok with hlen|⟨k,B⟩
  ·refine rE (κ:=general') (lt:=fun _ _=>false) (s:={s with heap:=h1.push (seqObj "list" its.toArray 0),toks:=tk}) ho (by omega) (Wk.mk (fun _=>rfl) (fun _ _ _ h=>absurd h iM) (fun _ _ _ h=>absurd h iM)) (fun h=>by omega) (fun h=>by omega) fun p hp _=>⟨_,rfl,gr ⟨_,rfl,fin p hp ?_⟩⟩
   exact EA (by omega) hlen hp
  ·refine rE (κ:=GC k) (lt:=fun i j=>ltT (ds.getD i .non) (ds.getD j .non)) (s:={s with heap:=h1.push (seqObj "list" its.toArray 0),toks:=tk}) ho (by omega) (OO _) (fun h=>QV I2 rr v B h) (fun _=>Tf (A:=X.A.in1.in1) I2 (by show X.A.units+1+1+60<cLine;omega) rr v B) fun p hp hs=>⟨_,rfl,gr ⟨_,rfl,fin p hp (Hg (by rw[show ds.length=its.length by omega];exact hp) hs)⟩⟩
theorem pf(hu:X.A.units+62<cLine):je X (.builtin "sorted") (rDn X.K (g1 nI)):=nR fun pins s σ H x u Q O d z I ru np hd hg G=>by
 obtain⟨l,hl,hg⟩:=fN hg
 have hz:l.length<=sizeLine:=by
  unfold ky at hg;exact(gP hg).1.2
 cases d with
 |lst m=>
  cases hl;obtain⟨p,xs,rfl,q,r⟩:=jw hd;cases ru;obtain⟨its,v,pl,_⟩:=I.list q;have e1:=r.length;have e2:=v.length;obtain⟨o,ho,hc,n,hd⟩:=pl.isList;refine qC hu I r v hg G fun Q' E' A' _ hQ=>DR p (.inl rfl) ho hc hd (fun h' k=>by simpa using hQ h' s.toks k) (by rw[iH];omega)
 |tup m=>
  cases hl;obtain⟨p,xs,rfl,q,r⟩:=lM hd;cases ru;obtain⟨its,v,⟨o,ho,hc,n,hd⟩,_⟩:=I.tuple q;have e1:=r.length;have e2:=v.length;refine qC hu I r v hg G fun Q' E' A' _ hQ=>DR p (.inr rfl) ho hc hd (fun h' k=>by simpa using hQ h' s.toks k) (by rw[iH];omega)
 |_=>cases hl
theorem Im:bootBuiltins "sorted"=some (.builtin "sorted"):=by decide+kernel
end
theorem zr:bootBuiltins "isinstance"=some (.builtin "isinstance"):=by decide+kernel
structure Tx(mg:kM):Prop where
 n_len:mg "len"=none
 n_abs:mg "abs"=none
 n_int:mg "int"=none
 n_tuple:mg "tuple"=none
 n_list:mg "list"=none
 n_range:mg "range"=none
 n_isinstance:mg "isinstance"=none
 n_bool:mg "bool"=none
 n_max:mg "max"=none
 n_min:mg "min"=none
 n_all:mg "all"=none
 n_any:mg "any"=none
 n_sorted:mg "sorted"=none
 n_enumerate:mg "enumerate"=none
 n_zip:mg "zip"=none
 n_set:mg "set"=none
theorem zS{K:gq}{H:Hp}{O:AP'}: ∀ns:List Int,RepL K H O (ns.map .int) (ns.map V.int)
 |[]=>RepL.nil
 |n::ns=>RepL.cons Rep.mkInt (zS ns)
theorem QU{K:gq}{ev:EvF}{H:Hp}{a:fR}{ns:gc}(hS:SqL K H a (ns.map V.int)){o:Bool}{outs:Dn}(h:ev [(.lst (ns.map .int),false)]=some ((.bl true,o),outs)):spF K ev [.ref a] H (fun v _=>v= .bl true) fun _ _ _=>False:=by
 have no: ∀b,¬OwnA [some (V.ref a)] [some (D.lst (ns.map .int),false)] b:=fun b ⟨i,d,h1,h2⟩=>by
  cases i with
  |zero=>simp at h1
  |succ i=>simp at h1
 refine⟨fun _=>False,[(.lst (ns.map .int),false)],_,outs,⟨rfl,fun i d hd=>?_,fun i d hd=>?_,fun i j d e b h1=>?_,fun b z=>absurd z (no b),fun b z=>z.elim⟩,h,fun v H' P=>?_⟩
 ·cases i with
  |zero=>
   simp at hd;subst hd;refine⟨_,rfl,Rep.mkLst (a:=a) (xs:=ns.map V.int) ?_ (zS ns)⟩;exact hS.imp (fun z=>⟨z,fun z=>z.elim (no a) id⟩) id
  |succ i=>simp at hd
 ·cases i with
  |zero=>simp at hd
  |succ i=>simp at hd
 ·cases i with
  |zero=>simp at h1
  |succ i=>simp at h1
 ·cases o with
  |false=>exact P.2.2.bl
  |true=>
   obtain⟨p,_,_,_,ok⟩:=P.2;exact ok.elim
def mU(op m4:CmpOp)(fa fb fc:FO):F:=fun δ=>(fa δ).bind fun p=>(fb p.2).bind fun q=>match res q.2 p.1,res q.2 q.1 with
 |some (.int i),some (.int j)=>if iX op i j=true then(fc q.2).bind fun r=>match res r.2 r.1 with
   |some (.int k)=>some ((.bl (iX m4 j k),false),r.2)
   |_=>none
  else some ((.bl false,false),q.2)
 |_,_=>none
section
variable {X:Cx}{a b c:gf}{fa fb fc:FO}{pos:Pos}{op m4:CmpOp}
theorem wL(h:oy op):OpR X (compareOp op) (rI0 fun i j=> .bl (iX op i j)):=by
 rcases h with rfl|rfl|rfl|rfl
 ·exact SD
 ·exact SF
 ·exact SH
 ·exact SI
theorem Ao(hw:tF X.K (mU op m4 fa fb fc) σ H Q):Ew (rI0 fun i j=> .bl (iX op i j)) (rI0 fun i j=> .bl (iX m4 i j)) (tO X.K fa) (tO X.K fb) (tO X.K fc) σ H Q:=by
 obtain⟨δ,T,rr,δ',E,e,k⟩:=hw;unfold mU at e;obtain⟨⟨o1,δ1⟩,h1,e⟩:=fN e;obtain⟨⟨o2,δ2⟩,h2,e⟩:=fN e;refine⟨δ,T,o1,δ1,E,h1,fun v H1 P1=>⟨δ1,zB T o1 v,o2,δ2,P1.er E,h2,fun u H2 P2=>?_⟩⟩;have B:=Ops.cons E P1 (Ops.cons (P1.er E) P2 (Ops.nil (P2.er (P1.er E))));dsimp only at e;split at e
 ·rename_i i j hx hy;have hv:=gx (B.view (j:=0) rfl rfl hx);have hu:=gx (B.view (j:=1) rfl rfl hy);refine⟨i,j,hv,hu,iX op i j,rfl,?_⟩;by_cases c:iX op i j=true
  ·rw[gd c] at e ⊢;obtain⟨⟨o3,δ3⟩,h3,e⟩:=fN e;dsimp only at e;split at e
   ·rename_i k' hz;obtain⟨rfl,rfl⟩:=gp e;refine⟨δ2,_,o3,δ3,P2.er (P1.er E),h3,fun w H3 P3=>?_⟩;have B3:=Ops.cons E P1 (Ops.cons (P1.er E) P2 (Ops.cons (P2.er (P1.er E)) P3 (Ops.nil (P3.er (P2.er (P1.er E))))));exact⟨j,k',hu,gx (B3.view (j:=2) rfl rfl hz),(B3.done k).bl⟩
   ·cases e
  ·rw[gk c] at e ⊢;obtain⟨rfl,rfl⟩:=gp e;exact(B.done k).bl
 ·cases e
theorem Kl(ho:oy op)(aa:oy m4)(ha:PO X a fa)(hb:PO X b fb)(hc:PO X c fc)(hm:lastMarks [op,m4] [b,c]=false:=by with_unfolding_all rfl):PX X (.Compare a [op,m4] [b,c] pos) (mU op m4 fa fb fc):=
 PX.imp (KR (wL ho) (wL aa) ha hb hc hm) fun σ H Q hw=>Ao hw
theorem Hr(ho:oy op)(aa:oy m4)(ha:PO X a fa)(hb:PO X b fb)(hc:PO X c fc)(hm:lastMarks [op,m4] [b,c]=false:=by with_unfolding_all rfl):PTX X (.Compare a [op,m4] [b,c] pos) (fT (mU op m4 fa fb fc)):=
 PT.imp' (Km (wL ho) (wL aa) ha hb hc hm) fun σ H Q hw=>Ao (JJ hw)
end
def vIs(x:V)(c:Bool):Bool:=match x with
 | .bl b=>b==c
 |_=>false
def vo:D->D->Option (D×Bool)
 | .bl b,.bl c=>some (.bl (!(b==c)),false)
 |_,.bl _=>some (.bl true,false)
 | .non,.non=>some (.bl false,false)
 |_,.non=>some (.bl true,false)
 |_,_=>none
section
variable {X:Cx}
theorem Ms(rx:RelV x v)(c:Bool):plainIs v (.bool c)=true/\(v== .bool c)=vIs x c:=by
 cases x<;>first
  |(cases rx;exact⟨rfl,rfl⟩)
  |(obtain⟨t,rfl⟩:=rx;exact⟨rfl,rfl⟩)
  |(rename_i b;cases rx;refine⟨rfl,?_⟩;cases b<;>cases c<;>rfl)
theorem zU:OpR X (compareOp .IsNot) (fun x y H Q=> ∃c,y= .bl c/\Q (.bl (!vIs x c)) H):=by
 intro pins s σ H x y v u Q I rx ry h;obtain⟨c,rfl,q⟩:=h;cases ry;obtain⟨h1,h2⟩:=Ms rx c;exact wpAny_isNot_plain h1 (LH I q (by rw[h2]))
theorem xD{K H}(h:ja K H O (.bl b) v):v= .bl b:=h.elim (fun h=>h.bl) fun⟨_,_,h⟩=>h.elim
theorem uV{K H}(h:ja K H O .non v):v= .non:=h.elim (fun h=>h.non) fun⟨_,_,h⟩=>h.elim
theorem JA{K H}(h:ja K H O d v)(nb: ∀b,d≠ .bl b)(c:Bool):vIs v c=false:=by
 cases d with
 |bl b=>exact absurd rfl (nb b)
 |non=>rw[uV h];rfl
 |int i=>rw[gx h];rfl
 |str x=>
   rcases h with h|⟨a,_,h⟩
   ·rw[h.str];rfl
   ·exact h.elim
 |tup l=>
   rcases h with h|⟨a,_,h⟩
   ·rw[Rep] at h;obtain⟨a,xs,rfl,_⟩:=h;rfl
   ·exact h.elim
 |lst l=>
   rcases h with h|⟨a,rfl,h⟩
   ·rw[Rep] at h;obtain⟨a,xs,rfl,_⟩:=h;rfl
   ·rfl
 |oth _ _ _=>
   rcases h with h|⟨a,rfl,h⟩
   ·rw[Rep] at h;obtain⟨a,xs,rfl,_⟩:=h;rfl
   ·rfl
theorem Cr{K H}(h:ja K H O d v)(nb:d≠ .non):v≠ .non:=by
 cases d with
 |bl b=>rw[xD h];intro z;cases z
 |non=>exact absurd rfl nb
 |int i=>rw[gx h];intro z;cases z
 |str x=>
   rcases h with h|⟨a,_,h⟩
   ·rw[h.str];intro z;cases z
   ·exact h.elim
 |tup l=>
   rcases h with h|⟨a,_,h⟩
   ·rw[Rep] at h;obtain⟨a,xs,rfl,_⟩:=h;intro z;cases z
   ·exact h.elim
 |lst l=>
   rcases h with h|⟨a,rfl,h⟩
   ·rw[Rep] at h;obtain⟨a,xs,rfl,_⟩:=h;intro z;cases z
   ·intro z;cases z
 |oth _ _ _=>
   rcases h with h|⟨a,rfl,h⟩
   ·rw[Rep] at h;obtain⟨a,xs,rfl,_⟩:=h;intro z;cases z
   ·intro z;cases z
theorem vc:OpR X (compareOp .IsNot) (rD X.K vo):=by
 intro pins s σ H x y v u Q I rx ry h;obtain⟨O,d,e,z,np,h1,h2,hg,G⟩:=h
 cases e with
 |bl c=>
  have hy:=xD h2;by_cases hb: ∃b,d= .bl b
  ·obtain⟨b,rfl⟩:=hb;cases hg;refine zU pins s σ H x y v u Q I rx ry ⟨c,hy,?_⟩;rw[xD h1];exact G.bl
  ·have nb: ∀b,d≠ .bl b:=fun b z=>hb ⟨b,z⟩;have hz:z=(.bl true,false):=by cases d<;>first|exact absurd rfl (nb _)|(cases hg;rfl)
   subst hz;refine zU pins s σ H x y v u Q I rx ry ⟨c,hy,?_⟩;rw[JA h1 nb c];exact G.bl
 |non=>
  have hy:=uV h2;by_cases hb:d= .non
  ·subst hb;cases hg;refine Gu pins s σ H x y v u Q I rx ry ⟨hy,?_⟩;rw[uV h1];exact G.bl
  ·have hz:z=(.bl true,false):=by cases d<;>first|exact absurd rfl hb|(cases hg;rfl)
   subst hz;refine Gu pins s σ H x y v u Q I rx ry ⟨hy,?_⟩;rw[lL (Cr h1 hb)];exact G.bl
 |_=>cases d<;>cases hg
end
end PX
namespace HT
open PySem PySem.Spec PyProof.Rows L2
section
variable {prog:gA}{w:gu}{A:gw}{E:gH}{s:fW}
theorem Fh{t sl:fR}{items:jz}{vl vu:gg}{lo hi:Option Int}{Q:gH}(ht:IsTup s.heap t items)(hs:s.heap.IsSliceOf sl vl vu .none)(pl:IsPart vl lo)(pu:IsPart vu hi)
  (hw:sIx items.size 0 lo=0/\sIx items.size items.size hi=items.size)(h:Q (.ref t) s):wpAny (model prog w) A (getItem (.ref t) (.ref sl)) Q E s:=by
 obtain⟨os,cc,bL,cW⟩:=id hs;have eZ:s.TypeIs (.ref sl) "slice":=⟨os,cc,bL⟩
 unfold getItem
 try with_reducible refine kN ?_
 first|refine fS (gr ?_)|skip
 refine fS (wpAny_sequenceKey ht.typeIs (by decide) ?_)
 refine fS (rk (name:=Str.ofString "__getitem__") ht.typeIs yY
  (pk yY ht.typeIs Jm ?_ (args_tuple_getitem _ _)))
 show wpAny _ _ (Builtin.Tuple.tupleItemsOf (.ref t)>>=_) _ _ s;refine fS (tupleItemsOf_ ht ?_);refine fS (uP eZ ?_);rw[gd (by decide)];refine fS (oi hs pl pu ?_);rw[hw.1,hw.2];show wpAny _ _ (if((((0:Nat):Int)==0&&(1:Int)==1&&(items.size-0)==items.size)=true) then _ else _) _ _ s;rw[gd (by simp)];refine fS (m:=Builtin.Tuple.tupleIsExact _) ?_;unfold Builtin.Tuple.tupleIsExact;refine fS (uP ht.typeIs ?_);refine gr ?_;rw[gd (by decide)];refine fS (sM ?_)
 first
  |exact fS (gr ⟨_,rfl,gr h⟩)
  |exact gr ⟨_,rfl,gr h⟩
  |exact fS (gr (gr ⟨_,rfl,gr h⟩))
  |(refine fS ?_;trace_state;done)
end
end HT
namespace PX
open PySem PySem.Spec PyProof.Rows L2 PySem.SeqAt
def An(l:List D)(lo hi:Option Int):List D:=(l.drop (HT.sIx l.length 0 lo)).take (HT.sIx l.length l.length hi-HT.sIx l.length 0 lo)
def gSl(lo hi:Option Int):D->Option (D×Bool)
 | .tup l=>some (.tup (An l lo hi),false)
 | .lst l=>some (.lst (An l lo hi),true)
 |_=>none
def UH(K:gq):V->Option Int->Option Int->Hp->VK->Prop:=fun x lo hi H Q=> ∃(O:AP') (d:D) (z:D×Bool),(∀p,¬Ow (H p)-> ¬O p)/\ja K H O d x/\gSl lo hi d=some z/\Gen K H O z Q
theorem RepL.cut{K H}(r:RepL K H O l xs)(lo hi:Option Int):RepL K H O (An l lo hi) (Du xs lo hi):=by
 unfold An Du;rw[r.length];exact(r.drop _).take _
section
variable {X:Cx}
theorem CC{pins:gE}{s:fW}{σ:L2.St}{H:Hp}{a:fR}{v vl vu:gg}{lo hi:Option Int}{sl:fR}{Q:VK}{O:AP'}{l:List D}{xs:List V}(I:Inv X pins σ H s)(rx:RelV (.ref a) v)(hs:s.heap.IsSliceOf sl vl vu .none)(pl:IsPart vl lo)(pu:IsPart vu hi)
  (q:SqL X.K H a xs)(r:RepL X.K H O l xs)(G:Gen X.K H O (.lst (An l lo hi),true) Q): ∃T id,typeLookup (.type T) "__getitem__"=pure (some (.builtin id))/\s.TypeIs v T/\wpAny (model X.prog X.w) X.A (getItem v (.ref sl)) (EP X pins σ Q) X.xe s:=
 Mw pins s σ H (.ref a) v vl vu lo hi sl Q I rx hs pl pu ⟨a,xs,rfl,q,fun p hp=>G.lst hp (r.cut lo hi)⟩
theorem R8:SlR X (UH X.K):=by
 intro pins s σ H x v vl vu lo hi sl Q I rx hs pl pu h;obtain⟨O,d,z,np,hd,hg,G⟩:=h
 cases d with
 |tup l=>
  cases hg;rcases hd with hd|⟨a,_,h⟩
  ·obtain⟨a,xs,rfl,q,r⟩:=hd.tup;by_cases hw:HT.sIx xs.length 0 lo=0/\HT.sIx xs.length xs.length hi=xs.length
   ·cases rx;obtain⟨its,rv,ht,hz⟩:=I.tuple q.sq;have hlen:its.toArray.size=xs.length:=by rw[iH];exact rv.length.symm
    refine⟨"tuple",_,yY.lookup,ht.typeIs,?_⟩;refine HT.Fh ht hs pl pu (by rw[hlen];exact hw) ⟨.ref a,H,I,rfl,?_⟩
    have e:An l lo hi=l:=by
     unfold An;rw[<-r.length,hw.1,hw.2];simp[r.length]
    rw[e] at G;exact G (.ref a) H (fun _ _ e=>e) hd
   ·exact OZ pins s σ H (.ref a) v vl vu lo hi sl Q I rx hs pl pu ⟨a,xs,rfl,q.sq,hw,fun p hp=>G.tup hp (np p (nOw hp)) (r.cut lo hi)⟩
  ·exact h.elim
 |lst l=>
  cases hg;rcases hd with hd|⟨a,rfl,h⟩
  ·obtain⟨a,xs,rfl,q,r⟩:=hd.lst;exact CC I rx hs pl pu q.sq r G
  ·obtain⟨xs,e,r⟩:=h;exact CC I rx hs pl pu (.inl (.inl e)) r G
 |_=>cases hg
end
def yE(fa fl:FO):F:=fun δ=>(fa δ).bind fun p=>(fl p.2).bind fun q=>match res q.2 q.1 with
 |some (.int i)=>(res q.2 p.1).bind fun x=>(gSl (some i) none x).bind fun z=>some (z,q.2)
 |_=>none
def Dp(fa fh:FO):F:=fun δ=>(fa δ).bind fun p=>(fh p.2).bind fun q=>match res q.2 q.1 with
 |some (.int i)=>(res q.2 p.1).bind fun x=>(gSl none (some i) x).bind fun z=>some (z,q.2)
 |_=>none
section
variable {X:Cx}{a lo hi:gf}{fa fl fh:FO}{pos p2:Pos}
theorem MK(ha:PO X a fa)(hl:PO X lo fl):PX X (.Subscript a (.Slice (some lo) none none p2) pos) (yE fa fl):=
 PX.imp (CQ R8 ha (Gj hl) Gk) fun σ H Q hw=>by
  obtain⟨δ,T,rr,δ',E,e,k⟩:=hw;unfold yE at e;obtain⟨⟨o1,δ1⟩,h1,e⟩:=fN e;obtain⟨⟨o2,δ2⟩,h2,e⟩:=fN e;dsimp only at e;split at e
  ·rename_i i hi;obtain⟨x,hx,e⟩:=fN e;obtain⟨z,hz,e⟩:=fN e;obtain⟨rfl,rfl⟩:=gp e;refine⟨δ,T,o1,δ1,E,h1,fun v H1 P1=>⟨δ1,zB T o1 v,o2,δ2,P1.er E,h2,fun u H2 P2=>?_⟩⟩;have B:=Ops.cons E P1 (Ops.cons (P1.er E) P2 (Ops.nil (P2.er (P1.er E))));exact⟨i,gx (B.view (j:=1) rfl rfl hi),_,x,z,fun p hp=>B.np hp,B.view (j:=0) rfl rfl hx,hz,B.done k⟩
  ·cases e
theorem ML(ha:PO X a fa)(hl:PO X hi fh):PX X (.Subscript a (.Slice none (some hi) none p2) pos) (Dp fa fh):=
 PX.imp (CQ R8 ha Gk (Gj hl)) fun σ H Q hw=>by
  obtain⟨δ,T,rr,δ',E,e,k⟩:=hw;unfold Dp at e;obtain⟨⟨o1,δ1⟩,h1,e⟩:=fN e;obtain⟨⟨o2,δ2⟩,h2,e⟩:=fN e;dsimp only at e;split at e
  ·rename_i i hi;obtain⟨x,hx,e⟩:=fN e;obtain⟨z,hz,e⟩:=fN e;obtain⟨rfl,rfl⟩:=gp e;refine⟨δ,T,o1,δ1,E,h1,fun v H1 P1=>⟨δ1,zB T o1 v,o2,δ2,P1.er E,h2,fun u H2 P2=>?_⟩⟩;have B:=Ops.cons E P1 (Ops.cons (P1.er E) P2 (Ops.nil (P2.er (P1.er E))));exact⟨i,gx (B.view (j:=1) rfl rfl hi),_,x,z,fun p hp=>B.np hp,B.view (j:=0) rfl rfl hx,hz,B.done k⟩
  ·cases e
end
end PX
namespace L2
open PySem PySem.Spec PyProof.Rows
section
variable {X:Cx}
def N8(J:It)(g:TG)(ti:TT)(tb:Addr->TB)(pre:St->St)(σ:St)(H:Hp)(Q:VK):Prop:=
 ∀d,H d=none->zL J g ti (tb d) (pre σ) (upd H d (.set (fun _=>false) 0)) fun _ H2=>Q (.ref d) H2
theorem Ie{elt:gf}{c:lY}{gL:mH}{scope:iK}{pos:Pos}{N':gZ}{pre:St->St}{g:TG}{ti:TT}{tb:Addr->TB}{cx:jS}{J:It}{fp:iN}{it:fR}{tn:Nat->Heap->Prop}
  (S:CompScope X N' scope pre)(hc:X.calm=true)(ha:c.is_async=0)(k0: ∀g',gL[0]?=some g'->g'.is_async=0)
  (t8: ∀(cl:jS) (C:fR) (s3:fW) (H3:Hp) (fp:iN) (pins:gE),let X':=X.comp N' scope cl C s3 H3 fp pins
   PG X' c.target g/\PIf X' c.ifs ti/\ ∀d,PB X' (gK (.SetComp elt (c::gL) scope pos) 0 (.ref d) X'.env) (tb d))
  (m5: ∀x c,cx.lookup x=some c->X.env.cells.lookup x=some c)(l6: ∀x,(x,NameKind.free)∈scope.names-> ∃c,cx.lookup x=some c)
  {pins:gE}{s2:fW}{σ:St}{H2:Hp}{Q:VK}{E:gH}{RR:Value->Addr->Result->Shared->Prop}(I2:Inv X pins σ H2 s2)(T:Turn X.prog X.w X.K c.target J fp it tn)(g0:tn 0 s2.heap)(f2: ∀b∈fp,nS X pins H2 b)
  (h:N8 J g ti tb pre σ H2 Q)
  (fg: ∀(d:fR) (cl:jS) (s3:fW) (H3 H4:Hp) (σ':St) (s4:fW),Inv X pins σ H3 s3->(∀b∈fp,nS X pins H3 b)->Inv (X.comp N' scope cl s3.heap.objs.size s3 H3 fp pins) [] σ' H4 s4->Q (.ref d) H4->RR (.ref d) s3.heap.objs.size (.ok .next) s4):
  wpAny (model X.prog X.w) X.A (newSet (.type "set")) (fun acc s₃=>wpAny (model X.prog X.w) X.A (newFunctionEnv scope X.env.globals cx [] X.env.qual none .none (some X.env)) (fun aJ s₄=>
   codeAny (model X.prog X.w) X.A (.compStart (.SetComp elt (c::gL) scope pos) 0 (.ref it) acc {aJ with scope:=relabel scope X.env}) (RR acc aJ.locals) s₄) E s₃) E s2:=by
 refine wpAny_newSet_of (knd:=intKind X.prog X.w) fun led hS=>?_;have I3:Inv X pins σ (upd H2 s2.heap.objs.size (.set (fun _=>false) 0)) {s2 with heap:=s2.heap.push {cls:= .type "set",dict:=none,data:= .set #[] 0 (.fresh 0 0 led)}}:=I2.laid (t':=s2.toks) (o:= .set (fun _=>false) 0) (fun b ob q=>iF _ q) (gY _) hS;have fo: ∀b∈fp,b<s2.heap.objs.size:=fun b hb=>by obtain⟨o,e,_⟩:=T.obj _ _ g0 b hb;exact iw e
 have ff: ∀b∈fp,nS X pins (upd H2 s2.heap.objs.size (.set (fun _=>false) 0)) b:=fun b hb=>⟨by rw[gG (ip (fo b hb))];exact(f2 b hb).1,(f2 b hb).2⟩
 refine Gw S.cell m5 l6 fun h1 cl aO dD B=>?_;have hk: ∀b o,(s2.heap.push {cls:= .type "set",dict:=none,data:= .set #[] 0 (.fresh 0 0 led)}).get? b=some o->h1.get? b=some o:=dD;have cn: ∀b∈fp,b<(s2.heap.push {cls:= .type "set",dict:=none,data:= .set #[] 0 (.fresh 0 0 led)}).objs.size:=fun b hb=>by rw[pN];exact uK (fo b hb)
 have J0:=GS (t':=s2.toks) S I3 B ff cn aO hk;obtain⟨pg,av,pb⟩:=t8 cl (s2.heap.push {cls:= .type "set",dict:=none,data:= .set #[] 0 (.fresh 0 0 led)}).objs.size {s2 with heap:=s2.heap.push {cls:= .type "set",dict:=none,data:= .set #[] 0 (.fresh 0 0 led)}} (upd H2 s2.heap.objs.size (.set (fun _=>false) 0)) fp pins;have o8:tn 0 h1:=T.keep _ _ _ g0 fun b hb o e=>hk b o (iF _ e);have hw:=h s2.heap.objs.size (I2.hok.fresh (gY _))
 have fv: ∀b∈fp,nS (X.comp N' scope cl (s2.heap.push {cls:= .type "set",dict:=none,data:= .set #[] 0 (.fresh 0 0 led)}).objs.size {s2 with heap:=s2.heap.push {cls:= .type "set",dict:=none,data:= .set #[] 0 (.fresh 0 0 led)}} (upd H2 s2.heap.objs.size (.set (fun _=>false) 0)) fp pins) []
   (upd H2 s2.heap.objs.size (.set (fun _=>false) 0)) b:=fun b hb=>by
  obtain⟨z1,z2,z3,z4,z5,z6⟩:=ff b hb;refine⟨z1,ip (cn b hb),fun z=>(jQ.mp (I3.stkSub b z)).elim z2 z3,.inl hb,fun x c hx=>(B.ex x c hx).elim (z5 x c) fun z=>md (AX (cn b hb) z),fun p hp=>z6 p (by simpa[Cx.comp] using hp)⟩
 have hl:(∃el gens sc p,Expr.SetComp elt (c::gL) scope pos= .ListComp el gens sc p)\/(∃el gens sc p,Expr.SetComp elt (c::gL) scope pos= .SetComp el gens sc p):= .inr ⟨_,_,_,_,rfl⟩;refine xM hl rfl ha ?_ (fun Q' E' hq=>T.self X.A 0 _ Q' E' o8 hq)
 refine sO (BF (X:=X.comp N' scope cl (s2.heap.push {cls:= .type "set",dict:=none,data:= .set #[] 0 (.fresh 0 0 led)}).objs.size {s2 with heap:=s2.heap.push {cls:= .type "set",dict:=none,data:= .set #[] 0 (.fresh 0 0 led)}} (upd H2 s2.heap.objs.size (.set (fun _=>false) 0)) fp pins)
  (depth:=0) (acc:= .ref s2.heap.objs.size) rfl hc hl rfl ha (fun g' cB=>k0 g' (by simpa[clausesOf] using cB)) T pg av (pb _) J0 fv o8 hw) fun r s4 hr=>?_
 obtain⟨rfl,σ4,H4,I4,_,q⟩:=hr;exact fg _ _ _ _ _ _ _ I3 ff I4 q
def A9(wi:TI)(g:TG)(ti:TT)(tb:Addr->TB)(pre:St->St):TE:=fun σ H Q=>wi σ H fun J H1=>N8 J g ti tb pre σ H1 Q
theorem KJ{elt:gf}{c:lY}{gL:mH}{scope:iK}{pos:Pos}{N':gZ}{pre:St->St}{wi:TI}{g:TG}{ti:TT}{tb:Addr->TB}
  (S:CompScope X N' scope pre)(hc:X.calm=true)(ha:c.is_async=0)(k0: ∀g',gL[0]?=some g'->g'.is_async=0)
  (hs: ∀x,foldedSetIterable c.iter X.env x=pure x)(pi:PI X c.target c.iter wi)
  (t8: ∀(cl:jS) (C:fR) (s3:fW) (H3:Hp) (fp:iN) (pins:gE),let X':=X.comp N' scope cl C s3 H3 fp pins
   PG X' c.target g/\PIf X' c.ifs ti/\ ∀d,PB X' (gK (.SetComp elt (c::gL) scope pos) 0 (.ref d) X'.env) (tb d)):
  PE X (.SetComp elt (c::gL) scope pos) (A9 wi g ti tb pre):=by
 intro pins s σ H Q I h;obtain⟨tg,aZ,ifs,az⟩:=c;obtain rfl:az=0:=ha;obtain⟨cl,o6,m5,l6⟩:=sy X.env scope fun x hx hf=>I.ok.has x.1 (S.free x hx hf);rw[arm_eval_SetComp];show wpAny _ X.A (comprehension _ scope X.env _ (newSet (.type "set")) false (eval aZ X.env)) _ _ s;refine D8 (use:=none) (g:=⟨tg,aZ,ifs,0⟩) (gs:=gL) rfl hs o6 S.kind S.names (thn (pi pins s σ H _ I h) fun v s1 h1=>thn h1 fun cA s2 h2=>?_);obtain⟨it,fp,tn,J,H2,rfl,I2,T,g0,f2,hw⟩:=h2;refine Ie (RR:=fun acc C=>compPost (model X.prog X.w) X.A X.xe none (EP X pins σ Q) acc C) S hc rfl k0 t8 m5 l6 I2 T g0 f2 hw fun d cl' s3 H3 H4 σ' s4 I3 ff J4 q=>?_;obtain⟨m,hn,_⟩:=id J4.loc;exact⟨m,hn,fun h' aN=>⟨.ref d,H4,yK I3 ff J4 aN,rfl,q⟩⟩
def OU(d:fR)(te:TE):TB:=fun σ H N=>te σ H fun y H1=> ∃k S n,y= .int k/\H1 d=some (.set S n)/\n+1<scanBound/\N σ (upd H1 d (.set (fun k'=>S k'||decide (k'=k)) (if S k then n else n+1)))
theorem KU{elt:gf}{gens:mH}{sc:iK}{p:Pos}{depth:Nat}{d:fR}{te:TE}(hn:gens[depth+1]?=none)(he:PE X elt te):PB X (gK (.SetComp elt gens sc p) depth (.ref d) X.env) (OU d te):=by
 intro pins s σ H N I h
 have e1:gK (.SetComp elt gens sc p) depth (.ref d) X.env=(do let v <-eval elt X.env;standAt elt.pos;let _ <-call (.builtin "set.add") [.ref d,v]):=by
  unfold gK;simp only[clausesOf];rw[hn]
 rw[e1];refine fS (thn (he pins s σ H _ I h) fun u s1 ⟨y,H1,I1,ru,k,S,n,ey,hd,hz,q⟩=>?_);subst ey;obtain⟨t,rfl⟩:=ru;have hS:s1.heap.SetOf (intKind X.prog X.w) d S n:=I1.hok d _ hd;refine fS (vR (fS (call_set_add (knd:=intKind X.prog X.w) (k:=k) (intKind_is _ _ k t) rfl hS hz fun h' aN bM=>gr ⟨σ,_,?_,q⟩)));refine I1.write (x:=d) (e:=d) (by rw[hd];exact trivial) (.inl rfl) (fun b u hb hu=>by rw[aN.2 b hb];exact hu) ?_ bM;obtain⟨o,_,_,_,ho,_⟩:=bM;exact⟨o,ho⟩
end
end L2
namespace PX
open PySem PySem.Spec PyProof.Rows L2 PySem.SeqAt
def tf(p:(Int->Bool)×Nat)(d:D):(Int->Bool)×Nat:=match d with
 | .int k=>(fun k'=>p.1 k'||decide (k'=k),if p.1 k then p.2 else p.2+1)
 |_=>p
def lN(l:List D):(Int->Bool)×Nat:=l.foldl tf (fun _=>false,0)
theorem zQ(l:List D)(k:Int):lN (l++[.int k])=((fun k'=>(lN l).1 k'||decide (k'=k)),if(lN l).1 k then(lN l).2 else(lN l).2+1):=by
 unfold lN;rw[List.foldl_append];rfl
theorem F9: ∀(l:List D) (p:(Int->Bool)×Nat),(l.foldl tf p).2<=p.2+l.length
 |[],p=>gY _
 |d::l,p=>by
  have:=F9 l (tf p d)
  have h:(tf p d).2<=p.2+1:=by
   unfold tf;split
   ·dsimp only;split<;>omega
   ·omega
  simp only[List.foldl_cons,km];omega
structure BSs(K:gq)(d:fR)(T:AP')(σ:L2.St)(δ:Dn)(acc:List D)(H:Hp):Prop where
 er:ER K H T σ δ
 td:T d
 at':H d=some (.set (lN acc).1 (lN acc).2)
def Ex(K:gq)(A:iu)(d:fR)(f:FB):TB:=fun σ H N=> ∃δ T acc i3 δ',BSs K d T σ δ acc H/\f acc δ=some (i3,δ')/\ ∀σ' H',SKd A d σ δ H σ' δ' H'->BSs K d T σ' δ' i3 H'->N σ' H'
def yS(f:F):FB:=fun acc δ=>(f δ).bind fun p=>match p.1.1 with
 | .int k=>if acc.length+1<scanBound then some (acc++[.int k],p.2) else none
 |_=>none
section
variable {K:gq}{A:iu}{d:fR}{T:AP'}{σ σ1:L2.St}{δ δ1:Dn}{acc:List D}{H H1:Hp}
theorem BSs.step(b:BSs K d T σ δ acc H)(k:SK A σ δ H σ1 δ1 H1)(E1:ER K H1 T σ1 δ1):BSs K d T σ1 δ1 acc H1:=⟨E1,b.td,k.kp d _ b.at' fun z=>b.er.nT d z b.td⟩
theorem Le(hg: ∀v σ H Q,tG K A tg v σ H Q->g v σ H Q)(hi: ∀σ H Q,tT K ft σ H Q->ti σ H Q)(hb: ∀σ H N,Ex K A d fb σ H N->tb σ H N)
  (b:BSs K d T σ δ acc H)(P O:AP')(ok:ItOk K J ds P O H1)(s1: ∀a o,H1 a=some o-> ¬P a->H a=some o)(s0: ∀a,H1 a≠none->OwnA σ δ a\/a=d->P a)(s2: ∀a,H1 a≠none->(OwnA σ δ a\/T a)->O a)(s3: ∀a,H1 a≠none->H a≠none)(e:iP tg ft fb ds acc δ=some (i3,δ'))
  (k: ∀σ' H',SKd A d σ δ H σ' δ' H'->BSs K d T σ' δ' i3 H'->N σ' H'):zL J g ti tb σ H N:=by
 refine⟨fun i m σ2 H2=>m=ds.length-i/\i<=ds.length/\ ∃δ2 p7,SKd A d σ δ H σ2 δ2 H2/\BSs K d T σ2 δ2 p7 H2/\iP tg ft fb (ds.drop i) p7 δ2=some (i3,δ'),⟨ds.length,by simp,mJ _,δ,acc,SK.refl.skd,b,by simpa using e⟩,?_⟩;rintro i m σ2 H2 ⟨rfl,hle,δ2,p7,S2,B2,e2⟩
 have hO: ∀a,H1 a≠none->(OwnA σ2 δ2 a\/T a)->O a:=fun a ha z=>by
  rcases z with z|z
  ·exact(S2.ow a z).elim (fun z=>s2 a ha (.inl z)) fun z=>absurd z (s3 a ha)
  ·exact s2 a ha (.inr z)
 have v8: ∀a o,H1 a=some o-> ¬P a->H2 a=some o:=fun a o ea n=>S2.kp a o (s1 a o ea n) (fun z=>n (s0 a (by rw[ea];simp) (.inl z))) fun z=>n (s0 a (by rw[ea];simp) (.inr z));by_cases n9:i<ds.length
 ·refine .inr ?_;have hd:ds[i]?=some ds[i]:=hX n9;obtain⟨go,yl⟩:=ok.go i _ H2 hd v8;rw[sL n9] at e2;obtain⟨δ3,h3,e3⟩:=fN e2;obtain⟨⟨c,δ4⟩,h4,e4⟩:=fN e3;obtain⟨⟨aK,δ5⟩,h5,e5⟩:=fN e4;refine⟨go,fun x H' hy=>?_⟩;obtain⟨ext,rep⟩:=yl x H' hy;have cz:ER K H' T σ2 δ2:=B2.er.mono (fun b ob eb _=>ext b ob eb) (fun _ _ z=>z) (fun a z=>(B2.er.dom a z).up (ext a));have SX:SK A σ2 δ2 H2 σ2 δ2 H':=(Keep.ext ext).sk;have fM:=B2.step SX cz;have dc:SKd A d σ δ H σ2 δ2 H':=S2.trans SX.skd;have rx:=rep (fun a=>OwnA σ2 δ2 a\/T a) hO (fun b hb z=>z.elim (fun z=>B2.er.ownDom z hb) fun z=>(B2.er.dom b z).ne hb);refine hg _ _ _ _ ⟨δ2,T,ds[i],δ3,cz,rx,h3,fun σ3 S3 E3=>?_⟩;have B3:=fM.step S3 E3;have bD:=dc.trans S3.skd;refine hi _ _ _ ⟨δ3,T,c,δ4,E3,h4,fun H4 K4 E4=>?_⟩;have S4:SK A σ3 δ3 H' σ3 δ4 H4:=K4.sk;have B4:=B3.step S4 E4;have da:=bD.trans S4.skd
  cases c with
  |false=>
   rw[gk iM] at h5;obtain⟨rfl,rfl⟩:=gp h5;exact Q4 ⟨ds.length-(i+1),by omega,rfl,n9,δ4,p7,da,B4,e5⟩
  |true=>
   rw[gd rfl] at h5;exact Q3 (hb _ _ _ ⟨δ4,T,p7,aK,δ5,B4,h5,fun σ5 H5 S5 B5=>⟨ds.length-(i+1),by omega,rfl,n9,δ5,aK,da.trans S5,B5,e5⟩⟩)
 ·refine .inl ⟨ok.stop i H2 (by omega) v8,?_⟩;rw[uH (by omega)] at e2;obtain⟨rfl,rfl⟩:=gp e2;exact k σ2 H2 S2 B2
end
section
variable {X:Cx}{A:iu}{d:fR}{elt:gf}{f:F}
theorem HC{gens:mH}{sc:iK}{p:Pos}{depth:Nat}(hn:gens[depth+1]?=none)(he:PX X elt f):PB X (gK (.SetComp elt gens sc p) depth (.ref d) X.env) (Ex X.K A d (yS f)):=PB.imp' (KU hn he) fun σ H N hw=>by
 obtain⟨δ,T,acc,i3,δ',B,e,k⟩:=hw;obtain⟨⟨r,δ1⟩,h1,e⟩:=fN e;obtain⟨r1,r2⟩:=r
 cases r1 with
 |int i=>
  obtain⟨hz,e⟩:=gP e;obtain⟨rfl,rfl⟩:=vL e;refine⟨δ,T,(.int i,r2),δ1,B.er,h1,fun v H1 P=>?_⟩;obtain⟨E1,rv⟩:=P.rep B.er;have hv:v= .int i:=rv.int;have S1:SK A σ δ H σ δ1 H1:=P.1.sk;have B1:=B.step S1 E1;have hle:=F9 acc (fun _=>false,0);refine⟨i,_,_,hv,B1.at',by unfold lN;omega,k σ _ ?_ ?_⟩
  ·have:SKd A d σ δ1 H1 σ δ1 (upd H1 d (.set (fun k'=>(lN acc).1 k'||decide (k'=i)) (if(lN acc).1 i then(lN acc).2 else(lN acc).2+1))):=⟨fun a o e n nd=>by rw[gG nd];exact e,fun i a z=> .inl z,fun a z=>by
    by_cases ha:a=d
    ·subst ha;rw[gF];simp
    ·rw[gG ha];exact z,fun _ _=>rfl⟩
   exact S1.skd.trans this
  ·refine⟨E1.mono (fun b o e n=>by rw[gG (by intro z;subst z;exact n B.td)];exact e) (fun _ _ z=>z) (fun a z=>?_),B.td,?_⟩
   ·by_cases ha:a=d
    ·subst ha;rw[gF];trivial
    ·rw[gG ha];exact E1.dom a z
   ·rw[gF,zQ]
 |_=>cases e
end
def qQ(caps:hU)(k:Nat)(fi:FIt)(tg:Tg)(ti:FT)(fb:FB):F:=fun δ=>(fi δ).bind fun p=>(iR p.2 (caps.map .slot)).bind fun args=>
 if(gv (caps.map .slot) args).Nodup then(iP tg ti fb p.1 [] (args.map some++List.replicate k none)).bind fun q=>some ((.int (lN q.1).2,false),wb (caps.map .slot) args (gC args q.2) p.2) else none
theorem Ig{K:gq}{caps:hU}{k:Nat}{fi:FIt}{tg:Tg}{ti:FT}{fb:FB}{σ:L2.St}{H:Hp}{Q:VK}(h:tF K (qQ caps k fi tg ti fb) σ H Q):
  A9 (tI K (fun i=>i∉caps) fi) (tG K (fun i=>caps.length<=i) tg) (tT K ti) (fun d=>Ex K (fun i=>caps.length<=i) d fb) (yb caps k) σ H (fun x H1=> ∃S n,∃a,x= .ref a/\H1 a=some (.set S n)/\Q (.int n) H1):=by
 obtain⟨δ,T,rr,δr,E,e,kq⟩:=h;obtain⟨⟨ds,δ1⟩,h1,e⟩:=fN e;obtain⟨args,ha,e⟩:=fN e;dsimp only at e ha;split at e
 case isFalse=>cases e
 rename_i nd;obtain⟨⟨acc,δ'⟩,h2,e⟩:=fN e;obtain⟨rfl,rfl⟩:=gp e;refine⟨δ,T,ds,δ1,E,h1,fun J H1 K1 E1 ok d hd=>?_⟩;obtain⟨hl,hg⟩:=lA ha;have hl':args.length=caps.length:=by simpa using hl
 let vs:List V:=caps.map fun j=>((σ[j]?).join).getD .non
 have there: ∀(i j:Nat),caps[i]?=some j-> ∃v,σ[j]?=some (some v):=fun i j hj=>by
  have hi:i<args.length:=by have:=(wz.mp hj).1;omega
  obtain⟨o,q1,q2⟩:=hg i _ (hX hi);rw[jr,hj] at q1;cases q1;have q3:=ox q2;generalize args[i]=y at q3;obtain⟨x,b⟩:=y
  cases b with
  |false=>obtain⟨v,h,_⟩:=E1.val j x q3;exact⟨v,h⟩
  |true=>obtain⟨a,h,_⟩:=E1.own j x q3;exact⟨_,h⟩
 have cP: ∀(i j:Nat),caps[i]?=some j-> ∃v,vs[i]?=some v/\σ[j]?=some (some v):=fun i j hj=>by
  obtain⟨v,hv⟩:=there i j hj;refine⟨v,?_,hv⟩;show(caps.map fun j=>((σ[j]?).join).getD .non)[i]?=some v;rw[jr,hj];simp[hv]
 have w9:yb caps k σ=vs.map some++List.replicate k none:=by
  unfold yb
  congr 1
  apply rP;intro i;show _=((caps.map fun j=>((σ[j]?).join).getD .non).map some)[i]?;rw[jr,jr,jr]
  cases hj:caps[i]? with
  |none=>rfl
  |some j=>obtain⟨v,hv⟩:=there i j hj;simp[hv]
 have B0:Ops K T σ δ1 H1 (caps.map Opd.slot) vs δ1 H1 T:=by
  refine⟨by simp[vs],.refl,E1,fun _ z=>z,fun j x v hj=>?_,fun j x v hj=>?_,fun j i v hj hv=>?_⟩
  ·rw[jr] at hj;obtain⟨_,_,z⟩:=gU hj;cases z
  ·rw[jr] at hj;obtain⟨_,_,z⟩:=gU hj;cases z
  ·rw[jr] at hj;obtain⟨c,hc,z⟩:=gU hj;cases z;obtain⟨v',q1,q2⟩:=cP j i hc;rw[hv] at q1;cases q1;exact q2
 have Ec:=BY E1 B0 ha nd
 have hA: ∀(i:Nat) x,args[i]?=some (x,true)-> ¬(caps.length<=i):=fun i x hx=>by
  have:=(wz.mp hx).1;omega
 rw[w9];have hx:=jY (o:= .set (fun _=>false) 0) hd
 have nz: ∀a,H1 a≠none->upd H1 d (.set (fun _=>false) 0) a≠none:=fun a z=>by
  cases hh:H1 a with
  |none=>exact absurd hh z
  |some o=>rw[hx a o hh];simp
 have b0:BSs K d (fun a=>Tc T σ δ1 vs args a\/a=d) (vs.map some++List.replicate k none) (args.map some++List.replicate k none) [] (upd H1 d (.set (fun _=>false) 0)):=by
  refine⟨(Ec.pad).mono (fun b o eb _=>hx b o eb) (fun b hb z=>z.elim id fun z=>by subst z;exact absurd hd hb) (fun a z=>?_),.inr rfl,gF⟩;rcases z with z|z
  ·exact(Ec.dom a z).up (hx a)
  ·subst z;rw[gF];trivial
 refine Le (fun _ _ _ _ h=>h) (fun _ _ _ h=>h) (fun _ _ _ h=>h) b0 _ _ ok (fun a o ea _=>hx a o ea) (fun a cu z=>?_) (fun a cu z=>?_) nz h2 fun σ' H2 S2 B2=>?_
 ·rcases z with z|z
  ·obtain⟨j,x,g1,g2⟩:=HD.mp z;obtain⟨i,_,q1,_,q3⟩:=Ad B0 ha ⟨x,g1,g2⟩;refine .inl ⟨i,fun n=>n ?_,q3⟩;rw[jr] at q1;obtain⟨c,hc,e⟩:=gU q1;cases e;exact uQ hc
  ·subst z;exact absurd hd cu
 ·rcases z with z|z|z
  ·exact .inl (C4 B0 ha (HD.mp z))
  ·rcases z with z|z
   ·exact .inr z
   ·exact .inl z.1
  ·subst z;exact absurd hd cu
 ·have SS:SK (fun i=>caps.length<=i) (vs.map some++List.replicate k none) (args.map some++List.replicate k none) H1 σ' δ' H2:=
   ⟨fun a o ea n=>S2.kp a o (hx a o ea) n (by intro z;subst z;rw[ea] at hd;cases hd),fun i a z=>(S2.owi i a z).imp id fun z=>by
    cases hh:H1 a with
    |none=>rfl
    |some o=>exact absurd z (nz a (by rw[hh];simp)),fun a z=>S2.dm a (nz a z),S2.as⟩
  have P:=qV (r:=(.int (lN acc).2,false)) (v:= .int (lN acc).2) Ec SS hA ⟨B2.er.mono (fun _ _ e _=>e) (fun b _ z=> .inl z) (fun a z=>B2.er.dom a (.inl z)),Rep.mkInt⟩;exact⟨_,_,d,rfl,B2.at',kq (.int (lN acc).2) H2 ((yM E1 B0 ha nd P).pre K1)⟩
section
variable {X:Cx}{elt:gf}{c:lY}{gL:mH}{scope:iK}{pos pos' p:Pos}{N':gZ}{caps:hU}{k:Nat}{fi:FIt}{tg:Tg}{ti:FT}{fb:FB}
theorem Ij:je X (.builtin "len") (fun xs H Q=> ∃S n,∃a,xs=[.ref a]/\H a=some (.set S n)/\Q (.int n) H):=by
 intro pins s σ H xs us Q I r h;obtain⟨S,n,a,rfl,e,q⟩:=h;obtain⟨u,rfl,ru⟩:=pB r;cases ru;obtain⟨o,es,ep,t,ho,hex,hd,_,_,hb,hf,hn⟩:=(show s.heap.SetOf (intKind X.prog X.w) a S n from I.hok a _ e)
 have h63:(es.size:Int)<2^63:=by
  have:scanBound=4096:=rfl;omega
 refine call_len_set ho hex hd hf h63 ⟨.int n,H,?_,⟨_,by rw[hn]⟩,q⟩;exact(I.tok _)
theorem Ho{z:Str}(C:CompOk X N' scope caps k)(hc:X.calm=true)(ha:c.is_async=0)(k0: ∀g',gL[0]?=some g'->g'.is_async=0)
  (hs: ∀x,foldedSetIterable c.iter X.env x=pure x)(pi:PIX X (fun i=>i∉caps) c.target c.iter fi)
  (t8: ∀(cl:jS) (C:fR) (s3:fW) (H3:Hp) (fp:iN) (pins:gE),let X':=X.comp N' scope cl C s3 H3 fp pins
   PGX X' (fun i=>caps.length<=i) c.target tg/\PIf X' c.ifs (tT X.K ti)/\ ∀d,PB X' (gK (.SetComp elt (c::gL) scope pos) 0 (.ref d) X'.env) (Ex X.K (fun i=>caps.length<=i) d fb))
  (hg:Gl X z)(hm:X.mg z=none)(hv:bootBuiltins z=some (.builtin "len"))(hn:z≠"__name__")(m8:(z==("__debug__":Str))=false)
  (h1:starEach [.SetComp elt (c::gL) scope pos] X.env=(false,eval (.SetComp elt (c::gL) scope pos) X.env)::starEach [] X.env)(j7:(backTo pos' (starEach [] X.env)).any (·.1)=false):
  PX X (.Call (.Name z p) [.SetComp elt (c::gL) scope pos] [] pos') (qQ caps k fi tg ti fb):=
 PX.imp (yd Ij hg hm hv (nB (KJ (g:=tG X.K (fun i=>caps.length<=i) tg) (ti:=tT X.K ti) (tb:=fun d=>Ex X.K (fun i=>caps.length<=i) d fb) C.sco hc ha k0 hs pi t8) rY h1) hn m8 h1 j7) fun σ H Q h=>by
  have q:=Ig h
  have mono: ∀{Q1 Q2:VK},(∀v H,Q1 v H->Q2 v H)->A9 (tI X.K (fun i=>i∉caps) fi) (tG X.K (fun i=>caps.length<=i) tg) (tT X.K ti) (fun d=>Ex X.K (fun i=>caps.length<=i) d fb) (yb caps k) σ H Q1->A9 (tI X.K (fun i=>i∉caps) fi) (tG X.K (fun i=>caps.length<=i) tg) (tT X.K ti) (fun d=>Ex X.K (fun i=>caps.length<=i) d fb) (yb caps k) σ H Q2:=by
   rintro Q1 Q2 hq ⟨δ,T,ds,δ1,E,h1,kk⟩;refine⟨δ,T,ds,δ1,E,h1,fun J H1 K1 E1 ok d hd=>?_⟩;obtain⟨W,w0,step⟩:=kk J H1 K1 E1 ok d hd;refine⟨W,w0,fun i m σ2 H2 w=>?_⟩;rcases step i m σ2 H2 w with⟨s1,s2⟩|s
   ·exact .inl ⟨s1,hq _ _ s2⟩
   ·exact .inr s
  exact mono (fun v H1 ⟨S,n,a,e,h2,h3⟩=>⟨S,n,a,by rw[e],h2,h3⟩) q
end
end PX
namespace HT
open PySem PySem.Spec PyProof.Rows L2
section
variable {prog:gA}{w:gu}{A:gw}{E:gH}{s:fW}
end
end HT
namespace L2
open PySem PySem.Spec PyProof.Rows
section
variable {X:Cx}{e st:gf}{te ts:TE}{pos p2:Pos}
end
end L2
namespace PX
open PySem PySem.Spec PyProof.Rows L2 PySem.SeqAt
section
variable {X:Cx}{a st:gf}{fa fs:FO}{pos p2:Pos}
end
section
variable {es:iL}{env:Env}
end
end PX
namespace TT
open PySem
def S:Nat->Nat
 |0=>0
 |n+1=>5*S n+1
def ls(mask:Nat)(h:Int):Nat->Nat×Nat
 |0=>(SetTable.bits h%(mask+1),SetTable.bits h)
 |k+1=>SetTable.leap mask (ls mask h k).1 (ls mask h k).2
def at_(mask:Nat)(h:Int)(k t:Nat):SetTable.Probe:=⟨(ls mask h k).1+t,SetTable.runEnd mask (ls mask h k).1-(ls mask h k).1-t,(ls mask h k).1,(ls mask h k).2,none⟩
open PyProof.Rows PySem.SeqAt
section
variable {prog:gA}{w:gu}{A:gw}{E:gH}{s:fW}
end
section
variable {prog:gA}{w:gu}{A:gw}{R:Result->Shared->Prop}{I:fR}{fp wr:iN}{G:Array GenState->Array GenState->Prop}{n:Nat}{P:Nat->Value->Prop}{St:Nat->Shared->Prop}
end
section
variable {prog:gA}{w:gu}{A:gw}{E:gH}{s:fW}
end
structure DRaw(h:gD)(d:fR)(es:Array DictEntry)(ep:Nat):Prop where
 at_: ∃o,h.get? d=some o/\o.ExactDict/\o.data= .dict es ep
theorem DRaw.stay{d es ep}(x:DRaw h d es ep)(k: ∀o,h.get? d=some o->h'.get? d=some o):DRaw h' d es ep:=let⟨o,h1,r⟩:=x.at_;⟨o,k _ h1,r⟩
section
variable {prog:gA}{w:gu}{A:gw}{E:gH}{s:fW}
theorem DRaw.typeIs{d es ep}(x:DRaw s.heap d es ep):s.TypeIs (.ref d) "dict":=let⟨o,h1,r,_⟩:=x.at_;⟨o,h1,r.1⟩
theorem GH(hd:(d==sysModules)=false)(hm:DRaw s.heap d es ep)
  (hQ:Q (.ref s.heap.objs.size) {s with heap:=s.heap.push {cls:= .type "dict_keyiterator",data:= .fields #[.ref d,.int 0 0,.int es.size 0,.int ep 0]}}):wpAny (model prog w) A (pyIter (.ref d)) Q E s:=by
 have hT:=hm.typeIs;obtain⟨o,ho,hc,hdat⟩:=hm.at_;refine wpAny_pyIter_slot hT IQ (pk IQ hT PySem.F.entry_dict_iter ?_ (PySem.F.args_dict_iter_1 _));unfold Builtin.«dict.__iter__»;refine fS ?_;unfold Builtin.Dict.dictSlotNone;refine fS (wpAny_notOrdered_dict hT ?_);change wpAny _ _ (pure (Value.ref d)) _ _ s;refine gr ?_;change wpAny _ _ (Builtin.Dict.showsAll d>>=_) _ _ s;unfold Builtin.Dict.showsAll;rw[gk (by rw[hd];exact iM)];refine fS (gr ?_);refine fS (DQ ho hdat ?_);refine fS (DP ho hdat ?_);refine fS (nW (gr ⟨_,rfl,"dict_keyiterator",_,⟨_,jb _ rfl,rfl⟩,zD.lookup,?_⟩));simpa[rawInt] using hQ
theorem yk{it d:fR}{i ep:Nat}{es:Array DictEntry}{e:DictEntry}{Q:Ci}(hit:s.heap.IsKeyIter it d i es.size ep)(hm:DRaw s.heap d es ep)(hx:es[i]?=some e)
  (hQ: ∀h',h'.IsKeyIter it d (i+1) es.size ep->Heap.SameBut it s.heap h'->Q (some e.key) {s with heap:=h'}):wpAny (model prog w) A (pyNext (.ref it)) Q E s:=by
 obtain⟨o,ho,hc,hd⟩:=id hit;obtain⟨od,cS,x9,cY⟩:=hm.at_;unfold pyNext;refine fS (vI (rk (name:=Str.ofString "__next__") hit.typeIs zD (pk zD hit.typeIs IM ?_ (IL _))));refine fS (gr ?_);refine fS ?_;refine fS ?_;refine fS (AB hit.typeIs (gr ?_));refine fS (wpAny_fieldsOf ho hd ?_);have cb:Builtin.Dict_items.ownsTuple "dict_keyiterator"=false:=by decide
 simp only[cb,hC,iE];change wpAny _ _ (if(Value.ref d==Value.none)=true then _ else _) _ _ s;rw[gk (show ¬((Value.ref d==Value.none)=true) from iM)];refine fS (gr ?_);refine fS (DQ cS cY ?_);rw[gk (by simp)];refine fS (gr ?_);refine fS (DP cS cY ?_);rw[gk (by simp)];refine gr ?_;simp only[show ¬((i:Int)<0) from by omega,iE,xm,hx];refine fS ?_;refine fS (AB hit.typeIs (gr ?_));refine fS (IK hit.typeIs ?_);change wpAny _ _ (setField (.ref it) 1 (rawInt ((i:Int)+1))>>=_) _ _ s;refine fS (AR ho hd (by simp) ?_)
 have bp:(s.heap.update it (Obj.mapFields (·.setIfInBounds 1 (rawInt ((i:Int)+1))))).IsKeyIter it d (i+1) es.size ep:=
  ⟨_,xl _ ho (Ja (AQ hd _)),(Obj.cls_mapFields ..).trans hc,by rw[AQ hd];simp[rawInt]⟩
 refine fS (kN ?_);refine fS (IK (s:={s with heap:=s.heap.update it (Obj.mapFields (·.setIfInBounds 1 (rawInt ((i:Int)+1))))}) bp.typeIs ?_);change wpAny _ _ (pure e.key) _ _ _;exact gr (gr ⟨_,rfl,gr (hQ _ bp (rO ..))⟩)
theorem zk(hh:A.handled=none)(hit:s.heap.IsKeyIter it d es.size es.size ep)(hm:DRaw s.heap d es ep)
  (hQ: ∀h',Heap.ExtBut it s.heap h'->Q none {s with heap:=h'}):wpAny (model prog w) A (pyNext (.ref it)) Q E s:=by
 obtain⟨o,ho,hc,hd⟩:=id hit;obtain⟨od,cS,x9,cY⟩:=hm.at_;unfold pyNext;refine fS (vI (rk (name:=Str.ofString "__next__") hit.typeIs zD (pk zD hit.typeIs IM ?_ (IL _))));refine fS (gr ?_);refine fS ?_;refine fS ?_;refine fS (AB hit.typeIs (gr ?_));refine fS (wpAny_fieldsOf ho hd ?_);have cb:Builtin.Dict_items.ownsTuple "dict_keyiterator"=false:=by decide
 simp only[cb,hC,iE];change wpAny _ _ (if(Value.ref d==Value.none)=true then _ else _) _ _ s;rw[gk (show ¬((Value.ref d==Value.none)=true) from iM)];refine fS (gr ?_);refine fS (DQ cS cY ?_);rw[gk (by simp)];refine fS (gr ?_);refine fS (DP cS cY ?_);rw[gk (by simp)];refine gr ?_;simp only[show ¬((es.size:Int)<0) from by omega,iE,xm,Array.getElem?_eq_none (gY es.size)];refine fS ?_;refine fS (AB hit.typeIs (gr ?_));change wpAny _ _ (setField (.ref it) 0 .none>>=_) _ _ s;refine fS (AR ho hd (by simp) ?_);change wpAny _ _ (newExc (.type "StopIteration") []>>=_) _ _ _;refine fS ?_;simp only[newExc,newTuple];refine fS (nW ?_ (by size_fits));refine fS (m:=firstArgMember _ _) (xj (a:=Value.none) (by first|rfl|(simp only[firstArgMember];rfl)) ?_);refine nW ?_ (by size_fits);simp only[raiseNew];refine fS (wpAny_handled ?_);rw[show A.in1.handled=none from hh];refine fS (gr (wpAny_throw ?_));refine fS (AM (T:="StopIteration") (b:=true) ⟨_,jb _ rfl,rfl⟩ D3 ?_);exact gr (hQ _ (((rO ..).extBut.push _).push _))
theorem DM(hh:A.handled=none)(I d:fR)(j9:I≠d)(es:Array DictEntry)(ep:Nat):Walks prog w A I [I,d] [I] es.size (fun i v=> ∃e,es[i]?=some e/\v=e.key) (fun i h=>h.IsKeyIter I d i es.size ep/\DRaw h d es ep) where
 sub:=fun b hb=>by simp at hb;simp[hb]
 frame:=fun _ _ _ st hk=>⟨st.1.at fun o e=>hk I (by simp) o e,st.2.stay fun o e=>hk d (by simp) o e⟩
 item:=fun i s Q E hi st hQ=>by
  have hg:es[i]?=some es[i]:=DX hi;refine yk st.1 st.2 hg fun h' bp ba=>?_;exact hQ _ h' s.toks ⟨_,hg,rfl⟩ ⟨bp,st.2.stay fun o e=>ba.extBut d o (fun h=>j9 h.symm) e⟩ fun b o hb e=>ba.extBut b o (fun h=>hb (by simp[h])) e
 done:=fun s Q E st hQ=>zk hh st.1 st.2 fun h' cE=>hQ h' s.toks fun b o hb e=>cE b o (fun h=>hb (by simp[h])) e
 self:=fun _ _ _ _ st hQ=>wpAny_pyIter_keyiter st.1 hQ
theorem L3(hd:(a==sysModules)=false)(hh:A.handled=none)(S:DRaw s.heap a es n)(hn:es.size<=sizeLine) 
  (hQ: ∀h' tk,(∀b o,s.heap.get? b=some o->h'.get? b=some o)->Q (es.toList.map (·.key)) {s with heap:=h',toks:=tk}):wpAny (model prog w) A (collect (.ref a)) Q E s:=by
 have aE:a<s.heap.objs.size:=let⟨_,h1,_⟩:=S.at_;iw h1;have eF:a≠s.heap.objs.size:=ip aE;have hna1:a≠s.heap.objs.size+1:=ip (uK aE);have hss:s.heap.objs.size≠s.heap.objs.size+1:=ip (uG _);unfold collect;refine fS (wpAny_runValue (uF PySem.F.entry_proto_collect ?_));rw[xg PySem.F.plain_proto_collect _];show wpAny _ A.in1 (newList []>>=fun l=>again (.builtin "list.__iadd__" ⟨[l,.ref a],[]⟩)) _ _ s;refine fS (nW ?_);refine gr ⟨AV IJ _,uF PySem.F.entry_list_iadd ?_⟩;rw[xg IJ _];show wpAny _ A.in1 (Builtin.List.listExtendWith (.ref s.heap.objs.size) (.ref a) (.ref s.heap.objs.size)) _ _ _;generalize hl0:({cls:= .type "list",data:= .seq ([]:List Value).toArray}:Obj)=l0;have S1:DRaw (s.heap.push l0) a es n:=S.stay fun o e=>iF _ e;unfold Builtin.List.listExtendWith;refine fS (uP (T:="dict") (s:={s with heap:=s.heap.push l0}) S1.typeIs ?_);have h1:Builtin.List.listSameRef (.ref s.heap.objs.size) (.ref a)=false:=by simp only[Builtin.List.listSameRef,beq_eq_false_iff_ne];exact eF.symm
 have h2:(Value.type "dict"==Value.type "list")=false:=by decide
 have h3:(Value.type "dict"==Value.type "tuple")=false:=by decide
 simp only[h1,h2,h3,Bool.or_false,hC,iE];refine fS (GH (s:={s with heap:=s.heap.push l0}) hd S1 ?_);obtain⟨h2,eK⟩: ∃h2,h2=(s.heap.push l0).push {cls:= .type "dict_keyiterator",data:= .fields #[.ref a,.int 0 0,.int es.size 0,.int n 0]}:=⟨_,rfl⟩
 have it2:h2.IsKeyIter (s.heap.push l0).objs.size a 0 es.size n:=by rw[eK];exact⟨_,jb _ rfl,rfl,rfl⟩
 have k2: ∀b o,(s.heap.push l0).get? b=some o->h2.get? b=some o:=fun b o e=>by rw[eK];exact iF _ e
 rw[<-eK];have sz1:(s.heap.push l0).objs.size=s.heap.objs.size+1:=pN _ _;have S2:DRaw h2 a es n:=S1.stay fun o e=>k2 _ _ e;refine fS (kN ?_);unfold Builtin.List.listLengthHint;refine fS (wpAny_specialOf (T:="dict") (s:={s with heap:=h2}) S2.typeIs PySem.F.slot_dict_len.lookup ?_);generalize hid:("dict.__len__":String)=id0;dsimp only;rw[show splitId id0=some ("dict","__len__") from by subst hid;decide+kernel];dsimp only;refine fS (AM (T:="dict") (s:={s with heap:=h2}) (b:=true) S2.typeIs (by rw[isSubtype_type];kernel_rfl) ?_);simp only[uE,hC,iE];change wpAny _ _ (if _=true then _ else _) _ _ _;rw[gd (by subst hid;decide+kernel)];refine fS (uP (T:="dict") (s:={s with heap:=h2}) S2.typeIs ?_);dsimp only;refine gr ?_;change wpAny _ _ (if _=true then _ else _) _ _ _;rw[gd (by decide+kernel)];refine fS (sM ?_);have hS₁:h2.get? s.heap.objs.size=some l0:=k2 _ _ (jb _ (by subst hl0;rfl));subst hl0;refine fS ?_;show wpAny _ A.in1 (updateSeq s.heap.objs.size (·.push .none)>>=fun _=>updateSeq s.heap.objs.size (·.pop)) _ _ _;refine fS (wpAny_updateSeq (s:={s with heap:=h2}) hS₁ rfl ?_);have hS₂:=xl (Obj.mapSeq (·.push Value.none)) hS₁ rfl;refine wpAny_updateSeq hS₂ rfl ?_;have hS₃:=xl (Obj.mapSeq (·.pop)) hS₂ rfl
 have oth: ∀b o,b≠s.heap.objs.size->h2.get? b=some o->((h2.update s.heap.objs.size (Obj.mapSeq (·.push Value.none))).update s.heap.objs.size (Obj.mapSeq (·.pop))).get? b=some o:=
  fun b o hb e=>(AZ _ _ (rl hb)).trans ((AZ _ _ (rl hb)).trans e)
 have W:=(DM (prog:=prog) (w:=w) (A:=A.in1) (by show A.handled=none;exact hh) (s.heap.objs.size+1) a hna1.symm es n).toS;rw[sz1] at it2;refine gr ⟨AV PySem.F.plain_extend_loop _,?_⟩;rw[sz1];refine codeAny_extend_loopS W hn s.heap.objs.size (by simp only[jQ,kj,nc,not_or];exact⟨hss,eF.symm⟩) _ es.size 0 _ _ _ rfl (mJ _) ?_ hS₃ (ItemsOf.nil _) fun s' i3 c' hm bM t6=>?_
 ·refine⟨?_,S2.stay fun o e=>oth a o eF e⟩;obtain⟨o,g1,g2⟩:=it2;exact⟨o,oth _ o hss.symm g1,g2⟩
 show wpAny _ A (load s.heap.objs.size>>=_) _ _ s';refine fS (wpAny_load bM ?_);obtain⟨h',g',d',tk',dZ⟩:=s';have eg:g'=s.gens:=hm.gens;have ed:d'=s.drawn:=hm.drawn;have eo:dZ=s.os:=hm.os;subst eg;subst ed;subst eo
 have eacc:i3.toList=es.toList.map (·.key):=by
  obtain⟨a1,a2⟩:=t6;apply wY
  ·rw[iG,mf,mf,a1]
  ·intro j g1 g2;have gj:i3[j]?=some i3.toList[j]:=by rw[<-rQ];exact hX g1
   obtain⟨e,he,hv⟩:=a2 j _ gj;rw[hv];rw[iG,mf] at g2;rw[wX];rw[<-rQ,hX (by rw[mf];exact g2)] at he;cases he;rfl
 refine gr ?_;show Q i3.toList _;rw[eacc];refine hQ h' tk' fun b o e=>?_;have hb:=iw e;exact hm.heap b o (by simp only[jQ,kj,nc,not_or];exact⟨ip hb,ip (uK hb)⟩) (oth b o (ip hb) (k2 _ _ (iF _ e)))
end
end TT
namespace PX
open PySem PySem.Spec PyProof.Rows L2 PySem.SeqAt TS
section
variable {X:Cx}{pins:gE}{σ:L2.St}{H:Hp}{s:fW}
end
mutual
theorem uq: ∀x y:D,D.pr x=true->D.pr y=true->cT x y= .eq->x=y
 | .int i,.int j,_,_,h=>by
  rw[cT] at h;by_cases h1:i<j
  ·rw[gd h1] at h;cases h
  ·rw[gk h1] at h;by_cases h2:i=j
   ·rw[h2]
   ·rw[gk h2] at h;cases h
 | .tup l,.tup m,h1,h2,h=>by rw[D.pr] at h1 h2;rw[cT] at h;rw[DD l m h1 h2 h]
 | .int _,.tup _,_,_,h=>by simp[cT] at h
 | .tup _,.int _,_,_,h=>by simp[cT] at h
 | .non,_,h,_,_=>by simp[D.pr] at h
 | .bl _,_,h,_,_=>by simp[D.pr] at h
 | .str _,_,h,_,_=>by simp[D.pr] at h
 | .lst _,_,h,_,_=>by simp[D.pr] at h
 | .oth _ _ _,_,h,_,_=>by simp[D.pr] at h
 |_,.non,_,h,_=>by simp[D.pr] at h
 |_,.bl _,_,h,_=>by simp[D.pr] at h
 |_,.str _,_,h,_=>by simp[D.pr] at h
 |_,.lst _,_,h,_=>by simp[D.pr] at h
 |_,.oth _ _ _,_,h,_=>by simp[D.pr] at h
theorem DD: ∀l m:List D,D.prL l=true->D.prL m=true->cL l m= .eq->l=m
 |[],[],_,_,_=>rfl
 |[],_::_,_,_,h=>by simp[cL] at h
 |_::_,[],_,_,h=>by simp[cL] at h
 |x::l,y::m,h1,h2,h=>by
  rw[D.prL,mK] at h1 h2;rw[cL] at h
  cases hc:cT x y with
  |lt=>rw[hc] at h;cases h
  |gt=>rw[hc] at h;cases h
  |eq=>
   rw[hc] at h;rw[uq x y h1.1 h2.1 hc,DD l m h1.2 h2.2 h]
end
theorem zf{α β:Type}(f:α->β){zs m:List β}(h:zs.Perm m): ∀l:List α,m=l.map f-> ∃l':List α,l'.Perm l/\zs=l'.map f:=by
 induction h with
 |nil=>
  intro l e;have:l=[]:=by simpa using e.symm
  subst this;exact⟨[],.refl _,rfl⟩
 |cons x _ ih=>
  intro l e
  cases l with
  |nil=>simp at e
  |cons y l=>
   simp only[il,List.cons.injEq] at e;obtain⟨l',p,q⟩:=ih l e.2;exact⟨y::l',p.cons y,by rw[q,e.1];rfl⟩
 |swap x y l0=>
  intro l e
  cases l with
  |nil=>simp at e
  |cons a l=>
   cases l with
   |nil=>simp at e
   |cons b l=>
    simp only[il,List.cons.injEq] at e;exact⟨b::a::l,.swap a b l,by rw[e.1,e.2.1,e.2.2];rfl⟩
 |trans _ _ ih1 ih2=>
  intro l e;obtain⟨l1,p1,q1⟩:=ih2 l e;obtain⟨l2,p2,q2⟩:=ih1 l1 q1;exact⟨l2,p2.trans p1,q2⟩
abbrev hv(p:D×V):Int×V:=(D.hash p.1,p.2)
section
variable {X:Cx}{pins:gE}{σ:L2.St}{H:Hp}{s:fW}
end
theorem Df{x:D}: ∀{l:List D},l.Pairwise (fun a b=>ltT b a=false)->(sf ltT x l).Pairwise (fun a b=>ltT b a=false)
 |[],_=>AI _ _
 |y::l,h=>by
  rw[pz] at h;have W:=OO fun i:Nat=>match i with|0=>x|1=>y|_=>x
  rw[sf]
  cases hl:ltT y x with
  |true=>
   rw[gd rfl,pz];refine⟨fun z hz=>?_,Df h.2⟩;rcases jQ.mp ((oz ltT x l).mem_iff.mp hz) with rfl|hz
   ·rw[Aa] at hl;rw[kb,jP,hl];simp
   ·exact h.1 z hz
  |false=>
   rw[gk iM,pz];refine⟨fun z hz=>?_,pz.mpr h⟩;rcases jQ.mp hz with rfl|hz
   ·exact hl
   ·have h1:=h.1 z hz;rw[kb] at h1 hl ⊢;have a1:cT x y≠ .gt:=by rw[jP y x];cases hc:cT y x<;>simp_all
    have a2:cT y z≠ .gt:=by rw[jP z y];cases hc:cT z y<;>simp_all
    have a3:=qm x y z a1 a2;rw[jP x z];cases hc:cT x z<;>simp_all
theorem zN: ∀l:List D,(kr ltT l).Pairwise (fun a b=>ltT b a=false)
 |[]=> .nil
 |x::l=>by rw[kr];exact Df (zN l)
section
variable {X:Cx}
end
def zm:D->Option Key
 | .int i=>some (.inl i)
 | .str x=>some (.inr x)
 |_=>none
def C9:List D->Option (List Key)
 |[]=>some []
 |d::l=>(zm d).bind fun k=>(C9 l).map (k:: ·)
def vm:D->Option (List Key)
 | .tup l=>C9 l
 |_=>none
theorem ot(h:zm d=some k):d=iB k:=by
 cases d<;>simp[zm] at h<;>subst h<;>rfl
theorem C8: ∀{l:List D} {ks:List Key},C9 l=some ks->l=ks.map iB
 |[],ks,h=>by cases h;rfl
 |d::l,ks,h=>by
  rw[C9] at h;obtain⟨k,h1,h⟩:=fN h;obtain⟨m,h2,rfl⟩:=gU h;rw[ot h1,C8 h2];rfl
theorem tV(h:vm d=some ks):d= .tup (ks.map iB):=by
 cases d with
 |tup l=>rw[C8 (show C9 l=some ks from h)]
 |_=>cases h
theorem uj(a b:Key):D.eqb (iB a) (iB b)=decide (a=b):=by
 cases a with
 |inl i=>cases b with
  |inl j=>simp only[iB,D.eqb,Lp]
  |inr y=>simp only[iB,D.eqb,Lo]
 |inr x=>cases b with
  |inl j=>simp only[iB,D.eqb,Ln]
  |inr y=>simp only[iB,D.eqb,Lm];rfl
theorem qR: ∀a b:List Key,D.eqbL (a.map iB) (b.map iB)=decide (a=b)
 |[],[]=>by simp[D.eqbL]
 |[],_::_=>by simp[D.eqbL]
 |_::_,[]=>by simp[D.eqbL]
 |x::a,y::b=>by
  simp only[il];rw[D.eqbL,uj,qR a b];simp only[List.cons.injEq,Bool.decide_and]
def kJ:List D->List D->D->Option D
 |k'::ks,v::vs,k=>if D.eqb k' k=true then some v else kJ ks vs k
 |_,_,_=>none
def rm:List D->List D->D->D->List D
 |k'::ks,v::vs,k,w=>(if D.eqb k' k=true then w else v)::rm ks vs k w
 |_,vs,_,_=>vs
def qX(ks vs:List D)(k w:D):List D×List D:=if ks.any (D.eqb · k)=true then(ks,rm ks vs k w) else(ks++[k],vs++[w])
def tY(ks:List D)(k:D):Bool:=((zm k).isSome&&ks.all fun x=>(zm x).isSome)||((vm k).isSome&&ks.all fun x=>(vm x).isSome)
section
variable {K:gq}{H:Hp}{O:AP'}
theorem CM(h:Rep K H O (iB k) v):v=kV k:=by
 cases k with
 |inl i=>exact Rep.int h
 |inr x=>exact Rep.str h
theorem zT: ∀{ks:List Key} {vs:List V},RepL K H O (ks.map iB) vs->vs=ks.map kV
 |[],vs,h=>by rw[vN,RepL] at h;exact h
 |k::ks,vs,h=>by
  rw[il,RepL] at h;obtain⟨v,r,rfl,h1,h2⟩:=h;rw[CM h1,zT h2];rfl
theorem qw(hk:zm d=some k)(h:ja K H O d v):v=kV k:=by
 rw[ot hk] at h;rcases h with h|⟨a,rfl,h⟩
 ·exact CM h
 ·cases k<;>exact h.elim
theorem qv(hk:vm d=some ks)(h:ja K H O d v): ∃b,v= .ref b/\H b=some (.tup (ks.map kV)):=by
 rw[tV hk] at h;rcases h with h|⟨a,rfl,h⟩
 ·obtain⟨b,xs,rfl,q,r⟩:=h.tup;rw[zT r] at q;exact⟨b,rfl,q.1⟩
 ·exact h.elim
theorem Lg{k:Key}: ∀{kvs:List (Key×V)} {vs:List D},RepL K H O vs (kvs.map (·.2))->(∀d,kJ (kvs.map fun p=>iB p.1) vs (iB k)=some d-> ∃v,pG kvs k=some v/\Rep K H O d v)/\(kJ (kvs.map fun p=>iB p.1) vs (iB k)=none->pG kvs k=none)
 |[],vs,_=>⟨fun d h=>by cases vs<;>simp[kJ] at h,fun _=>rfl⟩
 |(k',v)::kvs,[],h=>by rw[il,RepL] at h;cases h
 |(k',v)::kvs,d'::vs,h=>by
  rw[il,RepL] at h;obtain⟨w,r,e,h1,h2⟩:=h;obtain⟨rfl,rfl⟩:=rM e;obtain⟨i1,i2⟩:=Lg (k:=k) h2;simp only[il,kJ,uj];by_cases hk:k'=k
  ·simp only[hk,uy,gM];exact⟨fun d h=>by cases h;exact⟨v,pR (p:=(k,v)) rfl,h1⟩,fun h=>by cases h⟩
  ·simp only[hk,decide_false,hC,iE];refine⟨fun d h=>?_,fun h=>?_⟩
   ·obtain⟨u,h3,h4⟩:=i1 d h;exact⟨u,by rw[mQ (p:=(k',v)) hk];exact h3,h4⟩
   ·rw[mQ (p:=(k',v)) hk];exact i2 h
theorem Lf{k:List Key}: ∀{kvs:List (List Key×V)} {vs:List D},RepL K H O vs (kvs.map (·.2))->(∀d,kJ (kvs.map fun p=> .tup (p.1.map iB)) vs (.tup (k.map iB))=some d-> ∃v,pG kvs k=some v/\Rep K H O d v)/\(kJ (kvs.map fun p=> .tup (p.1.map iB)) vs (.tup (k.map iB))=none->pG kvs k=none)
 |[],vs,_=>⟨fun d h=>by cases vs<;>simp[kJ] at h,fun _=>rfl⟩
 |(k',v)::kvs,[],h=>by rw[il,RepL] at h;cases h
 |(k',v)::kvs,d'::vs,h=>by
  rw[il,RepL] at h;obtain⟨w,r,e,h1,h2⟩:=h;obtain⟨rfl,rfl⟩:=rM e;obtain⟨i1,i2⟩:=Lf (k:=k) h2;simp only[il,kJ,D.eqb,qR];by_cases hk:k'=k
  ·simp only[hk,uy,gM];exact⟨fun d h=>by cases h;exact⟨v,pR (p:=(k,v)) rfl,h1⟩,fun h=>by cases h⟩
  ·simp only[hk,decide_false,hC,iE];refine⟨fun d h=>?_,fun h=>?_⟩
   ·obtain⟨u,h3,h4⟩:=i1 d h;exact⟨u,by rw[mQ (p:=(k',v)) hk];exact h3,h4⟩
   ·rw[mQ (p:=(k',v)) hk];exact i2 h
end
section
variable {P:gA}{w:gu}{H H':Hp}{h:gD}{a:fR}
theorem OF(x:ObjOk P w H h a (.dT [])):ObjOk P w H' h a (.dK []):=by
 obtain⟨z,y,xs,r,o,es,ep,h1,h2,h3,h4,h5⟩:=x;cases r
 have:es= #[]:=by
  have:es.toList=[]:=by simpa using h4
  exact RI.mp this
 subst this;refine⟨z,y,[],.nil,o,#[],ep,h1,h2,h3,?_,?_,lJ⟩
 ·first|exact fun e he=>by simp at he|(intro;simp)
 ·first|exact .nil|trivial|simp[Pairs]
theorem OG(x:ObjOk P w H h a (.dK [])):ObjOk P w H' h a (.dT []):=by
 obtain⟨z,y,vs,r,o,es,ep,h1,h2,h3,h4,h5,h6⟩:=x;cases r
 have:es= #[]:=by
  have hl:es.toList.length=0:=by
   first
    |simpa using h5.length
    |simpa using(uS h5)
    |(
      cases he:es.toList with
      |nil=>rfl
      |cons e l=>rw[he] at h5;cases h5)
  exact RI.mp (Mo.mp hl)
 subst this;exact⟨z,y,[],.nil,o,#[],ep,h1,h2,h3,rfl,lJ⟩
end
section
variable {X:Cx}{pins:gE}{σ:L2.St}{H:Hp}{s:fW}
theorem HS{A:gw}{E:gH}(I:Inv X pins σ H s){H':Hp}{a:fR}{k:Key}{u:gg}{Q:gH}(x:ObjOk X.prog X.w H' s.heap a (.dK []))(ry:RelV (kV k) u)(neg:Bool)(h: ∀s',Inv X pins σ H s'->Q (.bool neg) s'):
  wpAny (model X.prog X.w) A (compareOp (if neg=true then .NotIn else .In) u (.ref a)) Q E s:=by
 obtain⟨z,hd,vs,rel,dd⟩:=x;cases rel
 cases neg with
 |false=>exact wpAny_in_of (Ag ry) hd dd.mapOf (h _ (I.tok _))
 |true=>exact wpAny_notIn_of (Ag ry) hd dd.mapOf (h _ (I.tok _))
theorem HR{A:gw}{E:gH}(hu:A.units+1<cLine)(I:Inv X pins σ H s){H':Hp}{a b:fR}{k:List Key}{Q:gH}(x:ObjOk X.prog X.w H' s.heap a (.dT []))(eb:H b=some (.tup (k.map kV)))(neg:Bool)(h: ∀s',Inv X pins σ H s'->Q (.bool neg) s'):
  wpAny (model X.prog X.w) A (compareOp (if neg=true then .NotIn else .In) (.ref b) (.ref a)) Q E s:=by
 obtain⟨z,hd,xs,r,o,es,ep,h1,h2,h3,h4,h5⟩:=x;cases r;have dd:s.heap.DictOfH (tupleKind (jt X.prog X.w)) a []:=⟨o,es,ep,h1,h2,h3,h4,(fun x (hx:x∈[])=>by simp at hx),h5⟩
 cases neg with
 |false=>exact wpAny_in_heap (xi hu) (vh I.hok eb) hd dd (h _ (I.tok _))
 |true=>exact wpAny_notIn_heap (xi hu) (vh I.hok eb) hd dd (h _ (I.tok _))
theorem tX(h:tY ks k=true):(∃κ,zm k=some κ/\ ∀x∈ks,∃c,zm x=some c)\/(∃τ,vm k=some τ/\ ∀x∈ks,∃c,vm x=some c):=by
 unfold tY at h;rw[DT,mK,mK,kZ,kZ] at h;rcases h with⟨h1,h2⟩|⟨h1,h2⟩
 ·exact .inl ⟨_,(Iz.mp h1).choose_spec,fun x hx=>Iz.mp (h2 x hx)⟩
 ·exact .inr ⟨_,(Iz.mp h1).choose_spec,fun x hx=>Iz.mp (h2 x hx)⟩
theorem F3{ks:List Key}{c:Key}(h:zm (.tup (ks.map iB))=some c):False:=by cases h
theorem Dc(h:vm (iB k)=some c):False:=by cases k<;>cases h
theorem S9(hu:A.units+1<cLine)(I:Inv X pins σ H s)(q:OthB (H a) .dct ks vs us)(r:RepL X.K H O vs us)(hk:tY ks k=true)(vk:ja X.K H O k y)(ry:RelV y u)(neg:Bool)
  (h: ∀s',Inv X pins σ H s'->Q (.bool (xor neg (kJ ks vs k).isSome)) s'):wpAny (model X.prog X.w) A (compareOp (if neg=true then .NotIn else .In) u (.ref a)) Q E s:=by
 have nil: ∀vs:List D,kJ [] vs k=none:=fun vs=>by cases vs<;>rfl
 rcases q with⟨kvs,e,rfl,rfl⟩|⟨kvs,e,rfl,rfl⟩
 ·rcases tX hk with⟨κ,h1,_⟩|⟨τ,h1,h2⟩
  ·have:=qw h1 vk;subst this;have aF:=ot h1;subst aF;obtain⟨l1,l2⟩:=Lg (k:=κ) r
   have ho:(pG kvs κ).isSome=(kJ (kvs.map fun p=>iB p.1) vs (iB κ)).isSome:=by
    cases hl:kJ (kvs.map fun p=>iB p.1) vs (iB κ) with
    |none=>rw[l2 hl];rfl
    |some d=>obtain⟨v,h3,_⟩:=l1 d hl;rw[h3];rfl
   rw[<-ho] at h
   cases neg with
   |false=>exact Ta hu I (DGet.k e) ry fun s' I'=>by simpa using h s' I'
   |true=>exact GR hu I (DGet.k e) ry fun s' I'=>by simpa using h s' I'
  ·have ck:kvs=[]:=by
    cases kvs with
    |nil=>rfl
    |cons p kvs=>obtain⟨c,hc⟩:=h2 (iB p.1) (by simp);exact(Dc hc).elim
   subst ck;obtain⟨b,rfl,eb⟩:=qv h1 vk;cases ry;rw[vN,nil] at h;exact HR hu I (OG (H':=H) (I.hok a _ e)) eb neg fun s' I'=>by simpa using h s' I'
 ·rcases tX hk with⟨κ,h1,h2⟩|⟨τ,h1,_⟩
  ·have ck:kvs=[]:=by
    cases kvs with
    |nil=>rfl
    |cons p kvs=>obtain⟨c,hc⟩:=h2 (.tup (p.1.map iB)) (by simp);exact(F3 hc).elim
   subst ck;have:=qw h1 vk;subst this;rw[vN,nil] at h;exact HS I (OF (H':=H) (I.hok a _ e)) ry neg fun s' I'=>by simpa using h s' I'
  ·obtain⟨b,rfl,eb⟩:=qv h1 vk;have aF:=tV h1;subst aF;obtain⟨l1,l2⟩:=Lf (k:=τ) r
   have ho:(pG kvs τ).isSome=(kJ (kvs.map fun p=> .tup (p.1.map iB)) vs (.tup (τ.map iB))).isSome:=by
    cases hl:kJ (kvs.map fun p=> .tup (p.1.map iB)) vs (.tup (τ.map iB)) with
    |none=>rw[l2 hl];rfl
    |some d=>obtain⟨v,h3,_⟩:=l1 d hl;rw[h3];rfl
   rw[<-ho] at h
   cases neg with
   |false=>exact Ta hu I (DGet.t e eb) ry fun s' I'=>by simpa using h s' I'
   |true=>exact GR hu I (DGet.t e eb) ry fun s' I'=>by simpa using h s' I'
end
section
variable {X:Cx}
def LJ:F:=fun δ=>some ((.oth .dct [] [],true),δ)
theorem MP{pos:Pos}:PX X (.Dict [] [] pos) LJ:=PX.imp KQ fun σ H Q hw=>by
 obtain⟨δ,T,rr,δ',E,e,k⟩:=hw;cases e;intro p hp;have B:=Ops.nil E;exact(B.done k) p _ hp (jY hp) ⟨[],.inl ⟨[],gF,rfl,rfl⟩,RepL.nil⟩
end
section
variable {K:gq}{T:AP'}{σ:L2.St}{δ:Dn}{H:Hp}{i:Nat}{d0 d':D}{a:fR}{o:HO}
theorem OwnI.writeG{j:Nat}{b:fR}(hd:δ[i]?=some (some (d0,true)))(h:OwnI σ (δ.set i (some (d',true))) j b):OwnI σ δ j b:=by
 obtain⟨e,h1,h2⟩:=h;rcases jM h1 with⟨rfl,_,_⟩|⟨_,q⟩
 ·exact⟨_,hd,h2⟩
 ·exact⟨e,q,h2⟩
theorem ER.writeG(E:ER K H T σ δ)(hd:δ[i]?=some (some (d0,true)))(hs:σ[i]?=some (some (.ref a)))(r:OwnOk K (upd H a o) (fun b=>OwnA σ δ b\/T b) d' a):
  ER K (upd H a o) T σ (δ.set i (some (d',true)))/\Keep σ δ H (δ.set i (some (d',true))) (upd H a o):=by
 have hi:i<δ.length:=(wz.mp hd).1;have oa:OwnA σ δ a:=⟨i,_,hd,hs⟩
 have ah: ∀b,OwnA σ (δ.set i (some (d',true))) b->OwnA σ δ b:=fun b ⟨j,e,h1,h2⟩=>by
  obtain⟨e',q1,q2⟩:=OwnI.writeG hd ⟨e,h1,h2⟩;exact⟨j,e',q1,q2⟩
 have kp: ∀b u,H b=some u-> ¬(OwnA σ δ b\/T b)->upd H a o b=some u:=fun b u e n=>by rw[gG (by intro z;subst z;exact n (.inl oa))];exact e
 have dm: ∀b,H b≠none->upd H a o b≠none:=fun b z=>by
  by_cases hb:b=a
  ·subst hb;rw[gF];simp
  ·rw[gG hb];exact z
 have sub: ∀b,(OwnA σ (δ.set i (some (d',true))) b\/T b)->OwnA σ δ b\/T b:=fun b z=>z.imp (ah b) id;refine⟨⟨by rw[rh];exact E.len,fun j e hj=>?_,fun j e hj=>?_,fun j k e f b hj hk h1 h2=>?_,fun b z=>E.nT b (ah b z),fun b z=>by have ne:b≠a:=fun e=>E.nT a oa (e▸z);rw[gG ne];exact E.dom b z⟩,⟨fun b u e n=>by rw[gG (by intro z;subst z;exact n oa)];exact e,fun j b z=>OwnI.writeG hd z,dm⟩⟩
 ·rcases jM hj with⟨_,_,q⟩|⟨_,q⟩
  ·cases q
  ·obtain⟨w,w1,w2⟩:=E.val j e q;exact⟨w,w1,Rep.mono kp (fun b _ z=>sub b z) w2⟩
 ·rcases jM hj with⟨rfl,_,q⟩|⟨ne,q⟩
  ·cases q;exact⟨a,hs,r.mono (fun _ _ e _=>e) (fun b _ z=>sub b z) fun _ e=>e⟩
  ·obtain⟨b,w1,w2⟩:=E.own j e q;refine⟨b,w1,w2.mono kp (fun b _ z=>sub b z) fun u eo=>?_⟩;rw[gG]
   ·exact eo
   ·intro z;subst z;exact ne (E.inj i j _ _ _ hd q hs w1)
 ·obtain⟨e1,q1,q2⟩:=OwnI.writeG hd ⟨e,hj,h1⟩;obtain⟨e2,q3,q4⟩:=OwnI.writeG hd ⟨f,hk,h2⟩;exact E.inj j k e1 e2 b q1 q3 q2 q4
end
section
variable {X:Cx}{pins:gE}{σ:L2.St}{H:Hp}{s:fW}{a:fR}
theorem Pk(I:Inv X pins σ H s)(e:H a=some (.dT [])):Inv X pins σ (upd H a (.dK [])) s:=by
 have:=wR (t':=s.toks) (h':=s.heap) I (by rw[e];exact True.intro) (D7 a s.heap) (by obtain⟨z,y,xs,r,o,es,ep,h1,_⟩:=(show ObjOk X.prog X.w H s.heap a (.dT []) from I.hok a _ e);exact⟨o,h1⟩) (OF (H':=upd H a (.dK [])) (I.hok a _ e));exact this
theorem Pj(I:Inv X pins σ H s)(e:H a=some (.dK [])):Inv X pins σ (upd H a (.dT [])) s:=by
 have:=wR (t':=s.toks) (h':=s.heap) I (by rw[e];exact True.intro) (D7 a s.heap) (by obtain⟨z,y,xs,r,o,es,ep,h1,_⟩:=(show ObjOk X.prog X.w H s.heap a (.dK []) from I.hok a _ e);exact⟨o,h1⟩) (OG (H':=upd H a (.dT [])) (I.hok a _ e));exact this
def Si:N3:=fun o i v H Q=> ∃a,o= .ref a/\((∃H',DPut H a i v H'/\Q H')\/(∃κ,H a=some (.dT [])/\i=kV κ/\Q (upd H a (.dK [(κ,v)])))\/
 (∃τ b,H a=some (.dK [])/\i= .ref b/\H b=some (.tup (τ.map kV))/\Q (upd H a (.dT [(τ,v)]))))
theorem JY(hu:X.A.units+1<cLine):RB X Si:=by
 intro pins s σ H o i v ov iv u Q I ro ri rv h;obtain⟨a,rfl,h⟩:=h;cases ro;rcases h with⟨H',g,q⟩|⟨κ,e,rfl,q⟩|⟨τ,b,e,rfl,eb,q⟩
 ·exact vq hu I g ri rv fun s' I'=>⟨H',I',q⟩
 ·refine vq hu (Pk I e) (DPut.k (k:=κ) (v:=v) gF (by rw[jA];decide)) ri rv fun s' I'=>⟨_,I',?_⟩
  rw[F0];exact q
 ·have hb:b≠a:=Oo eb e (fun z=>nomatch z);refine vq hu (Pj I e) (DPut.t (k:=τ) (v:=v) (b:=b) gF (by rw[gG hb];exact eb) (by rw[jA];decide)) ri rv fun s' I'=>⟨_,I',?_⟩
  rw[F0];exact q
end
section
variable {K:gq}{H:Hp}{O:AP'}
theorem Ka{k:Key}{w:D}{v:V}(hw:Rep K H O w v): ∀{kvs:List (Key×V)} {vs:List D},RepL K H O vs (kvs.map (·.2))->RepL K H O (rm (kvs.map fun p=>iB p.1) vs (iB k) w) ((kvs.map fun kv=>if kv.1=k then(kv.1,v) else kv).map (·.2))
 |[],vs,h=>by cases vs<;>simpa[rm] using h
 |(k',u)::kvs,[],h=>by rw[il,RepL] at h;cases h
 |(k',u)::kvs,d'::vs,h=>by
  rw[il,RepL] at h;obtain⟨x,r,e,h1,h2⟩:=h;obtain⟨rfl,rfl⟩:=rM e;simp only[il,rm,uj];refine RepL.cons ?_ (Ka hw h2);by_cases hk:k'=k
  ·simp only[hk,uy,gM];exact hw
  ·simp only[hk,decide_false,hC,iE];exact h1
theorem J9{k:List Key}{w:D}{v:V}(hw:Rep K H O w v): ∀{kvs:List (List Key×V)} {vs:List D},RepL K H O vs (kvs.map (·.2))->RepL K H O (rm (kvs.map fun p=> .tup (p.1.map iB)) vs (.tup (k.map iB)) w) ((kvs.map fun kv=>if kv.1=k then(kv.1,v) else kv).map (·.2))
 |[],vs,h=>by cases vs<;>simpa[rm] using h
 |(k',u)::kvs,[],h=>by rw[il,RepL] at h;cases h
 |(k',u)::kvs,d'::vs,h=>by
  rw[il,RepL] at h;obtain⟨x,r,e,h1,h2⟩:=h;obtain⟨rfl,rfl⟩:=rM e;simp only[il,rm,D.eqb,qR];refine RepL.cons ?_ (J9 hw h2);by_cases hk:k'=k
  ·simp only[hk,uy,gM];exact hw
  ·simp only[hk,decide_false,hC,iE];exact h1
theorem Oi(hw:Rep K H O w v)(h:RepL K H O vs (kvs.map (·.2))):
  (qX (kvs.map fun p=>iB p.1) vs (iB k) w).1=(pI kvs k v).map (fun p=>iB p.1)/\RepL K H O (qX (kvs.map fun p=>iB p.1) vs (iB k) w).2 ((pI kvs k v).map (·.2)):=by
 have ha:(kvs.map fun p=>iB p.1).any (D.eqb · (iB k))=kvs.any fun kv=>decide (kv.1=k):=by
  rw[List.any_map];congr 1;funext p;exact uj _ _
 unfold qX pI;rw[ha];split
 ·refine⟨?_,Ka hw h⟩;rw[iC];apply ma;intro p _;simp only[Function.comp];split<;>rfl
 ·exact⟨by simp,by rw[vG];exact h.append (RepL.one hw)⟩
theorem Oh{k:List Key}{w:D}{v:V}(hw:Rep K H O w v){kvs:List (List Key×V)}{vs:List D}(h:RepL K H O vs (kvs.map (·.2))):
  (qX (kvs.map fun p=> .tup (p.1.map iB)) vs (.tup (k.map iB)) w).1=(pI kvs k v).map (fun p=> .tup (p.1.map iB))/\RepL K H O (qX (kvs.map fun p=> .tup (p.1.map iB)) vs (.tup (k.map iB)) w).2 ((pI kvs k v).map (·.2)):=by
 have ha:(kvs.map fun p=>D.tup (p.1.map iB)).any (D.eqb · (.tup (k.map iB)))=kvs.any fun kv=>decide (kv.1=k):=by
  rw[List.any_map];congr 1;funext p;simp only[Function.comp,D.eqb,qR]
 unfold qX pI;rw[ha];split
 ·refine⟨?_,J9 hw h⟩;rw[iC];apply ma;intro p _;simp only[Function.comp];split<;>rfl
 ·exact⟨by simp,by rw[vG];exact h.append (RepL.one hw)⟩
end
def vS(i:Nat)(f:F)(g:FO):FS:=fun δ=>(f δ).bind fun p=>match p.2[i]? with
 |some (some _)=>(g p.2).bind fun q=>match res q.2 q.1,q.2[i]? with
  |some k,some (some (.oth .dct ks vs,true))=>if tY ks k=true/\ks.length<10000 then some (.nx (q.2.set i (some (.oth .dct (qX ks vs k p.1.1).1 (qX ks vs k p.1.1).2,true)))) else none
  |_,_=>none
 |_=>none
section
variable {X:Cx}{e ix:gf}{f:F}{fo:FO}{pos b7 apos i5:Pos}{i:Nat}{x:Str}{A L:iu}{H0:Hp}
theorem Ko{d9:Pos}(hu:X.A.units+1<cLine)(hv:PO X (.Name x b7) (fO i))(he:PX X e f)(hi:PO X ix fo)
  (ha: ∀v,assign (.Subscript (.Name x b7) ix d9) X.env v=(do
   let ov <-holding [v] (eval (.Name x b7) X.env)
   let iv <-holding [v,ov] (eval ix X.env)
   standAt d9
   holding [v,ov,iv] (setItem ov iv v)
   release [v,ov,iv] []))
  (hs:swapsWithSole [.Subscript (.Name x b7) ix d9] e pos.line X.env=pure false)(hw:swappedStores [.Subscript (.Name x b7) ix d9] e X.env=pure none)
  (h1:(assignEach [.Subscript (.Name x b7) ix d9] X.env).map (·.2)=[assign (.Subscript (.Name x b7) ix d9) X.env]):
  PSX X A L H0 (.Assign [.Subscript (.Name x b7) ix d9] e pos) (vS i f fo):=PS.imp' (EL he (KG hv hi (JY hu) ha) hs hw h1) fun D σ H hw=>by
 obtain⟨δ,T,out,E,fi,e,k⟩:=hw;obtain⟨⟨r,δ1⟩,h1,e⟩:=fN e;dsimp only at e;split at e
 case h_2=>cases e
 rename_i y0 h0;obtain⟨⟨o,δ2⟩,h2,e⟩:=fN e;dsimp only at e;split at e
 ·rename_i kk ks vs hk h3;obtain⟨⟨hok,hlen⟩,e⟩:=gP e;cases e;refine⟨δ,T,r,δ1,E,h1,fun v H1 P1=>⟨δ1,Tmp T r v,.slot i,δ1,P1.er E,by unfold fO;rw[h0],fun v2 H2 P2=>⟨δ1,Tmp T r v,o,δ2,P2.er (P1.er E),h2,fun v3 H3 P3=>?_⟩⟩⟩;have fG:PostO X.K T σ δ H (.val r) δ1 v H1:=P1;have B:=Ops.cons E fG (Ops.cons (P1.er E) P2 (Ops.cons (P2.er (P1.er E)) P3 (Ops.nil (P3.er (P2.er (P1.er E))))));have E3:ER X.K H3 T σ δ2:=B.er.mono (fun _ _ e _=>e) (fun b _ z=>B.tt b z) (fun a z=>B.er.dom a (B.tt a z));have hσ:σ[i]?=some (some v2):=P2.2.2;obtain⟨a,q1,us,q2,q3⟩:=E3.own i _ h3;rw[hσ] at q1;cases q1;have vk:=B.view (j:=2) rfl rfl hk;have rv:=B.rep E (j:=0) (r:=r) rfl rfl;have oa:OwnA σ δ2 a:=⟨i,_,h3,hσ⟩
  have kp: ∀(ho:HO) b u,H3 b=some u-> ¬(OwnA σ δ2 b\/T b)->upd H3 a ho b=some u:=fun ho b u e n=>by rw[gG (by intro z;subst z;exact n (.inl oa))];exact e
  have ks10:10000<sizeLine:=by rw[jA];decide
  have fin: ∀ho df,OthB (some ho) .dct (qX ks vs kk r.1).1 (qX ks vs kk r.1).2 df->RepL X.K H3 (fun a=>OwnA σ δ2 a\/T a) (qX ks vs kk r.1).2 df->D.nx σ (upd H3 a ho):=fun ho df g1 g2=>by
   obtain⟨E4,K4⟩:=E3.writeG (o:=ho) (d':= .oth .dct (qX ks vs kk r.1).1 (qX ks vs kk r.1).2) h3 hσ ⟨df,by rw[gF];exact g1,RepL.mono (kp ho) (fun _ _ z=>z) g2⟩;exact k _ _ (B.keep.trans K4).sk E4
  refine⟨a,rfl,?_⟩;rcases q2 with⟨kvs,eH,rfl,rfl⟩|⟨kvs,eH,rfl,rfl⟩
  ·rw[iG] at hlen;rcases tX hok with⟨κ,g1,_⟩|⟨τ,g1,g2⟩
   ·have hy:=qw g1 vk;have aF:=ot g1;subst aF;obtain⟨p1,p2⟩:=Oi (k:=κ) rv q3;refine .inl ⟨_,by rw[hy];exact DPut.k eH (by omega),fin _ _ (.inl ⟨_,rfl,p1,rfl⟩) p2⟩
   ·have ck:kvs=[]:=by
     cases kvs with
     |nil=>rfl
     |cons p kvs=>obtain⟨c,hc⟩:=g2 (iB p.1) (by simp);exact(Dc hc).elim
    subst ck;obtain⟨b,hy,eb⟩:=qv g1 vk;have aF:=tV g1;subst aF;obtain⟨p1,p2⟩:=Oh (k:=τ) (kvs:=[]) rv q3;exact .inr (.inr ⟨τ,b,eH,hy,eb,fin _ _ (.inr ⟨[(τ,v)],rfl,p1,rfl⟩) p2⟩)
  ·rw[iG] at hlen;rcases tX hok with⟨κ,g1,g2⟩|⟨τ,g1,_⟩
   ·have ck:kvs=[]:=by
     cases kvs with
     |nil=>rfl
     |cons p kvs=>obtain⟨c,hc⟩:=g2 (.tup (p.1.map iB)) (by simp);exact(F3 hc).elim
    subst ck;have hy:=qw g1 vk;have aF:=ot g1;subst aF;obtain⟨p1,p2⟩:=Oi (k:=κ) (kvs:=[]) rv q3;exact .inr (.inl ⟨κ,eH,hy,fin _ _ (.inl ⟨[(κ,v)],rfl,p1,rfl⟩) p2⟩)
   ·obtain⟨b,hy,eb⟩:=qv g1 vk;have aF:=tV g1;subst aF;obtain⟨p1,p2⟩:=Oh (k:=τ) rv q3;refine .inl ⟨_,by rw[hy];exact DPut.t eH eb (by omega),fin _ _ (.inr ⟨_,rfl,p1,rfl⟩) p2⟩
 ·cases e
end
section
variable {X:Cx}
theorem uW{P:gA}{w:gu}: ∀{es:List DictEntry} {vs:List (Key×Value)} {kvs:List (Key×V)},Pairs (jt P w) es vs->KV kvs vs->Vals (kvs.map fun p=>kV p.1) (es.map (·.key))
 |_,_,_,.nil,.nil=> .nil
 |_,_,_,.cons h1 h2 t,.cons r q=>by
  refine .cons ?_ (uW t q);dsimp only;rw[r.1];rcases iU (show yq _ _=true from h1) with⟨i,tk,e1,e2⟩|⟨x,tk,e1,e2⟩
  ·rw[e1,e2];exact⟨tk,rfl⟩
  ·rw[e1,e2];exact⟨tk,rfl⟩
theorem va{K:gq}{H:Hp}{O:AP'}: ∀(kvs:List (Key×V)),RepL K H O (kvs.map fun p=>iB p.1) (kvs.map fun p=>kV p.1)
 |[]=>RepL.nil
 |(k,v)::kvs=>by
  refine RepL.cons ?_ (va kvs)
  cases k with
  |inl i=>exact Rep.mkInt
  |inr x=>exact Rep.mkStr
theorem MO(hg:Gl X x)(hm:X.mg x=some (.int i t))(hd:(x==("__debug__":Str))=false):PX X (.Name x pos) (fC (.int i)):=PX.imp (Gp (v:= .int i) hg hm ⟨t,rfl⟩ hd) fun σ H Q h=>by
 obtain⟨δ,T,r,δ',E,e,k⟩:=h;cases e;exact k _ _ (Post.val .refl E Rep.mkInt)
theorem MN(hg:Gl X x)(hm:X.mg x=some (.str i t))(hd:(x==("__debug__":Str))=false):PX X (.Name x pos) (fC (.str i)):=PX.imp (Gp (v:= .str i) hg hm ⟨t,rfl⟩ hd) fun σ H Q h=>by
 obtain⟨δ,T,r,δ',E,e,k⟩:=h;cases e;exact k _ _ (Post.val .refl E Rep.mkStr)
def Br:FS:=fun _=>none
theorem Ht{A L:iu}{H0:Hp}{st:Stmt}:PSX X A L H0 st Br:=fun pins s σ H D I h=>by
 obtain⟨δ,T,out,E,fi,e,k⟩:=h;cases e
end
section
variable {X:Cx}{e:gf}{f:F}{pos b7 apos i5:Pos}{i:Nat}{x:Str}
end
structure PXs(X:Cx)(es:iL)(fs:List F):Prop where
 pa:PA X es (tA X.K (fs.map fP))
section
variable {X:Cx}{e:gf}{es:iL}{f:F}{fs:List F}{pos:Pos}
theorem ME:PXs X [] []:=⟨wK⟩
theorem Ki(h:PX X e f)(hr:PXs X es fs)(hs:starEach (e::es) X.env=(false,eval e X.env)::starEach es X.env):PXs X (e::es) (f::fs):=⟨pX (PX.po h) hr.pa hs⟩
theorem MM(h:PXs X es fs):PX X (.List es pos) (my fs):=PJ h.pa
theorem MJ{x1}(h:PXs X es fs):PX X (.Tuple es x1 pos) (oD fs):=Pu h.pa
theorem Kx{fe:FT}(h:PTX X e fe):PIf X [e] (tT X.K fe):=Nc h
theorem PR{fe:FT}(h:PWX X e fe):PTX X e fe:=PW.pt h
end
structure QX(X:Cx)(e:gf)(f:F):Prop where
 h:PX X e f
structure QO(X:Cx)(e:gf)(f:FO):Prop where
 h:PX.PO X e f
structure QA(X:Cx)(es:iL)(fs:List FO):Prop where
 h:PA X es (tA X.K fs)
structure QL(X:Cx)(es:iL)(fs:List F):Prop where
 h:PXs X es fs
structure QT(X:Cx)(e:gf)(f:FT):Prop where
 h:PTX X e f
structure QW(X:Cx)(e:gf)(f:FT):Prop where
 h:PWX X e f
structure QG(X:Cx)(A:iu)(e:gf)(t:Tg):Prop where
 h:PGX X A e t
structure QI(X:Cx)(B:SB)(tg e:gf)(f:FIt):Prop where
 h:PIX X B tg e f
structure QF(X:Cx)(es:iL)(f:FT):Prop where
 h:PIf X es (tT X.K f)
structure QB(X:Cx)(A:iu)(d:fR)(e:gf)(n:Nat)(f:FB):Prop where
 h:PB X (gK e n (.ref d) X.env) (tBx X.K A d f)
structure QS(X:Cx)(A L:iu)(H0:Hp)(st:Stmt)(f:FS):Prop where
 h:PSX X A L H0 st f
structure QQ(X:Cx)(A L:iu)(H0:Hp)(st:List Stmt)(f:FS):Prop where
 h:Ce X A L H0 st f
structure QC(X:Cx)(v:gg)(g:List D->Option (D×Bool)):Prop where
 h:je X v (rDn X.K g)
structure QP(X:Cx)(o:vF)(g:D->D->Option (D×Bool)):Prop where
 h:OpR X o (rD X.K g)
abbrev SE(X:Cx)(e:gf)(es:iL):Prop:=starEach (e::es) X.env=(false,eval e X.env)::starEach es X.env
abbrev BA(X:Cx)(p:Pos)(es:iL):Prop:=(backTo p (starEach es X.env)).any (·.1)=false
abbrev DB(x:Str):Prop:=(x==("__debug__":Str))=false
abbrev un(A:gw)(n:Nat):Prop:=A.units+n<cLine
structure ZZ where
 P:Program
 w:World
 K:PySem.W.Frag
 mg:Str->Option Value
 base:Heap
def Oz(Z:ZZ)(k:Nat)(x:Str)(ps:gZ)(ev:EvF):Prop:= ∃f fd,FnOk Z.P Z.w Z.K Z.mg Z.base CX0 k f fd ps (spF Z.K ev)/\Z.mg x=some (.ref f)/\PySem.W.keepIn Z.K (.ref f)=true/\Binds Z.K fd ps []
theorem Oz.up{Z:ZZ}{k j:Nat}{x:Str}{ps:gZ}{ev:EvF}(o:Oz Z k x ps ev)(h:k<=j:=by decide):Oz Z j x ps ev:=let⟨f,fd,a,b⟩:=o;⟨f,fd,a.mono h,b⟩
abbrev zX(X:Cx):ZZ:=⟨X.prog,X.w,X.K,X.mg,X.base⟩
def btT:List (Str×Value):=[("len",.builtin "len"),("abs",.builtin "abs"),("int",.type "int"),("tuple",.type "tuple"),("list",.type "list"),("bool",.type "bool"),("max",.builtin "max"),("min",.builtin "min"),("all",.builtin "all"),("any",.builtin "any"),("sorted",.builtin "sorted"),("set",.type "set")]
theorem btA{mg:kM}(T:Tx mg): ∀p∈btT,mg p.1=none/\bootBuiltins p.1=some p.2:=by
 have h: ∀p∈btT,bootBuiltins p.1=some p.2:=by decide+kernel
 intro p hp;refine⟨?_,h p hp⟩;have cR:p∈btT:=hp;unfold btT at cR;simp only[jQ,kj,nc] at cR;rcases cR with rfl|rfl|rfl|rfl|rfl|rfl|rfl|rfl|rfl|rfl|rfl|rfl
 ·exact T.n_len
 ·exact T.n_abs
 ·exact T.n_int
 ·exact T.n_tuple
 ·exact T.n_list
 ·exact T.n_bool
 ·exact T.n_max
 ·exact T.n_min
 ·exact T.n_all
 ·exact T.n_any
 ·exact T.n_sorted
 ·exact T.n_set
theorem E9{z:Str}{v:gg}: ∀{l:List (Str×Value)},l.lookup z=some v->(z,v)∈l
 |[],h=>by cases h
 |(y,u)::l,h=>by
  rw[ng] at h;split at h
  ·rename_i q;cases h;rw[sN q];exact .head _
  ·exact .tail _ (E9 h)
theorem btM{mg:kM}{z:Str}{v:gg}(T:Tx mg)(h:btT.lookup z=some v):mg z=none:=(btA T _ (E9 h)).1
theorem btN{z:Str}{v:gg}(h:btT.lookup z=some v):bootBuiltins z=some v:=(show ∀p∈btT,bootBuiltins p.1=some p.2 from by decide+kernel) _ (E9 h)
section
variable {X:Cx}{x z:Str}{e a b c st lo hi:gf}{es:iL}{fa fb fc fo fl fh:FO}{f g:F}{ft fu:FT}{p p2 p3 pos b7 apos:Pos}{A L:iu}{B:SB}{H0:Hp}{fs:List FO}{cG:List F}{i j k:Nat}{tg:gf}{S:Stmt}{Ss Ts:List Stmt}{u v:FS}
theorem xV(h1:X.N[i]?=some x:=by rfl)(h2:Vis X.env.scope x:=by first|exact Or.inl rfl|exact Or.inr (Or.inl rfl)|exact Or.inr (Or.inr rfl))(h3:DB x:=by decide)(h4:(x==("__classdict__":Str))=false:=by decide):QO X (.Name x pos) (fO i):=⟨Qb h1 h2 h3 h4⟩
theorem xW(h1:X.N[i]?=some x:=by rfl)(h2:Vis X.env.scope x:=by first|exact Or.inl rfl|exact Or.inr (Or.inl rfl)|exact Or.inr (Or.inr rfl))(h3:DB x:=by decide)(h4:(x==("__classdict__":Str))=false:=by decide):QX X (.Name x pos) (iI i):=⟨Pt h1 h2 h3 h4⟩
theorem xO(h:QX X e f):QO X e (fP f):=⟨PX.po h.h⟩
theorem x1{j}:QX X (.Constant .none j pos) (fC .non):=⟨PF⟩
theorem x2{i j}:QX X (.Constant (.bool i) j pos) (fC (.bl i)):=⟨So⟩
theorem x3{i j}:QX X (.Constant (.int i) j pos) (fC (.int i)):=⟨PL⟩
theorem x4{i j}:QX X (.Constant (.str i) j pos) (fC (.str i)):=⟨Pw⟩
theorem x5{i:Int}(h: ∃t,X.mg x=some (.int i t))(g:Gl X x:=by rfl)(h3:DB x:=by decide):QX X (.Name x pos) (fC (.int i)):=let⟨_,h⟩:=h;⟨MO g h h3⟩
theorem x6{i:Str}(h: ∃t,X.mg x=some (.str i t))(g:Gl X x:=by rfl)(h3:DB x:=by decide):QX X (.Name x pos) (fC (.str i)):=let⟨_,h⟩:=h;⟨MN g h h3⟩
theorem x7:QX X (.Dict [] [] pos) LJ:=⟨MP⟩
theorem jo{op:Operator}{g:D->D->Option (D×Bool)}(o:QP X (binaryOp op) g)(ha:QO X a fa)(hb:QO X b fb):QX X (.BinOp a op b pos) (fZ g fa fb):=⟨PN o.h ha.h hb.h⟩
theorem A5(ha:QO X a fa):QX X (.UnaryOp .USub a pos) (kh oA fa):=⟨PH ha.h⟩
theorem TM(ha:QX X a f):QX X (.UnaryOp .Not a pos) (NO f):=⟨PD ha.h⟩
theorem Ep{op:CmpOp}{g:D->D->Option (D×Bool)}(o:QP X (compareOp op) g)(ha:QO X a fa)(hb:QO X b fb)(hm:behindInMarks op b=false:=by first|exact La _|with_unfolding_all rfl):QX X (.Compare a [op] [b] pos) (fZ g fa fb):=⟨PM o.h ha.h hb.h hm⟩
theorem tCmp{op:CmpOp}{g:D->D->Option (D×Bool)}(o:QP X (compareOp op) g)(ha:QO X a fa)(hb:QO X b fb)(hm:behindInMarks op b=false:=by first|exact La _|with_unfolding_all rfl):QT X (.Compare a [op] [b] pos) (fT (fZ g fa fb)):=⟨MY o.h ha.h hb.h hm⟩
theorem xCh{op m4:CmpOp}(ha:QO X a fa)(hb:QO X b fb)(hc:QO X c fc)(o1:oy op:=by first|exact .inl rfl|exact .inr (.inl rfl)|exact .inr (.inr (.inl rfl))|exact .inr (.inr (.inr rfl)))(o2:oy m4:=by first|exact .inl rfl|exact .inr (.inl rfl)|exact .inr (.inr (.inl rfl))|exact .inr (.inr (.inr rfl)))(hm:lastMarks [op,m4] [b,c]=false:=by with_unfolding_all rfl):QX X (.Compare a [op,m4] [b,c] pos) (mU op m4 fa fb fc):=⟨Kl o1 o2 ha.h hb.h hc.h hm⟩
theorem tCh{op m4:CmpOp}(ha:QO X a fa)(hb:QO X b fb)(hc:QO X c fc)(o1:oy op:=by first|exact .inl rfl|exact .inr (.inl rfl)|exact .inr (.inr (.inl rfl))|exact .inr (.inr (.inr rfl)))(o2:oy m4:=by first|exact .inl rfl|exact .inr (.inl rfl)|exact .inr (.inr (.inl rfl))|exact .inr (.inr (.inr rfl)))(hm:lastMarks [op,m4] [b,c]=false:=by with_unfolding_all rfl):QT X (.Compare a [op,m4] [b,c] pos) (fT (mU op m4 fa fb fc)):=⟨Hr o1 o2 ha.h hb.h hc.h hm⟩
theorem xBo{op}(ha:QX X a f):QX X (.BoolOp op [a] pos) f:=⟨MS ha.h⟩
theorem A6(ha:QX X a f)(hb:QX X (.BoolOp .And (b::es) pos) g):QX X (.BoolOp .And (a::b::es) pos) (ui f g):=⟨PQ ha.h hb.h⟩
theorem wOr(ha:QT X a ft)(hb:QW X (.BoolOp .Or (b::es) pos) fu):QW X (.BoolOp .Or (a::b::es) pos) (oE ft fu):=⟨PU ha.h hb.h⟩
theorem Cq(ha:QT X a ft):QW X (.BoolOp .Or [a] pos) ft:=⟨MU ha.h⟩
theorem tW{op}(h:QW X (.BoolOp op es pos) ft):QT X (.BoolOp op es pos) ft:=⟨PR h.h⟩
theorem tNot(ha:QT X a ft):QT X (.UnaryOp .Not a pos) (kW ft):=⟨MX ha.h⟩
theorem xJ(h:QX X e f)(he: ∀whole,isTrue e X.env whole=(do let v <-whole;standAt e.pos;holding [v] (truthy v)):=by intro _;rfl):QT X e (fT f):=⟨MW h.h he⟩
theorem xIf(hc:QT X c ft)(ha:QX X a f)(hb:QX X b g):QX X (.IfExp c a b pos) (fIf ft f g):=⟨Sn hc.h ha.h hb.h⟩
theorem xIx(ha:QO X a fa)(hb:QO X b fb)(hs:Cd b:=by exact fun _ _=>rfl):QX X (.Subscript a b pos) (fZ gIx fa fb):=⟨Sm ha.h hb.h hs⟩
theorem TJ(ha:QO X a fa)(hl:QO X lo fl):QX X (.Subscript a (.Slice (some lo) none none p2) pos) (yE fa fl):=⟨MK ha.h hl.h⟩
theorem TK(ha:QO X a fa)(hh:QO X hi fh):QX X (.Subscript a (.Slice none (some hi) none p2) pos) (Dp fa fh):=⟨ML ha.h hh.h⟩
theorem xL0:QL X [] []:=⟨ME⟩
theorem xL(ha:QX X e f)(hr:QL X es cG)(hs:SE X e es:=by rfl):QL X (e::es) (f::cG):=⟨Ki ha.h hr.h hs⟩
theorem xA0:QA X [] []:=⟨wK⟩
theorem xA(ha:QO X e fa)(hr:QA X es fs)(hs:SE X e es:=by rfl):QA X (e::es) (fa::fs):=⟨pX ha.h hr.h hs⟩
theorem Cj{k}(h:QL X es cG):QX X (.Tuple es k pos) (oD cG):=⟨MJ h.h⟩
theorem uT(h:QL X es cG):QX X (.List es pos) (my cG):=⟨MM h.h⟩
theorem xB{id:String}{g:List D->Option (D×Bool)}(T:Tx X.mg)(hv:btT.lookup z=some (.builtin id))(hc:QC X (.builtin id) g)(ha:QA X (e::es) fs)(hg:Gl X z:=by rfl)(hn:z≠"__name__":=by decide)(m8:DB z:=by decide)(he:SE X e es:=by rfl)(j7:BA X pos es:=by rfl):QX X (.Call (.Name z p) (e::es) [] pos) (gn g fs):=⟨MT hc.h hg (btM T hv) (btN hv) ha.h hn m8 he j7⟩
theorem xT{id:String}{g:List D->Option (D×Bool)}(T:Tx X.mg)(hv:btT.lookup z=some (.type id))(hc:QC X (.type id) g)(ha:QA X (e::es) fs)(hg:Gl X z:=by rfl)(hn:z≠"__name__":=by decide)(m8:DB z:=by decide)(he:SE X e es:=by rfl)(j7:BA X pos es:=by rfl):QX X (.Call (.Name z p) (e::es) [] pos) (gn g fs):=⟨MI hc.h hg (btM T hv) (btN hv) ha.h hn m8 he j7⟩
theorem xI{t:Ty}(T:Tx X.mg)(hz:btT.lookup z=some (.type t.n))(ha:QO X e fa)(hg:Gl X "isinstance":=by rfl)(eL:Gl X z:=by rfl)(hn:z≠"__name__":=by decide)(m8:DB z:=by decide)
  (s1:SE X e [.Name z p2]:=by rfl)(s2:SE X (.Name z p2) []:=by rfl)(j7:BA X pos [.Name z p2]:=by rfl):
  QX X (.Call (.Name "isinstance" p) [e,.Name z p2] [] pos) (kh (wt [t]) fa):=⟨PK ha.h hg T.n_isinstance eL (btM T hz) (btN hz) hn m8 zr s1 s2 j7⟩
theorem xU{k:Nat}{ps:gZ}{ev:EvF}(O:Oz (zX X) k x ps ev)(hr:Room k X.A)(ha:QA X (e::es) fs)(hg:Gl X x:=by rfl)(m8:DB x:=by decide)
  (he:SE X e es:=by rfl)(j7:BA X pos es:=by rfl):QX X (.Call (.Name x p) (e::es) [] pos) (fV ev fs):=
 let⟨_,_,ok,hm,kp,bi⟩:=O;⟨MF ok hr hg hm kp bi ha.h m8 he j7⟩
theorem RL{T:String}{mk:List D->D}{o:Bool}(X0:Tx X.mg)(hv:btT.lookup z=some (.type T))(ha:QA X [a,b] [fa,fb])(hT:(T="list"/\mk= .lst/\o=true)\/(T="tuple"/\mk= .tup/\o=false):=by first|exact .inl ⟨rfl,rfl,rfl⟩|exact .inr ⟨rfl,rfl,rfl⟩)(hc:X.calm=true:=by rfl)(hg:Gl X z:=by rfl)(hn:z≠"__name__":=by decide)(m8:DB z:=by decide)(dF:Gl X "range":=by rfl)
  (s1:SE X (.Call (.Name "range" p2) [a,b] [] p3) []:=by rfl)(s2:SE X a [b]:=by rfl)
  (j7:BA X pos []:=by rfl)(bj:BA X p3 [b]:=by rfl):
  QX X (.Call (.Name z p) [.Call (.Name "range" p2) [a,b] [] p3] [] pos) (gn (gRg mk o) [fa,fb]):=⟨Px hT hc hg (btM X0 hv) (btN hv) hn m8 dF X0.n_range ha.h s1 s2 j7 bj⟩
theorem RN(hv:QO X (.Name x b7) (fO i))(he:QX X e f)(j4:attributeBase (.Name x b7) "append" X.env (eval (.Name x b7) X.env)=eval (.Name x b7) X.env:=by rfl)
  (u5:((backTo pos (starEach [e] X.env)).all (fun x=>!x.1)&&(backToKw pos (keywordEach [] X.env)).all (fun x=>x.1.isSome)&&decide ([e].length+([]:List Keyword).length+(if([]:List Keyword).isEmpty then 0 else 1)<30))=true:=by rfl)
  (j0:(apos.endLine==pos.line)=true:=by rfl)(hs:SE X e []:=by rfl)(f7:BA X pos []:=by rfl):QX X (.Call (.Attribute (.Name x b7) "append" apos) [e] [] pos) (lI i f):=⟨Hq hv.h he.h j4 u5 j0 hs f7⟩
theorem TL(hv:QO X (.Name x b7) (fO i))(he:QO X e fo)(j4:attributeBase (.Name x b7) "pop" X.env (eval (.Name x b7) X.env)=eval (.Name x b7) X.env:=by rfl)
  (u5:((backTo pos (starEach [e] X.env)).all (fun x=>!x.1)&&(backToKw pos (keywordEach [] X.env)).all (fun x=>x.1.isSome)&&decide ([e].length+([]:List Keyword).length+(if([]:List Keyword).isEmpty then 0 else 1)<30))=true:=by rfl)
  (j0:(apos.endLine==pos.line)=true:=by rfl)(hs:SE X e []:=by rfl)(f7:BA X pos []:=by rfl):QX X (.Call (.Attribute (.Name x b7) "pop" apos) [e] [] pos) (sm i fo):=⟨Kk hv.h he.h j4 u5 j0 hs f7⟩
theorem iR1(T:Tx X.mg)(ha:QA X [a] [fa])(hg:Gl X "range":=by rfl)(hs:starEach [a] X.env=[(false,eval a X.env)]:=by rfl):QI X B tg (.Call (.Name "range" p) [a] [] pos) (pK fa):=⟨EO hg T.n_range ha.h hs⟩
theorem iR2(T:Tx X.mg)(ha:QA X [a,b] [fa,fb])(hg:Gl X "range":=by rfl)(hs:starEach [a,b] X.env=[(false,eval a X.env),(false,eval b X.env)]:=by rfl)(n5:starEach [b] X.env=[(false,eval b X.env)]:=by rfl):QI X B tg (.Call (.Name "range" p) [a,b] [] pos) (De fa fb):=⟨EN hg T.n_range ha.h hs n5⟩
theorem iZ{elts:iL}{k1:Nat}{n6:Pos}(T:Tx X.mg)(ha:QX X a f)(hb:QX X b g)(hg:Gl X "zip":=by rfl)(hs:SE X a [b]:=by rfl)(n5:SE X b []:=by rfl)(j7:BA X pos [b]:=by rfl):
  QI X B (.Tuple elts k1 n6) (.Call (.Name "zip" p) [a,b] [] pos) (vY f g):=⟨Na hg T.n_zip ha.h hb.h hs n5 j7⟩
theorem iS(h:QX X e f):QI X B tg e (hZ f):=⟨Nb h.h⟩
theorem gN(hN:X.N.Nodup)(hi:X.N[i]?=some x:=by rfl)(hx:Loc X.env.scope x:=by first|exact Or.inl rfl|exact Or.inr rfl)(hf:X.fn x=true\/X.env.scope.names.lookup x=some .local:=by first|exact Or.inl rfl|exact Or.inr rfl)(ha:A i:=by decide):QG X A (.Name x pos) (fX i):=⟨KC hN hi hx hf ha⟩
theorem gT{t1 t2:Tg}{k:Nat}(h1:QG X A a t1)(h2:QG X A b t2)(hc:X.calm=true:=by rfl)(q1:(assignEach [a,b] X.env).map (·.2)=assign a X.env::(assignEach [b] X.env).map (·.2):=by rfl)(q2:(assignEach [b] X.env).map (·.2)=assign b X.env::(assignEach [] X.env).map (·.2):=by rfl)
  (hn:(assignEach [a,b] X.env).length=2:=by rfl)(u3:(assignEach [a,b] X.env).findIdx? (·.1)=none:=by rfl):QG X A (.Tuple [a,b] k pos) (mR [t1,t2]):=⟨Gm hc (qJ h1.h (qJ h2.h CP q2) q1) hn rfl u3⟩
theorem f0:QF X [] gW:=⟨Ky⟩
theorem f1(h:QT X e ft):QF X [e] ft:=⟨Kx h.h⟩
theorem bE{gens:mH}{sc:iK}{d:fR}{n:Nat}(he:QX X e f)(hn:gens[n+1]?=none:=by rfl):QB X A d (.ListComp e gens sc p) n (gQ f):=⟨KS hn he.h⟩
theorem bF{gens:mH}{sc:iK}{d:fR}{n:Nat}{c:lY}{fi:FIt}{tt:Tg}{fb:FB}(hg:gens[n+1]?=some c)(pi:QI X (fun _=>False) c.target c.iter fi)(pg:QG X A c.target tt)(av:QF X c.ifs ft)(pb:QB X A d (.ListComp e gens sc p) (n+1) fb)(bW:X.xe=fun _ _=>False:=by rfl)(hc:X.calm=true:=by rfl)
  (ha:c.is_async=0:=by rfl)(k0: ∀g',gens[n+1+1]?=some g'->g'.is_async=0:=by intro g' h;cases h;try rfl)(hs: ∀x,foldedSetIterable c.iter X.env x=pure x:=by intro _;rfl):QB X A d (.ListComp e gens sc p) n (FH fi tt ft fb):=⟨Nl bW hc (Or.inl ⟨_,_,_,_,rfl⟩) hg ha k0 hs pi.h pg.h av.h pb.h⟩
theorem cOk{N P:gZ}{sc scope:iK}{N':gZ}{caps:hU}(S:FnScope N P sc)(h:BW N sc scope N' caps k=true:=by decide+kernel)(hN:X.N=N:=by rfl)(hs:X.env.scope=sc:=by rfl):CompOk X N' scope caps k:=L1 hN hs h
theorem xC{c:lY}{gL:mH}{elt:gf}{scope:iK}{fi:FIt}{tt:Tg}{ti:FT}{fb:FB}{caps:hU}{N':gZ}(C:CompOk X N' scope caps k)(nd:N'.Nodup)(pi:QI X (fun i=>i∉caps) c.target c.iter fi)
  (t8: ∀(cl:jS) (C:fR) (s3:fW) (H3:Hp) (fp:iN) (pins:gE),(X.comp N' scope cl C s3 H3 fp pins).N.Nodup->
   QG (X.comp N' scope cl C s3 H3 fp pins) (fun i=>caps.length<=i) c.target tt/\QF (X.comp N' scope cl C s3 H3 fp pins) c.ifs ti/\ ∀d,QB (X.comp N' scope cl C s3 H3 fp pins) (fun i=>caps.length<=i) d (.ListComp elt (c::gL) scope pos) 0 fb)
  (hc:X.calm=true:=by rfl)(ha:c.is_async=0:=by rfl)(k0: ∀g',gL[0]?=some g'->g'.is_async=0:=by intro g' h;cases h;try rfl)(hs: ∀x,foldedSetIterable c.iter X.env x=pure x:=by intro _;rfl):QX X (.ListComp elt (c::gL) scope pos) (hJ caps k fi tt ti fb):=⟨MQ C hc ha k0 hs pi.h fun cl C s3 H3 fp pins=>let⟨a,b,c⟩:=t8 cl C s3 H3 fp pins nd;⟨a.h,b.h,fun d=>(c d).h⟩⟩
theorem sC{c:lY}{gL:mH}{elt:gf}{scope:iK}{fi:FIt}{tt:Tg}{ti:FT}{fb:FB}{caps:hU}{N':gZ}{py d9:Pos}(hN:X.N.Nodup)(C:CompOk X N' scope caps k)(nd:N'.Nodup)(pi:QI X (fun i=>i∉caps) c.target c.iter fi)
  (t8: ∀(cl:jS) (C:fR) (s3:fW) (H3:Hp) (fp:iN) (pins:gE),(X.comp N' scope cl C s3 H3 fp pins).N.Nodup->
   QG (X.comp N' scope cl C s3 H3 fp pins) (fun i=>caps.length<=i) c.target tt/\QF (X.comp N' scope cl C s3 H3 fp pins) c.ifs ti/\ ∀d,QB (X.comp N' scope cl C s3 H3 fp pins) (fun i=>caps.length<=i) d (.ListComp elt (c::gL) scope pos) 0 fb)
  (cQ:swapsWith (.ListComp elt (c::gL) scope pos) (some (.Name x py)) d9.line X.env=pure true:=by rfl)(hi:X.N[i]?=some x:=by rfl)(hx:X.env.scope.names.lookup x=some .local:=by rfl)(hf:X.fn x=true:=by rfl)(hA:A i:=by decide)
  (hc:X.calm=true:=by rfl)(ha:c.is_async=0:=by rfl)(k0: ∀g',gL[0]?=some g'->g'.is_async=0:=by intro g' h;cases h;try rfl)(hs: ∀x,foldedSetIterable c.iter X.env x=pure x:=by intro _;rfl):QS X A L H0 (.Assign [.Name x py] (.ListComp elt (c::gL) scope pos) d9) (js i (hJ caps k fi tt ti fb)):=⟨Kp cQ C hc ha k0 hs pi.h (Gn hN hi (Or.inl hx) (Or.inl hf)) hA fun cl C s3 H3 fp pins=>let⟨a,b,c⟩:=t8 cl C s3 H3 fp pins nd;⟨a.h,b.h,fun d=>(c d).h⟩⟩
theorem s0:QQ X A L H0 [] gm:=⟨Kq⟩
theorem s1(h:QS X A L H0 S u)(hr:QQ X A L H0 Ss v):QQ X A L H0 (S::Ss) (fY u v):=⟨Hv h.h hr.h⟩
theorem sX:QS X A L H0 S Br:=⟨Ht⟩
theorem sR(h:QX X e f):QS X A L H0 (.Return (some e) pos) (hW f):=⟨M5 h.h⟩
theorem sRV(hl: ¬L i)(h1:X.N[i]?=some x:=by rfl)(h2:Vis X.env.scope x:=by first|exact Or.inl rfl|exact Or.inr (Or.inl rfl)|exact Or.inr (Or.inr rfl))(h3:DB x:=by decide)(h4:(x==("__classdict__":Str))=false:=by decide):QS X A L H0 (.Return (some (.Name x p)) pos) (ny i):=⟨EK h1 h2 h3 h4 hl⟩
theorem sE(h:QX X e f)(hs:swapsWith e none pos.line X.env=pure false:=by rfl):QS X A L H0 (.Expr e pos) (pD f):=⟨Kn h.h hs⟩
theorem sI(hc:QT X c ft)(ha:QQ X A L H0 Ss u)(hb:QQ X A L H0 Ts v):QS X A L H0 (.If c Ss Ts pos) (sIf ft u v):=⟨P6 hc.h ha.h hb.h⟩
theorem sW{n:Nat}(hc:QT X c ft)(hb:QQ X A L H0 Ss u)(hp:PassesOwn (model X.prog X.w) X.A X.env X.xe:=by exact PassesOwn.never):QS X A L H0 (.While c Ss [] pos) (kI ft u n):=⟨Hs hp hc.h hb.h⟩
theorem sF{fi:FIt}{t:Tg}(hi:QI X (fun _=>False) tg e fi)(hg:QG X A tg t)(hb:QQ X A L H0 Ss u)(hp:PassesOwn (model X.prog X.w) X.A X.env X.xe:=by exact PassesOwn.never)(hc:X.calm=true:=by rfl)(hs: ∀x,foldedSetIterable e X.env x=pure x:=by intro _;rfl):QS X A L H0 (.For tg e Ss [] pos) (tx fi t u):=⟨M6 hp hc hi.h hg.h hb.h hs⟩
theorem sS(hN:X.N.Nodup)(he:QX X e f)(hi:X.N[i]?=some x:=by rfl)(hx:Loc X.env.scope x:=by first|exact Or.inl rfl|exact Or.inr rfl)(hf:X.fn x=true\/X.env.scope.names.lookup x=some .local:=by first|exact Or.inl rfl|exact Or.inr rfl)(ha:A i:=by decide)(hs:swapsWith e (some (.Name x p)) pos.line X.env=pure false:=by rfl):QS X A L H0 (.Assign [.Name x p] e pos) (js i f):=⟨M1 hN hi hx he.h hs hf ha⟩
theorem sT{t:Tg}{pt:Pos}(he:QX X e f)(hg:QG X A (.Tuple es k pt) t)(hs:swapsWithSole [.Tuple es k pt] e pos.line X.env=pure false:=by rfl)(hw:swappedStores [.Tuple es k pt] e X.env=pure none:=by rfl)(h1:(assignEach [.Tuple es k pt] X.env).map (·.2)=[assign (.Tuple es k pt) X.env]:=by rfl):QS X A L H0 (.Assign [.Tuple es k pt] e pos) (Bp t f):=⟨M0 he.h hg.h hs hw h1⟩
theorem sIx{d9:Pos}(hv:QO X (.Name x b7) (fO i))(he:QX X e f)(hi:QO X a fo)
  (ha: ∀v,assign (.Subscript (.Name x b7) a d9) X.env v=(do
   let ov <-holding [v] (eval (.Name x b7) X.env)
   let iv <-holding [v,ov] (eval a X.env)
   standAt d9
   holding [v,ov,iv] (setItem ov iv v)
   release [v,ov,iv] []):=by intro _;rfl)
  (hs:swapsWithSole [.Subscript (.Name x b7) a d9] e pos.line X.env=pure false:=by rfl)(hw:swappedStores [.Subscript (.Name x b7) a d9] e X.env=pure none:=by rfl)
  (h1:(assignEach [.Subscript (.Name x b7) a d9] X.env).map (·.2)=[assign (.Subscript (.Name x b7) a d9) X.env]:=by rfl):QS X A L H0 (.Assign [.Subscript (.Name x b7) a d9] e pos) (oM i f fo):=⟨Hu hv.h he.h hi.h ha hs hw h1⟩
theorem sDP{d9:Pos}(hu:un X.A 1)(hv:QO X (.Name x b7) (fO i))(he:QX X e f)(hi:QO X a fo)
  (ha: ∀v,assign (.Subscript (.Name x b7) a d9) X.env v=(do
   let ov <-holding [v] (eval (.Name x b7) X.env)
   let iv <-holding [v,ov] (eval a X.env)
   standAt d9
   holding [v,ov,iv] (setItem ov iv v)
   release [v,ov,iv] []):=by intro _;rfl)
  (hs:swapsWithSole [.Subscript (.Name x b7) a d9] e pos.line X.env=pure false:=by rfl)(hw:swappedStores [.Subscript (.Name x b7) a d9] e X.env=pure none:=by rfl)
  (h1:(assignEach [.Subscript (.Name x b7) a d9] X.env).map (·.2)=[assign (.Subscript (.Name x b7) a d9) X.env]:=by rfl):QS X A L H0 (.Assign [.Subscript (.Name x b7) a d9] e pos) (vS i f fo):=⟨Ko hu hv.h he.h hi.h ha hs hw h1⟩
end
def Fz(K:gq)(mg:kM)(x:Str)(st:Stmt):Prop:= ∃f fd,mg x=some (.ref f)/\Fun K x x st f fd
theorem fz{K:gq}{h:gD}{mg:kM}{x:Str}{st:Stmt}{f:fR}{oc:gg}{od an:Option Addr}{ax:vE}{kV doc pm d8 ct:gg}(X:K.In h)(G:h.Ns mainGlobals mg)(a:PySem.W.nsIn K mainGlobals x=some (some (.ref f)))
  (l:K.lookup f=some ⟨oc,od,.func (PySem.W.fnOf x x (qT st) (mD st) (gb st) .none kV doc pm an d8 ct),ax⟩)(c:PySem.W.codeIn K d8 x=true)(k:PySem.W.keepIn K (.ref f)=true):Fz K mg x st:=⟨f,_,PySem.W.mg_of X G a,Rf l c k⟩
def BdA(x:Str)(st:Stmt)(ps:gZ):Prop:= ∀(kV doc pm:gg) (an:Option Addr) (d8 ct:gg) (us:hV),us.length=ps.length->bindArgs (PySem.W.fnOf x x (qT st) (mD st) (gb st) .none kV doc pm an d8 ct) ⟨us,[]⟩=pure (ps.zip us)
theorem scM{N P:gZ}{sc:iK}(h1:sc.kind= .function:=by rfl)(h2:sc.isCoroutine=false:=by rfl)(h3:sc.isGenerator=false:=by rfl)(h4:N.Nodup:=by decide+kernel)(h5:N.take P.length=P:=by rfl)(h6: ∀x∈P,sc.names.lookup x=some .local\/sc.names.lookup x=some .cell:=by decide+kernel)(h7: ∀y∈sc.names,y.2≠ .free:=by decide+kernel):FnScope N P sc:=⟨h1,h2,h3,h4,h5,h6,h7⟩
def Bd(Z:ZZ)(k:Nat)(x:Str)(st:Stmt)(N ps:gZ)(asg:hU)(fs:FS):Prop:= ∀(f:fR) (d8:gg) (A:gw) (outer:List Env) (s:fW) (H:Hp) (E:XK) (L:iu),(∀i,L i->i<ps.length)->Room k (A.deeper (envOfC x (gb st) s.heap.objs.size f d8))->
 un (A.deeper (envOfC x (gb st) s.heap.objs.size f d8)) 60->un (A.deeper (envOfC x (gb st) s.heap.objs.size f d8)) 1->un (A.deeper (envOfC x (gb st) s.heap.objs.size f d8)) 62->un (A.deeper (envOfC x (gb st) s.heap.objs.size f d8)) 90->N.Nodup->
 QQ (Dt CX0 Z.P Z.w Z.K Z.mg Z.base N x (gb st) f d8 A outer s H E).nox (fun i=>i∈asg) L H (mD st) fs
theorem fnB{Z:ZZ}{k:Nat}{x:Str}{st:Stmt}{N ps:gZ}{asg:hU}{fs:FS}{f:fR}{fd:mZ}(F:Fun Z.K x x st f fd)(S:FnScope N ps (gb st))(hb:Bd Z k x st N ps asg fs):FnOk Z.P Z.w Z.K Z.mg Z.base CX0 (k+1) f fd ps (spF Z.K (evF N.length ps.length asg fs)):=
 Rc F S fun d8 A outer s H E L hL hr=>by
  have:=hr.un;exact(hb f d8 A outer s H E L hL hr (by unfold un;omega) (by unfold un;omega) (by unfold un;omega) (by unfold un;omega) S.nd).h
theorem ozB{Z:ZZ}{k:Nat}{x:Str}{st:Stmt}{N ps:gZ}{asg:hU}{fs:FS}(a:Fz Z.K Z.mg x st)(S:FnScope N ps (gb st))(b:BdA x st ps)(hb:Bd Z k x st N ps asg fs):Oz Z (k+1) x ps (evF N.length ps.length asg fs):=
 let⟨f,fd,m,F⟩:=a;⟨f,fd,fnB F S hb,m,F.kp,F.binds b⟩
theorem us0{P:List Value->Prop}(h:P []): ∀us:List Value,us.length=0->P us:=fun us e=>by cases us with|nil=>exact h|cons a l=>cases e
theorem us1{P:List Value->Prop}{n:Nat}(h: ∀a,∀us:List Value,us.length=n->P (a::us)): ∀us:List Value,us.length=n+1->P us:=fun us e=>by cases us with|nil=>cases e|cons a l=>exact h a l (Nat.succ.inj e)
theorem fzL{K:gq}{mg:kM}{x y:Str}{st:Stmt}{fa:fR}(a:Fz K mg x st)(eP:mg x=some (.ref fa))(b:BdA x st [y]): ∃fd,Fun K x x st fa fd/\ ∀(s:fW) (v:gg),BindsTo s fd ⟨[v],[]⟩ [(y,v)]:=by
 obtain⟨f,fd,m,F⟩:=a;have e:=eP.symm.trans m;cases e;obtain⟨oc,od,kV,doc,pm,an,d8,ct,ax,e,_⟩:=F.ex;exact⟨fd,F,fun s v=>by subst e;exact .of_eq (b kV doc pm an d8 ct [v] rfl)⟩
theorem mgI{K:gq}{h:gD}{mg:kM}{x:Str}{i:Int}{t:Tok}(X:K.In h)(G:h.Ns mainGlobals mg)(a:PySem.W.nsIn K mainGlobals x=some (some (.int i t))): ∃t,mg x=some (.int i t):=⟨t,PySem.W.mg_of X G a⟩
theorem txK{K:gq}{h:gD}{mg:kM}(X:K.In h)(G:h.Ns mainGlobals mg)(z0:PySem.W.nsIn K mainGlobals "len"=some none)(z1:PySem.W.nsIn K mainGlobals "abs"=some none)(z2:PySem.W.nsIn K mainGlobals "int"=some none)(z3:PySem.W.nsIn K mainGlobals "tuple"=some none)(z4:PySem.W.nsIn K mainGlobals "list"=some none)(z5:PySem.W.nsIn K mainGlobals "range"=some none)(z6:PySem.W.nsIn K mainGlobals "isinstance"=some none)(z7:PySem.W.nsIn K mainGlobals "bool"=some none)(z8:PySem.W.nsIn K mainGlobals "max"=some none)(z9:PySem.W.nsIn K mainGlobals "min"=some none)(z10:PySem.W.nsIn K mainGlobals "all"=some none)(z11:PySem.W.nsIn K mainGlobals "any"=some none)(z12:PySem.W.nsIn K mainGlobals "sorted"=some none)(z13:PySem.W.nsIn K mainGlobals "enumerate"=some none)(z14:PySem.W.nsIn K mainGlobals "zip"=some none)(z15:PySem.W.nsIn K mainGlobals "set"=some none):Tx mg:=⟨lZ X G z0,lZ X G z1,lZ X G z2,lZ X G z3,lZ X G z4,lZ X G z5,lZ X G z6,lZ X G z7,lZ X G z8,lZ X G z9,lZ X G z10,lZ X G z11,lZ X G z12,lZ X G z13,lZ X G z14,lZ X G z15⟩
theorem walkG{l:PySem.W.OpenLaw}{q:gA}{loose:gZ}{XP:(Str->Option Value)->Heap->Prop}{YP:World->Heap->Prop}{d:DefRec}{K:Params->PySem.W.Frag}{LV:Nat}{x:Str}{ev:EvF}(hk:Room LV callerA)(hn:l.most=some 63)(cX:d.params.defaults=[])(hY: ∀(w:gu) (h:gD),YP w h->(K w.params).In h)
  (F: ∀(w:gu) (mg:kM) (fa:fR) (h:gD),(K w.params).In h->h.Ns mainGlobals mg->mg d.name=some (.ref fa)-> ∃fd:FuncData,(∀(s:fW) (u:gg),BindsTo s fd ⟨[u],[]⟩ [(x,u)])/\ ∀base:Heap,(K w.params).In base->base.Ns mainGlobals mg->FnOk l.prog w (K w.params) mg base CX0 LV fa fd [x] (spF (K w.params) ev))
  (M: ∀ns:List Int,ns.length<=63-> ∃o outs,ev [(.lst (ns.map .int),false)]=some ((.bl true,o),outs)):PySem.W.WalkO q loose XP YP l.row.toRowW d [] (fun f vs=>PySem.call f vs):=
 L2.RO (n:=63) (k:=LV) (x:=x) (CX:=fun _=>CX0) (sp:=fun w=>spF (K w.params) ev) hn (by decide) cX hk hY F (fun _ _ a ns hl _ hS=>by obtain⟨o,outs,e⟩:=M ns hl;exact QU hS e) fun _ _ _ _ _ z=>z
abbrev abI(i:Int):Int:=if i<0 then -i else i
section
variable {prog:gA}{w:gu}{A:gw}{E:gH}{s:fW}
theorem JR{a:fR}{vs:hV}{ns:gc}{n:Nat}{P:PySem.Fin->Shared->Prop}(ho:s.heap.get? a=some (seqObj "list" vs.toArray n))(hi:IntsAre vs ns)(h64:vs.length<64)
  (h: ∀h' tk out c,(∀b o,b≠a->s.heap.get? b=some o->h'.get? b=some o)->h'.get? a=some (seqObj "list" out c)->KskOut false (ns.map abI) vs out.toList->P (.done (.ret .none)) {s with heap:=h',toks:=tk}):
  wpAny (model prog w) A (ksk_tree a (.builtin "abs") false) P E s:=by
 have ha:a<s.heap.objs.size:=iw ho;have hlen:=hi.length;have hz: ∀k,k<=vs.length->k<=sizeLine:=fun k hk=>by rw[jA];omega
 unfold ksk_tree;refine fS (DV ho rfl (fS (rK ho rfl ?_ (hz _ (by simp)) (mJ _))));obtain⟨e1,y6⟩: ∃e1,(s.heap.update a (Obj.mapSeq fun _=>(#[]:Array Value))).get? a=some (seqObj "list" #[] e1):=⟨_,uz ho fun _=> #[]⟩
 refine fS (wZ y6 rfl (fS (AO ?_ (hz _ (by simp)))));refine fS (AD ?_ (mJ _));refine kN ?_
 let h1:=oh s.heap a vs
 let kS:Addr:=((s.heap.update a (Obj.mapSeq fun _=>(#[]:Array Value))).push (seqObj "tuple" vs.toArray 0)).objs.size
 have hk:kS=s.heap.objs.size+1:=by show _=_;simp only[kS];rw[size_push',Heap.size_update]
 have hka:a≠kS:=by rw[hk];exact ip (uK ha)
 have old: ∀b o,b≠a->s.heap.get? b=some o->h1.get? b=some o:=fun b o hb e=>iF _ (iF _ (by rw[DS _ _ _ _ hb];exact e));have ag:h1.get? a=some (seqObj "list" #[] e1):=iF _ (iF _ y6);have aS:h1.get? kS=some (seqObj "list" #[] 0):=jb _ rfl;show wpAny (model prog w) A (ksk_rest a (.builtin "abs") false vs.toArray e1 (.ref kS)) P E {s with heap:=h1};unfold ksk_rest;refine fS (sM ?_);rw[List.forIn_toArray];refine fS (ksk_fold (fun i s'=> ∃h' tk kA e,s'={s with heap:=h',toks:=tk}/\(∀b o,b≠kS->h1.get? b=some o->h'.get? b=some o)/\h'.get? kS=some (seqObj "list" kA e)/\IntsAre kA.toList ((ns.map abI).take i)) vs 0 _ ⟨h1,s.toks,#[],0,rfl,fun _ _ _ e=>e,aS,.nil⟩ (fun j x s' hx hI=>?_) fun s' hI=>?_)
 ·obtain⟨h',tk,kA,e,rfl,k1,k2,k3⟩:=hI;have hj:j<vs.length:=(wz.mp hx).1;obtain⟨t,ht⟩:=hi.get j ns[j] (hX (by omega));rw[hx] at ht;cases ht
  have hsz:kA.size<=vs.length:=by
   have:=k3.length;rw[mf,vQ] at this;omega
  refine fS (vI (call_abs_int fun u cI=>?_));dsimp only;have s1:=rO h' kS (Obj.mapSeq (·.push (.int (abI ns[j]) u)));refine fS (rK (s:={s with heap:=h',toks:=cI}) k2 rfl ?_ (hz _ hsz) (mO (Nat.le_of_eq (Array.size_push ..)) (by rw[jA];omega)));refine gr ⟨rfl,_,_,kA.push (.int (abI ns[j]) u),_,rfl,fun b o hb e=>(s1.2 b hb).trans (k1 b o hb e),uz k2 _,?_⟩;rw[rN,List.take_add_one,jr,hX (show j<ns.length by omega),Array.toList_push];rw[rN] at k3;exact k3.append (.cons _ _ .nil)
 ·obtain⟨h',tk,kA,e,rfl,k1,k2,k3⟩:=hI;have k3:IntsAre kA.toList (ns.map abI):=by rwa [rN,sH (by simp;omega)] at k3
  have hsz:kA.size=vs.length:=by
   have:=k3.length;rw[mf,iG] at this;omega
  have dv:(kA.zip vs.toArray).size=vs.length:=by rw[Array.size_zip,hsz,iH,Nat.min_self]
  refine fS (DV (s:={s with heap:=h',toks:=tk}) k2 rfl ?_)
  have tail: ∀st:SortSt,(arrOf st).Perm (kA.zip vs.toArray)->SortedTo (arrOf st) (arrOf st).size->failedOf st=none->wpAny (model prog w) A (ksk_tail a false e1 (.ref kS) st) P E {s with heap:=h',toks:=tk}:=fun st hp hs hf=>by
   have s1:=rO h' kS (Obj.mapSeq fun _=>(#[]:Array Value));have aV:(h'.update kS (Obj.mapSeq fun _=>(#[]:Array Value))).get? a=some (seqObj "list" #[] e1):=(s1.2 a hka).trans (k1 a _ hka ag);have s2:=rO (h'.update kS (Obj.mapSeq fun _=>(#[]:Array Value))) a (Obj.mapSeq fun _=>(arrOf st).map (·.2));unfold ksk_tail;simp only[hC,iE];refine fS (rK (s:={s with heap:=h',toks:=tk}) k2 rfl ?_ (hz _ (by omega)) (mJ _));refine fS (xf (fS (wZ aV rfl (fS (rK aV rfl ?_ (mJ _) (Nat.le_succ_of_le (show((arrOf st).map (·.2)).size<=sizeLine from hz _ (by rw[DW,hp.size_eq,dv];exact gY _))))))));rw[hf];simp only[uL,hC,iE];refine gr (h _ _ _ _ (fun b o hb e=>?_) (uz aV _) (ksk_out (b:=false) k3 hp hs));have hbk:b≠kS:=by rw[hk];exact ip (uK (iw e))
   exact(s2.2 b hb).trans ((s1.2 b hbk).trans (k1 b o hbk (old b o hb e)))
  unfold ksk_end;simp only[hC,iE];by_cases h2:vs.toArray.size<2
  ·rw[gd h2,gd h2];refine fS (gr ?_);rw[D1];refine fS (gr (tail _ (DU _) (fun i j q9 hj=>?_) rfl));have eJ:j<(kA.zip vs.toArray).size:=hj;rw[dv] at eJ;rw[iH] at h2;have:i=j:=by omega
   subst this;exact Int.le_refl _
  ·rw[gk h2,gk h2];rw[iH] at h2;rw[ksk_kind k3 (by rw[hsz];omega)];refine fS (gr ?_)
   refine fS (mN (wpS_sortRuns (a₀:=kA.zip vs.toArray) (st:=SortSt.mk' oneType' (kA.zip vs.toArray) #[] 7 none) (Q:=fun _ b6=>(arrOf b6).Perm (kA.zip vs.toArray)/\failedOf b6=none/\SortedTo (arrOf b6) (kA.zip vs.toArray).size)
    (ksk_intKeys k3) ⟨DU _,rfl,rfl,rfl⟩ (by rw[dv];omega) (by rw[dv];exact h64) fun b6 a1 a2 a3=>⟨a1,a2,a3⟩) ?_ fun _ _ e=>e)
   rintro⟨⟨⟩,b6⟩ s' ⟨rfl,hp,hf,hs⟩;exact tail b6 hp (by rw[hp.size_eq];exact hs) hf
end
def aD:D->Int
 | .int i=>abI i
 |_=>0
def isI:D->Bool
 | .int _=>true
 |_=>false
def ltA(x y:D):Bool:=decide (aD x<aD y)
def vn:D->Option (D×Bool)
 | .lst l=>if l.all isI=true/\(l.map aD).Nodup/\l.length<64 then some (.lst (kr ltA l),true) else none
 |_=>none
theorem Dh{x:D}: ∀{l:List D},l.Pairwise (fun a b=>aD a<=aD b)->(sf ltA x l).Pairwise fun a b=>aD a<=aD b
 |[],_=>by simp[sf]
 |y::l,h=>by
  obtain⟨h1,h2⟩:=pz.mp h;unfold sf;by_cases hxy:aD y<aD x
  ·rw[gd (by simpa[ltA] using hxy)];refine pz.mpr ⟨fun z hz=>?_,Dh h2⟩;rcases jQ.mp ((oz ltA x l).mem_iff.mp hz) with rfl|hz
   ·omega
   ·exact h1 z hz
  ·rw[gk (by simpa[ltA] using hxy)];refine pz.mpr ⟨fun z hz=>?_,h⟩;rcases jQ.mp hz with rfl|hz
   ·omega
   ·have:=h1 z hz;omega
theorem uX: ∀l:List D,(kr ltA l).Pairwise fun a b=>aD a<=aD b
 |[]=> .nil
 |_::l=>Dh (uX l)
theorem zZ: ∀{l:List D},(l.map aD).Nodup-> ∀a∈l,∀b∈l,aD a=aD b->a=b
 |x::l,h,a,ha,b,hb,e=>by
  rw[il,Cf] at h;rcases jQ.mp ha with h1|h1<;>rcases jQ.mp hb with h2|h2
  ·rw[h1,h2]
  ·exact absurd (h1▸e▸AA h2) h.1
  ·exact absurd (h2▸e▸AA h1) h.1
  ·exact zZ h.2 a h1 b h2 e
theorem JT{l m:List D}(hp:m.Perm l)(hs:m.Pairwise fun a b=>aD a<=aD b)(hn:(l.map aD).Nodup):m=kr ltA l:=by
 refine(hp.trans (jF ltA l).symm).eq_of_pairwise (le:=fun a b=>aD a<=aD b) (fun a b ha hb x y=>zZ hn a (hp.mem_iff.mp ha) b ((jF ltA l).mem_iff.mp hb) (by omega)) hs (uX l)
section
variable {X:Cx}{pins:gE}{σ:L2.St}{H:Hp}{s:fW}
theorem R9{O:AP'}: ∀{l:List D} {xs:List V} {its:hV},l.all isI=true->RepL X.K H O l xs->Vals xs its-> ∃ns:List Int,l=ns.map .int/\IntsAre its ns
 |[],xs,its,_,r,v=>by
  rw[RepL] at r;subst r;cases v;exact⟨[],rfl,.nil⟩
 |d::l,xs,its,h,r,v=>by
  rw[RepL] at r;obtain⟨x,bG,rfl,r1,r2⟩:=r;rw[List.all_cons,mK] at h
  cases d with
  |int i=>
   cases v with
   |cons a b=>
    obtain⟨ns,rfl,h3⟩:=R9 h.2 r2 b;rw[gx (.inl r1)] at a;obtain⟨t,rfl⟩:=a;exact⟨i::ns,rfl,.cons _ _ h3⟩
  |_=>exact absurd h.1 (by simp[isI])
theorem RK: ∀{l:List D} {ns:gc} {xs:List V} {its:hV},l=ns.map .int->xs.length=l.length->its.length=l.length->(ns.map abI).zip its=(l.zip (xs.zip its)).map fun t=>(aD t.1,t.2.2)
 |[],[],_,_,_,_,_=>by simp
 |d::l,i::ns,x::xs,u::its,h,h1,h2=>by
  obtain⟨rfl,hh⟩:=rM h;have:=RK (xs:=xs) (its:=its) hh (by simpa using h1) (by simpa using h2);simp only[il,List.zip_cons_cons,this];rfl
theorem Ez{u:gg}{Q:VK}{O:AP'}{d:D}{z:D×Bool}{x:V}(I:Inv X pins σ H s)(ru:RelV x u)(np: ∀p,¬Ow (H p)-> ¬O p)(hd:ja X.K H O d x)(hg:vn d=some z)(G:Gen X.K H O z Q):
  wpAny (model X.prog X.w) X.A (call (.builtin "sorted") [u] [(Str.ofString "key",.builtin "abs")]) (EP X pins σ Q) X.xe s:=by
 cases d with
 |lst l=>
  obtain⟨⟨hI,hn,hz⟩,rfl⟩:=gP hg;obtain⟨p,xs,rfl,q,rr⟩:=jw hd;cases ru;obtain⟨its,v,pl,_⟩:=I.list q;have e1:=rr.length;have e2:=v.length;obtain⟨ns,aO,hints⟩:=R9 hI rr v;have hl:its.length<=sizeLine:=by rw[jA];omega
  obtain⟨o,ho,hc,n,dH⟩:=pl.isList;refine call_function_entry_kw kind_sorted plain_sorted entry_sorted (ksk_s1 _ _) ?_;unfold Builtin.«sorted»;refine fS (m:=checkCount "sorted" 1 1 _) (gr ?_);refine fS (DR p (.inl rfl) ho hc dH (fun h1 k1=>?_) (by rw[iH];omega));rw[List.toList_toArray];refine fS (AD ?_ hl);have dz:(h1.push (seqObj "list" its.toArray 0)).get? h1.objs.size=some (seqObj "list" its.toArray 0):=jb _ rfl;have I1:Inv X pins σ H {s with heap:=h1}:=I.kept k1;refine fS (kN (wpAny_call_entry_kw (s:={s with heap:=h1.push (seqObj "list" its.toArray 0)}) slot_list_sort ⟨_,dz,rfl⟩ entry_list_sort ?body (ksk_l1 _ _)))
  case body=>
   show wpAny _ _ (Builtin.«list.sort» ⟨[.ref h1.objs.size],[(Str.ofString "key",.builtin "abs")]⟩) _ _ _;rw[ksk_t4];refine JR (s:={s with heap:=h1.push (seqObj "list" its.toArray 0)}) dz hints (by omega) fun h' tk out c k2 k3 ko=>⟨_,rfl,gr ⟨_,rfl,?_⟩⟩
   obtain⟨ps,hp,hout,hs⟩:=ko;rw[RK aO (by omega) (by omega)] at hp;obtain⟨tr,ht,rfl⟩:=zf _ hp _ rfl;rw[iC] at hout
   have hmem: ∀t∈tr,Rep X.K H O t.1 t.2.1/\RelV t.2.1 t.2.2:=fun t hm=>by
    obtain⟨i,hi⟩:=List.getElem?_of_mem (ht.mem_iff.mp hm);obtain⟨hi1,br⟩:=Mm.mp hi;obtain⟨hi3,hi4⟩:=Mm.mp br;obtain⟨w,w1,w2⟩:=v.get hi3;rw[hi4] at w1;cases w1;exact⟨rr.views hi1 hi3,w2⟩
   have hD:tr.map (·.1)=kr ltA l:=by
    refine JT ?_ (by rw[mY] at hs ⊢;exact hs.imp fun h=>by simpa using h) hn;have:=ht.map (·.1)
    rwa [List.map_fst_zip (by simp;omega)] at this
   have hR: ∀tr:List (D×V×Value),(∀t∈tr,Rep X.K H O t.1 t.2.1/\RelV t.2.1 t.2.2)->RepL X.K H O (tr.map (·.1)) (tr.map (·.2.1))/\Vals (tr.map (·.2.1)) (tr.map (·.2.2)):=fun tr=>by
    induction tr with
    |nil=>exact fun _=>⟨.nil,.nil⟩
    |cons t tr ih=>
     intro h;obtain⟨i1,i2⟩:=ih fun x hx=>h x (iT _ hx);exact⟨.cons (h t iO).1 i1,.cons (h t iO).2 i2⟩
   obtain⟨r1,r2⟩:=hR tr hmem;have keep: ∀b o,h1.get? b=some o->h'.get? b=some o:=fun b o e=>k2 b o (ip (iw e)) (iF _ e);have hlen:tr.length=l.length:=by have:=nY List.length hD;rw[(jF ltA l).length_eq,iG] at this;exact this
   refine⟨.ref h1.objs.size,_,I1.laid (t':=tk) keep (gY _) (show ObjOk X.prog X.w _ _ _ (.lst (tr.map (·.2.1))) from⟨by rw[iG,jA];omega,out.toList,c,?_,?_⟩),rfl,?_⟩
   ·rw[hout];exact r2
   ·rw[II];exact k3
   ·refine G.lst I1.fresh ?_;rw[<-hD];exact r1
 |_=>cases hg
theorem KI{a:gf}{ta:TA}{p pos p1 kp:Pos}(hg:Gl X "sorted")(hm:X.mg "sorted"=none)(cV:Gl X "abs")(eI:X.mg "abs"=none)(ha:PA X [a] ta)
  (he:backTo pos (starEach [a] X.env)=(false,eval a X.env)::backTo pos (starEach [] X.env))(f7:(backTo pos (starEach [a] X.env)).any (·.1)=false):
  PE X (.Call (.Name "sorted" p) [a] [⟨some "key",.Name "abs" p1,kp⟩] pos) (tCB (rDn X.K (g1 vn)) ta):=by
 intro pins s σ H Q I h;refine uR (oR I hg hm Im (callWith_kw (thn (ha pos pins s σ H _ I h) fun us s1 ⟨vs,H1,I1,r1,hq⟩=>kws_cons (oR I1 cV eI Ru (kws_nil ?_))) he f7 rfl rfl));obtain⟨O,ds,z,np,hl,hv,hg,G⟩:=hq
 match ds,hg with
 |[d],hg=>
  obtain⟨x,rfl⟩:=Gv hl rfl;obtain⟨u,rfl,ru⟩:=pB r1;exact Ez I1 ru np (hv 0 d x rfl rfl) hg G
theorem Kj{a:gf}{fo:FO}{p pos p1 kp:Pos}(hg:Gl X "sorted")(hm:X.mg "sorted"=none)(cV:Gl X "abs")(eI:X.mg "abs"=none)(ha:PA X [a] (tA X.K [fo]))
  (he:backTo pos (starEach [a] X.env)=(false,eval a X.env)::backTo pos (starEach [] X.env))(f7:(backTo pos (starEach [a] X.env)).any (·.1)=false):
  PX X (.Call (.Name "sorted" p) [a] [⟨some "key",.Name "abs" p1,kp⟩] pos) (gn (g1 vn) [fo]):=pxn (KI hg hm cV eI ha he f7)
end
def fPop(i:Nat):F:=fun δ=>match δ[i]? with
 |some (some (.lst l,true))=>(l[l.length-1]?).bind fun d=>some ((d,false),δ.set i (some (.lst l.dropLast,true)))
 |_=>none
theorem RepL.dropLast{K H}{O:AP'}{l:List D}{xs:List V}(r:RepL K H O l xs):RepL K H O l.dropLast xs.dropLast:=by
 rw[IH,IH,r.length];exact r.take _
section
variable {X:Cx}{x:Str}{i:Nat}{b7 apos i5:Pos}
theorem Py(hv:PO X (.Name x b7) (fO i))(j4:attributeBase (.Name x b7) "pop" X.env (eval (.Name x b7) X.env)=eval (.Name x b7) X.env)(j0:(apos.endLine==i5.line)=true):
  PX X (.Call (.Attribute (.Name x b7) "pop" apos) [] [] i5) (fPop i):=
 PX.imp (Qm D4 Jf Je QJ hv j4 j0) fun σ H Q hw=>by
 obtain⟨δ,T,rr,δ',E,e,k⟩:=hw;unfold fPop at e;split at e
 ·rename_i l h0;obtain⟨d,hd,e⟩:=fN e;obtain⟨rfl,rfl⟩:=gp e;refine⟨δ,T,.slot i,δ,E,by unfold fO;rw[h0],fun v H1 P=>?_⟩;obtain⟨K1,E1,hσ⟩:=P;obtain⟨a,g1,xs,g2,g3⟩:=E1.own i _ h0;rw[hσ] at g1;cases g1;obtain⟨w,w1,w2⟩:=g3.get hd;have hl:=g3.length;obtain⟨E3,K3⟩:=E1.write h0 hσ (RepL.dropLast g3);refine⟨.inl ⟨rfl,xs,SqL.of g2⟩,_,xs,w,rfl,rfl,g2,by rw[hl];exact w1,?_⟩;exact k _ _ (Post.val (K1.trans K3) E3 (Rep.mono (fun b o e n=>K3.kp b o e fun z=>n (.inl z)) (fun b _ z=>z.imp (K3.ow b) id) w2))
 ·cases e
end
def Ra:=gI fun i j=>if ux i j then some (.int (i*2^j.toNat)) else none
def Q9:=gI fun i j=>if 0<=j then some (.int (i / 2^j.toNat)) else none
def LF:=gI fun i j=>some (.int (Builtin.bitAnd i j))
section
variable {X:Cx}
theorem Nt:OpR X (binaryOp .LShift) (rD X.K Ra):=qL Qs
theorem Nr:OpR X (binaryOp .RShift) (rD X.K Q9):=qL Qr
theorem Nu:OpR X (binaryOp .BitAnd) (rD X.K LF):=CT Qy
variable {a:gf}{fo:FO}{p pos p1 kp b7 apos:Pos}{x:Str}{i:Nat}
theorem xSA(T:Tx X.mg)(ha:QA X [a] [fo])(hg:Gl X "sorted":=by rfl)(cV:Gl X "abs":=by rfl)(he:backTo pos (starEach [a] X.env)=(false,eval a X.env)::backTo pos (starEach [] X.env):=by rfl)(j7:BA X pos [a]:=by rfl):
  QX X (.Call (.Name "sorted" p) [a] [⟨some "key",.Name "abs" p1,kp⟩] pos) (gn (g1 vn) [fo]):=⟨Kj hg (btM T (z:="sorted") rfl) cV (btM T (z:="abs") rfl) ha.h he j7⟩
theorem RM(hv:QO X (.Name x b7) (fO i))(j4:attributeBase (.Name x b7) "pop" X.env (eval (.Name x b7) X.env)=eval (.Name x b7) X.env:=by rfl)(j0:(apos.endLine==pos.line)=true:=by rfl):
  QX X (.Call (.Attribute (.Name x b7) "pop" apos) [] [] pos) (fPop i):=⟨Py hv.h j4 j0⟩
end
section
variable {X:Cx}{pins:gE}{σ:L2.St}{H:Hp}{s:fW}
theorem Gg{K:gq}{O:AP'}: ∀(ks:List Key),RepL K H O (ks.map iB) (ks.map kV)
 |[]=>RepL.nil
 |k::ks=>by
  refine RepL.cons ?_ (Gg ks)
  cases k with
  |inl i=>exact Rep.mkInt
  |inr x=>exact Rep.mkStr
theorem rX{K:gq}{O:AP'}(np: ∀p,¬Ow (H p)-> ¬O p): ∀{kvs:List (List Key×V)} {xs:List (List Key×Addr×Value)},L2.KT H kvs xs->RepL K H O (kvs.map fun p=> .tup (p.1.map iB)) (xs.map fun x=>V.ref x.2.1)
 |_,_,.nil=>RepL.nil
 |_,_,.cons h t=>by
  refine RepL.cons (Rep.mkTup ⟨h.2.1,np _ fun z=>z.nt _ h.2.1⟩ (Gg _)) (rX np t)
theorem xE{P:gA}{w:gu}(xs:List (List Key×Addr×Value)):Vals (xs.map fun x=>V.ref x.2.1) ((xs.map (entryOfKey (tupleKind (jt P w)))).map (·.key)):=by
 induction xs with
 |nil=>exact .nil
 |cons x xs ih=>exact .cons rfl ih
end
def BN(d:D):Option (D×Bool):=match d with
 | .oth .dct ks _=>some (.lst ks,true)
 |_=>yw d
theorem JQ{prog:gA}{w:gu}{a:fR}{es:Array DictEntry}{ep:Nat}(hd:(a==sysModules)=false):PySem.W.KdlSrc prog w "dict" a a es.size (fun i v=> ∃e,es[i]?=some e/\v=e.key) (fun h=>TT.DRaw h a es ep) where
 type:=fun s x=>x.typeIs
 there:=fun h x=>let⟨_,h1,_⟩:=x.at_;⟨iw h1,iw h1⟩
 keep:=fun h h' x k=>x.stay fun o e=>k a (.inl rfl) o e
 notList:=by decide
 notTuple:=by decide
 hint:=fun A E s Q x h=>PySem.W.kdl_hint_dict x.typeIs h
 iter:=fun A s hh x=>by
  have aE:a<s.heap.objs.size:=let⟨_,h1,_⟩:=x.at_;iw h1;exact⟨_,_,fun E Q h=>TT.GH hd x h,TT.DM hh s.heap.objs.size a (md aE) es ep,⟨⟨_,jb _ rfl,rfl,rfl⟩,x.stay fun o e=>iF _ e⟩⟩
section
variable {X:Cx}{pins:gE}{σ:L2.St}{H:Hp}{s:fW}
theorem tP(hh:X.A.handled=none)(I:Inv X pins σ H s){a:fR}{es:Array DictEntry}{ep:Nat}{O:AP'}{ds:List D}{xs:List V}{Q:VK}(hd:(a==sysModules)=false)(S:TT.DRaw s.heap a es ep)(hz:es.size<=sizeLine)
  (rr:RepL X.K H O ds xs)(v:Vals xs (es.toList.map (·.key)))(G:Gen X.K H O (.lst ds,true) Q):wpAny (model X.prog X.w) X.A (call (.type "list") [.ref a]) (EP X pins σ Q) X.xe s:=by
 refine PySem.W.kdl_call (JQ hd) hh S hz fun h' tk acc c kp ho it=>?_
 have ha:acc.toList=es.toList.map (·.key):=by
  apply rP;intro i;rw[rQ,jr,rQ]
  cases h:acc[i]? with
  |some u=>
   obtain⟨e,h1,rfl⟩:=it.2 i u h;rw[h1];rfl
  |none=>
   have:=RH.mp h;rw[RH.mpr (by rw[<-it.1];exact this)];rfl
 have hl:=v.length;refine⟨.ref s.heap.objs.size,_,I.laid (t':=tk) kp (gY _) (show ObjOk X.prog X.w _ _ _ (.lst xs) from⟨by rw[hl,iG,mf];exact hz,acc.toList,c,by rw[ha];exact v,by rw[II];exact ho⟩),rfl,?_⟩;exact G.lst I.fresh rr
theorem Fv(hc:X.calm=true):je X (.type "list") (rDn X.K (g1 BN)):=nR fun pins s σ H x u Q O d z I ru np hd hg G=>by
 by_cases hs: ∃ks vs,d= .oth .dct ks vs
 ·obtain⟨ks,vs,rfl⟩:=hs;cases(show some (D.lst ks,true)=some z from hg);obtain⟨a,us,rfl,q,r⟩:=sU hd;cases ru;have hh:X.A.handled=none:=I.ok.hd hc;rcases q with⟨kvs,e,rfl,rfl⟩|⟨kvs,e,rfl,rfl⟩
  ·obtain⟨zl,bt,vs',rel,o,es,ep,h1,h2,h3,h4,h5,h6⟩:=LQ I.hok e;have vv:=uW h5 rel;have hl:=vv.length;simp only[iG,mf] at hl;exact tP hh I bt ⟨o,h1,h2,h3⟩ (by omega) (va kvs) vv G
  ·obtain⟨zl,bt,xs,rel,o,es,ep,h1,h2,h3,h4,h5,h6⟩:=LO I.hok e;have hl:=uS rel;have hz:es.size=xs.length:=size_of_entries h4;exact tP hh I bt ⟨o,h1,h2,h3⟩ (by omega) (rX np rel) (by rw[h4];exact xE xs) G
 ·have:BN d=yw d:=by
   unfold BN;split
   ·exact absurd ⟨_,_,rfl⟩ hs
   ·rfl
  exact yN pins s σ H [x] [u] Q I (.cons ru .nil) ⟨O,[d],z,np,rfl,fun j d' v' h1 h2=>by
   cases j with
   |zero=>cases h1;cases h2;exact hd
   |succ j=>simp at h1,by show yw d=some z;rw[<-this];exact hg,G⟩
end
def Dj(d e:D):Option (D×Bool):=match d,e with
 | .lst l,.int k=>if 0<=k/\k<1000/\l.length*k.toNat<=sizeLine then some (.lst (List.replicate k.toNat l).flatten,true) else none
 |_,_=>mT d e
theorem RepL.rep{K H}{O:AP'}{l:List D}{xs:List V}(r:RepL K H O l xs): ∀n:Nat,RepL K H O (List.replicate n l).flatten (List.replicate n xs).flatten
 |0=>RepL.nil
 |n+1=>by rw[vO,vO,uO,uO];exact r.append (RepL.rep r n)
section
variable {X:Cx}
theorem K0:OpR X (binaryOp .Mult) (rD X.K Dj):=by
 intro pins s σ H x y v u Q I rx ry h;obtain⟨O,d,e,z,np,h1,h2,hg,G⟩:=h;by_cases hs: ∃l k,d= .lst l/\e= .int k
 ·obtain⟨l,k,rfl,rfl⟩:=hs;obtain⟨⟨dD,aS,hz⟩,rfl⟩:=gP (show(if 0<=k/\k<1000/\l.length*k.toNat<=sizeLine then some (D.lst (List.replicate k.toNat l).flatten,true) else none)=some z from hg);obtain⟨p,xs,rfl,q,r⟩:=jw h1;cases rx;rw[gx h2] at ry;obtain⟨t,rfl⟩:=ry;obtain⟨its,rv,pl,_⟩:=I.list q;obtain⟨⟨cls,dd,data,sl⟩,n,e,o6,_,dH⟩:=pl;simp only at o6 dH;subst o6 dH;have e1:=r.length;have e2:=rv.length;have hlen:its.toArray.size*k.toNat<=sizeLine:=by rw[iH,<-e2,e1];exact hz
  have hcap: ¬its.toArray.size*k.toNat>(2^63-1) / 8:=by
   have:(sizeLine:Nat)<=(2^63-1) / 8:=by decide
   omega
  have hfit: ¬(!Builtin.List.listFitsIndex k)=true:=by rw[fitsIndex_both (by omega) (by omega)];exact iM
  have hlong: ¬Builtin.List.listTooLong (its.toArray.size*k.toNat)=true:=by rw[K9 hlen];exact iM
  have hnew:List.foldl (fun x1 x2=>x1++x2) #[] (List.replicate (if its.toArray.isEmpty=true then 0 else k.toNat) its.toArray)=(List.replicate k.toNat its).flatten.toArray:=by
   have f0: ∀m:Nat,List.foldl (fun x1 x2=>x1++x2) #[] (List.replicate m its.toArray)=(List.replicate m its).flatten.toArray:=fun m=>by
    have:=Aj its m []
    rwa [vH] at this
   rw[f0]
   cases its with
   |nil=>simp
   |cons a r'=>rw[gk (by simp)]
  refine wpAny_binaryOp_repeat_ref (T:="list") (U:="int") (by decide) ⟨_,e,rfl⟩ (fun s'=>typeIs_int s' k t) noFill_list_mul F.fills_int_mul F.slot_int_rmul repeat_list F.slot_int_index.lookup
   (uM F.slot_int_rmul (typeIs_int s k t) F.entry_int_rmul (F.args_int_rmul_2 _ _) (lm_int_rmul_list_any k t p its.toArray n dd sl)
    ⟨e,rfl,⟨_,e,rfl⟩,uM F.slot_list_mul ⟨_,e,rfl⟩ F.entry_list_mul (F.args_list_mul_2 _ _) (lm_list_mul_any p its.toArray n dd sl k t hfit hcap hlong) ⟨e,?_⟩⟩)
  rw[hnew];exact⟨.ref _,_,I.lnew (t':=s.toks) (rv.rep k.toNat) (by rw[ND,Nat.mul_comm,e1];exact hz),rfl,G.lst I.fresh (r.rep k.toNat)⟩
 ·have:Dj d e=mT d e:=by
   unfold Dj;split
   ·exact absurd ⟨_,_,rfl,rfl⟩ hs
   ·rfl
  exact lH pins s σ H x y v u Q I rx ry ⟨O,d,e,z,np,h1,h2,by rw[<-this];exact hg,G⟩
end
section
variable {prog:gA}{w:gu}{A:gw}{E:gH}{I:fR}{fp wr:iN}{n:Nat}{P:Nat->Value->Prop}{St:Nat->Heap->Prop}
theorem yI(W:Walks prog w A I fp wr n P St): ∀(k i:Nat) (s:fW) (Q:List Value->Shared->Prop),i+k<=n->St i s.heap->
  (∀vs h' tk,vs.length=k->(∀j v,vs[j]?=some v->P (i+j) v)->St (i+k) h'->(∀b o,b∉wr->s.heap.get? b=some o->h'.get? b=some o)->Q vs {s with heap:=h',toks:=tk})->wpAny (model prog w) A (draw (.ref I) k) Q E s
 |0,i,s,Q,_,st,h=>gr (h [] s.heap s.toks rfl (fun j v e=>by simp at e) st fun _ _ _ e=>e)
 |k+1,i,s,Q,hk,st,h=>by
  show wpAny _ _ (pyNext (.ref I)>>=_) Q E s;refine fS (W.item i s _ _ (by omega) st fun v h1 tk1 hp v5 eh=>?_);refine fS (kN (yI W k (i+1) _ _ (by omega) v5 fun vs h2 cI hl hv g0 aM=>gr ?_));refine h (v::vs) h2 cI (by simp[hl]) (fun j u e=>?_) (by rw[show i+(k+1)=i+1+k by omega];exact g0) fun b o hb e=>aM b o hb (eh b o hb e)
  cases j with
  |zero=>simp at e;subst e;exact hp
  |succ j=>rw[show i+(j+1)=i+1+j by omega];exact hv j u (by simpa using e)
theorem Cw{s:fW}{t:fR}{items:jz}{targets:List (Bool×(Value->Sem Unit))}{Q:Unit->Shared->Prop}(hh:A.handled=none)(ht:s.heap.IsList t items)
  (hn:targets.length=items.size)(hstar:targets.findIdx? (·.1)=none)
  (h: ∀h' tk,(∀b o,s.heap.get? b=some o->h'.get? b=some o)->wpAny (model prog w) A (assignInOrder (targets.map (·.2)) items.toList) Q E {s with heap:=h',toks:=tk}):
  wpAny (model prog w) A (unpack (.ref t) targets) Q E s:=by
 have n9:t<s.heap.objs.size:=by obtain⟨o,ho,_⟩:=ht;exact iw ho
 have hT:s.TypeIs (.ref t) "list":=by obtain⟨o,ho,hc,_⟩:=ht;exact⟨o,ho,hc⟩
 have W:=Walks.list (prog:=prog) (w:=w) (A:=A) hh s.heap.objs.size t (ip n9) items;unfold unpack;rw[hn,hstar];refine fS (kN ?_);unfold unpackItems;refine fS ?_;unfold notIterableAtAll;refine fS (wpAny_specialOf hT PySem.F.slot_list_iter.lookup (gr ?_));simp only[hC,iE];refine fS (kN (xo ht ?_));refine fS (kN (yI W items.size 0 _ _ (by omega) ⟨⟨_,jb _ rfl,rfl,rfl⟩,ht.push _⟩ fun vs h1 tk1 hl hv v5 eh=>?_))
 have cP:vs=items.toList:=by
  apply rP;intro j
  cases e:vs[j]? with
  |some v=>have:=hv j v e;rw[rN] at this;rw[rQ,this]
  |none=>
   have:=RG.mp e;rw[RG.mpr (by rw[mf];omega)]
 rw[gk (by omega)];refine fS (kN (W.done _ _ _ (by rw[rN] at v5;exact v5) fun h2 cI aM=>?_));simp only[Option.isSome_none,hC,iE];rw[cP];refine gr (h h2 cI fun b o e=>?_);have hb:b∉[s.heap.objs.size]:=by simp;exact ip (iw e)
 exact aM b o hb (eh b o hb (iF _ e))
end
def F4(ts:List Tg):Tg
 | .lst ds,δ=>zK ts ds δ
 |d,δ=>mR ts d δ
section
variable {X:Cx}{A:iu}{pos:Pos}{es:iL}{ts:List Tg}
theorem zJ{δ':Dn}: ∀(ts:List Tg) (ds:List D) (δ:Dn),zK ts ds δ=some δ'->ds.length=ts.length
 |[],[],_,_=>rfl
 |[],_::_,_,h=>by cases h
 |_::_,[],_,h=>by cases h
 |_::ts,_::ds,_,h=>by obtain⟨δ1,_,h⟩:=fN h;simp[zJ ts ds δ1 h]
theorem Ng{k:Nat}(hc:X.calm=true)(h:PGs X es (tGs X.K A ts)){n:Nat}(hn:(assignEach es X.env).length=n)(hl:ts.length=n)(u3:(assignEach es X.env).findIdx? (·.1)=none):PGX X A (.Tuple es k pos) (F4 ts):=fun pins s σ H v u Q I r hw=>by
 obtain⟨δ,T,d,δ',E,rp,e,kk⟩:=hw;by_cases hd: ∃ds,d= .lst ds
 ·obtain⟨ds,rfl⟩:=hd;obtain⟨a,xs,rfl,q,rr⟩:=rp.lst;cases r;obtain⟨its,rv,pl,_⟩:=I.list q.sq;have e1:=rr.length;have e2:=rv.length;have e3:=zJ ts ds δ e;rw[assign_Tuple];refine fS (vR (Cw (I.ok.hd hc) pl.isList (by rw[iH,hn];omega) u3 fun h' tk kp=>?_));have I1:Inv X pins σ H {s with heap:=h',toks:=tk}:=I.kept kp;exact h pins _ σ H xs _ Q I1 (by simpa using rv) ⟨δ,T,ds,δ',E,rr,e,kk⟩
 ·exact Gm hc h hn hl u3 pins s σ H v u Q I r ⟨δ,T,d,δ',E,rp,by
   cases d with
   |lst ds=>exact absurd ⟨ds,rfl⟩ hd
   |_=>exact e,kk⟩
end
section
variable {X:Cx}{A:iu}{a b:gf}{pos:Pos}
theorem gS{t1 t2:Tg}{k:Nat}(h1:QG X A a t1)(h2:QG X A b t2)(hc:X.calm=true:=by rfl)(q1:(assignEach [a,b] X.env).map (·.2)=assign a X.env::(assignEach [b] X.env).map (·.2):=by rfl)(q2:(assignEach [b] X.env).map (·.2)=assign b X.env::(assignEach [] X.env).map (·.2):=by rfl)
  (hn:(assignEach [a,b] X.env).length=2:=by rfl)(u3:(assignEach [a,b] X.env).findIdx? (·.1)=none:=by rfl):QG X A (.Tuple [a,b] k pos) (F4 [t1,t2]):=⟨Ng hc (qJ h1.h (qJ h2.h CP q2) q1) hn rfl u3⟩
variable {e elt:gf}{f:F}{x z:Str}{p b7 p1 kp:Pos}{i k:Nat}{L:iu}{H0:Hp}
theorem xLS{c:lY}{scope:iK}{fi:FIt}{tt:Tg}{ti:FT}{caps:hU}{N':gZ}{pos':Pos}(T:Tx X.mg)(C:CompOk X N' scope caps k)(nd:N'.Nodup)(pi:QI X (fun i=>i∉caps) c.target c.iter fi)
  (t8: ∀(cl:jS) (C:fR) (s3:fW) (H3:Hp) (fp:iN) (pins:gE),(X.comp N' scope cl C s3 H3 fp pins).N.Nodup->
   QG (X.comp N' scope cl C s3 H3 fp pins) (fun i=>caps.length<=i) c.target tt/\QF (X.comp N' scope cl C s3 H3 fp pins) c.ifs ti/\QX (X.comp N' scope cl C s3 H3 fp pins) elt f)
  (hc:X.calm=true:=by rfl)(ha:c.is_async=0:=by rfl)(hs: ∀x,foldedSetIterable c.iter X.env x=pure x:=by intro _;rfl)(hg:Gl X "len":=by rfl)
  (h1:starEach [.SetComp elt [c] scope pos] X.env=(false,eval (.SetComp elt [c] scope pos) X.env)::starEach [] X.env:=by rfl)(j7:(backTo pos' (starEach [] X.env)).any (·.1)=false:=by rfl):
  QX X (.Call (.Name "len" p) [.SetComp elt [c] scope pos] [] pos') (qQ caps k fi tt ti (yS f)):=
 ⟨Ho C hc ha (by intro g' h;cases h) hs pi.h (fun cl C s3 H3 fp pins=>let⟨a,b,c⟩:=t8 cl C s3 H3 fp pins nd;⟨a.h,b.h,fun d=>HC rfl c.h⟩) hg T.n_len Rt (by decide) (by decide) h1 j7⟩
theorem iE1{B:SB}{elts:iL}{k1:Nat}{n6:Pos}{c:Int}{n:Nat}(T:Tx X.mg)(ha:QX X a f)(hc:Builtin.SmallTypes.fitsIndex c=true:=by decide)(hg:Gl X "enumerate":=by rfl)(s0:SE X a []:=by rfl)
  (he:backTo pos (starEach [a] X.env)=(false,eval a X.env)::backTo pos (starEach [] X.env):=by rfl)(j7:(backTo pos (starEach [a] X.env)).any (·.1)=false:=by rfl):
  QI X B (.Tuple elts k1 n6) (.Call (.Name "enumerate" p) [a] [⟨some "start",.Constant (.int c) n p1,kp⟩] pos) (BI c f):=⟨Hy hg T.n_enumerate ha.h hc s0 he j7⟩
theorem sAg(nd:X.N.Nodup)(he:QX X e f)(hi:X.N[i]?=some x:=by rfl)(hx:Loc X.env.scope x:=by first|exact Or.inl rfl|exact Or.inr rfl)(hf:X.fn x=true:=by rfl)(hA:A i:=by decide):
  QS X A L H0 (.AugAssign (.Name x b7) .Add e pos) (J5 i (fun i j=>i+j) f):=⟨M7 nd hi hx he.h Q7 (Or.inl hf) hA⟩
end
def ua(d:D):Option (D×Bool):=match d with
 | .oth .dct ks _=>if(ks.all fun k=>(vm k).isSome)=true then ky ks else none
 |_=>none
def qP(d e:D):Option (D×Bool):=match e with
 | .oth .dct ks vs=>if tY ks d=true then some (.bl (!(kJ ks vs d).isSome),false) else none
 |_=>none
section
variable {X:Cx}{pins:gE}{σ:L2.St}{H:Hp}{s:fW}
theorem ET(hu:X.A.units+62<cLine):OpR X (compareOp .NotIn) (rD X.K qP):=by
 intro pins s σ H x y v u Q I rx ry h;obtain⟨O,d,e,z,np,h1,h2,hg,G⟩:=h;by_cases hs: ∃ks vs,e= .oth .dct ks vs
 ·obtain⟨ks,vs,rfl⟩:=hs;obtain⟨hk,rfl⟩:=gP (show(if tY ks d=true then some (D.bl (!(kJ ks vs d).isSome),false) else none)=some z from hg);obtain⟨a,us,rfl,q,r⟩:=sU h2;cases ry;exact S9 (by omega) I q r hk h1 rx true fun s' I'=>⟨.bl _,H,I',by simp[L2.RelV],G.bl⟩
 ·unfold qP at hg;split at hg
  ·exact absurd ⟨_,_,rfl⟩ hs
  ·cases hg
theorem BX(hc:X.calm=true)(hu:X.A.units+62<cLine):je X (.builtin "sorted") (rDn X.K (g1 ua)):=nR fun pins s σ H x u Q O d z I ru np hd hg G=>by
 by_cases hs: ∃ks vs,d= .oth .dct ks vs/\(ks.all fun k=>(vm k).isSome)=true
 ·obtain⟨ks,vs,rfl,hk⟩:=hs
  have cB:ky ks=some z:=by
   have:(if(ks.all fun k=>(vm k).isSome)=true then ky ks else none)=some z:=hg
   rwa [gd hk] at this
  obtain⟨a,us,rfl,q,r⟩:=sU hd;cases ru;have hh:X.A.handled=none:=I.ok.hd hc;rcases q with⟨kvs,e,rfl,rfl⟩|⟨kvs,e,rfl,rfl⟩
  ·obtain⟨zl,bt,vs',rel,o,es,ep,h1,h2,h3,h4,h5,h6⟩:=LQ I.hok e;have vv:=uW h5 rel;have hl:=vv.length;simp only[iG,mf] at hl;exact qC hu I (va (O:=O) kvs) vv cB G fun Q' E' A' fk hQ=>TT.L3 bt (by rw[fk];exact hh) ⟨o,h1,h2,h3⟩ (by omega) fun h' tk k=>hQ h' tk k
  ·obtain⟨zl,bt,xs,rel,o,es,ep,h1,h2,h3,h4,h5,h6⟩:=LO I.hok e;have hl:=uS rel;have hz:es.size=xs.length:=size_of_entries h4;refine qC hu I (rX np rel) (xE (P:=X.prog) (w:=X.w) xs) cB G fun Q' E' A' fk hQ=>TT.L3 bt (by rw[fk];exact hh) ⟨o,h1,h2,h3⟩ (by omega) fun h' tk k=>?_;rw[h4];exact hQ h' tk k
 ·unfold ua at hg;split at hg
  ·rename_i ks vs;rw[gk fun h=>hs ⟨ks,vs,rfl,h⟩] at hg;cases hg
  ·cases hg
end
end PX
namespace PV
open PySem PySem.Spec PyProof.Rows L2 PX
abbrev N5:Nat:=100000
def qd:FS:=(fY (hW (ui (kh (wt [.int]) (fO 0)) (NO (kh (wt [.bool]) (fO 0))))) gm)
def lR:EvF:=evF 1 1 [] qd
def mx:FS:=(fY (hW (ui (fV lR [(fO 0)]) (mU .LtE .LtE (fO 1) (fO 0) (fO 2)))) gm)
def jm:EvF:=evF 3 3 [] mx
def sj:FS:=(fY (hW (fV jm [(fO 1),(fP (fC (.int 1))),(fO 0)])) gm)
def oZ:EvF:=evF 2 2 [] sj
def oV:FS:=(fY (hW (ui (fV lR [(fO 1)]) (fV oZ [(fO 0),(fP (gn (g1 sh) [(fO 1)]))]))) gm)
def jW:EvF:=evF 2 2 [] oV
def jL:FS:=(fY (sIf (oE (kW (fT (kh (wt [.tuple]) (fO 1)))) (fT (fZ gNe (fP (gn (g1 lV) [(fO 1)])) (fO 0)))) (fY (hW (fC (.bl false))) gm) gm) (fY (sIf (kW (fT (gn (g1 yy) [(fP (hJ [0] 1 (hZ (iI 1)) (fX 1) gW (gQ (fV jW [(fO 0),(fO 1)]))))]))) (fY (hW (fC (.bl false))) gm) gm) (fY (hW (fZ gEq (fP (qQ [] 1 (hZ (iI 1)) (fX 0) gW (yS (gn (g1 sh) [(fO 0)])))) (fO 0))) gm)))
def ig:EvF:=evF 2 2 [] jL
def qb:FS:=(fY (hW (fIf (fT (fZ (lb .Gt) (fO 1) (fP (fC (.int 0))))) (fZ gIx (fO 0) (fP (fZ gSub (fO 1) (fP (fC (.int 1)))))) (kh oA (fP (fZ gIx (fO 0) (fP (fZ gSub (fP (kh oA (fO 1))) (fP (fC (.int 1)))))))))) gm)
def gO:EvF:=evF 2 2 [] qb
def kU:FS:=(fY (sIf (fT (fZ (lb .Lt) (fO 1) (fP (gn (g1 lV) [(fO 0)])))) (fY (hW (fZ gIx (fO 0) (fO 1))) gm) gm) (fY (hW (fC (.int 0))) gm))
def jU:EvF:=evF 2 2 [] kU
def mw:FS:=(fY (js 2 (fV jU [(fO 0),(fO 1)])) (fY (sIf (fT (fZ (lb .GtE) (fO 2) (fP (fZ HW (fP (fC (.int 10))) (fP (fC (.int 18))))))) (fY (hW (my [(fZ gSub (fO 2) (fP (fZ HW (fP (fC (.int 10))) (fP (fC (.int 18)))))),(fC (.bl true))])) gm) gm) (fY (hW (my [(fZ zo (fO 2) (fP (fC (.int 2147483647)))),(fC (.bl false))])) gm)))
def ke:EvF:=evF 3 2 [2] mw
def nJ:FS:=(fY (sIf (fT (fZ gIx (fO 0) (fP (fC (.int 1))))) (fY (js 2 (fZ zo (fP (fZ gIx (fO 0) (fP (fC (.int 0))))) (fO 1))) (fY (oM 0 (fZ LD (fP (fZ gIx (fO 0) (fP (fC (.int 0))))) (fO 1)) (fP (fC (.int 0)))) (fY (ny 2) gm))) gm) (fY (oM 0 (fZ zo (fP (fZ oU (fP (fZ mT (fP (fZ gIx (fO 0) (fP (fC (.int 0))))) (fP (fC (.int 48271))))) (fP (fC (.int 29))))) (fP (fC (.int 2147483647)))) (fP (fC (.int 0)))) (fY (js 3 (fZ zo (fP (fZ oU (fP (fZ oU (fP (fZ mT (fP (fZ gIx (fO 0) (fP (fC (.int 0))))) (fP (fZ gIx (fO 0) (fP (fC (.int 0))))))) (fP (fZ mT (fP (fC (.int 39373))) (fP (fZ gIx (fO 0) (fP (fC (.int 0))))))))) (fP (fC (.int 7))))) (fP (fC (.int 2147483629))))) (fY (js 3 (fZ zo (fP (fZ oU (fP (fZ mT (fO 3) (fO 3))) (fP (fZ mT (fP (fC (.int 16807))) (fO 3))))) (fP (fC (.int 2147483587))))) (fY (hW (fZ zo (fP (fZ LD (fO 3) (fP (fC (.int 8))))) (fO 1))) gm)))))
def gz:EvF:=evF 4 2 [2,3] nJ
def qc:FS:=(fY (js 2 (gn (gRg .lst true) [(fP (fC (.int 1))),(fP (fZ oU (fO 1) (fP (fC (.int 1)))))])) (fY (js 3 (my [])) (fY (tx (pK (fO 1)) (fX 4) (fY (pD (lI 3 (fZ mT (fP (sm 2 (fP (fV gz [(fO 0),(fP (gn (g1 lV) [(fO 2)]))])))) (fP (fZ gIx (fP (my [(fC (.int 1)),(kh oA (fP (fC (.int 1))))])) (fP (fV gz [(fO 0),(fP (fC (.int 2)))]))))))) gm)) (fY (hW (gn (g1 kT) [(fO 3)])) gm))))
def jc:EvF:=evF 5 2 [2,3,4] qc
def kg:FS:=(fY (hW (fZ mT (fP (fZ gIx (fO 0) (fP (fZ gSub (fP (gn (g1 sh) [(fO 1)])) (fP (fC (.int 1))))))) (fP (fZ gIx (fP (my [(fC (.int 1)),(kh oA (fP (fC (.int 1))))])) (fP (gn (g1 NM) [(fP (fZ (lb .Lt) (fO 1) (fP (fC (.int 0)))))])))))) gm)
def gX:EvF:=evF 2 2 [] kg
def si:FS:=(fY (hW (ui (kh (wt [.tuple]) (fO 0)) (fZ gEq (fP (gn (g1 lV) [(fO 0)])) (fP (fC (.int 2)))))) gm)
def oY:EvF:=evF 1 1 [] si
def ub:FS:=(fY (hW (gn (g1 yy) [(fP (hJ [] 2 (vY (iI 0) (yE (fO 0) (fP (fC (.int 1))))) (mR [(fX 0),(fX 1)]) gW (gQ (fZ (lb .Lt) (fO 0) (fO 1)))))])) gm)
def mz:EvF:=evF 1 1 [] ub
def ud:FS:=(fY (sIf (oE (kW (fT (kh (wt [.tuple]) (fO 1)))) (kW (fT (mU .LtE .LtE (fP (fC (.int 1))) (fP (gn (g1 lV) [(fO 1)])) (fP (fC (.int 5))))))) (fY (hW (fC (.bl false))) gm) gm) (fY (sIf (kW (fT (gn (g1 yy) [(fP (hJ [0] 1 (hZ (iI 1)) (fX 1) gW (gQ (fV jW [(fO 0),(fO 1)]))))]))) (fY (hW (fC (.bl false))) gm) gm) (fY (hW (fV mz [(fP (hJ [] 1 (hZ (iI 1)) (fX 0) gW (gQ (gn (g1 sh) [(fO 0)]))))])) gm)))
def mC:EvF:=evF 2 2 [] ud
def qe:FS:=(fY (sIf (oE (kW (fT (kh (wt [.tuple]) (fO 1)))) (fT (fZ (lb .Gt) (fP (gn (g1 lV) [(fO 1)])) (fP (fC (.int 30)))))) (fY (hW (fC (.bl false))) gm) gm) (fY (hW (ui (gn (g1 yy) [(fP (hJ [0] 1 (hZ (iI 1)) (fX 1) gW (gQ (fV mC [(fO 0),(fO 1)]))))]) (fV mz [(fO 1)]))) gm))
def mW:EvF:=evF 2 2 [] qe
def uc:FS:=(fY (sIf (kW (fT (fV oY [(fO 0)]))) (fY (hW (fC (.bl false))) gm) gm) (fY (Bp (mR [(fX 1),(fX 2)]) (iI 0)) (fY (hW (ui (fV jm [(fO 1),(fP (fC (.int 0))),(fP (fC (.int 5)))]) (fV mW [(fO 1),(fO 2)]))) gm)))
def mB:EvF:=evF 3 1 [1,2] uc
def vp:FS:=(fY (hW (fV jm [(fO 0),(fP (fC (.int 0))),(fP (fC (.int 1)))])) gm)
def oF:EvF:=evF 1 1 [] vp
def oW:FS:=(fY (hW (ui (kh (wt [.tuple]) (fO 1)) (ui (fZ gEq (fP (gn (g1 lV) [(fO 1)])) (fO 0)) (gn (g1 yy) [(fP (hJ [] 1 (hZ (iI 1)) (fX 0) gW (gQ (fV oF [(fO 0)]))))])))) gm)
def kX:EvF:=evF 2 2 [] oW
def yA:FS:=(fY (hW (fZ gEq (fP (fZ gIx (fO 0) (fP (fZ gSub (fP (gn (g1 sh) [(fO 1)])) (fP (fC (.int 1))))))) (fP (fIf (fT (fZ (lb .Gt) (fO 1) (fP (fC (.int 0))))) (fC (.int 1)) (fC (.int 0)))))) gm)
def qi:EvF:=evF 2 2 [] yA
def pF:FS:=(fY (hW (gn (g1 HY) [(fP (hJ [0] 1 (hZ (iI 1)) (fX 1) gW (gQ (fV qi [(fO 0),(fO 1)]))))])) gm)
def lX:EvF:=evF 2 2 [] pF
def Dl:FS:=(fY (Bp (mR [(fX 2),(fX 3)]) (iI 0)) (fY (hW (ui (fV kX [(fO 2),(fO 1)]) (gn (g1 yy) [(fP (hJ [1] 1 (hZ (iI 3)) (fX 1) gW (gQ (fV lX [(fO 0),(fO 1)]))))]))) gm))
def kz:EvF:=evF 4 2 [2,3] Dl
def qf:FS:=(fY (js 1 (my [(oD [])])) (fY (tx (pK (fO 0)) (fX 2) (fY (js 1 (hJ [] 2 (hZ (iI 1)) (fX 0) gW (FH (hZ (oD [(fC (.int 0)),(fC (.int 1))])) (fX 1) gW (gQ (fZ oU (fO 0) (fP (oD [(iI 1)]))))))) gm)) (fY (ny 1) gm)))
def jX:EvF:=evF 3 1 [1,2] qf
def yB:FS:=(fY (hW (hJ [0] 1 (hZ (fV jX [(fP (fZ gIx (fO 0) (fP (fC (.int 0)))))])) (fX 1) (fT (fV kz [(fO 0),(fO 1)])) (gQ (iI 1)))) gm)
def lu:EvF:=evF 1 1 [] yB
def kd:FS:=(fY (sIf (kW (fT (fV ig [(fO 0),(fO 1)]))) (fY Br gm) gm) gm)
def jx:EvF:=evF 2 2 [] kd
def rF:FS:=(fY (hW (gn (g1 kT) [(fP (gn (g1 vn) [(fP (hJ [1] 1 (hZ (iI 0)) (fX 1) gW (gQ (fV gO [(fO 0),(fO 1)]))))]))])) gm)
def nP:EvF:=evF 2 2 [] rF
def LG:FS:=(fY (Bp (mR [(fX 2),(fX 3)]) (iI 0)) (fY (pD (fV jx [(fO 2),(fO 1)])) (fY (hW (oD [(iI 2),(gn (g1 kT) [(fP (gn (g1 nI) [(fP (hJ [1] 1 (hZ (iI 3)) (fX 1) gW (gQ (fV nP [(fO 1),(fO 0)]))))]))])])) gm)))
def lW:EvF:=evF 4 2 [2,3] LG
def Ai:FS:=(fY (hW (gn (g1 kT) [(fP (hJ [1] 1 (hZ (iI 0)) (fX 1) gW (gQ (fV gO [(fO 0),(fO 1)]))))])) gm)
def iA:EvF:=evF 2 2 [] Ai
def GL:FS:=(fY (js 1 (gn (g1 yw) [(fO 0)])) (fY (tx (BI 1 (iI 0)) (mR [(fX 2),(fX 3)]) (fY (oM 1 (fIf (fT (fZ (lb .Gt) (fO 3) (fP (fC (.int 0))))) (iI 2) (kh oA (fO 2))) (fP (fZ gSub (fP (gn (g1 sh) [(fO 3)])) (fP (fC (.int 1)))))) gm)) (fY (hW (gn (g1 kT) [(fO 1)])) gm)))
def kY:EvF:=evF 4 1 [1,2,3] GL
def rG:FS:=(fY (pD (fV jx [(fP (gn (g1 lV) [(fO 0)])),(fO 1)])) (fY (hW (gn (g1 kT) [(fP (hJ [0] 1 (hZ (fV kY [(fO 1)])) (fX 1) gW (gQ (fIf (fT (fV qi [(fO 0),(fO 1)])) (fC (.int 1)) (fC (.int 0))))))])) gm))
def gy:EvF:=evF 2 2 [] rG
def Dk:FS:=(fY (hW (gn (gRg .tup false) [(fP (fC (.int 1))),(fP (fZ oU (fO 0) (fP (fC (.int 1)))))])) gm)
def jk:EvF:=evF 1 1 [] Dk
def vZ:FS:=(fY (js 1 (fC (.int 1))) (fY (js 2 (iI 0)) (fY (kI (fT (fZ gNe (fO 2) (fP (fV jk [(fP (gn (g1 lV) [(fO 0)]))])))) (fY (js 2 (fV iA [(fO 2),(fO 0)])) (fY (J5 1 (fun i j=>i+j) (fC (.int 1))) gm)) N5) (fY (ny 1) gm))))
def qh:EvF:=evF 3 1 [1,2] vZ
def nK:FS:=(fY (js 2 (hJ [0] 1 (De (fP (fC (.int 1))) (fP (fZ oU (fO 1) (fP (fC (.int 1)))))) (fX 1) (fT (fZ gEq (fP (fV gz [(fO 0),(fP (fC (.int 2)))])) (fP (fC (.int 0))))) (gQ (fZ mT (fO 1) (fP (fZ gIx (fP (my [(fC (.int 1)),(kh oA (fP (fC (.int 1))))])) (fP (fV gz [(fO 0),(fP (fC (.int 2)))])))))))) (fY (sIf (fT (fZ gEq (fO 2) (fP (my [])))) (fY (js 2 (my [(fZ mT (fP (fZ oU (fP (fC (.int 1))) (fP (fV gz [(fO 0),(fO 1)])))) (fP (fZ gIx (fP (my [(fC (.int 1)),(kh oA (fP (fC (.int 1))))])) (fP (fV gz [(fO 0),(fP (fC (.int 2)))])))))])) gm) gm) (fY (hW (gn (g1 kT) [(fO 2)])) gm)))
def jl:EvF:=evF 3 2 [2] nK
def lp:FS:=(fY (js 2 (hJ [1] 1 (hZ (iI 0)) (fX 1) gW (gQ (oD [(gn (g1 sh) [(fP (fV gX [(fO 0),(fO 1)]))]),(fV gX [(fO 0),(fO 1)])])))) (fY (hW (gn (g1 kT) [(fP (hJ [] 2 (hZ (gn (g1 nI) [(fO 2)])) (mR [(fX 0),(fX 1)]) gW (gQ (iI 1))))])) gm))
def jg:EvF:=evF 3 2 [2] lp
def oB:FS:=(fY (sIf (fT (fZ gEq (fO 1) (fP (fC (.int 0))))) (fY (hW (oD [(fC (.int 0)),(oD [])])) gm) gm) (fY (js 2 (fZ gIx (fP (my [(fC (.int 3)),(fC (.int 5)),(fC (.int 12))])) (fP (fV gz [(fO 0),(fP (fC (.int 3)))])))) (fY (js 3 LJ) (fY (tx (pK (fP (fV gz [(fO 0),(fP (fZ oU (fO 2) (fP (fC (.int 1)))))]))) (fX 4) (fY (vS 3 (fC (.bl true)) (fP (fV jl [(fO 0),(fO 1)]))) gm)) (fY (js 5 (fV jc [(fO 0),(fO 1)])) (fY (js 6 (fZ Dj (fP (gn (g1 BN) [(fO 3)])) (fP (fZ gIx (fP (my [(fC (.int 1)),(fC (.int 0))])) (fP (fV gz [(fO 0),(fP (fC (.int 2)))])))))) (fY (kI (fT (fZ gNe (fO 6) (fP (my [])))) (fY (js 7 (fV jg [(fP (fPop 6)),(fO 5)])) (fY (sIf (fT (fZ qP (fO 7) (fO 3))) (fY (vS 3 (fC (.bl true)) (fO 7)) (fY (pD (lI 6 (iI 7))) gm)) gm) gm)) N5) (fY (hW (oD [(iI 1),(gn (g1 kT) [(fP (Dp (fP (gn (g1 ua) [(fO 3)])) (fP (fC (.int 30)))))])])) gm))))))))
def kf:EvF:=evF 8 2 [2,3,4,5,6,7] oB
def wa:FS:=(fY (hW (hJ [0] 1 (pK (fP (fZ Ra (fP (fC (.int 1))) (fO 0)))) (fX 1) gW (gQ (gn (g1 kT) [(fP (hJ [1,0] 1 (pK (fO 0)) (fX 2) gW (gQ (fZ LF (fP (fZ Q9 (fO 0) (fP (fZ gSub (fP (fZ gSub (fO 1) (fP (fC (.int 1))))) (fO 2))))) (fP (fC (.int 1)))))))])))) gm)
def nL:EvF:=evF 1 1 [] wa
def ll:FS:=(fY (js 2 (gn (g1 lV) [(fO 0)])) (fY (js 3 (fV iA [(fO 0),(fO 1)])) (fY (sIf (oE (fT (fZ vo (fP (fV ig [(fO 2),(fO 3)])) (fP (fC (.bl true))))) (fT (fZ vo (fP (fV ig [(fO 2),(fP (fV kY [(fO 0)]))])) (fP (fC (.bl true)))))) (fY (hW (fC (.bl false))) gm) gm) (fY (sIf (oE (fT (fZ gNe (fP (fV iA [(fO 0),(fP (fV kY [(fO 0)]))])) (fP (fV jk [(fO 2)])))) (fT (fZ gNe (fP (fV iA [(fP (fV kY [(fO 0)])),(fO 0)])) (fP (fV jk [(fO 2)]))))) (fY (hW (fC (.bl false))) gm) gm) (fY (tx (De (fP (fC (.int 1))) (fP (fZ oU (fO 2) (fP (fC (.int 1)))))) (fX 4) (fY (sIf (oE (fT (fZ gNe (fP (fV gO [(fO 3),(fO 4)])) (fP (fV gO [(fO 1),(fP (fV gO [(fO 0),(fO 4)]))])))) (fT (fZ gNe (fP (fV gO [(fO 0),(fP (kh oA (fO 4)))])) (fP (kh oA (fP (fV gO [(fO 0),(fO 4)]))))))) (fY (hW (fC (.bl false))) gm) gm) gm)) (fY (js 5 (fV jk [(fO 2)])) (fY (tx (pK (fP (fZ gSub (fP (fV qh [(fO 0)])) (fP (fC (.int 1)))))) (fX 6) (fY (js 5 (fV iA [(fO 5),(fO 0)])) (fY (sIf (fT (fZ gEq (fO 5) (fP (fV jk [(fO 2)])))) (fY (hW (fC (.bl false))) gm) gm) gm))) (fY (hW (fZ gEq (fP (fV iA [(fO 5),(fO 0)])) (fP (fV jk [(fO 2)])))) gm))))))))
def jf:EvF:=evF 7 2 [2,3,4,5,6] ll
def yz:FS:=(fY (tx (pK (fP (gn (g2 LB) [(fP (fC (.int 1))),(fP (gn (g2 LA) [(fP (gn (g1 lV) [(fO 0)])),(fP (fC (.int 6)))]))]))) (fX 1) (fY (js 2 (fV ke [(fO 0),(fO 1)])) (fY (js 3 (fV kf [(fO 2),(fP (fV gz [(fO 2),(fP (fC (.int 6)))]))])) (fY (Bp (F4 [(fX 4),(fX 5)]) (hJ [2,3] 1 (pK (fP (fC (.int 2)))) (fX 2) gW (gQ (fV jc [(fO 0),(fP (fZ gIx (fO 1) (fP (fC (.int 0)))))])))) (fY (sIf (kW (fT (fV jf [(fO 4),(fO 5)]))) (fY (hW (fC (.bl false))) gm) gm) (fY (js 6 (fV lW [(fO 3),(fO 4)])) (fY (sIf (oE (fT (fZ vo (fP (fV mB [(fO 6)])) (fP (fC (.bl true))))) (oE (fT (fZ gNe (fP (gn (g1 lV) [(fP (fZ gIx (fO 6) (fP (fC (.int 1)))))])) (fP (gn (g1 lV) [(fP (fZ gIx (fO 3) (fP (fC (.int 1)))))])))) (fT (fZ gNe (fP (fV lW [(fO 6),(fP (fV kY [(fO 4)]))])) (fO 3))))) (fY (hW (fC (.bl false))) gm) gm) (fY (sIf (oE (fT (fZ gNe (fP (fV lW [(fO 6),(fO 5)])) (fP (fV lW [(fO 3),(fP (fV iA [(fO 4),(fO 5)]))])))) (fT (fZ gNe (fP (fV lW [(fO 3),(fP (fV jk [(fP (fZ gIx (fO 3) (fP (fC (.int 0)))))]))])) (fO 3)))) (fY (hW (fC (.bl false))) gm) gm) (fY (tx (hZ (fV nL [(fP (fZ gIx (fO 3) (fP (fC (.int 0)))))])) (fX 7) (fY (sIf (fT (fZ gNe (fP (fV kz [(fO 3),(fO 7)])) (fP (fV kz [(fO 6),(fP (fV gy [(fO 7),(fO 4)]))])))) (fY (hW (fC (.bl false))) gm) gm) (fY (sIf (fT (fZ gNe (fP (fV gy [(fP (fV gy [(fO 7),(fO 4)])),(fO 5)])) (fP (fV gy [(fO 7),(fP (fV iA [(fO 4),(fO 5)]))])))) (fY (hW (fC (.bl false))) gm) gm) gm))) (fY (sIf (fT (fZ gNe (fP (gn (g1 nI) [(fP (hJ [4] 1 (hZ (fV lu [(fO 3)])) (fX 1) gW (gQ (fV gy [(fO 1),(fO 0)]))))])) (fP (fV lu [(fO 6)])))) (fY (hW (fC (.bl false))) gm) gm) gm)))))))))) (fY (hW (fC (.bl true))) gm))
def rH:EvF:=evF 8 1 [1,2,3,4,5,6,7] yz
end PV
namespace K24
open PySem PySem.Spec PyProof.Rows L2 PX PV
def top(i:Nat):Stmt:=PySem.Challenge.pw_twinriddles_k24_whole_turnings.main.body.getD i (.Pass ⟨0,0,0,0⟩)
section
variable {Z:ZZ}{k:Nat}
abbrev oK:Stmt:=top 7
theorem CJ:FnScope ["thing"] ["thing"] (gb oK):=scM
abbrev sd(Z:ZZ)(k:Nat):Prop:=Oz Z k "is_whole" ["thing"] lR
theorem DI:BdA "is_whole" oK ["thing"]:=fun _ _ _ _ _ _=>us1 fun _=>us0 rfl
theorem CZ(a:Fz Z.K Z.mg "is_whole" oK)(T:Tx Z.mg):sd Z (k+1):=by
 have S:=CJ;refine ozB (asg:=[]) (fs:=qd) a S DI fun f d8 A outer s H E L hL hr hu k5 k4 l4 nd=>?_;exact(s1 (sR (A6 (xI T rfl xV) (xBo (TM (xI T rfl xV))))) s0)
abbrev nk:Stmt:=top 8
theorem Bk:FnScope ["thing","least","most"] ["thing","least","most"] (gb nk):=scM
abbrev nD(Z:ZZ)(k:Nat):Prop:=Oz Z k "is_number" ["thing","least","most"] jm
theorem B8:BdA "is_number" nk ["thing","least","most"]:=fun _ _ _ _ _ _=>us1 fun _=>us1 fun _=>us1 fun _=>us0 rfl
theorem Bw(a:Fz Z.K Z.mg "is_number" nk)(T:Tx Z.mg)(l8:sd Z k):nD Z (k+1):=by
 have S:=Bk;refine ozB (asg:=[]) (fs:=mx) a S B8 fun f d8 A outer s H E L hL hr hu k5 k4 l4 nd=>?_;exact(s1 (sR (A6 (xU l8 hr (xA xV xA0)) (xBo (xCh xV xV xV)))) s0)
abbrev tq:Stmt:=top 9
theorem Hk:FnScope ["thing"] ["thing"] (gb tq):=scM
abbrev C0(Z:ZZ)(k:Nat):Prop:=Oz Z k "is_bit" ["thing"] oF
theorem Ip:BdA "is_bit" tq ["thing"]:=fun _ _ _ _ _ _=>us1 fun _=>us0 rfl
theorem HE(a:Fz Z.K Z.mg "is_bit" tq)(T:Tx Z.mg)(i4:nD Z k):C0 Z (k+1):=by
 have S:=Hk;refine ozB (asg:=[]) (fs:=vp) a S Ip fun f d8 A outer s H E L hL hr hu k5 k4 l4 nd=>?_;exact(s1 (sR (xU i4 hr (xA xV (xA (xO x3) (xA (xO x3) xA0))))) s0)
abbrev qG:Stmt:=top 10
theorem EE:FnScope ["names","thing"] ["names","thing"] (gb qG):=scM
abbrev zW(Z:ZZ)(k:Nat):Prop:=Oz Z k "is_name" ["names","thing"] oZ
theorem FF:BdA "is_name" qG ["names","thing"]:=fun _ _ _ _ _ _=>us1 fun _=>us1 fun _=>us0 rfl
theorem EX(a:Fz Z.K Z.mg "is_name" qG)(T:Tx Z.mg)(i4:nD Z k):zW Z (k+1):=by
 have S:=EE;refine ozB (asg:=[]) (fs:=sj) a S FF fun f d8 A outer s H E L hL hr hu k5 k4 l4 nd=>?_;exact(s1 (sR (xU i4 hr (xA xV (xA (xO x3) (xA xV xA0))))) s0)
abbrev qE:Stmt:=top 11
theorem EC:FnScope ["names","thing"] ["names","thing"] (gb qE):=scM
abbrev vf(Z:ZZ)(k:Nat):Prop:=Oz Z k "is_sign" ["names","thing"] jW
theorem FD:BdA "is_sign" qE ["names","thing"]:=fun _ _ _ _ _ _=>us1 fun _=>us1 fun _=>us0 rfl
theorem EV(a:Fz Z.K Z.mg "is_sign" qE)(T:Tx Z.mg)(l8:sd Z k)(O_is_name:zW Z k):vf Z (k+1):=by
 have S:=EC;refine ozB (asg:=[]) (fs:=oV) a S FD fun f d8 A outer s H E L hL hr hu k5 k4 l4 nd=>?_;exact(s1 (sR (A6 (xU l8 hr (xA xV xA0)) (xBo (xU O_is_name hr (xA xV (xA (xO (xB T rfl ⟨ly⟩ (xA xV xA0))) xA0)))))) s0)
abbrev qF:Stmt:=top 12
theorem ED:FnScope ["thing"] ["thing"] (gb qF):=scM
abbrev zV(Z:ZZ)(k:Nat):Prop:=Oz Z k "is_pair" ["thing"] oY
theorem FE:BdA "is_pair" qF ["thing"]:=fun _ _ _ _ _ _=>us1 fun _=>us0 rfl
theorem EW(a:Fz Z.K Z.mg "is_pair" qF)(T:Tx Z.mg):zV Z (k+1):=by
 have S:=ED;refine ozB (asg:=[]) (fs:=si) a S FE fun f d8 A outer s H E L hL hr hu k5 k4 l4 nd=>?_;exact(s1 (sR (A6 (xI T rfl xV) (xBo (Ep ⟨(oN hu)⟩ (xO (xB T rfl ⟨iY⟩ (xA xV xA0))) (xO x3))))) s0)
abbrev ni:Stmt:=top 13
theorem Bi:FnScope ["things"] ["things"] (gb ni):=scM
abbrev qa(Z:ZZ)(k:Nat):Prop:=Oz Z k "is_rising" ["things"] mz
theorem B6:BdA "is_rising" ni ["things"]:=fun _ _ _ _ _ _=>us1 fun _=>us0 rfl
theorem Bu(a:Fz Z.K Z.mg "is_rising" ni)(T:Tx Z.mg):qa Z (k+1):=by
 have S:=Bi;refine ozB (asg:=[]) (fs:=ub) a S B6 fun f d8 A outer s H E L hL hr hu k5 k4 l4 nd=>?_;exact(s1 (sR (xB T rfl ⟨(mE rfl)⟩ (xA (xO (by exact xC (N':=["one","other"]) (cOk S) (by decide+kernel) (iZ T xW (TJ xV (xO x3))) fun _ _ _ _ _ _ nd=>⟨(gT (gN nd) (gN nd)),f0,fun _=>bE (Ep ⟨(nC (.inl rfl) hu)⟩ xV xV)⟩)) xA0))) s0)
abbrev nu:Stmt:=top 14
theorem Bl:FnScope ["names","thing"] ["names","thing"] (gb nu):=scM
abbrev vV(Z:ZZ)(k:Nat):Prop:=Oz Z k "is_clause" ["names","thing"] mC
theorem B9:BdA "is_clause" nu ["names","thing"]:=fun _ _ _ _ _ _=>us1 fun _=>us1 fun _=>us0 rfl
theorem Bx(a:Fz Z.K Z.mg "is_clause" nu)(T:Tx Z.mg)(k8: ∃t,Z.mg "MOST_SIGNS"=some (.int 5 t))(n4:vf Z k)(l7:qa Z k):vV Z (k+1):=by
 have S:=Bl;refine ozB (asg:=[]) (fs:=ud) a S B9 fun f d8 A outer s H E L hL hr hu k5 k4 l4 nd=>?_;exact(s1 (sI (tW (wOr (tNot (xJ (xI T rfl xV))) (Cq (tNot (tCh (xO x3) (xO (xB T rfl ⟨iY⟩ (xA xV xA0))) (xO (x5 k8))))))) (s1 (sR x2) s0) s0) (s1 (sI (tNot (xJ (xB T rfl ⟨(mE rfl)⟩ (xA (xO (by exact xC (N':=["names","sign"]) (cOk S) (by decide+kernel) (iS xW) fun _ _ _ _ _ _ nd=>⟨(gN nd),f0,fun _=>bE (xU n4 hr (xA xV (xA xV xA0)))⟩)) xA0)))) (s1 (sR x2) s0) s0) (s1 (sR (xU l7 hr (xA (xO (by exact xC (N':=["sign"]) (cOk S) (by decide+kernel) (iS xW) fun _ _ _ _ _ _ nd=>⟨(gN nd),f0,fun _=>bE (xB T rfl ⟨ly⟩ (xA xV xA0))⟩)) xA0))) s0)))
abbrev lF:Stmt:=top 15
theorem xS:FnScope ["names","thing"] ["names","thing"] (gb lF):=scM
abbrev rB(Z:ZZ)(k:Nat):Prop:=Oz Z k "are_clauses" ["names","thing"] mW
theorem yQ:BdA "are_clauses" lF ["names","thing"]:=fun _ _ _ _ _ _=>us1 fun _=>us1 fun _=>us0 rfl
theorem yg(a:Fz Z.K Z.mg "are_clauses" lF)(T:Tx Z.mg)(j5: ∃t,Z.mg "MOST_CLAUSES"=some (.int 30 t))(O_is_clause:vV Z k)(l7:qa Z k):rB Z (k+1):=by
 have S:=xS;refine ozB (asg:=[]) (fs:=qe) a S yQ fun f d8 A outer s H E L hL hr hu k5 k4 l4 nd=>?_;exact(s1 (sI (tW (wOr (tNot (xJ (xI T rfl xV))) (Cq (tCmp ⟨(nC (.inr (.inr (.inl rfl))) hu)⟩ (xO (xB T rfl ⟨iY⟩ (xA xV xA0))) (xO (x5 j5)))))) (s1 (sR x2) s0) s0) (s1 (sR (A6 (xB T rfl ⟨(mE rfl)⟩ (xA (xO (by exact xC (N':=["names","clause"]) (cOk S) (by decide+kernel) (iS xW) fun _ _ _ _ _ _ nd=>⟨(gN nd),f0,fun _=>bE (xU O_is_clause hr (xA xV (xA xV xA0)))⟩)) xA0)) (xBo (xU l7 hr (xA xV xA0))))) s0))
abbrev nj:Stmt:=top 16
theorem Bj:FnScope ["thing","names","clauses"] ["thing"] (gb nj):=scM
abbrev vU(Z:ZZ)(k:Nat):Prop:=Oz Z k "is_riddle" ["thing"] mB
theorem B7:BdA "is_riddle" nj ["thing"]:=fun _ _ _ _ _ _=>us1 fun _=>us0 rfl
theorem Bv(a:Fz Z.K Z.mg "is_riddle" nj)(T:Tx Z.mg)(k9: ∃t,Z.mg "MOST_NAMES"=some (.int 5 t))(O_is_pair:zV Z k)(i4:nD Z k)(O_are_clauses:rB Z k):vU Z (k+1):=by
 have S:=Bj;refine ozB (asg:=[1,2]) (fs:=uc) a S B7 fun f d8 A outer s H E L hL hr hu k5 k4 l4 nd=>?_;exact(s1 (sI (tNot (xJ (xU O_is_pair hr (xA xV xA0)))) (s1 (sR x2) s0) s0) (s1 (sT xW (gT (gN nd) (gN nd))) (s1 (sR (A6 (xU i4 hr (xA xV (xA (xO x3) (xA (xO (x5 k9)) xA0)))) (xBo (xU O_are_clauses hr (xA xV (xA xV xA0)))))) s0)))
abbrev nv:Stmt:=top 17
theorem Bm:FnScope ["names","thing"] ["names","thing"] (gb nv):=scM
abbrev vW(Z:ZZ)(k:Nat):Prop:=Oz Z k "is_answer" ["names","thing"] kX
theorem Ca:BdA "is_answer" nv ["names","thing"]:=fun _ _ _ _ _ _=>us1 fun _=>us1 fun _=>us0 rfl
theorem By(a:Fz Z.K Z.mg "is_answer" nv)(T:Tx Z.mg)(O_is_bit:C0 Z k):vW Z (k+1):=by
 have S:=Bm;refine ozB (asg:=[]) (fs:=oW) a S Ca fun f d8 A outer s H E L hL hr hu k5 k4 l4 nd=>?_;exact(s1 (sR (A6 (xI T rfl xV) (A6 (Ep ⟨(oN hu)⟩ (xO (xB T rfl ⟨iY⟩ (xA xV xA0))) xV) (xBo (xB T rfl ⟨(mE rfl)⟩ (xA (xO (by exact xC (N':=["bit"]) (cOk S) (by decide+kernel) (iS xW) fun _ _ _ _ _ _ nd=>⟨(gN nd),f0,fun _=>bE (xU O_is_bit hr (xA xV xA0))⟩)) xA0)))))) s0)
abbrev wI:Stmt:=top 18
theorem J2:FnScope ["answer","sign"] ["answer","sign"] (gb wI):=scM
abbrev BB(Z:ZZ)(k:Nat):Prop:=Oz Z k "is_so" ["answer","sign"] qi
theorem Mb:BdA "is_so" wI ["answer","sign"]:=fun _ _ _ _ _ _=>us1 fun _=>us1 fun _=>us0 rfl
theorem K8(a:Fz Z.K Z.mg "is_so" wI)(T:Tx Z.mg):BB Z (k+1):=by
 have S:=J2;refine ozB (asg:=[]) (fs:=yA) a S Mb fun f d8 A outer s H E L hL hr hu k5 k4 l4 nd=>?_;exact(s1 (sR (Ep ⟨(oN hu)⟩ (xO (xIx xV (xO (jo ⟨mv⟩ (xO (xB T rfl ⟨ly⟩ (xA xV xA0))) (xO x3))))) (xO (xIf (tCmp ⟨(nC (.inr (.inr (.inl rfl))) hu)⟩ xV (xO x3)) x3 x3)))) s0)
abbrev kP:Stmt:=top 19
theorem wj:FnScope ["answer","clause"] ["answer","clause"] (gb kP):=scM
abbrev pZ(Z:ZZ)(k:Nat):Prop:=Oz Z k "keeps_clause" ["answer","clause"] lX
theorem wy:BdA "keeps_clause" kP ["answer","clause"]:=fun _ _ _ _ _ _=>us1 fun _=>us1 fun _=>us0 rfl
theorem wo(a:Fz Z.K Z.mg "keeps_clause" kP)(T:Tx Z.mg)(u7:BB Z k):pZ Z (k+1):=by
 have S:=wj;refine ozB (asg:=[]) (fs:=pF) a S wy fun f d8 A outer s H E L hL hr hu k5 k4 l4 nd=>?_;exact(s1 (sR (xB T rfl ⟨(Il rfl)⟩ (xA (xO (by exact xC (N':=["answer","sign"]) (cOk S) (by decide+kernel) (iS xW) fun _ _ _ _ _ _ nd=>⟨(gN nd),f0,fun _=>bE (xU u7 hr (xA xV (xA xV xA0)))⟩)) xA0))) s0)
abbrev wH:Stmt:=top 20
theorem J1:FnScope ["riddle","thing","names","clauses"] ["riddle","thing"] (gb wH):=scM
abbrev Bz(Z:ZZ)(k:Nat):Prop:=Oz Z k "keeps" ["riddle","thing"] kz
theorem Ma:BdA "keeps" wH ["riddle","thing"]:=fun _ _ _ _ _ _=>us1 fun _=>us1 fun _=>us0 rfl
theorem K7(a:Fz Z.K Z.mg "keeps" wH)(T:Tx Z.mg)(O_is_answer:vW Z k)(O_keeps_clause:pZ Z k):Bz Z (k+1):=by
 have S:=J1;refine ozB (asg:=[2,3]) (fs:=Dl) a S Ma fun f d8 A outer s H E L hL hr hu k5 k4 l4 nd=>?_;exact(s1 (sT xW (gT (gN nd) (gN nd))) (s1 (sR (A6 (xU O_is_answer hr (xA xV (xA xV xA0))) (xBo (xB T rfl ⟨(mE rfl)⟩ (xA (xO (by exact xC (N':=["thing","clause"]) (cOk S) (by decide+kernel) (iS xW) fun _ _ _ _ _ _ nd=>⟨(gN nd),f0,fun _=>bE (xU O_keeps_clause hr (xA xV (xA xV xA0)))⟩)) xA0))))) s0))
abbrev lG:Stmt:=top 21
theorem xX:FnScope ["names","begun","place"] ["names"] (gb lG):=scM
abbrev rC(Z:ZZ)(k:Nat):Prop:=Oz Z k "all_answers" ["names"] jX
theorem yR:BdA "all_answers" lG ["names"]:=fun _ _ _ _ _ _=>us1 fun _=>us0 rfl
theorem yh(a:Fz Z.K Z.mg "all_answers" lG)(T:Tx Z.mg):rC Z (k+1):=by
 have S:=xX;refine ozB (asg:=[1,2]) (fs:=qf) a S yR fun f d8 A outer s H E L hL hr hu k5 k4 l4 nd=>?_;exact(s1 (sS nd (uT (xL (Cj xL0) xL0))) (s1 (sF (iR1 T (xA xV xA0)) (gN nd) (s1 (sC (N':=["begin","bit"]) nd (cOk S) (by decide+kernel) (iS xW) fun _ _ _ _ _ _ nd=>⟨(gN nd),f0,fun _=>bF rfl (iS (Cj (xL x3 (xL x3 xL0)))) (gN nd) f0 (bE (jo ⟨kR⟩ xV (xO (Cj (xL xW xL0)))))⟩) s0)) (s1 (sRV (fun h=>absurd (hL _ h) (by decide))) s0)))
abbrev qH:Stmt:=top 22
theorem EF:FnScope ["riddle"] ["riddle"] (gb qH):=scM
abbrev zY(Z:ZZ)(k:Nat):Prop:=Oz Z k "answers" ["riddle"] lu
theorem FG:BdA "answers" qH ["riddle"]:=fun _ _ _ _ _ _=>us1 fun _=>us0 rfl
theorem EY(a:Fz Z.K Z.mg "answers" qH)(T:Tx Z.mg)(O_all_answers:rC Z k)(o7:Bz Z k):zY Z (k+1):=by
 have S:=EF;refine ozB (asg:=[]) (fs:=yB) a S FG fun f d8 A outer s H E L hL hr hu k5 k4 l4 nd=>?_;exact(s1 (sR (by exact xC (N':=["riddle","answer"]) (cOk S) (by decide+kernel) (iS (xU O_all_answers hr (xA (xO (xIx xV (xO x3))) xA0))) fun _ _ _ _ _ _ nd=>⟨(gN nd),(f1 (xJ (xU o7 hr (xA xV (xA xV xA0))))),fun _=>bE xW⟩)) s0)
abbrev mq:Stmt:=top 24
theorem ze:FnScope ["names","thing"] ["names","thing"] (gb mq):=scM
abbrev oP(Z:ZZ)(k:Nat):Prop:=Oz Z k "is_turning" ["names","thing"] ig
theorem zA:BdA "is_turning" mq ["names","thing"]:=fun _ _ _ _ _ _=>us1 fun _=>us1 fun _=>us0 rfl
theorem zj(a:Fz Z.K Z.mg "is_turning" mq)(T:Tx Z.mg)(n4:vf Z k):oP Z (k+1):=by
 have S:=ze;refine ozB (asg:=[]) (fs:=jL) a S zA fun f d8 A outer s H E L hL hr hu k5 k4 l4 nd=>?_;exact(s1 (sI (tW (wOr (tNot (xJ (xI T rfl xV))) (Cq (tCmp ⟨(kQ hu)⟩ (xO (xB T rfl ⟨iY⟩ (xA xV xA0))) xV)))) (s1 (sR x2) s0) s0) (s1 (sI (tNot (xJ (xB T rfl ⟨(mE rfl)⟩ (xA (xO (by exact xC (N':=["names","sign"]) (cOk S) (by decide+kernel) (iS xW) fun _ _ _ _ _ _ nd=>⟨(gN nd),f0,fun _=>bE (xU n4 hr (xA xV (xA xV xA0)))⟩)) xA0)))) (s1 (sR x2) s0) s0) (s1 (sR (Ep ⟨(oN hu)⟩ (xO (by exact xLS (N':=["sign"]) T (cOk S) (by decide+kernel) (iS xW) fun _ _ _ _ _ _ nd=>⟨(gN nd),f0,(xB T rfl ⟨ly⟩ (xA xV xA0))⟩)) xV)) s0)))
abbrev kH:Stmt:=top 25
theorem uZ:FnScope ["names","thing"] ["names","thing"] (gb kH):=scM
abbrev lU(Z:ZZ)(k:Nat):Prop:=Oz Z k "check_turning" ["names","thing"] jx
theorem vB:BdA "check_turning" kH ["names","thing"]:=fun _ _ _ _ _ _=>us1 fun _=>us1 fun _=>us0 rfl
theorem ve(a:Fz Z.K Z.mg "check_turning" kH)(T:Tx Z.mg)(i8:oP Z k):lU Z (k+1):=by
 have S:=uZ;refine ozB (asg:=[]) (fs:=kd) a S vB fun f d8 A outer s H E L hL hr hu k5 k4 l4 nd=>?_;exact(s1 (sI (tNot (xJ (xU i8 hr (xA xV (xA xV xA0))))) (s1 sX s0) s0) s0)
abbrev oH:Stmt:=top 26
theorem CG:FnScope ["turning","sign"] ["turning","sign"] (gb oH):=scM
abbrev oO(Z:ZZ)(k:Nat):Prop:=Oz Z k "led_sign" ["turning","sign"] gO
theorem DF:BdA "led_sign" oH ["turning","sign"]:=fun _ _ _ _ _ _=>us1 fun _=>us1 fun _=>us0 rfl
theorem CV(a:Fz Z.K Z.mg "led_sign" oH)(T:Tx Z.mg):oO Z (k+1):=by
 have S:=CG;refine ozB (asg:=[]) (fs:=qb) a S DF fun f d8 A outer s H E L hL hr hu k5 k4 l4 nd=>?_;exact(s1 (sR (xIf (tCmp ⟨(nC (.inr (.inr (.inl rfl))) hu)⟩ xV (xO x3)) (xIx xV (xO (jo ⟨mv⟩ xV (xO x3)))) (A5 (xO (xIx xV (xO (jo ⟨mv⟩ (xO (A5 xV)) (xO x3)))))))) s0)
abbrev ml:Stmt:=top 27
theorem zb:FnScope ["clause","turning"] ["clause","turning"] (gb ml):=scM
abbrev tK(Z:ZZ)(k:Nat):Prop:=Oz Z k "led_clause" ["clause","turning"] nP
theorem zt:BdA "led_clause" ml ["clause","turning"]:=fun _ _ _ _ _ _=>us1 fun _=>us1 fun _=>us0 rfl
theorem zg(a:Fz Z.K Z.mg "led_clause" ml)(T:Tx Z.mg)(f9:oO Z k):tK Z (k+1):=by
 have S:=zb;refine ozB (asg:=[]) (fs:=rF) a S zt fun f d8 A outer s H E L hL hr hu k5 k4 l4 nd=>?_;exact(s1 (sR (xT T rfl ⟨iW⟩ (xA (xO (xSA T (xA (xO (by exact xC (N':=["turning","sign"]) (cOk S) (by decide+kernel) (iS xW) fun _ _ _ _ _ _ nd=>⟨(gN nd),f0,fun _=>bE (xU f9 hr (xA xV (xA xV xA0)))⟩)) xA0))) xA0))) s0)
abbrev Ga:Stmt:=top 28
theorem Pb:FnScope ["riddle","turning","names","clauses"] ["riddle","turning"] (gb Ga):=scM
abbrev Om(Z:ZZ)(k:Nat):Prop:=Oz Z k "led" ["riddle","turning"] lW
theorem Ry:BdA "led" Ga ["riddle","turning"]:=fun _ _ _ _ _ _=>us1 fun _=>us1 fun _=>us0 rfl
theorem QE(a:Fz Z.K Z.mg "led" Ga)(T:Tx Z.mg)(i6:lU Z k)(O_led_clause:tK Z k):Om Z (k+1):=by
 have S:=Pb;refine ozB (asg:=[2,3]) (fs:=LG) a S Ry fun f d8 A outer s H E L hL hr hu k5 k4 l4 nd=>?_;exact(s1 (sT xW (gT (gN nd) (gN nd))) (s1 (sE (xU i6 hr (xA xV (xA xV xA0)))) (s1 (sR (Cj (xL xW (xL (xT T rfl ⟨iW⟩ (xA (xO (xB T rfl ⟨(pf k4)⟩ (xA (xO (by exact xC (N':=["turning","clause"]) (cOk S) (by decide+kernel) (iS xW) fun _ _ _ _ _ _ nd=>⟨(gN nd),f0,fun _=>bE (xU O_led_clause hr (xA xV (xA xV xA0)))⟩)) xA0))) xA0)) xL0)))) s0)))
abbrev tu:Stmt:=top 30
theorem Hl:FnScope ["one","other"] ["one","other"] (gb tu):=scM
abbrev tN(Z:ZZ)(k:Nat):Prop:=Oz Z k "behind" ["one","other"] iA
theorem Iq:BdA "behind" tu ["one","other"]:=fun _ _ _ _ _ _=>us1 fun _=>us1 fun _=>us0 rfl
theorem HF(a:Fz Z.K Z.mg "behind" tu)(T:Tx Z.mg)(f9:oO Z k):tN Z (k+1):=by
 have S:=Hl;refine ozB (asg:=[]) (fs:=Ai) a S Iq fun f d8 A outer s H E L hL hr hu k5 k4 l4 nd=>?_;exact(s1 (sR (xT T rfl ⟨iW⟩ (xA (xO (by exact xC (N':=["other","sign"]) (cOk S) (by decide+kernel) (iS xW) fun _ _ _ _ _ _ nd=>⟨(gN nd),f0,fun _=>bE (xU f9 hr (xA xV (xA xV xA0)))⟩)) xA0))) s0)
abbrev Bo:Stmt:=top 31
theorem My:FnScope ["turning","whence","name","sign"] ["turning"] (gb Bo):=scM
abbrev BC(Z:ZZ)(k:Nat):Prop:=Oz Z k "back" ["turning"] kY
theorem NW:BdA "back" Bo ["turning"]:=fun _ _ _ _ _ _=>us1 fun _=>us0 rfl
theorem Nz(a:Fz Z.K Z.mg "back" Bo)(T:Tx Z.mg):BC Z (k+1):=by
 have S:=My;refine ozB (asg:=[1,2,3]) (fs:=GL) a S NW fun f d8 A outer s H E L hL hr hu k5 k4 l4 nd=>?_;exact(s1 (sS nd (xT T rfl ⟨yN⟩ (xA xV xA0))) (s1 (sF (iE1 T xW) (gT (gN nd) (gN nd)) (s1 (sIx xV (xIf (tCmp ⟨(nC (.inr (.inr (.inl rfl))) hu)⟩ xV (xO x3)) xW (A5 xV)) (xO (jo ⟨mv⟩ (xO (xB T rfl ⟨ly⟩ (xA xV xA0))) (xO x3)))) s0)) (s1 (sR (xT T rfl ⟨iW⟩ (xA xV xA0))) s0)))
abbrev mm:Stmt:=top 29
theorem zc:FnScope ["answer","turning"] ["answer","turning"] (gb mm):=scM
abbrev tL(Z:ZZ)(k:Nat):Prop:=Oz Z k "led_answer" ["answer","turning"] gy
theorem zu:BdA "led_answer" mm ["answer","turning"]:=fun _ _ _ _ _ _=>us1 fun _=>us1 fun _=>us0 rfl
theorem zh(a:Fz Z.K Z.mg "led_answer" mm)(T:Tx Z.mg)(i6:lU Z k)(l9:BC Z k)(u7:BB Z k):tL Z (k+1):=by
 have S:=zc;refine ozB (asg:=[]) (fs:=rG) a S zu fun f d8 A outer s H E L hL hr hu k5 k4 l4 nd=>?_;exact(s1 (sE (xU i6 hr (xA (xO (xB T rfl ⟨iY⟩ (xA xV xA0))) (xA xV xA0)))) (s1 (sR (xT T rfl ⟨iW⟩ (xA (xO (by exact xC (N':=["answer","sign"]) (cOk S) (by decide+kernel) (iS (xU l9 hr (xA xV xA0))) fun _ _ _ _ _ _ nd=>⟨(gN nd),f0,fun _=>bE (xIf (xJ (xU u7 hr (xA xV (xA xV xA0)))) x3 x3)⟩)) xA0))) s0))
abbrev wG:Stmt:=top 32
theorem JZ:FnScope ["names"] ["names"] (gb wG):=scM
abbrev wM(Z:ZZ)(k:Nat):Prop:=Oz Z k "still" ["names"] jk
theorem L9:BdA "still" wG ["names"]:=fun _ _ _ _ _ _=>us1 fun _=>us0 rfl
theorem K6(a:Fz Z.K Z.mg "still" wG)(T:Tx Z.mg):wM Z (k+1):=by
 have S:=JZ;refine ozB (asg:=[]) (fs:=Dk) a S L9 fun f d8 A outer s H E L hL hr hu k5 k4 l4 nd=>?_;exact(s1 (sR (RL T rfl (xA (xO x3) (xA (xO (jo ⟨kR⟩ xV (xO x3))) xA0)))) s0)
abbrev oG:Stmt:=top 33
theorem CF:FnScope ["turning","times","done"] ["turning"] (gb oG):=scM
abbrev yi(Z:ZZ)(k:Nat):Prop:=Oz Z k "order_of" ["turning"] qh
theorem DE:BdA "order_of" oG ["turning"]:=fun _ _ _ _ _ _=>us1 fun _=>us0 rfl
theorem CU(a:Fz Z.K Z.mg "order_of" oG)(T:Tx Z.mg)(i7:wM Z k)(g8:tN Z k):yi Z (k+1):=by
 have S:=CF;refine ozB (asg:=[1,2]) (fs:=vZ) a S DE fun f d8 A outer s H E L hL hr hu k5 k4 l4 nd=>?_;exact(s1 (sS nd x3) (s1 (sS nd xW) (s1 (sW (tCmp ⟨(kQ hu)⟩ xV (xO (xU i7 hr (xA (xO (xB T rfl ⟨iY⟩ (xA xV xA0))) xA0)))) (s1 (sS nd (xU g8 hr (xA xV (xA xV xA0)))) (s1 (sAg nd x3) s0))) (s1 (sRV (fun h=>absurd (hL _ h) (by decide))) s0))))
abbrev lE:Stmt:=top 35
theorem xR:FnScope ["_law_script","_law_k"] ["_law_script","_law_k"] (gb lE):=scM
abbrev rA(Z:ZZ)(k:Nat):Prop:=Oz Z k "_law_cell_at" ["_law_script","_law_k"] jU
theorem yP:BdA "_law_cell_at" lE ["_law_script","_law_k"]:=fun _ _ _ _ _ _=>us1 fun _=>us1 fun _=>us0 rfl
theorem yf(a:Fz Z.K Z.mg "_law_cell_at" lE)(T:Tx Z.mg):rA Z (k+1):=by
 have S:=xR;refine ozB (asg:=[]) (fs:=kU) a S yP fun f d8 A outer s H E L hL hr hu k5 k4 l4 nd=>?_;exact(s1 (sI (tCmp ⟨(nC (.inl rfl) hu)⟩ xV (xO (xB T rfl ⟨iY⟩ (xA xV xA0)))) (s1 (sR (xIx xV xV)) s0) s0) (s1 (sR x3) s0))
abbrev nh:Stmt:=top 36
theorem Bh:FnScope ["_law_script","_law_k","_law_cell"] ["_law_script","_law_k"] (gb nh):=scM
abbrev vT(Z:ZZ)(k:Nat):Prop:=Oz Z k "_law_state" ["_law_script","_law_k"] ke
theorem BZ:BdA "_law_state" nh ["_law_script","_law_k"]:=fun _ _ _ _ _ _=>us1 fun _=>us1 fun _=>us0 rfl
theorem Bt(a:Fz Z.K Z.mg "_law_state" nh)(T:Tx Z.mg)(O_law_cell_at:rA Z k):vT Z (k+1):=by
 have S:=Bh;refine ozB (asg:=[2]) (fs:=mw) a S BZ fun f d8 A outer s H E L hL hr hu k5 k4 l4 nd=>?_;exact(s1 (sS nd (xU O_law_cell_at hr (xA xV (xA xV xA0)))) (s1 (sI (tCmp ⟨(nC (.inr (.inr (.inr rfl))) hu)⟩ xV (xO (jo ⟨Gr⟩ (xO x3) (xO x3)))) (s1 (sR (uT (xL (jo ⟨mv⟩ xV (xO (jo ⟨Gr⟩ (xO x3) (xO x3)))) (xL x2 xL0)))) s0) s0) (s1 (sR (uT (xL (jo ⟨qK⟩ xV (xO x3)) (xL x2 xL0)))) s0)))
abbrev oI:Stmt:=top 37
theorem CH:FnScope ["_law_state_here","_law_many","_law_found","_law_mixed"] ["_law_state_here","_law_many"] (gb oI):=scM
abbrev mS(Z:ZZ)(k:Nat):Prop:=Oz Z k "_law_take" ["_law_state_here","_law_many"] gz
theorem DG:BdA "_law_take" oI ["_law_state_here","_law_many"]:=fun _ _ _ _ _ _=>us1 fun _=>us1 fun _=>us0 rfl
theorem CW(a:Fz Z.K Z.mg "_law_take" oI)(T:Tx Z.mg):mS Z (k+1):=by
 have S:=CH;refine ozB (asg:=[2,3]) (fs:=nJ) a S DG fun f d8 A outer s H E L hL hr hu k5 k4 l4 nd=>?_;exact(s1 (sI (xJ (xIx xV (xO x3))) (s1 (sS nd (jo ⟨qK⟩ (xO (xIx xV (xO x3))) xV)) (s1 (sIx xV (jo ⟨Gs⟩ (xO (xIx xV (xO x3))) xV) (xO x3)) (s1 (sRV (fun h=>absurd (hL _ h) (by decide))) s0))) s0) (s1 (sIx xV (jo ⟨qK⟩ (xO (jo ⟨kR⟩ (xO (jo ⟨lH⟩ (xO (xIx xV (xO x3))) (xO x3))) (xO x3))) (xO x3)) (xO x3)) (s1 (sS nd (jo ⟨qK⟩ (xO (jo ⟨kR⟩ (xO (jo ⟨kR⟩ (xO (jo ⟨lH⟩ (xO (xIx xV (xO x3))) (xO (xIx xV (xO x3))))) (xO (jo ⟨lH⟩ (xO x3) (xO (xIx xV (xO x3))))))) (xO x3))) (xO x3))) (s1 (sS nd (jo ⟨qK⟩ (xO (jo ⟨kR⟩ (xO (jo ⟨lH⟩ xV xV)) (xO (jo ⟨lH⟩ (xO x3) xV)))) (xO x3))) (s1 (sR (jo ⟨qK⟩ (xO (jo ⟨Gs⟩ xV (xO x3))) xV)) s0)))))
abbrev lD:Stmt:=top 38
theorem xQ:FnScope ["_law_state_here","_law_names","_law_rest","_law_found","_law_turn"] ["_law_state_here","_law_names"] (gb lD):=scM
abbrev nN(Z:ZZ)(k:Nat):Prop:=Oz Z k "_law_turning" ["_law_state_here","_law_names"] jc
theorem yO:BdA "_law_turning" lD ["_law_state_here","_law_names"]:=fun _ _ _ _ _ _=>us1 fun _=>us1 fun _=>us0 rfl
theorem ye(a:Fz Z.K Z.mg "_law_turning" lD)(T:Tx Z.mg)(c8:mS Z k):nN Z (k+1):=by
 have S:=xQ;refine ozB (asg:=[2,3,4]) (fs:=qc) a S yO fun f d8 A outer s H E L hL hr hu k5 k4 l4 nd=>?_;exact(s1 (sS nd (RL T rfl (xA (xO x3) (xA (xO (jo ⟨kR⟩ xV (xO x3))) xA0)))) (s1 (sS nd (uT xL0)) (s1 (sF (iR1 T (xA xV xA0)) (gN nd) (s1 (sE (RN xV (jo ⟨lH⟩ (xO (TL xV (xO (xU c8 hr (xA xV (xA (xO (xB T rfl ⟨iY⟩ (xA xV xA0))) xA0)))))) (xO (xIx (xO (uT (xL x3 (xL (A5 (xO x3)) xL0)))) (xO (xU c8 hr (xA xV (xA (xO x3) xA0))))))))) s0)) (s1 (sR (xT T rfl ⟨iW⟩ (xA xV xA0))) s0))))
abbrev mn:Stmt:=top 39
theorem zd:FnScope ["_law_state_here","_law_names","_law_signs"] ["_law_state_here","_law_names"] (gb mn):=scM
abbrev tM(Z:ZZ)(k:Nat):Prop:=Oz Z k "_law_clause" ["_law_state_here","_law_names"] jl
theorem zw:BdA "_law_clause" mn ["_law_state_here","_law_names"]:=fun _ _ _ _ _ _=>us1 fun _=>us1 fun _=>us0 rfl
theorem zi(a:Fz Z.K Z.mg "_law_clause" mn)(T:Tx Z.mg)(c8:mS Z k):tM Z (k+1):=by
 have S:=zd;refine ozB (asg:=[2]) (fs:=nK) a S zw fun f d8 A outer s H E L hL hr hu k5 k4 l4 nd=>?_;exact(s1 (sC (N':=["_law_state_here","_law_name"]) nd (cOk S) (by decide+kernel) (iR2 T (xA (xO x3) (xA (xO (jo ⟨kR⟩ xV (xO x3))) xA0))) fun _ _ _ _ _ _ nd=>⟨(gN nd),(f1 (tCmp ⟨(oN hu)⟩ (xO (xU c8 hr (xA xV (xA (xO x3) xA0)))) (xO x3))),fun _=>bE (jo ⟨lH⟩ xV (xO (xIx (xO (uT (xL x3 (xL (A5 (xO x3)) xL0)))) (xO (xU c8 hr (xA xV (xA (xO x3) xA0)))))))⟩) (s1 (sI (tCmp ⟨(oN hu)⟩ xV (xO (uT xL0))) (s1 (sS nd (uT (xL (jo ⟨lH⟩ (xO (jo ⟨kR⟩ (xO x3) (xO (xU c8 hr (xA xV (xA xV xA0)))))) (xO (xIx (xO (uT (xL x3 (xL (A5 (xO x3)) xL0)))) (xO (xU c8 hr (xA xV (xA (xO x3) xA0))))))) xL0))) s0) s0) (s1 (sR (xT T rfl ⟨iW⟩ (xA xV xA0))) s0)))
abbrev kO:Stmt:=top 40
theorem wg:FnScope ["_law_turning_here","_law_sign"] ["_law_turning_here","_law_sign"] (gb kO):=scM
abbrev pY(Z:ZZ)(k:Nat):Prop:=Oz Z k "_law_led_sign" ["_law_turning_here","_law_sign"] gX
theorem wx:BdA "_law_led_sign" kO ["_law_turning_here","_law_sign"]:=fun _ _ _ _ _ _=>us1 fun _=>us1 fun _=>us0 rfl
theorem wm(a:Fz Z.K Z.mg "_law_led_sign" kO)(T:Tx Z.mg):pY Z (k+1):=by
 have S:=wg;refine ozB (asg:=[]) (fs:=kg) a S wx fun f d8 A outer s H E L hL hr hu k5 k4 l4 nd=>?_;exact(s1 (sR (jo ⟨lH⟩ (xO (xIx xV (xO (jo ⟨mv⟩ (xO (xB T rfl ⟨ly⟩ (xA xV xA0))) (xO x3))))) (xO (xIx (xO (uT (xL x3 (xL (A5 (xO x3)) xL0)))) (xO (xT T rfl ⟨Ik⟩ (xA (xO (Ep ⟨(nC (.inl rfl) hu)⟩ xV (xO x3))) xA0))))))) s0)
abbrev jZ:Stmt:=top 41
theorem tm:FnScope ["_law_clause_here","_law_turning_here","_law_row"] ["_law_clause_here","_law_turning_here"] (gb jZ):=scM
abbrev oq(Z:ZZ)(k:Nat):Prop:=Oz Z k "_law_led_clause" ["_law_clause_here","_law_turning_here"] jg
theorem ur:BdA "_law_led_clause" jZ ["_law_clause_here","_law_turning_here"]:=fun _ _ _ _ _ _=>us1 fun _=>us1 fun _=>us0 rfl
theorem tJ(a:Fz Z.K Z.mg "_law_led_clause" jZ)(T:Tx Z.mg)(O_law_led_sign:pY Z k):oq Z (k+1):=by
 have S:=tm;refine ozB (asg:=[2]) (fs:=lp) a S ur fun f d8 A outer s H E L hL hr hu k5 k4 l4 nd=>?_;exact(s1 (sC (N':=["_law_turning_here","_law_sign"]) nd (cOk S) (by decide+kernel) (iS xW) fun _ _ _ _ _ _ nd=>⟨(gN nd),f0,fun _=>bE (Cj (xL (xB T rfl ⟨ly⟩ (xA (xO (xU O_law_led_sign hr (xA xV (xA xV xA0)))) xA0)) (xL (xU O_law_led_sign hr (xA xV (xA xV xA0))) xL0)))⟩) (s1 (sR (xT T rfl ⟨iW⟩ (xA (xO (by exact xC (N':=["_law_name","_law_sign"]) (cOk S) (by decide+kernel) (iS (xB T rfl ⟨(pf k4)⟩ (xA xV xA0))) fun _ _ _ _ _ _ nd=>⟨(gT (gN nd) (gN nd)),f0,fun _=>bE xW⟩)) xA0))) s0))
abbrev kG:Stmt:=top 42
theorem uY:FnScope ["_law_state_here","_law_names","_law_most","_law_some","_law_turn","_law_turning_here","_law_fresh","_law_clause_here"] ["_law_state_here","_law_names"] (gb kG):=scM
abbrev pE(Z:ZZ)(k:Nat):Prop:=Oz Z k "_law_riddle_of" ["_law_state_here","_law_names"] kf
theorem vA:BdA "_law_riddle_of" kG ["_law_state_here","_law_names"]:=fun _ _ _ _ _ _=>us1 fun _=>us1 fun _=>us0 rfl
theorem vd(a:Fz Z.K Z.mg "_law_riddle_of" kG)(T:Tx Z.mg)(c8:mS Z k)(O_law_clause:tM Z k)(j8:nN Z k)(O_law_led_clause:oq Z k):pE Z (k+1):=by
 have S:=uY;refine ozB (asg:=[2,3,4,5,6,7]) (fs:=oB) a S vA fun f d8 A outer s H E L hL hr hu k5 k4 l4 nd=>?_;exact(s1 (sI (tCmp ⟨(oN hu)⟩ xV (xO x3)) (s1 (sR (Cj (xL x3 (xL (Cj xL0) xL0)))) s0) s0) (s1 (sS nd (xIx (xO (uT (xL x3 (xL x3 (xL x3 xL0))))) (xO (xU c8 hr (xA xV (xA (xO x3) xA0)))))) (s1 (sS nd x7) (s1 (sF (iR1 T (xA (xO (xU c8 hr (xA xV (xA (xO (jo ⟨kR⟩ xV (xO x3))) xA0)))) xA0)) (gN nd) (s1 (sDP k5 xV x2 (xO (xU O_law_clause hr (xA xV (xA xV xA0))))) s0)) (s1 (sS nd (xU j8 hr (xA xV (xA xV xA0)))) (s1 (sS nd (jo ⟨K0⟩ (xO (xT T rfl ⟨(Fv rfl)⟩ (xA xV xA0))) (xO (xIx (xO (uT (xL x3 (xL x3 xL0)))) (xO (xU c8 hr (xA xV (xA (xO x3) xA0)))))))) (s1 (sW (tCmp ⟨(kQ hu)⟩ xV (xO (uT xL0))) (s1 (sS nd (xU O_law_led_clause hr (xA (xO (RM xV)) (xA xV xA0)))) (s1 (sI (tCmp ⟨(ET k4)⟩ xV xV) (s1 (sDP k5 xV x2 xV) (s1 (sE (RN xV xW)) s0)) s0) s0))) (s1 (sR (Cj (xL xW (xL (xT T rfl ⟨iW⟩ (xA (xO (TK (xO (xB T rfl ⟨(BX rfl k4)⟩ (xA xV xA0))) (xO x3))) xA0)) xL0)))) s0))))))))
abbrev oJ:Stmt:=top 43
theorem CI:FnScope ["_law_names"] ["_law_names"] (gb oJ):=scM
abbrev yj(Z:ZZ)(k:Nat):Prop:=Oz Z k "_law_bits" ["_law_names"] nL
theorem DH:BdA "_law_bits" oJ ["_law_names"]:=fun _ _ _ _ _ _=>us1 fun _=>us0 rfl
theorem CY(a:Fz Z.K Z.mg "_law_bits" oJ)(T:Tx Z.mg):yj Z (k+1):=by
 have S:=CI;refine ozB (asg:=[]) (fs:=wa) a S DH fun f d8 A outer s H E L hL hr hu k5 k4 l4 nd=>?_;exact(s1 (sR (by exact xC (N':=["_law_names","_law_number"]) (cOk S) (by decide+kernel) (iR1 T (xA (xO (jo ⟨Nt⟩ (xO x3) xV)) xA0)) fun _ _ _ _ _ _ nd=>⟨(gN nd),f0,fun _=>bE (xT T rfl ⟨iW⟩ (xA (xO (by exact xC (N':=["_law_number","_law_names","_law_k"]) (L1 rfl rfl (by with_unfolding_all rfl)) (by decide+kernel) (iR1 T (xA xV xA0)) fun _ _ _ _ _ _ nd=>⟨(gN nd),f0,fun _=>bE (jo ⟨Nu⟩ (xO (jo ⟨Nr⟩ xV (xO (jo ⟨mv⟩ (xO (jo ⟨mv⟩ xV (xO x3))) xV)))) (xO x3))⟩)) xA0))⟩)) s0)
abbrev ji:Stmt:=top 44
theorem pH:FnScope ["_law_one","_law_other","_law_names","_law_both","_law_sign","_law_here","_law_turn"] ["_law_one","_law_other"] (gb ji):=scM
abbrev lP(Z:ZZ)(k:Nat):Prop:=Oz Z k "_law_turnings_right" ["_law_one","_law_other"] jf
theorem pL:BdA "_law_turnings_right" ji ["_law_one","_law_other"]:=fun _ _ _ _ _ _=>us1 fun _=>us1 fun _=>us0 rfl
theorem pJ(a:Fz Z.K Z.mg "_law_turnings_right" ji)(T:Tx Z.mg)(g8:tN Z k)(i8:oP Z k)(l9:BC Z k)(i7:wM Z k)(f9:oO Z k)(O_order_of:yi Z k):lP Z (k+1):=by
 have S:=pH;refine ozB (asg:=[2,3,4,5,6]) (fs:=ll) a S pL fun f d8 A outer s H E L hL hr hu k5 k4 l4 nd=>?_;exact(s1 (sS nd (xB T rfl ⟨iY⟩ (xA xV xA0))) (s1 (sS nd (xU g8 hr (xA xV (xA xV xA0)))) (s1 (sI (tW (wOr (tCmp ⟨vc⟩ (xO (xU i8 hr (xA xV (xA xV xA0)))) (xO x2)) (Cq (tCmp ⟨vc⟩ (xO (xU i8 hr (xA xV (xA (xO (xU l9 hr (xA xV xA0))) xA0)))) (xO x2))))) (s1 (sR x2) s0) s0) (s1 (sI (tW (wOr (tCmp ⟨(kQ hu)⟩ (xO (xU g8 hr (xA xV (xA (xO (xU l9 hr (xA xV xA0))) xA0)))) (xO (xU i7 hr (xA xV xA0)))) (Cq (tCmp ⟨(kQ hu)⟩ (xO (xU g8 hr (xA (xO (xU l9 hr (xA xV xA0))) (xA xV xA0)))) (xO (xU i7 hr (xA xV xA0))))))) (s1 (sR x2) s0) s0) (s1 (sF (iR2 T (xA (xO x3) (xA (xO (jo ⟨kR⟩ xV (xO x3))) xA0))) (gN nd) (s1 (sI (tW (wOr (tCmp ⟨(kQ hu)⟩ (xO (xU f9 hr (xA xV (xA xV xA0)))) (xO (xU f9 hr (xA xV (xA (xO (xU f9 hr (xA xV (xA xV xA0)))) xA0))))) (Cq (tCmp ⟨(kQ hu)⟩ (xO (xU f9 hr (xA xV (xA (xO (A5 xV)) xA0)))) (xO (A5 (xO (xU f9 hr (xA xV (xA xV xA0)))))))))) (s1 (sR x2) s0) s0) s0)) (s1 (sS nd (xU i7 hr (xA xV xA0))) (s1 (sF (iR1 T (xA (xO (jo ⟨mv⟩ (xO (xU O_order_of hr (xA xV xA0))) (xO x3))) xA0)) (gN nd) (s1 (sS nd (xU g8 hr (xA xV (xA xV xA0)))) (s1 (sI (tCmp ⟨(oN hu)⟩ xV (xO (xU i7 hr (xA xV xA0)))) (s1 (sR x2) s0) s0) s0))) (s1 (sR (Ep ⟨(oN hu)⟩ (xO (xU g8 hr (xA xV (xA xV xA0)))) (xO (xU i7 hr (xA xV xA0))))) s0))))))))
abbrev Gb:Stmt:=top 45
theorem Pc:FnScope ["_law_script","_law_k","_law_state_here","_law_riddle","_law_one","_law_other","_law_there","_law_answer"] ["_law_script"] (gb Gb):=scM
theorem Rz:BdA "law" Gb ["_law_script"]:=fun _ _ _ _ _ _=>us1 fun _=>us0 rfl
theorem QH{f:fR}{fd:mZ}(F:Fun Z.K "law" "law" Gb f fd)(T:Tx Z.mg)(O_law_state:vT Z k)(c8:mS Z k)(O_law_riddle_of:pE Z k)(j8:nN Z k)(O_law_turnings_right:lP Z k)(y4:Om Z k)(O_is_riddle:vU Z k)(l9:BC Z k)(g8:tN Z k)(i7:wM Z k)(O_law_bits:yj Z k)(o7:Bz Z k)(g9:tL Z k)(O_answers:zY Z k):FnOk Z.P Z.w Z.K Z.mg Z.base CX0 (k+1) f fd ["_law_script"] (spF Z.K rH):=by
 have S:=Pc;refine fnB (asg:=[1,2,3,4,5,6,7]) (fs:=yz) F S fun f d8 A outer s H E L hL hr hu k5 k4 l4 nd=>?_;exact(s1 (sF (iR1 T (xA (xO (xB T rfl ⟨(Fu rfl)⟩ (xA (xO x3) (xA (xO (xB T rfl ⟨(Ft rfl)⟩ (xA (xO (xB T rfl ⟨iY⟩ (xA xV xA0))) (xA (xO x3) xA0)))) xA0)))) xA0)) (gN nd) (s1 (sS nd (xU O_law_state hr (xA xV (xA xV xA0)))) (s1 (sS nd (xU O_law_riddle_of hr (xA xV (xA (xO (xU c8 hr (xA xV (xA (xO x3) xA0)))) xA0)))) (s1 (sT (by exact xC (N':=["_law_state_here","_law_riddle","_law_turn"]) (cOk S) (by decide+kernel) (iR1 T (xA (xO x3) xA0)) fun _ _ _ _ _ _ nd=>⟨(gN nd),f0,fun _=>bE (xU j8 hr (xA xV (xA (xO (xIx xV (xO x3))) xA0)))⟩) (gS (gN nd) (gN nd))) (s1 (sI (tNot (xJ (xU O_law_turnings_right hr (xA xV (xA xV xA0))))) (s1 (sR x2) s0) s0) (s1 (sS nd (xU y4 hr (xA xV (xA xV xA0)))) (s1 (sI (tW (wOr (tCmp ⟨vc⟩ (xO (xU O_is_riddle hr (xA xV xA0))) (xO x2)) (wOr (tCmp ⟨(kQ hu)⟩ (xO (xB T rfl ⟨iY⟩ (xA (xO (xIx xV (xO x3))) xA0))) (xO (xB T rfl ⟨iY⟩ (xA (xO (xIx xV (xO x3))) xA0)))) (Cq (tCmp ⟨(kQ hu)⟩ (xO (xU y4 hr (xA xV (xA (xO (xU l9 hr (xA xV xA0))) xA0)))) xV))))) (s1 (sR x2) s0) s0) (s1 (sI (tW (wOr (tCmp ⟨(kQ hu)⟩ (xO (xU y4 hr (xA xV (xA xV xA0)))) (xO (xU y4 hr (xA xV (xA (xO (xU g8 hr (xA xV (xA xV xA0)))) xA0))))) (Cq (tCmp ⟨(kQ hu)⟩ (xO (xU y4 hr (xA xV (xA (xO (xU i7 hr (xA (xO (xIx xV (xO x3))) xA0))) xA0)))) xV)))) (s1 (sR x2) s0) s0) (s1 (sF (iS (xU O_law_bits hr (xA (xO (xIx xV (xO x3))) xA0))) (gN nd) (s1 (sI (tCmp ⟨(kQ hu)⟩ (xO (xU o7 hr (xA xV (xA xV xA0)))) (xO (xU o7 hr (xA xV (xA (xO (xU g9 hr (xA xV (xA xV xA0)))) xA0))))) (s1 (sR x2) s0) s0) (s1 (sI (tCmp ⟨(kQ hu)⟩ (xO (xU g9 hr (xA (xO (xU g9 hr (xA xV (xA xV xA0)))) (xA xV xA0)))) (xO (xU g9 hr (xA xV (xA (xO (xU g8 hr (xA xV (xA xV xA0)))) xA0))))) (s1 (sR x2) s0) s0) s0))) (s1 (sI (tCmp ⟨(kQ hu)⟩ (xO (xB T rfl ⟨(pf k4)⟩ (xA (xO (by exact xC (N':=["_law_one","_law_answer"]) (cOk S) (by decide+kernel) (iS (xU O_answers hr (xA xV xA0))) fun _ _ _ _ _ _ nd=>⟨(gN nd),f0,fun _=>bE (xU g9 hr (xA xV (xA xV xA0)))⟩)) xA0))) (xO (xU O_answers hr (xA xV xA0)))) (s1 (sR x2) s0) s0) s0)))))))))) (s1 (sR x2) s0))
end
theorem all_mk{l:PySem.W.OpenLaw}{w:gu}{K:gq}{mg:kM}{fa:fR}(eP:mg "law"=some (.ref fa))(T:Tx mg)
  (a0:Fz K mg "is_whole" oK)
  (a1:Fz K mg "is_number" nk)
  (a2:Fz K mg "is_bit" tq)
  (a3:Fz K mg "is_name" qG)
  (a4:Fz K mg "is_sign" qE)
  (a5:Fz K mg "is_pair" qF)
  (a6:Fz K mg "is_rising" ni)
  (a7:Fz K mg "is_clause" nu)
  (a8:Fz K mg "are_clauses" lF)
  (a9:Fz K mg "is_riddle" nj)
  (a10:Fz K mg "is_answer" nv)
  (a11:Fz K mg "is_so" wI)
  (a12:Fz K mg "keeps_clause" kP)
  (a13:Fz K mg "keeps" wH)
  (a14:Fz K mg "all_answers" lG)
  (a15:Fz K mg "answers" qH)
  (a16:Fz K mg "is_turning" mq)
  (a17:Fz K mg "check_turning" kH)
  (a18:Fz K mg "led_sign" oH)
  (a19:Fz K mg "led_clause" ml)
  (a20:Fz K mg "led" Ga)
  (a21:Fz K mg "behind" tu)
  (a22:Fz K mg "back" Bo)
  (a23:Fz K mg "led_answer" mm)
  (a24:Fz K mg "still" wG)
  (a25:Fz K mg "order_of" oG)
  (a26:Fz K mg "_law_cell_at" lE)
  (a27:Fz K mg "_law_state" nh)
  (a28:Fz K mg "_law_take" oI)
  (a29:Fz K mg "_law_turning" lD)
  (a30:Fz K mg "_law_clause" mn)
  (a31:Fz K mg "_law_led_sign" kO)
  (a32:Fz K mg "_law_led_clause" jZ)
  (a33:Fz K mg "_law_riddle_of" kG)
  (a34:Fz K mg "_law_bits" oJ)
  (a35:Fz K mg "_law_turnings_right" ji)
  (a36:Fz K mg "law" Gb)
  (k8: ∃t,mg "MOST_SIGNS"=some (.int 5 t))
  (j5: ∃t,mg "MOST_CLAUSES"=some (.int 30 t))
  (k9: ∃t,mg "MOST_NAMES"=some (.int 5 t))
  : ∃fd:FuncData,(∀(s:fW) (v:gg),BindsTo s fd ⟨[v],[]⟩ [("_law_script",v)])/\ ∀base:Heap,K.In base->base.Ns mainGlobals mg->FnOk l.prog w K mg base CX0 8 fa fd ["_law_script"] (spF K rH):=by
 obtain⟨fd,F,hb⟩:=fzL a36 eP Rz;refine⟨fd,hb,fun base _ _=>?_⟩;have O0:=CZ (Z:=⟨l.prog,w,K,mg,base⟩) (k:=0) a0 T;have O1:=Bw (Z:=⟨l.prog,w,K,mg,base⟩) (k:=1) a1 T O0.up;have O2:=HE (Z:=⟨l.prog,w,K,mg,base⟩) (k:=2) a2 T O1.up;have O3:=EX (Z:=⟨l.prog,w,K,mg,base⟩) (k:=2) a3 T O1.up;have O4:=EV (Z:=⟨l.prog,w,K,mg,base⟩) (k:=3) a4 T O0.up O3.up;have O5:=EW (Z:=⟨l.prog,w,K,mg,base⟩) (k:=0) a5 T;have O6:=Bu (Z:=⟨l.prog,w,K,mg,base⟩) (k:=0) a6 T;have O7:=Bx (Z:=⟨l.prog,w,K,mg,base⟩) (k:=4) a7 T k8 O4.up O6.up;have O8:=yg (Z:=⟨l.prog,w,K,mg,base⟩) (k:=5) a8 T j5 O7.up O6.up;have O9:=Bv (Z:=⟨l.prog,w,K,mg,base⟩) (k:=6) a9 T k9 O5.up O1.up O8.up;have O10:=By (Z:=⟨l.prog,w,K,mg,base⟩) (k:=3) a10 T O2.up;have O11:=K8 (Z:=⟨l.prog,w,K,mg,base⟩) (k:=0) a11 T;have O12:=wo (Z:=⟨l.prog,w,K,mg,base⟩) (k:=1) a12 T O11.up;have O13:=K7 (Z:=⟨l.prog,w,K,mg,base⟩) (k:=4) a13 T O10.up O12.up;have O14:=yh (Z:=⟨l.prog,w,K,mg,base⟩) (k:=0) a14 T;have O15:=EY (Z:=⟨l.prog,w,K,mg,base⟩) (k:=5) a15 T O14.up O13.up;have O16:=zj (Z:=⟨l.prog,w,K,mg,base⟩) (k:=4) a16 T O4.up;have O17:=ve (Z:=⟨l.prog,w,K,mg,base⟩) (k:=5) a17 T O16.up;have fK:=CV (Z:=⟨l.prog,w,K,mg,base⟩) (k:=0) a18 T;have O19:=zg (Z:=⟨l.prog,w,K,mg,base⟩) (k:=1) a19 T fK.up;have O20:=QE (Z:=⟨l.prog,w,K,mg,base⟩) (k:=6) a20 T O17.up O19.up;have fJ:=HF (Z:=⟨l.prog,w,K,mg,base⟩) (k:=1) a21 T fK.up;have fI:=Nz (Z:=⟨l.prog,w,K,mg,base⟩) (k:=0) a22 T;have O23:=zh (Z:=⟨l.prog,w,K,mg,base⟩) (k:=6) a23 T O17.up fI.up O11.up;have fH:=K6 (Z:=⟨l.prog,w,K,mg,base⟩) (k:=0) a24 T;have O25:=CU (Z:=⟨l.prog,w,K,mg,base⟩) (k:=2) a25 T fH.up fJ.up;have O26:=yf (Z:=⟨l.prog,w,K,mg,base⟩) (k:=0) a26 T;have O27:=Bt (Z:=⟨l.prog,w,K,mg,base⟩) (k:=1) a27 T O26.up;have dN:=CW (Z:=⟨l.prog,w,K,mg,base⟩) (k:=0) a28 T;have O29:=ye (Z:=⟨l.prog,w,K,mg,base⟩) (k:=1) a29 T dN.up;have O30:=zi (Z:=⟨l.prog,w,K,mg,base⟩) (k:=1) a30 T dN.up;have O31:=wm (Z:=⟨l.prog,w,K,mg,base⟩) (k:=0) a31 T;have O32:=tJ (Z:=⟨l.prog,w,K,mg,base⟩) (k:=1) a32 T O31.up;have O33:=vd (Z:=⟨l.prog,w,K,mg,base⟩) (k:=2) a33 T dN.up O30.up O29.up O32.up;have O34:=CY (Z:=⟨l.prog,w,K,mg,base⟩) (k:=0) a34 T;have O35:=pJ (Z:=⟨l.prog,w,K,mg,base⟩) (k:=5) a35 T fJ.up O16.up fI.up fH.up fK.up O25.up;exact QH (Z:=⟨l.prog,w,K,mg,base⟩) (k:=7) F T O27.up dN.up O33.up O29.up O35.up O20.up O9.up fI.up fJ.up fH.up O34.up O13.up O23.up O15.up
end K24
namespace PV
open PySem PySem.Spec PyProof.Rows L2 PX
@[simp] theorem UB(d:D)(δ:Dn):fC d δ=some ((d,false),δ):=rfl
@[simp] theorem Po(f:F)(δ:Dn):fP f δ=(f δ).bind fun p=>some (.val p.1,p.2):=rfl
@[simp] theorem Tv(x:D×Bool)(δ:Dn):fO 0 (some x::δ)=some (.slot 0,some x::δ):=rfl
@[simp] theorem Tu(a:Sl)(x:D×Bool)(δ:Dn):fO 1 (a::some x::δ)=some (.slot 1,a::some x::δ):=rfl
@[simp] theorem Tt(a b:Sl)(x:D×Bool)(δ:Dn):fO 2 (a::b::some x::δ)=some (.slot 2,a::b::some x::δ):=rfl
@[simp] theorem Tr(a b c:Sl)(x:D×Bool)(δ:Dn):fO 3 (a::b::c::some x::δ)=some (.slot 3,a::b::c::some x::δ):=rfl
@[simp] theorem Tq(a b c d:Sl)(x:D×Bool)(δ:Dn):fO 4 (a::b::c::d::some x::δ)=some (.slot 4,a::b::c::d::some x::δ):=rfl
@[simp] theorem Tp(a b c d e:Sl)(x:D×Bool)(δ:Dn):fO 5 (a::b::c::d::e::some x::δ)=some (.slot 5,a::b::c::d::e::some x::δ):=rfl
@[simp] theorem To(a b c d e f:Sl)(x:D×Bool)(δ:Dn):fO 6 (a::b::c::d::e::f::some x::δ)=some (.slot 6,a::b::c::d::e::f::some x::δ):=rfl
@[simp] theorem Tn(a b c d e f g:Sl)(x:D×Bool)(δ:Dn):fO 7 (a::b::c::d::e::f::g::some x::δ)=some (.slot 7,a::b::c::d::e::f::g::some x::δ):=rfl
@[simp] theorem Tj(a b c d e f g h:Sl)(x:D×Bool)(δ:Dn):fO 8 (a::b::c::d::e::f::g::h::some x::δ)=some (.slot 8,a::b::c::d::e::f::g::h::some x::δ):=rfl
@[simp] theorem Kf(δ:Dn)(r:D×Bool):res δ (.val r)=some r.1:=rfl
@[simp] theorem Um(x:D×Bool)(δ:Dn):res (some x::δ) (.slot 0)=some x.1:=rfl
@[simp] theorem Ul(a:Sl)(x:D×Bool)(δ:Dn):res (a::some x::δ) (.slot 1)=some x.1:=rfl
@[simp] theorem Uk(a b:Sl)(x:D×Bool)(δ:Dn):res (a::b::some x::δ) (.slot 2)=some x.1:=rfl
@[simp] theorem Uj(a b c:Sl)(x:D×Bool)(δ:Dn):res (a::b::c::some x::δ) (.slot 3)=some x.1:=rfl
@[simp] theorem Ui(a b c d:Sl)(x:D×Bool)(δ:Dn):res (a::b::c::d::some x::δ) (.slot 4)=some x.1:=rfl
@[simp] theorem Uh(a b c d e:Sl)(x:D×Bool)(δ:Dn):res (a::b::c::d::e::some x::δ) (.slot 5)=some x.1:=rfl
@[simp] theorem Ug(a b c d e f:Sl)(x:D×Bool)(δ:Dn):res (a::b::c::d::e::f::some x::δ) (.slot 6)=some x.1:=rfl
@[simp] theorem Ue(a b c d e f g:Sl)(x:D×Bool)(δ:Dn):res (a::b::c::d::e::f::g::some x::δ) (.slot 7)=some x.1:=rfl
@[simp] theorem Ud(a b c d e f g h:Sl)(x:D×Bool)(δ:Dn):res (a::b::c::d::e::f::g::h::some x::δ) (.slot 8)=some x.1:=rfl
@[simp] theorem Pq(g:D->Option (D×Bool))(fa:FO)(δ:Dn):kh g fa δ=(fa δ).bind fun p=>(res p.2 p.1).bind fun x=>(g x).bind fun z=>some (z,p.2):=rfl
@[simp] theorem Uy(g:D->D->Option (D×Bool))(fa fb:FO)(δ:Dn):fZ g fa fb δ=(fa δ).bind fun p=>(fb p.2).bind fun q=>(res q.2 p.1).bind fun x=>(res q.2 q.1).bind fun y=>(g x y).bind fun z=>some (z,q.2):=rfl
@[simp] theorem Sb(δ:Dn):iV [] δ=some ([],δ):=rfl
@[simp] theorem TF(f:FO)(fs:List FO)(δ:Dn):iV (f::fs) δ=(f δ).bind fun p=>(iV fs p.2).bind fun q=>some (p.1::q.1,q.2):=rfl
@[simp] theorem MC(δ:Dn):pV δ []=some []:=rfl
@[simp] theorem Pn(δ:Dn)(o:Opd)(os:List Opd):pV δ (o::os)=(res δ o).bind fun d=>(pV δ os).bind fun l=>some (d::l):=rfl
@[simp] theorem TC(g:List D->Option (D×Bool))(fs:List FO)(δ:Dn):gn g fs δ=(iV fs δ).bind fun p=>(pV p.2 p.1).bind fun ds=>(g ds).bind fun z=>some (z,p.2):=rfl
@[simp] theorem Th:nM []=some []:=rfl
@[simp] theorem T5(r:D×Bool)(os:List Opd):nM (.val r::os)=(nM os).map (r.1:: ·):=rfl
@[simp] theorem Pp(fs:List F)(δ:Dn):oD fs δ=(iV (fs.map fP) δ).bind fun p=>(nM p.1).bind fun ds=>if ds.length<=sizeLine then some ((.tup ds,false),p.2) else none:=rfl
@[simp] theorem UA(fs:List F)(δ:Dn):my fs δ=(iV (fs.map fP) δ).bind fun p=>(nM p.1).bind fun ds=>if ds.length<=sizeLine then some ((.lst ds,true),p.2) else none:=rfl
@[simp] theorem U8(b o:Bool)(δ:Dn):asB ((.bl b,o),δ)=some (b,δ):=rfl
@[simp] theorem Vd(f:F)(δ:Dn):fT f δ=(f δ).bind asB:=rfl
@[simp] theorem TH(f g:FT)(δ:Dn):S8 f g δ=(f δ).bind fun p=>if p.1=true then g p.2 else some (false,p.2):=rfl
@[simp] theorem Ux(f g:FT)(δ:Dn):oE f g δ=(f δ).bind fun p=>if p.1=true then some (true,p.2) else g p.2:=rfl
@[simp] theorem Tz(f:FT)(δ:Dn):kW f δ=(f δ).bind fun p=>some (!p.1,p.2):=rfl
@[simp] theorem Kh(f g:F)(δ:Dn):ui f g δ=(f δ).bind fun p=>(asB p).bind fun q=>if q.1=true then g q.2 else some ((.bl false,false),q.2):=rfl
@[simp] theorem U6(f g:F)(δ:Dn):fOr f g δ=(f δ).bind fun p=>(asB p).bind fun q=>if q.1=true then some ((.bl true,false),q.2) else g q.2:=rfl
@[simp] theorem Uz(f:F)(δ:Dn):NO f δ=(f δ).bind fun p=>(asB p).bind fun q=>some ((.bl (!q.1),false),q.2):=rfl
@[simp] theorem Of(t:FT)(f g:F)(δ:Dn):fIf t f g δ=(t δ).bind fun p=>if p.1=true then f p.2 else g p.2:=rfl
@[simp] theorem Ub(δ:Dn):gm δ=some (.nx δ):=rfl
def nxt(g:FS):Out->Option Out
 | .nx δ1=>g δ1
 |o=>some o
@[simp] theorem Uq(g:FS)(δ:Dn):nxt g (.nx δ)=g δ:=rfl
@[simp] theorem Uo(g:FS)(r:D×Bool)(δ:Dn):nxt g (.rt r δ)=some (.rt r δ):=rfl
@[simp] theorem T9(f g:FS)(δ:Dn):fY f g δ=(f δ).bind (nxt g):=by
 unfold fY
 cases f δ with
 |none=>rfl
 |some o=>cases o<;>rfl
@[simp] theorem Ti(f:F)(δ:Dn):pD f δ=(f δ).bind fun p=>some (.nx p.2):=rfl
@[simp] theorem Ua(f:F)(δ:Dn):hW f δ=(f δ).bind fun p=>some (.rt p.1 p.2):=rfl
@[simp] theorem U0(t:FT)(f g:FS)(δ:Dn):sIf t f g δ=(t δ).bind fun p=>if p.1=true then f p.2 else g p.2:=rfl
@[simp] theorem T8(i:Nat)(f:F)(δ:Dn):js i f δ=(f δ).bind fun p=>if i<p.2.length then some (.nx (p.2.set i (some p.1))) else none:=rfl
@[simp] theorem Pm(tg:Tg)(f:F)(δ:Dn):Bp tg f δ=(f δ).bind fun p=>(tg p.1.1 p.2).bind fun δ1=>some (.nx δ1):=rfl
@[simp] theorem Vc(g:D->Option (D×Bool))(d:D):g1 g [d]=g d:=rfl
@[simp] theorem Vb(g:D->D->Option (D×Bool))(d e:D):g2 g [d,e]=g d e:=rfl
@[simp] theorem Se(i j:Int):oU (.int i) (.int j)=some (.int (i+j),false):=rfl
@[simp] theorem Ke(i j:Int):PX.gSub (.int i) (.int j)=some (.int (i-j),false):=rfl
@[simp] theorem Oe(i:Int):oA (.int i)=some (.int (-i),false):=rfl
@[simp] theorem Sf(i:Int):sh (.int i)=some (.int (if i<0 then -i else i),false):=rfl
@[simp] theorem Kg(l:List D):lV (.tup l)=some (.int l.length,false):=rfl
@[simp] theorem Uu(l:List D):lV (.lst l)=some (.int l.length,false):=rfl
@[simp] theorem T7(l:List D):kT (.lst l)=some (.tup l,false):=rfl
@[simp] theorem T6(l:List D):kT (.tup l)=some (.tup l,false):=rfl
@[simp] theorem Us(l:List D):yw (.tup l)=some (.lst l,true):=rfl
@[simp] theorem Ut(l:List D):yw (.lst l)=some (.lst l,true):=rfl
@[simp] theorem Uw(b:Bool):NM (.bl b)=some (.int (if b then 1 else 0),false):=rfl
@[simp] theorem Uv(b:Int):NM (.int b)=some (.int b,false):=rfl
@[simp] theorem U4(i j:Int):LB (.int i) (.int j)=some (.int (if j>i then j else i),false):=rfl
@[simp] theorem U3(i j:Int):LA (.int i) (.int j)=some (.int (if j<i then j else i),false):=rfl
@[simp] theorem U5(ts:List Ty)(d:D):wt ts d=some (.bl (ts.any (isT d)),false):=rfl
@[simp] theorem Og(i j:Int):gEq (.int i) (.int j)=some (.bl (i==j),false):=by unfold gEq;rw[gd (by simp[D.dep])];simp[D.eqb]
@[simp] theorem U1(i j:Int):gNe (.int i) (.int j)=some (.bl (!(i==j)),false):=by unfold gNe;rw[gd (by simp[D.dep])];simp[D.eqb]
@[simp] theorem U7(i j:Bool):gEq (.bl i) (.bl j)=some (.bl (i==j),false):=by unfold gEq;rw[gd (by simp[D.dep])];simp[D.eqb]
@[simp] theorem U2(i j:Bool):gNe (.bl i) (.bl j)=some (.bl (!(i==j)),false):=by unfold gNe;rw[gd (by simp[D.dep])];simp[D.eqb]
@[simp] theorem Ur(i j:Int):lb .Lt (.int i) (.int j)=some (.bl (decide (i<j)),false):=by simp[lb,lg,iX,D.dep]
@[simp] theorem U9(i j:Int):lb .LtE (.int i) (.int j)=some (.bl (decide (i<=j)),false):=by simp[lb,lg,iX,D.dep]
@[simp] theorem Sa(i j:Int):lb .Gt (.int i) (.int j)=some (.bl (decide (i>j)),false):=by simp[lb,lg,iX,D.dep]
@[simp] theorem Va(i j:Int):lb .GtE (.int i) (.int j)=some (.bl (decide (i>=j)),false):=by simp[lb,lg,iX,D.dep]
@[simp] theorem wJ(f:F)(δ:Dn):hZ f δ=(f δ).bind fun p=>match p.1.1 with| .lst l=>some (l,p.2)| .tup l=>some (l,p.2)|_=>none:=rfl
@[simp] theorem Uc(fi:FIt)(tg:Tg)(fb:FS)(δ:Dn):tx fi tg fb δ=(fi δ).bind fun p=>ue tg fb p.1 p.2:=rfl
@[simp] theorem tE(δ:Dn):gW δ=some (true,δ):=rfl
@[simp] theorem tH(f:F)(acc:List D)(δ:Dn):gQ f acc δ=(f δ).bind fun p=>if acc.length<sizeLine then some (acc++[p.1.1],p.2) else none:=rfl
theorem Be(h:n<=10000):n<=sizeLine:=by rw[jA];omega
theorem wD(h:n<=10000):n<sizeLine:=by rw[jA];omega
abbrev enc(t:gc):D×Bool:=(.tup (t.map .int),false)
abbrev stt(a:Int)(b:Bool):Sl:=some (.lst [.int a,.bl b],true)
abbrev lsi(l:gc):Sl:=some (.lst (l.map .int),true)
@[simp] theorem Tw(ev:EvF)(fs:List FO)(δ:Dn):fV ev fs δ=(iV fs δ).bind fun p=>(iR p.2 p.1).bind fun args=>if(gv p.1 args).Nodup then(ev args).bind fun q=>some (q.1,wb p.1 args q.2 p.2) else none:=rfl
@[simp] theorem Hn(δ:Dn):iR δ []=some []:=rfl
@[simp] theorem Sd(δ:Dn)(o:Opd)(os:List Opd):iR δ (o::os)=(wd δ o).bind fun a=>(iR δ os).bind fun l=>some (a::l):=rfl
@[simp] theorem UC(δ:Dn)(r:D×Bool):wd δ (.val r)=some (r.1,false):=rfl
@[simp] theorem UD(δ:Dn)(i:Nat):wd δ (.slot i)=(δ[i]?).join:=rfl
theorem qz(a:Int)(b:Bool)(m:Int)(hm:0<m)(bo:m<1073741824):
  ∃v a',0<=v/\v<m/\gz [(.lst [.int a,.bl b],true),(.int m,false)]=some ((.int v,false),[some (.lst [.int a',.bl b],true),some (.int m,false)]):=by
 cases b
 ·have h1: ∀x:Int, -18446744073709551616<x%2147483647/\x%2147483647<18446744073709551616:=fun x=>by omega
  have h2: ∀x:Int, -18446744073709551616<x%2147483629/\x%2147483629<18446744073709551616:=fun x=>by omega
  simp only[gz,nJ];simp[evF,gIx,atI,ixN,zo,gI,LD,mT,HW,oM,ny,gC,gv,wb,Iu,ux,CMul,hm,bo,h1,h2];exact⟨Int.emod_nonneg _ (by omega),Int.emod_lt_of_pos _ hm⟩
 ·simp only[gz,nJ];simp[evF,gIx,atI,ixN,zo,gI,LD,mT,HW,oM,ny,gC,gv,wb,Iu,ux,CMul,hm,bo];exact⟨Int.emod_nonneg _ (by omega),Int.emod_lt_of_pos _ hm⟩
theorem wV(x y:Int):(x==y)=decide (x=y):=rfl
theorem mV{g:List D->Option (D×Bool)}{fs:List FO}{δ δ':Dn}{os:List Opd}{ds:List D}{z:D×Bool}(h1:iV fs δ=some (os,δ'))(h2:pV δ' os=some ds)(h3:g ds=some z):gn g fs δ=some (z,δ'):=by
 unfold gn;rw[h1];simp only[iD];rw[h2];simp only[iD];rw[h3];rfl
theorem jh(h1:args.length=np/\np<=n/\(args.zipIdx.all fun p=>!(p.1.2&&asg.contains p.2))=true)(h2:f (args.map some++List.replicate (n-np) none)=some (.rt r δ)):evF n np asg f args=some (r,gC args δ):=by
 unfold evF;rw[gd h1,h2]
theorem gh(h:f δ=some (.nx δ1)):fY f g δ=g δ1:=by unfold fY;rw[h];rfl
theorem iz{r}(h:f δ=some (.rt r δ1)):fY f g δ=some (.rt r δ1):=by unfold fY;rw[h];rfl
theorem iQ{r}(h:f δ=some (r,δ1)):hW f δ=some (.rt r δ1):=by unfold hW;rw[h];rfl
theorem jj{r}(h:f δ=some (r,δ1))(hi:i<δ1.length):js i f δ=some (.nx (δ1.set i (some r))):=by unfold js;rw[h];simp only[iD];rw[gd hi]
theorem lQ(h:f δ=some ((.bl b,o),δ1)):fT f δ=some (b,δ1):=by unfold fT;rw[h];rfl
theorem gJ{r}(h:f δ=some (r,δ1)):fP f δ=some (.val r,δ1):=by unfold fP;rw[h];rfl
theorem jH(h1:fa δ=some (o1,δ1))(h2:fb δ1=some (o2,δ2))(h3:res δ2 o1=some x)(h4:res δ2 o2=some y)(h5:g x y=some z):fZ g fa fb δ=some (z,δ2):=by
 unfold fZ;rw[h1];simp only[iD];rw[h2];simp only[iD];rw[h3,h4];simp only[iD];rw[h5];rfl
theorem ie{ev:EvF}{fs:List FO}{δ δ1:Dn}{os:List Opd}{args:List (D×Bool)}{r:D×Bool}{outs:Dn}(h1:iV fs δ=some (os,δ1))(h2:iR δ1 os=some args)(h3:(gv os args).Nodup)(h4:ev args=some (r,outs)):fV ev fs δ=some (r,wb os args outs δ1):=by
 unfold fV;rw[h1];simp only[iD];rw[h2];simp only[iD];rw[gd h3,h4];rfl
theorem su(h:f δ=some (false,δ1)):oE f g δ=g δ1:=by unfold oE;rw[h];rfl
theorem ug(h:f δ=some (b,δ1)):kW f δ=some (!b,δ1):=by unfold kW;rw[h];rfl
theorem tw(h:t δ=some (false,δ1)):sIf t f g δ=g δ1:=by unfold sIf;rw[h];rfl
theorem J3(h:t δ=some (true,δ1)):sIf t f g δ=f δ1:=by unfold sIf;rw[h];rfl
theorem sv{fa fb:FO}{δ δ1 δ2:Dn}{o1 o2:Opd}(h1:fa δ=some (o1,δ1))(h2:fb δ1=some (o2,δ2)):iV [fa,fb] δ=some ([o1,o2],δ2):=by
 simp only[iV];rw[h1];simp only[iD];rw[h2];rfl
theorem qg{fa:FO}{δ δ1:Dn}{o1:Opd}(h1:fa δ=some (o1,δ1)):iV [fa] δ=some ([o1],δ1):=by
 simp only[iV];rw[h1];rfl
theorem nA(h:fi δ=some (ds,δ1)):tx fi tg fb δ=ue tg fb ds δ1:=by unfold tx;rw[h];rfl
theorem NP{fs:List F}{δ δ1:Dn}{os:List Opd}{ds:List D}(h1:iV (fs.map fP) δ=some (os,δ1))(h2:nM os=some ds)(h3:ds.length<=sizeLine):my fs δ=some ((.lst ds,true),δ1):=by
 unfold my;rw[h1];simp only[iD];rw[h2];simp only[iD];rw[gd h3]
theorem NR(ns:gc)(k:Nat): ∃c,jU [(.lst (ns.map .int),false),(.int k,false)]=some ((.int c,false),[some (.lst (ns.map .int),false),some (.int k,false)]):=by
 by_cases hk:k<ns.length
 ·refine⟨ns[k],?_⟩;simp[jU,kU,evF,gIx,atI,ixN,gC,hk]
 ·refine⟨0,?_⟩;simp[jU,kU,evF,gC,hk]
theorem Oj:HW (.int 10) (.int 18)=some (.int 1000000000000000000,false):=by
 have:ux 10 18:=by unfold ux;decide+kernel
 show((if ux 10 18 then some (D.int (10^(18:Int).toNat)) else none).map fun z=>(z,false))=_;rw[gd this];rfl
theorem JM(ns:gc)(k:Nat): ∃a b,ke [(.lst (ns.map .int),false),(.int k,false)]=some ((.lst [.int a,.bl b],true),[some (.lst (ns.map .int),false),some (.int k,false)]):=by
 obtain⟨c,hc⟩:=NR ns k;by_cases h:c>=1000000000000000000
 ·refine⟨c-1000000000000000000,true,?_⟩;simp[ke,mw,evF,hc,gv,wb,Oj,h,jA,gC]
 ·refine⟨c%2147483647,false,?_⟩;simp[ke,mw,evF,hc,gv,wb,Oj,h,jA,gC,zo,gI]
def st(n:Nat):List Int:=(List.range n).map fun(k:Nat)=>(1+(k:Int))
theorem JO(n:Nat):(st n).map D.int=gB 1 n:=by simp[st,gB]
def rq:Nat->List Int->List Int->List (List Int)
 |0,_,f=>[f]
 |k+1,r,f=>(List.range r.length).flatMap fun v=>rq k (r.eraseIdx v) (f++[r.getD v 0*1])++rq k (r.eraseIdx v) (f++[r.getD v 0* -1])
theorem Al(f:Int->D): ∀(l:gc) (k:Nat),(l.map f).eraseIdx k=(l.eraseIdx k).map f
 |[],k=>by simp
 |x::l,0=>by simp
 |x::l,k+1=>by simp[Al f l k]
theorem H9{i:Nat}{f:FO}{δ δ1:Dn}{o:Opd}{l0 l:List D}{k:Int}{j:Nat}{d:D}(h0:δ[i]?=some (some (.lst l0,true)))(h1:f δ=some (o,δ1))(h2:res δ1 o=some (.int k))(h3:δ1[i]?=some (some (.lst l,true)))(h4: -(2^63)<=k/\k<2^63)(h5:ixN l.length k=some j)(h6:l[j]?=some d):
  sm i f δ=some ((d,false),δ1.set i (some (.lst (l.eraseIdx j),true))):=by
 unfold sm;rw[h0];simp only[];rw[h1];simp only[iD];rw[h2,h3];simp only[];rw[gd h4,h5];simp only[iD];rw[h6];rfl
theorem yF{i:Nat}{f:F}{δ δ1:Dn}{r:D×Bool}{l0 l:List D}(h0:δ[i]?=some (some (.lst l0,true)))(h1:f δ=some (r,δ1))(h3:δ1[i]?=some (some (.lst l,true)))(h4:l.length<sizeLine):
  lI i f δ=some ((.non,false),δ1.set i (some (.lst (l++[r.1]),true))):=by
 unfold lI;rw[h0];simp only[];rw[h1];simp only[iD];rw[h3];simp only[];rw[gd h4]
theorem tD{r}(h:f δ=some (r,δ1)):pD f δ=some (.nx δ1):=by unfold pD;rw[h];rfl
abbrev fPop:F:=(sm 2 (fP (fV gz [(fO 0),(fP (gn (g1 lV) [(fO 2)]))])))
abbrev S7:F:=(fZ gIx (fP (my [(fC (.int 1)),(kh oA (fP (fC (.int 1))))])) (fP (fV gz [(fO 0),(fP (fC (.int 2)))])))
abbrev fbT:FS:=(fY (pD (lI 3 (fZ mT (fP fPop) (fP S7)))) gm)
theorem Qa(a:Int)(b:Bool)(n:Sl)(r f:gc)(x:Sl)(h0:0<r.length)(h5:r.length<=5): ∃v a',v<r.length/\fPop [stt a b,n,lsi r,lsi f,x]=some ((.int (r.getD v 0),false),[stt a' b,n,lsi (r.eraseIdx v),lsi f,x]):=by
 obtain⟨v,a',hv0,hv,e⟩:=qz a b r.length (by omega) (by omega);have hn:v.toNat<r.length:=by omega
 refine⟨v.toNat,a',hn,?_⟩;have e1:(lsi (r.eraseIdx v.toNat):Sl)=some (.lst ((r.map D.int).eraseIdx v.toNat),true):=by rw[Al]
 rw[e1];refine H9 (k:=v) (δ1:=[stt a' b,n,lsi r,lsi f,x]) rfl (gJ (r:=(.int v,false)) (ie (δ1:=[stt a b,n,lsi r,lsi f,x]) (os:=[.slot 0,.val (.int r.length,false)]) (args:=[(.lst [.int a,.bl b],true),(.int r.length,false)]) ?_ rfl (show([0]:List Nat).Nodup from by decide) e)) rfl rfl ⟨by omega,by omega⟩ (j:=v.toNat) ?_ ?_
 ·show some ([Opd.slot 0,Opd.val (D.int ((r.map D.int).length:Nat),false)],_)=_;rw[iG]
 ·unfold ixN;rw[gd hv0,gd (by simpa using hv)]
 ·simp[hn]
theorem Pa(a:Int)(b:Bool)(n y z x:Sl): ∃s a',(s=1\/s= -1)/\S7 [stt a b,n,y,z,x]=some ((.int s,false),[stt a' b,n,y,z,x]):=by
 obtain⟨v,a',hv0,hv,e⟩:=qz a b 2 (by omega) (by omega);have hl: ∀δ:Dn,my [(fC (.int 1)),(kh oA (fP (fC (.int 1))))] δ=some ((.lst [.int 1,.int (-1)],true),δ):=fun δ=>rfl;refine⟨if v=0 then 1 else -1,a',by split<;>simp,?_⟩;refine jH (δ1:=[stt a b,n,y,z,x]) (gJ (hl _)) (gJ (δ1:=[stt a' b,n,y,z,x]) (ie (δ1:=[stt a b,n,y,z,x]) (os:=[.slot 0,.val (.int 2,false)]) (args:=[(.lst [.int a,.bl b],true),(.int 2,false)]) rfl rfl (show([0]:List Nat).Nodup from by decide) e)) rfl rfl ?_;rcases(show v=0\/v=1 by omega) with rfl|rfl<;>rfl
theorem Rg(a:Int)(b:Bool)(n:Sl)(r f:gc)(x:Sl)(h0:0<r.length)(h5:r.length<=5)(hf:f.length<=5): ∃v s a',v<r.length/\(s=1\/s= -1)/\fbT [stt a b,n,lsi r,lsi f,x]=some (.nx [stt a' b,n,lsi (r.eraseIdx v),lsi (f++[r.getD v 0*s]),x]):=by
 obtain⟨v,a1,hv,e1⟩:=Qa a b n r f x h0 h5;obtain⟨s,a2,hs,e2⟩:=Pa a1 b n (lsi (r.eraseIdx v)) (lsi f) x;refine⟨v,s,a2,hv,hs,?_⟩
 have hm:mT (.int (r.getD v 0)) (.int s)=some (.int (r.getD v 0*s),false):=by
  have:CMul (r.getD v 0) s:= .inr (by omega);show((if CMul (r.getD v 0) s then some (D.int (r.getD v 0*s)) else none).map fun z=>(z,false))=_;rw[gd this];rfl
 have hl:(f.map D.int).length<sizeLine:=by rw[iG];exact Nat.lt_of_le_of_lt hf (by decide)
 have e3:=yF (i:=3) (δ:=[stt a b,n,lsi r,lsi f,x]) (l0:=f.map .int) rfl (jH (gJ e1) (gJ e2) rfl rfl hm) (l:=f.map .int) rfl hl;refine(gh (tD e3)).trans ?_;simp[gm,lsi]
theorem OC(b:Bool)(n:Sl): ∀(ds:List D) (a:Int) (r f:gc) (x:Sl),ds.length=r.length->f.length+r.length<=5->
  ∃a' t r' x',t∈rq ds.length r f/\ue (fX 4) fbT ds [stt a b,n,lsi r,lsi f,x]=some (.nx [stt a' b,n,lsi r',lsi t,x'])
 |[],a,r,f,x,_,_=>⟨a,f,r,x,by simp[rq],rfl⟩
 |d::ds,a,r,f,x,h,hl=>by
  simp only[km] at h;obtain⟨v,s,a1,hv,hs,e⟩:=Rg a b n r f (some (d,false)) (by omega) (by omega) (by omega);obtain⟨a',t,r',x',ht,e'⟩:=OC b n ds a1 (r.eraseIdx v) (f++[r.getD v 0*s]) (some (d,false)) (by rw[DO,gd hv];omega) (by rw[DO,gd hv,pq];simp only[km,List.length_nil];omega);refine⟨a',t,r',x',?_,?_⟩
  ·simp only[km,rq,List.mem_flatMap,nU,DL];refine⟨v,hv,?_⟩;rcases hs with rfl|rfl
   ·exact .inl ht
   ·exact .inr ht
  ·unfold ue;rw[show fX 4 d [stt a b,n,lsi r,lsi f,x]=some [stt a b,n,lsi r,lsi f,some (d,false)] from rfl];simp only[iD];rw[e];simp only[iD];exact e'
theorem Ph(n:Nat)(hn:n<=5):gRg .lst true [.int 1,.int ((n:Int)+1)]=some (.lst ((st n).map .int),true):=by
 have:n=0\/n=1\/n=2\/n=3\/n=4\/n=5:=by omega
 have h1:RgOk 1 ((n:Int)+1):=by rcases this with rfl|rfl|rfl|rfl|rfl|rfl<;>decide+kernel
 have h2:((n:Int)+1-1).toNat=n:=by omega
 show(if RgOk 1 ((n:Int)+1) then some (D.lst (gB 1 ((n:Int)+1-1).toNat),true) else none)=_;rw[gd h1,h2,<-JO]
theorem oS{f:FO}{δ δ1:Dn}{o:Opd}{n:Nat}(h1:f δ=some (o,δ1))(h2:res δ1 o=some (.int n))(hn:n<=63):pK f δ=some (gB 0 n,δ1):=by
 have hb:(-(2^62)<=(n:Int)/\(n:Int)<2^62):=⟨by omega,by omega⟩
 have h3:iV [f] δ=some ([o],δ1):=by simp[iV,h1]
 have h4:pV δ1 [o]=some [.int n]:=by simp[pV,h2]
 unfold pK;rw[h3];simp only[iD];rw[h4];simp only[];rw[gd hb];rfl
theorem xG(a:Int)(b:Bool)(n:Nat)(hn:n<=5): ∃a' t,t∈rq n (st n) []/\jc [(.lst [.int a,.bl b],true),(.int n,false)]=some (enc t,[stt a' b,some (.int n,false)]):=by
 have hlen:(gB 0 n).length=n:=by simp[gB]
 have u3:(st n).length=n:=by simp[st]
 obtain⟨a',t,r',x',ht,e⟩:=OC b (some (.int n,false)) (gB 0 n) a (st n) [] none (by rw[hlen,u3]) (by rw[u3];simpa using hn);rw[hlen] at ht;refine⟨a',t,ht,?_⟩;refine jh (δ:=[stt a' b,some (.int n,false),lsi r',lsi t,x']) ⟨rfl,by decide,rfl⟩ ?_;refine(gh (δ1:=[stt a b,some (.int n,false),lsi (st n),none,none]) (jj (i:=2) (δ1:=[stt a b,some (.int n,false),none,none,none]) (mV (os:=[.val (.int 1,false),.val (.int ((n:Int)+1),false)]) rfl rfl (Ph n hn)) (show 2<5 by decide))).trans ?_;refine(gh (δ1:=[stt a b,some (.int n,false),lsi (st n),lsi [],none]) rfl).trans ?_;refine(gh ((nA (oS (o:= .slot 1) rfl rfl (by omega))).trans e)).trans ?_;exact iz (iQ (mV (os:=[.slot 3]) rfl rfl rfl))
theorem yJ: ∀t:List Int,D.depL (t.map .int)=0
 |[]=>by simp[D.depL]
 |s::t=>by simp[D.depL,D.dep,yJ t]
theorem yH: ∀a b:List Int,D.eqbL (a.map .int) (b.map .int)=decide (a=b)
 |[],[]=>by simp[D.eqbL]
 |[],_::_=>by simp[D.eqbL]
 |_::_,[]=>by simp[D.eqbL]
 |x::a,y::b=>by simp[D.eqbL,D.eqb,yH a b,Bool.decide_and,wV]
@[simp] theorem HX(a b:gc):gEq (.lst (a.map .int)) (.lst (b.map .int))=some (.bl (decide (a=b)),false):=by unfold gEq;rw[gd (by simp[D.dep,yJ])];simp[D.eqb,yH]
theorem BD: ∀(l m:gc),l.Nodup->(∀x∈l,x∈m)->m.length<=l.length->l.Perm m
 |[],m,_,_,h=>by
  have:m=[]:=Mo.mp (by simpa using h);subst this;exact uD _
 |x::l,m,nd,hs,h=>by
  rw[Cf] at nd;have hx:=hs x iO;have hp:=IG hx;refine((BD l (m.erase x) nd.2 (fun y hy=>?_) ?_).cons x).trans hp.symm
  ·have ej:=hs y (iT _ hy);have j9:y≠x:=fun e=>nd.1 (e▸hy);exact(IF j9).mpr ej
  ·have:=hp.length_eq;simp only[km] at this h;omega
theorem JN:x∈st n↔1<=x/\x<=n:=by
 simp only[st,lS,DL];constructor
 ·rintro⟨k,h,rfl⟩;omega
 ·rintro⟨h1,h2⟩;exact⟨(x-1).toNat,by omega,by omega⟩
theorem R7(n:Nat):(st n).Pairwise (· < ·):=by
 simp only[st];rw[mY];exact Iv.imp fun h=>by omega
theorem N9(n:Nat):(st n).Nodup:=(R7 n).imp fun h=>by omega
theorem HB{n:Nat}{l:gc}:l.Perm (st n)↔l.length=n/\(∀x∈l,1<=x/\x<=n)/\l.Nodup:=by
 constructor
 ·intro h;refine⟨by rw[h.length_eq];simp[st],fun x hx=>JN.mp (h.mem_iff.mp hx),h.symm.nodup (N9 n)⟩
 ·rintro⟨h1,h2,h3⟩;exact BD l (st n) h3 (fun x hx=>JN.mpr (h2 x hx)) (by simp[st,h1])
theorem BJ{l:gc}{m:List D}(h:m.Perm (l.map D.int)): ∃k:List Int,m=k.map .int:=by
 refine⟨m.map fun d=>match d with|D.int i=>i|_=>0,?_⟩;rw[iC]
 symm
 rw[ma (g:=id),qZ];intro d hd;obtain⟨i,_,rfl⟩:=lS.mp (h.mem_iff.mp hd);rfl
theorem zP: ∀l:List Int,(∀k,(lN (l.reverse.map .int)).1 k=decide (k∈l.reverse))/\(lN (l.reverse.map .int)).2<=l.length/\((lN (l.reverse.map .int)).2=l.length↔l.Nodup)
 |[]=>⟨fun k=>by simp[lN],by simp[lN],by simp[lN]⟩
 |x::l=>by
  obtain⟨h1,h2,h3⟩:=zP l;rw[List.reverse_cons,vG,il,vN,zQ];refine⟨fun k=>?_,?_,?_⟩
  ·dsimp only;rw[h1 k];by_cases a:k∈l.reverse<;>by_cases b:k=x<;>simp_all
  ·dsimp only;rw[km];split<;>omega
  ·dsimp only;rw[h1 x,Cf];by_cases a:x∈l
   ·simp only[List.mem_reverse,a,uy,gM,not_true_eq_false,false_and,iff_false,km];omega
   ·simp only[List.mem_reverse,a,decide_false,hC,iE,not_false_eq_true,true_and,km];rw[<-h3];omega
theorem Mx(l:gc):(lN (l.map .int)).2=l.length↔l.Nodup:=by
 have:=(zP l.reverse).2.2;rw[List.reverse_reverse,List.length_reverse,List.reverse_perm l |>.nodup_iff] at this;exact this
theorem A8(pre:Dn)(x:Sl)(d:D):fX pre.length d (pre++[x])=some (pre++[some (d,false)]):=by
 unfold fX;rw[gd (by simp)];simp[List.set_append]
theorem FC(f:F)(g:D->D)(pre:Dn): ∀(l acc:List D) (x:Sl),(∀d∈l,∃o,f (pre++[some (d,false)])=some ((g d,o),pre++[some (d,false)]))->acc.length+l.length<=sizeLine->
  ∃x',iP (fX pre.length) gW (gQ f) l acc (pre++[x])=some (acc++l.map g,pre++[x'])
 |[],acc,x,_,_=>⟨x,by simp[iP]⟩
 |d::l,acc,x,h,hl=>by
  obtain⟨o,hd⟩:=h d iO;obtain⟨x',e⟩:=FC f g pre l (acc++[g d]) (some (d,false)) (fun d' h'=>h d' (iT _ h')) (by simp at hl ⊢;omega);refine⟨x',?_⟩;have hs:acc.length<sizeLine:=by simp at hl;omega
  rw[iP,A8];simp only[iD,tE,gM,tH];rw[hd];simp only[iD];rw[gd hs];simp only[iD];rw[e];simp
theorem L7(f:F)(g:D->Int)(pre:Dn): ∀(l acc:List D) (x:Sl),(∀d∈l,∃o,f (pre++[some (d,false)])=some ((.int (g d),o),pre++[some (d,false)]))->acc.length+l.length<=1000->
  ∃x',iP (fX pre.length) gW (yS f) l acc (pre++[x])=some (acc++l.map fun d=> .int (g d),pre++[x'])
 |[],acc,x,_,_=>⟨x,by simp[iP]⟩
 |d::l,acc,x,h,hl=>by
  obtain⟨o,hd⟩:=h d iO;obtain⟨x',e⟩:=L7 f g pre l (acc++[.int (g d)]) (some (d,false)) (fun d' h'=>h d' (iT _ h')) (by simp at hl ⊢;omega);refine⟨x',?_⟩;have hb:scanBound=4096:=rfl;have hs:acc.length+1<scanBound:=by simp at hl;omega
  rw[iP,A8];simp only[iD,tE,gM,yS];rw[hd];simp only[iD];rw[gd hs];simp only[iD];rw[e];simp
theorem vz(p:D->Bool): ∀l:List D,qU (l.map fun d=> .bl (p d))=some (l.map p)
 |[]=>rfl
 |d::l=>by simp[qU,vz p l]
theorem uv(p:D->Bool)(l:List D):yy (.lst (l.map fun d=> .bl (p d)))=some (.bl (l.all p),false):=by
 simp[yy,vz,List.all_map,vM]
theorem G5(p:D->Bool)(l:List D):HY (.lst (l.map fun d=> .bl (p d)))=some (.bl (l.any p),false):=by
 simp[HY,vz,List.any_map,vM]
def ab(s:Int):Int:=if s<0 then -s else s
def wh:D->Bool
 | .int _=>true
 |_=>false
def sg(n:Int):D->Bool
 | .int s=>decide (1<=ab s)&&decide (ab s<=n)
 |_=>false
def iOf:D->Int
 | .int s=>s
 |_=>0
theorem sQ(d:D):lR [(d,false)]=some ((.bl (wh d),false),[some (d,false)]):=by
 cases d<;>simp[lR,qd,evF,gC,wh,isT]
theorem vg(d:D)(lo hi:Int):jm [(d,false),(.int lo,false),(.int hi,false)]=some ((.bl (match d with| .int s=>decide (lo<=s)&&decide (s<=hi)|_=>false),false),[some (d,false),some (.int lo,false),some (.int hi,false)]):=by
 cases d with
 |int s=>by_cases h:lo<=s<;>simp[jm,mx,evF,gC,sQ,wh,gv,wb,mU,iX,h]
 |_=>simp[jm,mx,evF,gC,sQ,wh,gv,wb]
theorem Gx(d:D)(n:Int):oZ [(.int n,false),(d,false)]=some ((.bl (match d with| .int s=>decide (1<=s)&&decide (s<=n)|_=>false),false),[some (.int n,false),some (d,false)]):=by
 simp[oZ,sj,evF,gC,vg,gv,wb]
theorem F8(n:Int)(d:D):jW [(.int n,false),(d,false)]=some ((.bl (sg n d),false),[some (.int n,false),some (d,false)]):=by
 cases d with
 |int s=>
  simp[jW,oV,evF,gC,sQ,Gx,wh,gv,wb,sg,ab];rfl
 |_=>simp[jW,oV,evF,gC,sQ,Gx,wh,gv,wb,sg,ab]
theorem EB(h:sg n d=true):d= .int (iOf d):=by cases d<;>simp_all [sg,iOf]
theorem OP(h:wh d=true):d= .int (iOf d):=by cases d<;>simp_all [wh,iOf]
def tB(n:Nat):D->Bool
 | .tup l=>decide (l.length=n)&&(l.all (sg n)&&decide ((l.map fun d=>ab (iOf d)).Nodup))
 |_=>false
def lB(n:Nat):D->Bool
 | .tup l=>l.all wh&&decide ((l.map fun d=>ab (iOf d)).Perm (st n))
 |_=>false
theorem R0(n:Nat)(d:D):tB n d=lB n d:=by
 cases d with
 |tup l=>
  rw[tB,lB,Az];simp only[mK,xh,kZ,HB,iG,lS];constructor
  ·rintro⟨h1,h2,h3⟩;refine⟨fun d hd=>?_,h1,?_,h3⟩
   ·rw[EB (h2 d hd)];rfl
   ·rintro x ⟨d,hd,rfl⟩;have:=h2 d hd;rw[EB this] at this;simpa[sg] using this
  ·rintro⟨h1,h2,h3,h4⟩;refine⟨h2,fun d hd=>?_,h4⟩;have:=h3 _ ⟨d,hd,rfl⟩;rw[OP (h1 d hd)];simpa[sg] using this
 |_=>rfl
theorem xF(n:Nat)(d:D)(hd: ∀l,d= .tup l->l.length<=60):ig [(.int n,false),(d,false)]=some ((.bl (tB n d),false),[some (.int n,false),some (d,false)]):=by
 cases d with
 |tup l=>
  have hl:=hd l rfl;by_cases h1:l.length=n
  ·obtain⟨x1,e1⟩:=FC (fV jW [fO 0,fO 1]) (fun d=> .bl (sg n d)) [some (.int n,false)] l [] none (fun d _=>⟨false,by simp[F8,gv,wb]⟩) (by rw[jA];simp;omega);simp only[List.cons_append,vH,km,List.length_nil,rN] at e1;by_cases h2:l.all (sg n)=true
   ·have hi: ∀d∈l,∃o,gn (g1 sh) [fO 0] ([]++[some (d,false)])=some ((.int (ab (iOf d)),o),([]++[some (d,false)]:Dn)):=fun d hd=>⟨false,by
     rw[kZ] at h2;rw[EB (h2 d hd)];rfl⟩
    obtain⟨x2,e2⟩:=L7 (gn (g1 sh) [fO 0]) (fun d=>ab (iOf d)) [] l [] none hi (by simp;omega);simp only[List.cons_append,vH,km,List.length_nil] at e2
    have e3:(lN (l.map fun d=>D.int (ab (iOf d)))).2=l.length↔(l.map fun d=>ab (iOf d)).Nodup:=by
     have:=Mx (l.map fun d=>ab (iOf d));rw[iC,iG] at this;exact this
    have e4:(((lN (l.map fun d=>D.int (ab (iOf d)))).2:Int)==(n:Int))=decide ((l.map fun d=>ab (iOf d)).Nodup):=by
     rw[wV,<-h1];by_cases q:(l.map fun d=>ab (iOf d)).Nodup
     ·rw[rf q,e3.mpr q];simp
     ·rw[lL q];simp only[decide_eq_false_iff_not,Int.natCast_inj];exact fun z=>q (e3.mp z)
    simp[ig,jL,evF,isT,h1,hJ,qQ,iI,e1,e2,uv,h2,gC,gv,wb,tB,e4]
   ·have bC:l.all (sg n)=false:=by simpa using h2
    simp[ig,jL,evF,isT,h1,hJ,qQ,iI,e1,uv,bC,gC,gv,wb,tB]
  ·have: ¬((l.length:Int)=(n:Int)):=by omega
   simp[ig,jL,evF,isT,this,h1,gC,gv,wb,tB]
 |_=>simp[ig,jL,evF,isT,gC,tB]
def OkD(d:D):Prop:= ∀l,d= .tup l->l.length<=60
theorem ixi{t:gc}{v:Int}(h0:0<=v)(h:v<t.length):gIx (.tup (t.map .int)) (.int v)=some (.int (t.getD v.toNat 0),false):=by
 have h1:v.toNat<t.length:=by omega
 simp[gIx,atI,ixN,h0,h,h1]
theorem UN{t:gc}{v:Int}(h0:0<=v)(h:v<t.length):gIx (.lst (t.map .int)) (.int v)=some (.int (t.getD v.toNat 0),false):=by
 have h1:v.toNat<t.length:=by omega
 simp[gIx,atI,ixN,h0,h,h1]
theorem qA(a:Int)(b:Bool)(m:Int)(hm:0<m)(bo:m<1073741824): ∃v a',0<=v/\v<m/\ ∀(fo:FO) (δ:Dn) (o:Opd),fo (stt a b::δ)=some (o,stt a b::δ)->wd (stt a b::δ) o=some (.int m,false)->fV gz [fO 0,fo] (stt a b::δ)=some ((.int v,false),stt a' b::δ):=by
 obtain⟨v,a',h0,h1,e⟩:=qz a b m hm bo;refine⟨v,a',h0,h1,fun fo δ o h2 h3=>?_⟩;refine(ie (os:=[.slot 0,o]) (args:=[(.lst [.int a,.bl b],true),(.int m,false)]) (sv rfl h2) ?_ ?_ e).trans ?_
 ·simp[h3]
 ·cases o<;>simp[gv]
 ·cases o<;>simp[wb]
def led(u:gc)(s:Int):Int:=if 0<s then u.getD (s-1).toNat 0 else -(u.getD (-s-1).toNat 0)
theorem QN(u:gc)(s:Int)(h0:s≠0)(h1: -(u.length:Int)<=s)(h2:s<=u.length):
  gO [enc u,(.int s,false)]=some ((.int (led u s),false),[some (enc u),some (.int s,false)]):=by
 simp only[gO,qb];by_cases h:0<s
 ·have:=ixi (t:=u) (v:=s-1) (by omega) (by omega);simp only[evF];simp[h,led,this,gC]
 ·have:=ixi (t:=u) (v:= -s-1) (by omega) (by omega);simp only[evF];simp[h,led,this,gC]
theorem SM(x:Int):mT (.int x) (.int 1)=some (.int x,false):=by
 have:CMul x 1:= .inr (by omega);show((if CMul x 1 then some (D.int (x*1)) else none).map fun z=>(z,false))=_;rw[gd this,xp];rfl
theorem SJ(x:Int):mT (.int x) (.int (-1))=some (.int (-x),false):=by
 have:CMul x (-1):= .inr (by omega);show((if CMul x (-1) then some (D.int (x*(-1))) else none).map fun z=>(z,false))=_;rw[gd this,Int.mul_neg,xp];rfl
theorem pm0:gIx (.lst [.int 1,.int (-1)]) (.int 0)=some (.int 1,false):=rfl
theorem pm1:gIx (.lst [.int 1,.int (-1)]) (.int 1)=some (.int (-1),false):=rfl
theorem NC(u:gc)(s:Int)(h0:s≠0)(h1: -(u.length:Int)<=s)(h2:s<=u.length):
  gX [enc u,(.int s,false)]=some ((.int (led u s),false),[some (enc u),some (.int s,false)]):=by
 simp only[gX,kg];by_cases h:0<s
 ·have:=ixi (t:=u) (v:=s-1) (by omega) (by omega);have e0: ¬s<0:=by omega
  simp only[evF];simp[h,e0,led,this,gC,jA,pm0,SM]
 ·have:=ixi (t:=u) (v:= -s-1) (by omega) (by omega);have e0:s<0:=by omega
  simp only[evF];simp[h,e0,led,this,gC,jA,pm1,SJ]
theorem JI(a:Int)(b:Bool)(m:Int)(hm:0<m)(bo:m<1073741824): ∃v a',0<=v/\v<m/\ ∀(fo:FO) (c0 c1:Sl) (δ:Dn) (o:Opd),fo (c0::c1::stt a b::δ)=some (o,c0::c1::stt a b::δ)->wd (c0::c1::stt a b::δ) o=some (.int m,false)->fV gz [fO 2,fo] (c0::c1::stt a b::δ)=some ((.int v,false),c0::c1::stt a' b::δ):=by
 obtain⟨v,a',h0,h1,e⟩:=qz a b m hm bo;refine⟨v,a',h0,h1,fun fo c0 c1 δ o h2 h3=>?_⟩;refine(ie (os:=[.slot 2,o]) (args:=[(.lst [.int a,.bl b],true),(.int m,false)]) (sv rfl h2) ?_ ?_ e).trans ?_
 ·simp[h3]
 ·cases o<;>simp[gv]
 ·cases o<;>simp[wb]
theorem HM(h:f δ=some ((.lst l,o),δ1)):hZ f δ=some (l,δ1):=by unfold hZ;rw[h];rfl
def ClOk(n:Nat)(c:gc):Prop:=c≠[]/\(c.map ab).Pairwise (· < ·)/\ ∀s∈c,1<=ab s/\ab s<=n
def CA(j:Int)(c:gc):Prop:=(c.map ab).Pairwise (· < ·)/\ ∀s∈c,1<=ab s/\ab s<j
theorem mX(h:0<=i):ab i=i:=by unfold ab;rw[gk (by omega)]
theorem Cc(h:0<=i):ab (-i)=i:=by unfold ab;split<;>omega
theorem CA.snoc{j s:Int}{c:gc}(h:CA j c)(h1:ab s=j)(h0:1<=j):CA (j+1) (c++[s]):=by
 refine⟨?_,fun x hx=>?_⟩
 ·rw[vG,lT];refine⟨h.1,by simp,fun x hx y hy=>?_⟩;obtain⟨z,hz,rfl⟩:=lS.mp hx;simp at hy;subst hy;have:=h.2 z hz;omega
 ·rcases nU.mp hx with hx|hx
  ·have:=h.2 x hx;omega
  ·simp at hx;subst hx;omega
theorem CA.up(h:CA j c):CA (j+1) c:=⟨h.1,fun x hx=>by have:=h.2 x hx;omega⟩
theorem Fl{i:Nat}{f:F}{δ δ1:Dn}{r:D×Bool}{l0 l:List D}(h0:δ[i]?=some (some (.lst l0,true)))(h1:f δ=some (r,δ1))(h3:δ1[i]?=some (some (.lst l,true)))(h4:l.length<=10000):
  fY (pD (lI i f)) gm δ=some (.nx (δ1.set i (some (.lst (l++[r.1]),true)))):=
 (gh (tD (yF h0 h1 h3 (wD h4)))).trans rfl
theorem GI(h1:f δ=some (o1,δ1))(h2:g δ1=some (o2,δ2))(h3:res δ2 o1=some (.int i))(h4:res δ2 o2=some (.int j))(hi:0<=i/\i<=1000)(hj:0<=j/\j<=1000):De f g δ=some (gB i (j-i).toNat,δ2):=by
 unfold De;rw[sv h1 h2];simp only[iD,Pn,MC,h3,h4];rw[gd ⟨by omega,by omega,by omega,by omega⟩]
theorem BE{α:Type}[BEq α][LawfulBEq α]: ∀(l m:List α),l.Nodup->(∀x∈l,x∈m)->l.length<=m.length
 |[],m,_,_=>mJ _
 |x::l,m,nd,hs=>by
  rw[Cf] at nd;have hx:=hs x iO;have hp:=IG hx
  have:=BE l (m.erase x) nd.2 (fun y hy=>by
   have ej:=hs y (iT _ hy);have j9:y≠x:=fun e=>nd.1 (e▸hy);exact(IF j9).mpr ej)
  have h2:=hp.length_eq;simp only[km] at h2 ⊢;omega
theorem Gh{l:gc}(h:l.Pairwise (· < ·)):l.Nodup:=h.imp fun h=>by omega
theorem ClOk.len{n:Nat}{c:gc}(h:ClOk n c):c.length<=n:=by
 have:=BE (c.map ab) (st n) (Gh h.2.1) (fun x hx=>by
  obtain⟨s,hs,rfl⟩:=lS.mp hx;exact JN.mpr (h.2.2 s hs))
 simpa[st] using this
def TOk(n:Nat)(t:gc):Prop:=t.length=n/\ ∀x∈t,1<=ab x/\ab x<=n
theorem lC(i:Int):ab (-i)=ab i:=by unfold ab;split<;>split<;>omega
theorem jK{l:gc}{k:Nat}(h:k<l.length):l.getD k 0∈l:=by
 rw[lh,hX h];exact jT h
theorem QR{n:Nat}{t:gc}(ht:TOk n t){s:Int}(h1:1<=ab s)(h2:ab s<=n):1<=ab (led t s)/\ab (led t s)<=n:=by
 unfold led;unfold ab at h1 h2;have hl:=ht.1;split
 ·rename_i h;rw[gk (by omega)] at h1 h2;exact ht.2 _ (jK (by omega))
 ·rename_i h;rw[lC];split at h1
  ·rw[gd (by assumption)] at h2;exact ht.2 _ (jK (by omega))
  ·omega
abbrev cD(c:gc):D:= .tup (c.map .int)
theorem pd(c:gc):D.dep (cD c)=1:=by simp[D.dep,yJ]
theorem BR: ∀cs:List (List Int),D.depL (cs.map cD)<=1
 |[]=>by simp[D.depL]
 |c::cs=>by
  have:=BR cs;simp only[il,D.depL,pd];omega
theorem BO(a b:gc):D.eqb (cD a) (cD b)=decide (a=b):=by simp[D.eqb,yH]
theorem Mc(c:gc): ∀cs:List (List Int),(cs.map cD).any (fun d=>D.eqb d (cD c))=decide (c∈cs)
 |[]=>by simp
 |x::cs=>by
  simp only[il,uI,Mc c cs,BO,jQ];by_cases h:x=c
  ·simp[h]
  ·have: ¬c=x:=fun e=>h e.symm;simp[h,this]
def yW:Nat->List (List Int)
 |0=>[[]]
 |k+1=>yW k++((yW k).map fun c=>c++[((k:Int)+1)])++((yW k).map fun c=>c++[-((k:Int)+1)])
theorem uw: ∀(k:Nat) (c:gc),(c.map ab).Pairwise (· < ·)->(∀s∈c,1<=ab s/\ab s<=k)->c∈yW k
 |0,c,_,h=>by
  cases c with
  |nil=>simp[yW]
  |cons s c=>have:=h s iO;omega
 |k+1,c,hp,h=>by
  simp only[yW,nU,lS];by_cases hn:c=[]
  ·subst hn;exact .inl (.inl (uw k [] (by simp) (by simp)))
  ·have hd:=DN hn;generalize c.dropLast=i at hd;generalize c.getLast hn=s at hd;subst hd;rw[vG,lT] at hp;have hs:=h s (by simp);have hi: ∀x∈i,1<=ab x/\ab x<ab s:=fun x hx=>⟨(h x (by simp[hx])).1,hp.2.2 (ab x) (AA hx) (ab s) (by simp)⟩
   by_cases q:ab s<=k
   ·refine .inl (.inl (uw k _ ?_ fun x hx=>?_))
    ·rw[vG,lT];exact hp
    ·rcases nU.mp hx with hx|hx
     ·have:=hi x hx;omega
     ·simp at hx;subst hx;omega
   ·have e:ab s=(k:Int)+1:=by omega
    have hk:=uw k i hp.1 fun x hx=>by have:=hi x hx;omega
    unfold ab at e;split at e
    ·exact .inr ⟨i,hk,by rw[show s= -((k:Int)+1) by omega]⟩
    ·exact .inl (.inr ⟨i,hk,by rw[show s=((k:Int)+1) by omega]⟩)
theorem Ax: ∀(k:Nat) (n:Nat),n<=k->(yW n).length<=(yW k).length
 |0,n,h=>by rw[show n=0 by omega];exact gY _
 |k+1,n,h=>by
  by_cases e:n=k+1
  ·subst e;exact gY _
  ·have:=Ax k n (by omega);simp only[yW,pq,iG];omega
def CsOk(n:Nat)(cs:iJ):Prop:=cs.Nodup/\ ∀c∈cs,ClOk n c
theorem CsOk.len(hn:n<=5)(h:CsOk n cs):cs.length<=243:=by
 have h1:=BE cs (yW n) h.1 fun c hc=>uw n c (h.2 c hc).2.1 (h.2 c hc).2.2;have h2:=Ax 5 n hn;have h3:(yW 5).length=243:=by decide
 omega
theorem CsOk.snoc{n:Nat}{cs:iJ}{c:gc}(h:CsOk n cs)(hc:ClOk n c)(hm:c∉cs):CsOk n (cs++[c]):=by
 refine⟨?_,fun x hx=>?_⟩
 ·rw[List.nodup_append];exact⟨h.1,by simp,fun x hx y hy e=>by simp at hy;subst hy;subst e;exact hm hx⟩
 ·rcases nU.mp hx with hx|hx
  ·exact h.2 x hx
  ·simp at hx;subst hx;exact hc
abbrev lsC(cs:iJ):Sl:=some (.lst (cs.map cD),true)
def vC(vs:iJ)(c:gc):List (List Int):=if c∈vs then vs else vs++[c]
theorem pW: ∀l:List Int,D.prL (l.map .int)=true
 |[]=>by simp[D.prL]
 |x::l=>by simp[D.prL,D.pr,pW l]
theorem vw(op:CmpOp): ∀a b:List Int,(pe op (a.map .int) (b.map .int)).isSome=true
 |[],b=>by simp[pe]
 |x::a,[]=>by simp[pe]
 |x::a,y::b=>by
  simp only[il,pe];split
  ·exact vw op a b
  ·simp[lg]
theorem qD(cs:iJ)(h: ∀c∈cs,c≠[]):rV (cs.map cD)=true:=by
 have hk: ∀c:List Int,c≠[]->jB (cD c)=some 1:=fun c hc=>by
  cases c with
  |nil=>exact absurd rfl hc
  |cons=>rfl
 unfold rV
 cases cs with
 |nil=>rfl
 |cons c cs=>
  rw[DT];right;simp only[il];rw[mK,mK,hk c (h c iO)];refine⟨⟨rfl,?_⟩,?_⟩
  ·rw[kZ];intro d hd;rw[<-il (f:=cD)] at hd;obtain⟨x,hx,rfl⟩:=lS.mp hd;rw[hk x (h x hx),pd];simp[D.pr,pW]
  ·rw[kZ];intro d hd;rw[kZ];intro e he;rw[<-il (f:=cD)] at hd he;obtain⟨x,hx,rfl⟩:=lS.mp hd;obtain⟨y,hy,rfl⟩:=lS.mp he;simp only[lg];exact vw _ _ _
def unC:D->List Int
 | .tup l=>l.map iOf
 |_=>[]
theorem rS(c:gc):unC (cD c)=c:=by
 simp only[unC,iC];rw[ma (g:=id),qZ];intro x _;rfl
theorem Fp(h:m.Perm (cs.map cD)): ∃ks:List (List Int),m=ks.map cD/\ks.Perm cs:=by
 refine⟨m.map unC,?_,?_⟩
 ·rw[iC]
  symm
  rw[ma (g:=id),qZ];intro d hd;obtain⟨c,_,rfl⟩:=lS.mp (h.mem_iff.mp hd);simp only[Function.comp,rS];rfl
 ·have:=h.map unC;rw[iC] at this;rw[show List.map (unC∘cD) cs=List.map id cs from ma (fun c _=>rS c),qZ] at this;exact this
def SrtC(ks:iJ):Prop:=ks.Pairwise fun a b=>ltT (cD b) (cD a)=false
theorem SrtC.take(h:SrtC ks)(m:Nat):SrtC (ks.take m):=List.Pairwise.sublist (mM m ks) h
theorem CsOk.take(h:CsOk n ks)(m:Nat):CsOk n (ks.take m):=⟨List.Nodup.sublist (mM m ks) h.1,fun c hc=>h.2 c (mI hc)⟩
def qY(n:Nat)(ks:iJ):Prop:=n<=5/\CsOk n ks/\SrtC ks/\ks.length<=30
abbrev rD'(n:Nat)(ks:iJ):D:= .tup [.int n,.tup (ks.map cD)]
abbrev ii(n:Int):Sl:=some (.int n,false)
abbrev frz(ds:List D):Dn:=ds.map fun d=>some (d,false)
theorem tQ: ∀(os:List Opd) (ds:List D),gv os (ds.map fun d=>(d,false))=[]
 |[],_=>by simp[gv]
 |_::_,[]=>by simp[gv]
 |o::os,d::ds=>by cases o<;>simp[gv,tQ os ds]
theorem FY: ∀(os:List Opd) (ds:List D) (outs δ:Dn),wb os (ds.map fun d=>(d,false)) outs δ=δ
 |[],_,_,_=>by simp[wb]
 |_::_,[],_,_=>by simp[wb]
 |_::_,_::_,[],_=>by simp[wb]
 |o::os,d::ds,x::xs,δ=>by cases o<;>simp[wb,FY os ds xs]
theorem Rv{f:F}{ti:FT}{g:D->D}{p:D->Bool}{pre:Dn}: ∀(l acc:List D) (x:Sl),(∀d∈l,ti (pre++[some (d,false)])=some (p d,pre++[some (d,false)])/\(p d=true-> ∃o,f (pre++[some (d,false)])=some ((g d,o),pre++[some (d,false)])))->acc.length+l.length<=sizeLine->
  ∃x',iP (fX pre.length) ti (gQ f) l acc (pre++[x])=some (acc++(l.filter p).map g,pre++[x'])
 |[],acc,x,_,_=>⟨x,by simp[iP]⟩
 |d::l,acc,x,h,hl=>by
  obtain⟨h1,h2⟩:=h d iO;have hs:acc.length<sizeLine:=by simp at hl;omega
  rw[iP,A8];simp only[iD];rw[h1]
  cases hp:p d with
  |false=>
   obtain⟨x',e⟩:=Rv l acc (some (d,false)) (fun d' h'=>h d' (iT _ h')) (by simp at hl ⊢;omega);exact⟨x',by simp[e,hp]⟩
  |true=>
   obtain⟨o,hd⟩:=h2 hp;obtain⟨x',e⟩:=Rv l (acc++[g d]) (some (d,false)) (fun d' h'=>h d' (iT _ h')) (by simp at hl ⊢;omega);refine⟨x',?_⟩;simp only[iD,gM,tH];rw[hd];simp only[iD];rw[gd hs];simp only[iD];rw[e];simp[hp]
theorem LZ{caps:hU}{fi:FIt}{f:F}{ti:FT}{δ δ1:Dn}{l args:List D}(g:D->D)(p:D->Bool)(h1:fi δ=some (l,δ1))(h2:iR δ1 (caps.map .slot)=some (args.map fun d=>(d,false)))(hc:args.length=caps.length)
  (h: ∀d∈l,ti (frz args++[some (d,false)])=some (p d,frz args++[some (d,false)])/\(p d=true-> ∃o,f (frz args++[some (d,false)])=some ((g d,o),frz args++[some (d,false)])))(hl:l.length<=10000):
  hJ caps 1 fi (fX caps.length) ti (gQ f) δ=some ((.lst ((l.filter p).map g),true),δ1):=by
 obtain⟨x',e⟩:=Rv (f:=f) (ti:=ti) (g:=g) (p:=p) (pre:=frz args) l [] none h (by rw[jA];simp;omega);unfold hJ;rw[h1];simp only[iD];rw[h2];simp only[iD,tQ,lJ,gM,iC,FY];rw[show fX caps.length=fX (frz args).length from by rw[iG,hc]];rw[show((args.map (some∘fun d=>(d,false)))++List.replicate 1 none:Dn)=frz args++[none] from rfl,e];simp
theorem qk{caps:hU}{fi:FIt}{f:F}{δ δ1:Dn}{l args:List D}(g:D->D)(h1:fi δ=some (l,δ1))(h2:iR δ1 (caps.map .slot)=some (args.map fun d=>(d,false)))(hc:args.length=caps.length)
  (h: ∀d∈l,∃o,f (frz args++[some (d,false)])=some ((g d,o),frz args++[some (d,false)]))(hl:l.length<=10000):
  hJ caps 1 fi (fX caps.length) gW (gQ f) δ=some ((.lst (l.map g),true),δ1):=by
 rw[LZ g (fun _=>true) h1 h2 hc (fun d hd=>⟨rfl,fun _=>h d hd⟩) hl,List.filter_eq_self.mpr fun _ _=>rfl]
theorem uk{caps:hU}{fi:FIt}{f:F}{δ δ1:Dn}{l args:List D}(p:D->Bool)(h1:fi δ=some (l,δ1))(h2:iR δ1 (caps.map .slot)=some (args.map fun d=>(d,false)))(hc:args.length=caps.length)
  (h: ∀d∈l,∃o,f (frz args++[some (d,false)])=some ((.bl (p d),o),frz args++[some (d,false)]))(hl:l.length<=10000):
  gn (g1 yy) [fP (hJ caps 1 fi (fX caps.length) gW (gQ f))] δ=some ((.bl (l.all p),false),δ1):=
 mV (qg (gJ (qk (fun d=> .bl (p d)) h1 h2 hc h hl))) rfl (uv p l)
theorem L0{caps:hU}{fi:FIt}{f:F}{δ δ1:Dn}{l args:List D}(p:D->Bool)(h1:fi δ=some (l,δ1))(h2:iR δ1 (caps.map .slot)=some (args.map fun d=>(d,false)))(hc:args.length=caps.length)
  (h: ∀d∈l,∃o,f (frz args++[some (d,false)])=some ((.bl (p d),o),frz args++[some (d,false)]))(hl:l.length<=10000):
  gn (g1 HY) [fP (hJ caps 1 fi (fX caps.length) gW (gQ f))] δ=some ((.bl (l.any p),false),δ1):=
 mV (qg (gJ (qk (fun d=> .bl (p d)) h1 h2 hc h hl))) rfl (G5 p l)
theorem Te{f:F}{fi:FIt}{g:D->D->D}{m:List D}(hf: ∀d y,fi [some (d,false),y]=some (m,[some (d,false),y])): ∀(l acc:List D) (x y:Sl),(∀d∈l,∀e∈m,∃o,f [some (d,false),some (e,false)]=some ((g d e,o),[some (d,false),some (e,false)]))->acc.length+l.length*m.length<=sizeLine->
  ∃x' y',iP (fX 0) gW (FH fi (fX 1) gW (gQ f)) l acc [x,y]=some (acc++l.flatMap fun d=>m.map (g d),[x',y'])
 |[],acc,x,y,_,_=>⟨x,y,by simp[iP]⟩
 |d::l,acc,x,y,h,hl=>by
  have hl':acc.length+m.length+l.length*m.length<=sizeLine:=by simp[Nat.add_mul] at hl;omega
  obtain⟨y',e1⟩:=FC f (g d) [some (d,false)] m acc y (fun e he=>h d iO e he) (by omega);obtain⟨x2,y2,e2⟩:=Te hf l (acc++m.map (g d)) (some (d,false)) y' (fun d' h'=>h d' (iT _ h')) (by simp;omega);refine⟨x2,y2,?_⟩;rw[iP];rw[show fX 0 d [x,y]=some [some (d,false),y] from rfl];simp only[iD,tE,gM];unfold FH;rw[hf];simp only[iD];rw[show iP (fX 1) gW (gQ f) m acc [some (d,false),y]=_ from e1];simp only[iD];rw[show iP (fX 0) gW (fun acc δ=>(fi δ).bind fun p=>iP (fX 1) gW (gQ f) p.1 acc p.2) l (acc++m.map (g d)) ([some (d,false)]++[y'])=_ from e2];simp
theorem Rq{fi fi2:FIt}{f:F}{δ δ1:Dn}{l m:List D}(g:D->D->D)(h1:fi δ=some (l,δ1))(hf: ∀d y,fi2 [some (d,false),y]=some (m,[some (d,false),y]))(h: ∀d∈l,∀e∈m,∃o,f [some (d,false),some (e,false)]=some ((g d e,o),[some (d,false),some (e,false)]))(hl:l.length*m.length<=10000):
  hJ [] 2 fi (fX 0) gW (FH fi2 (fX 1) gW (gQ f)) δ=some ((.lst (l.flatMap fun d=>m.map (g d)),true),δ1):=by
 obtain⟨x',y',e⟩:=Te (f:=f) (g:=g) hf l [] none none h (by rw[jA];simp;omega);unfold hJ;rw[h1];simp only[iD,vN,Hn,gv,lJ,gM,vH,vO,List.replicate_zero];rw[e];simp[wb]
theorem oX{tg:Tg}{fb:FS}(I:List D->Dn->Prop)(step: ∀d ds δ,I (d::ds) δ-> ∃δ1 δ2,tg d δ=some δ1/\fb δ1=some (.nx δ2)/\I ds δ2): ∀(ds:List D) (δ:Dn),I ds δ-> ∃δ',I [] δ'/\ue tg fb ds δ=some (.nx δ')
 |[],δ,h=>⟨δ,h,rfl⟩
 |d::ds,δ,h=>by
  obtain⟨δ1,δ2,h1,h2,h3⟩:=step d ds δ h;obtain⟨δ',h4,h5⟩:=oX I step ds δ2 h3;refine⟨δ',h4,?_⟩;unfold ue;rw[h1];simp only[iD];rw[h2];exact h5
theorem FA{tg:Tg}{f:F}(I:List D->List D->Dn->Prop)(step: ∀d ds acc δ,I (d::ds) acc δ-> ∃δ1 r o δ2,tg d δ=some δ1/\f δ1=some ((r,o),δ2)/\acc.length<=10000/\I ds (acc++[r]) δ2): ∀(ds acc:List D) (δ:Dn),I ds acc δ-> ∃i3 δ',I [] i3 δ'/\iP tg gW (gQ f) ds acc δ=some (i3,δ')
 |[],acc,δ,h=>⟨acc,δ,h,rfl⟩
 |d::ds,acc,δ,h=>by
  obtain⟨δ1,r,o,δ2,h1,h2,hs,h3⟩:=step d ds acc δ h;obtain⟨i3,δ',h4,h5⟩:=FA I step ds _ δ2 h3;refine⟨i3,δ',h4,?_⟩;unfold iP;rw[h1];simp only[iD,tE,gM,tH];rw[h2];simp only[iD];rw[gd (wD hs)];exact h5
theorem uh{caps:hU}{k:Nat}{fi:FIt}{tg:Tg}{ti:FT}{fb:FB}{δ δ1 δ':Dn}{l acc:List D}{args:List (D×Bool)}(h1:fi δ=some (l,δ1))(h2:iR δ1 (caps.map .slot)=some args)(h3:(gv (caps.map .slot) args).Nodup)(h4:iP tg ti fb l [] (args.map some++List.replicate k none)=some (acc,δ')):
  hJ caps k fi tg ti fb δ=some ((.lst acc,true),wb (caps.map .slot) args (gC args δ') δ1):=by
 unfold hJ;rw[h1];simp only[iD];rw[h2];simp only[iD];rw[gd h3,h4];rfl
def L8:D->Bool
 | .int i=>decide (0<=i)&&decide (i<=1)
 |_=>false
theorem Rw(d:D):oF [(d,false)]=some ((.bl (L8 d),false),[some (d,false)]):=by
 cases d<;>simp[oF,vp,evF,gC,vg,gv,wb,L8]
def isA(n:Nat):D->Bool
 | .tup l=>decide (l.length=n)&&l.all L8
 |_=>false
theorem yG(h:f δ=some ((.bl true,o),δ1)):ui f g δ=g δ1:=by rw[Kh,h];rfl
theorem LK(h:f δ=some ((.bl false,o),δ1)):ui f g δ=some ((.bl false,false),δ1):=by rw[Kh,h];rfl
theorem Ir(n:Nat)(d:D)(hd:OkD d):kX [(.int n,false),(d,false)]=some ((.bl (isA n d),false),[some (.int n,false),some (d,false)]):=by
 cases d with
 |tup l=>
  have c:=uk (caps:=[]) (fi:=hZ (iI 1)) (f:=fV oF [(fO 0)]) (δ:=[some (.int n,false),some (.tup l,false)]) (l:=l) (args:=[]) L8 rfl rfl rfl (fun d _=>⟨false,by simp[Rw,gv,wb]⟩) (by have:=hd l rfl;omega)
  have e:fZ gEq (fP (gn (g1 lV) [(fO 1)])) (fO 0) [some (.int n,false),some (.tup l,false)]=some ((.bl (decide (l.length=n)),false),[some (.int n,false),some (.tup l,false)]):=by
   simp[wV,Int.natCast_inj]
  refine jh (δ:=[some (.int n,false),some (.tup l,false)]) ⟨rfl,by decide,rfl⟩ (iz (iQ ((yG rfl).trans ?_)));rw[isA];by_cases h:l.length=n
  ·rw[rf h] at e ⊢;exact(yG e).trans c
  ·rw[lL h] at e ⊢;exact LK e
 |_=>simp[kX,oW,evF,gC,isT,isA]
def Bf:D->List D
 | .tup l=>l
 | .lst l=>l
 |_=>[]
def soB(t:gc)(s:Int):Bool:=t.getD ((ab s).toNat-1) 0==(if s>0 then 1 else 0)
theorem UO(t:gc)(s:Int)(h:1<=ab s/\ab s<=t.length):gIx (.tup (t.map .int)) (.int (ab s-1))=some (.int (t.getD ((ab s).toNat-1) 0),false):=by
 have h1:0<=ab s-1:=by omega
 have h2:ab s-1<((t.map D.int).length:Int):=by simp;omega
 have h3:(ab s-1).toNat=(ab s).toNat-1:=by omega
 have h4:(ab s).toNat-1<t.length:=by omega
 have h5:ixN (t.map D.int).length (ab s-1)=some ((ab s).toNat-1):=by unfold ixN;rw[gd h1,gd h2,h3]
 rw[iG] at h5;simp[gIx,atI,h5,h4]
theorem Oa(t:gc)(s:Int)(h:1<=ab s/\ab s<=t.length):qi [enc t,(.int s,false)]=some ((.bl (soB t s),false),[some (enc t),some (.int s,false)]):=by
 have:=UO t s h;unfold ab at this;by_cases hs:s>0<;>simp[qi,yA,evF,gC,this,hs,soB,ab]
def kC(t c:gc):Bool:=c.any (soB t)
theorem NY(p:Int->Bool)(c:gc):(c.map D.int).any (fun d=>p (iOf d))=c.any p:=by
 simp[List.any_map,vM,iOf]
theorem SO(n:Nat)(hn:n<=5)(t c:gc)(ht:t.length=n)(hc:ClOk n c)(ev:EvF)(eX: ∀s,1<=ab s/\ab s<=t.length->ev [enc t,(.int s,false)]=some ((.bl (soB t s),false),[some (enc t),some (.int s,false)])):
  evF 2 2 [] (fY (hW (gn (g1 HY) [(fP (hJ [0] 1 (hZ (iI 1)) (fX 1) gW (gQ (fV ev [(fO 0),(fO 1)]))))])) gm) [enc t,enc c]=some ((.bl (kC t c),false),[some (enc t),some (enc c)]):=by
 have c1:=L0 (caps:=[0]) (fi:=hZ (iI 1)) (f:=fV ev [(fO 0),(fO 1)]) (δ:=[some (enc t),some (enc c)]) (l:=c.map .int) (args:=[cD t]) (fun d=>soB t (iOf d)) rfl rfl rfl (fun d hd=>⟨false,by
  obtain⟨s,hs,rfl⟩:=lS.mp hd;have:=hc.2.2 s hs;simp[eX s (by omega),gv,wb,iOf]⟩) (by have:=ClOk.len hc;simp;omega)
 rw[NY] at c1;exact jh ⟨rfl,by decide,rfl⟩ (iz (iQ c1))
theorem QY{n:Nat}(hn:n<=5){t c:gc}(ht:t.length=n)(hc:ClOk n c):lX [enc t,enc c]=some ((.bl (kC t c),false),[some (enc t),some (enc c)]):=SO n hn t c ht hc _ fun s h=>Oa t s h
def kB(n:Nat)(ks:iJ)(d:D):Bool:=isA n d&&ks.all (kC ((Bf d).map iOf))
theorem NJ(h:isA n d=true): ∃t:List Int,d=cD t/\t.length=n:=by
 cases d with
 |tup l=>
  rw[isA,mK,xh,kZ] at h;refine⟨l.map iOf,?_,by simp[h.1]⟩;rw[cD,iC]
  congr 1
  rw[ma (g:=id),qZ];intro x hx;have:=h.2 x hx;cases x<;>simp[L8,iOf] at this ⊢
 |_=>cases h
theorem N0{n:Nat}(hn:n<=5){ks:iJ}(hk: ∀c∈ks,ClOk n c)(hl:ks.length<=30){t:gc}(ht:t.length=n){ev:EvF}(eX: ∀c,ClOk n c->ev [enc t,enc c]=some ((.bl (kC t c),false),[some (enc t),some (enc c)])){fi:FIt}{δ:Dn}{i:Nat}(hi:δ[i]?=some (some (enc t)))(h1:fi δ=some (ks.map cD,δ)):
  gn (g1 yy) [(fP (hJ [i] 1 fi (fX 1) gW (gQ (fV ev [(fO 0),(fO 1)]))))] δ=some ((.bl (ks.all (kC t)),false),δ):=by
 have:=uk (caps:=[i]) (fi:=fi) (f:=fV ev [(fO 0),(fO 1)]) (δ:=δ) (l:=ks.map cD) (args:=[cD t]) (fun d=>kC t ((Bf d).map iOf)) h1 (by simp[hi]) rfl (fun d hd=>⟨false,by
  obtain⟨c,hc,rfl⟩:=lS.mp hd;simp[eX c (hk c hc),gv,wb,Bf,vM,iOf]⟩) (by simp;omega)
 refine this.trans ?_;simp[List.all_map,vM,Bf,iOf]
theorem yt{n:Nat}{ks:iJ}(h:qY n ks)(d:D)(hd:OkD d):kz [(rD' n ks,false),(d,false)]=some ((.bl (kB n ks d),false),[some (rD' n ks,false),some (d,false)]):=by
 let δ:Dn:=[some (rD' n ks,false),some (d,false),some (.int n,false),some (.tup (ks.map cD),false)]
 have e:fV kX [(fO 2),(fO 1)] δ=some ((.bl (isA n d),false),δ):=ie (os:=[.slot 2,.slot 1]) (args:=[(.int n,false),(d,false)]) rfl rfl lJ (Ir n d hd);refine jh (δ:=δ) ⟨rfl,by decide,rfl⟩ ((gh (δ1:=δ) rfl).trans (iz (iQ ?_)));rw[kB]
 cases hA:isA n d with
 |false=>rw[hA] at e;exact LK e
 |true=>
  rw[hA] at e;refine(yG e).trans ?_;obtain⟨t,rfl,ht⟩:=NJ hA;refine(N0 h.1 h.2.1.2 h.2.2.2 ht (fun c hc=>QY h.1 ht hc) (i:=1) rfl rfl).trans ?_;simp[Bf,vM,iOf]
def kE:Nat->List (List Int)
 |0=>[[]]
 |n+1=>(kE n).flatMap fun t=>[t++[0],t++[1]]
theorem Ay: ∀n:Nat,(kE n).length=2^n
 |0=>rfl
 |n+1=>by
  rw[kE,List.length_flatMap,Nat.pow_succ,<-Ay n];generalize kE n=L
  induction L with
  |nil=>rfl
  |cons t L ih=>simp at ih ⊢;omega
theorem qp: ∀{n:Nat} {t:gc},t∈kE n->t.length=n/\ ∀x∈t,x=0\/x=1
  |0,t,h=>by simp[kE] at h;simp[h]
  |n+1,t,h=>by
    rw[kE,List.mem_flatMap] at h;obtain⟨u,hu,h⟩:=h;obtain⟨h1,h2⟩:=qp hu;simp only[jQ,kj,nc] at h
    rcases h with rfl|rfl<;>
      (refine⟨by simp[h1],fun x hx=>?_⟩
       rcases nU.mp hx with hx|hx
       · exact h2 x hx
       · simp at hx;simp[hx])
theorem FN{n:Nat}(hn:n<=5):(kE n).length<=32:=by
 rw[Ay];exact IE (n:=2) (by decide) hn
abbrev NV:List D:=[.int 0,.int 1]
def Mg(d e:D):D:= .tup (Bf d++[e])
theorem Mf(L:iJ):(L.map cD).flatMap (fun d=>NV.map (Mg d))=(L.flatMap fun t=>[t++[0],t++[1]]).map cD:=by
 simp[List.flatMap_map,List.map_flatMap,Mg,Bf,cD]
theorem N2(t:gc)(ht:t.length<=100)(e:D):fZ oU (fO 0) (fP (oD [(iI 1)])) [some (cD t,false),some (e,false)]=some ((Mg (cD t) e,false),[some (cD t,false),some (e,false)]):=by
 have:=jA;have h:t.length<=16777215:=by omega
 simp[iI,this,oU,Mg,Bf,h]
theorem Ic(δ:Dn):hZ (oD [(fC (.int 0)),(fC (.int 1))]) δ=some (NV,δ):=by simp[jA]
theorem Hw{n:Nat}(hn:n<=5):2^n<=32:=IE (n:=2) (by decide) hn
abbrev fbA:FS:=(fY (js 1 (hJ [] 2 (hZ (iI 1)) (fX 0) gW (FH (hZ (oD [(fC (.int 0)),(fC (.int 1))])) (fX 1) gW (gQ (fZ oU (fO 0) (fP (oD [(iI 1)]))))))) gm)
theorem yV{n:Nat}(hn:n<=5):jX [(.int n,false)]=some ((.lst ((kE n).map cD),true),[some (.int n,false)]):=by
 let z:Sl:=some (.int n,false)
 obtain⟨δ',⟨j,x,hj,rfl⟩,e⟩:=oX (tg:=fX 2) (fb:=fbA) (fun ds δ=> ∃j x,j+ds.length=n/\δ=[z,some (.lst ((kE j).map cD),true),x]) (fun d ds δ ⟨j,x,hj,e⟩=>by
  subst e
  have c:=Rq (fi:=hZ (iI 1)) (fi2:=hZ (oD [(fC (.int 0)),(fC (.int 1))])) (f:=fZ oU (fO 0) (fP (oD [(iI 1)]))) (δ:=[z,some (.lst ((kE j).map cD),true),some (d,false)]) (δ1:=[z,some (.lst ((kE j).map cD),false),some (d,false)]) (l:=(kE j).map cD) (m:=NV) Mg rfl (fun d y=>Ic _) (fun d hd e _=>by
   obtain⟨t,ht,rfl⟩:=lS.mp hd;exact⟨false,N2 t (by have:=(qp ht).1;simp at hj;omega) e⟩) (by have:=FN (n:=j) (by omega);simp;omega)
  rw[Mf] at c;exact⟨_,_,rfl,(gh (jj c (show 1<3 by decide))).trans rfl,j+1,_,by simp at hj;omega,rfl⟩) (gB 0 n) [z,some (.lst ((kE 0).map cD),true),none] ⟨0,none,by simp[gB],rfl⟩
 have:j=n:=by simpa using hj
 subst this;exact jh (δ:=[z,none,x]) ⟨rfl,by decide,rfl⟩ ((gh (δ1:=[z,some (.lst ((kE 0).map cD),true),none]) rfl).trans ((gh ((nA (oS (o:= .slot 0) rfl rfl (by omega))).trans e)).trans (iz rfl)))
def ou(n:Nat)(ks:iJ):List (List Int):=(kE n).filter fun t=>ks.all (kC t)
theorem NK{n:Nat}{t:gc}(h:t∈kE n):isA n (cD t)=true:=by
 obtain⟨h1,h2⟩:=qp h;simp only[isA,iG,h1,uy,Bool.true_and,List.all_map,kZ,Function.comp];intro x hx;rcases h2 x hx with rfl|rfl<;>rfl
theorem Fb{n:Nat}{ks:iJ}{t:gc}(h:t∈kE n):kB n ks (cD t)=ks.all (kC t):=by
 rw[kB,NK h];simp[Bf,vM,iOf]
theorem K5{t:gc}(h:t.length<=60):OkD (cD t):=fun l e=>by cases e;simpa using h
theorem HZ(p:D->Bool)(L:iJ):((L.map cD).filter p).map (fun d=>d)=(L.filter fun t=>p (cD t)).map cD:=by
 rw[List.map_id',List.filter_map];rfl
theorem yU{n:Nat}{ks:iJ}(h:qY n ks):lu [(rD' n ks,false)]=some ((.lst ((ou n ks).map cD),true),[some (rD' n ks,false)]):=by
 have h1:hZ (fV jX [(fP (fZ gIx (fO 0) (fP (fC (.int 0)))))]) [some (rD' n ks,false)]=some ((kE n).map cD,[some (rD' n ks,false)]):=
  HM (ie (os:=[.val (.int n,false)]) (args:=[(.int n,false)]) rfl rfl lJ (yV h.1))
 have c:=LZ (caps:=[0]) (fi:=hZ (fV jX [(fP (fZ gIx (fO 0) (fP (fC (.int 0)))))])) (f:=iI 1) (ti:=fT (fV kz [(fO 0),(fO 1)])) (δ:=[some (rD' n ks,false)]) (l:=(kE n).map cD) (args:=[rD' n ks]) (fun d=>d) (kB n ks) h1 rfl rfl (fun d hd=>by
  obtain⟨t,ht,rfl⟩:=lS.mp hd;have:=(qp ht).1;have h5:=h.1;exact⟨lQ (ie (os:=[.slot 0,.slot 1]) (args:=[(rD' n ks,false),(cD t,false)]) rfl rfl lJ (yt h _ (K5 (by omega)))),fun _=>⟨false,rfl⟩⟩) (by have:=FN h.1;simp;omega)
 rw[HZ,List.filter_congr fun t ht=>Fb ht] at c;exact jh ⟨rfl,by decide,rfl⟩ (iz (iQ c))
theorem NZ{p:List Int->Bool}{k l:iJ}(h: ∀c,c∈k↔c∈l):k.all p=l.all p:=by
 rw[Az,kZ,kZ];exact⟨fun a c hc=>a c ((h c).mpr hc),fun a c hc=>a c ((h c).mp hc)⟩
theorem xt{α:Type}{R:α->α->Prop}: ∀{l:List α},l.Pairwise R-> ∀p∈l.zip l.tail,R p.1 p.2
 |[],_,p,h=>by simp at h
 |[_],_,p,h=>by simp at h
 |x::y::l,hp,p,h=>by
  simp only[List.tail_cons,List.zip_cons_cons] at h;obtain⟨h1,h2⟩:=pz.mp hp;rcases jQ.mp h with rfl|h
  ·exact h1 y iO
  ·exact xt h2 p h
theorem OH(l:List D):PX.An l (some 1) none=l.tail:=by
 unfold PX.An;rw[show(some (1:Int))=some ((1:Nat):Int) from rfl,HT.RD,HT.Pd]
 cases l with
 |nil=>rfl
 |cons x l=>rw[show min 1 (x::l).length=1 from by simp];simp
theorem Gd(l:List D)(d:D)(hd:d= .lst l\/d= .tup l)(h: ∀p∈l.zip l.tail,lb .Lt p.1 p.2=some (.bl true,false))(hl:l.length<=1000):mz [(d,false)]=some ((.bl true,false),[some (d,false)]):=by
 have hz:vY (iI 0) (yE (fO 0) (fP (fC (.int 1)))) [some (d,false)]=some ((l.zip l.tail).map fun p=> .tup [p.1,p.2],[some (d,false)]):=by
  rcases hd with rfl|rfl
  ·have:yE (fO 0) (fP (fC (.int 1))) [some (.lst l,false)]=some ((.lst l.tail,true),[some (.lst l,false)]):=by rw[<-OH l];rfl
   simp[vY,iI,this,pT]
  ·have:yE (fO 0) (fP (fC (.int 1))) [some (.tup l,false)]=some ((.tup l.tail,false),[some (.tup l,false)]):=by rw[<-OH l];rfl
   simp[vY,iI,this,pT]
 have hzl:(l.zip l.tail).length<=1000:=by rw[List.length_zip];omega
 obtain⟨acc,δ',⟨ps,us,u,v,h1,h2,h3,h4,rfl⟩,e⟩:=FA (tg:=mR [(fX 0),(fX 1)]) (f:=fZ (lb .Lt) (fO 0) (fO 1)) (fun ds acc δ=> ∃(ps:List (D×D)) (us:List D) (u v:Sl),ds=ps.map (fun p=> .tup [p.1,p.2])/\(∀p∈ps,lb .Lt p.1 p.2=some (.bl true,false))/\acc=us.map (fun _=> .bl true)/\acc.length+ps.length<=1000/\δ=[u,v]) (fun d ds acc δ ⟨ps,us,u,v,h1,h2,h3,h4,h5⟩=>by
  subst h5
  cases ps with
  |nil=>cases h1
  |cons p ps=>
   obtain⟨rfl,rfl⟩:=rM h1;exact⟨[some (p.1,false),some (p.2,false)],.bl true,false,[some (p.1,false),some (p.2,false)],rfl,jH (o1:= .slot 0) (o2:= .slot 1) rfl rfl rfl rfl (h2 p iO),by omega,ps,us++[.non],_,_,rfl,fun q hq=>h2 q (iT _ hq),by simp[h3],by simp at h4 ⊢;omega,rfl⟩) ((l.zip l.tail).map fun p=> .tup [p.1,p.2]) [] [none,none] ⟨l.zip l.tail,[],none,none,rfl,h,rfl,by simpa using hzl,rfl⟩
 refine jh (δ:=[some (d,false)]) ⟨rfl,by decide,rfl⟩ (iz (iQ (mV (qg (gJ (uh (caps:=[]) (k:=2) (args:=[]) hz rfl lJ e))) rfl ?_)));subst h3;refine(uv (fun _=>true) us).trans ?_;simp
theorem Q6{n:Nat}(hn:n<=5){c:gc}(h:ClOk n c):mC [(.int n,false),enc c]=some ((.bl true,false),[ii n,some (enc c)]):=by
 have hl:=ClOk.len h;have h1:1<=c.length:=RF.mpr h.1;have k1:(1:Int)<=c.length:=by omega
 have k2:(c.length:Int)<=5:=by omega
 have g1':(oE (kW (fT (kh (wt [.tuple]) (fO 1)))) (kW (fT (mU .LtE .LtE (fP (fC (.int 1))) (fP (gn (g1 lV) [(fO 1)])) (fP (fC (.int 5))))))) [ii n,some (enc c)]=some (false,[ii n,some (enc c)]):=by
  simp[isT,mU,iX,k1,k2]
 have c1:=uk (caps:=[0]) (fi:=hZ (iI 1)) (f:=fV jW [(fO 0),(fO 1)]) (δ:=[ii n,some (enc c)]) (δ1:=[ii n,some (enc c)]) (l:=c.map .int) (args:=[.int n]) (fun _=>true) rfl rfl rfl (fun d hd=>⟨false,by
  obtain⟨s,hs,rfl⟩:=lS.mp hd;have:=h.2.2 s hs;refine(ie (δ1:=[ii n,ii s]) (os:=[.slot 0,.slot 1]) (args:=[(.int n,false),(.int s,false)]) rfl rfl lJ (F8 n (.int s))).trans ?_;rw[sg,rf this.1,rf this.2];rfl⟩) (by simp;omega)
 rw[show(c.map D.int).all (fun _=>true)=true by simp] at c1
 have c2:=qk (caps:=[]) (fi:=hZ (iI 1)) (f:=gn (g1 sh) [(fO 0)]) (δ:=[ii n,some (enc c)]) (δ1:=[ii n,some (enc c)]) (l:=c.map .int) (args:=[]) (fun d=> .int (ab (iOf d))) rfl rfl rfl (fun d hd=>⟨false,by
  obtain⟨s,hs,rfl⟩:=lS.mp hd;rfl⟩) (by simp;omega)
 rw[show(c.map D.int).map (fun d=>D.int (ab (iOf d)))=(c.map ab).map D.int by rw[iC,iC];rfl] at c2
 have r:=Gd ((c.map ab).map .int) (.lst ((c.map ab).map .int)) (.inl rfl) (fun p hp=>by
  have:=xt (R:=fun a b:D=>lb .Lt a b=some (.bl true,false)) (l:=(c.map ab).map .int) (mY.mpr (h.2.1.imp fun {a b} aU=>by rw[Ur,rf aU])) p hp;exact this) (by simp;omega)
 refine jh (δ:=[ii n,some (enc c)]) ⟨rfl,by decide,rfl⟩ ((gh ((tw g1').trans rfl)).trans ((gh ((tw (ug (lQ c1))).trans rfl)).trans ?_));exact iz (iQ (ie (δ1:=[ii n,some (enc c)]) (args:=[(.lst ((c.map ab).map .int),false)]) (qg (gJ c2)) rfl lJ r))
theorem QK{a b:gc}(h:ltT (cD b) (cD a)=false)(j9:a≠b):lb .Lt (cD a) (cD b)=some (.bl true,false):=by
 obtain⟨r,hr⟩: ∃r,lg .Lt (cD a) (cD b)=some r:=Iz.mp (vw .Lt a b);have pa: ∀x:List Int,D.pr (cD x)=true:=fun x=>by simp[D.pr,pW]
 have e:=wU (cD a) (cD b) (pa a) (pa b) r hr
 have n9:ltT (cD a) (cD b)=true:=by
  rw[kb,jP] at h;rw[Aa]
  cases hc:cT (cD a) (cD b) with
  |lt=>rfl
  |gt=>rw[hc] at h;exact absurd rfl h
  |eq=>
   have:=uq _ _ (pa a) (pa b) hc;exact absurd (by simpa[rS] using nY unC this) j9
 unfold lb;rw[gd ⟨by rw[pd];omega,by rw[pd];omega⟩,hr,e,n9];rfl
theorem Q5{n:Nat}{ks:iJ}(h:qY n ks):mB [(rD' n ks,false)]=some ((.bl true,false),[some (rD' n ks,false)]):=by
 have hn:=h.1;have hl:=h.2.2.2;have hp:(ks.map cD).Pairwise fun a b=>lb .Lt a b=some (.bl true,false):=mY.mpr ((List.Pairwise.and h.2.2.1 h.2.1.1).imp fun {a b} aU=>QK aU.1 aU.2);have r:=Gd (ks.map cD) (.tup (ks.map cD)) (.inr rfl) (xt hp) (by simp;omega)
 have c1:=uk (caps:=[0]) (fi:=hZ (iI 1)) (f:=fV mC [(fO 0),(fO 1)]) (δ:=[ii n,some (.tup (ks.map cD),false)]) (δ1:=[ii n,some (.tup (ks.map cD),false)]) (l:=ks.map cD) (args:=[.int n]) (fun _=>true) rfl rfl rfl (fun d hd=>⟨false,by
  obtain⟨c,hc,rfl⟩:=lS.mp hd;exact ie (δ1:=[ii n,some (enc c)]) (os:=[.slot 0,.slot 1]) (args:=[(.int n,false),enc c]) rfl rfl lJ (Q6 hn (h.2.1.2 c hc))⟩) (by simp;omega)
 rw[show(ks.map cD).all (fun _=>true)=true by simp] at c1
 have t1:(oE (kW (fT (kh (wt [.tuple]) (fO 1)))) (fT (fZ (lb .Gt) (fP (gn (g1 lV) [(fO 1)])) (fP (fC (.int 30)))))) [ii n,some (.tup (ks.map cD),false)]=some (false,[ii n,some (.tup (ks.map cD),false)]):=
  (su (δ1:=[ii n,some (.tup (ks.map cD),false)]) rfl).trans (lQ (o:=false) (jH (o1:= .val (.int (ks.map cD).length,false)) (o2:= .val (.int 30,false)) rfl rfl rfl rfl (by rw[Sa,lL (by simp;omega)])))
 have are:mW [(.int n,false),(.tup (ks.map cD),false)]=some ((.bl true,false),[ii n,some (.tup (ks.map cD),false)]):=
  jh (δ:=[ii n,some (.tup (ks.map cD),false)]) ⟨rfl,by decide,rfl⟩ ((gh ((tw t1).trans rfl)).trans (iz (iQ ((yG c1).trans (ie (δ1:=[ii n,some (.tup (ks.map cD),false)]) (os:=[.slot 1]) (args:=[(.tup (ks.map cD),false)]) rfl rfl lJ r)))))
 let R:Sl:=some (rD' n ks,false)
 let δ:Dn:=[R,ii n,some (.tup (ks.map cD),false)]
 have hpr:oY [(rD' n ks,false)]=some ((.bl true,false),[R]):=by simp[oY,si,evF,isT,gC,R]
 have hnb:jm [(.int n,false),(.int 0,false),(.int 5,false)]=some ((.bl true,false),[ii n,ii 0,ii 5]):=by rw[vg];simp;omega
 refine jh (δ:=δ) ⟨rfl,by decide,rfl⟩ ((gh ((tw (δ1:=[R,none,none]) (ug (b:=true) (lQ (o:=false) (ie (δ1:=[R,none,none]) (os:=[.slot 0]) (args:=[(rD' n ks,false)]) rfl rfl lJ hpr)))).trans rfl)).trans ((gh (δ1:=δ) rfl).trans (iz (iQ ((yG (o:=false) (δ1:=δ) ?_).trans ?_)))))
 ·exact ie (δ1:=δ) (os:=[.slot 1,.val (.int 0,false),.val (.int 5,false)]) (args:=[(.int n,false),(.int 0,false),(.int 5,false)]) rfl rfl lJ hnb
 ·exact ie (δ1:=δ) (os:=[.slot 1,.slot 2]) (args:=[(.int n,false),(.tup (ks.map cD),false)]) rfl rfl lJ are
theorem Lz{d:D}(h:d.dep<=50):gNe d d=some (.bl false,false):=by unfold gNe;rw[gd ⟨h,h⟩,D.eqb_refl];rfl
theorem GQ(L:iJ):(D.lst (L.map cD)).dep<=50:=by have:=BR L;rw[D.dep];omega
theorem Fo(n:Nat)(ks:iJ):(rD' n ks).dep<=50:=by have:=BR ks;simp only[D.dep,D.depL];omega
theorem Ro(l:List D)(v:Nat):PX.An l none (some (v:Int))=l.take v:=by
 unfold PX.An;rw[HT.Pd,HT.RD,xa,Nat.sub_zero];by_cases h:v<=l.length
 ·rw[sD h]
 ·rw[Nat.min_eq_right (by omega),sH (gY _),sH (by omega)]
theorem yu{n:Nat}(hn:n<=5)(ks:iJ):(ou n ks).length<=32:=mO (ID _ _) (FN hn)
theorem OX{n:Nat}{k l:iJ}(h1:qY n k)(h2:qY n l)(h: ∀c,c∈k↔c∈l):k=l:=by
 have hp:k.Perm l:=(IC h1.2.1.1 h2.2.1.1).mpr h;refine hp.eq_of_pairwise (le:=fun a b=>ltT (cD b) (cD a)=false) (fun a b _ _ x y=>?_) h1.2.2.1 h2.2.2.1;rw[kb] at x y;have pa: ∀x:List Int,D.pr (cD x)=true:=fun x=>by simp[D.pr,pW]
 have e:cT (cD a) (cD b)= .eq:=by
  rw[jP] at x
  cases hc:cT (cD a) (cD b) with
  |lt=>exact absurd hc y
  |gt=>rw[hc] at x;exact absurd rfl x
  |eq=>rfl
 have:=uq _ _ (pa a) (pa b) e;simpa[rS] using nY unC this
def TT(n:Nat)(t:gc):Prop:=(t.map ab).Perm (st n)
def SG(n:Nat)(s:Int):Prop:=1<=ab s/\ab s<=n
def beh(t u:gc):List Int:=t.map (led u)
theorem TT.len{n:Nat}{t:gc}(h:TT n t):t.length=n:=by simpa using(HB.mp h).1
theorem TT.sg{n:Nat}{t:gc}(h:TT n t){x:Int}(hx:x∈t):SG n x:=(HB.mp h).2.1 _ (AA hx)
theorem TT.tok{n:Nat}{t:gc}(h:TT n t):TOk n t:=⟨h.len,fun x hx=>h.sg hx⟩
theorem Ob{n:Nat}{s:Int}(h:SG n s):s≠0:=by rintro rfl;have:=h.1;simp[ab] at this
theorem JW{n:Nat}{s:Int}(h:SG n s):SG n (-s):=by unfold SG;rw[lC];exact h
theorem ku{n:Nat}{s:Int}(h:SG n s): ∃k:Nat,k<n/\(s=(k:Int)+1\/s= -((k:Int)+1)):=by
 have:=h;unfold SG ab at this;split at this
 ·exact⟨(-s-1).toNat,by omega,.inr (by omega)⟩
 ·exact⟨(s-1).toNat,by omega,.inl (by omega)⟩
theorem CD{n k:Nat}(h:k<n):SG n ((k:Int)+1):=by unfold SG;rw[mX (by omega)];omega
theorem jG(t:gc)(k:Nat):led t ((k:Int)+1)=t.getD k 0:=by
 unfold led;rw[gd (by omega),show((k:Int)+1-1).toNat=k by omega]
theorem kx(t:gc)(k:Nat):led t (-((k:Int)+1))= -t.getD k 0:=by
 unfold led;rw[gk (by omega),show(- -((k:Int)+1)-1).toNat=k by omega]
theorem qN{n:Nat}(t:gc){s:Int}(h:SG n s):led t (-s)= -led t s:=by
 obtain⟨k,_,rfl|rfl⟩:=ku h
 ·rw[jG,kx]
 ·rw[Int.neg_neg,jG,kx,Int.neg_neg]
theorem Mh{n:Nat}{t:gc}(ht:t.length=n){s:Int}(h:SG n s):ab (led t s)=(t.map ab).getD ((ab s).toNat-1) 0:=by
 obtain⟨k,hk,rfl|rfl⟩:=ku h
 ·rw[jG,mX (i:=(k:Int)+1) (by omega),show(((k:Int)+1).toNat-1)=k by omega];simp[lh,ht,hk]
 ·rw[kx,lC,Cc (by omega),show(((k:Int)+1).toNat-1)=k by omega];simp[lh,ht,hk]
theorem TT.led{n:Nat}{t:gc}(h:TT n t){s:Int}(hs:SG n s):SG n (led t s):=QR h.tok hs.1 hs.2
theorem nG{n:Nat}{t:gc}(h:TT n t)(u:gc){s:Int}(hs:SG n s):PV.led (beh t u) s=PV.led u (PV.led t s):=by
 obtain⟨k,hk,rfl|rfl⟩:=ku hs
 ·rw[jG,jG];simp[beh,lh,h.len,hk]
 ·have hm:t.getD k 0∈t:=jK (by rw[h.len];exact hk);rw[kx,kx,qN u (h.sg hm)];simp[beh,lh,h.len,hk]
theorem TT.beh{n:Nat}{t u:gc}(h:TT n t)(hu:TT n u):TT n (beh t u):=by
 unfold TT
 have e:(PV.beh t u).map ab=(t.map ab).map fun j=>(u.map ab).getD (j.toNat-1) 0:=by
  unfold PV.beh;rw[iC,iC];refine ma fun x hx=>?_;exact Mh hu.len (h.sg hx)
 rw[e];refine(h.map _).trans (List.Perm.trans (sG ?_) hu);apply wY
 ·simp[st,hu.len]
 ·intro i h1 h2;have hi:i<n:=by simpa[st] using h1
  have e2:((1:Int)+(i:Int)).toNat-1=i:=by omega
  simp only[st,iC,wX,List.getElem_range,Function.comp,e2];simp[lh,hu.len,hi]
theorem wO{n:Nat}{t:gc}(h:TT n t){s r:Int}(hs:SG n s)(hr:SG n r)(e:PV.led t s=PV.led t r):s=r:=by
 have nd:=(HB.mp h).2.2
 have ix: ∀{i j:Nat},i<n->j<n->ab (t.getD i 0)=ab (t.getD j 0)->i=j:=fun {i j} hi hj e=>by
  have l:=h.len
  have:=(En (xs:=t.map ab) (i:=i) (j:=j) (h₀:=by simpa[l] using hi) (h₁:=by simpa[l] using hj) nd).mp (by
   simp only[wX];simpa[lh,l,hi,hj] using e)
  exact this
 have nz: ∀{i:Nat},i<n->t.getD i 0≠0:=fun {i} hi=>Ob (h.sg (jK (by rw[h.len];exact hi)));obtain⟨i,hi,rfl|rfl⟩:=ku hs<;>obtain⟨j,hj,rfl|rfl⟩:=ku hr
 ·rw[jG,jG] at e;rw[ix hi hj (by rw[e])]
 ·rw[jG,kx] at e;have:=ix hi hj (by rw[e,lC]);subst this;exact absurd (show t.getD i 0=0 by omega) (nz hi)
 ·rw[jG,kx] at e;have:=ix hi hj (by rw[<-e,lC]);subst this;exact absurd (show t.getD i 0=0 by omega) (nz hi)
 ·rw[kx,kx] at e;rw[ix hi hj (by rw[show t.getD i 0=t.getD j 0 by omega])]
theorem tU{n:Nat}{t u:gc}(h1:t.length=n)(h2:u.length=n)(h: ∀s,SG n s->PV.led t s=PV.led u s):t=u:=by
 apply wY (by rw[h1,h2]);intro i hi hj;have:=h _ (CD (n:=n) (k:=i) (by omega));rw[jG,jG] at this;simpa[lh,hi,hj] using this
theorem rT(n:Nat):(st n).length=n:=by simp[st]
theorem zM(n:Nat):TT n (st n):=by
 have:(st n).map ab=st n:=by
  conv=>rhs;rw[<-qZ (st n)]
  refine ma fun x hx=>?_;have:=JN.mp hx;exact mX (by omega)
 unfold TT;rw[this]
theorem nO{n:Nat}{s:Int}(h:SG n s):PV.led (st n) s=s:=by
 obtain⟨k,hk,rfl|rfl⟩:=ku h
 ·rw[jG];simp[st,lh,hk];omega
 ·rw[kx];simp[st,lh,hk];omega
def BK(n:Nat)(t w:gc):Prop:=w.length=n/\ ∀s,SG n s->PV.led w (PV.led t s)=s
theorem BK.tt{n:Nat}{t w:gc}(h:BK n t w)(ht:TT n t):TT n w:=by
 refine(BD (st n) (w.map ab) (N9 n) (fun x hx=>?_) (by simp[rT,h.1])).symm;have hx':=JN.mp hx;have sx:SG n x:=by unfold SG;rw[mX (by omega)];omega
 have e:=h.2 x sx;have sl:=ht.led sx;have e2:ab (PV.led w (PV.led t x))=x:=by rw[e,mX (by omega)]
 rw[Mh h.1 sl] at e2;rw[<-e2];have hl:(ab (PV.led t x)).toNat-1<(w.map ab).length:=by have:=sl.2;have:=sl.1;rw[iG,h.1];omega
 exact jK hl
theorem BK.sym{n:Nat}{t w:gc}(h:BK n t w)(ht:TT n t):BK n w t:=by
 refine⟨ht.len,fun s hs=>?_⟩;have hw:=h.tt ht;exact wO hw (ht.led (hw.led hs)) hs (h.2 _ (hw.led hs))
theorem BK.still{n:Nat}{t w:gc}(h:BK n t w)(ht:TT n t):beh t w=st n:=
 tU (n:=n) (by simp[beh,ht.len]) (rT n) fun s hs=>by rw[nG ht w hs,h.2 s hs,nO hs]
theorem BK.beh{n:Nat}{t u w1 w2 w3:gc}(ht:TT n t)(hu:TT n u)(h1:BK n t w1)(h2:BK n u w2)(h3:BK n (beh t u) w3):w3=beh w2 w1:=by
 have k1:=h1.tt ht;have k2:=h2.tt hu;refine tU (n:=n) h3.1 (by simp[PV.beh,k2.len]) fun s hs=>?_;have e:=h3.2 _ (k1.led (k2.led hs));rw[nG ht u (k1.led (k2.led hs)),(h1.sym ht).2 _ (k2.led hs),(h2.sym hu).2 _ hs] at e;rw[e,nG k2 w1 hs]
def pwT(n:Nat)(t:gc):Nat->List Int
 |0=>st n
 |k+1=>beh (pwT n t k) t
theorem lq{n:Nat}{t:gc}(h:TT n t): ∀k,TT n (pwT n t k)
 |0=>zM n
 |k+1=>(lq h k).beh h
theorem Bs{n:Nat}{t:gc}(h:TT n t)(i:Nat){s:Int}(hs:SG n s): ∀j,PV.led (pwT n t (i+j)) s=PV.led (pwT n t j) (PV.led (pwT n t i) s)
 |0=>by rw[show pwT n t 0=st n from rfl,nO ((lq h i).led hs)];rfl
 |j+1=>by
  show PV.led (PV.beh (pwT n t (i+j)) t) s=PV.led (PV.beh (pwT n t j) t) _;rw[nG (lq h _) t hs,nG (lq h j) t ((lq h i).led hs),Bs h i hs j]
theorem Gi{n:Nat}{t:gc}(h:TT n t){d:Nat}{s:Int}(hs:SG n s)(e:PV.led (pwT n t d) s=s): ∀q,PV.led (pwT n t (d*q)) s=s
 |0=>nO hs
 |q+1=>by rw[Nat.mul_succ,Bs h _ hs,Gi h hs e q,e]
theorem Qc{α:Type}[DecidableEq α](f:Nat->α)(m:List α): ∀k:Nat,(∀i,i<=k->f i∈m)->m.length<=k-> ∃i j,i<j/\j<=k/\f i=f j:=fun k hm hl=>by
 apply Classical.byContradiction;intro hn
 have nd:((List.range (k+1)).map f).Nodup:=by
  rw[List.Nodup,mY];refine(Iv (n:=k+1)).imp_of_mem fun {a b} ha hb aU e=>hn ⟨a,b,aU,?_,e⟩;have:=DL.mp hb;omega
 have:=BE _ m nd fun x hx=>by
  obtain⟨i,hi,rfl⟩:=lS.mp hx;exact hm i (by have:=DL.mp hi;omega)
 simp at this;omega
theorem SA{n:Nat}(hn:n<=5){t:gc}(h:TT n t){s:Int}(hs:SG n s): ∃d,1<=d/\d<=10/\PV.led (pwT n t d) s=s:=by
 obtain⟨i,j,q9,hj,e⟩:=Qc (fun i=>PV.led (pwT n t i) s) (st n++(st n).map fun x=> -x) 10 (fun i _=>by
  have:=(lq h i).led hs;rw[nU,lS];obtain⟨k,hk,e|e⟩:=ku this
  ·left;rw[e];exact JN.mpr (by omega)
  ·right;exact⟨(k:Int)+1,JN.mpr (by omega),by rw[e]⟩) (by simp[rT];omega)
 refine⟨j-i,by omega,by omega,?_⟩;have e2:=Bs h (j-i) hs i;rw[show j-i+i=j by omega] at e2;exact wO (lq h i) ((lq h _).led hs) hs (by rw[<-e2];exact e.symm)
theorem PZ{n:Nat}(hn:n<=5){t:gc}(h:TT n t):pwT n t 2520=st n:=by
 refine tU (n:=n) (lq h _).len (rT n) fun s hs=>?_;obtain⟨d,h1,h2,e⟩:=SA hn h hs
 have hd:d*(2520 / d)=2520:=by
  have:d=1\/d=2\/d=3\/d=4\/d=5\/d=6\/d=7\/d=8\/d=9\/d=10:=by omega
  rcases this with rfl|rfl|rfl|rfl|rfl|rfl|rfl|rfl|rfl|rfl<;>rfl
 rw[<-hd,Gi h hs e,nO hs]
theorem SN{p:iu}: ∀k,p k-> ∃m,m<=k/\p m/\ ∀i,i<m-> ¬p i:=fun k=>by
 induction k using Nat.strongRecOn with
 |ind k ih=>
  intro h;by_cases q: ∃i,i<k/\p i
  ·obtain⟨i,hi,hp⟩:=q;obtain⟨m,h1,h2,h3⟩:=ih i hi hp;exact⟨m,by omega,h2,h3⟩
  ·exact⟨k,gY _,h,fun i hi hp=>q ⟨i,hi,hp⟩⟩
theorem Sz{n:Nat}(hn:n<=5){t:gc}(h:TT n t): ∃o,o<2520/\pwT n t (o+1)=st n/\ ∀i,i<o->pwT n t (i+1)≠st n:=by
 obtain⟨m,h1,h2,h3⟩:=SN (p:=fun i=>pwT n t (i+1)=st n) 2519 (PZ hn h);exact⟨m,by omega,h2,h3⟩
theorem MV{n:Nat}{t:gc}(h:TT n t):pwT n t 1=t:=
 tU (n:=n) (lq h 1).len h.len fun s hs=>by
  rw[show pwT n t 1=PV.beh (st n) t from rfl,nG (zM n) t hs,nO hs]
theorem rZ: ∀(k:Nat) (r f t:gc),r.length=k->(∀x∈r,0<=x)->t∈rq k r f->(t.map ab).Perm (f.map ab++r)
 |0,r,f,t,hr,_,h=>by
  simp[rq] at h;subst h;rw[Mo.mp hr];simp
 |k+1,r,f,t,hr,h0,h=>by
  simp only[rq,List.mem_flatMap,nU,DL] at h;obtain⟨v,hv,h⟩:=h;have hl:(r.eraseIdx v).length=k:=by rw[DO,gd hv];omega
  have hz: ∀x∈r.eraseIdx v,0<=x:=fun x hx=>h0 x (List.mem_of_mem_eraseIdx hx);have hx:=h0 _ (jK hv)
  have fin: ∀y:Int,ab y=r.getD v 0->(List.map ab (f++[y])++r.eraseIdx v).Perm (f.map ab++r):=fun y hy=>by
   rw[vG,jI];refine sJ _ ?_;simp only[il,vN,List.cons_append,vH,hy];have e:r.getD v 0=r[v]:=by simp[lh,hv]
   rw[e];rw[IS];have e2:r=r.take v++r[v]::r.drop (v+1):=by rw[<-sL hv,lK]
   conv=>rhs;rw[e2]
   exact Iw.symm
  rcases h with h|h
  ·exact(rZ k _ _ t hl hz h).trans (fin _ (by rw[xp];exact mX hx))
  ·exact(rZ k _ _ t hl hz h).trans (fin _ (by rw[Int.mul_neg,xp];exact Cc hx))
theorem F1{n:Nat}{t:gc}(h:t∈rq n (st n) []):TT n t:=by
 have:=rZ n (st n) [] t (rT n) (fun x hx=>by have:=JN.mp hx;omega) h;unfold TT;simpa using this
def lc(t c:gc):List Int:=(kr ltA ((c.map (led t)).map D.int)).map iOf
def LCs(t c d:gc):Prop:=d.Perm (c.map (led t))/\(d.map ab).Pairwise (· < ·)
theorem Lw{m:List D}{l:gc}(h:m.Perm (l.map D.int)):m=(m.map iOf).map D.int/\(m.map iOf).Perm l:=by
 obtain⟨k,rfl⟩:=BJ h;have e:(k.map D.int).map iOf=k:=by rw[iC];exact qZ k
 rw[e];refine⟨rfl,?_⟩;have:=h.map iOf
 rwa [e,iC,show List.map (iOf∘D.int) l=l from qZ l] at this
theorem vD{n:Nat}{t c:gc}(ht:TT n t)(h1:(c.map ab).Nodup)(h2: ∀s∈c,SG n s):((c.map (led t)).map ab).Nodup:=by
 rw[iC,List.Nodup,mY];rw[List.Nodup,mY] at h1;refine h1.imp_of_mem fun {a b} ha hb aU e=>aU ?_;have e:ab (led t a)=ab (led t b):=e;have l1:=h2 a ha;have l2:=h2 b hb;by_cases q:led t a=led t b
 ·rw[wO ht l1 l2 q]
 ·have:led t a=led t (-b):=by
   rw[qN t l2];unfold ab at e;split at e<;>split at e<;>omega
  rw[wO ht l1 (JW l2) this,lC]
theorem nH{n:Nat}{t c:gc}(ht:TT n t)(hc:ClOk n c):LCs t c (lc t c)/\(kr ltA ((c.map (led t)).map D.int))=(lc t c).map D.int:=by
 obtain⟨e,hp⟩:=Lw (jF ltA ((c.map (led t)).map D.int));refine⟨⟨hp,?_⟩,e⟩;have nd:=vD ht (Gh hc.2.1) fun s hs=>hc.2.2 s hs;have nd2:((lc t c).map ab).Nodup:=(hp.map ab).symm.nodup nd;have hs:=uX ((c.map (led t)).map D.int);rw[e,mY] at hs;rw[mY];rw[List.Nodup,mY] at nd2;refine(hs.and nd2).imp fun {a b} h=>?_;have h1:ab a<=ab b:=h.1;have h2:ab a≠ab b:=h.2;omega
theorem LCs.uniq{n:Nat}{t c d e:gc}(h1:LCs t c d)(h2:LCs t c e):d=e:=by
 have p1:=h1.2;have p2:=h2.2;rw[mY] at p1 p2;refine(h1.1.trans h2.1.symm).eq_of_pairwise (le:=fun a b=>ab a<ab b) (fun a b _ _ x y=>absurd x (by omega)) p1 p2
theorem LCs.cl{n:Nat}{t c d:gc}(h:LCs t c d)(ht:TT n t)(hc:ClOk n c):ClOk n d:=by
 refine⟨fun e=>hc.1 ?_,h.2,fun s hs=>?_⟩
 ·have:=h.1.length_eq;rw[e] at this;simp at this;exact Mo.mp this.symm
 ·obtain⟨x,hx,rfl⟩:=lS.mp (h.1.mem_iff.mp hs);exact ht.led (hc.2.2 x hx)
theorem GB{n:Nat}{t c:gc}(ht:TT n t)(hc:ClOk n c):ClOk n (lc t c):=(nH ht hc).1.cl ht hc
theorem Ov{n:Nat}{t u c:gc}(ht:TT n t)(hu:TT n u)(hc:ClOk n c):lc u (lc t c)=lc (beh t u) c:=by
 have h1:=(nH ht hc).1;have h2:=(nH hu (GB ht hc)).1;refine LCs.uniq (n:=n) (t:=beh t u) (c:=c) ⟨h2.1.trans ?_,h2.2⟩ (nH (ht.beh hu) hc).1;refine(h1.1.map _).trans (sG ?_);rw[iC];exact ma fun s hs=>(nG ht u (hc.2.2 s hs)).symm
theorem Ou{n:Nat}{c:gc}(hc:ClOk n c):lc (st n) c=c:=by
 refine LCs.uniq (n:=n) (t:=st n) (c:=c) (nH (zM n) hc).1 ⟨sG ?_,hc.2.1⟩
 conv=>lhs;rw[<-qZ c]
 exact ma fun s hs=>(nO (hc.2.2 s hs)).symm
theorem Ox{n:Nat}{t w c:gc}(ht:TT n t)(hw:BK n t w)(hc:ClOk n c):lc w (lc t c)=c:=by
 rw[Ov ht (hw.tt ht) hc,hw.still ht,Ou hc]
def LR(t:gc)(cs ds:iJ):Prop:=ds.Perm (cs.map (lc t))/\SrtC ds
theorem LR.rd{n:Nat}{t w:gc}{cs ds:iJ}(h:LR t cs ds)(ht:TT n t)(hw:BK n t w)(hc:qY n cs):qY n ds:=by
 refine⟨hc.1,⟨h.1.symm.nodup ?_,fun d hd=>?_⟩,h.2,by rw[h.1.length_eq,iG];exact hc.2.2.2⟩
 ·have nd:=hc.2.1.1;rw[List.Nodup,mY];refine nd.imp_of_mem fun {a b} ha hb aU e=>aU ?_;rw[<-Ox ht hw (hc.2.1.2 a ha),e,Ox ht hw (hc.2.1.2 b hb)]
 ·obtain⟨c,bx,rfl⟩:=lS.mp (h.1.mem_iff.mp hd);exact GB ht (hc.2.1.2 c bx)
theorem LR.comp{n:Nat}{t u:gc}{cs ds es:iJ}(h1:LR t cs ds)(h2:LR u ds es)(ht:TT n t)(hu:TT n u)(hc:qY n cs):LR (beh t u) cs es:=by
 refine⟨h2.1.trans ((h1.1.map _).trans (sG ?_)),h2.2⟩;rw[iC];exact ma fun c bx=>Ov ht hu (hc.2.1.2 c bx)
theorem LR.uniq{n:Nat}{t w:gc}{cs ds es:iJ}(h1:LR t cs ds)(h2:LR t cs es)(ht:TT n t)(hw:BK n t w)(hc:qY n cs):ds=es:=
 OX (h1.rd ht hw hc) (h2.rd ht hw hc) fun c=>h1.1.mem_iff.trans h2.1.mem_iff.symm
theorem LR.st{n:Nat}{cs:iJ}(hc:qY n cs):LR (PV.st n) cs cs:=by
 refine⟨sG ?_,hc.2.2.1⟩
 conv=>lhs;rw[<-qZ cs]
 exact ma fun c h=>(Ou (hc.2.1.2 c h)).symm
def qq(n:Nat)(a:gc):Prop:=a.length=n/\ ∀x∈a,x=0\/x=1
theorem G7: ∀{n:Nat} {a:gc},a∈kE n↔qq n a:=fun {n a}=>by
 constructor
 ·exact fun h=>qp h
 ·intro h
  induction n generalizing a with
  |zero=>rw[Mo.mp h.1];simp[kE]
  |succ n ih=>
   have j9:a≠[]:=fun e=>by have:=h.1;rw[e] at this;simp at this
   have e:=DN j9;have hl:=h.2 _ (List.getLast_mem j9);have:=ih (a:=a.dropLast) ⟨by rw[Ea,h.1];rfl,fun x hx=>h.2 x (IB _ hx)⟩;simp only[kE,List.mem_flatMap];refine⟨a.dropLast,this,?_⟩;rcases hl with z|z
   ·rw[z] at e;rw[e];simp
   ·rw[z] at e;rw[e];simp
def laF(w a:gc):List Int:=w.map fun s=>if soB a s=true then 1 else 0
theorem F7{n:Nat}{a:gc}(ha:qq n a){s:Int}(hs:SG n s):soB a (-s)=!soB a s:=by
 have hb:a.getD ((ab s).toNat-1) 0=0\/a.getD ((ab s).toNat-1) 0=1:=ha.2 _ (jK (by have:=hs.1;have:=hs.2;rw[ha.1];omega));have hz:=Ob hs;unfold soB;rw[lC];by_cases h:0<s
 ·rw[gk (by omega),gd (by omega)];rcases hb with e|e<;>rw[e]<;>rfl
 ·rw[gd (by omega),gk (by omega)];rcases hb with e|e<;>rw[e]<;>rfl
theorem se{n:Nat}{w:gc}(hw:TT n w)(a:gc):qq n (laF w a):=by
 refine⟨by simp[laF,hw.len],fun x hx=>?_⟩;obtain⟨s,_,rfl⟩:=lS.mp hx;split<;>simp
theorem JU{n:Nat}{w a:gc}(hw:TT n w)(ha:qq n a){s:Int}(hs:SG n s):soB (laF w a) s=soB a (led w s):=by
 have pos: ∀k:Nat,k<n->soB (laF w a) ((k:Int)+1)=soB a (led w ((k:Int)+1)):=fun k hk=>by
  rw[jG];have e:(laF w a).getD k 0=if soB a (w.getD k 0)=true then 1 else 0:=by simp[laF,lh,hw.len,hk]
  conv=>lhs;unfold soB
  rw[mX (by omega),show(((k:Int)+1).toNat-1)=k by omega,e,gd (show(k:Int)+1>0 by omega)];cases soB a (w.getD k 0)<;>rfl
 obtain⟨k,hk,rfl|rfl⟩:=ku hs
 ·exact pos k hk
 ·have h1:=CD hk;rw[F7 (se hw a) h1,pos k hk,qN w h1,F7 ha (hw.led h1)]
theorem KH{l m:gc}(p:Int->Bool)(h:l.Perm m):l.any p=m.any p:=by
 rw[Az,List.any_eq_true,List.any_eq_true];exact⟨fun⟨x,hx,e⟩=>⟨x,h.mem_iff.mp hx,e⟩,fun⟨x,hx,e⟩=>⟨x,h.mem_iff.mpr hx,e⟩⟩
theorem Md{α:Type}{l:List α}{p q:α->Bool}(h: ∀x∈l,p x=q x):l.any p=l.any q:=by
 induction l with
 |nil=>rfl
 |cons x l ih=>rw[uI,uI,h x iO,ih fun y hy=>h y (iT _ hy)]
theorem OA{n:Nat}{t w a c:gc}(ht:TT n t)(hw:BK n t w)(ha:qq n a)(hc:ClOk n c):kC (laF w a) (lc t c)=kC a c:=by
 unfold kC;rw[KH _ (nH ht hc).1.1,List.any_map];refine Md fun s hs=>?_;have h:=hc.2.2 s hs;show soB (laF w a) (led t s)=soB a s;rw[JU (hw.tt ht) ha (ht.led h),hw.2 s h]
theorem FL{n:Nat}{t w a:gc}{cs ds:iJ}(ht:TT n t)(hw:BK n t w)(ha:qq n a)(hc:qY n cs)(h:LR t cs ds):ds.all (kC (laF w a))=cs.all (kC a):=by
 rw[NZ fun c=>h.1.mem_iff,List.all_map,Az,kZ,kZ];refine forall_congr' fun c=>?_;constructor
 ·intro h' hm;rw[<-OA ht hw ha (hc.2.1.2 c hm)];exact h' hm
 ·intro h' hm;exact(OA ht hw ha (hc.2.1.2 c hm)).trans (h' hm)
theorem Ll{n:Nat}{w1 w2 a:gc}(h1:TT n w1)(h2:TT n w2)(ha:qq n a):laF w2 (laF w1 a)=laF (beh w2 w1) a:=by
 unfold beh laF;rw[iC];refine ma fun s hs=>?_;have:=JU h1 ha (h2.sg hs);unfold laF at this;simp only[Function.comp,this]
theorem Oy{n:Nat}{a:gc}(ha:qq n a):laF (st n) a=a:=by
 apply wY (by simp[laF,st,ha.1]);intro i h1 h2;have hi:i<n:=by rw[<-ha.1];exact h2
 have hx:=ha.2 _ (jT h2)
 have e:soB a ((i:Int)+1)=(a[i]==1):=by
  unfold soB;rw[mX (by omega),show(((i:Int)+1).toNat-1)=i by omega,gd (by omega)];simp[lh,h2]
 simp only[laF,st,wX,List.getElem_range,Int.add_comm 1 (i:Int),e];rcases hx with z|z<;>rw[z]<;>rfl
theorem G6: ∀n:Nat,n<6->(kE n).Nodup:=by decide+kernel
theorem NG{n:Nat}(hn:n<=5){t w:gc}{cs ds:iJ}(ht:TT n t)(hw:BK n t w)(hc:qY n cs)(h:LR t cs ds):((ou n cs).map (laF w)).Perm (ou n ds):=by
 have kw:=hw.tt ht
 have back: ∀{a:gc},qq n a->laF t (laF w a)=a:=fun {a} ha=>by
  rw[Ll kw ht ha,hw.still ht,Oy ha]
 have forth: ∀{a:gc},qq n a->laF w (laF t a)=a:=fun {a} ha=>by
  rw[Ll ht kw ha,(hw.sym ht).still kw,Oy ha]
 refine(IC ?_ ((G6 n (by omega)).filter _)).mpr fun b=>?_
 ·have nd:(ou n cs).Nodup:=(G6 n (by omega)).filter _;rw[List.Nodup,mY];refine nd.imp_of_mem fun {x y} hx hy hxy e=>hxy ?_;rw[<-back (G7.mp (IA.mp hx).1),e,back (G7.mp (IA.mp hy).1)]
 ·rw[lS];constructor
  ·rintro⟨a,ha,rfl⟩;obtain⟨h1,h2⟩:=IA.mp ha;exact IA.mpr ⟨G7.mpr (se kw a),(FL ht hw (G7.mp h1) hc h).trans h2⟩
  ·intro hb;obtain⟨h1,h2⟩:=IA.mp hb;have r6:=G7.mp h1;refine⟨laF t b,IA.mpr ⟨G7.mpr (se ht b),?_⟩,forth r6⟩;have:=FL ht hw (se ht b) hc h;rw[forth r6] at this;exact this.symm.trans h2
def RJ(fo:FO)(δ:Dn)(d:D):Prop:= ∃o,fo δ=some (o,δ)/\res δ o=some d
def FJ(fo:FO)(δ:Dn)(d:D):Prop:= ∃o,fo δ=some (o,δ)/\res δ o=some d/\wd δ o=some (d,false)
theorem FJ.r{fo:FO}{δ:Dn}{d:D}(h:FJ fo δ d):RJ fo δ d:=let⟨o,a,b,_⟩:=h;⟨o,a,b⟩
theorem jV{i:Nat}{δ:Dn}{d:D}(h:δ[i]?=some (some (d,false))):FJ (fO i) δ d:=⟨.slot i,by unfold fO;rw[h],by unfold res;simp[h],by simp[h]⟩
theorem jR{i:Nat}{δ:Dn}{d:D}{b:Bool}(h:δ[i]?=some (some (d,b))):RJ (fO i) δ d:=⟨.slot i,by unfold fO;rw[h],by unfold res;simp[h]⟩
theorem jE{f:F}{δ:Dn}{d:D}{b:Bool}(h:f δ=some ((d,b),δ)):FJ (fP f) δ d:=⟨.val (d,b),gJ h,rfl,rfl⟩
theorem jU1{ev:EvF}{fa:FO}{δ:Dn}{a:D}{r:D×Bool}{outs:Dn}(h:ev [(a,false)]=some (r,outs))(ha:FJ fa δ a):fV ev [fa] δ=some (r,δ):=by
 obtain⟨o,h1,_,h3⟩:=ha;refine(ie (qg h1) (args:=[a].map fun d=>(d,false)) (by simp[h3]) (by rw[tQ];exact lJ) h).trans ?_;rw[FY]
theorem jU2{ev:EvF}{fa fb:FO}{δ:Dn}{a b:D}{r:D×Bool}{outs:Dn}(h:ev [(a,false),(b,false)]=some (r,outs))(ha:FJ fa δ a)(hb:FJ fb δ b):fV ev [fa,fb] δ=some (r,δ):=by
 obtain⟨o,h1,_,h3⟩:=ha;obtain⟨o',k1,_,k3⟩:=hb;refine(ie (sv h1 k1) (args:=[a,b].map fun d=>(d,false)) (by simp[h3,k3]) (by rw[tQ];exact lJ) h).trans ?_;rw[FY]
theorem jO{g:D->D->Option (D×Bool)}{fa fb:FO}{δ:Dn}{a b:D}{r:D×Bool}(h:g a b=some r)(ha:RJ fa δ a)(hb:RJ fb δ b):fZ g fa fb δ=some (r,δ):=by
 obtain⟨o,h1,h2⟩:=ha;obtain⟨o',k1,k2⟩:=hb;exact jH h1 k1 h2 k2 h
theorem jN{g:D->Option (D×Bool)}{fa:FO}{δ:Dn}{a:D}{r:D×Bool}(h:g a=some r)(ha:RJ fa δ a):kh g fa δ=some (r,δ):=by
 obtain⟨o,h1,h2⟩:=ha;rw[Pq,h1];simp only[iD];rw[h2];simp only[iD];rw[h];rfl
theorem jC{g:D->Option (D×Bool)}{fa:FO}{δ:Dn}{a:D}{r:D×Bool}(h:g a=some r)(ha:RJ fa δ a):gn (g1 g) [fa] δ=some (r,δ):=by
 obtain⟨o,h1,h2⟩:=ha;exact mV (ds:=[a]) (qg h1) (by simp[h2]) h
theorem MA{f:F}{np:Nat}{args:List (D×Bool)}{r:D×Bool}{δ:Dn}(h1:args.length=np/\np<=np/\(args.zipIdx.all fun p=>!(p.1.2&&([]:List Nat).contains p.2))=true)(h2:f (args.map some++List.replicate (np-np) none)=some (r,δ)):evF np np [] (fY (hW f) gm) args=some (r,gC args δ):=
 jh h1 (iz (iQ h2))
theorem Oc{n:Nat}{s:Int}(h:SG n s):s≠0/\ -(n:Int)<=s/\s<=n:=by
 obtain⟨k,hk,rfl|rfl⟩:=ku h<;>omega
theorem HJ{n:Nat}{u:gc}(hu:u.length=n){s:Int}(h:SG n s):gO [enc u,(.int s,false)]=some ((.int (led u s),false),[some (enc u),some (.int s,false)]):=by
 obtain⟨a,b,c⟩:=Oc h;exact QN u s a (by rw[hu];exact b) (by rw[hu];exact c)
theorem Ld(f:Int->Int)(l:gc):(l.map D.int).map (fun d=>D.int (f (iOf d)))=(l.map f).map D.int:=by rw[iC,iC];rfl
theorem vt{caps:hU}{fi:FIt}{f:F}{δ δ1:Dn}{l:gc}{args:List D}(g:Int->Int)(h1:fi δ=some (l.map D.int,δ1))(h2:iR δ1 (caps.map .slot)=some (args.map fun d=>(d,false)))(hc:args.length=caps.length)
  (h: ∀x∈l,∃o,f (frz args++[some (.int x,false)])=some ((.int (g x),o),frz args++[some (.int x,false)]))(hl:l.length<=10000):
  hJ caps 1 fi (fX caps.length) gW (gQ f) δ=some ((.lst ((l.map g).map D.int),true),δ1):=by
 rw[qk (fun d=> .int (g (iOf d))) h1 h2 hc (fun d hd=>by obtain⟨x,hx,rfl⟩:=lS.mp hd;exact h x hx) (by simpa using hl),Ld]
theorem kK{n:Nat}(hn:n<=5){t u:gc}(ht:TT n t)(hu:u.length=n):iA [enc t,enc u]=some (enc (beh t u),[some (enc t),some (enc u)]):=by
 refine MA ⟨rfl,by decide,rfl⟩ (jC (a:= .lst ((beh t u).map D.int)) rfl (jE (b:=true) (vt (args:=[cD u]) (led u) rfl rfl rfl (fun x hx=>⟨false,?_⟩) (by rw[ht.len];omega))).r);exact jU2 (HJ hu (ht.sg hx)) (jV rfl) (jV rfl)
theorem Pg(n:Nat)(hn:n<=5):gRg .tup false [.int 1,.int ((n:Int)+1)]=some (.tup ((st n).map .int),false):=by
 have:n=0\/n=1\/n=2\/n=3\/n=4\/n=5:=by omega
 have h1:RgOk 1 ((n:Int)+1):=by rcases this with rfl|rfl|rfl|rfl|rfl|rfl<;>decide+kernel
 have h2:((n:Int)+1-1).toNat=n:=by omega
 show(if RgOk 1 ((n:Int)+1) then some (D.tup (gB 1 ((n:Int)+1-1).toNat),false) else none)=_;rw[gd h1,h2,<-JO]
theorem og{n:Nat}(hn:n<=5):jk [(.int n,false)]=some (enc (st n),[ii n]):=
 MA ⟨rfl,by decide,rfl⟩ (mV (os:=[.val (.int 1,false),.val (.int ((n:Int)+1),false)]) rfl rfl (Pg n hn))
theorem pS{n:Nat}(hn:n<=5){t:gc}(ht:TT n t):ig [(.int n,false),enc t]=some ((.bl true,false),[ii n,some (enc t)]):=by
 have h:tB n (cD t)=true:=by
  rw[R0];simp only[lB,mK,kZ,xh,iC];refine⟨fun d hd=>?_,ht⟩;obtain⟨x,_,rfl⟩:=lS.mp hd;rfl
 rw[xF n (cD t) (fun l e=>by cases e;rw[iG,ht.len];omega),h]
theorem Dy{n:Nat}(hn:n<=5){t:gc}(ht:TT n t):jx [(.int n,false),enc t]=some ((.non,false),[ii n,some (enc t)]):=by
 have:sIf (kW (fT (fV ig [(fO 0),(fO 1)]))) (fY Br gm) gm [ii n,some (enc t)]=some (.nx [ii n,some (enc t)]):=
  (tw (ug (lQ (jU2 (pS hn ht) (jV rfl) (jV rfl))))).trans rfl
 have e:kd [ii n,some (enc t)]=some (.nx [ii n,some (enc t)]):=(gh this).trans rfl;simp only[jx,evF];rw[gd ⟨rfl,by decide,rfl⟩];show(match kd [ii n,some (enc t)] with|some (.rt r δ)=>some (r,gC _ δ)|some (.nx δ)=>some ((D.non,false),gC _ δ)|_=>none)=_;rw[e];rfl
def sgJ(t:gc)(j:Nat):Int:=if t.getD j 0>0 then(j:Int)+1 else -((j:Int)+1)
def IvB(n:Nat)(t:gc)(k:Nat)(w:gc):Prop:=w.length=n/\ ∀j,j<k->w.getD ((ab (t.getD j 0)).toNat-1) 0=sgJ t j
theorem Q0{n:Nat}{t w:gc}(ht:TT n t)(h:IvB n t n w):BK n t w:=by
 refine⟨h.1,fun s hs=>?_⟩
 have one: ∀j,j<n->led w (t.getD j 0)=(j:Int)+1:=fun j hj=>by
  have hm:=ht.sg (jK (l:=t) (k:=j) (by rw[ht.len];exact hj));have e:=h.2 j hj;unfold sgJ at e;unfold led;unfold SG at hm;by_cases hp:t.getD j 0>0
  ·rw[gd hp] at e ⊢;rw[mX (by omega)] at e;rw[show(t.getD j 0-1).toNat=(t.getD j 0).toNat-1 by omega,e]
  ·have ea:ab (t.getD j 0)= -t.getD j 0:=by unfold ab;split<;>omega
   rw[gk hp] at e ⊢;rw[ea] at e hm;rw[show(-t.getD j 0-1).toNat=(-t.getD j 0).toNat-1 by omega,e];omega
 obtain⟨k,hk,rfl|rfl⟩:=ku hs
 ·rw[jG];exact one k hk
 ·rw[qN t (CD hk),qN w (ht.led (CD hk)),jG,one k hk]
theorem Lq{n:Nat}{t w:gc}(ht:TT n t){k:Nat}(hk:k<n)(h:IvB n t k w):IvB n t (k+1) (w.set ((ab (t.getD k 0)).toNat-1) (sgJ t k)):=by
 have bd: ∀j,j<n->1<=ab (t.getD j 0)/\ab (t.getD j 0)<=n:=fun j hj=>ht.sg (jK (l:=t) (k:=j) (by rw[ht.len];exact hj));refine⟨by simp[h.1],fun j hj=>?_⟩;have b1:=bd k hk;have b2:=bd j (by omega);by_cases e:j=k
 ·subst e;rw[lh,pv (by rw[h.1];omega)];rfl
 ·have ne:ab (t.getD j 0)≠ab (t.getD k 0):=fun q=>e (by
   have l:=ht.len
   have:=(En (xs:=t.map ab) (i:=j) (j:=k) (h₀:=by simp[l];omega) (h₁:=by simp[l];omega) (HB.mp ht).2.2).mp (by
    simp only[wX];simpa[lh,l,hk,show j<n by omega] using q)
   exact this)
  rw[lh,pO (by omega),<-lh];exact h.2 j (by omega)
abbrev fbB:FS:=(fY (oM 1 (fIf (fT (fZ (lb .Gt) (fO 3) (fP (fC (.int 0))))) (iI 2) (kh oA (fO 2))) (fP (fZ gSub (fP (gn (g1 sh) [(fO 3)])) (fP (fC (.int 1)))))) gm)
theorem Rl{n:Nat}{t w:gc}(ht:TT n t){k:Nat}(hk:k<n)(hw:w.length=n):fbB [some (enc t),lsi w,ii ((k:Int)+1),ii (t.getD k 0)]=some (.nx [some (enc t),lsi (w.set ((ab (t.getD k 0)).toNat-1) (sgJ t k)),ii ((k:Int)+1),ii (t.getD k 0)]):=by
 have hm:=ht.sg (jK (l:=t) (k:=k) (by rw[ht.len];exact hk))
 have e1:fIf (fT (fZ (lb .Gt) (fO 3) (fP (fC (.int 0))))) (iI 2) (kh oA (fO 2)) [some (enc t),lsi w,ii ((k:Int)+1),ii (t.getD k 0)]=some ((.int (sgJ t k),false),[some (enc t),lsi w,ii ((k:Int)+1),ii (t.getD k 0)]):=by
  rw[Of,lQ (o:=false) (jO (Sa _ _) (jV rfl).r (jE rfl).r)];simp only[iD];unfold sgJ;by_cases hp:t.getD k 0>0
  ·rw[gd (by simpa using hp),gd hp];rfl
  ·rw[gk (by simpa using hp),gk hp];rfl
 have e2:fP (fZ gSub (fP (gn (g1 sh) [(fO 3)])) (fP (fC (.int 1)))) [some (enc t),lsi w,ii ((k:Int)+1),ii (t.getD k 0)]=some (.val (.int (ab (t.getD k 0)-1),false),[some (enc t),lsi w,ii ((k:Int)+1),ii (t.getD k 0)]):=rfl
 have hx:ixN (w.map D.int).length (ab (t.getD k 0)-1)=some ((ab (t.getD k 0)).toNat-1):=by
  have:=hm.1;have:=hm.2;unfold ixN;rw[iG,hw,gd (by omega),gd (by omega)]
  congr 1;omega
 refine(gh (δ1:=[some (enc t),lsi (w.set ((ab (t.getD k 0)).toNat-1) (sgJ t k)),ii ((k:Int)+1),ii (t.getD k 0)]) ?_).trans rfl;unfold oM;rw[e1];simp only[iD,List.getElem?_cons_succ,List.getElem?_cons_zero];rw[e2];simp only[iD,Kf,List.getElem?_cons_succ,List.getElem?_cons_zero];rw[hx];simp[lsi,List.map_set]
theorem SY{n:Nat}{t:gc}(ht:TT n t): ∀(m k:Nat) (w:gc) (x y:Sl),k+m=n->IvB n t k w-> ∃w' x' y',IvB n t n w'/\ue (mR [(fX 2),(fX 3)]) fbB ((List.range' k m).map fun(j:Nat)=> .tup [.int ((j:Int)+1),.int (t.getD j 0)]) [some (enc t),lsi w,x,y]=some (.nx [some (enc t),lsi w',x',y'])
 |0,k,w,x,y,h,hi=>⟨w,x,y,by rw[show k=n by omega] at hi;exact hi,rfl⟩
 |m+1,k,w,x,y,h,hi=>by
  obtain⟨w',x',y',h1,e⟩:=SY ht m (k+1) _ (ii ((k:Int)+1)) (ii (t.getD k 0)) (by omega) (Lq ht (by omega) hi);refine⟨w',x',y',h1,?_⟩;rw[AK,il];unfold ue;rw[show mR [(fX 2),(fX 3)] (.tup [.int ((k:Int)+1),.int (t.getD k 0)]) [some (enc t),lsi w,x,y]=some [some (enc t),lsi w,ii ((k:Int)+1),ii (t.getD k 0)] from rfl];simp only[iD];rw[Rl ht (by omega) hi.1];exact e
theorem Rm(t:gc):(((t.map D.int).zipIdx).map fun q=>D.tup [.int (1+q.2),q.1])=(List.range' 0 t.length).map fun(j:Nat)=> .tup [.int ((j:Int)+1),.int (t.getD j 0)]:=by
 apply wY
 ·simp
 ·intro i h1 h2;have hi:i<t.length:=by simpa using h1
  simp[lh,hi,Int.add_comm]
theorem ph{n:Nat}{t:gc}(ht:TT n t): ∃w,BK n t w/\kY [enc t]=some (enc w,[some (enc t)]):=by
 obtain⟨w,x,y,h,e⟩:=SY ht n 0 t none none (by omega) ⟨ht.len,fun j hj=>absurd hj (by omega)⟩;refine⟨w,Q0 ht h,?_⟩;refine jh (δ:=[some (enc t),lsi w,x,y]) ⟨rfl,by decide,rfl⟩ ?_;refine(gh (δ1:=[some (enc t),lsi t,none,none]) rfl).trans ((gh ((nA (δ1:=[some (enc t),lsi t,none,none]) (ds:=(List.range' 0 n).map fun(j:Nat)=> .tup [.int ((j:Int)+1),.int (t.getD j 0)]) ?_).trans e)).trans ?_)
 ·show some ((((t.map D.int).zipIdx).map fun q=>D.tup [.int (1+q.2),q.1]),([some (enc t),lsi t,none,none]:Dn))=_;rw[Rm,ht.len]
 ·exact iz (iQ (jC (a:= .lst (w.map D.int)) rfl (jR rfl)))
theorem BK.uniq{n:Nat}{t w v:gc}(ht:TT n t)(h1:BK n t w)(h2:BK n t v):w=v:=
 tU h1.1 h2.1 fun s hs=>by
  have e:=(h1.sym ht).2 s hs;have:=h2.2 _ ((h1.tt ht).led hs);rw[e] at this;exact this.symm
theorem Cb{n:Nat}{t w:gc}(ht:TT n t)(hw:BK n t w):kY [enc t]=some (enc w,[some (enc t)]):=by
 obtain⟨v,h1,e⟩:=ph ht;rw[hw.uniq ht h1];exact e
theorem Rb(a b:gc):gNe (cD a) (cD b)=some (.bl (!decide (a=b)),false):=by
 unfold gNe;rw[gd (by rw[pd,pd];decide),BO]
theorem LC(a b:gc):gEq (cD a) (cD b)=some (.bl (decide (a=b)),false):=by
 unfold gEq;rw[gd (by rw[pd,pd];decide),BO]
theorem FV{ft:FT}{fb:FS}{k:Nat}{δ δ1 δ2:Dn}(h:ft δ=some (true,δ1))(hb:fb δ1=some (.nx δ2)):kI ft fb (k+1) δ=kI ft fb k δ2:=by
 rw[kI,h];simp only[iD,gM];rw[hb];rfl
theorem FW{ft:FT}{fb:FS}{k:Nat}{δ δ1:Dn}(h:ft δ=some (false,δ1)):kI ft fb (k+1) δ=some (.nx δ1):=by
 rw[kI,h];rfl
abbrev ftO:FT:=(fT (fZ gNe (fO 2) (fP (fV jk [(fP (gn (g1 lV) [(fO 0)]))]))))
abbrev fbO:FS:=(fY (js 2 (fV iA [(fO 2),(fO 0)])) (fY (J5 1 (fun i j=>i+j) (fC (.int 1))) gm))
theorem Li{n:Nat}{t:gc}(h:t.length=n):lV (cD t)=some (.int n,false):=by rw[Kg,iG,h]
theorem Jy{n:Nat}(hn:n<=5){t:gc}(ht:TT n t){o:Nat}(h1:pwT n t (o+1)=st n)(h2: ∀i,i<o->pwT n t (i+1)≠st n): ∀(m i fuel:Nat),i+m=o->m<fuel->kI ftO fbO fuel [some (enc t),ii ((i:Int)+1),some (enc (pwT n t (i+1)))]=some (.nx [some (enc t),ii ((o:Int)+1),some (enc (st n))])
 |m,i,0,_,hf=>by omega
 |m,i,fuel+1,him,hf=>by
  have t1:ftO [some (enc t),ii ((i:Int)+1),some (enc (pwT n t (i+1)))]=some (!decide (pwT n t (i+1)=st n),[some (enc t),ii ((i:Int)+1),some (enc (pwT n t (i+1)))]):=
   lQ (o:=false) (jO (Rb _ _) (jV rfl).r (jE (jU1 (og hn) (jE (jC (Li ht.len) (jV rfl).r)))).r)
  cases m with
  |zero=>
   have:i=o:=by omega
   subst this;rw[h1] at t1 ⊢;exact FW (t1.trans (by simp))
  |succ m=>
   have j9:=h2 i (by omega)
   have b1:fbO [some (enc t),ii ((i:Int)+1),some (enc (pwT n t (i+1)))]=some (.nx [some (enc t),ii (((i+1:Nat):Int)+1),some (enc (pwT n t (i+1+1)))]):=by
    refine(gh (jj (i:=2) (δ1:=[some (enc t),ii ((i:Int)+1),some (enc (pwT n t (i+1)))]) (jU2 (kK hn (lq ht (i+1)) ht.len) (jV rfl) (jV rfl)) (show 2<3 by decide))).trans ?_;rw[show(((i+1:Nat):Int)+1)=(i:Int)+1+1 by omega];rfl
   exact(FV (t1.trans (by rw[lL j9];rfl)) b1).trans (Jy hn ht h1 h2 m (i+1) fuel (by omega) (by omega))
theorem KZ{n:Nat}(hn:n<=5){t:gc}(ht:TT n t){o:Nat}(ho:o<2520)(h1:pwT n t (o+1)=st n)(h2: ∀i,i<o->pwT n t (i+1)≠st n):qh [enc t]=some ((.int ((o:Int)+1),false),[some (enc t)]):=by
 have w:=Jy hn ht h1 h2 o 0 N5 (by omega) (by show o<100000;omega);rw[MV ht] at w;refine jh (δ:=[some (enc t),ii ((o:Int)+1),some (enc (st n))]) ⟨rfl,by decide,rfl⟩ ?_;refine(gh (δ1:=[some (enc t),ii 1,none]) rfl).trans ((gh (δ1:=[some (enc t),ii 1,some (enc t)]) rfl).trans ((gh w).trans (iz rfl)))
theorem JS{n:Nat}{t c:gc}(hn:n<=5)(ht:TT n t)(hc:ClOk n c):vn (.lst ((c.map (led t)).map D.int))=some (.lst ((lc t c).map D.int),true):=by
 have:=hc.len;show(if((c.map (led t)).map D.int).all isI=true/\(((c.map (led t)).map D.int).map aD).Nodup/\((c.map (led t)).map D.int).length<64 then some (D.lst (kr ltA ((c.map (led t)).map D.int)),true) else none)=_
 have hA:((c.map (led t)).map D.int).all isI=true:=by
  rw[kZ];intro d hd;obtain⟨x,_,rfl⟩:=lS.mp hd;rfl
 have hB:(((c.map (led t)).map D.int).map aD).Nodup:=by
  rw[iC];exact vD ht (Gh hc.2.1) fun s hs=>hc.2.2 s hs
 rw[gd ⟨hA,hB,by simp;omega⟩,(nH ht hc).2]
theorem NF{n:Nat}(hn:n<=5){t c:gc}(ht:TT n t)(hc:ClOk n c):nP [enc c,enc t]=some (enc (lc t c),[some (enc c),some (enc t)]):=by
 have:=hc.len;refine MA ⟨rfl,by decide,rfl⟩ (jC (a:= .lst ((lc t c).map D.int)) rfl (jE (b:=true) (jC (JS hn ht hc) (jE (b:=true) (vt (args:=[cD t]) (led t) rfl rfl rfl (fun x hx=>⟨false,?_⟩) (by omega))).r)).r);exact jU2 (HJ ht.len (hc.2.2 x hx)) (jV rfl) (jV rfl)
theorem GU{caps:hU}{fi:FIt}{f:F}{δ δ1:Dn}{l:iJ}{args:List D}(g:List Int->List Int)(h1:fi δ=some (l.map cD,δ1))(h2:iR δ1 (caps.map .slot)=some (args.map fun d=>(d,false)))(hc:args.length=caps.length)
  (h: ∀x∈l,∃o,f (frz args++[some (cD x,false)])=some ((cD (g x),o),frz args++[some (cD x,false)]))(hl:l.length<=10000):
  hJ caps 1 fi (fX caps.length) gW (gQ f) δ=some ((.lst ((l.map g).map cD),true),δ1):=by
 rw[qk (fun d=>cD (g (unC d))) h1 h2 hc (fun d hd=>by obtain⟨x,hx,rfl⟩:=lS.mp hd;rw[rS];exact h x hx) (by simpa using hl)];rw[iC,iC,ma (g:=cD∘g) fun x _=>by simp only[Function.comp,rS]]
theorem wC{cs:iJ}(h:rV (cs.map cD)=true)(hl:cs.length<=10000): ∃ds:List (List Int),ds.Perm cs/\SrtC ds/\ky (cs.map cD)=some (.lst (ds.map cD),true):=by
 obtain⟨ds,e,hp⟩:=Fp (jF ltT (cs.map cD));refine⟨ds,hp,?_,?_⟩
 ·have:=zN (cs.map cD);rw[e,mY] at this;exact this
 ·unfold ky;rw[gd ⟨h,by rw[iG];exact Be hl⟩,e]
theorem GN{f g:F}{δ:Dn}{a b:D×Bool}(h1:f δ=some (a,δ))(h2:g δ=some (b,δ)):oD [f,g] δ=some ((.tup [a.1,b.1],false),δ):=by
 rw[Pp,show[f,g].map fP=[fP f,fP g] from rfl,sv (gJ h1) (gJ h2)];simp[jA]
theorem C5{n:Nat}{t:gc}{cs:iJ}(ht:TT n t)(hr:qY n cs): ∃ds,LR t cs ds/\lW [(rD' n cs,false),enc t]=some ((rD' n ds,false),[some (rD' n cs,false),some (enc t)]):=by
 have hn:=hr.1;have h30:=hr.2.2.2
 obtain⟨ds,hp,hs,e⟩:=wC (cs:=cs.map (lc t)) (qD _ fun c hc=>by
  obtain⟨x,hx,rfl⟩:=lS.mp hc;exact(GB ht (hr.2.1.2 x hx)).1) (by simp;omega)
 refine⟨ds,⟨hp,hs⟩,?_⟩;refine jh (δ:=[some (rD' n cs,false),some (enc t),ii n,some (.tup (cs.map cD),false)]) ⟨rfl,by decide,rfl⟩ ?_;refine(gh (δ1:=[some (rD' n cs,false),some (enc t),ii n,some (.tup (cs.map cD),false)]) rfl).trans ?_;refine(gh (tD (jU2 (Dy hn ht) (jV rfl) (jV rfl)))).trans (iz (iQ (GN (a:=(.int n,false)) (b:=(.tup (ds.map cD),false)) rfl (jC (a:= .lst (ds.map cD)) rfl (jE (b:=true) (jC e (jE (b:=true) (GU (l:=cs) (args:=[cD t]) (lc t) rfl rfl rfl (fun x hx=>⟨false,?_⟩) (by omega))).r)).r))));exact jU2 (NF hn ht (hr.2.1.2 x hx)) (jV rfl) (jV rfl)
theorem wN{n:Nat}(hn:n<=5){t w a:gc}(ht:TT n t)(hw:BK n t w)(ha:qq n a):gy [enc a,enc t]=some (enc (laF w a),[some (enc a),some (enc t)]):=by
 have kw:=hw.tt ht;refine jh (δ:=[some (enc a),some (enc t)]) ⟨rfl,by decide,rfl⟩ ?_;refine(gh (tD (jU2 (Dy hn ht) (jE (jC (Li ha.1) (jV rfl).r)) (jV rfl)))).trans (iz (iQ (jC (a:= .lst ((laF w a).map D.int)) rfl (jE (b:=true) (vt (args:=[cD a]) (fun s=>if soB a s=true then 1 else 0) (fi:=hZ (fV kY [(fO 1)])) (l:=w) ?_ rfl rfl (fun x hx=>⟨false,?_⟩) (by rw[kw.len];omega))).r)))
 ·rw[wJ,jU1 (Cb ht hw) (jV rfl)];rfl
 ·rw[Of,lQ (jU2 (Oa a x (by have:=kw.sg hx;rw[ha.1];exact this)) (jV rfl) (jV rfl))];cases soB a x<;>rfl
theorem L6: ∀(l:iJ) (acc:List D) (x y:Sl),(∀p∈l,∃i j,p=[i,j])->acc.length+l.length<=1000-> ∃x' y',iP (mR [(fX 0),(fX 1)]) gW (gQ (iI 1)) (l.map cD) acc [x,y]=some (acc++l.map fun p=>D.int (p.getD 1 0),[x',y'])
 |[],acc,x,y,_,_=>⟨x,y,by simp[iP]⟩
 |p::l,acc,x,y,h,hl=>by
  obtain⟨i,j,rfl⟩:=h p iO;obtain⟨x',y',e⟩:=L6 l (acc++[.int j]) (ii i) (ii j) (fun q hq=>h q (iT _ hq)) (by simp at hl ⊢;omega);refine⟨x',y',?_⟩;rw[il,iP];rw[show mR [(fX 0),(fX 1)] (cD [i,j]) [x,y]=some [ii i,ii j] from rfl];simp only[iD,tE,gM,tH];rw[show iI 1 [ii i,ii j]=some ((.int j,false),[ii i,ii j]) from rfl];simp only[iD];rw[gd (wD (by simp at hl;omega))];simp only[iD];rw[e];simp
theorem NS{a s b r:Int}(h:ltT (cD [b,r]) (cD [a,s])=false):a<=b:=by
 rw[kb] at h;by_cases q:b<a
 ·exact absurd (by simp[cT,cL,q]) h
 ·omega
theorem QM{n:Nat}(hn:n<=5){t c:gc}(ht:TT n t)(hc:ClOk n c): ∃sl,jg [enc c,enc t]=some (enc (lc t c),[some (enc c),sl])/\sl=some (enc t):=by
 have hl:=hc.len
 let pr:Int->List Int:=fun s=>[ab (led t s),led t s]
 obtain⟨ds,hp,hs,e⟩:=wC (cs:=c.map pr) (qD _ fun x hx=>by obtain⟨y,_,rfl⟩:=lS.mp hx;simp[pr]) (by simp;omega)
 have c1:hJ [1] 1 (hZ (iI 0)) (fX 1) gW (gQ (oD [(gn (g1 sh) [(fP (fV gX [(fO 0),(fO 1)]))]),(fV gX [(fO 0),(fO 1)])])) [some (enc c),some (enc t),none]=some ((.lst ((c.map pr).map cD),true),[some (enc c),some (enc t),none]):=by
  refine(qk (caps:=[1]) (args:=[cD t]) (l:=c.map D.int) (δ1:=[some (enc c),some (enc t),none]) (fun d=>cD (pr (iOf d))) rfl rfl rfl (fun d hd=>?_) (by simp;omega)).trans ?_
  rotate_left
  ·rw[iC,iC];rfl
  ·obtain⟨x,hx,rfl⟩:=lS.mp hd;obtain⟨a1,b1,c1⟩:=Oc (hc.2.2 x hx);have e1:fV gX [(fO 0),(fO 1)] (frz [cD t]++[some (.int x,false)])=some ((.int (led t x),false),frz [cD t]++[some (.int x,false)]):=jU2 (NC t x a1 (by rw[ht.len];exact b1) (by rw[ht.len];exact c1)) (jV rfl) (jV rfl);exact⟨false,GN (jC (Sf _) (jE e1).r) e1⟩
 have c2: ∀v:Sl,∃x' y',iP (mR [(fX 0),(fX 1)]) gW (gQ (iI 1)) (ds.map cD) [] [none,none]=some (ds.map fun p=>D.int (p.getD 1 0),[x',y']):=fun v=>by
  obtain⟨x',y',e⟩:=L6 ds [] none none (fun p hm=>by
   obtain⟨y,_,rfl⟩:=lS.mp (hp.mem_iff.mp hm);exact⟨_,_,rfl⟩) (by rw[hp.length_eq];simp;omega)
  exact⟨x',y',by simpa using e⟩
 obtain⟨x',y',c2⟩:=c2 none
 have hlc:(ds.map fun p=>p.getD 1 0)=lc t c:=by
  have e1:(ds.map fun p=>p.getD 1 0).Perm (c.map (led t)):=by
   have:=hp.map fun p=>p.getD 1 0
   rwa [iC] at this
  have ab2: ∀p∈ds,p=[ab (p.getD 1 0),p.getD 1 0]:=fun p hm=>by
   obtain⟨y,_,rfl⟩:=lS.mp (hp.mem_iff.mp hm);rfl
  refine LCs.uniq (n:=n) (t:=t) (c:=c) ⟨e1,?_⟩ (nH ht hc).1;have nd:((ds.map fun p=>p.getD 1 0).map ab).Nodup:=(e1.map ab).symm.nodup (vD ht (Gh hc.2.1) fun s hs=>hc.2.2 s hs);rw[iC,mY];rw[iC,List.Nodup,mY] at nd;refine(List.Pairwise.and hs nd).imp_of_mem fun {p q} h1 h2 h=>?_;have h3:=h.1;rw[ab2 p h1,ab2 q h2] at h3;have:=NS h3;have h4:=h.2;simp only[Function.comp] at h4 ⊢;omega
 refine⟨_,?_,rfl⟩;refine jh (δ:=[some (enc c),some (enc t),some (.lst ((c.map pr).map cD),true)]) ⟨rfl,by decide,rfl⟩ ?_;refine(gh (jj (i:=2) c1 (show 2<3 by decide))).trans (iz (iQ (jC (a:= .lst ((lc t c).map D.int)) rfl (jE (b:=true) ?_).r)));rw[uh (l:=ds.map cD) (δ1:=[some (enc c),some (enc t),some (.lst ((c.map pr).map cD),true)]) (args:=[]) (fi:=hZ (gn (g1 nI) [(fO 2)])) ?_ rfl (by simp[gv]) c2]
 ·have e5:(ds.map fun p=>D.int (p.getD 1 0))=(lc t c).map D.int:=by rw[<-hlc,iC];rfl
  rw[e5];rfl
 ·rw[wJ,jC (show nI (.lst ((c.map pr).map cD))=some (.lst (ds.map cD),true) from e) (jR rfl)];rfl
abbrev fsg:F:=(fZ gIx (fP (my [(fC (.int 1)),(kh oA (fP (fC (.int 1))))])) (fP (fV gz [(fO 0),(fP (fC (.int 2)))])))
theorem JV(a:Int)(b:Bool): ∃(s a':Int),(s=1\/s= -1)/\ ∀δ:Dn,fsg (stt a b::δ)=some ((.int s,false),stt a' b::δ):=by
 obtain⟨v,a',v0,v1,e⟩:=qA a b 2 (by omega) (by omega);refine⟨if v=0 then 1 else -1,a',by split<;>simp,fun δ=>?_⟩;refine jH (o1:= .val (.lst [.int 1,.int (-1)],true)) (δ1:=stt a b::δ) rfl (gJ (e _ δ _ rfl rfl)) rfl rfl ?_;rcases(show v=0\/v=1 by omega) with rfl|rfl<;>rfl
theorem Oq{x s:Int}(h:s=1\/s= -1): ∃y,(y=x\/y= -x)/\mT (.int x) (.int s)=some (.int y,false):=by
 rcases h with rfl|rfl
 ·exact⟨x,.inl rfl,SM x⟩
 ·exact⟨-x,.inr rfl,SJ x⟩
abbrev tiC:FT:=(fT (fZ gEq (fP (fV gz [(fO 0),(fP (fC (.int 2)))])) (fP (fC (.int 0)))))
theorem OI(b:Bool): ∀(m j:Nat) (a:Int) (c:gc) (x:Sl),1<=j->CA j c->c.length+m<=10-> ∃a' c' x',CA (j+m:Nat) c'/\c'.length<=10/\iP (fX 1) tiC (gQ (fZ mT (fO 1) (fP fsg))) ((List.range' j m).map fun(k:Nat)=>D.int (k:Int)) (c.map .int) [stt a b,x]=some (c'.map .int,[stt a' b,x'])
 |0,j,a,c,x,_,hc,hl=>⟨a,c,x,by simpa using hc,by omega,rfl⟩
 |m+1,j,a,c,x,hj,hc,hl=>by
  obtain⟨v,a1,v0,v1,e1⟩:=qA a b 2 (by omega) (by omega)
  have t1:tiC [stt a b,ii j]=some (v==0,[stt a1 b,ii j]):=
   lQ (o:=false) (jH (o1:= .val (.int v,false)) (δ1:=[stt a1 b,ii j]) (o2:= .val (.int 0,false)) (gJ (e1 _ [ii j] _ rfl rfl)) rfl rfl rfl (Og _ _))
  rw[AK,il]
  have st: ∀(a2:Int) (c2:gc),CA (j+1:Nat) c2->c2.length+m<=10->(if(v==0)=true then gQ (fZ mT (fO 1) (fP fsg)) (c.map .int) [stt a1 b,ii j] else some (c.map .int,[stt a1 b,ii j]))=some (c2.map .int,[stt a2 b,ii j])->
    ∃a' c' x',CA (j+(m+1):Nat) c'/\c'.length<=10/\iP (fX 1) tiC (gQ (fZ mT (fO 1) (fP fsg))) (D.int j::(List.range' (j+1) m).map fun(k:Nat)=>D.int (k:Int)) (c.map .int) [stt a b,x]=some (c'.map .int,[stt a' b,x']):=fun a2 c2 h1 h2 e=>by
   obtain⟨a',c',x',k1,k2,k3⟩:=OI b m (j+1) a2 c2 (ii j) (by omega) h1 h2;refine⟨a',c',x',by rw[show j+(m+1)=j+1+m by omega];exact k1,k2,?_⟩;rw[iP,show fX 1 (.int j) [stt a b,x]=some [stt a b,ii j] from rfl];simp only[iD];rw[t1];simp only[iD];rw[e];exact k3
  by_cases hv:v=0
  ·obtain⟨s,a2,hs,e2⟩:=JV a1 b;obtain⟨y,hy,e3⟩:=Oq (x:=j) hs;refine st a2 (c++[y]) (by have:=hc.snoc (s:=y) (by rcases hy with rfl|rfl;exact mX (by omega);exact Cc (by omega)) (by omega);simpa using this) (by simp;omega) ?_;rw[hv,gd (show((0:Int)==0)=true from rfl),tH,jH (o1:= .slot 1) (δ1:=[stt a1 b,ii j]) rfl (gJ (e2 [ii j])) rfl rfl e3];simp only[iD];rw[gd (wD (by simp;omega))];simp
  ·refine st a1 c (by simpa using hc.up) (by omega) ?_;rw[gk (by simpa using hv)]
theorem Hm(n:Nat):gB 1 n=(List.range' 1 n).map fun(k:Nat)=>D.int (k:Int):=by
 unfold gB;rw[List.range'_eq_map_range,iC];exact ma fun k _=>by simp
theorem Fs(a:Int)(b:Bool)(n:Nat)(h1:1<=n)(h5:n<=5): ∃a' c,ClOk n c/\jl [(.lst [.int a,.bl b],true),(.int n,false)]=some (enc c,[stt a' b,ii n]):=by
 obtain⟨a1,c,x,hc,hl,e1⟩:=OI b n 1 a [] none (by omega) ⟨by simp,by simp⟩ (by simp;omega)
 have r1:De (fP (fC (.int 1))) (fP (fZ oU (fO 1) (fP (fC (.int 1))))) [stt a b,ii n,none]=some (((List.range' 1 n).map fun(k:Nat)=>D.int (k:Int)),[stt a b,ii n,none]):=by
  rw[GI (o1:= .val (.int 1,false)) (o2:= .val (.int ((n:Int)+1),false)) (i:=1) (j:=(n:Int)+1) rfl rfl rfl rfl (by omega) (by omega),show((n:Int)+1-1).toNat=n by omega,Hm]
 have pre: ∀g,fY (js 2 (hJ [0] 1 (De (fP (fC (.int 1))) (fP (fZ oU (fO 1) (fP (fC (.int 1)))))) (fX 1) tiC (gQ (fZ mT (fO 1) (fP fsg))))) g [stt a b,ii n,none]=g [stt a1 b,ii n,lsi c]:=fun g=>
  gh (jj (i:=2) (δ1:=[stt a1 b,ii n,none]) ((uh (caps:=[0]) (args:=[(.lst [.int a,.bl b],true)]) r1 rfl (show([0]:List Nat).Nodup by decide) e1).trans rfl) (show 2<3 by decide))
 have t1:fT (fZ gEq (fO 2) (fP (my []))) [stt a1 b,ii n,lsi c]=some (decide (c=[]),[stt a1 b,ii n,lsi c]):=
  lQ (o:=false) (jH (o1:= .slot 2) (o2:= .val (.lst [],true)) (δ2:=[stt a1 b,ii n,lsi c]) rfl (gJ (by simp[jA])) rfl rfl (HX c []))
 by_cases hn:c=[]
 ·obtain⟨i,a2,i0,i1,e2⟩:=qA a1 b n (by omega) (by omega);obtain⟨s,a3,hs,e3⟩:=JV a2 b;obtain⟨y,hy,e4⟩:=Oq (x:=1+i) hs;have hay:ab y=1+i:=by rcases hy with rfl|rfl;exact mX (by omega);exact Cc (by omega)
  refine⟨a3,[y],⟨by simp,by simp,fun z hz=>by simp at hz;subst hz;rw[hay];omega⟩,?_⟩;refine jh (δ:=[stt a3 b,ii n,lsi [y]]) ⟨rfl,by decide,rfl⟩ ((pre _).trans ?_);rw[hn] at t1;rw[hn];refine(gh ((J3 t1).trans ((gh (δ1:=[stt a3 b,ii n,lsi [y]]) (jj (i:=2) (δ1:=[stt a3 b,ii n,lsi []]) (r:=(.lst [.int y],true)) ?_ (show 2<3 by decide))).trans rfl))).trans (iz (iQ (jC (a:= .lst [.int y]) rfl (jR rfl))));refine NP (os:=[.val (.int y,false)]) (qg (gJ (jH (o1:= .val (.int (1+i),false)) (δ1:=[stt a2 b,ii n,lsi []]) (gJ (jH (o1:= .val (.int 1,false)) (δ1:=[stt a1 b,ii n,lsi []]) rfl (gJ (e2 _ [ii n,lsi []] (.slot 1) rfl rfl)) rfl rfl (Se _ _))) (gJ (e3 [ii n,lsi []])) rfl rfl e4))) rfl (Be (by simp))
 ·refine⟨a1,c,⟨hn,hc.1,fun s hs=>by have:=hc.2 s hs;omega⟩,?_⟩;refine jh (δ:=[stt a1 b,ii n,lsi c]) ⟨rfl,by decide,rfl⟩ ((pre _).trans ?_);rw[lL hn] at t1;exact(gh ((tw t1).trans rfl)).trans (iz (iQ (jC (a:= .lst (c.map D.int)) rfl (jR rfl))))
def dC(cs:iJ):D:= .oth .dct (cs.map cD) (cs.map fun _=> .bl true)
theorem Af: ∀l:List Int,(C9 (l.map .int)).isSome=true
 |[]=>rfl
 |x::l=>by
  have:=Af l;simp only[il,C9,zm]
  cases h:C9 (l.map D.int) with
  |none=>rw[h] at this;cases this
  |some k=>rfl
theorem GF(c:gc):(vm (cD c)).isSome=true:=Af c
theorem GD(cs:iJ):((cs.map cD).all fun k=>(vm k).isSome)=true:=by
 rw[kZ];intro d hd;obtain⟨c,_,rfl⟩:=lS.mp hd;exact GF c
theorem C7(cs:iJ)(c:gc):tY (cs.map cD) (cD c)=true:=by
 unfold tY;rw[GF,GD];simp
theorem J8(c:gc): ∀cs:List (List Int),rm (cs.map cD) (cs.map fun _=> .bl true) (cD c) (.bl true)=cs.map fun _=> .bl true
 |[]=>rfl
 |x::cs=>by simp[rm,J8 c cs]
theorem P0(cs:iJ)(c:gc):D.oth .dct (qX (cs.map cD) (cs.map fun _=> .bl true) (cD c) (.bl true)).1 (qX (cs.map cD) (cs.map fun _=> .bl true) (cD c) (.bl true)).2=dC (vC cs c):=by
 unfold qX vC dC;rw[Mc];by_cases h:c∈cs
 ·rw[gd (by simpa using h),gd h,J8]
 ·rw[gk (by simpa using h),gk h];simp
theorem Gz(c:gc): ∀cs:List (List Int),(kJ (cs.map cD) (cs.map fun _=> .bl true) (cD c)).isSome=decide (c∈cs)
 |[]=>rfl
 |x::cs=>by
  simp only[il,kJ,BO];by_cases h:x=c
  ·simp[h]
  ·have: ¬c=x:=fun e=>h e.symm;simp[h,this,Gz c cs]
theorem HH(c:gc)(cs:iJ):qP (cD c) (dC cs)=some (.bl (!decide (c∈cs)),false):=by
 show(if tY (cs.map cD) (cD c)=true then some (D.bl (!(kJ (cs.map cD) (cs.map fun _=>D.bl true) (cD c)).isSome),false) else none)=_;rw[gd (C7 cs c),Gz]
theorem CsOk.add{n:Nat}{cs:iJ}{c:gc}(h:CsOk n cs)(hc:ClOk n c):CsOk n (vC cs c):=by
 unfold vC;split
 ·exact h
 ·exact h.snoc hc (by assumption)
theorem GP{i:Nat}{f:F}{g:FO}{δ δ1 δ2:Dn}{o:Opd}{x:D×Bool}{b:Bool}{cs:iJ}{c:gc}(h1:f δ=some ((.bl true,b),δ1))(h2:δ1[i]?=some (some x))(h3:g δ1=some (o,δ2))(h4:res δ2 o=some (cD c))(h5:δ2[i]?=some (some (dC cs,true)))(h6:cs.length<10000):vS i f g δ=some (.nx (δ2.set i (some (dC (vC cs c),true)))):=by
 unfold vS;rw[h1];simp only[iD];rw[h2];simp only[];rw[h3];simp only[iD];rw[h4,h5];unfold dC;simp only[];rw[gd ⟨C7 cs c,by simpa using h6⟩,P0];rfl
abbrev fbD:FS:=(fY (vS 3 (fC (.bl true)) (fP (fV jl [(fO 0),(fO 1)]))) gm)
theorem Rk(a:Int)(b:Bool){n:Nat}(h1:1<=n)(h5:n<=5){cs:iJ}(hc:CsOk n cs)(c2 c4:Sl): ∃a' aq,CsOk n aq/\fbD [stt a b,ii n,c2,some (dC cs,true),c4,none,none,none]=some (.nx [stt a' b,ii n,c2,some (dC aq,true),c4,none,none,none]):=by
 obtain⟨a',c,o6,e⟩:=Fs a b n h1 h5;refine⟨a',vC cs c,hc.add o6,(gh (δ1:=[stt a' b,ii n,c2,some (dC (vC cs c),true),c4,none,none,none]) ?_).trans rfl⟩
 have e2:fP (fV jl [(fO 0),(fO 1)]) [stt a b,ii n,c2,some (dC cs,true),c4,none,none,none]=some (.val (enc c),[stt a' b,ii n,c2,some (dC cs,true),c4,none,none,none]):=
  gJ (ie (δ1:=[stt a b,ii n,c2,some (dC cs,true),c4,none,none,none]) (os:=[.slot 0,.slot 1]) (args:=[(.lst [.int a,.bl b],true),(.int n,false)]) rfl rfl (show([0]:List Nat).Nodup by decide) e)
 exact GP (i:=3) (b:=false) rfl rfl e2 rfl rfl (by have:=hc.len h5;omega)
theorem UU(b:Bool){n:Nat}(h1:1<=n)(h5:n<=5)(c2:Sl)(ds:List D)(a:Int)(cs:iJ)(c4:Sl)(hc:CsOk n cs): ∃a' aq fF,CsOk n aq/\ue (fX 4) fbD ds [stt a b,ii n,c2,some (dC cs,true),c4,none,none,none]=some (.nx [stt a' b,ii n,c2,some (dC aq,true),fF,none,none,none]):=by
 obtain⟨δ',⟨a',aq,fF,k,rfl⟩,e⟩:=oX (fb:=fbD) (tg:=fX 4) (fun _ δ=> ∃a cs c4,CsOk n cs/\δ=[stt a b,ii n,c2,some (dC cs,true),c4,none,none,none]) (fun d ds δ h=>by
  obtain⟨a,cs,c4,hc,rfl⟩:=h;obtain⟨a1,cs1,k1,e1⟩:=Rk a b h1 h5 hc c2 (some (d,false));exact⟨_,_,rfl,e1,a1,cs1,_,k1,rfl⟩) ds _ ⟨a,cs,c4,hc,rfl⟩
 exact⟨a',aq,fF,k,e⟩
abbrev ftF:FT:=(fT (fZ gNe (fO 6) (fP (my []))))
abbrev fbF:FS:=(fY (js 7 (fV jg [(fP (PX.fPop 6)),(fO 5)])) (fY (sIf (fT (fZ qP (fO 7) (fO 3))) (fY (vS 3 (fC (.bl true)) (fO 7)) (fY (pD (lI 6 (iI 7))) gm)) gm) gm))
theorem NL(fs:iJ):gNe (.lst (fs.map cD)) (.lst [])=some (.bl (!decide (fs=[])),false):=by
 unfold gNe;rw[gd ⟨GQ fs,by decide⟩];cases fs<;>simp[D.eqb,D.eqbL]
theorem Rj{n:Nat}(hn:n<=5){t:gc}(ht:TT n t){cs fs:iJ}{c:gc}(hc:CsOk n cs)(hl:fs.length<=1000)(o6:ClOk n c)(c0 c1 c2 c4 c7:Sl):
  fbF [c0,c1,c2,some (dC cs,true),c4,some (enc t),lsC (fs++[c]),c7]=some (.nx [c0,c1,c2,some (dC (vC cs (lc t c)),true),c4,some (enc t),lsC (if lc t c∈cs then fs else fs++[lc t c]),some (enc (lc t c))]):=by
 obtain⟨_,e,rfl⟩:=QM hn ht o6
 have p1:fP (PX.fPop 6) [c0,c1,c2,some (dC cs,true),c4,some (enc t),lsC (fs++[c]),c7]=some (.val (enc c),[c0,c1,c2,some (dC cs,true),c4,some (enc t),lsC fs,c7]):=by
  refine gJ ?_;unfold PX.fPop;simp[lsC]
 refine(gh (δ1:=[c0,c1,c2,some (dC cs,true),c4,some (enc t),lsC fs,some (enc (lc t c))]) (jj (i:=7) (δ1:=[c0,c1,c2,some (dC cs,true),c4,some (enc t),lsC fs,c7]) (ie (δ1:=[c0,c1,c2,some (dC cs,true),c4,some (enc t),lsC fs,c7]) (os:=[.val (enc c),.slot 5]) (args:=[enc c,enc t]) (sv p1 rfl) rfl (by simp[gv]) e) (show 7<8 by decide))).trans ?_
 have t1:fT (fZ qP (fO 7) (fO 3)) [c0,c1,c2,some (dC cs,true),c4,some (enc t),lsC fs,some (enc (lc t c))]=some (!decide (lc t c∈cs),[c0,c1,c2,some (dC cs,true),c4,some (enc t),lsC fs,some (enc (lc t c))]):=
  lQ (jO (HH _ _) (jV rfl).r (jR rfl))
 by_cases h:lc t c∈cs
 ·rw[rf h] at t1;refine(gh ((tw t1).trans rfl)).trans ?_;rw[gd h,show vC cs (lc t c)=cs from gd h];rfl
 ·rw[lL h] at t1;refine(gh (δ1:=[c0,c1,c2,some (dC (vC cs (lc t c)),true),c4,some (enc t),lsC (fs++[lc t c]),some (enc (lc t c))]) ((J3 t1).trans ((gh (δ1:=[c0,c1,c2,some (dC (vC cs (lc t c)),true),c4,some (enc t),lsC fs,some (enc (lc t c))]) ?_).trans ((Fl (i:=6) (l0:=fs.map cD) (l:=fs.map cD) (r:=enc (lc t c)) (δ1:=[c0,c1,c2,some (dC (vC cs (lc t c)),true),c4,some (enc t),lsC fs,some (enc (lc t c))]) rfl rfl rfl (by simp;omega)).trans ?_)))).trans ?_
  ·exact GP (i:=3) (b:=false) (o:= .slot 7) (cs:=cs) (δ1:=[c0,c1,c2,some (dC cs,true),c4,some (enc t),lsC fs,some (enc (lc t c))]) (δ2:=[c0,c1,c2,some (dC cs,true),c4,some (enc t),lsC fs,some (enc (lc t c))]) rfl rfl rfl rfl rfl (by have:=hc.len hn;omega)
  ·simp[lsC]
  ·rw[gk h];rfl
theorem Jz{n:Nat}(hn:n<=5){t:gc}(ht:TT n t)(c0 c1 c2 c4:Sl): ∀(fuel:Nat) (cs fs:iJ) (c7:Sl),CsOk n cs->(∀c∈fs,ClOk n c)->fs.length<=500->2*(243-cs.length)+fs.length<fuel-> ∃aq fE fD,CsOk n aq/\kI ftF fbF fuel [c0,c1,c2,some (dC cs,true),c4,some (enc t),lsC fs,c7]=some (.nx [c0,c1,c2,some (dC aq,true),c4,some (enc t),fE,fD])
 |0,_,_,_,_,_,_,h=>by omega
 |fuel+1,cs,fs,c7,hc,hf,hl,h=>by
  have t1:ftF [c0,c1,c2,some (dC cs,true),c4,some (enc t),lsC fs,c7]=some (!decide (fs=[]),[c0,c1,c2,some (dC cs,true),c4,some (enc t),lsC fs,c7]):=
   lQ (o:=false) (jH (o1:= .slot 6) (o2:= .val (.lst [],true)) (δ2:=[c0,c1,c2,some (dC cs,true),c4,some (enc t),lsC fs,c7]) rfl (gJ (by simp[jA])) rfl rfl (NL fs))
  by_cases j9:fs=[]
  ·rw[rf j9] at t1;exact⟨cs,_,c7,hc,FW t1⟩
  ·rw[lL j9] at t1;have e:=DN j9;have hlen:fs.dropLast.length+1=fs.length:=by rw[Ea];have:=RF.mpr j9;omega
   have o6:=hf _ (List.getLast_mem j9);have b1:=Rj hn ht hc (fs:=fs.dropLast) (by omega) o6 c0 c1 c2 c4 c7;rw[e] at b1;have aP:=GB ht o6;have aH:=hc.add aP;have aj:=aH.len hn
   obtain⟨aq,fE,fD,k1,k2⟩:=Jz hn ht c0 c1 c2 c4 fuel _ (if lc t (fs.getLast j9)∈cs then fs.dropLast else fs.dropLast++[lc t (fs.getLast j9)]) (some (enc (lc t (fs.getLast j9)))) aH (fun c hm=>by
    have dl: ∀c∈fs.dropLast,ClOk n c:=fun c hm=>hf c (IB _ hm);split at hm
    ·exact dl c hm
    ·rcases nU.mp hm with z|z
     ·exact dl c z
     ·cases pA.mp z;exact aP) (by split<;>simp<;>omega) (by
    unfold vC at aj ⊢;split
    ·rename_i q;simp only[q,gM] at aj ⊢;omega
    ·rename_i q;simp only[q,iE] at aj ⊢;simp at aj ⊢;omega)
   exact⟨aq,fE,fD,k1,(FV t1 b1).trans k2⟩
theorem UL(cs:iJ)(hl:cs.length<=243){k:Int}(h:k=0\/k=1): ∃fs:List (List Int),(∀c∈fs,c∈cs)/\fs.length<=243/\Dj (.lst (cs.map cD)) (.int k)=some (.lst (fs.map cD),true):=by
 have hs:=Be (n:=243) (by decide);rcases h with rfl|rfl
 ·refine⟨[],by simp,by simp,?_⟩;show(if(0:Int)<=0/\(0:Int)<1000/\(cs.map cD).length*0<=sizeLine then some (D.lst (List.replicate 0 (cs.map cD)).flatten,true) else none)=_;rw[gd ⟨by decide,by decide,by simp⟩];rfl
 ·refine⟨cs,fun _ h=>h,hl,?_⟩;show(if(0:Int)<=1/\(1:Int)<1000/\(cs.map cD).length*1<=sizeLine then some (D.lst (List.replicate 1 (cs.map cD)).flatten,true) else none)=_;rw[gd ⟨by decide,by decide,by simp;exact mO hl hs⟩];simp
theorem EG(a:Int)(b:Bool)(n:Nat)(h5:n<=5): ∃a' ks,qY n ks/\kf [(.lst [.int a,.bl b],true),(.int n,false)]=some ((rD' n ks,false),[stt a' b,ii n]):=by
 have t0: ∀δ:Dn,fT (fZ gEq (fO 1) (fP (fC (.int 0)))) (stt a b::ii n::δ)=some (decide ((n:Int)=0),stt a b::ii n::δ):=fun δ=>
  lQ (o:=false) (jO ((Og _ _).trans (by rw[wV])) (jV rfl).r (jE rfl).r)
 by_cases hz:n=0
 ·subst hz;refine⟨a,[],⟨by omega,⟨by simp,by simp⟩,List.Pairwise.nil,by simp⟩,?_⟩;refine jh (δ:=[stt a b,ii (0:Nat),none,none,none,none,none,none]) ⟨rfl,by decide,rfl⟩ (iz ((J3 (t0 _)).trans (iz (iQ ?_))));exact GN (a:=(.int 0,false)) (b:=(.tup [],false)) rfl (by simp)
 ·have n1:1<=n:=by omega
  obtain⟨u,a1,u0,u1,e1⟩:=qA a b 3 (by omega) (by omega)
  let mL:List Int:=[3,5,12]
  let m:=mL.getD u.toNat 0
  have hm:0<m/\m<=12:=by
   rcases(show u=0\/u=1\/u=2 by omega) with rfl|rfl|rfl<;>decide
  obtain⟨q,a2,q0,q1,e2⟩:=qA a1 b (m+1) (by omega) (by omega);obtain⟨qn,rfl⟩: ∃qn:Nat,q=qn:=⟨q.toNat,by omega⟩
  obtain⟨a3,cs,c4,bL,e3⟩:=UU b n1 h5 (ii m) (gB 0 qn) a2 [] none ⟨by simp,by simp⟩;obtain⟨a4,t,ht,e4⟩:=xG a3 b n h5;have ht:=F1 ht;obtain⟨v,a5,v0,v1,e5⟩:=qA a4 b 2 (by omega) (by omega);have aj:=bL.len h5;obtain⟨fs,hfs,hfl,e6⟩:=UL cs aj (k:=if v=0 then 1 else 0) (by split<;>simp);obtain⟨cH,c6,c7,bu,e7⟩:=Jz h5 ht (stt a5 b) (ii n) (ii m) c4 N5 cs fs none bL (fun c h=>bL.2 c (hfs c h)) (by omega) (by show _<100000;omega);have h2432:=bu.len h5;obtain⟨ks,hp,hs,e8⟩:=wC (cs:=cH) (qD _ fun c hc=>(bu.2 c hc).1) (by omega);have hk:CsOk n ks:=⟨hp.symm.nodup bu.1,fun c h=>bu.2 c (hp.mem_iff.mp h)⟩
  refine⟨a5,ks.take 30,⟨h5,hk.take 30,hs.take 30,by rw[vQ];omega⟩,?_⟩;refine jh (δ:=[stt a5 b,ii n,ii m,some (dC cH,true),c4,some (enc t),c6,c7]) ⟨rfl,by decide,rfl⟩ ?_;have t1:=t0 [none,none,none,none,none,none];rw[lL (show ¬(n:Int)=0 by omega)] at t1;refine(gh ((tw t1).trans rfl)).trans ?_;refine(gh (jj (i:=2) (δ1:=[stt a1 b,ii n,none,none,none,none,none,none]) (jH (o1:= .val (.lst (mL.map .int),true)) (o2:= .val (.int u,false)) (gJ (δ1:=[stt a b,ii n,none,none,none,none,none,none]) (by simp[mL,jA])) (gJ (e1 _ [ii n,none,none,none,none,none,none] _ rfl rfl)) rfl rfl (UN u0 (by simpa[mL] using u1))) (show 2<8 by decide))).trans ?_;refine(gh (δ1:=[stt a1 b,ii n,ii m,some (dC [],true),none,none,none,none]) rfl).trans ?_;refine(gh ((nA (oS (o:= .val (.int qn,false)) (δ1:=[stt a2 b,ii n,ii m,some (dC [],true),none,none,none,none]) (gJ (e2 _ [ii n,ii m,some (dC [],true),none,none,none,none] (.val (.int (m+1),false)) rfl rfl)) rfl (by omega))).trans e3)).trans ?_;refine(gh (jj (i:=5) (δ1:=[stt a4 b,ii n,ii m,some (dC cs,true),c4,none,none,none]) (ie (δ1:=[stt a3 b,ii n,ii m,some (dC cs,true),c4,none,none,none]) (os:=[.slot 0,.slot 1]) (args:=[(.lst [.int a3,.bl b],true),(.int n,false)]) rfl rfl (show([0]:List Nat).Nodup by decide) e4) (show 5<8 by decide))).trans ?_;refine(gh (jj (i:=6) (δ1:=[stt a5 b,ii n,ii m,some (dC cs,true),c4,some (enc t),none,none]) (jH (o1:= .val (.lst (cs.map cD),true)) (o2:= .val (.int (if v=0 then 1 else 0),false)) (δ1:=[stt a4 b,ii n,ii m,some (dC cs,true),c4,some (enc t),none,none]) rfl (gJ (jH (o1:= .val (.lst [.int 1,.int 0],true)) (δ1:=[stt a4 b,ii n,ii m,some (dC cs,true),c4,some (enc t),none,none]) rfl (gJ (e5 _ [ii n,ii m,some (dC cs,true),c4,some (enc t),none,none] _ rfl rfl)) rfl rfl ?_)) rfl rfl e6) (show 6<8 by decide))).trans ?_
  ·rcases(show v=0\/v=1 by omega) with rfl|rfl<;>rfl
  refine(gh e7).trans (iz (iQ (GN (a:=(.int n,false)) (b:=(.tup ((ks.take 30).map cD),false)) rfl (jC (a:= .lst ((ks.take 30).map cD)) rfl (jE (b:=true) ?_).r))))
  have e9:ua (dC cH)=some (.lst (ks.map cD),true):=by
   show(if((cH.map cD).all fun k=>(vm k).isSome)=true then ky (cH.map cD) else none)=_;rw[gd (GD cH),e8]
  unfold Dp;rw[gJ (jC e9 (jR rfl))];simp only[iD,Po,UB,Kf];rw[show gSl none (some 30) (.lst (ks.map cD))=some (.lst (PX.An (ks.map cD) none (some ((30:Nat):Int))),true) from rfl,Ro,List.map_take];rfl
def OJ(n:Nat):List (List Int):=(List.range (2^n)).map fun(k:Nat)=>(List.range n).map fun(j:Nat)=>Builtin.bitAnd ((k:Int) / 2^(n-1-j)) 1
theorem Io: ∀n:Nat,n<6->OJ n=kE n:=by decide+kernel
theorem NU{n:Nat}(hn:n<=5):nL [(.int n,false)]=some ((.lst ((kE n).map cD),true),[ii n]):=by
 have hp: ∀k:Nat,k<=5->Ra (.int 1) (.int k)=some (.int (2^k:Nat),false):=by
  intro k hk;have:k=0\/k=1\/k=2\/k=3\/k=4\/k=5:=by omega
  have hc:ux 1 (k:Int):=by rcases this with rfl|rfl|rfl|rfl|rfl|rfl<;>(unfold ux;decide+kernel)
  show((if ux 1 (k:Int) then some (D.int (1*2^(k:Int).toNat)) else none).map fun z=>(z,false))=_;rw[gd hc];simp
 have h32:=Hw hn;have r0: ∀(m:Nat),gB 0 m=(List.range m).map fun(k:Nat)=>D.int (k:Int):=fun m=>by unfold gB;simp
 have inner: ∀k:Nat,gn (g1 kT) [(fP (hJ [1,0] 1 (pK (fO 0)) (fX 2) gW (gQ (fZ LF (fP (fZ Q9 (fO 0) (fP (fZ gSub (fP (fZ gSub (fO 1) (fP (fC (.int 1))))) (fO 2))))) (fP (fC (.int 1)))))))] (frz [.int n]++[some (.int k,false)])=some ((cD ((List.range n).map fun(j:Nat)=>Builtin.bitAnd ((k:Int) / 2^(n-1-j)) 1),false),frz [.int n]++[some (.int k,false)]):=fun k=>by
  refine jC (a:= .lst (((List.range n).map fun(j:Nat)=>Builtin.bitAnd ((k:Int) / 2^(n-1-j)) 1).map D.int)) rfl (jE (b:=true) ?_).r;refine(qk (caps:=[1,0]) (args:=[.int k,.int n]) (l:=(List.range n).map fun(j:Nat)=>D.int (j:Int)) (δ1:=frz [.int n]++[some (.int k,false)]) (fun d=> .int (Builtin.bitAnd ((k:Int) / 2^(n-1-(iOf d).toNat)) 1)) ?_ rfl rfl (fun d hd=>?_) (by simp;omega)).trans ?_
  ·rw[oS (n:=n) (o:= .slot 0) rfl rfl (by omega),r0]
  ·obtain⟨j,hj,rfl⟩:=lS.mp hd;have hj:=DL.mp hj;refine⟨false,jO (a:= .int ((k:Int) / 2^(n-1-j))) rfl (jE (b:=false) (jO ?_ (jV (d:= .int k) rfl).r (jE (b:=false) (jO (Ke _ _) (jE (b:=false) (jO (Ke _ _) (jV (d:= .int n) rfl).r (jE rfl).r)).r (jV (d:= .int j) rfl).r)).r)).r (jE rfl).r⟩;show((if(0:Int)<=(n:Int)-1-j then some (D.int ((k:Int) / 2^((n:Int)-1-j).toNat)) else none).map fun z=>(z,false))=_;rw[gd (by omega),show((n:Int)-1-j).toNat=n-1-j by omega];rfl
  ·rw[iC,iC];rfl
 refine MA (δ:=[ii n]) ⟨rfl,by decide,rfl⟩ ((qk (caps:=[0]) (args:=[.int n]) (l:=(List.range (2^n)).map fun(k:Nat)=>D.int (k:Int)) (δ1:=[ii n]) (fun d=>cD ((List.range n).map fun(j:Nat)=>Builtin.bitAnd (iOf d / 2^(n-1-j)) 1)) ?_ rfl rfl (fun d hd=>?_) (by simp;omega)).trans ?_)
 ·refine(oS (n:=2^n) (o:= .val (.int (2^n:Nat),false)) (gJ (jO (hp n hn) (jE rfl).r (jV rfl).r)) rfl (by omega)).trans ?_;rw[r0];rfl
 ·obtain⟨k,_,rfl⟩:=lS.mp hd;exact⟨false,inner k⟩
 ·rw[<-Io n (by omega),OJ,iC,iC];rfl
theorem Lr{f:FO}{δ δ1:Dn}{o:Opd}{n:Nat}(h1:f δ=some (o,δ1))(h2:res δ1 o=some (.int n))(hn:n<=100000):pK f δ=some (gB 0 n,δ1):=by
 have hb:(-(2^62)<=(n:Int)/\(n:Int)<2^62):=⟨by omega,by omega⟩
 have h4:pV δ1 [o]=some [.int n]:=by simp[pV,h2]
 unfold pK;rw[qg h1];simp only[iD];rw[h4];simp only[];rw[gd hb];rfl
theorem ym{a b:D}{fa fb:FO}{δ:Dn}(h:a=b)(hd:a.dep<=50)(ha:RJ fa δ a)(hb:RJ fb δ b):fT (fZ gNe fa fb) δ=some (false,δ):=by
 subst h;exact lQ (o:=false) (jO (Lz hd) ha hb)
theorem Lv{fa fb:FO}{δ:Dn}(ha:RJ fa δ (.bl true))(hb:RJ fb δ (.bl true)):fT (fZ vo fa fb) δ=some (false,δ):=lQ (o:=false) (jO (r:=(.bl false,false)) rfl ha hb)
theorem LX(c:gc):(cD c).dep<=50:=by rw[pd];decide
theorem LW(i:Int):(D.int i).dep<=50:=by simp[D.dep]
theorem no{t:FT}{f:FS}{δ:Dn}(g:FS)(h:t δ=some (false,δ)):fY (sIf t f gm) g δ=g δ:=(gh ((tw h).trans rfl))
abbrev fbS:FS:=(fY (sIf (oE (fT (fZ gNe (fP (fV gO [(fO 3),(fO 4)])) (fP (fV gO [(fO 1),(fP (fV gO [(fO 0),(fO 4)]))])))) (fT (fZ gNe (fP (fV gO [(fO 0),(fP (kh oA (fO 4)))])) (fP (kh oA (fP (fV gO [(fO 0),(fO 4)]))))))) (fY (hW (fC (.bl false))) gm) gm) gm)
theorem Rh{n:Nat}{t u:gc}(ht:TT n t)(hu:TT n u){k:Nat}(hk:k<n)(c5 c6:Sl):fbS [some (enc t),some (enc u),ii n,some (enc (beh t u)),ii ((k:Int)+1),c5,c6]=some (.nx [some (enc t),some (enc u),ii n,some (enc (beh t u)),ii ((k:Int)+1),c5,c6]):=by
 have hs:=CD hk;have e1:fV gO [(fO 0),(fO 4)] [some (enc t),some (enc u),ii n,some (enc (beh t u)),ii ((k:Int)+1),c5,c6]=_:=jU2 (HJ ht.len hs) (jV rfl) (jV rfl);refine(no _ ((su (ym (nG ht u hs▸rfl) (LW _) (jE (jU2 (HJ (ht.beh hu).len hs) (jV rfl) (jV rfl))).r (jE (jU2 (HJ hu.len (ht.led hs)) (jV rfl) (jE e1))).r)).trans (ym (qN t hs▸rfl) (LW _) (jE (jU2 (HJ ht.len (JW hs)) (jV rfl) (jE (jN (Oe _) (jV rfl).r)))).r (jE (jN (Oe _) (jE e1).r)).r))).trans rfl
abbrev fbH:FS:=(fY (js 5 (fV iA [(fO 5),(fO 0)])) (fY (sIf (fT (fZ gEq (fO 5) (fP (fV jk [(fO 2)])))) (fY (hW (fC (.bl false))) gm) gm) gm))
theorem Ri{n:Nat}(hn:n<=5){t:gc}(ht:TT n t){i:Nat}(j9:pwT n t (i+1)≠st n)(c1 c3 c4 c6:Sl):fbH [some (enc t),c1,ii n,c3,c4,some (enc (pwT n t i)),c6]=some (.nx [some (enc t),c1,ii n,c3,c4,some (enc (pwT n t (i+1))),c6]):=by
 refine(gh (δ1:=[some (enc t),c1,ii n,c3,c4,some (enc (pwT n t (i+1))),c6]) (jj (i:=5) (δ1:=[some (enc t),c1,ii n,c3,c4,some (enc (pwT n t i)),c6]) (jU2 (kK hn (lq ht i) ht.len) (jV rfl) (jV rfl)) (show 5<7 by decide))).trans ((no _ ?_).trans rfl);have:=lQ (o:=false) (jO (LC (pwT n t (i+1)) (st n)) (fa:=fO 5) (fb:=fP (fV jk [(fO 2)])) (δ:=[some (enc t),c1,ii n,c3,c4,some (enc (pwT n t (i+1))),c6]) (jV rfl).r (jE (jU1 (og hn) (jV rfl))).r)
 rwa [lL j9] at this
theorem J7{n:Nat}(hn:n<=5){t u:gc}(ht:TT n t)(hu:TT n u):jf [enc t,enc u]=some ((.bl true,false),[some (enc t),some (enc u)]):=by
 obtain⟨w,hw,_⟩:=ph ht;have kw:=hw.tt ht;obtain⟨o,ho,o1,o2⟩:=Sz hn ht
 let δ0:Sl->Sl->Sl->Dn:=fun x y z=>[some (enc t),some (enc u),ii n,some (enc (beh t u)),x,y,z]
 obtain⟨_,⟨x4,_,rfl⟩,e1⟩:=oX (tg:=fX 4) (fb:=fbS) (fun ds δ=> ∃x,(∀d∈ds,∃k:Nat,k<n/\d= .int ((k:Int)+1))/\δ=δ0 x none none) (fun d ds δ ⟨x,h1,h⟩=>by
  subst h;obtain⟨k,hk,rfl⟩:=h1 d iO
  exact⟨_,_,rfl,Rh ht hu hk none none,_,fun x hx=>h1 x (iT _ hx),rfl⟩) (gB 1 n) (δ0 none none none) ⟨none,fun d hd=>by
   obtain⟨k,hk,rfl⟩:=lS.mp hd;exact⟨k,DL.mp hk,by rw[Int.add_comm]⟩,rfl⟩
 obtain⟨_,⟨i,x6,hi,rfl⟩,e2⟩:=oX (tg:=fX 6) (fb:=fbH) (fun ds δ=> ∃i x,i+ds.length=o/\δ=δ0 x4 (some (enc (pwT n t i))) x) (fun d ds δ ⟨i,x,h1,h⟩=>by
  subst h;simp only[km] at h1;exact⟨_,_,rfl,Ri hn ht (o2 i (by omega)) _ _ _ _,i+1,_,by omega,rfl⟩) (gB 0 o) (δ0 x4 (some (enc (st n))) none) ⟨0,none,by simp[gB],rfl⟩
 have hi:i=o:=by simpa using hi
 subst hi;refine jh (δ:=δ0 x4 (some (enc (pwT n t i))) x6) ⟨rfl,by decide,rfl⟩ ?_;refine(gh (jj (i:=2) (δ1:=[some (enc t),some (enc u),none,none,none,none,none]) (jC (Li ht.len) (jV rfl).r) (show 2<7 by decide))).trans ?_;refine(gh (jj (i:=3) (δ1:=[some (enc t),some (enc u),ii n,none,none,none,none]) (jU2 (kK hn ht hu.len) (jV rfl) (jV rfl)) (show 3<7 by decide))).trans ?_;have b1:FJ (fP (fV kY [(fO 0)])) (δ0 none none none) (cD w):=jE (jU1 (Cb ht hw) (jV rfl));have s1:FJ (fP (fV jk [(fO 2)])) (δ0 none none none) (cD (st n)):=jE (jU1 (og hn) (jV rfl));refine(no (δ:=δ0 none none none) _ ((su (Lv (jE (jU2 (pS hn (ht.beh hu)) (jV rfl) (jV rfl))).r (jE rfl).r)).trans (Lv (jE (jU2 (pS hn kw) (jV rfl) b1)).r (jE rfl).r))).trans ?_;refine(no (δ:=δ0 none none none) _ ((su (ym (nY cD (hw.still ht)) (LX _) (jE (jU2 (kK hn ht hw.1) (jV rfl) b1)).r s1.r)).trans (ym (nY cD ((hw.sym ht).still kw)) (LX _) (jE (jU2 (kK hn kw ht.len) b1 (jV rfl))).r s1.r))).trans ?_;refine(gh ((nA (ds:=gB 1 n) (δ1:=δ0 none none none) ?_).trans e1)).trans ?_
 ·rw[GI (δ2:=δ0 none none none) (o1:= .val (.int 1,false)) (o2:= .val (.int ((n:Int)+1),false)) (i:=1) (j:=(n:Int)+1) rfl rfl rfl rfl (by omega) (by omega),show((n:Int)+1-1).toNat=n by omega]
 refine(gh (jj (i:=5) (δ1:=δ0 x4 none none) (jU1 (og hn) (jV rfl)) (show 5<7 by decide))).trans ?_;refine(gh ((nA (ds:=gB 0 i) (δ1:=δ0 x4 (some (enc (st n))) none) (Lr (o:= .val (.int i,false)) (gJ (jO ?_ (jE (jU1 (KZ hn ht ho o1 o2) (jV rfl))).r (jE rfl).r)) rfl (by omega))).trans e2)).trans ?_
 ·rw[Ke,Int.add_sub_cancel]
 refine iz (iQ (jO ((LC (pwT n t (i+1)) (st n)).trans (by rw[rf o1])) (jE (jU2 (kK hn (lq ht i) ht.len) (jV rfl) (jV rfl))).r (jE (jU1 (og hn) (jV rfl))).r))
theorem JP{k l:iJ}(hp:k.Perm l)(h1:SrtC k)(h2:SrtC l):k=l:=by
 refine hp.eq_of_pairwise (le:=fun a b=>ltT (cD b) (cD a)=false) (fun a b _ _ x y=>?_) h1 h2;rw[kb] at x y;have pa: ∀x:List Int,D.pr (cD x)=true:=fun x=>by simp[D.pr,pW]
 have e:cT (cD a) (cD b)= .eq:=by
  rw[jP] at x
  cases hc:cT (cD a) (cD b) with
  |lt=>exact absurd hc y
  |gt=>rw[hc] at x;exact absurd rfl x
  |eq=>rfl
 have:=uq _ _ (pa a) (pa b) e;simpa[rS] using nY unC this
theorem Me: ∀n:Nat,n<6->(kE n).Pairwise fun a b=>ltT (cD b) (cD a)=false:=by decide+kernel
theorem Hf{n:Nat}(hn:n<=5){t w:gc}{cs ds:iJ}(ht:TT n t)(hw:BK n t w)(hc:qY n cs)(h:LR t cs ds):nI (.lst (((ou n cs).map (laF w)).map cD))=some (.lst ((ou n ds).map cD),true):=by
 have hl:=yu hn cs;have hp:=NG hn ht hw hc h
 have ok:rV (((ou n cs).map (laF w)).map cD)=true:=by
  by_cases hz:n=0
  ·subst hz
   have h1: ∀a∈(ou 0 cs).map (laF w),a=[]:=fun a ha=>by
    obtain⟨x,_,rfl⟩:=lS.mp ha;exact Mo.mp (se (hw.tt ht) x).1
   have h2:((ou 0 cs).map (laF w)).length<=1:=by rw[iG];exact mO (ID _ _) (by simp[kE])
   revert h1 h2;generalize (ou 0 cs).map (laF w)=L;intro h1 h2
   match L,h1,h2 with
   |[],_,_=>rfl
   |[x],h1,_=>rw[h1 x (by simp)];rfl
   |_::_::_,_,h2=>simp at h2
  ·refine qD _ fun a ha e=>?_;obtain⟨x,_,rfl⟩:=lS.mp ha;have:=(se (hw.tt ht) x).1;rw[e] at this;exact hz this.symm
 obtain⟨ks,h1,h2,e⟩:=wC ok (by simp;omega);have:ks=ou n ds:=JP (h1.trans hp) h2 ((Me n (by omega)).sublist List.filter_sublist);rw[this] at e;exact e
abbrev S6:FS:=(fY (sIf (fT (fZ gNe (fP (fV kz [(fO 3),(fO 7)])) (fP (fV kz [(fO 6),(fP (fV gy [(fO 7),(fO 4)]))])))) (fY (hW (fC (.bl false))) gm) gm) (fY (sIf (fT (fZ gNe (fP (fV gy [(fP (fV gy [(fO 7),(fO 4)])),(fO 5)])) (fP (fV gy [(fO 7),(fP (fV iA [(fO 4),(fO 5)]))])))) (fY (hW (fC (.bl false))) gm) gm) gm))
theorem NN{n:Nat}{t u:gc}{cs ds:iJ}(ht:TT n t)(hu:TT n u)(hc:qY n cs)(h:LR t cs ds){a:gc}(ha:a∈kE n)(c0 c1 c2:Sl):
  S6 [c0,c1,c2,some (rD' n cs,false),some (enc t),some (enc u),some (rD' n ds,false),some (enc a)]=some (.nx [c0,c1,c2,some (rD' n cs,false),some (enc t),some (enc u),some (rD' n ds,false),some (enc a)]):=by
 have hn:=hc.1;obtain⟨w,hw,_⟩:=ph ht;obtain⟨w2,eA,_⟩:=ph hu;obtain⟨w3,dw,_⟩:=ph (ht.beh hu);have kw:=hw.tt ht;have k0:=G7.mp ha;have aE:=se kw a;have l1:FJ (fP (fV gy [(fO 7),(fO 4)])) [c0,c1,c2,some (rD' n cs,false),some (enc t),some (enc u),some (rD' n ds,false),some (enc a)] (cD (laF w a)):=jE (jU2 (wN hn ht hw k0) (jV rfl) (jV rfl));refine(no _ (ym ?_ (by simp[D.dep]) (jE (jU2 (yt hc (cD a) (K5 (by rw[k0.1];omega))) (jV rfl) (jV rfl))).r (jE (jU2 (yt (h.rd ht hw hc) (cD (laF w a)) (K5 (by rw[aE.1];omega))) (jV rfl) l1)).r)).trans ((no _ (ym ?_ (LX _) (jE (jU2 (wN hn hu eA aE) l1 (jV rfl))).r (jE (jU2 (wN hn (ht.beh hu) dw k0) (jV rfl) (jE (jU2 (kK hn ht hu.len) (jV rfl) (jV rfl))))).r)).trans rfl)
 ·rw[Fb ha,Fb (G7.mpr aE),FL ht hw k0 hc h]
 ·rw[Ll kw (eA.tt hu) k0,BK.beh ht hu hw eA dw]
theorem OS(a:Int)(b:Bool){n:Nat}(hn:n<=5)(cs:iJ)(c0 c1 c4 c5 c6 c7:Sl): ∃a' t u,TT n t/\TT n u/\hJ [2,3] 1 (pK (fP (fC (.int 2)))) (fX 2) gW (gQ (fV jc [(fO 0),(fP (fZ gIx (fO 1) (fP (fC (.int 0)))))])) [c0,c1,stt a b,some (rD' n cs,false),c4,c5,c6,c7]=some ((.lst [cD t,cD u],true),[c0,c1,stt a' b,some (rD' n cs,false),c4,c5,c6,c7]):=by
 obtain⟨acc,δ',⟨a',ts,x,h1,h2,rfl,rfl⟩,e⟩:=FA (tg:=fX 2) (f:=fV jc [(fO 0),(fP (fZ gIx (fO 1) (fP (fC (.int 0)))))]) (fun ds acc δ=> ∃(a:Int) (ts:iJ) (x:Sl),(∀t∈ts,TT n t)/\ts.length+ds.length=2/\acc=ts.map cD/\δ=[stt a b,some (rD' n cs,false),x]) (fun d ds acc δ ⟨a,ts,x,h1,h2,h3,h4⟩=>by
  subst h3;subst h4;obtain⟨a',t,ht,e⟩:=xG a b n hn;refine⟨[stt a b,some (rD' n cs,false),some (d,false)],cD t,false,[stt a' b,some (rD' n cs,false),some (d,false)],rfl,?_,by simp at h2 ⊢;omega,a',ts++[t],some (d,false),fun y hy=>?_,by simp at h2 ⊢;omega,by simp,rfl⟩
  ·exact ie (δ1:=[stt a b,some (rD' n cs,false),some (d,false)]) (os:=[.slot 0,.val (.int n,false)]) (args:=[(.lst [.int a,.bl b],true),(.int n,false)]) rfl rfl (show([0]:List Nat).Nodup by decide) e
  ·rcases nU.mp hy with z|z
   ·exact h1 y z
   ·cases pA.mp z;exact F1 ht) (gB 0 2) [] [stt a b,some (rD' n cs,false),none] ⟨a,[],none,by simp,by simp[gB],rfl,rfl⟩
 match ts,h1,h2,e with
 |[t,u],h1,_,e=>
  refine⟨a',t,u,h1 t (by simp),h1 u (by simp),?_⟩;have i1:pK (fP (fC (.int 2))) [c0,c1,stt a b,some (rD' n cs,false),c4,c5,c6,c7]=some (gB 0 2,[c0,c1,stt a b,some (rD' n cs,false),c4,c5,c6,c7]):=oS (n:=2) (o:= .val (.int 2,false)) rfl rfl (by decide);exact(uh (caps:=[2,3]) (k:=1) (args:=[(.lst [.int a,.bl b],true),(rD' n cs,false)]) i1 rfl (by simp[gv]) e).trans rfl
 |[],_,h2,_=>simp at h2
 |[_],_,h2,_=>simp at h2
 |_::_::_::_,_,h2,_=>simp at h2
theorem Mz{tg:Tg}{f:F}{δ δ1 δ2:Dn}{r:D×Bool}(h:f δ=some (r,δ1))(h2:tg r.1 δ1=some δ2):Bp tg f δ=some (.nx δ2):=by rw[Pm,h];simp only[iD];rw[h2];rfl
theorem Lj(cs:iJ):lV (.tup (cs.map cD))=some (.int cs.length,false):=by rw[Kg,iG]
abbrev OE:FS:=(fY (js 2 (fV ke [(fO 0),(fO 1)])) (fY (js 3 (fV kf [(fO 2),(fP (fV gz [(fO 2),(fP (fC (.int 6)))]))])) (fY (Bp (F4 [(fX 4),(fX 5)]) (hJ [2,3] 1 (pK (fP (fC (.int 2)))) (fX 2) gW (gQ (fV jc [(fO 0),(fP (fZ gIx (fO 1) (fP (fC (.int 0)))))])))) (fY (sIf (kW (fT (fV jf [(fO 4),(fO 5)]))) (fY (hW (fC (.bl false))) gm) gm) (fY (js 6 (fV lW [(fO 3),(fO 4)])) (fY (sIf (oE (fT (fZ vo (fP (fV mB [(fO 6)])) (fP (fC (.bl true))))) (oE (fT (fZ gNe (fP (gn (g1 lV) [(fP (fZ gIx (fO 6) (fP (fC (.int 1)))))])) (fP (gn (g1 lV) [(fP (fZ gIx (fO 3) (fP (fC (.int 1)))))])))) (fT (fZ gNe (fP (fV lW [(fO 6),(fP (fV kY [(fO 4)]))])) (fO 3))))) (fY (hW (fC (.bl false))) gm) gm) (fY (sIf (oE (fT (fZ gNe (fP (fV lW [(fO 6),(fO 5)])) (fP (fV lW [(fO 3),(fP (fV iA [(fO 4),(fO 5)]))])))) (fT (fZ gNe (fP (fV lW [(fO 3),(fP (fV jk [(fP (fZ gIx (fO 3) (fP (fC (.int 0)))))]))])) (fO 3)))) (fY (hW (fC (.bl false))) gm) gm) (fY (tx (hZ (fV nL [(fP (fZ gIx (fO 3) (fP (fC (.int 0)))))])) (fX 7) (fY (sIf (fT (fZ gNe (fP (fV kz [(fO 3),(fO 7)])) (fP (fV kz [(fO 6),(fP (fV gy [(fO 7),(fO 4)]))])))) (fY (hW (fC (.bl false))) gm) gm) (fY (sIf (fT (fZ gNe (fP (fV gy [(fP (fV gy [(fO 7),(fO 4)])),(fO 5)])) (fP (fV gy [(fO 7),(fP (fV iA [(fO 4),(fO 5)]))])))) (fY (hW (fC (.bl false))) gm) gm) gm))) (fY (sIf (fT (fZ gNe (fP (gn (g1 nI) [(fP (hJ [4] 1 (hZ (fV lu [(fO 3)])) (fX 1) gW (gQ (fV gy [(fO 1),(fO 0)]))))])) (fP (fV lu [(fO 6)])))) (fY (hW (fC (.bl false))) gm) gm) gm)))))))))
theorem LI(ns:gc)(k:Nat)(c2 c3 c4 c5 c6 c7:Sl): ∃d2 d3 d4 d5 d6 d7,OE [some (.lst (ns.map .int),false),ii k,c2,c3,c4,c5,c6,c7]=some (.nx [some (.lst (ns.map .int),false),ii k,d2,d3,d4,d5,d6,d7]):=by
 let z0:Sl:=some (.lst (ns.map .int),false)
 obtain⟨a,b,e0⟩:=JM ns k;obtain⟨v,a1,v0,v1,e1⟩:=JI a b 6 (by omega) (by omega);obtain⟨n,rfl⟩: ∃n:Nat,v=n:=⟨v.toNat,by omega⟩
 have hn:n<=5:=by omega
 obtain⟨a2,cs,hr,e2⟩:=EG a1 b n hn
 let R:Sl:=some (rD' n cs,false)
 obtain⟨a3,t,u,ht,hu,e3⟩:=OS a2 b hn cs z0 (ii k) c4 c5 c6 c7;obtain⟨ds,hL,e4⟩:=C5 ht hr;obtain⟨w,hw,_⟩:=ph ht;obtain⟨w3,dw,_⟩:=ph (ht.beh hu);have hd:=hL.rd ht hw hr;obtain⟨es,hE,e5⟩:=C5 (hw.tt ht) hd;obtain⟨fs,hF,e6⟩:=C5 hu hd;obtain⟨gs,hG,e7⟩:=C5 (ht.beh hu) hr;obtain⟨hs,hH,e8⟩:=C5 (zM n) hr
 have q1:es=cs:=by
  have:=hL.comp hE ht (hw.tt ht) hr;rw[hw.still ht] at this;exact this.uniq (LR.st hr) (zM n) ⟨rT n,fun s h=>by rw[nO h,nO h]⟩ hr
 have q2:fs=gs:=(hL.comp hF ht hu hr).uniq hG (ht.beh hu) dw hr;have q3:hs=cs:=hH.uniq (LR.st hr) (zM n) ⟨rT n,fun s h=>by rw[nO h,nO h]⟩ hr;subst q1;subst q2;subst q3
 let δ0:Sl->Dn:=fun x=>[z0,ii k,stt a3 b,some (rD' n hs,false),some (enc t),some (enc u),some (rD' n ds,false),x]
 obtain⟨_,⟨x7,_,rfl⟩,ef⟩:=oX (tg:=fX 7) (fb:=S6) (fun l δ=> ∃x,(∀d∈l,∃a,a∈kE n/\d=cD a)/\δ=δ0 x) (fun d l δ ⟨x,h1,h⟩=>by
  subst h;obtain⟨a,ha,rfl⟩:=h1 d iO
  exact⟨_,_,rfl,NN ht hu hr hL ha _ _ _,_,fun x hx=>h1 x (iT _ hx),rfl⟩) ((kE n).map cD) (δ0 c7) ⟨c7,fun d hd=>by
   obtain⟨a,ha,rfl⟩:=lS.mp hd;exact⟨a,ha,rfl⟩,rfl⟩
 refine⟨stt a3 b,some (rD' n hs,false),some (enc t),some (enc u),some (rD' n ds,false),x7,?_⟩;refine(gh (jj (i:=2) (δ1:=[z0,ii k,c2,c3,c4,c5,c6,c7]) (jU2 e0 (jV rfl) (jV rfl)) (show 2<8 by decide))).trans ?_;refine(gh (jj (i:=3) (δ1:=[z0,ii k,stt a2 b,c3,c4,c5,c6,c7]) (ie (δ1:=[z0,ii k,stt a1 b,c3,c4,c5,c6,c7]) (os:=[.slot 2,.val (.int n,false)]) (args:=[(.lst [.int a1,.bl b],true),(.int n,false)]) (sv rfl (gJ (e1 _ z0 (ii k) [c3,c4,c5,c6,c7] _ rfl rfl))) rfl (show([2]:List Nat).Nodup by decide) e2) (show 3<8 by decide))).trans ?_;refine(gh (Mz e3 rfl)).trans ?_;refine(no (δ:=[z0,ii k,stt a3 b,some (rD' n hs,false),some (enc t),some (enc u),c6,c7]) _ (ug (lQ (jU2 (J7 hn ht hu) (jV rfl) (jV rfl))))).trans ?_;refine(gh (δ1:=δ0 c7) (jj (i:=6) (δ1:=[z0,ii k,stt a3 b,some (rD' n hs,false),some (enc t),some (enc u),c6,c7]) (jU2 e4 (jV rfl) (jV rfl)) (show 6<8 by decide))).trans ?_;have ix: ∀{fo:FO} {δ:Dn} {m:Nat} {cs:iJ},RJ fo δ (rD' m cs)->fZ gIx fo (fP (fC (.int 1))) δ=some ((.tup (cs.map cD),false),δ):=fun h=>jO rfl h (jE rfl).r;have i0:FJ (fP (fZ gIx (fO 3) (fP (fC (.int 0))))) (δ0 c7) (.int n):=jE (jO rfl (jV (d:=rD' n hs) rfl).r (jE rfl).r);have bh:FJ (fP (fV iA [(fO 4),(fO 5)])) (δ0 c7) (cD (beh t u)):=jE (jU2 (kK hn ht hu.len) (jV rfl) (jV rfl))
 refine(no (δ:=δ0 c7) _ ((su (Lv (jE (jU1 (Q5 hd) (jV rfl))).r (jE rfl).r)).trans ((su (ym (a:= .int ds.length) (b:= .int hs.length) ?_ (LW _) (jE (jC (Lj ds) (jE (ix (jV rfl).r)).r)).r (jE (jC (Lj hs) (jE (ix (jV rfl).r)).r)).r)).trans
  (ym rfl (Fo n hs) (jE (jU2 e5 (jV rfl) (jE (jU1 (Cb ht hw) (jV rfl))))).r (jV rfl).r)))).trans ?_
 ·have:=hL.1.length_eq;rw[iG] at this;rw[this]
 refine(no (δ:=δ0 c7) _ ((su (ym rfl (Fo n fs) (jE (jU2 e6 (jV rfl) (jV rfl))).r (jE (jU2 e7 (jV rfl) bh)).r)).trans (ym rfl (Fo n hs) (jE (jU2 e8 (jV rfl) (jE (jU1 (og hn) i0)))).r (jV rfl).r))).trans ?_;refine(gh ((nA (ds:=(kE n).map cD) (δ1:=δ0 c7) ?_).trans ef)).trans ?_
 ·rw[wJ,jU1 (NU hn) i0];rfl
 refine(no (δ:=δ0 x7) _ (ym rfl (GQ _) (jE (jC (Hf hn ht hw hr hL) (jE (b:=true) ?_).r)).r (jE (jU1 (yU hd) (jV rfl))).r)).trans rfl;refine GU (caps:=[4]) (args:=[cD t]) (l:=ou n hs) (laF w) ?_ rfl rfl (fun x hx=>⟨false,?_⟩) (by have:=yu hn hs;omega)
 ·rw[wJ,jU1 (yU hr) (jV rfl)];rfl
 ·exact jU2 (wN hn ht hw (G7.mp (IA.mp hx).1)) (jV rfl) (jV rfl)
theorem RE(ns:gc)(hl:ns.length<=63): ∃o outs,rH [(.lst (ns.map .int),false)]=some ((.bl true,o),outs):=by
 let z0:Sl:=some (.lst (ns.map .int),false)
 let N:Nat:=if 1<min ns.length 6 then min ns.length 6 else 1
 obtain⟨_,⟨d1,d2,d3,d4,d5,d6,d7,_,rfl⟩,e⟩:=oX (tg:=fX 1) (fb:=OE) (fun ds δ=> ∃d1 d2 d3 d4 d5 d6 d7,(∀d∈ds,∃k:Nat,d= .int k)/\δ=[z0,d1,d2,d3,d4,d5,d6,d7]) (fun d ds δ ⟨d1,d2,d3,d4,d5,d6,d7,h1,h⟩=>by
  subst h;obtain⟨k,rfl⟩:=h1 d iO;obtain⟨g2,g3,g4,g5,g6,g7,e⟩:=LI ns k d2 d3 d4 d5 d6 d7
  exact⟨_,_,rfl,e,_,_,_,_,_,_,_,fun x hx=>h1 x (iT _ hx),rfl⟩) (gB 0 N) [z0,none,none,none,none,none,none,none] ⟨none,none,none,none,none,none,none,fun d hd=>by
   obtain⟨k,_,rfl⟩:=lS.mp hd;exact⟨k,by simp⟩,rfl⟩
 refine⟨false,_,jh (δ:=[z0,d1,d2,d3,d4,d5,d6,d7]) ⟨rfl,by decide,rfl⟩ ?_⟩;refine(gh ((nA (ds:=gB 0 N) (δ1:=[z0,none,none,none,none,none,none,none]) ?_).trans e)).trans (iz rfl);refine oS (o:= .val (.int N,false)) (gJ ?_) rfl (by simp only[N];split<;>omega)
 have hN:(N:Int)=if(if(6:Int)<ns.length then 6 else(ns.length:Int))>1 then(if(6:Int)<ns.length then 6 else(ns.length:Int)) else 1:=by
  simp only[N];split<;>split<;>split<;>omega
 rw[hN];simp[z0]
end PV
theorem K24.main(ns:gc)(hl:ns.length<=63): ∃o outs,PV.rH [(.lst (ns.map .int),false)]=some ((.bl true,o),outs):=PV.RE ns hl
namespace PySem.W.Fast
def tw15778993536981059157:=()
def tw5672188435700758465:=()
def tw11801543545807401392:=()
def tw1227108597020667290:=()
def tw10075952849815018109:=()
def tw16329620013045562144:=()
def tw11638028527122520386:=()
def tw11543096215229166658:=()
def tw6797002949345461535:=()
def tw15426016105478340206:=()
def tw16616133542263883200:=()
def tw531617489000791534:=()
def tw3766095331205139649:=()
def tw16248373361424641758:=()
def tw9209298909440264362:=()
def tw6248831522794520731:=()
def tw8181884890931003033:=()
def tw7156451365894099333:=()
def tw7728425703988756918:=()
def tw13876177102828872259:=()
def tw12303415338667071877:=()
def tw2463475044415634597:=()
def tw3167384603457841723:=()
def tw11170224183664552864:=()
def tw17410596619544173115:=()
def tw4128612463503087342:=()
def tw17132907247789401717:=()
def tw2769428914914678419:=()
def tw4422689045922017998:=()
def tw10691962613550623631:=()
def tw11001642989292362932:=()
def tw18303617093139616499:=()
def tw3772916833173245253:=()
def tw13116285302075118734:=()
def tw12721681146809159137:=()
def tw6612743079524140595:=()
def tw16365512312378548464:=()
def tw1202446339722037900:=()
def tw1289882472068503437:=()
def tw10393244155979882889:=()
def tw6587286360441214460:=()
def tw8873401080925918196:=()
def tw5480484916355678920:=()
def tw933547961992001543:=()
def tw8871186672500581463:=()
def tw15242201109479591533:=()
def tw3891411339871287230:=()
def tw648867685811116276:=()
def tw10256387647567774024:=()
def tw5886460864271455554:=()
def tw16542174721987410026:=()
def tw8844628857569044834:=()
def tw1450940870155950772:=()
def tw6090659689240947496:=()
def tw3027181954115817024:=()
def tw4002771300694212753:=()
def tw3239338589383079142:=()
def tw2129772344849836029:=()
def tw8864316271801007981:=()
def tw10694815357800662052:=()
def tw489391376052677241:=()
def tw18259005961666145432:=()
def tw13409033386325828051:=()
def tw12307029093830364619:=()
def tw5609196825974039031:=()
def tw9019655536703653962:=()
def tw2360929476141553:=()
def tw17431922672838787753:=()
def tw16223463936960409722:=()
def tw9036562288934156211:=()
def tw5571194006955850603:=()
def tw13298245648964579940:=()
def tw11781414470142422168:=()
def tw5560828236395432545:=()
def tw15221969691140633791:=()
def tw9190845667919055090:=()
def tw8297710419380989272:=()
def tw15308364557328792051:=()
def tw14051084365170134225:=()
def tw14876828150355033178:=()
def tw3094838548656275498:=()
def tw15960046966356784165:=()
def tw1499245892248721459:=()
end PySem.W.Fast
open PySem PySem.W PyProof.Rows PX
set_option maxRecDepth 100000 in
set_option maxHeartbeats 0 in
theorem PySem.Challenge.cw_twinriddles_k24_whole_turnings_holds : PySem.Challenge.rw_twinriddles_k24_whole_turnings.Holds := by
  w_on; o_law; k_head; (case hw => w_witness2)
  k_fill
  refine walkG (l := PySem.Challenge.rw_twinriddles_k24_whole_turnings) (LV := 8) (x := "_law_script") ⟨rfl, by decide, by decide⟩ rfl rfl (fun w h Y => PySem.W.kIn_of Y) ?F K24.main
  case F =>
   intro w mg fa h KX G hmg
   refine' K24.all_mk hmg (txK KX G ?_ ?_ ?_ ?_ ?_ ?_ ?_ ?_ ?_ ?_ ?_ ?_ ?_ ?_ ?_ ?_) ?_ ?_ ?_ ?_ ?_ ?_ ?_ ?_ ?_ ?_ ?_ ?_ ?_ ?_ ?_ ?_ ?_ ?_ ?_ ?_ ?_ ?_ ?_ ?_ ?_ ?_ ?_ ?_ ?_ ?_ ?_ ?_ ?_ ?_ ?_ ?_ ?_ ?_ ?_ ?_
   all_goals first|k_is|(refine' fz KX G ?_ ?_ ?_ ?_<;>try k_is)|(refine' mgI KX G ?_<;>try k_is)
