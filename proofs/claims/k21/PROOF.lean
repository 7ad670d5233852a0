import PyProof.Rows.All
import Wide.All
import OpenK.AllK
import Wide.FinOn
import PyProof.EqAt
import PyProof.EqKinds
import PyProof.TupleCall
import Lean
import PySem.Challenge.RW_twinriddles_k21_turnings_looked_at
set_option Elab.async false
set_option linter.all false
namespace TT
open PySem
def adv (mask : Nat) (p : SetTable.Probe) : SetTable.Probe :=
  if p.more > 0 then { p with j := p.j + 1, more := p.more - 1 } else
  { p with j := (SetTable.leap mask p.i p.perturb).1, more := SetTable.runEnd mask (SetTable.leap mask p.i p.perturb).1 - (SetTable.leap mask p.i p.perturb).1, i := (SetTable.leap mask p.i p.perturb).1, perturb := (SetTable.leap mask p.i p.perturb).2 }
def stt (mask : Nat) (h : Int) : SetTable.Probe := { j := SetTable.bits h % (mask + 1), more := SetTable.runEnd mask (SetTable.bits h % (mask + 1)) - SetTable.bits h % (mask + 1), i := SetTable.bits h % (mask + 1), perturb := SetTable.bits h, dummy := none }
def pr (mask : Nat) (h : Int) : Nat → SetTable.Probe
  | 0 => stt mask h
  | n + 1 => adv mask (pr mask h n)
structure TabOk (hs : List Int) (t : SetTable) : Prop where
  pow : ∃ k, 3 ≤ k ∧ k ≤ 11 ∧ t.mask + 1 = 2 ^ k
  dum : t.dummies = #[]
  len : t.place.size = hs.length
  room : 5 * hs.length < 3 * t.mask
  ris : t.place.toList.Pairwise (· < ·)
  bd : ∀ j ∈ t.place.toList, j ≤ t.mask
  road : ∀ (i : Nat) (h : Int) (j : Nat), hs[i]? = some h → t.place[i]? = some j → ∃ n, (pr t.mask h n).j = j ∧ ∀ m, m < n → (pr t.mask h m).j ∈ t.place.toList
end TT
set_option Elab.async false
set_option linter.all false
set_option maxRecDepth 100000
namespace L2
open PySem PySem.Spec PyProof.Rows
abbrev Key := Sum Int Str
def keyIs : Key → Value → Bool
  | .inl k, v => Value.isInt k v
  | .inr x, v => Value.isStrOf x v
def keyH (w : World) : Key → Int
  | .inl k => hashInt k
  | .inr x => hashStr w x
theorem keyIs_shape : ∀ {k : Key} {v : Value}, keyIs k v = true → (∃ i t, k = Sum.inl i ∧ v = Value.int i t) ∨ (∃ x t, k = Sum.inr x ∧ v = Value.str x t)
  | .inl i, v, h => by
    obtain ⟨t, e⟩ := Value.isInt_shape (k := i) (v := v) h
    exact .inl ⟨i, t, rfl, e⟩
  | .inr x, v, h => by
    obtain ⟨t, e⟩ := Value.isStrOf_shape (x := x) (v := v) h
    exact .inr ⟨x, t, rfl, e⟩
theorem keyIs_int (i : Int) (t : Tok) : keyIs (.inl i) (.int i t) = true := by simp [keyIs, Value.isInt]
theorem keyIs_str (x : Str) (t : Tok) : keyIs (.inr x) (.str x t) = true := by simp [keyIs, Value.isStrOf]
theorem key_ll (a b : Int) : decide ((Sum.inl a : Key) = Sum.inl b) = (a == b) := by
  by_cases e : a = b
  · subst e; simp
  · have h : ¬ (Sum.inl a : Key) = Sum.inl b := fun q => e (Sum.inl.inj q)
    rw [decide_eq_false h]
    exact (beq_eq_false_iff_ne.mpr e).symm
theorem key_rr (a b : Str) : decide ((Sum.inr a : Key) = Sum.inr b) = decide (a = b) := by
  by_cases e : a = b
  · subst e; simp
  · have h : ¬ (Sum.inr a : Key) = Sum.inr b := fun q => e (Sum.inr.inj q)
    rw [decide_eq_false h, decide_eq_false e]
theorem key_lr (a : Int) (b : Str) : decide ((Sum.inl a : Key) = Sum.inr b) = false := decide_eq_false (fun q => nomatch q)
theorem key_rl (a : Str) (b : Int) : decide ((Sum.inr a : Key) = Sum.inl b) = false := decide_eq_false (fun q => nomatch q)
def mixKind (prog : Program) (w : World) : PySem.KeyKind prog w Key where
  is := keyIs
  hash := keyH w
  inj := fun v a b ha hb => by
    rcases keyIs_shape ha with ⟨i, t, rfl, rfl⟩ | ⟨x, t, rfl, rfl⟩
    · rcases keyIs_shape hb with ⟨j, u, rfl, e⟩ | ⟨y, u, rfl, e⟩
      · injection e with e1 _; rw [e1]
      · exact nomatch e
    · rcases keyIs_shape hb with ⟨j, u, rfl, e⟩ | ⟨y, u, rfl, e⟩
      · exact nomatch e
      · injection e with e1 _; rw [e1]
  byValue := fun k v h => by
    rcases keyIs_shape h with ⟨i, t, rfl, rfl⟩ | ⟨x, t, rfl, rfl⟩ <;> rfl
  pyHash := fun hv h => by
    rcases keyIs_shape hv with ⟨i, t, rfl, rfl⟩ | ⟨x, t, rfl, rfl⟩
    · exact wpAny_pyHash_int h
    · exact wpAny_pyHash_str h
  eqBool := fun hu hv h => by
    rcases keyIs_shape hu with ⟨i, t, rfl, rfl⟩ | ⟨x, t, rfl, rfl⟩
    · rcases keyIs_shape hv with ⟨j, u, rfl, rfl⟩ | ⟨y, u, rfl, rfl⟩
      · rw [key_ll] at h; exact wpAny_eqBool_int h
      · rw [key_lr] at h; exact SeqAt.EqAt.int_str i t y u _ _ _ _ h
    · rcases keyIs_shape hv with ⟨j, u, rfl, rfl⟩ | ⟨y, u, rfl, rfl⟩
      · rw [key_rl] at h; exact SeqAt.EqAt.str_int x t j u _ _ _ _ h
      · rw [key_rr] at h; exact wpAny_eqBool_str h
  «strs» := fun k x t v h => by
    rcases keyIs_shape h with ⟨i, u, rfl, e⟩ | ⟨y, u, rfl, e⟩
    · exact nomatch e
    · injection e with e1 _
      subst e1
      cases v <;> rfl
theorem mixKind_int (prog : Program) (w : World) (i : Int) (t : Tok) : (mixKind prog w).is (.inl i) (.int i t) = true := keyIs_int i t
theorem mixKind_str (prog : Program) (w : World) (x : Str) (t : Tok) : (mixKind prog w).is (.inr x) (.str x t) = true := keyIs_str x t
end L2
namespace L2
open PySem PySem.Spec PyProof.Rows
inductive V where
  | non | bl (b : Bool) | int (i : Int) | str (x : Str) | byt (b : Array UInt8) | flt (b : UInt64) | ref (a : Addr) | ty (n : String)
  deriving DecidableEq
def RelV : V → Value → Prop
  | .non, u => u = Value.none
  | .bl b, u => u = Value.bool b
  | .int i, u => ∃ t, u = Value.int i t
  | .str x, u => ∃ t, u = Value.str x t
  | .byt b, u => ∃ t, u = Value.bytes b t
  | .flt b, u => ∃ t, u = Value.float b t
  | .ref a, u => u = Value.ref a
  | .ty n, u => u = Value.type n
abbrev Vals : List V → List Value → Prop := Paired RelV
theorem Vals.length {xs : List V} {us : List Value} (r : Vals xs us) : xs.length = us.length := Paired.length r
theorem Vals.get : ∀ {xs : List V} {us : List Value} {i : Nat} {x : V}, Vals xs us → xs[i]? = some x → ∃ u, us[i]? = some u ∧ RelV x u
  | _, _, _, _, .nil, e => by simp at e
  | _, _, 0, _, .cons r _, e => by simp at e; subst e; exact ⟨_, rfl, r⟩
  | _, _, i + 1, x, .cons _ t, e => by
    obtain ⟨u, h1, h2⟩ := Vals.get (i := i) (x := x) t (by simpa using e)
    exact ⟨u, by simpa using h1, h2⟩
theorem Vals.set {x : V} {u : Value} (r : RelV x u) : ∀ {xs : List V} {us : List Value} (i : Nat), Vals xs us → Vals (xs.set i x) (us.set i u)
  | _, _, _, .nil => .nil
  | _, _, 0, .cons _ t => .cons r t
  | _, _, i + 1, .cons q t => .cons q (Vals.set r i t)
theorem Vals.append : ∀ {xs ys : List V} {us ws : List Value}, Vals xs us → Vals ys ws → Vals (xs ++ ys) (us ++ ws)
  | _, _, _, _, .nil, s => s
  | _, _, _, _, .cons r t, s => .cons r (Vals.append t s)
theorem Vals.take : ∀ {xs : List V} {us : List Value} (n : Nat), Vals xs us → Vals (xs.take n) (us.take n)
  | _, _, 0, _ => .nil
  | _, _, _ + 1, .nil => .nil
  | _, _, n + 1, .cons r t => .cons r (Vals.take n t)
theorem Vals.drop : ∀ {xs : List V} {us : List Value} (n : Nat), Vals xs us → Vals (xs.drop n) (us.drop n)
  | _, _, 0, r => r
  | _, _, _ + 1, .nil => .nil
  | _, _, n + 1, .cons _ t => Vals.drop n t
def RelO : Option V → Option Value → Prop
  | some v, some u => RelV v u
  | none, none => True
  | _, _ => False
def KV {κ : Type} : List (κ × V) → List (κ × Value) → Prop := Paired fun (p : κ × V) (q : κ × Value) => p.1 = q.1 ∧ RelV p.2 q.2
def kV : Key → V
  | .inl i => .int i
  | .inr x => .str x
inductive HO where
  /-- a list -/
  | lst (xs : List V)
  /-- a tuple (never changes) -/
  | tup (xs : List V)
  /-- a dict whose keys are ints and texts; one whose keys are tuples of ints and texts (the empty one is both) -/
  | dK (kvs : List (Key × V)) | dT (kvs : List (List Key × V))
  /-- a set of ints: its members, its size -/
  | set (S : Int → Bool) (n : Nat)
  /-- a set of tuples: the members and their hashes, by places -/
  | stt (zs : List (Int × V))
  /-- an instance of the class at C, its dict at dx, its attributes -/
  | ins (C dx : Addr) (fs : List (Str × V))
  /-- the dict of the instance at x -/
  | own (x : Addr)
  /-- the dict of an exception -/
  | xd (fs : List (Str × V))
  /-- a bound method, f of x -/
  | met (f x : Addr)
  /-- a range object lo, lo + 1, .. below hi -/
  | rng (lo hi : Int)
  /-- a thing that is known to the object (the script; a dict while a loop walks it): read, never written while it is so -/
  | frz (o : Obj) (u : HO)
  /-- a code object's table -/
  | tbl (ps : Array Value)
  /-- any other thing, by what is true of its one object (a def of one's own: SetO a S n := HO.ext fun h => ..) -/
  | ext (φ : Heap → Prop)
abbrev Hp := Addr → Option HO
def upd (H : Hp) (a : Addr) (o : HO) : Hp := fun b => if b = a then some o else H b
theorem upd_same {H : Hp} {a : Addr} {o : HO} : upd H a o a = some o := by unfold upd; rw [if_pos rfl]
theorem upd_ne {H : Hp} {a b : Addr} {o : HO} (h : b ≠ a) : upd H a o b = H b := by unfold upd; rw [if_neg h]
theorem ne_of_none {H : Hp} {a b : Addr} {o : HO} (h : H a = some o) (h' : H b = none) : a ≠ b := by
  intro e; subst e; rw [h] at h'; cases h'
section
variable (P : Program) (w : World)
def ObjOk (H : Hp) (h : Heap) (a : Addr) : HO → Prop
  | .lst xs => xs.length ≤ sizeLine ∧ ∃ (its : List Value) (n : Nat), Vals xs its ∧ h.get? a = some { cls := .type "list", data := .seq its.toArray n }
  | .tup xs => xs.length ≤ sizeLine ∧ ∃ its : List Value, Vals xs its ∧ IsTup h a its.toArray
  | .dK kvs => kvs.length ≤ sizeLine ∧ (a == sysModules) = false ∧ ∃ vs, KV kvs vs ∧ h.DictOf (mixKind P w) a vs
  | .dT kvs => kvs.length ≤ sizeLine ∧ (a == sysModules) = false ∧ ∃ xs : List (List Key × Addr × Value),
      Paired (fun (p : List Key × V) (q : List Key × Addr × Value) => p.1 = q.1 ∧ H q.2.1 = some (.tup (p.1.map kV)) ∧ RelV p.2 q.2.2) kvs xs ∧
      ∃ o es ep, h.get? a = some o ∧ o.ExactDict ∧ o.data = .dict es ep ∧ es.toList = xs.map (entryOfKey (tupleKind (mixKind P w))) ∧ (xs.map (·.1)).Nodup
  | .set S n => h.SetOf (intKind P w) a S n
  | .stt zs => ∃ (es : Array (Int × Value)) (n : Nat) (t : SetTable), h.get? a = some { cls := .type "set", data := .set es n t } ∧ Paired (fun (z : Int × V) (e : Int × Value) => z.1 = e.1 ∧ RelV z.2 e.2) zs es.toList ∧
      TT.TabOk (zs.map (·.1)) t ∧ t.plain = true ∧ t.led = !w.params.followText "set-order"
  | .ins C dx fs => H dx = some (.own a) ∧ fs.length ≤ 1000 ∧ dx ≠ a ∧ h.get? a = some (PySem.W.instObj C dx) ∧
      ∃ mA, h.Ns1 dx mA ∧ (∀ f, RelO (fs.lookup f) (mA f)) ∧ PySem.Within mA (fs.map (·.1))
  | .own _ => ∃ o, h.get? a = some o
  | .xd fs => ∃ mA, h.Ns1 a mA ∧ ∀ f, RelO (fs.lookup f) (mA f)
  | .rng lo hi => ∃ t u v, h.get? a = some { cls := .type "range", data := .fields #[.int lo t, .int hi u, .int 1 v] }
  | .frz o u => h.get? a = some o ∧ ObjOk H h a u
  | .tbl ps => h.get? a = some { cls := .none, data := .fields ps }
  | .met f x => h.get? a = some (PySem.W.methodObj (.ref f) (.ref x))
  | .ext φ => φ h ∧ (∃ o, h.get? a = some o) ∧ ∀ h1 h2 : Heap, φ h1 → (∀ o, h1.get? a = some o → h2.get? a = some o) → φ h2
def HOk (H : Hp) (h : Heap) : Prop := ∀ a o, H a = some o → ObjOk P w H h a o
end
section
variable {P : Program} {w : World} {H H' : Hp} {h h' : Heap} {a : Addr} {o : HO}
theorem ObjOk.lt (x : ObjOk P w H h a o) : a < h.objs.size := by
  cases o with
  | lst xs => obtain ⟨_, _, _, _, e⟩ := x; exact Heap.lt_size e
  | tup xs => obtain ⟨_, _, _, p⟩ := x; exact p.lt
  | dK kvs => obtain ⟨_, _, _, _, o, _, _, e, _⟩ := x; exact Heap.lt_size e
  | dT kvs => obtain ⟨_, _, _, _, o, _, _, e, _⟩ := x; exact Heap.lt_size e
  | set S n => obtain ⟨o, _, _, _, e, _⟩ := x; exact Heap.lt_size e
  | stt zs => obtain ⟨_, _, _, e, _⟩ := x; exact Heap.lt_size e
  | ins C dx fs => obtain ⟨_, _, _, e, _⟩ := x; exact Heap.lt_size e
  | own y => obtain ⟨_, e⟩ := x; exact Heap.lt_size e
  | xd fs => obtain ⟨_, ⟨_, _, _, e, _⟩, _⟩ := x; exact Heap.lt_size e
  | rng lo hi => obtain ⟨_, _, _, e⟩ := x; exact Heap.lt_size e
  | frz ob u => obtain ⟨e, _⟩ := x; exact Heap.lt_size e
  | tbl ps => exact Heap.lt_size (show h.get? a = some _ from x)
  | met f y => exact Heap.lt_size (show h.get? a = some _ from x)
  | ext φ => obtain ⟨_, ⟨_, e⟩, _⟩ := x; exact Heap.lt_size e
theorem Paired.mapP {α β : Type} {F G : α → β → Prop} : ∀ {l₁ : List α} {l₂ : List β}, Paired F l₁ l₂ → (∀ a b, F a b → G a b) → Paired G l₁ l₂
  | _, _, .nil, _ => .nil
  | _, _, .cons r t, f => .cons (f _ _ r) (Paired.mapP t f)
theorem Paired.imp' {α β : Type} {F G : α → β → Prop} (f : ∀ a b, F a b → G a b) {l₁ : List α} {l₂ : List β} (r : Paired F l₁ l₂) : Paired G l₁ l₂ := Paired.mapP r f
theorem ObjOk.stay (x : ObjOk P w H h a o) (k : ∀ b u, (b = a ∨ H b = some (.own a)) → h.get? b = some u → h'.get? b = some u)
    (ho : ∀ b, H b = some (.own a) → H' b = some (.own a)) (ht : ∀ b xs, H b = some (.tup xs) → H' b = some (.tup xs)) : ObjOk P w H' h' a o := by
  induction o with
  | lst xs => obtain ⟨z, its, n, r, e⟩ := x; exact ⟨z, its, n, r, k _ _ (.inl rfl) e⟩
  | tup xs => obtain ⟨z, its, r, ob, e, c⟩ := x; exact ⟨z, its, r, ob, k _ _ (.inl rfl) e, c⟩
  | dK kvs => obtain ⟨z, y, vs, r, ob, es, ep, e, c⟩ := x; exact ⟨z, y, vs, r, ob, es, ep, k _ _ (.inl rfl) e, c⟩
  | dT kvs =>
    obtain ⟨z, y, xs, r, ob, es, ep, e, c⟩ := x
    exact ⟨z, y, xs, Paired.mapP r fun p q z => ⟨z.1, ht _ _ z.2.1, z.2.2⟩, ob, es, ep, k _ _ (.inl rfl) e, c⟩
  | set S n => obtain ⟨ob, es, ep, t, e, c⟩ := x; exact ⟨ob, es, ep, t, k _ _ (.inl rfl) e, c⟩
  | stt zs => obtain ⟨es, n, t, e, c⟩ := x; exact ⟨es, n, t, k _ _ (.inl rfl) e, c⟩
  | ins C dx fs =>
    obtain ⟨d, z, ne, e, mA, ⟨od, es, ep, e2, c⟩, r⟩ := x
    exact ⟨ho _ d, z, ne, k _ _ (.inl rfl) e, mA, ⟨od, es, ep, k _ _ (.inr d) e2, c⟩, r⟩
  | own y => obtain ⟨ob, e⟩ := x; exact ⟨ob, k _ _ (.inl rfl) e⟩
  | xd fs => obtain ⟨mA, ⟨od, es, ep, e, c⟩, r⟩ := x; exact ⟨mA, ⟨od, es, ep, k _ _ (.inl rfl) e, c⟩, r⟩
  | rng lo hi => obtain ⟨t, u, v, e⟩ := x; exact ⟨t, u, v, k _ _ (.inl rfl) e⟩
  | frz ob u ih => obtain ⟨e, q⟩ := x; exact ⟨k _ _ (.inl rfl) e, ih q⟩
  | tbl ps =>
    have e : h.get? a = some { cls := .none, data := .fields ps } := x
    show h'.get? a = some { cls := .none, data := .fields ps }
    exact k a _ (.inl rfl) e
  | met f y =>
    have e : h.get? a = some (PySem.W.methodObj (.ref f) (.ref y)) := x
    show h'.get? a = some (PySem.W.methodObj (.ref f) (.ref y))
    exact k a _ (.inl rfl) e
  | ext φ => obtain ⟨p, ⟨o, e⟩, st⟩ := x; exact ⟨st _ _ p fun o q => k _ _ (.inl rfl) q, ⟨o, k _ _ (.inl rfl) e⟩, st⟩
theorem HOk.lt (x : HOk P w H h) (e : H a = some o) : a < h.objs.size := (x a o e).lt
theorem HOk.fresh (x : HOk P w H h) (e : h.objs.size ≤ a) : H a = none := by
  cases q : H a with
  | none => rfl
  | some u => exact absurd (Nat.lt_of_lt_of_le (x.lt q) e) (Nat.lt_irrefl _)
theorem HOk.kept (x : HOk P w H h) (k : ∀ b u, h.get? b = some u → h'.get? b = some u) : HOk P w H h' := fun a o e =>
  (x a o e).stay (fun b u _ q => k b u q) (fun _ q => q) fun _ _ q => q
theorem HOk.laid (x : HOk P w H h) (k : ∀ b u, h.get? b = some u → h'.get? b = some u) (hp : h.objs.size ≤ a) (new : ObjOk P w (upd H a o) h' a o) : HOk P w (upd H a o) h' := fun b u e => by
  have hn := x.fresh hp
  by_cases hb : b = a
  · subst hb; rw [upd_same] at e; cases e; exact new
  · rw [upd_ne hb] at e
    exact (x b u e).stay (fun c v _ q => k c v q) (fun c q => by rw [upd_ne (ne_of_none q hn)]; exact q) fun c xs q => by rw [upd_ne (ne_of_none q hn)]; exact q
end
def Rd (H : Hp) (a : Addr) (u : HO) : Prop := H a = some u ∨ ∃ o, H a = some (.frz o u)
theorem Rd.of {H : Hp} {a : Addr} {u : HO} (h : H a = some u) : Rd H a u := .inl h
theorem Rd.ok {P : Program} {w : World} {H : Hp} {h : Heap} {a : Addr} {u : HO} (r : Rd H a u) (x : HOk P w H h) : ObjOk P w H h a u := by
  rcases r with r | ⟨o, r⟩
  · exact x a u r
  · obtain ⟨_, q⟩ := x a _ r
    exact q
def Mut : Option HO → Prop
  | some (.lst _) => True
  | some (.dK _) => True
  | some (.dT _) => True
  | some (.set _ _) => True
  | some (.stt _) => True
  | some (.ins _ _ _) => True
  | some (.ext _) => True
  | _ => False
section
variable {P : Program} {w : World} {H : Hp} {h h' : Heap} {x e : Addr} {o' : HO}
theorem HOk.write (ok : HOk P w H h) (mu : Mut (H x)) (he : e = x ∨ H e = some (.own x)) (k : ∀ b u, b ≠ e → h.get? b = some u → h'.get? b = some u) (heo : ∃ u, h'.get? e = some u)
    (new : ObjOk P w (upd H x o') h' x o') : HOk P w (upd H x o') h' := fun b u q => by
  have nown : ∀ c y, H c = some (.own y) → c ≠ x := fun c y r z => by subst z; rw [r] at mu; exact mu
  have ntup : ∀ c xs, H c = some (.tup xs) → c ≠ x := fun c xs r z => by subst z; rw [r] at mu; exact mu
  by_cases hb : b = x
  · subst hb; rw [upd_same] at q; cases q; exact new
  · rw [upd_ne hb] at q
    by_cases hbe : b = e
    · have q' : H b = some (.own x) := by
        rcases he with z | z
        · exact absurd (hbe.trans z) hb
        · rw [hbe]; exact z
      rw [q] at q'; cases q'
      obtain ⟨v, hv⟩ := heo
      exact ⟨v, by rw [hbe]; exact hv⟩
    · refine (ok b u q).stay (fun c v hc r => k c v ?_ r) (fun c r => by rw [upd_ne (nown c b r)]; exact r) fun c xs r => by rw [upd_ne (ntup c xs r)]; exact r
      rcases hc with rfl | hc
      · exact hbe
      · rintro rfl
        rcases he with z | z
        · exact nown c b hc z
        · rw [hc] at z; cases z; exact hb rfl
end
structure Un (fs ex : List Addr) (H H' : Hp) (h h' : Heap) : Prop where
  keep : ∀ b o, h.get? b = some o → H b = none → b ∉ fs → b ∉ ex → h'.get? b = some o
  slot : ∀ b o, h.get? b = some o → H b = none → b ∈ fs → b ∉ ex → ∃ sl, h'.get? b = some { o with slots := sl }
  free : ∀ b o, h.get? b = some o → H b = none → b ∉ ex → H' b = none
  there : ∀ b o, h.get? b = some o → b ∉ ex → ∃ o', h'.get? b = some o'
  tups : ∀ b xs, H b = some (.tup xs) → H' b = some (.tup xs)
  frzs : ∀ b o u, H b = some (.frz o u) → H' b = some (.frz o u)
  tbls : ∀ b ps, H b = some (.tbl ps) → ∃ more, H' b = some (.tbl (ps ++ more))
section
variable {fs fs' ex ex' : List Addr} {H H1 H2 : Hp} {h h1 h2 h' : Heap} {a x e : Addr} {o : HO}
theorem Un.any (u : Un fs ex H H1 h h1) {b : Addr} {ob : Obj} (q : h.get? b = some ob) (n : H b = none) (hx : b ∉ ex) : ∃ sl, h1.get? b = some { ob with slots := sl } := by
  by_cases hb : b ∈ fs
  · exact u.slot b ob q n hb hx
  · exact ⟨ob.slots, u.keep b ob q n hb hx⟩
theorem Un.trans (a : Un fs ex H H1 h h1) (b : Un fs ex H1 H2 h1 h2) : Un fs ex H H2 h h2 where
  keep := fun c ob q n hc hx => b.keep c ob (a.keep c ob q n hc hx) (a.free c ob q n hx) hc hx
  slot := fun c ob q n hc hx => by
    obtain ⟨sl, e1⟩ := a.slot c ob q n hc hx
    obtain ⟨sl', e2⟩ := b.slot c _ e1 (a.free c ob q n hx) hc hx
    exact ⟨sl', e2⟩
  free := fun c ob q n hx => by
    obtain ⟨o', e1⟩ := a.there c ob q hx
    exact b.free c o' e1 (a.free c ob q n hx) hx
  there := fun c ob q hx => by
    obtain ⟨o', e1⟩ := a.there c ob q hx
    exact b.there c o' e1 hx
  tups := fun c xs q => b.tups c xs (a.tups c xs q)
  frzs := fun c ob xs q => b.frzs c ob xs (a.frzs c ob xs q)
  tbls := fun c ps q => by
    obtain ⟨m1, e1⟩ := a.tbls c ps q
    obtain ⟨m2, e2⟩ := b.tbls c _ e1
    exact ⟨m1 ++ m2, by rw [e2, Array.append_assoc]⟩
theorem Un.kept (k : ∀ b u, h.get? b = some u → h'.get? b = some u) : Un fs ex H H h h' :=
  ⟨fun b ob q _ _ _ => k b ob q, fun b ob q _ _ _ => ⟨ob.slots, k b ob q⟩, fun _ _ _ n _ => n, fun b ob q _ => ⟨ob, k b ob q⟩, fun _ _ q => q, fun _ _ _ q => q, fun _ ps q => ⟨#[], by rw [q]; simp⟩⟩
theorem Un.refl : Un fs ex H H h h := Un.kept fun _ _ q => q
theorem Un.laid (k : ∀ b u, h.get? b = some u → h'.get? b = some u) (hp : h.objs.size ≤ a) (hn : H a = none) : Un fs ex H (upd H a o) h h' where
  keep := fun b u q _ _ _ => k b u q
  slot := fun b u q _ _ _ => ⟨u.slots, k b u q⟩
  free := fun b u q n _ => by rw [upd_ne (Nat.ne_of_lt (Nat.lt_of_lt_of_le (Heap.lt_size q) hp))]; exact n
  there := fun b u q _ => ⟨u, k b u q⟩
  tups := fun b xs q => by rw [upd_ne (ne_of_none q hn)]; exact q
  frzs := fun b u xs q => by rw [upd_ne (ne_of_none q hn)]; exact q
  tbls := fun b ps q => ⟨#[], by rw [upd_ne (ne_of_none q hn), q]; simp⟩
theorem Un.write (mu : Mut (H x)) (he : e = x ∨ H e = some (.own x)) (k : ∀ b u, b ≠ e → h.get? b = some u → h'.get? b = some u) (heo : ∃ u, h'.get? e = some u) : Un fs ex H (upd H x o) h h' := by
  have hx : ∀ b, H b = none → b ≠ x := fun b n z => by subst z; rw [n] at mu; exact mu
  have hb : ∀ b, H b = none → b ≠ e := fun b n z => by
    subst z
    rcases he with r | r
    · exact hx b n r
    · rw [n] at r; cases r
  have hm : ∀ b u, H b = some u → ¬ Mut (some u) → b ≠ x := fun b u q nm z => by subst z; rw [q] at mu; exact nm mu
  refine ⟨fun b u q n _ _ => k b u (hb b n) q, fun b u q n _ _ => ⟨u.slots, k b u (hb b n) q⟩, fun b u q n _ => by rw [upd_ne (hx b n)]; exact n, fun b u q _ => ?_,
    fun b xs q => by rw [upd_ne (hm b _ q fun z => z)]; exact q, fun b u xs q => by rw [upd_ne (hm b _ q fun z => z)]; exact q, fun b ps q => ⟨#[], by rw [upd_ne (hm b _ q fun z => z), q]; simp⟩⟩
  by_cases hbe : b = e
  · subst hbe; exact heo
  · exact ⟨u, k b u hbe q⟩
theorem Un.mono (u : Un fs ex H H1 h h1) (hs : ∀ b ∈ fs, b ∈ fs') (hx : ∀ b ∈ ex, b ∈ ex') : Un fs' ex' H H1 h h1 :=
  ⟨fun b ob q n hb he => u.keep b ob q n (fun z => hb (hs b z)) fun z => he (hx b z), fun _ _ q n _ he => u.any q n fun z => he (hx _ z), fun b ob q n he => u.free b ob q n fun z => he (hx b z), fun b ob q he => u.there b ob q fun z => he (hx b z), u.tups, u.frzs, u.tbls⟩
end
def trk (h : Heap) (H : Hp) : List Addr := (List.range h.objs.size).filter fun a => (H a).isSome
def hidT (h : Heap) (H : Hp) : Heap := PySem.W.hideAll h (trk h H)
theorem hidT_size (h : Heap) (H : Hp) : (hidT h H).objs.size = h.objs.size := PySem.W.hideAll_size _ _
theorem hidT_get {h : Heap} {H : Hp} {b : Addr} {o : Obj} (e : h.get? b = some o) (n : H b = none) : (hidT h H).get? b = some o :=
  PySem.W.hideAll_get _ e fun hm => by
    have q : (H b).isSome = true := (List.mem_filter.mp hm).2
    rw [n] at q; simp at q
theorem of_hidT {h : Heap} {H : Hp} {b : Addr} {o : Obj} (e : (hidT h H).get? b = some o) : h.get? b = some o ∧ H b = none := by
  have e' : h.get? b = some o := PySem.W.of_hideAll (trk h H) e
  refine ⟨e', ?_⟩
  cases q : H b with
  | none => rfl
  | some x =>
    have hm : b ∈ trk h H := List.mem_filter.mpr ⟨List.mem_range.mpr (Heap.lt_size e'), by simp [q]⟩
    have z : (hidT h H).get? b = none := PySem.W.hideAll_none (trk h H) hm
    rw [z] at e; cases e
def allNews (g h : Heap) (L : Addr) : List (Addr × Obj) := (List.range h.objs.size).filterMap fun a => if a = L ∨ (g.get? a).isSome = true then none else (h.get? a).map fun o => (a, o)
def rest (g h : Heap) (L d : Addr) : List (Addr × Obj) := (allNews g h L).filter fun p => decide (p.1 ≠ d)
end L2
namespace L2
open PySem PySem.Spec PyProof.Rows
structure Mod (K : PySem.W.Frag) (mg : Str → Option Value) (base : Heap) : Prop where
  kin : K.In base
  glob : base.Ns mainGlobals mg
  blt : ∃ mb, base.Ns builtinsNs mb ∧ ∀ x : Str, x ≠ "__name__" → mb x = bootBuiltins x
  nolimit : base.NoLimit
structure Cx where
  prog : Program
  w : World
  K : PySem.W.Frag
  mg : Str → Option Value
  base : Heap
  A : Around
  N : List Str
  s₀ : Shared
  H₀ : Hp
  env : Env
  outer : List Env
  stack : List Env
  ex : List Addr
  fn : Str → Bool
  calm : Bool
  pn : List (Addr × Obj)
  xe : Value → Shared → Prop
def frs (l : List Env) : List Addr := l.filterMap (·.frame)
abbrev Cx.fs (X : Cx) : List Addr := frs X.outer
def Vis (sc : Scope) (x : Str) : Prop := sc.names.lookup x = some .local ∨ sc.names.lookup x = some .cell ∨ sc.names.lookup x = some .free
def Loc (sc : Scope) (x : Str) : Prop := sc.names.lookup x = some .local ∨ sc.names.lookup x = some .cell
def Look (env : Env) (h : Heap) (m : Str → Option Value) (x : Str) (u : Value) : Prop :=
  (env.kindOf x = some .local ∧ m x = some u) ∨ ((env.kindOf x = some .cell ∨ env.kindOf x = some .free) ∧ ∃ c, env.cells.lookup x = some c ∧ h.IsCell c (some u))
structure Cx.Ok (X : Cx) : Prop where
  mod : Mod X.K X.mg X.base
  kind : X.env.scope.kind = .function
  glob : X.env.globals = mainGlobals
  blt : X.env.builtins = builtinsNs
  above : X.s₀.heap.objs.size ≤ X.env.locals
  inj : ∀ x y c, X.env.cells.lookup x = some c → X.env.cells.lookup y = some c → x = y
  has : ∀ x, (X.env.kindOf x = some .cell ∨ X.env.kindOf x = some .free) → ∃ c, X.env.cells.lookup x = some c
  cab : ∀ x c, X.fn x = true → X.env.cells.lookup x = some c → X.s₀.heap.objs.size ≤ c
  hd : X.calm = true → X.A.handled = none
  frames : X.A.frames = some X.stack
  stk : X.stack = X.outer ∨ (X.stack = X.env :: X.outer ∧ X.env.frame = some X.env.locals)
  exf : ∀ b ∈ X.ex, b ≠ X.env.locals ∧ ∀ x c, X.env.cells.lookup x = some c → c ≠ b
  bs : ∀ b o, X.base.get? b = some o → X.s₀.heap.get? b = some o ∧ X.H₀ b = none
  bsz : X.base.objs.size ≤ X.s₀.heap.objs.size
  noex : ∀ b o, X.base.get? b = some o → b ∉ X.ex
  exfs : ∀ b ∈ X.ex, b ∉ X.fs
  funs : X.s₀.heap.FunFrames X.base X.outer
  frf : ∀ b ∈ X.fs, X.H₀ b = none
structure Inv (X : Cx) (pins : List (Addr × Obj)) (σ : List (Option V)) (H : Hp) (s : Shared) : Prop where
  ok : X.Ok
  os : s.os = X.s₀.os
  bare : AllBare s.gens
  base : Un X.fs X.ex X.H₀ H X.s₀.heap s.heap
  loc : ∃ m, s.heap.Ns X.env.locals m ∧ ∀ (i : Nat) (x : Str) (v : V), X.N[i]? = some x → σ[i]? = some (some v) → Vis X.env.scope x → ∃ u, RelV v u ∧ Look X.env s.heap m x u
  cell : ∀ x c, X.env.cells.lookup x = some c → ∃ v, s.heap.IsCell c v
  free : H X.env.locals = none
  freeC : ∀ x c, X.env.cells.lookup x = some c → H c = none
  pin : ∀ p ∈ X.pn ++ pins, s.heap.get? p.1 = some p.2 ∧ H p.1 = none ∧ p.1 ≠ X.env.locals ∧ p.1 ∉ X.fs ∧ ∀ v, p.2.data ≠ .cell v
  hok : HOk X.prog X.w H s.heap
  len : σ.length = X.N.length
section
variable {X : Cx} {pins : List (Addr × Obj)} {σ : List (Option V)} {H H' : Hp} {s : Shared} {h' : Heap}
theorem Cx.Ok.nofr (ok : X.Ok) {b : Addr} {o : Obj} (e : X.base.get? b = some o) : b ∉ X.fs := fun hb => by
  have := (ok.funs.mem hb).1
  rw [e] at this; cases this
theorem Inv.bs (I : Inv X pins σ H s) : ∀ b o, X.base.get? b = some o → s.heap.get? b = some o ∧ H b = none := fun b o e =>
  ⟨I.base.keep b o (I.ok.bs b o e).1 (I.ok.bs b o e).2 (I.ok.nofr e) (I.ok.noex b o e), I.base.free b o (I.ok.bs b o e).1 (I.ok.bs b o e).2 (I.ok.noex b o e)⟩
theorem Inv.bk (I : Inv X pins σ H s) : ∀ b o, X.base.get? b = some o → s.heap.get? b = some o := fun b o e => (I.bs b o e).1
theorem Inv.mod (I : Inv X pins σ H s) : Mod X.K X.mg X.base := I.ok.mod
theorem Inv.kIn (I : Inv X pins σ H s) : X.K.In s.heap := I.ok.mod.kin.keeps I.bk
theorem Inv.nolimit (I : Inv X pins σ H s) : s.heap.NoLimit := I.ok.mod.nolimit.keeps I.bk
theorem Inv.fr (I : Inv X pins σ H s) : ∃ m, Fr X.base X.env.locals s.heap m :=
  let ⟨m, hn, _⟩ := I.loc
  ⟨m, hn, I.bk, Nat.le_trans I.ok.bsz I.ok.above⟩
theorem Inv.lt (I : Inv X pins σ H s) : X.env.locals < s.heap.objs.size := let ⟨_, hn, _⟩ := I.loc; hn.lt
theorem Inv.sz (I : Inv X pins σ H s) : X.s₀.heap.objs.size ≤ s.heap.objs.size := Nat.le_trans I.ok.above (Nat.le_of_lt I.lt)
theorem Inv.nofs (I : Inv X pins σ H s) {a : Addr} (h : s.heap.objs.size ≤ a) : a ∉ X.fs := fun hb => by
  obtain ⟨_, o, ho, _⟩ := I.ok.funs.mem hb
  exact absurd (Nat.lt_of_lt_of_le (Heap.lt_size ho) (Nat.le_trans I.sz h)) (Nat.lt_irrefl _)
theorem Inv.cne (I : Inv X pins σ H s) : ∀ x c, X.env.cells.lookup x = some c → c ≠ X.env.locals := fun x c e z => by
  obtain ⟨v, o, ho, hd⟩ := I.cell x c e
  obtain ⟨m, ⟨o', es, ep, ho', hd', _⟩, _⟩ := I.loc
  rw [z, ho'] at ho; cases ho; rw [hd'] at hd; cases hd
theorem Inv.funs (I : Inv X pins σ H s) : s.heap.FunFrames X.base X.outer := by
  have all : ∀ (l : List Env), (∀ b ∈ frs l, b ∈ X.fs) → X.s₀.heap.FunFrames X.base l → s.heap.FunFrames X.base l := by
    intro l
    induction l with
    | nil => intro _ _; trivial
    | cons env r ih =>
      intro hs hl
      obtain ⟨hk, ⟨L, o, hf, hn, ho, hd⟩, hr⟩ := hl
      have hL : L ∈ X.fs := hs L (by unfold frs; rw [List.filterMap_cons, hf]; exact List.mem_cons_self)
      obtain ⟨sl, e⟩ := I.base.slot L o ho (I.ok.frf L hL) hL fun z => I.ok.exfs L z hL
      exact ⟨hk, ⟨L, _, hf, hn, e, hd⟩, ih (fun b hb => hs b (by unfold frs; rw [List.filterMap_cons, hf]; exact List.mem_cons_of_mem _ hb)) hr⟩
  exact all X.outer (fun _ hb => hb) I.ok.funs
theorem Inv.stack (I : Inv X pins σ H s) : s.heap.FunFrames X.base X.stack := by
  rcases I.ok.stk with e | ⟨e, hf⟩
  · rw [e]; exact I.funs
  · rw [e]
    obtain ⟨m, hn, _⟩ := I.loc
    refine .cons (by rw [I.ok.kind]; decide) hf hn ?_ I.funs
    exact Heap.get?_none_of_le (Nat.le_trans I.ok.bsz I.ok.above)
theorem Inv.stkSub (I : Inv X pins σ H s) : ∀ b ∈ frs X.stack, b ∈ X.env.locals :: X.fs := fun b hb => by
  rcases I.ok.stk with e | ⟨e, hf⟩
  · rw [e] at hb; exact List.mem_cons_of_mem _ hb
  · rw [e] at hb
    unfold frs at hb
    rw [List.filterMap_cons, hf] at hb
    exact hb
theorem Inv.stkFree (I : Inv X pins σ H s) : ∀ b ∈ frs X.stack, H b = none := fun b hb => by
  rcases List.mem_cons.mp (I.stkSub b hb) with e | hb
  · rw [e]; exact I.free
  · obtain ⟨_, o, ho, _⟩ := I.ok.funs.mem hb
    exact I.base.free b o ho (I.ok.frf b hb) fun z => I.ok.exfs b z hb
theorem Inv.step {g' : Array GenState} {t' : Nat} {d' : Drawn} {ch : List Addr} (I : Inv X pins σ H s)
    (hch : ∀ b ∈ ch, (b ∈ X.ex ∨ X.s₀.heap.objs.size ≤ b) ∧ b ≠ X.env.locals ∧ (∀ x c, X.env.cells.lookup x = some c → c ≠ b) ∧ ∀ p ∈ X.pn ++ pins, p.1 ≠ b)
    (keep : ∀ b o, b ≠ X.env.locals → b ∉ X.fs → b ∉ ch → s.heap.get? b = some o → H b = none → h'.get? b = some o)
    (slot : ∀ b o, b ≠ X.env.locals → b ∈ X.fs → b ∉ ch → s.heap.get? b = some o → H b = none → ∃ sl, h'.get? b = some { o with slots := sl }) (free : ∀ b o, b ∉ ch → s.heap.get? b = some o → H b = none → H' b = none)
    (there : ∀ b o, b ∉ ch → s.heap.get? b = some o → ∃ o', h'.get? b = some o')
    (tups : ∀ b xs, H b = some (.tup xs) → H' b = some (.tup xs)) (frzs : ∀ b o u, H b = some (.frz o u) → H' b = some (.frz o u)) (tbls : ∀ b ps, H b = some (.tbl ps) → ∃ more, H' b = some (.tbl (ps ++ more)))
    (ns : ∀ m, s.heap.Ns X.env.locals m → h'.Ns X.env.locals m) (hok : HOk X.prog X.w H' h') (hg : AllBare g') :
    Inv X pins σ H' { s with heap := h', gens := g', drawn := d', toks := t' } := by
  have neL : ∀ b o, X.s₀.heap.get? b = some o → b ≠ X.env.locals := fun b o e => Nat.ne_of_lt (Nat.lt_of_lt_of_le (Heap.lt_size e) I.ok.above)
  have neC : ∀ b o, X.s₀.heap.get? b = some o → b ∉ X.ex → b ∉ ch := fun b o e hx hb => by
    rcases (hch b hb).1 with z | z
    · exact hx z
    · exact absurd (Nat.lt_of_lt_of_le (Heap.lt_size e) z) (Nat.lt_irrefl _)
  have cellK : ∀ x c, X.env.cells.lookup x = some c → ∀ v, s.heap.IsCell c v → h'.IsCell c v := fun x c e v ⟨o, ho, hd⟩ => by
    have nch : c ∉ ch := fun z => (hch c z).2.2.1 x c e rfl
    by_cases hc : c ∈ X.fs
    · obtain ⟨sl, q⟩ := slot c o (I.cne x c e) hc nch ho (I.freeC x c e)
      exact ⟨_, q, hd⟩
    · exact ⟨o, keep c o (I.cne x c e) hc nch ho (I.freeC x c e), hd⟩
  refine ⟨I.ok, I.os, hg, ⟨fun b o e n hb hx => ?_, fun b o e n hb hx => ?_, fun b o e n hx => ?_, fun b o e hx => ?_, fun b xs e => tups b xs (I.base.tups b xs e), fun b o xs e => frzs b o xs (I.base.frzs b o xs e), fun b ps e => ?_⟩, ?_, fun x c e => ?_, ?_, fun x c e => ?_, fun p hp => ?_, hok, I.len⟩
  · exact keep b o (neL b o e) hb (neC b o e hx) (I.base.keep b o e n hb hx) (I.base.free b o e n hx)
  · obtain ⟨sl, e1⟩ := I.base.slot b o e n hb hx
    obtain ⟨sl', e2⟩ := slot b _ (neL b o e) hb (neC b o e hx) e1 (I.base.free b o e n hx)
    exact ⟨sl', e2⟩
  · obtain ⟨o', e1⟩ := I.base.there b o e hx
    exact free b o' (neC b o e hx) e1 (I.base.free b o e n hx)
  · obtain ⟨o', e1⟩ := I.base.there b o e hx
    exact there b o' (neC b o e hx) e1
  · obtain ⟨m1, e1⟩ := I.base.tbls b ps e
    obtain ⟨m2, e2⟩ := tbls b _ e1
    exact ⟨m1 ++ m2, by rw [e2, Array.append_assoc]⟩
  · obtain ⟨m, hn, hl⟩ := I.loc
    refine ⟨m, ns m hn, fun i x v e1 e2 e3 => ?_⟩
    obtain ⟨u, r, l⟩ := hl i x v e1 e2 e3
    refine ⟨u, r, ?_⟩
    rcases l with l | ⟨k, c, e, z⟩
    · exact .inl l
    · exact .inr ⟨k, c, e, cellK x c e _ z⟩
  · obtain ⟨v, z⟩ := I.cell x c e
    exact ⟨v, cellK x c e v z⟩
  · obtain ⟨m, ⟨o, _, _, ho, _⟩, _⟩ := I.loc
    exact free _ o (fun z => (hch _ z).2.1 rfl) ho I.free
  · obtain ⟨v, o, ho, hd⟩ := I.cell x c e
    exact free c o (fun z => (hch c z).2.2.1 x c e rfl) ho (I.freeC x c e)
  · obtain ⟨e, n, ne, nf, d⟩ := I.pin p hp
    have nch : p.1 ∉ ch := fun z => (hch p.1 z).2.2.2 p hp rfl
    exact ⟨keep p.1 p.2 ne nf nch e n, free p.1 p.2 nch e n, ne, nf, d⟩
theorem Inv.un {t' : Nat} (I : Inv X pins σ H s) (u : Un X.fs [] H H' s.heap h') (hok : HOk X.prog X.w H' h') : Inv X pins σ H' { s with heap := h', toks := t' } := by
  obtain ⟨m, ⟨o, es, ep, ho, r⟩, _⟩ := id I.loc
  obtain ⟨sl, hL⟩ := u.any ho I.free (by simp)
  exact I.step (g' := s.gens) (d' := s.drawn) (ch := []) (fun _ z => nomatch z) (fun b o _ hb _ e n => u.keep b o e n hb (by simp)) (fun b o _ hb _ e n => u.slot b o e n hb (by simp)) (fun b o _ e n => u.free b o e n (by simp)) (fun b o _ e => u.there b o e (by simp)) u.tups u.frzs u.tbls (fun m' hm => by
    obtain ⟨o', es', ep', ho', r'⟩ := hm
    rw [ho] at ho'; cases ho'
    exact ⟨_, es', ep', hL, r'⟩) hok I.bare
theorem Inv.call {g' : Array GenState} {t' : Nat} {d' : Drawn} {ch : List Addr} (I : Inv X pins σ H s) (u : Un (frs X.stack) ch H H' s.heap h') (hok : HOk X.prog X.w H' h') (hg : AllBare g')
    (hch : ∀ b ∈ ch, (b ∈ X.ex ∨ X.s₀.heap.objs.size ≤ b) ∧ b ≠ X.env.locals ∧ (∀ x c, X.env.cells.lookup x = some c → c ≠ b) ∧ ∀ p ∈ X.pn ++ pins, p.1 ≠ b) :
    Inv X pins σ H' { s with heap := h', gens := g', drawn := d', toks := t' } := by
  obtain ⟨m, ⟨o, es, ep, ho, r⟩, _⟩ := id I.loc
  obtain ⟨sl, hL⟩ := u.any ho I.free fun z => (hch _ z).2.1 rfl
  exact I.step (ch := ch) hch (fun b o hL hb hc e n => u.keep b o e n (fun z => (List.mem_cons.mp (I.stkSub b z)).elim hL hb) hc) (fun b o _ _ hc e n => u.any e n hc) (fun b o hc e n => u.free b o e n hc) (fun b o hc e => u.there b o e hc) u.tups u.frzs u.tbls (fun m' hm => by
    obtain ⟨o', es', ep', ho', r'⟩ := hm
    rw [ho] at ho'; cases ho'
    exact ⟨_, es', ep', hL, r'⟩) hok hg
theorem Inv.turned {t' : Nat} {it : Addr} (I : Inv X pins σ H s) (k : ∀ b o, b ≠ it → s.heap.get? b = some o → h'.get? b = some o) (hn : H it = none) (hL : it ≠ X.env.locals)
    (h1 : it ∈ X.ex ∨ X.s₀.heap.objs.size ≤ it) (h2 : ∀ x c, X.env.cells.lookup x = some c → c ≠ it) (h3 : ∀ p ∈ X.pn ++ pins, p.1 ≠ it) : Inv X pins σ H { s with heap := h', toks := t' } := by
  have nit : ∀ b u, H b = some u → b ≠ it := fun b u e z => by rw [z, hn] at e; cases e
  refine I.step (g' := s.gens) (d' := s.drawn) (ch := [it]) (fun b hb => ?_) (fun b o _ _ hc e _ => k b o (fun z => hc (by simp [z])) e) (fun b o _ _ hc e _ => ⟨o.slots, k b o (fun z => hc (by simp [z])) e⟩) (fun _ _ _ _ n => n)
    (fun b o hc e => ⟨o, k b o (fun z => hc (by simp [z])) e⟩) (fun _ _ e => e) (fun _ _ _ e => e) (fun b ps e => ⟨#[], by rw [e]; simp⟩) (fun m hm => ?_) (fun b u e => ?_) I.bare
  · have e : b = it := by simpa using hb
    subst e
    exact ⟨h1, hL, h2, h3⟩
  · obtain ⟨o, es, ep, ho, r⟩ := hm
    exact ⟨o, es, ep, k _ o (Ne.symm hL) ho, r⟩
  · refine (I.hok b u e).stay (fun c v hc q => k c v ?_ q) (fun _ q => q) fun _ _ q => q
    rcases hc with z | z
    · rw [z]; exact nit b u e
    · exact nit c _ z
theorem Inv.tok (I : Inv X pins σ H s) (t : Nat) : Inv X pins σ H { s with toks := t } := I.un (h' := s.heap) (t' := t) Un.refl I.hok
theorem Inv.kept {t' : Nat} (I : Inv X pins σ H s) (k : ∀ b u, s.heap.get? b = some u → h'.get? b = some u) : Inv X pins σ H { s with heap := h', toks := t' } := I.un (Un.kept k) (I.hok.kept k)
theorem Inv.laid {a : Addr} {o : HO} {t' : Nat} (I : Inv X pins σ H s) (k : ∀ b u, s.heap.get? b = some u → h'.get? b = some u) (hp : s.heap.objs.size ≤ a) (new : ObjOk X.prog X.w (upd H a o) h' a o) :
    Inv X pins σ (upd H a o) { s with heap := h', toks := t' } := I.un (Un.laid k hp (I.hok.fresh hp)) (I.hok.laid k hp new)
theorem Inv.write {x e : Addr} {o : HO} {t' : Nat} (I : Inv X pins σ H s) (mu : Mut (H x)) (he : e = x ∨ H e = some (.own x)) (k : ∀ b u, b ≠ e → s.heap.get? b = some u → h'.get? b = some u) (heo : ∃ u, h'.get? e = some u)
    (new : ObjOk X.prog X.w (upd H x o) h' x o) : Inv X pins σ (upd H x o) { s with heap := h', toks := t' } := I.un (Un.write mu he k heo) (I.hok.write mu he k heo new)
theorem Inv.pins_of {pins' : List (Addr × Obj)} (I : Inv X pins σ H s) (h : ∀ p ∈ pins', s.heap.get? p.1 = some p.2 ∧ H p.1 = none ∧ p.1 ≠ X.env.locals ∧ p.1 ∉ X.fs ∧ ∀ v, p.2.data ≠ .cell v) : Inv X pins' σ H s :=
  ⟨I.ok, I.os, I.bare, I.base, I.loc, I.cell, I.free, I.freeC, fun p hp => (List.mem_append.mp hp).elim (fun z => I.pin p (List.mem_append_left _ z)) (h p), I.hok, I.len⟩
theorem nodup_ix {N : List Str} (hN : N.Nodup) {i j : Nat} {x : Str} (a : N[i]? = some x) (b : N[j]? = some x) : i = j := by
  obtain ⟨h1, e1⟩ := List.getElem?_eq_some_iff.mp a
  obtain ⟨h2, e2⟩ := List.getElem?_eq_some_iff.mp b
  exact (List.getElem_inj hN).mp (e1.trans e2.symm)
theorem store_ok2 {M : Model} {A : Around} {E : Value → Shared → Prop} {i : Nat} {x : Str} {v : V} {u : Value} {Q : Unit → Shared → Prop} (I : Inv X pins σ H s) (hN : X.N.Nodup) (hi : X.N[i]? = some x) (hx : Loc X.env.scope x) (r : RelV v u)
    (h : ∀ s', Inv X pins (σ.set i (some v)) H s' → (∃ a, Heap.SameBut a s.heap s'.heap ∧ (a = X.env.locals ∨ X.env.cells.lookup x = some a)) → Q () s') (hf : X.fn x = true ∨ X.env.scope.names.lookup x = some .local := by first | exact .inl rfl | exact .inr rfl | assumption) : wpAny M A (storeName X.env x u) Q E s := by
  obtain ⟨m, hn, hl⟩ := id I.loc
  have hcls : (X.env.scope.kind == .class || (X.env.scope.kind == .module && X.env.locals != X.env.globals)) = false := by rw [I.ok.kind]; rfl
  have hiσ : i < σ.length := by rw [I.len]; exact (List.getElem?_eq_some_iff.mp hi).1
  have cne := I.cne
  have tracked : ∀ {a : Addr} {h' : Heap}, (∃ o, s.heap.get? a = some o ∧ H a = none) → Heap.SameBut a s.heap h' → HOk X.prog X.w H h' := fun {a h'} ha hs b ob e => by
    obtain ⟨_, _, hfree⟩ := ha
    refine (I.hok b ob e).stay (fun c w' hc q => (hs.2 c ?_).trans q) (fun _ q => q) fun _ _ q => q
    rintro rfl
    rcases hc with rfl | hc
    · rw [hfree] at e; cases e
    · rw [hfree] at hc; cases hc
  rcases hx with hk | hk
  · refine wpAny_storeName_local hk hn (fun h' hn' hs => ?_) hcls
    obtain ⟨oL, _, _, hoL, _⟩ := id hn
    refine h _ ⟨I.ok, I.os, I.bare, ⟨fun b o e n hb hx => ?_, fun b o e n hb hx => ?_, I.base.free, fun b o e hx => ?_, I.base.tups, I.base.frzs, I.base.tbls⟩, ⟨_, hn', fun j y v' e1 e2 e3 => ?_⟩, fun y c e => ?_, I.free, I.freeC, fun p hp => ?_, tracked ⟨oL, hoL, I.free⟩ hs, by simpa using I.len⟩ ⟨_, hs, .inl rfl⟩
    · exact (hs.2 b (Nat.ne_of_lt (Nat.lt_of_lt_of_le (Heap.lt_size e) I.ok.above))).trans (I.base.keep b o e n hb hx)
    · obtain ⟨sl, e1⟩ := I.base.slot b o e n hb hx
      exact ⟨sl, (hs.2 b (Nat.ne_of_lt (Nat.lt_of_lt_of_le (Heap.lt_size e) I.ok.above))).trans e1⟩
    · obtain ⟨o', e1⟩ := I.base.there b o e hx
      exact ⟨o', (hs.2 b (Nat.ne_of_lt (Nat.lt_of_lt_of_le (Heap.lt_size e) I.ok.above))).trans e1⟩
    · by_cases hj : j = i
      · subst hj
        rw [hi] at e1; cases e1
        rw [List.getElem?_set_self hiσ] at e2
        cases e2
        exact ⟨u, r, .inl ⟨hk, by simp⟩⟩
      · rw [List.getElem?_set_ne (Ne.symm hj)] at e2
        obtain ⟨u', r', q⟩ := hl j y v' e1 e2 e3
        refine ⟨u', r', ?_⟩
        rcases q with ⟨k, e⟩ | ⟨k, c, e, z⟩
        · refine .inl ⟨k, ?_⟩
          have : y ≠ x := fun e => hj (nodup_ix hN e1 (e ▸ hi))
          simp [this, e]
        · exact .inr ⟨k, c, e, z.sameBut hs (cne y c e)⟩
    · obtain ⟨w', z⟩ := I.cell y c e
      exact ⟨w', z.sameBut hs (cne y c e)⟩
    · obtain ⟨e, n, ne, nf, d⟩ := I.pin p hp
      exact ⟨(hs.2 p.1 ne).trans e, n, ne, nf, d⟩
  · have hfn : X.fn x = true := by
      rcases hf with z | z
      · exact z
      · rw [z] at hk; cases hk
    obtain ⟨c, hc⟩ := I.ok.has x (.inl hk)
    obtain ⟨w', z⟩ := I.cell x c hc
    refine wpAny_storeName_cell I.ok.kind hk hc z (fun h' hc' hs => ?_)
    obtain ⟨oc, hoc, hocd⟩ := id z
    refine h { s with heap := h' } ⟨I.ok, I.os, I.bare, ⟨fun b o e n hb hx => ?_, fun b o e n hb hx => ?_, I.base.free, fun b o e hx => ?_, I.base.tups, I.base.frzs, I.base.tbls⟩, ⟨m, hn.sameBut hs (Ne.symm (cne x c hc)), fun j y v' e1 e2 e3 => ?_⟩, fun y c' e => ?_, I.free, I.freeC, fun p hp => ?_, tracked ⟨oc, hoc, I.freeC x c hc⟩ hs, by simpa using I.len⟩ ⟨c, hs, .inr hc⟩
    · exact (hs.2 b (Nat.ne_of_lt (Nat.lt_of_lt_of_le (Heap.lt_size e) (I.ok.cab x c hfn hc)))).trans (I.base.keep b o e n hb hx)
    · obtain ⟨sl, e1⟩ := I.base.slot b o e n hb hx
      exact ⟨sl, (hs.2 b (Nat.ne_of_lt (Nat.lt_of_lt_of_le (Heap.lt_size e) (I.ok.cab x c hfn hc)))).trans e1⟩
    · obtain ⟨o', e1⟩ := I.base.there b o e hx
      exact ⟨o', (hs.2 b (Nat.ne_of_lt (Nat.lt_of_lt_of_le (Heap.lt_size e) (I.ok.cab x c hfn hc)))).trans e1⟩
    · by_cases hj : j = i
      · subst hj
        rw [hi] at e1; cases e1
        rw [List.getElem?_set_self hiσ] at e2
        cases e2
        exact ⟨u, r, .inr ⟨.inl hk, c, hc, hc'⟩⟩
      · rw [List.getElem?_set_ne (Ne.symm hj)] at e2
        obtain ⟨u', r', q⟩ := hl j y v' e1 e2 e3
        refine ⟨u', r', ?_⟩
        rcases q with q | ⟨k, c', e, z'⟩
        · exact .inl q
        · refine .inr ⟨k, c', e, z'.sameBut hs ?_⟩
          rintro rfl
          exact hj (nodup_ix hN e1 (I.ok.inj _ _ _ e hc ▸ hi))
    · by_cases hcc : c' = c
      · subst hcc; exact ⟨_, hc'⟩
      · obtain ⟨w2, z2⟩ := I.cell y c' e
        exact ⟨w2, z2.sameBut hs hcc⟩
    · obtain ⟨e, n, ne, nf, d⟩ := I.pin p hp
      refine ⟨(hs.2 p.1 ?_).trans e, n, ne, nf, d⟩
      intro q
      rw [q, hoc] at e
      have q' : oc = p.2 := Option.some.inj e
      exact d w' (by rw [← q']; exact hocd)
theorem store_ok {M : Model} {A : Around} {E : Value → Shared → Prop} {i : Nat} {x : Str} {v : V} {u : Value} {Q : Unit → Shared → Prop} (I : Inv X pins σ H s) (hN : X.N.Nodup) (hi : X.N[i]? = some x) (hx : Loc X.env.scope x) (r : RelV v u)
    (h : ∀ s', Inv X pins (σ.set i (some v)) H s' → Q () s') (hf : X.fn x = true ∨ X.env.scope.names.lookup x = some .local := by first | exact .inl rfl | exact .inr rfl | assumption) : wpAny M A (storeName X.env x u) Q E s :=
  store_ok2 I hN hi hx r (fun s' I' _ => h s' I') hf
theorem Inv.call' {s' : Shared} {ch : List Addr} (I : Inv X pins σ H s) (ho : s'.os = s.os) (u : Un (frs X.stack) ch H H' s.heap s'.heap) (hok : HOk X.prog X.w H' s'.heap) (hg : AllBare s'.gens)
    (hch : ∀ b ∈ ch, (b ∈ X.ex ∨ X.s₀.heap.objs.size ≤ b) ∧ b ≠ X.env.locals ∧ (∀ x c, X.env.cells.lookup x = some c → c ≠ b) ∧ ∀ p ∈ X.pn ++ pins, p.1 ≠ b) : Inv X pins σ H' s' := by
  obtain ⟨h', g', d', t', o'⟩ := s'
  have e : o' = s.os := ho
  subst e
  exact I.call (g' := g') (t' := t') (d' := d') u hok hg hch
end
abbrev XK := Value → Option Addr → Hp → Prop
abbrev St := List (Option V)
abbrev VK := V → Hp → Prop
abbrev TE := St → Hp → VK → Prop
abbrev TT := St → Hp → (Bool → Hp → Prop) → Prop
abbrev TA := St → Hp → (List V → Hp → Prop) → Prop
structure Ends where
  nx : St → Hp → Prop
  rt : VK
  bk : St → Hp → Prop := fun _ _ => False
  ct : St → Hp → Prop := fun _ _ => False
abbrev TS := Ends → St → Hp → Prop
def EP (X : Cx) (pins : List (Addr × Obj)) (σ : St) (Q : VK) (u : Value) (s' : Shared) : Prop := ∃ v H', Inv X pins σ H' s' ∧ RelV v u ∧ Q v H'
def TP (X : Cx) (pins : List (Addr × Obj)) (σ : St) (Q : Bool → Hp → Prop) (b : Bool) (s' : Shared) : Prop := ∃ H', Inv X pins σ H' s' ∧ Q b H'
def AP (X : Cx) (pins : List (Addr × Obj)) (σ : St) (Q : List V → Hp → Prop) (us : List Value) (s' : Shared) : Prop := ∃ vs H', Inv X pins σ H' s' ∧ Vals vs us ∧ Q vs H'
def SP (X : Cx) (pins : List (Addr × Obj)) (D : Ends) (f : Flow) (s' : Shared) : Prop :=
  match f with
  | .next => ∃ σ' H', Inv X pins σ' H' s' ∧ D.nx σ' H'
  | .brk => ∃ σ' H', Inv X pins σ' H' s' ∧ D.bk σ' H'
  | .cont => ∃ σ' H', Inv X pins σ' H' s' ∧ D.ct σ' H'
  | .ret u => ∃ v σ' H', Inv X pins σ' H' s' ∧ RelV v u ∧ D.rt v H'
def PE (X : Cx) (e : Expr) (t : TE) : Prop :=
  ∀ (pins : List (Addr × Obj)) (s : Shared) (σ : St) (H : Hp) (Q : VK), Inv X pins σ H s → t σ H Q → wpAny (model X.prog X.w) X.A (eval e X.env) (EP X pins σ Q) X.xe s
def PT (X : Cx) (e : Expr) (t : TT) : Prop :=
  ∀ (pins : List (Addr × Obj)) (s : Shared) (σ : St) (H : Hp) (Q : Bool → Hp → Prop), Inv X pins σ H s → t σ H Q → wpAny (model X.prog X.w) X.A (isTrue e X.env (eval e X.env)) (TP X pins σ Q) X.xe s
def PW (X : Cx) (e : Expr) (t : TT) : Prop :=
  ∀ (whole : Sem Value) (pins : List (Addr × Obj)) (s : Shared) (σ : St) (H : Hp) (Q : Bool → Hp → Prop), Inv X pins σ H s → t σ H Q → wpAny (model X.prog X.w) X.A (isTrue e X.env whole) (TP X pins σ Q) X.xe s
theorem PW.pt {X : Cx} {e : Expr} {t : TT} (h : PW X e t) : PT X e t := h _
def PA (X : Cx) (es : List Expr) (t : TA) : Prop :=
  ∀ (pos : Pos) (pins : List (Addr × Obj)) (s : Shared) (σ : St) (H : Hp) (Q : List V → Hp → Prop), Inv X pins σ H s → t σ H Q → wpAny (model X.prog X.w) X.A (spliced (backTo pos (starEach es X.env))) (AP X pins σ Q) X.xe s
def PS (X : Cx) (st : Stmt) (t : TS) : Prop :=
  ∀ (pins : List (Addr × Obj)) (s : Shared) (σ : St) (H : Hp) (D : Ends), Inv X pins σ H s → t D σ H → wpAny (model X.prog X.w) X.A (exec st X.env) (SP X pins D) X.xe s
def PSs (X : Cx) (st : List Stmt) (t : TS) : Prop :=
  ∀ (pins : List (Addr × Obj)) (s : Shared) (σ : St) (H : Hp) (D : Ends), Inv X pins σ H s → t D σ H → wpAny (model X.prog X.w) X.A (execs st X.env) (SP X pins D) X.xe s
theorem thn {α : Type} {t : Sem α} {Q Q' : α → Shared → Prop} {M : Model} {A : Around} {E : Value → Shared → Prop} {s : Shared} (h : wpAny M A t Q E s) (hQ : ∀ a s, Q a s → Q' a s) : wpAny M A t Q' E s := wpAny_mono h hQ fun _ _ x => x
end L2
namespace L2
open PySem PySem.Spec PyProof.Rows
section
variable {X : Cx}
def tVar (i : Nat) : TE := fun σ H Q => ∃ v, σ[i]? = some (some v) ∧ Q v H
def tC (v : V) : TE := fun _ H Q => Q v H
theorem pe_var {i : Nat} {x : Str} {pos : Pos} (hN : X.N[i]? = some x) (hv : Vis X.env.scope x) (hd : (x == ("__debug__" : Str)) = false := by decide) (hcd : (x == ("__classdict__" : Str)) = false := by decide) : PE X (.Name x pos) (tVar i) := by
  intro pins s σ H Q I h
  obtain ⟨v, e, h⟩ := h
  obtain ⟨m, hn, hl⟩ := I.loc
  obtain ⟨u, r, l⟩ := hl i x v hN e hv
  have fin : EP X pins σ Q u s := ⟨v, H, I, r, h⟩
  rcases l with ⟨hk, hm⟩ | ⟨hk, c, hc, hcell⟩
  · exact wpAny_Name (wpAny_loadName_local I.ok.kind hk hn hm fin) hd
  · rcases hk with hk | hk
    · exact wpAny_Name (wpAny_loadName_cell I.ok.kind hk hc hcell fin) hd
    · exact wpAny_Name (wpAny_loadName_free I.ok.kind hk hc hcell fin hcd) hd
theorem pe_int {i j pos} : PE X (.Constant (.int i) j pos) (tC (.int i)) := fun _ _ _ H _ I h => wpAny_Constant_int ⟨.int i, H, I.tok _, ⟨_, rfl⟩, h⟩
theorem pe_bl {b j pos} : PE X (.Constant (.bool b) j pos) (tC (.bl b)) := fun _ _ _ H _ I h => Constant_bool ⟨.bl b, H, I, rfl, h⟩
theorem pe_non {j pos} : PE X (.Constant .none j pos) (tC .non) := fun _ _ _ H _ I h => Constant_none ⟨.non, H, I, rfl, h⟩
theorem pe_str {x j pos} : PE X (.Constant (.str x) j pos) (tC (.str x)) := fun _ _ _ H _ I h => Calls.Constant_str ⟨.str x, H, I.tok _, ⟨_, rfl⟩, h⟩
def Gl (X : Cx) (x : Str) : Prop := X.env.kindOf x = some .globalImplicit
theorem ld_glob {E : Value → Shared → Prop} {pins : List (Addr × Obj)} {s : Shared} {σ : St} {H : Hp} {x : Str} {u : Value} {pos : Pos} {Q : Value → Shared → Prop} (I : Inv X pins σ H s) (hg : Gl X x) (hm : X.mg x = some u) (h : Q u s)
    (hd : (x == ("__debug__" : Str)) = false := by decide) : wpAny (model X.prog X.w) X.A (eval (.Name x pos) X.env) Q E s :=
  Calls.Name_function_global I.ok.kind hg (Calls.loadGlobal_global (by rw [I.ok.glob]; exact I.mod.glob.keeps I.bk) hm h) hd
theorem ld_blt {E : Value → Shared → Prop} {pins : List (Addr × Obj)} {s : Shared} {σ : St} {H : Hp} {x : Str} {u : Value} {pos : Pos} {Q : Value → Shared → Prop} (I : Inv X pins σ H s) (hg : Gl X x) (hm : X.mg x = none) (hv : bootBuiltins x = some u) (h : Q u s)
    (hn : x ≠ "__name__" := by decide) (hd : (x == ("__debug__" : Str)) = false := by decide) : wpAny (model X.prog X.w) X.A (eval (.Name x pos) X.env) Q E s := by
  obtain ⟨mb, h1, h2⟩ := I.mod.blt
  exact Calls.Name_function_global I.ok.kind hg (Calls.loadGlobal_builtin (by rw [I.ok.glob]; exact I.mod.glob.keeps I.bk) hm (by rw [I.ok.blt]; exact h1.keeps I.bk) ((h2 x hn).trans hv) h) hd
theorem pe_bltn {x : Str} {v : V} {u : Value} {pos : Pos} (hg : Gl X x) (hm : X.mg x = none) (hv : bootBuiltins x = some u) (r : RelV v u) (hn : x ≠ "__name__" := by decide) (hd : (x == ("__debug__" : Str)) = false := by decide) : PE X (.Name x pos) (tC v) :=
  fun _ _ _ H _ I h => ld_blt I hg hm hv ⟨v, H, I, r, h⟩ hn hd
variable {a b : Expr} {ta tb : TE} {pos : Pos}
def tB (t : TE) : TT := fun σ H Q => t σ H fun x H1 => ∃ c, x = .bl c ∧ Q c H1
theorem pt_val {e : Expr} {t : TE} (h : PE X e t) (he : ∀ whole, isTrue e X.env whole = (do let v ← whole; standAt e.pos; holding [v] (truthy v)) := by intro _; rfl) : PT X e (tB t) := by
  intro pins s σ H Q I hw
  refine isTrue_plain (thn (h pins s σ H _ I hw) fun v s1 ⟨x, H1, I1, r1, q1⟩ => ?_) (he _)
  obtain ⟨d, rfl, q⟩ := q1
  cases r1
  exact wpAny_truthy_bool ⟨H1, I1, q⟩
variable {tA tB' : TT} {rest : List Expr}
def tOr (t u : TT) : TT := fun σ H Q => t σ H fun c H1 => if c = true then Q true H1 else u σ H1 Q
def tNot (t : TT) : TT := fun σ H Q => t σ H fun c H1 => Q (!c) H1
theorem pw_or1 (ha : PT X a tA) : PW X (.BoolOp .Or [a] pos) tA := by
  intro wh pins s σ H Q I h
  refine isTrue_or (thn (ha pins s σ H Q I h) fun c s1 e => ?_)
  cases c with
  | false => exact isTrue_or_nil e
  | true => exact e
theorem pw_or (ha : PT X a tA) (hb : PW X (.BoolOp .Or (b :: rest) pos) tB') : PW X (.BoolOp .Or (a :: b :: rest) pos) (tOr tA tB') := by
  intro wh pins s σ H Q I h
  refine isTrue_or (thn (ha pins s σ H _ I h) fun c s1 ⟨H1, I1, q1⟩ => ?_)
  cases c with
  | true => exact ⟨H1, I1, q1⟩
  | false => exact hb wh pins s1 σ H1 Q I1 q1
theorem pt_not (ha : PT X a tA) : PT X (.UnaryOp .Not a pos) (tNot tA) := by
  intro pins s σ H Q I h
  exact isTrue_not (ha pins s σ H (fun c H1 => Q (!c) H1) I h)
def tAndV (ta tb : TE) : TE := fun σ H Q => ta σ H fun x H1 => ∃ c, x = .bl c ∧ if c = true then tb σ H1 Q else Q (.bl false) H1
def tNotV (ta : TE) : TE := fun σ H Q => ta σ H fun x H1 => ∃ c, x = .bl c ∧ Q (.bl (!c)) H1
theorem pe_one {op} {t : TE} (h : PE X a t) : PE X (.BoolOp op [a] pos) t := fun pins s σ H Q I hw => BoolOp_one (h pins s σ H Q I hw)
theorem pe_and (ha : PE X a ta) (hb : PE X (.BoolOp .And (b :: rest) pos) tb) : PE X (.BoolOp .And (a :: b :: rest) pos) (tAndV ta tb) := by
  intro pins s σ H Q I h
  refine BoolOp_and (thn (ha pins s σ H _ I h) fun v s1 ⟨x, H1, I1, r1, q1⟩ => ?_)
  obtain ⟨c, rfl, q1⟩ := q1
  cases r1
  refine wpAny_truthy_bool ?_
  cases c with
  | true => exact hb pins s1 σ H1 Q I1 q1
  | false => exact ⟨.bl false, H1, I1, rfl, q1⟩
theorem pe_not (ha : PE X a ta) : PE X (.UnaryOp .Not a pos) (tNotV ta) := by
  intro pins s σ H Q I h
  refine UnaryOp_ (thn (ha pins s σ H _ I h) fun v s1 ⟨x, H1, I1, r1, q1⟩ => ?_)
  obtain ⟨c, rfl, q1⟩ := q1
  cases r1
  exact not_of (wpAny_truthy_bool ⟨.bl (!c), H1, I1, rfl, q1⟩)
def tIf (t : TT) (ta tb : TE) : TE := fun σ H Q => t σ H fun c H1 => if c = true then ta σ H1 Q else tb σ H1 Q
theorem pe_ifExp {c : Expr} (hc : PT X c tA) (ha : PE X a ta) (hb : PE X b tb) : PE X (.IfExp c a b pos) (tIf tA ta tb) := by
  intro pins s σ H Q I h
  refine wpAny_IfExp (thn (hc pins s σ H _ I h) fun d s1 ⟨H1, I1, q1⟩ => ?_)
  cases d with
  | true => exact ha pins s1 σ H1 Q I1 q1
  | false => exact hb pins s1 σ H1 Q I1 q1
end
end L2
namespace L2
open PySem PySem.Spec PyProof.Rows
def SqL (K : PySem.W.Frag) (H : Hp) (a : Addr) (xs : List V) : Prop :=
  Rd H a (.lst xs) ∨
    ∃ (o : Obj) (its : Array Value) (n : Nat), K.lookup a = some o ∧ o.cls = .type "list" ∧ o.dict = none ∧ o.data = .seq its n ∧ its.size ≤ sizeLine ∧ Vals xs its.toList
def SqT (K : PySem.W.Frag) (H : Hp) (a : Addr) (xs : List V) : Prop :=
  Rd H a (.tup xs) ∨
    ∃ (o : Obj) (its : Array Value) (n : Nat), K.lookup a = some o ∧ o.cls = .type "tuple" ∧ o.data = .seq its n ∧ its.size ≤ sizeLine ∧ Vals xs its.toList
def absV : Value → Option V
  | .none => some .non
  | .bool b => some (.bl b)
  | .int i _ => some (.int i)
  | .str x _ => some (.str x)
  | .bytes b _ => some (.byt b)
  | .float b _ => some (.flt b)
  | .ref a => some (.ref a)
  | .type n => some (.ty n)
  | _ => none
theorem RelV.abs {x : V} {u : Value} (r : RelV x u) : absV u = some x := by
  cases x with
  | non => cases r; rfl
  | bl _ => cases r; rfl
  | int _ => obtain ⟨t, rfl⟩ := r; rfl
  | str _ => obtain ⟨t, rfl⟩ := r; rfl
  | byt _ => obtain ⟨t, rfl⟩ := r; rfl
  | flt _ => obtain ⟨t, rfl⟩ := r; rfl
  | ref _ => cases r; rfl
  | ty _ => cases r; rfl
theorem RelV.inj {x y : V} {u : Value} (r : RelV x u) (q : RelV y u) : x = y := Option.some.inj (r.abs.symm.trans q.abs)
theorem Vals.inj : ∀ {xs ys : List V} {us : List Value}, Vals xs us → Vals ys us → xs = ys
  | _, _, _, .nil, .nil => rfl
  | _, _, _, .cons r t, .cons r' t' => by rw [r.inj r', Vals.inj t t']
section
variable {X : Cx} {pins : List (Addr × Obj)} {σ : St} {H : Hp} {s : Shared} {a : Addr} {xs ys : List V}
theorem SqL.of {K : PySem.W.Frag} (h : H a = some (.lst xs)) : SqL K H a xs := .inl (.inl h)
theorem SqT.of {K : PySem.W.Frag} (h : H a = some (.tup xs)) : SqT K H a xs := .inl (.inl h)
theorem Inv.list (I : Inv X pins σ H s) (h : SqL X.K H a xs) : ∃ its : List Value, Vals xs its ∧ PlainL s.heap a its.toArray ∧ xs.length ≤ sizeLine := by
  rcases h with h | ⟨o, its, n, hk, hc, hd, hs, hz, r⟩
  · obtain ⟨z, its, n, r, e⟩ := h.ok I.hok
    exact ⟨its, r, ⟨_, n, e, rfl, rfl, rfl⟩, z⟩
  · refine ⟨its.toList, r, ⟨o, n, I.kIn a o hk, hc, hd, by simpa using hs⟩, ?_⟩
    have e := r.length
    simp only [Array.length_toList] at e
    omega
theorem Inv.tuple (I : Inv X pins σ H s) (h : SqT X.K H a xs) : ∃ its : List Value, Vals xs its ∧ IsTup s.heap a its.toArray ∧ xs.length ≤ sizeLine := by
  rcases h with h | ⟨o, its, n, hk, hc, hs, hz, r⟩
  · obtain ⟨z, its, r, p⟩ := h.ok I.hok
    exact ⟨its, r, p, z⟩
  · refine ⟨its.toList, r, ⟨o, I.kIn a o hk, hc, n, by simpa using hs⟩, ?_⟩
    have e := r.length
    simp only [Array.length_toList] at e
    omega
theorem Inv.list_inj (I : Inv X pins σ H s) (h : SqL X.K H a xs) (h' : SqL X.K H a ys) : xs = ys := by
  obtain ⟨its, r, ⟨o, n, e, _, _, d⟩, _⟩ := I.list h
  obtain ⟨its', r', ⟨o', n', e', _, _, d'⟩, _⟩ := I.list h'
  rw [e] at e'; cases e'
  rw [d] at d'
  injection d' with d1 _
  have : its = its' := by simpa using congrArg Array.toList d1
  subst this
  exact r.inj r'
theorem Inv.tuple_inj (I : Inv X pins σ H s) (h : SqT X.K H a xs) (h' : SqT X.K H a ys) : xs = ys := by
  obtain ⟨its, r, ⟨o, e, _, n, d⟩, _⟩ := I.tuple h
  obtain ⟨its', r', ⟨o', e', _, n', d'⟩, _⟩ := I.tuple h'
  rw [e] at e'; cases e'
  rw [d] at d'
  injection d' with d1 _
  have : its = its' := by simpa using congrArg Array.toList d1
  subst this
  exact r.inj r'
end
abbrev Cx.wish (X : Cx) (E : Value → Shared → Prop) : Cx := { X with xe := E }
abbrev Cx.nox (X : Cx) : Cx := X.wish fun _ _ => False
theorem Cx.Ok.wish {X : Cx} (ok : X.Ok) (E : Value → Shared → Prop) : (X.wish E).Ok :=
  ⟨ok.mod, ok.kind, ok.glob, ok.blt, ok.above, ok.inj, ok.has, ok.cab, ok.hd, ok.frames, ok.stk, ok.exf, ok.bs, ok.bsz, ok.noex, ok.exfs, ok.funs, ok.frf⟩
theorem Cx.Ok.unwish {X : Cx} {E : Value → Shared → Prop} (ok : (X.wish E).Ok) : X.Ok :=
  ⟨ok.mod, ok.kind, ok.glob, ok.blt, ok.above, ok.inj, ok.has, ok.cab, ok.hd, ok.frames, ok.stk, ok.exf, ok.bs, ok.bsz, ok.noex, ok.exfs, ok.funs, ok.frf⟩
section
variable {X : Cx} {pins : List (Addr × Obj)} {σ : St} {H : Hp} {s : Shared} {E : Value → Shared → Prop}
theorem Inv.wish (I : Inv X pins σ H s) (E : Value → Shared → Prop) : Inv (X.wish E) pins σ H s := ⟨I.ok.wish E, I.os, I.bare, I.base, I.loc, I.cell, I.free, I.freeC, I.pin, I.hok, I.len⟩
theorem Inv.unwish (I : Inv (X.wish E) pins σ H s) : Inv X pins σ H s := ⟨I.ok.unwish, I.os, I.bare, I.base, I.loc, I.cell, I.free, I.freeC, I.pin, I.hok, I.len⟩
theorem SP.unwish {D : Ends} {f : Flow} {s' : Shared} (h : SP (X.wish E) pins D f s') : SP X pins D f s' := by
  cases f with
  | next => obtain ⟨σ', H', I, q⟩ := h; exact ⟨σ', H', I.unwish, q⟩
  | brk => obtain ⟨σ', H', I, q⟩ := h; exact ⟨σ', H', I.unwish, q⟩
  | cont => obtain ⟨σ', H', I, q⟩ := h; exact ⟨σ', H', I.unwish, q⟩
  | ret u => obtain ⟨v, σ', H', I, r, q⟩ := h; exact ⟨v, σ', H', I.unwish, r, q⟩
theorem PE.nox {e : Expr} {t : TE} (h : PE X.nox e t) : PE X e t := fun pins s σ H Q I hw =>
  wpAny_mono (h pins s σ H Q (I.wish _) hw) (fun _ _ ⟨v, H', I', r, q⟩ => ⟨v, H', I'.unwish, r, q⟩) fun _ _ z => False.elim z
theorem PT.nox {e : Expr} {t : TT} (h : PT X.nox e t) : PT X e t := fun pins s σ H Q I hw =>
  wpAny_mono (h pins s σ H Q (I.wish _) hw) (fun _ _ ⟨H', I', q⟩ => ⟨H', I'.unwish, q⟩) fun _ _ z => False.elim z
theorem PSs.nox {st : List Stmt} {t : TS} (h : PSs X.nox st t) : PSs X st t := fun pins s σ H D I hw =>
  wpAny_mono (h pins s σ H D (I.wish _) hw) (fun _ _ q => q.unwish) fun _ _ z => False.elim z
end
section
variable {X : Cx} {st : Stmt} {rest : List Stmt} {t u : TS} {e : Expr} {te : TE} {pos : Pos}
def tNext : TS := fun D σ H => D.nx σ H
def tSeq (t u : TS) : TS := fun D σ H => t { D with nx := u D } σ H
theorem pss_nil : PSs X [] tNext := fun _ _ σ H _ I h => wpAny_execs_nil ⟨σ, H, I, h⟩
theorem pss_cons (h1 : PS X st t) (h2 : PSs X rest u) : PSs X (st :: rest) (tSeq t u) := by
  intro pins s σ H D I h
  refine wpAny_execs_cons (thn (h1 pins s σ H { D with nx := u D } I h) fun f s1 q => ?_)
  cases f with
  | next =>
    obtain ⟨σ', H', I', q⟩ := q
    exact h2 pins s1 σ' H' D I' q
  | ret v => exact q
  | brk => exact q
  | cont => exact q
theorem Inv.quiet {pins : List (Addr × Obj)} {σ : St} {H : Hp} {s : Shared} (I : Inv X pins σ H s) : interactive X.env = false := by simp [interactive, I.ok.kind]
def tDrop (te : TE) : TS := fun D σ H => te σ H fun _ H1 => D.nx σ H1
theorem ps_expr (he : PE X e te) (hs : swapsWith e none pos.line X.env = pure false := by rfl) : PS X (.Expr e pos) (tDrop te) := by
  intro pins s σ H D I h
  exact wpAny_Expr_any (thn (he pins s σ H _ I h) fun v s1 ⟨x, H1, I1, r1, q1⟩ => ⟨σ, H1, I1, q1⟩) I.quiet hs
def tRet (te : TE) : TS := fun D σ H => te σ H D.rt
theorem ps_ret (he : PE X e te) : PS X (.Return (some e) pos) (tRet te) := by
  intro pins s σ H D I h
  exact wpAny_Return_some (thn (he pins s σ H _ I h) fun v s1 ⟨x, H1, I1, r1, q1⟩ => ⟨x, σ, H1, I1, r1, q1⟩)
def tIfS (c : TT) (t u : TS) : TS := fun D σ H => c σ H fun b H1 => if b = true then t D σ H1 else u D σ H1
theorem ps_if {c : Expr} {a b : List Stmt} {tc : TT} (hc : PT X c tc) (ha : PSs X a t) (hb : PSs X b u) : PS X (.If c a b pos) (tIfS tc t u) := by
  intro pins s σ H D I h
  refine wpAny_If (thn (hc pins s σ H _ I h) fun d s1 ⟨H1, I1, q1⟩ => ?_)
  cases d with
  | true => exact ha pins s1 σ H1 D I1 q1
  | false => exact hb pins s1 σ H1 D I1 q1
end
abbrev TG := V → St → Hp → (St → Hp → Prop) → Prop
abbrev TGs := List V → St → Hp → (St → Hp → Prop) → Prop
def PG (X : Cx) (target : Expr) (t : TG) : Prop :=
  ∀ (pins : List (Addr × Obj)) (s : Shared) (σ : St) (H : Hp) (v : V) (u : Value) (Q : St → Hp → Prop), Inv X pins σ H s → RelV v u → t v σ H Q →
    wpAny (model X.prog X.w) X.A (assign target X.env u) (fun _ s' => ∃ σ' H', Inv X pins σ' H' s' ∧ Q σ' H') X.xe s
def PGs (X : Cx) (ts : List Expr) (t : TGs) : Prop :=
  ∀ (pins : List (Addr × Obj)) (s : Shared) (σ : St) (H : Hp) (vs : List V) (us : List Value) (Q : St → Hp → Prop), Inv X pins σ H s → Vals vs us → t vs σ H Q →
    wpAny (model X.prog X.w) X.A (assignInOrder ((assignEach ts X.env).map (·.2)) us) (fun _ s' => ∃ σ' H', Inv X pins σ' H' s' ∧ Q σ' H') X.xe s
abbrev TSet := V → V → V → Hp → (Hp → Prop) → Prop
def PSet (X : Cx) (t : TSet) : Prop :=
  ∀ (pins : List (Addr × Obj)) (s : Shared) (σ : St) (H : Hp) (o i v : V) (ov iv u : Value) (Q : Hp → Prop), Inv X pins σ H s → RelV o ov → RelV i iv → RelV v u → t o i v H Q →
    wpAny (model X.prog X.w) X.A (setItem ov iv u) (fun _ s' => ∃ H', Inv X pins σ H' s' ∧ Q H') X.xe s
section
variable {X : Cx} {pos : Pos}
def gName (i : Nat) : TG := fun v σ H Q => Q (σ.set i (some v)) H
theorem pg_name {i : Nat} {x : Str} (hN : X.N.Nodup) (hi : X.N[i]? = some x) (hx : Loc X.env.scope x) (hf : X.fn x = true ∨ X.env.scope.names.lookup x = some .local := by first | exact .inl rfl | exact .inr rfl | assumption) : PG X (.Name x pos) (gName i) := by
  intro pins s σ H v u Q I r h
  exact wpAny_assign_Name (store_ok I hN hi hx r (fun s' I' => ⟨_, H, I', h⟩) hf)
def gNil : TGs := fun vs σ H Q => vs = [] ∧ Q σ H
def gCons (t : TG) (u : TGs) : TGs := fun vs σ H Q => ∃ v r, vs = v :: r ∧ t v σ H fun σ' H' => u r σ' H' Q
theorem pgs_nil : PGs X [] gNil := by
  intro pins s σ H vs us Q I r h
  obtain ⟨e, h⟩ := h
  subst e
  cases r
  exact assignInOrder_nil ⟨σ, H, I, h⟩
theorem pgs_cons {e : Expr} {es : List Expr} {t : TG} {u : TGs} (h1 : PG X e t) (h2 : PGs X es u)
    (hs : (assignEach (e :: es) X.env).map (·.2) = assign e X.env :: (assignEach es X.env).map (·.2) := by rfl) : PGs X (e :: es) (gCons t u) := by
  intro pins s σ H vs us Q I r h
  obtain ⟨v, vr, e1, h⟩ := h
  subst e1
  cases r with
  | cons r rr =>
    rw [hs]
    refine assignInOrder_cons (thn (h1 pins s σ H _ _ _ I r h) fun _ s1 ⟨σ1, H1, I1, q1⟩ => ?_)
    exact h2 pins s1 σ1 H1 _ _ Q I1 rr q1
def gTup (K : PySem.W.Frag) (n : Nat) (t : TGs) : TG := fun v σ H Q => ∃ a xs, v = .ref a ∧ SqT K H a xs ∧ xs.length = n ∧ t xs σ H Q
theorem pg_tup {es : List Expr} {k : Nat} {t : TGs} {n : Nat} (hc : X.calm = true) (h : PGs X es t)
    (hn : (assignEach es X.env).length = n := by rfl) (hst : (assignEach es X.env).findIdx? (·.1) = none := by rfl) : PG X (.Tuple es k pos) (gTup X.K n t) := by
  intro pins s σ H v u Q I r hw
  obtain ⟨a, xs, e1, hq, hl, hw⟩ := hw
  subst e1
  cases r
  obtain ⟨its, rv, ht, hz⟩ := I.tuple hq
  refine assign_Tuple_tuple (I.ok.hd hc) ht (by simp [hn, ← hl, rv.length]) hst fun h' hx => ?_
  have I1 : Inv X pins σ H { s with heap := h' } := I.kept (t' := s.toks) fun b o e => hx b o (Nat.ne_of_lt (Heap.lt_size e)) e
  exact h pins _ σ H xs _ Q I1 (by simpa using rv) hw
def gSub (to ti : TE) (t : TSet) : TG := fun v σ H Q => to σ H fun o H1 => ti σ H1 fun i H2 => t o i v H2 fun H3 => Q σ H3
theorem pg_sub {o i : Expr} {to ti : TE} {t : TSet} (ho : PE X o to) (hi : PE X i ti) (hs : PSet X t)
    (ha : ∀ v, assign (.Subscript o i pos) X.env v = (do
      let ov ← holding [v] (eval o X.env)
      let iv ← holding [v, ov] (eval i X.env)
      standAt pos
      holding [v, ov, iv] (setItem ov iv v)
      release [v, ov, iv] []) := by intro _; rfl) : PG X (.Subscript o i pos) (gSub to ti t) := by
  intro pins s σ H v u Q I r h
  rw [ha]
  refine wpAny_bind (wpAny_holding (thn (ho pins s σ H _ I h) fun ov s1 ⟨x, H1, I1, r1, q1⟩ => ?_))
  refine wpAny_bind (wpAny_holding (thn (hi pins s1 σ H1 _ I1 q1) fun iv s2 ⟨y, H2, I2, r2, q2⟩ => ?_))
  refine wpAny_bind (wpAny_standAt (wpAny_bind (wpAny_holding (thn (hs pins s2 σ H2 x y v ov iv u _ I2 r1 r2 r q2) fun _ s3 ⟨H3, I3, q3⟩ => ?_))))
  exact wpAny_release ⟨σ, H3, I3, q3⟩
def tAsg (te : TE) (g : TG) : TS := fun D σ H => te σ H fun x H1 => g x σ H1 D.nx
theorem ps_asg {tg e : Expr} {te : TE} {g : TG} (he : PE X e te) (hg : PG X tg g) (hs : swapsWithSole [tg] e pos.line X.env = pure false := by rfl) (hw : swappedStores [tg] e X.env = pure none := by rfl)
    (h1 : (assignEach [tg] X.env).map (·.2) = [assign tg X.env] := by rfl) : PS X (.Assign [tg] e pos) (tAsg te g) := by
  intro pins s σ H D I h
  refine wpAny_Assign_stores (thn (he pins s σ H _ I h) fun v s1 ⟨x, H1, I1, r1, q1⟩ => ?_) hs hw
  rw [h1]
  exact thn (hg pins s1 σ H1 x v _ I1 r1 q1) fun _ s2 q => q
theorem ps_set {i : Nat} {x : Str} {e : Expr} {te : TE} {pos' : Pos} (hN : X.N.Nodup) (hi : X.N[i]? = some x) (hx : Loc X.env.scope x) (he : PE X e te) (hs : swapsWith e (some (.Name x pos')) pos.line X.env = pure false := by rfl) (hf : X.fn x = true ∨ X.env.scope.names.lookup x = some .local := by first | exact .inl rfl | exact .inr rfl | assumption) :
    PS X (.Assign [.Name x pos'] e pos) (tAsg te (gName i)) := by
  intro pins s σ H D I h
  refine wpAny_Assign_Name (thn (he pins s σ H _ I h) fun v s1 ⟨y, H1, I1, r1, q1⟩ => ?_) hs
  exact store_ok I1 hN hi hx r1 (fun s2 I2 => ⟨_, H1, I2, q1⟩) hf
def tPar (i j : Nat) (ta : TA) : TS := fun D σ H => ta σ H fun vs H1 => ∃ v w, vs = [v, w] ∧ D.nx ((σ.set i (some v)).set j (some w)) H1
theorem ps_par {i j : Nat} {x y : Str} {a b : Expr} {ta : TA} {px py pt : Pos} {kt k2 pt2} (hc : X.calm = true) (hN : X.N.Nodup) (hi : X.N[i]? = some x) (hj : X.N[j]? = some y) (hij : i ≠ j)
    (hx : X.env.scope.names.lookup x = some .local) (hy : X.env.scope.names.lookup y = some .local) (ha : PA X [a, b] ta)
    (hw : swappedStores [.Tuple [.Name x px, .Name y py] kt pt] (.Tuple [a, b] k2 pt2) X.env = pure (some [x, y]))
    (hs : swapsWithSole [.Tuple [.Name x px, .Name y py] kt pt] (.Tuple [a, b] k2 pt2) pos.line X.env = pure false := by rfl) :
    PS X (.Assign [.Tuple [.Name x px, .Name y py] kt pt] (.Tuple [a, b] k2 pt2) pos) (tPar i j ta) := by
  intro pins s σ H D I h
  rw [exec_Assign_arm]
  refine wpAny_bind (wpAny_standAt ?_)
  rw [hs]
  refine wpAny_bind (wpAny_pure ?_)
  rw [if_neg (by decide)]
  refine wpAny_bind (Tuple_ (thn (ha _ pins s σ H _ I h) fun us s1 ⟨vs, H1, I1, r1, q1⟩ => ?_))
  obtain ⟨v, w, e1, q1⟩ := q1
  subst e1
  obtain ⟨u1, u2, rfl, rv, rw'⟩ : ∃ u1 u2, us = [u1, u2] ∧ RelV v u1 ∧ RelV w u2 := by
    cases r1 with
    | cons p q =>
      cases q with
      | cons p' q' =>
        cases q'
        exact ⟨_, _, rfl, p, p'⟩
  refine wpAny_newObj_type ?_ (by show 2 ≤ sizeLine; decide)
  have I2 : Inv X pins σ H1 { s1 with heap := s1.heap.push { cls := .type "tuple", data := .seq [u1, u2].toArray } } := I1.kept (t' := s1.toks) fun b o e => Heap.get?_push_of_some _ e
  rw [hw]
  refine wpAny_bind (wpAny_pure ?_)
  show wpAny (model X.prog X.w) X.A (do rule "assign.swapped-stores"; let items ← unpackItems (.ref s1.heap.objs.size) 2 none; assignInOrder [fun v => bindName X.env y v, fun v => bindName X.env x v] items.reverse; pure Flow.next) _ _ _
  refine wpAny_bind (wpAny_rule (wpAny_bind (unpackItems_tuple (items := #[u1, u2]) (I.ok.hd hc) (IsTup.new s1.heap _) fun h' hx' => ?_)))
  have I3 := I2.kept (h' := h') (t' := s1.toks) fun b o e => hx' b o (Nat.ne_of_lt (Heap.lt_size e)) e
  show wpAny _ _ (assignInOrder [fun v => bindName X.env y v, fun v => bindName X.env x v] [u2, u1] >>= fun _ => pure Flow.next) _ _ _
  refine wpAny_bind (assignInOrder_cons (wpAny_bindName (store_ok I3 hN hj (.inl hy) rw' (fun s2 I4 => ?_) (.inr hy))))
  refine assignInOrder_cons (wpAny_bindName (store_ok I4 hN hi (.inl hx) rv (fun s3 I5 => assignInOrder_nil (wpAny_pure ?_)) (.inr hx)))
  rw [List.set_comm _ _ (Ne.symm hij)] at I5
  exact ⟨_, H1, I5, q1⟩
end
section
variable {X : Cx} {pos : Pos}
end
structure It where
  go : Nat → Hp → Prop
  yld : Nat → Hp → V → Hp → Prop
  stop : Nat → Hp → Prop
def FpOk (X : Cx) (pins : List (Addr × Obj)) (H : Hp) (b : Addr) : Prop :=
  H b = none ∧ b ≠ X.env.locals ∧ b ∉ X.fs ∧ (b ∈ X.ex ∨ X.s₀.heap.objs.size ≤ b) ∧ (∀ x c, X.env.cells.lookup x = some c → c ≠ b) ∧ ∀ p ∈ X.pn ++ pins, p.1 ≠ b
theorem Inv.fpOk {X : Cx} {pins : List (Addr × Obj)} {σ : St} {H H' : Hp} {s : Shared} {b : Addr} (I : Inv X pins σ H s) (hb : s.heap.objs.size ≤ b) (hn : H' b = none) : FpOk X pins H' b := by
  refine ⟨hn, Nat.ne_of_gt (Nat.lt_of_lt_of_le I.lt hb), I.nofs hb, .inr (Nat.le_trans I.sz hb), fun x c e z => ?_, fun p hp z => ?_⟩
  · obtain ⟨v, q⟩ := I.cell x c e
    exact absurd (Nat.lt_of_lt_of_le q.lt (by rw [z]; exact hb)) (Nat.lt_irrefl _)
  · exact absurd (Nat.lt_of_lt_of_le (Heap.lt_size (I.pin p hp).1) (by rw [z]; exact hb)) (Nat.lt_irrefl _)
structure Turn (P : Program) (w : World) (K : PySem.W.Frag) (tg : Expr) (J : It) (fp : List Addr) (it : Addr) (tn : Nat → Heap → Prop) : Prop where
  mem : it ∈ fp
  obj : ∀ i h, tn i h → ∀ b ∈ fp, ∃ o, h.get? b = some o ∧ ∀ v, o.data ≠ .cell v
  keep : ∀ i h h', tn i h → (∀ b ∈ fp, ∀ o, h.get? b = some o → h'.get? b = some o) → tn i h'
  item : ∀ (X : Cx), X.prog = P → X.w = w → X.K = K → X.calm = true → ∀ (i : Nat) (pins : List (Addr × Obj)) (s : Shared) (σ : St) (H : Hp) (E : Value → Shared → Prop), Inv X pins σ H s → (∀ b ∈ fp, FpOk X pins H b) → tn i s.heap → J.go i H →
    wpAny (model P w) X.A (pyNext (.ref it)) (fun r s1 => ∃ u, r = some u ∧
      wpAny (model P w) X.A (letOwnedTupleGo tg (.ref it) u) (fun _ s2 => ∃ x H', Inv X pins σ H' s2 ∧ RelV x u ∧ J.yld i H x H' ∧ tn (i + 1) s2.heap ∧ ∀ b ∈ fp, H' b = none) E s1) E s
  done : ∀ (X : Cx), X.prog = P → X.w = w → X.K = K → X.calm = true → ∀ (i : Nat) (pins : List (Addr × Obj)) (s : Shared) (σ : St) (H : Hp) (E : Value → Shared → Prop), Inv X pins σ H s → (∀ b ∈ fp, FpOk X pins H b) → tn i s.heap → J.stop i H →
    wpAny (model P w) X.A (pyNext (.ref it)) (fun r s1 => r = none ∧ Inv X pins σ H s1) E s
  self : ∀ (A : Around) (i : Nat) (s : Shared) (Q : Value → Shared → Prop) (E : Value → Shared → Prop), tn i s.heap → Q (.ref it) s → wpAny (model P w) A (pyIter (.ref it)) Q E s
abbrev TI := St → Hp → (It → Hp → Prop) → Prop
def PIE (X : Cx) (pins : List (Addr × Obj)) (σ : St) (tg : Expr) (R : It → Hp → Prop) (itv : Value) (s2 : Shared) : Prop :=
  ∃ (it : Addr) (fp : List Addr) (tn : Nat → Heap → Prop) (J : It) (H' : Hp), itv = .ref it ∧ Inv X pins σ H' s2 ∧ Turn X.prog X.w X.K tg J fp it tn ∧ tn 0 s2.heap ∧ (∀ b ∈ fp, FpOk X pins H' b) ∧ R J H'
def PI (X : Cx) (tg iter : Expr) (wi : TI) : Prop :=
  ∀ (pins : List (Addr × Obj)) (s : Shared) (σ : St) (H : Hp) (R : It → Hp → Prop), Inv X pins σ H s → wi σ H R →
    wpAny (model X.prog X.w) X.A (eval iter X.env) (fun v s1 => wpAny (model X.prog X.w) X.A (pyIter v) (PIE X pins σ tg R) X.xe s1) X.xe s
theorem go_of {M : Model} {A : Around} {E : Value → Shared → Prop} {s : Shared} {tg : Expr} {it : Addr} {u : Value} {o : Obj} {n : String} {vs : Array Value} {Q : Unit → Shared → Prop} (ho : s.heap.get? it = some o) (hc : o.cls = .type n) (hd : o.data = .fields vs)
    (hn : ["enumerate", "zip", "dict_itemiterator", "dict_reverseitemiterator", "odict_iterator", "itertools.zip_longest", "itertools.pairwise"].contains n = false) (hQ : Q () s) : wpAny M A (letOwnedTupleGo tg (.ref it) u) Q E s := by
  unfold letOwnedTupleGo
  cases tg <;> first
    | exact wpAny_pure hQ
    | (cases u <;> first
        | exact wpAny_pure hQ
        | (refine wpAny_bind (wpAny_load ho ?_)
           rw [hc, hd]
           show wpAny M A (if (["enumerate", "zip", "dict_itemiterator", "dict_reverseitemiterator", "odict_iterator", "itertools.zip_longest", "itertools.pairwise"].contains n && vs[0]? == some (rawInt _)) = true then _ else _) Q E s
           rw [if_neg (by intro h; rw [hn, Bool.false_and] at h; cases h)]
           exact wpAny_pure hQ))
def Itl (K : PySem.W.Frag) (a : Addr) : It :=
  ⟨fun i H => ∃ xs x, SqL K H a xs ∧ xs[i]? = some x, fun i H x H' => H' = H ∧ ∀ xs, SqL K H a xs → xs[i]? = some x, fun i H => ∃ xs, SqL K H a xs ∧ xs.length ≤ i⟩
def Itt (K : PySem.W.Frag) (a : Addr) : It :=
  ⟨fun i H => ∃ xs x, SqT K H a xs ∧ xs[i]? = some x, fun i H x H' => H' = H ∧ ∀ xs, SqT K H a xs → xs[i]? = some x, fun i H => ∃ xs, SqT K H a xs ∧ xs.length ≤ i⟩
def Itr (lo : Int) (n : Nat) : It := ⟨fun i _ => i < n, fun i H x H' => H' = H ∧ x = .int (lo + i), fun i _ => n ≤ i⟩
theorem turn_list {P : Program} {w : World} {K : PySem.W.Frag} {tg : Expr} (a it : Addr) : Turn P w K tg (Itl K a) [it] it (fun i h => h.IsListIter it a i) where
  mem := by simp
  obj := fun i h st b hb => by
    have e : b = it := by simpa using hb
    subst e
    obtain ⟨o, e, c, d⟩ := st
    exact ⟨o, e, fun v z => by rw [d] at z; cases z⟩
  keep := fun i h h' st k => st.at fun o e => k it (by simp) o e
  item := by
    intro X hP hw hK hc i pins s σ H E I hf st hg
    subst hP hw hK
    obtain ⟨xs, x, hq, hx⟩ := hg
    obtain ⟨its, rv, p, hz⟩ := I.list hq
    obtain ⟨u, hu, ru⟩ := rv.get hx
    obtain ⟨f0, f1, f2, f3, f4, f5⟩ := hf it (by simp)
    refine wpAny_pyNext_list_item st p.isList (x := u) (by simpa using hu) fun h' st' sb => ?_
    have I1 : Inv X pins σ H { s with heap := h' } := I.turned (t' := s.toks) (fun b o hb e => (sb.2 b hb).trans e) f0 f1 f3 f4 f5
    obtain ⟨o, e, c, d⟩ := id st'
    exact ⟨u, rfl, go_of (s := { s with heap := h' }) e c d (by decide) ⟨x, H, I1, ru, ⟨rfl, fun ys hy => by rw [I.list_inj hy hq]; exact hx⟩, st', fun b hb => (hf b hb).1⟩⟩
  done := by
    intro X hP hw hK hc i pins s σ H E I hf st hg
    subst hP hw hK
    obtain ⟨xs, hq, hx⟩ := hg
    obtain ⟨its, rv, p, hz⟩ := I.list hq
    obtain ⟨f0, f1, f2, f3, f4, f5⟩ := hf it (by simp)
    have hl := rv.length
    exact wpAny_pyNext_list_end (I.ok.hd hc) st p.isList (by simp; omega) fun h' eb => ⟨rfl, I.turned (t' := s.toks) (fun b o hb e => eb b o hb e) f0 f1 f3 f4 f5⟩
  self := fun _ _ _ _ _ st h => wpAny_pyIter_listiter st h
theorem turn_tuple {P : Program} {w : World} {K : PySem.W.Frag} {tg : Expr} (a it : Addr) : Turn P w K tg (Itt K a) [it] it (fun i h => h.IsTupleIter it a i) where
  mem := by simp
  obj := fun i h st b hb => by
    have e : b = it := by simpa using hb
    subst e
    obtain ⟨o, e, c, d⟩ := st
    exact ⟨o, e, fun v z => by rw [d] at z; cases z⟩
  keep := fun i h h' st k => st.at fun o e => k it (by simp) o e
  item := by
    intro X hP hw hK hc i pins s σ H E I hf st hg
    subst hP hw hK
    obtain ⟨xs, x, hq, hx⟩ := hg
    obtain ⟨its, rv, p, hz⟩ := I.tuple hq
    obtain ⟨u, hu, ru⟩ := rv.get hx
    obtain ⟨f0, f1, f2, f3, f4, f5⟩ := hf it (by simp)
    refine wpAny_pyNext_tuple_item st (show s.heap.IsTuple a its.toArray from p) (x := u) (by simpa using hu) fun h' st' sb => ?_
    have I1 : Inv X pins σ H { s with heap := h' } := I.turned (t' := s.toks) (fun b o hb e => (sb.2 b hb).trans e) f0 f1 f3 f4 f5
    obtain ⟨o, e, c, d⟩ := id st'
    exact ⟨u, rfl, go_of (s := { s with heap := h' }) e c d (by decide) ⟨x, H, I1, ru, ⟨rfl, fun ys hy => by rw [I.tuple_inj hy hq]; exact hx⟩, st', fun b hb => (hf b hb).1⟩⟩
  done := by
    intro X hP hw hK hc i pins s σ H E I hf st hg
    subst hP hw hK
    obtain ⟨xs, hq, hx⟩ := hg
    obtain ⟨its, rv, p, hz⟩ := I.tuple hq
    obtain ⟨f0, f1, f2, f3, f4, f5⟩ := hf it (by simp)
    have hl := rv.length
    exact wpAny_pyNext_tuple_end (I.ok.hd hc) st (show s.heap.IsTuple a its.toArray from p) (by simp; omega) fun h' eb => ⟨rfl, I.turned (t' := s.toks) (fun b o hb e => eb b o hb e) f0 f1 f3 f4 f5⟩
  self := fun _ _ _ _ _ st h => wpAny_pyIter_tupleiter st h
theorem turn_range {P : Program} {w : World} {K : PySem.W.Frag} {tg : Expr} (it : Addr) (lo : Int) (n : Nat) : Turn P w K tg (Itr lo n) [it] it (fun i h => IsRangeIter h it (lo + (i : Nat) * 1) ((n : Int) - (i : Nat)) 1) where
  mem := by simp
  obj := fun i h st b hb => by
    have e : b = it := by simpa using hb
    subst e
    exact ⟨_, st, fun v z => by
      have z' : Data.fields _ = Data.cell v := z
      cases z'⟩
  keep := fun i h h' st k => k it (by simp) _ st
  item := by
    intro X hP hw hK hc i pins s σ H E I hf st hg
    subst hP hw hK
    obtain ⟨f0, f1, f2, f3, f4, f5⟩ := hf it (by simp)
    have W := Walks.range (prog := X.prog) (w := X.w) (I.ok.hd hc) it lo 1 n
    refine W.item i s _ _ hg st fun v h' tk hv st' kk => ?_
    obtain ⟨t, rfl⟩ := hv
    have I1 : Inv X pins σ H { s with heap := h', toks := tk } := I.turned (fun b o hb e => kk b o (by simpa using hb) e) f0 f1 f3 f4 f5
    refine ⟨_, rfl, go_of (s := { s with heap := h', toks := tk }) (n := "range_iterator") st' rfl rfl (by decide) ⟨.int (lo + i), H, I1, ⟨t, ?_⟩, ⟨rfl, rfl⟩, st', fun b hb => (hf b hb).1⟩⟩
    rw [Int.mul_one]
  done := by
    intro X hP hw hK hc i pins s σ H E I hf st hg
    subst hP hw hK
    obtain ⟨f0, f1, f2, f3, f4, f5⟩ := hf it (by simp)
    exact wpAny_pyNext_range_end (I.ok.hd hc) st (by have : n ≤ i := hg; omega) fun h' eb => ⟨rfl, I.turned (t' := s.toks) (fun b o hb e => eb b o hb e) f0 f1 f3 f4 f5⟩
  self := fun _ _ _ _ _ st h => wpAny_pyIter_rangeiter st h
end L2
namespace L2
open PySem PySem.Spec PyProof.Rows
section
variable {X : Cx} {tg : Expr}
def iList (K : PySem.W.Frag) (tl : TE) : TI := fun σ H R => tl σ H fun x H1 => ∃ a, x = .ref a ∧ (∃ xs, SqL K H1 a xs) ∧ R (Itl K a) H1
def iTup (K : PySem.W.Frag) (tl : TE) : TI := fun σ H R => tl σ H fun x H1 => ∃ a, x = .ref a ∧ (∃ xs, SqT K H1 a xs) ∧ R (Itt K a) H1
theorem pi_list {l : Expr} {tl : TE} (hl : PE X l tl) : PI X tg l (iList X.K tl) := by
  intro pins s σ H R I h
  refine thn (hl pins s σ H _ I h) fun v s1 ⟨x, H1, I1, r1, q1⟩ => ?_
  obtain ⟨a, e, ⟨xs, hq⟩, q⟩ := q1
  subst e
  cases r1
  obtain ⟨its, rv, p, hz⟩ := I1.list hq
  refine wpAny_pyIter_list p.isList ?_
  refine ⟨s1.heap.objs.size, [s1.heap.objs.size], _, _, H1, rfl, I1.kept (t' := s1.toks) fun b o e => Heap.get?_push_of_some _ e, turn_list a _, ⟨_, Heap.get?_push_size _ rfl, rfl, rfl⟩, fun b hb => ?_, q⟩
  have e : b = s1.heap.objs.size := by simpa using hb
  subst e
  exact I1.fpOk (Nat.le_refl _) (I1.hok.fresh (Nat.le_refl _))
theorem pi_tup {l : Expr} {tl : TE} (hl : PE X l tl) : PI X tg l (iTup X.K tl) := by
  intro pins s σ H R I h
  refine thn (hl pins s σ H _ I h) fun v s1 ⟨x, H1, I1, r1, q1⟩ => ?_
  obtain ⟨a, e, ⟨xs, hq⟩, q⟩ := q1
  subst e
  cases r1
  obtain ⟨its, rv, p, hz⟩ := I1.tuple hq
  refine wpAny_pyIter_tuple (show s1.heap.IsTuple a its.toArray from p) ?_
  refine ⟨s1.heap.objs.size, [s1.heap.objs.size], _, _, H1, rfl, I1.kept (t' := s1.toks) fun b o e => Heap.get?_push_of_some _ e, turn_tuple a _, ⟨_, Heap.get?_push_size _ rfl, rfl, rfl⟩, fun b hb => ?_, q⟩
  have e : b = s1.heap.objs.size := by simpa using hb
  subst e
  exact I1.fpOk (Nat.le_refl _) (I1.hok.fresh (Nat.le_refl _))
theorem range_it {pins : List (Addr × Obj)} {σ : St} {H : Hp} {s : Shared} {R : It → Hp → Prop} {E : Value → Shared → Prop} {lo hi : Int} {t u v : Tok} {tk : Nat} (I : Inv X pins σ H s) (h1 : -(2 ^ 62) ≤ lo) (h2 : lo < 2 ^ 62) (h3 : -(2 ^ 62) ≤ hi) (h4 : hi < 2 ^ 62)
    (q : R (Itr lo (hi - lo).toNat) H) : wpAny (model X.prog X.w) X.A (pyIter (.ref s.heap.objs.size)) (PIE X pins σ tg R) E { s with heap := s.heap.push { cls := .type "range", data := .fields #[.int lo t, .int hi u, .int 1 v] }, toks := tk } := by
  refine wpAny_pyIter_range (IsRange.new ..) (small_one h1 h2 h3 h4) ?_
  have I1 : Inv X pins σ H { s with heap := s.heap.push { cls := .type "range", data := .fields #[.int lo t, .int hi u, .int 1 v] }, toks := tk } := I.kept fun b o e => Heap.get?_push_of_some _ e
  refine ⟨(s.heap.push { cls := .type "range", data := .fields #[.int lo t, .int hi u, .int 1 v] }).objs.size, [(s.heap.push { cls := .type "range", data := .fields #[.int lo t, .int hi u, .int 1 v] }).objs.size], _, _, H, rfl,
    I1.kept (t' := tk) fun b o e => Heap.get?_push_of_some _ e, turn_range _ lo (hi - lo).toNat, ?_, fun b hb => ?_, q⟩
  · have e1 : lo + ((0 : Nat) : Int) * 1 = lo := by simp
    have e2 : (((hi - lo).toNat : Nat) : Int) - ((0 : Nat) : Int) = Builtin.Range.rangeSize lo hi 1 := by rw [rangeSize_one]; split <;> omega
    show IsRangeIter _ _ (lo + ((0 : Nat) : Int) * 1) ((((hi - lo).toNat : Nat) : Int) - ((0 : Nat) : Int)) 1
    rw [e1, e2]
    exact Heap.get?_push_size _ rfl
  · have e : b = (s.heap.push { cls := .type "range", data := .fields #[.int lo t, .int hi u, .int 1 v] }).objs.size := by simpa using hb
    subst e
    exact I1.fpOk (Nat.le_refl _) (I1.hok.fresh (Nat.le_refl _))
def iRng1 (ta : TA) : TI := fun σ H R => ta σ H fun vs H1 => ∃ j : Int, vs = [.int j] ∧ -(2 ^ 62) ≤ j ∧ j < 2 ^ 62 ∧ R (Itr 0 j.toNat) H1
theorem pi_range1 {a : Expr} {ta : TA} {p pos : Pos} (hg : Gl X "range") (hm : X.mg "range" = none) (ha : PA X [a] ta) (hs : starEach [a] X.env = [(false, eval a X.env)] := by rfl) : PI X tg (.Call (.Name "range" p) [a] [] pos) (iRng1 ta) := by
  intro pins s σ H R I h
  refine Call_ (ld_blt I hg hm boot_range (PyProof.Rows.callWith_type1 (thn (ha pos pins s σ H _ I h) fun us s1 ⟨vs, H1, I1, r1, q1⟩ => ?_) hs rfl))
  obtain ⟨j, e, q1, q2, q⟩ := q1
  subst e
  cases r1 with
  | cons r rr =>
    cases rr
    obtain ⟨t, rfl⟩ := r
    exact call_range_1 (range_it I1 (by omega) (by omega) q1 q2 (by simpa using q))
def tFor (wi : TI) (g : TG) (tb : TS) : TS := fun D σ H => wi σ H fun J H1 => ∃ W : Nat → Nat → St → Hp → Prop, (∃ m, W 0 m σ H1) ∧ ∀ i m σ H, W i m σ H →
  (J.stop i H ∧ D.nx σ H) ∨ (J.go i H ∧ ∃ N : St → Hp → Prop, (∀ σ' H', N σ' H' → ∃ m', m' < m ∧ W (i + 1) m' σ' H') ∧ ∀ x H', J.yld i H x H' → g x σ H' fun σ2 H2 => tb { D with nx := N, ct := N, bk := D.nx } σ2 H2)
def pinsAt (fp : List Addr) (h : Heap) : List (Addr × Obj) := fp.filterMap fun b => (h.get? b).map fun o => (b, o)
theorem mem_pinsAt {fp : List Addr} {h : Heap} {b : Addr} {o : Obj} (hb : b ∈ fp) (e : h.get? b = some o) : (b, o) ∈ pinsAt fp h := List.mem_filterMap.mpr ⟨b, hb, by rw [e]; rfl⟩
theorem of_pinsAt {fp : List Addr} {h : Heap} {p : Addr × Obj} (hp : p ∈ pinsAt fp h) : p.1 ∈ fp ∧ h.get? p.1 = some p.2 := by
  obtain ⟨b, hb, e⟩ := List.mem_filterMap.mp hp
  cases q : h.get? b with
  | none => rw [q] at e; cases e
  | some o =>
    rw [q] at e
    have e' : (b, o) = p := Option.some.inj e
    subst e'
    exact ⟨hb, q⟩
theorem Inv.pinned {pins : List (Addr × Obj)} {σ : St} {H : Hp} {s : Shared} {fp : List Addr} (I : Inv X pins σ H s) (hf : ∀ b ∈ fp, FpOk X pins H b) (ho : ∀ b ∈ fp, ∃ o, s.heap.get? b = some o ∧ ∀ v, o.data ≠ .cell v) : Inv X (pins ++ pinsAt fp s.heap) σ H s :=
  I.pins_of fun p hp => (List.mem_append.mp hp).elim (fun z => I.pin p (List.mem_append_right _ z)) fun z => by
    obtain ⟨hb, e⟩ := of_pinsAt z
    obtain ⟨f0, f1, f2, _⟩ := hf p.1 hb
    obtain ⟨o, e', d⟩ := ho p.1 hb
    rw [e] at e'; cases e'
    exact ⟨e, f0, f1, f2, d⟩
theorem Inv.unpinned {pins pl : List (Addr × Obj)} {σ : St} {H : Hp} {s : Shared} (I : Inv X (pins ++ pl) σ H s) : Inv X pins σ H s := I.pins_of fun p hp => I.pin p (List.mem_append_right _ (List.mem_append_left _ hp))
theorem ps_for {iter : Expr} {body : List Stmt} {wi : TI} {g : TG} {tb : TS} {pos : Pos} (hp : PassesOwn (model X.prog X.w) X.A X.env X.xe) (hc : X.calm = true) (hi : PI X tg iter wi) (hg : PG X tg g) (hb : PSs X body tb)
    (hs : ∀ x, foldedSetIterable iter X.env x = pure x := by intro _; rfl) : PS X (.For tg iter body [] pos) (tFor wi g tb) := by
  intro pins s σ H D I h
  refine wpAny_For (thn (hi pins s σ H _ I h) fun v s1 h1 => thn h1 fun itv s2 h2 => ?_) hs
  obtain ⟨it, fp, tn, J, H2, e, I2, T, st2, f2, W, ⟨m0, w0⟩, turn⟩ := h2
  subst e
  have stat : ∀ {H' : Hp}, (∀ b ∈ fp, H' b = none) → ∀ b ∈ fp, FpOk X pins H' b := fun hn b hb => ⟨hn b hb, (f2 b hb).2⟩
  refine codeAny_forLoop_any (fun n s' => ∃ i σ' H', Inv X pins σ' H' s' ∧ tn i s'.heap ∧ (∀ b ∈ fp, H' b = none) ∧ W i n σ' H') ?_ m0 ⟨0, σ, H2, I2, st2, fun b hb => (f2 b hb).1, w0⟩
  rintro n s3 ⟨i, σ3, H3, I3, st3, fr3, w3⟩
  rcases turn i n σ3 H3 w3 with ⟨stop, qn⟩ | ⟨go, N, hN, step⟩
  · refine wpAny_passesOwn hp (thn (T.done X rfl rfl rfl hc i pins s3 σ3 H3 X.xe I3 (stat fr3) st3 stop) fun r s4 ⟨hr, I4⟩ => ?_)
    subst hr
    exact wpAny_execs_nil ⟨σ3, H3, I4, qn⟩
  · refine wpAny_passesOwn hp (thn (T.item X rfl rfl rfl hc i pins s3 σ3 H3 X.xe I3 (stat fr3) st3 go) fun r s4 ⟨u, hr, h4⟩ => ?_)
    subst hr
    refine wpAny_passesOwn hp (thn h4 fun _ s5 ⟨x, H5, I5, r5, y5, st5, fr5⟩ => ?_)
    have I5' := I5.pinned (stat fr5) (T.obj _ _ st5)
    refine wpAny_passesOwn hp (thn (hg _ s5 σ3 H5 x u _ I5' r5 (step x H5 y5)) fun _ s6 ⟨σ6, H6, I6, q6⟩ => ?_)
    refine wpAny_passesOwn hp (thn (hb _ s6 σ6 H6 _ I6 q6) fun f s7 q7 => ?_)
    have again : ∀ {σ7 : St} {H7 : Hp}, Inv X (pins ++ pinsAt fp s5.heap) σ7 H7 s7 → N σ7 H7 → ∃ m, m < n ∧ ∃ i σ' H', Inv X pins σ' H' s7 ∧ tn i s7.heap ∧ (∀ b ∈ fp, H' b = none) ∧ W i m σ' H' := fun {σ7 H7} I7 n7 => by
      obtain ⟨m', hm, w7⟩ := hN σ7 H7 n7
      refine ⟨m', hm, i + 1, σ7, H7, I7.unpinned, T.keep _ _ _ st5 fun b hb o e => (I7.pin (b, o) (List.mem_append_right _ (List.mem_append_right _ (mem_pinsAt hb e)))).1, fun b hb => ?_, w7⟩
      obtain ⟨o, e, d⟩ := T.obj _ _ st5 b hb
      exact (I7.pin (b, o) (List.mem_append_right _ (List.mem_append_right _ (mem_pinsAt hb e)))).2.1
    cases f with
    | next => obtain ⟨σ7, H7, I7, n7⟩ := q7; exact again I7 n7
    | cont => obtain ⟨σ7, H7, I7, n7⟩ := q7; exact again I7 n7
    | brk => obtain ⟨σ7, H7, I7, q7⟩ := q7; exact ⟨σ7, H7, I7.unpinned, q7⟩
    | ret v => obtain ⟨x7, σ7, H7, I7, r7, q7⟩ := q7; exact ⟨x7, σ7, H7, I7.unpinned, r7, q7⟩
end
end L2
namespace L2
open PySem PySem.Spec PyProof.Rows
abbrev R2 := V → V → Hp → VK → Prop
def OpR (X : Cx) (f : Value → Value → Sem Value) (r : R2) : Prop :=
  ∀ (pins : List (Addr × Obj)) (s : Shared) (σ : St) (H : Hp) (x y : V) (v u : Value) (Q : VK), Inv X pins σ H s → RelV x v → RelV y u → r x y H Q →
    wpAny (model X.prog X.w) X.A (f v u) (EP X pins σ Q) X.xe s
def UnR (X : Cx) (f : Value → Sem Value) (r : V → Hp → VK → Prop) : Prop :=
  ∀ (pins : List (Addr × Obj)) (s : Shared) (σ : St) (H : Hp) (x : V) (v : Value) (Q : VK), Inv X pins σ H s → RelV x v → r x H Q →
    wpAny (model X.prog X.w) X.A (f v) (EP X pins σ Q) X.xe s
def CallR (X : Cx) (f : Value) (r : List V → Hp → VK → Prop) : Prop :=
  ∀ (pins : List (Addr × Obj)) (s : Shared) (σ : St) (H : Hp) (xs : List V) (us : List Value) (Q : VK), Inv X pins σ H s → Vals xs us → r xs H Q →
    wpAny (model X.prog X.w) X.A (call f us) (EP X pins σ Q) X.xe s
def tOp (r : R2) (ta tb : TE) : TE := fun σ H Q => ta σ H fun x H1 => tb σ H1 fun y H2 => r x y H2 Q
def tUn (r : V → Hp → VK → Prop) (ta : TE) : TE := fun σ H Q => ta σ H fun x H1 => r x H1 Q
def rI (C : Int → Int → Prop) (g : Int → Int → V) : R2 := fun x y H Q => ∃ i j, x = .int i ∧ y = .int j ∧ C i j ∧ Q (g i j) H
def rI0 (g : Int → Int → V) : R2 := fun x y H Q => ∃ i j, x = .int i ∧ y = .int j ∧ Q (g i j) H
def rU (g : Int → V) : V → Hp → VK → Prop := fun x H Q => ∃ i, x = .int i ∧ Q (g i) H
section
variable {X : Cx} {a b c : Expr} {ta tb tc : TE} {pos : Pos}
theorem binT (ha : PE X a ta) (hb : PE X b tb) {pins : List (Addr × Obj)} {s : Shared} {σ : St} {H : Hp} {R : V → V → Hp → Prop} (I : Inv X pins σ H s)
    (h : ta σ H fun x H1 => tb σ H1 fun y H2 => R x y H2) {Q : Value → Shared → Prop} {f : Value → Value → Sem Value}
    (hf : ∀ v u s2 x y H2, Inv X pins σ H2 s2 → RelV x v → RelV y u → R x y H2 → wpAny (model X.prog X.w) X.A (f v u) Q X.xe s2) :
    wpAny (model X.prog X.w) X.A (eval a X.env) (fun v s₁ => wpAny (model X.prog X.w) X.A (eval b X.env) (fun u s₂ => wpAny (model X.prog X.w) X.A (f v u) Q X.xe s₂) X.xe s₁) X.xe s := by
  refine thn (ha pins s σ H _ I h) fun v s1 ⟨x, H1, I1, r1, q1⟩ => ?_
  refine thn (hb pins s1 σ H1 _ I1 q1) fun u s2 ⟨y, H2, I2, r2, q2⟩ => ?_
  exact hf v u s2 x y H2 I2 r1 r2 q2
theorem pe_op {op : Operator} {r : R2} (ho : OpR X (binaryOp op) r) (ha : PE X a ta) (hb : PE X b tb) : PE X (.BinOp a op b pos) (tOp r ta tb) := by
  intro pins s σ H Q I h
  exact wpAny_BinOp (binT ha hb I h fun v u s2 x y H2 I2 rx ry q => ho pins s2 σ H2 x y v u Q I2 rx ry q)
theorem pe_un {op : UnaryOp} {r : V → Hp → VK → Prop} (ho : UnR X (unaryOp op) r) (ha : PE X a ta) : PE X (.UnaryOp op a pos) (tUn r ta) := by
  intro pins s σ H Q I h
  exact UnaryOp_ (thn (ha pins s σ H _ I h) fun v s1 ⟨x, H1, I1, r1, q1⟩ => ho pins s1 σ H1 x v Q I1 r1 q1)
theorem opI {f : Value → Value → Sem Value} {C : Int → Int → Prop} {g : Int → Int → Int}
    (rule : ∀ (i j : Int) (t u : Tok) (s : Shared) (Q : Value → Shared → Prop) (E : Value → Shared → Prop), C i j → Q (.int (g i j) s.toks) { s with toks := s.toks + 1 } → wpAny (model X.prog X.w) X.A (f (.int i t) (.int j u)) Q E s) :
    OpR X f (rI C fun i j => .int (g i j)) := by
  intro pins s σ H x y v u Q I rx ry h
  obtain ⟨i, j, rfl, rfl, hc, q⟩ := h
  obtain ⟨t, rfl⟩ := rx
  obtain ⟨t', rfl⟩ := ry
  exact rule i j t t' s _ _ hc ⟨.int (g i j), H, I.tok _, ⟨_, rfl⟩, q⟩
theorem opI0 {f : Value → Value → Sem Value} {g : Int → Int → Int}
    (rule : ∀ (i j : Int) (t u : Tok) (s : Shared) (Q : Value → Shared → Prop) (E : Value → Shared → Prop), Q (.int (g i j) s.toks) { s with toks := s.toks + 1 } → wpAny (model X.prog X.w) X.A (f (.int i t) (.int j u)) Q E s) :
    OpR X f (rI0 fun i j => .int (g i j)) := by
  intro pins s σ H x y v u Q I rx ry h
  obtain ⟨i, j, rfl, rfl, q⟩ := h
  obtain ⟨t, rfl⟩ := rx
  obtain ⟨t', rfl⟩ := ry
  exact rule i j t t' s _ _ ⟨.int (g i j), H, I.tok _, ⟨_, rfl⟩, q⟩
theorem opB0 {f : Value → Value → Sem Value} {g : Int → Int → Bool}
    (rule : ∀ (i j : Int) (t u : Tok) (s : Shared) (Q : Value → Shared → Prop) (E : Value → Shared → Prop), Q (.bool (g i j)) s → wpAny (model X.prog X.w) X.A (f (.int i t) (.int j u)) Q E s) :
    OpR X f (rI0 fun i j => .bl (g i j)) := by
  intro pins s σ H x y v u Q I rx ry h
  obtain ⟨i, j, rfl, rfl, q⟩ := h
  obtain ⟨t, rfl⟩ := rx
  obtain ⟨t', rfl⟩ := ry
  exact rule i j t t' s _ _ ⟨.bl (g i j), H, I, rfl, q⟩
def CDiv (i j : Int) : Prop := 0 < j ∧ j < 1073741824
def CPow (i j : Int) : Prop := 0 ≤ j ∧ j ≤ 1000000 ∧ i.natAbs < 2 ^ 64
def CMul (i j : Int) : Prop := (-(2 ^ 64) < i ∧ i < 2 ^ 64) ∨ (-(2 ^ 64) < j ∧ j < 2 ^ 64)
theorem CMul.ok {i j : Int} (h : CMul i j) : IntMulOk i j := by
  rcases h with ⟨h1, h2⟩ | ⟨h1, h2⟩
  · exact .of_left (intBits_le_64 h1 h2)
  · exact .of_right (intBits_le_64 h1 h2)
theorem op_add : OpR X (binaryOp .Add) (rI0 fun i j => .int (i + j)) := opI0 fun _ _ _ _ _ _ _ q => add_int q
theorem op_sub : OpR X (binaryOp .Sub) (rI0 fun i j => .int (i - j)) := opI0 fun _ _ _ _ _ _ _ q => sub_int q
theorem op_mul : OpR X (binaryOp .Mult) (rI CMul fun i j => .int (i * j)) := opI fun _ _ _ _ _ _ _ hc q => mul_int q hc.ok
theorem op_fdiv : OpR X (binaryOp .FloorDiv) (rI CDiv fun i j => .int (i / j)) := opI fun i j _ _ _ _ _ hc q => by
  have h1 : (0 : Int) < j := hc.1
  have h2 : j < 1073741824 := hc.2
  exact floordiv_int (by omega) (by rw [Int.fdiv_eq_ediv_of_nonneg i (by omega)]; exact q) (.inl (PyProof.noPylong_small (by omega)))
theorem op_mod : OpR X (binaryOp .Mod) (rI (fun _ j => 0 < j) fun i j => .int (i % j)) := opI fun i j _ _ _ _ _ hc q => by
  have h1 : (0 : Int) < j := hc
  exact mod_int' (by omega) (by rw [Int.fmod_eq_emod_of_nonneg i (by omega)]; exact q)
theorem op_pow : OpR X (binaryOp .Pow) (rI CPow fun i j => .int (i ^ j.toNat)) := opI fun _ _ _ _ _ _ _ hc q => pow_int_small hc.1 hc.2.1 hc.2.2 q
theorem unI {f : Value → Sem Value} {g : Int → Int}
    (rule : ∀ (i : Int) (t : Tok) (s : Shared) (Q : Value → Shared → Prop) (E : Value → Shared → Prop), Q (.int (g i) s.toks) { s with toks := s.toks + 1 } → wpAny (model X.prog X.w) X.A (f (.int i t)) Q E s) :
    UnR X f (rU fun i => .int (g i)) := by
  intro pins s σ H x v Q I rx h
  obtain ⟨i, rfl, q⟩ := h
  obtain ⟨t, rfl⟩ := rx
  exact rule i t s _ _ ⟨.int (g i), H, I.tok _, ⟨_, rfl⟩, q⟩
theorem un_neg : UnR X (unaryOp .USub) (rU fun i => .int (-i)) := unI fun _ _ _ _ _ q => neg_int q
end
section
variable {X : Cx} {a b c : Expr} {ta tb tc : TE} {pos : Pos}
theorem fin_bl {pins : List (Addr × Obj)} {σ : St} {H : Hp} {s : Shared} {Q : VK} {k k' : Bool} (I : Inv X pins σ H s) (q : Q (.bl k) H) (e : k = k') : EP X pins σ Q (.bool k') s := by
  subst e
  exact ⟨.bl k, H, I, rfl, q⟩
theorem op_lt : OpR X (compareOp .Lt) (rI0 fun i j => .bl (decide (i < j))) := opB0 fun _ _ _ _ _ _ _ q => lt_int q
theorem op_le : OpR X (compareOp .LtE) (rI0 fun i j => .bl (decide (i ≤ j))) := opB0 fun _ _ _ _ _ _ _ q => le_int q
theorem op_gt : OpR X (compareOp .Gt) (rI0 fun i j => .bl (decide (j < i))) := opB0 fun _ _ _ _ _ _ _ q => gt_int q
theorem op_ge : OpR X (compareOp .GtE) (rI0 fun i j => .bl (decide (j ≤ i))) := opB0 fun _ _ _ _ _ _ _ q => ge_int q
theorem op_notN : OpR X (compareOp .IsNot) (fun x y H Q => y = .non ∧ Q (.bl (!decide (x = .non))) H) := by
  intro pins s σ H x y v u Q I rx ry h
  obtain ⟨rfl, q⟩ := h
  cases ry
  refine isnot_none_gen (fin_bl I q ?_)
  cases x <;> first
    | (cases rx; rfl)
    | (obtain ⟨t, rfl⟩ := rx; rfl)
theorem OpR.or {f : Value → Value → Sem Value} {r r' : R2} (h : OpR X f r) (h' : OpR X f r') : OpR X f (fun x y H Q => r x y H Q ∨ r' x y H Q) := by
  intro pins s σ H x y v u Q I rx ry q
  rcases q with q | q
  · exact h pins s σ H x y v u Q I rx ry q
  · exact h' pins s σ H x y v u Q I rx ry q
theorem nomark (b : Expr) {op : CmpOp} (h : op ≠ .In := by decide) (h2 : op ≠ .NotIn := by decide) : behindInMarks op b = false := by
  have e1 : (op == CmpOp.In) = false := by cases op <;> first | rfl | exact absurd rfl h
  have e2 : (op == CmpOp.NotIn) = false := by cases op <;> first | rfl | exact absurd rfl h2
  cases b <;> simp [behindInMarks, e1, e2]
theorem pe_cmpR {op : CmpOp} {r : R2} (ho : OpR X (compareOp op) r) (ha : PE X a ta) (hb : PE X b tb) (hm : behindInMarks op b = false) : PE X (.Compare a [op] [b] pos) (tOp r ta tb) := by
  intro pins s σ H Q I h
  exact wpAny_Compare1 (binT ha hb I h fun v u s2 x y H2 I2 rx ry q => ho pins s2 σ H2 x y v u Q I2 rx ry q) hm
def tTest (t : TE) : TT := fun σ H Q => t σ H fun x H' => ∃ k, x = .bl k ∧ Q k H'
theorem pt_cmpR {op : CmpOp} {r : R2} (ho : OpR X (compareOp op) r) (ha : PE X a ta) (hb : PE X b tb) (hm : behindInMarks op b = false) : PT X (.Compare a [op] [b] pos) (tTest (tOp r ta tb)) := by
  intro pins s σ H Q I h
  refine wpAny_isTrue_Compare1 (thn (ha pins s σ H _ I h) fun v s1 ⟨x, H1, I1, r1, q1⟩ => thn (hb pins s1 σ H1 _ I1 q1) fun u s2 ⟨y, H2, I2, r2, q2⟩ =>
    thn (ho pins s2 σ H2 x y v u _ I2 r1 r2 q2) fun c s3 ⟨z, H3, I3, r3, k, e, q3⟩ => ?_) hm
  subst e
  cases r3
  exact wpAny_truthy_bool ⟨H3, I3, q3⟩
def tChain (r r' : R2) (ta tb tc : TE) : TE := fun σ H Q => ta σ H fun x H1 => tb σ H1 fun y H2 => r x y H2 fun z H3 => ∃ k, z = .bl k ∧
  (if k = true then tc σ H3 fun w' H4 => r' y w' H4 Q else Q (.bl false) H3)
theorem pe_chain {op op' : CmpOp} {r r' : R2} (ho : OpR X (compareOp op) r) (ho' : OpR X (compareOp op') r') (ha : PE X a ta) (hb : PE X b tb) (hc : PE X c tc)
    (hm : lastMarks [op, op'] [b, c] = false := by with_unfolding_all rfl) : PE X (.Compare a [op, op'] [b, c] pos) (tChain r r' ta tb tc) := by
  intro pins s σ H Q I h
  refine Compare_chain (thn (ha pins s σ H _ I h) fun v s1 ⟨x, H1, I1, r1, q1⟩ => chain_link (thn (hb pins s1 σ H1 _ I1 q1) fun u s2 ⟨y, H2, I2, r2, q2⟩ =>
    thn (ho pins s2 σ H2 x y v u _ I2 r1 r2 q2) fun d s3 ⟨z, H3, I3, r3, k, e, q3⟩ => ?_)) hm
  subst e
  cases r3
  refine wpAny_truthy_bool ?_
  cases k with
  | false => exact ite_ff ⟨.bl false, H3, I3, rfl, q3⟩
  | true => exact ite_tt (chain_last (thn (hc pins s3 σ H3 _ I3 q3) fun w' s4 ⟨z', H4, I4, r4, q4⟩ => ho' pins s4 σ H4 y z' u w' Q I4 r2 r4 q4))
theorem line63 : (sizeLine : Nat) < 2 ^ 63 := by rw [sizeLine_eq]; decide
theorem op_add_str : OpR X (binaryOp .Add) (fun x y H Q => ∃ i j, x = .str i ∧ y = .str j ∧ i.length + j.length ≤ sizeLine ∧ Q (.str (i ++ j)) H) := by
  intro pins s σ H x y v u Q I rx ry h
  obtain ⟨i, j, rfl, rfl, hz, q⟩ := h
  obtain ⟨t, rfl⟩ := rx
  obtain ⟨t', rfl⟩ := ry
  exact add_str (fun t' tk => ⟨.str (i ++ j), H, I.tok _, ⟨_, rfl⟩, q⟩) hz
theorem vals1 {x : V} {us : List Value} (r : Vals [x] us) : ∃ u, us = [u] ∧ RelV x u := by
  cases r with
  | cons r1 r2 => cases r2; exact ⟨_, rfl, r1⟩
theorem vals2 {x y : V} {us : List Value} (r : Vals [x, y] us) : ∃ u w', us = [u, w'] ∧ RelV x u ∧ RelV y w' := by
  cases r with
  | cons r1 r2 =>
    cases r2 with
    | cons r3 r4 => cases r4; exact ⟨_, _, rfl, r1, r3⟩
theorem call_abs : CallR X (.builtin "abs") (fun xs H Q => ∃ i, xs = [.int i] ∧ Q (.int (if i < 0 then -i else i)) H) := by
  intro pins s σ H xs us Q I r h
  obtain ⟨i, rfl, q⟩ := h
  obtain ⟨u, rfl, t, rfl⟩ := vals1 r
  exact call_abs_int fun u tk => ⟨.int (if i < 0 then -i else i), H, I.tok _, ⟨_, rfl⟩, q⟩
theorem call_max2 (hc : X.calm = true) : CallR X (.builtin "max") (fun xs H Q => ∃ i j, xs = [.int i, .int j] ∧ Q (.int (if j > i then j else i)) H) := by
  intro pins s σ H xs us Q I r h
  obtain ⟨i, j, rfl, q⟩ := h
  obtain ⟨u, w', rfl, ⟨t, rfl⟩, ⟨t', rfl⟩⟩ := vals2 r
  refine max_two_ints (I.ok.hd hc) fun h' tk k => ⟨_, H, I.kept k, ?_, q⟩
  by_cases hj : j > i
  · rw [if_pos hj, if_pos hj]; exact ⟨_, rfl⟩
  · rw [if_neg hj, if_neg hj]; exact ⟨_, rfl⟩
theorem call_min2 (hc : X.calm = true) : CallR X (.builtin "min") (fun xs H Q => ∃ i j, xs = [.int i, .int j] ∧ Q (.int (if j < i then j else i)) H) := by
  intro pins s σ H xs us Q I r h
  obtain ⟨i, j, rfl, q⟩ := h
  obtain ⟨u, w', rfl, ⟨t, rfl⟩, ⟨t', rfl⟩⟩ := vals2 r
  refine min_two_ints (I.ok.hd hc) fun h' tk k => ⟨_, H, I.kept k, ?_, q⟩
  by_cases hj : j < i
  · rw [if_pos hj, if_pos hj]; exact ⟨_, rfl⟩
  · rw [if_neg hj, if_neg hj]; exact ⟨_, rfl⟩
theorem call_int1 : CallR X (.type "int") (fun xs H Q => (∃ i, xs = [.int i] ∧ Q (.int i) H) ∨ ∃ k, xs = [.bl k] ∧ Q (.int (if k then 1 else 0)) H) := by
  intro pins s σ H xs us Q I r h
  rcases h with ⟨i, rfl, q⟩ | ⟨k, rfl, q⟩
  · obtain ⟨u, rfl, t, rfl⟩ := vals1 r
    exact call_int_int ⟨.int i, H, I, ⟨_, rfl⟩, q⟩
  · obtain ⟨u, rfl, r1⟩ := vals1 r
    cases r1
    exact call_int_bool ⟨.int (if k then 1 else 0), H, I.tok _, ⟨_, rfl⟩, q⟩
end
end L2
namespace L2
open PySem PySem.Spec PyProof.Rows
section
variable {prog : Program} {w : World} {A : Around} {E : Value → Shared → Prop} {s : Shared} {K : PySem.W.Frag} {x dx C f : Addr} {mA : Str → Option Value} {name : Str} {v : Value}
end
section
variable {P : Program} {w : World} {H H' : Hp} {h h' : Heap} {a C dx : Addr} {fs fs' : List (Str × V)}
end
structure Cls (K : PySem.W.Frag) (C : Addr) : Prop where
  pg : PySem.W.plainGet K C Str.empty = true
  hd : PySem.W.hasDictIn K C = true
  po : PySem.W.plainOver K C = true
  sa : PySem.W.findIn K (.ref C) "__setattr__" = some (some (.builtin "object.__setattr__"))
theorem Cls.get {K : PySem.W.Frag} {C : Addr} (c : Cls K C) (f : Str) : PySem.W.plainGet K C f = true := c.pg
section
variable {X : Cx} {pins : List (Addr × Obj)} {σ : St} {H : Hp} {s : Shared} {a C dx : Addr} {fs : List (Str × V)} {f : Str} {v : V} {A : Around} {E : Value → Shared → Prop}
theorem Inv.made (I : Inv X pins σ H s) : Inv X pins σ (upd (upd H s.heap.objs.size (.own (s.heap.objs.size + 1))) (s.heap.objs.size + 1) (.ins C s.heap.objs.size []))
    { s with heap := (s.heap.push PySem.W.emptyDict).push (PySem.W.instObj C s.heap.objs.size) } := by
  have e1 : (s.heap.push PySem.W.emptyDict).get? s.heap.objs.size = some PySem.W.emptyDict := Heap.get?_push_size s.heap rfl
  have e2 : ((s.heap.push PySem.W.emptyDict).push (PySem.W.instObj C s.heap.objs.size)).get? (s.heap.objs.size + 1) = some (PySem.W.instObj C s.heap.objs.size) := by
    have := Heap.get?_push_size (s.heap.push PySem.W.emptyDict) (o := PySem.W.instObj C s.heap.objs.size) rfl
    rwa [Heap.size_push] at this
  have e3 : (s.heap.push PySem.W.emptyDict).Ns s.heap.objs.size (fun _ => none) := ⟨PySem.W.emptyDict, #[], _, e1, rfl, (fun e he => absurd he (by simp)), fun _ => rfl⟩
  have I1 := I.laid (a := s.heap.objs.size) (o := .own (s.heap.objs.size + 1)) (h' := s.heap.push PySem.W.emptyDict) (t' := s.toks) (fun b u q => Heap.get?_push_of_some _ q) (Nat.le_refl _) ⟨_, e1⟩
  refine I1.laid (a := s.heap.objs.size + 1) (o := .ins C s.heap.objs.size []) (t' := s.toks) (fun b u q => Heap.get?_push_of_some _ q) (Nat.le_of_eq (Heap.size_push _ _)) ?_
  have ne : s.heap.objs.size ≠ s.heap.objs.size + 1 := Nat.ne_of_lt (Nat.lt_succ_self _)
  refine ⟨by rw [upd_ne ne, upd_same], Nat.zero_le _, ne, e2, fun _ => none, (Heap.Ns1.of_empty e3).at fun o q => Heap.get?_push_of_some _ q, fun _ => True.intro, fun y hy => absurd rfl hy⟩
end
section
variable {X : Cx} {o e value : Expr} {f : Str} {pos pos' tpos : Pos} {ta tv : TE}
end
section
variable {X : Cx} {pins : List (Addr × Obj)} {σ : St} {H : Hp} {s : Shared} {A : Around} {E : Value → Shared → Prop} {Q : Value → Shared → Prop} {c : Value} {b : Bool}
end
end L2
namespace L2
open PySem PySem.Spec PyProof.Rows
structure Room (k : Nat) (A : Around) : Prop where
  hd : A.handled = none
  dp : A.depth + 3 * k + 5 < recursionLimit
  un : A.units + 16 * k + 200 < cLine
theorem Room.mono {j k : Nat} {A : Around} (r : Room k A) (h : j ≤ k) : Room j A := ⟨r.hd, by have := r.dp; omega, by have := r.un; omega⟩
theorem Room.deeper {k : Nat} {A : Around} (r : Room (k + 1) A) (env : Env) : Room k (A.deeper env) :=
  ⟨r.hd, by have := r.dp; show A.depth + 1 + 3 * k + 5 < _; omega, by have := r.un; show A.units + 3 + 16 * k + 200 < _; omega⟩
theorem Room.in1 {k : Nat} {A : Around} (r : Room (k + 1) A) : Room k A.in1 :=
  ⟨r.hd, by have := r.dp; show A.depth + 3 * k + 5 < _; omega, by have := r.un; show A.units + 1 + 16 * k + 200 < _; omega⟩
theorem Room.depth {k : Nat} {A : Around} (r : Room k A) : A.depth < recursionLimit := by have := r.dp; omega
theorem Room.units {k : Nat} {A : Around} (r : Room k A) : A.units + 64 < cLine := by have := r.un; omega
def tNil : TA := fun _ H Q => Q [] H
def tCons (ta : TE) (tr : TA) : TA := fun σ H Q => ta σ H fun x H1 => tr σ H1 fun xs H2 => Q (x :: xs) H2
section
variable {X : Cx} {e : Expr} {es : List Expr} {te : TE} {t : TA} {pos : Pos}
theorem pa_nil : PA X [] tNil := fun _ _ _ _ H Q I h => Calls.spliced_nil ⟨[], H, I, .nil, h⟩
theorem pa_cons (ha : PE X e te) (hr : PA X es t) (hs : starEach (e :: es) X.env = (false, eval e X.env) :: starEach es X.env := by rfl) : PA X (e :: es) (tCons te t) := by
  intro pos pins s σ H Q I h
  rw [hs]
  show wpAny _ _ (spliced ((false, eval e X.env) :: backTo pos (starEach es X.env))) _ _ s
  refine Calls.spliced_cons (thn (ha pins s σ H _ I h) fun u s1 ⟨x, H1, I1, r1, q1⟩ => ?_)
  exact thn (hr pos pins s1 σ H1 _ I1 q1) fun us s2 ⟨xs, H2, I2, r2, q2⟩ => ⟨x :: xs, H2, I2, .cons r1 r2, q2⟩
def tTup (t : TA) : TE := fun σ H Q => t σ H fun xs H1 => xs.length ≤ sizeLine ∧ ∀ p, H1 p = none → Q (.ref p) (upd H1 p (.tup xs))
def tLst (t : TA) : TE := fun σ H Q => t σ H fun xs H1 => xs.length ≤ sizeLine ∧ ∀ p, H1 p = none → Q (.ref p) (upd H1 p (.lst xs))
theorem pe_tup {x1} (h : PA X es t) : PE X (.Tuple es x1 pos) (tTup t) := by
  intro pins s σ H Q I hq
  refine wpAny_Tuple_spliced (thn (h pos pins s σ H _ I hq) fun us s1 ⟨xs, H1, I1, r, z, q⟩ => ⟨by rw [← r.length]; exact z, ?_⟩)
  have hf : H1 s1.heap.objs.size = none := I1.hok.fresh (Nat.le_refl _)
  refine ⟨.ref s1.heap.objs.size, upd H1 s1.heap.objs.size (.tup xs), I1.laid (t' := s1.toks) (fun b u e => Heap.get?_push_of_some _ e) (Nat.le_refl _) ?_, rfl, q _ hf⟩
  exact ⟨z, us, r, ⟨_, Heap.get?_push_size _ rfl, rfl, _, rfl⟩⟩
theorem pe_lst (h : PA X es t) : PE X (.List es pos) (tLst t) := by
  intro pins s σ H Q I hq
  refine wpAny_List_spliced (thn (h pos pins s σ H _ I hq) fun us s1 ⟨xs, H1, I1, r, z, q⟩ => ⟨by rw [← r.length]; exact z, ?_⟩)
  have hf : H1 s1.heap.objs.size = none := I1.hok.fresh (Nat.le_refl _)
  refine ⟨.ref s1.heap.objs.size, upd H1 s1.heap.objs.size (.lst xs), I1.laid (t' := s1.toks) (fun b u e => Heap.get?_push_of_some _ e) (Nat.le_refl _) ?_, rfl, q _ hf⟩
  exact ⟨z, us, 0, r, Heap.get?_push_size _ rfl⟩
end
abbrev Sp := List V → Hp → VK → XK → Prop
abbrev CXT := List Env → Hp → Shared → XK → Value → Shared → Prop
structure Env0 (P : Program) (w : World) (K : PySem.W.Frag) (mg : Str → Option Value) (base : Heap) (A : Around) (outer : List Env) (s : Shared) (H : Hp) : Prop where
  frames : A.frames = some outer
  mod : Mod K mg base
  bs : ∀ b o, base.get? b = some o → s.heap.get? b = some o ∧ H b = none
  bsz : base.objs.size ≤ s.heap.objs.size
  funs : s.heap.FunFrames base outer
  frf : ∀ b ∈ frs outer, H b = none
  hok : HOk P w H s.heap
  bare : AllBare s.gens
def CE (outer : List Env) (P : Program) (w : World) (H : Hp) (s : Shared) (Q : VK) (u : Value) (s' : Shared) : Prop :=
  ∃ v H', s'.os = s.os ∧ AllBare s'.gens ∧ Un (frs outer) [] H H' s.heap s'.heap ∧ HOk P w H' s'.heap ∧ RelV v u ∧ Q v H'
def CR (CX : CXT) (outer : List Env) (P : Program) (w : World) (H : Hp) (s : Shared) (Q : VK) (E : XK) (r : Result) (s' : Shared) : Prop :=
  match r with
  | .ok (.ret u) => CE outer P w H s Q u s'
  | .ok _ => False
  | .error e => CX outer H s E e s'
structure FnOk (P : Program) (w : World) (K : PySem.W.Frag) (mg : Str → Option Value) (base : Heap) (CX : CXT) (k : Nat) (f : Addr) (fd : FuncData) (ps : List Str) (sp : Sp) : Prop where
  len : ∀ vs H Q E, sp vs H Q E → vs.length = ps.length
  run : ∀ (A : Around) (outer : List Env) (s : Shared) (H : Hp) (args : Args) (us : List Value) (vs : List V) (Q : VK) (E : XK), Room k A → Env0 P w K mg base A outer s H → BindsTo s fd args (ps.zip us) → Vals vs us → sp vs H Q E →
    codeAny (model P w) A (.call (.ref f) args) (CR CX outer P w H s Q E) s
theorem FnOk.mono {P : Program} {w : World} {K : PySem.W.Frag} {mg : Str → Option Value} {base : Heap} {CX : CXT} {j k : Nat} {f : Addr} {fd : FuncData} {ps : List Str} {sp : Sp} (F : FnOk P w K mg base CX j f fd ps sp) (h : j ≤ k) :
    FnOk P w K mg base CX k f fd ps sp := ⟨F.len, fun A outer s H args us vs Q E hr => F.run A outer s H args us vs Q E (hr.mono h)⟩
theorem FnOk.imp {P : Program} {w : World} {K : PySem.W.Frag} {mg : Str → Option Value} {base : Heap} {CX : CXT} {k : Nat} {f : Addr} {fd : FuncData} {ps : List Str} {sp sp' : Sp} (F : FnOk P w K mg base CX k f fd ps sp)
    (h : ∀ vs H Q E, sp' vs H Q E → sp vs H Q E) : FnOk P w K mg base CX k f fd ps sp' :=
  ⟨fun vs H Q E q => F.len vs H Q E (h _ _ _ _ q), fun A outer s H args us vs Q E hr he hb hv hs => F.run A outer s H args us vs Q E hr he hb hv (h _ _ _ _ hs)⟩
theorem Env0.in1 {P : Program} {w : World} {K : PySem.W.Frag} {mg : Str → Option Value} {base : Heap} {A : Around} {outer : List Env} {s : Shared} {H : Hp} (e : Env0 P w K mg base A outer s H) :
    Env0 P w K mg base A.in1 outer s H := ⟨e.frames, e.mod, e.bs, e.bsz, e.funs, e.frf, e.hok, e.bare⟩
section
variable {X : Cx} {pins : List (Addr × Obj)} {σ : St} {H : Hp} {s s' : Shared}
theorem Inv.env0 (I : Inv X pins σ H s) : Env0 X.prog X.w X.K X.mg X.base X.A X.stack s H :=
  ⟨I.ok.frames, I.ok.mod, I.bs, Nat.le_trans I.ok.bsz I.sz, I.stack, I.stkFree, I.hok, I.bare⟩
theorem Inv.after {Q : VK} {u : Value} (I : Inv X pins σ H s) (h : CE X.stack X.prog X.w H s Q u s') : EP X pins σ Q u s' := by
  obtain ⟨v, H', os, bare, un, hok, r, q⟩ := h
  obtain ⟨hh, g, d, t, os'⟩ := s'
  obtain rfl : os' = s.os := os
  exact ⟨v, H', I.call (h' := hh) (g' := g) (d' := d) (t' := t) (ch := []) un hok bare (fun b z => absurd z (by simp)), r, q⟩
end
def tCall (sp : Sp) (dvs : List V) (E : XK) (t : TA) : TE := fun σ H Q => t σ H fun vs H1 => sp (vs ++ dvs) H1 Q E
def Binds (K : PySem.W.Frag) (fd : FuncData) (ps : List Str) (ds : List Value) : Prop :=
  ∀ (s : Shared) (us : List Value), K.In s.heap → (us ++ ds).length = ps.length → BindsTo s fd ⟨us, []⟩ (ps.zip (us ++ ds))
theorem Binds.all {K : PySem.W.Frag} {fd : FuncData} {ps : List Str} (h : ∀ us : List Value, us.length = ps.length → bindArgs fd ⟨us, []⟩ = pure (ps.zip us)) : Binds K fd ps [] := fun s us _ hl => by
  rw [List.append_nil] at hl ⊢
  exact .of_eq (h us hl)
def Passes (CX : CXT) (X : Cx) (E : XK) : Prop := ∀ (pins : List (Addr × Obj)) (σ : St) (H : Hp) (s : Shared) (e : Value) (s' : Shared), Inv X pins σ H s → CX X.stack H s E e s' → X.xe e s'
section
variable {X : Cx} {CX : CXT} {k : Nat} {f C : Addr} {fd : FuncData} {ps : List Str} {sp : Sp} {dvs : List V} {ds : List Value} {E : XK} {x m : Str} {p pos apos : Pos} {e o : Expr} {es : List Expr} {ta : TE} {t : TA}
theorem run_fn {pins : List (Addr × Obj)} {σ : St} {H : Hp} {s : Shared} {Q : VK} {us : List Value} {vs : List V} (F : FnOk X.prog X.w X.K X.mg X.base CX k f fd ps sp) (hr : Room k X.A) (hb : Binds X.K fd ps ds) (hd : Vals dvs ds) (hx : Passes CX X E)
    (I : Inv X pins σ H s) (r : Vals vs us) (h : sp (vs ++ dvs) H Q E) : wpAny (model X.prog X.w) X.A (call (.ref f) us) (EP X pins σ Q) X.xe s := by
  have r2 : Vals (vs ++ dvs) (us ++ ds) := r.append hd
  have hl : (us ++ ds).length = ps.length := by rw [← r2.length]; exact F.len _ _ _ _ h
  refine wpAny_call (codeAny_mono (F.run X.A X.stack s H ⟨us, []⟩ (us ++ ds) (vs ++ dvs) Q E hr I.env0 (hb s us I.kIn hl) r2 h) fun r s' hq => ?_)
  cases r with
  | error e => exact hx pins σ H s e s' I hq
  | ok fl =>
    cases fl with
    | ret u => exact I.after hq
    | next => exact False.elim hq
    | brk => exact False.elim hq
    | cont => exact False.elim hq
theorem pe_call (F : FnOk X.prog X.w X.K X.mg X.base CX k f fd ps sp) (hr : Room k X.A) (hg : Gl X x) (hm : X.mg x = some (.ref f)) (hk : PySem.W.keepIn X.K (.ref f) = true) (hb : Binds X.K fd ps ds) (hd : Vals dvs ds) (hx : Passes CX X E)
    (ha : PA X (e :: es) t) (hdb : (x == ("__debug__" : Str)) = false := by decide) (he : starEach (e :: es) X.env = (false, eval e X.env) :: starEach es X.env := by rfl) (hpl : (backTo pos (starEach es X.env)).any (·.1) = false := by rfl) :
    PE X (.Call (.Name x p) (e :: es) [] pos) (tCall sp dvs E t) := by
  intro pins s σ H Q I h
  refine wpAny_Call_Name_kw (ld_glob I hg hm ?_ hdb)
  refine PySem.W.callWith_K (h₀ := X.base) I.ok.mod.kin hk (thn (ha pos pins s σ H _ I h) fun us s1 ⟨vs, H1, I1, r, q⟩ => ⟨I1.kIn, ?_⟩) he hpl
  exact run_fn F hr hb hd hx I1 r q
end
section
variable {X : Cx} {CX : CXT} {k : Nat} {f C : Addr} {fd : FuncData} {ps ks : List Str} {sp : Sp} {E : XK} {x m : Str} {p pos apos kpos : Pos} {e o : Expr} {es : List Expr} {kws : List Keyword} {te ta : TE} {t tk : TA} {nm : Option Str}
variable {g : List Value → List Value → List Value} {gV : List V → List V → List V}
end
structure FnScope (N P : List Str) (sc : Scope) : Prop where
  kind : sc.kind = .function
  co : sc.isCoroutine = false
  gen : sc.isGenerator = false
  nd : N.Nodup
  pre : N.take P.length = P
  par : ∀ x ∈ P, sc.names.lookup x = some .local ∨ sc.names.lookup x = some .cell
  nofree : ∀ y ∈ sc.names, y.2 ≠ .free
theorem bindL_out {kindOf : Str → Option NameKind} {x : Str} : ∀ {binds : List (Str × Value)} {m : Str → Option Value}, (∀ v, (x, v) ∉ binds) → bindL kindOf binds m x = m x
  | [], _, _ => rfl
  | (n, v) :: r, m, h => by
    unfold bindL
    rw [bindL_out fun w hw => h w (List.mem_cons_of_mem _ hw)]
    split
    · have : x ≠ n := by rintro rfl; exact h v List.mem_cons_self
      simp [this]
    · rfl
theorem bindC_out {kindOf : Str → Option NameKind} {x : Str} : ∀ {binds : List (Str × Value)} {m : Str → Option Value}, (∀ v, (x, v) ∉ binds) → bindC kindOf binds m x = m x
  | [], _, _ => rfl
  | (n, v) :: r, m, h => by
    unfold bindC
    rw [bindC_out fun w hw => h w (List.mem_cons_of_mem _ hw)]
    split
    · rfl
    · have : x ≠ n := by rintro rfl; exact h v List.mem_cons_self
      simp [this]
theorem bindL_get {kindOf : Str → Option NameKind} {x : Str} {v : Value} : ∀ {P : List Str} {vs : List Value} {i : Nat} {m : Str → Option Value}, P.Nodup → P[i]? = some x → vs[i]? = some v → kindOf x = some .local →
    bindL kindOf (P.zip vs) m x = some v
  | [], _, _, _, _, h, _, _ => by simp at h
  | _ :: _, [], _, _, _, _, h, _ => by simp at h
  | p :: P, w :: vs, 0, m, nd, h1, h2, hk => by
    simp at h1 h2; subst h1; subst h2
    show bindL kindOf ((p, w) :: P.zip vs) m p = _
    unfold bindL
    rw [bindL_out fun v hv => (List.nodup_cons.mp nd).1 (List.of_mem_zip hv).1, if_pos hk]
    simp
  | p :: P, w :: vs, i + 1, m, nd, h1, h2, hk => by
    show bindL kindOf ((p, w) :: P.zip vs) m x = _
    unfold bindL
    exact bindL_get (i := i) (List.nodup_cons.mp nd).2 (by simpa using h1) (by simpa using h2) hk
theorem bindC_get {kindOf : Str → Option NameKind} {x : Str} {v : Value} : ∀ {P : List Str} {vs : List Value} {i : Nat} {m : Str → Option Value}, P.Nodup → P[i]? = some x → vs[i]? = some v → kindOf x ≠ some .local →
    bindC kindOf (P.zip vs) m x = some v
  | [], _, _, _, _, h, _, _ => by simp at h
  | _ :: _, [], _, _, _, _, h, _ => by simp at h
  | p :: P, w :: vs, 0, m, nd, h1, h2, hk => by
    simp at h1 h2; subst h1; subst h2
    show bindC kindOf ((p, w) :: P.zip vs) m p = _
    unfold bindC
    rw [bindC_out fun v hv => (List.nodup_cons.mp nd).1 (List.of_mem_zip hv).1, if_neg hk]
    simp
  | p :: P, w :: vs, i + 1, m, nd, h1, h2, hk => by
    show bindC kindOf ((p, w) :: P.zip vs) m x = _
    unfold bindC
    exact bindC_get (i := i) (List.nodup_cons.mp nd).2 (by simpa using h1) (by simpa using h2) hk
def start (N : List Str) (vs : List V) : St := vs.map some ++ List.replicate (N.length - vs.length) none
def cxOf (CX : CXT) (P : Program) (w : World) (K : PySem.W.Frag) (mg : Str → Option Value) (base : Heap) (N : List Str) (qual : Str) (scope : Scope) (f : Addr) (cd : Value) (A : Around) (outer : List Env) (s : Shared) (H : Hp) (E : XK) : Cx where
  prog := P
  w := w
  K := K
  mg := mg
  base := base
  A := A.deeper (envOfC qual scope s.heap.objs.size f cd)
  N := N
  s₀ := s
  H₀ := H
  env := envOfC qual scope s.heap.objs.size f cd
  outer := outer
  stack := envOfC qual scope s.heap.objs.size f cd :: outer
  ex := []
  calm := true
  fn := fun _ => true
  pn := []
  xe := fun e s' => wpAny (model P w) (A.deeper (envOfC qual scope s.heap.objs.size f cd)) (leaving (envOfC qual scope s.heap.objs.size f cd) e) (fun _ s'' => CX outer H s E e s'') (fun e' s'' => CX outer H s E e' s'') s'
theorem cell_has {sc : Scope} {n : Nat} {x : Str} (h : sc.names.lookup x = some .cell) : ∃ c, (cellsFrom n sc.names []).lookup x = some c := by
  have q := PySem.W.cellsFrom_some sc.names n [] (.inl h)
  exact Option.isSome_iff_exists.mp q
theorem inv_start {CX : CXT} {P : Program} {w : World} {K : PySem.W.Frag} {mg : Str → Option Value} {base : Heap} {N ps : List Str} {qual : Str} {scope : Scope} {f : Addr} {cd : Value} {A : Around} {outer : List Env} {s s1 : Shared} {H : Hp} {E : XK} {us : List Value} {vs : List V}
    (S : FnScope N ps scope) (hd : A.handled = none) (e0 : Env0 P w K mg base A outer s H) (hl : vs.length = ps.length) (r : Vals vs us)
    (x : InCallC s s.heap.objs.size (bindL (envOfC qual scope s.heap.objs.size f cd).kindOf (ps.zip us) fun _ => none) (cellsFrom (s.heap.objs.size + 1) scope.names []) (bindC (envOfC qual scope s.heap.objs.size f cd).kindOf (ps.zip us) fun _ => none) s1) :
    Inv (cxOf CX P w K mg base N qual scope f cd A outer s H E) [] (start N vs) H s1 := by
  have hpl : ps.length ≤ N.length := by have := congrArg List.length S.pre; rw [List.length_take] at this; omega
  obtain ⟨h1, tk, rfl, hk⟩ := x.done
  have noA : ∀ b : Addr, b ∉ (cxOf CX P w K mg base N qual scope f cd A outer s H E).ex := fun b z => absurd (show b ∈ ([] : List Addr) from z) (by simp)
  refine ⟨⟨e0.mod, S.kind, rfl, rfl, Nat.le_refl _, fun y z c h1 h2 => ?_, fun y hy => ?_, fun y c _ h => ?_, fun _ => hd, Around.frames_deeper e0.frames, .inr ⟨rfl, rfl⟩, fun b z => absurd z (noA b), e0.bs, e0.bsz, fun b _ _ => noA b, fun b z => absurd z (noA b), e0.funs, e0.frf⟩,
    rfl, e0.bare, Un.kept hk, ⟨_, x.toInCall.ns, fun i y v h1 h2 h3 => ?_⟩, fun y c h => ⟨_, x.cell y c h⟩, e0.hok.fresh (Nat.le_refl _), fun y c h => ?_, fun p hp => absurd (show p ∈ ([] : List (Addr × Obj)) from hp) (by simp), e0.hok.kept hk, ?_⟩
  · exact name_of_addr x.apart (PySem.mem_of_lookup h1) (PySem.mem_of_lookup h2)
  · have hy : scope.names.lookup y = some .cell ∨ scope.names.lookup y = some .free := hy
    rcases hy with hy | hy
    · exact cell_has hy
    · exact absurd rfl (S.nofree _ (PySem.mem_of_lookup hy))
  · exact Nat.le_of_lt (x.above y c (PySem.mem_of_lookup h))
  · have hi : i < vs.length := by
      unfold start at h2
      by_cases hi : i < vs.length
      · exact hi
      · rw [List.getElem?_append_right (by simpa using hi)] at h2
        rw [List.getElem?_replicate] at h2
        split at h2 <;> cases h2
    have ha : vs[i]? = some v := by
      unfold start at h2
      rw [List.getElem?_append_left (by simpa using hi), List.getElem?_map] at h2
      cases e : vs[i]? with
      | none => rw [e] at h2; cases h2
      | some a => rw [e] at h2; cases h2; rfl
    obtain ⟨u, hu, rv⟩ := r.get ha
    have hp : ps[i]? = some y := by
      rw [← S.pre, List.getElem?_take_of_lt (by omega)]; exact h1
    have ndP : ps.Nodup := by rw [← S.pre]; exact S.nd.sublist (List.take_sublist _ _)
    refine ⟨u, rv, ?_⟩
    rcases S.par y (List.mem_of_getElem? hp) with k | k
    · exact .inl ⟨k, bindL_get ndP hp hu k⟩
    · obtain ⟨c, e⟩ := cell_has (n := s.heap.objs.size + 1) k
      refine .inr ⟨.inl k, c, e, ?_⟩
      have q := x.cell y c e
      rw [bindC_get ndP hp hu (by show scope.names.lookup y ≠ _; rw [k]; decide)] at q
      exact q
  · exact e0.hok.fresh (Nat.le_of_lt (x.above y c (PySem.mem_of_lookup h)))
  · unfold start
    show _ = N.length
    rw [List.length_append, List.length_map, List.length_replicate]
    omega
theorem fn_of {CX : CXT} {P : Program} {w : World} {K : PySem.W.Frag} {mg : Str → Option Value} {base : Heap} {k : Nat} {f : Addr} {name qual : Str} {params : Arguments} {body : List Stmt} {scope : Scope} {dV kV doc pm cdv ct oc : Value} {an od : Option Addr}
    {osl : Array (Option Value)} {N ps : List Str} {sp : Sp} (lk : K.lookup f = some ⟨oc, od, .func (PySem.W.fnOf name qual params body scope dV kV doc pm an cdv ct), osl⟩) (hcd : PySem.W.codeIn K cdv qual = true) (S : FnScope N ps scope)
    (len : ∀ vs H Q E, sp vs H Q E → vs.length = ps.length)
    (hbody : ∀ (A : Around) (outer : List Env) (s : Shared) (H : Hp) (vs : List V) (Q : VK) (E : XK), Room k (A.deeper (envOfC qual scope s.heap.objs.size f cdv)) → sp vs H Q E →
      ∃ t, PSs (cxOf CX P w K mg base N qual scope f cdv A outer s H E) body t ∧ t { nx := fun _ H' => Q .non H', rt := Q } (start N vs) H) :
    FnOk P w K mg base CX (k + 1) f (PySem.W.fnOf name qual params body scope dV kV doc pm an cdv ct) ps sp := by
  refine ⟨len, fun A outer s H args us vs Q E hr e0 hb r hsp => ?_⟩
  have hl := len _ _ _ _ hsp
  have KX : K.In s.heap := e0.mod.kin.keeps fun b o e => (e0.bs b o e).1
  have lim : s.heap.NoLimit := e0.mod.nolimit.keeps fun b o e => (e0.bs b o e).1
  have hkind : ∀ y ∈ ps.zip us, scope.names.lookup y.1 = some .local ∨ (scope.names.lookup y.1 = some .cell ∧ ((cellsFrom (s.heap.objs.size + 1) scope.names []).lookup y.1).isSome = true) := fun ⟨n, v⟩ hy => by
    rcases S.par n (List.of_mem_zip hy).1 with q | q
    · exact .inl q
    · exact .inr ⟨q, PySem.W.cellsFrom_some _ _ _ (.inl q)⟩
  refine codeAny_call_function hr.depth (KX _ _ lk) rfl S.co S.gen rfl (PySem.W.codeRec_of KX hcd) (hb _ _ _ _ ?_)
  refine wpAny_newFunctionEnv_cells S.kind hkind fun env he s1 x => ?_
  subst he
  refine ⟨lim.keeps x.toInCall.keep, codeAny_func ?_⟩
  obtain ⟨t, ht, hq⟩ := hbody A outer s H vs Q E (hr.deeper _) hsp
  have I : Inv (cxOf CX P w K mg base N qual scope f cdv A outer s H E) [] (start N vs) H s1 := inv_start S hr.hd e0 hl r x
  refine wpAny_mono (ht [] s1 (start N vs) H _ I hq) (fun fl s' hs => ?_) fun e s' hs => hs
  have fin : ∀ {σ' : St} {H' : Hp} {v : V} {u : Value}, Inv (cxOf CX P w K mg base N qual scope f cdv A outer s H E) [] σ' H' s' → RelV v u → Q v H' → CE outer P w H s Q u s' :=
    fun {σ' H' v u} J rv q => ⟨v, H', J.os, J.bare, J.base, J.hok, rv, q⟩
  cases fl with
  | ret u =>
    obtain ⟨v, σ', H', J, rv, q⟩ := hs
    exact fin J rv q
  | next =>
    obtain ⟨σ', H', J, q⟩ := hs
    exact fin (v := V.non) (u := Value.none) J rfl q
  | brk =>
    obtain ⟨_, _, _, q⟩ := hs
    exact False.elim q
  | cont =>
    obtain ⟨_, _, _, q⟩ := hs
    exact False.elim q
end L2
namespace L2
open PySem PySem.Spec PyProof.Rows
section
variable {X : Cx} {x : Str} {p pos : Pos} {e : Expr} {es : List Expr} {t : TA} {id T : String} {r : List V → Hp → VK → Prop}
def tCB (r : List V → Hp → VK → Prop) (t : TA) : TE := fun σ H Q => t σ H fun vs H1 => r vs H1 Q
theorem pe_callB (hc : CallR X (.builtin id) r) (hg : Gl X x) (hm : X.mg x = none) (hv : bootBuiltins x = some (.builtin id)) (ha : PA X (e :: es) t) (hn : x ≠ "__name__" := by decide) (hdb : (x == ("__debug__" : Str)) = false := by decide)
    (he : starEach (e :: es) X.env = (false, eval e X.env) :: starEach es X.env := by rfl) (hpl : (backTo pos (starEach es X.env)).any (·.1) = false := by rfl) : PE X (.Call (.Name x p) (e :: es) [] pos) (tCB r t) := by
  intro pins s σ H Q I h
  refine wpAny_Call_Name_kw (ld_blt I hg hm hv ?_ hn hdb)
  exact PyProof.Rows.callWith_builtin1 (thn (ha pos pins s σ H _ I h) fun us s1 ⟨vs, H1, I1, r1, q1⟩ => hc pins s1 σ H1 vs us Q I1 r1 q1) he hpl
theorem pe_callTy (hc : CallR X (.type T) r) (hg : Gl X x) (hm : X.mg x = none) (hv : bootBuiltins x = some (.type T)) (ha : PA X (e :: es) t) (hn : x ≠ "__name__" := by decide) (hdb : (x == ("__debug__" : Str)) = false := by decide)
    (he : starEach (e :: es) X.env = (false, eval e X.env) :: starEach es X.env := by rfl) (hpl : (backTo pos (starEach es X.env)).any (·.1) = false := by rfl) : PE X (.Call (.Name x p) (e :: es) [] pos) (tCB r t) := by
  intro pins s σ H Q I h
  refine wpAny_Call_Name_kw (ld_blt I hg hm hv ?_ hn hdb)
  exact PyProof.Rows.callWith_type1 (thn (ha pos pins s σ H _ I h) fun us s1 ⟨vs, H1, I1, r1, q1⟩ => hc pins s1 σ H1 vs us Q I1 r1 q1) he hpl
end
end L2
namespace HT
open PySem PyProof.Rows
section
open PySem.SeqAt
open PySem.AutoSeq1 (wpAny_loadPart')
open PySem.MeetsSeq PySem.MeetsSeq2 PySem.MeetsSeq3
end
section
variable {prog : Program} {w : World} {A : Around} {E : Value → Shared → Prop} {s : Shared}
theorem cat_tup {t b : Addr} {vs ws : List Value} {Q : Value → Shared → Prop} (ht : IsTup s.heap t vs.toArray) (hb : IsTup s.heap b ws.toArray) (hv : vs ≠ [])
    (h1 : ws = [] → Q (.ref t) s) (h2 : ws ≠ [] → Q (.ref s.heap.objs.size) { s with heap := s.heap.push { cls := .type "tuple", data := .seq (vs ++ ws).toArray } })
    (hsz : vs.length + ws.length ≤ sizeLine) : wpAny (model prog w) A (binaryOp .Add (.ref t) (.ref b)) Q E s := by
  obtain ⟨⟨cls, dd, data, sl⟩, ho, hc, n, hd⟩ := id ht
  obtain ⟨⟨cls2, dd2, data2, sl2⟩, ho2, hc2, n2, hd2⟩ := id hb
  simp only at hc hd hc2 hd2
  subst hc hd hc2 hd2
  have e : vs.toArray ++ ws.toArray = (vs ++ ws).toArray := by simp
  by_cases hw : ws = []
  · exact concat_meets ⟨_, ho, rfl⟩ ⟨_, ho2, rfl⟩ noFill_tuple_add seq_tuple_add PySem.F.slot_tuple_add PySem.F.entry_tuple_add (PySem.F.args_tuple_add_2 _ _)
      (tuple_addW1 t b vs.toArray ws.toArray n n2 dd dd2 sl sl2 (by simpa using hv) (by simp [hw])) ⟨ho, ho2, h1 hw⟩
  · refine concat_meets ⟨_, ho, rfl⟩ ⟨_, ho2, rfl⟩ noFill_tuple_add seq_tuple_add PySem.F.slot_tuple_add PySem.F.entry_tuple_add (PySem.F.args_tuple_add_2 _ _)
      (tuple_addW2 t b vs.toArray ws.toArray n n2 dd dd2 sl sl2 (by simpa using hv) (by simpa using hw) (by rw [List.size_toArray, List.size_toArray]; exact hsz)) ⟨ho, ho2, ?_⟩
    rw [e]
    exact h2 hw
def sIx (n d : Nat) : Option Int → Nat
  | none => d
  | some v => if v < 0 then (v + (n : Int)).toNat else min v.toNat n
theorem sIx_le (n d : Nat) (hd : d ≤ n) (o : Option Int) : sIx n d o ≤ n := by
  cases o with
  | none => exact hd
  | some v =>
    show (if v < 0 then (v + (n : Int)).toNat else min v.toNat n) ≤ n
    by_cases hv : v < 0
    · rw [if_pos hv]; omega
    · rw [if_neg hv]; exact Nat.min_le_right _ _
theorem clip_eq (v : Int) (n d : Nat) : (if v < 0 then max (v + (n : Int)) 0 else min v (n : Int)) = ((sIx n d (some v) : Nat) : Int) := by
  show (if v < 0 then max (v + (n : Int)) 0 else min v (n : Int)) = (((if v < 0 then (v + (n : Int)).toNat else min v.toNat n) : Nat) : Int)
  by_cases hv : v < 0
  · simp only [if_pos hv]; omega
  · simp only [if_neg hv]; omega
theorem adjust_gen (lo hi : Option Int) (n : Nat) : Builtin.Slice.sliceAdjust lo hi 1 (n : Int) = (((sIx n 0 lo : Nat) : Int), ((sIx n n hi : Nat) : Int)) := by
  have h1 : ¬ ((1 : Int) < 0) := by omega
  unfold Builtin.Slice.sliceAdjust
  simp only [h1, if_false]
  refine Prod.ext ?_ ?_
  · cases lo with
    | none => rfl
    | some v => exact clip_eq v n 0
  · cases hi with
    | none => rfl
    | some v => exact clip_eq v n n
theorem places_gen (i j : Nat) : Builtin.Slice.slicePlaces (i : Int) (j : Int) 1 = j - i := by
  unfold Builtin.Slice.slicePlaces
  have h1 : (1 : Int) > 0 := by omega
  simp only [h1, if_true, Int.ediv_one]
  split <;> omega
theorem slicePart_ {v : Value} {o : Option Int} {Q : Option Int → Shared → Prop} (p : IsPart v o) (h : Q o s) : wpAny (model prog w) A (Builtin.Slice.slicePartIndex v) Q E s := by
  cases p with
  | none => exact slicePart_none h
  | int i t => exact slicePart_int h
theorem sliceApplied_gen {sl : Addr} {vl vu : Value} {lo hi : Option Int} {n : Nat} {Q : Int × Int × Nat → Shared → Prop} (hs : s.heap.IsSliceOf sl vl vu .none) (pl : IsPart vl lo) (pu : IsPart vu hi)
    (h : Q (((sIx n 0 lo : Nat) : Int), 1, sIx n n hi - sIx n 0 lo) s) : wpAny (model prog w) A (Builtin.Slice.sliceApplied (.ref sl) (pure (n : Int))) Q E s := by
  obtain ⟨os, hos, hcs, hds⟩ := id hs
  unfold Builtin.Slice.sliceApplied Builtin.Slice.sliceFields
  refine wpAny_bind (wpAny_bind (wpAny_field hos hds (x := vl) rfl (wpAny_bind (wpAny_field hos hds (x := vu) rfl (wpAny_bind (wpAny_field hos hds (x := .none) rfl (wpAny_pure ?_)))))))
  refine wpAny_bind (slicePart_none ?_)
  show wpAny _ _ (if ((1 : Int) == 0) = true then _ else _) _ _ s
  rw [if_neg (by decide)]
  refine wpAny_bind (slicePart_ pl (wpAny_bind (slicePart_ pu (wpAny_bind (wpAny_pure ?_)))))
  show wpAny _ _ (match Builtin.Slice.sliceAdjust lo hi 1 (n : Int) with | (lo, hi) => pure (lo, (1 : Int), Builtin.Slice.slicePlaces lo hi 1)) _ _ s
  rw [adjust_gen lo hi n]
  show wpAny _ _ (pure (((sIx n 0 lo : Nat) : Int), (1 : Int), Builtin.Slice.slicePlaces ((sIx n 0 lo : Nat) : Int) ((sIx n n hi : Nat) : Int) 1)) _ _ s
  rw [places_gen]
  exact wpAny_pure h
theorem pick_gen (xs : Array Value) (i k : Nat) : ((List.range k).filterMap fun (m : Nat) => xs[((i : Int) + (m : Int) * 1).toNat]?).toArray = ((xs.toList.drop i).take k).toArray := by
  have e : (fun (m : Nat) => xs[((i : Int) + (m : Int) * 1).toNat]?) = fun m => xs[i + m]? := by
    funext m
    have : ((i : Int) + (m : Int) * 1).toNat = i + m := by omega
    rw [this]
  rw [e]
  have := pick_run xs i k
  rw [List.filterMap_map] at this
  have e2 : ((fun x => xs[x]?) ∘ fun x => i + x) = fun m => xs[i + m]? := rfl
  rw [e2] at this
  rw [this]
theorem getItem_tuple_cut {t sl : Addr} {items : Array Value} {vl vu : Value} {lo hi : Option Int} {Q : Value → Shared → Prop} (ht : IsTup s.heap t items) (hs : s.heap.IsSliceOf sl vl vu .none) (pl : IsPart vl lo) (pu : IsPart vu hi)
    (hw : ¬ (sIx items.size 0 lo = 0 ∧ sIx items.size items.size hi = items.size))
    (h : Q (.ref s.heap.objs.size) { s with heap := s.heap.push { cls := .type "tuple", data := .seq ((items.toList.drop (sIx items.size 0 lo)).take (sIx items.size items.size hi - sIx items.size 0 lo)).toArray } })
    (hsz : items.size ≤ sizeLine) : wpAny (model prog w) A (getItem (.ref t) (.ref sl)) Q E s := by
  have htake : sizeOk (.seq ((items.toList.drop (sIx items.size 0 lo)).take (sIx items.size items.size hi - sIx items.size 0 lo)).toArray) := by
    show ((items.toList.drop (sIx items.size 0 lo)).take (sIx items.size items.size hi - sIx items.size 0 lo)).toArray.size ≤ sizeLine
    rw [List.size_toArray, List.length_take, List.length_drop, Array.length_toList]
    omega
  have hj : sIx items.size items.size hi ≤ items.size := sIx_le _ _ (Nat.le_refl _) hi
  obtain ⟨os, hos, hcs, hds⟩ := id hs
  have hTs : s.TypeIs (.ref sl) "slice" := ⟨os, hos, hcs⟩
  unfold getItem
  try with_reducible refine wpAny_holding ?_
  first | refine wpAny_bind (wpAny_pure ?_) | skip
  refine wpAny_bind (wpAny_sequenceKey ht.typeIs (by decide) ?_)
  refine wpAny_bind (wpAny_callSpecial?_slot (name := Str.ofString "__getitem__") ht.typeIs PyProof.Rows.slot_tuple_getitem
    (wpAny_call_entry PyProof.Rows.slot_tuple_getitem ht.typeIs entry_tuple_getitem ?_ (args_tuple_getitem _ _)))
  show wpAny _ _ (Builtin.Tuple.tupleItemsOf (.ref t) >>= _) _ _ s
  refine wpAny_bind (tupleItemsOf_ ht ?_)
  refine wpAny_bind (wpAny_typeOf hTs ?_)
  rw [if_pos (by decide)]
  refine wpAny_bind (sliceApplied_gen hs pl pu ?_)
  have hno : ¬ ((((sIx items.size 0 lo : Nat) : Int) == 0 && (1 : Int) == 1 && (sIx items.size items.size hi - sIx items.size 0 lo) == items.size) = true) := by
    intro q
    rw [Bool.and_eq_true, Bool.and_eq_true] at q
    have q1 : ((sIx items.size 0 lo : Nat) : Int) = 0 := eq_of_beq q.1.1
    have q2 : sIx items.size items.size hi - sIx items.size 0 lo = items.size := eq_of_beq q.2
    exact hw ⟨by omega, by omega⟩
  show wpAny _ _ (if (((sIx items.size 0 lo : Nat) : Int) == 0 && (1 : Int) == 1 && (sIx items.size items.size hi - sIx items.size 0 lo) == items.size) = true then _ else _) _ _ s
  rw [if_neg hno, pick_gen]
  first
    | exact wpAny_bind (m := Builtin.Tuple.tupleExact _) (wpAny_newObj_type (wpAny_pure ⟨_, rfl, wpAny_pure h⟩) htake)
    | exact wpAny_bind (m := Builtin.Tuple.tupleExact _) (wpAny_newObj_type (wpAny_bind (wpAny_pure (wpAny_pure ⟨_, rfl, wpAny_pure h⟩))) htake)
    | exact wpAny_bind (wpAny_bind (m := Builtin.Tuple.tupleExact _) (wpAny_newObj_type (wpAny_pure (wpAny_pure ⟨_, rfl, wpAny_pure h⟩)) htake))
    | exact wpAny_bind (wpAny_bind (m := Builtin.Tuple.tupleExact _) (wpAny_newObj_type (wpAny_pure ⟨_, rfl, wpAny_pure h⟩) htake))
end
end HT
namespace L2
open PySem PySem.Spec PyProof.Rows
abbrev TO := St → Hp → (Option Int → Hp → Prop) → Prop
def PO (X : Cx) (e : Option Expr) (t : TO) : Prop :=
  ∀ (pins : List (Addr × Obj)) (s : Shared) (σ : St) (H : Hp) (Q : Option Int → Hp → Prop), Inv X pins σ H s → t σ H Q →
    wpAny (model X.prog X.w) X.A (evalPart e X.env) (fun u s' => ∃ o H', Inv X pins σ H' s' ∧ IsPart u o ∧ Q o H') X.xe s
def tNoPart : TO := fun _ H Q => Q none H
def tPart (t : TE) : TO := fun σ H Q => t σ H fun x H1 => ∃ i, x = .int i ∧ Q (some i) H1
section
variable {X : Cx} {e : Expr} {te : TE} {lo hi : Option Expr} {tl th : TO} {pos p2 : Pos}
theorem po_none : PO X none tNoPart := by
  intro pins s σ H Q I h
  rw [evalPart_none]
  exact wpAny_pure ⟨none, H, I, .none, h⟩
theorem po_some (h : PE X e te) : PO X (some e) (tPart te) := by
  intro pins s σ H Q I hw
  rw [evalPart_some]
  refine thn (h pins s σ H _ I hw) fun u s1 ⟨x, H1, I1, r1, q1⟩ => ?_
  obtain ⟨i, rfl, q⟩ := q1
  obtain ⟨t, rfl⟩ := r1
  exact ⟨some i, H1, I1, .int i t, q⟩
def SlR (X : Cx) (r : V → Option Int → Option Int → Hp → VK → Prop) : Prop :=
  ∀ (pins : List (Addr × Obj)) (s : Shared) (σ : St) (H : Hp) (x : V) (v vl vu : Value) (lo hi : Option Int) (sl : Addr) (Q : VK), Inv X pins σ H s → RelV x v → s.heap.IsSliceOf sl vl vu .none → IsPart vl lo → IsPart vu hi → r x lo hi H Q →
    ∃ T id, typeLookup (.type T) "__getitem__" = pure (some (.builtin id)) ∧ s.TypeIs v T ∧ wpAny (model X.prog X.w) X.A (getItem v (.ref sl)) (EP X pins σ Q) X.xe s
theorem SlR.or {r r' : V → Option Int → Option Int → Hp → VK → Prop} (h : SlR X r) (h' : SlR X r') : SlR X (fun x lo hi H Q => r x lo hi H Q ∨ r' x lo hi H Q) := by
  intro pins s σ H x v vl vu lo hi sl Q I rx hs pl pu q
  rcases q with q | q
  · exact h pins s σ H x v vl vu lo hi sl Q I rx hs pl pu q
  · exact h' pins s σ H x v vl vu lo hi sl Q I rx hs pl pu q
def tSl (r : V → Option Int → Option Int → Hp → VK → Prop) (te : TE) (tl th : TO) : TE := fun σ H Q => te σ H fun x H1 => tl σ H1 fun l H2 => th σ H2 fun u H3 => r x l u H3 Q
theorem pe_slice {r : V → Option Int → Option Int → Hp → VK → Prop} (hr : SlR X r) (he : PE X e te) (hl : PO X lo tl) (hu : PO X hi th) : PE X (.Subscript e (.Slice lo hi none p2) pos) (tSl r te tl th) := by
  intro pins s σ H Q I h
  refine Subscript_ (thn (he pins s σ H _ I h) fun v s1 ⟨x, H1, I1, r1, q1⟩ => ?_)
  refine wpAny_Slice (thn (hl pins s1 σ H1 _ I1 q1) fun vl s2 ⟨l, H2, I2, pl, q2⟩ => thn (hu pins s2 σ H2 _ I2 q2) fun vu s3 ⟨u, H3, I3, pu, q3⟩ => ?_)
  rw [evalPart_none]
  refine wpAny_pure ?_
  have I4 : Inv X pins σ H3 { s3 with heap := s3.heap.push { cls := .type "slice", data := .fields #[vl, vu, .none] } } := I3.kept (t' := s3.toks) fun b ob q => Heap.get?_push_of_some _ q
  obtain ⟨T, id, hT, ht, hg⟩ := hr pins { s3 with heap := s3.heap.push { cls := .type "slice", data := .fields #[vl, vu, .none] } } σ H3 x v vl vu l u s3.heap.objs.size Q I4 r1 (Heap.IsSliceOf.new ..) pl pu q3
  show wpAny (model X.prog X.w) X.A (subscriptTail e (.Slice lo hi none p2) v (.ref s3.heap.objs.size)) (EP X pins σ Q) X.xe { s3 with heap := s3.heap.push { cls := .type "slice", data := .fields #[vl, vu, .none] } }
  exact tail_any (ops := [.ref s3.heap.objs.size, v]) ht hT hg (by with_unfolding_all rfl)
def cutV (xs : List V) (lo hi : Option Int) : List V := (xs.drop (HT.sIx xs.length 0 lo)).take (HT.sIx xs.length xs.length hi - HT.sIx xs.length 0 lo)
theorem cutV_length (xs : List V) (lo hi : Option Int) : (cutV xs lo hi).length ≤ xs.length := by
  unfold cutV
  rw [List.length_take, List.length_drop]
  omega
def rSlT (K : PySem.W.Frag) : V → Option Int → Option Int → Hp → VK → Prop := fun x lo hi H Q => ∃ a xs, x = .ref a ∧ SqT K H a xs ∧
  ¬ (HT.sIx xs.length 0 lo = 0 ∧ HT.sIx xs.length xs.length hi = xs.length) ∧ ∀ p, H p = none → Q (.ref p) (upd H p (.tup (cutV xs lo hi)))
theorem sl_tup : SlR X (rSlT X.K) := by
  intro pins s σ H x v vl vu lo hi sl Q I rx hs pl pu h
  obtain ⟨a, xs, rfl, hx, hw, q⟩ := h
  cases rx
  obtain ⟨its, r, ht, hz⟩ := I.tuple hx
  have hlen : its.toArray.size = xs.length := by rw [List.size_toArray]; exact r.length.symm
  refine ⟨"tuple", _, PyProof.Rows.slot_tuple_getitem.lookup, ht.typeIs, ?_⟩
  refine HT.getItem_tuple_cut ht hs pl pu (by rw [hlen]; exact hw) ?_ (by rw [hlen]; exact hz)
  rw [hlen]
  refine ⟨.ref s.heap.objs.size, _, I.laid (t' := s.toks) (o := .tup (cutV xs lo hi)) (fun b ob q => Heap.get?_push_of_some _ q) (Nat.le_refl _) ?_, rfl, q _ (I.hok.fresh (Nat.le_refl _))⟩
  exact ⟨Nat.le_trans (cutV_length xs lo hi) hz, _, (r.drop (HT.sIx xs.length 0 lo)).take (HT.sIx xs.length xs.length hi - HT.sIx xs.length 0 lo), IsTup.new _ _⟩
def rCatT (K : PySem.W.Frag) : R2 := fun x y H Q => ∃ a b xs ys, x = .ref a ∧ y = .ref b ∧ SqT K H a xs ∧ SqT K H b ys ∧ xs ≠ [] ∧ xs.length + ys.length ≤ sizeLine ∧
  (ys = [] → Q (.ref a) H) ∧ (ys ≠ [] → ∀ p, H p = none → Q (.ref p) (upd H p (.tup (xs ++ ys))))
theorem Vals.nil_iff {xs : List V} {us : List Value} (r : Vals xs us) : us = [] ↔ xs = [] := by
  cases r with
  | nil => simp
  | cons _ _ => simp
theorem op_catT : OpR X (binaryOp .Add) (rCatT X.K) := by
  intro pins s σ H x y v u Q I rx ry h
  obtain ⟨a, b, xs, ys, rfl, rfl, ha, hb, hx, hz, q1, q2⟩ := h
  cases rx
  cases ry
  obtain ⟨its, r1, p1, _⟩ := I.tuple ha
  obtain ⟨its2, r2, p2, _⟩ := I.tuple hb
  refine HT.cat_tup p1 p2 (fun z => hx (r1.nil_iff.mp z)) (fun z => ⟨.ref a, H, I, rfl, q1 (r2.nil_iff.mp z)⟩) (fun z => ?_) (by rw [← r1.length, ← r2.length]; exact hz)
  refine ⟨.ref s.heap.objs.size, _, I.laid (t' := s.toks) (o := .tup (xs ++ ys)) (fun b ob q => Heap.get?_push_of_some _ q) (Nat.le_refl _) ?_, rfl, q2 (fun w => z (r2.nil_iff.mpr w)) _ (I.hok.fresh (Nat.le_refl _))⟩
  exact ⟨by rw [List.length_append]; exact hz, _, r1.append r2, IsTup.new _ _⟩
end
end L2
namespace L2
open PySem PySem.Spec PyProof.Rows
def ixN (n : Nat) (i : Int) : Option Nat := if 0 ≤ i then (if i < n then some i.toNat else none) else if -(n : Int) ≤ i then some (i + n).toNat else none
def atI {α : Type} (xs : List α) (i : Int) : Option α := (ixN xs.length i).bind fun j => xs[j]?
theorem ixN_seq {n : Nat} {i : Int} {j : Nat} (h : ixN n i = some j) : seqIndex? i n = some j ∧ j < n ∧ -(n : Int) ≤ i ∧ i < n := by
  unfold ixN at h
  by_cases h0 : 0 ≤ i
  · rw [if_pos h0] at h
    by_cases h1 : i < n
    · rw [if_pos h1] at h
      have e : i.toNat = j := Option.some.inj h
      exact ⟨by rw [seqIndex_of h0 h1, e], by omega, by omega, h1⟩
    · rw [if_neg h1] at h; cases h
  · rw [if_neg h0] at h
    by_cases h1 : -(n : Int) ≤ i
    · rw [if_pos h1] at h
      have e : (i + n).toNat = j := Option.some.inj h
      exact ⟨by rw [seqIndex_neg (by omega) h1, e], by omega, h1, by omega⟩
    · rw [if_neg h1] at h; cases h
theorem atI_get {α : Type} {xs : List α} {i : Int} {v : α} (h : atI xs i = some v) : ∃ j, seqIndex? i xs.length = some j ∧ xs[j]? = some v ∧ j < xs.length ∧ -(xs.length : Int) ≤ i ∧ i < xs.length := by
  unfold atI at h
  cases e : ixN xs.length i with
  | none => rw [e] at h; cases h
  | some j =>
    rw [e] at h
    obtain ⟨h1, h2, h3, h4⟩ := ixN_seq e
    exact ⟨j, h1, h, h2, h3, h4⟩
def PlainIx (b : Expr) : Prop := ∀ o i, subscripted b false o i = operate [o, i] (getItem o i)
def IxR (X : Cx) (r : R2) : Prop :=
  ∀ (value slice : Expr) (pins : List (Addr × Obj)) (s : Shared) (σ : St) (H : Hp) (x y : V) (v u : Value) (Q : VK), Inv X pins σ H s → RelV x v → RelV y u → r x y H Q →
    subscripted slice false v u = operate [v, u] (getItem v u) → wpAny (model X.prog X.w) X.A (subscriptTail value slice v u) (EP X pins σ Q) X.xe s
def MtR (X : Cx) (id : String) (r : V → List V → Hp → VK → Prop) : Prop :=
  ∀ (pins : List (Addr × Obj)) (s : Shared) (σ : St) (H : Hp) (x : V) (xs : List V) (v : Value) (us : List Value) (Q : VK), Inv X pins σ H s → RelV x v → Vals xs us → r x xs H Q →
    wpAny (model X.prog X.w) X.A (call (.builtin id) (v :: us)) (EP X pins σ Q) X.xe s
section
variable {X : Cx} {a b : Expr} {ta tb : TE} {pos : Pos}
theorem IxR.or {r r' : R2} (h : IxR X r) (h' : IxR X r') : IxR X (fun x y H Q => r x y H Q ∨ r' x y H Q) := by
  intro value slice pins s σ H x y v u Q I rx ry q hs
  rcases q with q | q
  · exact h value slice pins s σ H x y v u Q I rx ry q hs
  · exact h' value slice pins s σ H x y v u Q I rx ry q hs
theorem MtR.or {id : String} {r r' : V → List V → Hp → VK → Prop} (h : MtR X id r) (h' : MtR X id r') : MtR X id (fun x xs H Q => r x xs H Q ∨ r' x xs H Q) := by
  intro pins s σ H x xs v us Q I rx rs q
  rcases q with q | q
  · exact h pins s σ H x xs v us Q I rx rs q
  · exact h' pins s σ H x xs v us Q I rx rs q
theorem pe_ix {r : R2} (hr : IxR X r) (ha : PE X a ta) (hb : PE X b tb) (hs : PlainIx b) : PE X (.Subscript a b pos) (tOp r ta tb) := by
  intro pins s σ H Q I h
  exact Subscript_ (binT ha hb I h fun v u s2 x y H2 I2 rx ry q => hr a b pins s2 σ H2 x y v u Q I2 rx ry q (hs _ _))
def rIxL (K : PySem.W.Frag) : R2 := fun x y H Q => ∃ p xs i v, x = .ref p ∧ y = .int i ∧ SqL K H p xs ∧ atI xs i = some v ∧ Q v H
def rIxT (K : PySem.W.Frag) : R2 := fun x y H Q => ∃ p xs i v, x = .ref p ∧ y = .int i ∧ SqT K H p xs ∧ atI xs i = some v ∧ Q v H
theorem ix_list : IxR X (rIxL X.K) := by
  intro value slice pins s σ H x y v u Q I rx ry h hs
  obtain ⟨p, xs, i, z, rfl, rfl, hq, he, q⟩ := h
  cases rx
  obtain ⟨t, rfl⟩ := ry
  obtain ⟨its, r, pl, hz⟩ := I.list hq
  obtain ⟨j, h1, h2, h3, h4, h5⟩ := atI_get he
  obtain ⟨w, ew, rw'⟩ := r.get h2
  have hl := r.length
  have hn := line63
  have fin : EP X pins σ Q w s := ⟨z, H, I, rw', q⟩
  by_cases h0 : 0 ≤ i
  · have hj : i.toNat = j := by
      rw [seqIndex_of h0 h5] at h1
      exact Option.some.inj h1
    exact item_listR pl.isList h0 (by omega) (by rw [hj]; simpa using ew) fin hs
  · have hj : (i + (its.toArray.size : Int)).toNat = j := by
      rw [seqIndex_neg (by omega) h4] at h1
      rw [List.size_toArray, ← hl]
      exact Option.some.inj h1
    exact subscriptTail_builtinR (x := w) pl.isList.typeIs slot_list_getitem.lookup
      (wpAny_getItem_list_neg (Q := fun r s' => r = w ∧ EP X pins σ Q r s') pl.isList (by omega) (by rw [List.size_toArray] <;> omega) (by omega) (by rw [hj]; simpa using ew) ⟨rfl, fin⟩) hs
theorem ix_tup : IxR X (rIxT X.K) := by
  intro value slice pins s σ H x y v u Q I rx ry h hs
  obtain ⟨p, xs, i, z, rfl, rfl, hq, he, q⟩ := h
  cases rx
  obtain ⟨t, rfl⟩ := ry
  obtain ⟨its, r, pl, hz⟩ := I.tuple hq
  obtain ⟨j, h1, h2, h3, h4, h5⟩ := atI_get he
  obtain ⟨w, ew, rw'⟩ := r.get h2
  have hl := r.length
  have hn := line63
  have fin : EP X pins σ Q w s := ⟨z, H, I, rw', q⟩
  exact subscriptTail_builtinR (x := w) pl.typeIs slot_tuple_getitem.lookup
    (getItem_tuple (j := j) (Q := fun r s' => r = w ∧ EP X pins σ Q r s') pl (by omega) (by omega) (by rw [List.size_toArray, ← hl]; exact h1) (by simpa using ew) ⟨rfl, fin⟩) hs
theorem mapSeq_set (its : List Value) (n j : Nat) (u : Value) : Obj.mapSeq (·.setIfInBounds j u) { cls := .type "list", data := .seq its.toArray n } = { cls := .type "list", data := .seq (its.set j u).toArray n } := by
  simp [Obj.mapSeq]
theorem Inv.lst {pins : List (Addr × Obj)} {σ : St} {H : Hp} {s : Shared} {p : Addr} {xs : List V} (I : Inv X pins σ H s) (h : H p = some (.lst xs)) :
    ∃ (its : List Value) (n : Nat), Vals xs its ∧ s.heap.get? p = some { cls := .type "list", data := .seq its.toArray n } ∧ xs.length ≤ sizeLine := by
  obtain ⟨z, its, n, r, e⟩ := I.hok p _ h
  exact ⟨its, n, r, e, z⟩
theorem Inv.lstUpd {pins : List (Addr × Obj)} {σ : St} {H : Hp} {s : Shared} {p : Addr} {xs ys : List V} {its its' : List Value} {n n' : Nat} {f : Obj → Obj} (I : Inv X pins σ H s) (h : H p = some (.lst xs))
    (ho : s.heap.get? p = some { cls := .type "list", data := .seq its.toArray n }) (hf : f { cls := .type "list", data := .seq its.toArray n } = { cls := .type "list", data := .seq its'.toArray n' }) (r : Vals ys its') (hz : ys.length ≤ sizeLine) (t : Nat) :
    Inv X pins σ (upd H p (.lst ys)) { s with heap := s.heap.update p f, toks := t } := by
  have e : (s.heap.update p f).get? p = some { cls := .type "list", data := .seq its'.toArray n' } := by
    rw [Heap.get?_update_self f ho (by rw [hf] <;> rfl), hf]
  refine I.write (x := p) (e := p) (by rw [h]; trivial) (.inl rfl) (fun b u hb q => (Heap.get?_update_other _ _ (Ne.symm hb)).trans q) ⟨_, e⟩ ?_
  exact ⟨hz, its', n', r, e⟩
def rSetL : V → V → V → Hp → (Hp → Prop) → Prop := fun o i v H Q => ∃ p xs k j, o = .ref p ∧ i = .int k ∧ H p = some (.lst xs) ∧ ixN xs.length k = some j ∧ Q (upd H p (.lst (xs.set j v)))
theorem set_list : PSet X rSetL := by
  intro pins s σ H o i v ov iv u Q I ro ri rv h
  obtain ⟨p, xs, k, j, rfl, rfl, hp, hj, q⟩ := h
  cases ro
  obtain ⟨t, rfl⟩ := ri
  obtain ⟨its, n, r, ho, hz⟩ := I.lst hp
  obtain ⟨h1, h2, h3, h4⟩ := ixN_seq hj
  have hl := r.length
  have hn := line63
  have I' : Inv X pins σ (upd H p (.lst (xs.set j v))) { s with heap := s.heap.update p (Obj.mapSeq (·.setIfInBounds j u)) } :=
    I.lstUpd hp ho (mapSeq_set its n j u) (r.set rv j) (by rw [List.length_set]; exact hz) s.toks
  by_cases h0 : 0 ≤ k
  · have hk : k.toNat = j := by
      rw [seqIndex_of h0 h4] at h1
      exact Option.some.inj h1
    exact PySem.W.ki_setAt ho h0 (by omega) (by rw [List.size_toArray, ← hl]; exact h4) (by rw [hk]; exact ⟨_, I', q⟩)
  · have hk : (k + (its.toArray.size : Int)).toNat = j := by
      rw [seqIndex_neg (by omega) h3] at h1
      rw [List.size_toArray, ← hl]
      exact Option.some.inj h1
    exact PySem.W.ki_setBack ho (by omega) (by rw [List.size_toArray, ← hl]; exact h3) (by omega) (by rw [hk]; exact ⟨_, I', q⟩)
theorem slice_bounds (lo hi : Option Int) (n : Nat) : (sliceBounds lo hi none n).1 = ((HT.sIx n 0 lo : Nat) : Int) ∧ (sliceBounds lo hi none n).2.1 = ((HT.sIx n n hi : Nat) : Int) ∧ (sliceBounds lo hi none n).2.2 = 1 := by
  refine ⟨?_, ?_, rfl⟩
  · cases lo with
    | none => simp [sliceBounds, HT.sIx]
    | some i =>
      simp only [sliceBounds, HT.sIx, Option.getD_none, show (1 : Int) > 0 by decide, if_true]
      by_cases h : i < 0
      · simp only [h, if_true] <;> omega
      · simp only [h, if_false] <;> omega
  · cases hi with
    | none => simp [sliceBounds, HT.sIx]
    | some i =>
      simp only [sliceBounds, HT.sIx, Option.getD_none, show (1 : Int) > 0 by decide, if_true]
      by_cases h : i < 0
      · simp only [h, if_true] <;> omega
      · simp only [h, if_false] <;> omega
theorem slicePick_cut (its : List Value) (lo hi : Option Int) : slicePick its.toArray lo hi none = ((its.drop (HT.sIx its.length 0 lo)).take (HT.sIx its.length its.length hi - HT.sIx its.length 0 lo)).toArray := by
  obtain ⟨h1, h2, h3⟩ := slice_bounds lo hi its.toArray.size
  unfold slicePick
  rw [h1, h2, h3]
  simp only [sliceRange_one, pick_run, List.size_toArray] <;> rfl
def rSlL (K : PySem.W.Frag) : V → Option Int → Option Int → Hp → VK → Prop := fun x lo hi H Q => ∃ a xs, x = .ref a ∧ SqL K H a xs ∧ ∀ p, H p = none → Q (.ref p) (upd H p (.lst (cutV xs lo hi)))
theorem sl_list : SlR X (rSlL X.K) := by
  intro pins s σ H x v vl vu lo hi sl Q I rx hs pl pu h
  obtain ⟨a, xs, rfl, hx, q⟩ := h
  cases rx
  obtain ⟨its, r, ht, hz⟩ := I.list hx
  have hlen := r.length
  refine ⟨"list", _, slot_list_getitem.lookup, ht.isList.typeIs, ?_⟩
  refine wpAny_getItem_list_slice ht.isList hs pl pu .none (by simp) ?_ (by rw [List.size_toArray] <;> omega)
  rw [slicePick_cut, ← hlen]
  refine ⟨.ref s.heap.objs.size, _, I.laid (t' := s.toks) (o := .lst (cutV xs lo hi)) (fun b ob q => Heap.get?_push_of_some _ q) (Nat.le_refl _) ?_, rfl, q _ (I.hok.fresh (Nat.le_refl _))⟩
  exact ⟨Nat.le_trans (cutV_length xs lo hi) hz, _, 0, (r.drop (HT.sIx xs.length 0 lo)).take (HT.sIx xs.length xs.length hi - HT.sIx xs.length 0 lo), Heap.get?_push_size _ rfl⟩
def flatV : V → Bool
  | .non => true
  | .bl _ => true
  | .int _ => true
  | .str _ => true
  | _ => false
def eqV : V → V → Bool
  | .non, .non => true
  | .bl a, .bl b => a == b
  | .bl a, .int b => (if a then 1 else 0) == b
  | .int a, .bl b => a == (if b then 1 else 0)
  | .int a, .int b => a == b
  | .str a, .str b => a == b
  | _, _ => false
theorem eqAt_V {A : Around} {s : Shared} {y x : V} {u v : Value} (ry : RelV y u) (rx : RelV x v) (fy : flatV y = true) (fx : flatV x = true) : SeqAt.EqAt A s u v (eqV y x) := by
  cases y with
  | non =>
    cases ry
    cases x with
    | non => cases rx; exact SeqAt.EqAt.same _
    | bl b => cases rx; exact SeqAt.EqAt.none_bool b
    | int b => obtain ⟨t, rfl⟩ := rx; exact SeqAt.EqAt.none_int b t
    | str b => obtain ⟨t, rfl⟩ := rx; exact SeqAt.EqAt.none_str b t
    | _ => exact absurd (show false = true from fx) Bool.false_ne_true
  | bl a =>
    cases ry
    cases x with
    | non => cases rx; exact SeqAt.EqAt.bool_none a
    | bl b => cases rx; exact SeqAt.EqAt.bool_bool a b
    | int b => obtain ⟨t, rfl⟩ := rx; exact SeqAt.EqAt.bool_int a b t
    | str b => obtain ⟨t, rfl⟩ := rx; exact SeqAt.EqAt.bool_str a b t
    | _ => exact absurd (show false = true from fx) Bool.false_ne_true
  | int a =>
    obtain ⟨t', rfl⟩ := ry
    cases x with
    | non => cases rx; exact SeqAt.EqAt.int_none a t'
    | bl b => cases rx; exact SeqAt.EqAt.int_bool a t' b
    | int b => obtain ⟨t, rfl⟩ := rx; exact SeqAt.EqAt.int_int a t' b t
    | str b => obtain ⟨t, rfl⟩ := rx; exact SeqAt.EqAt.int_str a t' b t
    | _ => exact absurd (show false = true from fx) Bool.false_ne_true
  | str a =>
    obtain ⟨t', rfl⟩ := ry
    cases x with
    | non => cases rx; exact SeqAt.EqAt.str_none a t'
    | bl b => cases rx; exact SeqAt.EqAt.str_bool a t' b
    | int b => obtain ⟨t, rfl⟩ := rx; exact SeqAt.EqAt.str_int a t' b t
    | str b => obtain ⟨t, rfl⟩ := rx; exact SeqAt.EqAt.str_str a t' b t
    | _ => exact absurd (show false = true from fx) Bool.false_ne_true
  | _ => exact absurd (show false = true from fy) Bool.false_ne_true
theorem call_len_seq : CallR X (.builtin "len") (fun xs H Q => ∃ p ys, xs = [.ref p] ∧ (SqL X.K H p ys ∨ SqT X.K H p ys) ∧ Q (.int ys.length) H) := by
  intro pins s σ H xs us Q I r h
  obtain ⟨p, ys, rfl, hq, q⟩ := h
  obtain ⟨u, rfl, rx⟩ := vals1 r
  cases rx
  have hn := line63
  rcases hq with hq | hq
  · obtain ⟨its, r', pl, hz⟩ := I.list hq
    have hlen := r'.length
    exact Calls.call_len_list pl.isList (by simp only [List.size_toArray] <;> omega) ⟨.int ys.length, H, I.tok _, ⟨s.toks + 1, by rw [List.size_toArray, hlen]⟩, q⟩
  · obtain ⟨its, r', pl, hz⟩ := I.tuple hq
    have hlen := r'.length
    exact len_tuple pl (by simp only [List.size_toArray] <;> omega) ⟨.int ys.length, H, I.tok _, ⟨s.toks + 1, by rw [List.size_toArray, hlen]⟩, q⟩
theorem CallR.or {f : Value} {r r' : List V → Hp → VK → Prop} (h : CallR X f r) (h' : CallR X f r') : CallR X f (fun xs H Q => r xs H Q ∨ r' xs H Q) := by
  intro pins s σ H xs us Q I rs q
  rcases q with q | q
  · exact h pins s σ H xs us Q I rs q
  · exact h' pins s σ H xs us Q I rs q
theorem call_list_of : CallR X (.type "list") (fun xs H Q => ∃ p ys, xs = [.ref p] ∧ (SqL X.K H p ys ∨ SqT X.K H p ys) ∧ ∀ l, H l = none → Q (.ref l) (upd H l (.lst ys))) := by
  intro pins s σ H xs us Q I r h
  obtain ⟨p, ys, rfl, hq, q⟩ := h
  obtain ⟨u, rfl, rx⟩ := vals1 r
  cases rx
  have fin : ∀ (its : List Value), Vals ys its → ys.length ≤ sizeLine → ∀ (h' : Heap) (c' : Nat), (∀ b o', s.heap.get? b = some o' → h'.get? b = some o') →
      h'.get? s.heap.objs.size = some { cls := .type "list", dict := none, data := .seq its.toArray c', slots := #[] } → EP X pins σ Q (.ref s.heap.objs.size) { s with heap := h' } := fun its r' hz h' c' kp e =>
    ⟨.ref s.heap.objs.size, _, I.laid (t' := s.toks) kp (Nat.le_refl _) (show ObjOk X.prog X.w _ h' _ (.lst ys) from ⟨hz, its, c', r', e⟩), rfl, q _ (I.hok.fresh (Nat.le_refl _))⟩
  rcases hq with hq | hq
  · obtain ⟨its, r', pl, hz⟩ := I.list hq
    have hlen := r'.length
    obtain ⟨o, ho, hc, n, hd⟩ := pl.isList
    exact call_list_seq p (.inl rfl) ho hc hd (fun h' c' kp e => fin its r' hz h' c' kp e) (by simp only [List.size_toArray] <;> omega)
  · obtain ⟨its, r', pl, hz⟩ := I.tuple hq
    have hlen := r'.length
    obtain ⟨o, ho, hc, n, hd⟩ := pl
    exact call_list_seq p (.inr rfl) ho hc hd (fun h' c' kp e => fin its r' hz h' c' kp e) (by simp only [List.size_toArray] <;> omega)
theorem call_tuple_of : CallR X (.type "tuple") (fun xs H Q => ∃ p ys, xs = [.ref p] ∧ ((SqL X.K H p ys ∧ ∀ l, H l = none → Q (.ref l) (upd H l (.tup ys))) ∨ (SqT X.K H p ys ∧ Q (.ref p) H))) := by
  intro pins s σ H xs us Q I r h
  obtain ⟨p, ys, rfl, h⟩ := h
  obtain ⟨u, rfl, rx⟩ := vals1 r
  cases rx
  rcases h with ⟨hq, q⟩ | ⟨hq, q⟩
  · obtain ⟨its, r', pl, hz⟩ := I.list hq
    have hlen := r'.length
    refine call_tuple_list pl.isList (fun h' kp => ?_) (by simp only [List.size_toArray] <;> omega)
    have I1 : Inv X pins σ H { s with heap := h' } := I.kept (t' := s.toks) kp
    have I2 : Inv X pins σ (upd H h'.objs.size (.tup ys)) { s with heap := h'.push { cls := .type "tuple", data := .seq its.toArray } } :=
      I1.laid (t' := s.toks) (fun b o e => Heap.get?_push_of_some _ e) (Nat.le_refl _) (show ObjOk X.prog X.w _ _ _ (.tup ys) from ⟨hz, its, r', IsTup.new _ _⟩)
    exact ⟨.ref h'.objs.size, _, I2, rfl, q _ (I1.hok.fresh (Nat.le_refl _))⟩
  · obtain ⟨its, r', pl, hz⟩ := I.tuple hq
    exact call_tuple_same pl ⟨.ref p, H, I, rfl, q⟩
def tyV (K : PySem.W.Frag) (T : String) (x : V) (H : Hp) : Prop := match x with
  | .str _ => T = "str"
  | .int _ => T = "int"
  | .ref p => (T = "list" ∧ ∃ xs, SqL K H p xs) ∨ (T = "tuple" ∧ ∃ o, K.lookup p = some o ∧ o.cls = .type "tuple" ∧ o.dict = none) ∨
      (T = "dict" ∧ ((∃ kvs, H p = some (.dK kvs)) ∨ ∃ kvs, H p = some (.dT kvs))) ∨ (T = "set" ∧ ∃ S n, H p = some (.set S n))
  | _ => False
theorem tyV_is {pins : List (Addr × Obj)} {σ : St} {H : Hp} {s : Shared} {T : String} {x : V} {v : Value} (I : Inv X pins σ H s) (r : RelV x v) (ty : tyV X.K T x H) :
    s.TypeIs v T ∧ ∀ a, v = .ref a → ∃ ob, s.heap.get? a = some ob ∧ ob.dict = none := by
  cases x with
  | str z =>
    obtain ⟨t, rfl⟩ := r
    cases (show T = "str" from ty)
    exact ⟨typeIs_str s z t, fun _ e => nomatch e⟩
  | int i =>
    obtain ⟨t, rfl⟩ := r
    cases (show T = "int" from ty)
    exact ⟨typeIs_int s i t, fun _ e => nomatch e⟩
  | ref p =>
    cases r
    rcases ty with ⟨rfl, xs, hq⟩ | ⟨rfl, o, hk, hc, hd⟩ | ⟨rfl, hk⟩ | ⟨rfl, S, n, hk⟩
    · obtain ⟨its, _, pl, _⟩ := I.list hq
      refine ⟨pl.isList.typeIs, fun a e => ?_⟩
      cases e
      obtain ⟨o, n, e, c, hd, _⟩ := pl
      exact ⟨o, e, hd⟩
    · refine ⟨⟨o, I.kIn p o hk, hc⟩, fun a e => ?_⟩
      cases e
      exact ⟨o, I.kIn _ o hk, hd⟩
    · have z : ∃ o, s.heap.get? p = some o ∧ o.ExactDict := by
        rcases hk with ⟨kvs, hk⟩ | ⟨kvs, hk⟩
        · obtain ⟨_, _, _, _, o, _, _, e, ex, _⟩ := I.hok p _ hk
          exact ⟨o, e, ex⟩
        · obtain ⟨_, _, _, _, o, _, _, e, ex, _⟩ := I.hok p _ hk
          exact ⟨o, e, ex⟩
      obtain ⟨o, e, ex⟩ := z
      refine ⟨⟨o, e, ex.1⟩, fun a e2 => ?_⟩
      cases e2
      exact ⟨o, e, ex.2.1⟩
    · obtain ⟨o, _, _, _, e, ex, _⟩ := I.hok p _ hk
      refine ⟨⟨o, e, ex.1⟩, fun a e2 => ?_⟩
      cases e2
      exact ⟨o, e, ex.2.1⟩
  | _ => exact False.elim ty
def tBM (K : PySem.W.Frag) (T : String) (r : V → List V → Hp → VK → Prop) (to : TE) (t : TA) : TE := fun σ H Q => to σ H fun x H1 => tyV K T x H1 ∧ t σ H1 fun xs H2 => r x xs H2 Q
variable {o e : Expr} {es : List Expr} {to : TE} {t : TA} {name : Str} {apos cpos : Pos} {T id : String} {r : V → List V → Hp → VK → Prop}
theorem pe_bm (pa : PlainAttrs T) (slot : Slot T name id) (hty : typeOf (.builtin id) = pure (.type "method_descriptor")) (hm : MtR X id r) (ho : PE X o to) (ha : PA X (e :: es) t)
    (hbase : attributeBase o name X.env (eval o X.env) = eval o X.env := by rfl)
    (hfew : ((backTo cpos (starEach (e :: es) X.env)).all (fun x => !x.1) && (backToKw cpos (keywordEach [] X.env)).all (fun x => x.1.isSome)
      && decide ((e :: es).length + ([] : List Keyword).length + (if ([] : List Keyword).isEmpty then 0 else 1) < 30)) = true := by rfl)
    (hline : (apos.endLine == cpos.line) = true := by rfl) (hs : starEach (e :: es) X.env = (false, eval e X.env) :: starEach es X.env := by rfl) (hplain : (backTo cpos (starEach es X.env)).any (·.1) = false := by rfl) :
    PE X (.Call (.Attribute o name apos) (e :: es) [] cpos) (tBM X.K T r to t) := by
  intro pins s σ H Q I h
  refine wpAny_Call_method_late hbase hfew hline rfl (thn (ho pins s σ H _ I h) fun v s1 ⟨x, H1, I1, r1, ty, q1⟩ => ?_)
  obtain ⟨h1, h2⟩ := tyV_is I1 r1 ty
  refine ⟨T, id, pa, slot, hty, h1, h2, ?_⟩
  have hA := ha cpos pins s1 σ H1 _ I1 q1
  rw [hs] at hA ⊢
  refine Calls.callWith_builtin (by show (false || (backTo cpos (starEach es X.env)).any (·.1)) = false; rw [hplain] <;> rfl) (Calls.evalArgs_plain ?_)
  exact thn hA fun us s2 ⟨vs, H2, I2, r2, q2⟩ => hm pins s2 σ H2 x vs v us Q I2 r1 r2 q2
end
end L2
namespace L2
open PySem PySem.Spec PyProof.Rows
def MtM (X : Cx) (id : String) (r : V → List V → Hp → VK → Prop) : Prop :=
  ∀ (pins : List (Addr × Obj)) (s : Shared) (σ : St) (H : Hp) (x : V) (xs : List V) (v : Value) (us : List Value) (Q : VK), Inv X pins σ H s → RelV x v → Vals xs us → r x xs H Q →
    wpAny (model X.prog X.w) X.A (call (.builtin id) (v :: us)) (EP X pins σ Q) X.xe s
theorem Vals.one : ∀ {x : V} {us : List Value}, Vals [x] us → ∃ u, us = [u] ∧ RelV x u
  | _, _, .cons r .nil => ⟨_, rfl, r⟩
theorem Vals.zero : ∀ {us : List Value}, Vals [] us → us = []
  | _, .nil => rfl
theorem Vals.eraseIdx : ∀ {xs : List V} {us : List Value} (i : Nat), Vals xs us → Vals (xs.eraseIdx i) (us.eraseIdx i)
  | _, _, _, .nil => .nil
  | _, _, 0, .cons _ t => t
  | _, _, i + 1, .cons r t => .cons r (Vals.eraseIdx i t)
theorem Vals.reverse {xs : List V} {us : List Value} (h : Vals xs us) : Vals xs.reverse us.reverse := by
  induction h with
  | nil => exact .nil
  | cons r t ih => rw [List.reverse_cons, List.reverse_cons]; exact Vals.append ih (.cons r .nil)
theorem Vals.rep {xs : List V} {us : List Value} (h : Vals xs us) : ∀ k : Nat, Vals (List.replicate k xs).flatten (List.replicate k us).flatten
  | 0 => .nil
  | k + 1 => by
    rw [List.replicate_succ, List.replicate_succ, List.flatten_cons, List.flatten_cons]
    exact Vals.append h (Vals.rep h k)
theorem len_erase {α : Type} : ∀ (l : List α) (i : Nat), (l.eraseIdx i).length ≤ l.length
  | [], _ => Nat.le_refl _
  | _ :: _, 0 => Nat.le_succ _
  | _ :: r, i + 1 => Nat.succ_le_succ (len_erase r i)
section
variable {X : Cx} {pins : List (Addr × Obj)} {σ : St} {H : Hp} {s : Shared} {l b : Addr} {xs ys zs : List V}
theorem Inv.lset {its its' : List Value} {n : Nat} {f : Array Value → Array Value} {t' : Nat} (I : Inv X pins σ H s) (hH : H l = some (.lst xs))
    (e : s.heap.get? l = some { cls := .type "list", data := .seq its.toArray n }) (hf : f its.toArray = its'.toArray) (hv : Vals ys its') (hz : ys.length ≤ sizeLine) :
    Inv X pins σ (upd H l (.lst ys)) { s with heap := s.heap.update l (Obj.mapSeq f), toks := t' } := by
  have q := PySem.IsL.update e f
  rw [hf] at q
  refine I.write (x := l) (e := l) (by rw [hH]; exact trivial) (.inl rfl) (fun b' u hb hu => (Heap.get?_update_other s.heap (Obj.mapSeq f) (Ne.symm hb)).trans hu) ⟨_, q⟩ ?_
  exact ⟨hz, its', _, hv, q⟩
theorem Inv.lnew {its : List Value} {t' : Nat} (I : Inv X pins σ H s) (hv : Vals ys its) (hz : ys.length ≤ sizeLine) :
    Inv X pins σ (upd H s.heap.objs.size (.lst ys)) { s with heap := s.heap.push { cls := .type "list", data := .seq its.toArray }, toks := t' } :=
  I.laid (fun _ _ q => Heap.get?_push_of_some _ q) (Nat.le_refl _) ⟨hz, its, 0, hv, Heap.get?_push_size _ rfl⟩
theorem Inv.fresh (I : Inv X pins σ H s) : H s.heap.objs.size = none := I.hok.fresh (Nat.le_refl _)
theorem Inv.lstM (I : Inv X pins σ H s) (hH : H l = some (.lst xs)) : xs.length ≤ sizeLine ∧ ∃ (its : List Value) (n : Nat), Vals xs its ∧ xs.length = its.length ∧ s.heap.get? l = some { cls := .type "list", data := .seq its.toArray n } := by
  obtain ⟨z, its, n, r, e⟩ := I.hok l _ hH
  exact ⟨z, its, n, r, r.length, e⟩
end
section
variable {X : Cx}
def rAppend : V → List V → Hp → VK → Prop := fun x vs H Q => ∃ l xs y, x = .ref l ∧ vs = [y] ∧ H l = some (.lst xs) ∧ xs.length < sizeLine ∧ Q .non (upd H l (.lst (xs ++ [y])))
theorem mt_append : MtM X "list.append" rAppend := by
  intro pins s σ H x vs v us Q I rx rv h
  obtain ⟨l, xs, y, rfl, rfl, hH, hz, q⟩ := h
  cases rx
  obtain ⟨u, rfl, ru⟩ := rv.one
  obtain ⟨z, its, n, r, hl, e⟩ := I.lstM hH
  refine call_meets F.slot_list_append ⟨_, e, rfl⟩ F.entry_list_append (F.args_list_append_2 _ _) (PySem.list_append l its.toArray n u (by rw [List.size_toArray]; omega)) ⟨e, ?_⟩
  refine ⟨.non, _, I.lset (its' := its ++ [u]) hH e (by simp) (r.append (.cons ru .nil)) ?_, rfl, q⟩
  rw [List.length_append, List.length_singleton]
  omega
def rPopAt : V → List V → Hp → VK → Prop := fun x vs H Q => ∃ l xs i k y, x = .ref l ∧ vs = [.int i] ∧ H l = some (.lst xs) ∧ -(2 ^ 63) ≤ i ∧ i < 2 ^ 63 ∧ seqIndex? i xs.length = some k ∧ xs[k]? = some y ∧ Q y (upd H l (.lst (xs.eraseIdx k)))
theorem mt_popAt : MtM X "list.pop" rPopAt := by
  intro pins s σ H x vs v us Q I rx rv h
  obtain ⟨l, xs, i, k, y, rfl, rfl, hH, h1, h2, hk, hy, q⟩ := h
  cases rx
  obtain ⟨u, rfl, ru⟩ := rv.one
  obtain ⟨t, rfl⟩ := ru
  obtain ⟨z, its, n, r, hl, e⟩ := I.lstM hH
  obtain ⟨w, hw, rw'⟩ := r.get hy
  refine call_meets F.slot_list_pop ⟨_, e, rfl⟩ F.entry_list_pop (F.args_list_pop_2 _ _)
    (MeetsSeq.list_pop_at l its.toArray n i t k w (fitsIndex_both h1 h2) (by rw [List.size_toArray, ← hl]; exact hk) (by rw [← Array.getElem?_toList]; exact hw) (by rw [List.size_toArray]; omega)) ⟨e, ?_⟩
  refine ⟨y, _, I.lset (its' := its.eraseIdx k) hH e ?_ (r.eraseIdx k) ?_, rw', q⟩
  · show its.toArray.eraseIdxIfInBounds k = (its.eraseIdx k).toArray
    rw [List.eraseIdxIfInBounds_toArray]
  · have := len_erase xs k
    omega
end
section
variable {prog : Program} {w : World} {A : Around} {E : Value → Shared → Prop} {s : Shared}
end
section
variable {X : Cx}
end
end L2
namespace Att
open PySem PySem.W PySem.Calls PyProof.Rows
theorem ints_of_wellAll {P : Params} {h : Heap} : ∀ (ns : List Int) (vs : List Value), WellAll P h vs (ns.map WData.int) → IntsAre vs ns := by
  intro ns
  induction ns with
  | nil =>
    intro vs w
    rw [List.map_nil] at w
    cases w
    exact .nil
  | cons n ns ih =>
    intro vs w
    rw [List.map_cons] at w
    cases w with
    | cons a b =>
      cases a
      exact .cons _ _ (ih _ b)
theorem script_of {l : OpenLaw} {n : Nat} (hn : l.most = some n) {P : Params} {h : Heap} {args : List WData} {vals : List Value}
    (hpre : l.row.toRowW.claim.pre args = true) (hwl : WellAll P h vals args) :
    ∃ a vs ns, vals = [Value.ref a] ∧ args = [WData.list (ns.map WData.int)] ∧ h.get? a = some { cls := .type "list", data := .seq vs.toArray } ∧ IntsAre vs ns ∧ ns.length ≤ n := by
  have hsh : WShape.hasAll [] args [.list .int] = true := (pre_splitW hpre).1
  have hc : l.pre.holds [] { args := args } = true := (pre_splitW hpre).2
  obtain ⟨d, r, rfl, h1, h2⟩ := hasAllW_cons hsh
  obtain rfl := hasAllW_nil h2
  obtain ⟨xs, rfl, h3⟩ := hasW_list h1
  obtain ⟨ns, rfl⟩ := items_int h3
  have hlen : ns.length ≤ n := by
    unfold OpenLaw.pre at hc
    have h4 : (WTm.not (.lt (.lit (.int (n : Int))) (.len (.arg 0)))).holds [] { args := [.list (ns.map .int)] } = true := by
      have h4 := (holds_andW hc).1
      rw [hn] at h4
      exact h4
    have h5 := condW_of h4 (w_not (w_lt w_lit (w_len_list (w_arg rfl))))
    rw [List.length_map] at h5
    refine Nat.le_of_not_lt fun q => ?_
    have q' : (n : Int) < ((ns.length : Nat) : Int) := by omega
    first
      | (rw [decide_eq_true q'] at h5; exact absurd h5 (by decide))
      | (simp at h5; omega)
  cases hwl with
  | cons w1 w2 =>
    cases w2
    cases w1 with
    | list ho hall => exact ⟨_, _, ns, rfl, rfl, ho, ints_of_wellAll ns _ hall, hlen⟩
theorem post_true (l : OpenLaw) (args : List WData) : l.row.toRowW.claim.post args (.bool true) args = true :=
  postW_of (r := l.row.toRowW) (X := (true == true))
    (show WShape.has [] (.bool true) .bool = true by first | rfl | decide | simp [WShape.has, WShape.arms, WShape.armsAll])
    (show (WTm.eq .res (.lit (.bool true))).value [] { args := args, res := some (.bool true), after := args } = some (.bool (true == true)) from w_eq_bool (w_res rfl) w_lit) rfl
theorem attach_call {l : OpenLaw} {n : Nat} {q : Program} {loose : List Str} {XP : (Str → Option Value) → Heap → Prop} {YP : World → Heap → Prop} {d : DefRec}
    (hn : l.most = some n) (hdf : d.params.defaults = [])
    (call : ∀ (w : World) (s₀ s₁ : Shared) (mg mb : Str → Option Value) (fa : Addr) (o : Obj) (pm cd doc : Value) (a : Addr) (vs : List Value) (ns : List Int),
      Ground q loose [] XP w s₀ mg mb s₁.heap → YP w s₁.heap →
      s₁.heap.get? fa = some o → o.data = .func (docDef d.name d.params d.body d.scope pm cd doc) → s₁.heap.CodeRec cd d.name → mg d.name = some (.ref fa) →
      s₁.heap.get? a = some { cls := .type "list", data := .seq vs.toArray } → IntsAre vs ns → ns.length ≤ n → s₁.gens = #[] →
      codeAny (model l.prog w) callerA (.call (.ref fa) ⟨[.ref a], []⟩) (fun r s' => r = .ok (.ret (.bool true)) ∧ OldK s₁.heap s'.heap ∧ s'.os = s₁.os ∧ AllBare s'.gens) s₁) :
    WalkO q loose XP YP l.row.toRowW d [] (fun f vs => PySem.call f vs) := by
  intro w s₀ s₁ mg mb G Y fa o pm cd doc dV kV ho hd hcd hD hmg hg args vals as hpre hlay hrd hwl hlo
  obtain rfl : dV = .none := Dflts.none hD hdf
  obtain rfl : kV = .none := Dflts.noKw hD
  obtain ⟨a, vs, ns, rfl, rfl, hobj, hints, hlen⟩ := script_of hn hpre hwl
  refine enter_call (codeAny_mono (call w s₀ s₁ mg mb fa o pm cd doc a vs ns G Y ho (fd_plain hd) hcd hmg hobj hints hlen hg) fun r s' hq => ?_)
  obtain ⟨rfl, h2, h3, h4⟩ := hq
  exact ⟨.inl ⟨.bool true, .bool true, [], rfl, fun _ => rfl, .bool true, post_true l _, fun _ => ⟨List.Pairwise.nil, fun _ hm => (nomatch hm)⟩⟩, h2, h3, h4⟩
section
variable {prog : Program} {w : World} {A : Around} {E : Value → Shared → Prop} {s : Shared} {K : Frag}
end
end Att
namespace L2
open PySem PySem.Spec PyProof.Rows
theorem vals_ints : ∀ {vs : List Value} {ns : List Int}, IntsAre vs ns → Vals (ns.map V.int) vs
  | _, _, .nil => .nil
  | _, _, .cons n t h => .cons ⟨t, rfl⟩ (vals_ints h)
def Only (H : Hp) : Prop := ∀ b, H b = none ∨ ∃ o xs, H b = some (.frz o (.lst xs))
theorem law_call {P : Program} {w : World} {K : PySem.W.Frag} {mg mb : Str → Option Value} {CX : CXT} {k : Nat} {fa a : Addr} {fd : FuncData} {x : Str} {sp : Sp} {s₁ : Shared} {vs : List Value} {ns : List Int}
    (KX : K.In s₁.heap) (hns : s₁.heap.Ns mainGlobals mg) (hb : s₁.heap.Ns builtinsNs mb) (hbb : ∀ x : Str, x ≠ "__name__" → mb x = bootBuiltins x) (hlim : s₁.heap.NoLimit) (hg : s₁.gens = #[])
    (ha : s₁.heap.get? a = some { cls := .type "list", data := .seq vs.toArray }) (hi : IntsAre vs ns) (hl : ns.length ≤ sizeLine) (hr : Room k callerA)
    (F : ∀ base : Heap, K.In base → base.Ns mainGlobals mg → FnOk P w K mg base CX k fa fd [x] sp) (hbind : ∀ (s : Shared) (u : Value), BindsTo s fd ⟨[u], []⟩ [(x, u)])
    (hsp : ∀ H : Hp, Only H → SqL K H a (ns.map V.int) → sp [.ref a] H (fun v _ => v = .bl true) fun _ _ _ => False)
    (hCX : ∀ H e s', CX [] H s₁ (fun _ _ _ => False) e s' → False) :
    codeAny (model P w) callerA (.call (.ref fa) ⟨[.ref a], []⟩) (fun r s' => r = .ok (.ret (.bool true)) ∧ OldK s₁.heap s'.heap ∧ s'.os = s₁.os ∧ AllBare s'.gens) s₁ := by
  have rv := vals_ints hi
  have lenV := hi.length
  have core : ∀ H : Hp, Only H → SqL K H a (ns.map V.int) → HOk P w H s₁.heap → (∀ b, H b ≠ none → b = a) → (H a ≠ none → K.lookup a = none) →
      codeAny (model P w) callerA (.call (.ref fa) ⟨[.ref a], []⟩) (fun r s' => r = .ok (.ret (.bool true)) ∧ OldK s₁.heap s'.heap ∧ s'.os = s₁.os ∧ AllBare s'.gens) s₁ := by
    intro H hO hS hok hA hK
    have base_of : ∀ {b : Addr} {o : Obj}, s₁.heap.get? b = some o → H b = none → (hidT s₁.heap H).get? b = some o := fun e n => hidT_get e n
    have noA : ∀ {b : Addr} {o : Obj} {es : Array DictEntry} {ep : Nat}, s₁.heap.get? b = some o → o.data = .dict es ep → H b = none := fun {b o es ep} e d => by
      cases q : H b with
      | none => rfl
      | some u =>
        have e' : b = a := hA b (by rw [q]; simp)
        subst e'
        rw [ha] at e; cases e
        have d' : Data.seq vs.toArray _ = Data.dict es ep := d
        cases d'
    have nsK : ∀ {b : Addr} {m : Str → Option Value}, s₁.heap.Ns b m → (hidT s₁.heap H).Ns b m := fun {b m} ⟨o, es, ep, e, d, r⟩ => ⟨o, es, ep, base_of e (noA e d), d, r⟩
    have hKb : K.In (hidT s₁.heap H) := fun b o e => base_of (KX b o e) (by
      cases q : H b with
      | none => rfl
      | some u =>
        have e' : b = a := hA b (by rw [q]; simp)
        subst e'
        rw [hK (by rw [q]; simp)] at e; cases e)
    have hM : Mod K mg (hidT s₁.heap H) := ⟨hKb, nsK hns, ⟨mb, nsK hb, hbb⟩, let ⟨mc, h1, h2⟩ := hlim; ⟨mc, nsK h1, h2⟩⟩
    have e0 : Env0 P w K mg (hidT s₁.heap H) callerA [] s₁ H := ⟨rfl, hM, fun b o e => of_hidT e, Nat.le_of_eq (hidT_size _ _), trivial, fun b hb => absurd (show b ∈ ([] : List Addr) from hb) (by simp), hok, .of_eq hg⟩
    refine codeAny_mono ((F _ hKb (nsK hns)).run callerA [] s₁ H ⟨[.ref a], []⟩ [.ref a] [.ref a] _ _ hr e0 (hbind s₁ (.ref a)) (.cons rfl .nil) (hsp H hO hS)) fun r s' h => ?_
    cases r with
    | error e => exact (hCX H e s' h).elim
    | ok fl =>
      cases fl with
      | next => exact False.elim h
      | brk => exact False.elim h
      | cont => exact False.elim h
      | ret u =>
        obtain ⟨v, H', os, bare, un, hok', r', q⟩ := h
        have q' : v = .bl true := q
        subst q'
        obtain rfl : u = Value.bool true := r'
        refine ⟨rfl, OldK.of_keep fun b o e => ?_, os, bare⟩
        cases q : H b with
        | none => exact un.keep b o e q (by intro z; exact absurd (show b ∈ ([] : List Addr) from z) (by simp)) (by simp)
        | some u =>
          rcases hO b with z | ⟨ob, xs, z⟩
          · rw [q] at z; cases z
          · have z2 := un.frzs b ob _ z
            obtain ⟨e1, _⟩ := hok b _ z
            obtain ⟨e2, _⟩ := hok' b _ z2
            rw [e] at e1; cases e1
            exact e2
  cases hk : K.lookup a with
  | some o =>
    have e := KX a o hk
    rw [ha] at e
    cases e
    refine core (fun _ => none) (fun _ => .inl rfl) (.inr ⟨_, vs.toArray, _, hk, rfl, rfl, rfl, by rw [List.size_toArray, lenV]; exact hl, by simpa using rv⟩) (fun b u z => by have z' : (none : Option HO) = some u := z; cases z') (fun b z => absurd rfl z) fun z => absurd rfl z
  | none =>
    refine core (fun b => if b = a then some (.frz { cls := .type "list", data := .seq vs.toArray } (.lst (ns.map V.int))) else none) (fun b => ?_) (.inl (.inr ⟨{ cls := .type "list", data := .seq vs.toArray }, if_pos rfl⟩)) (fun b u z => ?_) (fun b z => ?_) fun _ => hk
    · by_cases hb : b = a
      · exact .inr ⟨_, _, if_pos hb⟩
      · exact .inl (if_neg hb)
    · by_cases hb : b = a
      · have z' := (if_pos hb).symm.trans z
        cases z'
        subst hb
        exact ⟨ha, by rw [List.length_map]; exact hl, vs, _, rv, ha⟩
      · have z' := (if_neg hb).symm.trans z
        cases z'
    · by_cases hb : b = a
      · exact hb
      · exact absurd (if_neg hb) z
end L2
namespace L2
open PySem PySem.Spec PyProof.Rows
theorem walk_of {l : PySem.W.OpenLaw} {n k : Nat} {q : Program} {loose : List Str} {XP : (Str → Option Value) → Heap → Prop} {YP : World → Heap → Prop} {d : DefRec} {K : Params → PySem.W.Frag} {CX : World → CXT} {sp : World → Sp} {x : Str}
    (hn : l.most = some n) (hn2 : n ≤ sizeLine) (hdf : d.params.defaults = []) (hr : Room k callerA)
    (hY : ∀ (w : World) (h : Heap), YP w h → (K w.params).In h)
    (F : ∀ (w : World) (mg : Str → Option Value) (fa : Addr) (h : Heap), (K w.params).In h → h.Ns mainGlobals mg → mg d.name = some (.ref fa) →
      ∃ fd : FuncData, (∀ (s : Shared) (u : Value), BindsTo s fd ⟨[u], []⟩ [(x, u)]) ∧
        ∀ base : Heap, (K w.params).In base → base.Ns mainGlobals mg → FnOk l.prog w (K w.params) mg base (CX w) k fa fd [x] (sp w))
    (hsp : ∀ (w : World) (H : Hp) (a : Addr) (ns : List Int), ns.length ≤ n → Only H → SqL (K w.params) H a (ns.map V.int) → sp w [.ref a] H (fun v _ => v = .bl true) fun _ _ _ => False)
    (hCX : ∀ (w : World) (H : Hp) (s : Shared) (e : Value) (s' : Shared), CX w [] H s (fun _ _ _ => False) e s' → False) :
    PySem.W.WalkO q loose XP YP l.row.toRowW d [] (fun f vs => PySem.call f vs) := by
  refine Att.attach_call hn hdf fun w s₀ s₁ mg mb fa o pm cd doc a vs ns G Y ho hd hcd hmg hobj hints hlen hg => ?_
  have KX := hY w _ Y
  obtain ⟨fd, hb, hF⟩ := F w mg fa _ KX G.T.g hmg
  exact law_call KX G.T.g G.T.b G.T.builtins G.T.nolimit hg hobj hints (Nat.le_trans hlen hn2) hr hF hb (fun H hO hS => hsp w H a ns hlen hO hS) fun H e s' => hCX w H s₁ e s'
end L2
namespace L2
open PySem PySem.Spec PyProof.Rows
def defArgs (s : Stmt) : Arguments := match s with
  | .FunctionDef _ a _ _ _ _ _ _ _ _ => a
  | _ => { posonlyargs := [], args := [], vararg := none, kwonlyargs := [], kw_defaults := [], kwarg := none, defaults := [] }
def defBody (s : Stmt) : List Stmt := match s with
  | .FunctionDef _ _ b _ _ _ _ _ _ _ => b
  | _ => []
def defScope (s : Stmt) : Scope := match s with
  | .FunctionDef _ _ _ _ _ _ sc _ _ _ => sc
  | _ => { kind := .function, names := [], isGenerator := false, isCoroutine := false }
abbrev CX0 : CXT := fun _ _ _ _ _ _ => False
abbrev E0 : XK := fun _ _ _ => False
theorem pass0 {X : Cx} : Passes CX0 X E0 := fun _ _ _ _ _ _ _ h => h.elim
structure Fun (K : PySem.W.Frag) (x qual : Str) (st : Stmt) (f : Addr) (fd : FuncData) : Prop where
  ex : ∃ (oc : Value) (od : Option Addr) (kV doc pm : Value) (an : Option Addr) (cdv ct : Value) (osl : Array (Option Value)),
    fd = PySem.W.fnOf x qual (defArgs st) (defBody st) (defScope st) .none kV doc pm an cdv ct ∧ K.lookup f = some ⟨oc, od, .func fd, osl⟩ ∧ PySem.W.codeIn K cdv qual = true
  kp : PySem.W.keepIn K (.ref f) = true
section
variable {P : Program} {w : World} {K : PySem.W.Frag} {mg : Str → Option Value} {base : Heap}
theorem Fun.ok {x qual : Str} {st : Stmt} {f : Addr} {fd : FuncData} {N ps : List Str} {k : Nat} {sp : Sp} (F : Fun K x qual st f fd) (S : FnScope N ps (defScope st)) (len : ∀ vs H Q E, sp vs H Q E → vs.length = ps.length)
    (hbody : ∀ (cdv : Value) (A : Around) (outer : List Env) (s : Shared) (H : Hp) (vs : List V) (Q : VK) (E : XK), Room k (A.deeper (envOfC qual (defScope st) s.heap.objs.size f cdv)) → sp vs H Q E →
      ∃ t, PSs (cxOf CX0 P w K mg base N qual (defScope st) f cdv A outer s H E).nox (defBody st) t ∧ t { nx := fun _ H' => Q .non H', rt := Q } (start N vs) H) : FnOk P w K mg base CX0 (k + 1) f fd ps sp := by
  obtain ⟨oc, od, kV, doc, pm, an, cdv, ct, osl, rfl, lk, hcd⟩ := F.ex
  refine fn_of lk hcd S len fun A outer s H vs Q E hr hsp => ?_
  obtain ⟨t, h, q⟩ := hbody cdv A outer s H vs Q E hr hsp
  exact ⟨t, h.nox, q⟩
theorem Fun.binds {x qual : Str} {st : Stmt} {f : Addr} {fd : FuncData} {ps : List Str} (F : Fun K x qual st f fd)
    (h : ∀ (kV doc pm : Value) (an : Option Addr) (cdv ct : Value) (us : List Value), us.length = ps.length → bindArgs (PySem.W.fnOf x qual (defArgs st) (defBody st) (defScope st) .none kV doc pm an cdv ct) ⟨us, []⟩ = pure (ps.zip us)) : Binds K fd ps [] := by
  obtain ⟨oc, od, kV, doc, pm, an, cdv, ct, osl, rfl, lk, hcd⟩ := F.ex
  exact .all (h kV doc pm an cdv ct)
theorem fun_mk {x qual : Str} {st : Stmt} {f : Addr} {oc : Value} {od an : Option Addr} {osl : Array (Option Value)} {kV doc pm cdv ct : Value} (l : K.lookup f = some ⟨oc, od, .func (PySem.W.fnOf x qual (defArgs st) (defBody st) (defScope st) .none kV doc pm an cdv ct), osl⟩)
    (c : PySem.W.codeIn K cdv qual = true) (k : PySem.W.keepIn K (.ref f) = true) : Fun K x qual st f (PySem.W.fnOf x qual (defArgs st) (defBody st) (defScope st) .none kV doc pm an cdv ct) := ⟨⟨oc, od, kV, doc, pm, an, cdv, ct, osl, rfl, l, c⟩, k⟩
end
section
variable {X : Cx}
end
theorem iteF {A B : Prop} (h : B) : if false = true then A else B := by
  rw [if_neg Bool.false_ne_true]
  exact h
theorem iteT {A B : Prop} (h : A) : if true = true then A else B := by
  rw [if_pos rfl]
  exact h
def Same (H H' : Hp) : Prop := ∀ b o, H b = some o → H' b = some o
theorem Same.refl (H : Hp) : Same H H := fun _ _ h => h
theorem Same.trans {H H1 H2 : Hp} (a : Same H H1) (b : Same H1 H2) : Same H H2 := fun c o h => b c o (a c o h)
theorem Same.free {H H' : Hp} (e : Same H H') {l : Addr} (h : H' l = Option.none) : H l = Option.none := by
  cases q : H l with
  | none => rfl
  | some o =>
    rw [e l o q] at h
    cases h
theorem Same.seq {K : PySem.W.Frag} {H H' : Hp} {a : Addr} {xs : List V} (e : Same H H') (h : SqL K H a xs) : SqL K H' a xs := by
  rcases h with (h | ⟨o, h⟩) | h
  · exact .inl (.inl (e _ _ h))
  · exact .inl (.inr ⟨o, e _ _ h⟩)
  · exact .inr h
end L2
set_option Elab.async false
set_option linter.all false
set_option maxRecDepth 100000
set_option maxHeartbeats 4000000
namespace L2
open PySem PySem.Spec PyProof.Rows
theorem closure_go (env : Env) : ∀ (l : List (Str × NameKind)) (cs : List (Str × Addr)), (∀ x ∈ l, x.2 = .free → ∃ c, env.cells.lookup x.1 = some c) → (∀ x c, cs.lookup x = some c → env.cells.lookup x = some c) →
    ∃ cl, (forIn l cs fun x r => if x.2 == NameKind.free then do let a ← cellOf env x.1; pure (ForInStep.yield ((x.1, a) :: r)) else pure (ForInStep.yield r)) = (pure cl : Sem (List (Str × Addr))) ∧
      (∀ x c, cl.lookup x = some c → env.cells.lookup x = some c) ∧ (∀ x, (x, NameKind.free) ∈ l → ∃ c, cl.lookup x = some c) ∧ ∀ x c, cs.lookup x = some c → ∃ c, cl.lookup x = some c
  | [], cs, _, hc => ⟨cs, rfl, hc, fun x h => by simp at h, fun x c h => ⟨c, h⟩⟩
  | (n, k) :: l, cs, h, hc => by
    by_cases hk : k = .free
    · subst hk
      obtain ⟨c, e⟩ := h (n, .free) List.mem_cons_self rfl
      have e' : env.cells.lookup n = some c := e
      obtain ⟨cl, h1, h2, h3, h4⟩ := closure_go env l ((n, c) :: cs) (fun x hx => h x (List.mem_cons_of_mem _ hx)) (fun x d hx => by
        rw [List.lookup_cons] at hx
        cases hb : x == n with
        | true => rw [hb] at hx; have := eq_of_beq hb; subst this; cases hx; exact e'
        | false => rw [hb] at hx; exact hc x d hx)
      refine ⟨cl, ?_, h2, fun x hx => ?_, fun x d hx => ?_⟩
      · rw [List.forIn_cons]
        have : cellOf env n = pure c := by unfold cellOf; rw [e']
        simp only [this, pure_bind, beq_self_eq_true, if_true]
        exact h1
      · rcases List.mem_cons.mp hx with z | z
        · cases z
          exact h4 n c (by simp [List.lookup_cons])
        · exact h3 x z
      · cases hb : x == n with
        | true => have := eq_of_beq hb; subst this; exact h4 x c (by simp [List.lookup_cons])
        | false => exact h4 x d (by rw [List.lookup_cons, hb]; exact hx)
    · obtain ⟨cl, h1, h2, h3, h4⟩ := closure_go env l cs (fun x hx => h x (List.mem_cons_of_mem _ hx)) hc
      have hb : (k == NameKind.free) = false := by simpa using hk
      refine ⟨cl, ?_, h2, fun x hx => ?_, h4⟩
      · rw [List.forIn_cons]
        simp only [hb, Bool.false_eq_true, if_false, pure_bind]
        exact h1
      · rcases List.mem_cons.mp hx with z | z
        · cases z; exact absurd rfl hk
        · exact h3 x z
theorem closure_ok (env : Env) (scope : Scope) (h : ∀ x ∈ scope.names, x.2 = .free → ∃ c, env.cells.lookup x.1 = some c) :
    ∃ cl, closureFor scope env = pure cl ∧ (∀ x c, cl.lookup x = some c → env.cells.lookup x = some c) ∧ ∀ x, (x, NameKind.free) ∈ scope.names → ∃ c, cl.lookup x = some c := by
  obtain ⟨cl, h1, h2, h3, _⟩ := closure_go env scope.names [] h (fun x c hx => by simp at hx)
  refine ⟨cl, ?_, h2, h3⟩
  unfold closureFor
  have : (forIn scope.names ([] : List (Str × Addr)) fun x r => if x.2 == NameKind.free then do let a ← cellOf env x.1; pure (ForInStep.yield ((x.1, a) :: r)) else pure (ForInStep.yield r)) = (pure cl : Sem (List (Str × Addr))) := h1
  first
    | exact (congrArg (· >>= fun r => pure r) this).trans (pure_bind _ _)
    | (simp only [bind_pure]; exact this)
    | exact this
end L2
set_option Elab.async false
set_option linter.all false
set_option maxRecDepth 100000
set_option maxHeartbeats 4000000
namespace L2
open PySem PySem.Spec PyProof.Rows
def Cx.comp (X : Cx) (N' : List Str) (scope : Scope) (cl : List (Str × Addr)) (C : Addr) (s3 : Shared) (H3 : Hp) (fp : List Addr) (pins : List (Addr × Obj)) : Cx :=
  { X with N := N', s₀ := s3, H₀ := H3, env := compEnvC scope cl C X.env, outer := X.stack, stack := X.stack, ex := fp, fn := fun _ => false, pn := X.pn ++ pins, xe := fun _ _ => False }
abbrev TB := St → Hp → (St → Hp → Prop) → Prop
def PB (X : Cx) (code : Sem Unit) (t : TB) : Prop :=
  ∀ (pins : List (Addr × Obj)) (s : Shared) (σ : St) (H : Hp) (N : St → Hp → Prop), Inv X pins σ H s → t σ H N →
    wpAny (model X.prog X.w) X.A code (fun _ s' => ∃ σ' H', Inv X pins σ' H' s' ∧ N σ' H') X.xe s
def PIf (X : Cx) (ifs : List Expr) (t : TT) : Prop :=
  ∀ (pins : List (Addr × Obj)) (s : Shared) (σ : St) (H : Hp) (Q : Bool → Hp → Prop), Inv X pins σ H s → t σ H Q →
    wpAny (model X.prog X.w) X.A (forIn ifs true fun c r => if r = true then do let ok ← isTrue c X.env (eval c X.env); pure (ForInStep.yield ok) else pure (ForInStep.yield r)) (TP X pins σ Q) X.xe s
def tTrue : TT := fun _ H Q => Q true H
section
variable {X : Cx}
theorem pif_nil : PIf X [] tTrue := fun pins s σ H Q I h => wpAny_tests_nil ⟨H, I, h⟩
def compBody (e : Expr) (depth : Nat) (acc : Value) (env : Env) : Sem Unit :=
  match (clausesOf e)[depth + 1]? with
  | some g' => do
    let x ← eval g'.iter env
    standAt g'.iter.pos
    let x ← foldedSetIterable g'.iter env x
    let _ ← runOwn (.compStart e (depth + 1) (← holding [x] (pyIter x)) acc env) env
  | none => match e with
    | .ListComp elt _ _ _ => do let _ ← call (.builtin "list.append") [acc, ← eval elt env]
    | .SetComp elt _ _ _ => do let v ← eval elt env; standAt elt.pos; let _ ← call (.builtin "set.add") [acc, v]
    | _ => unsupported "no"
def tLoop (J : It) (g : TG) (ti : TT) (tb : TB) : TB := fun σ H N => ∃ W : Nat → Nat → St → Hp → Prop, (∃ m, W 0 m σ H) ∧ ∀ i m σ H, W i m σ H →
  (J.stop i H ∧ N σ H) ∨ (J.go i H ∧ ∀ x H', J.yld i H x H' → g x σ H' fun σ2 H2 => ti σ2 H2 fun b H3 => if b = true then tb σ2 H3 fun σ4 H4 => ∃ m', m' < m ∧ W (i + 1) m' σ4 H4 else ∃ m', m' < m ∧ W (i + 1) m' σ2 H3)
theorem compTurn_gen (e : Expr) (depth : Nat) (it acc : Value) (env : Env) (g : Comprehension) (hl : (∃ elt gens sc p, e = .ListComp elt gens sc p) ∨ (∃ elt gens sc p, e = .SetComp elt gens sc p))
    (hg : (clausesOf e)[depth]? = some g) (ha : g.is_async = 0) (ha' : ∀ g', (clausesOf e)[depth + 1]? = some g' → g'.is_async = 0) :
    compTurn e depth it acc env = (do
      standAt g.iter.pos
      match ← pyNext it with
      | none => pure (.done .next)
      | some v =>
        letOwnedTupleGo g.target it v
        assign g.target env v
        let ok ← forIn g.ifs true fun c r => if r = true then do let ok ← isTrue c env (eval c env); pure (ForInStep.yield ok) else pure (ForInStep.yield r)
        if ok = true then compBody e depth acc env
        again (.compLoop e depth it acc env)) := by
  rcases hl with ⟨elt, gens, sc, p, rfl⟩ | ⟨elt, gens, sc, p, rfl⟩
  · have hg1 : gens[depth]? = some g := hg
    unfold compTurn compBody
    simp only [clausesOf] at hg ha' ⊢
    rw [hg1]
    simp only [ha]
    cases hn : gens[depth + 1]? with
    | none => rfl
    | some g' =>
      have := ha' g' hn
      simp only [this, bne_self_eq_false, Bool.false_eq_true, if_false]
      congr 1; funext _; congr 1; funext r
      cases r with
      | none => rfl
      | some v =>
        dsimp only
        congr 1; funext _; congr 1; funext _; congr 1; funext ok
        cases ok with
        | false => rfl
        | true => simp only [if_true, bind_assoc]; rfl
  · have hg1 : gens[depth]? = some g := hg
    unfold compTurn compBody
    simp only [clausesOf] at hg ha' ⊢
    rw [hg1]
    simp only [ha]
    cases hn : gens[depth + 1]? with
    | none => rfl
    | some g' =>
      have := ha' g' hn
      simp only [this, bne_self_eq_false, Bool.false_eq_true, if_false]
      congr 1; funext _; congr 1; funext r
      cases r with
      | none => rfl
      | some v =>
        dsimp only
        congr 1; funext _; congr 1; funext _; congr 1; funext ok
        cases ok with
        | false => rfl
        | true => simp only [if_true, bind_assoc]; rfl
end
end L2
set_option Elab.async false
set_option linter.all false
set_option maxRecDepth 100000
set_option maxHeartbeats 4000000
namespace L2
open PySem PySem.Spec PyProof.Rows
section
variable {X : Cx}
theorem den_loop {prog : Program} {w : World} {A : Around} {e : Expr} {depth : Nat} {it acc : Value} {env : Env} {Q : Fin → Shared → Prop} {E : Value → Shared → Prop} {s : Shared}
    (hl : (∃ elt gens sc p, e = .ListComp elt gens sc p) ∨ (∃ elt gens sc p, e = .SetComp elt gens sc p))
    (h : wpAny (model prog w) A ((compTurn e depth it acc env).onRaise (fun x => do noteFrame x env; theTreesLotGoes x)) Q E s) :
    wpAny (model prog w) (A.under (.compLoop e depth it acc env)) ((model prog w).den (.compLoop e depth it acc env)) Q E s := by
  rcases hl with ⟨elt, gens, sc, p, rfl⟩ | ⟨elt, gens, sc, p, rfl⟩
  · exact h
  · exact h
theorem loop_ok {e : Expr} {depth : Nat} {acc : Value} {c : Comprehension} {g : TG} {ti : TT} {tb : TB} {J : It} {fp : List Addr} {it : Addr} {tn : Nat → Heap → Prop} (hxe : X.xe = fun _ _ => False) (hc : X.calm = true)
    (hl : (∃ elt gens sc p, e = .ListComp elt gens sc p) ∨ (∃ elt gens sc p, e = .SetComp elt gens sc p)) (hg : (clausesOf e)[depth]? = some c) (ha : c.is_async = 0) (ha' : ∀ g', (clausesOf e)[depth + 1]? = some g' → g'.is_async = 0)
    (T : Turn X.prog X.w X.K c.target J fp it tn) (pg : PG X c.target g) (pif : PIf X c.ifs ti) (pb : PB X (compBody e depth acc X.env) tb)
    {pins : List (Addr × Obj)} {s : Shared} {σ : St} {H : Hp} {N : St → Hp → Prop} (I : Inv X pins σ H s) (f2 : ∀ b ∈ fp, FpOk X pins H b) (st : tn 0 s.heap) (h : tLoop J g ti tb σ H N) :
    codeAny (model X.prog X.w) X.A (.compLoop e depth (.ref it) acc X.env) (fun r s' => r = .ok .next ∧ ∃ σ' H', Inv X pins σ' H' s' ∧ (∀ b ∈ fp, H' b = none) ∧ N σ' H') s := by
  obtain ⟨W, ⟨m0, w0⟩, turn⟩ := h
  have stat : ∀ {H' : Hp}, (∀ b ∈ fp, H' b = none) → ∀ b ∈ fp, FpOk X pins H' b := fun hn b hb => ⟨hn b hb, (f2 b hb).2⟩
  have F2 : ∀ {α : Type} {t : Sem α} {Q : α → Shared → Prop} {E : Value → Shared → Prop} {s : Shared}, wpAny (model X.prog X.w) X.A t Q X.xe s → wpAny (model X.prog X.w) X.A t Q E s := fun h => wpAny_mono h (fun _ _ x => x) fun _ _ z => by rw [hxe] at z; exact z.elim
  refine codeAny_loop rfl (fun n s' => ∃ i σ' H', Inv X pins σ' H' s' ∧ tn i s'.heap ∧ (∀ b ∈ fp, H' b = none) ∧ W i n σ' H') (fun n s3 hI => ?_) m0 ⟨0, σ, H, I, st, fun b hb => (f2 b hb).1, w0⟩
  refine den_loop hl ?_
  refine wpAny_noted ?_
  rw [compTurn_gen e depth (.ref it) acc X.env c hl hg ha ha']
  obtain ⟨i, σ3, H3, I3, st3, fr3, w3⟩ := hI
  refine wpAny_bind (wpAny_standAt ?_)
  rcases turn i n σ3 H3 w3 with ⟨stop, qn⟩ | ⟨go, step⟩
  · refine wpAny_bind (thn (T.done X rfl rfl rfl hc i pins s3 σ3 H3 _ I3 (stat fr3) st3 stop) fun r s4 ⟨hr, I4⟩ => ?_)
    subst hr
    exact wpAny_pure ⟨rfl, σ3, H3, I4, fr3, qn⟩
  · refine wpAny_bind (thn (T.item X rfl rfl rfl hc i pins s3 σ3 H3 _ I3 (stat fr3) st3 go) fun r s4 ⟨u, hr, h4⟩ => ?_)
    subst hr
    refine wpAny_bind (thn h4 fun _ s5 ⟨x, H5, I5, r5, y5, st5, fr5⟩ => ?_)
    have I5' := I5.pinned (stat fr5) (T.obj _ _ st5)
    refine wpAny_bind (thn (F2 (pg _ s5 σ3 H5 x u _ I5' r5 (step x H5 y5))) fun _ s6 ⟨σ6, H6, I6, q6⟩ => ?_)
    refine wpAny_bind (thn (F2 (pif _ s6 σ6 H6 _ I6 q6)) fun ok s7 ⟨H7, I7, q7⟩ => ?_)
    have again : ∀ {s8 : Shared} {σ8 : St} {H8 : Hp}, Inv X (pins ++ pinsAt fp s5.heap) σ8 H8 s8 → (∃ m', m' < n ∧ W (i + 1) m' σ8 H8) → ∃ m, m < n ∧ ∃ i σ' H', Inv X pins σ' H' s8 ∧ tn i s8.heap ∧ (∀ b ∈ fp, H' b = none) ∧ W i m σ' H' := fun {s8 σ8 H8} I8 ⟨m', hm, w8⟩ => by
      refine ⟨m', hm, i + 1, σ8, H8, I8.unpinned, T.keep _ _ _ st5 fun b hb o e => (I8.pin (b, o) (List.mem_append_right _ (List.mem_append_right _ (mem_pinsAt hb e)))).1, fun b hb => ?_, w8⟩
      obtain ⟨o, e, d⟩ := T.obj _ _ st5 b hb
      exact (I8.pin (b, o) (List.mem_append_right _ (List.mem_append_right _ (mem_pinsAt hb e)))).2.1
    cases ok with
    | false =>
      rw [if_neg Bool.false_ne_true] at q7
      exact wpAny_pure ⟨rfl, again I7 q7⟩
    | true =>
      rw [if_pos rfl] at q7
      simp only [if_true]
      refine wpAny_bind (thn (F2 (pb _ s7 σ6 H7 _ I7 q7)) fun _ s8 ⟨σ8, H8, I8, q8⟩ => ?_)
      exact wpAny_pure ⟨rfl, again I8 q8⟩
def tEmit (d : Addr) (te : TE) : TB := fun σ H N => te σ H fun y H1 => ∃ ys, H1 d = some (.lst ys) ∧ ys.length < sizeLine ∧ N σ (upd H1 d (.lst (ys ++ [y])))
theorem pb_emit {elt : Expr} {gens : List Comprehension} {sc : Scope} {p : Pos} {depth : Nat} {d : Addr} {te : TE} (hn : gens[depth + 1]? = none) (he : PE X elt te) : PB X (compBody (.ListComp elt gens sc p) depth (.ref d) X.env) (tEmit d te) := by
  intro pins s σ H N I h
  have e1 : compBody (.ListComp elt gens sc p) depth (.ref d) X.env = (do let _ ← call (.builtin "list.append") [.ref d, ← eval elt X.env]) := by
    unfold compBody
    simp only [clausesOf]
    rw [hn]
  rw [e1]
  refine wpAny_bind (thn (he pins s σ H _ I h) fun u s1 ⟨y, H1, I1, ru, ys, hd, hz, q⟩ => ?_)
  obtain ⟨z, its, n, r, hl, e⟩ := I1.lstM hd
  refine wpAny_bind (call_meets F.slot_list_append ⟨_, e, rfl⟩ F.entry_list_append (F.args_list_append_2 _ _) (PySem.list_append d its.toArray n u (by rw [List.size_toArray]; omega)) ⟨e, ?_⟩)
  refine wpAny_pure ⟨σ, _, I1.lset (its' := its ++ [u]) hd e (by simp) (r.append (.cons ru .nil)) ?_, q⟩
  rw [List.length_append, List.length_singleton]
  omega
end
end L2
set_option Elab.async false
set_option linter.all false
set_option maxRecDepth 100000
set_option maxHeartbeats 4000000
namespace L2
open PySem PySem.Spec PyProof.Rows
section
variable {X : Cx}
theorem start_ok {prog : Program} {w : World} {A : Around} {e : Expr} {depth : Nat} {it acc : Value} {env : Env} {R : Result → Shared → Prop} {s : Shared} {c : Comprehension}
    (hl : (∃ elt gens sc p, e = .ListComp elt gens sc p) ∨ (∃ elt gens sc p, e = .SetComp elt gens sc p)) (hg : (clausesOf e)[depth]? = some c) (ha : c.is_async = 0)
    (h0 : codeAny (model prog w) A (.compLoop e depth it acc env) R s)
    (self : ∀ (Q : Value → Shared → Prop) (E : Value → Shared → Prop), Q it s → wpAny (model prog w) A (pyIter it) Q E s) :
    codeAny (model prog w) A (.compStart e depth it acc env) R s := by
  have core : wpAny (model prog w) A (compStart e depth it acc env) (fun fin s' => match fin with | .done f => R (.ok f) s' | .again c' => c'.quiet = true ∧ codeAny (model prog w) A c' R s') (notedBy (model prog w) A env fun x s' => R (.error x) s') s := by
    unfold compStart
    rw [hg]
    simp only [Option.elim, ha, bne_self_eq_false, Bool.false_eq_true, if_false]
    refine wpAny_bind (wpAny_askSetting (wpAny_ite ?_))
    split
    · first
        | exact wpAny_bind (wpAny_pure (wpAny_pure (And.intro rfl h0)))
        | exact wpAny_pure (And.intro rfl h0)
    · exact wpAny_bind (wpAny_rule (wpAny_bind (wpAny_standAt (wpAny_bind (self _ _ (wpAny_pure (And.intro rfl h0)))))))
  rcases hl with ⟨elt, gens, sc, p, rfl⟩ | ⟨elt, gens, sc, p, rfl⟩
  · refine codeAny_of_tree ?_
    show wpAny _ A ((compStart (.ListComp elt gens sc p) depth it acc env).onRaise (fun x => do noteFrame x env; standAt theWindowsPlace)) _ _ s
    exact wpAny_notedAt core
  · refine codeAny_of_tree ?_
    show wpAny _ A ((compStart (.SetComp elt gens sc p) depth it acc env).onRaise (fun x => do noteFrame x env; standAt theWindowsPlace)) _ _ s
    exact wpAny_notedAt core
end
end L2
set_option Elab.async false
set_option linter.all false
set_option maxRecDepth 100000
set_option maxHeartbeats 4000000
namespace L2
open PySem PySem.Spec PyProof.Rows
theorem lookup_relabel_free {env : Env} : ∀ {names : List (Str × NameKind)} {x : Str}, names.lookup x = some .free →
    (names.map fun (n, k) => if (k == NameKind.free && env.scope.kind == .function && env.kindOf n == some .cell) then (n, NameKind.cell) else (n, k)).lookup x = some .cell ∨
    (names.map fun (n, k) => if (k == NameKind.free && env.scope.kind == .function && env.kindOf n == some .cell) then (n, NameKind.cell) else (n, k)).lookup x = some .free
  | [], _, h => by simp at h
  | (n, k) :: r, x, h => by
    have ih := @lookup_relabel_free env r x
    rw [List.map_cons]
    cases hx : x == n with
    | true =>
      simp only [List.lookup_cons, hx] at h
      cases h
      by_cases hc : (NameKind.free == NameKind.free && env.scope.kind == .function && env.kindOf n == some .cell) = true
      · left; simp only [hc, if_true, List.lookup_cons, hx]
      · right; simp only [hc, if_false, List.lookup_cons, hx, Bool.false_eq_true]
    | false =>
      simp only [List.lookup_cons, hx] at h
      by_cases hc : (k == NameKind.free && env.scope.kind == .function && env.kindOf n == some .cell) = true
      · simp only [hc, if_true, List.lookup_cons, hx]; exact ih h
      · simp only [hc, if_false, List.lookup_cons, hx, Bool.false_eq_true]; exact ih h
theorem lookup_relabel_conv {env : Env} : ∀ {names : List (Str × NameKind)} {x : Str} {k' : NameKind},
    (names.map fun (n, k) => if (k == NameKind.free && env.scope.kind == .function && env.kindOf n == some .cell) then (n, NameKind.cell) else (n, k)).lookup x = some k' → ∃ k, (x, k) ∈ names ∧ (k = k' ∨ k = .free)
  | [], _, _, h => by simp at h
  | (n, k) :: r, x, k', h => by
    rw [List.map_cons] at h
    cases hx : x == n with
    | true =>
      have e := eq_of_beq hx
      subst e
      by_cases hc : (k == NameKind.free && env.scope.kind == .function && env.kindOf x == some .cell) = true
      · refine ⟨k, List.mem_cons_self, .inr ?_⟩
        have h1 : (k == NameKind.free) = true := by
          cases hk : (k == NameKind.free) with
          | true => rfl
          | false => rw [hk] at hc; simp at hc
        exact eq_of_beq h1
      · simp only [hc, if_false, List.lookup_cons, hx, Bool.false_eq_true] at h
        exact ⟨k, List.mem_cons_self, .inl (by simpa using h)⟩
    | false =>
      by_cases hc : (k == NameKind.free && env.scope.kind == .function && env.kindOf n == some .cell) = true
      · simp only [hc, if_true, List.lookup_cons, hx] at h
        obtain ⟨k2, h1, h2⟩ := lookup_relabel_conv h
        exact ⟨k2, List.mem_cons_of_mem _ h1, h2⟩
      · simp only [hc, if_false, List.lookup_cons, hx, Bool.false_eq_true] at h
        obtain ⟨k2, h1, h2⟩ := lookup_relabel_conv h
        exact ⟨k2, List.mem_cons_of_mem _ h1, h2⟩
structure CompScope (X : Cx) (N' : List Str) (scope : Scope) (pre : St → St) : Prop where
  cell : ∀ y ∈ scope.names, y.2 ≠ .cell
  kind : scope.kind = .function
  names : ∀ y ∈ scope.names, y.2 = .local → scope.names.lookup y.1 = some .local
  free : ∀ y ∈ scope.names, y.2 = .free → X.env.scope.names.lookup y.1 = some .cell ∨ X.env.scope.names.lookup y.1 = some .free
  len : ∀ σ : St, (pre σ).length = N'.length
  pre : ∀ (σ : St) (i : Nat) (v : V) (x : Str), (pre σ)[i]? = some (some v) → N'[i]? = some x → scope.names.lookup x = some .free ∧ ∃ j : Nat, X.N[j]? = some x ∧ σ[j]? = some (some v)
section
variable {X : Cx}
theorem comp_in {N' : List Str} {scope : Scope} {pre : St → St} (S : CompScope X N' scope pre) {pins : List (Addr × Obj)} {s3 : Shared} {σ : St} {H3 : Hp} {fp : List Addr} {cl : List (Str × Addr)} {h' : Heap} {t' : Nat} (I : Inv X pins σ H3 s3)
    (hcl1 : ∀ x c, cl.lookup x = some c → X.env.cells.lookup x = some c) (hcl2 : ∀ x, (x, NameKind.free) ∈ scope.names → ∃ c, cl.lookup x = some c)
    (ff : ∀ b ∈ fp, FpOk X pins H3 b) (fo : ∀ b ∈ fp, b < s3.heap.objs.size)
    (hns : h'.Ns s3.heap.objs.size (fun _ => none)) (hk : ∀ b o, s3.heap.get? b = some o → h'.get? b = some o) :
    Inv (X.comp N' scope cl s3.heap.objs.size s3 H3 fp pins) [] (pre σ) H3 { s3 with heap := h', toks := t' } := by
  have hfr : ∀ b ∈ frs X.stack, H3 b = none := I.stkFree
  have nfs : ∀ b, b ≠ X.env.locals → b ∉ X.fs → b ∉ frs X.stack := fun b h1 h2 z => (List.mem_cons.mp (I.stkSub b z)).elim h1 h2
  refine ⟨⟨I.ok.mod, ?_, I.ok.glob, I.ok.blt, Nat.le_refl _, fun x y c h1 h2 => I.ok.inj x y c (hcl1 x c h1) (hcl1 y c h2), fun x hx => ?_, fun x c hf _ => absurd hf (by simp [Cx.comp]), I.ok.hd, I.ok.frames, .inl rfl, fun b hb => ?_,
    I.bs, Nat.le_trans I.ok.bsz I.sz, fun b o e hb => ?_, fun b hb => nfs b (ff b hb).2.1 (ff b hb).2.2.1, I.stack, hfr⟩, rfl, I.bare, Un.kept hk, ⟨_, hns, fun i x v h1 h2 h3 => ?_⟩, fun x c hx => ?_, I.hok.fresh (Nat.le_refl _), fun x c hx => I.freeC x c (hcl1 x c hx), fun p hp => ?_, I.hok.kept hk, S.len σ⟩
  · show (relabel scope X.env).kind = .function
    simp [relabel, S.kind]
  ·
    have hx' : (relabel scope X.env).names.lookup x = some .cell ∨ (relabel scope X.env).names.lookup x = some .free := hx
    have : (x, NameKind.free) ∈ scope.names := by
      rcases hx' with z | z
      · obtain ⟨k, h1, h2⟩ := lookup_relabel_conv z
        rcases h2 with h2 | h2
        · subst h2; exact absurd rfl (S.cell _ h1)
        · subst h2; exact h1
      · obtain ⟨k, h1, h2⟩ := lookup_relabel_conv z
        rcases h2 with h2 | h2 <;> (subst h2; exact h1)
    exact hcl2 x this
  · exact ⟨Nat.ne_of_lt (fo b hb), fun x c hx => (ff b hb).2.2.2.2.1 x c (hcl1 x c hx)⟩
  ·
    have hb' : b ∈ fp := hb
    rcases (ff b hb').2.2.2.1 with z | z
    · exact I.ok.noex b o e z
    · exact absurd (Nat.lt_of_lt_of_le (Heap.lt_size e) (Nat.le_trans I.ok.bsz z)) (Nat.lt_irrefl _)
  · obtain ⟨hf, j, hj, hv⟩ := S.pre σ i v x h2 h1
    obtain ⟨m, hn, hl⟩ := I.loc
    have hfree := S.free (x, .free) (PySem.mem_of_lookup hf) rfl
    obtain ⟨u, r, l⟩ := hl j x v hj hv (by rcases hfree with z | z; exact .inr (.inl z); exact .inr (.inr z))
    refine ⟨u, r, .inr ⟨lookup_relabel_free hf, ?_⟩⟩
    rcases l with ⟨hk', _⟩ | ⟨_, c, hc, hcell⟩
    · have hk2 : X.env.scope.names.lookup x = some .local := hk'
      rcases hfree with z | z <;> (have z' : X.env.scope.names.lookup x = _ := z; rw [hk2] at z'; cases z')
    · obtain ⟨c', hc'⟩ := hcl2 x (PySem.mem_of_lookup hf)
      have := hcl1 x c' hc'
      rw [hc] at this
      cases this
      exact ⟨c, hc', hcell.keeps hk⟩
  · obtain ⟨v, hv⟩ := I.cell x c (hcl1 x c hx)
    exact ⟨v, hv.keeps hk⟩
  · have hp' : p ∈ X.pn ++ pins := by simpa [Cx.comp] using hp
    obtain ⟨e, n, h1, h2, h3⟩ := I.pin p hp'
    exact ⟨hk _ _ e, n, Nat.ne_of_lt (Heap.lt_size e), nfs _ h1 h2, h3⟩
theorem comp_out {N' : List Str} {scope : Scope} {pins : List (Addr × Obj)} {s3 s4 : Shared} {σ σ' : St} {H3 H4 : Hp} {fp : List Addr} {cl : List (Str × Addr)} {h' : Heap} (I : Inv X pins σ H3 s3) (ff : ∀ b ∈ fp, FpOk X pins H3 b)
    (J : Inv (X.comp N' scope cl s3.heap.objs.size s3 H3 fp pins) [] σ' H4 s4) (hs : Heap.SameBut s3.heap.objs.size s4.heap h') : Inv X pins σ H4 { s4 with heap := h' } := by
  have K := I.call' (s' := s4) (ch := fp) J.os J.base J.hok J.bare fun b hb => ⟨(ff b hb).2.2.2.1, (ff b hb).2.1, (ff b hb).2.2.2.2.1, (ff b hb).2.2.2.2.2⟩
  have lt1 : X.env.locals < s3.heap.objs.size := I.lt
  refine K.turned (it := s3.heap.objs.size) (t' := s4.toks) (fun b o hb e => by rw [hs.2 b hb]; exact e) J.free (Nat.ne_of_gt lt1) (.inr I.sz) (fun x c hx z => ?_) (fun p hp z => ?_)
  · obtain ⟨v, o, e, _⟩ := I.cell x c hx
    exact absurd (Heap.lt_size e) (by rw [z]; exact Nat.lt_irrefl _)
  · obtain ⟨e, _⟩ := I.pin p hp
    exact absurd (Heap.lt_size e) (by rw [z]; exact Nat.lt_irrefl _)
end
end L2
set_option Elab.async false
set_option linter.all false
set_option maxRecDepth 100000
set_option maxHeartbeats 4000000
namespace L2
open PySem PySem.Spec PyProof.Rows
section
variable {X : Cx}
def tBlk (J : It) (g : TG) (ti : TT) (tb : Addr → TB) (pre : St → St) (σ : St) (H : Hp) (Q : VK) : Prop :=
  ∀ d, H d = none → tLoop J g ti (tb d) (pre σ) (upd H d (.lst [])) fun _ H2 => Q (.ref d) H2
theorem comp_run {elt : Expr} {c : Comprehension} {rest : List Comprehension} {scope : Scope} {pos : Pos} {N' : List Str} {pre : St → St} {g : TG} {ti : TT} {tb : Addr → TB} {cl : List (Str × Addr)} {J : It} {fp : List Addr} {it : Addr} {tn : Nat → Heap → Prop}
    (S : CompScope X N' scope pre) (hc : X.calm = true) (ha : c.is_async = 0) (ha' : ∀ g', rest[0]? = some g' → g'.is_async = 0)
    (blk : ∀ (C : Addr) (s3 : Shared) (H3 : Hp) (fp : List Addr) (pins : List (Addr × Obj)), let X' := X.comp N' scope cl C s3 H3 fp pins
      PG X' c.target g ∧ PIf X' c.ifs ti ∧ ∀ d, PB X' (compBody (.ListComp elt (c :: rest) scope pos) 0 (.ref d) X'.env) (tb d))
    (hcl1 : ∀ x c, cl.lookup x = some c → X.env.cells.lookup x = some c) (hcl2 : ∀ x, (x, NameKind.free) ∈ scope.names → ∃ c, cl.lookup x = some c)
    {pins : List (Addr × Obj)} {s2 : Shared} {σ : St} {H2 : Hp} {Q : VK} {E : Value → Shared → Prop} {RR : Value → Addr → Result → Shared → Prop} (I2 : Inv X pins σ H2 s2) (T : Turn X.prog X.w X.K c.target J fp it tn) (st2 : tn 0 s2.heap) (f2 : ∀ b ∈ fp, FpOk X pins H2 b)
    (h : tBlk J g ti tb pre σ H2 Q)
    (hRR : ∀ (d : Addr) (s3 : Shared) (H3 H4 : Hp) (σ' : St) (s4 : Shared), Inv X pins σ H3 s3 → (∀ b ∈ fp, FpOk X pins H3 b) → Inv (X.comp N' scope cl s3.heap.objs.size s3 H3 fp pins) [] σ' H4 s4 → Q (.ref d) H4 → RR (.ref d) s3.heap.objs.size (.ok .next) s4) :
    wpAny (model X.prog X.w) X.A (newList []) (fun acc s₃ => wpAny (model X.prog X.w) X.A (newFunctionEnv scope X.env.globals cl [] X.env.qual none .none (some X.env)) (fun cenv s₄ =>
      codeAny (model X.prog X.w) X.A (.compStart (.ListComp elt (c :: rest) scope pos) 0 (.ref it) acc { cenv with scope := relabel scope X.env }) (RR acc cenv.locals) s₄) E s₃) E s2 := by
  have I3 : Inv X pins σ (upd H2 s2.heap.objs.size (.lst [])) { s2 with heap := s2.heap.push { cls := .type "list", data := .seq ([] : List Value).toArray } } := I2.lnew (t' := s2.toks) .nil (by simp)
  have fo : ∀ b ∈ fp, b < s2.heap.objs.size := fun b hb => by obtain ⟨o, e, _⟩ := T.obj _ _ st2 b hb; exact Heap.lt_size e
  have ff : ∀ b ∈ fp, FpOk X pins (upd H2 s2.heap.objs.size (.lst [])) b := fun b hb => ⟨by rw [upd_ne (Nat.ne_of_lt (fo b hb))]; exact (f2 b hb).1, (f2 b hb).2⟩
  refine wpAny_newObj_type ?_
  refine wpAny_newFunctionEnv S.cell (by intro y hy; simp at hy) (fun h1 hns hsb => ?_) S.kind
  have hk : ∀ b o, (s2.heap.push { cls := .type "list", data := .seq ([] : List Value).toArray }).get? b = some o → h1.get? b = some o := fun b o e => by
    have hlt := Heap.lt_size e
    rw [hsb.2 b (Nat.ne_of_lt hlt)]
    exact Heap.get?_push_of_some _ e
  have hfo : ∀ b ∈ fp, b < (s2.heap.push { cls := .type "list", data := .seq ([] : List Value).toArray }).objs.size := fun b hb => by rw [Heap.size_push]; exact Nat.lt_succ_of_lt (fo b hb)
  have J0 := comp_in (t' := s2.toks + ([] : List (Str × Value)).length) S I3 hcl1 hcl2 ff hfo (by simpa using hns) hk
  obtain ⟨pg, pif, pb⟩ := blk (s2.heap.push { cls := .type "list", data := .seq ([] : List Value).toArray }).objs.size { s2 with heap := s2.heap.push { cls := .type "list", data := .seq ([] : List Value).toArray } } (upd H2 s2.heap.objs.size (.lst [])) fp pins
  have st4 : tn 0 h1 := T.keep _ _ _ st2 fun b hb o e => hk b o (Heap.get?_push_of_some _ e)
  have hw := h s2.heap.objs.size (I2.hok.fresh (Nat.le_refl _))
  have ff' : ∀ b ∈ fp, FpOk (X.comp N' scope cl (s2.heap.push { cls := .type "list", data := .seq ([] : List Value).toArray }).objs.size { s2 with heap := s2.heap.push { cls := .type "list", data := .seq ([] : List Value).toArray } } (upd H2 s2.heap.objs.size (.lst [])) fp pins) []
      (upd H2 s2.heap.objs.size (.lst [])) b := fun b hb => by
    obtain ⟨z1, z2, z3, z4, z5, z6⟩ := ff b hb
    refine ⟨z1, Nat.ne_of_lt (hfo b hb), fun z => (List.mem_cons.mp (I3.stkSub b z)).elim z2 z3, .inl hb, fun x c hx => z5 x c (hcl1 x c hx), fun p hp => z6 p (by simpa [Cx.comp] using hp)⟩
  have hl : (∃ el gens sc p, Expr.ListComp elt (c :: rest) scope pos = .ListComp el gens sc p) ∨ (∃ el gens sc p, Expr.ListComp elt (c :: rest) scope pos = .SetComp el gens sc p) := .inl ⟨_, _, _, _, rfl⟩
  refine start_ok hl rfl ha ?_ (fun Q' E' hq => T.self X.A 0 _ Q' E' st4 hq)
  refine codeAny_mono (loop_ok (X := X.comp N' scope cl (s2.heap.push { cls := .type "list", data := .seq ([] : List Value).toArray }).objs.size { s2 with heap := s2.heap.push { cls := .type "list", data := .seq ([] : List Value).toArray } } (upd H2 s2.heap.objs.size (.lst [])) fp pins)
    (depth := 0) (acc := .ref s2.heap.objs.size) rfl hc hl rfl ha (fun g' hg' => ha' g' (by simpa [clausesOf] using hg')) T pg pif (pb _) J0 ff' st4 hw) fun r s4 hr => ?_
  obtain ⟨rfl, σ4, H4, I4, _, q⟩ := hr
  exact hRR _ _ _ _ _ _ I3 ff I4 q
def tComp (wi : TI) (g : TG) (ti : TT) (tb : Addr → TB) (pre : St → St) : TE := fun σ H Q => wi σ H fun J H1 => tBlk J g ti tb pre σ H1 Q
theorem pe_lcomp {elt : Expr} {c : Comprehension} {rest : List Comprehension} {scope : Scope} {pos : Pos} {N' : List Str} {pre : St → St} {wi : TI} {g : TG} {ti : TT} {tb : Addr → TB}
    (S : CompScope X N' scope pre) (hc : X.calm = true) (ha : c.is_async = 0) (ha' : ∀ g', rest[0]? = some g' → g'.is_async = 0)
    (hs : ∀ x, foldedSetIterable c.iter X.env x = pure x) (pi : PI X c.target c.iter wi)
    (blk : ∀ (cl : List (Str × Addr)) (C : Addr) (s3 : Shared) (H3 : Hp) (fp : List Addr) (pins : List (Addr × Obj)), let X' := X.comp N' scope cl C s3 H3 fp pins
      PG X' c.target g ∧ PIf X' c.ifs ti ∧ ∀ d, PB X' (compBody (.ListComp elt (c :: rest) scope pos) 0 (.ref d) X'.env) (tb d)) :
    PE X (.ListComp elt (c :: rest) scope pos) (tComp wi g ti tb pre) := by
  intro pins s σ H Q I h
  obtain ⟨tg, itx, ifs, az⟩ := c
  obtain rfl : az = 0 := ha
  obtain ⟨cl, hcl, hcl1, hcl2⟩ := closure_ok X.env scope fun x hx hf => I.ok.has x.1 (S.free x hx hf)
  rw [eval_ListComp]
  show wpAny _ X.A (comprehension _ scope X.env _ (newList []) false (eval itx X.env)) _ _ s
  refine wpAny_comprehension_free (use := none) (g := ⟨tg, itx, ifs, 0⟩) (gs := rest) rfl hs hcl S.kind S.names (thn (pi pins s σ H _ I h) fun v s1 h1 => thn h1 fun itv s2 h2 => ?_)
  obtain ⟨it, fp, tn, J, H2, rfl, I2, T, st2, f2, hw⟩ := h2
  refine comp_run (RR := fun acc C => compPost (model X.prog X.w) X.A X.xe none (EP X pins σ Q) acc C) S hc rfl ha' (blk cl) hcl1 hcl2 I2 T st2 f2 hw fun d s3 H3 H4 σ' s4 I3 ff J4 q => ?_
  obtain ⟨m, hn, _⟩ := id J4.loc
  exact ⟨m, hn, fun h' hsb => ⟨.ref d, H4, comp_out I3 ff J4 hsb, rfl, q⟩⟩
end
end L2
set_option Elab.async false
set_option linter.all false
set_option maxRecDepth 100000
set_option maxHeartbeats 4000000
namespace L2
open PySem PySem.Spec PyProof.Rows
section
variable {κ : Type} [DecidableEq κ]
def valV (kvs : List (κ × V)) (k : κ) : Option V := (kvs.find? fun kv => decide (kv.1 = k)).map (·.2)
def putK (kvs : List (κ × V)) (k : κ) (v : V) : List (κ × V) :=
  if (kvs.any fun kv => decide (kv.1 = k)) = true then kvs.map (fun kv => if kv.1 = k then (kv.1, v) else kv) else kvs ++ [(k, v)]
def dropK (kvs : List (κ × V)) (k : κ) : List (κ × V) := kvs.filter fun kv => decide (kv.1 ≠ k)
theorem valV_pos {p : κ × V} {r : List (κ × V)} {k : κ} (e : p.1 = k) : valV (p :: r) k = some p.2 := by simp [valV, List.find?_cons, e]
theorem valV_neg {p : κ × V} {r : List (κ × V)} {k : κ} (e : ¬ p.1 = k) : valV (p :: r) k = valV r k := by simp [valV, List.find?_cons, e]
theorem valV_any (k : κ) : ∀ kvs : List (κ × V), (kvs.any fun kv => decide (kv.1 = k)) = (valV kvs k).isSome
  | [] => rfl
  | p :: r => by
    rw [List.any_cons]
    by_cases e : p.1 = k
    · simp only [valV_pos e, decide_eq_true e, Bool.true_or, Option.isSome_some]
    · rw [valV_neg e, decide_eq_false e, Bool.false_or]; exact valV_any k r
theorem length_putK (kvs : List (κ × V)) (k : κ) (v : V) : (putK kvs k v).length ≤ kvs.length + 1 := by
  unfold putK
  split
  · rw [List.length_map]; omega
  · rw [List.length_append, List.length_cons, List.length_nil]; omega
theorem RelO.isSome_eq {o : Option V} {u : Option Value} (r : RelO o u) : o.isSome = u.isSome := by
  cases o with
  | none => cases u with
    | none => rfl
    | some _ => exact (show False from r).elim
  | some _ => cases u with
    | none => exact (show False from r).elim
    | some _ => rfl
theorem RelO.getD {o : Option V} {u : Option Value} {d : V} {d' : Value} (r : RelO o u) (rd : RelV d d') : RelV (o.getD d) (u.getD d') := by
  cases o with
  | none => cases u with
    | none => exact rd
    | some _ => exact (show False from r).elim
  | some _ => cases u with
    | none => exact (show False from r).elim
    | some _ => exact r
theorem KV.val {kvs : List (κ × V)} {vs : List (κ × Value)} (r : KV kvs vs) (k : κ) : RelO (valV kvs k) (valueAt vs k) := by
  unfold KV at r
  induction r with
  | nil => exact True.intro
  | @cons p q ps qs h t ih =>
    obtain ⟨h1, h2⟩ := h
    by_cases e : p.1 = k
    · have e' : q.1 = k := h1.symm.trans e
      have b : valueAt (q :: qs) k = some q.2 := by simp [valueAt, List.find?_cons, e']
      rw [valV_pos e, b]; exact h2
    · have e' : ¬ q.1 = k := fun z => e (h1.trans z)
      have b : valueAt (q :: qs) k = valueAt qs k := by simp [valueAt, List.find?_cons, e']
      rw [valV_neg e, b]; exact ih
theorem KV.any {kvs : List (κ × V)} {vs : List (κ × Value)} (r : KV kvs vs) (k : κ) : (kvs.any fun kv => decide (kv.1 = k)) = vs.any fun kv => decide (kv.1 = k) := by
  unfold KV at r
  induction r with
  | nil => rfl
  | cons h t ih => rw [List.any_cons, List.any_cons, ih, h.1]
theorem KV.repl {kvs : List (κ × V)} {vs : List (κ × Value)} (r : KV kvs vs) (k : κ) {y : V} {u : Value} (ry : RelV y u) :
    KV (kvs.map fun kv => if kv.1 = k then (kv.1, y) else kv) (vs.map fun kv => if kv.1 = k then (kv.1, u) else kv) := by
  unfold KV at r ⊢
  induction r with
  | nil => exact .nil
  | @cons p q ps qs h t ih =>
    rw [List.map_cons, List.map_cons]
    refine .cons ?_ ih
    obtain ⟨h1, h2⟩ := h
    by_cases e : p.1 = k
    · rw [if_pos e, if_pos (h1.symm.trans e)]; exact ⟨h1, ry⟩
    · rw [if_neg e, if_neg (fun z => e (h1.trans z))]; exact ⟨h1, h2⟩
theorem KV.put {kvs : List (κ × V)} {vs : List (κ × Value)} (r : KV kvs vs) (k : κ) {y : V} {u : Value} (ry : RelV y u) : KV (putK kvs k y) (stored vs k u) := by
  unfold putK stored
  rw [r.any k]
  by_cases e : (vs.any fun kv => decide (kv.1 = k)) = true
  · rw [if_pos e, if_pos e]; exact r.repl k ry
  · rw [if_neg e, if_neg e]; exact Paired.snoc r ⟨rfl, ry⟩
theorem KV.drop {kvs : List (κ × V)} {vs : List (κ × Value)} (r : KV kvs vs) (k : κ) : KV (dropK kvs k) (without vs k) := by
  unfold KV at r ⊢
  unfold dropK without
  induction r with
  | nil => exact .nil
  | @cons p q ps qs h t ih =>
    obtain ⟨h1, h2⟩ := h
    rw [List.filter_cons, List.filter_cons]
    by_cases e : p.1 = k
    · have a : ¬ decide (p.1 ≠ k) = true := by simp [e]
      have b : ¬ decide (q.1 ≠ k) = true := by simp [h1.symm.trans e]
      rw [if_neg a, if_neg b]; exact ih
    · have e' : ¬ q.1 = k := fun z => e (h1.trans z)
      have a : decide (p.1 ≠ k) = true := by simp [e]
      have b : decide (q.1 ≠ k) = true := by simp [e']
      rw [if_pos a, if_pos b]; exact .cons ⟨h1, h2⟩ ih
theorem KV.keys {kvs : List (κ × V)} {vs : List (κ × Value)} (r : KV kvs vs) : kvs.map (·.1) = vs.map (·.1) := by
  unfold KV at r
  induction r with
  | nil => rfl
  | cons h t ih => rw [List.map_cons, List.map_cons, ih, h.1]
theorem KV.length {kvs : List (κ × V)} {vs : List (κ × Value)} (r : KV kvs vs) : kvs.length = vs.length := Paired.length r
end
theorem kV_is {P : Program} {w : World} {k : Key} {u : Value} (r : RelV (kV k) u) : (mixKind P w).is k u = true := by
  cases k with
  | inl i => obtain ⟨t, e⟩ := (show ∃ t, u = Value.int i t from r); subst e; exact mixKind_int P w i t
  | inr x => obtain ⟨t, e⟩ := (show ∃ t, u = Value.str x t from r); subst e; exact mixKind_str P w x t
abbrev KT (H : Hp) : List (List Key × V) → List (List Key × Addr × Value) → Prop := Paired fun p q => p.1 = q.1 ∧ H q.2.1 = some (.tup (p.1.map kV)) ∧ RelV p.2 q.2.2
theorem KT.val {H : Hp} {kvs : List (List Key × V)} {xs : List (List Key × Addr × Value)} (r : KT H kvs xs) (k : List Key) : RelO (valV kvs k) ((atKey xs k).map (·.2)) := by
  induction r with
  | nil => exact True.intro
  | @cons p q ps qs h t ih =>
    obtain ⟨h1, _, h2⟩ := h
    by_cases e : p.1 = k
    · have e' : q.1 = k := h1.symm.trans e
      have b : atKey (q :: qs) k = some q.2 := by simp [atKey, List.find?_cons, e']
      rw [valV_pos e, b]; exact h2
    · have e' : ¬ q.1 = k := fun z => e (h1.trans z)
      have b : atKey (q :: qs) k = atKey qs k := by simp [atKey, List.find?_cons, e']
      rw [valV_neg e, b]; exact ih
theorem KT.repl {H : Hp} {kvs : List (List Key × V)} {xs : List (List Key × Addr × Value)} (r : KT H kvs xs) (k : List Key) {y : V} {u : Value} (ry : RelV y u) :
    KT H (kvs.map fun kv => if kv.1 = k then (kv.1, y) else kv) (xs.map (putAt k u)) := by
  induction r with
  | nil => exact .nil
  | @cons p q ps qs h t ih =>
    rw [List.map_cons, List.map_cons]
    refine .cons ?_ ih
    obtain ⟨h1, h2, h3⟩ := h
    unfold putAt
    by_cases e : p.1 = k
    · rw [if_pos e, if_pos (h1.symm.trans e)]; exact ⟨h1, h2, ry⟩
    · rw [if_neg e, if_neg (fun z => e (h1.trans z))]; exact ⟨h1, h2, h3⟩
theorem KT.put {H : Hp} {kvs : List (List Key × V)} {xs : List (List Key × Addr × Value)} (r : KT H kvs xs) (k : List Key) {b : Addr} {y : V} {u : Value} (hb : H b = some (.tup (k.map kV))) (ry : RelV y u) :
    KT H (putK kvs k y) (storedH xs k b u) := by
  have e : (kvs.any fun kv => decide (kv.1 = k)) = (atKey xs k).isSome := by
    rw [valV_any, (r.val k).isSome_eq, Option.isSome_map]
  unfold putK storedH
  rw [e]
  by_cases q : (atKey xs k).isSome = true
  · rw [if_pos q, if_pos q]; exact r.repl k ry
  · rw [if_neg q, if_neg q]; exact Paired.snoc r ⟨rfl, hb, ry⟩
theorem KT.keeps {H H' : Hp} {kvs : List (List Key × V)} {xs : List (List Key × Addr × Value)} (r : KT H kvs xs) (ht : ∀ b ys, H b = some (.tup ys) → H' b = some (.tup ys)) : KT H' kvs xs :=
  Paired.mapP r fun _ _ z => ⟨z.1, ht _ _ z.2.1, z.2.2⟩
section
variable {P : Program} {w : World} {H : Hp} {h : Heap} {a : Addr}
theorem rd_of {u : HO} (ok : HOk P w H h) (e : Rd H a u) : ObjOk P w H h a u := e.ok ok
theorem dk_rd {kvs : List (Key × V)} (ok : HOk P w H h) (e : Rd H a (.dK kvs)) : kvs.length ≤ sizeLine ∧ (a == sysModules) = false ∧ ∃ vs, KV kvs vs ∧ h.DictOf (mixKind P w) a vs :=
  show ObjOk P w H h a (.dK kvs) from rd_of ok e
theorem dk_of {kvs : List (Key × V)} (ok : HOk P w H h) (e : H a = some (.dK kvs)) : kvs.length ≤ sizeLine ∧ (a == sysModules) = false ∧ ∃ vs, KV kvs vs ∧ h.DictOf (mixKind P w) a vs := dk_rd ok (.inl e)
end
def DGet (H : Hp) (a : Addr) (y : V) (r : Option V) : Prop :=
  (∃ kvs k, Rd H a (.dK kvs) ∧ y = kV k ∧ r = valV kvs k) ∨ ∃ kvs k b, Rd H a (.dT kvs) ∧ y = .ref b ∧ H b = some (.tup (k.map kV)) ∧ r = valV kvs k
def DPut (H : Hp) (a : Addr) (y v : V) (H' : Hp) : Prop :=
  (∃ kvs k, H a = some (.dK kvs) ∧ y = kV k ∧ kvs.length < sizeLine ∧ H' = upd H a (.dK (putK kvs k v))) ∨
  ∃ kvs k b, H a = some (.dT kvs) ∧ y = .ref b ∧ H b = some (.tup (k.map kV)) ∧ kvs.length < sizeLine ∧ H' = upd H a (.dT (putK kvs k v))
theorem DGet.k {H : Hp} {a : Addr} {kvs : List (Key × V)} {k : Key} (e : H a = some (.dK kvs)) : DGet H a (kV k) (valV kvs k) := .inl ⟨kvs, k, .inl e, rfl, rfl⟩
theorem DGet.t {H : Hp} {a b : Addr} {kvs : List (List Key × V)} {k : List Key} (e : H a = some (.dT kvs)) (eb : H b = some (.tup (k.map kV))) : DGet H a (.ref b) (valV kvs k) := .inr ⟨kvs, k, b, .inl e, rfl, eb, rfl⟩
theorem DPut.k {H : Hp} {a : Addr} {kvs : List (Key × V)} {k : Key} {v : V} (e : H a = some (.dK kvs)) (hl : kvs.length < sizeLine) : DPut H a (kV k) v (upd H a (.dK (putK kvs k v))) := .inl ⟨kvs, k, e, rfl, hl, rfl⟩
theorem DPut.t {H : Hp} {a b : Addr} {kvs : List (List Key × V)} {k : List Key} {v : V} (e : H a = some (.dT kvs)) (eb : H b = some (.tup (k.map kV))) (hl : kvs.length < sizeLine) :
    DPut H a (.ref b) v (upd H a (.dT (putK kvs k v))) := .inr ⟨kvs, k, b, e, rfl, eb, hl, rfl⟩
section
variable {X : Cx} {pins : List (Addr × Obj)} {σ : St} {H : Hp} {s : Shared} {a : Addr} {y v : V} {u r : Value} {o : Option V} {A : Around} {E : Value → Shared → Prop}
theorem Inv.big (I : Inv X pins σ H s) : sysModules < s.heap.objs.size := by
  have h : mainGlobals < s.heap.objs.size := (I.mod.glob.keeps I.bk).lt
  exact Nat.lt_trans (by decide) h
theorem d_write {h' : Heap} {t' : Nat} {ob : HO} (I : Inv X pins σ H s) (mu : Mut (H a)) (hs : Heap.SameBut a s.heap h') (he : ∃ q, h'.get? a = some q) (new : ObjOk X.prog X.w (upd H a ob) h' a ob) :
    Inv X pins σ (upd H a ob) { s with heap := h', toks := t' } :=
  I.write (x := a) (e := a) mu (.inl rfl) (fun b q hb z => (hs.2 b hb).trans z) he new
theorem dk_new {P : Program} {w : World} {H' : Hp} {h' : Heap} {kvs : List (Key × V)} {vs : List (Key × Value)} (z : kvs.length ≤ sizeLine) (hd : (a == sysModules) = false) (rel : KV kvs vs) (dd : h'.DictOf (mixKind P w) a vs) :
    ObjOk P w H' h' a (.dK kvs) := ⟨z, hd, vs, rel, dd⟩
end
theorem dk_empty {P : Program} {w : World} {H : Hp} (h : Heap) (hb : sysModules < h.objs.size) : ObjOk P w H (h.push { cls := .type "dict", data := .dict #[] }) h.objs.size (.dK []) :=
  ⟨Nat.zero_le _, beq_eq_false_iff_ne.mpr (Ne.symm (Nat.ne_of_lt hb)), [], .nil, Heap.DictOf.new h⟩
section
variable {X : Cx} {pos : Pos}
end
def tPairs : List (TE × TE) → St → Hp → (List (V × V) → Hp → Prop) → Prop
  | [], _, H, Q => Q [] H
  | (tk, tv) :: r, σ, H, Q => tk σ H fun x H1 => tv σ H1 fun y H2 => tPairs r σ H2 fun ps H3 => Q ((x, y) :: ps) H3
abbrev VV : List (V × V) → List (Value × Value) → Prop := Paired fun p q => RelV p.1 q.1 ∧ RelV p.2 q.2
def PPs (X : Cx) (pos : Pos) (keys : List (Option Expr)) (values : List Expr) (trs : List (TE × TE)) : Prop :=
  ∀ (pins : List (Addr × Obj)) (s : Shared) (σ : St) (H : Hp) (Q : List (V × V) → Hp → Prop), Inv X pins σ H s → tPairs trs σ H Q →
    wpAny (model X.prog X.w) X.A (evalPairs (pairTrees keys values X.env pos)) (fun vs s' => ∃ ps H', Inv X pins σ H' s' ∧ VV ps vs ∧ Q ps H') X.xe s
theorem pps_nil {X : Cx} {pos : Pos} : PPs X pos [] [] [] := fun pins s σ H Q I h => pairTrees_nil_walk ⟨[], H, I, .nil, h⟩
theorem pps_cons {X : Cx} {pos : Pos} {k v : Expr} {ks : List (Option Expr)} {vs : List Expr} {tk tv : TE} {trs : List (TE × TE)} (hk : PE X k tk) (hv : PE X v tv) (hr : PPs X pos ks vs trs) :
    PPs X pos (some k :: ks) (v :: vs) ((tk, tv) :: trs) := fun pins s σ H Q I h =>
  pairTrees_cons_walk (thn (hk pins s σ H _ I h) fun u s1 ⟨x, H1, I1, rx, q1⟩ => thn (hv pins s1 σ H1 _ I1 q1) fun w2 s2 ⟨y, H2, I2, ry, q2⟩ =>
    thn (hr pins s2 σ H2 _ I2 q2) fun ws s3 ⟨ps, H3, I3, rel, q3⟩ => ⟨(x, y) :: ps, H3, I3, .cons ⟨rx, ry⟩ rel, q3⟩)
def mergeK (kvs more : List (Key × V)) : List (Key × V) := more.foldl (fun acc kv => putK acc kv.1 kv.2) kvs
theorem KV.merge : ∀ {more : List (Key × V)} {rs : List (Key × Value)} {kvs : List (Key × V)} {vs : List (Key × Value)}, KV more rs → KV kvs vs → KV (mergeK kvs more) (merged vs rs) := by
  intro more rs kvs vs r
  unfold KV at r
  induction r generalizing kvs vs with
  | nil => intro q; exact q
  | @cons p q ps qs h t ih =>
    intro r0
    have e : KV (putK kvs p.1 p.2) (stored vs q.1 q.2) := by
      have := r0.put p.1 h.2
      rw [← h.1]; exact this
    exact ih e
theorem length_mergeK : ∀ (more kvs : List (Key × V)), (mergeK kvs more).length ≤ kvs.length + more.length
  | [], kvs => by show kvs.length ≤ kvs.length + 0; omega
  | p :: r, kvs => by
    have h1 := length_mergeK r (putK kvs p.1 p.2)
    have h2 := length_putK kvs p.1 p.2
    show (mergeK (putK kvs p.1 p.2) r).length ≤ _
    rw [List.length_cons]; omega
theorem carries_of {P : Program} {w : World} : ∀ {kvs : List (Key × V)} {ws : List (Value × Value)}, VV (kvs.map fun kv => (kV kv.1, kv.2)) ws → ∃ rs, Carries (mixKind P w) ws rs ∧ KV kvs rs
  | [], _, r => by rw [List.map_nil] at r; cases r; exact ⟨[], True.intro, .nil⟩
  | p :: kvs, _, r => by
    rw [List.map_cons] at r
    cases r with
    | @cons a b as bs h t =>
      obtain ⟨rs, c, q⟩ := carries_of (P := P) (w := w) t
      obtain ⟨b1, b2⟩ := b
      exact ⟨(p.1, b2) :: rs, ⟨kV_is h.1, rfl, c⟩, .cons ⟨rfl, h.2⟩ q⟩
def tDisp (trs : List (TE × TE)) : TE := fun σ H Q => ∀ p, H p = none → tPairs trs σ (upd H p (.dK [])) fun ps H2 => H2 p = some (.dK []) ∧ ∃ kvs : List (Key × V), ps = kvs.map (fun kv => (kV kv.1, kv.2)) ∧ kvs.length ≤ 15 ∧ Q (.ref p) (upd H2 p (.dK (mergeK [] kvs)))
theorem pe_disp {X : Cx} {pos : Pos} {keys : List (Option Expr)} {values : List Expr} {trs : List (TE × TE)} (h : PPs X pos keys values trs) (hall : keys.all (·.isSome) = true) (hl : keys.length = values.length) (h0 : keys ≠ [])
    (h15 : keys.length ≤ 15) : PE X (.Dict keys values pos) (tDisp trs) := by
  intro pins s σ H Q I q
  have hn := I.hok.fresh (Nat.le_refl s.heap.objs.size)
  have I1 := I.laid (a := s.heap.objs.size) (o := .dK []) (h' := s.heap.push { cls := .type "dict", data := .dict #[] }) (t' := s.toks) (fun _ _ q => Heap.get?_push_of_some _ q) (Nat.le_refl _) (dk_empty s.heap I.big)
  refine wpAny_Dict_walk (knd := mixKind X.prog X.w) hall hl h0 h15 (thn (h pins _ σ _ _ I1 (q _ hn)) fun ws s2 ⟨ps, H2, I2, rel, e, kvs, ep, lk, q2⟩ => ?_)
  subst ep
  obtain ⟨rs, c, rk⟩ := carries_of (P := X.prog) (w := X.w) rel
  obtain ⟨z, hd, vs0, r0, dd⟩ := dk_of I2.hok e
  cases r0
  refine ⟨rs, c, dd, fun h' dd' hs => ⟨.ref s.heap.objs.size, _, ?_, rfl, q2⟩⟩
  have hz : (mergeK [] kvs).length ≤ sizeLine := by
    have h1 := length_mergeK kvs []
    rw [List.length_nil] at h1
    rw [sizeLine_eq]; omega
  have he : ∃ q, h'.get? s.heap.objs.size = some q := let ⟨q, _, _, hq, _⟩ := dd'; ⟨q, hq⟩
  exact d_write I2 (by rw [e]; exact True.intro) hs he (dk_new hz hd (rk.merge .nil) dd')
end L2
set_option Elab.async false
set_option linter.all false
set_option maxRecDepth 100000
set_option maxHeartbeats 4000000
namespace PX
open PySem PySem.Spec PyProof.Rows L2
inductive OK where
  | dct | set | fn (i : Nat) | exc (c : Nat)
  deriving DecidableEq
inductive D where
  | non | bl (b : Bool) | int (i : Int) | str (x : Str) | tup (l : List D) | lst (l : List D) | oth (k : OK) (ks vs : List D)
mutual
/-- the hash of ints and of tuples of such -/
def D.hash : D → Int
  | .int i => hashInt i
  | .tup l => reduceHash (Builtin.Tuple.tupleHashOf (D.hashL l))
  | _ => 0
def D.hashL : List D → List Int
  | [] => []
  | d :: l => D.hash d :: D.hashL l
end
def keyD : Key → D
  | .inl i => .int i
  | .inr x => .str x
def OthB (h : Option HO) (k : OK) (ks vs : List D) (us : List V) : Prop :=
  match k with
  | .dct => (∃ kvs : List (Key × V), h = some (.dK kvs) ∧ ks = kvs.map (fun p => keyD p.1) ∧ us = kvs.map (·.2)) ∨
      (∃ kvs : List (List Key × V), h = some (.dT kvs) ∧ ks = kvs.map (fun p => .tup (p.1.map keyD)) ∧ us = kvs.map (·.2))
  | .set => ks = [] ∧ ∃ zs : List (Int × V), h = some (.stt zs) ∧ zs.Perm ((D.hashL vs).zip us)
  | _ => False
theorem OthB.ex {h k ks vs us} (x : OthB h k ks vs us) : ∃ o, h = some o := by
  cases k with
  | dct => rcases x with ⟨_, e, _⟩ | ⟨_, e, _⟩ <;> exact ⟨_, e⟩
  | set => obtain ⟨_, _, e, _⟩ := x; exact ⟨_, e⟩
  | _ => exact x.elim
theorem OthB.keep {h h' : Option HO} {k ks vs us} (x : OthB h k ks vs us) (kp : ∀ o, h = some o → h' = some o) : OthB h' k ks vs us := by
  obtain ⟨o, e⟩ := x.ex
  rw [kp o e, ← e]; exact x
abbrev AP' := Addr → Prop
def KL (K : PySem.W.Frag) (a : Addr) (xs : List V) : Prop := ∃ (o : Obj) (its : Array Value) (n : Nat), K.lookup a = some o ∧ o.cls = .type "list" ∧ o.dict = none ∧ o.data = .seq its n ∧ its.size ≤ sizeLine ∧ Vals xs its.toList
def SqTO (K : PySem.W.Frag) (H : Hp) (O : AP') (a : Addr) (xs : List V) : Prop := H a = some (.tup xs) ∧ ¬ O a
def SqLO (K : PySem.W.Frag) (H : Hp) (O : AP') (a : Addr) (xs : List V) : Prop := (Rd H a (.lst xs) ∧ ¬ O a) ∨ KL K a xs
theorem SqTO.sq {K H O a xs} (h : SqTO K H O a xs) : SqT K H a xs := .inl (.inl h.1)
theorem SqLO.sq {K H O a xs} (h : SqLO K H O a xs) : SqL K H a xs := h.elim (fun z => .inl z.1) .inr
theorem Rd.mono {H H' : Hp} {a u} (h : Rd H a u) (k : ∀ o, H a = some o → H' a = some o) : Rd H' a u := by
  rcases h with h | ⟨o, h⟩
  · exact .inl (k _ h)
  · exact .inr ⟨o, k _ h⟩
theorem SqTO.mono {K H H'} {O O' : AP'} {a xs} (h : SqTO K H O a xs) (k : ∀ b o, H b = some o → ¬ O b → H' b = some o) (hO : ∀ b, H b ≠ none → O' b → O b) : SqTO K H' O' a xs :=
  ⟨k a _ h.1 h.2, fun z => h.2 (hO a (by rw [h.1]; simp) z)⟩
theorem SqLO.mono {K H H'} {O O' : AP'} {a xs} (h : SqLO K H O a xs) (k : ∀ b o, H b = some o → ¬ O b → H' b = some o) (hO : ∀ b, H b ≠ none → O' b → O b) : SqLO K H' O' a xs := by
  rcases h with ⟨r, n⟩ | h
  · refine .inl ⟨Rd.mono r fun o e => k a o e n, fun z => n (hO a ?_ z)⟩
    rcases r with r | ⟨_, r⟩ <;> (rw [r]; simp)
  · exact .inr h
mutual
/-- v is the datum, in H; nothing of it stands at an address of O -/
def Rep (K : PySem.W.Frag) (H : Hp) (O : AP') : D → V → Prop
  | .non, v => v = .non
  | .bl b, v => v = .bl b
  | .int i, v => v = .int i
  | .str x, v => v = .str x
  | .tup l, v => ∃ a xs, v = .ref a ∧ SqTO K H O a xs ∧ RepL K H O l xs
  | .lst l, v => ∃ a xs, v = .ref a ∧ SqLO K H O a xs ∧ RepL K H O l xs
  | .oth k ks vs, v => ∃ a us, v = .ref a ∧ (¬ O a ∧ OthB (H a) k ks vs us) ∧ RepL K H O vs us
def RepL (K : PySem.W.Frag) (H : Hp) (O : AP') : List D → List V → Prop
  | [], vs => vs = []
  | d :: l, vs => ∃ v r, vs = v :: r ∧ Rep K H O d v ∧ RepL K H O l r
end
mutual
theorem Rep.mono {K H H'} {O O' : AP'} (k : ∀ b o, H b = some o → ¬ O b → H' b = some o) (hO : ∀ b, H b ≠ none → O' b → O b) : ∀ {d : D} {v : V}, Rep K H O d v → Rep K H' O' d v
  | .non, _, h => h
  | .bl _, _, h => h
  | .int _, _, h => h
  | .str _, _, h => h
  | .tup l, _, h => by
    rw [Rep] at h ⊢
    obtain ⟨a, xs, e, s, r⟩ := h
    exact ⟨a, xs, e, s.mono k hO, RepL.mono k hO r⟩
  | .lst l, _, h => by
    rw [Rep] at h ⊢
    obtain ⟨a, xs, e, s, r⟩ := h
    exact ⟨a, xs, e, s.mono k hO, RepL.mono k hO r⟩
  | .oth kk ks vs, _, h => by
    rw [Rep] at h ⊢
    obtain ⟨a, us, e, s, r⟩ := h
    exact ⟨a, us, e, ⟨fun z => s.1 (hO a (by obtain ⟨o, q⟩ := s.2.ex; rw [q]; simp) z), s.2.keep fun o q => k a o q s.1⟩, RepL.mono k hO r⟩
theorem RepL.mono {K H H'} {O O' : AP'} (k : ∀ b o, H b = some o → ¬ O b → H' b = some o) (hO : ∀ b, H b ≠ none → O' b → O b) : ∀ {l : List D} {vs : List V}, RepL K H O l vs → RepL K H' O' l vs
  | [], _, h => h
  | d :: l, _, h => by
    rw [RepL] at h ⊢
    obtain ⟨v, r, e, h1, h2⟩ := h
    exact ⟨v, r, e, Rep.mono k hO h1, RepL.mono k hO h2⟩
end
theorem Rep.mkInt {K H O i} : Rep K H O (.int i) (.int i) := by rw [Rep]
theorem Rep.mkBl {K H O i} : Rep K H O (.bl i) (.bl i) := by rw [Rep]
theorem Rep.mkNon {K H O} : Rep K H O .non .non := by rw [Rep]
theorem Rep.mkStr {K H O i} : Rep K H O (.str i) (.str i) := by rw [Rep]
theorem Rep.int {K H O i v} (h : Rep K H O (.int i) v) : v = .int i := by rwa [Rep] at h
theorem Rep.bl {K H O i v} (h : Rep K H O (.bl i) v) : v = .bl i := by rwa [Rep] at h
theorem Rep.non {K H O v} (h : Rep K H O .non v) : v = .non := by rwa [Rep] at h
theorem Rep.str {K H O i v} (h : Rep K H O (.str i) v) : v = .str i := by rwa [Rep] at h
theorem Rep.tup {K H O l v} (h : Rep K H O (.tup l) v) : ∃ a xs, v = .ref a ∧ SqTO K H O a xs ∧ RepL K H O l xs := by rwa [Rep] at h
theorem Rep.lst {K H O l v} (h : Rep K H O (.lst l) v) : ∃ a xs, v = .ref a ∧ SqLO K H O a xs ∧ RepL K H O l xs := by rwa [Rep] at h
theorem Rep.oth {K H O k ks vs v} (h : Rep K H O (.oth k ks vs) v) : ∃ a us, v = .ref a ∧ (¬ O a ∧ OthB (H a) k ks vs us) ∧ RepL K H O vs us := by rwa [Rep] at h
theorem Rep.mkOth {K H O k ks vs a us} (n : ¬ O a) (h : OthB (H a) k ks vs us) (r : RepL K H O vs us) : Rep K H O (.oth k ks vs) (.ref a) := by rw [Rep]; exact ⟨a, us, rfl, ⟨n, h⟩, r⟩
theorem Rep.mkTup {K H O l a xs} (h : SqTO K H O a xs) (r : RepL K H O l xs) : Rep K H O (.tup l) (.ref a) := by rw [Rep]; exact ⟨a, xs, rfl, h, r⟩
theorem Rep.mkLst {K H O l a xs} (h : SqLO K H O a xs) (r : RepL K H O l xs) : Rep K H O (.lst l) (.ref a) := by rw [Rep]; exact ⟨a, xs, rfl, h, r⟩
theorem RepL.length {K H O} : ∀ {l : List D} {vs : List V}, RepL K H O l vs → vs.length = l.length
  | [], vs, h => by rw [RepL] at h; rw [h]; rfl
  | d :: l, vs, h => by
    rw [RepL] at h
    obtain ⟨v, r, rfl, _, h2⟩ := h
    simp [RepL.length h2]
theorem RepL.get {K H O} : ∀ {l : List D} {vs : List V} {i : Nat} {d : D}, RepL K H O l vs → l[i]? = some d → ∃ v, vs[i]? = some v ∧ Rep K H O d v
  | [], _, _, _, _, e => by simp at e
  | d :: l, vs, 0, d', h, e => by
    rw [RepL] at h
    obtain ⟨v, r, rfl, h1, _⟩ := h
    simp at e; subst e
    exact ⟨v, rfl, h1⟩
  | d :: l, vs, i + 1, d', h, e => by
    rw [RepL] at h
    obtain ⟨v, r, rfl, _, h2⟩ := h
    obtain ⟨w, h3, h4⟩ := RepL.get (i := i) h2 (by simpa using e)
    exact ⟨w, by simpa using h3, h4⟩
theorem RepL.append {K H O} : ∀ {l m : List D} {vs ws : List V}, RepL K H O l vs → RepL K H O m ws → RepL K H O (l ++ m) (vs ++ ws)
  | [], _, vs, _, h, h' => by rw [RepL] at h; subst h; exact h'
  | d :: l, _, vs, _, h, h' => by
    rw [RepL] at h
    obtain ⟨v, r, rfl, h1, h2⟩ := h
    show RepL K H O (d :: (l ++ _)) _
    rw [RepL]
    exact ⟨v, _, rfl, h1, RepL.append h2 h'⟩
theorem RepL.one {K H O} {d : D} {v : V} (h : Rep K H O d v) : RepL K H O [d] [v] := by
  rw [RepL]; exact ⟨v, [], rfl, h, by rw [RepL]⟩
theorem RepL.nil {K H O} : RepL K H O [] [] := by rw [RepL]
theorem RepL.cons {K H O} {d : D} {v : V} {l vs} (h : Rep K H O d v) (h' : RepL K H O l vs) : RepL K H O (d :: l) (v :: vs) := by
  rw [RepL]; exact ⟨v, vs, rfl, h, h'⟩
theorem RepL.take {K H O} : ∀ {l : List D} {vs : List V} (n : Nat), RepL K H O l vs → RepL K H O (l.take n) (vs.take n)
  | _, _, 0, _ => by simp [RepL]
  | [], vs, n + 1, h => by rw [RepL] at h; subst h; simp [RepL]
  | d :: l, vs, n + 1, h => by
    rw [RepL] at h
    obtain ⟨v, r, rfl, h1, h2⟩ := h
    exact RepL.cons h1 (RepL.take n h2)
theorem RepL.drop {K H O} : ∀ {l : List D} {vs : List V} (n : Nat), RepL K H O l vs → RepL K H O (l.drop n) (vs.drop n)
  | _, _, 0, h => h
  | [], vs, n + 1, h => by rw [RepL] at h; subst h; simp [RepL]
  | d :: l, vs, n + 1, h => by
    rw [RepL] at h
    obtain ⟨v, r, rfl, h1, h2⟩ := h
    exact RepL.drop n h2
theorem RepL.set {K H O} {d : D} {v : V} (hv : Rep K H O d v) : ∀ {l : List D} {vs : List V} (i : Nat), RepL K H O l vs → RepL K H O (l.set i d) (vs.set i v)
  | [], vs, i, h => by rw [RepL] at h; subst h; simp [RepL]
  | e :: l, vs, 0, h => by
    rw [RepL] at h
    obtain ⟨w, r, rfl, h1, h2⟩ := h
    exact RepL.cons hv h2
  | e :: l, vs, i + 1, h => by
    rw [RepL] at h
    obtain ⟨w, r, rfl, h1, h2⟩ := h
    exact RepL.cons h1 (RepL.set hv i h2)
abbrev Sl := Option (D × Bool)
abbrev Dn := List Sl
def OwnA (σ : L2.St) (δ : Dn) (a : Addr) : Prop := ∃ (i : Nat) (d : D), δ[i]? = some (some (d, true)) ∧ σ[i]? = some (some (V.ref a))
def OwnOk (K : PySem.W.Frag) (H : Hp) (O : AP') : D → Addr → Prop
  | .lst l, a => ∃ xs, H a = some (.lst xs) ∧ RepL K H O l xs
  | .oth k ks vs, a => ∃ us, OthB (H a) k ks vs us ∧ RepL K H O vs us
  | _, _ => False
theorem OwnOk.mono {K H H'} {O O' : AP'} {d : D} {a : Addr} (h : OwnOk K H O d a) (k : ∀ b o, H b = some o → ¬ O b → H' b = some o) (hO : ∀ b, H b ≠ none → O' b → O b) (ka : ∀ o, H a = some o → H' a = some o) : OwnOk K H' O' d a := by
  cases d with
  | lst l => obtain ⟨xs, e, r⟩ := h; exact ⟨xs, ka _ e, RepL.mono k hO r⟩
  | oth kk ks vs => obtain ⟨us, e, r⟩ := h; exact ⟨us, e.keep ka, RepL.mono k hO r⟩
  | _ => exact h
theorem OwnOk.some {K H} {O : AP'} {d : D} {a : Addr} (h : OwnOk K H O d a) : H a ≠ none := by
  cases d with
  | lst l => obtain ⟨xs, e, r⟩ := h; rw [e]; simp
  | oth kk ks vs => obtain ⟨us, e, r⟩ := h; obtain ⟨o, q⟩ := e.ex; rw [q]; simp
  | _ => exact h.elim
theorem OwnOk.rep {K H} {O O' : AP'} {d : D} {a : Addr} (h : OwnOk K H O d a) (na : ¬ O' a) (hO : ∀ b, H b ≠ none → O' b → O b) : Rep K H O' d (.ref a) := by
  cases d with
  | lst l =>
    obtain ⟨xs, e, r⟩ := h
    rw [Rep]
    exact ⟨a, xs, rfl, .inl ⟨.inl e, na⟩, RepL.mono (fun b o e _ => e) hO r⟩
  | oth kk ks vs =>
    obtain ⟨us, e, r⟩ := h
    exact Rep.mkOth na e (RepL.mono (fun b o e _ => e) hO r)
  | _ => exact h.elim
structure ER (K : PySem.W.Frag) (H : Hp) (T : AP') (σ : L2.St) (δ : Dn) : Prop where
  len : σ.length = δ.length
  val : ∀ (i : Nat) (d : D), δ[i]? = some (some (d, false)) → ∃ v, σ[i]? = some (some v) ∧ Rep K H (fun a => OwnA σ δ a ∨ T a) d v
  own : ∀ (i : Nat) (d : D), δ[i]? = some (some (d, true)) → ∃ a, σ[i]? = some (some (V.ref a)) ∧ OwnOk K H (fun a => OwnA σ δ a ∨ T a) d a
  inj : ∀ (i j : Nat) (d e : D) (a : Addr), δ[i]? = some (some (d, true)) → δ[j]? = some (some (e, true)) → σ[i]? = some (some (V.ref a)) → σ[j]? = some (some (V.ref a)) → i = j
  nT : ∀ a, OwnA σ δ a → ¬ T a
  dom : ∀ a, T a → H a ≠ none
theorem ER.ownDom {K H T σ δ} (E : ER K H T σ δ) {a : Addr} (h : OwnA σ δ a) : H a ≠ none := by
  obtain ⟨i, d, h1, h2⟩ := h
  obtain ⟨b, h3, h4⟩ := E.own i d h1
  rw [h2] at h3; cases h3
  exact h4.some
theorem ER.mono {K H H' σ δ} {T T' : AP'} (E : ER K H T σ δ) (k : ∀ b o, H b = some o → ¬ T b → H' b = some o) (hT : ∀ b, H b ≠ none → T' b → T b) (hd : ∀ a, T' a → H' a ≠ none) : ER K H' T' σ δ where
  len := E.len
  val := fun i d h => by
    obtain ⟨v, h1, h2⟩ := E.val i d h
    exact ⟨v, h1, Rep.mono (fun b o e n => k b o e fun z => n (.inr z)) (fun b hb z => z.elim .inl fun z => .inr (hT b hb z)) h2⟩
  own := fun i d h => by
    obtain ⟨a, h1, h2⟩ := E.own i d h
    exact ⟨a, h1, h2.mono (fun b o e n => k b o e fun z => n (.inr z)) (fun b hb z => z.elim .inl fun z => .inr (hT b hb z)) fun o e => k a o e (E.nT a ⟨i, d, h, h1⟩)⟩
  inj := E.inj
  nT := fun a h z => E.nT a h (hT a (E.ownDom h) z)
  dom := hd
theorem OwnA.set {σ : L2.St} {δ : Dn} {i : Nat} {d : D} {a : Addr} (h : OwnA σ (δ.set i (some (d, false))) a) : OwnA σ δ a := by
  obtain ⟨j, e, h1, h2⟩ := h
  rw [List.getElem?_set] at h1
  split at h1
  · split at h1 <;> simp at h1
  · exact ⟨j, e, h1, h2⟩
theorem ER.freeze {K H T σ δ} (E : ER K H T σ δ) {i : Nat} {d : D} {b : Bool} (h : δ[i]? = some (some (d, b))) : ER K H T σ (δ.set i (some (d, false))) ∧ ∃ v, σ[i]? = some (some v) ∧ Rep K H (fun a => OwnA σ (δ.set i (some (d, false))) a ∨ T a) d v := by
  have hi : i < δ.length := (List.getElem?_eq_some_iff.mp h).1
  have me : ∃ v, σ[i]? = some (some v) ∧ Rep K H (fun a => OwnA σ (δ.set i (some (d, false))) a ∨ T a) d v := by
    cases b with
    | false =>
      obtain ⟨v, h1, h2⟩ := E.val i d h
      exact ⟨v, h1, Rep.mono (fun _ _ e _ => e) (fun b _ z => z.elim (fun z => .inl z.set) .inr) h2⟩
    | true =>
      obtain ⟨a, h1, h2⟩ := E.own i d h
      refine ⟨.ref a, h1, h2.rep (fun z => ?_) fun b _ z => z.elim (fun z => .inl z.set) .inr⟩
      rcases z with ⟨j, e, h3, h4⟩ | z
      · rw [List.getElem?_set] at h3
        split at h3
        · first
            | (split at h3 <;> simp at h3)
            | simp at h3
        · rename_i hne
          exact hne (E.inj i j d e a h h3 h1 h4)
      · exact E.nT a ⟨i, d, h, h1⟩ z
  refine ⟨⟨by rw [List.length_set]; exact E.len, fun j e hj => ?_, fun j e hj => ?_, fun j k e f a hj hk h1 h2 => ?_, fun a z => E.nT a z.set, E.dom⟩, me⟩
  · by_cases hij : i = j
    · subst hij
      rw [List.getElem?_set_self hi] at hj
      cases hj
      exact me
    · rw [List.getElem?_set_ne hij] at hj
      obtain ⟨v, h1, h2⟩ := E.val j e hj
      exact ⟨v, h1, Rep.mono (fun _ _ e _ => e) (fun b _ z => z.elim (fun z => .inl z.set) .inr) h2⟩
  · by_cases hij : i = j
    · subst hij
      rw [List.getElem?_set_self hi] at hj
      cases hj
    · rw [List.getElem?_set_ne hij] at hj
      obtain ⟨a, h1, h2⟩ := E.own j e hj
      exact ⟨a, h1, h2.mono (fun _ _ e _ => e) (fun b _ z => z.elim (fun z => .inl z.set) .inr) fun _ e => e⟩
  · have g1 : δ[j]? = some (some (e, true)) := by
      by_cases hij : i = j
      · subst hij; rw [List.getElem?_set_self hi] at hj; cases hj
      · rwa [List.getElem?_set_ne hij] at hj
    have g2 : δ[k]? = some (some (f, true)) := by
      by_cases hij : i = k
      · subst hij; rw [List.getElem?_set_self hi] at hk; cases hk
      · rwa [List.getElem?_set_ne hij] at hk
    exact E.inj j k e f a g1 g2 h1 h2
def OwnI (σ : L2.St) (δ : Dn) (i : Nat) (a : Addr) : Prop := ∃ d : D, δ[i]? = some (some (d, true)) ∧ σ[i]? = some (some (V.ref a))
structure Keep (σ : L2.St) (δ : Dn) (H : Hp) (δ' : Dn) (H' : Hp) : Prop where
  kp : ∀ a o, H a = some o → ¬ OwnA σ δ a → H' a = some o
  owi : ∀ i a, OwnI σ δ' i a → OwnI σ δ i a
  dm : ∀ a, H a ≠ none → H' a ≠ none
theorem Keep.ow {σ δ H δ' H'} (k : Keep σ δ H δ' H') (a : Addr) (h : OwnA σ δ' a) : OwnA σ δ a := by
  obtain ⟨i, d, h1, h2⟩ := h
  obtain ⟨e, h3, h4⟩ := k.owi i a ⟨d, h1, h2⟩
  exact ⟨i, e, h3, h4⟩
theorem Keep.refl {σ δ H} : Keep σ δ H δ H := ⟨fun _ _ e _ => e, fun _ _ z => z, fun _ z => z⟩
theorem Keep.trans {σ δ δ1 δ2 H H1 H2} (x : Keep σ δ H δ1 H1) (y : Keep σ δ1 H1 δ2 H2) : Keep σ δ H δ2 H2 :=
  ⟨fun a o e n => y.kp a o (x.kp a o e n) fun z => n (x.ow a z), fun i a z => x.owi i a (y.owi i a z), fun a z => y.dm a (x.dm a z)⟩
theorem Keep.ext {σ δ H H1} (k : ∀ a o, H a = some o → H1 a = some o) : Keep σ δ H δ H1 := ⟨fun a o e _ => k a o e, fun _ _ z => z, fun a z => by
  cases h : H a with
  | none => exact absurd h z
  | some o => rw [k a o h]; simp⟩
theorem OwnI.set {σ : L2.St} {δ : Dn} {i j : Nat} {d : D} {a : Addr} (h : OwnI σ (δ.set i (some (d, false))) j a) : OwnI σ δ j a := by
  obtain ⟨e, h1, h2⟩ := h
  rw [List.getElem?_set] at h1
  split at h1
  · split at h1 <;> simp at h1
  · exact ⟨e, h1, h2⟩
theorem Keep.set {σ δ H i d} : Keep σ δ H (δ.set i (some (d, false))) H := ⟨fun _ _ e _ => e, fun _ _ z => z.set, fun _ z => z⟩
def Post (K : PySem.W.Frag) (T : AP') (σ : L2.St) (δ : Dn) (H : Hp) (r : D × Bool) (δ' : Dn) (v : V) (H' : Hp) : Prop :=
  Keep σ δ H δ' H' ∧
  match r with
  | (d, false) => ER K H' T σ δ' ∧ Rep K H' (fun a => OwnA σ δ' a ∨ T a) d v
  | (d, true) => ∃ p, v = .ref p ∧ H p = none ∧ ER K H' (fun a => T a ∨ a = p) σ δ' ∧ OwnOk K H' (fun a => OwnA σ δ' a ∨ T a ∨ a = p) d p
abbrev F := Dn → Option ((D × Bool) × Dn)
def tF (K : PySem.W.Frag) (f : F) : TE := fun σ H Q => ∃ δ T r δ', ER K H T σ δ ∧ f δ = some (r, δ') ∧ ∀ v H', Post K T σ δ H r δ' v H' → Q v H'
def PX (X : Cx) (e : Expr) (f : F) : Prop := PE X e (tF X.K f)
def Tmp (T : AP') (r : D × Bool) (v : V) : AP' := fun a => T a ∨ (r.2 = true ∧ v = .ref a)
section
variable {K : PySem.W.Frag} {T : AP'} {σ : L2.St} {δ δ1 δ2 : Dn} {H H1 H2 : Hp} {x y : D × Bool} {v u : V}
theorem Post.er (E : ER K H T σ δ) (P : Post K T σ δ H x δ1 v H1) : ER K H1 (Tmp T x v) σ δ1 := by
  obtain ⟨d, b⟩ := x
  cases b with
  | false =>
    refine P.2.1.mono (fun _ _ e _ => e) (fun b _ z => z.elim id fun z => absurd z.1 (by simp)) (fun a z => ?_)
    rcases z with z | z
    · exact P.2.1.dom a z
    · exact absurd z.1 (by simp)
  | true =>
    obtain ⟨p, rfl, hp, E1, o1⟩ := P.2
    refine E1.mono (fun _ _ e _ => e) (fun b _ z => z.elim .inl fun z => .inr (by have := z.2; cases this; rfl)) (fun a z => ?_)
    rcases z with z | z
    · exact E1.dom a (.inl z)
    · have := z.2; cases this; exact E1.dom _ (.inr rfl)
theorem Post.rep (E : ER K H T σ δ) (P : Post K T σ δ H x δ1 v H1) : ER K H1 T σ δ1 ∧ Rep K H1 (fun a => OwnA σ δ1 a ∨ T a) x.1 v := by
  obtain ⟨d, b⟩ := x
  cases b with
  | false => exact P.2
  | true =>
    obtain ⟨p, rfl, hp, E1, o1⟩ := P.2
    refine ⟨E1.mono (fun _ _ e _ => e) (fun b _ z => .inl z) (fun a z => E1.dom a (.inl z)), o1.rep (fun z => ?_) fun b _ z => z.elim .inl fun z => .inr (.inl z)⟩
    rcases z with z | z
    · exact E1.nT p z (.inr rfl)
    · exact E.dom p z hp
theorem Post.val (k : Keep σ δ H δ2 H2) (E : ER K H2 T σ δ2) {d : D} {w : V} (r : Rep K H2 (fun a => OwnA σ δ2 a ∨ T a) d w) : Post K T σ δ H (d, false) δ2 w H2 := ⟨k, E, r⟩
end
theorem some_pair {α β : Type} {a a' : α} {b b' : β} (h : some (a, b) = some (a', b')) : a = a' ∧ b = b' := by cases h; exact ⟨rfl, rfl⟩
def fC (d : D) : F := fun δ => some ((d, false), δ)
def fVar (i : Nat) : F := fun δ => match δ[i]? with
  | some (some (d, _)) => some ((d, false), δ.set i (some (d, false)))
  | _ => none
section
variable {X : Cx} {a b c : Expr} {pos : Pos} {fa fb fc : F}
theorem PX.imp {e : Expr} {t : TE} {f : F} (h : PE X e t) (k : ∀ σ H Q, tF X.K f σ H Q → t σ H Q) : PX X e f := fun pins s σ H Q I hw => h pins s σ H Q I (k σ H Q hw)
theorem px_int {i j} : PX X (.Constant (.int i) j pos) (fC (.int i)) := PX.imp pe_int fun σ H Q h => by
  obtain ⟨δ, T, r, δ', E, e, k⟩ := h
  cases e
  exact k _ _ (Post.val .refl E (by first | exact Rep.mkInt | exact Rep.mkBl | exact Rep.mkNon | exact Rep.mkStr))
theorem px_bl {i j} : PX X (.Constant (.bool i) j pos) (fC (.bl i)) := PX.imp pe_bl fun σ H Q h => by
  obtain ⟨δ, T, r, δ', E, e, k⟩ := h
  cases e
  exact k _ _ (Post.val .refl E (by first | exact Rep.mkInt | exact Rep.mkBl | exact Rep.mkNon | exact Rep.mkStr))
theorem px_non {j} : PX X (.Constant .none j pos) (fC .non) := PX.imp pe_non fun σ H Q h => by
  obtain ⟨δ, T, r, δ', E, e, k⟩ := h
  cases e
  exact k _ _ (Post.val .refl E (by first | exact Rep.mkInt | exact Rep.mkBl | exact Rep.mkNon | exact Rep.mkStr))
theorem px_str {i j} : PX X (.Constant (.str i) j pos) (fC (.str i)) := PX.imp pe_str fun σ H Q h => by
  obtain ⟨δ, T, r, δ', E, e, k⟩ := h
  cases e
  exact k _ _ (Post.val .refl E (by first | exact Rep.mkInt | exact Rep.mkBl | exact Rep.mkNon | exact Rep.mkStr))
theorem px_var {i : Nat} {x : Str} (hN : X.N[i]? = some x) (hv : Vis X.env.scope x) (hd : (x == ("__debug__" : Str)) = false) (hcd : (x == ("__classdict__" : Str)) = false) : PX X (.Name x pos) (fVar i) := PX.imp (pe_var hN hv hd hcd) fun σ H Q h => by
  obtain ⟨δ, T, r, δ', E, e, k⟩ := h
  unfold fVar at e
  cases hi : δ[i]? with
  | none => rw [hi] at e; cases e
  | some o =>
    cases o with
    | none => rw [hi] at e; cases e
    | some p =>
      obtain ⟨d, b⟩ := p
      rw [hi] at e
      cases e
      obtain ⟨E1, v, h1, h2⟩ := E.freeze hi
      exact ⟨v, h1, k v H (Post.val .set E1 h2)⟩
end
end PX
set_option Elab.async false
set_option linter.all false
set_option maxRecDepth 100000
set_option maxHeartbeats 4000000
namespace PX
open PySem PySem.Spec PyProof.Rows L2
inductive Opd where
  | val (r : D × Bool) | slot (i : Nat)
def res (δ : Dn) : Opd → Option D
  | .val r => some r.1
  | .slot i => match δ[i]? with
    | some (some (d, _)) => some d
    | _ => none
def View (K : PySem.W.Frag) (H : Hp) (O : AP') (d : D) (v : V) : Prop := Rep K H O d v ∨ ∃ a, v = .ref a ∧ OwnOk K H O d a
abbrev FO := Dn → Option (Opd × Dn)
def PostO (K : PySem.W.Frag) (T : AP') (σ : L2.St) (δ : Dn) (H : Hp) (o : Opd) (δ' : Dn) (v : V) (H' : Hp) : Prop :=
  match o with
  | .val r => Post K T σ δ H r δ' v H'
  | .slot i => Keep σ δ H δ' H' ∧ ER K H' T σ δ' ∧ σ[i]? = some (some v)
def TmpO (T : AP') (o : Opd) (v : V) : AP' := match o with
  | .val r => Tmp T r v
  | .slot _ => T
def tO (K : PySem.W.Frag) (f : FO) : TE := fun σ H Q => ∃ δ T o δ', ER K H T σ δ ∧ f δ = some (o, δ') ∧ ∀ v H', PostO K T σ δ H o δ' v H' → Q v H'
def PO (X : Cx) (e : Expr) (f : FO) : Prop := PE X e (tO X.K f)
def oVal (f : F) : FO := fun δ => (f δ).bind fun p => some (.val p.1, p.2)
def oVar (i : Nat) : FO := fun δ => match δ[i]? with
  | some (some _) => some (.slot i, δ)
  | _ => none
theorem PE.imp' {X : Cx} {e : Expr} {t t' : TE} (h : PE X e t) (k : ∀ σ H Q, t' σ H Q → t σ H Q) : PE X e t' := fun pins s σ H Q I hw => h pins s σ H Q I (k σ H Q hw)
section
variable {X : Cx} {pos : Pos}
theorem PX.po {e : Expr} {f : F} (h : PX X e f) : PO X e (oVal f) := PE.imp' h fun σ H Q hw => by
  obtain ⟨δ, T, o, δ', E, e, k⟩ := hw
  unfold oVal at e
  cases h1 : f δ with
  | none => rw [h1] at e; cases e
  | some p =>
    obtain ⟨r, δ1⟩ := p
    rw [h1] at e
    obtain ⟨rfl, rfl⟩ := some_pair e
    exact ⟨δ, T, r, δ1, E, h1, fun v H' P => k v H' P⟩
theorem po_var {i : Nat} {x : Str} (hN : X.N[i]? = some x) (hv : Vis X.env.scope x) (hd : (x == ("__debug__" : Str)) = false) (hcd : (x == ("__classdict__" : Str)) = false) : PO X (.Name x pos) (oVar i) := PE.imp' (pe_var hN hv hd hcd) fun σ H Q h => by
  obtain ⟨δ, T, o, δ', E, e, k⟩ := h
  unfold oVar at e
  cases hi : δ[i]? with
  | none => rw [hi] at e; cases e
  | some q =>
    cases q with
    | none => rw [hi] at e; cases e
    | some p =>
      obtain ⟨d, b⟩ := p
      rw [hi] at e
      obtain ⟨rfl, rfl⟩ := some_pair e
      obtain ⟨E1, v, h1, h2⟩ := E.freeze hi
      exact ⟨v, h1, k v H ⟨.refl, E, h1⟩⟩
end
structure Ops (K : PySem.W.Frag) (T : AP') (σ : L2.St) (δ : Dn) (H : Hp) (os : List Opd) (vs : List V) (δ' : Dn) (H' : Hp) (T' : AP') : Prop where
  len : os.length = vs.length
  keep : Keep σ δ H δ' H'
  er : ER K H' T' σ δ'
  tt : ∀ a, T a → T' a
  val : ∀ (j : Nat) (d : D) (v : V), os[j]? = some (.val (d, false)) → vs[j]? = some v → Rep K H' (fun a => OwnA σ δ' a ∨ T a) d v
  tmp : ∀ (j : Nat) (d : D) (v : V), os[j]? = some (.val (d, true)) → vs[j]? = some v → ∃ p, v = .ref p ∧ T' p ∧ H p = none ∧ OwnOk K H' (fun a => OwnA σ δ' a ∨ T a) d p
  slt : ∀ (j i : Nat) (v : V), os[j]? = some (.slot i) → vs[j]? = some v → σ[i]? = some (some v)
section
variable {K : PySem.W.Frag} {T T' : AP'} {σ : L2.St} {δ δ' δ2 : Dn} {H H' H2 : Hp} {os : List Opd} {vs : List V} {o : Opd} {v : V}
theorem Ops.nil (E : ER K H T σ δ) : Ops K T σ δ H [] [] δ H T := ⟨rfl, .refl, E, fun _ z => z, fun j d v h => by simp at h, fun j d v h => by simp at h, fun j i v h => by simp at h⟩
theorem PostO.keep (P : PostO K T σ δ H o δ' v H') : Keep σ δ H δ' H' := by
  cases o with
  | val r => exact P.1
  | slot i => exact P.1
theorem PostO.er (E : ER K H T σ δ) (P : PostO K T σ δ H o δ' v H') : ER K H' (TmpO T o v) σ δ' := by
  cases o with
  | val r => exact Post.er E P
  | slot i => exact P.2.1
end
end PX
set_option Elab.async false
set_option linter.all false
set_option maxRecDepth 100000
set_option maxHeartbeats 4000000
namespace PX
open PySem PySem.Spec PyProof.Rows L2
def Gen (K : PySem.W.Frag) (H : Hp) (O : AP') (z : D × Bool) (Q : VK) : Prop :=
  match z with
  | (d, false) => ∀ w H', (∀ a o, H a = some o → H' a = some o) → Rep K H' O d w → Q w H'
  | (d, true) => ∀ p H', H p = none → (∀ a o, H a = some o → H' a = some o) → OwnOk K H' (fun a => O a ∨ a = p) d p → Q (.ref p) H'
section
variable {K : PySem.W.Frag} {T T' : AP'} {σ : L2.St} {δ δ1 δ' δ2 : Dn} {H H1 H' H2 : Hp} {os : List Opd} {vs : List V} {o : Opd} {v : V} {z : D × Bool} {Q : VK}
theorem Ops.cons (E : ER K H T σ δ) (P : PostO K T σ δ H o δ1 v H1) (B : Ops K (TmpO T o v) σ δ1 H1 os vs δ2 H2 T') : Ops K T σ δ H (o :: os) (v :: vs) δ2 H2 T' := by
  have E1 := P.er E
  have p1 := B.keep.kp
  have p2 := B.keep.ow
  have tt1 : ∀ a, T a → TmpO T o v a := fun a z => by
    cases o with
    | val r => exact .inl z
    | slot i => exact z
  refine ⟨by simp [B.len], P.keep.trans B.keep, B.er, fun a z => B.tt a (tt1 a z), fun j d w h1 h2 => ?_, fun j d w h1 h2 => ?_, fun j i w h1 h2 => ?_⟩
  · cases j with
    | zero =>
      simp at h1 h2
      subst h1; subst h2
      have P' : Post K T σ δ H (d, false) δ1 v H1 := P
      exact Rep.mono (fun b ob e n => p1 b ob e fun z => n (.inl z)) (fun b _ z => z.elim (fun z => Or.inl (p2 b z)) Or.inr) (P'.rep E).2
    | succ j => exact Rep.mono (fun _ _ e _ => e) (fun b _ z => z.elim Or.inl fun z => Or.inr (tt1 b z)) (B.val j d w (by simpa using h1) (by simpa using h2))
  · cases j with
    | zero =>
      simp at h1 h2
      subst h1; subst h2
      have P' : Post K T σ δ H (d, true) δ1 v H1 := P
      obtain ⟨p, rfl, hp, E3, ok⟩ := P'.2
      have tp : TmpO T (.val (d, true)) (V.ref p) p := .inr ⟨rfl, rfl⟩
      refine ⟨p, rfl, B.tt p tp, hp, ok.mono (fun b ob e n => p1 b ob e fun z => n (.inl z)) (fun b _ z => z.elim (fun z => Or.inl (p2 b z)) fun z => Or.inr (Or.inl z)) fun ob e => p1 p ob e fun z => E1.nT p z tp⟩
    | succ j =>
      obtain ⟨p, rfl, tp, hp, ok⟩ := B.tmp j d w (by simpa using h1) (by simpa using h2)
      refine ⟨p, rfl, tp, ?_, ok.mono (fun _ _ e _ => e) (fun b _ z => z.elim Or.inl fun z => Or.inr (tt1 b z)) fun _ e => e⟩
      cases hH : H p with
      | none => rfl
      | some ob => exact absurd hp (P.keep.dm p (by rw [hH]; simp))
  · cases j with
    | zero =>
      simp at h1 h2
      subst h1; subst h2
      exact P.2.2
    | succ j => exact B.slt j i w (by simpa using h1) (by simpa using h2)
theorem Ops.view (B : Ops K T σ δ H os vs δ' H' T') {j : Nat} {d : D} (h1 : os[j]? = some o) (h2 : vs[j]? = some v) (hr : res δ' o = some d) : View K H' (fun a => OwnA σ δ' a ∨ T a) d v := by
  cases o with
  | val r =>
    obtain ⟨e, b⟩ := r
    have hd : e = d := Option.some.inj hr
    subst hd
    cases b with
    | false => exact .inl (B.val j e v h1 h2)
    | true =>
      obtain ⟨p, rfl, _, _, ok⟩ := B.tmp j e v h1 h2
      exact .inr ⟨p, rfl, ok⟩
  | slot i =>
    have hs := B.slt j i v h1 h2
    unfold res at hr; dsimp only at hr
    cases hi : δ'[i]? with
    | none => rw [hi] at hr; cases hr
    | some q =>
      cases q with
      | none => rw [hi] at hr; cases hr
      | some p =>
        obtain ⟨e, b⟩ := p
        rw [hi] at hr
        have hd : e = d := Option.some.inj hr
        subst hd
        cases b with
        | false =>
          obtain ⟨w, h3, h4⟩ := B.er.val i e hi
          rw [hs] at h3; cases h3
          exact .inl (Rep.mono (fun _ _ e _ => e) (fun b _ z => z.elim Or.inl fun z => Or.inr (B.tt b z)) h4)
        | true =>
          obtain ⟨a, h3, h4⟩ := B.er.own i e hi
          rw [hs] at h3; cases h3
          exact .inr ⟨a, rfl, h4.mono (fun _ _ e _ => e) (fun b _ z => z.elim Or.inl fun z => Or.inr (B.tt b z)) fun _ e => e⟩
theorem Ops.done (B : Ops K T σ δ H os vs δ' H' T') (k : ∀ v H2, Post K T σ δ H z δ' v H2 → Q v H2) : Gen K H' (fun a => OwnA σ δ' a ∨ T a) z Q := by
  obtain ⟨d, b⟩ := z
  have dom : ∀ {H2 : Hp}, (∀ a o, H' a = some o → H2 a = some o) → ∀ a, T a → H2 a ≠ none := fun {H2} hx a z => by
    have := B.er.dom a (B.tt a z)
    cases h : H' a with
    | none => exact absurd h this
    | some o => rw [hx a o h]; simp
  cases b with
  | false =>
    intro w H2 hx r
    exact k w H2 ⟨B.keep.trans (.ext hx), B.er.mono (fun b o e _ => hx b o e) (fun b _ z => B.tt b z) (dom hx), r⟩
  | true =>
    intro p H2 hp hx ok
    have hp0 : H p = none := by
      cases hH : H p with
      | none => rfl
      | some ob => exact absurd hp (B.keep.dm p (by rw [hH]; simp))
    refine k (.ref p) H2 ⟨B.keep.trans (.ext hx), p, rfl, hp0, B.er.mono (fun b o e _ => hx b o e) (fun b hb z => z.elim (B.tt b) fun z => absurd (z ▸ hp) hb) (fun a z => ?_), ok.mono (fun _ _ e _ => e) (fun b _ z => ?_) fun _ e => e⟩
    · rcases z with z | z
      · exact dom hx a z
      · subst z; exact ok.some
    · rcases z with z | z | z
      · exact Or.inl (Or.inl z)
      · exact Or.inl (Or.inr z)
      · exact Or.inr z
theorem Gen.int {O : AP'} {i : Int} (g : Gen K H O (.int i, false) Q) : Q (.int i) H := g _ H (fun _ _ e => e) Rep.mkInt
theorem Gen.bl {O : AP'} {i : Bool} (g : Gen K H O (.bl i, false) Q) : Q (.bl i) H := g _ H (fun _ _ e => e) Rep.mkBl
theorem upd_ext {H : Hp} {p : Addr} {o : HO} (hp : H p = none) : ∀ a u, H a = some u → upd H p o a = some u := fun a u e => by rw [upd_ne (by intro z; subst z; rw [e] at hp; cases hp)]; exact e
theorem Gen.lst {O : AP'} {l : List D} {xs : List V} {p : Addr} (g : Gen K H O (.lst l, true) Q) (hp : H p = none) (r : RepL K H O l xs) : Q (.ref p) (upd H p (.lst xs)) :=
  g p _ hp (upd_ext hp) ⟨xs, upd_same, RepL.mono (fun b o e _ => upd_ext hp b o e) (fun b hb z => z.elim id fun z => absurd (z ▸ hp) hb) r⟩
theorem Gen.tup {O : AP'} {l : List D} {xs : List V} {p : Addr} (g : Gen K H O (.tup l, false) Q) (hp : H p = none) (np : ¬ O p) (r : RepL K H O l xs) : Q (.ref p) (upd H p (.tup xs)) :=
  g _ _ (upd_ext hp) (Rep.mkTup ⟨upd_same, np⟩ (RepL.mono (fun b o e _ => upd_ext hp b o e) (fun b hb z => z) r))
theorem Ops.np (B : Ops K T σ δ H os vs δ' H' T') {p : Addr} (hp : H' p = none) : ¬ (OwnA σ δ' p ∨ T p) := fun z => z.elim (fun z => B.er.ownDom z hp) fun z => B.er.dom p (B.tt p z) hp
end
def fOp1 (g : D → Option (D × Bool)) (fa : FO) : F := fun δ => (fa δ).bind fun p => (res p.2 p.1).bind fun x => (g x).bind fun z => some (z, p.2)
def fOp2 (g : D → D → Option (D × Bool)) (fa fb : FO) : F := fun δ => (fa δ).bind fun p => (fb p.2).bind fun q => (res q.2 p.1).bind fun x => (res q.2 q.1).bind fun y => (g x y).bind fun z => some (z, q.2)
def fArgs : List FO → Dn → Option (List Opd × Dn)
  | [], δ => some ([], δ)
  | f :: fs, δ => (f δ).bind fun p => (fArgs fs p.2).bind fun q => some (p.1 :: q.1, q.2)
def resL (δ : Dn) : List Opd → Option (List D)
  | [] => some []
  | o :: os => (res δ o).bind fun d => (resL δ os).bind fun l => some (d :: l)
def fCall (g : List D → Option (D × Bool)) (fs : List FO) : F := fun δ => (fArgs fs δ).bind fun p => (resL p.2 p.1).bind fun ds => (g ds).bind fun z => some (z, p.2)
def tA (K : PySem.W.Frag) (fs : List FO) : TA := fun σ H Q => ∃ δ T os δ', ER K H T σ δ ∧ fArgs fs δ = some (os, δ') ∧ ∀ vs H' T', Ops K T σ δ H os vs δ' H' T' → Q vs H'
section
variable {X : Cx} {e a b : Expr} {es : List Expr} {fa fb : FO} {fs : List FO} {pos : Pos}
theorem bind_some' {α β : Type} {x : Option α} {f : α → Option β} {b : β} (h : x.bind f = some b) : ∃ a, x = some a ∧ f a = some b := by
  cases x with
  | none => cases h
  | some a => exact ⟨a, rfl, h⟩
def R1Ok (K : PySem.W.Frag) (r : V → Hp → VK → Prop) (g : D → Option (D × Bool)) : Prop :=
  ∀ x z v H (O : AP') (Q : VK), (∀ p, H p = none → ¬ O p) → View K H O x v → g x = some z → Gen K H O z Q → r v H Q
def R2Ok (K : PySem.W.Frag) (r : R2) (g : D → D → Option (D × Bool)) : Prop :=
  ∀ x y z v u H (O : AP') (Q : VK), (∀ p, H p = none → ¬ O p) → View K H O x v → View K H O y u → g x y = some z → Gen K H O z Q → r v u H Q
def RnOk (K : PySem.W.Frag) (r : List V → Hp → VK → Prop) (g : List D → Option (D × Bool)) : Prop :=
  ∀ ds z vs H (O : AP') (Q : VK), (∀ p, H p = none → ¬ O p) → ds.length = vs.length → (∀ (j : Nat) d v, ds[j]? = some d → vs[j]? = some v → View K H O d v) → g ds = some z → Gen K H O z Q → r vs H Q
theorem px_op1 {r : V → Hp → VK → Prop} {g : D → Option (D × Bool)} (h : PE X e (tUn r (tO X.K fa))) (hr : R1Ok X.K r g) : PX X e (fOp1 g fa) := PX.imp h fun σ H Q hw => by
  obtain ⟨δ, T, rr, δ', E, e, k⟩ := hw
  obtain ⟨⟨o, δ1⟩, h1, e⟩ := bind_some' e
  obtain ⟨x, h2, e⟩ := bind_some' e
  obtain ⟨z, h3, e⟩ := bind_some' e
  obtain ⟨rfl, rfl⟩ := some_pair e
  refine ⟨δ, T, o, δ1, E, h1, fun v H1 P1 => ?_⟩
  have B := Ops.cons E P1 (Ops.nil (P1.er E))
  exact hr x z v H1 _ Q (fun p hp => B.np hp) (B.view (j := 0) rfl rfl h2) h3 (B.done k)
theorem px_op2 {r : R2} {g : D → D → Option (D × Bool)} (h : PE X e (tOp r (tO X.K fa) (tO X.K fb))) (hr : R2Ok X.K r g) : PX X e (fOp2 g fa fb) := PX.imp h fun σ H Q hw => by
  obtain ⟨δ, T, rr, δ', E, e, k⟩ := hw
  obtain ⟨⟨o, δ1⟩, h1, e⟩ := bind_some' e
  obtain ⟨⟨o2, δ2⟩, h2, e⟩ := bind_some' e
  obtain ⟨x, h3, e⟩ := bind_some' e
  obtain ⟨y, h4, e⟩ := bind_some' e
  obtain ⟨z, h5, e⟩ := bind_some' e
  obtain ⟨rfl, rfl⟩ := some_pair e
  refine ⟨δ, T, o, δ1, E, h1, fun v H1 P1 => ⟨δ1, TmpO T o v, o2, δ2, P1.er E, h2, fun u H2 P2 => ?_⟩⟩
  have B := Ops.cons E P1 (Ops.cons (P1.er E) P2 (Ops.nil (P2.er (P1.er E))))
  exact hr x y z v u H2 _ Q (fun p hp => B.np hp) (B.view (j := 0) rfl rfl h3) (B.view (j := 1) rfl rfl h4) h5 (B.done k)
theorem pa_nilX : PA X [] (tA X.K []) := fun pos pins s σ H Q I h => by
  obtain ⟨δ, T, os, δ', E, e, k⟩ := h
  obtain ⟨rfl, rfl⟩ := some_pair e
  exact pa_nil pos pins s σ H Q I (k [] H T (Ops.nil E))
theorem pa_consX (ha : PO X e fa) (hr : PA X es (tA X.K fs)) (hs : starEach (e :: es) X.env = (false, eval e X.env) :: starEach es X.env) : PA X (e :: es) (tA X.K (fa :: fs)) := fun pos pins s σ H Q I h => by
  obtain ⟨δ, T, os, δ', E, e, k⟩ := h
  unfold fArgs at e
  obtain ⟨⟨o, δ1⟩, h1, e⟩ := bind_some' e
  obtain ⟨⟨os2, δ2⟩, h2, e⟩ := bind_some' e
  obtain ⟨rfl, rfl⟩ := some_pair e
  exact pa_cons ha hr hs pos pins s σ H Q I ⟨δ, T, o, δ1, E, h1, fun v H1 P1 => ⟨δ1, TmpO T o v, os2, δ2, P1.er E, h2, fun vs H2 T2 B => k _ H2 T2 (Ops.cons E P1 B)⟩⟩
theorem resL_get {δ : Dn} : ∀ {os : List Opd} {ds : List D}, resL δ os = some ds → ds.length = os.length ∧ ∀ (j : Nat) d, ds[j]? = some d → ∃ o, os[j]? = some o ∧ res δ o = some d
  | [], ds, h => by cases h; exact ⟨rfl, fun j d h => by simp at h⟩
  | o :: os, ds, h => by
    unfold resL at h
    obtain ⟨d, h1, h⟩ := bind_some' h
    obtain ⟨l, h2, h⟩ := bind_some' h
    cases h
    obtain ⟨h3, h4⟩ := resL_get h2
    refine ⟨by simp [h3], fun j e he => ?_⟩
    cases j with
    | zero => simp at he; subst he; exact ⟨o, rfl, h1⟩
    | succ j =>
      obtain ⟨o', q1, q2⟩ := h4 j e (by simpa using he)
      exact ⟨o', by simpa using q1, q2⟩
theorem px_call {r : List V → Hp → VK → Prop} {g : List D → Option (D × Bool)} (h : PE X e (tCB r (tA X.K fs))) (hr : RnOk X.K r g) : PX X e (fCall g fs) := PX.imp h fun σ H Q hw => by
  obtain ⟨δ, T, rr, δ', E, e, k⟩ := hw
  obtain ⟨⟨os, δ1⟩, h1, e⟩ := bind_some' e
  obtain ⟨ds, h2, e⟩ := bind_some' e
  obtain ⟨z, h3, e⟩ := bind_some' e
  obtain ⟨rfl, rfl⟩ := some_pair e
  obtain ⟨h4, h5⟩ := resL_get h2
  refine ⟨δ, T, os, δ1, E, h1, fun vs H1 T1 B => ?_⟩
  refine hr ds z vs H1 _ Q (fun p hp => B.np hp) (h4.trans B.len) (fun j d v hd hv => ?_) h3 (B.done k)
  obtain ⟨o, ho, hres⟩ := h5 j d hd
  exact B.view ho hv hres
end
end PX
set_option Elab.async false
set_option linter.all false
set_option maxRecDepth 100000
set_option maxHeartbeats 4000000
namespace PX
open PySem PySem.Spec PyProof.Rows L2 PySem.SeqAt
mutual
/-- == of data -/
def D.eqb : D → D → Bool
  | .non, .non => true
  | .bl a, .bl b => a == b
  | .bl a, .int b => (if a then 1 else 0) == b
  | .int a, .bl b => a == (if b then 1 else 0)
  | .int a, .int b => a == b
  | .str a, .str b => a == b
  | .tup l, .tup m => D.eqbL l m
  | .lst l, .lst m => D.eqbL l m
  | .oth _ _ _, .oth _ _ _ => true
  | _, _ => false
def D.eqbL : List D → List D → Bool
  | [], [] => true
  | a :: l, b :: m => D.eqb a b && D.eqbL l m
  | _, _ => false
end
mutual
def D.dep : D → Nat
  | .tup l => D.depL l + 1
  | .lst l => D.depL l + 1
  | .oth _ _ _ => 20000
  | _ => 0
def D.depL : List D → Nat
  | [] => 0
  | d :: l => max (D.dep d) (D.depL l)
end
mutual
theorem D.eqb_refl : ∀ d : D, D.eqb d d = true
  | .non => rfl
  | .bl a => by simp [D.eqb]
  | .int a => by simp [D.eqb]
  | .str a => by simp [D.eqb]
  | .tup l => by rw [D.eqb]; exact D.eqbL_refl l
  | .lst l => by rw [D.eqb]; exact D.eqbL_refl l
  | .oth _ _ _ => by rw [D.eqb]
theorem D.eqbL_refl : ∀ l : List D, D.eqbL l l = true
  | [] => rfl
  | d :: l => by rw [D.eqbL, D.eqb_refl d, D.eqbL_refl l]; rfl
end
theorem D.dep_mem {d : D} : ∀ {l : List D} {j : Nat}, l[j]? = some d → d.dep ≤ D.depL l
  | [], j, h => by simp at h
  | e :: l, 0, h => by simp at h; subst h; rw [D.depL]; exact Nat.le_max_left _ _
  | e :: l, j + 1, h => by rw [D.depL]; exact Nat.le_trans (D.dep_mem (by simpa using h)) (Nat.le_max_right _ _)
def eqAtJ (l m : List D) (j : Nat) : Bool := match l[j]?, m[j]? with
  | some d, some e => D.eqb d e
  | _, _ => true
theorem eqAtJ_all : ∀ l m : List D, ((List.range (min l.length m.length)).all (eqAtJ l m) && l.length == m.length) = D.eqbL l m
  | [], [] => rfl
  | [], e :: m => by simp [D.eqbL]
  | d :: l, [] => by simp [D.eqbL]
  | d :: l, e :: m => by
    rw [D.eqbL, ← eqAtJ_all l m]
    simp only [List.length_cons, Nat.succ_min_succ, List.range_succ_eq_map, List.all_cons, List.all_map, Function.comp_def]
    have h0 : eqAtJ (d :: l) (e :: m) 0 = D.eqb d e := rfl
    have h1 : (fun x => eqAtJ (d :: l) (e :: m) (Nat.succ x)) = eqAtJ l m := by funext x; simp [eqAtJ]
    rw [h0]
    simp only [h1, Bool.and_assoc]
    congr 2
    simp
section
variable {X : Cx} {pins : List (Addr × Obj)} {σ : L2.St} {H : Hp} {s : Shared}
theorem view_tup {O : AP'} {l : List D} {v : V} (h : View X.K H O (.tup l) v) : ∃ a xs, v = .ref a ∧ SqT X.K H a xs ∧ RepL X.K H O l xs := by
  rcases h with h | ⟨a, rfl, h⟩
  · obtain ⟨a, xs, e, q, r⟩ := h.tup
    exact ⟨a, xs, e, q.sq, r⟩
  · exact h.elim
theorem view_lst {O : AP'} {l : List D} {v : V} (h : View X.K H O (.lst l) v) : ∃ a xs, v = .ref a ∧ SqL X.K H a xs ∧ RepL X.K H O l xs := by
  rcases h with h | ⟨a, rfl, h⟩
  · obtain ⟨a, xs, e, q, r⟩ := h.lst
    exact ⟨a, xs, e, q.sq, r⟩
  · obtain ⟨xs, e, r⟩ := h
    exact ⟨a, xs, rfl, .inl (.inl e), r⟩
theorem RepL.views {O : AP'} {l : List D} {xs : List V} (r : RepL X.K H O l xs) {j : Nat} {d : D} {v : V} (h1 : l[j]? = some d) (h2 : xs[j]? = some v) : Rep X.K H O d v := by
  obtain ⟨w, h3, h4⟩ := r.get h1
  rw [h2] at h3; cases h3
  exact h4
theorem othCls (I : Inv X pins σ H s) {a : Addr} {us : List V} {k : OK} {ks vs : List D} (h : OthB (H a) k ks vs us) : ∃ o, s.heap.get? a = some o ∧ (o.cls = .type "dict" ∨ o.cls = .type "set") := by
  cases k with
  | dct =>
    rcases h with ⟨kvs, e, _⟩ | ⟨kvs, e, _⟩
    · obtain ⟨_, _, vs, _, o, es, ep, h1, h2, _⟩ := (show ObjOk X.prog X.w H s.heap a (.dK kvs) from I.hok a _ e)
      exact ⟨o, h1, .inl h2.1⟩
    · obtain ⟨_, _, xs, _, o, es, ep, h1, h2, _⟩ := (show ObjOk X.prog X.w H s.heap a (.dT kvs) from I.hok a _ e)
      exact ⟨o, h1, .inl h2.1⟩
  | set =>
    obtain ⟨_, zs, e, _⟩ := h
    obtain ⟨es, n, t, h1, _⟩ := (show ObjOk X.prog X.w H s.heap a (.stt zs) from I.hok a _ e)
    exact ⟨_, h1, .inr rfl⟩
  | _ => exact h.elim
theorem sq_apart (I : Inv X pins σ H s) {a : Addr} {xs ys : List V} (h1 : SqT X.K H a xs) (h2 : SqL X.K H a ys) : False := by
  obtain ⟨its, _, ⟨o, e, c, _⟩, _⟩ := I.tuple h1
  obtain ⟨its2, _, ⟨o2, n2, e2, c2, _⟩, _⟩ := I.list h2
  rw [e] at e2; cases e2
  rw [c] at c2; exact absurd c2 (by simp)
theorem oth_tup (I : Inv X pins σ H s) {a : Addr} {xs us : List V} {k : OK} {ks vs : List D} (h1 : SqT X.K H a xs) (h2 : OthB (H a) k ks vs us) : False := by
  obtain ⟨its, _, ⟨o, e, c, _⟩, _⟩ := I.tuple h1
  obtain ⟨o2, e2, c2⟩ := othCls I h2
  rw [e] at e2; cases e2
  rw [c] at c2; rcases c2 with c2 | c2 <;> exact absurd c2 (by simp)
theorem oth_lst (I : Inv X pins σ H s) {a : Addr} {xs us : List V} {k : OK} {ks vs : List D} (h1 : SqL X.K H a xs) (h2 : OthB (H a) k ks vs us) : False := by
  obtain ⟨its, _, ⟨o, n, e, c, _⟩, _⟩ := I.list h1
  obtain ⟨o2, e2, c2⟩ := othCls I h2
  rw [e] at e2; cases e2
  rw [c] at c2; rcases c2 with c2 | c2 <;> exact absurd c2 (by simp)
mutual
theorem Rep.inj (I : Inv X pins σ H s) {O O' : AP'} : ∀ {d e : D} {v : V}, d.dep < 20000 → Rep X.K H O d v → Rep X.K H O' e v → d = e
  | .non, e, v, hz, h, h' => by
    have := h.non; subst this
    cases e with
    | non => rfl
    | bl b => have := h'.bl; cases this
    | int b => have := h'.int; cases this
    | str b => have := h'.str; cases this
    | tup m => obtain ⟨a, xs, z, _⟩ := h'.tup; cases z
    | lst m => obtain ⟨a, xs, z, _⟩ := h'.lst; cases z
    | oth m m1 m2 => obtain ⟨a, xs, z, _⟩ := h'.oth; cases z
  | .bl b, e, v, hz, h, h' => by
    have := h.bl; subst this
    cases e with
    | non => have := h'.non; cases this
    | bl b => have := h'.bl; cases this; rfl
    | int b => have := h'.int; cases this
    | str b => have := h'.str; cases this
    | tup m => obtain ⟨a, xs, z, _⟩ := h'.tup; cases z
    | lst m => obtain ⟨a, xs, z, _⟩ := h'.lst; cases z
    | oth m m1 m2 => obtain ⟨a, xs, z, _⟩ := h'.oth; cases z
  | .int b, e, v, hz, h, h' => by
    have := h.int; subst this
    cases e with
    | non => have := h'.non; cases this
    | bl b => have := h'.bl; cases this
    | int b => have := h'.int; cases this; rfl
    | str b => have := h'.str; cases this
    | tup m => obtain ⟨a, xs, z, _⟩ := h'.tup; cases z
    | lst m => obtain ⟨a, xs, z, _⟩ := h'.lst; cases z
    | oth m m1 m2 => obtain ⟨a, xs, z, _⟩ := h'.oth; cases z
  | .str b, e, v, hz, h, h' => by
    have := h.str; subst this
    cases e with
    | non => have := h'.non; cases this
    | bl b => have := h'.bl; cases this
    | int b => have := h'.int; cases this
    | str b => have := h'.str; cases this; rfl
    | tup m => obtain ⟨a, xs, z, _⟩ := h'.tup; cases z
    | lst m => obtain ⟨a, xs, z, _⟩ := h'.lst; cases z
    | oth m m1 m2 => obtain ⟨a, xs, z, _⟩ := h'.oth; cases z
  | .tup l, e, v, hz, h, h' => by
    rw [D.dep] at hz
    obtain ⟨a, xs, rfl, q, r⟩ := h.tup
    cases e with
    | non => have := h'.non; cases this
    | bl b => have := h'.bl; cases this
    | int b => have := h'.int; cases this
    | str b => have := h'.str; cases this
    | tup m =>
      obtain ⟨a2, xs2, z, q2, r2⟩ := h'.tup
      cases z
      have := I.tuple_inj q.sq q2.sq
      subst this
      rw [RepL.inj I (by omega) r r2]
    | lst m =>
      obtain ⟨a2, xs2, z, q2, r2⟩ := h'.lst
      cases z
      exact (sq_apart I q.sq q2.sq).elim
    | oth m m1 m2 =>
      obtain ⟨a2, us2, z, q2, r2⟩ := h'.oth
      cases z
      exact (oth_tup I q.sq q2.2).elim
  | .lst l, e, v, hz, h, h' => by
    rw [D.dep] at hz
    obtain ⟨a, xs, rfl, q, r⟩ := h.lst
    cases e with
    | non => have := h'.non; cases this
    | bl b => have := h'.bl; cases this
    | int b => have := h'.int; cases this
    | str b => have := h'.str; cases this
    | tup m =>
      obtain ⟨a2, xs2, z, q2, r2⟩ := h'.tup
      cases z
      exact (sq_apart I q2.sq q.sq).elim
    | lst m =>
      obtain ⟨a2, xs2, z, q2, r2⟩ := h'.lst
      cases z
      have := I.list_inj q.sq q2.sq
      subst this
      rw [RepL.inj I (by omega) r r2]
    | oth m m1 m2 =>
      obtain ⟨a2, us2, z, q2, r2⟩ := h'.oth
      cases z
      exact (oth_lst I q.sq q2.2).elim
  | .oth _ _ _, e, v, hz, h, h' => by rw [D.dep] at hz; omega
theorem RepL.inj (I : Inv X pins σ H s) {O O' : AP'} : ∀ {l m : List D} {vs : List V}, D.depL l < 20000 → RepL X.K H O l vs → RepL X.K H O' m vs → l = m
  | [], m, vs, _, h, h' => by
    rw [RepL] at h; subst h
    cases m with
    | nil => rfl
    | cons e m => rw [RepL] at h'; obtain ⟨_, _, z, _⟩ := h'; cases z
  | d :: l, m, vs, hz, h, h' => by
    rw [D.depL] at hz
    rw [RepL] at h
    obtain ⟨v, r, rfl, h1, h2⟩ := h
    cases m with
    | nil => rw [RepL] at h'; cases h'
    | cons e m =>
      rw [RepL] at h'
      obtain ⟨v', r', z, h3, h4⟩ := h'
      cases z
      rw [Rep.inj I (by omega) h1 h3, RepL.inj I (by omega) h2 h4]
end
theorem flat_rep {O : AP'} {d : D} {v : V} (h : View X.K H O d v) (hd : d.dep = 0) (nt : ∀ l, d ≠ .tup l) (nl : ∀ l, d ≠ .lst l) : Rep X.K H O d v := by
  rcases h with h | ⟨a, rfl, h⟩
  · exact h
  · cases d with
    | lst l => exact absurd rfl (nl l)
    | oth _ _ _ => rw [D.dep] at hd; omega
    | _ => exact h.elim
theorem eqAt_step (I : Inv X pins σ H s) (n : Nat)
    (ih : ∀ (d e : D) (v u : V) (a b : Value) (O O' : AP') (A : Around), View X.K H O d v → View X.K H O' e u → RelV v a → RelV u b → d.dep + 1 ≤ n → e.dep < 20000 → A.units + n < cLine + 1 → EqAt A s a b (D.eqb d e)) :
    ∀ (d e : D) (v u : V) (a b : Value) (O O' : AP') (A : Around), View X.K H O d v → View X.K H O' e u → RelV v a → RelV u b → d.dep ≤ n → e.dep < 20000 → A.units + n < cLine → EqAt A s a b (D.eqb d e) := by
  intro d e v u a b O O' A hd he ra rb hn hen hA
  have hu : A.units < cLine := by omega
  have hcl : cLine = 9900 := rfl
  have items : ∀ (l m : List D) (xs ys : List V) (its its2 : List Value) (O1 O2 : AP'), D.depL l + 1 ≤ n → D.depL m < 20000 → RepL X.K H O1 l xs → RepL X.K H O2 m ys → Vals xs its → Vals ys its2 →
      ∀ j (h1 : j < its.toArray.size) (h2 : j < its2.toArray.size), EqAt A.in1 s its.toArray[j] its2.toArray[j] (eqAtJ l m j) := fun l m xs ys its its2 O1 O2 hl hm r1 r2 v1 v2 j h1 h2 => by
    have e1 := v1.length; have e2 := v2.length; have e3 := r1.length; have e4 := r2.length
    simp only [List.size_toArray] at h1 h2
    have hx : xs[j]? = some xs[j] := List.getElem?_eq_getElem (by omega)
    have hy : ys[j]? = some ys[j] := List.getElem?_eq_getElem (by omega)
    have hdl : l[j]? = some l[j] := List.getElem?_eq_getElem (by omega)
    have hdm : m[j]? = some m[j] := List.getElem?_eq_getElem (by omega)
    obtain ⟨w, w1, w2⟩ := v1.get hx
    obtain ⟨w', w3, w4⟩ := v2.get hy
    have i1 : its.toArray[j] = w := by
      have : its[j]? = some its[j] := List.getElem?_eq_getElem (by omega)
      rw [this] at w1; simpa using w1
    have i2 : its2.toArray[j] = w' := by
      have : its2[j]? = some its2[j] := List.getElem?_eq_getElem (by omega)
      rw [this] at w3; simpa using w3
    rw [i1, i2]
    have hj : eqAtJ l m j = D.eqb l[j] m[j] := by unfold eqAtJ; rw [hdl, hdm]
    rw [hj]
    have hdep := D.dep_mem hdl
    have hdep2 := D.dep_mem hdm
    exact ih _ _ _ _ _ _ O1 O2 A.in1 (.inl (r1.views hdl hx)) (.inl (r2.views hdm hy)) w2 w4 (by omega) (by omega) (by show A.units + 1 + n < cLine + 1; omega)
  cases d with
  | oth m m1 m2 => rw [D.dep] at hn; omega
  | tup l =>
    obtain ⟨p, xs, rfl, q, r⟩ := view_tup hd
    cases ra
    obtain ⟨its, v1, pl, _⟩ := I.tuple q
    cases e with
    | oth m m1 m2 => rw [D.dep] at hen; omega
    | non => have := (flat_rep he rfl (by simp) (by simp)).non; subst this; cases rb; exact EqAt.tuple_none pl hu
    | bl c => have := (flat_rep he rfl (by simp) (by simp)).bl; subst this; cases rb; exact EqAt.tuple_bool c pl hu
    | int c => have := (flat_rep he rfl (by simp) (by simp)).int; subst this; obtain ⟨t, rfl⟩ := rb; exact EqAt.tuple_int c t pl hu
    | str c => have := (flat_rep he rfl (by simp) (by simp)).str; subst this; obtain ⟨t, rfl⟩ := rb; exact EqAt.tuple_str c t pl hu
    | tup m =>
      obtain ⟨p2, ys, rfl, q2, r2⟩ := view_tup he
      cases rb
      by_cases hp : p = p2
      · subst hp
        have := I.tuple_inj q q2
        subst this
        rw [RepL.inj I (by rw [D.dep] at hn; omega) r r2, D.eqb_refl]
        exact EqAt.same _
      · obtain ⟨its2, v2, pl2, _⟩ := I.tuple q2
        refine .of_refs hp ?_
        have hl : D.depL l + 1 ≤ n := by rw [D.dep] at hn; exact hn
        have hm : D.depL m < 20000 := by rw [D.dep] at hen; omega
        have z := RcAt.tuples pl pl2 hu (items l m xs ys its its2 _ _ hl hm r r2 v1 v2)
        have e1 := v1.length; have e2 := v2.length; have e3 := r.length; have e4 := r2.length
        simp only [List.size_toArray] at z
        rw [show its.length = l.length by omega, show its2.length = m.length by omega, eqAtJ_all] at z
        rw [D.eqb]
        exact z
    | lst m =>
      obtain ⟨p2, ys, rfl, q2, r2⟩ := view_lst he
      cases rb
      obtain ⟨its2, v2, pl2, _⟩ := I.list q2
      exact EqAt.tuple_list pl pl2.isList hu
  | lst l =>
    obtain ⟨p, xs, rfl, q, r⟩ := view_lst hd
    cases ra
    obtain ⟨its, v1, pl, _⟩ := I.list q
    cases e with
    | oth m m1 m2 => rw [D.dep] at hen; omega
    | non => have := (flat_rep he rfl (by simp) (by simp)).non; subst this; cases rb; exact EqAt.list_none pl.isList hu
    | bl c => have := (flat_rep he rfl (by simp) (by simp)).bl; subst this; cases rb; exact EqAt.list_bool c pl.isList hu
    | int c => have := (flat_rep he rfl (by simp) (by simp)).int; subst this; obtain ⟨t, rfl⟩ := rb; exact EqAt.list_int c t pl.isList hu
    | str c => have := (flat_rep he rfl (by simp) (by simp)).str; subst this; obtain ⟨t, rfl⟩ := rb; exact EqAt.list_str c t pl.isList hu
    | tup m =>
      obtain ⟨p2, ys, rfl, q2, r2⟩ := view_tup he
      cases rb
      obtain ⟨its2, v2, pl2, _⟩ := I.tuple q2
      exact EqAt.list_tuple pl.isList pl2 hu
    | lst m =>
      obtain ⟨p2, ys, rfl, q2, r2⟩ := view_lst he
      cases rb
      by_cases hp : p = p2
      · subst hp
        have := I.list_inj q q2
        subst this
        rw [RepL.inj I (by rw [D.dep] at hn; omega) r r2, D.eqb_refl]
        exact EqAt.same _
      · obtain ⟨its2, v2, pl2, _⟩ := I.list q2
        refine .of_refs hp ?_
        have hl : D.depL l + 1 ≤ n := by rw [D.dep] at hn; exact hn
        have hm : D.depL m < 20000 := by rw [D.dep] at hen; omega
        have e1 := v1.length; have e2 := v2.length; have e3 := r.length; have e4 := r2.length
        have al := eqAtJ_all l m
        by_cases hlen : l.length = m.length
        · have z := RcAt.lists pl.isList pl2.isList (by simp only [List.size_toArray]; omega) hu (items l m xs ys its its2 _ _ hl hm r r2 v1 v2)
          simp only [List.size_toArray] at z
          rw [show its.length = min l.length m.length by omega] at z
          rw [D.eqb, ← al, hlen]
          rw [hlen] at z
          simpa using z
        · have z := RcAt.lists_lengths pl.isList pl2.isList (by simp only [List.size_toArray, bne_iff_ne, ne_eq]; omega) hu
          rw [D.eqb, ← al]
          rw [show (l.length == m.length) = false by simpa using hlen]
          simpa using z
  | non =>
    have := (flat_rep hd rfl (by simp) (by simp)).non; subst this
    cases e with
    | oth m m1 m2 => rw [D.dep] at hen; omega
    | tup m => obtain ⟨p2, ys, rfl, q2, r2⟩ := view_tup he; cases ra; cases rb; obtain ⟨its2, v2, pl2, _⟩ := I.tuple q2; exact EqAt.none_tuple pl2 hu
    | lst m => obtain ⟨p2, ys, rfl, q2, r2⟩ := view_lst he; cases ra; cases rb; obtain ⟨its2, v2, pl2, _⟩ := I.list q2; exact EqAt.none_list pl2.isList hu
    | non => have := (flat_rep he rfl (by simp) (by simp)).non; subst this; exact eqAt_V ra rb rfl rfl
    | bl c => have := (flat_rep he rfl (by simp) (by simp)).bl; subst this; exact eqAt_V ra rb rfl rfl
    | int c => have := (flat_rep he rfl (by simp) (by simp)).int; subst this; exact eqAt_V ra rb rfl rfl
    | str c => have := (flat_rep he rfl (by simp) (by simp)).str; subst this; exact eqAt_V ra rb rfl rfl
  | bl c0 =>
    have := (flat_rep hd rfl (by simp) (by simp)).bl; subst this
    cases e with
    | oth m m1 m2 => rw [D.dep] at hen; omega
    | tup m => obtain ⟨p2, ys, rfl, q2, r2⟩ := view_tup he; cases ra; cases rb; obtain ⟨its2, v2, pl2, _⟩ := I.tuple q2; exact EqAt.bool_tuple c0 pl2 hu
    | lst m => obtain ⟨p2, ys, rfl, q2, r2⟩ := view_lst he; cases ra; cases rb; obtain ⟨its2, v2, pl2, _⟩ := I.list q2; exact EqAt.bool_list c0 pl2.isList hu
    | non => have := (flat_rep he rfl (by simp) (by simp)).non; subst this; exact eqAt_V ra rb rfl rfl
    | bl c => have := (flat_rep he rfl (by simp) (by simp)).bl; subst this; exact eqAt_V ra rb rfl rfl
    | int c => have := (flat_rep he rfl (by simp) (by simp)).int; subst this; exact eqAt_V ra rb rfl rfl
    | str c => have := (flat_rep he rfl (by simp) (by simp)).str; subst this; exact eqAt_V ra rb rfl rfl
  | int c0 =>
    have := (flat_rep hd rfl (by simp) (by simp)).int; subst this
    cases e with
    | oth m m1 m2 => rw [D.dep] at hen; omega
    | tup m => obtain ⟨p2, ys, rfl, q2, r2⟩ := view_tup he; obtain ⟨t, rfl⟩ := ra; cases rb; obtain ⟨its2, v2, pl2, _⟩ := I.tuple q2; exact EqAt.int_tuple c0 t pl2 hu
    | lst m => obtain ⟨p2, ys, rfl, q2, r2⟩ := view_lst he; obtain ⟨t, rfl⟩ := ra; cases rb; obtain ⟨its2, v2, pl2, _⟩ := I.list q2; exact EqAt.int_list c0 t pl2.isList hu
    | non => have := (flat_rep he rfl (by simp) (by simp)).non; subst this; exact eqAt_V ra rb rfl rfl
    | bl c => have := (flat_rep he rfl (by simp) (by simp)).bl; subst this; exact eqAt_V ra rb rfl rfl
    | int c => have := (flat_rep he rfl (by simp) (by simp)).int; subst this; exact eqAt_V ra rb rfl rfl
    | str c => have := (flat_rep he rfl (by simp) (by simp)).str; subst this; exact eqAt_V ra rb rfl rfl
  | str c0 =>
    have := (flat_rep hd rfl (by simp) (by simp)).str; subst this
    cases e with
    | oth m m1 m2 => rw [D.dep] at hen; omega
    | tup m => obtain ⟨p2, ys, rfl, q2, r2⟩ := view_tup he; obtain ⟨t, rfl⟩ := ra; cases rb; obtain ⟨its2, v2, pl2, _⟩ := I.tuple q2; exact EqAt.str_tuple c0 t pl2 hu
    | lst m => obtain ⟨p2, ys, rfl, q2, r2⟩ := view_lst he; obtain ⟨t, rfl⟩ := ra; cases rb; obtain ⟨its2, v2, pl2, _⟩ := I.list q2; exact EqAt.str_list c0 t pl2.isList hu
    | non => have := (flat_rep he rfl (by simp) (by simp)).non; subst this; exact eqAt_V ra rb rfl rfl
    | bl c => have := (flat_rep he rfl (by simp) (by simp)).bl; subst this; exact eqAt_V ra rb rfl rfl
    | int c => have := (flat_rep he rfl (by simp) (by simp)).int; subst this; exact eqAt_V ra rb rfl rfl
    | str c => have := (flat_rep he rfl (by simp) (by simp)).str; subst this; exact eqAt_V ra rb rfl rfl
theorem eqAt_D (I : Inv X pins σ H s) : ∀ (n : Nat) (d e : D) (v u : V) (a b : Value) (O O' : AP') (A : Around), View X.K H O d v → View X.K H O' e u → RelV v a → RelV u b → d.dep ≤ n → e.dep < 20000 → A.units + n < cLine → EqAt A s a b (D.eqb d e) := by
  intro n
  induction n with
  | zero =>
    intro d e v u a b O O' A hd he ra rb hn hen hA
    exact eqAt_step I 0 (fun d e v u a b O O' A hd he ra rb hn hen hA => absurd hn (by omega)) d e v u a b O O' A hd he ra rb hn hen hA
  | succ n ih =>
    intro d e v u a b O O' A hd he ra rb hn hen hA
    exact eqAt_step I (n + 1) (fun d e v u a b O O' A hd he ra rb hn hen hA => ih d e v u a b O O' A hd he ra rb (by omega) hen (by omega)) d e v u a b O O' A hd he ra rb hn hen hA
end
end PX
set_option Elab.async false
set_option linter.all false
set_option maxRecDepth 100000
set_option maxHeartbeats 4000000
namespace PX
open PySem PySem.Spec PyProof.Rows L2 PySem.SeqAt
section
variable {X : Cx} {pins : List (Addr × Obj)} {σ : L2.St} {H : Hp} {s : Shared}
theorem eq_items (I : Inv X pins σ H s) {A : Around} {n : Nat} (hA : A.units + n < cLine) : ∀ (l m : List D) (xs ys : List V) (its its2 : List Value) (O1 O2 : AP'), D.depL l + 1 ≤ n → D.depL m < 20000 → RepL X.K H O1 l xs → RepL X.K H O2 m ys → Vals xs its → Vals ys its2 →
      ∀ j (h1 : j < its.toArray.size) (h2 : j < its2.toArray.size), EqAt A.in1 s its.toArray[j] its2.toArray[j] (eqAtJ l m j) := fun l m xs ys its its2 O1 O2 hl hm r1 r2 v1 v2 j h1 h2 => by
  have e1 := v1.length; have e2 := v2.length; have e3 := r1.length; have e4 := r2.length
  simp only [List.size_toArray] at h1 h2
  have hx : xs[j]? = some xs[j] := List.getElem?_eq_getElem (by omega)
  have hy : ys[j]? = some ys[j] := List.getElem?_eq_getElem (by omega)
  have hdl : l[j]? = some l[j] := List.getElem?_eq_getElem (by omega)
  have hdm : m[j]? = some m[j] := List.getElem?_eq_getElem (by omega)
  obtain ⟨w, w1, w2⟩ := v1.get hx
  obtain ⟨w', w3, w4⟩ := v2.get hy
  have i1 : its.toArray[j] = w := by
    have : its[j]? = some its[j] := List.getElem?_eq_getElem (by omega)
    rw [this] at w1; simpa using w1
  have i2 : its2.toArray[j] = w' := by
    have : its2[j]? = some its2[j] := List.getElem?_eq_getElem (by omega)
    rw [this] at w3; simpa using w3
  rw [i1, i2]
  have hj : eqAtJ l m j = D.eqb l[j] m[j] := by unfold eqAtJ; rw [hdl, hdm]
  rw [hj]
  have hdep := D.dep_mem hdl
  have hdep2 := D.dep_mem hdm
  exact eqAt_D I (n - 1) _ _ _ _ _ _ O1 O2 A.in1 (.inl (r1.views hdl hx)) (.inl (r2.views hdm hy)) w2 w4 (by omega) (by omega) (by show A.units + 1 + (n - 1) < cLine; omega)
theorem rcAt_D (I : Inv X pins σ H s) {n : Nat} {d e : D} {v u : V} {a b : Value} {O O' : AP'} {A : Around} (hd : View X.K H O d v) (he : View X.K H O' e u) (ra : RelV v a) (rb : RelV u b) (hn : d.dep ≤ n) (hen : e.dep < 20000) (hA : A.units + n < cLine) : RcAt A s a b (D.eqb d e) := by
  have hu : A.units < cLine := by omega
  have items := eq_items I hA
  have hcl : cLine = 9900 := rfl
  cases d with
  | oth m m1 m2 => rw [D.dep] at hn; omega
  | non =>
    have := (flat_rep hd rfl (by simp) (by simp)).non; subst this; cases ra
    cases e with
    | oth m m1 m2 => rw [D.dep] at hen; omega
    | non =>
      have := (flat_rep he rfl (by simp) (by simp)).non; subst this; cases rb
      exact RcAt.none_none
    | bl c2 =>
      have := (flat_rep he rfl (by simp) (by simp)).bl; subst this; cases rb
      exact RcAt.none_bool c2
    | int c2 =>
      have := (flat_rep he rfl (by simp) (by simp)).int; subst this; obtain ⟨t2, rfl⟩ := rb
      exact RcAt.none_int c2 t2
    | str c2 =>
      have := (flat_rep he rfl (by simp) (by simp)).str; subst this; obtain ⟨t2, rfl⟩ := rb
      exact RcAt.none_str c2 t2
    | tup c2 =>
      obtain ⟨p2, xs2, rfl, q2, r2⟩ := view_tup he; cases rb; obtain ⟨its2, v2, pl2, _⟩ := I.tuple q2
      exact RcAt.none_tuple pl2 hu
    | lst c2 =>
      obtain ⟨p2, xs2, rfl, q2, r2⟩ := view_lst he; cases rb; obtain ⟨its2, v2, pl2, _⟩ := I.list q2
      exact RcAt.none_list pl2.isList hu
  | bl c1 =>
    have := (flat_rep hd rfl (by simp) (by simp)).bl; subst this; cases ra
    cases e with
    | oth m m1 m2 => rw [D.dep] at hen; omega
    | non =>
      have := (flat_rep he rfl (by simp) (by simp)).non; subst this; cases rb
      exact RcAt.bool_none c1
    | bl c2 =>
      have := (flat_rep he rfl (by simp) (by simp)).bl; subst this; cases rb
      exact RcAt.bool_bool c1 c2
    | int c2 =>
      have := (flat_rep he rfl (by simp) (by simp)).int; subst this; obtain ⟨t2, rfl⟩ := rb
      exact RcAt.bool_int c1 c2 t2
    | str c2 =>
      have := (flat_rep he rfl (by simp) (by simp)).str; subst this; obtain ⟨t2, rfl⟩ := rb
      exact RcAt.bool_str c1 c2 t2
    | tup c2 =>
      obtain ⟨p2, xs2, rfl, q2, r2⟩ := view_tup he; cases rb; obtain ⟨its2, v2, pl2, _⟩ := I.tuple q2
      exact RcAt.bool_tuple c1 pl2 hu
    | lst c2 =>
      obtain ⟨p2, xs2, rfl, q2, r2⟩ := view_lst he; cases rb; obtain ⟨its2, v2, pl2, _⟩ := I.list q2
      exact RcAt.bool_list c1 pl2.isList hu
  | int c1 =>
    have := (flat_rep hd rfl (by simp) (by simp)).int; subst this; obtain ⟨t1, rfl⟩ := ra
    cases e with
    | oth m m1 m2 => rw [D.dep] at hen; omega
    | non =>
      have := (flat_rep he rfl (by simp) (by simp)).non; subst this; cases rb
      exact RcAt.int_none c1 t1
    | bl c2 =>
      have := (flat_rep he rfl (by simp) (by simp)).bl; subst this; cases rb
      exact RcAt.int_bool c1 t1 c2
    | int c2 =>
      have := (flat_rep he rfl (by simp) (by simp)).int; subst this; obtain ⟨t2, rfl⟩ := rb
      exact RcAt.int_int c1 t1 c2 t2
    | str c2 =>
      have := (flat_rep he rfl (by simp) (by simp)).str; subst this; obtain ⟨t2, rfl⟩ := rb
      exact RcAt.int_str c1 t1 c2 t2
    | tup c2 =>
      obtain ⟨p2, xs2, rfl, q2, r2⟩ := view_tup he; cases rb; obtain ⟨its2, v2, pl2, _⟩ := I.tuple q2
      exact RcAt.int_tuple c1 t1 pl2 hu
    | lst c2 =>
      obtain ⟨p2, xs2, rfl, q2, r2⟩ := view_lst he; cases rb; obtain ⟨its2, v2, pl2, _⟩ := I.list q2
      exact RcAt.int_list c1 t1 pl2.isList hu
  | str c1 =>
    have := (flat_rep hd rfl (by simp) (by simp)).str; subst this; obtain ⟨t1, rfl⟩ := ra
    cases e with
    | oth m m1 m2 => rw [D.dep] at hen; omega
    | non =>
      have := (flat_rep he rfl (by simp) (by simp)).non; subst this; cases rb
      exact RcAt.str_none c1 t1
    | bl c2 =>
      have := (flat_rep he rfl (by simp) (by simp)).bl; subst this; cases rb
      exact RcAt.str_bool c1 t1 c2
    | int c2 =>
      have := (flat_rep he rfl (by simp) (by simp)).int; subst this; obtain ⟨t2, rfl⟩ := rb
      exact RcAt.str_int c1 t1 c2 t2
    | str c2 =>
      have := (flat_rep he rfl (by simp) (by simp)).str; subst this; obtain ⟨t2, rfl⟩ := rb
      exact RcAt.str_str c1 t1 c2 t2
    | tup c2 =>
      obtain ⟨p2, xs2, rfl, q2, r2⟩ := view_tup he; cases rb; obtain ⟨its2, v2, pl2, _⟩ := I.tuple q2
      exact RcAt.str_tuple c1 t1 pl2 hu
    | lst c2 =>
      obtain ⟨p2, xs2, rfl, q2, r2⟩ := view_lst he; cases rb; obtain ⟨its2, v2, pl2, _⟩ := I.list q2
      exact RcAt.str_list c1 t1 pl2.isList hu
  | tup c1 =>
    obtain ⟨p1, xs1, rfl, q1, r1⟩ := view_tup hd; cases ra; obtain ⟨its1, v1, pl1, _⟩ := I.tuple q1
    cases e with
    | oth m m1 m2 => rw [D.dep] at hen; omega
    | non =>
      have := (flat_rep he rfl (by simp) (by simp)).non; subst this; cases rb
      exact RcAt.tuple_none pl1 hu
    | bl c2 =>
      have := (flat_rep he rfl (by simp) (by simp)).bl; subst this; cases rb
      exact RcAt.tuple_bool c2 pl1 hu
    | int c2 =>
      have := (flat_rep he rfl (by simp) (by simp)).int; subst this; obtain ⟨t2, rfl⟩ := rb
      exact RcAt.tuple_int c2 t2 pl1 hu
    | str c2 =>
      have := (flat_rep he rfl (by simp) (by simp)).str; subst this; obtain ⟨t2, rfl⟩ := rb
      exact RcAt.tuple_str c2 t2 pl1 hu
    | tup c2 =>
      obtain ⟨p2, xs2, rfl, q2, r2⟩ := view_tup he; cases rb; obtain ⟨its2, v2, pl2, _⟩ := I.tuple q2
      have hl : D.depL c1 + 1 ≤ n := by rw [D.dep] at hn; exact hn
      have hm : D.depL c2 < 20000 := by rw [D.dep] at hen; omega
      have e1 := v1.length; have e2 := v2.length; have e3 := r1.length; have e4 := r2.length
      have al := eqAtJ_all c1 c2
      have z := RcAt.tuples pl1 pl2 hu (items c1 c2 xs1 xs2 its1 its2 _ _ hl hm r1 r2 v1 v2)
      simp only [List.size_toArray] at z
      rw [show its1.length = c1.length by omega, show its2.length = c2.length by omega, al] at z
      rw [D.eqb]; exact z
    | lst c2 =>
      obtain ⟨p2, xs2, rfl, q2, r2⟩ := view_lst he; cases rb; obtain ⟨its2, v2, pl2, _⟩ := I.list q2
      exact RcAt.tuple_list pl1 pl2.isList hu
  | lst c1 =>
    obtain ⟨p1, xs1, rfl, q1, r1⟩ := view_lst hd; cases ra; obtain ⟨its1, v1, pl1, _⟩ := I.list q1
    cases e with
    | oth m m1 m2 => rw [D.dep] at hen; omega
    | non =>
      have := (flat_rep he rfl (by simp) (by simp)).non; subst this; cases rb
      exact RcAt.list_none pl1.isList hu
    | bl c2 =>
      have := (flat_rep he rfl (by simp) (by simp)).bl; subst this; cases rb
      exact RcAt.list_bool c2 pl1.isList hu
    | int c2 =>
      have := (flat_rep he rfl (by simp) (by simp)).int; subst this; obtain ⟨t2, rfl⟩ := rb
      exact RcAt.list_int c2 t2 pl1.isList hu
    | str c2 =>
      have := (flat_rep he rfl (by simp) (by simp)).str; subst this; obtain ⟨t2, rfl⟩ := rb
      exact RcAt.list_str c2 t2 pl1.isList hu
    | tup c2 =>
      obtain ⟨p2, xs2, rfl, q2, r2⟩ := view_tup he; cases rb; obtain ⟨its2, v2, pl2, _⟩ := I.tuple q2
      exact RcAt.list_tuple pl1.isList pl2 hu
    | lst c2 =>
      obtain ⟨p2, xs2, rfl, q2, r2⟩ := view_lst he; cases rb; obtain ⟨its2, v2, pl2, _⟩ := I.list q2
      have hl : D.depL c1 + 1 ≤ n := by rw [D.dep] at hn; exact hn
      have hm : D.depL c2 < 20000 := by rw [D.dep] at hen; omega
      have e1 := v1.length; have e2 := v2.length; have e3 := r1.length; have e4 := r2.length
      have al := eqAtJ_all c1 c2
      by_cases hlen : c1.length = c2.length
      · have z := RcAt.lists pl1.isList pl2.isList (by simp only [List.size_toArray]; omega) hu (items c1 c2 xs1 xs2 its1 its2 _ _ hl hm r1 r2 v1 v2)
        simp only [List.size_toArray] at z
        rw [show its1.length = min c1.length c2.length by omega] at z
        rw [D.eqb, ← al, hlen]; rw [hlen] at z; simpa using z
      · have z := RcAt.lists_lengths pl1.isList pl2.isList (by simp only [List.size_toArray, bne_iff_ne, ne_eq]; omega) hu
        rw [D.eqb, ← al]; rw [show (c1.length == c2.length) = false by simpa using hlen]; simpa using z
theorem rcNeAt_D (I : Inv X pins σ H s) {n : Nat} {d e : D} {v u : V} {a b : Value} {O O' : AP'} {A : Around} (hd : View X.K H O d v) (he : View X.K H O' e u) (ra : RelV v a) (rb : RelV u b) (hn : d.dep ≤ n) (hen : e.dep < 20000) (hA : A.units + n < cLine) : RcNeAt A s a b (!D.eqb d e) := by
  have hu : A.units < cLine := by omega
  have items := eq_items I hA
  have hcl : cLine = 9900 := rfl
  cases d with
  | oth m m1 m2 => rw [D.dep] at hn; omega
  | non =>
    have := (flat_rep hd rfl (by simp) (by simp)).non; subst this; cases ra
    cases e with
    | oth m m1 m2 => rw [D.dep] at hen; omega
    | non =>
      have := (flat_rep he rfl (by simp) (by simp)).non; subst this; cases rb
      exact RcNeAt.none_none
    | bl c2 =>
      have := (flat_rep he rfl (by simp) (by simp)).bl; subst this; cases rb
      exact RcNeAt.none_bool c2
    | int c2 =>
      have := (flat_rep he rfl (by simp) (by simp)).int; subst this; obtain ⟨t2, rfl⟩ := rb
      exact RcNeAt.none_int c2 t2
    | str c2 =>
      have := (flat_rep he rfl (by simp) (by simp)).str; subst this; obtain ⟨t2, rfl⟩ := rb
      exact RcNeAt.none_str c2 t2
    | tup c2 =>
      obtain ⟨p2, xs2, rfl, q2, r2⟩ := view_tup he; cases rb; obtain ⟨its2, v2, pl2, _⟩ := I.tuple q2
      exact RcNeAt.none_tuple pl2 hu
    | lst c2 =>
      obtain ⟨p2, xs2, rfl, q2, r2⟩ := view_lst he; cases rb; obtain ⟨its2, v2, pl2, _⟩ := I.list q2
      exact RcNeAt.none_list pl2.isList hu
  | bl c1 =>
    have := (flat_rep hd rfl (by simp) (by simp)).bl; subst this; cases ra
    cases e with
    | oth m m1 m2 => rw [D.dep] at hen; omega
    | non =>
      have := (flat_rep he rfl (by simp) (by simp)).non; subst this; cases rb
      exact RcNeAt.bool_none c1
    | bl c2 =>
      have := (flat_rep he rfl (by simp) (by simp)).bl; subst this; cases rb
      exact RcNeAt.bool_bool c1 c2
    | int c2 =>
      have := (flat_rep he rfl (by simp) (by simp)).int; subst this; obtain ⟨t2, rfl⟩ := rb
      exact RcNeAt.bool_int c1 c2 t2
    | str c2 =>
      have := (flat_rep he rfl (by simp) (by simp)).str; subst this; obtain ⟨t2, rfl⟩ := rb
      exact RcNeAt.bool_str c1 c2 t2
    | tup c2 =>
      obtain ⟨p2, xs2, rfl, q2, r2⟩ := view_tup he; cases rb; obtain ⟨its2, v2, pl2, _⟩ := I.tuple q2
      exact RcNeAt.bool_tuple c1 pl2 hu
    | lst c2 =>
      obtain ⟨p2, xs2, rfl, q2, r2⟩ := view_lst he; cases rb; obtain ⟨its2, v2, pl2, _⟩ := I.list q2
      exact RcNeAt.bool_list c1 pl2.isList hu
  | int c1 =>
    have := (flat_rep hd rfl (by simp) (by simp)).int; subst this; obtain ⟨t1, rfl⟩ := ra
    cases e with
    | oth m m1 m2 => rw [D.dep] at hen; omega
    | non =>
      have := (flat_rep he rfl (by simp) (by simp)).non; subst this; cases rb
      exact RcNeAt.int_none c1 t1
    | bl c2 =>
      have := (flat_rep he rfl (by simp) (by simp)).bl; subst this; cases rb
      exact RcNeAt.int_bool c1 t1 c2
    | int c2 =>
      have := (flat_rep he rfl (by simp) (by simp)).int; subst this; obtain ⟨t2, rfl⟩ := rb
      exact RcNeAt.int_int c1 t1 c2 t2
    | str c2 =>
      have := (flat_rep he rfl (by simp) (by simp)).str; subst this; obtain ⟨t2, rfl⟩ := rb
      exact RcNeAt.int_str c1 t1 c2 t2
    | tup c2 =>
      obtain ⟨p2, xs2, rfl, q2, r2⟩ := view_tup he; cases rb; obtain ⟨its2, v2, pl2, _⟩ := I.tuple q2
      exact RcNeAt.int_tuple c1 t1 pl2 hu
    | lst c2 =>
      obtain ⟨p2, xs2, rfl, q2, r2⟩ := view_lst he; cases rb; obtain ⟨its2, v2, pl2, _⟩ := I.list q2
      exact RcNeAt.int_list c1 t1 pl2.isList hu
  | str c1 =>
    have := (flat_rep hd rfl (by simp) (by simp)).str; subst this; obtain ⟨t1, rfl⟩ := ra
    cases e with
    | oth m m1 m2 => rw [D.dep] at hen; omega
    | non =>
      have := (flat_rep he rfl (by simp) (by simp)).non; subst this; cases rb
      exact RcNeAt.str_none c1 t1
    | bl c2 =>
      have := (flat_rep he rfl (by simp) (by simp)).bl; subst this; cases rb
      exact RcNeAt.str_bool c1 t1 c2
    | int c2 =>
      have := (flat_rep he rfl (by simp) (by simp)).int; subst this; obtain ⟨t2, rfl⟩ := rb
      exact RcNeAt.str_int c1 t1 c2 t2
    | str c2 =>
      have := (flat_rep he rfl (by simp) (by simp)).str; subst this; obtain ⟨t2, rfl⟩ := rb
      exact RcNeAt.str_str c1 t1 c2 t2
    | tup c2 =>
      obtain ⟨p2, xs2, rfl, q2, r2⟩ := view_tup he; cases rb; obtain ⟨its2, v2, pl2, _⟩ := I.tuple q2
      exact RcNeAt.str_tuple c1 t1 pl2 hu
    | lst c2 =>
      obtain ⟨p2, xs2, rfl, q2, r2⟩ := view_lst he; cases rb; obtain ⟨its2, v2, pl2, _⟩ := I.list q2
      exact RcNeAt.str_list c1 t1 pl2.isList hu
  | tup c1 =>
    obtain ⟨p1, xs1, rfl, q1, r1⟩ := view_tup hd; cases ra; obtain ⟨its1, v1, pl1, _⟩ := I.tuple q1
    cases e with
    | oth m m1 m2 => rw [D.dep] at hen; omega
    | non =>
      have := (flat_rep he rfl (by simp) (by simp)).non; subst this; cases rb
      exact RcNeAt.tuple_none pl1 hu
    | bl c2 =>
      have := (flat_rep he rfl (by simp) (by simp)).bl; subst this; cases rb
      exact RcNeAt.tuple_bool c2 pl1 hu
    | int c2 =>
      have := (flat_rep he rfl (by simp) (by simp)).int; subst this; obtain ⟨t2, rfl⟩ := rb
      exact RcNeAt.tuple_int c2 t2 pl1 hu
    | str c2 =>
      have := (flat_rep he rfl (by simp) (by simp)).str; subst this; obtain ⟨t2, rfl⟩ := rb
      exact RcNeAt.tuple_str c2 t2 pl1 hu
    | tup c2 =>
      obtain ⟨p2, xs2, rfl, q2, r2⟩ := view_tup he; cases rb; obtain ⟨its2, v2, pl2, _⟩ := I.tuple q2
      have hl : D.depL c1 + 1 ≤ n := by rw [D.dep] at hn; exact hn
      have hm : D.depL c2 < 20000 := by rw [D.dep] at hen; omega
      have e1 := v1.length; have e2 := v2.length; have e3 := r1.length; have e4 := r2.length
      have al := eqAtJ_all c1 c2
      have z := RcNeAt.tuples pl1 pl2 hu (items c1 c2 xs1 xs2 its1 its2 _ _ hl hm r1 r2 v1 v2)
      simp only [List.size_toArray] at z
      rw [show its1.length = c1.length by omega, show its2.length = c2.length by omega, al] at z
      rw [D.eqb]; exact z
    | lst c2 =>
      obtain ⟨p2, xs2, rfl, q2, r2⟩ := view_lst he; cases rb; obtain ⟨its2, v2, pl2, _⟩ := I.list q2
      exact RcNeAt.tuple_list pl1 pl2.isList hu
  | lst c1 =>
    obtain ⟨p1, xs1, rfl, q1, r1⟩ := view_lst hd; cases ra; obtain ⟨its1, v1, pl1, _⟩ := I.list q1
    cases e with
    | oth m m1 m2 => rw [D.dep] at hen; omega
    | non =>
      have := (flat_rep he rfl (by simp) (by simp)).non; subst this; cases rb
      exact RcNeAt.list_none pl1.isList hu
    | bl c2 =>
      have := (flat_rep he rfl (by simp) (by simp)).bl; subst this; cases rb
      exact RcNeAt.list_bool c2 pl1.isList hu
    | int c2 =>
      have := (flat_rep he rfl (by simp) (by simp)).int; subst this; obtain ⟨t2, rfl⟩ := rb
      exact RcNeAt.list_int c2 t2 pl1.isList hu
    | str c2 =>
      have := (flat_rep he rfl (by simp) (by simp)).str; subst this; obtain ⟨t2, rfl⟩ := rb
      exact RcNeAt.list_str c2 t2 pl1.isList hu
    | tup c2 =>
      obtain ⟨p2, xs2, rfl, q2, r2⟩ := view_tup he; cases rb; obtain ⟨its2, v2, pl2, _⟩ := I.tuple q2
      exact RcNeAt.list_tuple pl1.isList pl2 hu
    | lst c2 =>
      obtain ⟨p2, xs2, rfl, q2, r2⟩ := view_lst he; cases rb; obtain ⟨its2, v2, pl2, _⟩ := I.list q2
      have hl : D.depL c1 + 1 ≤ n := by rw [D.dep] at hn; exact hn
      have hm : D.depL c2 < 20000 := by rw [D.dep] at hen; omega
      have e1 := v1.length; have e2 := v2.length; have e3 := r1.length; have e4 := r2.length
      have al := eqAtJ_all c1 c2
      by_cases hlen : c1.length = c2.length
      · have z := RcNeAt.lists pl1.isList pl2.isList (by simp only [List.size_toArray]; omega) hu (items c1 c2 xs1 xs2 its1 its2 _ _ hl hm r1 r2 v1 v2)
        simp only [List.size_toArray] at z
        rw [show its1.length = min c1.length c2.length by omega] at z
        rw [D.eqb, ← al, hlen]; rw [hlen] at z; simpa using z
      · have z := RcNeAt.lists_lengths pl1.isList pl2.isList (by simp only [List.size_toArray, bne_iff_ne, ne_eq]; omega) hu
        rw [D.eqb, ← al]; rw [show (c1.length == c2.length) = false by simpa using hlen]; simpa using z
theorem op_eqD (hu : X.A.units + 60 < cLine) : OpR X (compareOp .Eq) (fun x y H Q => ∃ O d e, View X.K H O d x ∧ View X.K H O e y ∧ (d.dep ≤ 50 ∧ e.dep ≤ 50) ∧ Q (.bl (D.eqb d e)) H) := by
  intro pins s σ H x y v u Q I rx ry h
  obtain ⟨O, d, e, h1, h2, h3, q⟩ := h
  exact rcAt_D (A := X.A) I h1 h2 rx ry h3.1 (by omega) (by omega) _ _ _ _ ⟨.bl _, H, I, rfl, q⟩
theorem op_neD (hu : X.A.units + 60 < cLine) : OpR X (compareOp .NotEq) (fun x y H Q => ∃ O d e, View X.K H O d x ∧ View X.K H O e y ∧ (d.dep ≤ 50 ∧ e.dep ≤ 50) ∧ Q (.bl (!D.eqb d e)) H) := by
  intro pins s σ H x y v u Q I rx ry h
  obtain ⟨O, d, e, h1, h2, h3, q⟩ := h
  exact rcNeAt_D (A := X.A) I h1 h2 rx ry h3.1 (by omega) (by omega) _ _ _ _ ⟨.bl _, H, I, rfl, q⟩
end
end PX
set_option Elab.async false
set_option linter.all false
set_option maxRecDepth 100000
set_option maxHeartbeats 4000000
namespace PX
open PySem PySem.Spec PyProof.Rows L2 PySem.SeqAt
theorem ite_some {α : Type} {c : Prop} [Decidable c] {a b : α} (h : (if c then some a else none) = some b) : c ∧ a = b := by
  split at h
  · rename_i hc; exact ⟨hc, Option.some.inj h⟩
  · cases h
section
variable {X : Cx} {pins : List (Addr × Obj)} {σ : L2.St} {H : Hp} {s : Shared}
end
end PX
set_option Elab.async false
set_option linter.all false
set_option maxRecDepth 100000
set_option maxHeartbeats 4000000
namespace PX
open PySem PySem.Spec PyProof.Rows L2 PySem.SeqAt
def rD1 (K : PySem.W.Frag) (g : D → Option (D × Bool)) : V → Hp → VK → Prop := fun x H Q => ∃ (O : AP') (d : D) (z : D × Bool), (∀ p, H p = none → ¬ O p) ∧ View K H O d x ∧ g d = some z ∧ Gen K H O z Q
def rD (K : PySem.W.Frag) (g : D → D → Option (D × Bool)) : R2 := fun x y H Q => ∃ (O : AP') (d e : D) (z : D × Bool), (∀ p, H p = none → ¬ O p) ∧ View K H O d x ∧ View K H O e y ∧ g d e = some z ∧ Gen K H O z Q
def rDn (K : PySem.W.Frag) (g : List D → Option (D × Bool)) : List V → Hp → VK → Prop := fun vs H Q => ∃ (O : AP') (ds : List D) (z : D × Bool), (∀ p, H p = none → ¬ O p) ∧ ds.length = vs.length ∧ (∀ (j : Nat) d v, ds[j]? = some d → vs[j]? = some v → View K H O d v) ∧ g ds = some z ∧ Gen K H O z Q
section
variable {X : Cx} {e a b : Expr} {fa fb : FO} {fs : List FO} {pos : Pos}
theorem px1 {g : D → Option (D × Bool)} (h : PE X e (tUn (rD1 X.K g) (tO X.K fa))) : PX X e (fOp1 g fa) := px_op1 h fun x z v H O Q np hx hg G => ⟨O, x, z, np, hx, hg, G⟩
theorem px2 {g : D → D → Option (D × Bool)} (h : PE X e (tOp (rD X.K g) (tO X.K fa) (tO X.K fb))) : PX X e (fOp2 g fa fb) := px_op2 h fun x y z v u H O Q np hx hy hg G => ⟨O, x, y, z, np, hx, hy, hg, G⟩
theorem pxn {g : List D → Option (D × Bool)} (h : PE X e (tCB (rDn X.K g) (tA X.K fs))) : PX X e (fCall g fs) := px_call h fun ds z vs H O Q np hl hv hg G => ⟨O, ds, z, np, hl, hv, hg, G⟩
theorem view_int {K H} {O : AP'} {i : Int} {v : V} (h : View K H O (.int i) v) : v = .int i := h.elim (fun h => h.int) fun ⟨_, _, h⟩ => h.elim
theorem view_bl {K H} {O : AP'} {i : Bool} {v : V} (h : View K H O (.bl i) v) : v = .bl i := h.elim (fun h => h.bl) fun ⟨_, _, h⟩ => h.elim
theorem view_str {K H} {O : AP'} {i : Str} {v : V} (h : View K H O (.str i) v) : v = .str i := h.elim (fun h => h.str) fun ⟨_, _, h⟩ => h.elim
theorem view_non {K H} {O : AP'} {v : V} (h : View K H O .non v) : v = .non := h.elim (fun h => h.non) fun ⟨_, _, h⟩ => h.elim
theorem Gen.str {K H} {O : AP'} {Q : VK} {i : Str} (g : Gen K H O (.str i, false) Q) : Q (.str i) H := g _ H (fun _ _ e => e) Rep.mkStr
theorem Gen.non {K H} {O : AP'} {Q : VK} (g : Gen K H O (.non, false) Q) : Q .non H := g _ H (fun _ _ e => e) Rep.mkNon
def gI (f : Int → Int → Option D) : D → D → Option (D × Bool)
  | .int i, .int j => (f i j).map fun z => (z, false)
  | _, _ => none
theorem gI_some {f : Int → Int → Option D} {d e : D} {z : D × Bool} (h : gI f d e = some z) : ∃ i j y, d = .int i ∧ e = .int j ∧ f i j = some y ∧ z = (y, false) := by
  cases d with
  | int i =>
    cases e with
    | int j =>
      cases hf : f i j with
      | none => rw [gI, hf] at h; cases h
      | some y => rw [gI, hf] at h; cases h; exact ⟨i, j, y, rfl, rfl, hf, rfl⟩
    | _ => cases h
  | _ => cases h
theorem opr_int {f : Value → Value → Sem Value} {C : Int → Int → Prop} [∀ i j, Decidable (C i j)] {g : Int → Int → Int} (ho : OpR X f (rI C fun i j => .int (g i j))) : OpR X f (rD X.K (gI fun i j => if C i j then some (.int (g i j)) else none)) := by
  intro pins s σ H x y v u Q I rx ry h
  obtain ⟨O, d, e, z, np, h1, h2, hg, G⟩ := h
  obtain ⟨i, j, w, rfl, rfl, hf, rfl⟩ := gI_some hg
  obtain ⟨hc, rfl⟩ := ite_some hf
  exact ho pins s σ H x y v u Q I rx ry ⟨i, j, view_int h1, view_int h2, hc, G.int⟩
theorem opr_int0 {f : Value → Value → Sem Value} {g : Int → Int → Int} (ho : OpR X f (rI0 fun i j => .int (g i j))) : OpR X f (rD X.K (gI fun i j => some (.int (g i j)))) := by
  intro pins s σ H x y v u Q I rx ry h
  obtain ⟨O, d, e, z, np, h1, h2, hg, G⟩ := h
  obtain ⟨i, j, w, rfl, rfl, hf, rfl⟩ := gI_some hg
  cases hf
  exact ho pins s σ H x y v u Q I rx ry ⟨i, j, view_int h1, view_int h2, G.int⟩
instance (i j : Int) : Decidable (CMul i j) := by unfold CMul; exact inferInstance
instance (i j : Int) : Decidable (CDiv i j) := by unfold CDiv; exact inferInstance
instance (i j : Int) : Decidable (CPow i j) := by unfold CPow; exact inferInstance
def gSub := gI fun i j => some (.int (i - j))
def gMul := gI fun i j => if CMul i j then some (.int (i * j)) else none
def gDiv := gI fun i j => if CDiv i j then some (.int (i / j)) else none
def gMod := gI fun i j => if 0 < j then some (.int (i % j)) else none
def gPow := gI fun i j => if CPow i j then some (.int (i ^ j.toNat)) else none
theorem opr_sub : OpR X (binaryOp .Sub) (rD X.K gSub) := opr_int0 op_sub
theorem opr_mul : OpR X (binaryOp .Mult) (rD X.K gMul) := opr_int op_mul
theorem opr_div : OpR X (binaryOp .FloorDiv) (rD X.K gDiv) := opr_int op_fdiv
theorem opr_mod : OpR X (binaryOp .Mod) (rD X.K gMod) := opr_int op_mod
theorem opr_pow : OpR X (binaryOp .Pow) (rD X.K gPow) := opr_int op_pow
def gAdd : D → D → Option (D × Bool)
  | .int i, .int j => some (.int (i + j), false)
  | .str i, .str j => if i.length + j.length ≤ sizeLine then some (.str (i ++ j), false) else none
  | .tup l, .tup m => if l.length + m.length ≤ sizeLine then some (.tup (l ++ m), false) else none
  | .lst l, .lst m => if l.length + m.length ≤ sizeLine then some (.lst (l ++ m), true) else none
  | _, _ => none
theorem opr_add : OpR X (binaryOp .Add) (rD X.K gAdd) := by
  intro pins s σ H x y v u Q I rx ry h
  obtain ⟨O, d, e, z, np, h1, h2, hg, G⟩ := h
  cases d with
  | int i =>
    cases e with
    | int j => cases hg; exact op_add pins s σ H x y v u Q I rx ry ⟨i, j, view_int h1, view_int h2, G.int⟩
    | _ => cases hg
  | str i =>
    cases e with
    | str j =>
      obtain ⟨hc, rfl⟩ := ite_some hg
      exact op_add_str pins s σ H x y v u Q I rx ry ⟨i, j, view_str h1, view_str h2, hc, G.str⟩
    | _ => cases hg
  | tup l =>
    cases e with
    | tup m =>
      obtain ⟨hc, rfl⟩ := ite_some hg
      have k1 : Rep X.K H O (.tup l) x := h1.elim id fun ⟨_, _, z⟩ => z.elim
      have k2 : Rep X.K H O (.tup m) y := h2.elim id fun ⟨_, _, z⟩ => z.elim
      obtain ⟨p1, xs, rfl, q1, r1⟩ := k1.tup
      obtain ⟨p2, ys, rfl, q2, r2⟩ := k2.tup
      have l1 := r1.length; have l2 := r2.length
      by_cases hx : xs = []
      · subst hx
        have : l = [] := by simpa using l1.symm
        subst this
        cases rx; cases ry
        obtain ⟨its, v1, pl1, _⟩ := I.tuple q1.sq
        obtain ⟨its2, v2, pl2, _⟩ := I.tuple q2.sq
        have e1 : its = [] := by have := v1.length; simpa using this.symm
        subst e1
        obtain ⟨⟨cls, dd, data, sl⟩, ho, hcl, n, hd⟩ := id pl1
        obtain ⟨⟨cls2, dd2, data2, sl2⟩, ho2, hcl2, n2, hd2⟩ := id pl2
        simp only at hcl hd hcl2 hd2
        subst hcl hd hcl2 hd2
        refine concat_meets ⟨_, ho, rfl⟩ ⟨_, ho2, rfl⟩ noFill_tuple_add seq_tuple_add PySem.F.slot_tuple_add PySem.F.entry_tuple_add (PySem.F.args_tuple_add_2 _ _)
          (tuple_addW0 p1 p2 #[] its2.toArray n n2 dd dd2 sl sl2 (by simp)) ⟨ho, ho2, ⟨.ref p2, H, I, rfl, ?_⟩⟩
        exact G _ H (fun _ _ e => e) (by simpa using k2)
      · refine op_catT pins s σ H _ _ v u Q I rx ry ⟨p1, p2, xs, ys, rfl, rfl, q1.sq, q2.sq, hx, by omega, fun hy => ?_, fun hy p hp => ?_⟩
        · subst hy
          have : m = [] := by simpa using l2.symm
          subst this
          exact G _ H (fun _ _ e => e) (by simpa using k1)
        · exact G.tup hp (np p hp) (r1.append r2)
    | _ => cases hg
  | lst l =>
    cases e with
    | lst m =>
      obtain ⟨hc, rfl⟩ := ite_some hg
      obtain ⟨p1, xs, rfl, q1, r1⟩ := view_lst h1
      obtain ⟨p2, ys, rfl, q2, r2⟩ := view_lst h2
      have l1 := r1.length; have l2 := r2.length
      cases rx; cases ry
      obtain ⟨its, v1, pl1, _⟩ := I.list q1
      obtain ⟨its2, v2, pl2, _⟩ := I.list q2
      have e1 := v1.length; have e2 := v2.length
      obtain ⟨⟨cls, dd, data, sl⟩, ho, hcl, n, hd⟩ := id pl1.isList
      obtain ⟨⟨cls2, dd2, data2, sl2⟩, ho2, hcl2, n2, hd2⟩ := id pl2.isList
      simp only at hcl hd hcl2 hd2
      subst hcl hd hcl2 hd2
      refine concat_meets ⟨_, ho, rfl⟩ ⟨_, ho2, rfl⟩ noFill_list_add seq_list_add PySem.F.slot_list_add PySem.F.entry_list_add (PySem.F.args_list_add_2 _ _)
        (list_addW p1 p2 its.toArray its2.toArray n n2 dd dd2 sl sl2 (by simp only [List.size_toArray]; omega)) ⟨ho, ho2, ?_⟩
      rw [show its.toArray ++ its2.toArray = (its ++ its2).toArray by simp]
      exact ⟨.ref _, _, I.lnew (t' := s.toks) (v1.append v2) (by rw [List.length_append]; omega), rfl, G.lst I.fresh (r1.append r2)⟩
    | _ => cases hg
  | _ => cases hg
def gEq (d e : D) : Option (D × Bool) := if d.dep ≤ 50 ∧ e.dep ≤ 50 then some (.bl (D.eqb d e), false) else none
def gNe (d e : D) : Option (D × Bool) := if d.dep ≤ 50 ∧ e.dep ≤ 50 then some (.bl (!D.eqb d e), false) else none
theorem opr_eq (hu : X.A.units + 60 < cLine) : OpR X (compareOp .Eq) (rD X.K gEq) := by
  intro pins s σ H x y v u Q I rx ry h
  obtain ⟨O, d, e, z, np, h1, h2, hg, G⟩ := h
  obtain ⟨hc, rfl⟩ := ite_some hg
  exact op_eqD hu pins s σ H x y v u Q I rx ry ⟨O, d, e, h1, h2, hc, G.bl⟩
theorem opr_ne (hu : X.A.units + 60 < cLine) : OpR X (compareOp .NotEq) (rD X.K gNe) := by
  intro pins s σ H x y v u Q I rx ry h
  obtain ⟨O, d, e, z, np, h1, h2, hg, G⟩ := h
  obtain ⟨hc, rfl⟩ := ite_some hg
  exact op_neD hu pins s σ H x y v u Q I rx ry ⟨O, d, e, h1, h2, hc, G.bl⟩
theorem map_some' {α β : Type} {x : Option α} {f : α → β} {b : β} (h : x.map f = some b) : ∃ a, x = some a ∧ f a = b := by
  cases x with
  | none => cases h
  | some a => exact ⟨a, rfl, Option.some.inj h⟩
def gNeg : D → Option (D × Bool)
  | .int i => some (.int (-i), false)
  | _ => none
theorem unr_neg : UnR X (unaryOp .USub) (rD1 X.K gNeg) := by
  intro pins s σ H x v Q I rx h
  obtain ⟨O, d, z, np, h1, hg, G⟩ := h
  cases d with
  | int i => cases hg; exact un_neg pins s σ H x v Q I rx ⟨i, view_int h1, G.int⟩
  | _ => cases hg
def gIx : D → D → Option (D × Bool)
  | .tup l, .int i => (atI l i).map fun d => (d, false)
  | .lst l, .int i => (atI l i).map fun d => (d, false)
  | _, _ => none
theorem atI_rep {K H} {O : AP'} {l : List D} {xs : List V} {i : Int} {d : D} (r : RepL K H O l xs) (h : atI l i = some d) : ∃ v, atI xs i = some v ∧ Rep K H O d v := by
  unfold atI at h ⊢
  rw [r.length]
  obtain ⟨j, h1, h2⟩ := bind_some' h
  rw [h1]
  exact r.get h2
theorem ixr_D : IxR X (rD X.K gIx) := by
  intro value slice pins s σ H x y v u Q I rx ry h hs
  obtain ⟨O, d, e, z, np, h1, h2, hg, G⟩ := h
  cases d with
  | tup l =>
    cases e with
    | int i =>
      obtain ⟨w, hw, rfl⟩ := map_some' hg
      obtain ⟨p, xs, rfl, q, r⟩ := view_tup h1
      obtain ⟨vv, hv, hr⟩ := atI_rep r hw
      exact ix_tup value slice pins s σ H _ _ v u Q I rx ry ⟨p, xs, i, vv, rfl, view_int h2, q, hv, G _ H (fun _ _ e => e) hr⟩ hs
    | _ => cases hg
  | lst l =>
    cases e with
    | int i =>
      obtain ⟨w, hw, rfl⟩ := map_some' hg
      obtain ⟨p, xs, rfl, q, r⟩ := view_lst h1
      obtain ⟨vv, hv, hr⟩ := atI_rep r hw
      exact ix_list value slice pins s σ H _ _ v u Q I rx ry ⟨p, xs, i, vv, rfl, view_int h2, q, hv, G _ H (fun _ _ e => e) hr⟩ hs
    | _ => cases hg
  | _ => cases hg
theorem px_bin {op : Operator} {g : D → D → Option (D × Bool)} (ho : OpR X (binaryOp op) (rD X.K g)) (ha : PO X a fa) (hb : PO X b fb) : PX X (.BinOp a op b pos) (fOp2 g fa fb) := px2 (pe_op ho ha hb)
theorem px_cmp {op : CmpOp} {g : D → D → Option (D × Bool)} (ho : OpR X (compareOp op) (rD X.K g)) (ha : PO X a fa) (hb : PO X b fb) (hm : behindInMarks op b = false) : PX X (.Compare a [op] [b] pos) (fOp2 g fa fb) := px2 (pe_cmpR ho ha hb hm)
theorem px_neg (ha : PO X a fa) : PX X (.UnaryOp .USub a pos) (fOp1 gNeg fa) := px1 (pe_un unr_neg ha)
theorem px_ix (ha : PO X a fa) (hb : PO X b fb) (hs : PlainIx b) : PX X (.Subscript a b pos) (fOp2 gIx fa fb) := px2 (pe_ix ixr_D ha hb hs)
end
end PX
set_option Elab.async false
set_option linter.all false
set_option maxRecDepth 100000
set_option maxHeartbeats 4000000
namespace PX
open PySem PySem.Spec PyProof.Rows L2 PySem.SeqAt
def valsOf : List Opd → Option (List D)
  | [] => some []
  | .val r :: os => (valsOf os).map (r.1 :: ·)
  | .slot _ :: _ => none
def fTup (fs : List F) : F := fun δ => (fArgs (fs.map oVal) δ).bind fun p => (valsOf p.1).bind fun ds => if ds.length ≤ sizeLine then some ((.tup ds, false), p.2) else none
def fLst (fs : List F) : F := fun δ => (fArgs (fs.map oVal) δ).bind fun p => (valsOf p.1).bind fun ds => if ds.length ≤ sizeLine then some ((.lst ds, true), p.2) else none
section
variable {K : PySem.W.Frag} {T T' : AP'} {σ : L2.St} {δ δ' : Dn} {H H' : Hp} {os : List Opd} {vs : List V}
theorem Ops.rep (E : ER K H T σ δ) (B : Ops K T σ δ H os vs δ' H' T') {j : Nat} {r : D × Bool} {v : V} (h1 : os[j]? = some (.val r)) (h2 : vs[j]? = some v) : Rep K H' (fun a => OwnA σ δ' a ∨ T a) r.1 v := by
  obtain ⟨d, b⟩ := r
  cases b with
  | false => exact B.val j d v h1 h2
  | true =>
    obtain ⟨p, rfl, tp, hp, ok⟩ := B.tmp j d v h1 h2
    refine ok.rep (fun z => ?_) fun b _ z => z
    rcases z with z | z
    · exact B.er.nT p z tp
    · exact E.dom p z hp
theorem valsOf_rep {O : AP'} : ∀ {os : List Opd} {vs : List V} {ds : List D}, valsOf os = some ds → os.length = vs.length → (∀ (j : Nat) (r : D × Bool) (v : V), os[j]? = some (.val r) → vs[j]? = some v → Rep K H' O r.1 v) → RepL K H' O ds vs
  | [], vs, ds, h, hl, _ => by
    cases h
    have : vs = [] := by simpa using hl.symm
    subst this
    exact RepL.nil
  | .slot i :: os, vs, ds, h, _, _ => by cases h
  | .val r :: os, vs, ds, h, hl, k => by
    obtain ⟨l, h1, rfl⟩ := map_some' h
    cases vs with
    | nil => simp at hl
    | cons v vs => exact RepL.cons (k 0 r v rfl rfl) (valsOf_rep h1 (by simpa using hl) fun j r' v' a b => k (j + 1) r' v' (by simpa using a) (by simpa using b))
end
section
variable {X : Cx} {e a b : Expr} {es : List Expr} {fa fb : FO} {fs : List F} {pos : Pos}
theorem px_tup {x1} (h : PA X es (tA X.K (fs.map oVal))) : PX X (.Tuple es x1 pos) (fTup fs) := PX.imp (pe_tup h) fun σ H Q hw => by
  obtain ⟨δ, T, rr, δ', E, e, k⟩ := hw
  obtain ⟨⟨os, δ1⟩, h1, e⟩ := bind_some' e
  obtain ⟨ds, h2, e⟩ := bind_some' e
  obtain ⟨hn, e⟩ := ite_some e
  obtain ⟨rfl, rfl⟩ := Prod.mk.inj e
  refine ⟨δ, T, os, δ1, E, h1, fun vs H1 T1 B => ?_⟩
  have r := valsOf_rep h2 B.len fun j r v a b => B.rep E a b
  exact ⟨by rw [r.length]; exact hn, fun p hp => (B.done k).tup hp (B.np hp) r⟩
theorem px_lst (h : PA X es (tA X.K (fs.map oVal))) : PX X (.List es pos) (fLst fs) := PX.imp (pe_lst h) fun σ H Q hw => by
  obtain ⟨δ, T, rr, δ', E, e, k⟩ := hw
  obtain ⟨⟨os, δ1⟩, h1, e⟩ := bind_some' e
  obtain ⟨ds, h2, e⟩ := bind_some' e
  obtain ⟨hn, e⟩ := ite_some e
  obtain ⟨rfl, rfl⟩ := Prod.mk.inj e
  refine ⟨δ, T, os, δ1, E, h1, fun vs H1 T1 B => ?_⟩
  have r := valsOf_rep h2 B.len fun j r v a b => B.rep E a b
  exact ⟨by rw [r.length]; exact hn, fun p hp => (B.done k).lst hp r⟩
theorem one_arg {ds : List D} {vs : List V} {d : D} (hl : ds.length = vs.length) (hd : ds = [d]) : ∃ v, vs = [v] := by
  subst hd
  cases vs with
  | nil => simp at hl
  | cons v r =>
    cases r with
    | nil => exact ⟨v, rfl⟩
    | cons _ _ => simp at hl
def g1 (g : D → Option (D × Bool)) : List D → Option (D × Bool)
  | [d] => g d
  | _ => none
def g2 (g : D → D → Option (D × Bool)) : List D → Option (D × Bool)
  | [d, e] => g d e
  | _ => none
theorem callr1 {f : Value} {g : D → Option (D × Bool)} (h : ∀ (pins : List (Addr × Obj)) (s : Shared) (σ : L2.St) (H : Hp) (x : V) (u : Value) (Q : VK) (O : AP') (d : D) (z : D × Bool), Inv X pins σ H s → RelV x u → (∀ p, H p = none → ¬ O p) → View X.K H O d x → g d = some z → Gen X.K H O z Q →
    wpAny (model X.prog X.w) X.A (call f [u]) (EP X pins σ Q) X.xe s) : CallR X f (rDn X.K (g1 g)) := by
  intro pins s σ H xs us Q I r hq
  obtain ⟨O, ds, z, np, hl, hv, hg, G⟩ := hq
  match ds, hg with
  | [d], hg =>
    obtain ⟨v, rfl⟩ := one_arg hl rfl
    obtain ⟨u, rfl, ru⟩ := vals1 r
    exact h pins s σ H v u Q O d z I ru np (hv 0 d v rfl rfl) hg G
theorem callr2 {f : Value} {g : D → D → Option (D × Bool)} (h : ∀ (pins : List (Addr × Obj)) (s : Shared) (σ : L2.St) (H : Hp) (x y : V) (us : List Value) (Q : VK) (O : AP') (d e : D) (z : D × Bool), Inv X pins σ H s → Vals [x, y] us → (∀ p, H p = none → ¬ O p) → View X.K H O d x → View X.K H O e y → g d e = some z → Gen X.K H O z Q →
    wpAny (model X.prog X.w) X.A (call f us) (EP X pins σ Q) X.xe s) : CallR X f (rDn X.K (g2 g)) := by
  intro pins s σ H xs us Q I r hq
  obtain ⟨O, ds, z, np, hl, hv, hg, G⟩ := hq
  match ds, hg, xs, hl with
  | [d, e], hg, [x, y], _ => exact h pins s σ H x y us Q O d e z I r np (hv 0 d x rfl rfl) (hv 1 e y rfl rfl) hg G
def gLen : D → Option (D × Bool)
  | .tup l => some (.int l.length, false)
  | .lst l => some (.int l.length, false)
  | _ => none
theorem call_lenD : CallR X (.builtin "len") (rDn X.K (g1 gLen)) := callr1 fun pins s σ H x u Q O d z I ru np hd hg G => by
  cases d with
  | tup l =>
    cases hg
    obtain ⟨p, xs, rfl, q, r⟩ := view_tup hd
    refine call_len_seq pins s σ H [_] [u] Q I (.cons ru .nil) ⟨p, xs, rfl, .inr q, ?_⟩
    rw [r.length]; exact G.int
  | lst l =>
    cases hg
    obtain ⟨p, xs, rfl, q, r⟩ := view_lst hd
    refine call_len_seq pins s σ H [_] [u] Q I (.cons ru .nil) ⟨p, xs, rfl, .inl q, ?_⟩
    rw [r.length]; exact G.int
  | _ => cases hg
def gAbs : D → Option (D × Bool)
  | .int i => some (.int (if i < 0 then -i else i), false)
  | _ => none
theorem call_absD : CallR X (.builtin "abs") (rDn X.K (g1 gAbs)) := callr1 fun pins s σ H x u Q O d z I ru np hd hg G => by
  cases d with
  | int i => cases hg; exact call_abs pins s σ H [x] [u] Q I (.cons ru .nil) ⟨i, by rw [view_int hd], G.int⟩
  | _ => cases hg
def gInt : D → Option (D × Bool)
  | .int i => some (.int i, false)
  | .bl b => some (.int (if b then 1 else 0), false)
  | _ => none
theorem call_intD : CallR X (.type "int") (rDn X.K (g1 gInt)) := callr1 fun pins s σ H x u Q O d z I ru np hd hg G => by
  cases d with
  | int i => cases hg; exact call_int1 pins s σ H [x] [u] Q I (.cons ru .nil) (.inl ⟨i, by rw [view_int hd], G.int⟩)
  | bl i =>
    cases hg
    refine call_int1 pins s σ H [x] [u] Q I (.cons ru .nil) (.inr ⟨i, by rw [view_bl hd], ?_⟩)
    have := G.int
    cases i <;> exact this
  | _ => cases hg
def gTuple : D → Option (D × Bool)
  | .tup l => some (.tup l, false)
  | .lst l => some (.tup l, false)
  | _ => none
theorem call_tupleD : CallR X (.type "tuple") (rDn X.K (g1 gTuple)) := callr1 fun pins s σ H x u Q O d z I ru np hd hg G => by
  cases d with
  | tup l =>
    cases hg
    have k1 : Rep X.K H O (.tup l) x := hd.elim id fun ⟨_, _, z⟩ => z.elim
    obtain ⟨p, xs, rfl, q, r⟩ := k1.tup
    exact call_tuple_of pins s σ H [_] [u] Q I (.cons ru .nil) ⟨p, xs, rfl, .inr ⟨q.sq, G _ H (fun _ _ e => e) k1⟩⟩
  | lst l =>
    cases hg
    obtain ⟨p, xs, rfl, q, r⟩ := view_lst hd
    exact call_tuple_of pins s σ H [_] [u] Q I (.cons ru .nil) ⟨p, xs, rfl, .inl ⟨q, fun t ht => G.tup ht (np t ht) r⟩⟩
  | _ => cases hg
def gList : D → Option (D × Bool)
  | .tup l => some (.lst l, true)
  | .lst l => some (.lst l, true)
  | _ => none
theorem call_listD : CallR X (.type "list") (rDn X.K (g1 gList)) := callr1 fun pins s σ H x u Q O d z I ru np hd hg G => by
  cases d with
  | tup l =>
    cases hg
    obtain ⟨p, xs, rfl, q, r⟩ := view_tup hd
    exact call_list_of pins s σ H [_] [u] Q I (.cons ru .nil) ⟨p, xs, rfl, .inr q, fun t ht => G.lst ht r⟩
  | lst l =>
    cases hg
    obtain ⟨p, xs, rfl, q, r⟩ := view_lst hd
    exact call_list_of pins s σ H [_] [u] Q I (.cons ru .nil) ⟨p, xs, rfl, .inl q, fun t ht => G.lst ht r⟩
  | _ => cases hg
end
end PX
set_option Elab.async false
set_option linter.all false
set_option maxRecDepth 100000
set_option maxHeartbeats 4000000
namespace PX
open PySem PySem.Spec PyProof.Rows L2 PySem.SeqAt
abbrev FT := Dn → Option (Bool × Dn)
def tT (K : PySem.W.Frag) (f : FT) : TT := fun σ H Q => ∃ δ T b δ', ER K H T σ δ ∧ f δ = some (b, δ') ∧ ∀ H', Keep σ δ H δ' H' → ER K H' T σ δ' → Q b H'
def PTX (X : Cx) (e : Expr) (f : FT) : Prop := PT X e (tT X.K f)
def PWX (X : Cx) (e : Expr) (f : FT) : Prop := PW X e (tT X.K f)
def asB : (D × Bool) × Dn → Option (Bool × Dn)
  | ((.bl b, _), δ) => some (b, δ)
  | _ => none
def fT (f : F) : FT := fun δ => (f δ).bind asB
theorem asB_some {p : (D × Bool) × Dn} {q : Bool × Dn} (h : asB p = some q) : ∃ o, p = ((.bl q.1, o), q.2) := by
  obtain ⟨⟨d, o⟩, δ⟩ := p
  cases d with
  | bl b => cases h; exact ⟨o, rfl⟩
  | _ => cases h
theorem tT_tF {K : PySem.W.Frag} {f : F} {σ : L2.St} {H : Hp} {Q : Bool → Hp → Prop} (h : tT K (fT f) σ H Q) : tF K f σ H fun x H1 => ∃ c, x = .bl c ∧ Q c H1 := by
  obtain ⟨δ, T, b, δ', E, e, k⟩ := h
  obtain ⟨p, h1, h2⟩ := bind_some' e
  obtain ⟨o, rfl⟩ := asB_some h2
  refine ⟨δ, T, _, _, E, h1, fun v H' P => ?_⟩
  obtain ⟨E1, r⟩ := P.rep E
  exact ⟨b, r.bl, k H' P.1 E1⟩
section
variable {X : Cx} {e a b c : Expr} {es : List Expr} {fa fb : FO} {f g : F} {ft fu : FT} {pos : Pos}
theorem PT.imp' {t t' : TT} (h : PT X e t) (k : ∀ σ H Q, t' σ H Q → t σ H Q) : PT X e t' := fun pins s σ H Q I hw => h pins s σ H Q I (k σ H Q hw)
theorem PW.imp' {t t' : TT} (h : PW X e t) (k : ∀ σ H Q, t' σ H Q → t σ H Q) : PW X e t' := fun wh pins s σ H Q I hw => h wh pins s σ H Q I (k σ H Q hw)
theorem ptx_val (h : PX X e f) (he : ∀ whole, isTrue e X.env whole = (do let v ← whole; standAt e.pos; holding [v] (truthy v))) : PTX X e (fT f) := PT.imp' (pt_val h he) fun σ H Q hw => tT_tF hw
theorem op2_imp {r : R2} {g : D → D → Option (D × Bool)} (hr : R2Ok X.K r g) {σ : L2.St} {H : Hp} {Q : VK} (hw : tF X.K (fOp2 g fa fb) σ H Q) : tOp r (tO X.K fa) (tO X.K fb) σ H Q := by
  obtain ⟨δ, T, rr, δ', E, e, k⟩ := hw
  obtain ⟨⟨o, δ1⟩, h1, e⟩ := bind_some' e
  obtain ⟨⟨o2, δ2⟩, h2, e⟩ := bind_some' e
  obtain ⟨x, h3, e⟩ := bind_some' e
  obtain ⟨y, h4, e⟩ := bind_some' e
  obtain ⟨z, h5, e⟩ := bind_some' e
  obtain ⟨rfl, rfl⟩ := some_pair e
  refine ⟨δ, T, o, δ1, E, h1, fun v H1 P1 => ⟨δ1, TmpO T o v, o2, δ2, P1.er E, h2, fun u H2 P2 => ?_⟩⟩
  have B := Ops.cons E P1 (Ops.cons (P1.er E) P2 (Ops.nil (P2.er (P1.er E))))
  exact hr x y z v u H2 _ Q (fun p hp => B.np hp) (B.view (j := 0) rfl rfl h3) (B.view (j := 1) rfl rfl h4) h5 (B.done k)
theorem rD_ok {K : PySem.W.Frag} {g : D → D → Option (D × Bool)} : R2Ok K (rD K g) g := fun x y z v u H O Q np hx hy hg G => ⟨O, x, y, z, np, hx, hy, hg, G⟩
theorem ptx_cmp {op : CmpOp} {g : D → D → Option (D × Bool)} (ho : OpR X (compareOp op) (rD X.K g)) (ha : PO X a fa) (hb : PO X b fb) (hm : behindInMarks op b = false) : PTX X (.Compare a [op] [b] pos) (fT (fOp2 g fa fb)) :=
  PT.imp' (pt_cmpR ho ha hb hm) fun σ H Q hw => op2_imp rD_ok (tT_tF hw)
def fAndT (f g : FT) : FT := fun δ => (f δ).bind fun p => if p.1 = true then g p.2 else some (false, p.2)
def fOrT (f g : FT) : FT := fun δ => (f δ).bind fun p => if p.1 = true then some (true, p.2) else g p.2
def fNotT (f : FT) : FT := fun δ => (f δ).bind fun p => some (!p.1, p.2)
theorem pwx_or1 (ha : PTX X a ft) : PWX X (.BoolOp .Or [a] pos) ft := pw_or1 ha
theorem pwx_or (ha : PTX X a ft) (hb : PWX X (.BoolOp .Or (b :: es) pos) fu) : PWX X (.BoolOp .Or (a :: b :: es) pos) (fOrT ft fu) := PW.imp' (pw_or ha hb) fun σ H Q hw => by
  obtain ⟨δ, T, c, δ', E, e, k⟩ := hw
  obtain ⟨⟨c1, δ1⟩, h1, e⟩ := bind_some' e
  refine ⟨δ, T, c1, δ1, E, h1, fun H1 K1 E1 => ?_⟩
  cases c1 with
  | true =>
    rw [if_pos rfl] at e
    rw [if_pos rfl]
    obtain ⟨rfl, rfl⟩ := some_pair e
    exact k H1 K1 E1
  | false =>
    rw [if_neg Bool.false_ne_true] at e
    rw [if_neg Bool.false_ne_true]
    exact ⟨δ1, T, c, δ', E1, e, fun H2 K2 E2 => k H2 (K1.trans K2) E2⟩
theorem ptx_not (ha : PTX X a ft) : PTX X (.UnaryOp .Not a pos) (fNotT ft) := PT.imp' (pt_not ha) fun σ H Q hw => by
  obtain ⟨δ, T, c, δ', E, e, k⟩ := hw
  obtain ⟨⟨c1, δ1⟩, h1, e⟩ := bind_some' e
  obtain ⟨rfl, rfl⟩ := some_pair e
  exact ⟨δ, T, c1, δ1, E, h1, k⟩
def fAnd (f g : F) : F := fun δ => (f δ).bind fun p => (asB p).bind fun q => if q.1 = true then g q.2 else some ((.bl false, false), q.2)
def fOr (f g : F) : F := fun δ => (f δ).bind fun p => (asB p).bind fun q => if q.1 = true then some ((.bl true, false), q.2) else g q.2
def fNot (f : F) : F := fun δ => (f δ).bind fun p => (asB p).bind fun q => some ((.bl (!q.1), false), q.2)
theorem Post.pre {K : PySem.W.Frag} {T : AP'} {σ : L2.St} {δ δ1 δ2 : Dn} {H H1 H2 : Hp} {r : D × Bool} {v : V} (k : Keep σ δ H δ1 H1) (P : Post K T σ δ1 H1 r δ2 v H2) : Post K T σ δ H r δ2 v H2 := by
  refine ⟨k.trans P.1, ?_⟩
  obtain ⟨d, o⟩ := r
  cases o with
  | false => exact P.2
  | true =>
    obtain ⟨p, h1, h2, h3⟩ := P.2
    refine ⟨p, h1, ?_, h3⟩
    cases hH : H p with
    | none => rfl
    | some ob => exact absurd h2 (k.dm p (by rw [hH]; simp))
theorem px_and (ha : PX X a f) (hb : PX X (.BoolOp .And (b :: es) pos) g) : PX X (.BoolOp .And (a :: b :: es) pos) (fAnd f g) := PX.imp (pe_and ha hb) fun σ H Q hw => by
  obtain ⟨δ, T, r, δ', E, e, k⟩ := hw
  obtain ⟨p, h1, e⟩ := bind_some' e
  obtain ⟨⟨c, δ1⟩, h2, e2⟩ := bind_some' e
  obtain ⟨o, rfl⟩ := asB_some h2
  refine ⟨δ, T, _, _, E, h1, fun v H1 P => ?_⟩
  obtain ⟨E1, rv⟩ := P.rep E
  refine ⟨c, rv.bl, ?_⟩
  cases c with
  | true =>
    rw [if_pos rfl] at e2
    rw [if_pos rfl]
    exact ⟨δ1, T, r, δ', E1, e2, fun w H2 P2 => k w H2 (P2.pre P.1)⟩
  | false =>
    rw [if_neg Bool.false_ne_true] at e2
    rw [if_neg Bool.false_ne_true]
    obtain ⟨rfl, rfl⟩ := some_pair e2
    exact k _ H1 (Post.val P.1 E1 Rep.mkBl)
theorem px_bone {op} (ha : PX X a f) : PX X (.BoolOp op [a] pos) f := pe_one ha
theorem px_not (ha : PX X a f) : PX X (.UnaryOp .Not a pos) (fNot f) := PX.imp (pe_not ha) fun σ H Q hw => by
  obtain ⟨δ, T, r, δ', E, e, k⟩ := hw
  obtain ⟨p, h1, e⟩ := bind_some' e
  obtain ⟨⟨c, δ1⟩, h2, e2⟩ := bind_some' e
  obtain ⟨o, rfl⟩ := asB_some h2
  obtain ⟨rfl, rfl⟩ := some_pair e2
  refine ⟨δ, T, _, _, E, h1, fun v H1 P => ?_⟩
  obtain ⟨E1, rv⟩ := P.rep E
  exact ⟨c, rv.bl, k _ H1 (Post.val P.1 E1 Rep.mkBl)⟩
def fIf (t : FT) (f g : F) : F := fun δ => (t δ).bind fun p => if p.1 = true then f p.2 else g p.2
theorem px_if (hc : PTX X c ft) (ha : PX X a f) (hb : PX X b g) : PX X (.IfExp c a b pos) (fIf ft f g) := PX.imp (pe_ifExp hc ha hb) fun σ H Q hw => by
  obtain ⟨δ, T, r, δ', E, e, k⟩ := hw
  obtain ⟨⟨c, δ1⟩, h1, e⟩ := bind_some' e
  refine ⟨δ, T, c, δ1, E, h1, fun H1 K1 E1 => ?_⟩
  cases c with
  | true => rw [if_pos rfl] at e; rw [if_pos rfl]; exact ⟨δ1, T, r, δ', E1, e, fun w H2 P2 => k w H2 (P2.pre K1)⟩
  | false => rw [if_neg Bool.false_ne_true] at e; rw [if_neg Bool.false_ne_true]; exact ⟨δ1, T, r, δ', E1, e, fun w H2 P2 => k w H2 (P2.pre K1)⟩
end
end PX
set_option Elab.async false
set_option linter.all false
set_option maxRecDepth 100000
set_option maxHeartbeats 4000000
namespace PX
open PySem PySem.Spec PyProof.Rows L2 PySem.SeqAt
inductive Out where
  | nx (δ : Dn) | rt (r : D × Bool) (δ : Dn) | bk (δ : Dn) | ct (δ : Dn)
abbrev FS := Dn → Option Out
structure SK (A : Nat → Prop) (σ : L2.St) (δ : Dn) (H : Hp) (σ' : L2.St) (δ' : Dn) (H' : Hp) : Prop where
  kp : ∀ a o, H a = some o → ¬ OwnA σ δ a → H' a = some o
  owi : ∀ i a, OwnI σ' δ' i a → OwnI σ δ i a ∨ H a = none
  dm : ∀ a, H a ≠ none → H' a ≠ none
  as : ∀ i, ¬ A i → σ'[i]? = σ[i]?
structure FI (L : Nat → Prop) (H0 : Hp) (σ : L2.St) (δ : Dn) (H : Hp) : Prop where
  ow : ∀ i a, OwnI σ δ i a → L i ∨ H0 a = none
  dm : ∀ a, H0 a ≠ none → H a ≠ none
def RV (K : PySem.W.Frag) (T : AP') (H0 : Hp) (r : D × Bool) (σ' : L2.St) (δ' : Dn) (v : V) (H' : Hp) : Prop :=
  match r with
  | (d, false) => ER K H' T σ' δ' ∧ Rep K H' (fun a => OwnA σ' δ' a ∨ T a) d v
  | (d, true) => ∃ p, v = .ref p ∧ H0 p = none ∧ ER K H' (fun a => T a ∨ a = p) σ' δ' ∧ OwnOk K H' (fun a => OwnA σ' δ' a ∨ T a ∨ a = p) d p
section
variable {A : Nat → Prop} {σ σ1 σ2 : L2.St} {δ δ1 δ2 : Dn} {H H0 H1 H2 : Hp} {L : Nat → Prop} {K : PySem.W.Frag} {T : AP'}
theorem SK.refl : SK A σ δ H σ δ H := ⟨fun _ _ e _ => e, fun _ _ z => .inl z, fun _ z => z, fun _ _ => rfl⟩
theorem SK.ow (k : SK A σ δ H σ1 δ1 H1) (a : Addr) (h : OwnA σ1 δ1 a) : OwnA σ δ a ∨ H a = none := by
  obtain ⟨i, d, h1, h2⟩ := h
  rcases k.owi i a ⟨d, h1, h2⟩ with ⟨e, h3, h4⟩ | z
  · exact .inl ⟨i, e, h3, h4⟩
  · exact .inr z
theorem SK.trans (x : SK A σ δ H σ1 δ1 H1) (y : SK A σ1 δ1 H1 σ2 δ2 H2) : SK A σ δ H σ2 δ2 H2 where
  kp := fun a o e n => y.kp a o (x.kp a o e n) fun z => (x.ow a z).elim n fun z => by rw [z] at e; cases e
  owi := fun i a z => (y.owi i a z).elim (x.owi i a) fun z => .inr (by
    cases h : H a with
    | none => rfl
    | some o => exact absurd z (x.dm a (by rw [h]; simp)))
  dm := fun a z => y.dm a (x.dm a z)
  as := fun i h => (y.as i h).trans (x.as i h)
theorem Keep.sk (k : Keep σ δ H δ1 H1) : SK A σ δ H σ δ1 H1 := ⟨k.kp, fun i a z => .inl (k.owi i a z), k.dm, fun _ _ => rfl⟩
theorem FI.step (f : FI L H0 σ δ H) (k : SK A σ δ H σ1 δ1 H1) : FI L H0 σ1 δ1 H1 where
  ow := fun i a z => (k.owi i a z).elim (f.ow i a) fun z => .inr (by
    cases h : H0 a with
    | none => rfl
    | some o => exact absurd z (f.dm a (by rw [h]; simp)))
  dm := fun a z => k.dm a (f.dm a z)
theorem FI.fresh (f : FI L H0 σ δ H) {p : Addr} (hp : H p = none) : H0 p = none := by
  cases h : H0 p with
  | none => rfl
  | some o => exact absurd hp (f.dm p (by rw [h]; simp))
end
def tS (K : PySem.W.Frag) (A L : Nat → Prop) (H0 : Hp) (f : FS) : TS := fun D σ H => ∃ δ T out, ER K H T σ δ ∧ FI L H0 σ δ H ∧ f δ = some out ∧
  match out with
  | .nx δ' => ∀ σ' H', SK A σ δ H σ' δ' H' → ER K H' T σ' δ' → D.nx σ' H'
  | .bk δ' => ∀ σ' H', SK A σ δ H σ' δ' H' → ER K H' T σ' δ' → D.bk σ' H'
  | .ct δ' => ∀ σ' H', SK A σ δ H σ' δ' H' → ER K H' T σ' δ' → D.ct σ' H'
  | .rt r δ' => ∀ v σ' H', SK A σ δ H σ' δ' H' → RV K T H0 r σ' δ' v H' → D.rt v H'
def PSX (X : Cx) (A L : Nat → Prop) (H0 : Hp) (st : Stmt) (f : FS) : Prop := PS X st (tS X.K A L H0 f)
def PSsX (X : Cx) (A L : Nat → Prop) (H0 : Hp) (st : List Stmt) (f : FS) : Prop := PSs X st (tS X.K A L H0 f)
def sNil : FS := fun δ => some (.nx δ)
def sSeq (f g : FS) : FS := fun δ => (f δ).bind fun o => match o with
  | .nx δ1 => g δ1
  | o => some o
def sExpr (f : F) : FS := fun δ => (f δ).bind fun p => some (.nx p.2)
def sRet (f : F) : FS := fun δ => (f δ).bind fun p => some (.rt p.1 p.2)
def sRetVar (i : Nat) : FS := fun δ => match δ[i]? with
  | some (some (d, true)) => some (.rt (d, true) (δ.set i none))
  | some (some (d, false)) => some (.rt (d, false) δ)
  | _ => none
def sIf (t : FT) (f g : FS) : FS := fun δ => (t δ).bind fun p => if p.1 = true then f p.2 else g p.2
def sSet (i : Nat) (f : F) : FS := fun δ => (f δ).bind fun p => if i < p.2.length then some (.nx (p.2.set i (some p.1))) else none
section
variable {X : Cx} {A L : Nat → Prop} {H0 : Hp} {st : Stmt} {sts : List Stmt} {f g : FS} {fe : F} {ft : FT} {e c : Expr} {pos : Pos}
theorem PS.imp' {t t' : TS} (h : PS X st t) (k : ∀ D σ H, t' D σ H → t D σ H) : PS X st t' := fun pins s σ H D I hw => h pins s σ H D I (k D σ H hw)
theorem PSs.imp' {t t' : TS} (h : PSs X sts t) (k : ∀ D σ H, t' D σ H → t D σ H) : PSs X sts t' := fun pins s σ H D I hw => h pins s σ H D I (k D σ H hw)
theorem pssx_nil : PSsX X A L H0 [] sNil := PSs.imp' pss_nil fun D σ H hw => by
  obtain ⟨δ, T, out, E, fi, e, k⟩ := hw
  cases e
  exact k σ H .refl E
theorem pssx_cons (h1 : PSX X A L H0 st f) (h2 : PSsX X A L H0 sts g) : PSsX X A L H0 (st :: sts) (sSeq f g) := PSs.imp' (pss_cons h1 h2) fun D σ H hw => by
  obtain ⟨δ, T, out, E, fi, e, k⟩ := hw
  obtain ⟨o, h3, e⟩ := bind_some' e
  refine ⟨δ, T, o, E, fi, h3, ?_⟩
  cases o with
  | nx δ1 =>
    intro σ1 H1 K1 E1
    refine ⟨δ1, T, out, E1, fi.step K1, e, ?_⟩
    cases out with
    | nx δ2 => exact fun σ2 H2 K2 E2 => k σ2 H2 (K1.trans K2) E2
    | bk δ2 => exact fun σ2 H2 K2 E2 => k σ2 H2 (K1.trans K2) E2
    | ct δ2 => exact fun σ2 H2 K2 E2 => k σ2 H2 (K1.trans K2) E2
    | rt r δ2 => exact fun v σ2 H2 K2 R2 => k v σ2 H2 (K1.trans K2) R2
  | rt r δ1 => cases e; exact k
  | bk δ1 => cases e; exact k
  | ct δ1 => cases e; exact k
theorem psx_expr (h : PX X e fe) (hs : swapsWith e none pos.line X.env = pure false) : PSX X A L H0 (.Expr e pos) (sExpr fe) := PS.imp' (ps_expr h hs) fun D σ H hw => by
  obtain ⟨δ, T, out, E, fi, e, k⟩ := hw
  obtain ⟨p, h3, e⟩ := bind_some' e
  cases e
  exact ⟨δ, T, p.1, p.2, E, h3, fun v H1 P => k σ H1 P.1.sk (P.rep E).1⟩
theorem psx_ret (h : PX X e fe) : PSX X A L H0 (.Return (some e) pos) (sRet fe) := PS.imp' (ps_ret h) fun D σ H hw => by
  obtain ⟨δ, T, out, E, fi, e, k⟩ := hw
  obtain ⟨p, h3, e⟩ := bind_some' e
  cases e
  refine ⟨δ, T, p.1, p.2, E, h3, fun v H1 P => k v σ H1 P.1.sk ?_⟩
  obtain ⟨⟨d, o⟩, δ1⟩ := p
  cases o with
  | false => exact P.2
  | true =>
    obtain ⟨q, h1, h2, h3⟩ := P.2
    exact ⟨q, h1, fi.fresh h2, h3⟩
theorem psx_if (hc : PTX X c ft) {a b : List Stmt} (ha : PSsX X A L H0 a f) (hb : PSsX X A L H0 b g) : PSX X A L H0 (.If c a b pos) (sIf ft f g) := PS.imp' (ps_if hc ha hb) fun D σ H hw => by
  obtain ⟨δ, T, out, E, fi, e, k⟩ := hw
  obtain ⟨⟨c, δ1⟩, h1, e⟩ := bind_some' e
  refine ⟨δ, T, c, δ1, E, h1, fun H1 K1 E1 => ?_⟩
  have K1' : SK A σ δ H σ δ1 H1 := K1.sk
  have fin : ∀ (h : FS), h δ1 = some out → tS X.K A L H0 h D σ H1 := fun h he => by
    refine ⟨δ1, T, out, E1, fi.step K1', he, ?_⟩
    cases out with
    | nx δ2 => exact fun σ2 H2 K2 E2 => k σ2 H2 (K1'.trans K2) E2
    | bk δ2 => exact fun σ2 H2 K2 E2 => k σ2 H2 (K1'.trans K2) E2
    | ct δ2 => exact fun σ2 H2 K2 E2 => k σ2 H2 (K1'.trans K2) E2
    | rt r δ2 => exact fun v σ2 H2 K2 R2 => k v σ2 H2 (K1'.trans K2) R2
  cases c with
  | true => rw [if_pos rfl] at e; exact (show (if true = true then tS X.K A L H0 f D σ H1 else _) from by rw [if_pos rfl]; exact fin f e)
  | false => rw [if_neg Bool.false_ne_true] at e; exact (show (if false = true then _ else tS X.K A L H0 g D σ H1) from by rw [if_neg Bool.false_ne_true]; exact fin g e)
end
end PX
set_option Elab.async false
set_option linter.all false
set_option maxRecDepth 100000
set_option maxHeartbeats 4000000
namespace PX
open PySem PySem.Spec PyProof.Rows L2 PySem.SeqAt
theorem get_set {α : Type} {l : List α} {i j : Nat} {x y : α} (h : (l.set i x)[j]? = some y) : (i = j ∧ i < l.length ∧ y = x) ∨ (i ≠ j ∧ l[j]? = some y) := by
  rw [List.getElem?_set] at h
  split at h
  · rename_i hij
    split at h
    · rename_i hl; exact .inl ⟨hij, hl, (Option.some.inj h).symm⟩
    · cases h
  · rename_i hij; exact .inr ⟨hij, h⟩
section
variable {K : PySem.W.Frag} {T : AP'} {σ : L2.St} {δ δ1 : Dn} {H H1 : Hp} {x : D × Bool} {v : V} {i : Nat}
theorem OwnI.store {j : Nat} {a : Addr} (h : OwnI (σ.set i (some v)) (δ.set i (some x)) j a) : (i ≠ j ∧ OwnI σ δ j a) ∨ (i = j ∧ x.2 = true ∧ v = .ref a) := by
  obtain ⟨d, h1, h2⟩ := h
  rcases get_set h1 with ⟨e, _, q⟩ | ⟨ne, q⟩
  · rcases get_set h2 with ⟨_, _, q2⟩ | ⟨ne2, _⟩
    · right
      cases q
      exact ⟨e, rfl, (Option.some.inj q2).symm⟩
    · exact absurd e ne2
  · rcases get_set h2 with ⟨e2, _, _⟩ | ⟨_, q2⟩
    · exact absurd e2 ne
    · exact .inl ⟨ne, d, q, q2⟩
theorem OwnA.store {a : Addr} (h : OwnA (σ.set i (some v)) (δ.set i (some x)) a) : OwnA σ δ a ∨ (x.2 = true ∧ v = .ref a) := by
  obtain ⟨j, d, h1, h2⟩ := h
  rcases OwnI.store ⟨d, h1, h2⟩ with ⟨_, e, h3, h4⟩ | ⟨_, h3⟩
  · exact .inl ⟨j, e, h3, h4⟩
  · exact .inr h3
theorem ER.store (E1 : ER K H1 (Tmp T x v) σ δ1) (hi : i < δ1.length) (hx : match x with | (d, false) => Rep K H1 (fun a => OwnA σ δ1 a ∨ T a) d v | (d, true) => ∃ p, v = .ref p ∧ ¬ T p ∧ OwnOk K H1 (fun a => OwnA σ δ1 a ∨ T a ∨ a = p) d p) :
    ER K H1 T (σ.set i (some v)) (δ1.set i (some x)) := by
  have hσ : i < σ.length := by rw [E1.len]; exact hi
  have sub : ∀ b, H1 b ≠ none → (OwnA (σ.set i (some v)) (δ1.set i (some x)) b ∨ T b) → (OwnA σ δ1 b ∨ Tmp T x v b) := fun b _ z => by
    rcases z with z | z
    · rcases z.store with z | z
      · exact .inl z
      · exact .inr (.inr z)
    · exact .inr (.inl z)
  refine ⟨by rw [List.length_set, List.length_set]; exact E1.len, fun j d hj => ?_, fun j d hj => ?_, fun j k d e a hj hk h1 h2 => ?_, fun a z => ?_, fun a z => E1.dom a (.inl z)⟩
  · rcases get_set hj with ⟨rfl, _, q⟩ | ⟨ne, q⟩
    · have q := Option.some.inj q
      subst q
      exact ⟨v, List.getElem?_set_self hσ, Rep.mono (fun _ _ e _ => e) (fun b hb z => by
        rcases z with z | z
        · rcases z.store with z | z
          · exact .inl z
          · exact absurd z.1 (by simp)
        · exact .inr z) hx⟩
    · obtain ⟨w, h1, h2⟩ := E1.val j d q
      exact ⟨w, by rw [List.getElem?_set_ne ne]; exact h1, Rep.mono (fun _ _ e _ => e) sub h2⟩
  · rcases get_set hj with ⟨rfl, _, q⟩ | ⟨ne, q⟩
    · have q := Option.some.inj q
      subst q
      obtain ⟨p, rfl, np, ok⟩ := hx
      refine ⟨p, List.getElem?_set_self hσ, ok.mono (fun _ _ e _ => e) (fun b hb z => ?_) fun _ e => e⟩
      rcases z with z | z
      · rcases z.store with z | z
        · exact .inl z
        · have := z.2; cases this; exact .inr (.inr rfl)
      · exact .inr (.inl z)
    · obtain ⟨a, h1, h2⟩ := E1.own j d q
      exact ⟨a, by rw [List.getElem?_set_ne ne]; exact h1, h2.mono (fun _ _ e _ => e) sub fun _ e => e⟩
  · rcases OwnI.store ⟨d, hj, h1⟩ with ⟨n1, d', g1, g2⟩ | ⟨e1, g1, g2⟩
    · rcases OwnI.store ⟨e, hk, h2⟩ with ⟨n2, e', g3, g4⟩ | ⟨e2, g3, g4⟩
      · exact E1.inj j k d' e' a g1 g3 g2 g4
      · exact absurd (Or.inr ⟨g3, g4⟩) (E1.nT a ⟨j, d', g1, g2⟩)
    · rcases OwnI.store ⟨e, hk, h2⟩ with ⟨n2, e', g3, g4⟩ | ⟨e2, g3, g4⟩
      · exact absurd (Or.inr ⟨g1, g2⟩) (E1.nT a ⟨k, e', g3, g4⟩)
      · exact e1.symm.trans e2
  · rcases z.store with z | z
    · exact fun t => E1.nT a z (.inl t)
    · obtain ⟨d, b⟩ := x
      cases b with
      | false => exact absurd z.1 (by simp)
      | true =>
        obtain ⟨p, rfl, np, _⟩ := hx
        have := z.2; cases this
        exact np
theorem SK.store {A : Nat → Prop} (k : Keep σ δ H δ1 H1) (ha : A i) (hp : x.2 = true → ∀ p, v = .ref p → H p = none) : SK A σ δ H (σ.set i (some v)) (δ1.set i (some x)) H1 where
  kp := k.kp
  owi := fun j a z => by
    rcases z.store with ⟨_, z⟩ | ⟨_, z1, z2⟩
    · exact .inl (k.owi j a z)
    · exact .inr (hp z1 a z2)
  dm := k.dm
  as := fun j hj => List.getElem?_set_ne (fun (e : i = j) => hj (by subst e; exact ha))
end
section
variable {X : Cx} {A L : Nat → Prop} {H0 : Hp} {fe : F} {e c : Expr} {pos pos' : Pos}
theorem store_go {K : PySem.W.Frag} {T : AP'} {σ : L2.St} {δ δ1 : Dn} {H H1 : Hp} {r : D × Bool} {v : V} {i : Nat} (E : ER K H T σ δ) (P : Post K T σ δ H r δ1 v H1) (hi : i < δ1.length) (ha : A i) :
    SK A σ δ H (σ.set i (some v)) (δ1.set i (some r)) H1 ∧ ER K H1 T (σ.set i (some v)) (δ1.set i (some r)) := by
  have hp : r.2 = true → ∀ p, v = .ref p → H p = none := fun h p hv => by
    obtain ⟨d, o⟩ := r
    cases o with
    | false => cases h
    | true => obtain ⟨q, h1, h2, _⟩ := P.2; rw [hv] at h1; cases h1; exact h2
  refine ⟨SK.store P.1 ha hp, ER.store (P.er E) hi ?_⟩
  obtain ⟨d, o⟩ := r
  cases o with
  | false => exact P.2.2
  | true =>
    obtain ⟨p, rfl, h2, h3, h4⟩ := P.2
    exact ⟨p, rfl, fun z => E.dom p z h2, h4⟩
theorem psx_set {i : Nat} {x : Str} (hN : X.N.Nodup) (hi : X.N[i]? = some x) (hx : Loc X.env.scope x) (he : PX X e fe) (hs : swapsWith e (some (.Name x pos')) pos.line X.env = pure false) (hf : X.fn x = true ∨ X.env.scope.names.lookup x = some .local) (ha : A i) :
    PSX X A L H0 (.Assign [.Name x pos'] e pos) (sSet i fe) := PS.imp' (ps_set hN hi hx he hs hf) fun D σ H hw => by
  obtain ⟨δ, T, out, E, fi, e, k⟩ := hw
  obtain ⟨⟨r, δ1⟩, h3, e⟩ := bind_some' e
  obtain ⟨hi, rfl⟩ := ite_some e
  refine ⟨δ, T, r, δ1, E, h3, fun v H1 P => ?_⟩
  obtain ⟨h1, h2⟩ := store_go (A := A) E P hi ha
  exact k _ H1 h1 h2
theorem psx_retVar {i : Nat} {x : Str} (hN : X.N[i]? = some x) (hv : Vis X.env.scope x) (hd : (x == ("__debug__" : Str)) = false) (hcd : (x == ("__classdict__" : Str)) = false) (hl : ¬ L i) : PSX X A L H0 (.Return (some (.Name x pos')) pos) (sRetVar i) := PS.imp' (ps_ret (pe_var hN hv hd hcd)) fun D σ H hw => by
  obtain ⟨δ, T, out, E, fi, e, k⟩ := hw
  unfold sRetVar at e
  cases hi : δ[i]? with
  | none => rw [hi] at e; cases e
  | some q =>
    cases q with
    | none => rw [hi] at e; cases e
    | some p =>
      obtain ⟨d, b⟩ := p
      have hil : i < δ.length := (List.getElem?_eq_some_iff.mp hi).1
      cases b with
      | false =>
        rw [hi] at e; cases e
        obtain ⟨v, h1, h2⟩ := E.val i d hi
        exact ⟨v, h1, k v σ H .refl ⟨E, h2⟩⟩
      | true =>
        rw [hi] at e; cases e
        obtain ⟨a, h1, h2⟩ := E.own i d hi
        have gone : ∀ j b, OwnI σ (δ.set i none) j b → i ≠ j ∧ OwnI σ δ j b := fun j b ⟨d', g1, g2⟩ => by
          rcases get_set g1 with ⟨_, _, q⟩ | ⟨ne, q⟩
          · cases q
          · exact ⟨ne, d', q, g2⟩
        have goneA : ∀ b, OwnA σ (δ.set i none) b → OwnA σ δ b ∧ b ≠ a := fun b ⟨j, d', g1, g2⟩ => by
          obtain ⟨ne, d2, g3, g4⟩ := gone j b ⟨d', g1, g2⟩
          exact ⟨⟨j, d2, g3, g4⟩, fun z => ne (by subst z; exact E.inj i j d d2 _ hi g3 h1 g4)⟩
        have ha : OwnA σ δ a := ⟨i, d, hi, h1⟩
        have sub : ∀ b, H b ≠ none → (OwnA σ (δ.set i none) b ∨ (T b ∨ b = a)) → (OwnA σ δ b ∨ T b) := fun b _ z => by
          rcases z with z | z | z
          · exact .inl (goneA b z).1
          · exact .inr z
          · subst z; exact .inl ha
        refine ⟨.ref a, h1, k (.ref a) σ H ⟨fun _ _ e _ => e, fun j b z => .inl (gone j b z).2, fun _ z => z, fun _ _ => rfl⟩ ⟨a, rfl, ?_, ?_, h2.mono (fun _ _ e _ => e) sub fun _ e => e⟩⟩
        · rcases fi.ow i a ⟨d, hi, h1⟩ with z | z
          · exact absurd z hl
          · exact z
        · refine ⟨by rw [List.length_set]; exact E.len, fun j d' hj => ?_, fun j d' hj => ?_, fun j k d' e' b hj hk g1 g2 => ?_, fun b z t => ?_, fun b z => ?_⟩
          · rcases get_set hj with ⟨_, _, q⟩ | ⟨ne, q⟩
            · cases q
            · obtain ⟨w, w1, w2⟩ := E.val j d' q
              exact ⟨w, w1, Rep.mono (fun _ _ e _ => e) sub w2⟩
          · rcases get_set hj with ⟨_, _, q⟩ | ⟨ne, q⟩
            · cases q
            · obtain ⟨w, w1, w2⟩ := E.own j d' q
              exact ⟨w, w1, w2.mono (fun _ _ e _ => e) sub fun _ e => e⟩
          · obtain ⟨_, d2, q1, q2⟩ := gone j b ⟨d', hj, g1⟩
            obtain ⟨_, d3, q3, q4⟩ := gone k b ⟨e', hk, g2⟩
            exact E.inj j k d2 d3 b q1 q3 q2 q4
          · obtain ⟨z1, z2⟩ := goneA b z
            rcases t with t | t
            · exact E.nT b z1 t
            · exact z2 t
          · rcases z with z | z
            · exact E.dom b z
            · subst z; exact E.ownDom ha
end
end PX
set_option Elab.async false
set_option linter.all false
set_option maxRecDepth 100000
set_option maxHeartbeats 4000000
namespace PX
open PySem PySem.Spec PyProof.Rows L2 PySem.SeqAt
abbrev Tg := D → Dn → Option Dn
def tG (K : PySem.W.Frag) (A : Nat → Prop) (tg : Tg) : TG := fun v σ H Q => ∃ δ T d δ', ER K H T σ δ ∧ Rep K H (fun a => OwnA σ δ a ∨ T a) d v ∧ tg d δ = some δ' ∧ ∀ σ', SK A σ δ H σ' δ' H → ER K H T σ' δ' → Q σ' H
def PGX (X : Cx) (A : Nat → Prop) (e : Expr) (tg : Tg) : Prop := PG X e (tG X.K A tg)
def tgName (i : Nat) : Tg := fun d δ => if i < δ.length then some (δ.set i (some (d, false))) else none
def tgAll : List Tg → List D → Dn → Option Dn
  | [], [], δ => some δ
  | t :: ts, d :: ds, δ => (t d δ).bind (tgAll ts ds)
  | _, _, _ => none
def tgTup (ts : List Tg) : Tg
  | .tup ds, δ => tgAll ts ds δ
  | _, _ => none
def tGs (K : PySem.W.Frag) (A : Nat → Prop) (ts : List Tg) : TGs := fun vs σ H Q => ∃ δ T ds δ', ER K H T σ δ ∧ RepL K H (fun a => OwnA σ δ a ∨ T a) ds vs ∧ tgAll ts ds δ = some δ' ∧ ∀ σ', SK A σ δ H σ' δ' H → ER K H T σ' δ' → Q σ' H
section
variable {X : Cx} {A : Nat → Prop} {pos : Pos} {e : Expr} {es : List Expr} {t : Tg} {ts : List Tg}
theorem PG.imp' {t t' : TG} (h : PG X e t) (k : ∀ v σ H Q, t' v σ H Q → t v σ H Q) : PG X e t' := fun pins s σ H v u Q I r hw => h pins s σ H v u Q I r (k v σ H Q hw)
theorem PGs.imp' {t t' : TGs} (h : PGs X es t) (k : ∀ v σ H Q, t' v σ H Q → t v σ H Q) : PGs X es t' := fun pins s σ H v u Q I r hw => h pins s σ H v u Q I r (k v σ H Q hw)
theorem pgx_name {i : Nat} {x : Str} (hN : X.N.Nodup) (hi : X.N[i]? = some x) (hx : Loc X.env.scope x) (hf : X.fn x = true ∨ X.env.scope.names.lookup x = some .local) (ha : A i) : PGX X A (.Name x pos) (tgName i) := PG.imp' (pg_name hN hi hx hf) fun v σ H Q hw => by
  obtain ⟨δ, T, d, δ', E, r, e, k⟩ := hw
  obtain ⟨hi, rfl⟩ := ite_some e
  obtain ⟨h1, h2⟩ := store_go (A := A) (r := (d, false)) (v := v) E (Post.val .refl E r) hi ha
  exact k _ h1 h2
theorem pgsx_nil : PGs X [] (tGs X.K A []) := PGs.imp' pgs_nil fun v σ H Q hw => by
  obtain ⟨δ, T, ds, δ', E, r, e, k⟩ := hw
  cases ds with
  | nil =>
    cases e
    rw [RepL] at r
    exact ⟨r, k σ .refl E⟩
  | cons _ _ => cases e
theorem pgsx_cons (h1 : PGX X A e t) (h2 : PGs X es (tGs X.K A ts)) (hs : (assignEach (e :: es) X.env).map (·.2) = assign e X.env :: (assignEach es X.env).map (·.2)) : PGs X (e :: es) (tGs X.K A (t :: ts)) := PGs.imp' (pgs_cons h1 h2 hs) fun v σ H Q hw => by
  obtain ⟨δ, T, ds, δ', E, r, e, k⟩ := hw
  cases ds with
  | nil => cases e
  | cons d ds =>
    rw [RepL] at r
    obtain ⟨v1, vr, rfl, r1, r2⟩ := r
    obtain ⟨δ1, h3, e⟩ := bind_some' e
    refine ⟨v1, vr, rfl, δ, T, d, δ1, E, r1, h3, fun σ1 K1 E1 => ⟨δ1, T, ds, δ', E1, ?_, e, fun σ2 K2 E2 => k σ2 (K1.trans K2) E2⟩⟩
    exact RepL.mono (fun _ _ e _ => e) (fun b hb z => z.elim (fun z => (K1.ow b z).elim Or.inl fun z => absurd z hb) Or.inr) r2
theorem pgx_tup {k : Nat} (hc : X.calm = true) (h : PGs X es (tGs X.K A ts)) {n : Nat} (hn : (assignEach es X.env).length = n) (hl : ts.length = n) (hst : (assignEach es X.env).findIdx? (·.1) = none) : PGX X A (.Tuple es k pos) (tgTup ts) := PG.imp' (pg_tup hc h hn hst) fun v σ H Q hw => by
  obtain ⟨δ, T, d, δ', E, r, e, k⟩ := hw
  cases d with
  | tup ds =>
    obtain ⟨a, xs, rfl, q, rr⟩ := r.tup
    refine ⟨a, xs, rfl, q.sq, ?_, δ, T, ds, δ', E, rr, e, k⟩
    have : ∀ (ts : List Tg) (ds : List D) (δ : Dn), tgAll ts ds δ = some δ' → ds.length = ts.length := by
      intro ts
      induction ts with
      | nil => intro ds δ h; cases ds with | nil => rfl | cons _ _ => cases h
      | cons t ts ih =>
        intro ds δ h
        cases ds with
        | nil => cases h
        | cons d ds => obtain ⟨δ1, _, h⟩ := bind_some' h; simp [ih ds δ1 h]
    rw [rr.length, this ts ds δ e, hl]
  | _ => cases e
end
structure ItOk (K : PySem.W.Frag) (J : It) (ds : List D) (O : AP') (H1 : Hp) : Prop where
  go : ∀ (i : Nat) d Hi, ds[i]? = some d → (∀ a o, H1 a = some o → ¬ O a → Hi a = some o) → J.go i Hi ∧ ∀ x H', J.yld i Hi x H' → (∀ a o, Hi a = some o → H' a = some o) ∧
    ∀ O' : AP', (∀ b, H1 b ≠ none → O' b → O b) → (∀ b, Hi b = none → ¬ O' b) → Rep K H' O' d x
  stop : ∀ (i : Nat) Hi, ds.length ≤ i → (∀ a o, H1 a = some o → ¬ O a → Hi a = some o) → J.stop i Hi
abbrev FIt := Dn → Option (List D × Dn)
def tI (K : PySem.W.Frag) (fi : FIt) : TI := fun σ H R => ∃ δ T ds δ', ER K H T σ δ ∧ fi δ = some (ds, δ') ∧ ∀ J H', Keep σ δ H δ' H' → ER K H' T σ δ' → ItOk K J ds (fun a => OwnA σ δ' a ∨ T a) H' → R J H'
def PIX (X : Cx) (tg iter : Expr) (fi : FIt) : Prop := PI X tg iter (tI X.K fi)
def itSeq (f : F) : FIt := fun δ => (f δ).bind fun p => match p.1.1 with
  | .lst l => some (l, p.2)
  | .tup l => some (l, p.2)
  | _ => none
def itRange (lo : Int) (n : Nat) : List D := (List.range n).map fun (k : Nat) => .int (lo + k)
def itR1 (f : FO) : FIt := fun δ => (fArgs [f] δ).bind fun p => match resL p.2 p.1 with
  | some [.int j] => if -(2 ^ 62) ≤ j ∧ j < 2 ^ 62 then some (itRange 0 j.toNat, p.2) else none
  | _ => none
section
variable {X : Cx} {tg e : Expr} {f : F} {fo : FO} {pos p : Pos}
theorem PI.imp' {t t' : TI} (h : PI X tg e t) (k : ∀ σ H R, t' σ H R → t σ H R) : PI X tg e t' := fun pins s σ H R I hw => h pins s σ H R I (k σ H R hw)
theorem PI.or {t t' : TI} (h : PI X tg e t) (h' : PI X tg e t') : PI X tg e (fun σ H R => t σ H R ∨ t' σ H R) := fun pins s σ H R I hw => hw.elim (h pins s σ H R I) (h' pins s σ H R I)
theorem itOk_list {K : PySem.W.Frag} {O : AP'} {H1 : Hp} {a : Addr} {xs : List V} {l : List D} (q : SqLO K H1 O a xs) (r : RepL K H1 O l xs) : ItOk K (Itl K a) l O H1 := by
  refine ⟨fun i d Hi hd hp => ?_, fun i Hi hi hp => ?_⟩
  · have q2 : SqL K Hi a xs := (q.mono (O' := O) hp (fun _ _ z => z)).sq
    obtain ⟨x, hx, rx⟩ := r.get hd
    refine ⟨⟨xs, x, q2, hx⟩, fun y H' hy => ?_⟩
    obtain ⟨rfl, hy⟩ := hy
    have := hy xs q2
    rw [hx] at this; cases this
    exact ⟨fun _ _ e => e, fun O' h1 h2 => Rep.mono hp h1 rx⟩
  · exact ⟨xs, (q.mono (O' := O) hp (fun _ _ z => z)).sq, by rw [r.length]; exact hi⟩
theorem itOk_tup {K : PySem.W.Frag} {O : AP'} {H1 : Hp} {a : Addr} {xs : List V} {l : List D} (q : SqTO K H1 O a xs) (r : RepL K H1 O l xs) : ItOk K (Itt K a) l O H1 := by
  refine ⟨fun i d Hi hd hp => ?_, fun i Hi hi hp => ?_⟩
  · have q2 : SqT K Hi a xs := (q.mono (O' := O) hp (fun _ _ z => z)).sq
    obtain ⟨x, hx, rx⟩ := r.get hd
    refine ⟨⟨xs, x, q2, hx⟩, fun y H' hy => ?_⟩
    obtain ⟨rfl, hy⟩ := hy
    have := hy xs q2
    rw [hx] at this; cases this
    exact ⟨fun _ _ e => e, fun O' h1 h2 => Rep.mono hp h1 rx⟩
  · exact ⟨xs, (q.mono (O' := O) hp (fun _ _ z => z)).sq, by rw [r.length]; exact hi⟩
theorem itOk_range {K : PySem.W.Frag} {O : AP'} {H1 : Hp} (lo : Int) (n : Nat) : ItOk K (Itr lo n) (itRange lo n) O H1 := by
  refine ⟨fun i d Hi hd hp => ?_, fun i Hi hi hp => ?_⟩
  · unfold itRange at hd
    rw [List.getElem?_map] at hd
    obtain ⟨k, h1, h2⟩ := map_some' hd
    have hi : i < n := by have := (List.getElem?_eq_some_iff.mp h1).1; simpa using this
    have hk : k = i := by rw [List.getElem?_range hi] at h1; exact (Option.some.inj h1).symm
    subst hk
    refine ⟨hi, fun y H' hy => ?_⟩
    obtain ⟨rfl, rfl⟩ := hy
    refine ⟨fun _ _ e => e, fun O' _ _ => ?_⟩
    rw [← h2]; exact Rep.mkInt
  · unfold itRange at hi
    have : n ≤ i := by simpa using hi
    exact this
theorem pix_seq (h : PX X e f) : PIX X tg e (itSeq f) := PI.imp' (PI.or (pi_list (tg := tg) h) (pi_tup h)) fun σ H R hw => by
  obtain ⟨δ, T, ds, δ', E, e, k⟩ := hw
  obtain ⟨⟨⟨d, o⟩, δ1⟩, h1, e⟩ := bind_some' e
  cases d with
  | lst l =>
    obtain ⟨rfl, rfl⟩ := some_pair e
    refine .inl ⟨δ, T, _, _, E, h1, fun v H1 P => ?_⟩
    obtain ⟨E1, r⟩ := P.rep E
    obtain ⟨a, xs, rfl, q, rr⟩ := r.lst
    exact ⟨a, rfl, ⟨xs, q.sq⟩, k _ H1 P.1 E1 (itOk_list q rr)⟩
  | tup l =>
    obtain ⟨rfl, rfl⟩ := some_pair e
    refine .inr ⟨δ, T, _, _, E, h1, fun v H1 P => ?_⟩
    obtain ⟨E1, r⟩ := P.rep E
    obtain ⟨a, xs, rfl, q, rr⟩ := r.tup
    exact ⟨a, rfl, ⟨xs, q.sq⟩, k _ H1 P.1 E1 (itOk_tup q rr)⟩
  | _ => cases e
end
def forL (tg : Tg) (fb : FS) : List D → FS
  | [], δ => some (.nx δ)
  | d :: ds, δ => (tg d δ).bind fun δ1 => (fb δ1).bind fun o => match o with
    | .nx δ2 => forL tg fb ds δ2
    | .ct δ2 => forL tg fb ds δ2
    | .bk δ2 => some (.nx δ2)
    | .rt r δ2 => some (.rt r δ2)
def sFor (fi : FIt) (tg : Tg) (fb : FS) : FS := fun δ => (fi δ).bind fun p => forL tg fb p.1 p.2
section
variable {X : Cx} {A L : Nat → Prop} {H0 : Hp} {tg iter : Expr} {body : List Stmt} {fi : FIt} {t : Tg} {fb : FS} {pos : Pos}
theorem psx_for (hp : PassesOwn (model X.prog X.w) X.A X.env X.xe) (hc : X.calm = true) (hi : PIX X tg iter fi) (hg : PGX X A tg t) (hb : PSsX X A L H0 body fb) (hs : ∀ x, foldedSetIterable iter X.env x = pure x) :
    PSX X A L H0 (.For tg iter body [] pos) (sFor fi t fb) := PS.imp' (ps_for hp hc hi hg hb hs) fun D σ H hw => by
  obtain ⟨δ, T, out, E, fi0, e, k⟩ := hw
  obtain ⟨⟨ds, δ1⟩, h1, e⟩ := bind_some' e
  refine ⟨δ, T, ds, δ1, E, h1, fun J H1 K1 E1 ok => ?_⟩
  have S1 : SK A σ δ H σ δ1 H1 := K1.sk
  refine ⟨fun i m σ' H' => m = ds.length - i ∧ i ≤ ds.length ∧ ∃ δ', SK A σ δ1 H1 σ' δ' H' ∧ ER X.K H' T σ' δ' ∧ forL t fb (ds.drop i) δ' = some out, ⟨ds.length, by simp, Nat.zero_le _, δ1, .refl, E1, by simpa using e⟩, ?_⟩
  rintro i m σ2 H2 ⟨rfl, hle, δ2, S2, E2, e2⟩
  have pres : ∀ a o, H1 a = some o → ¬ (OwnA σ δ1 a ∨ T a) → H2 a = some o := fun a o ea n => S2.kp a o ea fun z => n (.inl z)
  by_cases hlt : i < ds.length
  · refine .inr ?_
    have hd : ds[i]? = some ds[i] := List.getElem?_eq_getElem hlt
    obtain ⟨go, yl⟩ := ok.go i _ H2 hd pres
    rw [List.drop_eq_getElem_cons hlt] at e2
    obtain ⟨δ3, h3, e3⟩ := bind_some' e2
    obtain ⟨o, h4, e4⟩ := bind_some' e3
    refine ⟨go, fun σ' H' => ∃ δ', SK A σ δ1 H1 σ' δ' H' ∧ ER X.K H' T σ' δ' ∧ forL t fb (ds.drop (i + 1)) δ' = some out, fun σ' H' ⟨δ', q1, q2, q3⟩ => ⟨ds.length - (i + 1), by omega, rfl, hlt, δ', q1, q2, q3⟩, fun x H' hy => ?_⟩
    obtain ⟨ext, rep⟩ := yl x H' hy
    have E2' : ER X.K H' T σ2 δ2 := E2.mono (fun b ob eb _ => ext b ob eb) (fun _ _ z => z) (fun a z => by
      cases hh : H2 a with
      | none => exact absurd hh (E2.dom a z)
      | some ob => rw [ext a ob hh]; simp)
    have S2' : SK A σ δ1 H1 σ2 δ2 H' := S2.trans (Keep.ext ext).sk
    have rx := rep (fun a => OwnA σ2 δ2 a ∨ T a) (fun b hb z => z.elim (fun z => (S2.ow b z).elim Or.inl fun z => absurd z hb) Or.inr) (fun b hb z => z.elim (fun z => E2.ownDom z hb) fun z => E2.dom b z hb)
    refine ⟨δ2, T, ds[i], δ3, E2', rx, h3, fun σ3 S3 E3 => ?_⟩
    have S3' := S2'.trans S3
    refine ⟨δ3, T, o, E3, (fi0.step S1).step S3', h4, ?_⟩
    cases o with
    | nx δ4 => exact fun σ4 H4 S4 E4 => ⟨δ4, S3'.trans S4, E4, e4⟩
    | ct δ4 => exact fun σ4 H4 S4 E4 => ⟨δ4, S3'.trans S4, E4, e4⟩
    | bk δ4 => cases e4; exact fun σ4 H4 S4 E4 => k σ4 H4 (S1.trans (S3'.trans S4)) E4
    | rt r δ4 => cases e4; exact fun v σ4 H4 S4 R4 => k v σ4 H4 (S1.trans (S3'.trans S4)) R4
  · refine .inl ⟨ok.stop i H2 (by omega) pres, ?_⟩
    rw [List.drop_eq_nil_of_le (by omega)] at e2
    cases e2
    exact k σ2 H2 (S1.trans S2) E2
end
end PX
set_option Elab.async false
set_option linter.all false
set_option maxRecDepth 100000
set_option maxHeartbeats 4000000
namespace PX
open PySem PySem.Spec PyProof.Rows L2 PySem.SeqAt
section
variable {X : Cx} {A L : Nat → Prop} {H0 : Hp} {tg e c a b : Expr} {body : List Stmt} {ft : FT} {fb : FS} {fa fo : FO} {pos p : Pos}
theorem view_ints {K : PySem.W.Frag} {T T' : AP'} {σ : L2.St} {δ δ' : Dn} {H H' : Hp} {os : List Opd} {vs : List V} {ds : List D} (B : Ops K T σ δ H os vs δ' H' T') (h : resL δ' os = some ds) {j : Nat} {i : Int} (hd : ds[j]? = some (.int i)) : vs[j]? = some (.int i) := by
  obtain ⟨h1, h2⟩ := resL_get h
  obtain ⟨o, h3, h4⟩ := h2 j _ hd
  have hj : j < vs.length := by have := (List.getElem?_eq_some_iff.mp h3).1; have := B.len; omega
  have hv : vs[j]? = some vs[j] := List.getElem?_eq_getElem hj
  have := view_int (B.view h3 hv h4)
  rw [hv, this]
theorem pix_range1 (hg : Gl X "range") (hm : X.mg "range" = none) (ha : PA X [a] (tA X.K [fa])) (hs : starEach [a] X.env = [(false, eval a X.env)]) : PIX X tg (.Call (.Name "range" p) [a] [] pos) (itR1 fa) := PI.imp' (pi_range1 hg hm ha hs) fun σ H R hw => by
  obtain ⟨δ, T, ds, δ', E, e, k⟩ := hw
  obtain ⟨⟨os, δ1⟩, h1, e⟩ := bind_some' e
  refine ⟨δ, T, os, δ1, E, h1, fun vs H1 T1 B => ?_⟩
  dsimp only at e
  split at e
  · rename_i j hj
    obtain ⟨⟨c1, c2⟩, e⟩ := ite_some e
    obtain ⟨rfl, rfl⟩ := Prod.mk.inj e
    have hv := view_ints B hj (j := 0) rfl
    obtain ⟨hl, _⟩ := resL_get hj
    have : vs = [.int j] := by
      have hlen := B.len
      cases vs with
      | nil => simp at hv
      | cons v r =>
        cases r with
        | nil => simp at hv; rw [hv]
        | cons _ _ => simp at hl hlen; omega
    exact ⟨j, this, c1, c2, k _ H1 B.keep (B.er.mono (fun _ _ e _ => e) (fun b _ z => B.tt b z) (fun a z => B.er.dom a (B.tt a z))) (itOk_range 0 j.toNat)⟩
  · cases e
end
abbrev EvF := List (D × Bool) → Option ((D × Bool) × Dn)
def spF (K : PySem.W.Frag) (ev : EvF) : Sp := fun vs H Q _ => ∃ T args r outs, ER K H T (vs.map some) (args.map some) ∧ ev args = some (r, outs) ∧ ∀ v H', Post K T (vs.map some) (args.map some) H r outs v H' → Q v H'
def outsOf (args : List (D × Bool)) (δ : Dn) : Dn := args.zipIdx.map fun p => if p.1.2 = true then (δ[p.2]?).join else some p.1
def evF (n np : Nat) (asg : List Nat) (f : FS) : EvF := fun args =>
  if args.length = np ∧ np ≤ n ∧ (args.zipIdx.all fun p => !(p.1.2 && asg.contains p.2)) = true then
    match f (args.map some ++ List.replicate (n - np) none) with
    | some (.rt r δ) => some (r, outsOf args δ)
    | some (.nx δ) => some ((.non, false), outsOf args δ)
    | _ => none
  else none
end PX
set_option Elab.async false
set_option linter.all false
set_option maxRecDepth 100000
set_option maxHeartbeats 4000000
namespace PX
open PySem PySem.Spec PyProof.Rows L2 PySem.SeqAt
theorem outs_get (args : List (D × Bool)) (δ : Dn) (i : Nat) : (outsOf args δ)[i]? = args[i]?.map fun x => if x.2 = true then (δ[i]?).join else some x := by
  unfold outsOf
  rw [List.getElem?_map, List.getElem?_zipIdx]
  cases args[i]? with
  | none => rfl
  | some x => simp
theorem join_some {x : Option Sl} {p : D × Bool} (h : x.join = some p) : x = some (some p) := by
  cases x with
  | none => cases h
  | some y => exact congrArg some h
section
variable {K : PySem.W.Frag} {T : AP'} {A : Nat → Prop} {vs : List V} {args : List (D × Bool)} {H H' : Hp} {m : Nat} {σ' : L2.St} {δ' : Dn} {r : D × Bool} {v : V}
theorem get_pad {α : Type} {xs : List α} {m i : Nat} {y : α} : (xs.map some ++ List.replicate m none)[i]? = some (some y) ↔ xs[i]? = some y := by
  by_cases h : i < xs.length
  · rw [List.getElem?_append_left (by simpa using h), List.getElem?_map]
    cases xs[i]? <;> simp
  · rw [List.getElem?_append_right (by simpa using h)]
    constructor
    · intro e
      rw [List.getElem?_replicate] at e
      split at e <;> cases e
    · intro e
      exact absurd (List.getElem?_eq_some_iff.mp e).1 h
theorem get_some {α : Type} {xs : List α} {i : Nat} {y : α} : (xs.map some)[i]? = some (some y) ↔ xs[i]? = some y := by
  rw [List.getElem?_map]
  cases xs[i]? <;> simp
theorem ownI_pad {i : Nat} {a : Addr} : OwnI (vs.map some ++ List.replicate m none) (args.map some ++ List.replicate m none) i a ↔ OwnI (vs.map some) (args.map some) i a := by
  unfold OwnI
  simp only [get_pad, get_some]
theorem ownA_iff {σ : L2.St} {δ : Dn} {a : Addr} : OwnA σ δ a ↔ ∃ i, OwnI σ δ i a := Iff.rfl
theorem ownA_pad {a : Addr} : OwnA (vs.map some ++ List.replicate m none) (args.map some ++ List.replicate m none) a ↔ OwnA (vs.map some) (args.map some) a := by
  rw [ownA_iff, ownA_iff]
  exact exists_congr fun i => ownI_pad
theorem ER.pad (E : ER K H T (vs.map some) (args.map some)) : ER K H T (vs.map some ++ List.replicate m none) (args.map some ++ List.replicate m none) := by
  have len : vs.length = args.length := by simpa using E.len
  refine ⟨by simp [len], fun i d h => ?_, fun i d h => ?_, fun i j d e a h1 h2 h3 h4 => ?_, fun a z => E.nT a (ownA_pad.mp z), E.dom⟩
  · obtain ⟨w, w1, w2⟩ := E.val i d (get_some.mpr (get_pad.mp h))
    exact ⟨w, get_pad.mpr (get_some.mp w1), Rep.mono (fun _ _ e _ => e) (fun b _ z => z.imp ownA_pad.mp id) w2⟩
  · obtain ⟨w, w1, w2⟩ := E.own i d (get_some.mpr (get_pad.mp h))
    exact ⟨w, get_pad.mpr (get_some.mp w1), w2.mono (fun _ _ e _ => e) (fun b _ z => z.imp ownA_pad.mp id) fun _ e => e⟩
  · exact E.inj i j d e a (get_some.mpr (get_pad.mp h1)) (get_some.mpr (get_pad.mp h2)) (get_some.mpr (get_pad.mp h3)) (get_some.mpr (get_pad.mp h4))
theorem outs_er {T' : AP'} (E : ER K H T (vs.map some) (args.map some)) (S : SK A (vs.map some ++ List.replicate m none) (args.map some ++ List.replicate m none) H σ' δ' H') (hA : ∀ (i : Nat) d, args[i]? = some (d, true) → ¬ A i)
    (E' : ER K H' T' σ' δ') (hT : ∀ b, H b ≠ none → T' b → T b) : ER K H' T' (vs.map some) (outsOf args δ') ∧ (∀ b, OwnA (vs.map some) (outsOf args δ') b → OwnA σ' δ' b) ∧ Keep (vs.map some) (args.map some) H (outsOf args δ') H' := by
  have len : vs.length = args.length := by simpa using E.len
  have here : ∀ (i : Nat) d w, args[i]? = some (d, true) → vs[i]? = some w → σ'[i]? = some (some w) := fun i d w h1 h2 => by
    rw [S.as i (hA i d h1)]
    exact get_pad.mpr h2
  have outI : ∀ (i : Nat) d b, (outsOf args δ')[i]? = some (some (d, b)) → (∃ e, args[i]? = some (e, true) ∧ δ'[i]? = some (some (d, b))) ∨ (b = false ∧ args[i]? = some (d, false)) := fun i d b h => by
    rw [outs_get] at h
    obtain ⟨⟨e, c⟩, h1, h2⟩ := map_some' h
    cases c with
    | true =>
      left
      exact ⟨e, h1, join_some (by simpa using h2)⟩
    | false =>
      right
      have : some (e, false) = some (d, b) := by simpa using h2
      cases this
      exact ⟨rfl, h1⟩
  have owI : ∀ i a, OwnI (vs.map some) (outsOf args δ') i a → OwnI σ' δ' i a ∧ OwnI (vs.map some) (args.map some) i a := fun i a ⟨d, h1, h2⟩ => by
    rcases outI i d true h1 with ⟨e, h3, h4⟩ | ⟨z, _⟩
    · exact ⟨⟨d, h4, here i e _ h3 (get_some.mp h2)⟩, ⟨e, get_some.mpr h3, h2⟩⟩
    · cases z
  have owA : ∀ b, OwnA (vs.map some) (outsOf args δ') b → OwnA σ' δ' b := fun b ⟨i, d, h1, h2⟩ => by
    obtain ⟨⟨e, q1, q2⟩, _⟩ := owI i b ⟨d, h1, h2⟩
    exact ⟨i, e, q1, q2⟩
  have owA2 : ∀ b, OwnA (vs.map some) (outsOf args δ') b → OwnA (vs.map some) (args.map some) b := fun b ⟨i, d, h1, h2⟩ => by
    obtain ⟨_, ⟨e, q1, q2⟩⟩ := owI i b ⟨d, h1, h2⟩
    exact ⟨i, e, q1, q2⟩
  have kp : ∀ a o, H a = some o → ¬ OwnA (vs.map some) (args.map some) a → H' a = some o := fun a o e n => S.kp a o e fun z => n (ownA_pad.mp z)
  refine ⟨⟨?_, fun i d h => ?_, fun i d h => ?_, fun i j d e a h1 h2 h3 h4 => ?_, fun a z => E'.nT a (owA a z), E'.dom⟩, owA, ⟨kp, fun i a z => (owI i a z).2, S.dm⟩⟩
  · simp [outsOf, len]
  · have hi : i < vs.length := by
      have := (List.getElem?_eq_some_iff.mp h).1
      simp [outsOf] at this
      omega
    have hv : vs[i]? = some vs[i] := List.getElem?_eq_getElem hi
    rcases outI i d false h with ⟨e, h3, h4⟩ | ⟨_, h3⟩
    · obtain ⟨w, w1, w2⟩ := E'.val i d h4
      rw [here i e _ h3 hv] at w1; cases w1
      exact ⟨_, get_some.mpr hv, Rep.mono (fun _ _ e _ => e) (fun b _ z => z.imp (owA b) id) w2⟩
    · obtain ⟨w, w1, w2⟩ := E.val i d (get_some.mpr h3)
      exact ⟨w, w1, Rep.mono (fun b o e n => kp b o e fun z => n (.inl z)) (fun b hb z => z.imp (owA2 b) (hT b hb)) w2⟩
  · have hi : i < vs.length := by
      have := (List.getElem?_eq_some_iff.mp h).1
      simp [outsOf] at this
      omega
    have hv : vs[i]? = some vs[i] := List.getElem?_eq_getElem hi
    rcases outI i d true h with ⟨e, h3, h4⟩ | ⟨z, _⟩
    · obtain ⟨w, w1, w2⟩ := E'.own i d h4
      rw [here i e _ h3 hv] at w1
      have w1' : vs[i] = V.ref w := by simpa using w1
      exact ⟨w, by rw [← w1']; exact get_some.mpr hv, w2.mono (fun _ _ e _ => e) (fun b _ z => z.imp (owA b) id) fun _ e => e⟩
    · cases z
  · obtain ⟨_, ⟨d1, q1, q2⟩⟩ := owI i a ⟨d, h1, h3⟩
    obtain ⟨_, ⟨d2, q3, q4⟩⟩ := owI j a ⟨e, h2, h4⟩
    exact E.inj i j d1 d2 a q1 q3 q2 q4
theorem body_post (E : ER K H T (vs.map some) (args.map some)) (S : SK A (vs.map some ++ List.replicate m none) (args.map some ++ List.replicate m none) H σ' δ' H') (hA : ∀ (i : Nat) d, args[i]? = some (d, true) → ¬ A i)
    (R : RV K T H r σ' δ' v H') : Post K T (vs.map some) (args.map some) H r (outsOf args δ') v H' := by
  obtain ⟨d, b⟩ := r
  cases b with
  | false =>
    obtain ⟨E', rv⟩ := R
    obtain ⟨E2, ow, kp⟩ := outs_er E S hA E' (fun _ _ z => z)
    exact ⟨kp, E2, Rep.mono (fun _ _ e _ => e) (fun b _ z => z.imp (ow b) id) rv⟩
  | true =>
    obtain ⟨p, rfl, hp, E', ok⟩ := R
    obtain ⟨E2, ow, kp⟩ := outs_er E S hA E' (fun b hb z => z.elim id fun z => by subst z; exact absurd hp hb)
    exact ⟨kp, p, rfl, hp, E2, ok.mono (fun _ _ e _ => e) (fun b _ z => z.imp (ow b) id) fun _ e => e⟩
end
section
variable {P : Program} {w : World} {K : PySem.W.Frag} {mg : Str → Option Value} {base : Heap}
theorem fun_ok {x qual : Str} {st : Stmt} {f : Addr} {fd : FuncData} {N ps : List Str} {k : Nat} {asg : List Nat} {fs : FS} (F : Fun K x qual st f fd) (S : FnScope N ps (defScope st))
    (hbody : ∀ (cdv : Value) (A : Around) (outer : List Env) (s : Shared) (H : Hp) (E : XK) (L : Nat → Prop), (∀ i, L i → i < ps.length) → Room k (A.deeper (envOfC qual (defScope st) s.heap.objs.size f cdv)) →
      PSsX (cxOf CX0 P w K mg base N qual (defScope st) f cdv A outer s H E).nox (fun i => i ∈ asg) L H (defBody st) fs) : FnOk P w K mg base CX0 (k + 1) f fd ps (spF K (evF N.length ps.length asg fs)) := by
  refine F.ok S (fun vs H Q E h => ?_) (fun cdv A outer s H vs Q E hr h => ?_)
  · obtain ⟨T, args, r, outs, E0, e, _⟩ := h
    unfold evF at e
    split at e
    · rename_i hc
      have := E0.len
      simp at this
      rw [this]; exact hc.1
    · cases e
  · obtain ⟨T, args, r, outs, E0, e, kq⟩ := h
    unfold evF at e
    split at e
    · rename_i hc
      obtain ⟨h1, h2, h3⟩ := hc
      have hlen : vs.length = args.length := by simpa using E0.len
      refine ⟨_, hbody cdv A outer s H E (fun i => ∃ d, args[i]? = some (d, true)) (fun i ⟨d, hd⟩ => by have := (List.getElem?_eq_some_iff.mp hd).1; omega) hr, ?_⟩
      have hst : L2.start N vs = vs.map some ++ List.replicate (N.length - ps.length) none := by unfold L2.start; rw [hlen, h1]
      have hA : ∀ (i : Nat) d, args[i]? = some (d, true) → ¬ (i ∈ asg) := fun i d hd hm => by
        have hz : (args.zipIdx)[i]? = some ((d, true), i) := by rw [List.getElem?_zipIdx, hd]; simp
        have := List.all_eq_true.mp h3 _ (List.mem_of_getElem? hz)
        simp at this
        exact this hm
      rw [hst]
      have fi : FI (fun i => ∃ d, args[i]? = some (d, true)) H (vs.map some ++ List.replicate (N.length - ps.length) none) (args.map some ++ List.replicate (N.length - ps.length) none) H := ⟨fun i a z => by
        obtain ⟨d, q1, _⟩ := ownI_pad.mp z
        exact .inl ⟨d, get_some.mp q1⟩, fun _ z => z⟩
      cases hf : fs (args.map some ++ List.replicate (N.length - ps.length) none) with
      | none => rw [hf] at e; cases e
      | some out =>
        rw [hf] at e
        refine ⟨_, T, out, E0.pad, fi, hf, ?_⟩
        cases out with
        | rt r1 δ1 =>
          obtain ⟨rfl, rfl⟩ := some_pair e
          exact fun v σ' H' S1 R1 => kq v H' (body_post E0 S1 hA R1)
        | nx δ1 =>
          obtain ⟨rfl, rfl⟩ := some_pair e
          exact fun σ' H' S1 E1 => kq .non H' (body_post (r := (.non, false)) E0 S1 hA ⟨E1, Rep.mkNon⟩)
        | bk δ1 => cases e
        | ct δ1 => cases e
    · cases e
end
end PX
set_option Elab.async false
set_option linter.all false
set_option maxRecDepth 100000
set_option maxHeartbeats 4000000
namespace PX
open PySem PySem.Spec PyProof.Rows L2 PySem.SeqAt
def argOf (δ : Dn) : Opd → Option (D × Bool)
  | .val r => some (r.1, false)
  | .slot i => (δ[i]?).join
def argsOf (δ : Dn) : List Opd → Option (List (D × Bool))
  | [] => some []
  | o :: os => (argOf δ o).bind fun a => (argsOf δ os).bind fun l => some (a :: l)
def lents : List Opd → List (D × Bool) → List Nat
  | .slot i :: os, (_, true) :: as => i :: lents os as
  | _ :: os, _ :: as => lents os as
  | _, _ => []
def wb : List Opd → List (D × Bool) → Dn → Dn → Dn
  | .slot i :: os, (_, true) :: as, o :: outs, δ => wb os as outs (δ.set i o)
  | _ :: os, _ :: as, _ :: outs, δ => wb os as outs δ
  | _, _, _, δ => δ
def fUser (ev : EvF) (fs : List FO) : F := fun δ => (fArgs fs δ).bind fun p => (argsOf p.2 p.1).bind fun args => if (lents p.1 args).Nodup then (ev args).bind fun q => some (q.1, wb p.1 args q.2 p.2) else none
theorem argsOf_get {δ : Dn} : ∀ {os : List Opd} {as : List (D × Bool)}, argsOf δ os = some as → as.length = os.length ∧ ∀ (j : Nat) a, as[j]? = some a → ∃ o, os[j]? = some o ∧ argOf δ o = some a
  | [], as, h => by cases h; exact ⟨rfl, fun j d h => by simp at h⟩
  | o :: os, as, h => by
    unfold argsOf at h
    obtain ⟨d, h1, h⟩ := bind_some' h
    obtain ⟨l, h2, h⟩ := bind_some' h
    cases h
    obtain ⟨h3, h4⟩ := argsOf_get h2
    refine ⟨by simp [h3], fun j e he => ?_⟩
    cases j with
    | zero => simp at he; subst he; exact ⟨o, rfl, h1⟩
    | succ j =>
      obtain ⟨o', q1, q2⟩ := h4 j e (by simpa using he)
      exact ⟨o', by simpa using q1, q2⟩
theorem mem_lents : ∀ {os : List Opd} {as : List (D × Bool)} {j i : Nat} {d : D}, os[j]? = some (.slot i) → as[j]? = some (d, true) → i ∈ lents os as
  | [], _, _, _, _, h, _ => by simp at h
  | _ :: _, [], _, _, _, _, h => by simp at h
  | o :: os, (e, b) :: as, 0, i, d, h1, h2 => by
    simp at h1 h2
    obtain ⟨rfl, rfl⟩ := h2
    subst h1
    simp [lents]
  | o :: os, (e, b) :: as, j + 1, i, d, h1, h2 => by
    have ih := mem_lents (os := os) (as := as) (j := j) (i := i) (d := d) (by simpa using h1) (by simpa using h2)
    cases o with
    | val r => simpa [lents] using ih
    | slot k =>
      cases b with
      | true => simp [lents, ih]
      | false => simpa [lents] using ih
theorem lents_mem : ∀ {os : List Opd} {as : List (D × Bool)} {i : Nat}, i ∈ lents os as → ∃ (j : Nat) (d : D), os[j]? = some (.slot i) ∧ as[j]? = some (d, true)
  | [], _, _, h => by simp [lents] at h
  | o :: _, [], _, h => by cases o <;> simp [lents] at h
  | o :: os, (e, b) :: as, i, h => by
    have rec' : i ∈ lents os as → ∃ (j : Nat) (d : D), (o :: os)[j]? = some (.slot i) ∧ ((e, b) :: as)[j]? = some (d, true) := fun h => by
      obtain ⟨j, d, h1, h2⟩ := lents_mem h
      exact ⟨j + 1, d, by simpa using h1, by simpa using h2⟩
    cases o with
    | val r => exact rec' (by simpa [lents] using h)
    | slot k =>
      cases b with
      | true =>
        simp [lents] at h
        rcases h with rfl | h
        · exact ⟨0, e, rfl, rfl⟩
        · exact rec' h
      | false => exact rec' (by simpa [lents] using h)
theorem lents_inj : ∀ {os : List Opd} {as : List (D × Bool)} {j k i : Nat} {d e : D}, (lents os as).Nodup → os[j]? = some (.slot i) → as[j]? = some (d, true) → os[k]? = some (.slot i) → as[k]? = some (e, true) → j = k
  | [], _, _, _, _, _, _, _, h, _, _, _ => by simp at h
  | _ :: _, [], _, _, _, _, _, _, _, h, _, _ => by simp at h
  | o :: os, (e0, b) :: as, j, k, i, d, e, nd, h1, h2, h3, h4 => by
    cases j with
    | zero =>
      cases k with
      | zero => rfl
      | succ k =>
        simp at h1 h2
        obtain ⟨rfl, rfl⟩ := h2
        subst h1
        have := mem_lents (os := os) (as := as) (j := k) (by simpa using h3) (by simpa using h4)
        simp [lents] at nd
        exact absurd this nd.1
    | succ j =>
      cases k with
      | zero =>
        simp at h3 h4
        obtain ⟨rfl, rfl⟩ := h4
        subst h3
        have := mem_lents (os := os) (as := as) (j := j) (by simpa using h1) (by simpa using h2)
        simp [lents] at nd
        exact absurd this nd.1
      | succ k =>
        have nd' : (lents os as).Nodup := by
          cases o with
          | val r => simpa [lents] using nd
          | slot m =>
            cases b with
            | true => simp [lents] at nd; exact nd.2
            | false => simpa [lents] using nd
        have := lents_inj (os := os) (as := as) (j := j) (k := k) nd' (by simpa using h1) (by simpa using h2) (by simpa using h3) (by simpa using h4)
        omega
theorem wb_out : ∀ {os : List Opd} {as : List (D × Bool)} {outs δ : Dn} {i : Nat}, i ∉ lents os as → (wb os as outs δ)[i]? = δ[i]?
  | [], _, _, _, _, _ => by simp [wb]
  | o :: _, [], _, _, _, _ => by cases o <;> simp [wb]
  | o :: os, (e, b) :: as, [], _, _, _ => by cases o <;> cases b <;> simp [wb]
  | o :: os, (e, b) :: as, x :: outs, δ, i, h => by
    cases o with
    | val r => simp only [wb]; exact wb_out (by simpa [lents] using h)
    | slot k =>
      cases b with
      | true =>
        simp [lents] at h
        rw [wb, wb_out h.2, List.getElem?_set_ne (Ne.symm h.1)]
      | false => simp only [wb]; exact wb_out (by simpa [lents] using h)
theorem wb_len : ∀ {os : List Opd} {as : List (D × Bool)} {outs δ : Dn}, (wb os as outs δ).length = δ.length
  | [], _, _, _ => by simp [wb]
  | o :: _, [], _, _ => by cases o <;> simp [wb]
  | o :: os, (e, b) :: as, [], _ => by cases o <;> cases b <;> simp [wb]
  | o :: os, (e, b) :: as, x :: outs, δ => by
    cases o with
    | val r => simp only [wb]; exact wb_len
    | slot k =>
      cases b with
      | true => simp only [wb]; rw [wb_len, List.length_set]
      | false => simp only [wb]; exact wb_len
theorem wb_in : ∀ {os : List Opd} {as : List (D × Bool)} {outs δ : Dn} {i j : Nat} {d : D} {x : Sl}, (lents os as).Nodup → os[j]? = some (.slot i) → as[j]? = some (d, true) → outs[j]? = some x → i < δ.length → (wb os as outs δ)[i]? = some x
  | [], _, _, _, _, _, _, _, _, h, _, _, _ => by simp at h
  | o :: _, [], _, _, _, _, _, _, _, _, h, _, _ => by simp at h
  | o :: os, (e, b) :: as, [], _, _, _, _, _, _, _, _, h, _ => by simp at h
  | o :: os, (e, b) :: as, y :: outs, δ, i, 0, d, x, nd, h1, h2, h3, hi => by
    simp at h1 h2 h3
    obtain ⟨rfl, rfl⟩ := h2
    subst h1; subst h3
    simp [lents] at nd
    rw [wb, wb_out nd.1, List.getElem?_set_self hi]
  | o :: os, (e, b) :: as, y :: outs, δ, i, j + 1, d, x, nd, h1, h2, h3, hi => by
    have nd' : (lents os as).Nodup := by
      cases o with
      | val r => simpa [lents] using nd
      | slot m =>
        cases b with
        | true => simp [lents] at nd; exact nd.2
        | false => simpa [lents] using nd
    cases o with
    | val r => simp only [wb]; exact wb_in nd' (by simpa using h1) (by simpa using h2) (by simpa using h3) hi
    | slot k =>
      cases b with
      | true => simp only [wb]; exact wb_in nd' (by simpa using h1) (by simpa using h2) (by simpa using h3) (by rw [List.length_set]; exact hi)
      | false => simp only [wb]; exact wb_in nd' (by simpa using h1) (by simpa using h2) (by simpa using h3) hi
end PX
set_option Elab.async false
set_option linter.all false
set_option maxRecDepth 100000
set_option maxHeartbeats 4000000
namespace PX
open PySem PySem.Spec PyProof.Rows L2 PySem.SeqAt
section
variable {K : PySem.W.Frag} {T T1 : AP'} {σ : L2.St} {δ δ1 : Dn} {H H1 H' : Hp} {os : List Opd} {vs : List V} {args : List (D × Bool)} {outs : Dn} {r : D × Bool} {v : V}
def Tc (T : AP') (σ : L2.St) (δ1 : Dn) (vs : List V) (args : List (D × Bool)) : AP' := fun a => T a ∨ (OwnA σ δ1 a ∧ ¬ OwnA (vs.map some) (args.map some) a)
theorem lent_is (B : Ops K T σ δ H os vs δ1 H1 T1) (ha : argsOf δ1 os = some args) {j : Nat} {d : D} (h : args[j]? = some (d, true)) : ∃ (i : Nat) (a : Addr), os[j]? = some (.slot i) ∧ δ1[i]? = some (some (d, true)) ∧ vs[j]? = some (.ref a) ∧ σ[i]? = some (some (.ref a)) := by
  obtain ⟨hl, hg⟩ := argsOf_get ha
  obtain ⟨o, h1, h2⟩ := hg j _ h
  cases o with
  | val r => cases h2
  | slot i =>
    have h3 : δ1[i]? = some (some (d, true)) := join_some h2
    have hj : j < vs.length := by have := (List.getElem?_eq_some_iff.mp h1).1; have := B.len; omega
    have hv : vs[j]? = some vs[j] := List.getElem?_eq_getElem hj
    have h4 := B.slt j i _ h1 hv
    obtain ⟨a, h5, _⟩ := B.er.own i d h3
    rw [h4] at h5
    have : vs[j] = V.ref a := by simpa using h5
    exact ⟨i, a, h1, h3, by rw [hv, this], by rw [h4, this]⟩
theorem lentI (B : Ops K T σ δ H os vs δ1 H1 T1) (ha : argsOf δ1 os = some args) {j : Nat} {a : Addr} (h : OwnI (vs.map some) (args.map some) j a) : ∃ (i : Nat) (d : D), os[j]? = some (.slot i) ∧ args[j]? = some (d, true) ∧ OwnI σ δ1 i a := by
  obtain ⟨d, h1, h2⟩ := h
  have h1' := get_some.mp h1
  obtain ⟨i, b, q1, q2, q3, q4⟩ := lent_is B ha h1'
  have := get_some.mp h2
  rw [q3] at this; cases this
  exact ⟨i, d, q1, h1', d, q2, q4⟩
theorem lentA (B : Ops K T σ δ H os vs δ1 H1 T1) (ha : argsOf δ1 os = some args) {a : Addr} (h : OwnA (vs.map some) (args.map some) a) : OwnA σ δ1 a := by
  obtain ⟨j, d, h1, h2⟩ := h
  obtain ⟨i, _, _, _, e, q1, q2⟩ := lentI B ha ⟨d, h1, h2⟩
  exact ⟨i, e, q1, q2⟩
theorem call_in (E : ER K H T σ δ) (B : Ops K T σ δ H os vs δ1 H1 T1) (ha : argsOf δ1 os = some args) (nd : (lents os args).Nodup) : ER K H1 (Tc T σ δ1 vs args) (vs.map some) (args.map some) := by
  obtain ⟨hl, hg⟩ := argsOf_get ha
  have sub : ∀ b, (OwnA (vs.map some) (args.map some) b ∨ Tc T σ δ1 vs args b) → OwnA σ δ1 b ∨ T b := fun b z => by
    rcases z with z | z | z
    · exact .inl (lentA B ha z)
    · exact .inr z
    · exact .inl z.1
  refine ⟨by simp [hl, B.len], fun j d h => ?_, fun j d h => ?_, fun j k d e a h1 h2 h3 h4 => ?_, fun a z t => ?_, fun a z => ?_⟩
  · have h := get_some.mp h
    obtain ⟨o, h1, h2⟩ := hg j _ h
    have hj : j < vs.length := by have := (List.getElem?_eq_some_iff.mp h1).1; have := B.len; omega
    have hv : vs[j]? = some vs[j] := List.getElem?_eq_getElem hj
    refine ⟨_, get_some.mpr hv, ?_⟩
    cases o with
    | val q =>
      have : q.1 = d := by cases h2; rfl
      subst this
      exact Rep.mono (fun _ _ e _ => e) (fun b _ z => sub b z) (B.rep E h1 hv)
    | slot i =>
      have h3 : δ1[i]? = some (some (d, false)) := join_some h2
      have h4 := B.slt j i _ h1 hv
      obtain ⟨w, w1, w2⟩ := B.er.val i d h3
      rw [h4] at w1
      have : vs[j] = w := by simpa using w1
      rw [this]
      exact Rep.mono (fun _ _ e _ => e) (fun b _ z => (sub b z).imp id (B.tt b)) w2
  · obtain ⟨i, a, q1, q2, q3, q4⟩ := lent_is B ha (get_some.mp h)
    obtain ⟨b, h5, h6⟩ := B.er.own i d q2
    rw [q4] at h5; cases h5
    exact ⟨a, get_some.mpr q3, h6.mono (fun _ _ e _ => e) (fun b _ z => (sub b z).imp id (B.tt b)) fun _ e => e⟩
  · obtain ⟨i, d1, q1, q2, e1, q3, q4⟩ := lentI B ha ⟨d, h1, h3⟩
    obtain ⟨i2, d2, g1, g2, e2, g3, g4⟩ := lentI B ha ⟨e, h2, h4⟩
    have := B.er.inj i i2 e1 e2 a q3 g3 q4 g4
    subst this
    exact lents_inj nd q1 q2 g1 g2
  · rcases t with t | t
    · exact B.er.nT a (lentA B ha z) (B.tt a t)
    · exact t.2 z
  · rcases z with z | z
    · exact B.er.dom a (B.tt a z)
    · exact B.er.ownDom z.1
theorem call_er {T' Td : AP'} (E : ER K H T σ δ) (B : Ops K T σ δ H os vs δ1 H1 T1) (ha : argsOf δ1 os = some args) (nd : (lents os args).Nodup) (kC : Keep (vs.map some) (args.map some) H1 outs H')
    (E' : ER K H' Td (vs.map some) outs) (t1 : ∀ b, Tc T σ δ1 vs args b → Td b) (t2 : ∀ b, T' b → Td b) (t3 : ∀ b, H1 b ≠ none → T' b → T b) :
    ER K H' T' σ (wb os args outs δ1) ∧ (∀ b, OwnA σ (wb os args outs δ1) b → OwnA (vs.map some) outs b ∨ Tc T σ δ1 vs args b) ∧ Keep σ δ1 H1 (wb os args outs δ1) H' := by
  obtain ⟨hl, hg⟩ := argsOf_get ha
  have ol : outs.length = args.length := by have := E'.len; have := B.len; simp at *; omega
  have slotL : ∀ (i : Nat) (x : Sl), (wb os args outs δ1)[i]? = some x → (i ∉ lents os args ∧ δ1[i]? = some x) ∨ ∃ (j : Nat) (d : D), os[j]? = some (.slot i) ∧ args[j]? = some (d, true) ∧ outs[j]? = some x := fun i x h => by
    by_cases hm : i ∈ lents os args
    · right
      obtain ⟨j, d, h1, h2⟩ := lents_mem hm
      have hj : j < outs.length := by have := (List.getElem?_eq_some_iff.mp h2).1; omega
      have ho : outs[j]? = some outs[j] := List.getElem?_eq_getElem hj
      have hi : i < δ1.length := by have := (List.getElem?_eq_some_iff.mp h).1; rwa [wb_len] at this
      have := wb_in (δ := δ1) nd h1 h2 ho hi
      rw [h] at this; cases this
      exact ⟨j, d, h1, h2, ho⟩
    · left
      rw [wb_out hm] at h
      exact ⟨hm, h⟩
  have notL : ∀ {i : Nat} {a : Addr}, i ∉ lents os args → OwnI σ δ1 i a → ¬ OwnA (vs.map some) (args.map some) a := fun {i a} hm ⟨e, q1, q2⟩ ⟨j, d, h1, h2⟩ => by
    obtain ⟨i2, d2, g1, g2, e2, g3, g4⟩ := lentI B ha ⟨d, h1, h2⟩
    have := B.er.inj i i2 e e2 a q1 g3 q2 g4
    subst this
    exact hm (mem_lents g1 g2)
  have owI : ∀ i a, OwnI σ (wb os args outs δ1) i a → OwnI σ δ1 i a ∧ (OwnA (vs.map some) outs a ∨ Tc T σ δ1 vs args a) := fun i a ⟨d, h1, h2⟩ => by
    rcases slotL i _ h1 with ⟨hm, h3⟩ | ⟨j, e, g1, g2, g3⟩
    · exact ⟨⟨d, h3, h2⟩, .inr (.inr ⟨⟨i, d, h3, h2⟩, notL hm ⟨d, h3, h2⟩⟩)⟩
    · obtain ⟨i2, b, q1, q2, q3, q4⟩ := lent_is B ha g2
      rw [g1] at q1; cases q1
      rw [h2] at q4; cases q4
      exact ⟨⟨e, q2, h2⟩, .inl ⟨j, d, g3, get_some.mpr q3⟩⟩
  have owA : ∀ b, OwnA σ (wb os args outs δ1) b → OwnA (vs.map some) outs b ∨ Tc T σ δ1 vs args b := fun b ⟨i, d, h1, h2⟩ => (owI i b ⟨d, h1, h2⟩).2
  have owB : ∀ b, OwnA σ (wb os args outs δ1) b → OwnA σ δ1 b := fun b ⟨i, d, h1, h2⟩ => by
    obtain ⟨⟨e, q1, q2⟩, _⟩ := owI i b ⟨d, h1, h2⟩
    exact ⟨i, e, q1, q2⟩
  have kp : ∀ a o, H1 a = some o → ¬ OwnA σ δ1 a → H' a = some o := fun a o e n => kC.kp a o e fun z => n (lentA B ha z)
  have subO : ∀ b, (OwnA σ (wb os args outs δ1) b ∨ T' b) → OwnA (vs.map some) outs b ∨ Td b := fun b z => by
    rcases z with z | z
    · exact (owA b z).imp id (t1 b)
    · exact .inr (t2 b z)
  refine ⟨⟨by rw [wb_len]; exact B.er.len, fun i d h => ?_, fun i d h => ?_, fun i k d e a h1 h2 h3 h4 => ?_, fun a z t => ?_, fun a z => E'.dom a (t2 a z)⟩, owA, ⟨kp, fun i a z => (owI i a z).1, kC.dm⟩⟩
  · rcases slotL i _ h with ⟨hm, h3⟩ | ⟨j, e, g1, g2, g3⟩
    · obtain ⟨w, w1, w2⟩ := B.er.val i d h3
      exact ⟨w, w1, Rep.mono (fun b o e n => kp b o e fun z => n (.inl z)) (fun b hb z => z.imp (owB b) fun z => B.tt b (t3 b hb z)) w2⟩
    · obtain ⟨i2, b, q1, q2, q3, q4⟩ := lent_is B ha g2
      rw [g1] at q1; cases q1
      obtain ⟨w, w1, w2⟩ := E'.val j d g3
      have := get_some.mp w1
      rw [q3] at this; cases this
      exact ⟨_, q4, Rep.mono (fun _ _ e _ => e) (fun b _ z => subO b z) w2⟩
  · rcases slotL i _ h with ⟨hm, h3⟩ | ⟨j, e, g1, g2, g3⟩
    · obtain ⟨a, w1, w2⟩ := B.er.own i d h3
      exact ⟨a, w1, w2.mono (fun b o e n => kp b o e fun z => n (.inl z)) (fun b hb z => z.imp (owB b) fun z => B.tt b (t3 b hb z)) fun o e => kC.kp a o e (notL hm ⟨d, h3, w1⟩)⟩
    · obtain ⟨i2, b, q1, q2, q3, q4⟩ := lent_is B ha g2
      rw [g1] at q1; cases q1
      obtain ⟨a, w1, w2⟩ := E'.own j d g3
      have := get_some.mp w1
      rw [q3] at this; cases this
      exact ⟨_, q4, w2.mono (fun _ _ e _ => e) (fun b _ z => subO b z) fun _ e => e⟩
  · obtain ⟨⟨e1, q1, q2⟩, _⟩ := owI i a ⟨d, h1, h3⟩
    obtain ⟨⟨e2, q3, q4⟩, _⟩ := owI k a ⟨e, h2, h4⟩
    exact B.er.inj i k e1 e2 a q1 q3 q2 q4
  · exact B.er.nT a (owB a z) (B.tt a (t3 a (B.er.ownDom (owB a z)) t))
theorem call_out (E : ER K H T σ δ) (B : Ops K T σ δ H os vs δ1 H1 T1) (ha : argsOf δ1 os = some args) (nd : (lents os args).Nodup) (P : Post K (Tc T σ δ1 vs args) (vs.map some) (args.map some) H1 r outs v H') :
    Post K T σ δ H r (wb os args outs δ1) v H' := by
  obtain ⟨d, b⟩ := r
  cases b with
  | false =>
    obtain ⟨kC, E', rv⟩ := P
    obtain ⟨E2, ow, k2⟩ := call_er (T' := T) E B ha nd kC E' (fun _ z => z) (fun _ z => .inl z) (fun _ _ z => z)
    refine ⟨B.keep.trans k2, E2, Rep.mono (fun _ _ e _ => e) (fun b _ z => ?_) rv⟩
    rcases z with z | z
    · exact ow b z
    · exact .inr (.inl z)
  | true =>
    obtain ⟨kC, p, rfl, hp, E', ok⟩ := P
    obtain ⟨E2, ow, k2⟩ := call_er (T' := fun a => T a ∨ a = p) E B ha nd kC E' (fun _ z => .inl z) (fun b z => z.elim (fun z => .inl (.inl z)) .inr) (fun b hb z => z.elim id fun z => by subst z; exact absurd hp hb)
    refine ⟨B.keep.trans k2, p, rfl, ?_, E2, ok.mono (fun _ _ e _ => e) (fun b _ z => ?_) fun _ e => e⟩
    · cases hH : H p with
      | none => rfl
      | some ob => exact absurd hp (B.keep.dm p (by rw [hH]; simp))
    · rcases z with z | z | z
      · exact (ow b z).imp id .inl
      · exact .inr (.inl (.inl z))
      · exact .inr (.inr z)
end
section
variable {X : Cx} {e : Expr} {es : List Expr} {fs : List FO} {pos p : Pos} {k : Nat} {f : Addr} {fd : FuncData} {ps : List Str} {ev : EvF} {x : Str}
theorem px_user (F : FnOk X.prog X.w X.K X.mg X.base CX0 k f fd ps (spF X.K ev)) (hr : Room k X.A) (hg : Gl X x) (hm : X.mg x = some (.ref f)) (hk : PySem.W.keepIn X.K (.ref f) = true) (hb : Binds X.K fd ps [])
    (ha : PA X (e :: es) (tA X.K fs)) (hdb : (x == ("__debug__" : Str)) = false) (he : starEach (e :: es) X.env = (false, eval e X.env) :: starEach es X.env) (hpl : (backTo pos (starEach es X.env)).any (·.1) = false) :
    PX X (.Call (.Name x p) (e :: es) [] pos) (fUser ev fs) := PX.imp (pe_call F hr hg hm hk hb (.nil) pass0 ha hdb he hpl) fun σ H Q hw => by
  obtain ⟨δ, T, rr, δ', E, e, k⟩ := hw
  obtain ⟨⟨os, δ1⟩, h1, e⟩ := bind_some' e
  obtain ⟨args, h2, e⟩ := bind_some' e
  dsimp only at e
  split at e
  · rename_i nd
    obtain ⟨⟨r, outs⟩, h3, e⟩ := bind_some' e
    obtain ⟨rfl, rfl⟩ := some_pair e
    refine ⟨δ, T, os, δ1, E, h1, fun vs H1 T1 B => ?_⟩
    show spF X.K ev (vs ++ []) H1 Q E0; rw [List.append_nil]
    exact ⟨Tc T σ δ1 vs args, args, r, outs, call_in E B h2 nd, h3, fun v H' P => k v H' (call_out E B h2 nd P)⟩
  · cases e
end
end PX
set_option Elab.async false
set_option linter.all false
set_option maxRecDepth 100000
set_option maxHeartbeats 4000000
namespace PX
open PySem PySem.Spec PyProof.Rows L2 PySem.SeqAt
structure SKd (A : Nat → Prop) (d : Addr) (σ : L2.St) (δ : Dn) (H : Hp) (σ' : L2.St) (δ' : Dn) (H' : Hp) : Prop where
  kp : ∀ a o, H a = some o → ¬ OwnA σ δ a → a ≠ d → H' a = some o
  owi : ∀ i a, OwnI σ' δ' i a → OwnI σ δ i a ∨ H a = none
  dm : ∀ a, H a ≠ none → H' a ≠ none
  as : ∀ i, ¬ A i → σ'[i]? = σ[i]?
section
variable {A : Nat → Prop} {d : Addr} {σ σ1 σ2 : L2.St} {δ δ1 δ2 : Dn} {H H1 H2 : Hp}
theorem SK.skd (k : SK A σ δ H σ1 δ1 H1) : SKd A d σ δ H σ1 δ1 H1 := ⟨fun a o e n _ => k.kp a o e n, k.owi, k.dm, k.as⟩
theorem SKd.ow (k : SKd A d σ δ H σ1 δ1 H1) (a : Addr) (h : OwnA σ1 δ1 a) : OwnA σ δ a ∨ H a = none := by
  obtain ⟨i, e, h1, h2⟩ := h
  rcases k.owi i a ⟨e, h1, h2⟩ with ⟨e, h3, h4⟩ | z
  · exact .inl ⟨i, e, h3, h4⟩
  · exact .inr z
theorem SKd.trans (x : SKd A d σ δ H σ1 δ1 H1) (y : SKd A d σ1 δ1 H1 σ2 δ2 H2) : SKd A d σ δ H σ2 δ2 H2 where
  kp := fun a o e n nd => y.kp a o (x.kp a o e n nd) (fun z => (x.ow a z).elim n fun z => by rw [z] at e; cases e) nd
  owi := fun i a z => (y.owi i a z).elim (x.owi i a) fun z => .inr (by
    cases h : H a with
    | none => rfl
    | some o => exact absurd z (x.dm a (by rw [h]; simp)))
  dm := fun a z => y.dm a (x.dm a z)
  as := fun i h => (y.as i h).trans (x.as i h)
end
structure BS (K : PySem.W.Frag) (d : Addr) (T : AP') (σ : L2.St) (δ : Dn) (acc : List D) (H : Hp) : Prop where
  er : ER K H T σ δ
  td : T d
  at' : ∃ ys, H d = some (.lst ys) ∧ RepL K H (fun a => OwnA σ δ a ∨ T a) acc ys
abbrev FB := List D → Dn → Option (List D × Dn)
def tBx (K : PySem.W.Frag) (A : Nat → Prop) (d : Addr) (f : FB) : TB := fun σ H N => ∃ δ T acc acc' δ', BS K d T σ δ acc H ∧ f acc δ = some (acc', δ') ∧ ∀ σ' H', SKd A d σ δ H σ' δ' H' → BS K d T σ' δ' acc' H' → N σ' H'
def bEmit (f : F) : FB := fun acc δ => (f δ).bind fun p => if acc.length < sizeLine then some (acc ++ [p.1.1], p.2) else none
def bLoop (tg : Tg) (ti : FT) (fb : FB) : List D → FB
  | [], acc, δ => some (acc, δ)
  | x :: xs, acc, δ => (tg x δ).bind fun δ1 => (ti δ1).bind fun p => (if p.1 = true then fb acc p.2 else some (acc, p.2)).bind fun q => bLoop tg ti fb xs q.1 q.2
section
variable {K : PySem.W.Frag} {A : Nat → Prop} {d : Addr} {T : AP'} {σ σ1 : L2.St} {δ δ1 : Dn} {acc : List D} {H H1 : Hp}
theorem BS.step (b : BS K d T σ δ acc H) (k : SK A σ δ H σ1 δ1 H1) (E1 : ER K H1 T σ1 δ1) : BS K d T σ1 δ1 acc H1 := by
  obtain ⟨ys, h1, h2⟩ := b.at'
  refine ⟨E1, b.td, ys, k.kp d _ h1 fun z => b.er.nT d z b.td, RepL.mono (fun b o e n => k.kp b o e fun z => n (.inl z)) (fun c hc z => ?_) h2⟩
  rcases z with z | z
  · exact (k.ow c z).elim Or.inl fun z => absurd z hc
  · exact .inr z
theorem loop_go {g : TG} {ti : TT} {tb : TB} {tg : Tg} {ft : FT} {fb : FB} {J : It} {ds : List D} {N : L2.St → Hp → Prop} {acc' : List D} {δ' : Dn} (hg : ∀ v σ H Q, tG K A tg v σ H Q → g v σ H Q) (hi : ∀ σ H Q, tT K ft σ H Q → ti σ H Q) (hb : ∀ σ H N, tBx K A d fb σ H N → tb σ H N)
    (b : BS K d T σ δ acc H) (O : AP') (ok : ItOk K J ds O H1) (s1 : ∀ a o, H1 a = some o → ¬ O a → H a = some o) (s2 : ∀ a, H1 a ≠ none → (OwnA σ δ a ∨ T a) → O a) (s3 : ∀ a, H1 a ≠ none → H a ≠ none) (e : bLoop tg ft fb ds acc δ = some (acc', δ'))
    (k : ∀ σ' H', SKd A d σ δ H σ' δ' H' → BS K d T σ' δ' acc' H' → N σ' H') : tLoop J g ti tb σ H N := by
  refine ⟨fun i m σ2 H2 => m = ds.length - i ∧ i ≤ ds.length ∧ ∃ δ2 acc2, SKd A d σ δ H σ2 δ2 H2 ∧ BS K d T σ2 δ2 acc2 H2 ∧ bLoop tg ft fb (ds.drop i) acc2 δ2 = some (acc', δ'), ⟨ds.length, by simp, Nat.zero_le _, δ, acc, SK.refl.skd, b, by simpa using e⟩, ?_⟩
  rintro i m σ2 H2 ⟨rfl, hle, δ2, acc2, S2, B2, e2⟩
  have hO : ∀ a, H1 a ≠ none → (OwnA σ2 δ2 a ∨ T a) → O a := fun a ha z => by
    rcases z with z | z
    · exact (S2.ow a z).elim (fun z => s2 a ha (.inl z)) fun z => absurd z (s3 a ha)
    · exact s2 a ha (.inr z)
  have pres : ∀ a o, H1 a = some o → ¬ O a → H2 a = some o := fun a o ea n => S2.kp a o (s1 a o ea n) (fun z => n (s2 a (by rw [ea]; simp) (.inl z))) (fun z => n (s2 a (by rw [ea]; simp) (.inr (by rw [z]; exact b.td))))
  by_cases hlt : i < ds.length
  · refine .inr ?_
    have hd : ds[i]? = some ds[i] := List.getElem?_eq_getElem hlt
    obtain ⟨go, yl⟩ := ok.go i _ H2 hd pres
    rw [List.drop_eq_getElem_cons hlt] at e2
    obtain ⟨δ3, h3, e3⟩ := bind_some' e2
    obtain ⟨⟨c, δ4⟩, h4, e4⟩ := bind_some' e3
    obtain ⟨⟨acc5, δ5⟩, h5, e5⟩ := bind_some' e4
    refine ⟨go, fun x H' hy => ?_⟩
    obtain ⟨ext, rep⟩ := yl x H' hy
    have E2' : ER K H' T σ2 δ2 := B2.er.mono (fun b ob eb _ => ext b ob eb) (fun _ _ z => z) (fun a z => by
      cases hh : H2 a with
      | none => exact absurd hh (B2.er.dom a z)
      | some ob => rw [ext a ob hh]; simp)
    have SX : SK A σ2 δ2 H2 σ2 δ2 H' := (Keep.ext ext).sk
    have B2' := B2.step SX E2'
    have S2' : SKd A d σ δ H σ2 δ2 H' := S2.trans SX.skd
    have rx := rep (fun a => OwnA σ2 δ2 a ∨ T a) hO (fun b hb z => z.elim (fun z => B2.er.ownDom z hb) fun z => B2.er.dom b z hb)
    refine hg _ _ _ _ ⟨δ2, T, ds[i], δ3, E2', rx, h3, fun σ3 S3 E3 => ?_⟩
    have B3 := B2'.step S3 E3
    have S3' := S2'.trans S3.skd
    refine hi _ _ _ ⟨δ3, T, c, δ4, E3, h4, fun H4 K4 E4 => ?_⟩
    have S4 : SK A σ3 δ3 H' σ3 δ4 H4 := K4.sk
    have B4 := B3.step S4 E4
    have S4' := S3'.trans S4.skd
    cases c with
    | false =>
      rw [if_neg Bool.false_ne_true] at h5
      obtain ⟨rfl, rfl⟩ := some_pair h5
      exact iteF ⟨ds.length - (i + 1), by omega, rfl, hlt, δ4, acc2, S4', B4, e5⟩
    | true =>
      rw [if_pos rfl] at h5
      exact iteT (hb _ _ _ ⟨δ4, T, acc2, acc5, δ5, B4, h5, fun σ5 H5 S5 B5 => ⟨ds.length - (i + 1), by omega, rfl, hlt, δ5, acc5, S4'.trans S5, B5, e5⟩⟩)
  · refine .inl ⟨ok.stop i H2 (by omega) pres, ?_⟩
    rw [List.drop_eq_nil_of_le (by omega)] at e2
    obtain ⟨rfl, rfl⟩ := some_pair e2
    exact k σ2 H2 S2 B2
end
section
variable {X : Cx} {A : Nat → Prop} {d : Addr} {elt : Expr} {f : F}
theorem PB.imp' {code : Sem Unit} {t t' : TB} (h : PB X code t) (k : ∀ σ H N, t' σ H N → t σ H N) : PB X code t' := fun pins s σ H N I hw => h pins s σ H N I (k σ H N hw)
theorem pbx_emit {gens : List Comprehension} {sc : Scope} {p : Pos} {depth : Nat} (hn : gens[depth + 1]? = none) (he : PX X elt f) : PB X (compBody (.ListComp elt gens sc p) depth (.ref d) X.env) (tBx X.K A d (bEmit f)) := PB.imp' (pb_emit hn he) fun σ H N hw => by
  obtain ⟨δ, T, acc, acc', δ', B, e, k⟩ := hw
  obtain ⟨⟨r, δ1⟩, h1, e⟩ := bind_some' e
  obtain ⟨hz, e⟩ := ite_some e
  obtain ⟨rfl, rfl⟩ := Prod.mk.inj e
  refine ⟨δ, T, r, δ1, B.er, h1, fun v H1 P => ?_⟩
  obtain ⟨E1, rv⟩ := P.rep B.er
  have S1 : SK A σ δ H σ δ1 H1 := P.1.sk
  have B1 := B.step S1 E1
  obtain ⟨ys, hy, ry⟩ := B1.at'
  refine ⟨ys, hy, by rw [ry.length]; exact hz, k σ _ ?_ ?_⟩
  · have : SKd A d σ δ1 H1 σ δ1 (upd H1 d (.lst (ys ++ [v]))) := ⟨fun a o e n nd => by rw [upd_ne nd]; exact e, fun i a z => .inl z, fun a z => by
      by_cases ha : a = d
      · subst ha; rw [upd_same]; simp
      · rw [upd_ne ha]; exact z, fun _ _ => rfl⟩
    exact S1.skd.trans this
  · have hk : ∀ b o, H1 b = some o → ¬ T b → upd H1 d (.lst (ys ++ [v])) b = some o := fun b o e n => by rw [upd_ne (by intro z; subst z; exact n B.td)]; exact e
    have hd : ∀ a, T a → upd H1 d (.lst (ys ++ [v])) a ≠ none := fun a z => by
      by_cases ha : a = d
      · subst ha; rw [upd_same]; simp
      · rw [upd_ne ha]; exact E1.dom a z
    refine ⟨E1.mono hk (fun _ _ z => z) hd, B.td, ys ++ [v], upd_same, ?_⟩
    exact RepL.mono (fun b o e n => hk b o e fun z => n (.inr z)) (fun _ _ z => z) (ry.append (RepL.one rv))
end
end PX
set_option Elab.async false
set_option linter.all false
set_option maxRecDepth 100000
set_option maxHeartbeats 4000000
namespace PX
open PySem PySem.Spec PyProof.Rows L2 PySem.SeqAt
def fComp (caps : List Nat) (k : Nat) (fi : FIt) (tg : Tg) (ti : FT) (fb : FB) : F := fun δ => (fi δ).bind fun p => (argsOf p.2 (caps.map .slot)).bind fun args =>
  if (lents (caps.map .slot) args).Nodup then (bLoop tg ti fb p.1 [] (args.map some ++ List.replicate k none)).bind fun q => some ((.lst q.1, true), wb (caps.map .slot) args (outsOf args q.2) p.2) else none
def preC (caps : List Nat) (k : Nat) (σ : L2.St) : L2.St := (caps.map fun j => (σ[j]?).join) ++ List.replicate k none
theorem comp_imp {K : PySem.W.Frag} {caps : List Nat} {k : Nat} {fi : FIt} {tg : Tg} {ti : FT} {fb : FB} {σ : L2.St} {H : Hp} {Q : VK} (h : tF K (fComp caps k fi tg ti fb) σ H Q) :
    tComp (tI K fi) (tG K (fun i => caps.length ≤ i) tg) (tT K ti) (fun d => tBx K (fun i => caps.length ≤ i) d fb) (preC caps k) σ H Q := by
  obtain ⟨δ, T, rr, δr, E, e, kq⟩ := h
  obtain ⟨⟨ds, δ1⟩, h1, e⟩ := bind_some' e
  obtain ⟨args, ha, e⟩ := bind_some' e
  dsimp only at e ha
  split at e
  case isFalse => cases e
  rename_i nd
  obtain ⟨⟨acc, δ'⟩, h2, e⟩ := bind_some' e
  obtain ⟨rfl, rfl⟩ := some_pair e
  refine ⟨δ, T, ds, δ1, E, h1, fun J H1 K1 E1 ok d hd => ?_⟩
  obtain ⟨hl, hg⟩ := argsOf_get ha
  have hl' : args.length = caps.length := by simpa using hl
  let vs : List V := caps.map fun j => ((σ[j]?).join).getD .non
  have there : ∀ (i j : Nat), caps[i]? = some j → ∃ v, σ[j]? = some (some v) := fun i j hj => by
    have hi : i < args.length := by have := (List.getElem?_eq_some_iff.mp hj).1; omega
    obtain ⟨o, q1, q2⟩ := hg i _ (List.getElem?_eq_getElem hi)
    rw [List.getElem?_map, hj] at q1
    cases q1
    have q3 := join_some q2
    generalize args[i] = y at q3
    obtain ⟨x, b⟩ := y
    cases b with
    | false => obtain ⟨v, h, _⟩ := E1.val j x q3; exact ⟨v, h⟩
    | true => obtain ⟨a, h, _⟩ := E1.own j x q3; exact ⟨_, h⟩
  have hvs : ∀ (i j : Nat), caps[i]? = some j → ∃ v, vs[i]? = some v ∧ σ[j]? = some (some v) := fun i j hj => by
    obtain ⟨v, hv⟩ := there i j hj
    refine ⟨v, ?_, hv⟩
    show (caps.map fun j => ((σ[j]?).join).getD .non)[i]? = some v
    rw [List.getElem?_map, hj]
    simp [hv]
  have hpre : preC caps k σ = vs.map some ++ List.replicate k none := by
    unfold preC
    congr 1
    apply List.ext_getElem?
    intro i
    show _ = ((caps.map fun j => ((σ[j]?).join).getD .non).map some)[i]?
    rw [List.getElem?_map, List.getElem?_map, List.getElem?_map]
    cases hj : caps[i]? with
    | none => rfl
    | some j => obtain ⟨v, hv⟩ := there i j hj; simp [hv]
  have B0 : Ops K T σ δ1 H1 (caps.map Opd.slot) vs δ1 H1 T := by
    refine ⟨by simp [vs], .refl, E1, fun _ z => z, fun j x v hj => ?_, fun j x v hj => ?_, fun j i v hj hv => ?_⟩
    · rw [List.getElem?_map] at hj
      obtain ⟨_, _, z⟩ := map_some' hj
      cases z
    · rw [List.getElem?_map] at hj
      obtain ⟨_, _, z⟩ := map_some' hj
      cases z
    · rw [List.getElem?_map] at hj
      obtain ⟨c, hc, z⟩ := map_some' hj
      cases z
      obtain ⟨v', q1, q2⟩ := hvs j i hc
      rw [hv] at q1; cases q1
      exact q2
  have Ec := call_in E1 B0 ha nd
  have hA : ∀ (i : Nat) x, args[i]? = some (x, true) → ¬ (caps.length ≤ i) := fun i x hx => by
    have := (List.getElem?_eq_some_iff.mp hx).1
    omega
  rw [hpre]
  have hx := upd_ext (o := .lst []) hd
  have nz : ∀ a, H1 a ≠ none → upd H1 d (.lst []) a ≠ none := fun a z => by
    cases hh : H1 a with
    | none => exact absurd hh z
    | some o => rw [hx a o hh]; simp
  have b0 : BS K d (fun a => Tc T σ δ1 vs args a ∨ a = d) (vs.map some ++ List.replicate k none) (args.map some ++ List.replicate k none) [] (upd H1 d (.lst [])) := by
    refine ⟨(Ec.pad).mono (fun b o eb _ => hx b o eb) (fun b hb z => z.elim id fun z => by subst z; exact absurd hd hb) (fun a z => ?_), .inr rfl, [], upd_same, RepL.nil⟩
    rcases z with z | z
    · exact nz a (Ec.dom a z)
    · subst z; rw [upd_same]; simp
  refine loop_go (fun _ _ _ _ h => h) (fun _ _ _ h => h) (fun _ _ _ h => h) b0 _ ok (fun a o ea _ => hx a o ea) (fun a ha0 z => ?_) nz h2 fun σ' H2 S2 B2 => ?_
  · rcases z with z | z | z
    · exact .inl (lentA B0 ha (ownA_pad.mp z))
    · rcases z with z | z
      · exact .inr z
      · exact .inl z.1
    · subst z; exact absurd hd ha0
  · have SS : SK (fun i => caps.length ≤ i) (vs.map some ++ List.replicate k none) (args.map some ++ List.replicate k none) H1 σ' δ' H2 :=
      ⟨fun a o ea n => S2.kp a o (hx a o ea) n (by intro z; subst z; rw [ea] at hd; cases hd), fun i a z => (S2.owi i a z).imp id fun z => by
        cases hh : H1 a with
        | none => rfl
        | some o => exact absurd z (nz a (by rw [hh]; simp)), fun a z => S2.dm a (nz a z), S2.as⟩
    obtain ⟨ys, hy, ry⟩ := B2.at'
    have P := body_post (r := (.lst acc, true)) (v := .ref d) Ec SS hA ⟨d, rfl, hd, B2.er, ys, hy, RepL.mono (fun _ _ e _ => e) (fun b _ z => z) ry⟩
    exact kq (.ref d) H2 ((call_out E1 B0 ha nd P).pre K1)
section
variable {X : Cx} {elt : Expr} {c : Comprehension} {rest : List Comprehension} {scope : Scope} {pos spos py : Pos} {N' : List Str} {caps : List Nat} {k : Nat} {fi : FIt} {tg : Tg} {ti : FT} {fb : FB} {A L : Nat → Prop} {H0 : Hp}
structure CompOk (X : Cx) (N' : List Str) (scope : Scope) (caps : List Nat) (k : Nat) : Prop where
  cell : ∀ y ∈ scope.names, y.2 ≠ .cell
  kind : scope.kind = .function
  names : ∀ y ∈ scope.names, y.2 = .local → scope.names.lookup y.1 = some .local
  free : ∀ y ∈ scope.names, y.2 = .free → X.env.scope.names.lookup y.1 = some .cell ∨ X.env.scope.names.lookup y.1 = some .free
  len : caps.length + k = N'.length
  caps : ∀ (i j : Nat) (x : Str), caps[i]? = some j → N'[i]? = some x → X.N[j]? = some x ∧ scope.names.lookup x = some .free
theorem CompOk.sco (C : CompOk X N' scope caps k) : CompScope X N' scope (preC caps k) := by
  refine ⟨C.cell, C.kind, C.names, C.free, fun σ => by simp [preC, C.len], fun σ i v x h1 h2 => ?_⟩
  unfold preC at h1
  by_cases hi : i < caps.length
  · rw [List.getElem?_append_left (by simpa using hi), List.getElem?_map, List.getElem?_eq_getElem hi] at h1
    obtain ⟨q1, q2⟩ := C.caps i caps[i] x (List.getElem?_eq_getElem hi) h2
    refine ⟨q2, caps[i], q1, ?_⟩
    have h3 : (σ[caps[i]]?).join = some v := by simpa using h1
    cases hs : σ[caps[i]]? with
    | none => rw [hs] at h3; cases h3
    | some y => rw [hs] at h3; exact congrArg some h3
  · rw [List.getElem?_append_right (by simpa using hi), List.getElem?_replicate] at h1
    split at h1 <;> cases h1
theorem px_comp (C : CompOk X N' scope caps k) (hc : X.calm = true) (ha : c.is_async = 0) (ha' : ∀ g', rest[0]? = some g' → g'.is_async = 0)
    (hs : ∀ x, foldedSetIterable c.iter X.env x = pure x) (pi : PIX X c.target c.iter fi)
    (blk : ∀ (cl : List (Str × Addr)) (C : Addr) (s3 : Shared) (H3 : Hp) (fp : List Addr) (pins : List (Addr × Obj)), let X' := X.comp N' scope cl C s3 H3 fp pins
      PGX X' (fun i => caps.length ≤ i) c.target tg ∧ PIf X' c.ifs (tT X.K ti) ∧ ∀ d, PB X' (compBody (.ListComp elt (c :: rest) scope pos) 0 (.ref d) X'.env) (tBx X.K (fun i => caps.length ≤ i) d fb)) :
    PX X (.ListComp elt (c :: rest) scope pos) (fComp caps k fi tg ti fb) := PX.imp (pe_lcomp (g := tG X.K (fun i => caps.length ≤ i) tg) (ti := tT X.K ti) (tb := fun d => tBx X.K (fun i => caps.length ≤ i) d fb) C.sco hc ha ha' hs pi blk) fun σ H Q h => comp_imp h
end
end PX
set_option Elab.async false
set_option linter.all false
set_option maxRecDepth 100000
set_option maxHeartbeats 4000000
namespace PX
open PySem PySem.Spec PyProof.Rows L2 PySem.SeqAt
section
variable {K : PySem.W.Frag} {T : AP'} {σ : L2.St} {δ : Dn} {H : Hp} {i : Nat} {l l' : List D} {a : Addr} {xs' : List V}
theorem OwnI.write {j : Nat} {b : Addr} (hd : δ[i]? = some (some (.lst l, true))) (h : OwnI σ (δ.set i (some (.lst l', true))) j b) : OwnI σ δ j b := by
  obtain ⟨e, h1, h2⟩ := h
  rcases get_set h1 with ⟨rfl, _, _⟩ | ⟨_, q⟩
  · exact ⟨_, hd, h2⟩
  · exact ⟨e, q, h2⟩
theorem ER.write (E : ER K H T σ δ) (hd : δ[i]? = some (some (.lst l, true))) (hs : σ[i]? = some (some (.ref a))) (r : RepL K H (fun b => OwnA σ δ b ∨ T b) l' xs') :
    ER K (upd H a (.lst xs')) T σ (δ.set i (some (.lst l', true))) ∧ Keep σ δ H (δ.set i (some (.lst l', true))) (upd H a (.lst xs')) := by
  have hi : i < δ.length := (List.getElem?_eq_some_iff.mp hd).1
  have oa : OwnA σ δ a := ⟨i, _, hd, hs⟩
  have owA : ∀ b, OwnA σ (δ.set i (some (.lst l', true))) b → OwnA σ δ b := fun b ⟨j, e, h1, h2⟩ => by
    obtain ⟨e', q1, q2⟩ := OwnI.write hd ⟨e, h1, h2⟩
    exact ⟨j, e', q1, q2⟩
  have kp : ∀ b o, H b = some o → ¬ (OwnA σ δ b ∨ T b) → upd H a (.lst xs') b = some o := fun b o e n => by rw [upd_ne (by intro z; subst z; exact n (.inl oa))]; exact e
  have dm : ∀ b, H b ≠ none → upd H a (.lst xs') b ≠ none := fun b z => by
    by_cases hb : b = a
    · subst hb; rw [upd_same]; simp
    · rw [upd_ne hb]; exact z
  have sub : ∀ b, H b ≠ none → (OwnA σ (δ.set i (some (.lst l', true))) b ∨ T b) → OwnA σ δ b ∨ T b := fun b _ z => z.imp (owA b) id
  refine ⟨⟨by rw [List.length_set]; exact E.len, fun j e hj => ?_, fun j e hj => ?_, fun j k e f b hj hk h1 h2 => ?_, fun b z => E.nT b (owA b z), fun b z => dm b (E.dom b z)⟩, ⟨fun b o e n => by rw [upd_ne (by intro z; subst z; exact n oa)]; exact e, fun j b z => OwnI.write hd z, dm⟩⟩
  · rcases get_set hj with ⟨_, _, q⟩ | ⟨_, q⟩
    · cases q
    · obtain ⟨w, w1, w2⟩ := E.val j e q
      exact ⟨w, w1, Rep.mono kp sub w2⟩
  · rcases get_set hj with ⟨rfl, _, q⟩ | ⟨ne, q⟩
    · cases q
      exact ⟨a, hs, xs', upd_same, RepL.mono kp sub r⟩
    · obtain ⟨b, w1, w2⟩ := E.own j e q
      refine ⟨b, w1, w2.mono kp sub fun o eo => ?_⟩
      rw [upd_ne]
      · exact eo
      · intro z; subst z; exact ne (E.inj i j _ _ _ hd q hs w1)
  · obtain ⟨e1, q1, q2⟩ := OwnI.write hd ⟨e, hj, h1⟩
    obtain ⟨e2, q3, q4⟩ := OwnI.write hd ⟨f, hk, h2⟩
    exact E.inj j k e1 e2 b q1 q3 q2 q4
end
def fAppend (i : Nat) (f : F) : F := fun δ => match δ[i]? with
  | some (some (.lst _, true)) => (f δ).bind fun p => match p.2[i]? with
    | some (some (.lst l, true)) => if l.length < sizeLine then some ((.non, false), p.2.set i (some (.lst (l ++ [p.1.1]), true))) else none
    | _ => none
  | _ => none
def fPopAt (i : Nat) (f : FO) : F := fun δ => match δ[i]? with
  | some (some (.lst _, true)) => (f δ).bind fun p => match res p.2 p.1, p.2[i]? with
    | some (.int k), some (some (.lst l, true)) => if -(2 ^ 63) ≤ k ∧ k < 2 ^ 63 then (ixN l.length k).bind fun j => (l[j]?).bind fun d => some ((d, false), p.2.set i (some (.lst (l.eraseIdx j), true))) else none
    | _, _ => none
  | _ => none
def sSetIx (i : Nat) (f : F) (g : FO) : FS := fun δ => (f δ).bind fun p => match p.2[i]? with
  | some (some _) => (g p.2).bind fun q => match res q.2 q.1, q.2[i]? with
    | some (.int k), some (some (.lst l, true)) => (ixN l.length k).bind fun j => some (.nx (q.2.set i (some (.lst (l.set j p.1.1), true))))
    | _, _ => none
  | _ => none
section
variable {X : Cx} {e ix : Expr} {f : F} {fo : FO} {pos npos apos cpos : Pos} {i : Nat} {x : Str} {A L : Nat → Prop} {H0 : Hp}
theorem RepL.erase {K H} {O : AP'} : ∀ {l : List D} {vs : List V} (j : Nat), RepL K H O l vs → RepL K H O (l.eraseIdx j) (vs.eraseIdx j)
  | [], vs, j, h => by rw [RepL] at h; subst h; simp [RepL]
  | d :: l, vs, 0, h => by
    rw [RepL] at h
    obtain ⟨v, r, rfl, h1, h2⟩ := h
    exact h2
  | d :: l, vs, j + 1, h => by
    rw [RepL] at h
    obtain ⟨v, r, rfl, h1, h2⟩ := h
    exact RepL.cons h1 (RepL.erase j h2)
theorem px_append (hv : PO X (.Name x npos) (oVar i)) (he : PX X e f) (hbase : attributeBase (.Name x npos) "append" X.env (eval (.Name x npos) X.env) = eval (.Name x npos) X.env)
    (hfew : ((backTo cpos (starEach [e] X.env)).all (fun x => !x.1) && (backToKw cpos (keywordEach [] X.env)).all (fun x => x.1.isSome) && decide ([e].length + ([] : List Keyword).length + (if ([] : List Keyword).isEmpty then 0 else 1) < 30)) = true)
    (hline : (apos.endLine == cpos.line) = true) (hs : starEach [e] X.env = (false, eval e X.env) :: starEach [] X.env) (hplain : (backTo cpos (starEach [] X.env)).any (·.1) = false) :
    PX X (.Call (.Attribute (.Name x npos) "append" apos) [e] [] cpos) (fAppend i f) :=
  PX.imp (pe_bm PySem.F.plainAttrs_list PySem.F.slot_list_append PySem.F.type_list_append mt_append hv (pa_cons he pa_nil hs) hbase hfew hline hs hplain) fun σ H Q hw => by
  obtain ⟨δ, T, rr, δ', E, e, k⟩ := hw
  unfold fAppend at e
  split at e
  · rename_i l0 h0
    obtain ⟨⟨r, δ1⟩, h1, e⟩ := bind_some' e
    dsimp only at e
    split at e
    · rename_i l h2
      obtain ⟨hz, e⟩ := ite_some e
      obtain ⟨rfl, rfl⟩ := Prod.mk.inj e
      refine ⟨δ, T, .slot i, δ, E, by unfold oVar; rw [h0], fun v H1 P => ?_⟩
      obtain ⟨K1, E1, hσ⟩ := P
      obtain ⟨a, g1, xs0, g2, g3⟩ := E1.own i _ h0
      rw [hσ] at g1; cases g1
      refine ⟨.inl ⟨rfl, xs0, SqL.of g2⟩, δ, T, r, δ1, E1, h1, fun y H2 P2 => ?_⟩
      obtain ⟨E2, ry⟩ := P2.rep E1
      obtain ⟨a', q1, xs, q2, q3⟩ := E2.own i _ h2
      rw [hσ] at q1; cases q1
      refine ⟨_, xs, y, rfl, rfl, q2, by rw [q3.length]; exact hz, ?_⟩
      obtain ⟨E3, K3⟩ := E2.write h2 hσ (q3.append (RepL.one ry))
      exact k _ _ (Post.val ((K1.trans P2.1).trans K3) E3 Rep.mkNon)
    · cases e
  · cases e
theorem px_popAt (hv : PO X (.Name x npos) (oVar i)) (he : PO X e fo) (hbase : attributeBase (.Name x npos) "pop" X.env (eval (.Name x npos) X.env) = eval (.Name x npos) X.env)
    (hfew : ((backTo cpos (starEach [e] X.env)).all (fun x => !x.1) && (backToKw cpos (keywordEach [] X.env)).all (fun x => x.1.isSome) && decide ([e].length + ([] : List Keyword).length + (if ([] : List Keyword).isEmpty then 0 else 1) < 30)) = true)
    (hline : (apos.endLine == cpos.line) = true) (hs : starEach [e] X.env = (false, eval e X.env) :: starEach [] X.env) (hplain : (backTo cpos (starEach [] X.env)).any (·.1) = false) :
    PX X (.Call (.Attribute (.Name x npos) "pop" apos) [e] [] cpos) (fPopAt i fo) :=
  PX.imp (pe_bm PySem.F.plainAttrs_list PySem.F.slot_list_pop PySem.F.type_list_pop mt_popAt hv (pa_cons he pa_nil hs) hbase hfew hline hs hplain) fun σ H Q hw => by
  obtain ⟨δ, T, rr, δ', E, e, k⟩ := hw
  unfold fPopAt at e
  split at e
  · rename_i l0 h0
    obtain ⟨⟨o, δ1⟩, h1, e⟩ := bind_some' e
    dsimp only at e
    split at e
    · rename_i kk l hk h2
      split at e
      case isFalse => cases e
      rename_i hb
      obtain ⟨j, hj, e⟩ := bind_some' e
      obtain ⟨d, hd, e⟩ := bind_some' e
      obtain ⟨rfl, rfl⟩ := some_pair e
      refine ⟨δ, T, .slot i, δ, E, by unfold oVar; rw [h0], fun v H1 P => ?_⟩
      obtain ⟨K1, E1, hσ⟩ := P
      obtain ⟨a, g1, xs0, g2, g3⟩ := E1.own i _ h0
      rw [hσ] at g1; cases g1
      refine ⟨.inl ⟨rfl, xs0, SqL.of g2⟩, δ, T, o, δ1, E1, h1, fun y H2 P2 => ?_⟩
      have B := Ops.cons E1 P2 (Ops.nil (P2.er E1))
      have vy := view_int (B.view (j := 0) rfl rfl hk)
      have E2 : ER X.K H2 T σ δ1 := B.er.mono (fun _ _ e _ => e) (fun b _ z => B.tt b z) (fun a z => B.er.dom a (B.tt a z))
      obtain ⟨a', q1, xs, q2, q3⟩ := E2.own i _ h2
      rw [hσ] at q1; cases q1
      obtain ⟨w, w1, w2⟩ := q3.get hd
      have hl := q3.length
      have hj' : ixN xs.length kk = some j := by rw [hl]; exact hj
      obtain ⟨s1, s2, s3, s4⟩ := ixN_seq hj'
      obtain ⟨E3, K3⟩ := E2.write h2 hσ (RepL.erase j q3)
      refine ⟨_, xs, kk, j, w, rfl, by rw [vy], q2, hb.1, hb.2, s1, w1, ?_⟩
      exact k _ _ (Post.val ((K1.trans B.keep).trans K3) E3 (Rep.mono (fun b o e n => K3.kp b o e fun z => n (.inl z)) (fun b _ z => z.imp (K3.ow b) id) w2))
    · cases e
  · cases e
theorem psx_setIx {spos : Pos} (hv : PO X (.Name x npos) (oVar i)) (he : PX X e f) (hi : PO X ix fo)
    (ha : ∀ v, assign (.Subscript (.Name x npos) ix spos) X.env v = (do
      let ov ← holding [v] (eval (.Name x npos) X.env)
      let iv ← holding [v, ov] (eval ix X.env)
      standAt spos
      holding [v, ov, iv] (setItem ov iv v)
      release [v, ov, iv] []))
    (hs : swapsWithSole [.Subscript (.Name x npos) ix spos] e pos.line X.env = pure false) (hw : swappedStores [.Subscript (.Name x npos) ix spos] e X.env = pure none)
    (h1 : (assignEach [.Subscript (.Name x npos) ix spos] X.env).map (·.2) = [assign (.Subscript (.Name x npos) ix spos) X.env]) :
    PSX X A L H0 (.Assign [.Subscript (.Name x npos) ix spos] e pos) (sSetIx i f fo) := PS.imp' (ps_asg he (pg_sub hv hi set_list ha) hs hw h1) fun D σ H hw => by
  obtain ⟨δ, T, out, E, fi, e, k⟩ := hw
  obtain ⟨⟨r, δ1⟩, h1, e⟩ := bind_some' e
  dsimp only at e
  split at e
  case h_2 => cases e
  rename_i y0 h0
  obtain ⟨⟨o, δ2⟩, h2, e⟩ := bind_some' e
  dsimp only at e
  split at e
  · rename_i kk l hk h3
    obtain ⟨j, hj, e⟩ := bind_some' e
    cases e
    refine ⟨δ, T, r, δ1, E, h1, fun v H1 P1 => ⟨δ1, Tmp T r v, .slot i, δ1, P1.er E, by unfold oVar; rw [h0], fun v2 H2 P2 => ⟨δ1, Tmp T r v, o, δ2, P2.er (P1.er E), h2, fun v3 H3 P3 => ?_⟩⟩⟩
    have P1' : PostO X.K T σ δ H (.val r) δ1 v H1 := P1
    have B := Ops.cons E P1' (Ops.cons (P1.er E) P2 (Ops.cons (P2.er (P1.er E)) P3 (Ops.nil (P3.er (P2.er (P1.er E))))))
    have E3 : ER X.K H3 T σ δ2 := B.er.mono (fun _ _ e _ => e) (fun b _ z => B.tt b z) (fun a z => B.er.dom a (B.tt a z))
    have hσ : σ[i]? = some (some v2) := P2.2.2
    obtain ⟨a, q1, xs, q2, q3⟩ := E3.own i _ h3
    rw [hσ] at q1; cases q1
    have vk := view_int (B.view (j := 2) rfl rfl hk)
    have rv := B.rep E (j := 0) (r := r) rfl rfl
    refine ⟨a, xs, kk, j, rfl, vk, q2, by rw [q3.length]; exact hj, ?_⟩
    obtain ⟨E4, K4⟩ := E3.write h3 hσ (RepL.set rv j q3)
    exact k _ _ (B.keep.trans K4).sk E4
  · cases e
end
end PX
set_option Elab.async false
set_option linter.all false
set_option maxRecDepth 100000
set_option maxHeartbeats 4000000
namespace PX
open PySem PySem.Spec PyProof.Rows L2 PySem.SeqAt
def sPar (i j : Nat) (fs : List F) : FS := fun δ => (fArgs (fs.map oVal) δ).bind fun p => match valsOf p.1 with
  | some [a, b] => if i < p.2.length ∧ j < p.2.length then some (.nx ((p.2.set i (some (a, false))).set j (some (b, false)))) else none
  | _ => none
def sTup (tg : Tg) (f : F) : FS := fun δ => (f δ).bind fun p => (tg p.1.1 p.2).bind fun δ1 => some (.nx δ1)
section
variable {X : Cx} {A L : Nat → Prop} {H0 : Hp} {a b tg e : Expr} {fs : List F} {f : F} {t : Tg} {pos px py pt pt2 : Pos} {x y : Str} {i j : Nat} {kt k2}
theorem psx_par (hc : X.calm = true) (hN : X.N.Nodup) (hi : X.N[i]? = some x) (hj : X.N[j]? = some y) (hij : i ≠ j) (hx : X.env.scope.names.lookup x = some .local) (hy : X.env.scope.names.lookup y = some .local)
    (h : PA X [a, b] (tA X.K (fs.map oVal))) (hw : swappedStores [.Tuple [.Name x px, .Name y py] kt pt] (.Tuple [a, b] k2 pt2) X.env = pure (some [x, y]))
    (hs : swapsWithSole [.Tuple [.Name x px, .Name y py] kt pt] (.Tuple [a, b] k2 pt2) pos.line X.env = pure false) (hA : A i) (hB : A j) :
    PSX X A L H0 (.Assign [.Tuple [.Name x px, .Name y py] kt pt] (.Tuple [a, b] k2 pt2) pos) (sPar i j fs) := PS.imp' (ps_par hc hN hi hj hij hx hy h hw hs) fun D σ H hw => by
  obtain ⟨δ, T, out, E, fi, e, k⟩ := hw
  obtain ⟨⟨os, δ1⟩, h1, e⟩ := bind_some' e
  dsimp only at e
  split at e
  · rename_i d1 d2 hv
    obtain ⟨hl, rfl⟩ := ite_some e
    refine ⟨δ, T, os, δ1, E, h1, fun vs H1 T1 B => ?_⟩
    have r := valsOf_rep hv B.len fun j r v a b => B.rep E a b
    have E1 : ER X.K H1 T σ δ1 := B.er.mono (fun _ _ e _ => e) (fun b _ z => B.tt b z) (fun a z => B.er.dom a (B.tt a z))
    rw [RepL] at r
    obtain ⟨v1, r1, rfl, g1, r⟩ := r
    rw [RepL] at r
    obtain ⟨v2, r2, rfl, g2, r⟩ := r
    rw [RepL] at r
    subst r
    refine ⟨v1, v2, rfl, ?_⟩
    obtain ⟨q1, q2⟩ := store_go (A := A) (r := (d1, false)) (v := v1) E (Post.val B.keep E1 g1) hl.1 hA
    have g2' : Rep X.K H1 (fun c => OwnA (σ.set i (some v1)) (δ1.set i (some (d1, false))) c ∨ T c) d2 v2 := Rep.mono (fun _ _ e _ => e) (fun c hc z => z.imp (fun z => by
      rcases z.store with z | z
      · exact z
      · exact absurd z.1 (by simp)) id) g2
    obtain ⟨q3, q4⟩ := store_go (A := A) (i := j) (r := (d2, false)) (v := v2) q2 (Post.val .refl q2 g2') (by rw [List.length_set]; exact hl.2) hB
    exact k _ H1 (q1.trans q3) q4
  · cases e
theorem px_bltn {id : String} {p : Pos} {es : List Expr} {fo : List FO} {g : List D → Option (D × Bool)} {z : Str} (hc : CallR X (.builtin id) (rDn X.K g)) (hg : Gl X z) (hm : X.mg z = none) (hv : bootBuiltins z = some (.builtin id)) (ha : PA X (e :: es) (tA X.K fo)) (hn : z ≠ "__name__") (hdb : (z == ("__debug__" : Str)) = false)
    (he : starEach (e :: es) X.env = (false, eval e X.env) :: starEach es X.env) (hpl : (backTo pos (starEach es X.env)).any (·.1) = false) : PX X (.Call (.Name z p) (e :: es) [] pos) (fCall g fo) := pxn (pe_callB hc hg hm hv ha hn hdb he hpl)
theorem px_type {id : String} {p : Pos} {es : List Expr} {fo : List FO} {g : List D → Option (D × Bool)} {z : Str} (hc : CallR X (.type id) (rDn X.K g)) (hg : Gl X z) (hm : X.mg z = none) (hv : bootBuiltins z = some (.type id)) (ha : PA X (e :: es) (tA X.K fo)) (hn : z ≠ "__name__") (hdb : (z == ("__debug__" : Str)) = false)
    (he : starEach (e :: es) X.env = (false, eval e X.env) :: starEach es X.env) (hpl : (backTo pos (starEach es X.env)).any (·.1) = false) : PX X (.Call (.Name z p) (e :: es) [] pos) (fCall g fo) := pxn (pe_callTy hc hg hm hv ha hn hdb he hpl)
end
end PX
set_option Elab.async false
set_option linter.all false
set_option maxRecDepth 100000
set_option maxHeartbeats 4000000
namespace PX
open PySem PySem.Spec PyProof.Rows L2 PySem.SeqAt
theorem bt_len : bootBuiltins "len" = some (.builtin "len") := by decide +kernel
theorem bt_abs : bootBuiltins "abs" = some (.builtin "abs") := by decide +kernel
theorem bt_int : bootBuiltins "int" = some (.type "int") := by decide +kernel
theorem bt_tuple : bootBuiltins "tuple" = some (.type "tuple") := by decide +kernel
theorem bt_list : bootBuiltins "list" = some (.type "list") := by decide +kernel
structure Ob (P : Program) (w : World) (K : PySem.W.Frag) (mg : Str → Option Value) (base : Heap) (k : Nat) (x : Str) (ps : List Str) (ev : EvF) where
  f : Addr
  fd : FuncData
  ok : FnOk P w K mg base CX0 k f fd ps (spF K ev)
  mg : mg x = some (.ref f)
  kp : PySem.W.keepIn K (.ref f) = true
  bi : Binds K fd ps []
theorem Ob.room {P : Program} {w : World} {K : PySem.W.Frag} {mg : Str → Option Value} {base : Heap} {k : Nat} {x : Str} {ps : List Str} {ev : EvF} (o : Ob P w K mg base k x ps ev) {A : Around} (h : Room k A) : Room k A := h
def compChk (N : List Str) (sc scope : Scope) (N' : List Str) (caps : List Nat) (k : Nat) : Bool :=
  (scope.names.all fun y => y.2 != .cell) && decide (scope.kind = .function) && (scope.names.all fun y => y.2 != .local || scope.names.lookup y.1 == some .local) &&
  (scope.names.all fun y => y.2 != .free || (sc.names.lookup y.1 == some .cell || sc.names.lookup y.1 == some .free)) && decide (caps.length + k = N'.length) &&
  ((caps.zip N').all fun p => N[p.1]? == some p.2 && scope.names.lookup p.2 == some .free)
theorem compOk {X : Cx} {N : List Str} {sc scope : Scope} {N' : List Str} {caps : List Nat} {k : Nat} (hN : X.N = N) (hs : X.env.scope = sc) (h : compChk N sc scope N' caps k = true) : CompOk X N' scope caps k := by
  subst hN; subst hs
  unfold compChk at h
  simp only [Bool.and_eq_true, List.all_eq_true, decide_eq_true_eq] at h
  obtain ⟨⟨⟨⟨⟨h1, h2⟩, h3⟩, h4⟩, h5⟩, h6⟩ := h
  refine ⟨fun y hy e => ?_, h2, fun y hy e => ?_, fun y hy e => ?_, h5, fun i j x hi hx => ?_⟩
  · have := h1 y hy; rw [e] at this; simp at this
  · have := h3 y hy; rw [e] at this; simpa using this
  · have := h4 y hy; rw [e] at this; simpa using this
  · have hm : (j, x) ∈ caps.zip N' := by
      have : (caps.zip N')[i]? = some (j, x) := by rw [List.getElem?_zip_eq_some]; exact ⟨hi, hx⟩
      exact List.mem_of_getElem? this
    have := h6 _ hm
    simpa using this
def fTrue : FT := fun δ => some (true, δ)
theorem pifx_nil {X : Cx} : PIf X [] (tT X.K fTrue) := fun pins s σ H Q I h => by
  obtain ⟨δ, T, b, δ', E, e, k⟩ := h
  cases e
  exact pif_nil pins s σ H Q I (k H .refl E)
end PX
set_option Elab.async false
set_option linter.all false
set_option maxRecDepth 100000
set_option maxHeartbeats 4000000
namespace PX
open PySem PySem.Spec PyProof.Rows L2 PySem.SeqAt
inductive Ty where
  | int | bool | str | tuple | list | dict
def Ty.n : Ty → String
  | .int => "int" | .bool => "bool" | .str => "str" | .tuple => "tuple" | .list => "list" | .dict => "dict"
def isT : D → Ty → Bool
  | .bl _, .bool => true
  | .bl _, .int => true
  | .int _, .int => true
  | .str _, .str => true
  | .tup _, .tuple => true
  | .lst _, .list => true
  | .oth .dct _ _, .dict => true
  | _, _ => false
def tyD : D → String
  | .non => "NoneType" | .bl _ => "bool" | .int _ => "int" | .str _ => "str" | .tup _ => "tuple" | .lst _ => "list" | .oth .dct _ _ => "dict" | .oth .set _ _ => "set" | .oth _ _ _ => "NoneType"
section
variable {X : Cx} {pins : List (Addr × Obj)} {σ : L2.St} {H : Hp} {s : Shared}
theorem kit1 (K : PySem.W.Frag) (d : D) (t : Ty) : PySem.W.kitOne K (.type (tyD d)) (.type t.n) = some (isT d t) := by
  cases d with
  | oth k _ _ => cases k <;> cases t <;> with_unfolding_all rfl
  | _ => cases t <;> with_unfolding_all rfl
theorem oth_ty (I : Inv X pins σ H s) {a : Addr} {us : List V} {k : OK} {ks vs : List D} (h : OthB (H a) k ks vs us) : s.TypeIs (.ref a) (tyD (.oth k ks vs)) := by
  cases k with
  | dct =>
    rcases h with ⟨kvs, e, _⟩ | ⟨kvs, e, _⟩
    · obtain ⟨_, _, vs, _, o, es, ep, h1, h2, _⟩ := (show ObjOk X.prog X.w H s.heap a (.dK kvs) from I.hok a _ e)
      exact ⟨o, h1, h2.1⟩
    · obtain ⟨_, _, xs, _, o, es, ep, h1, h2, _⟩ := (show ObjOk X.prog X.w H s.heap a (.dT kvs) from I.hok a _ e)
      exact ⟨o, h1, h2.1⟩
  | set =>
    obtain ⟨_, zs, e, _⟩ := h
    obtain ⟨es, n, t, h1, _⟩ := (show ObjOk X.prog X.w H s.heap a (.stt zs) from I.hok a _ e)
    exact ⟨_, h1, rfl⟩
  | _ => exact h.elim
theorem view_oth {K H} {O : AP'} {k : OK} {ks vs : List D} {v : V} (h : View K H O (.oth k ks vs) v) : ∃ a us, v = .ref a ∧ OthB (H a) k ks vs us ∧ RepL K H O vs us := by
  rcases h with h | ⟨a, rfl, h⟩
  · obtain ⟨a, us, e, q, r⟩ := h.oth
    exact ⟨a, us, e, q.2, r⟩
  · obtain ⟨us, e, r⟩ := h
    exact ⟨a, us, rfl, e, r⟩
end
theorem kitAny_ok (K : PySem.W.Frag) (d : D) : ∀ ts : List Ty, PySem.W.kitAny K (.type (tyD d)) (ts.map fun t => Value.type t.n) = some (ts.any (isT d))
  | [] => rfl
  | t :: ts => by
    rw [List.map_cons, PySem.W.kitAny, kit1, List.any_cons]
    cases isT d t with
    | true => rfl
    | false => simpa using kitAny_ok K d ts
section
variable {X : Cx} {pins : List (Addr × Obj)} {σ : L2.St} {H : Hp} {s : Shared}
theorem isi1 {A : Around} {E : Value → Shared → Prop} {Q : Value → Shared → Prop} (I : Inv X pins σ H s) {O : AP'} {d : D} {x : V} {u : Value} {t : Ty} (hd : View X.K H O d x) (rx : RelV x u) (h : ∀ tk, Q (.bool (isT d t)) { s with toks := tk }) :
    wpAny (model X.prog X.w) A (call (.builtin "isinstance") [u, .type t.n]) Q E s := by
  cases d with
  | non => have := view_non hd; subst this; cases rx; exact PySem.W.kia_one PySem.W.kitx_none I.kIn True.intro (kit1 X.K .non t) (fun z => nomatch z) h
  | bl b => have := view_bl hd; subst this; cases rx; exact PySem.W.kia_one PySem.W.kitx_bool I.kIn True.intro (kit1 X.K (.bl b) t) (fun z => nomatch z) h
  | int b => have := view_int hd; subst this; obtain ⟨tk, rfl⟩ := rx; exact PySem.W.kia_one PySem.W.kitx_int I.kIn True.intro (kit1 X.K (.int b) t) (fun z => nomatch z) h
  | str b => have := view_str hd; subst this; obtain ⟨tk, rfl⟩ := rx; exact PySem.W.kia_one PySem.W.kitx_str I.kIn True.intro (kit1 X.K (.str b) t) (fun z => nomatch z) h
  | tup l =>
    obtain ⟨a, xs, rfl, q, _⟩ := view_tup hd
    cases rx
    obtain ⟨its, _, ⟨o, h1, h2, _⟩, _⟩ := I.tuple q
    exact PySem.W.kia_one PySem.W.kitx_tuple I.kIn ⟨o, h1, h2⟩ (kit1 X.K (.tup l) t) (fun z => nomatch z) h
  | lst l =>
    obtain ⟨a, xs, rfl, q, _⟩ := view_lst hd
    cases rx
    obtain ⟨its, _, ⟨o, n, h1, h2, _⟩, _⟩ := I.list q
    exact PySem.W.kia_one PySem.W.kitx_list I.kIn ⟨o, h1, h2⟩ (kit1 X.K (.lst l) t) (fun z => nomatch z) h
  | oth k ks vs =>
    obtain ⟨a, us, rfl, q, _⟩ := view_oth hd
    cases rx
    have ht := oth_ty I q
    cases k with
    | dct => exact PySem.W.kia_one PySem.W.kitx_dict I.kIn ht (kit1 X.K (.oth .dct ks vs) t) (fun z => nomatch z) h
    | set => exact PySem.W.kia_one PySem.W.kitx_set I.kIn ht (kit1 X.K (.oth .set ks vs) t) (fun z => nomatch z) h
    | _ => exact q.elim
theorem isiN {A : Around} {E : Value → Shared → Prop} {Q : Value → Shared → Prop} (I : Inv X pins σ H s) {O : AP'} {d : D} {x : V} {u : Value} {ts : List Ty} {p : Addr} {dd : Option Addr} {n : Nat} {sl : Array (Option Value)} (hd : View X.K H O d x) (rx : RelV x u)
    (htp : s.heap.get? p = some ⟨.type "tuple", dd, .seq (ts.map fun t => Value.type t.n).toArray n, sl⟩) (h : ∀ tk, Q (.bool (ts.any (isT d))) { s with toks := tk }) : wpAny (model X.prog X.w) A (call (.builtin "isinstance") [u, .ref p]) Q E s := by
  cases d with
  | non => have := view_non hd; subst this; cases rx; exact PySem.W.kia_tup PySem.W.kitx_none I.kIn True.intro htp (kitAny_ok X.K .non ts) (fun z => nomatch z) h
  | bl b => have := view_bl hd; subst this; cases rx; exact PySem.W.kia_tup PySem.W.kitx_bool I.kIn True.intro htp (kitAny_ok X.K (.bl b) ts) (fun z => nomatch z) h
  | int b => have := view_int hd; subst this; obtain ⟨tk, rfl⟩ := rx; exact PySem.W.kia_tup PySem.W.kitx_int I.kIn True.intro htp (kitAny_ok X.K (.int b) ts) (fun z => nomatch z) h
  | str b => have := view_str hd; subst this; obtain ⟨tk, rfl⟩ := rx; exact PySem.W.kia_tup PySem.W.kitx_str I.kIn True.intro htp (kitAny_ok X.K (.str b) ts) (fun z => nomatch z) h
  | tup l =>
    obtain ⟨a, xs, rfl, q, _⟩ := view_tup hd
    cases rx
    obtain ⟨its, _, ⟨o, h1, h2, _⟩, _⟩ := I.tuple q
    exact PySem.W.kia_tup PySem.W.kitx_tuple I.kIn ⟨o, h1, h2⟩ htp (kitAny_ok X.K (.tup l) ts) (fun z => nomatch z) h
  | lst l =>
    obtain ⟨a, xs, rfl, q, _⟩ := view_lst hd
    cases rx
    obtain ⟨its, _, ⟨o, n, h1, h2, _⟩, _⟩ := I.list q
    exact PySem.W.kia_tup PySem.W.kitx_list I.kIn ⟨o, h1, h2⟩ htp (kitAny_ok X.K (.lst l) ts) (fun z => nomatch z) h
  | oth k ks vs =>
    obtain ⟨a, us, rfl, q, _⟩ := view_oth hd
    cases rx
    have ht := oth_ty I q
    cases k with
    | dct => exact PySem.W.kia_tup PySem.W.kitx_dict I.kIn ht htp (kitAny_ok X.K (.oth .dct ks vs) ts) (fun z => nomatch z) h
    | set => exact PySem.W.kia_tup PySem.W.kitx_set I.kIn ht htp (kitAny_ok X.K (.oth .set ks vs) ts) (fun z => nomatch z) h
    | _ => exact q.elim
end
def gIsi (ts : List Ty) (d : D) : Option (D × Bool) := some (.bl (ts.any (isT d)), false)
section
variable {X : Cx} {e : Expr} {fa : FO} {pos p p2 : Pos} {z : Str}
theorem px_isi {t : Ty} (ha : PO X e fa) (hg : Gl X "isinstance") (hm : X.mg "isinstance" = none) (hgz : Gl X z) (hmz : X.mg z = none) (hz : bootBuiltins z = some (.type t.n)) (hn : z ≠ "__name__") (hdb : (z == ("__debug__" : Str)) = false) (hv : bootBuiltins "isinstance" = some (.builtin "isinstance"))
    (s1 : starEach [e, .Name z p2] X.env = (false, eval e X.env) :: starEach [.Name z p2] X.env) (s2 : starEach [.Name z p2] X.env = (false, eval (.Name z p2) X.env) :: starEach [] X.env) (hpl : (backTo pos (starEach [.Name z p2] X.env)).any (·.1) = false) :
    PX X (.Call (.Name "isinstance" p) [e, .Name z p2] [] pos) (fOp1 (gIsi [t]) fa) := by
  have hc : CallR X (.builtin "isinstance") (fun xs H Q => ∃ (O : AP') (d : D) (x : V), xs = [x, .ty t.n] ∧ View X.K H O d x ∧ Q (.bl (isT d t)) H) := by
    intro pins s σ H xs us Q I r h
    obtain ⟨O, d, x, rfl, hd, q⟩ := h
    obtain ⟨u, w', rfl, ru, rw'⟩ := vals2 r
    cases rw'
    exact isi1 I hd ru fun tk => ⟨.bl _, H, I.tok _, rfl, q⟩
  refine PX.imp (pe_callB hc hg hm hv (pa_cons ha (pa_cons (pe_bltn (v := .ty t.n) hgz hmz hz rfl hn hdb) pa_nil s2) s1) (by decide) (by decide) s1 hpl) fun σ H Q hw => ?_
  obtain ⟨δ, T, rr, δ', E, e, k⟩ := hw
  obtain ⟨⟨o, δ1⟩, h1, e⟩ := bind_some' e
  obtain ⟨x, h2, e⟩ := bind_some' e
  obtain ⟨zz, h3, e⟩ := bind_some' e
  cases h3
  obtain ⟨rfl, rfl⟩ := some_pair e
  refine ⟨δ, T, o, δ1, E, h1, fun v H1 P1 => ?_⟩
  have B := Ops.cons E P1 (Ops.nil (P1.er E))
  refine ⟨_, x, v, rfl, B.view (j := 0) rfl rfl h2, ?_⟩
  have := (B.done k).bl
  simpa using this
theorem px_isi2 {t t' : Ty} {z z' : Str} {p3 p4 : Pos} {kk} (ha : PO X e fa) (hg : Gl X "isinstance") (hm : X.mg "isinstance" = none) (hgz : Gl X z) (hmz : X.mg z = none) (hz : bootBuiltins z = some (.type t.n)) (hn : z ≠ "__name__") (hdb : (z == ("__debug__" : Str)) = false)
    (hgz' : Gl X z') (hmz' : X.mg z' = none) (hz' : bootBuiltins z' = some (.type t'.n)) (hn' : z' ≠ "__name__") (hdb' : (z' == ("__debug__" : Str)) = false) (hv : bootBuiltins "isinstance" = some (.builtin "isinstance"))
    (s1 : starEach [e, .Tuple [.Name z p2, .Name z' p3] kk p4] X.env = (false, eval e X.env) :: starEach [.Tuple [.Name z p2, .Name z' p3] kk p4] X.env) (s2 : starEach [.Tuple [.Name z p2, .Name z' p3] kk p4] X.env = (false, eval (.Tuple [.Name z p2, .Name z' p3] kk p4) X.env) :: starEach [] X.env)
    (s3 : starEach [.Name z p2, .Name z' p3] X.env = (false, eval (.Name z p2) X.env) :: starEach [.Name z' p3] X.env) (s4 : starEach [.Name z' p3] X.env = (false, eval (.Name z' p3) X.env) :: starEach [] X.env)
    (hpl : (backTo pos (starEach [.Tuple [.Name z p2, .Name z' p3] kk p4] X.env)).any (·.1) = false) :
    PX X (.Call (.Name "isinstance" p) [e, .Tuple [.Name z p2, .Name z' p3] kk p4] [] pos) (fOp1 (gIsi [t, t']) fa) := by
  have hc : CallR X (.builtin "isinstance") (fun xs H Q => ∃ (O : AP') (d : D) (x : V) (q : Addr), xs = [x, .ref q] ∧ H q = some (.tup [.ty t.n, .ty t'.n]) ∧ View X.K H O d x ∧ Q (.bl ([t, t'].any (isT d))) H) := by
    intro pins s σ H xs us Q I r h
    obtain ⟨O, d, x, q, rfl, hq, hd, k⟩ := h
    obtain ⟨u, w', rfl, ru, rw'⟩ := vals2 r
    cases rw'
    obtain ⟨_, its, v1, o, h1, h2, n, h3⟩ := I.hok q _ hq
    obtain ⟨u1, u2, rfl, r1, r2⟩ := vals2 v1
    cases r1; cases r2
    obtain ⟨cls, dd, dt, sl⟩ := o
    simp only at h2 h3
    subst h2; subst h3
    exact isiN (ts := [t, t']) I hd ru h1 fun tk => ⟨.bl _, H, I.tok _, rfl, k⟩
  refine PX.imp (pe_callB hc hg hm hv (pa_cons ha (pa_cons (pe_tup (pa_cons (pe_bltn (v := .ty t.n) hgz hmz hz rfl hn hdb) (pa_cons (pe_bltn (v := .ty t'.n) hgz' hmz' hz' rfl hn' hdb') pa_nil s4) s3)) pa_nil s2) s1) (by decide) (by decide) s1 hpl) fun σ H Q hw => ?_
  obtain ⟨δ, T, rr, δ', E, e, k⟩ := hw
  obtain ⟨⟨o, δ1⟩, h1, e⟩ := bind_some' e
  obtain ⟨x, h2, e⟩ := bind_some' e
  obtain ⟨zz, h3, e⟩ := bind_some' e
  cases h3
  obtain ⟨rfl, rfl⟩ := some_pair e
  refine ⟨δ, T, o, δ1, E, h1, fun v H1 P1 => ⟨by show 2 ≤ sizeLine; decide, fun q hq => ?_⟩⟩
  have B := Ops.cons E P1 (Ops.nil (P1.er E))
  have hx := upd_ext (o := .tup [.ty t.n, .ty t'.n]) hq
  have vw := B.view (j := 0) rfl rfl h2
  refine ⟨fun a => OwnA σ δ1 a ∨ T a, x, v, q, rfl, upd_same, ?_, ?_⟩
  · rcases vw with vw | ⟨a, rfl, vw⟩
    · exact .inl (Rep.mono (fun b o e _ => hx b o e) (fun _ _ z => z) vw)
    · exact .inr ⟨a, rfl, vw.mono (fun b o e _ => hx b o e) (fun _ _ z => z) fun o e => hx a o e⟩
  · exact (B.done k) _ _ hx Rep.mkBl
end
end PX
set_option Elab.async false
set_option linter.all false
set_option maxRecDepth 100000
set_option maxHeartbeats 4000000
namespace PX
open PySem PySem.Spec PyProof.Rows L2 PySem.SeqAt
def boolsOf : List D → Option (List Bool)
  | [] => some []
  | .bl b :: l => (boolsOf l).map (b :: ·)
  | _ :: _ => none
def gAll : D → Option (D × Bool)
  | .lst l => (boolsOf l).map fun bs => (.bl (bs.all id), false)
  | _ => none
def gAny : D → Option (D × Bool)
  | .lst l => (boolsOf l).map fun bs => (.bl (bs.any id), false)
  | _ => none
theorem boolsOf_are {K H} {O : AP'} : ∀ {l : List D} {bs : List Bool} {xs : List V} {its : List Value}, boolsOf l = some bs → RepL K H O l xs → Vals xs its → LSm.BoolsAre its bs
  | [], bs, xs, its, h, r, v => by
    cases h
    rw [RepL] at r; subst r
    cases v
    exact .nil
  | .bl b :: l, bs, xs, its, h, r, v => by
    obtain ⟨bs', h1, rfl⟩ := map_some' h
    rw [RepL] at r
    obtain ⟨x, xr, rfl, r1, r2⟩ := r
    have := r1.bl; subst this
    cases v with
    | cons a c => cases a; exact .cons b (boolsOf_are h1 r2 c)
  | .non :: l, _, _, _, h, _, _ => by cases h
  | .int _ :: l, _, _, _, h, _, _ => by cases h
  | .str _ :: l, _, _, _, h, _, _ => by cases h
  | .tup _ :: l, _, _, _, h, _, _ => by cases h
  | .lst _ :: l, _, _, _, h, _, _ => by cases h
  | .oth _ _ _ :: l, _, _, _, h, _, _ => by cases h
section
variable {X : Cx}
theorem kept_of_iter {h h' : Heap} {o : Obj} (hk : ∀ b x, b ∉ [h.objs.size] → (h.push o).get? b = some x → h'.get? b = some x) (b : Addr) (x : Obj) (e : h.get? b = some x) : h'.get? b = some x :=
  hk b x (fun z => by have := List.mem_singleton.mp z; subst this; exact absurd (Heap.lt_size e) (Nat.lt_irrefl _)) (Heap.get?_push_of_some _ e)
theorem call_allD (hc : X.calm = true) : CallR X (.builtin "all") (rDn X.K (g1 gAll)) := callr1 fun pins s σ H x u Q O d z I ru np hd hg G => by
  cases d with
  | lst l =>
    obtain ⟨bs, hb, rfl⟩ := map_some' hg
    obtain ⟨p, xs, rfl, q, r⟩ := view_lst hd
    cases ru
    obtain ⟨its, v, pl, _⟩ := I.list q
    have are := boolsOf_are hb r v
    have hh : X.A.in1.handled = none := I.ok.hd hc
    have plt : p < s.heap.objs.size := by obtain ⟨_, e, _⟩ := pl.isList; exact Heap.lt_size e
    refine call_all_walk (wpAny_pyIter_list pl.isList ⟨s.heap.objs.size, [s.heap.objs.size, p], [s.heap.objs.size], its.toArray.size, _, _, fun i => (bs[i]?).getD true, rfl, Walks.list hh _ p (Nat.ne_of_lt plt) its.toArray,
      ⟨⟨_, Heap.get?_push_size _ rfl, rfl, rfl⟩, pl.isList.push _⟩, fun i w s' Q' E' hP hQ => ?_, fun h' tk hk => ?_⟩)
    · obtain ⟨b, e, rfl⟩ := are.get i w (by simpa using hP)
      dsimp only at hQ; rw [e] at hQ
      exact wpAny_truthy_bool hQ
    · rw [List.size_toArray, are.length, LSm.range_all]
      exact ⟨.bl _, H, I.kept (kept_of_iter hk), rfl, G.bl⟩
  | _ => cases hg
def gMax2 := gI fun i j => some (.int (if j > i then j else i))
def gMin2 := gI fun i j => some (.int (if j < i then j else i))
theorem call_max2D (hc : X.calm = true) : CallR X (.builtin "max") (rDn X.K (g2 gMax2)) := callr2 fun pins s σ H x y us Q O d e z I r np h1 h2 hg G => by
  obtain ⟨i, j, w, rfl, rfl, hf, rfl⟩ := gI_some hg
  cases hf
  exact call_max2 hc pins s σ H [x, y] us Q I r ⟨i, j, by rw [view_int h1, view_int h2], G.int⟩
theorem call_min2D (hc : X.calm = true) : CallR X (.builtin "min") (rDn X.K (g2 gMin2)) := callr2 fun pins s σ H x y us Q O d e z I r np h1 h2 hg G => by
  obtain ⟨i, j, w, rfl, rfl, hf, rfl⟩ := gI_some hg
  cases hf
  exact call_min2 hc pins s σ H [x, y] us Q I r ⟨i, j, by rw [view_int h1, view_int h2], G.int⟩
theorem range_vals {lo : Int} {n : Nat} {acc : Array Value} (h : ItemsOf (fun i v => ∃ t, v = .int (lo + (i : Int) * 1) t) acc n) : Vals ((List.range n).map fun (k : Nat) => V.int (lo + k)) acc.toList := by
  have key : ∀ (l : List Value) (m : Nat), (∀ (j : Nat) v, l[j]? = some v → ∃ t, v = .int (lo + ((m + j : Nat) : Int)) t) → Vals ((List.range' m l.length).map fun (k : Nat) => V.int (lo + k)) l := by
    intro l
    induction l with
    | nil => intro m _; exact .nil
    | cons v l ih =>
      intro m hv
      obtain ⟨t, e⟩ := hv 0 v rfl
      refine .cons ⟨t, by simpa using e⟩ (ih (m + 1) fun j w hw => ?_)
      obtain ⟨t', e'⟩ := hv (j + 1) w (by simpa using hw)
      exact ⟨t', by rw [e']; congr 2; first | done | omega⟩
  have := key acc.toList 0 fun j v hv => by
    obtain ⟨t, e⟩ := h.2 j v (by simpa using hv)
    exact ⟨t, by rw [e]; congr 1⟩
  rw [Array.length_toList, h.1, ← List.range_eq_range'] at this
  exact this
theorem range_reps {K H} {O : AP'} (lo : Int) (n : Nat) : RepL K H O (itRange lo n) ((List.range n).map fun (k : Nat) => V.int (lo + k)) := by
  unfold itRange
  induction (List.range n) with
  | nil => exact RepL.nil
  | cons k l ih => exact RepL.cons Rep.mkInt ih
end
end PX
set_option Elab.async false
set_option linter.all false
set_option maxRecDepth 100000
set_option maxHeartbeats 4000000
namespace PX
open PySem PySem.Spec PyProof.Rows L2 PySem.SeqAt
def RgOk (lo hi : Int) : Prop := -(2 ^ 62) ≤ lo ∧ lo < 2 ^ 62 ∧ -(2 ^ 62) ≤ hi ∧ hi < 2 ^ 62 ∧ (hi - lo).toNat ≤ 2 ^ 24
instance (lo hi : Int) : Decidable (RgOk lo hi) := by unfold RgOk; infer_instance
def rgV (lo hi : Int) : List V := (List.range (hi - lo).toNat).map fun (k : Nat) => V.int (lo + k)
theorem RgOk.small {lo hi : Int} (h : RgOk lo hi) : Builtin.Range.small lo hi 1 = true := small_one h.1 h.2.1 h.2.2.1 h.2.2.2.1
theorem rg_size (lo hi : Int) : Builtin.Range.rangeSize lo hi 1 = ((hi - lo).toNat : Nat) := by rw [rangeSize_one]; split <;> omega
section
variable {prog : Program} {w : World} {A : Around} {E : Value → Shared → Prop} {s : Shared}
theorem collect_rg {Q : List Value → Shared → Prop} {r : Addr} {lo hi : Int} {t u v : Tok} (hh : A.handled = none) (hr : IsRange s.heap r lo hi 1 t u v) (ok : RgOk lo hi)
    (hQ : ∀ (h' : Heap) tk (acc : Array Value), (∀ b o, s.heap.get? b = some o → h'.get? b = some o) → ItemsOf (fun i v => ∃ t, v = .int (lo + (i : Int) * 1) t) acc (hi - lo).toNat → Q acc.toList { s with heap := h', toks := tk }) :
    wpAny (model prog w) A (collect (.ref r)) Q E s := by
  unfold collect
  refine wpAny_bind (wpAny_runValue (codeAny_builtin F.entry_proto_collect ?_))
  rw [Around.under_plainId F.plain_proto_collect _]
  refine wpAny_bind (m := newList []) (wpAny_newObj_type ?_)
  refine wpAny_pure ⟨plainId_quiet F.plain_list_iadd _, codeAny_builtin F.entry_list_iadd ?_⟩
  rw [Around.under_plainId F.plain_list_iadd _]
  have e0 := Heap.get?_push_size s.heap (o := ({ cls := .type "list", data := .seq ([] : List Value).toArray } : Obj)) rfl
  let R : Result → Shared → Prop := fun r s' => ∃ (h' : Heap) (tk : Nat) (acc : Array Value) (c' : Nat), r = .ok (.ret (.ref s.heap.objs.size)) ∧ s' = { s with heap := h', toks := tk } ∧ (∀ b o, s.heap.get? b = some o → h'.get? b = some o) ∧
    h'.get? s.heap.objs.size = some { cls := .type "list", dict := none, data := .seq acc c', slots := #[] } ∧ ItemsOf (fun i v => ∃ t, v = .int (lo + (i : Int) * 1) t) acc (hi - lo).toNat
  have fin : ∀ {r s'}, R r s' → ∃ v, r = .ok (.ret v) ∧ wpAny (model prog w) A (match v with
      | Value.ref a => do
        match (← load a).data with
          | Data.seq xs _ => pure xs.toList
          | _ => unsupported "internal:collect"
      | _ => unsupported "internal:collect") Q E s' := fun {r s'} hR => by
    obtain ⟨h', tk, acc, c', rfl, rfl, hk, hS', hacc⟩ := hR
    exact ⟨_, rfl, wpAny_bind (m := load s.heap.objs.size) (wpAny_load hS' (wpAny_pure (hQ h' tk acc hk hacc)))⟩
  refine wpAny_mono (wpAny_extend_range (A := A) (R := R) (s := { s with heap := s.heap.push { cls := .type "list", data := .seq ([] : List Value).toArray } }) hh (Heap.get?_push_of_some _ hr) ok.small (rg_size lo hi) ok.2.2.2.2 _ _ 0 e0 fun h' tk acc' c' hk hS' hacc =>
    ⟨h', tk, acc', c', rfl, rfl, fun b o e => hk b o (Nat.ne_of_lt (Heap.lt_size e)) (Heap.get?_push_of_some _ e), hS', hacc⟩) (fun f s' h => ?_) (fun e s' h => ?_)
  · cases f with
    | done f =>
      obtain ⟨v, hv, h2⟩ := fin h
      cases hv
      exact h2
    | again c' => exact ⟨h.1, codeAny_mono h.2 fun r s'' hr => by obtain ⟨v, rfl, h2⟩ := fin hr; exact h2⟩
  · obtain ⟨v, hv, _⟩ := fin h
    cases hv
theorem tuple_new_rg {Q₁ : Value → Shared → Prop} {r : Addr} {lo hi : Int} {t u v : Tok} (hh : A.handled = none) (hr : IsRange s.heap r lo hi 1 t u v) (ok : RgOk lo hi)
    (h : ∀ (h' : Heap) tk (acc : Array Value), (∀ b o, s.heap.get? b = some o → h'.get? b = some o) → ItemsOf (fun i v => ∃ t, v = .int (lo + (i : Int) * 1) t) acc (hi - lo).toNat → Q₁ (.ref h'.objs.size) { s with heap := h'.push { cls := .type "tuple", data := .seq acc }, toks := tk }) :
    codeAny (model prog w) A (.call (.builtin "tuple.__new__") ⟨[.type "tuple", .ref r], []⟩) (wants Q₁ E) s := by
  refine codeAny_of_tree ?_
  refine wpAny_bind (m := checkBuiltinCall "tuple.__new__" _) (wpAny_of_eq (F.newCall_tuple_1 _) (wpAny_pure ⟨plainId_quiet F.plain_tuple_new _, codeAny_builtin F.entry_tuple_new ?_⟩))
  rw [Around.under_plainId F.plain_tuple_new _]
  have hsub := sub_tuple_self
  have hinit := init_tuple_lookup
  have hmh := madeHere_tuple
  have hTI : s.TypeIs (.ref r) "range" := ⟨_, hr, rfl⟩
  have hh1 : A.in1.handled = none := hh
  wp_walk using wpAny_typeOf hTI, collect_rg hh1 hr ok
  intro h' tk acc hk hacc
  have hz : acc.size ≤ sizeLine := by rw [hacc.1, sizeLine_eq]; have := ok.2.2.2.2; omega
  refine wpAny_bind (m := Builtin.Tuple.tupleExact acc.toList.toArray) ?_
  unfold Builtin.Tuple.tupleExact
  refine wpAny_newObj_type ?_ (by show acc.toList.toArray.size ≤ sizeLine; simpa using hz)
  refine wpAny_pure ?_
  have e : acc.toList.toArray = acc := by simp
  rw [e]
  exact h h' tk acc hk hacc
theorem call_tuple_rg {Q : Value → Shared → Prop} {r : Addr} {lo hi : Int} {t u v : Tok} (hh : A.handled = none) (hr : IsRange s.heap r lo hi 1 t u v) (ok : RgOk lo hi)
    (h : ∀ (h' : Heap) tk (acc : Array Value), (∀ b o, s.heap.get? b = some o → h'.get? b = some o) → ItemsOf (fun i v => ∃ t, v = .int (lo + (i : Int) * 1) t) acc (hi - lo).toNat → Q (.ref h'.objs.size) { s with heap := h'.push { cls := .type "tuple", data := .seq acc }, toks := tk }) :
    wpAny (model prog w) A (call (.type "tuple") [.ref r]) Q E s := by
  refine callType_codes (Q₁ := fun obj s₁ => s₁.TypeIs obj "tuple" ∧ Q obj s₁) F.called_tuple (F.typeCall_tuple_1 _) F.entry_object_init
    (tuple_new_rg hh hr ok fun h' tk acc hm hacc => ⟨⟨_, Heap.get?_push_size _ rfl, rfl⟩, h h' tk acc hm hacc⟩) fun obj s₁ h₁ => ?_
  exact ⟨h₁.1, F.args_object_init_2 obj _, object_init_meets F.called_tuple.init.lookup F.called_tuple.made (by decide) prog w A.in1 _ s₁ ⟨h₁.1, rfl, h₁.2⟩⟩
end
section
variable {X : Cx}
theorem call_rng2 : CallR X (.type "range") (fun xs H Q => ∃ i j, xs = [.int i, .int j] ∧ ∀ r, H r = none → Q (.ref r) (upd H r (.rng i j))) := by
  intro pins s σ H xs us Q I r h
  obtain ⟨i, j, rfl, h⟩ := h
  obtain ⟨u, u', rfl, ⟨t, rfl⟩, ⟨t', rfl⟩⟩ := vals2 r
  exact call_range_2 ⟨.ref _, _, I.laid (o := .rng i j) (fun b o e => Heap.get?_push_of_some _ e) (Nat.le_refl _) ⟨_, _, _, Heap.get?_push_size _ rfl⟩, rfl, h _ I.fresh⟩
theorem call_list_rng (hc : X.calm = true) : CallR X (.type "list") (fun xs H Q => ∃ r lo hi, xs = [.ref r] ∧ H r = some (.rng lo hi) ∧ RgOk lo hi ∧ ∀ l, H l = none → Q (.ref l) (upd H l (.lst (rgV lo hi)))) := by
  intro pins s σ H xs us Q I rv0 h
  obtain ⟨r, lo, hi, rfl, hr, ok, h⟩ := h
  obtain ⟨u, rfl, ru⟩ := vals1 rv0
  cases ru
  obtain ⟨t, u, v, er⟩ := I.hok r _ hr
  refine call_list_range (A := X.A) (I.ok.hd hc) er ok.small (rg_size lo hi) ok.2.2.2.2 fun h' tk acc c kp e items => ?_
  have rv := range_vals items
  refine ⟨.ref _, _, I.laid kp (Nat.le_refl _) (show ObjOk X.prog X.w _ _ _ (.lst (rgV lo hi)) from ⟨?_, acc.toList, c, rv, by simpa using e⟩), rfl, h _ I.fresh⟩
  have := ok.2.2.2.2
  simp only [rgV, List.length_map, List.length_range, sizeLine_eq]; omega
theorem call_tuple_rng (hc : X.calm = true) : CallR X (.type "tuple") (fun xs H Q => ∃ r lo hi, xs = [.ref r] ∧ H r = some (.rng lo hi) ∧ RgOk lo hi ∧ ∀ l, H l = none → Q (.ref l) (upd H l (.tup (rgV lo hi)))) := by
  intro pins s σ H xs us Q I rv0 h
  obtain ⟨r, lo, hi, rfl, hr, ok, h⟩ := h
  obtain ⟨u, rfl, ru⟩ := vals1 rv0
  cases ru
  obtain ⟨t, u, v, er⟩ := I.hok r _ hr
  refine call_tuple_rg (A := X.A) (I.ok.hd hc) er ok fun h' tk acc kp items => ?_
  have rv := range_vals items
  have I1 : Inv X pins σ H { s with heap := h', toks := tk } := I.kept kp
  refine ⟨.ref _, _, I1.laid (fun b o e => Heap.get?_push_of_some _ e) (Nat.le_refl _) (show ObjOk X.prog X.w _ _ _ (.tup (rgV lo hi)) from ⟨?_, acc.toList, rv, by have := IsTup.new h' acc; simpa using this⟩), rfl, h _ I1.fresh⟩
  have := ok.2.2.2.2
  simp only [rgV, List.length_map, List.length_range, sizeLine_eq]; omega
def gRg (mk : List D → D) (o : Bool) : List D → Option (D × Bool)
  | [.int j] => if RgOk 0 j then some (mk (itRange 0 j.toNat), o) else none
  | [.int i, .int j] => if RgOk i j then some (mk (itRange i (j - i).toNat), o) else none
  | _ => none
theorem rg_reps {K H} {O : AP'} (lo hi : Int) : RepL K H O (itRange lo (hi - lo).toNat) (rgV lo hi) := range_reps lo _
variable {a b : Expr} {fa fb : FO} {p p2 pos pos2 : Pos}
theorem upd_none {H : Hp} {r l : Addr} {o : HO} (h : upd H r o l = none) : H l = none := by
  by_cases e : l = r
  · subst e; rw [upd_same] at h; cases h
  · rwa [upd_ne e] at h
theorem args_ints {K : PySem.W.Frag} {T T' : AP'} {σ : L2.St} {δ δ' : Dn} {H H' : Hp} {os : List Opd} {vs : List V} {ds : List D} (B : Ops K T σ δ H os vs δ' H' T') (h : resL δ' os = some ds) {is : List Int} (hd : ds = is.map .int) : vs = is.map .int := by
  obtain ⟨h1, h2⟩ := resL_get h
  apply List.ext_getElem?
  intro j
  by_cases hj : j < is.length
  · rw [view_ints B h (j := j) (i := is[j]) (by rw [hd]; simp [hj])]
    simp [hj]
  · have l1 := B.len
    subst hd
    simp at h1
    rw [List.getElem?_eq_none (by omega), List.getElem?_eq_none (by simp; omega)]
theorem px_rg2 {T : String} {z : Str} {mk : List D → D} {o : Bool} (hT : (T = "list" ∧ mk = .lst ∧ o = true) ∨ (T = "tuple" ∧ mk = .tup ∧ o = false)) (hc : X.calm = true) (hg : Gl X z) (hm : X.mg z = none) (hv : bootBuiltins z = some (.type T)) (hn : z ≠ "__name__") (hdb : (z == ("__debug__" : Str)) = false)
    (hg2 : Gl X "range") (hm2 : X.mg "range" = none) (ha : PA X [a, b] (tA X.K [fa, fb]))
    (s1 : starEach [.Call (.Name "range" p2) [a, b] [] pos2] X.env = (false, eval (.Call (.Name "range" p2) [a, b] [] pos2) X.env) :: starEach [] X.env) (s2 : starEach [a, b] X.env = (false, eval a X.env) :: starEach [b] X.env)
    (hpl : (backTo pos (starEach [] X.env)).any (·.1) = false) (hpl2 : (backTo pos2 (starEach [b] X.env)).any (·.1) = false) :
    PX X (.Call (.Name z p) [.Call (.Name "range" p2) [a, b] [] pos2] [] pos) (fCall (gRg mk o) [fa, fb]) := by
  have len2 : ∀ {δ δ1 : Dn} {os : List Opd}, fArgs [fa, fb] δ = some (os, δ1) → os.length = 2 := fun {δ δ1 os} h1 => by
    unfold fArgs at h1
    obtain ⟨p, q1, h1⟩ := bind_some' h1
    obtain ⟨q, q2, h1⟩ := bind_some' h1
    unfold fArgs at q2
    obtain ⟨p3, q3, q2⟩ := bind_some' q2
    obtain ⟨q4, q5, q2⟩ := bind_some' q2
    unfold fArgs at q5
    cases q5
    obtain ⟨rfl, rfl⟩ := some_pair h1
    cases q2
    rfl
  rcases hT with ⟨rfl, rfl, rfl⟩ | ⟨rfl, rfl, rfl⟩
  · refine PX.imp (pe_callTy (call_list_rng hc) hg hm hv (pa_cons (pe_callTy call_rng2 hg2 hm2 boot_range ha (by decide) (by decide) s2 hpl2) pa_nil s1) hn hdb s1 hpl) fun σ H Q hw => ?_
    obtain ⟨δ, T, rr, δ', E, e, k⟩ := hw
    obtain ⟨⟨os, δ1⟩, h1, e⟩ := bind_some' e
    obtain ⟨ds, h2, e⟩ := bind_some' e
    obtain ⟨zz, h3, e⟩ := bind_some' e
    obtain ⟨rfl, rfl⟩ := some_pair e
    refine ⟨δ, T, os, δ1, E, h1, fun vs H1 T1 B => ?_⟩
    unfold gRg at h3
    split at h3
    · obtain ⟨hl, _⟩ := resL_get h2
      have := len2 h1
      simp at hl; omega
    · rename_i i j
      obtain ⟨ok, rfl⟩ := ite_some h3
      refine ⟨i, j, args_ints B h2 (is := [i, j]) rfl, fun r hr => ⟨r, i, j, rfl, upd_same, ok, fun l hl => ?_⟩⟩
      have hx : ∀ a u, H1 a = some u → upd (upd H1 r (.rng i j)) l (.lst (rgV i j)) a = some u := fun a u e => upd_ext hl a u (upd_ext hr a u e)
      exact (B.done k) l _ (upd_none hl) hx ⟨rgV i j, upd_same, rg_reps i j⟩
    · cases h3
  · refine PX.imp (pe_callTy (call_tuple_rng hc) hg hm hv (pa_cons (pe_callTy call_rng2 hg2 hm2 boot_range ha (by decide) (by decide) s2 hpl2) pa_nil s1) hn hdb s1 hpl) fun σ H Q hw => ?_
    obtain ⟨δ, T, rr, δ', E, e, k⟩ := hw
    obtain ⟨⟨os, δ1⟩, h1, e⟩ := bind_some' e
    obtain ⟨ds, h2, e⟩ := bind_some' e
    obtain ⟨zz, h3, e⟩ := bind_some' e
    obtain ⟨rfl, rfl⟩ := some_pair e
    refine ⟨δ, T, os, δ1, E, h1, fun vs H1 T1 B => ?_⟩
    unfold gRg at h3
    split at h3
    · obtain ⟨hl, _⟩ := resL_get h2
      have := len2 h1
      simp at hl; omega
    · rename_i i j
      obtain ⟨ok, rfl⟩ := ite_some h3
      refine ⟨i, j, args_ints B h2 (is := [i, j]) rfl, fun r hr => ⟨r, i, j, rfl, upd_same, ok, fun l hl => ?_⟩⟩
      have hx : ∀ a u, H1 a = some u → upd (upd H1 r (.rng i j)) l (.tup (rgV i j)) a = some u := fun a u e => upd_ext hl a u (upd_ext hr a u e)
      exact (B.done k) _ _ hx (Rep.mkTup ⟨upd_same, B.np (upd_none hl)⟩ (rg_reps i j))
    · cases h3
end
end PX
set_option Elab.async false
set_option linter.all false
set_option maxRecDepth 100000
set_option maxHeartbeats 4000000
namespace PX
open PySem PySem.Spec PyProof.Rows L2 PySem.SeqAt
def Src (h : Heap) (it l : Addr) (i : Nat) (xs : Array Value) : Prop := (h.IsListIter it l i ∧ h.IsList l xs) ∨ (h.IsTupleIter it l i ∧ h.IsTuple l xs)
section
variable {prog : Program} {w : World} {A : Around} {E : Value → Shared → Prop} {s : Shared} {it l : Addr} {i : Nat} {xs : Array Value}
theorem Src.ne {h : Heap} (x : Src h it l i xs) : l ≠ it := by
  intro e
  subst e
  rcases x with ⟨⟨o, h1, h2, h3⟩, o', g1, g2, n, g3⟩ | ⟨⟨o, h1, h2, h3⟩, o', g1, g2, n, g3⟩ <;> (rw [h1] at g1; cases g1; rw [h3] at g3; cases g3)
theorem Src.lt {h : Heap} (x : Src h it l i xs) : it < h.objs.size ∧ l < h.objs.size := by
  rcases x with ⟨⟨o, h1, _⟩, o', g1, _⟩ | ⟨⟨o, h1, _⟩, o', g1, _⟩ <;> exact ⟨Heap.lt_size h1, Heap.lt_size g1⟩
theorem Src.keep {h h' : Heap} (x : Src h it l i xs) (k1 : ∀ o, h.get? it = some o → h'.get? it = some o) (k2 : ∀ o, h.get? l = some o → h'.get? l = some o) : Src h' it l i xs := by
  rcases x with ⟨⟨o, h1, r⟩, o', g1, r'⟩ | ⟨⟨o, h1, r⟩, o', g1, r'⟩
  · exact .inl ⟨⟨o, k1 _ h1, r⟩, o', k2 _ g1, r'⟩
  · exact .inr ⟨⟨o, k1 _ h1, r⟩, o', k2 _ g1, r'⟩
theorem tupleNext_item {x : Value} {Q : Value → Shared → Prop} (hit : s.heap.IsTupleIter it l i) (hl : s.heap.IsTuple l xs) (hx : xs[i]? = some x)
    (hQ : ∀ h', h'.IsTupleIter it l (i + 1) → Heap.SameBut it s.heap h' → Q x { s with heap := h' }) : wpAny (model prog w) A (Builtin.SmallTypes.nextOf (.ref it)) Q E s := by
  obtain ⟨o, ho, hc, hd⟩ := id hit
  obtain ⟨ol, hol, _, nl, hdl⟩ := hl
  unfold Builtin.SmallTypes.nextOf
  refine wpAny_bind (wpAny_callSpecial?_slot (name := Str.ofString "__next__") hit.typeIs F.slot_tuple_iterator_next (wpAny_call_entry F.slot_tuple_iterator_next hit.typeIs F.entry_tuple_iterator_next ?_ (F.args_tuple_iterator_next_1 _)))
  refine wpAny_bind (m := field (.ref it) 0) (wpAny_field ho hd (x := .ref l) rfl ?_)
  show wpAny _ _ (if (Value.ref l == Value.none) = true then _ else _) _ _ s
  rw [if_neg (by show ¬ (Value.ref l == Value.none) = true; exact Bool.false_ne_true)]
  refine wpAny_bind (m := field (.ref it) 1) (wpAny_field ho hd (x := .int i 0) rfl ?_)
  refine wpAny_bind (m := seqItems? (.ref l)) (wpAny_seqItems hol hdl ?_)
  simp only [Int.toNat_natCast, hx]
  refine wpAny_bind (wpAny_setField ho hd (by simp) (wpAny_pure ⟨x, rfl, wpAny_pure (hQ _ ⟨_, Heap.get?_update_self _ ho (Obj.isFreed_of_fields (Obj.data_mapFields hd _)), (Obj.cls_mapFields ..).trans hc, ?_⟩ (Heap.SameBut.update ..))⟩))
  rw [Obj.data_mapFields hd]
  simp [rawInt]
theorem tupleNext_end {Q : Value → Shared → Prop} (hh : A.handled = none) (hit : s.heap.IsTupleIter it l i) (hl : s.heap.IsTuple l xs) (hx : xs[i]? = none)
    (hE : ∀ h' e, Heap.ExtBut it s.heap h' → (∃ o, h'.get? e = some o ∧ o.cls = .type "StopIteration") → E (.ref e) { s with heap := h' }) : wpAny (model prog w) A (Builtin.SmallTypes.nextOf (.ref it)) Q E s := by
  obtain ⟨o, ho, hc, hd⟩ := id hit
  obtain ⟨ol, hol, _, nl, hdl⟩ := hl
  unfold Builtin.SmallTypes.nextOf
  refine wpAny_bind (wpAny_callSpecial?_slot (name := Str.ofString "__next__") hit.typeIs F.slot_tuple_iterator_next (wpAny_call_entry F.slot_tuple_iterator_next hit.typeIs F.entry_tuple_iterator_next ?_ (F.args_tuple_iterator_next_1 _)))
  refine wpAny_bind (m := field (.ref it) 0) (wpAny_field ho hd (x := .ref l) rfl ?_)
  show wpAny _ _ (if (Value.ref l == Value.none) = true then _ else _) _ _ s
  rw [if_neg (by show ¬ (Value.ref l == Value.none) = true; exact Bool.false_ne_true)]
  refine wpAny_bind (m := field (.ref it) 1) (wpAny_field ho hd (x := .int i 0) rfl ?_)
  refine wpAny_bind (m := seqItems? (.ref l)) (wpAny_seqItems hol hdl ?_)
  simp only [Int.toNat_natCast, hx]
  refine wpAny_bind (wpAny_rule (wpAny_bind (wpAny_setField ho hd (by simp) ?_)))
  refine wpAny_bind (m := newExc (.type "StopIteration") []) ?_
  simp only [newExc, newTuple]
  refine wpAny_bind (wpAny_newObj_type (wpAny_bind (m := firstArgMember _ _) (wpAny_of_eq (a := Value.none) (by first | rfl | (simp only [firstArgMember]; rfl)) ?_)) (by size_fits))
  refine wpAny_newObj_type ?_ (by size_fits)
  simp only [raiseNew]
  refine wpAny_bind (wpAny_handled ?_)
  first | rw [show A.in1.handled = none from hh] | rw [hh]
  exact wpAny_bind (wpAny_pure (wpAny_throw (hE _ _ (((Heap.SameBut.update ..).extBut.push _).push _) ⟨_, Heap.get?_push_size _ rfl, rfl⟩)))
theorem Src.item {x : Value} {Q : Value → Shared → Prop} (st : Src s.heap it l i xs) (hx : xs[i]? = some x) (hQ : ∀ h', Src h' it l (i + 1) xs → Heap.SameBut it s.heap h' → Q x { s with heap := h' }) :
    wpAny (model prog w) A (Builtin.SmallTypes.nextOf (.ref it)) Q E s := by
  have ne := st.ne
  rcases st with ⟨a, b⟩ | ⟨a, b⟩
  · exact wpAny_nextOf_list_item a b hx fun h' a' sb => hQ h' (.inl ⟨a', b.extBut sb.extBut ne⟩) sb
  · exact tupleNext_item a b hx fun h' a' sb => hQ h' (.inr ⟨a', b.extBut sb.extBut ne⟩) sb
theorem Src.stop {Q : Value → Shared → Prop} (hh : A.handled = none) (st : Src s.heap it l i xs) (hx : xs[i]? = none)
    (hE : ∀ h' e, Heap.ExtBut it s.heap h' → (∃ o, h'.get? e = some o ∧ o.cls = .type "StopIteration") → E (.ref e) { s with heap := h' }) : wpAny (model prog w) A (Builtin.SmallTypes.nextOf (.ref it)) Q E s := by
  rcases st with ⟨a, b⟩ | ⟨a, b⟩
  · exact wpAny_nextOf_list_end hh a b hx hE
  · exact tupleNext_end hh a b hx hE
theorem Src.new {Q : Value → Shared → Prop} (hl : s.heap.IsList l xs ∨ s.heap.IsTuple l xs) (hQ : ∀ h', Src h' s.heap.objs.size l 0 xs → h'.objs.size = s.heap.objs.size + 1 → (∀ b o, s.heap.get? b = some o → h'.get? b = some o) → Q (.ref s.heap.objs.size) { s with heap := h' }) :
    wpAny (model prog w) A (pyIter (.ref l)) Q E s := by
  rcases hl with hl | hl
  · exact wpAny_pyIter_list hl (hQ _ (.inl ⟨⟨_, Heap.get?_push_size _ rfl, rfl, rfl⟩, hl.push _⟩) (Heap.size_push ..) fun b o e => Heap.get?_push_of_some _ e)
  · exact wpAny_pyIter_tuple hl (hQ _ (.inr ⟨⟨_, Heap.get?_push_size _ rfl, rfl, rfl⟩, hl.push _⟩) (Heap.size_push ..) fun b o e => Heap.get?_push_of_some _ e)
end
section
variable {prog : Program} {w : World} {A : Around} {E : Value → Shared → Prop} {s : Shared} {e it l : Addr} {i : Nat} {c : Int} {xs : Array Value}
end
end PX
set_option Elab.async false
set_option linter.all false
set_option maxRecDepth 100000
set_option maxHeartbeats 4000000
namespace PX
open PySem PySem.Spec PyProof.Rows L2 PySem.SeqAt
section
variable {X : Cx} {pins : List (Addr × Obj)} {σ : L2.St} {H : Hp} {s : Shared} {h' : Heap}
theorem turnedNew {t' : Nat} {ch : List Addr} {a : Addr} {o : HO} (I : Inv X pins σ H s) (hf : ∀ b ∈ ch, FpOk X pins H b) (k : ∀ b u, b ∉ ch → s.heap.get? b = some u → h'.get? b = some u) (ha : s.heap.objs.size ≤ a) (new : ObjOk X.prog X.w (upd H a o) h' a o) :
    Inv X pins σ (upd H a o) { s with heap := h', toks := t' } := by
  have hn := I.hok.fresh ha
  have nch : ∀ b u, H b = some u → b ∉ ch := fun b u e z => by have := (hf b z).1; rw [this] at e; cases e
  have up : ∀ b u, H b = some u → upd H a o b = some u := fun b u e => by rw [upd_ne (ne_of_none e hn)]; exact e
  have fr : ∀ b u, s.heap.get? b = some u → H b = none → upd H a o b = none := fun b u e n => by
    rw [upd_ne (fun z => by subst z; exact absurd (Heap.lt_size e) (Nat.not_lt.mpr ha))]; exact n
  refine I.step (g' := s.gens) (d' := s.drawn) (ch := ch) (fun b hb => ?_) (fun b u _ _ hc e _ => k b u hc e) (fun b u _ _ hc e _ => ⟨u.slots, k b u hc e⟩) (fun b u _ e n => fr b u e n)
    (fun b u hc e => ⟨u, k b u hc e⟩) (fun b xs e => up b _ e) (fun b _ _ e => up b _ e) (fun b ps e => ⟨#[], by rw [up b _ e]; simp⟩) (fun m hm => ?_) (fun b u e => ?_) I.bare
  · obtain ⟨_, f1, f2, f3, f4, f5⟩ := hf b hb
    exact ⟨f3, f1, f4, f5⟩
  · obtain ⟨u, es, ep, ho, r⟩ := hm
    exact ⟨u, es, ep, k _ u (fun z => (hf _ z).2.1 rfl) ho, r⟩
  · by_cases hb : b = a
    · subst hb; rw [upd_same] at e; cases e; exact new
    · rw [upd_ne hb] at e
      refine (I.hok b u e).stay (fun c v hc q => k c v ?_ q) (fun c q => up c _ q) fun c xs q => up c _ q
      rcases hc with z | z
      · rw [z]; exact nch b u e
      · exact nch c _ z
theorem turnedAll {t' : Nat} {ch : List Addr} (I : Inv X pins σ H s) (hf : ∀ b ∈ ch, FpOk X pins H b) (k : ∀ b u, b ∉ ch → s.heap.get? b = some u → h'.get? b = some u) : Inv X pins σ H { s with heap := h', toks := t' } := by
  have nch : ∀ b u, H b = some u → b ∉ ch := fun b u e z => by have := (hf b z).1; rw [this] at e; cases e
  refine I.step (g' := s.gens) (d' := s.drawn) (ch := ch) (fun b hb => ?_) (fun b u _ _ hc e _ => k b u hc e) (fun b u _ _ hc e _ => ⟨u.slots, k b u hc e⟩) (fun b u _ e n => n)
    (fun b u hc e => ⟨u, k b u hc e⟩) (fun b xs e => e) (fun b _ _ e => e) (fun b ps e => ⟨#[], by rw [e]; simp⟩) (fun m hm => ?_) (fun b u e => ?_) I.bare
  · obtain ⟨_, f1, f2, f3, f4, f5⟩ := hf b hb
    exact ⟨f3, f1, f4, f5⟩
  · obtain ⟨u, es, ep, ho, r⟩ := hm
    exact ⟨u, es, ep, k _ u (fun z => (hf _ z).2.1 rfl) ho, r⟩
  · refine (I.hok b u e).stay (fun c v hc q => k c v ?_ q) (fun c q => q) fun c xs q => q
    rcases hc with z | z
    · rw [z]; exact nch b u e
    · exact nch c _ z
end
def SqX (b : Bool) (K : PySem.W.Frag) (H : Hp) (l : Addr) (xs : List V) : Prop := if b = true then SqL K H l xs else SqT K H l xs
def ItX (b : Bool) (h : Heap) (it l : Addr) (i : Nat) : Prop := if b = true then h.IsListIter it l i else h.IsTupleIter it l i
theorem ItX.keep {b : Bool} {h h' : Heap} {it l : Addr} {i : Nat} (x : ItX b h it l i) (k : ∀ o, h.get? it = some o → h'.get? it = some o) : ItX b h' it l i := by
  cases b
  · exact PySem.Heap.IsTupleIter.at (show h.IsTupleIter it l i from x) k
  · exact PySem.Heap.IsListIter.at (show h.IsListIter it l i from x) k
theorem ItX.obj {b : Bool} {h : Heap} {it l : Addr} {i : Nat} (x : ItX b h it l i) : ∃ o, h.get? it = some o ∧ ∀ v, o.data ≠ .cell v := by
  cases b <;> (obtain ⟨o, e, c, d⟩ := x; exact ⟨o, e, fun v z => by rw [d] at z; cases z⟩)
section
variable {X : Cx} {pins : List (Addr × Obj)} {σ : L2.St} {H : Hp} {s : Shared}
theorem sqx_src {b : Bool} {it l : Addr} {i : Nat} {xs : List V} (I : Inv X pins σ H s) (q : SqX b X.K H l xs) (t : ItX b s.heap it l i) : ∃ its, Vals xs its ∧ Src s.heap it l i its.toArray := by
  cases b with
  | true => obtain ⟨its, v, p, _⟩ := I.list q; exact ⟨its, v, .inl ⟨t, p.isList⟩⟩
  | false => obtain ⟨its, v, p, _⟩ := I.tuple q; exact ⟨its, v, .inr ⟨t, p⟩⟩
theorem sqx_inj {b : Bool} {l : Addr} {xs ys : List V} (I : Inv X pins σ H s) (q : SqX b X.K H l xs) (q' : SqX b X.K H l ys) : xs = ys := by
  cases b with
  | true => exact I.list_inj q q'
  | false => exact I.tuple_inj q q'
theorem itx_of {b : Bool} {h : Heap} {it l : Addr} {i : Nat} {xs : Array Value} {i' : Nat} {h' : Heap} (t : ItX b h it l i) (hs : Src h it l i xs) (hs' : Src h' it l i' xs) (kl : ∀ o, h.get? l = some o → h'.get? l = some o) : ItX b h' it l i' := by
  cases b with
  | true =>
    rcases hs' with ⟨a, _⟩ | ⟨a, c⟩
    · exact a
    · rcases hs with ⟨_, o, h1, h2, _⟩ | ⟨⟨o, h1, h2, _⟩, _⟩
      · obtain ⟨o', g1, g2, _⟩ := c
        rw [kl _ h1] at g1; cases g1
        rw [h2] at g2; injection g2 with g2; exact absurd g2 (by decide)
      · obtain ⟨o', g1, g2, _⟩ := t
        rw [h1] at g1; cases g1
        rw [h2] at g2; injection g2 with g2; exact absurd g2 (by decide)
  | false =>
    rcases hs' with ⟨a, c⟩ | ⟨a, _⟩
    · rcases hs with ⟨⟨o, h1, h2, _⟩, _⟩ | ⟨_, o, h1, h2, _⟩
      · obtain ⟨o', g1, g2, _⟩ := t
        rw [h1] at g1; cases g1
        rw [h2] at g2; injection g2 with g2; exact absurd g2 (by decide)
      · obtain ⟨o', g1, g2, _⟩ := c
        rw [kl _ h1] at g1; cases g1
        rw [h2] at g2; injection g2 with g2; exact absurd g2 (by decide)
    · exact a
end
end PX
set_option Elab.async false
set_option linter.all false
set_option maxRecDepth 100000
set_option maxHeartbeats 4000000
namespace PX
open PySem PySem.Spec PyProof.Rows L2 PySem.SeqAt
open AutoSeq1 (wpAny_loadPart')
section
variable {prog : Program} {w : World} {A : Around} {E : Value → Shared → Prop} {s : Shared}
end
section
variable {X : Cx} {pins : List (Addr × Obj)} {σ : L2.St} {H : Hp} {s : Shared} {elts : List Expr} {k1 : Nat} {tpos : Pos}
theorem sqx_is {b : Bool} {l : Addr} {xs : List V} (I : Inv X pins σ H s) (q : SqX b X.K H l xs) : ∃ its, Vals xs its ∧ (s.heap.IsList l its.toArray ∨ s.heap.IsTuple l its.toArray) := by
  cases b with
  | true => obtain ⟨its, v, p, _⟩ := I.list q; exact ⟨its, v, .inl p.isList⟩
  | false => obtain ⟨its, v, p, _⟩ := I.tuple q; exact ⟨its, v, .inr p⟩
end
end PX
set_option Elab.async false
set_option linter.all false
set_option maxRecDepth 100000
set_option maxHeartbeats 4000000
namespace PX
open PySem PySem.Spec PyProof.Rows L2 PySem.SeqAt
section
variable {prog : Program} {w : World} {A : Around} {E : Value → Shared → Prop} {s : Shared} {z TI TO i1 i2 l1 l2 : Addr} {k : Nat} {xs ys : Array Value} {x y a b : Value}
theorem zip_item {Q : Value → Shared → Prop} (D : ZipApart z TI TO i1 i2 l1 l2) (hz : IsZip s.heap z TI TO .none) (hTI : IsPair s.heap TI (.ref i1) (.ref i2)) (hTO : IsPair s.heap TO a b) (h1 : Src s.heap i1 l1 k xs) (h2 : Src s.heap i2 l2 k ys) (hx : xs[k]? = some x) (hy : ys[k]? = some y)
    (hQ : ∀ h', IsZip h' z TI TO (rawInt s.heap.objs.size) → IsPair h' TO x y → Src h' i1 l1 (k + 1) xs → Src h' i2 l2 (k + 1) ys → IsPair h' s.heap.objs.size x y → (∀ c o, c ≠ z → c ≠ TO → c ≠ i1 → c ≠ i2 → s.heap.get? c = some o → h'.get? c = some o) → Q (.ref s.heap.objs.size) { s with heap := h' }) :
    wpAny (model prog w) A (Builtin.«zip.__next__» ⟨[.ref z], []⟩) (fun fin s' => ∃ v, fin = .done (.ret v) ∧ Q v s') E s := by
  refine wpAny_bind (m := field (.ref z) 2) (wpAny_field hz rfl (x := .bool false) rfl (wpAny_bind (m := field (.ref z) 3) (wpAny_field hz rfl (x := .ref TI) rfl (wpAny_bind (wpAny_seqItems hTI rfl (wpAny_bind (m := Builtin.SmallTypes.ownedTupleIsFree (.ref z)) ?_))))))
  unfold Builtin.SmallTypes.ownedTupleIsFree
  refine wpAny_bind (wpAny_field hz rfl (x := .none) rfl (wpAny_pure ?_))
  simp only [if_true]
  refine wpAny_bind (wpAny_rule (wpAny_bind (wpAny_field hz rfl (x := .ref TO) rfl (wpAny_bind (wpAny_setField_rec hz (by simp) fun h₁ hz₁ sb₁ => ?_)))))
  replace hz₁ : IsZip h₁ z TI TO .ellipsis := hz₁
  refine wpAny_bind ?_
  simp only [List.zipIdx_cons, List.zipIdx_nil, List.forIn_cons, List.forIn_nil]
  have c1 : Src h₁ i1 l1 k xs := h1.keep (fun o e => sb₁.extBut _ o D.i1z e) (fun o e => sb₁.extBut _ o D.l1z e)
  refine wpAny_bind (wpAny_bind (wpAny_onRaise (wpAny_bind (m := Builtin.SmallTypes.nextOf (.ref i1)) (c1.item (s := { s with heap := h₁ }) hx fun h₂ c1₂ sb₂ => wpAny_pure ?_))))
  have hTO₂ : IsPair h₂ TO a b := sb₂.extBut _ _ D.TOi1 (sb₁.extBut _ _ D.TOz hTO)
  refine wpAny_bind (wpAny_seqItems (s := { s with heap := h₂ }) hTO₂ rfl (wpAny_bind (wpAny_updateSeq_pair (s := { s with heap := h₂ }) hTO₂ fun h₃ hTO₃ sb₃ => wpAny_bind (wpAny_letGo (wpAny_pure ?_)))))
  replace hTO₃ : IsPair h₃ TO x b := hTO₃
  have c2 : Src h₃ i2 l2 k ys := h2.keep (fun o e => sb₃.extBut _ o D.TOi2.symm (sb₂.extBut _ o D.i12.symm (sb₁.extBut _ o D.i2z e))) (fun o e => sb₃.extBut _ o D.l2TO (sb₂.extBut _ o D.l2i1 (sb₁.extBut _ o D.l2z e)))
  refine wpAny_bind (wpAny_bind (wpAny_onRaise (wpAny_bind (m := Builtin.SmallTypes.nextOf (.ref i2)) (c2.item (s := { s with heap := h₃ }) hy fun h₄ c2₄ sb₄ => wpAny_pure ?_))))
  have hTO₄ : IsPair h₄ TO x b := sb₄.extBut _ _ D.TOi2 hTO₃
  refine wpAny_bind (wpAny_seqItems (s := { s with heap := h₄ }) hTO₄ rfl (wpAny_bind (wpAny_updateSeq_pair (s := { s with heap := h₄ }) hTO₄ fun h₅ hTO₅ sb₅ => wpAny_bind (wpAny_letGo (wpAny_pure (wpAny_pure ?_))))))
  replace hTO₅ : IsPair h₅ TO x y := hTO₅
  refine wpAny_bind (wpAny_seqItems (s := { s with heap := h₅ }) hTO₅ rfl (wpAny_bind (wpAny_newTuple (s := { s with heap := h₅ }) ?_)))
  have hsz : h₅.objs.size = s.heap.objs.size := by rw [sb₅.1, sb₄.1, sb₃.1, sb₂.1, sb₁.1]
  have hz₅ : IsZip h₅ z TI TO .ellipsis := sb₅.extBut _ _ D.TOz.symm (sb₄.extBut _ _ D.i2z.symm (sb₃.extBut _ _ D.TOz.symm (sb₂.extBut _ _ D.i1z.symm hz₁)))
  have hk₅ : ∀ c o, c ≠ z → c ≠ TO → c ≠ i1 → c ≠ i2 → s.heap.get? c = some o → h₅.get? c = some o := fun c o d1 d2 d3 d4 e => sb₅.extBut _ _ d2 (sb₄.extBut _ _ d4 (sb₃.extBut _ _ d2 (sb₂.extBut _ _ d3 (sb₁.extBut _ _ d1 e))))
  have c1₅ : Src h₅ i1 l1 (k + 1) xs := c1₂.keep (fun o e => sb₅.extBut _ o D.TOi1.symm (sb₄.extBut _ o D.i12 (sb₃.extBut _ o D.TOi1.symm e))) (fun o e => sb₅.extBut _ o D.l1TO (sb₄.extBut _ o D.l1i2 (sb₃.extBut _ o D.l1TO e)))
  have c2₅ : Src h₅ i2 l2 (k + 1) ys := c2₄.keep (fun o e => sb₅.extBut _ o D.TOi2.symm e) (fun o e => sb₅.extBut _ o D.l2TO e)
  have hzlt : z < h₅.objs.size := Heap.lt_size hz₅
  refine wpAny_bind (m := Builtin.SmallTypes.ownedTupleHandOut (.ref z) (.ref h₅.objs.size)) ?_
  unfold Builtin.SmallTypes.ownedTupleHandOut
  have hz₆ : IsZip (h₅.push { cls := .type "tuple", data := .seq #[x, y] }) z TI TO .ellipsis := Heap.get?_push_of_some _ hz₅
  refine wpAny_bind (wpAny_setField_rec (s := { s with heap := h₅.push { cls := .type "tuple", data := .seq #[x, y] } }) hz₆ (by simp) fun h₇ hz₇ sb₇ => ?_)
  replace hz₇ : IsZip h₇ z TI TO (rawInt h₅.objs.size) := hz₇
  refine wpAny_setField_rec (s := { s with heap := h₇ }) hz₇ (by simp) fun h₈ hz₈ sb₈ => ?_
  replace hz₈ : IsZip h₈ z TI TO (rawInt h₅.objs.size) := hz₈
  have up : ∀ c o, c ≠ z → h₅.get? c = some o → h₈.get? c = some o := fun c o d1 e => sb₈.extBut _ _ d1 (sb₇.extBut _ _ d1 (Heap.get?_push_of_some _ e))
  have hT₈ : IsPair h₈ h₅.objs.size x y := sb₈.extBut _ _ (Nat.ne_of_gt hzlt) (sb₇.extBut _ _ (Nat.ne_of_gt hzlt) (Heap.get?_push_size _ rfl))
  rw [hsz] at hz₈ hT₈
  refine wpAny_pure ⟨_, rfl, ?_⟩
  show Q (.ref h₅.objs.size) _
  rw [hsz]
  exact hQ h₈ hz₈ (up _ _ D.TOz hTO₅) (c1₅.keep (fun o e => up _ o D.i1z e) fun o e => up _ o D.l1z e) (c2₅.keep (fun o e => up _ o D.i2z e) fun o e => up _ o D.l2z e) hT₈ fun c o d1 d2 d3 d4 e => up c o d1 (hk₅ c o d1 d2 d3 d4 e)
theorem zip_stop {Q : Fin → Shared → Prop} (hh : A.handled = none) (D : ZipApart z TI TO i1 i2 l1 l2) (hz : IsZip s.heap z TI TO .none) (hTI : IsPair s.heap TI (.ref i1) (.ref i2)) (hTO : IsPair s.heap TO a b) (h1 : Src s.heap i1 l1 k xs) (h2 : Src s.heap i2 l2 k ys) (hend : xs[k]? = none ∨ ys[k]? = none)
    (hE : ∀ h' e, (∀ c o, c ≠ z → c ≠ TO → c ≠ i1 → c ≠ i2 → s.heap.get? c = some o → h'.get? c = some o) → (∃ o, h'.get? e = some o ∧ o.cls = .type "StopIteration") → E (.ref e) { s with heap := h' }) : wpAny (model prog w) A (Builtin.«zip.__next__» ⟨[.ref z], []⟩) Q E s := by
  have notzip : ∀ {h : Heap} {e : Addr} {oe : Obj} {f0 : Value}, IsZip h z TI TO f0 → h.get? e = some oe → oe.cls = .type "StopIteration" → e ≠ z := fun hzz hoe hce q => by
    subst q
    have hzz' : _ = _ := hzz
    rw [hoe] at hzz'; cases hzz'
    injection hce with hce; exact absurd hce (by decide)
  refine wpAny_bind (m := field (.ref z) 2) (wpAny_field hz rfl (x := .bool false) rfl (wpAny_bind (m := field (.ref z) 3) (wpAny_field hz rfl (x := .ref TI) rfl (wpAny_bind (wpAny_seqItems hTI rfl (wpAny_bind (m := Builtin.SmallTypes.ownedTupleIsFree (.ref z)) ?_))))))
  unfold Builtin.SmallTypes.ownedTupleIsFree
  refine wpAny_bind (wpAny_field hz rfl (x := .none) rfl (wpAny_pure ?_))
  simp only [if_true]
  refine wpAny_bind (wpAny_rule (wpAny_bind (wpAny_field hz rfl (x := .ref TO) rfl (wpAny_bind (wpAny_setField_rec hz (by simp) fun h₁ hz₁ sb₁ => ?_)))))
  replace hz₁ : IsZip h₁ z TI TO .ellipsis := hz₁
  refine wpAny_bind ?_
  simp only [List.zipIdx_cons, List.zipIdx_nil, List.forIn_cons, List.forIn_nil]
  have c1 : Src h₁ i1 l1 k xs := h1.keep (fun o e => sb₁.extBut _ o D.i1z e) (fun o e => sb₁.extBut _ o D.l1z e)
  cases hx : xs[k]? with
  | none =>
    refine wpAny_bind (wpAny_bind (wpAny_onRaise (wpAny_bind (m := Builtin.SmallTypes.nextOf (.ref i1)) (c1.stop (s := { s with heap := h₁ }) hh hx fun h₂ e sb₂ ⟨oe, hoe, hce⟩ => ?_))))
    have hz₂ : IsZip h₂ z TI TO .ellipsis := sb₂ _ _ D.i1z.symm hz₁
    exact wpAny_setField_rec (s := { s with heap := h₂ }) hz₂ (by simp) fun h₃ _ sb₃ => hE h₃ e (fun c o d1 _ d3 _ q => sb₃.extBut _ _ d1 (sb₂ _ _ d3 (sb₁.extBut _ _ d1 q))) ⟨oe, sb₃.extBut _ _ (notzip hz₂ hoe hce) hoe, hce⟩
  | some x =>
    have hy : ys[k]? = none := by rcases hend with h | h; rw [hx] at h; cases h; exact h
    refine wpAny_bind (wpAny_bind (wpAny_onRaise (wpAny_bind (m := Builtin.SmallTypes.nextOf (.ref i1)) (c1.item (s := { s with heap := h₁ }) hx fun h₂ c1₂ sb₂ => wpAny_pure ?_))))
    have hTO₂ : IsPair h₂ TO a b := sb₂.extBut _ _ D.TOi1 (sb₁.extBut _ _ D.TOz hTO)
    refine wpAny_bind (wpAny_seqItems (s := { s with heap := h₂ }) hTO₂ rfl (wpAny_bind (wpAny_updateSeq_pair (s := { s with heap := h₂ }) hTO₂ fun h₃ hTO₃ sb₃ => wpAny_bind (wpAny_letGo (wpAny_pure ?_)))))
    have c2 : Src h₃ i2 l2 k ys := h2.keep (fun o e => sb₃.extBut _ o D.TOi2.symm (sb₂.extBut _ o D.i12.symm (sb₁.extBut _ o D.i2z e))) (fun o e => sb₃.extBut _ o D.l2TO (sb₂.extBut _ o D.l2i1 (sb₁.extBut _ o D.l2z e)))
    refine wpAny_bind (wpAny_bind (wpAny_onRaise (wpAny_bind (m := Builtin.SmallTypes.nextOf (.ref i2)) (c2.stop (s := { s with heap := h₃ }) hh hy fun h₄ e sb₄ ⟨oe, hoe, hce⟩ => ?_))))
    have hz₄ : IsZip h₄ z TI TO .ellipsis := sb₄ _ _ D.i2z.symm (sb₃.extBut _ _ D.TOz.symm (sb₂.extBut _ _ D.i1z.symm hz₁))
    exact wpAny_setField_rec (s := { s with heap := h₄ }) hz₄ (by simp) fun h₅ _ sb₅ => hE h₅ e (fun c o d1 d2 d3 d4 q => sb₅.extBut _ _ d1 (sb₄ _ _ d4 (sb₃.extBut _ _ d2 (sb₂.extBut _ _ d3 (sb₁.extBut _ _ d1 q))))) ⟨oe, sb₅.extBut _ _ (notzip hz₄ hoe hce) hoe, hce⟩
theorem pyNext_zip {Q : Option Value → Shared → Prop} (D : ZipApart z TI TO i1 i2 l1 l2) (hz : IsZip s.heap z TI TO .none) (hTI : IsPair s.heap TI (.ref i1) (.ref i2)) (hTO : IsPair s.heap TO a b) (h1 : Src s.heap i1 l1 k xs) (h2 : Src s.heap i2 l2 k ys) (hx : xs[k]? = some x) (hy : ys[k]? = some y)
    (hQ : ∀ h', IsZip h' z TI TO (rawInt s.heap.objs.size) → IsPair h' TO x y → Src h' i1 l1 (k + 1) xs → Src h' i2 l2 (k + 1) ys → IsPair h' s.heap.objs.size x y → (∀ c o, c ≠ z → c ≠ TO → c ≠ i1 → c ≠ i2 → s.heap.get? c = some o → h'.get? c = some o) → Q (some (.ref s.heap.objs.size)) { s with heap := h' }) :
    wpAny (model prog w) A (pyNext (.ref z)) Q E s := by
  have hT : s.TypeIs (.ref z) "zip" := ⟨_, hz, rfl⟩
  unfold pyNext
  exact wpAny_bind (wpAny_attempt (wpAny_callSpecial?_slot (name := Str.ofString "__next__") hT F.slot_zip_next (wpAny_call_entry F.slot_zip_next hT F.entry_zip_next
    (zip_item D hz hTI hTO h1 h2 hx hy fun h' a1 a2 a3 a4 a5 a6 => wpAny_pure (hQ h' a1 a2 a3 a4 a5 a6)) (F.args_zip_next_1 _))))
theorem pyNext_zip_end {Q : Option Value → Shared → Prop} (hh : A.handled = none) (D : ZipApart z TI TO i1 i2 l1 l2) (hz : IsZip s.heap z TI TO .none) (hTI : IsPair s.heap TI (.ref i1) (.ref i2)) (hTO : IsPair s.heap TO a b) (h1 : Src s.heap i1 l1 k xs) (h2 : Src s.heap i2 l2 k ys) (hend : xs[k]? = none ∨ ys[k]? = none)
    (hQ : ∀ h', (∀ c o, c ≠ z → c ≠ TO → c ≠ i1 → c ≠ i2 → s.heap.get? c = some o → h'.get? c = some o) → Q none { s with heap := h' }) : wpAny (model prog w) A (pyNext (.ref z)) Q E s := by
  have hT : s.TypeIs (.ref z) "zip" := ⟨_, hz, rfl⟩
  unfold pyNext
  exact wpAny_bind (wpAny_attempt (wpAny_callSpecial?_slot (name := Str.ofString "__next__") hT F.slot_zip_next (wpAny_call_entry F.slot_zip_next hT F.entry_zip_next
    (zip_stop hh D hz hTI hTO h1 h2 hend fun h' e hk ⟨o, ho, hc⟩ => wpAny_bind (wpAny_isInstance (T := "StopIteration") (b := true) ⟨o, ho, hc⟩ isSubtype_stop (wpAny_pure (hQ _ hk)))) (F.args_zip_next_1 _))))
end
theorem zip_new (l1 l2 : Addr) (xs ys : Array Value) : Meets (Builtin.«zip.__new__» ⟨[.type "zip", .ref l1, .ref l2], []⟩) (fun _ R s => (s.heap.IsList l1 xs ∨ s.heap.IsTuple l1 xs) ∧ (s.heap.IsList l2 ys ∨ s.heap.IsTuple l2 ys) ∧
    ∀ h1 h2, Src h1 s.heap.objs.size l1 0 xs → h1.objs.size = s.heap.objs.size + 1 → (∀ b o, s.heap.get? b = some o → h1.get? b = some o) → Src h2 h1.objs.size l2 0 ys → h2.objs.size = h1.objs.size + 1 → (∀ b o, h1.get? b = some o → h2.get? b = some o) →
      R (.ok (.ret (.ref ((h2.push { cls := .type "tuple", data := .seq #[.ref s.heap.objs.size, .ref h1.objs.size] }).push { cls := .type "tuple", data := .seq #[.none, .none] }).objs.size)))
        { s with heap := ((h2.push { cls := .type "tuple", data := .seq #[.ref s.heap.objs.size, .ref h1.objs.size] }).push { cls := .type "tuple", data := .seq #[.none, .none] }).push { cls := .type "zip", data := .fields #[.none, .bool false, .bool false, .ref h2.objs.size, .ref (h2.push { cls := .type "tuple", data := .seq #[.ref s.heap.objs.size, .ref h1.objs.size] }).objs.size] } }) :=
  .of_wp fun prog w A R s h => by
    obtain ⟨hp, g, d, tk, os⟩ := s; obtain ⟨hl1, hl2, h⟩ := h
    have hsub := sub_zip
    wp_walk using Src.new hl1
    intro h1 a1 a2 a3
    have hl2' : h1.IsList l2 ys ∨ h1.IsTuple l2 ys := by
      rcases hl2 with ⟨o, e, r⟩ | ⟨o, e, r⟩
      · exact .inl ⟨o, a3 _ _ e, r⟩
      · exact .inr ⟨o, a3 _ _ e, r⟩
    wp_walk using Src.new (s := ⟨h1, g, d, tk, os⟩) hl2'
    intro h2 b1 b2 b3
    wp_walk
    exact ⟨_, rfl, h h1 h2 a1 a2 a3 b1 b2 b3⟩
end PX
set_option Elab.async false
set_option linter.all false
set_option maxRecDepth 100000
set_option maxHeartbeats 4000000
namespace PX
open PySem PySem.Spec PyProof.Rows L2 PySem.SeqAt
def ItZ (b1 b2 : Bool) (K : PySem.W.Frag) (l1 l2 : Addr) : It := ⟨fun i H => ∃ xs ys x y, SqX b1 K H l1 xs ∧ SqX b2 K H l2 ys ∧ xs[i]? = some x ∧ ys[i]? = some y,
  fun i H x H' => ∃ (T : Addr) (u v : V), x = .ref T ∧ H T = none ∧ H' = upd H T (.tup [u, v]) ∧ ∀ xs ys, SqX b1 K H l1 xs → SqX b2 K H l2 ys → xs[i]? = some u ∧ ys[i]? = some v,
  fun i H => ∃ xs ys, SqX b1 K H l1 xs ∧ SqX b2 K H l2 ys ∧ (xs.length ≤ i ∨ ys.length ≤ i)⟩
structure ZA (z TI TO i1 i2 : Addr) : Prop where
  a1 : TI ≠ z
  a2 : TO ≠ z
  a3 : i1 ≠ z
  a4 : i2 ≠ z
  a5 : TI ≠ TO
  a6 : TI ≠ i1
  a7 : TI ≠ i2
  a8 : TO ≠ i1
  a9 : TO ≠ i2
  a10 : i1 ≠ i2
theorem sqx_some {b : Bool} {K : PySem.W.Frag} {H : Hp} {l : Addr} {xs : List V} {X : Cx} {pins : List (Addr × Obj)} {σ : L2.St} {s : Shared} (I : Inv X pins σ H s) (hK : X.K = K) (q : SqX b K H l xs) {fp : List Addr} (hf : ∀ a ∈ fp, FpOk X pins H a) : l ∉ fp := by
  subst hK
  intro hm
  have hn := (hf l hm).1
  have base : ∀ o, X.K.lookup l = some o → False := fun o e => by
    have e1 := I.mod.kin l o e
    rcases (hf l hm).2.2.2.1 with z | z
    · exact I.ok.noex l o e1 z
    · have := (I.ok.bs l o e1).1
      exact absurd (Heap.lt_size this) (Nat.not_lt.mpr z)
  cases b with
  | true =>
    rcases q with (q | ⟨o, q⟩) | ⟨o, its, n, e, _⟩
    · rw [hn] at q; cases q
    · rw [hn] at q; cases q
    · exact base o e
  | false =>
    rcases q with (q | ⟨o, q⟩) | ⟨o, its, n, e, _⟩
    · rw [hn] at q; cases q
    · rw [hn] at q; cases q
    · exact base o e
theorem turn_zip {P : Program} {w : World} {K : PySem.W.Frag} {elts : List Expr} {k1} {pos : Pos} (b1 b2 : Bool) (z TI TO i1 i2 l1 l2 : Addr) (D : ZA z TI TO i1 i2) :
    Turn P w K (.Tuple elts k1 pos) (ItZ b1 b2 K l1 l2) [z, TI, TO, i1, i2] z (fun i h => IsZip h z TI TO .none ∧ IsPair h TI (.ref i1) (.ref i2) ∧ (∃ a b, IsPair h TO a b) ∧ ItX b1 h i1 l1 i ∧ ItX b2 h i2 l2 i) where
  mem := by simp
  obj := fun i h st a ha => by
    obtain ⟨hz, hTI, ⟨u, v, hTO⟩, s1, s2⟩ := st
    simp only [List.mem_cons, List.not_mem_nil, or_false] at ha
    rcases ha with rfl | rfl | rfl | rfl | rfl
    · exact ⟨_, hz, fun v e => by have e' : Data.fields _ = Data.cell v := e; cases e'⟩
    · exact ⟨_, hTI, fun v e => by have e' : Data.seq _ _ = Data.cell v := e; cases e'⟩
    · exact ⟨_, hTO, fun v e => by have e' : Data.seq _ _ = Data.cell v := e; cases e'⟩
    · exact s1.obj
    · exact s2.obj
  keep := fun i h h' st k => by
    obtain ⟨hz, hTI, ⟨u, v, hTO⟩, s1, s2⟩ := st
    exact ⟨k z (by simp) _ hz, k TI (by simp) _ hTI, ⟨u, v, k TO (by simp) _ hTO⟩, s1.keep fun o q => k i1 (by simp) o q, s2.keep fun o q => k i2 (by simp) o q⟩
  item := by
    intro X hP hw hK hc i pins s σ H E I hf st hg
    obtain ⟨hz, hTI, ⟨a0, b0, hTO⟩, s1, s2⟩ := st
    obtain ⟨xs, ys, x, y, hq1, hq2, hx, hy⟩ := hg
    have n1 := sqx_some I hK hq1 hf
    have n2 := sqx_some I hK hq2 hf
    simp only [List.mem_cons, List.not_mem_nil, or_false, not_or] at n1 n2
    subst hP hw hK
    obtain ⟨its1, rv1, src1⟩ := sqx_src I hq1 s1
    obtain ⟨its2, rv2, src2⟩ := sqx_src I hq2 s2
    obtain ⟨u, hu, ru⟩ := rv1.get hx
    obtain ⟨v, hv, rv⟩ := rv2.get hy
    have AP : ZipApart z TI TO i1 i2 l1 l2 := ⟨D.a1, D.a2, D.a3, D.a4, D.a5, D.a6, D.a7, D.a8, D.a9, D.a10, n1.1, n1.2.2.1, n1.2.2.2.1, n1.2.2.2.2, n2.1, n2.2.2.1, n2.2.2.2.1, n2.2.2.2.2⟩
    refine pyNext_zip AP hz hTI hTO src1 src2 (x := u) (y := v) (by simpa using hu) (by simpa using hv) fun h' z' t1 c1 c2 hT kp => ⟨.ref s.heap.objs.size, rfl, ?_⟩
    refine wpAny_letOwnedTupleGo_zip (s := { s with heap := h' }) z' fun h'' z'' sb => ?_
    replace sb : Heap.SameBut z h' h'' := sb
    have kp2 : ∀ a o, a ∉ [z, TI, TO, i1, i2] → s.heap.get? a = some o → h''.get? a = some o := fun a o na q => by
      simp only [List.mem_cons, List.not_mem_nil, or_false, not_or] at na
      exact sb.extBut a o na.1 (kp a o na.1 na.2.2.1 na.2.2.2.1 na.2.2.2.2 q)
    have lt : ∀ {c o}, s.heap.get? c = some o → s.heap.objs.size ≠ c := fun e => Nat.ne_of_gt (Heap.lt_size e)
    have hT'' : IsPair h'' s.heap.objs.size u v := sb.extBut _ _ (lt hz) hT
    have I1 : Inv X pins σ (upd H s.heap.objs.size (.tup [x, y])) { s with heap := h'' } :=
      turnedNew (t' := s.toks) I hf kp2 (Nat.le_refl _) (show ObjOk X.prog X.w _ _ _ (.tup [x, y]) from ⟨by show 2 ≤ sizeLine; decide, [u, v], .cons ru (.cons rv .nil), _, hT'', rfl, 0, rfl⟩)
    have t1'' : ItX b1 h'' i1 l1 (i + 1) := itx_of s1 src1 (c1.keep (fun o q => sb.extBut _ o D.a3 q) fun o q => sb.extBut _ o n1.1 q) fun o q => kp2 l1 o (by simp only [List.mem_cons, List.not_mem_nil, or_false, not_or]; exact n1) q
    have t2'' : ItX b2 h'' i2 l2 (i + 1) := itx_of s2 src2 (c2.keep (fun o q => sb.extBut _ o D.a4 q) fun o q => sb.extBut _ o n2.1 q) fun o q => kp2 l2 o (by simp only [List.mem_cons, List.not_mem_nil, or_false, not_or]; exact n2) q
    refine ⟨.ref s.heap.objs.size, _, I1, rfl, ⟨_, x, y, rfl, I.fresh, rfl, fun xs' ys' q1 q2 => by rw [sqx_inj I q1 hq1, sqx_inj I q2 hq2]; exact ⟨hx, hy⟩⟩, ⟨z'', sb.extBut _ _ D.a1 (kp _ _ D.a1 D.a5 D.a6 D.a7 hTI), ⟨u, v, sb.extBut _ _ D.a2 t1⟩, t1'', t2''⟩, fun a ha => ?_⟩
    have n0 := (hf a ha).1
    rw [upd_ne]
    · exact n0
    · intro e
      simp only [List.mem_cons, List.not_mem_nil, or_false] at ha
      rcases ha with rfl | rfl | rfl | rfl | rfl
      · exact lt hz e.symm
      · exact lt hTI e.symm
      · exact lt hTO e.symm
      · exact absurd e (Nat.ne_of_lt src1.lt.1)
      · exact absurd e (Nat.ne_of_lt src2.lt.1)
  done := by
    intro X hP hw hK hc i pins s σ H E I hf st hg
    obtain ⟨hz, hTI, ⟨a0, b0, hTO⟩, s1, s2⟩ := st
    obtain ⟨xs, ys, hq1, hq2, hend⟩ := hg
    have n1 := sqx_some I hK hq1 hf
    have n2 := sqx_some I hK hq2 hf
    simp only [List.mem_cons, List.not_mem_nil, or_false, not_or] at n1 n2
    subst hP hw hK
    obtain ⟨its1, rv1, src1⟩ := sqx_src I hq1 s1
    obtain ⟨its2, rv2, src2⟩ := sqx_src I hq2 s2
    have e1 := rv1.length; have e2 := rv2.length
    have AP : ZipApart z TI TO i1 i2 l1 l2 := ⟨D.a1, D.a2, D.a3, D.a4, D.a5, D.a6, D.a7, D.a8, D.a9, D.a10, n1.1, n1.2.2.1, n1.2.2.2.1, n1.2.2.2.2, n2.1, n2.2.2.1, n2.2.2.2.1, n2.2.2.2.2⟩
    refine pyNext_zip_end (I.ok.hd hc) AP hz hTI hTO src1 src2 (hend.imp (fun h => by simp; omega) fun h => by simp; omega) fun h' kp => ⟨rfl, turnedAll (t' := s.toks) I hf fun a o na q => ?_⟩
    simp only [List.mem_cons, List.not_mem_nil, or_false, not_or] at na
    exact kp a o na.1 na.2.2.1 na.2.2.2.1 na.2.2.2.2 q
  self := fun _ _ _ _ _ st h => wpAny_pyIter_zip st.1 h
theorem itOk_zip {K : PySem.W.Frag} {O : AP'} {H1 : Hp} {a1 a2 : Addr} {xs ys : List V} {ds es : List D} {b1 b2 : Bool} (q1 : if b1 = true then SqLO K H1 O a1 xs else SqTO K H1 O a1 xs) (r1 : RepL K H1 O ds xs) (q2 : if b2 = true then SqLO K H1 O a2 ys else SqTO K H1 O a2 ys) (r2 : RepL K H1 O es ys) :
    ItOk K (ItZ b1 b2 K a1 a2) ((ds.zip es).map fun p => .tup [p.1, p.2]) O H1 := by
  have sq : ∀ {b : Bool} {a : Addr} {xs : List V}, (if b = true then SqLO K H1 O a xs else SqTO K H1 O a xs) → ∀ Hi, (∀ a o, H1 a = some o → ¬ O a → Hi a = some o) → SqX b K Hi a xs := fun {b a xs} q Hi hp => by
    cases b with
    | true => exact (SqLO.mono (O' := O) q hp (fun _ _ z => z)).sq
    | false => exact (SqTO.mono (O' := O) q hp (fun _ _ z => z)).sq
  refine ⟨fun i d Hi hd hp => ?_, fun i Hi hi hp => ⟨xs, ys, sq q1 Hi hp, sq q2 Hi hp, by rw [r1.length, r2.length]; simp at hi; omega⟩⟩
  rw [List.getElem?_map] at hd
  obtain ⟨⟨d1, d2⟩, h1, h2⟩ := map_some' hd
  obtain ⟨h3, h4⟩ := List.getElem?_zip_eq_some.mp h1
  obtain ⟨x, hx, rx⟩ := r1.get h3
  obtain ⟨y, hy, ry⟩ := r2.get h4
  refine ⟨⟨xs, ys, x, y, sq q1 Hi hp, sq q2 Hi hp, hx, hy⟩, fun v H' hy' => ?_⟩
  obtain ⟨T, u, w, rfl, hT, rfl, hz⟩ := hy'
  obtain ⟨g1, g2⟩ := hz xs ys (sq q1 Hi hp) (sq q2 Hi hp)
  rw [hx] at g1; cases g1
  rw [hy] at g2; cases g2
  have ext := upd_ext (o := .tup [x, y]) hT
  refine ⟨ext, fun O' h1 h2' => ?_⟩
  subst h2
  exact Rep.mkTup ⟨upd_same, h2' T hT⟩ (RepL.cons (Rep.mono (fun b o e n => ext b o (hp b o e n)) (fun b hb z => h1 b hb z) rx) (RepL.cons (Rep.mono (fun b o e n => ext b o (hp b o e n)) (fun b hb z => h1 b hb z) ry) RepL.nil))
section
variable {X : Cx} {elts : List Expr} {k1 : Nat} {tpos : Pos}
theorem bt_zip : bootBuiltins "zip" = some (.type "zip") := by decide +kernel
def iZip (K : PySem.W.Frag) (ta : TA) : TI := fun σ H R => ta σ H fun vs H1 => ∃ b1 b2 l1 l2 xs ys, vs = [.ref l1, .ref l2] ∧ SqX b1 K H1 l1 xs ∧ SqX b2 K H1 l2 ys ∧ R (ItZ b1 b2 K l1 l2) H1
theorem itx_src {b : Bool} {pins : List (Addr × Obj)} {σ : L2.St} {H : Hp} {s : Shared} {l it : Addr} {xs : List V} {its : Array Value} {i : Nat} (I : Inv X pins σ H s) (hq : SqX b X.K H l xs) (src : Src s.heap it l i its) : ItX b s.heap it l i := by
  cases b with
  | true =>
    rcases src with ⟨a, _⟩ | ⟨_, o, h1, h2, _⟩
    · exact a
    · obtain ⟨_, _, p, _⟩ := I.list hq
      obtain ⟨o', g1, g2, _⟩ := p.isList
      rw [h1] at g1; cases g1; rw [h2] at g2; injection g2 with g2; exact absurd g2 (by decide)
  | false =>
    rcases src with ⟨_, o, h1, h2, _⟩ | ⟨a, _⟩
    · obtain ⟨_, _, p, _⟩ := I.tuple hq
      obtain ⟨o', g1, g2, _⟩ := p
      rw [h1] at g1; cases g1; rw [h2] at g2; injection g2 with g2; exact absurd g2 (by decide)
    · exact a
theorem pi_zip {a b : Expr} {ta : TA} {p pos : Pos} (hg : Gl X "zip") (hm : X.mg "zip" = none) (ha : PA X [a, b] ta) (hs : starEach [a, b] X.env = (false, eval a X.env) :: starEach [b] X.env) (hpl : (backTo pos (starEach [b] X.env)).any (·.1) = false) :
    PI X (.Tuple elts k1 tpos) (.Call (.Name "zip" p) [a, b] [] pos) (iZip X.K ta) := by
  intro pins s0 σ H0 R I0 h
  refine wpAny_Call_Name_kw (ld_blt I0 hg hm bt_zip (PyProof.Rows.callWith_type1 (thn (ha pos pins s0 σ H0 _ I0 h) fun us s ⟨vs, H, I, r1, b1, b2, l1, l2, xs, ys, hv, hq1, hq2, q⟩ => ?_) hs hpl))
  subst hv
  obtain ⟨u, v, rfl, ru, rv⟩ := vals2 r1
  cases ru; cases rv
  obtain ⟨its1, _, hl1⟩ := sqx_is I hq1
  obtain ⟨its2, _, hl2⟩ := sqx_is I hq2
  refine callType_new F.called_zip (by decide) (F.typeCall_zip_2 _ _) (F.newCall_zip_2 _ _) (fun obj => F.args_object_init_3 obj _ _) F.entry_zip_new (zip_new l1 l2 its1.toArray its2.toArray) ⟨hl1, hl2, fun h1 h2 c1 z1 k1 c2 z2 k2 => ?_⟩
  generalize ho3 : ({ cls := .type "tuple", data := .seq #[.ref s.heap.objs.size, .ref h1.objs.size] } : Obj) = o3
  generalize ho4 : ({ cls := .type "tuple", data := .seq #[.none, .none] } : Obj) = o4
  have z3 : (h2.push o3).objs.size = h2.objs.size + 1 := Heap.size_push ..
  have z4 : ((h2.push o3).push o4).objs.size = h2.objs.size + 2 := by rw [Heap.size_push, z3]
  generalize ho5 : ({ cls := .type "zip", data := .fields #[.none, .bool false, .bool false, .ref h2.objs.size, .ref (h2.push o3).objs.size] } : Obj) = o5
  have g5 : (((h2.push o3).push o4).push o5).get? ((h2.push o3).push o4).objs.size = some o5 := Heap.get?_push_size _ (by rw [← ho5]; rfl)
  have g4 : (((h2.push o3).push o4).push o5).get? (h2.push o3).objs.size = some o4 := Heap.get?_push_of_some _ (Heap.get?_push_size _ (by rw [← ho4]; rfl))
  have g3 : (((h2.push o3).push o4).push o5).get? h2.objs.size = some o3 := Heap.get?_push_of_some _ (Heap.get?_push_of_some _ (Heap.get?_push_size _ (by rw [← ho3]; rfl)))
  have kp : ∀ c o, h2.get? c = some o → (((h2.push o3).push o4).push o5).get? c = some o := fun c o e => Heap.get?_push_of_some _ (Heap.get?_push_of_some _ (Heap.get?_push_of_some _ e))
  have hzip : IsZip (((h2.push o3).push o4).push o5) ((h2.push o3).push o4).objs.size h2.objs.size (h2.push o3).objs.size .none := by show _ = _; rw [g5, ← ho5]
  have hTI : IsPair (((h2.push o3).push o4).push o5) h2.objs.size (.ref s.heap.objs.size) (.ref h1.objs.size) := by show _ = _; rw [g3, ← ho3]
  have hTO : IsPair (((h2.push o3).push o4).push o5) (h2.push o3).objs.size .none .none := by show _ = _; rw [g4, ← ho4]
  have I1 : Inv X pins σ H { s with heap := ((h2.push o3).push o4).push o5 } := I.kept (t' := s.toks) fun c o e => kp c o (k2 c o (k1 c o e))
  have d1 := c1.keep (h' := ((h2.push o3).push o4).push o5) (fun o e => kp _ o (k2 _ o e)) (fun o e => kp _ o (k2 _ o e))
  have d2 := c2.keep (h' := ((h2.push o3).push o4).push o5) (fun o e => kp _ o e) (fun o e => kp _ o e)
  refine ⟨⟨_, hzip, rfl⟩, wpAny_pyIter_zip (s := { s with heap := ((h2.push o3).push o4).push o5 }) hzip ?_⟩
  refine ⟨((h2.push o3).push o4).objs.size, [((h2.push o3).push o4).objs.size, h2.objs.size, (h2.push o3).objs.size, s.heap.objs.size, h1.objs.size], _, _, H, rfl, I1, turn_zip b1 b2 _ _ _ _ _ l1 l2 ⟨?_, ?_, ?_, ?_, ?_, ?_, ?_, ?_, ?_, ?_⟩, ⟨hzip, hTI, ⟨_, _, hTO⟩, itx_src I1 hq1 d1, itx_src I1 hq2 d2⟩, fun a ha => ?_, q⟩
  · rw [z4]; exact Nat.ne_of_lt (Nat.lt_add_of_pos_right (by decide))
  · rw [z4, z3]; exact Nat.ne_of_lt (Nat.lt_succ_self _)
  · rw [z4, z2, z1]; exact Nat.ne_of_lt (by have : s.heap.objs.size < s.heap.objs.size + 1 + 1 + 2 := by omega
                                            exact this)
  · rw [z4, z2]; exact Nat.ne_of_lt (by have : h1.objs.size < h1.objs.size + 1 + 2 := by omega
                                        exact this)
  · rw [z3]; exact Nat.ne_of_lt (Nat.lt_succ_self _)
  · rw [z2, z1]; exact Nat.ne_of_gt (by have : s.heap.objs.size < s.heap.objs.size + 1 + 1 := by omega
                                        exact this)
  · rw [z2]; exact Nat.ne_of_gt (Nat.lt_succ_self _)
  · rw [z3, z2, z1]; exact Nat.ne_of_gt (by have : s.heap.objs.size < s.heap.objs.size + 1 + 1 + 1 := by omega
                                            exact this)
  · rw [z3, z2]; exact Nat.ne_of_gt (by have : h1.objs.size < h1.objs.size + 1 + 1 := by omega
                                        exact this)
  · rw [z1]; exact Nat.ne_of_lt (Nat.lt_succ_self _)
  · have le : s.heap.objs.size ≤ a := by
      simp only [List.mem_cons, List.not_mem_nil, or_false] at ha
      rcases ha with rfl | rfl | rfl | rfl | rfl
      · rw [z4, z2, z1]; have : s.heap.objs.size ≤ s.heap.objs.size + 1 + 1 + 2 := by omega
        exact this
      · rw [z2, z1]; have : s.heap.objs.size ≤ s.heap.objs.size + 1 + 1 := by omega
        exact this
      · rw [z3, z2, z1]; have : s.heap.objs.size ≤ s.heap.objs.size + 1 + 1 + 1 := by omega
        exact this
      · exact Nat.le_refl _
      · rw [z1]; exact Nat.le_succ _
    exact I.fpOk le (I.hok.fresh le)
def seqOf : D → Option (List D)
  | .tup l => some l
  | .lst l => some l
  | _ => none
def itZip (f g : F) : FIt := fun δ => (f δ).bind fun p => (g p.2).bind fun q => (seqOf p.1.1).bind fun l => (seqOf q.1.1).bind fun m => some ((l.zip m).map fun p => .tup [p.1, p.2], q.2)
theorem seqOf_rep {K H} {O : AP'} {d : D} {l : List D} {v : V} (h : seqOf d = some l) (r : Rep K H O d v) : ∃ b a xs, v = .ref a ∧ (if b = true then SqLO K H O a xs else SqTO K H O a xs) ∧ RepL K H O l xs := by
  cases d with
  | tup m => cases h; obtain ⟨a, xs, rfl, q, rr⟩ := r.tup; exact ⟨false, a, xs, rfl, q, rr⟩
  | lst m => cases h; obtain ⟨a, xs, rfl, q, rr⟩ := r.lst; exact ⟨true, a, xs, rfl, q, rr⟩
  | _ => cases h
theorem sqx_of {K H} {O : AP'} {b : Bool} {a : Addr} {xs : List V} (q : if b = true then SqLO K H O a xs else SqTO K H O a xs) : SqX b K H a xs := by
  cases b with
  | true => exact SqLO.sq q
  | false => exact SqTO.sq q
theorem pix_zip {a b : Expr} {f g : F} {p pos : Pos} (hg : Gl X "zip") (hm : X.mg "zip" = none) (ha : PX X a f) (hb : PX X b g) (hs : starEach [a, b] X.env = (false, eval a X.env) :: starEach [b] X.env) (hs2 : starEach [b] X.env = (false, eval b X.env) :: starEach [] X.env) (hpl : (backTo pos (starEach [b] X.env)).any (·.1) = false) :
    PIX X (.Tuple elts k1 tpos) (.Call (.Name "zip" p) [a, b] [] pos) (itZip f g) := PI.imp' (pi_zip hg hm (pa_consX (PX.po ha) (pa_consX (PX.po hb) pa_nilX hs2) hs) hs hpl) fun σ H R hw => by
  obtain ⟨δ, T, ds, δ', E, e, k⟩ := hw
  obtain ⟨⟨r1, δ1⟩, h1, e⟩ := bind_some' e
  obtain ⟨⟨r2, δ2⟩, h2, e⟩ := bind_some' e
  obtain ⟨l, h3, e⟩ := bind_some' e
  obtain ⟨m, h4, e⟩ := bind_some' e
  obtain ⟨rfl, rfl⟩ := some_pair e
  refine ⟨δ, T, [.val r1, .val r2], δ2, E, ?_, fun vs H1 T1 B => ?_⟩
  · simp only [fArgs, oVal, h1, h2, Option.bind]
  · have hl := B.len
    match vs, hl with
    | [v, u], _ =>
      obtain ⟨b1, a1, xs, rfl, q1, rr1⟩ := seqOf_rep h3 (B.rep E (j := 0) rfl rfl)
      obtain ⟨b2, a2, ys, rfl, q2, rr2⟩ := seqOf_rep h4 (B.rep E (j := 1) rfl rfl)
      exact ⟨b1, b2, a1, a2, xs, ys, rfl, sqx_of q1, sqx_of q2, k _ H1 B.keep (B.er.mono (fun _ _ e _ => e) (fun b _ z => B.tt b z) (fun a z => B.er.dom a (B.tt a z))) (itOk_zip q1 rr1 q2 rr2)⟩
end
end PX
set_option Elab.async false
set_option linter.all false
set_option maxRecDepth 100000
set_option maxHeartbeats 4000000
namespace TS
open PySem PyProof.Rows
section
variable (M : Model) (A : Around) (E : Value → Shared → Prop) (G : Shared → Prop) {σ : Type}
def wpI {α : Type} (m : StateT σ Sem α) (Q : α → σ → Prop) (st : σ) : Prop := ∀ s, G s → wpAny M A (m.run st) (fun r s' => G s' ∧ Q r.1 r.2) E s
variable {M A E G}
theorem wpI_pure {α : Type} {a : α} {Q : α → σ → Prop} {st : σ} (h : Q a st) : wpI M A E G (pure a : StateT σ Sem α) Q st := fun s g => by rw [StateT.run_pure]; exact wpAny_pure ⟨g, h⟩
theorem wpI_bind {α β : Type} {m : StateT σ Sem α} {f : α → StateT σ Sem β} {Q : β → σ → Prop} {st : σ} (h : wpI M A E G m (fun a st' => wpI M A E G (f a) Q st') st) : wpI M A E G (m >>= f) Q st := fun s g => by
  rw [StateT.run_bind]
  exact wpAny_bind (wpAny_mono (h s g) (fun r s' h' => h'.2 s' h'.1) fun _ _ e => e)
theorem wpI_mono {α : Type} {m : StateT σ Sem α} {Q Q' : α → σ → Prop} {st : σ} (h : wpI M A E G m Q st) (hq : ∀ a st', Q a st' → Q' a st') : wpI M A E G m Q' st := fun s g => wpAny_mono (h s g) (fun r _ h' => ⟨h'.1, hq _ _ h'.2⟩) fun _ _ e => e
theorem wpI_get {Q : σ → σ → Prop} {st : σ} (h : Q st st) : wpI M A E G (get : StateT σ Sem σ) Q st := fun s g => by rw [StateT.run_get]; exact wpAny_pure ⟨g, h⟩
theorem wpI_modify {f : σ → σ} {Q : PUnit → σ → Prop} {st : σ} (h : Q ⟨⟩ (f st)) : wpI M A E G (modify f : StateT σ Sem PUnit) Q st := fun s g => by rw [StateT.run_modify]; exact wpAny_pure ⟨g, h⟩
theorem wpI_lift {α : Type} {m : Sem α} {Q : α → σ → Prop} {st : σ} (h : ∀ s, G s → wpAny M A m (fun a s' => G s' ∧ Q a st) E s) : wpI M A E G (liftM m : StateT σ Sem α) Q st := fun s g => by
  show wpAny M A ((StateT.lift m : StateT σ Sem α).run st) _ E s
  rw [StateT.run_lift]
  exact wpAny_bind (wpAny_mono (h s g) (fun a s' h' => wpAny_pure h') fun _ _ e => e)
theorem wpI_rule {x : String} {Q : Unit → σ → Prop} {st : σ} (h : Q () st) : wpI M A E G (liftM (rule x) : StateT σ Sem Unit) Q st := wpI_lift fun s g => wpAny_rule ⟨g, h⟩
theorem wpI_list {β : Type} (f : Nat → β → StateT σ Sem (ForInStep β)) (I : List Nat → β → σ → Prop) (Q : β → σ → Prop)
    (hstep : ∀ x rest b st, I (x :: rest) b st → wpI M A E G (f x b) (fun r st' => match r with | .done b' => Q b' st' | .yield b' => I rest b' st') st) (hend : ∀ b st, I [] b st → Q b st) :
    ∀ (l : List Nat) (b : β) (st : σ), I l b st → wpI M A E G (forIn l b f) Q st
  | [], b, st, h => by rw [List.forIn_nil]; exact wpI_pure (hend _ _ h)
  | x :: rest, b, st, h => by
    rw [List.forIn_cons]
    refine wpI_bind (wpI_mono (hstep x rest b st h) fun r st' h' => ?_)
    cases r with
    | done b' => exact wpI_pure h'
    | yield b' => exact wpI_list f I Q hstep hend rest b' st' h'
theorem wpI_range {β : Type} {a b : Nat} {f : Nat → β → StateT σ Sem (ForInStep β)} (I : Nat → β → σ → Prop) {Q : β → σ → Prop}
    (hstep : ∀ i c st, a ≤ i → i < b → I i c st → wpI M A E G (f i c) (fun r st' => match r with | .done c' => Q c' st' | .yield c' => I (i + 1) c' st') st)
    (hend : ∀ c st, I (max a b) c st → Q c st) {c : β} {st : σ} (h : I a c st) : wpI M A E G (forIn [a:b] c f) Q st := by
  rw [Std.Legacy.Range.forIn_eq_forIn_range']
  have hsz : ([a:b] : Std.Legacy.Range).size = b - a := by simp [Std.Legacy.Range.size]
  show wpI M A E G (forIn (List.range' a ([a:b] : Std.Legacy.Range).size 1) c f) Q st
  rw [hsz]
  refine wpI_list f (fun l c st => ∃ i, a ≤ i ∧ i ≤ max a b ∧ l = List.range' i (max a b - i) 1 ∧ I i c st) Q ?_ ?_ _ c st ⟨a, Nat.le_refl _, by omega, by congr 1; omega, h⟩
  · rintro x rest c st ⟨i, hai, hib, hl, hI⟩
    cases hn : max a b - i with
    | zero => rw [hn] at hl; simp at hl
    | succ n =>
      rw [hn, List.range'_succ] at hl
      obtain ⟨rfl, rfl⟩ := List.cons.inj hl
      refine wpI_mono (hstep x c st hai (by omega) hI) fun r st' h' => ?_
      cases r with
      | done c' => exact h'
      | yield c' => exact ⟨x + 1, by omega, by omega, by congr 1; omega, h'⟩
  · rintro c st ⟨i, hai, hib, hl, hI⟩
    have : max a b - i = 0 := by
      cases hn : max a b - i with
      | zero => rfl
      | succ n => rw [hn, List.range'_succ] at hl; cases hl
    have : i = max a b := by omega
    subst this
    exact hend _ _ hI
end
structure Wk (lt : Nat → Nat → Bool) : Prop where
  irr : ∀ i, lt i i = false
  tr : ∀ i j k, lt i j = true → lt j k = true → lt i k = true
  nt : ∀ i j k, lt i k = true → lt i j = true ∨ lt j k = true
def SL (lt : Nat → Nat → Bool) (i j : Nat) : Prop := lt i j = true ∨ (lt j i = false ∧ i < j)
section
variable {lt : Nat → Nat → Bool} (W : Wk lt)
include W
theorem Wk.asym {i j : Nat} (h : lt i j = true) : lt j i = false := by
  cases h2 : lt j i with
  | false => rfl
  | true => have := W.tr _ _ _ h h2; rw [W.irr] at this; cases this
theorem Wk.le_tr {i j k : Nat} (h1 : lt j i = false) (h2 : lt k j = false) : lt k i = false := by
  cases h : lt k i with
  | false => rfl
  | true => rcases W.nt _ j _ h with q | q
            · rw [h2] at q; cases q
            · rw [h1] at q; cases q
theorem Wk.lt_le {i j k : Nat} (h1 : lt i j = true) (h2 : lt k j = false) : lt i k = true := by
  rcases W.nt _ k _ h1 with q | q
  · exact q
  · rw [h2] at q; cases q
theorem Wk.le_lt {i j k : Nat} (h1 : lt j i = false) (h2 : lt j k = true) : lt i k = true := by
  rcases W.nt _ i _ h2 with q | q
  · rw [h1] at q; cases q
  · exact q
theorem SL.trans {i j k : Nat} (h1 : SL lt i j) (h2 : SL lt j k) : SL lt i k := by
  rcases h1 with h1 | ⟨h1, e1⟩ <;> rcases h2 with h2 | ⟨h2, e2⟩
  · exact .inl (W.tr _ _ _ h1 h2)
  · exact .inl (W.lt_le h1 h2)
  · exact .inl (W.le_lt h1 h2)
  · exact .inr ⟨W.le_tr h1 h2, by omega⟩
theorem SL.le {i j : Nat} (h : SL lt i j) : lt j i = false := h.elim W.asym fun h => h.1
theorem SL.asym {i j : Nat} (h1 : SL lt i j) (h2 : SL lt j i) : False := by
  have a := SL.le W h1; have b := SL.le W h2
  rcases h1 with h1 | ⟨_, e1⟩
  · rw [b] at h1; cases h1
  · rcases h2 with h2 | ⟨_, e2⟩
    · rw [a] at h2; cases h2
    · omega
end
def P (p : Array Nat) (k : Nat) : Nat := p.getD k 0
theorem P_eq {p q : Array Nat} {i j : Nat} (h : p[i]? = q[j]?) : P p i = P q j := by
  simp only [P, Array.getD_eq_getD_getElem?, h]
theorem P_get {p : Array Nat} {i : Nat} (h : i < p.size) : p[i]? = some (P p i) := by simp [P, h]
def Up (lt : Nat → Nat → Bool) (p : Array Nat) (a b : Nat) : Prop := ∀ i j, a ≤ i → i < j → j < b → SL lt (P p i) (P p j)
def Dn (lt : Nat → Nat → Bool) (p : Array Nat) (a b : Nat) : Prop := ∀ i j, a ≤ i → i < j → j < b → SL lt (P p j) (P p i)
def Reg (p : Array Nat) (a b : Nat) : Prop := ∀ k, a ≤ k → k < b → a ≤ P p k ∧ P p k < b
section
variable {prog : Program} {w : World} {A : Around} {E : Value → Shared → Prop} {G : Shared → Prop} {it : Nat → Keyed} {lt : Nat → Nat → Bool} {κ : SortKind} {N : Nat}
structure Rp (it : Nat → Keyed) (κ : SortKind) (N : Nat) (st : SortSt) (p : Array Nat) : Prop where
  arr : arrOf st = p.map it
  kind : kindOf st = κ
  ok : failedOf st = none
  size : p.size = N
  perm : p.Perm (Array.range N)
def Ask (prog : Program) (w : World) (A : Around) (E : Value → Shared → Prop) (G : Shared → Prop) (it : Nat → Keyed) (κ : SortKind) (N : Nat) (lt : Nat → Nat → Bool) : Prop :=
  ∀ i j, i < N → j < N → ∀ s, G s → ∀ E', wpAny (model prog w) A (keyLt' κ (it i).1 (it j).1) (fun b s' => G s' ∧ b = lt i j) E' s
theorem Rp.bound {st : SortSt} {p : Array Nat} (R : Rp it κ N st p) {i : Nat} (h : i < N) : P p i < N := by
  have hm : P p i ∈ p.toList := by
    have := P_get (p := p) (i := i) (by rw [R.size]; exact h)
    exact Array.mem_toList_iff.mpr (Array.mem_of_getElem? this)
  have := (Array.perm_iff_toList_perm.mp R.perm).mem_iff.mp hm
  simpa using this
theorem wpI_lt (H : Ask prog w A E G it κ N lt) {st : SortSt} (hk : kindOf st = κ) {i j : Nat} (hi : i < N) (hj : j < N) {Q : Option Bool → SortSt → Prop} (h : Q (some (lt i j)) st) : wpI (model prog w) A E G (lt' (it i) (it j)) Q st := by
  rw [lt'_eq]
  refine wpI_bind (wpI_get ?_)
  rw [hk]
  refine wpI_bind (wpI_lift fun s g => wpAny_attempt (wpAny_mono (H i j hi hj s g fun _ _ => False) (fun b s' hb => ?_) fun e s' he => he.elim))
  obtain ⟨g', rfl⟩ := hb
  exact ⟨g', wpI_pure h⟩
theorem wpI_elem {xs : Array Keyed} {q : Array Nat} (hx : xs = q.map it) {i : Nat} (hi : i < q.size) {st : SortSt} {Q : Keyed → SortSt → Prop} (h : Q (it (P q i)) st) : wpI (model prog w) A E G (elem' xs i) Q st := by
  rw [elem'_eq, hx]
  have : (q.map it)[i]? = some (it (P q i)) := by rw [Array.getElem?_map, P_get hi]; rfl
  rw [this]
  exact wpI_pure h
theorem wpI_ltAt (H : Ask prog w A E G it κ N lt) {st : SortSt} {p : Array Nat} (R : Rp it κ N st p) {i j : Nat} (hi : i < N) (hj : j < N) {Q : Option Bool → SortSt → Prop} (h : Q (some (lt (P p i) (P p j))) st) : wpI (model prog w) A E G (ltAt' i j) Q st := by
  rw [ltAt'_eq]
  refine wpI_bind (wpI_get ?_)
  refine wpI_bind (wpI_elem R.arr (by rw [R.size]; exact hi) (wpI_bind (wpI_elem R.arr (by rw [R.size]; exact hj) ?_)))
  exact wpI_lt H R.kind (R.bound hi) (R.bound hj) h
theorem mirror_map (p : Array Nat) (i j d : Nat) : mirror (p.map it) i j d = (mirror p i j d).map it := PySem.W.kas_swaps_map it _ _ _ _
theorem bubble_map (p : Array Nat) (i d : Nat) : bubble (p.map it) i d = (bubble p i d).map it := PySem.W.kas_swaps_map it _ _ _ _
theorem Rp.mirror {st : SortSt} {p : Array Nat} (R : Rp it κ N st p) (i j d : Nat) : Rp it κ N (setArr st (PyProof.Rows.mirror (arrOf st) i j d)) (PyProof.Rows.mirror p i j d) :=
  ⟨by show PyProof.Rows.mirror (arrOf st) i j d = _; rw [R.arr, mirror_map], R.kind, R.ok, by rw [mirror_size, R.size], (mirror_perm _ _ _ _).trans R.perm⟩
theorem Rp.bubble {st : SortSt} {p : Array Nat} (R : Rp it κ N st p) (i d : Nat) : Rp it κ N (setArr st (PyProof.Rows.bubble (arrOf st) i d)) (PyProof.Rows.bubble p i d) :=
  ⟨by show PyProof.Rows.bubble (arrOf st) i d = _; rw [R.arr, bubble_map], R.kind, R.ok, by rw [bubble_size, R.size], (bubble_perm _ _ _).trans R.perm⟩
theorem wpI_rev {st : SortSt} {i j : Nat} {Q : Unit → SortSt → Prop} (h : Q () (setArr st (mirror (arrOf st) i j ((j - i) / 2)))) : wpI (model prog w) A E G (reverseSlice' i j) Q st := by
  rw [reverseSlice'_eq]; exact wpI_modify h
theorem wpI_move {st : SortSt} {i j : Nat} {Q : Unit → SortSt → Prop} (h : Q () (setArr st (bubble (arrOf st) i (i - j)))) : wpI (model prog w) A E G (moveDown' i j) Q st := by
  rw [moveDown'_eq]; exact wpI_modify h
theorem P_mirror {p : Array Nat} {i j : Nat} (hj : j ≤ p.size) (k : Nat) : P (mirror p i j ((j - i) / 2)) k = if i ≤ k ∧ k < j then P p (i + j - 1 - k) else P p k := by
  have e := getElem?_mirror_all (i := i) hj k
  split at e
  · rename_i h; rw [if_pos h]; exact P_eq e
  · rename_i h; rw [if_neg h]; exact P_eq e
theorem P_bubble {p : Array Nat} {src d : Nat} (hs : src < p.size) (hd : d ≤ src) (k : Nat) : P (bubble p src d) k = if k = src - d then P p src else if src - d < k ∧ k ≤ src then P p (k - 1) else P p k := by
  have e := getElem?_bubble hs d hd k
  split at e
  · rename_i h; rw [if_pos h]; exact P_eq e
  · rename_i h
    rw [if_neg h]
    split at e
    · rename_i h2; rw [if_pos h2]; exact P_eq e
    · rename_i h2; rw [if_neg h2]; exact P_eq e
end
end TS
set_option Elab.async false
set_option linter.all false
set_option maxRecDepth 100000
set_option maxHeartbeats 4000000
namespace TS
open PySem PyProof.Rows
section
variable {prog : Program} {w : World} {A : Around} {E : Value → Shared → Prop} {G : Shared → Prop} {it : Nat → Keyed} {lt : Nat → Nat → Bool} {κ : SortKind} {N : Nat}
theorem Up.mirror {p : Array Nat} {a b : Nat} (h : Up lt p a b) (hb : b ≤ p.size) : Dn lt (PyProof.Rows.mirror p a b ((b - a) / 2)) a b := fun i j h1 h2 h3 => by
  rw [P_mirror hb, P_mirror hb, if_pos ⟨by omega, h3⟩, if_pos ⟨h1, by omega⟩]
  exact h _ _ (by omega) (by omega) (by omega)
theorem Dn.mirror {p : Array Nat} {a b : Nat} (h : Dn lt p a b) (hb : b ≤ p.size) : Up lt (PyProof.Rows.mirror p a b ((b - a) / 2)) a b := fun i j h1 h2 h3 => by
  rw [P_mirror hb, P_mirror hb, if_pos ⟨h1, by omega⟩, if_pos ⟨by omega, h3⟩]
  exact h _ _ (by omega) (by omega) (by omega)
theorem Reg.mirror {p : Array Nat} {a b i j : Nat} (h : Reg p a b) (hj : j ≤ p.size) (h1 : a ≤ i) (h2 : j ≤ b) : Reg (PyProof.Rows.mirror p i j ((j - i) / 2)) a b := fun k h3 h4 => by
  rw [P_mirror hj]
  split
  · exact h _ (by omega) (by omega)
  · exact h _ h3 h4
theorem wpI_asc (W : Wk lt) (H : Ask prog w A E G it κ N lt) {lo nrem a : Nat} (hN : lo + nrem = N) (h1 : 1 ≤ a) (ha : a ≤ nrem) {st : SortSt} {p : Array Nat} (R : Rp it κ N st p) (rg : Reg p lo (lo + a)) (fx : ∀ k, lo + a ≤ k → k < N → P p k = k) (up : Up lt p lo (lo + a)) {Q : Option (Option Nat) × Nat → SortSt → Prop}
    (h : ∀ m, a ≤ m → m ≤ nrem → Reg p lo (lo + m) → Up lt p lo (lo + m) → (m = nrem ∨ lt (P p (lo + m)) (P p (lo + m - 1)) = true) → Q (none, m) st) :
    wpI (model prog w) A E G (forIn [a:nrem] ((none, a) : Option (Option Nat) × Nat) fun _ r => do
      let x ← ltAt' (lo + r.2) (lo + r.2 - 1)
      match x with
      | some smaller => if smaller = true then pure (ForInStep.done (none, r.2)) else pure (ForInStep.yield (none, r.2 + 1))
      | _ => pure (ForInStep.done (some none, r.2))) Q st := by
  refine wpI_range (I := fun x c st' => st' = st ∧ c = (none, x) ∧ Reg p lo (lo + x) ∧ Up lt p lo (lo + x)) ?step ?fin ⟨rfl, rfl, rg, up⟩
  case fin =>
    rintro c st' ⟨rfl, rfl, r1, u1⟩
    rw [show max a nrem = nrem by omega] at r1 u1 ⊢
    exact h nrem ha (Nat.le_refl _) r1 u1 (.inl rfl)
  case step =>
    rintro x c st' hax hxn ⟨rfl, rfl, r1, u1⟩
    refine wpI_bind (wpI_ltAt H R (by omega) (by omega) ?_)
    dsimp only
    cases hl : lt (P p (lo + x)) (P p (lo + x - 1)) with
    | true => simp only [if_true]; exact wpI_pure (h x hax (by omega) r1 u1 (.inr hl))
    | false =>
      simp only [Bool.false_eq_true, if_false]
      have hx : P p (lo + x) = lo + x := fx _ (by omega) (by omega)
      have hlast := r1 (lo + x - 1) (by omega) (by omega)
      have sl : SL lt (P p (lo + x - 1)) (P p (lo + x)) := .inr ⟨hl, by omega⟩
      refine wpI_pure ⟨rfl, rfl, fun k k1 k2 => ?_, fun i j i1 ij j2 => ?_⟩
      · rcases Nat.lt_or_ge k (lo + x) with q | q
        · have := r1 k k1 q; omega
        · have : k = lo + x := by omega
          subst this; omega
      · rcases Nat.lt_or_ge j (lo + x) with q | q
        · exact u1 i j i1 ij q
        · have : j = lo + x := by omega
          subst this
          rcases Nat.lt_or_ge i (lo + x - 1) with q2 | q2
          · exact SL.trans W (u1 i _ i1 q2 (by omega)) sl
          · have : i = lo + x - 1 := by omega
            subst this; exact sl
structure Fall (lt : Nat → Nat → Bool) (p : Array Nat) (lo x q N : Nat) : Prop where
  le : q + 1 ≤ x
  fx : ∀ k, lo + x ≤ k → k < N → P p k = k
  rg : Reg p lo (lo + x)
  dn : Dn lt p lo (lo + x - (q + 1))
  st : ∀ i j, lo ≤ i → i < lo + x - (q + 1) → lo + x - (q + 1) ≤ j → j < lo + x → lt (P p j) (P p i) = true
  eq : ∀ i j, lo + x - (q + 1) ≤ i → i < j → j < lo + x → lt (P p i) (P p j) = false ∧ lt (P p j) (P p i) = false ∧ P p i < P p j
theorem Fall.turn {p : Array Nat} {lo x q : Nat} (F : Fall lt p lo x q N) (hz : lo + x ≤ p.size) : Dn lt (PyProof.Rows.mirror p (lo + x - (q + 1)) (lo + x) ((lo + x - (lo + x - (q + 1))) / 2)) lo (lo + x) := fun i j i1 ij j2 => by
  have hle := F.le
  rw [P_mirror hz, P_mirror hz]
  by_cases hj : lo + x - (q + 1) ≤ j
  · rw [if_pos ⟨hj, j2⟩]
    by_cases hi : lo + x - (q + 1) ≤ i
    · rw [if_pos ⟨hi, by omega⟩]
      obtain ⟨e1, e2, e3⟩ := F.eq (lo + x - (q + 1) + (lo + x) - 1 - j) (lo + x - (q + 1) + (lo + x) - 1 - i) (by omega) (by omega) (by omega)
      exact .inr ⟨e2, e3⟩
    · rw [if_neg (fun z => hi z.1)]
      exact .inl (F.st _ _ i1 (by omega) (by omega) (by omega))
  · rw [if_neg (fun z => hj z.1), if_neg (fun z => by omega)]
    exact F.dn i j i1 ij (by omega)
theorem Fall.flat {p : Array Nat} {lo x : Nat} (F : Fall lt p lo x 0 N) : Dn lt p lo (lo + x) := fun i j i1 ij j2 => by
  have hle := F.le
  by_cases hj : lo + x - 1 ≤ j
  · exact .inl (F.st i j i1 (by omega) (by omega) (by omega))
  · exact F.dn i j i1 ij (by omega)
def Ran (it : Nat → Keyed) (lt : Nat → Nat → Bool) (κ : SortKind) (N lo nrem : Nat) (p0 : Array Nat) (st0 : SortSt) (Q : Option Nat → SortSt → Prop) : Prop :=
  ∀ n st p, Rp it κ N st p → pendingOf st = pendingOf st0 → 1 ≤ n → n ≤ nrem → (∀ k, k < lo → P p k = P p0 k) → (∀ k, lo + n ≤ k → k < N → P p k = k) → Reg p lo (lo + n) → Up lt p lo (lo + n) → Q (some n) st
theorem wpI_desc (W : Wk lt) (H : Ask prog w A E G it κ N lt) {lo nrem n : Nat} (hN : lo + nrem = N) (hn : n ≤ nrem) {st : SortSt} {p : Array Nat} (R : Rp it κ N st p) (F : Fall lt p lo n 0 N) {Q : Option (Option Nat) × Nat × Nat → SortSt → Prop}
    (h : ∀ x q st' p', Rp it κ N st' p' → pendingOf st' = pendingOf st → n ≤ x → x ≤ nrem → (∀ k, k < lo → P p' k = P p k) → Fall lt p' lo x q N → Q (none, x, q) st') :
    wpI (model prog w) A E G (forIn [n:nrem] ((none, n, 0) : Option (Option Nat) × Nat × Nat) fun _ r => do
      let x ← ltAt' (lo + r.2.1) (lo + r.2.1 - 1)
      match x with
      | some smaller =>
        if smaller = true then
          if r.2.2 > 0 then do
            reverseSlice' (lo + r.2.1 - (r.2.2 + 1)) (lo + r.2.1)
            pure (ForInStep.yield (none, r.2.1 + 1, 0))
          else pure (ForInStep.yield (none, r.2.1 + 1, 0))
        else do
          let x ← ltAt' (lo + r.2.1 - 1) (lo + r.2.1)
          match x with
          | some larger => if larger = true then pure (ForInStep.done (none, r.2.1, r.2.2)) else pure (ForInStep.yield (none, r.2.1 + 1, r.2.2 + 1))
          | _ => pure (ForInStep.done (some none, r.2.1, r.2.2))
      | _ => pure (ForInStep.done (some none, r.2.1, r.2.2))) Q st := by
  refine wpI_range (I := fun x c st' => ∃ q p', c = (none, x, q) ∧ Rp it κ N st' p' ∧ pendingOf st' = pendingOf st ∧ (∀ k, k < lo → P p' k = P p k) ∧ Fall lt p' lo x q N) ?step ?fin ⟨0, p, rfl, R, rfl, fun _ _ => rfl, F⟩
  case fin =>
    rintro c st' ⟨q, p', rfl, R', e', f', F'⟩
    rw [show max n nrem = nrem by omega] at F' ⊢
    exact h nrem q st' p' R' e' hn (Nat.le_refl _) f' F'
  case step =>
    rintro x c st' hax hxn ⟨q, p', rfl, R', e', f', F'⟩
    have hle := F'.le
    have hx : P p' (lo + x) = lo + x := F'.fx _ (by omega) (by omega)
    dsimp only
    refine wpI_bind (wpI_ltAt H R' (by omega) (by omega) ?_)
    dsimp only
    have next : lt (P p' (lo + x)) (P p' (lo + x - 1)) = true → ∀ i, lo ≤ i → i < lo + x → lt (P p' (lo + x)) (P p' i) = true := fun hl i i1 i2 => by
      by_cases hi : lo + x - (q + 1) ≤ i
      · by_cases hi2 : i = lo + x - 1
        · subst hi2; exact hl
        · exact W.lt_le hl (F'.eq i (lo + x - 1) hi (by omega) (by omega)).1
      · exact W.tr _ _ _ hl (F'.st i (lo + x - 1) i1 (by omega) (by omega) (by omega))
    have grow : ∀ p2 : Array Nat, (∀ k, ¬ (lo ≤ k ∧ k < lo + x) → P p2 k = P p' k) → (∀ i, lo ≤ i → i < lo + x → ∃ j, lo ≤ j ∧ j < lo + x ∧ P p2 i = P p' j) → Dn lt p2 lo (lo + x) → lt (P p' (lo + x)) (P p' (lo + x - 1)) = true → Fall lt p2 lo (x + 1) 0 N := fun p2 h1 h2 h3 hl => by
      refine ⟨by omega, fun k k1 k2 => by rw [h1 k (by omega)]; exact F'.fx k (by omega) k2, fun k k1 k2 => ?_, ?_, fun i j i1 i2 j1 j2 => ?_, fun i j i1 i2 j2 => by omega⟩
      · by_cases hk : k < lo + x
        · obtain ⟨j, j1, j2, e⟩ := h2 k k1 hk
          have := F'.rg j j1 j2
          omega
        · have : k = lo + x := by omega
          subst this
          rw [h1 _ (by omega), hx]; omega
      · rw [show lo + (x + 1) - (0 + 1) = lo + x by omega]; exact h3
      · have : j = lo + x := by omega
        subst this
        rw [h1 (lo + x) (by omega)]
        obtain ⟨j, j1, j2, e⟩ := h2 i i1 (by omega)
        rw [e]
        exact next hl j j1 j2
    cases hl : lt (P p' (lo + x)) (P p' (lo + x - 1)) with
    | true =>
      simp only [if_true]
      have hz : lo + x ≤ p'.size := by rw [R'.size]; omega
      by_cases hq : q > 0
      · rw [if_pos hq]
        refine wpI_bind (wpI_rev (wpI_pure ⟨0, _, rfl, R'.mirror _ _ _, e', fun k hk => ?_, grow _ (fun k hk => ?_) (fun i i1 i2 => ?_) (F'.turn hz) hl⟩))
        · rw [P_mirror hz, if_neg (by omega)]; exact f' k hk
        · rw [P_mirror hz, if_neg (by omega)]
        · rw [P_mirror hz]
          split
          · exact ⟨_, by omega, by omega, rfl⟩
          · exact ⟨i, i1, i2, rfl⟩
      · rw [if_neg hq]
        have : q = 0 := by omega
        subst this
        exact wpI_pure ⟨0, p', rfl, R', e', f', grow p' (fun _ _ => rfl) (fun i i1 i2 => ⟨i, i1, i2, rfl⟩) F'.flat hl⟩
    | false =>
      simp only [Bool.false_eq_true, if_false]
      refine wpI_bind (wpI_ltAt H R' (by omega) (by omega) ?_)
      dsimp only
      cases hl2 : lt (P p' (lo + x - 1)) (P p' (lo + x)) with
      | true => simp only [if_true]; exact wpI_pure (h x q st' p' R' e' hax (by omega) f' F')
      | false =>
        simp only [Bool.false_eq_true, if_false]
        have hlast := F'.rg (lo + x - 1) (by omega) (by omega)
        have same : ∀ i, lo + x - (q + 1) ≤ i → i < lo + x → lt (P p' i) (P p' (lo + x)) = false ∧ lt (P p' (lo + x)) (P p' i) = false := fun i i1 i2 => by
          by_cases hi : i = lo + x - 1
          · subst hi; exact ⟨hl2, hl⟩
          · obtain ⟨e1, e2, _⟩ := F'.eq i (lo + x - 1) i1 (by omega) (by omega)
            exact ⟨W.le_tr hl2 e1, W.le_tr e2 hl⟩
        refine wpI_pure ⟨q + 1, p', rfl, R', e', f', by omega, fun k k1 k2 => F'.fx k (by omega) k2, fun k k1 k2 => ?_, ?_, fun i j i1 i2 j1 j2 => ?_, fun i j i1 ij j2 => ?_⟩
        · by_cases hk : k < lo + x
          · have := F'.rg k k1 hk; omega
          · have : k = lo + x := by omega
            subst this; omega
        · rw [show lo + (x + 1) - (q + 1 + 1) = lo + x - (q + 1) by omega]; exact F'.dn
        · by_cases hj : j < lo + x
          · exact F'.st i j i1 (by omega) (by omega) hj
          · have : j = lo + x := by omega
            subst this
            have := F'.st i (lo + x - 1) i1 (by omega) (by omega) (by omega)
            exact W.le_lt hl2 this
        · by_cases hj : j < lo + x
          · exact F'.eq i j (by omega) ij hj
          · have : j = lo + x := by omega
            subst this
            obtain ⟨e1, e2⟩ := same i (by omega) (by omega)
            have := F'.rg i (by omega) (by omega)
            exact ⟨e1, e2, by omega⟩
end
end TS
set_option Elab.async false
set_option linter.all false
set_option maxRecDepth 100000
set_option maxHeartbeats 4000000
namespace TS
open PySem PyProof.Rows
section
variable {prog : Program} {w : World} {A : Around} {E : Value → Shared → Prop} {G : Shared → Prop} {it : Nat → Keyed} {lt : Nat → Nat → Bool} {κ : SortKind} {N : Nat}
def ascL (lo a nrem : Nat) : StateT SortSt Sem (Option (Option Nat) × Nat) := forIn [a:nrem] ((none, a) : Option (Option Nat) × Nat) fun _ r => do
      let x ← ltAt' (lo + r.2) (lo + r.2 - 1)
      match x with
      | some smaller => if smaller = true then pure (ForInStep.done (none, r.2)) else pure (ForInStep.yield (none, r.2 + 1))
      | _ => pure (ForInStep.done (some none, r.2))
def descL (lo n nrem : Nat) : StateT SortSt Sem (Option (Option Nat) × Nat × Nat) := forIn [n:nrem] ((none, n, 0) : Option (Option Nat) × Nat × Nat) fun _ r => do
      let x ← ltAt' (lo + r.2.1) (lo + r.2.1 - 1)
      match x with
      | some smaller =>
        if smaller = true then
          if r.2.2 > 0 then do
            reverseSlice' (lo + r.2.1 - (r.2.2 + 1)) (lo + r.2.1)
            pure (ForInStep.yield (none, r.2.1 + 1, 0))
          else pure (ForInStep.yield (none, r.2.1 + 1, 0))
        else do
          let x ← ltAt' (lo + r.2.1 - 1) (lo + r.2.1)
          match x with
          | some larger => if larger = true then pure (ForInStep.done (none, r.2.1, r.2.2)) else pure (ForInStep.yield (none, r.2.1 + 1, r.2.2 + 1))
          | _ => pure (ForInStep.done (some none, r.2.1, r.2.2))
      | _ => pure (ForInStep.done (some none, r.2.1, r.2.2))
def endC (lo n nrem : Nat) : StateT SortSt Sem (Option Nat) := do
  reverseSlice' lo (lo + n)
  let r ← ascL lo n nrem
  match r.1 with
  | some r => pure r
  | none => pure (some r.2)
def fallC (lo n nrem : Nat) : StateT SortSt Sem (Option Nat) := do
  liftM (rule "list.sort.descending-run")
  let r ← descL lo (n + 1) nrem
  match r.1 with
  | some r => pure r
  | none =>
    if r.2.2 > 0 then do
      reverseSlice' (lo + r.2.1 - (r.2.2 + 1)) (lo + r.2.1)
      endC lo r.2.1 nrem
    else endC lo r.2.1 nrem
theorem countRun_eq (lo nrem : Nat) : countRun' lo nrem = (do
    let r ← ascL lo 1 nrem
    match r.1 with
    | some r => pure r
    | none =>
      if (r.2 == nrem) = true then pure (some r.2)
      else if r.2 > 1 then do
        let x ← ltAt' lo (lo + r.2 - 1)
        match x with
        | some rose => if rose = true then pure (some r.2) else do
            reverseSlice' lo (lo + r.2)
            fallC lo r.2 nrem
        | _ => pure none
      else fallC lo r.2 nrem) := by
  rw [countRun'_eq]
  dsimp only
  unfold ascL
  congr 1
  funext r
  obtain ⟨r, n⟩ := r
  cases r with
  | some r => rfl
  | none =>
    dsimp only
    by_cases h1 : (n == nrem) = true
    · rw [if_pos h1, if_pos h1]
    · rw [if_neg h1, if_neg h1]
      by_cases h2 : n > 1
      · rw [if_pos h2, if_pos h2]
        congr 1
        funext x
        cases x with
        | none => rfl
        | some rose =>
          dsimp only
          cases rose with
          | true => rfl
          | false =>
            simp only [Bool.false_eq_true, if_false]
            congr 1
            funext _
            unfold fallC descL
            congr 1
            funext _
            congr 1
            funext r2
            obtain ⟨r2, n2, q2⟩ := r2
            cases r2 with
            | some r => rfl
            | none =>
              dsimp only
              by_cases h3 : q2 > 0
              · rw [if_pos h3, if_pos h3]
                congr 1
                funext _
                unfold endC ascL
                congr 1
                funext _
                congr 1
                funext r3
                obtain ⟨r3, n3⟩ := r3
                cases r3 <;> rfl
              · rw [if_neg h3, if_neg h3]
                unfold endC ascL
                congr 1
                funext _
                congr 1
                funext r3
                obtain ⟨r3, n3⟩ := r3
                cases r3 <;> rfl
      · rw [if_neg h2, if_neg h2]
        unfold fallC descL
        congr 1
        funext _
        congr 1
        funext r2
        obtain ⟨r2, n2, q2⟩ := r2
        cases r2 with
        | some r => rfl
        | none =>
          dsimp only
          by_cases h3 : q2 > 0
          · rw [if_pos h3, if_pos h3]
            congr 1
            funext _
            unfold endC ascL
            congr 1
            funext _
            congr 1
            funext r3
            obtain ⟨r3, n3⟩ := r3
            cases r3 <;> rfl
          · rw [if_neg h3, if_neg h3]
            unfold endC ascL
            congr 1
            funext _
            congr 1
            funext r3
            obtain ⟨r3, n3⟩ := r3
            cases r3 <;> rfl
theorem wpI_end (W : Wk lt) (H : Ask prog w A E G it κ N lt) {lo nrem n : Nat} (hN : lo + nrem = N) (h1 : 1 ≤ n) (hn : n ≤ nrem) {st st0 : SortSt} {p p0 : Array Nat} (R : Rp it κ N st p) (e0 : pendingOf st = pendingOf st0) (f0 : ∀ k, k < lo → P p k = P p0 k) (fx : ∀ k, lo + n ≤ k → k < N → P p k = k) (rg : Reg p lo (lo + n)) (dn : Dn lt p lo (lo + n))
    {Q : Option Nat → SortSt → Prop} (h : Ran it lt κ N lo nrem p0 st0 Q) : wpI (model prog w) A E G (endC lo n nrem) Q st := by
  unfold endC
  have hz : lo + n ≤ p.size := by rw [R.size]; omega
  have out : ∀ k, ¬ (lo ≤ k ∧ k < lo + n) → P (PyProof.Rows.mirror p lo (lo + n) ((lo + n - lo) / 2)) k = P p k := fun k hk => by rw [P_mirror hz, if_neg hk]
  refine wpI_bind (wpI_rev ?_)
  have R1 := R.mirror lo (lo + n) ((lo + n - lo) / 2)
  refine wpI_bind (wpI_asc W H hN h1 hn R1 (rg.mirror hz (Nat.le_refl _) (Nat.le_refl _)) (fun k k1 k2 => by rw [out k (by omega)]; exact fx k k1 k2) (dn.mirror hz) fun m m1 m2 rg' up' _ => ?_)
  exact wpI_pure (h m _ _ R1 e0 (by omega) m2 (fun k hk => by rw [out k (by omega)]; exact f0 k hk) (fun k k1 k2 => by rw [out k (by omega)]; exact fx k (by omega) k2) rg' up')
theorem wpI_fall (W : Wk lt) (H : Ask prog w A E G it κ N lt) {lo nrem n : Nat} (hN : lo + nrem = N) (hn : n + 1 ≤ nrem) {st st0 : SortSt} {p p0 : Array Nat} (R : Rp it κ N st p) (e0 : pendingOf st = pendingOf st0) (f0 : ∀ k, k < lo → P p k = P p0 k) (F : Fall lt p lo (n + 1) 0 N)
    {Q : Option Nat → SortSt → Prop} (h : Ran it lt κ N lo nrem p0 st0 Q) : wpI (model prog w) A E G (fallC lo n nrem) Q st := by
  unfold fallC
  refine wpI_bind (wpI_rule (wpI_bind (wpI_desc W H hN hn R F fun x q st' p' R' e' x1 x2 f' F' => ?_)))
  dsimp only
  have hle := F'.le
  have hz : lo + x ≤ p'.size := by rw [R'.size]; omega
  by_cases hq : q > 0
  · rw [if_pos hq]
    refine wpI_bind (wpI_rev (wpI_end W H hN (by omega) x2 (R'.mirror _ _ _) (e'.trans e0) (fun k hk => ?_) (fun k k1 k2 => ?_) (F'.rg.mirror hz (by omega) (Nat.le_refl _)) (F'.turn hz) h))
    · rw [P_mirror hz, if_neg (by omega)]; exact (f' k hk).trans (f0 k hk)
    · rw [P_mirror hz, if_neg (by omega)]; exact F'.fx k k1 k2
  · rw [if_neg hq]
    have : q = 0 := by omega
    subst this
    exact wpI_end W H hN (by omega) x2 R' (e'.trans e0) (fun k hk => (f' k hk).trans (f0 k hk)) F'.fx F'.rg F'.flat h
theorem wpI_count (W : Wk lt) (H : Ask prog w A E G it κ N lt) {lo nrem : Nat} (hN : lo + nrem = N) (h1 : 1 ≤ nrem) {st : SortSt} {p : Array Nat} (R : Rp it κ N st p) (fx : ∀ k, lo ≤ k → k < N → P p k = k) {Q : Option Nat → SortSt → Prop} (h : Ran it lt κ N lo nrem p st Q) :
    wpI (model prog w) A E G (countRun' lo nrem) Q st := by
  rw [countRun_eq]
  refine wpI_bind (wpI_asc W H hN (Nat.le_refl _) h1 R (fun k k1 k2 => by rw [fx k k1 (by omega)]; omega) (fun k k1 k2 => fx k (by omega) k2) (fun i j i1 ij j2 => by omega) fun n n1 n2 rg up hl => ?_)
  dsimp only
  by_cases he : (n == nrem) = true
  · rw [if_pos he]
    exact wpI_pure (h n st p R rfl n1 n2 (fun _ _ => rfl) (fun k k1 k2 => fx k (by omega) k2) rg up)
  · rw [if_neg he]
    have hne : n ≠ nrem := fun z => he (by simp [z])
    have hl : lt (P p (lo + n)) (P p (lo + n - 1)) = true := hl.resolve_left hne
    have hx : P p (lo + n) = lo + n := fx _ (by omega) (by omega)
    by_cases hg : n > 1
    · rw [if_pos hg]
      refine wpI_bind (wpI_ltAt H R (by omega) (by omega) ?_)
      dsimp only
      cases hr : lt (P p lo) (P p (lo + n - 1)) with
      | true => simp only [if_true]; exact wpI_pure (h n st p R rfl n1 n2 (fun _ _ => rfl) (fun k k1 k2 => fx k (by omega) k2) rg up)
      | false =>
        simp only [Bool.false_eq_true, if_false]
        have hz : lo + n ≤ p.size := by rw [R.size]; omega
        have out : ∀ k, ¬ (lo ≤ k ∧ k < lo + n) → P (PyProof.Rows.mirror p lo (lo + n) ((lo + n - lo) / 2)) k = P p k := fun k hk => by rw [P_mirror hz, if_neg hk]
        have small : ∀ i, lo ≤ i → i < lo + n → lt (P p (lo + n)) (P p i) = true := fun i i1 i2 => by
          have hi : lt (P p i) (P p (lo + n - 1)) = false := by
            by_cases hi : i = lo
            · subst hi; exact hr
            · exact W.le_tr hr (SL.le W (up lo i (Nat.le_refl _) (by omega) i2)) |> fun z => by
                cases hc : lt (P p i) (P p (lo + n - 1)) with
                | false => rfl
                | true =>
                  have := W.le_lt (SL.le W (up lo i (Nat.le_refl _) (by omega) i2)) hc
                  rw [hr] at this; cases this
          exact W.lt_le hl hi
        refine wpI_bind (wpI_rev (wpI_fall W H hN (by omega) (R.mirror _ _ _) rfl (fun k hk => out k (by omega)) ⟨by omega, fun k k1 k2 => by rw [out k (by omega)]; exact fx k (by omega) k2, fun k k1 k2 => ?_, ?_, fun i j i1 i2 j1 j2 => ?_, fun i j i1 ij j2 => by omega⟩ h))
        · by_cases hk : k < lo + n
          · have := rg.mirror (i := lo) (j := lo + n) hz (Nat.le_refl _) (Nat.le_refl _) k k1 hk; omega
          · have : k = lo + n := by omega
            subst this
            rw [out _ (by omega), hx]; omega
        · rw [show lo + (n + 1) - (0 + 1) = lo + n by omega]; exact up.mirror hz
        · have : j = lo + n := by omega
          subst this
          rw [out (lo + n) (by omega), P_mirror hz, if_pos ⟨i1, by omega⟩]
          exact small _ (by omega) (by omega)
    · rw [if_neg hg]
      have : n = 1 := by omega
      subst this
      refine wpI_fall W H hN (by omega) R rfl (fun _ _ => rfl) ⟨by omega, fun k k1 k2 => fx k (by omega) k2, fun k k1 k2 => by rw [fx k k1 (by omega)]; omega, fun i j i1 ij j2 => by omega, fun i j i1 i2 j1 j2 => ?_, fun i j i1 ij j2 => by omega⟩ h
      have e1 : j = lo + 1 := by omega
      have e2 : i = lo := by omega
      subst e1; subst e2
      exact hl
end
end TS
set_option Elab.async false
set_option linter.all false
set_option maxRecDepth 100000
set_option maxHeartbeats 4000000
namespace TS
open PySem PyProof.Rows
section
variable {prog : Program} {w : World} {A : Around} {E : Value → Shared → Prop} {G : Shared → Prop} {it : Nat → Keyed} {lt : Nat → Nat → Bool} {κ : SortKind} {N : Nat}
theorem wpI_bin (W : Wk lt) (H : Ask prog w A E G it κ N lt) {lo n ok : Nat} (h1 : 1 ≤ ok) (hok : ok ≤ n) (hn : lo + n ≤ N) {st : SortSt} {p : Array Nat} (R : Rp it κ N st p) (fx : ∀ k, lo + ok ≤ k → k < N → P p k = k) (rg : Reg p lo (lo + ok)) (up : Up lt p lo (lo + ok)) {Q : Bool → SortSt → Prop}
    (h : ∀ st' p', Rp it κ N st' p' → pendingOf st' = pendingOf st → (∀ k, k < lo → P p' k = P p k) → (∀ k, lo + n ≤ k → k < N → P p' k = k) → Reg p' lo (lo + n) → Up lt p' lo (lo + n) → Q true st') : wpI (model prog w) A E G (binarySort' lo n ok) Q st := by
  rw [binarySort'_eq]
  dsimp only
  rw [show max ok 1 = ok by omega]
  refine wpI_bind (wpI_mono (wpI_range (I := fun k c st' => c = (none, ()) ∧ ∃ p', Rp it κ N st' p' ∧ pendingOf st' = pendingOf st ∧ (∀ i, i < lo → P p' i = P p i) ∧ (∀ i, lo + k ≤ i → i < N → P p' i = i) ∧ Reg p' lo (lo + k) ∧ Up lt p' lo (lo + k))
    (Q := fun c st' => c = (none, ()) ∧ ∃ p', Rp it κ N st' p' ∧ pendingOf st' = pendingOf st ∧ (∀ i, i < lo → P p' i = P p i) ∧ (∀ i, lo + n ≤ i → i < N → P p' i = i) ∧ Reg p' lo (lo + n) ∧ Up lt p' lo (lo + n)) ?step ?fin ⟨rfl, p, R, rfl, fun _ _ => rfl, fx, rg, up⟩) ?post)
  case post =>
    rintro c st' ⟨rfl, p', a1, a2, a3, a4, a5, a6⟩
    exact wpI_pure (h st' p' a1 a2 a3 a4 a5 a6)
  case fin =>
    rintro c st' hc
    rw [show max ok n = n by omega] at hc
    exact hc
  case step =>
    rintro k c st' hk1 hk2 ⟨rfl, p', R', e', f', fx', rg', up'⟩
    have hkey : P p' (lo + k) = lo + k := fx' _ (by omega) (by omega)
    refine wpI_bind (wpI_mono (wpI_range (I := fun i c st2 => st2 = st' ∧ ∃ l r, c = (none, l, r) ∧ l ≤ r ∧ r ≤ k ∧ r - l ≤ k - i ∧ (∀ i, i < l → lt (P p' (lo + k)) (P p' (lo + i)) = false) ∧ (∀ i, r ≤ i → i < k → lt (P p' (lo + k)) (P p' (lo + i)) = true))
      (Q := fun c st2 => st2 = st' ∧ ∃ l r, c = (none, l, r) ∧ l ≤ k ∧ (∀ i, i < l → lt (P p' (lo + k)) (P p' (lo + i)) = false) ∧ (∀ i, l ≤ i → i < k → lt (P p' (lo + k)) (P p' (lo + i)) = true)) ?s2 ?f2 ⟨rfl, 0, k, rfl, by omega, by omega, by omega, fun i hi => by omega, fun i i1 i2 => by omega⟩) ?p2)
    case f2 =>
      rintro c st2 ⟨rfl, l, r, rfl, a1, a2, a3, a4, a5⟩
      have : l = r := by omega
      subst this
      exact ⟨rfl, l, l, rfl, a2, a4, a5⟩
    case s2 =>
      rintro i c st2 _ hi ⟨rfl, l, r, rfl, a1, a2, a3, a4, a5⟩
      dsimp only
      by_cases hlr : l ≥ r
      · rw [if_pos hlr]
        have : l = r := by omega
        subst this
        exact wpI_pure ⟨rfl, l, l, rfl, a2, a4, a5⟩
      · rw [if_neg hlr]
        refine wpI_bind (wpI_ltAt H R' (by omega) (by omega) ?_)
        dsimp only
        cases hl : lt (P p' (lo + k)) (P p' (lo + (l + r) / 2)) with
        | true =>
          simp only [if_true]
          refine wpI_pure ⟨rfl, l, (l + r) / 2, rfl, by omega, by omega, by omega, a4, fun i i1 i2 => ?_⟩
          by_cases hi : i = (l + r) / 2
          · subst hi; exact hl
          · exact W.lt_le hl (SL.le W (up' (lo + (l + r) / 2) (lo + i) (by omega) (by omega) (by omega)))
        | false =>
          simp only [Bool.false_eq_true, if_false]
          refine wpI_pure ⟨rfl, (l + r) / 2 + 1, r, rfl, by omega, a2, by omega, fun i i1 => ?_, a5⟩
          by_cases hi : i = (l + r) / 2
          · subst hi; exact hl
          · exact W.le_tr (SL.le W (up' (lo + i) (lo + (l + r) / 2) (by omega) (by omega) (by omega))) hl
    case p2 =>
      rintro c st2 ⟨rfl, l, r, rfl, hl, a4, a5⟩
      dsimp only
      have hz : lo + k < p'.size := by rw [R'.size]; omega
      have hd : lo + k - (lo + l) ≤ lo + k := by omega
      have ib : ∀ i, P (PyProof.Rows.bubble p' (lo + k) (lo + k - (lo + l))) i = if i = lo + l then P p' (lo + k) else if lo + l < i ∧ i ≤ lo + k then P p' (i - 1) else P p' i := fun i => by
        rw [P_bubble hz hd, show lo + k - (lo + k - (lo + l)) = lo + l by omega]
      refine wpI_bind (wpI_move (wpI_pure ⟨rfl, _, R'.bubble _ _, e', fun i hi => ?_, fun i i1 i2 => ?_, fun i i1 i2 => ?_, fun i j i1 ij j2 => ?_⟩))
      · rw [ib, if_neg (by omega), if_neg (by omega)]; exact f' i hi
      · rw [ib, if_neg (by omega), if_neg (by omega)]; exact fx' i (by omega) i2
      · rw [ib]
        split
        · rw [hkey]; omega
        · split
          · have := rg' (i - 1) (by omega) (by omega); omega
          · have := rg' i i1 (by omega); omega
      ·
        have above : ∀ m, l ≤ m → m < k → SL lt (P p' (lo + k)) (P p' (lo + m)) := fun m m1 m2 => .inl (a5 m m1 m2)
        have below : ∀ m, m < l → SL lt (P p' (lo + m)) (P p' (lo + k)) := fun m m1 => .inr ⟨a4 m m1, by have := rg' (lo + m) (by omega) (by omega); omega⟩
        rw [ib, ib]
        by_cases hi : i = lo + l
        · subst hi
          rw [if_pos rfl, if_neg (by omega), if_pos (by omega)]
          have := above (j - 1 - lo) (by omega) (by omega)
          rwa [show lo + (j - 1 - lo) = j - 1 by omega] at this
        · rw [if_neg hi]
          by_cases hj : j = lo + l
          · subst hj
            rw [if_pos rfl, if_neg (by omega)]
            have := below (i - lo) (by omega)
            rwa [show lo + (i - lo) = i by omega] at this
          · rw [if_neg hj]
            by_cases ci : lo + l < i ∧ i ≤ lo + k
            · rw [if_pos ci, if_pos (by omega)]
              exact up' _ _ (by omega) (by omega) (by omega)
            · rw [if_neg ci]
              by_cases cj : lo + l < j ∧ j ≤ lo + k
              · rw [if_pos cj]; exact up' _ _ i1 (by omega) (by omega)
              · rw [if_neg cj]; exact up' _ _ i1 ij (by omega)
end
end TS
set_option Elab.async false
set_option linter.all false
set_option maxRecDepth 100000
set_option maxHeartbeats 4000000
namespace TS
open PySem PyProof.Rows
section
variable {prog : Program} {w : World} {A : Around} {E : Value → Shared → Prop} {G : Shared → Prop} {it : Nat → Keyed} {lt : Nat → Nat → Bool} {κ : SortKind} {N : Nat}
theorem up_all {p : Array Nat} (h : Up lt p 0 p.size) : p.toList.Pairwise (SL lt) := by
  rw [List.pairwise_iff_getElem]
  intro i j hi hj hij
  have e : ∀ (k : Nat) (hk : k < p.toList.length), p.toList[k] = P p k := fun k hk => by
    have := P_get (p := p) (i := k) (by simpa using hk)
    rw [Array.getElem?_eq_getElem (by simpa using hk)] at this
    simpa using this
  rw [e i hi, e j hj]
  exact h i j (Nat.zero_le _) hij (by simpa using hj)
structure Fin1 (it : Nat → Keyed) (lt : Nat → Nat → Bool) (κ : SortKind) (N : Nat) (st : SortSt) (p : Array Nat) : Prop where
  R : Rp it κ N st p
  up : p.toList.Pairwise (SL lt)
  one : (pendingOf st).size ≤ 1
theorem Fin1.of {st : SortSt} {p : Array Nat} (R : Rp it κ N st p) (e : pendingOf st = #[]) (up : Up lt p 0 N) (x : Nat × Nat × Nat) : Fin1 it lt κ N (setPending st ((pendingOf st).push x)) p :=
  ⟨⟨R.arr, R.kind, R.ok, R.size, R.perm⟩, up_all (by rw [R.size]; exact up), by show ((pendingOf st).push x).size ≤ 1; rw [e]; simp⟩
theorem wpI_sort (W : Wk lt) (H : Ask prog w A E G it κ N lt) (h2 : 1 ≤ N) (h64 : N < 64) {st : SortSt} {p : Array Nat} (R : Rp it κ N st p) (e0 : pendingOf st = #[]) (fx0 : ∀ k, k < N → P p k = k) {Q : Unit → SortSt → Prop}
    (h : ∀ st' p', Rp it κ N st' p' → p'.toList.Pairwise (SL lt) → Q () st') : wpI (model prog w) A E G sortRuns' Q st := by
  rw [sortRuns'_eq]
  refine wpI_bind (wpI_get ?_)
  dsimp only
  have hz : (arrOf st).size = N := by rw [R.arr, Array.size_map, R.size]
  rw [hz]
  have hmr : minRun' N N 0 = N := by
    obtain ⟨m, rfl⟩ : ∃ m, N = m + 1 := ⟨N - 1, by omega⟩
    rw [minRun'_succ, if_pos h64]
  rw [hmr]
  refine wpI_bind (wpI_mono (wpI_range (I := fun x c st' => ∃ lo p', c = (none, lo) ∧ x ≤ lo ∧ ((lo = 0 ∧ st' = st ∧ p' = p) ∨ (lo = N ∧ Fin1 it lt κ N st' p'))) (Q := fun c st' => ∃ p', c = (none, N) ∧ Fin1 it lt κ N st' p') ?step ?fin ⟨0, p, rfl, Nat.le_refl _, .inl ⟨rfl, rfl, rfl⟩⟩) ?post)
  case fin =>
    rintro c st' ⟨lo, p', rfl, hx, M⟩
    rcases M with ⟨rfl, _⟩ | ⟨rfl, M⟩
    · omega
    · exact ⟨p', rfl, M⟩
  case step =>
    rintro x c st' _ hx ⟨lo, p', rfl, hlo, M⟩
    dsimp only
    rcases M with ⟨rfl, rfl, rfl⟩ | ⟨rfl, M⟩
    · rw [if_neg (by omega)]
      refine wpI_bind (wpI_count W H (by omega) (by omega) R (fun k _ k2 => fx0 k k2) fun n st2 p2 R2 e2 n1 n2 f2 fx2 rg2 up2 => ?_)
      dsimp only
      by_cases hlt : n < N
      · rw [if_pos hlt]
        refine wpI_bind (wpI_rule (wpI_bind (wpI_bin W H n1 (by omega) (by omega) R2 fx2 rg2 up2 fun st3 p3 R3 e3 f3 fx3 rg3 up3 => ?_)))
        simp only [Bool.not_true, Bool.false_eq_true, if_false]
        have hm : min (N - 0) N = N := by omega
        rw [hm, Nat.zero_add] at up3
        have e4 : pendingOf st3 = #[] := by rw [e3, e2, e0]
        refine wpI_bind (wpI_get ?_)
        rw [show (pendingOf st3).back? = none from by rw [e4]; rfl]
        dsimp only
        exact wpI_bind (wpI_modify (wpI_pure ⟨_, p3, rfl, by omega, .inr ⟨by omega, Fin1.of R3 e4 up3 _⟩⟩))
      · rw [if_neg hlt]
        have hn : n = N := by omega
        subst hn
        rw [Nat.zero_add] at up2
        have e4 : pendingOf st2 = #[] := by rw [e2, e0]
        refine wpI_bind (wpI_get ?_)
        rw [show (pendingOf st2).back? = none from by rw [e4]; rfl]
        dsimp only
        exact wpI_bind (wpI_modify (wpI_pure ⟨_, p2, rfl, by omega, .inr ⟨by omega, Fin1.of R2 e4 up2 _⟩⟩))
    · rw [if_pos (Nat.le_refl _)]
      exact wpI_pure ⟨p', rfl, M⟩
  case post =>
    rintro c st' ⟨p', rfl, M⟩
    dsimp only
    refine wpI_bind (wpI_mono (wpI_range (I := fun x c st2 => c = (none, ()) ∧ st2 = st') (Q := fun c st2 => c = (none, ()) ∧ st2 = st') ?_ (fun _ _ q => q) ⟨rfl, rfl⟩) ?_)
    · rintro x c st2 _ hx ⟨rfl, rfl⟩
      refine wpI_bind (wpI_get ?_)
      rw [if_pos M.one]
      exact wpI_pure ⟨rfl, rfl⟩
    · rintro c st2 ⟨rfl, rfl⟩
      exact wpI_pure (h st2 p' M.R M.up)
end
end TS
set_option Elab.async false
set_option linter.all false
set_option maxRecDepth 100000
set_option maxHeartbeats 4000000
namespace PX
open PySem PySem.Spec PyProof.Rows L2 PySem.SeqAt
open PySem.AutoSeq1 (wpAny_loadPart')
open PySem.MeetsSeq PySem.MeetsSeq2 PySem.MeetsSeq3
def icmp (op : CmpOp) (i j : Int) : Bool := match op with
  | .Lt => decide (i < j) | .LtE => decide (i ≤ j) | .Gt => decide (i > j) | _ => decide (i ≥ j)
def isOrd (op : CmpOp) : Prop := op = .Lt ∨ op = .LtE ∨ op = .Gt ∨ op = .GtE
def RcOp (op : CmpOp) (A : Around) (s : Shared) (y x : Value) (b : Bool) : Prop := ∀ (prog : Program) (w : World) (E : Value → Shared → Prop) (Q : Value → Shared → Prop), Q (.bool b) s → wpAny (model prog w) A (richCompare op y x) Q E s
def LexW (op : CmpOp) (A : Around) (s : Shared) (fin : Bool) : List (Value × Value) → Bool → Prop
  | [], r => r = fin
  | (y, x) :: rest, r => ∃ e, EqAt A s y x e ∧ (if e = true then LexW op A s fin rest r else RcOp op A s y x r)
theorem tuple_lt (l b : Addr) (items items2 : Array Value) (n n2 : Nat) (dd dd2 : Option Addr) (sl sl2 : Array (Option Value)) (r : Bool) :
    Meets (Builtin.«tuple.__lt__» ⟨[.ref l, .ref b], []⟩) (fun A R s => s.heap.get? l = some { cls := .type "tuple", dict := dd, data := .seq items n, slots := sl } ∧ s.heap.get? b = some { cls := .type "tuple", dict := dd2, data := .seq items2 n2, slots := sl2 } ∧
      LexW .Lt A.in1 s (icmp .Lt items.size items2.size) (items.toList.zip items2.toList) r ∧ R (.ok (.ret (.bool r))) s) :=
  .of_wp fun prog w A R s h => by
    obtain ⟨hp, g, d, tk, os⟩ := s; obtain ⟨hl, hb, hx, h⟩ := h
    have f2 := AutoSeq1.sub_tuple_tuple
    wp_walk using wpAny_loadPart' hl, wpAny_loadPart' hb, wpAny_forIn_list _ (fun rest b s' => b.1 = none ∧ s' = ⟨hp, g, d, tk, os⟩ ∧ LexW .Lt A.in1 ⟨hp, g, d, tk, os⟩ (icmp .Lt items.size items2.size) rest r) _
    case turn =>
      rintro ⟨y, x⟩ rest b s' ⟨hb', rfl, e, he, hx⟩
      refine wpAny_bind (he prog w _ _ ?_)
      cases e with
      | true =>
        simp only [if_true] at hx
        wp_walk
        exact ⟨rfl, rfl, hx⟩
      | false =>
        simp only [Bool.false_eq_true, if_false] at hx
        have hri := hx prog w
        wp_walk using hri
        exact ⟨_, rfl, by simpa using h⟩
    case fin =>
      rintro ⟨b1, b2⟩ s' ⟨hb', rfl, hx⟩
      simp only at hb'
      subst hb'
      have hx : r = icmp .Lt items.size items2.size := hx
      rw [hx] at h
      wp_walk
      exact ⟨_, rfl, by simpa [Builtin.Tuple.tupleCompareSizes, icmp] using h⟩
    case h => exact ⟨rfl, rfl, hx⟩
theorem tuple_le (l b : Addr) (items items2 : Array Value) (n n2 : Nat) (dd dd2 : Option Addr) (sl sl2 : Array (Option Value)) (r : Bool) :
    Meets (Builtin.«tuple.__le__» ⟨[.ref l, .ref b], []⟩) (fun A R s => s.heap.get? l = some { cls := .type "tuple", dict := dd, data := .seq items n, slots := sl } ∧ s.heap.get? b = some { cls := .type "tuple", dict := dd2, data := .seq items2 n2, slots := sl2 } ∧
      LexW .LtE A.in1 s (icmp .LtE items.size items2.size) (items.toList.zip items2.toList) r ∧ R (.ok (.ret (.bool r))) s) :=
  .of_wp fun prog w A R s h => by
    obtain ⟨hp, g, d, tk, os⟩ := s; obtain ⟨hl, hb, hx, h⟩ := h
    have f2 := AutoSeq1.sub_tuple_tuple
    wp_walk using wpAny_loadPart' hl, wpAny_loadPart' hb, wpAny_forIn_list _ (fun rest b s' => b.1 = none ∧ s' = ⟨hp, g, d, tk, os⟩ ∧ LexW .LtE A.in1 ⟨hp, g, d, tk, os⟩ (icmp .LtE items.size items2.size) rest r) _
    case turn =>
      rintro ⟨y, x⟩ rest b s' ⟨hb', rfl, e, he, hx⟩
      refine wpAny_bind (he prog w _ _ ?_)
      cases e with
      | true =>
        simp only [if_true] at hx
        wp_walk
        exact ⟨rfl, rfl, hx⟩
      | false =>
        simp only [Bool.false_eq_true, if_false] at hx
        have hri := hx prog w
        wp_walk using hri
        exact ⟨_, rfl, by simpa using h⟩
    case fin =>
      rintro ⟨b1, b2⟩ s' ⟨hb', rfl, hx⟩
      simp only at hb'
      subst hb'
      have hx : r = icmp .LtE items.size items2.size := hx
      rw [hx] at h
      wp_walk
      exact ⟨_, rfl, by simpa [Builtin.Tuple.tupleCompareSizes, icmp] using h⟩
    case h => exact ⟨rfl, rfl, hx⟩
theorem tuple_gt (l b : Addr) (items items2 : Array Value) (n n2 : Nat) (dd dd2 : Option Addr) (sl sl2 : Array (Option Value)) (r : Bool) :
    Meets (Builtin.«tuple.__gt__» ⟨[.ref l, .ref b], []⟩) (fun A R s => s.heap.get? l = some { cls := .type "tuple", dict := dd, data := .seq items n, slots := sl } ∧ s.heap.get? b = some { cls := .type "tuple", dict := dd2, data := .seq items2 n2, slots := sl2 } ∧
      LexW .Gt A.in1 s (icmp .Gt items.size items2.size) (items.toList.zip items2.toList) r ∧ R (.ok (.ret (.bool r))) s) :=
  .of_wp fun prog w A R s h => by
    obtain ⟨hp, g, d, tk, os⟩ := s; obtain ⟨hl, hb, hx, h⟩ := h
    have f2 := AutoSeq1.sub_tuple_tuple
    wp_walk using wpAny_loadPart' hl, wpAny_loadPart' hb, wpAny_forIn_list _ (fun rest b s' => b.1 = none ∧ s' = ⟨hp, g, d, tk, os⟩ ∧ LexW .Gt A.in1 ⟨hp, g, d, tk, os⟩ (icmp .Gt items.size items2.size) rest r) _
    case turn =>
      rintro ⟨y, x⟩ rest b s' ⟨hb', rfl, e, he, hx⟩
      refine wpAny_bind (he prog w _ _ ?_)
      cases e with
      | true =>
        simp only [if_true] at hx
        wp_walk
        exact ⟨rfl, rfl, hx⟩
      | false =>
        simp only [Bool.false_eq_true, if_false] at hx
        have hri := hx prog w
        wp_walk using hri
        exact ⟨_, rfl, by simpa using h⟩
    case fin =>
      rintro ⟨b1, b2⟩ s' ⟨hb', rfl, hx⟩
      simp only at hb'
      subst hb'
      have hx : r = icmp .Gt items.size items2.size := hx
      rw [hx] at h
      wp_walk
      exact ⟨_, rfl, by simpa [Builtin.Tuple.tupleCompareSizes, icmp] using h⟩
    case h => exact ⟨rfl, rfl, hx⟩
theorem tuple_ge (l b : Addr) (items items2 : Array Value) (n n2 : Nat) (dd dd2 : Option Addr) (sl sl2 : Array (Option Value)) (r : Bool) :
    Meets (Builtin.«tuple.__ge__» ⟨[.ref l, .ref b], []⟩) (fun A R s => s.heap.get? l = some { cls := .type "tuple", dict := dd, data := .seq items n, slots := sl } ∧ s.heap.get? b = some { cls := .type "tuple", dict := dd2, data := .seq items2 n2, slots := sl2 } ∧
      LexW .GtE A.in1 s (icmp .GtE items.size items2.size) (items.toList.zip items2.toList) r ∧ R (.ok (.ret (.bool r))) s) :=
  .of_wp fun prog w A R s h => by
    obtain ⟨hp, g, d, tk, os⟩ := s; obtain ⟨hl, hb, hx, h⟩ := h
    have f2 := AutoSeq1.sub_tuple_tuple
    wp_walk using wpAny_loadPart' hl, wpAny_loadPart' hb, wpAny_forIn_list _ (fun rest b s' => b.1 = none ∧ s' = ⟨hp, g, d, tk, os⟩ ∧ LexW .GtE A.in1 ⟨hp, g, d, tk, os⟩ (icmp .GtE items.size items2.size) rest r) _
    case turn =>
      rintro ⟨y, x⟩ rest b s' ⟨hb', rfl, e, he, hx⟩
      refine wpAny_bind (he prog w _ _ ?_)
      cases e with
      | true =>
        simp only [if_true] at hx
        wp_walk
        exact ⟨rfl, rfl, hx⟩
      | false =>
        simp only [Bool.false_eq_true, if_false] at hx
        have hri := hx prog w
        wp_walk using hri
        exact ⟨_, rfl, by simpa using h⟩
    case fin =>
      rintro ⟨b1, b2⟩ s' ⟨hb', rfl, hx⟩
      simp only at hb'
      subst hb'
      have hx : r = icmp .GtE items.size items2.size := hx
      rw [hx] at h
      wp_walk
      exact ⟨_, rfl, by simpa [Builtin.Tuple.tupleCompareSizes, icmp] using h⟩
    case h => exact ⟨rfl, rfl, hx⟩
section
variable {A : Around} {s : Shared} {l b : Addr} {items items2 : Array Value} {r : Bool}
theorem rcop_tup {op : CmpOp} (ho : isOrd op) (hl : s.heap.IsTuple l items) (hb : s.heap.IsTuple b items2) (hu : A.units < cLine) (hx : LexW op A.in1 s (icmp op items.size items2.size) (items.toList.zip items2.toList) r) : RcOp op A s (.ref l) (.ref b) r := fun prog w E Q h => by
  obtain ⟨⟨cls, dd, data, sl⟩, ho1, hc, n, hd⟩ := id hl
  obtain ⟨⟨cls2, dd2, data2, sl2⟩, ho2, hc2, n2, hd2⟩ := id hb
  simp only at hc hd hc2 hd2
  subst hc hd hc2 hd2
  rcases ho with rfl | rfl | rfl | rfl
  · exact richCompare_meets_room (op := .Lt) ⟨_, ho1, rfl⟩ ⟨_, ho2, rfl⟩ PySem.F.slot_tuple_lt PySem.F.entry_tuple_lt (PySem.F.args_tuple_lt_2 _ _) (tuple_lt l b items items2 n n2 dd dd2 sl sl2 r) ⟨ho1, ho2, hx, show Value.bool r ≠ Value.notImplemented ∧ Q (.bool r) s from ⟨(fun x => nomatch x), h⟩⟩ hu
  · exact richCompare_meets_room (op := .LtE) ⟨_, ho1, rfl⟩ ⟨_, ho2, rfl⟩ PySem.F.slot_tuple_le PySem.F.entry_tuple_le (PySem.F.args_tuple_le_2 _ _) (tuple_le l b items items2 n n2 dd dd2 sl sl2 r) ⟨ho1, ho2, hx, show Value.bool r ≠ Value.notImplemented ∧ Q (.bool r) s from ⟨(fun x => nomatch x), h⟩⟩ hu
  · exact richCompare_meets_room (op := .Gt) ⟨_, ho1, rfl⟩ ⟨_, ho2, rfl⟩ PySem.F.slot_tuple_gt PySem.F.entry_tuple_gt (PySem.F.args_tuple_gt_2 _ _) (tuple_gt l b items items2 n n2 dd dd2 sl sl2 r) ⟨ho1, ho2, hx, show Value.bool r ≠ Value.notImplemented ∧ Q (.bool r) s from ⟨(fun x => nomatch x), h⟩⟩ hu
  · exact richCompare_meets_room (op := .GtE) ⟨_, ho1, rfl⟩ ⟨_, ho2, rfl⟩ PySem.F.slot_tuple_ge PySem.F.entry_tuple_ge (PySem.F.args_tuple_ge_2 _ _) (tuple_ge l b items items2 n n2 dd dd2 sl sl2 r) ⟨ho1, ho2, hx, show Value.bool r ≠ Value.notImplemented ∧ Q (.bool r) s from ⟨(fun x => nomatch x), h⟩⟩ hu
end
mutual
def cmpD (op : CmpOp) : D → D → Option Bool
  | .int i, .int j => some (icmp op i j)
  | .tup l, .tup m => cmpL op l m
  | _, _ => none
def cmpL (op : CmpOp) : List D → List D → Option Bool
  | [], m => some (icmp op 0 m.length)
  | x :: l, [] => some (icmp op ((x :: l).length) 0)
  | x :: l, y :: m => if D.eqb x y = true then cmpL op l m else cmpD op x y
end
theorem icmp_shift (op : CmpOp) (a b k : Int) : icmp op (a + k) (b + k) = icmp op a b := by
  cases op <;> simp [icmp]
section
variable {X : Cx} {pins : List (Addr × Obj)} {σ : L2.St} {H : Hp} {s : Shared}
theorem rcop_int {op : CmpOp} (ho : isOrd op) {A : Around} {i j : Int} {t u : Tok} : RcOp op A s (.int i t) (.int j u) (icmp op i j) := fun prog w E Q h => by
  rcases ho with rfl | rfl | rfl | rfl
  · exact (PyProof.Rows.lt_int h : wpAny (model prog w) A (compareOp .Lt _ _) Q E s)
  · exact (PyProof.Rows.le_int h : wpAny (model prog w) A (compareOp .LtE _ _) Q E s)
  · exact (PyProof.Rows.gt_int h : wpAny (model prog w) A (compareOp .Gt _ _) Q E s)
  · exact (PyProof.Rows.ge_int h : wpAny (model prog w) A (compareOp .GtE _ _) Q E s)
theorem rcop_D {op : CmpOp} (ho : isOrd op) (I : Inv X pins σ H s) : ∀ (n : Nat) (d e : D) (v u : V) (a b : Value) (O O' : AP') (A : Around) (r : Bool), View X.K H O d v → View X.K H O' e u → RelV v a → RelV u b → d.dep ≤ n → e.dep < 20000 → A.units + n < cLine → cmpD op d e = some r → RcOp op A s a b r := by
  intro n
  induction n with
  | zero =>
    intro d e v u a b O O' A r hd he ra rb hn hen hA hc
    cases d with
    | int i =>
      cases e with
      | int j =>
        have := view_int hd; subst this; have := view_int he; subst this
        obtain ⟨t, rfl⟩ := ra; obtain ⟨t', rfl⟩ := rb
        rw [cmpD] at hc
        rw [← Option.some.inj hc]; exact rcop_int ho
      | _ => rw [cmpD] at hc <;> first | cases hc | (intros; simp_all)
    | tup l => rw [D.dep] at hn; omega
    | _ => rw [cmpD] at hc <;> first | cases hc | (intros; simp_all)
  | succ n ih =>
    intro d e v u a b O O' A r hd he ra rb hn hen hA hc
    cases d with
    | int i =>
      cases e with
      | int j =>
        have := view_int hd; subst this; have := view_int he; subst this
        obtain ⟨t, rfl⟩ := ra; obtain ⟨t', rfl⟩ := rb
        rw [cmpD] at hc
        rw [← Option.some.inj hc]; exact rcop_int ho
      | _ => rw [cmpD] at hc <;> first | cases hc | (intros; simp_all)
    | tup l =>
      cases e with
      | tup m =>
        rw [cmpD] at hc
        rw [D.dep] at hn hen
        obtain ⟨p, xs, rfl, q, r1⟩ := view_tup hd
        obtain ⟨p2, ys, rfl, q2, r2⟩ := view_tup he
        cases ra; cases rb
        obtain ⟨its, v1, pl, _⟩ := I.tuple q
        obtain ⟨its2, v2, pl2, _⟩ := I.tuple q2
        have hu1 : A.in1.units = A.units + 1 := rfl
        have key : ∀ (l m : List D) (xs ys : List V) (its its2 : List Value) (k : Int), D.depL l + 1 ≤ n + 1 → D.depL m < 20000 → RepL X.K H O l xs → RepL X.K H O' m ys → Vals xs its → Vals ys its2 → cmpL op l m = some r → LexW op A.in1 s (icmp op (its.length + k) (its2.length + k)) (its.zip its2) r := by
          intro l
          induction l with
          | nil =>
            intro m xs ys its its2 k hdep hdm r1 r2 v1 v2 hc
            rw [RepL] at r1; subst r1; cases v1
            rw [cmpL] at hc
            have e1 := r2.length; have e2 := v2.length
            show r = _
            rw [icmp_shift, ← Option.some.inj hc]
            congr 1
            omega
          | cons x l ihl =>
            intro m xs ys its its2 k hdep hdm r1 r2 v1 v2 hc
            rw [RepL] at r1
            obtain ⟨vx, xr, rfl, g1, g2⟩ := r1
            cases v1 with
            | cons a1 a2 =>
              cases m with
              | nil =>
                rw [RepL] at r2; subst r2; cases v2
                rw [cmpL] at hc
                have e1 := g2.length; have e2 := a2.length
                rw [List.zip_nil_right]
                show r = _
                rw [icmp_shift, ← Option.some.inj hc]
                congr 1
                simp only [List.length_cons]; omega
              | cons y m =>
                rw [RepL] at r2
                obtain ⟨vy, yr, rfl, g3, g4⟩ := r2
                cases v2 with
                | cons b1 b2 =>
                  rw [cmpL] at hc
                  rw [D.depL] at hdep hdm
                  rw [List.zip_cons_cons]
                  refine ⟨D.eqb x y, eqAt_D I n x y vx vy _ _ O O' A.in1 (.inl g1) (.inl g3) a1 b1 (by omega) (by omega) (by rw [hu1]; omega), ?_⟩
                  cases hq : D.eqb x y with
                  | true =>
                    rw [hq, if_pos rfl] at hc
                    rw [if_pos rfl]
                    have := ihl m xr yr _ _ (k + 1) (by omega) (by omega) g2 g4 a2 b2 hc
                    simp only [List.length_cons]
                    have e : ∀ a : Nat, (((a + 1 : Nat) : Int) + k) = (a : Int) + (k + 1) := fun a => by omega
                    rw [e, e]
                    exact this
                  | false =>
                    rw [hq, if_neg Bool.false_ne_true] at hc
                    rw [if_neg Bool.false_ne_true]
                    exact ih x y vx vy _ _ O O' A.in1 r (.inl g1) (.inl g3) a1 b1 (by omega) (by omega) (by rw [hu1]; omega) hc
        have := key l m xs ys its its2 0 (by omega) (by omega) r1 r2 v1 v2 hc
        refine rcop_tup ho pl pl2 (by omega) ?_
        simpa using this
      | _ => rw [cmpD] at hc <;> first | cases hc | (intros; simp_all)
    | _ => rw [cmpD] at hc <;> first | cases hc | (intros; simp_all)
def gCmp (op : CmpOp) (d e : D) : Option (D × Bool) := if d.dep ≤ 50 ∧ e.dep ≤ 50 then (cmpD op d e).map fun b => (.bl b, false) else none
theorem opr_ord {op : CmpOp} (ho : isOrd op) (hu : X.A.units + 60 < cLine) : OpR X (compareOp op) (rD X.K (gCmp op)) := by
  intro pins s σ H x y v u Q I rx ry h
  obtain ⟨O, d, e, z, np, h1, h2, hg, G⟩ := h
  unfold gCmp at hg
  split at hg
  · rename_i hd
    obtain ⟨r, hr, rfl⟩ := map_some' hg
    have := rcop_D ho I 50 d e x y v u O O X.A r h1 h2 rx ry hd.1 (by omega) (by omega) hr X.prog X.w X.xe (EP X pins σ Q) ⟨.bl r, H, I, rfl, G.bl⟩
    rcases ho with rfl | rfl | rfl | rfl <;> exact this
  · cases hg
end
end PX
set_option Elab.async false
set_option linter.all false
set_option maxRecDepth 100000
set_option maxHeartbeats 4000000
namespace PX
open PySem PySem.Spec PyProof.Rows L2 PySem.SeqAt TS
section
variable {prog : Program} {w : World} {A : Around} {E : Value → Shared → Prop} {s : Shared}
def sortH (h : Heap) (a : Addr) (vs : List Value) : Heap := ((h.update a (Obj.mapSeq fun _ => #[])).push (seqObj "tuple" vs.toArray 0)).push (seqObj "list" #[] 0)
def itOf (vs : List Value) (i : Nat) : Keyed := (vs.getD i Value.none, vs.getD i Value.none)
theorem list_sort_any {a : Addr} {vs : List Value} {n : Nat} {P : PySem.Fin → Shared → Prop} {κ : SortKind} {lt : Nat → Nat → Bool} (ho : s.heap.get? a = some (seqObj "list" vs.toArray n)) (hz' : vs.length < 64) (W : Wk lt)
    (hk : 2 ≤ vs.length → wpAny (model prog w) A (keyKind' vs.toArray) (fun κ' s' => s' = { s with heap := sortH s.heap a vs } ∧ κ' = κ) (fun _ _ => False) { s with heap := sortH s.heap a vs })
    (ask : 2 ≤ vs.length → Ask prog w A E (fun s' => s' = { s with heap := sortH s.heap a vs }) (itOf vs) κ vs.length lt)
    (h : ∀ p : List Nat, p.Perm (List.range vs.length) → p.Pairwise (SL lt) → P (.done (.ret .none)) { s with heap := (sortH s.heap a vs).update a (Obj.mapSeq fun _ => (p.map fun i => vs.getD i Value.none).toArray) }) :
    wpAny (model prog w) A (Builtin.«list.sort» ⟨[.ref a], []⟩) P E s := by
  have hz : vs.length ≤ sizeLine := Nat.le_trans (Nat.le_of_lt hz') (by decide)
  rw [list_sort_plain]
  have ha : a < s.heap.objs.size := Heap.lt_size ho
  refine wpAny_bind (listItems_at ho rfl (wpAny_bind (listUpdate_at ho rfl ?_ (by rw [List.size_toArray]; exact hz) (Nat.zero_le _))))
  obtain ⟨e1, ho1⟩ : ∃ e1, (s.heap.update a (Obj.mapSeq fun _ => (#[] : Array Value))).get? a = some (seqObj "list" #[] e1) := ⟨_, get?_update_seq ho fun _ => #[]⟩
  refine wpAny_bind (seqEpoch_at ho1 rfl (wpAny_bind (wpAny_newTuple ?_ (by show vs.length ≤ _; exact hz))))
  refine wpAny_bind (wpAny_newList ?_ (Nat.zero_le _))
  refine wpAny_holding ?_
  have ho6 : (sortH s.heap a vs).get? a = some (seqObj "list" #[] e1) := Heap.get?_push_of_some _ (Heap.get?_push_of_some _ ho1)
  show wpAny (model prog w) A _ P E { s with heap := sortH s.heap a vs }
  dsimp only
  by_cases h2 : vs.toArray.size < 2
  · rw [if_pos h2, if_pos h2]
    refine wpAny_bind (wpAny_pure ?_)
    rw [StateT.run_pure]
    refine wpAny_bind (wpAny_pure ?_)
    dsimp only
    refine wpAny_bind (seqEpoch_at ho6 rfl (wpAny_bind (listUpdate_at ho6 rfl ?_ (Nat.zero_le _) ?_)))
    · simp only [bne_self_eq_false, Bool.false_eq_true, if_false]
      refine wpAny_pure ?_
      have h2' : vs.length < 2 := by simpa using h2
      have := h (List.range vs.length) (List.Perm.refl _) (by
        rw [List.pairwise_iff_getElem]
        intro i j hi hj hij
        simp at hi hj; omega)
      have e : ((vs.toArray.zip vs.toArray).map (·.2)) = ((List.range vs.length).map fun i => vs.getD i Value.none).toArray := by
        apply Array.ext
        · simp
        · intro i h1 h3
          have hi : i < vs.length := by simpa using h1
          simp [hi]
      rw [e]; exact this
    · rw [Array.size_map, Array.size_zip]; simp; omega
  · rw [if_neg h2, if_neg h2]
    have h2' : 2 ≤ vs.length := by simpa using h2
    refine wpAny_bind (wpAny_mono (hk h2') (fun κ' s' hκ => ?_) fun _ _ x => x.elim)
    obtain ⟨rfl, rfl⟩ := hκ
    have R : Rp (itOf vs) κ' vs.length (SortSt.mk' κ' (vs.toArray.zip vs.toArray) #[] 7 none) (Array.range vs.length) := by
      refine ⟨?_, rfl, rfl, by simp, Array.Perm.refl _⟩
      show vs.toArray.zip vs.toArray = _
      apply Array.ext
      · simp
      · intro i h1 h3
        have hi : i < vs.length := by simpa using h1
        simp [itOf, hi]
    refine wpAny_bind (wpAny_mono (wpI_sort (lt := lt) W (ask h2') (by omega) hz' R rfl (fun k hk => by simp [TS.P, hk]) (Q := fun _ st' => ∃ p', Rp (itOf vs) κ' vs.length st' p' ∧ p'.toList.Pairwise (SL lt)) (fun st' p' R' hp => ⟨p', R', hp⟩) _ rfl) ?_ fun _ _ e => e)
    rintro ⟨⟨⟩, st'⟩ s' ⟨rfl, p', R', hp⟩
    dsimp only
    have hs' : failedOf st' = none := R'.ok
    have out : (arrOf st').map (·.2) = (p'.toList.map fun i => vs.getD i Value.none).toArray := by
      rw [R'.arr, Array.map_map]
      apply Array.toList_inj.mp
      simp [itOf]
    have pl : p'.toList.length = vs.length := by simp [R'.size]
    refine wpAny_bind (seqEpoch_at ho6 rfl (wpAny_bind (listUpdate_at ho6 rfl ?_ (Nat.zero_le _) ?_)))
    · rw [hs']
      simp only [bne_self_eq_false, Bool.false_eq_true, if_false]
      rw [out]
      refine wpAny_pure (h p'.toList ?_ hp)
      have := Array.perm_iff_toList_perm.mp R'.perm
      simpa using this
    · rw [out, List.size_toArray, List.length_map, pl]; omega
end
end PX
set_option Elab.async false
set_option linter.all false
set_option maxRecDepth 100000
set_option maxHeartbeats 4000000
namespace PX
open PySem PySem.Spec PyProof.Rows L2 PySem.SeqAt TS
mutual
def cT : D → D → Ordering
  | .int i, .int j => if i < j then .lt else if i = j then .eq else .gt
  | .int _, _ => .lt
  | .tup _, .int _ => .gt
  | .tup l, .tup m => cL l m
  | .tup _, _ => .lt
  | _, .int _ => .gt
  | _, .tup _ => .gt
  | _, _ => .eq
def cL : List D → List D → Ordering
  | [], [] => .eq
  | [], _ :: _ => .lt
  | _ :: _, [] => .gt
  | x :: l, y :: m => match cT x y with
    | .lt => .lt
    | .gt => .gt
    | .eq => cL l m
end
mutual
theorem cT_refl : ∀ x : D, cT x x = .eq
  | .int i => by simp [cT]
  | .tup l => by rw [cT]; exact cL_refl l
  | .non => by simp [cT]
  | .bl _ => by simp [cT]
  | .str _ => by simp [cT]
  | .lst _ => by simp [cT]
  | .oth _ _ _ => by simp [cT]
theorem cL_refl : ∀ l : List D, cL l l = .eq
  | [] => by simp [cL]
  | x :: l => by rw [cL, cT_refl x]; exact cL_refl l
end
mutual
theorem cT_swap : ∀ x y : D, cT y x = (cT x y).swap
  | .int i, .int j => by
    rw [cT, cT]
    by_cases h1 : i < j
    · rw [if_pos h1, if_neg (by omega), if_neg (by omega)]; rfl
    · rw [if_neg h1]
      by_cases h2 : i = j
      · rw [if_pos h2, if_neg (by omega), if_pos h2.symm]; rfl
      · rw [if_neg h2, if_pos (by omega)]; rfl
  | .tup l, .tup m => by rw [cT, cT]; exact cL_swap l m
  | .int _, .tup _ => by simp [cT]
  | .int _, .non => by simp [cT]
  | .int _, .bl _ => by simp [cT]
  | .int _, .str _ => by simp [cT]
  | .int _, .lst _ => by simp [cT]
  | .int _, .oth _ _ _ => by simp [cT]
  | .tup _, .int _ => by simp [cT]
  | .tup _, .non => by simp [cT]
  | .tup _, .bl _ => by simp [cT]
  | .tup _, .str _ => by simp [cT]
  | .tup _, .lst _ => by simp [cT]
  | .tup _, .oth _ _ _ => by simp [cT]
  | .non, y => by cases y <;> simp [cT]
  | .bl _, y => by cases y <;> simp [cT]
  | .str _, y => by cases y <;> simp [cT]
  | .lst _, y => by cases y <;> simp [cT]
  | .oth _ _ _, y => by cases y <;> simp [cT]
theorem cL_swap : ∀ l m : List D, cL m l = (cL l m).swap
  | [], [] => by simp [cL]
  | [], _ :: _ => by simp [cL]
  | _ :: _, [] => by simp [cL]
  | x :: l, y :: m => by
    rw [cL, cL, cT_swap x y]
    cases h : cT x y <;> simp [Ordering.swap]
    exact cL_swap l m
end
theorem le_eq {x y : D} (h1 : cT x y ≠ .gt) (h2 : cT y x ≠ .gt) : cT x y = .eq := by
  rw [cT_swap x y] at h2
  cases h : cT x y with
  | lt => rw [h] at h2; exact absurd rfl h2
  | eq => rfl
  | gt => exact absurd h h1
mutual
theorem cT_trans : ∀ x y z : D, cT x y ≠ .gt → cT y z ≠ .gt → cT x z ≠ .gt
  | .int i, y, z, h1, h2 => by
    cases z with
    | int k =>
      cases y with
      | int j =>
        rw [cT] at h1 h2 ⊢
        have a : i ≤ j := by
          by_cases a : i < j
          · omega
          · rw [if_neg a] at h1
            by_cases b : i = j
            · omega
            · rw [if_neg b] at h1; exact absurd rfl h1
        have b : j ≤ k := by
          by_cases a : j < k
          · omega
          · rw [if_neg a] at h2
            by_cases b : j = k
            · omega
            · rw [if_neg b] at h2; exact absurd rfl h2
        by_cases c : i < k
        · rw [if_pos c]; simp
        · rw [if_neg c, if_pos (by omega)]; simp
      | _ => simp [cT] at h2
    | _ => simp [cT]
  | .tup l, y, z, h1, h2 => by
    cases y with
    | int j => simp [cT] at h1
    | tup m =>
      cases z with
      | int k => simp [cT] at h2
      | tup n => rw [cT] at h1 h2 ⊢; exact cL_trans l m n h1 h2
      | _ => simp [cT]
    | _ => cases z <;> simp_all [cT]
  | .non, y, z, h1, h2 => by cases y <;> cases z <;> simp_all [cT]
  | .bl _, y, z, h1, h2 => by cases y <;> cases z <;> simp_all [cT]
  | .str _, y, z, h1, h2 => by cases y <;> cases z <;> simp_all [cT]
  | .lst _, y, z, h1, h2 => by cases y <;> cases z <;> simp_all [cT]
  | .oth _ _ _, y, z, h1, h2 => by cases y <;> cases z <;> simp_all [cT]
  termination_by x y z => sizeOf x + sizeOf y + sizeOf z
theorem cL_trans : ∀ l m n : List D, cL l m ≠ .gt → cL m n ≠ .gt → cL l n ≠ .gt
  | [], m, n, _, _ => by cases n <;> simp [cL]
  | x :: l, [], n, h1, _ => by simp [cL] at h1
  | x :: l, y :: m, [], _, h2 => by simp [cL] at h2
  | x :: l, y :: m, z :: n, h1, h2 => by
    have a1 : cT x y ≠ .gt := fun h => by rw [cL, h] at h1; exact h1 rfl
    have a2 : cT y z ≠ .gt := fun h => by rw [cL, h] at h2; exact h2 rfl
    have a3 := cT_trans x y z a1 a2
    rw [cL]
    cases hxz : cT x z with
    | lt => simp
    | gt => exact absurd hxz a3
    | eq =>
      have zx : cT z x ≠ .gt := by rw [cT_swap x z, hxz]; simp [Ordering.swap]
      have exy : cT x y = .eq := le_eq a1 (cT_trans y z x a2 zx)
      have eyz : cT y z = .eq := le_eq a2 (cT_trans z x y zx a1)
      rw [cL, exy] at h1
      rw [cL, eyz] at h2
      exact cL_trans l m n h1 h2
  termination_by l m n => sizeOf l + sizeOf m + sizeOf n
end
end PX
set_option Elab.async false
set_option linter.all false
set_option maxRecDepth 100000
set_option maxHeartbeats 4000000
namespace PX
open PySem PySem.Spec PyProof.Rows L2 PySem.SeqAt TS
def ltT (x y : D) : Bool := cT x y == .lt
theorem ltT_iff {x y : D} : ltT x y = true ↔ cT x y = .lt := by simp [ltT]
theorem ltT_false {x y : D} : ltT x y = false ↔ cT x y ≠ .lt := by simp [ltT]
theorem wk_D (f : Nat → D) : Wk fun i j => ltT (f i) (f j) := by
  have key : ∀ x y z : D, ltT x z = true → ltT x y = true ∨ ltT y z = true := fun x y z h => by
    cases h1 : ltT x y with
    | true => exact .inl rfl
    | false =>
      cases h2 : ltT y z with
      | true => exact .inr rfl
      | false =>
        exfalso
        have yx : cT y x ≠ .gt := by
          rw [cT_swap x y]; intro e
          rw [ltT_false] at h1
          cases hc : cT x y with
          | lt => exact h1 hc
          | eq => rw [hc] at e; cases e
          | gt => rw [hc] at e; cases e
        have zy : cT z y ≠ .gt := by
          rw [cT_swap y z]; intro e
          rw [ltT_false] at h2
          cases hc : cT y z with
          | lt => exact h2 hc
          | eq => rw [hc] at e; cases e
          | gt => rw [hc] at e; cases e
        have := cT_trans z y x zy yx
        rw [cT_swap x z, ltT_iff.mp h] at this
        exact this rfl
  refine ⟨fun i => by rw [ltT_false, cT_refl]; simp, fun i j k h1 h2 => ?_, fun i j k h => key _ _ _ h⟩
  rcases key (f i) (f k) (f j) h1 with h | h
  · exact h
  ·
    rw [ltT_iff] at h h2
    rw [cT_swap, h] at h2
    cases h2
mutual
/-- ints, and tuples of such -/
def D.pr : D → Bool
  | .int _ => true
  | .tup l => D.prL l
  | _ => false
def D.prL : List D → Bool
  | [] => true
  | x :: l => D.pr x && D.prL l
end
mutual
theorem eqb_pr : ∀ x y : D, D.pr x = true → D.pr y = true → D.eqb x y = (cT x y == .eq)
  | .int i, .int j, _, _ => by
    rw [D.eqb, cT]
    by_cases h : i = j
    · subst h; simp
    · rw [if_neg h]
      by_cases h2 : i < j <;> simp [h, h2]
  | .int _, .tup _, _, _ => by simp [D.eqb, cT]
  | .tup _, .int _, _, _ => by simp [D.eqb, cT]
  | .tup l, .tup m, h1, h2 => by rw [D.eqb, cT]; rw [D.pr] at h1 h2; exact eqbL_pr l m h1 h2
  | .non, _, h, _ => by simp [D.pr] at h
  | .bl _, _, h, _ => by simp [D.pr] at h
  | .str _, _, h, _ => by simp [D.pr] at h
  | .lst _, _, h, _ => by simp [D.pr] at h
  | .oth _ _ _, _, h, _ => by simp [D.pr] at h
  | _, .non, _, h => by simp [D.pr] at h
  | _, .bl _, _, h => by simp [D.pr] at h
  | _, .str _, _, h => by simp [D.pr] at h
  | _, .lst _, _, h => by simp [D.pr] at h
  | _, .oth _ _ _, _, h => by simp [D.pr] at h
theorem eqbL_pr : ∀ l m : List D, D.prL l = true → D.prL m = true → D.eqbL l m = (cL l m == .eq)
  | [], [], _, _ => by simp [D.eqbL, cL]
  | [], _ :: _, _, _ => by simp [D.eqbL, cL]
  | _ :: _, [], _, _ => by simp [D.eqbL, cL]
  | x :: l, y :: m, h1, h2 => by
    rw [D.prL, Bool.and_eq_true] at h1 h2
    rw [D.eqbL, cL, eqb_pr x y h1.1 h2.1, eqbL_pr l m h1.2 h2.2]
    cases cT x y <;> simp
end
mutual
theorem cmpD_pr : ∀ x y : D, D.pr x = true → D.pr y = true → ∀ b, cmpD .Lt x y = some b → b = ltT x y
  | .int i, .int j, _, _, b, h => by
    rw [cmpD] at h
    rw [← Option.some.inj h, ltT, cT, icmp]
    by_cases h1 : i < j
    · simp [h1]
    · rw [if_neg h1]; by_cases h2 : i = j <;> simp [h1, h2]
  | .int _, .tup _, _, _, b, h => by simp [cmpD] at h
  | .tup _, .int _, _, _, b, h => by simp [cmpD] at h
  | .tup l, .tup m, h1, h2, b, h => by
    rw [cmpD] at h
    rw [D.pr] at h1 h2
    rw [ltT, cT]
    exact cmpL_pr l m h1 h2 b h
  | .non, _, h, _, _, _ => by simp [D.pr] at h
  | .bl _, _, h, _, _, _ => by simp [D.pr] at h
  | .str _, _, h, _, _, _ => by simp [D.pr] at h
  | .lst _, _, h, _, _, _ => by simp [D.pr] at h
  | _, .non, _, h, _, _ => by simp [D.pr] at h
  | _, .bl _, _, h, _, _ => by simp [D.pr] at h
  | _, .str _, _, h, _, _ => by simp [D.pr] at h
  | _, .lst _, _, h, _, _ => by simp [D.pr] at h
theorem cmpL_pr : ∀ l m : List D, D.prL l = true → D.prL m = true → ∀ b, cmpL .Lt l m = some b → b = (cL l m == .lt)
  | [], [], _, _, b, h => by rw [cmpL] at h; rw [← Option.some.inj h]; simp [icmp, cL]
  | [], _ :: _, _, _, b, h => by rw [cmpL] at h; rw [← Option.some.inj h]; simp [icmp, cL] <;> omega
  | _ :: _, [], _, _, b, h => by rw [cmpL] at h; rw [← Option.some.inj h]; simp [icmp, cL] <;> omega
  | x :: l, y :: m, h1, h2, b, h => by
    rw [D.prL, Bool.and_eq_true] at h1 h2
    rw [cmpL, eqb_pr x y h1.1 h2.1] at h
    rw [cL]
    cases hc : cT x y with
    | eq => rw [hc] at h; simp at h; exact cmpL_pr l m h1.2 h2.2 b h
    | lt => rw [hc] at h; simp at h; have := cmpD_pr x y h1.1 h2.1 b h; rw [this, ltT, hc]
    | gt => rw [hc] at h; simp at h; have := cmpD_pr x y h1.1 h2.1 b h; rw [this, ltT, hc]
end
section
variable {α : Type} (lt : α → α → Bool)
def insS (x : α) : List α → List α
  | [] => [x]
  | y :: l => if lt y x = true then y :: insS x l else x :: y :: l
def sortS : List α → List α
  | [] => []
  | x :: l => insS lt x (sortS l)
theorem insS_perm (x : α) : ∀ l : List α, (insS lt x l).Perm (x :: l)
  | [] => List.Perm.refl _
  | y :: l => by
    rw [insS]
    split
    · exact ((insS_perm x l).cons y).trans (List.Perm.swap x y l)
    · exact List.Perm.refl _
theorem sortS_perm : ∀ l : List α, (sortS lt l).Perm l
  | [] => List.Perm.refl _
  | x :: l => (insS_perm lt x _).trans ((sortS_perm l).cons x)
theorem insS_map {β : Type} (ltb : β → β → Bool) (f : α → β) (x : α) : ∀ l : List α, (∀ y ∈ l, ltb (f y) (f x) = lt y x) → insS ltb (f x) (l.map f) = (insS lt x l).map f
  | [], _ => rfl
  | y :: l, h => by
    rw [List.map_cons, insS, insS, h y List.mem_cons_self]
    split
    · rw [List.map_cons, insS_map ltb f x l fun z hz => h z (List.mem_cons_of_mem _ hz)]
    · rfl
theorem sortS_map {β : Type} (ltb : β → β → Bool) (f : α → β) : ∀ l : List α, (∀ x ∈ l, ∀ y ∈ l, ltb (f y) (f x) = lt y x) → sortS ltb (l.map f) = (sortS lt l).map f
  | [], _ => rfl
  | x :: l, h => by
    rw [List.map_cons, sortS, sortS, sortS_map ltb f l fun a ha b hb => h a (List.mem_cons_of_mem _ ha) b (List.mem_cons_of_mem _ hb)]
    exact insS_map lt ltb f x _ fun y hy => h x List.mem_cons_self y (List.mem_cons_of_mem _ ((sortS_perm lt l).mem_iff.mp hy))
end
theorem insS_SL {lt : Nat → Nat → Bool} (W : Wk lt) {x : Nat} : ∀ {l : List Nat}, l.Pairwise (SL lt) → (∀ y ∈ l, x < y) → (insS lt x l).Pairwise (SL lt)
  | [], _, _ => List.pairwise_singleton _ _
  | y :: l, h, hx => by
    rw [List.pairwise_cons] at h
    rw [insS]
    cases hl : lt y x with
    | true =>
      rw [if_pos rfl, List.pairwise_cons]
      refine ⟨fun z hz => ?_, insS_SL W h.2 fun z hz => hx z (List.mem_cons_of_mem _ hz)⟩
      rcases List.mem_cons.mp ((insS_perm lt x l).mem_iff.mp hz) with rfl | hz
      · exact .inl hl
      · exact h.1 z hz
    | false =>
      rw [if_neg Bool.false_ne_true, List.pairwise_cons]
      have first : SL lt x y := .inr ⟨hl, hx y List.mem_cons_self⟩
      refine ⟨fun z hz => ?_, List.pairwise_cons.mpr h⟩
      rcases List.mem_cons.mp hz with rfl | hz
      · exact first
      · exact SL.trans W first (h.1 z hz)
theorem sortS_SL {lt : Nat → Nat → Bool} (W : Wk lt) : ∀ {l : List Nat}, l.Pairwise (· < ·) → (sortS lt l).Pairwise (SL lt)
  | [], _ => List.Pairwise.nil
  | x :: l, h => by
    rw [List.pairwise_cons] at h
    exact insS_SL W (sortS_SL W h.2) fun y hy => h.1 y ((sortS_perm lt l).mem_iff.mp hy)
theorem sort_unique {lt : Nat → Nat → Bool} (W : Wk lt) {n : Nat} {p : List Nat} (hp : p.Perm (List.range n)) (hs : p.Pairwise (SL lt)) : p = sortS lt (List.range n) := by
  refine List.Perm.eq_of_pairwise (fun x y _ _ h1 h2 => (SL.asym W h1 h2).elim) hs (sortS_SL W List.pairwise_lt_range) (hp.trans (sortS_perm lt _).symm)
theorem sort_data {ds : List D} {p : List Nat} (hp : p.Perm (List.range ds.length)) (hs : p.Pairwise (SL fun i j => ltT (ds.getD i .non) (ds.getD j .non))) : p.map (fun i => ds.getD i .non) = sortS ltT ds := by
  rw [sort_unique (wk_D fun i => ds.getD i .non) hp hs, ← sortS_map _ ltT (fun i => ds.getD i .non) _ fun x _ y _ => rfl]
  congr 1
  apply List.ext_getElem?
  intro i
  by_cases hi : i < ds.length
  · simp [hi]
  · simp [hi]
end PX
set_option Elab.async false
set_option linter.all false
set_option maxRecDepth 100000
set_option maxHeartbeats 4000000
namespace PX
open PySem PySem.Spec PyProof.Rows L2 PySem.SeqAt TS
def headK : D → Option Nat
  | .int _ => some 0
  | .tup (.int _ :: _) => some 1
  | .tup (.tup _ :: _) => some 2
  | _ => none
def kindK : Nat → SortKind
  | 0 => oneType'
  | 1 => tuples' true
  | _ => tuples' false
structure SortsBy (k : Nat) (l : List D) : Prop where
  hd : ∀ x ∈ l, headK x = some k
  pr : ∀ x ∈ l, D.pr x = true
  dp : ∀ x ∈ l, x.dep ≤ 50
  cm : ∀ x ∈ l, ∀ y ∈ l, (cmpD .Lt x y).isSome = true
def sortOk (l : List D) : Bool := l.length ≤ 1 || match l with
  | [] => true
  | x :: _ => (headK x).isSome && (l.all fun y => headK y == headK x && D.pr y && decide (y.dep ≤ 50)) && l.all fun y => l.all fun z => (cmpD .Lt y z).isSome
theorem sortOk_by {l : List D} (h : sortOk l = true) : l.length ≤ 1 ∨ ∃ k, SortsBy k l := by
  unfold sortOk at h
  rw [Bool.or_eq_true] at h
  rcases h with h | h
  · left; simpa using h
  · right
    cases l with
    | nil => exact ⟨0, fun x hx => absurd hx List.not_mem_nil, fun x hx => absurd hx List.not_mem_nil, fun x hx => absurd hx List.not_mem_nil, fun x hx => absurd hx List.not_mem_nil⟩
    | cons x m =>
      simp only [Bool.and_eq_true, List.all_eq_true, decide_eq_true_eq] at h
      obtain ⟨⟨h1, h2⟩, h3⟩ := h
      obtain ⟨k, hk⟩ := Option.isSome_iff_exists.mp h1
      refine ⟨k, fun y hy => ?_, fun y hy => (h2 y hy).1.2, fun y hy => (h2 y hy).2, fun y hy z hz => h3 y hy z hz⟩
      have := (h2 y hy).1.1
      rw [hk] at this
      simpa using this
section
variable {X : Cx} {pins : List (Addr × Obj)} {σ : L2.St} {H : Hp} {s : Shared}
theorem vals_getD {xs : List V} {its : List Value} (v : Vals xs its) {i : Nat} (hi : i < its.length) : RelV (xs.getD i .non) (its.getD i Value.none) := by
  have e := v.length
  have hx : xs[i]? = some xs[i] := List.getElem?_eq_getElem (by omega)
  obtain ⟨w, w1, w2⟩ := v.get hx
  have h1 : xs.getD i .non = xs[i] := by simp [show i < xs.length by omega]
  have h2 : its.getD i Value.none = w := by
    rw [List.getElem?_eq_getElem hi] at w1
    have := Option.some.inj w1
    simp [hi, this]
  rw [h1, h2]; exact w2
theorem reps_getD {O : AP'} {ds : List D} {xs : List V} (r : RepL X.K H O ds xs) {i : Nat} (hi : i < ds.length) : Rep X.K H O (ds.getD i .non) (xs.getD i .non) := by
  have e := r.length
  have hd : ds[i]? = some ds[i] := List.getElem?_eq_getElem hi
  obtain ⟨v, v1, v2⟩ := r.get hd
  have h1 : ds.getD i .non = ds[i] := by simp [hi]
  have h2 : xs.getD i .non = v := by
    rw [List.getElem?_eq_getElem (by omega)] at v1
    have := Option.some.inj v1
    simp [show i < xs.length by omega, this]
  rw [h1, h2]; exact v2
theorem mem_getD {ds : List D} {i : Nat} (hi : i < ds.length) : ds.getD i .non ∈ ds := by simp [hi]
theorem katLex_D (I : Inv X pins σ H s) {A : Around} {b : Bool} {O O' : AP'} (hA : A.units + 60 < cLine) {r : Bool} {Q : Bool → Shared → Prop} (hQ : Q r s) : ∀ (l m : List D) (xs ys : List V) (its its2 : List Value) (k : Int) (i : Nat), D.depL l ≤ 50 → D.depL m ≤ 50 →
    ((b && i == 0) = true → ∀ x y l' m', l = x :: l' → m = y :: m' → (∃ a, x = .int a) ∧ ∃ c, y = .int c) → RepL X.K H O l xs → RepL X.K H O' m ys → Vals xs its → Vals ys its2 → cmpL .Lt l m = some r →
    ∀ fin : Bool, fin = icmp .Lt (its.length + k) (its2.length + k) → PySem.W.KatLex X.prog X.w A b fin Q (its.zip its2) i s
  | [], m, xs, ys, its, its2, k, i, _, _, _, r1, r2, v1, v2, hc, fin, hf => by
    rw [RepL] at r1; subst r1; cases v1
    rw [cmpL] at hc
    have e1 := r2.length; have e2 := v2.length
    show Q fin s
    rw [hf, icmp_shift]
    rw [← Option.some.inj hc] at hQ
    have : icmp .Lt ((([] : List Value).length : Nat) : Int) (its2.length : Int) = icmp .Lt 0 (m.length : Int) := by congr 1; omega
    rw [this]; exact hQ
  | x :: l, [], xs, ys, its, its2, k, i, _, _, _, r1, r2, v1, v2, hc, fin, hf => by
    rw [RepL] at r2; subst r2; cases v2
    rw [cmpL] at hc
    have e1 := r1.length; have e2 := v1.length
    rw [List.zip_nil_right]
    show Q fin s
    rw [hf, icmp_shift]
    rw [← Option.some.inj hc] at hQ
    have : icmp .Lt (its.length : Int) ((([] : List Value).length : Nat) : Int) = icmp .Lt (((x :: l).length : Nat) : Int) 0 := by congr 1; omega
    rw [this]; exact hQ
  | x :: l, y :: m, xs, ys, its, its2, k, i, hdep, hdm, hb, r1, r2, v1, v2, hc, fin, hf => by
    rw [RepL] at r1 r2
    obtain ⟨vx, xr, rfl, g1, g2⟩ := r1
    obtain ⟨vy, yr, rfl, g3, g4⟩ := r2
    cases v1 with
    | cons a1 a2 =>
      cases v2 with
      | cons b1 b2 =>
        rw [cmpL] at hc
        rw [D.depL] at hdep hdm
        rw [List.zip_cons_cons]
        refine PySem.W.kat_cons (eqAt_D I 50 x y vx vy _ _ O O' A (.inl g1) (.inl g3) a1 b1 (by omega) (by omega) (by omega) X.prog X.w _ _ ?_)
        cases hq : D.eqb x y with
        | true =>
          rw [hq, if_pos rfl] at hc
          refine PySem.W.kat_yes (katLex_D I hA hQ l m xr yr _ _ (k + 1) (i + 1) (by omega) (by omega) (fun h => by simp at h) g2 g4 a2 b2 hc fin ?_)
          rw [hf]
          simp only [List.length_cons]
          have e : ∀ a : Nat, (((a + 1 : Nat) : Int) + k) = (a : Int) + (k + 1) := fun a => by omega
          rw [e, e]
        | false =>
          rw [hq, if_neg Bool.false_ne_true] at hc
          refine PySem.W.kat_no ?_
          cases hbi : (b && i == 0) with
          | true =>
            obtain ⟨⟨a, rfl⟩, c, rfl⟩ := hb hbi x y l m rfl rfl
            have := g1.int; subst this; have := g3.int; subst this
            obtain ⟨t, rfl⟩ := a1; obtain ⟨t', rfl⟩ := b1
            rw [cmpD] at hc
            rw [← Option.some.inj hc] at hQ
            exact oneLt_int hQ
          | false =>
            exact PySem.W.kat_one _ _ (rcop_D (.inl rfl) I 50 x y vx vy _ _ O O' A r (.inl g1) (.inl g3) a1 b1 (by omega) (by omega) (by omega) hc X.prog X.w _ _ hQ)
theorem ask_D (I : Inv X pins σ H s) {O : AP'} {ds : List D} {xs : List V} {its : List Value} {A : Around} {E : Value → Shared → Prop} (hA : A.units + 60 < cLine) (rr : RepL X.K H O ds xs) (v : Vals xs its) {k : Nat} (B : SortsBy k ds) :
    Ask X.prog X.w A E (fun s' => s' = s) (itOf its) (kindK k) its.length (fun i j => ltT (ds.getD i .non) (ds.getD j .non)) := by
  intro i j hi hj s' hs' E'
  subst hs'
  have e1 := rr.length; have e2 := v.length
  have mi : ds.getD i .non ∈ ds := mem_getD (by omega)
  have mj : ds.getD j .non ∈ ds := mem_getD (by omega)
  have ri := reps_getD rr (i := i) (by omega); have rj := reps_getD rr (i := j) (by omega)
  have vi := vals_getD v hi; have vj := vals_getD v hj
  obtain ⟨b, hb⟩ := Option.isSome_iff_exists.mp (B.cm _ mi _ mj)
  have hlt := cmpD_pr _ _ (B.pr _ mi) (B.pr _ mj) b hb
  have hki := B.hd _ mi; have hkj := B.hd _ mj
  have di := B.dp _ mi
  have dj := B.dp _ mj
  show wpAny _ _ (keyLt' (kindK k) (its.getD i Value.none) (its.getD j Value.none)) _ _ _
  dsimp only
  rw [← hlt]
  generalize ds.getD i .non = x at *
  generalize ds.getD j .non = y at *
  generalize xs.getD i .non = vx at *
  generalize xs.getD j .non = vy at *
  generalize its.getD i Value.none = a at *
  generalize its.getD j Value.none = c at *
  have tups : ∀ (l m : List D) (bb : Bool), x = .tup l → y = .tup m → (bb = true → ∀ x y l' m', l = x :: l' → m = y :: m' → (∃ a, x = .int a) ∧ ∃ c, y = .int c) → wpAny (model X.prog X.w) A (keyLt' (tuples' bb) a c) (fun b' s'' => s'' = s' ∧ b' = b) E' s' := fun l m bb hl hm hh => by
    subst hl hm
    obtain ⟨p, us, rfl, q, r1⟩ := ri.tup
    obtain ⟨p2, ws, rfl, q2, r2⟩ := rj.tup
    cases vi; cases vj
    obtain ⟨is1, w1, ⟨o, ho, hc, n, hd⟩, _⟩ := I.tuple q.sq
    obtain ⟨is2, w2, ⟨o2, ho2, hc2, n2, hd2⟩, _⟩ := I.tuple q2.sq
    rw [cmpD] at hb
    rw [D.dep] at di dj
    refine PySem.W.kat_lt ho hd ho2 hd2 ?_
    have := katLex_D I (b := bb) hA (Q := fun b' s'' => s'' = s' ∧ b' = b) ⟨rfl, rfl⟩ l m us ws is1 is2 0 0 (by omega) (by omega) (fun h => hh (by simpa using h)) r1 r2 w1 w2 hb (decide (is1.toArray.size < is2.toArray.size)) (by simp [icmp])
    simpa using this
  match k, hki, hkj with
  | 0, hki, hkj =>
    cases x with
    | int ix =>
      cases y with
      | int iy =>
        have := ri.int; subst this; have := rj.int; subst this
        obtain ⟨t, rfl⟩ := vi; obtain ⟨t', rfl⟩ := vj
        rw [cmpD] at hb
        rw [← Option.some.inj hb]
        show wpAny _ _ (keyLt' oneType' _ _) _ _ _
        rw [keyLt'_oneType]
        exact oneLt_int ⟨rfl, rfl⟩
      | tup m => cases m with
        | nil => simp [headK] at hkj
        | cons z m => cases z <;> simp [headK] at hkj
      | _ => simp [headK] at hkj
    | tup m => cases m with
      | nil => simp [headK] at hki
      | cons z m => cases z <;> simp [headK] at hki
    | _ => simp [headK] at hki
  | 1, hki, hkj =>
    cases x with
    | tup l =>
      cases y with
      | tup m =>
        refine tups l m true rfl rfl fun _ x y l' m' hl hm => ?_
        subst hl hm
        refine ⟨?_, ?_⟩
        · cases x with
          | int a => exact ⟨a, rfl⟩
          | _ => simp [headK] at hki
        · cases y with
          | int a => exact ⟨a, rfl⟩
          | _ => simp [headK] at hkj
      | _ => simp [headK] at hkj
    | _ => simp [headK] at hki
  | (n + 2), hki, hkj =>
    cases x with
    | tup l =>
      cases y with
      | tup m => exact tups l m false rfl rfl fun h => absurd h Bool.false_ne_true
      | _ => simp [headK] at hkj
    | _ => simp [headK] at hki
end
end PX
set_option Elab.async false
set_option linter.all false
set_option maxRecDepth 100000
set_option maxHeartbeats 4000000
namespace PX
open PySem PySem.Spec PyProof.Rows L2 PySem.SeqAt TS PySem.W
section
variable {X : Cx} {pins : List (Addr × Obj)} {σ : L2.St} {H : Hp} {s : Shared}
theorem firsts_D (I : Inv X pins σ H s) {O : AP'} {T : Value} (P : D → Prop) (hP : ∀ x v u, P x → Rep X.K H O x v → RelV v u → Looks (model X.prog X.w) s.heap (typeOf u) T) : ∀ {ds : List D} {xs : List V} {its : List Value}, RepL X.K H O ds xs → Vals xs its →
    (∀ d ∈ ds, ∃ x l, d = .tup (x :: l) ∧ P x) → ∃ fs, KatTups s.heap its fs ∧ fs.length = its.length ∧ ∀ f ∈ fs, Looks (model X.prog X.w) s.heap (typeOf f) T
  | [], xs, its, r, v, _ => by
    rw [RepL] at r; subst r; cases v
    exact ⟨[], KatTups.nil, rfl, fun f hf => absurd hf List.not_mem_nil⟩
  | d :: ds, xs, its, r, v, h => by
    rw [RepL] at r
    obtain ⟨vx, xr, rfl, g1, g2⟩ := r
    cases v with
    | cons a1 a2 =>
      obtain ⟨fs, k1, k2, k3⟩ := firsts_D I P hP g2 a2 fun d hd => h d (List.mem_cons_of_mem _ hd)
      obtain ⟨x, l, rfl, px⟩ := h d List.mem_cons_self
      obtain ⟨p, us, rfl, q, r1⟩ := g1.tup
      cases a1
      obtain ⟨is1, w1, ⟨o, ho, hc, n, hd⟩, _⟩ := I.tuple q.sq
      rw [RepL] at r1
      obtain ⟨vy, yr, rfl, g3, g4⟩ := r1
      cases w1 with
      | cons b1 b2 =>
        rename_i f fr
        refine ⟨f :: fs, KatTups.cons ho hc hd (by simp) k1, by simp [k2], fun g hg => ?_⟩
        rcases List.mem_cons.mp hg with rfl | hg
        · exact hP x vy _ px g3 b1
        · exact k3 g hg
theorem kind_D (I : Inv X pins σ H s) {O : AP'} {ds : List D} {xs : List V} {its : List Value} {A : Around} (rr : RepL X.K H O ds xs) (v : Vals xs its) {k : Nat} (B : SortsBy k ds) (h2 : 2 ≤ its.length) :
    wpAny (model X.prog X.w) A (keyKind' its.toArray) (fun κ' s' => s' = s ∧ κ' = kindK k) (fun _ _ => False) s := by
  have e1 := rr.length; have e2 := v.length
  match k, B with
  | 0, B =>
    refine kas_kind (T := .type "int") h2 (fun u hu => ?_) rfl rfl ⟨rfl, rfl⟩
    obtain ⟨i, hi, e⟩ := List.getElem_of_mem hu
    have ri := reps_getD rr (i := i) (by omega)
    have vi := vals_getD v hi
    have hd := B.hd _ (mem_getD (ds := ds) (i := i) (by omega))
    have : its.getD i Value.none = u := by simp [hi, e]
    rw [this] at vi
    cases hx : ds.getD i .non with
    | int a =>
      rw [hx] at ri
      have := ri.int
      rw [this] at vi
      obtain ⟨t, rfl⟩ := vi
      exact Looks.of_pure rfl
    | tup l =>
      rw [hx] at hd
      cases l with
      | nil => simp [headK] at hd
      | cons z m => cases z <;> simp [headK] at hd
    | _ => rw [hx] at hd; simp [headK] at hd
  | 1, B =>
    obtain ⟨fs, f1, f2, f3⟩ := firsts_D I (T := .type "int") (fun x => ∃ a, x = .int a) (fun x vv u px rx rv => by
      obtain ⟨a, rfl⟩ := px
      have := rx.int; subst this
      obtain ⟨t, rfl⟩ := rv
      exact Looks.of_pure rfl) rr v fun d hd => by
        have := B.hd d hd
        cases d with
        | tup l =>
          cases l with
          | nil => simp [headK] at this
          | cons z m =>
            cases z with
            | int a => exact ⟨_, m, rfl, a, rfl⟩
            | _ => simp [headK] at this
        | _ => simp [headK] at this
    exact kat_kind f1 (by omega) f3 rfl ⟨rfl, rfl⟩
  | (n + 2), B =>
    obtain ⟨fs, f1, f2, f3⟩ := firsts_D I (T := .type "tuple") (fun x => ∃ a, x = .tup a) (fun x vv u px rx rv => by
      obtain ⟨a, rfl⟩ := px
      obtain ⟨p, us, rfl, q, r1⟩ := rx.tup
      cases rv
      obtain ⟨is1, w1, ⟨o, ho, hc, n, hd⟩, _⟩ := I.tuple q.sq
      have : Looks (model X.prog X.w) s.heap (typeOf (.ref p)) o.cls := (Looks.ld ho).andThen .now
      rw [hc] at this; exact this) rr v fun d hd => by
        have := B.hd d hd
        cases d with
        | tup l =>
          cases l with
          | nil => simp [headK] at this
          | cons z m =>
            cases z with
            | tup a => exact ⟨_, m, rfl, a, rfl⟩
            | _ => simp [headK] at this
        | _ => simp [headK] at this
    exact kat_kind f1 (by omega) f3 rfl ⟨rfl, rfl⟩
def gSortedL (l : List D) : Option (D × Bool) := if sortOk l = true ∧ l.length < 64 then some (.lst (sortS ltT l), true) else none
def gSorted (d : D) : Option (D × Bool) := (seqOf d).bind gSortedL
theorem vals_map {xs : List V} {its : List Value} (v : Vals xs its) : ∀ (p : List Nat), (∀ i ∈ p, i < its.length) → Vals (p.map fun i => xs.getD i .non) (p.map fun i => its.getD i Value.none)
  | [], _ => .nil
  | i :: p, h => .cons (vals_getD v (h i List.mem_cons_self)) (vals_map v p fun j hj => h j (List.mem_cons_of_mem _ hj))
theorem reps_map {O : AP'} {ds : List D} {xs : List V} (r : RepL X.K H O ds xs) : ∀ (p : List Nat), (∀ i ∈ p, i < ds.length) → RepL X.K H O (p.map fun i => ds.getD i .non) (p.map fun i => xs.getD i .non)
  | [], _ => RepL.nil
  | i :: p, h => RepL.cons (reps_getD r (h i List.mem_cons_self)) (reps_map r p fun j hj => h j (List.mem_cons_of_mem _ hj))
theorem small_sort {ds : List D} {n : Nat} (hl : n = ds.length) (h1 : ds.length ≤ 1) {p : List Nat} (hp : p.Perm (List.range n)) : p.map (fun i => ds.getD i .non) = sortS ltT ds := by
  subst hl
  match ds, h1, hp with
  | [], _, hp =>
    have : p = [] := by simpa using hp.length_eq
    subst this; rfl
  | [d], _, hp =>
    have hl : p.length = 1 := by simpa using hp.length_eq
    match p, hl, hp with
    | [i], _, hp =>
      have : i = 0 := by have := hp.mem_iff.mp (List.mem_singleton.mpr rfl); simpa using this
      subst this; rfl
theorem sorted_go (hu : X.A.units + 62 < cLine) (I : Inv X pins σ H s) {O : AP'} {ds : List D} {xs : List V} {its : List Value} {x : Value} {Q : VK} {z : D × Bool} (rr : RepL X.K H O ds xs) (v : Vals xs its) (hg : gSortedL ds = some z) (G : Gen X.K H O z Q)
    (hc : ∀ (Q' : List Value → Shared → Prop) (E' : Value → Shared → Prop) (A' : Around), A'.handled = X.A.handled → (∀ (h' : Heap) (tk : Nat), (∀ b o, s.heap.get? b = some o → h'.get? b = some o) → Q' its { s with heap := h', toks := tk }) → wpAny (model X.prog X.w) A' (collect x) Q' E' s) :
    wpAny (model X.prog X.w) X.A (call (.builtin "sorted") [x]) (EP X pins σ Q) X.xe s := by
  unfold gSortedL at hg
  obtain ⟨⟨hok, hz⟩, rfl⟩ := ite_some hg
  have h16 : (64 : Nat) ≤ sizeLine := by decide
  have e1 := rr.length; have e2 := v.length
  refine Calls.call_function_entry kind_sorted plain_sorted entry_sorted (args_sorted1 _) ?_
  unfold Builtin.«sorted»
  refine wpAny_bind (m := checkCount "sorted" 1 1 _) (wpAny_pure ?_)
  refine wpAny_bind (hc _ _ _ rfl fun h1 tk k1 => ?_)
  refine wpAny_bind (wpAny_newList ?_ (by omega))
  have ho : (h1.push (seqObj "list" its.toArray 0)).get? h1.objs.size = some (seqObj "list" its.toArray 0) := Heap.get?_push_size _ rfl
  have I1 : Inv X pins σ H { s with heap := h1, toks := tk } := I.kept k1
  have keep : ∀ b o, h1.get? b = some o → (sortH (h1.push (seqObj "list" its.toArray 0)) h1.objs.size its).get? b = some o := fun b o e' => by
    have hb : b ≠ h1.objs.size := Nat.ne_of_lt (Heap.lt_size e')
    refine Heap.get?_push_of_some _ (Heap.get?_push_of_some _ ?_)
    rw [Heap.get?_update_ne _ _ _ _ hb]
    exact Heap.get?_push_of_some _ e'
  have I2 : Inv X pins σ H { s with heap := sortH (h1.push (seqObj "list" its.toArray 0)) h1.objs.size its, toks := tk } := I1.kept keep
  have hl1 : ∀ i ∈ List.range its.length, i < its.length := fun i hi => by simpa using hi
  refine wpAny_bind (wpAny_holding (wpAny_call_entry (s := { s with heap := h1.push (seqObj "list" its.toArray 0), toks := tk }) slot_list_sort ⟨_, ho, rfl⟩ entry_list_sort ?body (args_list_sort _)))
  case body =>
    have fin : ∀ p : List Nat, p.Perm (List.range its.length) → p.map (fun i => ds.getD i .non) = sortS ltT ds → EP X pins σ Q (.ref h1.objs.size) { s with heap := (sortH (h1.push (seqObj "list" its.toArray 0)) h1.objs.size its).update h1.objs.size (Obj.mapSeq fun _ => (p.map fun i => its.getD i Value.none).toArray), toks := tk } := fun p hp hs => by
      have pi : ∀ i ∈ p, i < its.length := fun i hi => by simpa using hp.mem_iff.mp hi
      have ob : ∃ n, (sortH (h1.push (seqObj "list" its.toArray 0)) h1.objs.size its).get? h1.objs.size = some (seqObj "list" #[] n) := by
        obtain ⟨e1, ho1⟩ : ∃ e1, ((h1.push (seqObj "list" its.toArray 0)).update h1.objs.size (Obj.mapSeq fun _ => (#[] : Array Value))).get? h1.objs.size = some (seqObj "list" #[] e1) := ⟨_, get?_update_seq ho fun _ => #[]⟩
        exact ⟨e1, Heap.get?_push_of_some _ (Heap.get?_push_of_some _ ho1)⟩
      obtain ⟨n, ob⟩ := ob
      obtain ⟨c2, hc2⟩ : ∃ c2, ((sortH (h1.push (seqObj "list" its.toArray 0)) h1.objs.size its).update h1.objs.size (Obj.mapSeq fun _ => (p.map fun i => its.getD i Value.none).toArray)).get? h1.objs.size = some (seqObj "list" (p.map fun i => its.getD i Value.none).toArray c2) := ⟨_, get?_update_seq ob fun _ => (p.map fun i => its.getD i Value.none).toArray⟩
      have keep2 : ∀ b o, h1.get? b = some o → ((sortH (h1.push (seqObj "list" its.toArray 0)) h1.objs.size its).update h1.objs.size (Obj.mapSeq fun _ => (p.map fun i => its.getD i Value.none).toArray)).get? b = some o := fun b o e' => by
        rw [Heap.get?_update_ne _ _ _ _ (Nat.ne_of_lt (Heap.lt_size e'))]
        exact keep b o e'
      have pl : p.length = its.length := by simpa using hp.length_eq
      refine ⟨.ref h1.objs.size, _, I1.laid (t' := tk) keep2 (Nat.le_refl _) (show ObjOk X.prog X.w _ _ _ (.lst (p.map fun i => xs.getD i .non)) from ⟨by rw [List.length_map]; omega, _, c2, vals_map v p pi, hc2⟩), rfl, ?_⟩
      refine G.lst I1.fresh ?_
      rw [← hs]
      exact reps_map rr p fun i hi => by have := pi i hi; omega
    rcases sortOk_by hok with hlen | ⟨k, B⟩
    · refine list_sort_any (κ := general') (lt := fun _ _ => false) (s := { s with heap := h1.push (seqObj "list" its.toArray 0), toks := tk }) ho (by omega) (Wk.mk (fun _ => rfl) (fun _ _ _ h => absurd h Bool.false_ne_true) (fun _ _ _ h => absurd h Bool.false_ne_true)) (fun h => by omega) (fun h => by omega) fun p hp _ => ⟨_, rfl, wpAny_pure ⟨_, rfl, fin p hp ?_⟩⟩
      exact small_sort (by omega) hlen hp
    · refine list_sort_any (κ := kindK k) (lt := fun i j => ltT (ds.getD i .non) (ds.getD j .non)) (s := { s with heap := h1.push (seqObj "list" its.toArray 0), toks := tk }) ho (by omega) (wk_D _) (fun h => kind_D I2 rr v B h) (fun _ => ask_D (A := X.A.in1.in1) I2 (by show X.A.units + 1 + 1 + 60 < cLine; omega) rr v B) fun p hp hs => ⟨_, rfl, wpAny_pure ⟨_, rfl, fin p hp (sort_data (by rw [show ds.length = its.length by omega]; exact hp) hs)⟩⟩
theorem call_sortedD (hu : X.A.units + 62 < cLine) : CallR X (.builtin "sorted") (rDn X.K (g1 gSorted)) := callr1 fun pins s σ H x u Q O d z I ru np hd hg G => by
  obtain ⟨l, hl, hg⟩ := bind_some' hg
  have hz : l.length ≤ sizeLine := by
    unfold gSortedL at hg
    exact Nat.le_trans (Nat.le_of_lt (ite_some hg).1.2) (by decide)
  cases d with
  | lst m =>
    cases hl
    obtain ⟨p, xs, rfl, q, r⟩ := view_lst hd
    cases ru
    obtain ⟨its, v, pl, _⟩ := I.list q
    have e1 := r.length; have e2 := v.length
    obtain ⟨o, ho, hc, n, hd⟩ := pl.isList
    refine sorted_go hu I r v hg G fun Q' E' A' _ hQ => wpAny_collect_seq p (.inl rfl) ho hc hd (fun h' k => by simpa using hQ h' s.toks k) (by rw [List.size_toArray]; omega)
  | tup m =>
    cases hl
    obtain ⟨p, xs, rfl, q, r⟩ := view_tup hd
    cases ru
    obtain ⟨its, v, ⟨o, ho, hc, n, hd⟩, _⟩ := I.tuple q
    have e1 := r.length; have e2 := v.length
    refine sorted_go hu I r v hg G fun Q' E' A' _ hQ => wpAny_collect_seq p (.inr rfl) ho hc hd (fun h' k => by simpa using hQ h' s.toks k) (by rw [List.size_toArray]; omega)
  | _ => cases hl
theorem bt_sorted : bootBuiltins "sorted" = some (.builtin "sorted") := by decide +kernel
end
end PX
set_option Elab.async false
set_option linter.all false
set_option maxRecDepth 100000
set_option maxHeartbeats 4000000
namespace PX
open PySem PySem.Spec PyProof.Rows L2 PySem.SeqAt
theorem bt_isinstance : bootBuiltins "isinstance" = some (.builtin "isinstance") := by decide +kernel
theorem bt_bool : bootBuiltins "bool" = some (.type "bool") := by decide +kernel
theorem bt_max : bootBuiltins "max" = some (.builtin "max") := by decide +kernel
theorem bt_min : bootBuiltins "min" = some (.builtin "min") := by decide +kernel
theorem bt_all : bootBuiltins "all" = some (.builtin "all") := by decide +kernel
structure Tx (mg : Str → Option Value) : Prop where
  n_len : mg "len" = none
  n_abs : mg "abs" = none
  n_int : mg "int" = none
  n_tuple : mg "tuple" = none
  n_list : mg "list" = none
  n_range : mg "range" = none
  n_isinstance : mg "isinstance" = none
  n_bool : mg "bool" = none
  n_max : mg "max" = none
  n_min : mg "min" = none
  n_all : mg "all" = none
  n_any : mg "any" = none
  n_sorted : mg "sorted" = none
  n_enumerate : mg "enumerate" = none
  n_zip : mg "zip" = none
  n_set : mg "set" = none
theorem fn_zero {P : Program} {w : World} {K : PySem.W.Frag} {mg : Str → Option Value} {base : Heap} {f : Addr} {fd : FuncData} {ps : List Str} {k : Nat} : FnOk P w K mg base CX0 k f fd ps (spF K fun _ => none) where
  len := fun vs H Q E h => by
    obtain ⟨T, args, r, outs, _, e, _⟩ := h
    cases e
  run := fun A outer s H args us vs Q E _ _ _ _ h => by
    obtain ⟨T, args, r, outs, _, e, _⟩ := h
    cases e
theorem reps_ints {K : PySem.W.Frag} {H : Hp} {O : AP'} : ∀ ns : List Int, RepL K H O (ns.map .int) (ns.map V.int)
  | [] => RepL.nil
  | n :: ns => RepL.cons Rep.mkInt (reps_ints ns)
theorem law_sp {K : PySem.W.Frag} {ev : EvF} {H : Hp} {a : Addr} {ns : List Int} (hS : SqL K H a (ns.map V.int)) {o : Bool} {outs : Dn} (h : ev [(.lst (ns.map .int), false)] = some ((.bl true, o), outs)) : spF K ev [.ref a] H (fun v _ => v = .bl true) fun _ _ _ => False := by
  have no : ∀ b, ¬ OwnA [some (V.ref a)] [some (D.lst (ns.map .int), false)] b := fun b ⟨i, d, h1, h2⟩ => by
    cases i with
    | zero => simp at h1
    | succ i => simp at h1
  refine ⟨fun _ => False, [(.lst (ns.map .int), false)], _, outs, ⟨rfl, fun i d hd => ?_, fun i d hd => ?_, fun i j d e b h1 => ?_, fun b z => absurd z (no b), fun b z => z.elim⟩, h, fun v H' P => ?_⟩
  · cases i with
    | zero =>
      simp at hd
      subst hd
      refine ⟨_, rfl, Rep.mkLst (a := a) (xs := ns.map V.int) ?_ (reps_ints ns)⟩
      exact hS.imp (fun z => ⟨z, fun z => z.elim (no a) id⟩) id
    | succ i => simp at hd
  · cases i with
    | zero => simp at hd
    | succ i => simp at hd
  · cases i with
    | zero => simp at h1
    | succ i => simp at h1
  · cases o with
    | false => exact P.2.2.bl
    | true =>
      obtain ⟨p, _, _, _, ok⟩ := P.2
      exact ok.elim
end PX
set_option Elab.async false
set_option linter.all false
set_option maxRecDepth 100000
set_option maxHeartbeats 4000000
namespace PX
open PySem PySem.Spec PyProof.Rows L2 PySem.SeqAt
def fChain (op op' : CmpOp) (fa fb fc : FO) : F := fun δ => (fa δ).bind fun p => (fb p.2).bind fun q => match res q.2 p.1, res q.2 q.1 with
  | some (.int i), some (.int j) => if icmp op i j = true then (fc q.2).bind fun r => match res r.2 r.1 with
      | some (.int k) => some ((.bl (icmp op' j k), false), r.2)
      | _ => none
    else some ((.bl false, false), q.2)
  | _, _ => none
section
variable {X : Cx} {a b c : Expr} {fa fb fc : FO} {pos : Pos} {op op' : CmpOp}
theorem opI_ord (h : isOrd op) : OpR X (compareOp op) (rI0 fun i j => .bl (icmp op i j)) := by
  rcases h with rfl | rfl | rfl | rfl
  · exact op_lt
  · exact op_le
  · exact op_gt
  · exact op_ge
theorem chain_imp {σ : L2.St} {H : Hp} {Q : VK} (hw : tF X.K (fChain op op' fa fb fc) σ H Q) : tChain (rI0 fun i j => .bl (icmp op i j)) (rI0 fun i j => .bl (icmp op' i j)) (tO X.K fa) (tO X.K fb) (tO X.K fc) σ H Q := by
  obtain ⟨δ, T, rr, δ', E, e, k⟩ := hw
  unfold fChain at e
  obtain ⟨⟨o1, δ1⟩, h1, e⟩ := bind_some' e
  obtain ⟨⟨o2, δ2⟩, h2, e⟩ := bind_some' e
  refine ⟨δ, T, o1, δ1, E, h1, fun v H1 P1 => ⟨δ1, TmpO T o1 v, o2, δ2, P1.er E, h2, fun u H2 P2 => ?_⟩⟩
  have B := Ops.cons E P1 (Ops.cons (P1.er E) P2 (Ops.nil (P2.er (P1.er E))))
  dsimp only at e
  split at e
  · rename_i i j hx hy
    have hv := view_int (B.view (j := 0) rfl rfl hx)
    have hu := view_int (B.view (j := 1) rfl rfl hy)
    refine ⟨i, j, hv, hu, icmp op i j, rfl, ?_⟩
    by_cases c : icmp op i j = true
    · rw [if_pos c] at e ⊢
      obtain ⟨⟨o3, δ3⟩, h3, e⟩ := bind_some' e
      dsimp only at e
      split at e
      · rename_i k' hz
        obtain ⟨rfl, rfl⟩ := some_pair e
        refine ⟨δ2, _, o3, δ3, P2.er (P1.er E), h3, fun w H3 P3 => ?_⟩
        have B3 := Ops.cons E P1 (Ops.cons (P1.er E) P2 (Ops.cons (P2.er (P1.er E)) P3 (Ops.nil (P3.er (P2.er (P1.er E))))))
        exact ⟨j, k', hu, view_int (B3.view (j := 2) rfl rfl hz), (B3.done k).bl⟩
      · cases e
    · rw [if_neg c] at e ⊢
      obtain ⟨rfl, rfl⟩ := some_pair e
      exact (B.done k).bl
  · cases e
theorem px_chain (ho : isOrd op) (ho' : isOrd op') (ha : PO X a fa) (hb : PO X b fb) (hc : PO X c fc) (hm : lastMarks [op, op'] [b, c] = false := by with_unfolding_all rfl) : PX X (.Compare a [op, op'] [b, c] pos) (fChain op op' fa fb fc) :=
  PX.imp (pe_chain (opI_ord ho) (opI_ord ho') ha hb hc hm) fun σ H Q hw => chain_imp hw
end
end PX
set_option Elab.async false
set_option linter.all false
set_option maxRecDepth 100000
set_option maxHeartbeats 4000000
namespace PX
open PySem PySem.Spec PyProof.Rows L2 PySem.SeqAt
def vIs (x : V) (c : Bool) : Bool := match x with
  | .bl b => b == c
  | _ => false
def gIsNot : D → D → Option (D × Bool)
  | .bl b, .bl c => some (.bl (!(b == c)), false)
  | _, .bl _ => some (.bl true, false)
  | .non, .non => some (.bl false, false)
  | _, .non => some (.bl true, false)
  | _, _ => none
section
variable {X : Cx}
theorem vIs_val {x : V} {v : Value} (rx : RelV x v) (c : Bool) : plainIs v (.bool c) = true ∧ (v == .bool c) = vIs x c := by
  cases x <;> first
    | (cases rx; exact ⟨rfl, rfl⟩)
    | (obtain ⟨t, rfl⟩ := rx; exact ⟨rfl, rfl⟩)
    | (rename_i b; cases rx; refine ⟨rfl, ?_⟩; cases b <;> cases c <;> rfl)
theorem opV_isNot : OpR X (compareOp .IsNot) (fun x y H Q => ∃ c, y = .bl c ∧ Q (.bl (!vIs x c)) H) := by
  intro pins s σ H x y v u Q I rx ry h
  obtain ⟨c, rfl, q⟩ := h
  cases ry
  obtain ⟨h1, h2⟩ := vIs_val rx c
  exact wpAny_isNot_plain h1 (fin_bl I q (by rw [h2]))
theorem view_bl' {K H} {O : AP'} {b : Bool} {v : V} (h : View K H O (.bl b) v) : v = .bl b := h.elim (fun h => h.bl) fun ⟨_, _, h⟩ => h.elim
theorem view_non' {K H} {O : AP'} {v : V} (h : View K H O .non v) : v = .non := h.elim (fun h => h.non) fun ⟨_, _, h⟩ => h.elim
theorem view_vIs {K H} {O : AP'} {d : D} {v : V} (h : View K H O d v) (nb : ∀ b, d ≠ .bl b) (c : Bool) : vIs v c = false := by
  cases d with
  | bl b => exact absurd rfl (nb b)
  | non => rw [view_non' h]; rfl
  | int i => rw [view_int h]; rfl
  | str x => rcases h with h | ⟨a, _, h⟩
             · rw [h.str]; rfl
             · exact h.elim
  | tup l => rcases h with h | ⟨a, _, h⟩
             · rw [Rep] at h; obtain ⟨a, xs, rfl, _⟩ := h; rfl
             · exact h.elim
  | lst l => rcases h with h | ⟨a, rfl, h⟩
             · rw [Rep] at h; obtain ⟨a, xs, rfl, _⟩ := h; rfl
             · rfl
  | oth _ _ _ => rcases h with h | ⟨a, rfl, h⟩
                 · rw [Rep] at h; obtain ⟨a, xs, rfl, _⟩ := h; rfl
                 · rfl
theorem view_ne_non {K H} {O : AP'} {d : D} {v : V} (h : View K H O d v) (nb : d ≠ .non) : v ≠ .non := by
  cases d with
  | bl b => rw [view_bl' h]; intro z; cases z
  | non => exact absurd rfl nb
  | int i => rw [view_int h]; intro z; cases z
  | str x => rcases h with h | ⟨a, _, h⟩
             · rw [h.str]; intro z; cases z
             · exact h.elim
  | tup l => rcases h with h | ⟨a, _, h⟩
             · rw [Rep] at h; obtain ⟨a, xs, rfl, _⟩ := h; intro z; cases z
             · exact h.elim
  | lst l => rcases h with h | ⟨a, rfl, h⟩
             · rw [Rep] at h; obtain ⟨a, xs, rfl, _⟩ := h; intro z; cases z
             · intro z; cases z
  | oth _ _ _ => rcases h with h | ⟨a, rfl, h⟩
                 · rw [Rep] at h; obtain ⟨a, xs, rfl, _⟩ := h; intro z; cases z
                 · intro z; cases z
theorem opr_isNot : OpR X (compareOp .IsNot) (rD X.K gIsNot) := by
  intro pins s σ H x y v u Q I rx ry h
  obtain ⟨O, d, e, z, np, h1, h2, hg, G⟩ := h
  cases e with
  | bl c =>
    have hy := view_bl' h2
    by_cases hb : ∃ b, d = .bl b
    · obtain ⟨b, rfl⟩ := hb
      cases hg
      refine opV_isNot pins s σ H x y v u Q I rx ry ⟨c, hy, ?_⟩
      rw [view_bl' h1]; exact G.bl
    · have nb : ∀ b, d ≠ .bl b := fun b z => hb ⟨b, z⟩
      have hz : z = (.bl true, false) := by cases d <;> first | exact absurd rfl (nb _) | (cases hg; rfl)
      subst hz
      refine opV_isNot pins s σ H x y v u Q I rx ry ⟨c, hy, ?_⟩
      rw [view_vIs h1 nb c]; exact G.bl
  | non =>
    have hy := view_non' h2
    by_cases hb : d = .non
    · subst hb
      cases hg
      refine op_notN pins s σ H x y v u Q I rx ry ⟨hy, ?_⟩
      rw [view_non' h1]; exact G.bl
    · have hz : z = (.bl true, false) := by cases d <;> first | exact absurd rfl hb | (cases hg; rfl)
      subst hz
      refine op_notN pins s σ H x y v u Q I rx ry ⟨hy, ?_⟩
      rw [decide_eq_false (view_ne_non h1 hb)]; exact G.bl
  | _ => cases d <;> cases hg
end
end PX
set_option Elab.async false
set_option linter.all false
set_option maxRecDepth 100000
set_option maxHeartbeats 4000000
namespace HT
open PySem PySem.Spec PyProof.Rows L2
section
variable {prog : Program} {w : World} {A : Around} {E : Value → Shared → Prop} {s : Shared}
theorem getItem_tuple_all {t sl : Addr} {items : Array Value} {vl vu : Value} {lo hi : Option Int} {Q : Value → Shared → Prop} (ht : IsTup s.heap t items) (hs : s.heap.IsSliceOf sl vl vu .none) (pl : IsPart vl lo) (pu : IsPart vu hi)
    (hw : sIx items.size 0 lo = 0 ∧ sIx items.size items.size hi = items.size) (h : Q (.ref t) s) : wpAny (model prog w) A (getItem (.ref t) (.ref sl)) Q E s := by
  obtain ⟨os, hos, hcs, hds⟩ := id hs
  have hTs : s.TypeIs (.ref sl) "slice" := ⟨os, hos, hcs⟩
  unfold getItem
  try with_reducible refine wpAny_holding ?_
  first | refine wpAny_bind (wpAny_pure ?_) | skip
  refine wpAny_bind (wpAny_sequenceKey ht.typeIs (by decide) ?_)
  refine wpAny_bind (wpAny_callSpecial?_slot (name := Str.ofString "__getitem__") ht.typeIs PyProof.Rows.slot_tuple_getitem
    (wpAny_call_entry PyProof.Rows.slot_tuple_getitem ht.typeIs entry_tuple_getitem ?_ (args_tuple_getitem _ _)))
  show wpAny _ _ (Builtin.Tuple.tupleItemsOf (.ref t) >>= _) _ _ s
  refine wpAny_bind (tupleItemsOf_ ht ?_)
  refine wpAny_bind (wpAny_typeOf hTs ?_)
  rw [if_pos (by decide)]
  refine wpAny_bind (sliceApplied_gen hs pl pu ?_)
  rw [hw.1, hw.2]
  show wpAny _ _ (if ((((0 : Nat) : Int) == 0 && (1 : Int) == 1 && (items.size - 0) == items.size) = true) then _ else _) _ _ s
  rw [if_pos (by simp)]
  refine wpAny_bind (m := Builtin.Tuple.tupleIsExact _) ?_
  unfold Builtin.Tuple.tupleIsExact
  refine wpAny_bind (wpAny_typeOf ht.typeIs ?_)
  refine wpAny_pure ?_
  rw [if_pos (by decide)]
  refine wpAny_bind (wpAny_rule ?_)
  first
    | exact wpAny_bind (wpAny_pure ⟨_, rfl, wpAny_pure h⟩)
    | exact wpAny_pure ⟨_, rfl, wpAny_pure h⟩
    | exact wpAny_bind (wpAny_pure (wpAny_pure ⟨_, rfl, wpAny_pure h⟩))
    | (refine wpAny_bind ?_; trace_state; done)
end
end HT
set_option Elab.async false
set_option linter.all false
set_option maxRecDepth 100000
set_option maxHeartbeats 4000000
namespace PX
open PySem PySem.Spec PyProof.Rows L2 PySem.SeqAt
def cutD (l : List D) (lo hi : Option Int) : List D := (l.drop (HT.sIx l.length 0 lo)).take (HT.sIx l.length l.length hi - HT.sIx l.length 0 lo)
def gSl (lo hi : Option Int) : D → Option (D × Bool)
  | .tup l => some (.tup (cutD l lo hi), false)
  | .lst l => some (.lst (cutD l lo hi), true)
  | _ => none
def rSlD (K : PySem.W.Frag) : V → Option Int → Option Int → Hp → VK → Prop := fun x lo hi H Q => ∃ (O : AP') (d : D) (z : D × Bool), (∀ p, H p = none → ¬ O p) ∧ View K H O d x ∧ gSl lo hi d = some z ∧ Gen K H O z Q
theorem RepL.cut {K H} {O : AP'} {l : List D} {xs : List V} (r : RepL K H O l xs) (lo hi : Option Int) : RepL K H O (cutD l lo hi) (cutV xs lo hi) := by
  unfold cutD cutV
  rw [r.length]
  exact (r.drop _).take _
section
variable {X : Cx}
theorem slr_list {pins : List (Addr × Obj)} {s : Shared} {σ : L2.St} {H : Hp} {a : Addr} {v vl vu : Value} {lo hi : Option Int} {sl : Addr} {Q : VK} {O : AP'} {l : List D} {xs : List V} (I : Inv X pins σ H s) (rx : RelV (.ref a) v) (hs : s.heap.IsSliceOf sl vl vu .none) (pl : IsPart vl lo) (pu : IsPart vu hi)
    (q : SqL X.K H a xs) (r : RepL X.K H O l xs) (G : Gen X.K H O (.lst (cutD l lo hi), true) Q) : ∃ T id, typeLookup (.type T) "__getitem__" = pure (some (.builtin id)) ∧ s.TypeIs v T ∧ wpAny (model X.prog X.w) X.A (getItem v (.ref sl)) (EP X pins σ Q) X.xe s :=
  sl_list pins s σ H (.ref a) v vl vu lo hi sl Q I rx hs pl pu ⟨a, xs, rfl, q, fun p hp => G.lst hp (r.cut lo hi)⟩
theorem sl_D : SlR X (rSlD X.K) := by
  intro pins s σ H x v vl vu lo hi sl Q I rx hs pl pu h
  obtain ⟨O, d, z, np, hd, hg, G⟩ := h
  cases d with
  | tup l =>
    cases hg
    rcases hd with hd | ⟨a, _, h⟩
    · obtain ⟨a, xs, rfl, q, r⟩ := hd.tup
      by_cases hw : HT.sIx xs.length 0 lo = 0 ∧ HT.sIx xs.length xs.length hi = xs.length
      · cases rx
        obtain ⟨its, rv, ht, hz⟩ := I.tuple q.sq
        have hlen : its.toArray.size = xs.length := by rw [List.size_toArray]; exact rv.length.symm
        refine ⟨"tuple", _, PyProof.Rows.slot_tuple_getitem.lookup, ht.typeIs, ?_⟩
        refine HT.getItem_tuple_all ht hs pl pu (by rw [hlen]; exact hw) ⟨.ref a, H, I, rfl, ?_⟩
        have e : cutD l lo hi = l := by
          unfold cutD
          rw [← r.length, hw.1, hw.2]
          simp [r.length]
        rw [e] at G
        exact G (.ref a) H (fun _ _ e => e) hd
      · exact sl_tup pins s σ H (.ref a) v vl vu lo hi sl Q I rx hs pl pu ⟨a, xs, rfl, q.sq, hw, fun p hp => G.tup hp (np p hp) (r.cut lo hi)⟩
    · exact h.elim
  | lst l =>
    cases hg
    rcases hd with hd | ⟨a, rfl, h⟩
    · obtain ⟨a, xs, rfl, q, r⟩ := hd.lst
      exact slr_list I rx hs pl pu q.sq r G
    · obtain ⟨xs, e, r⟩ := h
      exact slr_list I rx hs pl pu (.inl (.inl e)) r G
  | _ => cases hg
end
def fSlLo (fa fl : FO) : F := fun δ => (fa δ).bind fun p => (fl p.2).bind fun q => match res q.2 q.1 with
  | some (.int i) => (res q.2 p.1).bind fun x => (gSl (some i) none x).bind fun z => some (z, q.2)
  | _ => none
def fSlHi (fa fh : FO) : F := fun δ => (fa δ).bind fun p => (fh p.2).bind fun q => match res q.2 q.1 with
  | some (.int i) => (res q.2 p.1).bind fun x => (gSl none (some i) x).bind fun z => some (z, q.2)
  | _ => none
section
variable {X : Cx} {a lo hi : Expr} {fa fl fh : FO} {pos p2 : Pos}
theorem px_slLo (ha : PO X a fa) (hl : PO X lo fl) : PX X (.Subscript a (.Slice (some lo) none none p2) pos) (fSlLo fa fl) :=
  PX.imp (pe_slice sl_D ha (po_some hl) po_none) fun σ H Q hw => by
    obtain ⟨δ, T, rr, δ', E, e, k⟩ := hw
    unfold fSlLo at e
    obtain ⟨⟨o1, δ1⟩, h1, e⟩ := bind_some' e
    obtain ⟨⟨o2, δ2⟩, h2, e⟩ := bind_some' e
    dsimp only at e
    split at e
    · rename_i i hi
      obtain ⟨x, hx, e⟩ := bind_some' e
      obtain ⟨z, hz, e⟩ := bind_some' e
      obtain ⟨rfl, rfl⟩ := some_pair e
      refine ⟨δ, T, o1, δ1, E, h1, fun v H1 P1 => ⟨δ1, TmpO T o1 v, o2, δ2, P1.er E, h2, fun u H2 P2 => ?_⟩⟩
      have B := Ops.cons E P1 (Ops.cons (P1.er E) P2 (Ops.nil (P2.er (P1.er E))))
      exact ⟨i, view_int (B.view (j := 1) rfl rfl hi), _, x, z, fun p hp => B.np hp, B.view (j := 0) rfl rfl hx, hz, B.done k⟩
    · cases e
theorem px_slHi (ha : PO X a fa) (hl : PO X hi fh) : PX X (.Subscript a (.Slice none (some hi) none p2) pos) (fSlHi fa fh) :=
  PX.imp (pe_slice sl_D ha po_none (po_some hl)) fun σ H Q hw => by
    obtain ⟨δ, T, rr, δ', E, e, k⟩ := hw
    unfold fSlHi at e
    obtain ⟨⟨o1, δ1⟩, h1, e⟩ := bind_some' e
    obtain ⟨⟨o2, δ2⟩, h2, e⟩ := bind_some' e
    dsimp only at e
    split at e
    · rename_i i hi
      obtain ⟨x, hx, e⟩ := bind_some' e
      obtain ⟨z, hz, e⟩ := bind_some' e
      obtain ⟨rfl, rfl⟩ := some_pair e
      refine ⟨δ, T, o1, δ1, E, h1, fun v H1 P1 => ⟨δ1, TmpO T o1 v, o2, δ2, P1.er E, h2, fun u H2 P2 => ?_⟩⟩
      have B := Ops.cons E P1 (Ops.cons (P1.er E) P2 (Ops.nil (P2.er (P1.er E))))
      exact ⟨i, view_int (B.view (j := 1) rfl rfl hi), _, x, z, fun p hp => B.np hp, B.view (j := 0) rfl rfl hx, hz, B.done k⟩
    · cases e
end
end PX
set_option Elab.async false
set_option linter.all false
set_option maxRecDepth 100000
set_option maxHeartbeats 4000000
namespace L2
open PySem PySem.Spec PyProof.Rows
section
variable {X : Cx}
def tBlkS (J : It) (g : TG) (ti : TT) (tb : Addr → TB) (pre : St → St) (σ : St) (H : Hp) (Q : VK) : Prop :=
  ∀ d, H d = none → tLoop J g ti (tb d) (pre σ) (upd H d (.set (fun _ => false) 0)) fun _ H2 => Q (.ref d) H2
theorem comp_runS {elt : Expr} {c : Comprehension} {rest : List Comprehension} {scope : Scope} {pos : Pos} {N' : List Str} {pre : St → St} {g : TG} {ti : TT} {tb : Addr → TB} {cl : List (Str × Addr)} {J : It} {fp : List Addr} {it : Addr} {tn : Nat → Heap → Prop}
    (S : CompScope X N' scope pre) (hc : X.calm = true) (ha : c.is_async = 0) (ha' : ∀ g', rest[0]? = some g' → g'.is_async = 0)
    (blk : ∀ (C : Addr) (s3 : Shared) (H3 : Hp) (fp : List Addr) (pins : List (Addr × Obj)), let X' := X.comp N' scope cl C s3 H3 fp pins
      PG X' c.target g ∧ PIf X' c.ifs ti ∧ ∀ d, PB X' (compBody (.SetComp elt (c :: rest) scope pos) 0 (.ref d) X'.env) (tb d))
    (hcl1 : ∀ x c, cl.lookup x = some c → X.env.cells.lookup x = some c) (hcl2 : ∀ x, (x, NameKind.free) ∈ scope.names → ∃ c, cl.lookup x = some c)
    {pins : List (Addr × Obj)} {s2 : Shared} {σ : St} {H2 : Hp} {Q : VK} {E : Value → Shared → Prop} {RR : Value → Addr → Result → Shared → Prop} (I2 : Inv X pins σ H2 s2) (T : Turn X.prog X.w X.K c.target J fp it tn) (st2 : tn 0 s2.heap) (f2 : ∀ b ∈ fp, FpOk X pins H2 b)
    (h : tBlkS J g ti tb pre σ H2 Q)
    (hRR : ∀ (d : Addr) (s3 : Shared) (H3 H4 : Hp) (σ' : St) (s4 : Shared), Inv X pins σ H3 s3 → (∀ b ∈ fp, FpOk X pins H3 b) → Inv (X.comp N' scope cl s3.heap.objs.size s3 H3 fp pins) [] σ' H4 s4 → Q (.ref d) H4 → RR (.ref d) s3.heap.objs.size (.ok .next) s4) :
    wpAny (model X.prog X.w) X.A (newSet (.type "set")) (fun acc s₃ => wpAny (model X.prog X.w) X.A (newFunctionEnv scope X.env.globals cl [] X.env.qual none .none (some X.env)) (fun cenv s₄ =>
      codeAny (model X.prog X.w) X.A (.compStart (.SetComp elt (c :: rest) scope pos) 0 (.ref it) acc { cenv with scope := relabel scope X.env }) (RR acc cenv.locals) s₄) E s₃) E s2 := by
  refine wpAny_newSet_of (knd := intKind X.prog X.w) fun led hS => ?_
  have I3 : Inv X pins σ (upd H2 s2.heap.objs.size (.set (fun _ => false) 0)) { s2 with heap := s2.heap.push { cls := .type "set", dict := none, data := .set #[] 0 (.fresh 0 0 led) } } := I2.laid (t' := s2.toks) (o := .set (fun _ => false) 0) (fun b ob q => Heap.get?_push_of_some _ q) (Nat.le_refl _) hS
  have fo : ∀ b ∈ fp, b < s2.heap.objs.size := fun b hb => by obtain ⟨o, e, _⟩ := T.obj _ _ st2 b hb; exact Heap.lt_size e
  have ff : ∀ b ∈ fp, FpOk X pins (upd H2 s2.heap.objs.size (.set (fun _ => false) 0)) b := fun b hb => ⟨by rw [upd_ne (Nat.ne_of_lt (fo b hb))]; exact (f2 b hb).1, (f2 b hb).2⟩
  refine wpAny_newFunctionEnv S.cell (by intro y hy; simp at hy) (fun h1 hns hsb => ?_) S.kind
  have hk : ∀ b o, (s2.heap.push { cls := .type "set", dict := none, data := .set #[] 0 (.fresh 0 0 led) }).get? b = some o → h1.get? b = some o := fun b o e => by
    have hlt := Heap.lt_size e
    rw [hsb.2 b (Nat.ne_of_lt hlt)]
    exact Heap.get?_push_of_some _ e
  have hfo : ∀ b ∈ fp, b < (s2.heap.push { cls := .type "set", dict := none, data := .set #[] 0 (.fresh 0 0 led) }).objs.size := fun b hb => by rw [Heap.size_push]; exact Nat.lt_succ_of_lt (fo b hb)
  have J0 := comp_in (t' := s2.toks + ([] : List (Str × Value)).length) S I3 hcl1 hcl2 ff hfo (by simpa using hns) hk
  obtain ⟨pg, pif, pb⟩ := blk (s2.heap.push { cls := .type "set", dict := none, data := .set #[] 0 (.fresh 0 0 led) }).objs.size { s2 with heap := s2.heap.push { cls := .type "set", dict := none, data := .set #[] 0 (.fresh 0 0 led) } } (upd H2 s2.heap.objs.size (.set (fun _ => false) 0)) fp pins
  have st4 : tn 0 h1 := T.keep _ _ _ st2 fun b hb o e => hk b o (Heap.get?_push_of_some _ e)
  have hw := h s2.heap.objs.size (I2.hok.fresh (Nat.le_refl _))
  have ff' : ∀ b ∈ fp, FpOk (X.comp N' scope cl (s2.heap.push { cls := .type "set", dict := none, data := .set #[] 0 (.fresh 0 0 led) }).objs.size { s2 with heap := s2.heap.push { cls := .type "set", dict := none, data := .set #[] 0 (.fresh 0 0 led) } } (upd H2 s2.heap.objs.size (.set (fun _ => false) 0)) fp pins) []
      (upd H2 s2.heap.objs.size (.set (fun _ => false) 0)) b := fun b hb => by
    obtain ⟨z1, z2, z3, z4, z5, z6⟩ := ff b hb
    refine ⟨z1, Nat.ne_of_lt (hfo b hb), fun z => (List.mem_cons.mp (I3.stkSub b z)).elim z2 z3, .inl hb, fun x c hx => z5 x c (hcl1 x c hx), fun p hp => z6 p (by simpa [Cx.comp] using hp)⟩
  have hl : (∃ el gens sc p, Expr.SetComp elt (c :: rest) scope pos = .ListComp el gens sc p) ∨ (∃ el gens sc p, Expr.SetComp elt (c :: rest) scope pos = .SetComp el gens sc p) := .inr ⟨_, _, _, _, rfl⟩
  refine start_ok hl rfl ha ?_ (fun Q' E' hq => T.self X.A 0 _ Q' E' st4 hq)
  refine codeAny_mono (loop_ok (X := X.comp N' scope cl (s2.heap.push { cls := .type "set", dict := none, data := .set #[] 0 (.fresh 0 0 led) }).objs.size { s2 with heap := s2.heap.push { cls := .type "set", dict := none, data := .set #[] 0 (.fresh 0 0 led) } } (upd H2 s2.heap.objs.size (.set (fun _ => false) 0)) fp pins)
    (depth := 0) (acc := .ref s2.heap.objs.size) rfl hc hl rfl ha (fun g' hg' => ha' g' (by simpa [clausesOf] using hg')) T pg pif (pb _) J0 ff' st4 hw) fun r s4 hr => ?_
  obtain ⟨rfl, σ4, H4, I4, _, q⟩ := hr
  exact hRR _ _ _ _ _ _ I3 ff I4 q
def tCompS (wi : TI) (g : TG) (ti : TT) (tb : Addr → TB) (pre : St → St) : TE := fun σ H Q => wi σ H fun J H1 => tBlkS J g ti tb pre σ H1 Q
theorem pe_scomp {elt : Expr} {c : Comprehension} {rest : List Comprehension} {scope : Scope} {pos : Pos} {N' : List Str} {pre : St → St} {wi : TI} {g : TG} {ti : TT} {tb : Addr → TB}
    (S : CompScope X N' scope pre) (hc : X.calm = true) (ha : c.is_async = 0) (ha' : ∀ g', rest[0]? = some g' → g'.is_async = 0)
    (hs : ∀ x, foldedSetIterable c.iter X.env x = pure x) (pi : PI X c.target c.iter wi)
    (blk : ∀ (cl : List (Str × Addr)) (C : Addr) (s3 : Shared) (H3 : Hp) (fp : List Addr) (pins : List (Addr × Obj)), let X' := X.comp N' scope cl C s3 H3 fp pins
      PG X' c.target g ∧ PIf X' c.ifs ti ∧ ∀ d, PB X' (compBody (.SetComp elt (c :: rest) scope pos) 0 (.ref d) X'.env) (tb d)) :
    PE X (.SetComp elt (c :: rest) scope pos) (tCompS wi g ti tb pre) := by
  intro pins s σ H Q I h
  obtain ⟨tg, itx, ifs, az⟩ := c
  obtain rfl : az = 0 := ha
  obtain ⟨cl, hcl, hcl1, hcl2⟩ := closure_ok X.env scope fun x hx hf => I.ok.has x.1 (S.free x hx hf)
  rw [arm_eval_SetComp]
  show wpAny _ X.A (comprehension _ scope X.env _ (newSet (.type "set")) false (eval itx X.env)) _ _ s
  refine wpAny_comprehension_free (use := none) (g := ⟨tg, itx, ifs, 0⟩) (gs := rest) rfl hs hcl S.kind S.names (thn (pi pins s σ H _ I h) fun v s1 h1 => thn h1 fun itv s2 h2 => ?_)
  obtain ⟨it, fp, tn, J, H2, rfl, I2, T, st2, f2, hw⟩ := h2
  refine comp_runS (RR := fun acc C => compPost (model X.prog X.w) X.A X.xe none (EP X pins σ Q) acc C) S hc rfl ha' (blk cl) hcl1 hcl2 I2 T st2 f2 hw fun d s3 H3 H4 σ' s4 I3 ff J4 q => ?_
  obtain ⟨m, hn, _⟩ := id J4.loc
  exact ⟨m, hn, fun h' hsb => ⟨.ref d, H4, comp_out I3 ff J4 hsb, rfl, q⟩⟩
def tEmitS (d : Addr) (te : TE) : TB := fun σ H N => te σ H fun y H1 => ∃ k S n, y = .int k ∧ H1 d = some (.set S n) ∧ n + 1 < scanBound ∧ N σ (upd H1 d (.set (fun k' => S k' || decide (k' = k)) (if S k then n else n + 1)))
theorem pb_emitS {elt : Expr} {gens : List Comprehension} {sc : Scope} {p : Pos} {depth : Nat} {d : Addr} {te : TE} (hn : gens[depth + 1]? = none) (he : PE X elt te) : PB X (compBody (.SetComp elt gens sc p) depth (.ref d) X.env) (tEmitS d te) := by
  intro pins s σ H N I h
  have e1 : compBody (.SetComp elt gens sc p) depth (.ref d) X.env = (do let v ← eval elt X.env; standAt elt.pos; let _ ← call (.builtin "set.add") [.ref d, v]) := by
    unfold compBody
    simp only [clausesOf]
    rw [hn]
  rw [e1]
  refine wpAny_bind (thn (he pins s σ H _ I h) fun u s1 ⟨y, H1, I1, ru, k, S, n, ey, hd, hz, q⟩ => ?_)
  subst ey
  obtain ⟨t, rfl⟩ := ru
  have hS : s1.heap.SetOf (intKind X.prog X.w) d S n := I1.hok d _ hd
  refine wpAny_bind (wpAny_standAt (wpAny_bind (call_set_add (knd := intKind X.prog X.w) (k := k) (intKind_is _ _ k t) rfl hS hz fun h' hsb hS' => wpAny_pure ⟨σ, _, ?_, q⟩)))
  refine I1.write (x := d) (e := d) (by rw [hd]; exact trivial) (.inl rfl) (fun b u hb hu => by rw [hsb.2 b hb]; exact hu) ?_ hS'
  obtain ⟨o, _, _, _, ho, _⟩ := hS'
  exact ⟨o, ho⟩
end
end L2
set_option Elab.async false
set_option linter.all false
set_option maxRecDepth 100000
set_option maxHeartbeats 4000000
namespace PX
open PySem PySem.Spec PyProof.Rows L2 PySem.SeqAt
def setStep (p : (Int → Bool) × Nat) (d : D) : (Int → Bool) × Nat := match d with
  | .int k => (fun k' => p.1 k' || decide (k' = k), if p.1 k then p.2 else p.2 + 1)
  | _ => p
def setF (l : List D) : (Int → Bool) × Nat := l.foldl setStep (fun _ => false, 0)
theorem setF_snoc (l : List D) (k : Int) : setF (l ++ [.int k]) = ((fun k' => (setF l).1 k' || decide (k' = k)), if (setF l).1 k then (setF l).2 else (setF l).2 + 1) := by
  unfold setF; rw [List.foldl_append]; rfl
theorem setF_le : ∀ (l : List D) (p : (Int → Bool) × Nat), (l.foldl setStep p).2 ≤ p.2 + l.length
  | [], p => Nat.le_refl _
  | d :: l, p => by
    have := setF_le l (setStep p d)
    have h : (setStep p d).2 ≤ p.2 + 1 := by
      unfold setStep
      split
      · dsimp only; split <;> omega
      · omega
    simp only [List.foldl_cons, List.length_cons]
    omega
structure BSs (K : PySem.W.Frag) (d : Addr) (T : AP') (σ : L2.St) (δ : Dn) (acc : List D) (H : Hp) : Prop where
  er : ER K H T σ δ
  td : T d
  at' : H d = some (.set (setF acc).1 (setF acc).2)
def tBxs (K : PySem.W.Frag) (A : Nat → Prop) (d : Addr) (f : FB) : TB := fun σ H N => ∃ δ T acc acc' δ', BSs K d T σ δ acc H ∧ f acc δ = some (acc', δ') ∧ ∀ σ' H', SKd A d σ δ H σ' δ' H' → BSs K d T σ' δ' acc' H' → N σ' H'
def bEmitS (f : F) : FB := fun acc δ => (f δ).bind fun p => match p.1.1 with
  | .int k => if acc.length + 1 < scanBound then some (acc ++ [.int k], p.2) else none
  | _ => none
section
variable {K : PySem.W.Frag} {A : Nat → Prop} {d : Addr} {T : AP'} {σ σ1 : L2.St} {δ δ1 : Dn} {acc : List D} {H H1 : Hp}
theorem BSs.step (b : BSs K d T σ δ acc H) (k : SK A σ δ H σ1 δ1 H1) (E1 : ER K H1 T σ1 δ1) : BSs K d T σ1 δ1 acc H1 := by
  exact ⟨E1, b.td, k.kp d _ b.at' fun z => b.er.nT d z b.td⟩
theorem loop_goS {g : TG} {ti : TT} {tb : TB} {tg : Tg} {ft : FT} {fb : FB} {J : It} {ds : List D} {N : L2.St → Hp → Prop} {acc' : List D} {δ' : Dn} (hg : ∀ v σ H Q, tG K A tg v σ H Q → g v σ H Q) (hi : ∀ σ H Q, tT K ft σ H Q → ti σ H Q) (hb : ∀ σ H N, tBxs K A d fb σ H N → tb σ H N)
    (b : BSs K d T σ δ acc H) (O : AP') (ok : ItOk K J ds O H1) (s1 : ∀ a o, H1 a = some o → ¬ O a → H a = some o) (s2 : ∀ a, H1 a ≠ none → (OwnA σ δ a ∨ T a) → O a) (s3 : ∀ a, H1 a ≠ none → H a ≠ none) (e : bLoop tg ft fb ds acc δ = some (acc', δ'))
    (k : ∀ σ' H', SKd A d σ δ H σ' δ' H' → BSs K d T σ' δ' acc' H' → N σ' H') : tLoop J g ti tb σ H N := by
  refine ⟨fun i m σ2 H2 => m = ds.length - i ∧ i ≤ ds.length ∧ ∃ δ2 acc2, SKd A d σ δ H σ2 δ2 H2 ∧ BSs K d T σ2 δ2 acc2 H2 ∧ bLoop tg ft fb (ds.drop i) acc2 δ2 = some (acc', δ'), ⟨ds.length, by simp, Nat.zero_le _, δ, acc, SK.refl.skd, b, by simpa using e⟩, ?_⟩
  rintro i m σ2 H2 ⟨rfl, hle, δ2, acc2, S2, B2, e2⟩
  have hO : ∀ a, H1 a ≠ none → (OwnA σ2 δ2 a ∨ T a) → O a := fun a ha z => by
    rcases z with z | z
    · exact (S2.ow a z).elim (fun z => s2 a ha (.inl z)) fun z => absurd z (s3 a ha)
    · exact s2 a ha (.inr z)
  have pres : ∀ a o, H1 a = some o → ¬ O a → H2 a = some o := fun a o ea n => S2.kp a o (s1 a o ea n) (fun z => n (s2 a (by rw [ea]; simp) (.inl z))) (fun z => n (s2 a (by rw [ea]; simp) (.inr (by rw [z]; exact b.td))))
  by_cases hlt : i < ds.length
  · refine .inr ?_
    have hd : ds[i]? = some ds[i] := List.getElem?_eq_getElem hlt
    obtain ⟨go, yl⟩ := ok.go i _ H2 hd pres
    rw [List.drop_eq_getElem_cons hlt] at e2
    obtain ⟨δ3, h3, e3⟩ := bind_some' e2
    obtain ⟨⟨c, δ4⟩, h4, e4⟩ := bind_some' e3
    obtain ⟨⟨acc5, δ5⟩, h5, e5⟩ := bind_some' e4
    refine ⟨go, fun x H' hy => ?_⟩
    obtain ⟨ext, rep⟩ := yl x H' hy
    have E2' : ER K H' T σ2 δ2 := B2.er.mono (fun b ob eb _ => ext b ob eb) (fun _ _ z => z) (fun a z => by
      cases hh : H2 a with
      | none => exact absurd hh (B2.er.dom a z)
      | some ob => rw [ext a ob hh]; simp)
    have SX : SK A σ2 δ2 H2 σ2 δ2 H' := (Keep.ext ext).sk
    have B2' := B2.step SX E2'
    have S2' : SKd A d σ δ H σ2 δ2 H' := S2.trans SX.skd
    have rx := rep (fun a => OwnA σ2 δ2 a ∨ T a) hO (fun b hb z => z.elim (fun z => B2.er.ownDom z hb) fun z => B2.er.dom b z hb)
    refine hg _ _ _ _ ⟨δ2, T, ds[i], δ3, E2', rx, h3, fun σ3 S3 E3 => ?_⟩
    have B3 := B2'.step S3 E3
    have S3' := S2'.trans S3.skd
    refine hi _ _ _ ⟨δ3, T, c, δ4, E3, h4, fun H4 K4 E4 => ?_⟩
    have S4 : SK A σ3 δ3 H' σ3 δ4 H4 := K4.sk
    have B4 := B3.step S4 E4
    have S4' := S3'.trans S4.skd
    cases c with
    | false =>
      rw [if_neg Bool.false_ne_true] at h5
      obtain ⟨rfl, rfl⟩ := some_pair h5
      exact iteF ⟨ds.length - (i + 1), by omega, rfl, hlt, δ4, acc2, S4', B4, e5⟩
    | true =>
      rw [if_pos rfl] at h5
      exact iteT (hb _ _ _ ⟨δ4, T, acc2, acc5, δ5, B4, h5, fun σ5 H5 S5 B5 => ⟨ds.length - (i + 1), by omega, rfl, hlt, δ5, acc5, S4'.trans S5, B5, e5⟩⟩)
  · refine .inl ⟨ok.stop i H2 (by omega) pres, ?_⟩
    rw [List.drop_eq_nil_of_le (by omega)] at e2
    obtain ⟨rfl, rfl⟩ := some_pair e2
    exact k σ2 H2 S2 B2
end
section
variable {X : Cx} {A : Nat → Prop} {d : Addr} {elt : Expr} {f : F}
theorem pbx_emitS {gens : List Comprehension} {sc : Scope} {p : Pos} {depth : Nat} (hn : gens[depth + 1]? = none) (he : PX X elt f) : PB X (compBody (.SetComp elt gens sc p) depth (.ref d) X.env) (tBxs X.K A d (bEmitS f)) := PB.imp' (pb_emitS hn he) fun σ H N hw => by
  obtain ⟨δ, T, acc, acc', δ', B, e, k⟩ := hw
  obtain ⟨⟨r, δ1⟩, h1, e⟩ := bind_some' e
  obtain ⟨r1, r2⟩ := r
  cases r1 with
  | int i =>
    obtain ⟨hz, e⟩ := ite_some e
    obtain ⟨rfl, rfl⟩ := Prod.mk.inj e
    refine ⟨δ, T, (.int i, r2), δ1, B.er, h1, fun v H1 P => ?_⟩
    obtain ⟨E1, rv⟩ := P.rep B.er
    have hv : v = .int i := rv.int
    have S1 : SK A σ δ H σ δ1 H1 := P.1.sk
    have B1 := B.step S1 E1
    have hle := setF_le acc (fun _ => false, 0)
    refine ⟨i, _, _, hv, B1.at', by unfold setF; omega, k σ _ ?_ ?_⟩
    · have : SKd A d σ δ1 H1 σ δ1 (upd H1 d (.set (fun k' => (setF acc).1 k' || decide (k' = i)) (if (setF acc).1 i then (setF acc).2 else (setF acc).2 + 1))) := ⟨fun a o e n nd => by rw [upd_ne nd]; exact e, fun i a z => .inl z, fun a z => by
        by_cases ha : a = d
        · subst ha; rw [upd_same]; simp
        · rw [upd_ne ha]; exact z, fun _ _ => rfl⟩
      exact S1.skd.trans this
    · refine ⟨E1.mono (fun b o e n => by rw [upd_ne (by intro z; subst z; exact n B.td)]; exact e) (fun _ _ z => z) (fun a z => ?_), B.td, ?_⟩
      · by_cases ha : a = d
        · subst ha; rw [upd_same]; simp
        · rw [upd_ne ha]; exact E1.dom a z
      · rw [upd_same, setF_snoc]
  | _ => cases e
end
end PX
set_option Elab.async false
set_option linter.all false
set_option maxRecDepth 100000
set_option maxHeartbeats 4000000
namespace PX
open PySem PySem.Spec PyProof.Rows L2 PySem.SeqAt
def fSetLen (caps : List Nat) (k : Nat) (fi : FIt) (tg : Tg) (ti : FT) (fb : FB) : F := fun δ => (fi δ).bind fun p => (argsOf p.2 (caps.map .slot)).bind fun args =>
  if (lents (caps.map .slot) args).Nodup then (bLoop tg ti fb p.1 [] (args.map some ++ List.replicate k none)).bind fun q => some ((.int (setF q.1).2, false), wb (caps.map .slot) args (outsOf args q.2) p.2) else none
theorem comp_impS {K : PySem.W.Frag} {caps : List Nat} {k : Nat} {fi : FIt} {tg : Tg} {ti : FT} {fb : FB} {σ : L2.St} {H : Hp} {Q : VK} (h : tF K (fSetLen caps k fi tg ti fb) σ H Q) :
    tCompS (tI K fi) (tG K (fun i => caps.length ≤ i) tg) (tT K ti) (fun d => tBxs K (fun i => caps.length ≤ i) d fb) (preC caps k) σ H (fun x H1 => ∃ S n, ∃ a, x = .ref a ∧ H1 a = some (.set S n) ∧ Q (.int n) H1) := by
  obtain ⟨δ, T, rr, δr, E, e, kq⟩ := h
  obtain ⟨⟨ds, δ1⟩, h1, e⟩ := bind_some' e
  obtain ⟨args, ha, e⟩ := bind_some' e
  dsimp only at e ha
  split at e
  case isFalse => cases e
  rename_i nd
  obtain ⟨⟨acc, δ'⟩, h2, e⟩ := bind_some' e
  obtain ⟨rfl, rfl⟩ := some_pair e
  refine ⟨δ, T, ds, δ1, E, h1, fun J H1 K1 E1 ok d hd => ?_⟩
  obtain ⟨hl, hg⟩ := argsOf_get ha
  have hl' : args.length = caps.length := by simpa using hl
  let vs : List V := caps.map fun j => ((σ[j]?).join).getD .non
  have there : ∀ (i j : Nat), caps[i]? = some j → ∃ v, σ[j]? = some (some v) := fun i j hj => by
    have hi : i < args.length := by have := (List.getElem?_eq_some_iff.mp hj).1; omega
    obtain ⟨o, q1, q2⟩ := hg i _ (List.getElem?_eq_getElem hi)
    rw [List.getElem?_map, hj] at q1
    cases q1
    have q3 := join_some q2
    generalize args[i] = y at q3
    obtain ⟨x, b⟩ := y
    cases b with
    | false => obtain ⟨v, h, _⟩ := E1.val j x q3; exact ⟨v, h⟩
    | true => obtain ⟨a, h, _⟩ := E1.own j x q3; exact ⟨_, h⟩
  have hvs : ∀ (i j : Nat), caps[i]? = some j → ∃ v, vs[i]? = some v ∧ σ[j]? = some (some v) := fun i j hj => by
    obtain ⟨v, hv⟩ := there i j hj
    refine ⟨v, ?_, hv⟩
    show (caps.map fun j => ((σ[j]?).join).getD .non)[i]? = some v
    rw [List.getElem?_map, hj]
    simp [hv]
  have hpre : preC caps k σ = vs.map some ++ List.replicate k none := by
    unfold preC
    congr 1
    apply List.ext_getElem?
    intro i
    show _ = ((caps.map fun j => ((σ[j]?).join).getD .non).map some)[i]?
    rw [List.getElem?_map, List.getElem?_map, List.getElem?_map]
    cases hj : caps[i]? with
    | none => rfl
    | some j => obtain ⟨v, hv⟩ := there i j hj; simp [hv]
  have B0 : Ops K T σ δ1 H1 (caps.map Opd.slot) vs δ1 H1 T := by
    refine ⟨by simp [vs], .refl, E1, fun _ z => z, fun j x v hj => ?_, fun j x v hj => ?_, fun j i v hj hv => ?_⟩
    · rw [List.getElem?_map] at hj
      obtain ⟨_, _, z⟩ := map_some' hj
      cases z
    · rw [List.getElem?_map] at hj
      obtain ⟨_, _, z⟩ := map_some' hj
      cases z
    · rw [List.getElem?_map] at hj
      obtain ⟨c, hc, z⟩ := map_some' hj
      cases z
      obtain ⟨v', q1, q2⟩ := hvs j i hc
      rw [hv] at q1; cases q1
      exact q2
  have Ec := call_in E1 B0 ha nd
  have hA : ∀ (i : Nat) x, args[i]? = some (x, true) → ¬ (caps.length ≤ i) := fun i x hx => by
    have := (List.getElem?_eq_some_iff.mp hx).1
    omega
  rw [hpre]
  have hx := upd_ext (o := .set (fun _ => false) 0) hd
  have nz : ∀ a, H1 a ≠ none → upd H1 d (.set (fun _ => false) 0) a ≠ none := fun a z => by
    cases hh : H1 a with
    | none => exact absurd hh z
    | some o => rw [hx a o hh]; simp
  have b0 : BSs K d (fun a => Tc T σ δ1 vs args a ∨ a = d) (vs.map some ++ List.replicate k none) (args.map some ++ List.replicate k none) [] (upd H1 d (.set (fun _ => false) 0)) := by
    refine ⟨(Ec.pad).mono (fun b o eb _ => hx b o eb) (fun b hb z => z.elim id fun z => by subst z; exact absurd hd hb) (fun a z => ?_), .inr rfl, upd_same⟩
    rcases z with z | z
    · exact nz a (Ec.dom a z)
    · subst z; rw [upd_same]; simp
  refine loop_goS (fun _ _ _ _ h => h) (fun _ _ _ h => h) (fun _ _ _ h => h) b0 _ ok (fun a o ea _ => hx a o ea) (fun a ha0 z => ?_) nz h2 fun σ' H2 S2 B2 => ?_
  · rcases z with z | z | z
    · exact .inl (lentA B0 ha (ownA_pad.mp z))
    · rcases z with z | z
      · exact .inr z
      · exact .inl z.1
    · subst z; exact absurd hd ha0
  · have SS : SK (fun i => caps.length ≤ i) (vs.map some ++ List.replicate k none) (args.map some ++ List.replicate k none) H1 σ' δ' H2 :=
      ⟨fun a o ea n => S2.kp a o (hx a o ea) n (by intro z; subst z; rw [ea] at hd; cases hd), fun i a z => (S2.owi i a z).imp id fun z => by
        cases hh : H1 a with
        | none => rfl
        | some o => exact absurd z (nz a (by rw [hh]; simp)), fun a z => S2.dm a (nz a z), S2.as⟩
    have P := body_post (r := (.int (setF acc).2, false)) (v := .int (setF acc).2) Ec SS hA ⟨B2.er.mono (fun _ _ e _ => e) (fun b _ z => .inl z) (fun a z => B2.er.dom a (.inl z)), Rep.mkInt⟩
    exact ⟨_, _, d, rfl, B2.at', kq (.int (setF acc).2) H2 ((call_out E1 B0 ha nd P).pre K1)⟩
section
variable {X : Cx} {elt : Expr} {c : Comprehension} {rest : List Comprehension} {scope : Scope} {pos pos' p : Pos} {N' : List Str} {caps : List Nat} {k : Nat} {fi : FIt} {tg : Tg} {ti : FT} {fb : FB}
theorem call_lenS : CallR X (.builtin "len") (fun xs H Q => ∃ S n, ∃ a, xs = [.ref a] ∧ H a = some (.set S n) ∧ Q (.int n) H) := by
  intro pins s σ H xs us Q I r h
  obtain ⟨S, n, a, rfl, e, q⟩ := h
  obtain ⟨u, rfl, ru⟩ := vals1 r
  cases ru
  obtain ⟨o, es, ep, t, ho, hex, hd, _, _, hb, hf, hn⟩ := (show s.heap.SetOf (intKind X.prog X.w) a S n from I.hok a _ e)
  have h63 : (es.size : Int) < 2 ^ 63 := by
    have : scanBound = 4096 := rfl
    omega
  refine call_len_set ho hex hd hf h63 ⟨.int n, H, ?_, ⟨_, by rw [hn]⟩, q⟩
  exact (I.tok _)
theorem px_lenSet {z : Str} (C : CompOk X N' scope caps k) (hc : X.calm = true) (ha : c.is_async = 0) (ha' : ∀ g', rest[0]? = some g' → g'.is_async = 0)
    (hs : ∀ x, foldedSetIterable c.iter X.env x = pure x) (pi : PIX X c.target c.iter fi)
    (blk : ∀ (cl : List (Str × Addr)) (C : Addr) (s3 : Shared) (H3 : Hp) (fp : List Addr) (pins : List (Addr × Obj)), let X' := X.comp N' scope cl C s3 H3 fp pins
      PGX X' (fun i => caps.length ≤ i) c.target tg ∧ PIf X' c.ifs (tT X.K ti) ∧ ∀ d, PB X' (compBody (.SetComp elt (c :: rest) scope pos) 0 (.ref d) X'.env) (tBxs X.K (fun i => caps.length ≤ i) d fb))
    (hg : Gl X z) (hm : X.mg z = none) (hv : bootBuiltins z = some (.builtin "len")) (hn : z ≠ "__name__") (hdb : (z == ("__debug__" : Str)) = false)
    (h1 : starEach [.SetComp elt (c :: rest) scope pos] X.env = (false, eval (.SetComp elt (c :: rest) scope pos) X.env) :: starEach [] X.env) (hpl : (backTo pos' (starEach [] X.env)).any (·.1) = false) :
    PX X (.Call (.Name z p) [.SetComp elt (c :: rest) scope pos] [] pos') (fSetLen caps k fi tg ti fb) :=
  PX.imp (pe_callB call_lenS hg hm hv (pa_cons (pe_scomp (g := tG X.K (fun i => caps.length ≤ i) tg) (ti := tT X.K ti) (tb := fun d => tBxs X.K (fun i => caps.length ≤ i) d fb) C.sco hc ha ha' hs pi blk) pa_nil h1) hn hdb h1 hpl) fun σ H Q h => by
    have q := comp_impS h
    have mono : ∀ {Q1 Q2 : VK}, (∀ v H, Q1 v H → Q2 v H) → tCompS (tI X.K fi) (tG X.K (fun i => caps.length ≤ i) tg) (tT X.K ti) (fun d => tBxs X.K (fun i => caps.length ≤ i) d fb) (preC caps k) σ H Q1 → tCompS (tI X.K fi) (tG X.K (fun i => caps.length ≤ i) tg) (tT X.K ti) (fun d => tBxs X.K (fun i => caps.length ≤ i) d fb) (preC caps k) σ H Q2 := by
      rintro Q1 Q2 hq ⟨δ, T, ds, δ1, E, h1, kk⟩
      refine ⟨δ, T, ds, δ1, E, h1, fun J H1 K1 E1 ok d hd => ?_⟩
      obtain ⟨W, w0, step⟩ := kk J H1 K1 E1 ok d hd
      refine ⟨W, w0, fun i m σ2 H2 w => ?_⟩
      rcases step i m σ2 H2 w with ⟨s1, s2⟩ | s
      · exact .inl ⟨s1, hq _ _ s2⟩
      · exact .inr s
    exact mono (fun v H1 ⟨S, n, a, e, h2, h3⟩ => ⟨S, n, a, by rw [e], h2, h3⟩) q
end
end PX
set_option Elab.async false
set_option linter.all false
set_option maxRecDepth 100000
set_option maxHeartbeats 4000000
namespace HT
open PySem PySem.Spec PyProof.Rows L2
section
variable {prog : Program} {w : World} {A : Around} {E : Value → Shared → Prop} {s : Shared}
theorem adjust_rev (n : Nat) : Builtin.Slice.sliceAdjust none none (-1) (n : Int) = ((n : Int) - 1, -1) := by
  unfold Builtin.Slice.sliceAdjust; rfl
theorem places_rev (n : Nat) : Builtin.Slice.slicePlaces ((n : Int) - 1) (-1) (-1) = n := by
  unfold Builtin.Slice.slicePlaces
  rw [if_neg (by decide)]
  by_cases h : n = 0
  · subst h; rfl
  · rw [if_pos (by omega)]
    simp only [Int.neg_neg, Int.ediv_one]
    omega
theorem fm_map {α β : Type} {f : α → Option β} {g : α → β} : ∀ {l : List α}, (∀ m ∈ l, f m = some (g m)) → l.filterMap f = l.map g
  | [], _ => rfl
  | x :: l, h => by rw [List.filterMap_cons_some (h x (List.mem_cons_self ..)), List.map_cons, fm_map fun m hm => h m (List.mem_cons_of_mem _ hm)]
theorem pick_rev (xs : Array Value) : ((List.range xs.size).filterMap fun (m : Nat) => xs[((xs.size : Int) - 1 + (m : Int) * (-1)).toNat]?).toArray = xs.toList.reverse.toArray := by
  congr 1
  have e : (List.range xs.size).filterMap (fun (m : Nat) => xs[((xs.size : Int) - 1 + (m : Int) * (-1)).toNat]?) = (List.range xs.size).map fun m => xs.toList.reverse.getD m .none := by
    refine fm_map fun m hm => ?_
    have hm := List.mem_range.1 hm
    have : ((xs.size : Int) - 1 + (m : Int) * (-1)).toNat = xs.size - 1 - m := by omega
    rw [this]
    have h2 : xs.size - 1 - m < xs.size := by omega
    simp [hm, h2, List.getElem_reverse]
  rw [e]
  apply List.ext_getElem?
  intro i
  by_cases hi : i < xs.size
  · simp [hi]
  · simp [hi]
theorem sliceApplied_rev {sl : Addr} {t : Tok} {n : Nat} {Q : Int × Int × Nat → Shared → Prop} (hs : s.heap.IsSliceOf sl .none .none (.int (-1) t))
    (h : Q ((n : Int) - 1, -1, n) s) : wpAny (model prog w) A (Builtin.Slice.sliceApplied (.ref sl) (pure (n : Int))) Q E s := by
  obtain ⟨os, hos, hcs, hds⟩ := id hs
  unfold Builtin.Slice.sliceApplied Builtin.Slice.sliceFields
  refine wpAny_bind (wpAny_bind (wpAny_field hos hds (x := .none) rfl (wpAny_bind (wpAny_field hos hds (x := .none) rfl (wpAny_bind (wpAny_field hos hds (x := .int (-1) t) rfl (wpAny_pure ?_)))))))
  refine wpAny_bind (slicePart_int ?_)
  show wpAny _ _ (if ((-1 : Int) == 0) = true then _ else _) _ _ s
  rw [if_neg (by decide)]
  refine wpAny_bind (slicePart_none (wpAny_bind (slicePart_none (wpAny_bind (wpAny_pure ?_)))))
  show wpAny _ _ (match Builtin.Slice.sliceAdjust none none (-1) (n : Int) with | (lo, hi) => pure (lo, (-1 : Int), Builtin.Slice.slicePlaces lo hi (-1))) _ _ s
  rw [adjust_rev n]
  show wpAny _ _ (pure ((n : Int) - 1, (-1 : Int), Builtin.Slice.slicePlaces ((n : Int) - 1) (-1) (-1))) _ _ s
  rw [places_rev]
  exact wpAny_pure h
theorem getItem_tuple_rev {t sl : Addr} {items : Array Value} {u : Tok} {Q : Value → Shared → Prop} (ht : IsTup s.heap t items) (hs : s.heap.IsSliceOf sl .none .none (.int (-1) u))
    (h : Q (.ref s.heap.objs.size) { s with heap := s.heap.push { cls := .type "tuple", data := .seq items.toList.reverse.toArray } })
    (hsz : items.size ≤ sizeLine) : wpAny (model prog w) A (getItem (.ref t) (.ref sl)) Q E s := by
  have htake : sizeOk (.seq items.toList.reverse.toArray) := by
    show items.toList.reverse.toArray.size ≤ sizeLine
    rw [List.size_toArray, List.length_reverse, Array.length_toList]
    exact hsz
  obtain ⟨os, hos, hcs, hds⟩ := id hs
  have hTs : s.TypeIs (.ref sl) "slice" := ⟨os, hos, hcs⟩
  unfold getItem
  try with_reducible refine wpAny_holding ?_
  first | refine wpAny_bind (wpAny_pure ?_) | skip
  refine wpAny_bind (wpAny_sequenceKey ht.typeIs (by decide) ?_)
  refine wpAny_bind (wpAny_callSpecial?_slot (name := Str.ofString "__getitem__") ht.typeIs PyProof.Rows.slot_tuple_getitem
    (wpAny_call_entry PyProof.Rows.slot_tuple_getitem ht.typeIs entry_tuple_getitem ?_ (args_tuple_getitem _ _)))
  show wpAny _ _ (Builtin.Tuple.tupleItemsOf (.ref t) >>= _) _ _ s
  refine wpAny_bind (tupleItemsOf_ ht ?_)
  refine wpAny_bind (wpAny_typeOf hTs ?_)
  rw [if_pos (by decide)]
  refine wpAny_bind (sliceApplied_rev hs ?_)
  show wpAny _ _ (if ((((items.size : Int) - 1) == 0 && (-1 : Int) == 1 && items.size == items.size) = true) then _ else _) _ _ s
  rw [if_neg (by simp), pick_rev]
  first
    | exact wpAny_bind (m := Builtin.Tuple.tupleExact _) (wpAny_newObj_type (wpAny_pure ⟨_, rfl, wpAny_pure h⟩) htake)
    | exact wpAny_bind (m := Builtin.Tuple.tupleExact _) (wpAny_newObj_type (wpAny_bind (wpAny_pure (wpAny_pure ⟨_, rfl, wpAny_pure h⟩))) htake)
    | exact wpAny_bind (wpAny_bind (m := Builtin.Tuple.tupleExact _) (wpAny_newObj_type (wpAny_pure (wpAny_pure ⟨_, rfl, wpAny_pure h⟩)) htake))
    | exact wpAny_bind (wpAny_bind (m := Builtin.Tuple.tupleExact _) (wpAny_newObj_type (wpAny_pure ⟨_, rfl, wpAny_pure h⟩) htake))
end
end HT
set_option Elab.async false
set_option linter.all false
set_option maxRecDepth 100000
set_option maxHeartbeats 4000000
namespace L2
open PySem PySem.Spec PyProof.Rows
section
variable {X : Cx} {e st : Expr} {te ts : TE} {pos p2 : Pos}
def tRev (K : PySem.W.Frag) (te ts : TE) : TE := fun σ H Q => te σ H fun x H1 => ts σ H1 fun y H2 => y = .int (-1) ∧ ∃ a xs, x = .ref a ∧ SqT K H2 a xs ∧ ∀ p, H2 p = none → Q (.ref p) (upd H2 p (.tup xs.reverse))
theorem pe_sliceRev (he : PE X e te) (hst : PE X st ts) : PE X (.Subscript e (.Slice none none (some st) p2) pos) (tRev X.K te ts) := by
  intro pins s σ H Q I h
  refine Subscript_ (thn (he pins s σ H _ I h) fun v s1 ⟨x, H1, I1, r1, q1⟩ => ?_)
  refine wpAny_Slice ?_
  rw [evalPart_none]
  refine wpAny_pure (wpAny_pure ?_)
  rw [evalPart_some]
  refine thn (hst pins s1 σ H1 _ I1 q1) fun u s3 ⟨y, H3, I3, ry, ey, a, xs, ex, hx, q⟩ => ?_
  subst ey ex
  obtain ⟨t, rfl⟩ := ry
  cases r1
  have I4 : Inv X pins σ H3 { s3 with heap := s3.heap.push { cls := .type "slice", data := .fields #[.none, .none, .int (-1) t] } } := I3.kept (t' := s3.toks) fun b ob q => Heap.get?_push_of_some _ q
  obtain ⟨its, r, ht, hz⟩ := I4.tuple hx
  have hlen : its.toArray.size = xs.length := by rw [List.size_toArray]; exact r.length.symm
  show wpAny (model X.prog X.w) X.A (subscriptTail e (.Slice none none (some st) p2) (.ref a) (.ref s3.heap.objs.size)) (EP X pins σ Q) X.xe { s3 with heap := s3.heap.push { cls := .type "slice", data := .fields #[.none, .none, .int (-1) t] } }
  refine tail_any (ops := [.ref a, .ref s3.heap.objs.size]) ht.typeIs PyProof.Rows.slot_tuple_getitem.lookup (HT.getItem_tuple_rev ht (Heap.IsSliceOf.new ..) ?_ (by rw [hlen]; exact hz)) (by with_unfolding_all rfl)
  refine ⟨.ref _, _, I4.laid (t' := s3.toks) (o := .tup xs.reverse) (fun b ob q => Heap.get?_push_of_some _ q) (Nat.le_refl _) ?_, rfl, q _ (I4.hok.fresh (Nat.le_refl _))⟩
  exact ⟨by rw [List.length_reverse]; exact hz, _, r.reverse, IsTup.new _ _⟩
end
end L2
namespace PX
open PySem PySem.Spec PyProof.Rows L2 PySem.SeqAt
def gRev : D → Option (D × Bool)
  | .tup l => some (.tup l.reverse, false)
  | _ => none
theorem RepL.reverse {K H} {O : AP'} : ∀ {l : List D} {vs : List V}, RepL K H O l vs → RepL K H O l.reverse vs.reverse
  | [], vs, h => by rw [RepL] at h; subst h; exact RepL.nil
  | d :: l, vs, h => by
    rw [RepL] at h
    obtain ⟨v, r, rfl, h1, h2⟩ := h
    rw [List.reverse_cons, List.reverse_cons]
    exact (RepL.reverse h2).append (RepL.one h1)
def fRev (fa fs : FO) : F := fun δ => (fa δ).bind fun p => (fs p.2).bind fun q => match res q.2 q.1 with
  | some (.int i) => if i = -1 then (res q.2 p.1).bind fun x => (gRev x).bind fun z => some (z, q.2) else none
  | _ => none
section
variable {X : Cx} {a st : Expr} {fa fs : FO} {pos p2 : Pos}
theorem px_rev (ha : PO X a fa) (hs : PO X st fs) : PX X (.Subscript a (.Slice none none (some st) p2) pos) (fRev fa fs) :=
  PX.imp (pe_sliceRev ha hs) fun σ H Q hw => by
    obtain ⟨δ, T, rr, δ', E, e, k⟩ := hw
    unfold fRev at e
    obtain ⟨⟨o1, δ1⟩, h1, e⟩ := bind_some' e
    obtain ⟨⟨o2, δ2⟩, h2, e⟩ := bind_some' e
    dsimp only at e
    split at e
    · rename_i i hi
      split at e
      case isFalse => cases e
      rename_i hi1
      subst hi1
      obtain ⟨x, hx, e⟩ := bind_some' e
      obtain ⟨z, hz, e⟩ := bind_some' e
      obtain ⟨rfl, rfl⟩ := some_pair e
      refine ⟨δ, T, o1, δ1, E, h1, fun v H1 P1 => ⟨δ1, TmpO T o1 v, o2, δ2, P1.er E, h2, fun u H2 P2 => ?_⟩⟩
      have B := Ops.cons E P1 (Ops.cons (P1.er E) P2 (Ops.nil (P2.er (P1.er E))))
      have hv := B.view (j := 0) rfl rfl hx
      refine ⟨view_int (B.view (j := 1) rfl rfl hi), ?_⟩
      cases x with
      | tup l =>
        cases hz
        rcases hv with hv | ⟨_, _, hv⟩
        · obtain ⟨p, xs, rfl, q, r⟩ := hv.tup
          exact ⟨p, xs, rfl, q.sq, fun p' hp => (B.done k).tup hp (B.np hp) r.reverse⟩
        · exact hv.elim
      | _ => cases hz
    · cases e
end
end PX
set_option Elab.async false
set_option linter.all false
set_option maxRecDepth 100000
set_option maxHeartbeats 4000000
namespace PX
open PySem PySem.Spec PyProof.Rows L2 PySem.SeqAt
section
variable {es : List Expr} {env : Env}
theorem st_Constant {c k p} : starEach (.Constant c k p :: es) env = (false, eval (.Constant c k p) env) :: starEach es env := rfl
theorem st_Name {c p} : starEach (.Name c p :: es) env = (false, eval (.Name c p) env) :: starEach es env := rfl
theorem st_BinOp {a b c p} : starEach (.BinOp a b c p :: es) env = (false, eval (.BinOp a b c p) env) :: starEach es env := rfl
theorem st_UnaryOp {a b p} : starEach (.UnaryOp a b p :: es) env = (false, eval (.UnaryOp a b p) env) :: starEach es env := rfl
theorem st_Compare {a b c p} : starEach (.Compare a b c p :: es) env = (false, eval (.Compare a b c p) env) :: starEach es env := rfl
theorem st_Call {a b c p} : starEach (.Call a b c p :: es) env = (false, eval (.Call a b c p) env) :: starEach es env := rfl
theorem st_Subscript {a b p} : starEach (.Subscript a b p :: es) env = (false, eval (.Subscript a b p) env) :: starEach es env := rfl
theorem st_List {a p} : starEach (.List a p :: es) env = (false, eval (.List a p) env) :: starEach es env := rfl
theorem st_Tuple {a k p} : starEach (.Tuple a k p :: es) env = (false, eval (.Tuple a k p) env) :: starEach es env := rfl
theorem st_ListComp {a b c p} : starEach (.ListComp a b c p :: es) env = (false, eval (.ListComp a b c p) env) :: starEach es env := rfl
theorem st_Dict {a b p} : starEach (.Dict a b p :: es) env = (false, eval (.Dict a b p) env) :: starEach es env := rfl
end
end PX
set_option Elab.async false
set_option linter.all false
set_option maxRecDepth 100000
set_option maxHeartbeats 4000000
namespace TT
open PySem
def S : Nat → Nat
  | 0 => 0
  | n + 1 => 5 * S n + 1
def ls (mask : Nat) (h : Int) : Nat → Nat × Nat
  | 0 => (SetTable.bits h % (mask + 1), SetTable.bits h)
  | k + 1 => SetTable.leap mask (ls mask h k).1 (ls mask h k).2
def at_ (mask : Nat) (h : Int) (k t : Nat) : SetTable.Probe := ⟨(ls mask h k).1 + t, SetTable.runEnd mask (ls mask h k).1 - (ls mask h k).1 - t, (ls mask h k).1, (ls mask h k).2, none⟩
end TT
set_option Elab.async false
set_option linter.all false
set_option maxRecDepth 100000
set_option maxHeartbeats 4000000
namespace TT
open PySem
end TT
set_option Elab.async false
set_option linter.all false
set_option maxRecDepth 100000
set_option maxHeartbeats 4000000
namespace TT
open PySem
end TT
set_option Elab.async false
set_option linter.all false
set_option maxRecDepth 100000
set_option maxHeartbeats 4000000
namespace TT
open PySem
end TT
set_option Elab.async false
set_option linter.all false
set_option maxRecDepth 100000
set_option maxHeartbeats 4000000
namespace TT
open PySem PyProof.Rows PySem.SeqAt
section
variable {prog : Program} {w : World} {A : Around} {E : Value → Shared → Prop} {s : Shared}
end
end TT
set_option Elab.async false
set_option linter.all false
set_option maxRecDepth 100000
set_option maxHeartbeats 4000000
namespace TT
open PySem PyProof.Rows PySem.SeqAt
abbrev setObj (es : Array (Int × Value)) (n : Nat) (t : SetTable) : Obj := { cls := .type "set", data := .set es n t }
section
variable {prog : Program} {w : World} {A : Around} {E : Value → Shared → Prop} {s : Shared}
theorem TabOk.plain {hs t} (ok : TabOk hs t) (b : Bool) : TabOk hs { t with plain := b } := ⟨ok.pow, ok.dum, ok.len, ok.room, ok.ris, ok.bd, ok.road⟩
end
end TT
set_option Elab.async false
set_option linter.all false
set_option maxRecDepth 100000
set_option maxHeartbeats 4000000
namespace TT
open PySem PyProof.Rows PySem.SeqAt
structure SetIs (w : World) (h : Heap) (a : Addr) (es : Array (Int × Value)) (n : Nat) (t : SetTable) : Prop where
  at_ : h.get? a = some (setObj es n t)
  tab : TabOk (es.toList.map (·.1)) t
  plain : t.plain = true
  led : t.led = !w.params.followText "set-order"
section
variable {prog : Program} {w : World} {A : Around} {E : Value → Shared → Prop} {s : Shared}
end
end TT
set_option Elab.async false
set_option linter.all false
set_option maxRecDepth 100000
set_option maxHeartbeats 4000000
namespace TT
open PySem PyProof.Rows PySem.SeqAt
section
variable {prog : Program} {w : World} {A : Around} {E : Value → Shared → Prop} {s : Shared}
end
end TT
set_option Elab.async false
set_option linter.all false
set_option maxRecDepth 100000
set_option maxHeartbeats 4000000
namespace TT
open PySem PyProof.Rows PySem.SeqAt
section
variable {prog : Program} {w : World} {A : Around} {E : Value → Shared → Prop} {s : Shared}
end
end TT
set_option Elab.async false
set_option linter.all false
set_option maxRecDepth 100000
set_option maxHeartbeats 4000000
namespace TT
open PySem PyProof.Rows PySem.SeqAt
section
variable {prog : Program} {w : World} {A : Around} {R : Result → Shared → Prop} {I : Addr} {fp wr : List Addr} {G : Array GenState → Array GenState → Prop} {n : Nat} {P : Nat → Value → Prop} {St : Nat → Shared → Prop}
end
section
variable {prog : Program} {w : World} {A : Around} {E : Value → Shared → Prop} {s : Shared}
end
end TT
set_option Elab.async false
set_option linter.all false
set_option maxRecDepth 100000
set_option maxHeartbeats 4000000
namespace TT
open PySem PyProof.Rows PySem.SeqAt
section
variable {prog : Program} {w : World} {A : Around} {E : Value → Shared → Prop} {s : Shared}
end
end TT
set_option Elab.async false
set_option linter.all false
set_option maxRecDepth 100000
set_option maxHeartbeats 4000000
namespace TT
open PySem PyProof.Rows PySem.SeqAt
section
variable {prog : Program} {w : World} {A : Around} {E : Value → Shared → Prop} {s : Shared}
end
end TT
set_option Elab.async false
set_option linter.all false
set_option maxRecDepth 100000
set_option maxHeartbeats 4000000
namespace PX
open PySem PySem.Spec PyProof.Rows L2 PySem.SeqAt TS
section
variable {X : Cx} {pins : List (Addr × Obj)} {σ : L2.St} {H : Hp} {s : Shared}
def RepV (X : Cx) (H : Hp) (O : AP') (ds : List D) (its : List Value) : Prop := ∃ xs, RepL X.K H O ds xs ∧ Vals xs its
theorem RepV.cons {O : AP'} {d : D} {ds : List D} {v : Value} {its : List Value} (h : RepV X H O (d :: ds) (v :: its)) : (∃ x, Rep X.K H O d x ∧ RelV x v) ∧ RepV X H O ds its := by
  obtain ⟨xs, r, vs⟩ := h
  rw [RepL] at r
  obtain ⟨x, xr, rfl, r1, r2⟩ := r
  cases vs with
  | cons a b => exact ⟨⟨x, r1, a⟩, xr, r2, b⟩
end
end PX
set_option Elab.async false
set_option linter.all false
set_option maxRecDepth 100000
set_option maxHeartbeats 4000000
namespace PX
open PySem PySem.Spec PyProof.Rows L2 PySem.SeqAt TS
theorem perm_map_lift {α β : Type} (f : α → β) {zs m : List β} (h : zs.Perm m) : ∀ l : List α, m = l.map f → ∃ l' : List α, l'.Perm l ∧ zs = l'.map f := by
  induction h with
  | nil =>
    intro l e
    have : l = [] := by simpa using e.symm
    subst this
    exact ⟨[], .refl _, rfl⟩
  | cons x _ ih =>
    intro l e
    cases l with
    | nil => simp at e
    | cons y l =>
      simp only [List.map_cons, List.cons.injEq] at e
      obtain ⟨l', p, q⟩ := ih l e.2
      exact ⟨y :: l', p.cons y, by rw [q, e.1]; rfl⟩
  | swap x y l0 =>
    intro l e
    cases l with
    | nil => simp at e
    | cons a l =>
      cases l with
      | nil => simp at e
      | cons b l =>
        simp only [List.map_cons, List.cons.injEq] at e
        exact ⟨b :: a :: l, .swap a b l, by rw [e.1, e.2.1, e.2.2]; rfl⟩
  | trans _ _ ih1 ih2 =>
    intro l e
    obtain ⟨l1, p1, q1⟩ := ih2 l e
    obtain ⟨l2, p2, q2⟩ := ih1 l1 q1
    exact ⟨l2, p2.trans p1, q2⟩
theorem RepL.zip {K H} {O : AP'} : ∀ {l : List D} {vs : List V}, RepL K H O l vs → ∀ p ∈ l.zip vs, Rep K H O p.1 p.2
  | [], vs, h, p, hp => by simp at hp
  | d :: l, vs, h, p, hp => by
    rw [RepL] at h
    obtain ⟨v, r, rfl, h1, h2⟩ := h
    rw [List.zip_cons_cons] at hp
    rcases List.mem_cons.mp hp with rfl | hp
    · exact h1
    · exact RepL.zip h2 p hp
theorem RepL.ofZip {K H} {O : AP'} : ∀ {l : List (D × V)}, (∀ p ∈ l, Rep K H O p.1 p.2) → RepL K H O (l.map (·.1)) (l.map (·.2))
  | [], _ => RepL.nil
  | p :: l, h => RepL.cons (h p List.mem_cons_self) (RepL.ofZip fun q hq => h q (List.mem_cons_of_mem _ hq))
abbrev hv (p : D × V) : Int × V := (D.hash p.1, p.2)
theorem zip_hash : ∀ (vs : List D) (us : List V), (D.hashL vs).zip us = (vs.zip us).map hv
  | [], us => by simp [D.hashL]
  | d :: vs, [] => by simp
  | d :: vs, u :: us => by rw [D.hashL, List.zip_cons_cons, List.zip_cons_cons, List.map_cons, zip_hash vs us]
section
variable {X : Cx} {pins : List (Addr × Obj)} {σ : L2.St} {H : Hp} {s : Shared}
structure SetV (X : Cx) (H : Hp) (O : AP') (h : Heap) (a : Addr) (vs : List D) (es : Array (Int × Value)) (n : Nat) (t : SetTable) (l : List (D × V)) : Prop where
  is : TT.SetIs X.w h a es n t
  perm : (l.map (·.1)).Perm vs
  rep : ∀ p ∈ l, Rep X.K H O p.1 p.2
  par : Paired (fun (z : Int × V) (e : Int × Value) => z.1 = e.1 ∧ RelV z.2 e.2) (l.map hv) es.toList
end
end PX
set_option Elab.async false
set_option linter.all false
set_option maxRecDepth 100000
set_option maxHeartbeats 4000000
namespace PX
open PySem PySem.Spec PyProof.Rows L2 PySem.SeqAt TS
section
variable {X : Cx} {pins : List (Addr × Obj)} {σ : L2.St} {H : Hp} {s : Shared}
theorem SetV.oth {O : AP'} {h : Heap} {a : Addr} {vs : List D} {es n t l} (S : SetV X H O h a vs es n t l) {K H'} {O' : AP'} (hr : ∀ p ∈ l, Rep K H' O' p.1 p.2) (hH : H' a = some (.stt (l.map hv))) : ∃ us, OthB (H' a) .set [] vs us ∧ RepL K H' O' vs us := by
  obtain ⟨l', p1, p2⟩ := perm_map_lift (·.1) S.perm.symm l rfl
  refine ⟨l'.map (·.2), ⟨rfl, l.map hv, hH, ?_⟩, ?_⟩
  · rw [p2, zip_hash]
    have : (l'.map (·.1)).zip (l'.map (·.2)) = l' := by
      clear p1 p2
      induction l' with
      | nil => rfl
      | cons x l ih => rw [List.map_cons, List.map_cons, List.zip_cons_cons, ih]
    rw [this]
    exact (p1.map hv).symm
  · rw [p2]
    exact RepL.ofZip fun p hp => hr p (p1.mem_iff.mp hp)
end
end PX
set_option Elab.async false
set_option linter.all false
set_option maxRecDepth 100000
set_option maxHeartbeats 4000000
namespace PX
open PySem PySem.Spec PyProof.Rows L2 PySem.SeqAt TS
section
variable {X : Cx} {pins : List (Addr × Obj)} {σ : L2.St} {H : Hp} {s : Shared}
end
end PX
set_option Elab.async false
set_option linter.all false
set_option maxRecDepth 100000
set_option maxHeartbeats 4000000
namespace PX
open PySem PySem.Spec PyProof.Rows L2 PySem.SeqAt TS
theorem insS_srt {x : D} : ∀ {l : List D}, l.Pairwise (fun a b => ltT b a = false) → (insS ltT x l).Pairwise (fun a b => ltT b a = false)
  | [], _ => List.pairwise_singleton _ _
  | y :: l, h => by
    rw [List.pairwise_cons] at h
    have W := wk_D fun i : Nat => match i with | 0 => x | 1 => y | _ => x
    rw [insS]
    cases hl : ltT y x with
    | true =>
      rw [if_pos rfl, List.pairwise_cons]
      refine ⟨fun z hz => ?_, insS_srt h.2⟩
      rcases List.mem_cons.mp ((insS_perm ltT x l).mem_iff.mp hz) with rfl | hz
      · rw [ltT_iff] at hl
        rw [ltT_false, cT_swap, hl]; simp
      · exact h.1 z hz
    | false =>
      rw [if_neg Bool.false_ne_true, List.pairwise_cons]
      refine ⟨fun z hz => ?_, List.pairwise_cons.mpr h⟩
      rcases List.mem_cons.mp hz with rfl | hz
      · exact hl
      · have h1 := h.1 z hz
        rw [ltT_false] at h1 hl ⊢
        have a1 : cT x y ≠ .gt := by rw [cT_swap y x]; cases hc : cT y x <;> simp_all
        have a2 : cT y z ≠ .gt := by rw [cT_swap z y]; cases hc : cT z y <;> simp_all
        have a3 := cT_trans x y z a1 a2
        rw [cT_swap x z]; cases hc : cT x z <;> simp_all
theorem sortS_srt : ∀ l : List D, (sortS ltT l).Pairwise (fun a b => ltT b a = false)
  | [] => .nil
  | x :: l => by rw [sortS]; exact insS_srt (sortS_srt l)
section
variable {X : Cx}
end
end PX
set_option Elab.async false
set_option linter.all false
set_option maxRecDepth 100000
set_option maxHeartbeats 4000000
namespace PX
open PySem PySem.Spec PyProof.Rows L2 PySem.SeqAt TS
section
variable {K : PySem.W.Frag} {H : Hp} {O : AP'}
end
section
variable {P : Program} {w : World} {H H' : Hp} {h : Heap} {a : Addr}
end
end PX
set_option Elab.async false
set_option linter.all false
set_option maxRecDepth 100000
set_option maxHeartbeats 4000000
namespace PX
open PySem PySem.Spec PyProof.Rows L2 PySem.SeqAt TS
section
variable {X : Cx} {pins : List (Addr × Obj)} {σ : L2.St} {H : Hp} {s : Shared}
end
section
variable {X : Cx}
end
end PX
set_option Elab.async false
set_option linter.all false
set_option maxRecDepth 100000
set_option maxHeartbeats 4000000
namespace PX
open PySem PySem.Spec PyProof.Rows L2 PySem.SeqAt TS
section
variable {K : PySem.W.Frag} {T : AP'} {σ : L2.St} {δ : Dn} {H : Hp} {i : Nat} {d0 d' : D} {a : Addr} {o : HO}
end
section
variable {X : Cx} {pins : List (Addr × Obj)} {σ : L2.St} {H : Hp} {s : Shared} {a : Addr}
end
section
variable {K : PySem.W.Frag} {H : Hp} {O : AP'}
end
section
variable {X : Cx} {e ix : Expr} {f : F} {fo : FO} {pos npos apos cpos : Pos} {i : Nat} {x : Str} {A L : Nat → Prop} {H0 : Hp}
end
end PX
set_option Elab.async false
set_option linter.all false
set_option maxRecDepth 100000
set_option maxHeartbeats 4000000
namespace PX
open PySem PySem.Spec PyProof.Rows L2 PySem.SeqAt TS
section
variable {X : Cx}
end
section
variable {X : Cx}
def fDct1 (i j : Int) : F := fun δ => some ((.oth .dct [.int i] [.int j], true), δ)
theorem px_dct1 {i j : Int} {a b : Nat} {p1 p2 pos : Pos} : PX X (.Dict [some (.Constant (.int i) a p1)] [.Constant (.int j) b p2] pos) (fDct1 i j) :=
  PX.imp (pe_disp (pps_cons pe_int pe_int pps_nil) rfl rfl (by simp) (by simp)) fun σ H Q hw => by
  obtain ⟨δ, T, rr, δ', E, e, k⟩ := hw
  cases e
  intro p hp
  refine ⟨upd_same, [(.inl i, .int j)], rfl, by simp, ?_⟩
  have B := Ops.nil E
  refine (B.done k) p _ hp ?_ ⟨[.int j], .inl ⟨[(.inl i, .int j)], ?_, rfl, rfl⟩, RepL.one Rep.mkInt⟩
  · intro a o e
    have hne : a ≠ p := by intro z; subst z; rw [e] at hp; cases hp
    rw [upd_ne hne, upd_ne hne]; exact e
  · rw [upd_same]; rfl
end
end PX
set_option Elab.async false
set_option linter.all false
set_option maxRecDepth 100000
set_option maxHeartbeats 4000000
namespace PX
open PySem PySem.Spec PyProof.Rows L2 PySem.SeqAt TS
section
variable {X : Cx} {e : Expr} {f : F} {pos npos apos cpos : Pos} {i : Nat} {x : Str}
end
end PX
set_option Elab.async false
set_option linter.all false
set_option maxRecDepth 100000
set_option maxHeartbeats 4000000
namespace PX
open PySem PySem.Spec PyProof.Rows L2 PySem.SeqAt TS
structure PXs (X : Cx) (es : List Expr) (fs : List F) : Prop where
  pa : PA X es (tA X.K (fs.map oVal))
section
variable {X : Cx} {e : Expr} {es : List Expr} {f : F} {fs : List F} {pos : Pos}
theorem pxs_nil : PXs X [] [] := ⟨pa_nilX⟩
theorem pxs_cons (h : PX X e f) (hr : PXs X es fs) (hs : starEach (e :: es) X.env = (false, eval e X.env) :: starEach es X.env) : PXs X (e :: es) (f :: fs) := ⟨pa_consX (PX.po h) hr.pa hs⟩
theorem px_lstS (h : PXs X es fs) : PX X (.List es pos) (fLst fs) := px_lst h.pa
theorem px_tupS {x1} (h : PXs X es fs) : PX X (.Tuple es x1 pos) (fTup fs) := px_tup h.pa
theorem pwx_pt {fe : FT} (h : PWX X e fe) : PTX X e fe := PW.pt h
end
end PX
set_option Elab.async false
set_option linter.all false
set_option maxRecDepth 100000
set_option maxHeartbeats 4000000
namespace PX
open PySem PySem.Spec PyProof.Rows L2
@[irreducible] def PXq (X : Cx) (e : Expr) (f : F) : Prop := PX X e f
theorem PXq_e (X : Cx) (e : Expr) (f : F) : PX X e f = PXq X e f := by unfold PXq; rfl
@[irreducible] def POq (X : Cx) (e : Expr) (f : FO) : Prop := PX.PO X e f
theorem POq_e (X : Cx) (e : Expr) (f : FO) : PX.PO X e f = POq X e f := by unfold POq; rfl
@[irreducible] def PSXq (X : Cx) (A L : Nat → Prop) (H0 : Hp) (st : Stmt) (f : FS) : Prop := PSX X A L H0 st f
theorem PSXq_e (X : Cx) (A L : Nat → Prop) (H0 : Hp) (st : Stmt) (f : FS) : PSX X A L H0 st f = PSXq X A L H0 st f := by unfold PSXq; rfl
@[irreducible] def PSsXq (X : Cx) (A L : Nat → Prop) (H0 : Hp) (st : List Stmt) (f : FS) : Prop := PSsX X A L H0 st f
theorem PSsXq_e (X : Cx) (A L : Nat → Prop) (H0 : Hp) (st : List Stmt) (f : FS) : PSsX X A L H0 st f = PSsXq X A L H0 st f := by unfold PSsXq; rfl
@[irreducible] def PTXq (X : Cx) (e : Expr) (f : FT) : Prop := PTX X e f
theorem PTXq_e (X : Cx) (e : Expr) (f : FT) : PTX X e f = PTXq X e f := by unfold PTXq; rfl
@[irreducible] def PXsq (X : Cx) (es : List Expr) (fs : List F) : Prop := PXs X es fs
theorem PXsq_e (X : Cx) (es : List Expr) (fs : List F) : PXs X es fs = PXsq X es fs := by unfold PXsq; rfl
@[irreducible] def PAq (X : Cx) (es : List Expr) (t : TA) : Prop := PA X es t
theorem PAq_e (X : Cx) (es : List Expr) (t : TA) : PA X es t = PAq X es t := by unfold PAq; rfl
end PX
set_option Elab.async false
set_option linter.all false
set_option maxRecDepth 100000
set_option maxHeartbeats 4000000
namespace PV
open PySem PySem.Spec PyProof.Rows L2 PX
abbrev RD : Nat := 6
def fs_is_whole : FS := (sSeq (sRet (fAnd (fOp1 (gIsi [.int]) (oVar 0)) (fNot (fOp1 (gIsi [.bool]) (oVar 0))))) sNil)
def ev_is_whole : EvF := evF 1 1 [] fs_is_whole
def fs_is_number : FS := (sSeq (sRet (fAnd (fUser ev_is_whole [(oVar 0)]) (fChain .LtE .LtE (oVar 1) (oVar 0) (oVar 2)))) sNil)
def ev_is_number : EvF := evF 3 3 [] fs_is_number
def fs_is_name : FS := (sSeq (sRet (fUser ev_is_number [(oVar 1), (oVal (fC (.int 1))), (oVar 0)])) sNil)
def ev_is_name : EvF := evF 2 2 [] fs_is_name
def fs_is_sign : FS := (sSeq (sRet (fAnd (fUser ev_is_whole [(oVar 1)]) (fUser ev_is_name [(oVar 0), (oVal (fCall (g1 gAbs) [(oVar 1)]))]))) sNil)
def ev_is_sign : EvF := evF 2 2 [] fs_is_sign
def fs_is_turning : FS := (sSeq (sIf (fOrT (fNotT (fT (fOp1 (gIsi [.tuple]) (oVar 1)))) (fT (fOp2 gNe (oVal (fCall (g1 gLen) [(oVar 1)])) (oVar 0)))) (sSeq (sRet (fC (.bl false))) sNil) sNil) (sSeq (sIf (fNotT (fT (fCall (g1 gAll) [(oVal (fComp [0] 1 (itSeq (fVar 1)) (tgName 1) fTrue (bEmit (fUser ev_is_sign [(oVar 0), (oVar 1)]))))]))) (sSeq (sRet (fC (.bl false))) sNil) sNil) (sSeq (sRet (fOp2 gEq (oVal (fSetLen [] 1 (itSeq (fVar 1)) (tgName 0) fTrue (bEmitS (fCall (g1 gAbs) [(oVar 0)])))) (oVar 0))) sNil)))
def ev_is_turning : EvF := evF 2 2 [] fs_is_turning
def fs_led_sign : FS := (sSeq (sRet (fIf (fT (fOp2 (gCmp .Gt) (oVar 1) (oVal (fC (.int 0))))) (fOp2 gIx (oVar 0) (oVal (fOp2 gSub (oVar 1) (oVal (fC (.int 1)))))) (fOp1 gNeg (oVal (fOp2 gIx (oVar 0) (oVal (fOp2 gSub (oVal (fOp1 gNeg (oVar 1))) (oVal (fC (.int 1)))))))))) sNil)
def ev_led_sign : EvF := evF 2 2 [] fs_led_sign
def fs_law_cell_at : FS := (sSeq (sIf (fT (fOp2 (gCmp .Lt) (oVar 1) (oVal (fCall (g1 gLen) [(oVar 0)])))) (sSeq (sRet (fOp2 gIx (oVar 0) (oVar 1))) sNil) sNil) (sSeq (sRet (fC (.int 0))) sNil))
def ev_law_cell_at : EvF := evF 2 2 [] fs_law_cell_at
def fs_law_state : FS := (sSeq (sSet 2 (fUser ev_law_cell_at [(oVar 0), (oVar 1)])) (sSeq (sIf (fT (fOp2 (gCmp .GtE) (oVar 2) (oVal (fOp2 gPow (oVal (fC (.int 10))) (oVal (fC (.int 18))))))) (sSeq (sRet (fLst [(fOp2 gSub (oVar 2) (oVal (fOp2 gPow (oVal (fC (.int 10))) (oVal (fC (.int 18)))))), (fC (.bl true))])) sNil) sNil) (sSeq (sRet (fLst [(fOp2 gMod (oVar 2) (oVal (fC (.int 2147483647)))), (fC (.bl false))])) sNil)))
def ev_law_state : EvF := evF 3 2 [2] fs_law_state
def fs_law_take : FS := (sSeq (sIf (fT (fOp2 gIx (oVar 0) (oVal (fC (.int 1))))) (sSeq (sSet 2 (fOp2 gMod (oVal (fOp2 gIx (oVar 0) (oVal (fC (.int 0))))) (oVar 1))) (sSeq (sSetIx 0 (fOp2 gDiv (oVal (fOp2 gIx (oVar 0) (oVal (fC (.int 0))))) (oVar 1)) (oVal (fC (.int 0)))) (sSeq (sRetVar 2) sNil))) sNil) (sSeq (sSetIx 0 (fOp2 gMod (oVal (fOp2 gAdd (oVal (fOp2 gMul (oVal (fOp2 gIx (oVar 0) (oVal (fC (.int 0))))) (oVal (fC (.int 48271))))) (oVal (fC (.int 29))))) (oVal (fC (.int 2147483647)))) (oVal (fC (.int 0)))) (sSeq (sSet 3 (fOp2 gMod (oVal (fOp2 gAdd (oVal (fOp2 gAdd (oVal (fOp2 gMul (oVal (fOp2 gIx (oVar 0) (oVal (fC (.int 0))))) (oVal (fOp2 gIx (oVar 0) (oVal (fC (.int 0))))))) (oVal (fOp2 gMul (oVal (fC (.int 39373))) (oVal (fOp2 gIx (oVar 0) (oVal (fC (.int 0))))))))) (oVal (fC (.int 7))))) (oVal (fC (.int 2147483629))))) (sSeq (sSet 3 (fOp2 gMod (oVal (fOp2 gAdd (oVal (fOp2 gMul (oVar 3) (oVar 3))) (oVal (fOp2 gMul (oVal (fC (.int 16807))) (oVar 3))))) (oVal (fC (.int 2147483587))))) (sSeq (sRet (fOp2 gMod (oVal (fOp2 gDiv (oVar 3) (oVal (fC (.int 8))))) (oVar 1))) sNil)))))
def ev_law_take : EvF := evF 4 2 [2, 3] fs_law_take
def fs_law_turning : FS := (sSeq (sSet 2 (fCall (gRg .lst true) [(oVal (fC (.int 1))), (oVal (fOp2 gAdd (oVar 1) (oVal (fC (.int 1)))))])) (sSeq (sSet 3 (fLst [])) (sSeq (sFor (itR1 (oVar 1)) (tgName 4) (sSeq (sExpr (fAppend 3 (fOp2 gMul (oVal (fPopAt 2 (oVal (fUser ev_law_take [(oVar 0), (oVal (fCall (g1 gLen) [(oVar 2)]))])))) (oVal (fOp2 gIx (oVal (fLst [(fC (.int 1)), (fOp1 gNeg (oVal (fC (.int 1))))])) (oVal (fUser ev_law_take [(oVar 0), (oVal (fC (.int 2)))]))))))) sNil)) (sSeq (sRet (fCall (g1 gTuple) [(oVar 3)])) sNil))))
def ev_law_turning : EvF := evF 5 2 [2, 3, 4] fs_law_turning
def fs_law_led_sign_k21 : FS := (sSeq (sRet (fOp2 gMul (oVal (fOp2 gIx (oVar 0) (oVal (fOp2 gSub (oVal (fCall (g1 gAbs) [(oVar 1)])) (oVal (fC (.int 1))))))) (oVal (fOp2 gIx (oVal (fLst [(fC (.int 1)), (fOp1 gNeg (oVal (fC (.int 1))))])) (oVal (fCall (g1 gInt) [(oVal (fOp2 (gCmp .Lt) (oVar 1) (oVal (fC (.int 0)))))])))))) sNil)
def ev_law_led_sign_k21 : EvF := evF 2 2 [] fs_law_led_sign_k21
def fs_law_whole_k21 : FS := (sSeq (sRet (fAnd (fOp1 (gIsi [.int]) (oVar 0)) (fNot (fOp1 (gIsi [.bool]) (oVar 0))))) sNil)
def ev_law_whole_k21 : EvF := evF 1 1 [] fs_law_whole_k21
def fs_law_is_turning : FS := (sSeq (sIf (fOrT (fNotT (fT (fOp1 (gIsi [.tuple]) (oVar 1)))) (fNotT (fT (fCall (g1 gAll) [(oVal (fComp [] 1 (itSeq (fVar 1)) (tgName 0) fTrue (bEmit (fUser ev_law_whole_k21 [(oVar 0)]))))])))) (sSeq (sRet (fC (.bl false))) sNil) sNil) (sSeq (sRet (fOp2 gEq (oVal (fCall (g1 gSorted) [(oVal (fComp [] 1 (itSeq (fVar 1)) (tgName 0) fTrue (bEmit (fCall (g1 gAbs) [(oVar 0)]))))])) (oVal (fCall (gRg .lst true) [(oVal (fC (.int 1))), (oVal (fOp2 gAdd (oVar 0) (oVal (fC (.int 1)))))])))) sNil))
def ev_law_is_turning : EvF := evF 2 2 [] fs_law_is_turning
def fs_law_odd : FS := (sSeq (sSet 1 (fLst [(fC .non), (fC (.bl true)), (fC (.bl false)), (fOp1 gNeg (oVal (fC (.int 1)))), (fC (.int 0)), (fC (.int 1)), (fC (.str "")), (fC (.str "1")), (fTup []), (fLst []), (fTup [(fC (.bl true))]), (fLst [(fC (.int 1))]), (fDct1 0 1), (fTup [(fC .non)]), (fTup [(fTup [(fC (.int 1))])]), (fOp2 gPow (oVal (fC (.int 10))) (oVal (fC (.int 29))))])) (sSeq (sRet (fOp2 gIx (oVal (fOp2 gAdd (oVar 1) (oVal (fLst [(fTup [(fC (.int 0))]), (fTup [(fC (.int 1)), (fC (.int 2))])])))) (oVal (fUser ev_law_take [(oVar 0), (oVal (fC (.int 18)))])))) sNil))
def ev_law_odd : EvF := evF 2 1 [1] fs_law_odd
def fs_law_bent_turning : FS := (sSeq (sSet 2 (fCall (g1 gLen) [(oVar 1)])) (sSeq (sIf (fT (fOp2 gEq (oVar 2) (oVal (fC (.int 0))))) (sSeq (sRet (fOp2 gIx (oVal (fLst [(fTup [(fC (.int 0))]), (fTup [(fC (.int 1))]), (fLst []), (fC .non), (fTup [(fTup [])]), (fTup [(fC (.bl true))])])) (oVal (fUser ev_law_take [(oVar 0), (oVal (fC (.int 6)))])))) sNil) sNil) (sSeq (sPar 3 4 [(fUser ev_law_take [(oVar 0), (oVar 2)]), (fUser ev_law_take [(oVar 0), (oVar 2)])]) (sSeq (sSet 5 (fLst [(fC (.int 0)), (fOp2 gAdd (oVar 2) (oVal (fC (.int 1)))), (fOp2 gSub (oVal (fOp1 gNeg (oVar 2))) (oVal (fC (.int 1)))), (fC (.bl true)), (fC .non), (fC (.str "1")), (fTup [(fC (.int 1))]), (fOp2 gIx (oVar 1) (oVar 4)), (fOp1 gNeg (oVal (fOp2 gIx (oVar 1) (oVar 4)))), (fOp1 gNeg (oVal (fOp2 gIx (oVar 1) (oVar 3)))), (fOp2 gPow (oVal (fC (.int 10))) (oVal (fC (.int 29))))])) (sSeq (sSet 5 (fOp2 gIx (oVar 5) (oVal (fUser ev_law_take [(oVar 0), (oVal (fC (.int 11)))])))) (sSeq (sSet 6 (fLst [(fOp2 gAdd (oVal (fOp2 gAdd (oVal (fSlHi (oVar 1) (oVar 3))) (oVal (fTup [(fVar 5)])))) (oVal (fSlLo (oVar 1) (oVal (fOp2 gAdd (oVar 3) (oVal (fC (.int 1)))))))), (fOp2 gAdd (oVal (fOp2 gAdd (oVal (fSlHi (oVar 1) (oVar 3))) (oVal (fTup [(fVar 5)])))) (oVal (fSlLo (oVar 1) (oVar 3)))), (fCall (g1 gList) [(oVar 1)]), (fTup [(fVar 1)])])) (sSeq (sSet 6 (fOp2 gAdd (oVar 6) (oVal (fLst [(fOp2 gAdd (oVal (fSlHi (oVar 1) (oVar 3))) (oVal (fSlLo (oVar 1) (oVal (fOp2 gAdd (oVar 3) (oVal (fC (.int 1)))))))), (fOp2 gAdd (oVar 1) (oVal (fTup [(fOp2 gAdd (oVar 2) (oVal (fC (.int 1))))]))), (fRev (oVar 1) (oVal (fOp1 gNeg (oVal (fC (.int 1)))))), (fOp2 gAdd (oVar 1) (oVal (fSlHi (oVar 1) (oVal (fC (.int 1))))))])))) (sSeq (sRet (fOp2 gIx (oVar 6) (oVal (fOp2 gIx (oVal (fLst [(fC (.int 0)), (fC (.int 0)), (fC (.int 0)), (fC (.int 1)), (fC (.int 2)), (fC (.int 3)), (fC (.int 4)), (fC (.int 5)), (fC (.int 6)), (fC (.int 7))])) (oVal (fUser ev_law_take [(oVar 0), (oVal (fC (.int 10)))])))))) sNil))))))))
def ev_law_bent_turning : EvF := evF 7 2 [2, 3, 4, 5, 6] fs_law_bent_turning
def fs_law_same_k21 (ev : EvF) : FS := (sSeq (sIf (fT (fOp1 (gIsi [.tuple, .list]) (oVar 1))) (sSeq (sIf (fOrT (fT (fOp2 gNe (oVal (fOp1 (gIsi [.tuple]) (oVar 0))) (oVal (fOp1 (gIsi [.tuple]) (oVar 1))))) (fT (fOp2 gNe (oVal (fOp1 (gIsi [.list]) (oVar 0))) (oVal (fOp1 (gIsi [.list]) (oVar 1)))))) (sSeq (sRet (fC (.bl false))) sNil) sNil) (sSeq (sRet (fAnd (fOp2 gEq (oVal (fCall (g1 gLen) [(oVar 0)])) (oVal (fCall (g1 gLen) [(oVar 1)]))) (fCall (g1 gAll) [(oVal (fComp [] 2 (itZip (fVar 0) (fVar 1)) (tgTup [(tgName 0), (tgName 1)]) fTrue (bEmit (fUser ev [(oVar 0), (oVar 1)]))))]))) sNil)) sNil) (sSeq (sRet (fAnd (fOp2 gEq (oVar 0) (oVar 1)) (fOp2 gEq (oVal (fOp1 (gIsi [.bool]) (oVar 0))) (oVal (fOp1 (gIsi [.bool]) (oVar 1)))))) sNil))
def ev_law_same_k21 : Nat → EvF
  | 0 => fun _ => none
  | m + 1 => evF 2 2 [] (fs_law_same_k21 (ev_law_same_k21 m))
def fs_law_k21 : FS := (sSeq (sIf (fOrT (fT (fOp2 gIsNot (oVal (fUser ev_is_turning [(oVal (fC (.int 0))), (oVal (fTup []))])) (oVal (fC (.bl true))))) (fOrT (fT (fOp2 gIsNot (oVal (fUser ev_is_turning [(oVal (fC (.int 1))), (oVal (fTup [(fC (.bl true))]))])) (oVal (fC (.bl false))))) (fT (fOp2 gIsNot (oVal (fUser ev_is_turning [(oVal (fC (.int 2))), (oVal (fTup [(fC (.int 2)), (fOp1 gNeg (oVal (fC (.int 1))))]))])) (oVal (fC (.bl true))))))) (sSeq (sRet (fC (.bl false))) sNil) sNil) (sSeq (sFor (itR1 (oVal (fCall (g2 gMax2) [(oVal (fC (.int 1))), (oVal (fCall (g2 gMin2) [(oVal (fCall (g1 gLen) [(oVar 0)])), (oVal (fC (.int 10)))]))]))) (tgName 1) (sSeq (sSet 2 (fUser ev_law_state [(oVar 0), (oVar 1)])) (sSeq (sSet 3 (fUser ev_law_take [(oVar 2), (oVal (fC (.int 6)))])) (sSeq (sSet 4 (fUser ev_law_turning [(oVar 2), (oVar 3)])) (sSeq (sSet 5 (fLst [(fVar 4), (fUser ev_law_odd [(oVar 2)]), (fUser ev_law_turning [(oVar 2), (oVal (fUser ev_law_take [(oVar 2), (oVal (fC (.int 6)))]))])])) (sSeq (sFor (itSeq (fOp2 gAdd (oVar 5) (oVal (fComp [2, 4] 1 (itR1 (oVal (fC (.int 4)))) (tgName 2) fTrue (bEmit (fUser ev_law_bent_turning [(oVar 0), (oVar 1)])))))) (tgName 6) (sSeq (sSet 7 (fUser ev_is_turning [(oVar 3), (oVar 6)])) (sSeq (sIf (fOrT (fNotT (fT (fOp1 (gIsi [.bool]) (oVar 7)))) (fT (fOp2 gNe (oVar 7) (oVal (fUser ev_law_is_turning [(oVar 3), (oVar 6)]))))) (sSeq (sRet (fC (.bl false))) sNil) sNil) sNil))) (sSeq (sFor (itSeq (fOp2 gAdd (oVal (fCall (gRg .lst true) [(oVal (fC (.int 1))), (oVal (fOp2 gAdd (oVar 3) (oVal (fC (.int 1)))))])) (oVal (fCall (gRg .lst true) [(oVal (fOp1 gNeg (oVar 3))), (oVal (fC (.int 0)))])))) (tgName 8) (sSeq (sIf (fNotT (fT (fUser (ev_law_same_k21 RD) [(oVal (fUser ev_led_sign [(oVar 4), (oVar 8)])), (oVal (fUser ev_law_led_sign_k21 [(oVar 4), (oVar 8)]))]))) (sSeq (sRet (fC (.bl false))) sNil) sNil) sNil)) sNil))))))) (sSeq (sRet (fC (.bl true))) sNil)))
def ev_law_k21 : EvF := evF 9 1 [1, 2, 3, 4, 5, 6, 7, 8] fs_law_k21
end PV
set_option Elab.async false
set_option linter.all false
set_option maxRecDepth 100000
set_option maxHeartbeats 8000000
namespace K21
open PySem PySem.Spec PyProof.Rows L2 PX PV
def top (i : Nat) : Stmt := PySem.Challenge.pw_twinriddles_k21_turnings_looked_at.main.body.getD i (.Pass ⟨0, 0, 0, 0⟩)
abbrev s_is_whole : Stmt := top 1
theorem sc_is_whole : FnScope ["thing"] ["thing"] (defScope s_is_whole) := ⟨rfl, rfl, rfl, by decide +kernel, rfl, by decide +kernel, by decide +kernel⟩
theorem ok_is_whole {P : Program} {w : World} {K : PySem.W.Frag} {mg : Str → Option Value} {base : Heap} {k : Nat} {f : Addr} {fd : FuncData} (F : Fun K "is_whole" "is_whole" s_is_whole f fd) (T : Tx mg)   : FnOk P w K mg base CX0 (k + 1) f fd ["thing"] (spF K ev_is_whole) := by
  refine fun_ok (N := ["thing"]) (asg := []) (fs := fs_is_whole) F sc_is_whole fun cdv A outer s H E L hL hr => ?_
  have hu3 : (A.deeper (envOfC "is_whole" (defScope s_is_whole) s.heap.objs.size f cdv)).units + 90 < cLine := by have := hr.un; omega
  have hu : (A.deeper (envOfC "is_whole" (defScope s_is_whole) s.heap.objs.size f cdv)).units + 60 < cLine := by omega
  have hu1 : (A.deeper (envOfC "is_whole" (defScope s_is_whole) s.heap.objs.size f cdv)).units + 1 < cLine := by omega
  have hu2 : (A.deeper (envOfC "is_whole" (defScope s_is_whole) s.heap.objs.size f cdv)).units + 62 < cLine := by omega
  exact (pssx_cons (psx_ret (px_and (px_isi (t := .int) (po_var (i := 0) rfl (Or.inl rfl) (by decide) (by decide)) (by rfl) T.n_isinstance (by rfl) T.n_int bt_int (by decide) (by decide) bt_isinstance rfl rfl rfl) (px_bone (px_not (px_isi (t := .bool) (po_var (i := 0) rfl (Or.inl rfl) (by decide) (by decide)) (by rfl) T.n_isinstance (by rfl) T.n_bool bt_bool (by decide) (by decide) bt_isinstance rfl rfl rfl))))) pssx_nil)
abbrev s_is_number : Stmt := top 2
theorem sc_is_number : FnScope ["thing", "least", "most"] ["thing", "least", "most"] (defScope s_is_number) := ⟨rfl, rfl, rfl, by decide +kernel, rfl, by decide +kernel, by decide +kernel⟩
theorem ok_is_number {P : Program} {w : World} {K : PySem.W.Frag} {mg : Str → Option Value} {base : Heap} {k : Nat} {f : Addr} {fd : FuncData} (F : Fun K "is_number" "is_number" s_is_number f fd) (T : Tx mg)  (O_is_whole : Ob P w K mg base k "is_whole" ["thing"] ev_is_whole) : FnOk P w K mg base CX0 (k + 1) f fd ["thing", "least", "most"] (spF K ev_is_number) := by
  refine fun_ok (N := ["thing", "least", "most"]) (asg := []) (fs := fs_is_number) F sc_is_number fun cdv A outer s H E L hL hr => ?_
  have hu3 : (A.deeper (envOfC "is_number" (defScope s_is_number) s.heap.objs.size f cdv)).units + 90 < cLine := by have := hr.un; omega
  have hu : (A.deeper (envOfC "is_number" (defScope s_is_number) s.heap.objs.size f cdv)).units + 60 < cLine := by omega
  have hu1 : (A.deeper (envOfC "is_number" (defScope s_is_number) s.heap.objs.size f cdv)).units + 1 < cLine := by omega
  have hu2 : (A.deeper (envOfC "is_number" (defScope s_is_number) s.heap.objs.size f cdv)).units + 62 < cLine := by omega
  exact (pssx_cons (psx_ret (px_and (px_user O_is_whole.ok (O_is_whole.room hr) (by rfl) O_is_whole.mg O_is_whole.kp O_is_whole.bi (pa_consX (po_var (i := 0) rfl (Or.inl rfl) (by decide) (by decide)) pa_nilX st_Name) (by decide) rfl rfl) (px_bone (px_chain (.inr (.inl rfl)) (.inr (.inl rfl)) (po_var (i := 1) rfl (Or.inl rfl) (by decide) (by decide)) (po_var (i := 0) rfl (Or.inl rfl) (by decide) (by decide)) (po_var (i := 2) rfl (Or.inl rfl) (by decide) (by decide)))))) pssx_nil)
abbrev s_is_name : Stmt := top 3
theorem sc_is_name : FnScope ["names", "thing"] ["names", "thing"] (defScope s_is_name) := ⟨rfl, rfl, rfl, by decide +kernel, rfl, by decide +kernel, by decide +kernel⟩
theorem ok_is_name {P : Program} {w : World} {K : PySem.W.Frag} {mg : Str → Option Value} {base : Heap} {k : Nat} {f : Addr} {fd : FuncData} (F : Fun K "is_name" "is_name" s_is_name f fd) (T : Tx mg)  (O_is_number : Ob P w K mg base k "is_number" ["thing", "least", "most"] ev_is_number) : FnOk P w K mg base CX0 (k + 1) f fd ["names", "thing"] (spF K ev_is_name) := by
  refine fun_ok (N := ["names", "thing"]) (asg := []) (fs := fs_is_name) F sc_is_name fun cdv A outer s H E L hL hr => ?_
  have hu3 : (A.deeper (envOfC "is_name" (defScope s_is_name) s.heap.objs.size f cdv)).units + 90 < cLine := by have := hr.un; omega
  have hu : (A.deeper (envOfC "is_name" (defScope s_is_name) s.heap.objs.size f cdv)).units + 60 < cLine := by omega
  have hu1 : (A.deeper (envOfC "is_name" (defScope s_is_name) s.heap.objs.size f cdv)).units + 1 < cLine := by omega
  have hu2 : (A.deeper (envOfC "is_name" (defScope s_is_name) s.heap.objs.size f cdv)).units + 62 < cLine := by omega
  exact (pssx_cons (psx_ret (px_user O_is_number.ok (O_is_number.room hr) (by rfl) O_is_number.mg O_is_number.kp O_is_number.bi (pa_consX (po_var (i := 1) rfl (Or.inl rfl) (by decide) (by decide)) (pa_consX (PX.po px_int) (pa_consX (po_var (i := 0) rfl (Or.inl rfl) (by decide) (by decide)) pa_nilX st_Name) st_Constant) st_Name) (by decide) rfl rfl)) pssx_nil)
abbrev s_is_sign : Stmt := top 4
theorem sc_is_sign : FnScope ["names", "thing"] ["names", "thing"] (defScope s_is_sign) := ⟨rfl, rfl, rfl, by decide +kernel, rfl, by decide +kernel, by decide +kernel⟩
theorem ok_is_sign {P : Program} {w : World} {K : PySem.W.Frag} {mg : Str → Option Value} {base : Heap} {k : Nat} {f : Addr} {fd : FuncData} (F : Fun K "is_sign" "is_sign" s_is_sign f fd) (T : Tx mg)  (O_is_whole : Ob P w K mg base k "is_whole" ["thing"] ev_is_whole) (O_is_name : Ob P w K mg base k "is_name" ["names", "thing"] ev_is_name) : FnOk P w K mg base CX0 (k + 1) f fd ["names", "thing"] (spF K ev_is_sign) := by
  refine fun_ok (N := ["names", "thing"]) (asg := []) (fs := fs_is_sign) F sc_is_sign fun cdv A outer s H E L hL hr => ?_
  have hu3 : (A.deeper (envOfC "is_sign" (defScope s_is_sign) s.heap.objs.size f cdv)).units + 90 < cLine := by have := hr.un; omega
  have hu : (A.deeper (envOfC "is_sign" (defScope s_is_sign) s.heap.objs.size f cdv)).units + 60 < cLine := by omega
  have hu1 : (A.deeper (envOfC "is_sign" (defScope s_is_sign) s.heap.objs.size f cdv)).units + 1 < cLine := by omega
  have hu2 : (A.deeper (envOfC "is_sign" (defScope s_is_sign) s.heap.objs.size f cdv)).units + 62 < cLine := by omega
  exact (pssx_cons (psx_ret (px_and (px_user O_is_whole.ok (O_is_whole.room hr) (by rfl) O_is_whole.mg O_is_whole.kp O_is_whole.bi (pa_consX (po_var (i := 1) rfl (Or.inl rfl) (by decide) (by decide)) pa_nilX st_Name) (by decide) rfl rfl) (px_bone (px_user O_is_name.ok (O_is_name.room hr) (by rfl) O_is_name.mg O_is_name.kp O_is_name.bi (pa_consX (po_var (i := 0) rfl (Or.inl rfl) (by decide) (by decide)) (pa_consX (PX.po (px_bltn call_absD (by rfl) T.n_abs bt_abs (pa_consX (po_var (i := 1) rfl (Or.inl rfl) (by decide) (by decide)) pa_nilX st_Name) (by decide) (by decide) rfl rfl)) pa_nilX st_Call) st_Name) (by decide) rfl rfl)))) pssx_nil)
abbrev s_is_turning : Stmt := top 6
theorem sc_is_turning : FnScope ["names", "thing"] ["names", "thing"] (defScope s_is_turning) := ⟨rfl, rfl, rfl, by decide +kernel, rfl, by decide +kernel, by decide +kernel⟩
theorem ok_is_turning {P : Program} {w : World} {K : PySem.W.Frag} {mg : Str → Option Value} {base : Heap} {k : Nat} {f : Addr} {fd : FuncData} (F : Fun K "is_turning" "is_turning" s_is_turning f fd) (T : Tx mg)  (O_is_sign : Ob P w K mg base k "is_sign" ["names", "thing"] ev_is_sign) : FnOk P w K mg base CX0 (k + 1) f fd ["names", "thing"] (spF K ev_is_turning) := by
  refine fun_ok (N := ["names", "thing"]) (asg := []) (fs := fs_is_turning) F sc_is_turning fun cdv A outer s H E L hL hr => ?_
  have hu3 : (A.deeper (envOfC "is_turning" (defScope s_is_turning) s.heap.objs.size f cdv)).units + 90 < cLine := by have := hr.un; omega
  have hu : (A.deeper (envOfC "is_turning" (defScope s_is_turning) s.heap.objs.size f cdv)).units + 60 < cLine := by omega
  have hu1 : (A.deeper (envOfC "is_turning" (defScope s_is_turning) s.heap.objs.size f cdv)).units + 1 < cLine := by omega
  have hu2 : (A.deeper (envOfC "is_turning" (defScope s_is_turning) s.heap.objs.size f cdv)).units + 62 < cLine := by omega
  exact (pssx_cons (psx_if (pwx_pt (pwx_or (ptx_not (ptx_val (px_isi (t := .tuple) (po_var (i := 1) rfl (Or.inl rfl) (by decide) (by decide)) (by rfl) T.n_isinstance (by rfl) T.n_tuple bt_tuple (by decide) (by decide) bt_isinstance rfl rfl rfl) (fun _ => rfl))) (pwx_or1 (ptx_cmp (opr_ne hu) (PX.po (px_bltn call_lenD (by rfl) T.n_len bt_len (pa_consX (po_var (i := 1) rfl (Or.inl rfl) (by decide) (by decide)) pa_nilX st_Name) (by decide) (by decide) rfl rfl)) (po_var (i := 0) rfl (Or.inr (Or.inl rfl)) (by decide) (by decide)) (nomark _))))) (pssx_cons (psx_ret px_bl) pssx_nil) pssx_nil) (pssx_cons (psx_if (ptx_not (ptx_val (px_bltn (call_allD rfl) (by rfl) T.n_all bt_all (pa_consX (PX.po (by exact (px_comp (N' := ["names", "sign"]) (caps := [0]) (k := 1) (compOk (N := ["names", "thing"]) (sc := defScope s_is_turning) rfl rfl (by decide +kernel)) rfl rfl (by intro g' h; cases h) (fun _ => rfl) (pix_seq (px_var (i := 1) rfl (Or.inl rfl) (by decide) (by decide))) (fun cl C s3 H3 fp pins => ⟨(pgx_name (i := 1) (show (["names", "sign"] : List Str).Nodup from by decide +kernel) rfl (Or.inl rfl) (Or.inr rfl) (by decide)), pifx_nil, fun d => pbx_emit rfl (px_user O_is_sign.ok (O_is_sign.room hr) (by rfl) O_is_sign.mg O_is_sign.kp O_is_sign.bi (pa_consX (po_var (i := 0) rfl (Or.inr (Or.inl rfl)) (by decide) (by decide)) (pa_consX (po_var (i := 1) rfl (Or.inl rfl) (by decide) (by decide)) pa_nilX st_Name) st_Name) (by decide) rfl rfl)⟩)))) pa_nilX st_ListComp) (by decide) (by decide) rfl rfl) (fun _ => rfl))) (pssx_cons (psx_ret px_bl) pssx_nil) pssx_nil) (pssx_cons (psx_ret (px_cmp (opr_eq hu) (PX.po (by exact px_lenSet (N' := ["sign"]) (caps := []) (k := 1) (compOk (N := ["names", "thing"]) (sc := defScope s_is_turning) rfl rfl (by decide +kernel)) rfl rfl (by intro g' h; cases h) (fun _ => rfl) (pix_seq (px_var (i := 1) rfl (Or.inl rfl) (by decide) (by decide))) (fun cl C s3 H3 fp pins => ⟨(pgx_name (i := 0) (show (["sign"] : List Str).Nodup from by decide +kernel) rfl (Or.inl rfl) (Or.inr rfl) (by decide)), pifx_nil, fun d => pbx_emitS rfl (px_bltn call_absD (by rfl) T.n_abs bt_abs (pa_consX (po_var (i := 0) rfl (Or.inl rfl) (by decide) (by decide)) pa_nilX st_Name) (by decide) (by decide) rfl rfl)⟩) (by rfl) T.n_len bt_len (by decide) (by decide) rfl rfl)) (po_var (i := 0) rfl (Or.inr (Or.inl rfl)) (by decide) (by decide)) (nomark _))) pssx_nil)))
abbrev s_led_sign : Stmt := top 7
theorem sc_led_sign : FnScope ["turning", "sign"] ["turning", "sign"] (defScope s_led_sign) := ⟨rfl, rfl, rfl, by decide +kernel, rfl, by decide +kernel, by decide +kernel⟩
theorem ok_led_sign {P : Program} {w : World} {K : PySem.W.Frag} {mg : Str → Option Value} {base : Heap} {k : Nat} {f : Addr} {fd : FuncData} (F : Fun K "led_sign" "led_sign" s_led_sign f fd) (T : Tx mg)   : FnOk P w K mg base CX0 (k + 1) f fd ["turning", "sign"] (spF K ev_led_sign) := by
  refine fun_ok (N := ["turning", "sign"]) (asg := []) (fs := fs_led_sign) F sc_led_sign fun cdv A outer s H E L hL hr => ?_
  have hu3 : (A.deeper (envOfC "led_sign" (defScope s_led_sign) s.heap.objs.size f cdv)).units + 90 < cLine := by have := hr.un; omega
  have hu : (A.deeper (envOfC "led_sign" (defScope s_led_sign) s.heap.objs.size f cdv)).units + 60 < cLine := by omega
  have hu1 : (A.deeper (envOfC "led_sign" (defScope s_led_sign) s.heap.objs.size f cdv)).units + 1 < cLine := by omega
  have hu2 : (A.deeper (envOfC "led_sign" (defScope s_led_sign) s.heap.objs.size f cdv)).units + 62 < cLine := by omega
  exact (pssx_cons (psx_ret (px_if (ptx_cmp (opr_ord (.inr (.inr (.inl rfl))) hu) (po_var (i := 1) rfl (Or.inl rfl) (by decide) (by decide)) (PX.po px_int) (nomark _)) (px_ix (po_var (i := 0) rfl (Or.inl rfl) (by decide) (by decide)) (PX.po (px_bin opr_sub (po_var (i := 1) rfl (Or.inl rfl) (by decide) (by decide)) (PX.po px_int))) (fun _ _ => rfl)) (px_neg (PX.po (px_ix (po_var (i := 0) rfl (Or.inl rfl) (by decide) (by decide)) (PX.po (px_bin opr_sub (PX.po (px_neg (po_var (i := 1) rfl (Or.inl rfl) (by decide) (by decide)))) (PX.po px_int))) (fun _ _ => rfl)))))) pssx_nil)
abbrev s_law_cell_at : Stmt := top 9
theorem sc_law_cell_at : FnScope ["_law_script", "_law_k"] ["_law_script", "_law_k"] (defScope s_law_cell_at) := ⟨rfl, rfl, rfl, by decide +kernel, rfl, by decide +kernel, by decide +kernel⟩
theorem ok_law_cell_at {P : Program} {w : World} {K : PySem.W.Frag} {mg : Str → Option Value} {base : Heap} {k : Nat} {f : Addr} {fd : FuncData} (F : Fun K "_law_cell_at" "_law_cell_at" s_law_cell_at f fd) (T : Tx mg)   : FnOk P w K mg base CX0 (k + 1) f fd ["_law_script", "_law_k"] (spF K ev_law_cell_at) := by
  refine fun_ok (N := ["_law_script", "_law_k"]) (asg := []) (fs := fs_law_cell_at) F sc_law_cell_at fun cdv A outer s H E L hL hr => ?_
  have hu3 : (A.deeper (envOfC "_law_cell_at" (defScope s_law_cell_at) s.heap.objs.size f cdv)).units + 90 < cLine := by have := hr.un; omega
  have hu : (A.deeper (envOfC "_law_cell_at" (defScope s_law_cell_at) s.heap.objs.size f cdv)).units + 60 < cLine := by omega
  have hu1 : (A.deeper (envOfC "_law_cell_at" (defScope s_law_cell_at) s.heap.objs.size f cdv)).units + 1 < cLine := by omega
  have hu2 : (A.deeper (envOfC "_law_cell_at" (defScope s_law_cell_at) s.heap.objs.size f cdv)).units + 62 < cLine := by omega
  exact (pssx_cons (psx_if (ptx_cmp (opr_ord (.inl rfl) hu) (po_var (i := 1) rfl (Or.inl rfl) (by decide) (by decide)) (PX.po (px_bltn call_lenD (by rfl) T.n_len bt_len (pa_consX (po_var (i := 0) rfl (Or.inl rfl) (by decide) (by decide)) pa_nilX st_Name) (by decide) (by decide) rfl rfl)) (nomark _)) (pssx_cons (psx_ret (px_ix (po_var (i := 0) rfl (Or.inl rfl) (by decide) (by decide)) (po_var (i := 1) rfl (Or.inl rfl) (by decide) (by decide)) (fun _ _ => rfl))) pssx_nil) pssx_nil) (pssx_cons (psx_ret px_int) pssx_nil))
abbrev s_law_state : Stmt := top 10
theorem sc_law_state : FnScope ["_law_script", "_law_k", "_law_cell"] ["_law_script", "_law_k"] (defScope s_law_state) := ⟨rfl, rfl, rfl, by decide +kernel, rfl, by decide +kernel, by decide +kernel⟩
theorem ok_law_state {P : Program} {w : World} {K : PySem.W.Frag} {mg : Str → Option Value} {base : Heap} {k : Nat} {f : Addr} {fd : FuncData} (F : Fun K "_law_state" "_law_state" s_law_state f fd) (T : Tx mg)  (O_law_cell_at : Ob P w K mg base k "_law_cell_at" ["_law_script", "_law_k"] ev_law_cell_at) : FnOk P w K mg base CX0 (k + 1) f fd ["_law_script", "_law_k"] (spF K ev_law_state) := by
  refine fun_ok (N := ["_law_script", "_law_k", "_law_cell"]) (asg := [2]) (fs := fs_law_state) F sc_law_state fun cdv A outer s H E L hL hr => ?_
  have hu3 : (A.deeper (envOfC "_law_state" (defScope s_law_state) s.heap.objs.size f cdv)).units + 90 < cLine := by have := hr.un; omega
  have hu : (A.deeper (envOfC "_law_state" (defScope s_law_state) s.heap.objs.size f cdv)).units + 60 < cLine := by omega
  have hu1 : (A.deeper (envOfC "_law_state" (defScope s_law_state) s.heap.objs.size f cdv)).units + 1 < cLine := by omega
  have hu2 : (A.deeper (envOfC "_law_state" (defScope s_law_state) s.heap.objs.size f cdv)).units + 62 < cLine := by omega
  exact (pssx_cons (psx_set (i := 2) sc_law_state.nd rfl (Or.inl rfl) (px_user O_law_cell_at.ok (O_law_cell_at.room hr) (by rfl) O_law_cell_at.mg O_law_cell_at.kp O_law_cell_at.bi (pa_consX (po_var (i := 0) rfl (Or.inl rfl) (by decide) (by decide)) (pa_consX (po_var (i := 1) rfl (Or.inl rfl) (by decide) (by decide)) pa_nilX st_Name) st_Name) (by decide) rfl rfl) rfl (Or.inl rfl) (by decide)) (pssx_cons (psx_if (ptx_cmp (opr_ord (.inr (.inr (.inr rfl))) hu) (po_var (i := 2) rfl (Or.inl rfl) (by decide) (by decide)) (PX.po (px_bin opr_pow (PX.po px_int) (PX.po px_int))) (nomark _)) (pssx_cons (psx_ret (px_lstS (pxs_cons (px_bin opr_sub (po_var (i := 2) rfl (Or.inl rfl) (by decide) (by decide)) (PX.po (px_bin opr_pow (PX.po px_int) (PX.po px_int)))) (pxs_cons px_bl pxs_nil st_Constant) st_BinOp))) pssx_nil) pssx_nil) (pssx_cons (psx_ret (px_lstS (pxs_cons (px_bin opr_mod (po_var (i := 2) rfl (Or.inl rfl) (by decide) (by decide)) (PX.po px_int)) (pxs_cons px_bl pxs_nil st_Constant) st_BinOp))) pssx_nil)))
abbrev s_law_take : Stmt := top 11
theorem sc_law_take : FnScope ["_law_state_here", "_law_many", "_law_found", "_law_mixed"] ["_law_state_here", "_law_many"] (defScope s_law_take) := ⟨rfl, rfl, rfl, by decide +kernel, rfl, by decide +kernel, by decide +kernel⟩
theorem ok_law_take {P : Program} {w : World} {K : PySem.W.Frag} {mg : Str → Option Value} {base : Heap} {k : Nat} {f : Addr} {fd : FuncData} (F : Fun K "_law_take" "_law_take" s_law_take f fd) (T : Tx mg)   : FnOk P w K mg base CX0 (k + 1) f fd ["_law_state_here", "_law_many"] (spF K ev_law_take) := by
  refine fun_ok (N := ["_law_state_here", "_law_many", "_law_found", "_law_mixed"]) (asg := [2, 3]) (fs := fs_law_take) F sc_law_take fun cdv A outer s H E L hL hr => ?_
  have hu3 : (A.deeper (envOfC "_law_take" (defScope s_law_take) s.heap.objs.size f cdv)).units + 90 < cLine := by have := hr.un; omega
  have hu : (A.deeper (envOfC "_law_take" (defScope s_law_take) s.heap.objs.size f cdv)).units + 60 < cLine := by omega
  have hu1 : (A.deeper (envOfC "_law_take" (defScope s_law_take) s.heap.objs.size f cdv)).units + 1 < cLine := by omega
  have hu2 : (A.deeper (envOfC "_law_take" (defScope s_law_take) s.heap.objs.size f cdv)).units + 62 < cLine := by omega
  exact (pssx_cons (psx_if (ptx_val (px_ix (po_var (i := 0) rfl (Or.inl rfl) (by decide) (by decide)) (PX.po px_int) (fun _ _ => rfl)) (fun _ => rfl)) (pssx_cons (psx_set (i := 2) sc_law_take.nd rfl (Or.inl rfl) (px_bin opr_mod (PX.po (px_ix (po_var (i := 0) rfl (Or.inl rfl) (by decide) (by decide)) (PX.po px_int) (fun _ _ => rfl))) (po_var (i := 1) rfl (Or.inl rfl) (by decide) (by decide))) rfl (Or.inl rfl) (by decide)) (pssx_cons (psx_setIx (po_var (i := 0) rfl (Or.inl rfl) (by decide) (by decide)) (px_bin opr_div (PX.po (px_ix (po_var (i := 0) rfl (Or.inl rfl) (by decide) (by decide)) (PX.po px_int) (fun _ _ => rfl))) (po_var (i := 1) rfl (Or.inl rfl) (by decide) (by decide))) (PX.po px_int) (fun _ => rfl) rfl rfl rfl) (pssx_cons (psx_retVar (i := 2) rfl (Or.inl rfl) (by decide) (by decide) (fun h => absurd (hL _ h) (by decide))) pssx_nil))) pssx_nil) (pssx_cons (psx_setIx (po_var (i := 0) rfl (Or.inl rfl) (by decide) (by decide)) (px_bin opr_mod (PX.po (px_bin opr_add (PX.po (px_bin opr_mul (PX.po (px_ix (po_var (i := 0) rfl (Or.inl rfl) (by decide) (by decide)) (PX.po px_int) (fun _ _ => rfl))) (PX.po px_int))) (PX.po px_int))) (PX.po px_int)) (PX.po px_int) (fun _ => rfl) rfl rfl rfl) (pssx_cons (psx_set (i := 3) sc_law_take.nd rfl (Or.inl rfl) (px_bin opr_mod (PX.po (px_bin opr_add (PX.po (px_bin opr_add (PX.po (px_bin opr_mul (PX.po (px_ix (po_var (i := 0) rfl (Or.inl rfl) (by decide) (by decide)) (PX.po px_int) (fun _ _ => rfl))) (PX.po (px_ix (po_var (i := 0) rfl (Or.inl rfl) (by decide) (by decide)) (PX.po px_int) (fun _ _ => rfl))))) (PX.po (px_bin opr_mul (PX.po px_int) (PX.po (px_ix (po_var (i := 0) rfl (Or.inl rfl) (by decide) (by decide)) (PX.po px_int) (fun _ _ => rfl))))))) (PX.po px_int))) (PX.po px_int)) rfl (Or.inl rfl) (by decide)) (pssx_cons (psx_set (i := 3) sc_law_take.nd rfl (Or.inl rfl) (px_bin opr_mod (PX.po (px_bin opr_add (PX.po (px_bin opr_mul (po_var (i := 3) rfl (Or.inl rfl) (by decide) (by decide)) (po_var (i := 3) rfl (Or.inl rfl) (by decide) (by decide)))) (PX.po (px_bin opr_mul (PX.po px_int) (po_var (i := 3) rfl (Or.inl rfl) (by decide) (by decide)))))) (PX.po px_int)) rfl (Or.inl rfl) (by decide)) (pssx_cons (psx_ret (px_bin opr_mod (PX.po (px_bin opr_div (po_var (i := 3) rfl (Or.inl rfl) (by decide) (by decide)) (PX.po px_int))) (po_var (i := 1) rfl (Or.inl rfl) (by decide) (by decide)))) pssx_nil)))))
abbrev s_law_turning : Stmt := top 12
theorem sc_law_turning : FnScope ["_law_state_here", "_law_names", "_law_rest", "_law_found", "_law_turn"] ["_law_state_here", "_law_names"] (defScope s_law_turning) := ⟨rfl, rfl, rfl, by decide +kernel, rfl, by decide +kernel, by decide +kernel⟩
theorem ok_law_turning {P : Program} {w : World} {K : PySem.W.Frag} {mg : Str → Option Value} {base : Heap} {k : Nat} {f : Addr} {fd : FuncData} (F : Fun K "_law_turning" "_law_turning" s_law_turning f fd) (T : Tx mg)  (O_law_take : Ob P w K mg base k "_law_take" ["_law_state_here", "_law_many"] ev_law_take) : FnOk P w K mg base CX0 (k + 1) f fd ["_law_state_here", "_law_names"] (spF K ev_law_turning) := by
  refine fun_ok (N := ["_law_state_here", "_law_names", "_law_rest", "_law_found", "_law_turn"]) (asg := [2, 3, 4]) (fs := fs_law_turning) F sc_law_turning fun cdv A outer s H E L hL hr => ?_
  have hu3 : (A.deeper (envOfC "_law_turning" (defScope s_law_turning) s.heap.objs.size f cdv)).units + 90 < cLine := by have := hr.un; omega
  have hu : (A.deeper (envOfC "_law_turning" (defScope s_law_turning) s.heap.objs.size f cdv)).units + 60 < cLine := by omega
  have hu1 : (A.deeper (envOfC "_law_turning" (defScope s_law_turning) s.heap.objs.size f cdv)).units + 1 < cLine := by omega
  have hu2 : (A.deeper (envOfC "_law_turning" (defScope s_law_turning) s.heap.objs.size f cdv)).units + 62 < cLine := by omega
  exact (pssx_cons (psx_set (i := 2) sc_law_turning.nd rfl (Or.inl rfl) (px_rg2 (.inl ⟨rfl, rfl, rfl⟩) rfl (by rfl) T.n_list bt_list (by decide) (by decide) (by rfl) T.n_range (pa_consX (PX.po px_int) (pa_consX (PX.po (px_bin opr_add (po_var (i := 1) rfl (Or.inl rfl) (by decide) (by decide)) (PX.po px_int))) pa_nilX st_BinOp) st_Constant) rfl rfl rfl rfl) rfl (Or.inl rfl) (by decide)) (pssx_cons (psx_set (i := 3) sc_law_turning.nd rfl (Or.inl rfl) (px_lstS pxs_nil) rfl (Or.inl rfl) (by decide)) (pssx_cons (psx_for PassesOwn.never rfl (pix_range1 (by rfl) T.n_range (pa_consX (po_var (i := 1) rfl (Or.inl rfl) (by decide) (by decide)) pa_nilX st_Name) rfl) (pgx_name (i := 4) sc_law_turning.nd rfl (Or.inl rfl) (Or.inl rfl) (by decide)) (pssx_cons (psx_expr (px_append (po_var (i := 3) rfl (Or.inl rfl) (by decide) (by decide)) (px_bin opr_mul (PX.po (px_popAt (po_var (i := 2) rfl (Or.inl rfl) (by decide) (by decide)) (PX.po (px_user O_law_take.ok (O_law_take.room hr) (by rfl) O_law_take.mg O_law_take.kp O_law_take.bi (pa_consX (po_var (i := 0) rfl (Or.inl rfl) (by decide) (by decide)) (pa_consX (PX.po (px_bltn call_lenD (by rfl) T.n_len bt_len (pa_consX (po_var (i := 2) rfl (Or.inl rfl) (by decide) (by decide)) pa_nilX st_Name) (by decide) (by decide) rfl rfl)) pa_nilX st_Call) st_Name) (by decide) rfl rfl)) rfl rfl rfl rfl rfl)) (PX.po (px_ix (PX.po (px_lstS (pxs_cons px_int (pxs_cons (px_neg (PX.po px_int)) pxs_nil st_UnaryOp) st_Constant))) (PX.po (px_user O_law_take.ok (O_law_take.room hr) (by rfl) O_law_take.mg O_law_take.kp O_law_take.bi (pa_consX (po_var (i := 0) rfl (Or.inl rfl) (by decide) (by decide)) (pa_consX (PX.po px_int) pa_nilX st_Constant) st_Name) (by decide) rfl rfl)) (fun _ _ => rfl)))) rfl rfl rfl rfl rfl) rfl) pssx_nil) (fun _ => rfl)) (pssx_cons (psx_ret (px_type call_tupleD (by rfl) T.n_tuple bt_tuple (pa_consX (po_var (i := 3) rfl (Or.inl rfl) (by decide) (by decide)) pa_nilX st_Name) (by decide) (by decide) rfl rfl)) pssx_nil))))
abbrev s_law_led_sign : Stmt := top 13
theorem sc_law_led_sign : FnScope ["_law_turning_here", "_law_sign"] ["_law_turning_here", "_law_sign"] (defScope s_law_led_sign) := ⟨rfl, rfl, rfl, by decide +kernel, rfl, by decide +kernel, by decide +kernel⟩
theorem ok_law_led_sign {P : Program} {w : World} {K : PySem.W.Frag} {mg : Str → Option Value} {base : Heap} {k : Nat} {f : Addr} {fd : FuncData} (F : Fun K "_law_led_sign" "_law_led_sign" s_law_led_sign f fd) (T : Tx mg)   : FnOk P w K mg base CX0 (k + 1) f fd ["_law_turning_here", "_law_sign"] (spF K ev_law_led_sign_k21) := by
  refine fun_ok (N := ["_law_turning_here", "_law_sign"]) (asg := []) (fs := fs_law_led_sign_k21) F sc_law_led_sign fun cdv A outer s H E L hL hr => ?_
  have hu3 : (A.deeper (envOfC "_law_led_sign" (defScope s_law_led_sign) s.heap.objs.size f cdv)).units + 90 < cLine := by have := hr.un; omega
  have hu : (A.deeper (envOfC "_law_led_sign" (defScope s_law_led_sign) s.heap.objs.size f cdv)).units + 60 < cLine := by omega
  have hu1 : (A.deeper (envOfC "_law_led_sign" (defScope s_law_led_sign) s.heap.objs.size f cdv)).units + 1 < cLine := by omega
  have hu2 : (A.deeper (envOfC "_law_led_sign" (defScope s_law_led_sign) s.heap.objs.size f cdv)).units + 62 < cLine := by omega
  exact (pssx_cons (psx_ret (px_bin opr_mul (PX.po (px_ix (po_var (i := 0) rfl (Or.inl rfl) (by decide) (by decide)) (PX.po (px_bin opr_sub (PX.po (px_bltn call_absD (by rfl) T.n_abs bt_abs (pa_consX (po_var (i := 1) rfl (Or.inl rfl) (by decide) (by decide)) pa_nilX st_Name) (by decide) (by decide) rfl rfl)) (PX.po px_int))) (fun _ _ => rfl))) (PX.po (px_ix (PX.po (px_lstS (pxs_cons px_int (pxs_cons (px_neg (PX.po px_int)) pxs_nil st_UnaryOp) st_Constant))) (PX.po (px_type call_intD (by rfl) T.n_int bt_int (pa_consX (PX.po (px_cmp (opr_ord (.inl rfl) hu) (po_var (i := 1) rfl (Or.inl rfl) (by decide) (by decide)) (PX.po px_int) (nomark _))) pa_nilX st_Compare) (by decide) (by decide) rfl rfl)) (fun _ _ => rfl))))) pssx_nil)
abbrev s_law_whole : Stmt := top 14
theorem sc_law_whole : FnScope ["_law_thing"] ["_law_thing"] (defScope s_law_whole) := ⟨rfl, rfl, rfl, by decide +kernel, rfl, by decide +kernel, by decide +kernel⟩
theorem ok_law_whole {P : Program} {w : World} {K : PySem.W.Frag} {mg : Str → Option Value} {base : Heap} {k : Nat} {f : Addr} {fd : FuncData} (F : Fun K "_law_whole" "_law_whole" s_law_whole f fd) (T : Tx mg)   : FnOk P w K mg base CX0 (k + 1) f fd ["_law_thing"] (spF K ev_law_whole_k21) := by
  refine fun_ok (N := ["_law_thing"]) (asg := []) (fs := fs_law_whole_k21) F sc_law_whole fun cdv A outer s H E L hL hr => ?_
  have hu3 : (A.deeper (envOfC "_law_whole" (defScope s_law_whole) s.heap.objs.size f cdv)).units + 90 < cLine := by have := hr.un; omega
  have hu : (A.deeper (envOfC "_law_whole" (defScope s_law_whole) s.heap.objs.size f cdv)).units + 60 < cLine := by omega
  have hu1 : (A.deeper (envOfC "_law_whole" (defScope s_law_whole) s.heap.objs.size f cdv)).units + 1 < cLine := by omega
  have hu2 : (A.deeper (envOfC "_law_whole" (defScope s_law_whole) s.heap.objs.size f cdv)).units + 62 < cLine := by omega
  exact (pssx_cons (psx_ret (px_and (px_isi (t := .int) (po_var (i := 0) rfl (Or.inl rfl) (by decide) (by decide)) (by rfl) T.n_isinstance (by rfl) T.n_int bt_int (by decide) (by decide) bt_isinstance rfl rfl rfl) (px_bone (px_not (px_isi (t := .bool) (po_var (i := 0) rfl (Or.inl rfl) (by decide) (by decide)) (by rfl) T.n_isinstance (by rfl) T.n_bool bt_bool (by decide) (by decide) bt_isinstance rfl rfl rfl))))) pssx_nil)
abbrev s_law_is_turning : Stmt := top 15
theorem sc_law_is_turning : FnScope ["_law_names", "_law_thing"] ["_law_names", "_law_thing"] (defScope s_law_is_turning) := ⟨rfl, rfl, rfl, by decide +kernel, rfl, by decide +kernel, by decide +kernel⟩
theorem ok_law_is_turning {P : Program} {w : World} {K : PySem.W.Frag} {mg : Str → Option Value} {base : Heap} {k : Nat} {f : Addr} {fd : FuncData} (F : Fun K "_law_is_turning" "_law_is_turning" s_law_is_turning f fd) (T : Tx mg)  (O_law_whole : Ob P w K mg base k "_law_whole" ["_law_thing"] ev_law_whole_k21) : FnOk P w K mg base CX0 (k + 1) f fd ["_law_names", "_law_thing"] (spF K ev_law_is_turning) := by
  refine fun_ok (N := ["_law_names", "_law_thing"]) (asg := []) (fs := fs_law_is_turning) F sc_law_is_turning fun cdv A outer s H E L hL hr => ?_
  have hu3 : (A.deeper (envOfC "_law_is_turning" (defScope s_law_is_turning) s.heap.objs.size f cdv)).units + 90 < cLine := by have := hr.un; omega
  have hu : (A.deeper (envOfC "_law_is_turning" (defScope s_law_is_turning) s.heap.objs.size f cdv)).units + 60 < cLine := by omega
  have hu1 : (A.deeper (envOfC "_law_is_turning" (defScope s_law_is_turning) s.heap.objs.size f cdv)).units + 1 < cLine := by omega
  have hu2 : (A.deeper (envOfC "_law_is_turning" (defScope s_law_is_turning) s.heap.objs.size f cdv)).units + 62 < cLine := by omega
  exact (pssx_cons (psx_if (pwx_pt (pwx_or (ptx_not (ptx_val (px_isi (t := .tuple) (po_var (i := 1) rfl (Or.inl rfl) (by decide) (by decide)) (by rfl) T.n_isinstance (by rfl) T.n_tuple bt_tuple (by decide) (by decide) bt_isinstance rfl rfl rfl) (fun _ => rfl))) (pwx_or1 (ptx_not (ptx_val (px_bltn (call_allD rfl) (by rfl) T.n_all bt_all (pa_consX (PX.po (by exact (px_comp (N' := ["_law_sign"]) (caps := []) (k := 1) (compOk (N := ["_law_names", "_law_thing"]) (sc := defScope s_law_is_turning) rfl rfl (by decide +kernel)) rfl rfl (by intro g' h; cases h) (fun _ => rfl) (pix_seq (px_var (i := 1) rfl (Or.inl rfl) (by decide) (by decide))) (fun cl C s3 H3 fp pins => ⟨(pgx_name (i := 0) (show (["_law_sign"] : List Str).Nodup from by decide +kernel) rfl (Or.inl rfl) (Or.inr rfl) (by decide)), pifx_nil, fun d => pbx_emit rfl (px_user O_law_whole.ok (O_law_whole.room hr) (by rfl) O_law_whole.mg O_law_whole.kp O_law_whole.bi (pa_consX (po_var (i := 0) rfl (Or.inl rfl) (by decide) (by decide)) pa_nilX st_Name) (by decide) rfl rfl)⟩)))) pa_nilX st_ListComp) (by decide) (by decide) rfl rfl) (fun _ => rfl)))))) (pssx_cons (psx_ret px_bl) pssx_nil) pssx_nil) (pssx_cons (psx_ret (px_cmp (opr_eq hu) (PX.po (px_bltn (call_sortedD hu2) (by rfl) T.n_sorted bt_sorted (pa_consX (PX.po (by exact (px_comp (N' := ["_law_sign"]) (caps := []) (k := 1) (compOk (N := ["_law_names", "_law_thing"]) (sc := defScope s_law_is_turning) rfl rfl (by decide +kernel)) rfl rfl (by intro g' h; cases h) (fun _ => rfl) (pix_seq (px_var (i := 1) rfl (Or.inl rfl) (by decide) (by decide))) (fun cl C s3 H3 fp pins => ⟨(pgx_name (i := 0) (show (["_law_sign"] : List Str).Nodup from by decide +kernel) rfl (Or.inl rfl) (Or.inr rfl) (by decide)), pifx_nil, fun d => pbx_emit rfl (px_bltn call_absD (by rfl) T.n_abs bt_abs (pa_consX (po_var (i := 0) rfl (Or.inl rfl) (by decide) (by decide)) pa_nilX st_Name) (by decide) (by decide) rfl rfl)⟩)))) pa_nilX st_ListComp) (by decide) (by decide) rfl rfl)) (PX.po (px_rg2 (.inl ⟨rfl, rfl, rfl⟩) rfl (by rfl) T.n_list bt_list (by decide) (by decide) (by rfl) T.n_range (pa_consX (PX.po px_int) (pa_consX (PX.po (px_bin opr_add (po_var (i := 0) rfl (Or.inl rfl) (by decide) (by decide)) (PX.po px_int))) pa_nilX st_BinOp) st_Constant) rfl rfl rfl rfl)) (nomark _))) pssx_nil))
abbrev s_law_odd : Stmt := top 16
theorem sc_law_odd : FnScope ["_law_state_here", "_law_some"] ["_law_state_here"] (defScope s_law_odd) := ⟨rfl, rfl, rfl, by decide +kernel, rfl, by decide +kernel, by decide +kernel⟩
theorem ok_law_odd {P : Program} {w : World} {K : PySem.W.Frag} {mg : Str → Option Value} {base : Heap} {k : Nat} {f : Addr} {fd : FuncData} (F : Fun K "_law_odd" "_law_odd" s_law_odd f fd) (T : Tx mg)  (O_law_take : Ob P w K mg base k "_law_take" ["_law_state_here", "_law_many"] ev_law_take) : FnOk P w K mg base CX0 (k + 1) f fd ["_law_state_here"] (spF K ev_law_odd) := by
  refine fun_ok (N := ["_law_state_here", "_law_some"]) (asg := [1]) (fs := fs_law_odd) F sc_law_odd fun cdv A outer s H E L hL hr => ?_
  have hu3 : (A.deeper (envOfC "_law_odd" (defScope s_law_odd) s.heap.objs.size f cdv)).units + 90 < cLine := by have := hr.un; omega
  have hu : (A.deeper (envOfC "_law_odd" (defScope s_law_odd) s.heap.objs.size f cdv)).units + 60 < cLine := by omega
  have hu1 : (A.deeper (envOfC "_law_odd" (defScope s_law_odd) s.heap.objs.size f cdv)).units + 1 < cLine := by omega
  have hu2 : (A.deeper (envOfC "_law_odd" (defScope s_law_odd) s.heap.objs.size f cdv)).units + 62 < cLine := by omega
  have PX_po := @PX.po
  have pa_consX := @pa_consX
  have pa_nilX := @pa_nilX
  have po_var := @po_var
  have pssx_cons := @pssx_cons
  have pssx_nil := @pssx_nil
  have psx_ret := @psx_ret
  have psx_set := @psx_set
  have px_bin := @px_bin
  have px_bl := @px_bl
  have px_dct1 := @px_dct1
  have px_int := @px_int
  have px_ix := @px_ix
  have px_lstS := @px_lstS
  have px_neg := @px_neg
  have px_non := @px_non
  have px_str := @px_str
  have px_tupS := @px_tupS
  have px_user := @px_user
  have pxs_cons := @pxs_cons
  have pxs_nil := @pxs_nil
  simp only [PXq_e, POq_e, PSXq_e, PSsXq_e, PTXq_e, PXsq_e, PAq_e] at PX_po pa_consX pa_nilX po_var pssx_cons pssx_nil psx_ret psx_set px_bin px_bl px_dct1 px_int px_ix px_lstS px_neg px_non px_str px_tupS px_user pxs_cons pxs_nil
  rw [PSsXq_e]
  exact (pssx_cons (psx_set (i := 1) sc_law_odd.nd rfl (Or.inl rfl) (px_lstS (pxs_cons px_non (pxs_cons px_bl (pxs_cons px_bl (pxs_cons (px_neg (PX_po px_int)) (pxs_cons px_int (pxs_cons px_int (pxs_cons px_str (pxs_cons px_str (pxs_cons (px_tupS pxs_nil) (pxs_cons (px_lstS pxs_nil) (pxs_cons (px_tupS (pxs_cons px_bl pxs_nil st_Constant)) (pxs_cons (px_lstS (pxs_cons px_int pxs_nil st_Constant)) (pxs_cons px_dct1 (pxs_cons (px_tupS (pxs_cons px_non pxs_nil st_Constant)) (pxs_cons (px_tupS (pxs_cons (px_tupS (pxs_cons px_int pxs_nil st_Constant)) pxs_nil st_Tuple)) (pxs_cons (px_bin opr_pow (PX_po px_int) (PX_po px_int)) pxs_nil st_BinOp) st_Tuple) st_Tuple) st_Dict) st_List) st_Tuple) st_List) st_Tuple) st_Constant) st_Constant) st_Constant) st_Constant) st_UnaryOp) st_Constant) st_Constant) st_Constant)) rfl (Or.inl rfl) (by decide)) (pssx_cons (psx_ret (px_ix (PX_po (px_bin opr_add (po_var (i := 1) rfl (Or.inl rfl) (by decide) (by decide)) (PX_po (px_lstS (pxs_cons (px_tupS (pxs_cons px_int pxs_nil st_Constant)) (pxs_cons (px_tupS (pxs_cons px_int (pxs_cons px_int pxs_nil st_Constant) st_Constant)) pxs_nil st_Tuple) st_Tuple))))) (PX_po (px_user O_law_take.ok (O_law_take.room hr) (by rfl) O_law_take.mg O_law_take.kp O_law_take.bi (pa_consX (po_var (i := 0) rfl (Or.inl rfl) (by decide) (by decide)) (pa_consX (PX_po px_int) pa_nilX st_Constant) st_Name) (by decide) rfl rfl)) (fun _ _ => rfl))) pssx_nil))
abbrev s_law_bent_turning : Stmt := top 17
theorem sc_law_bent_turning : FnScope ["_law_state_here", "_law_turning_here", "_law_names", "_law_at", "_law_to", "_law_odd_here", "_law_some"] ["_law_state_here", "_law_turning_here"] (defScope s_law_bent_turning) := ⟨rfl, rfl, rfl, by decide +kernel, rfl, by decide +kernel, by decide +kernel⟩
theorem ok_law_bent_turning {P : Program} {w : World} {K : PySem.W.Frag} {mg : Str → Option Value} {base : Heap} {k : Nat} {f : Addr} {fd : FuncData} (F : Fun K "_law_bent_turning" "_law_bent_turning" s_law_bent_turning f fd) (T : Tx mg)  (O_law_take : Ob P w K mg base k "_law_take" ["_law_state_here", "_law_many"] ev_law_take) : FnOk P w K mg base CX0 (k + 1) f fd ["_law_state_here", "_law_turning_here"] (spF K ev_law_bent_turning) := by
  refine fun_ok (N := ["_law_state_here", "_law_turning_here", "_law_names", "_law_at", "_law_to", "_law_odd_here", "_law_some"]) (asg := [2, 3, 4, 5, 6]) (fs := fs_law_bent_turning) F sc_law_bent_turning fun cdv A outer s H E L hL hr => ?_
  have hu3 : (A.deeper (envOfC "_law_bent_turning" (defScope s_law_bent_turning) s.heap.objs.size f cdv)).units + 90 < cLine := by have := hr.un; omega
  have hu : (A.deeper (envOfC "_law_bent_turning" (defScope s_law_bent_turning) s.heap.objs.size f cdv)).units + 60 < cLine := by omega
  have hu1 : (A.deeper (envOfC "_law_bent_turning" (defScope s_law_bent_turning) s.heap.objs.size f cdv)).units + 1 < cLine := by omega
  have hu2 : (A.deeper (envOfC "_law_bent_turning" (defScope s_law_bent_turning) s.heap.objs.size f cdv)).units + 62 < cLine := by omega
  have PX_po := @PX.po
  have pa_consX := @pa_consX
  have pa_nilX := @pa_nilX
  have po_var := @po_var
  have pssx_cons := @pssx_cons
  have pssx_nil := @pssx_nil
  have psx_if := @psx_if
  have psx_par := @psx_par
  have psx_ret := @psx_ret
  have psx_set := @psx_set
  have ptx_cmp := @ptx_cmp
  have px_bin := @px_bin
  have px_bl := @px_bl
  have px_bltn := @px_bltn
  have px_int := @px_int
  have px_ix := @px_ix
  have px_lstS := @px_lstS
  have px_neg := @px_neg
  have px_non := @px_non
  have px_rev := @px_rev
  have px_slHi := @px_slHi
  have px_slLo := @px_slLo
  have px_str := @px_str
  have px_tupS := @px_tupS
  have px_type := @px_type
  have px_user := @px_user
  have px_var := @px_var
  have pxs_cons := @pxs_cons
  have pxs_nil := @pxs_nil
  simp only [PXq_e, POq_e, PSXq_e, PSsXq_e, PTXq_e, PXsq_e, PAq_e] at PX_po pa_consX pa_nilX po_var pssx_cons pssx_nil psx_if psx_par psx_ret psx_set ptx_cmp px_bin px_bl px_bltn px_int px_ix px_lstS px_neg px_non px_rev px_slHi px_slLo px_str px_tupS px_type px_user px_var pxs_cons pxs_nil
  rw [PSsXq_e]
  exact (pssx_cons (psx_set (i := 2) sc_law_bent_turning.nd rfl (Or.inl rfl) (px_bltn call_lenD (by rfl) T.n_len bt_len (pa_consX (po_var (i := 1) rfl (Or.inl rfl) (by decide) (by decide)) pa_nilX st_Name) (by decide) (by decide) rfl rfl) rfl (Or.inl rfl) (by decide)) (pssx_cons (psx_if (ptx_cmp (opr_eq hu) (po_var (i := 2) rfl (Or.inl rfl) (by decide) (by decide)) (PX_po px_int) (nomark _)) (pssx_cons (psx_ret (px_ix (PX_po (px_lstS (pxs_cons (px_tupS (pxs_cons px_int pxs_nil st_Constant)) (pxs_cons (px_tupS (pxs_cons px_int pxs_nil st_Constant)) (pxs_cons (px_lstS pxs_nil) (pxs_cons px_non (pxs_cons (px_tupS (pxs_cons (px_tupS pxs_nil) pxs_nil st_Tuple)) (pxs_cons (px_tupS (pxs_cons px_bl pxs_nil st_Constant)) pxs_nil st_Tuple) st_Tuple) st_Constant) st_List) st_Tuple) st_Tuple))) (PX_po (px_user O_law_take.ok (O_law_take.room hr) (by rfl) O_law_take.mg O_law_take.kp O_law_take.bi (pa_consX (po_var (i := 0) rfl (Or.inl rfl) (by decide) (by decide)) (pa_consX (PX_po px_int) pa_nilX st_Constant) st_Name) (by decide) rfl rfl)) (fun _ _ => rfl))) pssx_nil) pssx_nil) (pssx_cons (psx_par (i := 3) (j := 4) rfl sc_law_bent_turning.nd rfl rfl (by decide) rfl rfl (pa_consX (PX_po (px_user O_law_take.ok (O_law_take.room hr) (by rfl) O_law_take.mg O_law_take.kp O_law_take.bi (pa_consX (po_var (i := 0) rfl (Or.inl rfl) (by decide) (by decide)) (pa_consX (po_var (i := 2) rfl (Or.inl rfl) (by decide) (by decide)) pa_nilX st_Name) st_Name) (by decide) rfl rfl)) (pa_consX (PX_po (px_user O_law_take.ok (O_law_take.room hr) (by rfl) O_law_take.mg O_law_take.kp O_law_take.bi (pa_consX (po_var (i := 0) rfl (Or.inl rfl) (by decide) (by decide)) (pa_consX (po_var (i := 2) rfl (Or.inl rfl) (by decide) (by decide)) pa_nilX st_Name) st_Name) (by decide) rfl rfl)) pa_nilX st_Call) st_Call) rfl rfl (by decide) (by decide)) (pssx_cons (psx_set (i := 5) sc_law_bent_turning.nd rfl (Or.inl rfl) (px_lstS (pxs_cons px_int (pxs_cons (px_bin opr_add (po_var (i := 2) rfl (Or.inl rfl) (by decide) (by decide)) (PX_po px_int)) (pxs_cons (px_bin opr_sub (PX_po (px_neg (po_var (i := 2) rfl (Or.inl rfl) (by decide) (by decide)))) (PX_po px_int)) (pxs_cons px_bl (pxs_cons px_non (pxs_cons px_str (pxs_cons (px_tupS (pxs_cons px_int pxs_nil st_Constant)) (pxs_cons (px_ix (po_var (i := 1) rfl (Or.inl rfl) (by decide) (by decide)) (po_var (i := 4) rfl (Or.inl rfl) (by decide) (by decide)) (fun _ _ => rfl)) (pxs_cons (px_neg (PX_po (px_ix (po_var (i := 1) rfl (Or.inl rfl) (by decide) (by decide)) (po_var (i := 4) rfl (Or.inl rfl) (by decide) (by decide)) (fun _ _ => rfl)))) (pxs_cons (px_neg (PX_po (px_ix (po_var (i := 1) rfl (Or.inl rfl) (by decide) (by decide)) (po_var (i := 3) rfl (Or.inl rfl) (by decide) (by decide)) (fun _ _ => rfl)))) (pxs_cons (px_bin opr_pow (PX_po px_int) (PX_po px_int)) pxs_nil st_BinOp) st_UnaryOp) st_UnaryOp) st_Subscript) st_Tuple) st_Constant) st_Constant) st_Constant) st_BinOp) st_BinOp) st_Constant)) rfl (Or.inl rfl) (by decide)) (pssx_cons (psx_set (i := 5) sc_law_bent_turning.nd rfl (Or.inl rfl) (px_ix (po_var (i := 5) rfl (Or.inl rfl) (by decide) (by decide)) (PX_po (px_user O_law_take.ok (O_law_take.room hr) (by rfl) O_law_take.mg O_law_take.kp O_law_take.bi (pa_consX (po_var (i := 0) rfl (Or.inl rfl) (by decide) (by decide)) (pa_consX (PX_po px_int) pa_nilX st_Constant) st_Name) (by decide) rfl rfl)) (fun _ _ => rfl)) rfl (Or.inl rfl) (by decide)) (pssx_cons (psx_set (i := 6) sc_law_bent_turning.nd rfl (Or.inl rfl) (px_lstS (pxs_cons (px_bin opr_add (PX_po (px_bin opr_add (PX_po (px_slHi (po_var (i := 1) rfl (Or.inl rfl) (by decide) (by decide)) (po_var (i := 3) rfl (Or.inl rfl) (by decide) (by decide)))) (PX_po (px_tupS (pxs_cons (px_var (i := 5) rfl (Or.inl rfl) (by decide) (by decide)) pxs_nil st_Name))))) (PX_po (px_slLo (po_var (i := 1) rfl (Or.inl rfl) (by decide) (by decide)) (PX_po (px_bin opr_add (po_var (i := 3) rfl (Or.inl rfl) (by decide) (by decide)) (PX_po px_int)))))) (pxs_cons (px_bin opr_add (PX_po (px_bin opr_add (PX_po (px_slHi (po_var (i := 1) rfl (Or.inl rfl) (by decide) (by decide)) (po_var (i := 3) rfl (Or.inl rfl) (by decide) (by decide)))) (PX_po (px_tupS (pxs_cons (px_var (i := 5) rfl (Or.inl rfl) (by decide) (by decide)) pxs_nil st_Name))))) (PX_po (px_slLo (po_var (i := 1) rfl (Or.inl rfl) (by decide) (by decide)) (po_var (i := 3) rfl (Or.inl rfl) (by decide) (by decide))))) (pxs_cons (px_type call_listD (by rfl) T.n_list bt_list (pa_consX (po_var (i := 1) rfl (Or.inl rfl) (by decide) (by decide)) pa_nilX st_Name) (by decide) (by decide) rfl rfl) (pxs_cons (px_tupS (pxs_cons (px_var (i := 1) rfl (Or.inl rfl) (by decide) (by decide)) pxs_nil st_Name)) pxs_nil st_Tuple) st_Call) st_BinOp) st_BinOp)) rfl (Or.inl rfl) (by decide)) (pssx_cons (psx_set (i := 6) sc_law_bent_turning.nd rfl (Or.inl rfl) (px_bin opr_add (po_var (i := 6) rfl (Or.inl rfl) (by decide) (by decide)) (PX_po (px_lstS (pxs_cons (px_bin opr_add (PX_po (px_slHi (po_var (i := 1) rfl (Or.inl rfl) (by decide) (by decide)) (po_var (i := 3) rfl (Or.inl rfl) (by decide) (by decide)))) (PX_po (px_slLo (po_var (i := 1) rfl (Or.inl rfl) (by decide) (by decide)) (PX_po (px_bin opr_add (po_var (i := 3) rfl (Or.inl rfl) (by decide) (by decide)) (PX_po px_int)))))) (pxs_cons (px_bin opr_add (po_var (i := 1) rfl (Or.inl rfl) (by decide) (by decide)) (PX_po (px_tupS (pxs_cons (px_bin opr_add (po_var (i := 2) rfl (Or.inl rfl) (by decide) (by decide)) (PX_po px_int)) pxs_nil st_BinOp)))) (pxs_cons (px_rev (po_var (i := 1) rfl (Or.inl rfl) (by decide) (by decide)) (PX_po (px_neg (PX_po px_int)))) (pxs_cons (px_bin opr_add (po_var (i := 1) rfl (Or.inl rfl) (by decide) (by decide)) (PX_po (px_slHi (po_var (i := 1) rfl (Or.inl rfl) (by decide) (by decide)) (PX_po px_int)))) pxs_nil st_BinOp) st_Subscript) st_BinOp) st_BinOp)))) rfl (Or.inl rfl) (by decide)) (pssx_cons (psx_ret (px_ix (po_var (i := 6) rfl (Or.inl rfl) (by decide) (by decide)) (PX_po (px_ix (PX_po (px_lstS (pxs_cons px_int (pxs_cons px_int (pxs_cons px_int (pxs_cons px_int (pxs_cons px_int (pxs_cons px_int (pxs_cons px_int (pxs_cons px_int (pxs_cons px_int (pxs_cons px_int pxs_nil st_Constant) st_Constant) st_Constant) st_Constant) st_Constant) st_Constant) st_Constant) st_Constant) st_Constant) st_Constant))) (PX_po (px_user O_law_take.ok (O_law_take.room hr) (by rfl) O_law_take.mg O_law_take.kp O_law_take.bi (pa_consX (po_var (i := 0) rfl (Or.inl rfl) (by decide) (by decide)) (pa_consX (PX_po px_int) pa_nilX st_Constant) st_Name) (by decide) rfl rfl)) (fun _ _ => rfl))) (fun _ _ => rfl))) pssx_nil))))))))
abbrev s_law_same : Stmt := top 18
theorem sc_law_same : FnScope ["_law_found", "_law_due"] ["_law_found", "_law_due"] (defScope s_law_same) := ⟨rfl, rfl, rfl, by decide +kernel, rfl, by decide +kernel, by decide +kernel⟩
theorem okr_law_same {P : Program} {w : World} {K : PySem.W.Frag} {mg : Str → Option Value} {base : Heap} {k : Nat} {f : Addr} {fd : FuncData} {ev : EvF} (F : Fun K "_law_same" "_law_same" s_law_same f fd) (T : Tx mg)   (O_law_same : Ob P w K mg base k "_law_same" ["_law_found", "_law_due"] ev) : FnOk P w K mg base CX0 (k + 1) f fd ["_law_found", "_law_due"] (spF K (evF 2 2 [] (fs_law_same_k21 ev))) := by
  refine fun_ok (N := ["_law_found", "_law_due"]) (asg := []) (fs := fs_law_same_k21 ev) F sc_law_same fun cdv A outer s H E L hL hr => ?_
  have hu3 : (A.deeper (envOfC "_law_same" (defScope s_law_same) s.heap.objs.size f cdv)).units + 90 < cLine := by have := hr.un; omega
  have hu : (A.deeper (envOfC "_law_same" (defScope s_law_same) s.heap.objs.size f cdv)).units + 60 < cLine := by omega
  have hu1 : (A.deeper (envOfC "_law_same" (defScope s_law_same) s.heap.objs.size f cdv)).units + 1 < cLine := by omega
  have hu2 : (A.deeper (envOfC "_law_same" (defScope s_law_same) s.heap.objs.size f cdv)).units + 62 < cLine := by omega
  exact (pssx_cons (psx_if (ptx_val (px_isi2 (t := .tuple) (t' := .list) (po_var (i := 1) rfl (Or.inl rfl) (by decide) (by decide)) (by rfl) T.n_isinstance (by rfl) T.n_tuple bt_tuple (by decide) (by decide) (by rfl) T.n_list bt_list (by decide) (by decide) bt_isinstance rfl rfl rfl rfl rfl) (fun _ => rfl)) (pssx_cons (psx_if (pwx_pt (pwx_or (ptx_cmp (opr_ne hu) (PX.po (px_isi (t := .tuple) (po_var (i := 0) rfl (Or.inl rfl) (by decide) (by decide)) (by rfl) T.n_isinstance (by rfl) T.n_tuple bt_tuple (by decide) (by decide) bt_isinstance rfl rfl rfl)) (PX.po (px_isi (t := .tuple) (po_var (i := 1) rfl (Or.inl rfl) (by decide) (by decide)) (by rfl) T.n_isinstance (by rfl) T.n_tuple bt_tuple (by decide) (by decide) bt_isinstance rfl rfl rfl)) (nomark _)) (pwx_or1 (ptx_cmp (opr_ne hu) (PX.po (px_isi (t := .list) (po_var (i := 0) rfl (Or.inl rfl) (by decide) (by decide)) (by rfl) T.n_isinstance (by rfl) T.n_list bt_list (by decide) (by decide) bt_isinstance rfl rfl rfl)) (PX.po (px_isi (t := .list) (po_var (i := 1) rfl (Or.inl rfl) (by decide) (by decide)) (by rfl) T.n_isinstance (by rfl) T.n_list bt_list (by decide) (by decide) bt_isinstance rfl rfl rfl)) (nomark _))))) (pssx_cons (psx_ret px_bl) pssx_nil) pssx_nil) (pssx_cons (psx_ret (px_and (px_cmp (opr_eq hu) (PX.po (px_bltn call_lenD (by rfl) T.n_len bt_len (pa_consX (po_var (i := 0) rfl (Or.inl rfl) (by decide) (by decide)) pa_nilX st_Name) (by decide) (by decide) rfl rfl)) (PX.po (px_bltn call_lenD (by rfl) T.n_len bt_len (pa_consX (po_var (i := 1) rfl (Or.inl rfl) (by decide) (by decide)) pa_nilX st_Name) (by decide) (by decide) rfl rfl)) (nomark _)) (px_bone (px_bltn (call_allD rfl) (by rfl) T.n_all bt_all (pa_consX (PX.po (by exact (px_comp (N' := ["_law_one", "_law_other"]) (caps := []) (k := 2) (compOk (N := ["_law_found", "_law_due"]) (sc := defScope s_law_same) rfl rfl (by decide +kernel)) rfl rfl (by intro g' h; cases h) (fun _ => rfl) (pix_zip (by rfl) T.n_zip (px_var (i := 0) rfl (Or.inl rfl) (by decide) (by decide)) (px_var (i := 1) rfl (Or.inl rfl) (by decide) (by decide)) rfl rfl rfl) (fun cl C s3 H3 fp pins => ⟨(pgx_tup rfl (pgsx_cons (pgx_name (i := 0) (show (["_law_one", "_law_other"] : List Str).Nodup from by decide +kernel) rfl (Or.inl rfl) (Or.inr rfl) (by decide)) (pgsx_cons (pgx_name (i := 1) (show (["_law_one", "_law_other"] : List Str).Nodup from by decide +kernel) rfl (Or.inl rfl) (Or.inr rfl) (by decide)) pgsx_nil rfl) rfl) rfl rfl rfl), pifx_nil, fun d => pbx_emit rfl (px_user O_law_same.ok (O_law_same.room hr) (by rfl) O_law_same.mg O_law_same.kp O_law_same.bi (pa_consX (po_var (i := 0) rfl (Or.inl rfl) (by decide) (by decide)) (pa_consX (po_var (i := 1) rfl (Or.inl rfl) (by decide) (by decide)) pa_nilX st_Name) st_Name) (by decide) rfl rfl)⟩)))) pa_nilX st_ListComp) (by decide) (by decide) rfl rfl)))) pssx_nil)) pssx_nil) (pssx_cons (psx_ret (px_and (px_cmp (opr_eq hu) (po_var (i := 0) rfl (Or.inl rfl) (by decide) (by decide)) (po_var (i := 1) rfl (Or.inl rfl) (by decide) (by decide)) (nomark _)) (px_bone (px_cmp (opr_eq hu) (PX.po (px_isi (t := .bool) (po_var (i := 0) rfl (Or.inl rfl) (by decide) (by decide)) (by rfl) T.n_isinstance (by rfl) T.n_bool bt_bool (by decide) (by decide) bt_isinstance rfl rfl rfl)) (PX.po (px_isi (t := .bool) (po_var (i := 1) rfl (Or.inl rfl) (by decide) (by decide)) (by rfl) T.n_isinstance (by rfl) T.n_bool bt_bool (by decide) (by decide) bt_isinstance rfl rfl rfl)) (nomark _))))) pssx_nil))
theorem ok_law_same {P : Program} {w : World} {K : PySem.W.Frag} {mg : Str → Option Value} {base : Heap} {f : Addr} {fd : FuncData} (F : Fun K "_law_same" "_law_same" s_law_same f fd) (T : Tx mg)  (mg' : mg "_law_same" = some (.ref f)) (kp : PySem.W.keepIn K (.ref f) = true) (bi : Binds K fd ["_law_found", "_law_due"] []) : ∀ m : Nat, FnOk P w K mg base CX0 m f fd ["_law_found", "_law_due"] (spF K (ev_law_same_k21 m))
  | 0 => fn_zero
  | m + 1 => okr_law_same F T  ⟨f, fd, ok_law_same F T  mg' kp bi m, mg', kp, bi⟩
abbrev s_law : Stmt := top 19
theorem sc_law : FnScope ["_law_script", "_law_k", "_law_state_here", "_law_names", "_law_turning_here", "_law_things", "_law_thing", "_law_found", "_law_sign"] ["_law_script"] (defScope s_law) := ⟨rfl, rfl, rfl, by decide +kernel, rfl, by decide +kernel, by decide +kernel⟩
theorem ok_law {P : Program} {w : World} {K : PySem.W.Frag} {mg : Str → Option Value} {base : Heap} {k : Nat} {f : Addr} {fd : FuncData} (F : Fun K "law" "law" s_law f fd) (T : Tx mg)  (O_is_turning : Ob P w K mg base k "is_turning" ["names", "thing"] ev_is_turning) (O_law_state : Ob P w K mg base k "_law_state" ["_law_script", "_law_k"] ev_law_state) (O_law_take : Ob P w K mg base k "_law_take" ["_law_state_here", "_law_many"] ev_law_take) (O_law_turning : Ob P w K mg base k "_law_turning" ["_law_state_here", "_law_names"] ev_law_turning) (O_law_odd : Ob P w K mg base k "_law_odd" ["_law_state_here"] ev_law_odd) (O_law_bent_turning : Ob P w K mg base k "_law_bent_turning" ["_law_state_here", "_law_turning_here"] ev_law_bent_turning) (O_law_is_turning : Ob P w K mg base k "_law_is_turning" ["_law_names", "_law_thing"] ev_law_is_turning) (O_led_sign : Ob P w K mg base k "led_sign" ["turning", "sign"] ev_led_sign) (O_law_led_sign : Ob P w K mg base k "_law_led_sign" ["_law_turning_here", "_law_sign"] ev_law_led_sign_k21) (O_law_same : Ob P w K mg base k "_law_same" ["_law_found", "_law_due"] (ev_law_same_k21 RD)) : FnOk P w K mg base CX0 (k + 1) f fd ["_law_script"] (spF K ev_law_k21) := by
  refine fun_ok (N := ["_law_script", "_law_k", "_law_state_here", "_law_names", "_law_turning_here", "_law_things", "_law_thing", "_law_found", "_law_sign"]) (asg := [1, 2, 3, 4, 5, 6, 7, 8]) (fs := fs_law_k21) F sc_law fun cdv A outer s H E L hL hr => ?_
  have hu3 : (A.deeper (envOfC "law" (defScope s_law) s.heap.objs.size f cdv)).units + 90 < cLine := by have := hr.un; omega
  have hu : (A.deeper (envOfC "law" (defScope s_law) s.heap.objs.size f cdv)).units + 60 < cLine := by omega
  have hu1 : (A.deeper (envOfC "law" (defScope s_law) s.heap.objs.size f cdv)).units + 1 < cLine := by omega
  have hu2 : (A.deeper (envOfC "law" (defScope s_law) s.heap.objs.size f cdv)).units + 62 < cLine := by omega
  exact (pssx_cons (psx_if (pwx_pt (pwx_or (ptx_cmp opr_isNot (PX.po (px_user O_is_turning.ok (O_is_turning.room hr) (by rfl) O_is_turning.mg O_is_turning.kp O_is_turning.bi (pa_consX (PX.po px_int) (pa_consX (PX.po (px_tupS pxs_nil)) pa_nilX st_Tuple) st_Constant) (by decide) rfl rfl)) (PX.po px_bl) (nomark _)) (pwx_or (ptx_cmp opr_isNot (PX.po (px_user O_is_turning.ok (O_is_turning.room hr) (by rfl) O_is_turning.mg O_is_turning.kp O_is_turning.bi (pa_consX (PX.po px_int) (pa_consX (PX.po (px_tupS (pxs_cons px_bl pxs_nil st_Constant))) pa_nilX st_Tuple) st_Constant) (by decide) rfl rfl)) (PX.po px_bl) (nomark _)) (pwx_or1 (ptx_cmp opr_isNot (PX.po (px_user O_is_turning.ok (O_is_turning.room hr) (by rfl) O_is_turning.mg O_is_turning.kp O_is_turning.bi (pa_consX (PX.po px_int) (pa_consX (PX.po (px_tupS (pxs_cons px_int (pxs_cons (px_neg (PX.po px_int)) pxs_nil st_UnaryOp) st_Constant))) pa_nilX st_Tuple) st_Constant) (by decide) rfl rfl)) (PX.po px_bl) (nomark _)))))) (pssx_cons (psx_ret px_bl) pssx_nil) pssx_nil) (pssx_cons (psx_for PassesOwn.never rfl (pix_range1 (by rfl) T.n_range (pa_consX (PX.po (px_bltn (call_max2D rfl) (by rfl) T.n_max bt_max (pa_consX (PX.po px_int) (pa_consX (PX.po (px_bltn (call_min2D rfl) (by rfl) T.n_min bt_min (pa_consX (PX.po (px_bltn call_lenD (by rfl) T.n_len bt_len (pa_consX (po_var (i := 0) rfl (Or.inl rfl) (by decide) (by decide)) pa_nilX st_Name) (by decide) (by decide) rfl rfl)) (pa_consX (PX.po px_int) pa_nilX st_Constant) st_Call) (by decide) (by decide) rfl rfl)) pa_nilX st_Call) st_Constant) (by decide) (by decide) rfl rfl)) pa_nilX st_Call) rfl) (pgx_name (i := 1) sc_law.nd rfl (Or.inl rfl) (Or.inl rfl) (by decide)) (pssx_cons (psx_set (i := 2) sc_law.nd rfl (Or.inr rfl) (px_user O_law_state.ok (O_law_state.room hr) (by rfl) O_law_state.mg O_law_state.kp O_law_state.bi (pa_consX (po_var (i := 0) rfl (Or.inl rfl) (by decide) (by decide)) (pa_consX (po_var (i := 1) rfl (Or.inl rfl) (by decide) (by decide)) pa_nilX st_Name) st_Name) (by decide) rfl rfl) rfl (Or.inl rfl) (by decide)) (pssx_cons (psx_set (i := 3) sc_law.nd rfl (Or.inl rfl) (px_user O_law_take.ok (O_law_take.room hr) (by rfl) O_law_take.mg O_law_take.kp O_law_take.bi (pa_consX (po_var (i := 2) rfl (Or.inr (Or.inl rfl)) (by decide) (by decide)) (pa_consX (PX.po px_int) pa_nilX st_Constant) st_Name) (by decide) rfl rfl) rfl (Or.inl rfl) (by decide)) (pssx_cons (psx_set (i := 4) sc_law.nd rfl (Or.inr rfl) (px_user O_law_turning.ok (O_law_turning.room hr) (by rfl) O_law_turning.mg O_law_turning.kp O_law_turning.bi (pa_consX (po_var (i := 2) rfl (Or.inr (Or.inl rfl)) (by decide) (by decide)) (pa_consX (po_var (i := 3) rfl (Or.inl rfl) (by decide) (by decide)) pa_nilX st_Name) st_Name) (by decide) rfl rfl) rfl (Or.inl rfl) (by decide)) (pssx_cons (psx_set (i := 5) sc_law.nd rfl (Or.inl rfl) (px_lstS (pxs_cons (px_var (i := 4) rfl (Or.inr (Or.inl rfl)) (by decide) (by decide)) (pxs_cons (px_user O_law_odd.ok (O_law_odd.room hr) (by rfl) O_law_odd.mg O_law_odd.kp O_law_odd.bi (pa_consX (po_var (i := 2) rfl (Or.inr (Or.inl rfl)) (by decide) (by decide)) pa_nilX st_Name) (by decide) rfl rfl) (pxs_cons (px_user O_law_turning.ok (O_law_turning.room hr) (by rfl) O_law_turning.mg O_law_turning.kp O_law_turning.bi (pa_consX (po_var (i := 2) rfl (Or.inr (Or.inl rfl)) (by decide) (by decide)) (pa_consX (PX.po (px_user O_law_take.ok (O_law_take.room hr) (by rfl) O_law_take.mg O_law_take.kp O_law_take.bi (pa_consX (po_var (i := 2) rfl (Or.inr (Or.inl rfl)) (by decide) (by decide)) (pa_consX (PX.po px_int) pa_nilX st_Constant) st_Name) (by decide) rfl rfl)) pa_nilX st_Call) st_Name) (by decide) rfl rfl) pxs_nil st_Call) st_Call) st_Name)) rfl (Or.inl rfl) (by decide)) (pssx_cons (psx_for PassesOwn.never rfl (pix_seq (px_bin opr_add (po_var (i := 5) rfl (Or.inl rfl) (by decide) (by decide)) (PX.po (by exact (px_comp (N' := ["_law_state_here", "_law_turning_here", "_law_turn"]) (caps := [2, 4]) (k := 1) (compOk (N := ["_law_script", "_law_k", "_law_state_here", "_law_names", "_law_turning_here", "_law_things", "_law_thing", "_law_found", "_law_sign"]) (sc := defScope s_law) rfl rfl (by decide +kernel)) rfl rfl (by intro g' h; cases h) (fun _ => rfl) (pix_range1 (by rfl) T.n_range (pa_consX (PX.po px_int) pa_nilX st_Constant) rfl) (fun cl C s3 H3 fp pins => ⟨(pgx_name (i := 2) (show (["_law_state_here", "_law_turning_here", "_law_turn"] : List Str).Nodup from by decide +kernel) rfl (Or.inl rfl) (Or.inr rfl) (by decide)), pifx_nil, fun d => pbx_emit rfl (px_user O_law_bent_turning.ok (O_law_bent_turning.room hr) (by rfl) O_law_bent_turning.mg O_law_bent_turning.kp O_law_bent_turning.bi (pa_consX (po_var (i := 0) rfl (Or.inr (Or.inl rfl)) (by decide) (by decide)) (pa_consX (po_var (i := 1) rfl (Or.inr (Or.inl rfl)) (by decide) (by decide)) pa_nilX st_Name) st_Name) (by decide) rfl rfl)⟩)))))) (pgx_name (i := 6) sc_law.nd rfl (Or.inl rfl) (Or.inl rfl) (by decide)) (pssx_cons (psx_set (i := 7) sc_law.nd rfl (Or.inl rfl) (px_user O_is_turning.ok (O_is_turning.room hr) (by rfl) O_is_turning.mg O_is_turning.kp O_is_turning.bi (pa_consX (po_var (i := 3) rfl (Or.inl rfl) (by decide) (by decide)) (pa_consX (po_var (i := 6) rfl (Or.inl rfl) (by decide) (by decide)) pa_nilX st_Name) st_Name) (by decide) rfl rfl) rfl (Or.inl rfl) (by decide)) (pssx_cons (psx_if (pwx_pt (pwx_or (ptx_not (ptx_val (px_isi (t := .bool) (po_var (i := 7) rfl (Or.inl rfl) (by decide) (by decide)) (by rfl) T.n_isinstance (by rfl) T.n_bool bt_bool (by decide) (by decide) bt_isinstance rfl rfl rfl) (fun _ => rfl))) (pwx_or1 (ptx_cmp (opr_ne hu) (po_var (i := 7) rfl (Or.inl rfl) (by decide) (by decide)) (PX.po (px_user O_law_is_turning.ok (O_law_is_turning.room hr) (by rfl) O_law_is_turning.mg O_law_is_turning.kp O_law_is_turning.bi (pa_consX (po_var (i := 3) rfl (Or.inl rfl) (by decide) (by decide)) (pa_consX (po_var (i := 6) rfl (Or.inl rfl) (by decide) (by decide)) pa_nilX st_Name) st_Name) (by decide) rfl rfl)) (nomark _))))) (pssx_cons (psx_ret px_bl) pssx_nil) pssx_nil) pssx_nil)) (fun _ => rfl)) (pssx_cons (psx_for PassesOwn.never rfl (pix_seq (px_bin opr_add (PX.po (px_rg2 (.inl ⟨rfl, rfl, rfl⟩) rfl (by rfl) T.n_list bt_list (by decide) (by decide) (by rfl) T.n_range (pa_consX (PX.po px_int) (pa_consX (PX.po (px_bin opr_add (po_var (i := 3) rfl (Or.inl rfl) (by decide) (by decide)) (PX.po px_int))) pa_nilX st_BinOp) st_Constant) rfl rfl rfl rfl)) (PX.po (px_rg2 (.inl ⟨rfl, rfl, rfl⟩) rfl (by rfl) T.n_list bt_list (by decide) (by decide) (by rfl) T.n_range (pa_consX (PX.po (px_neg (po_var (i := 3) rfl (Or.inl rfl) (by decide) (by decide)))) (pa_consX (PX.po px_int) pa_nilX st_Constant) st_UnaryOp) rfl rfl rfl rfl)))) (pgx_name (i := 8) sc_law.nd rfl (Or.inl rfl) (Or.inl rfl) (by decide)) (pssx_cons (psx_if (ptx_not (ptx_val (px_user O_law_same.ok (O_law_same.room hr) (by rfl) O_law_same.mg O_law_same.kp O_law_same.bi (pa_consX (PX.po (px_user O_led_sign.ok (O_led_sign.room hr) (by rfl) O_led_sign.mg O_led_sign.kp O_led_sign.bi (pa_consX (po_var (i := 4) rfl (Or.inr (Or.inl rfl)) (by decide) (by decide)) (pa_consX (po_var (i := 8) rfl (Or.inl rfl) (by decide) (by decide)) pa_nilX st_Name) st_Name) (by decide) rfl rfl)) (pa_consX (PX.po (px_user O_law_led_sign.ok (O_law_led_sign.room hr) (by rfl) O_law_led_sign.mg O_law_led_sign.kp O_law_led_sign.bi (pa_consX (po_var (i := 4) rfl (Or.inr (Or.inl rfl)) (by decide) (by decide)) (pa_consX (po_var (i := 8) rfl (Or.inl rfl) (by decide) (by decide)) pa_nilX st_Name) st_Name) (by decide) rfl rfl)) pa_nilX st_Call) st_Call) (by decide) rfl rfl) (fun _ => rfl))) (pssx_cons (psx_ret px_bl) pssx_nil) pssx_nil) pssx_nil) (fun _ => rfl)) pssx_nil)))))) (fun _ => rfl)) (pssx_cons (psx_ret px_bl) pssx_nil)))
theorem all_mk {l : PySem.W.OpenLaw} {w : World} {K : PySem.W.Frag} {h : Heap} {mg : Str → Option Value} {fa : Addr} (X : K.In h) (G : h.Ns mainGlobals mg) (hfa : mg "law" = some (.ref fa))
    {f0 : Addr} {od0 an0 : Option Addr} {sl0 : Array (Option Value)} {oc0 kV0 dc0 pm0 cd0 ct0 : Value}
    {f1 : Addr} {od1 an1 : Option Addr} {sl1 : Array (Option Value)} {oc1 kV1 dc1 pm1 cd1 ct1 : Value}
    {f2 : Addr} {od2 an2 : Option Addr} {sl2 : Array (Option Value)} {oc2 kV2 dc2 pm2 cd2 ct2 : Value}
    {f3 : Addr} {od3 an3 : Option Addr} {sl3 : Array (Option Value)} {oc3 kV3 dc3 pm3 cd3 ct3 : Value}
    {f4 : Addr} {od4 an4 : Option Addr} {sl4 : Array (Option Value)} {oc4 kV4 dc4 pm4 cd4 ct4 : Value}
    {f5 : Addr} {od5 an5 : Option Addr} {sl5 : Array (Option Value)} {oc5 kV5 dc5 pm5 cd5 ct5 : Value}
    {f6 : Addr} {od6 an6 : Option Addr} {sl6 : Array (Option Value)} {oc6 kV6 dc6 pm6 cd6 ct6 : Value}
    {f7 : Addr} {od7 an7 : Option Addr} {sl7 : Array (Option Value)} {oc7 kV7 dc7 pm7 cd7 ct7 : Value}
    {f8 : Addr} {od8 an8 : Option Addr} {sl8 : Array (Option Value)} {oc8 kV8 dc8 pm8 cd8 ct8 : Value}
    {f9 : Addr} {od9 an9 : Option Addr} {sl9 : Array (Option Value)} {oc9 kV9 dc9 pm9 cd9 ct9 : Value}
    {f10 : Addr} {od10 an10 : Option Addr} {sl10 : Array (Option Value)} {oc10 kV10 dc10 pm10 cd10 ct10 : Value}
    {f11 : Addr} {od11 an11 : Option Addr} {sl11 : Array (Option Value)} {oc11 kV11 dc11 pm11 cd11 ct11 : Value}
    {f12 : Addr} {od12 an12 : Option Addr} {sl12 : Array (Option Value)} {oc12 kV12 dc12 pm12 cd12 ct12 : Value}
    {f13 : Addr} {od13 an13 : Option Addr} {sl13 : Array (Option Value)} {oc13 kV13 dc13 pm13 cd13 ct13 : Value}
    {f14 : Addr} {od14 an14 : Option Addr} {sl14 : Array (Option Value)} {oc14 kV14 dc14 pm14 cd14 ct14 : Value}
    {f15 : Addr} {od15 an15 : Option Addr} {sl15 : Array (Option Value)} {oc15 kV15 dc15 pm15 cd15 ct15 : Value}
    {f16 : Addr} {od16 an16 : Option Addr} {sl16 : Array (Option Value)} {oc16 kV16 dc16 pm16 cd16 ct16 : Value}
    (a0 : PySem.W.nsIn K mainGlobals "is_whole" = some (some (.ref f0))) (l0 : K.lookup f0 = some ⟨oc0, od0, .func (PySem.W.fnOf "is_whole" "is_whole" (defArgs s_is_whole) (defBody s_is_whole) (defScope s_is_whole) .none kV0 dc0 pm0 an0 cd0 ct0), sl0⟩) (c0 : PySem.W.codeIn K cd0 "is_whole" = true) (k0 : PySem.W.keepIn K (.ref f0) = true)
    (a1 : PySem.W.nsIn K mainGlobals "is_number" = some (some (.ref f1))) (l1 : K.lookup f1 = some ⟨oc1, od1, .func (PySem.W.fnOf "is_number" "is_number" (defArgs s_is_number) (defBody s_is_number) (defScope s_is_number) .none kV1 dc1 pm1 an1 cd1 ct1), sl1⟩) (c1 : PySem.W.codeIn K cd1 "is_number" = true) (k1 : PySem.W.keepIn K (.ref f1) = true)
    (a2 : PySem.W.nsIn K mainGlobals "is_name" = some (some (.ref f2))) (l2 : K.lookup f2 = some ⟨oc2, od2, .func (PySem.W.fnOf "is_name" "is_name" (defArgs s_is_name) (defBody s_is_name) (defScope s_is_name) .none kV2 dc2 pm2 an2 cd2 ct2), sl2⟩) (c2 : PySem.W.codeIn K cd2 "is_name" = true) (k2 : PySem.W.keepIn K (.ref f2) = true)
    (a3 : PySem.W.nsIn K mainGlobals "is_sign" = some (some (.ref f3))) (l3 : K.lookup f3 = some ⟨oc3, od3, .func (PySem.W.fnOf "is_sign" "is_sign" (defArgs s_is_sign) (defBody s_is_sign) (defScope s_is_sign) .none kV3 dc3 pm3 an3 cd3 ct3), sl3⟩) (c3 : PySem.W.codeIn K cd3 "is_sign" = true) (k3 : PySem.W.keepIn K (.ref f3) = true)
    (a4 : PySem.W.nsIn K mainGlobals "is_turning" = some (some (.ref f4))) (l4 : K.lookup f4 = some ⟨oc4, od4, .func (PySem.W.fnOf "is_turning" "is_turning" (defArgs s_is_turning) (defBody s_is_turning) (defScope s_is_turning) .none kV4 dc4 pm4 an4 cd4 ct4), sl4⟩) (c4 : PySem.W.codeIn K cd4 "is_turning" = true) (k4 : PySem.W.keepIn K (.ref f4) = true)
    (a5 : PySem.W.nsIn K mainGlobals "led_sign" = some (some (.ref f5))) (l5 : K.lookup f5 = some ⟨oc5, od5, .func (PySem.W.fnOf "led_sign" "led_sign" (defArgs s_led_sign) (defBody s_led_sign) (defScope s_led_sign) .none kV5 dc5 pm5 an5 cd5 ct5), sl5⟩) (c5 : PySem.W.codeIn K cd5 "led_sign" = true) (k5 : PySem.W.keepIn K (.ref f5) = true)
    (a6 : PySem.W.nsIn K mainGlobals "_law_cell_at" = some (some (.ref f6))) (l6 : K.lookup f6 = some ⟨oc6, od6, .func (PySem.W.fnOf "_law_cell_at" "_law_cell_at" (defArgs s_law_cell_at) (defBody s_law_cell_at) (defScope s_law_cell_at) .none kV6 dc6 pm6 an6 cd6 ct6), sl6⟩) (c6 : PySem.W.codeIn K cd6 "_law_cell_at" = true) (k6 : PySem.W.keepIn K (.ref f6) = true)
    (a7 : PySem.W.nsIn K mainGlobals "_law_state" = some (some (.ref f7))) (l7 : K.lookup f7 = some ⟨oc7, od7, .func (PySem.W.fnOf "_law_state" "_law_state" (defArgs s_law_state) (defBody s_law_state) (defScope s_law_state) .none kV7 dc7 pm7 an7 cd7 ct7), sl7⟩) (c7 : PySem.W.codeIn K cd7 "_law_state" = true) (k7 : PySem.W.keepIn K (.ref f7) = true)
    (a8 : PySem.W.nsIn K mainGlobals "_law_take" = some (some (.ref f8))) (l8 : K.lookup f8 = some ⟨oc8, od8, .func (PySem.W.fnOf "_law_take" "_law_take" (defArgs s_law_take) (defBody s_law_take) (defScope s_law_take) .none kV8 dc8 pm8 an8 cd8 ct8), sl8⟩) (c8 : PySem.W.codeIn K cd8 "_law_take" = true) (k8 : PySem.W.keepIn K (.ref f8) = true)
    (a9 : PySem.W.nsIn K mainGlobals "_law_turning" = some (some (.ref f9))) (l9 : K.lookup f9 = some ⟨oc9, od9, .func (PySem.W.fnOf "_law_turning" "_law_turning" (defArgs s_law_turning) (defBody s_law_turning) (defScope s_law_turning) .none kV9 dc9 pm9 an9 cd9 ct9), sl9⟩) (c9 : PySem.W.codeIn K cd9 "_law_turning" = true) (k9 : PySem.W.keepIn K (.ref f9) = true)
    (a10 : PySem.W.nsIn K mainGlobals "_law_led_sign" = some (some (.ref f10))) (l10 : K.lookup f10 = some ⟨oc10, od10, .func (PySem.W.fnOf "_law_led_sign" "_law_led_sign" (defArgs s_law_led_sign) (defBody s_law_led_sign) (defScope s_law_led_sign) .none kV10 dc10 pm10 an10 cd10 ct10), sl10⟩) (c10 : PySem.W.codeIn K cd10 "_law_led_sign" = true) (k10 : PySem.W.keepIn K (.ref f10) = true)
    (a11 : PySem.W.nsIn K mainGlobals "_law_whole" = some (some (.ref f11))) (l11 : K.lookup f11 = some ⟨oc11, od11, .func (PySem.W.fnOf "_law_whole" "_law_whole" (defArgs s_law_whole) (defBody s_law_whole) (defScope s_law_whole) .none kV11 dc11 pm11 an11 cd11 ct11), sl11⟩) (c11 : PySem.W.codeIn K cd11 "_law_whole" = true) (k11 : PySem.W.keepIn K (.ref f11) = true)
    (a12 : PySem.W.nsIn K mainGlobals "_law_is_turning" = some (some (.ref f12))) (l12 : K.lookup f12 = some ⟨oc12, od12, .func (PySem.W.fnOf "_law_is_turning" "_law_is_turning" (defArgs s_law_is_turning) (defBody s_law_is_turning) (defScope s_law_is_turning) .none kV12 dc12 pm12 an12 cd12 ct12), sl12⟩) (c12 : PySem.W.codeIn K cd12 "_law_is_turning" = true) (k12 : PySem.W.keepIn K (.ref f12) = true)
    (a13 : PySem.W.nsIn K mainGlobals "_law_odd" = some (some (.ref f13))) (l13 : K.lookup f13 = some ⟨oc13, od13, .func (PySem.W.fnOf "_law_odd" "_law_odd" (defArgs s_law_odd) (defBody s_law_odd) (defScope s_law_odd) .none kV13 dc13 pm13 an13 cd13 ct13), sl13⟩) (c13 : PySem.W.codeIn K cd13 "_law_odd" = true) (k13 : PySem.W.keepIn K (.ref f13) = true)
    (a14 : PySem.W.nsIn K mainGlobals "_law_bent_turning" = some (some (.ref f14))) (l14 : K.lookup f14 = some ⟨oc14, od14, .func (PySem.W.fnOf "_law_bent_turning" "_law_bent_turning" (defArgs s_law_bent_turning) (defBody s_law_bent_turning) (defScope s_law_bent_turning) .none kV14 dc14 pm14 an14 cd14 ct14), sl14⟩) (c14 : PySem.W.codeIn K cd14 "_law_bent_turning" = true) (k14 : PySem.W.keepIn K (.ref f14) = true)
    (a15 : PySem.W.nsIn K mainGlobals "_law_same" = some (some (.ref f15))) (l15 : K.lookup f15 = some ⟨oc15, od15, .func (PySem.W.fnOf "_law_same" "_law_same" (defArgs s_law_same) (defBody s_law_same) (defScope s_law_same) .none kV15 dc15 pm15 an15 cd15 ct15), sl15⟩) (c15 : PySem.W.codeIn K cd15 "_law_same" = true) (k15 : PySem.W.keepIn K (.ref f15) = true)
    (a16 : PySem.W.nsIn K mainGlobals "law" = some (some (.ref f16))) (l16 : K.lookup f16 = some ⟨oc16, od16, .func (PySem.W.fnOf "law" "law" (defArgs s_law) (defBody s_law) (defScope s_law) .none kV16 dc16 pm16 an16 cd16 ct16), sl16⟩) (c16 : PySem.W.codeIn K cd16 "law" = true) (k16 : PySem.W.keepIn K (.ref f16) = true)
    (z_len : PySem.W.nsIn K mainGlobals "len" = some none)
    (z_abs : PySem.W.nsIn K mainGlobals "abs" = some none)
    (z_int : PySem.W.nsIn K mainGlobals "int" = some none)
    (z_tuple : PySem.W.nsIn K mainGlobals "tuple" = some none)
    (z_list : PySem.W.nsIn K mainGlobals "list" = some none)
    (z_range : PySem.W.nsIn K mainGlobals "range" = some none)
    (z_isinstance : PySem.W.nsIn K mainGlobals "isinstance" = some none)
    (z_bool : PySem.W.nsIn K mainGlobals "bool" = some none)
    (z_max : PySem.W.nsIn K mainGlobals "max" = some none)
    (z_min : PySem.W.nsIn K mainGlobals "min" = some none)
    (z_all : PySem.W.nsIn K mainGlobals "all" = some none)
    (z_any : PySem.W.nsIn K mainGlobals "any" = some none)
    (z_sorted : PySem.W.nsIn K mainGlobals "sorted" = some none)
    (z_enumerate : PySem.W.nsIn K mainGlobals "enumerate" = some none)
    (z_zip : PySem.W.nsIn K mainGlobals "zip" = some none)
    (z_set : PySem.W.nsIn K mainGlobals "set" = some none)
    : ∃ fd : FuncData, (∀ (s : Shared) (v : Value), BindsTo s fd ⟨[v], []⟩ [("_law_script", v)]) ∧ ∀ base : Heap, K.In base → base.Ns mainGlobals mg → FnOk l.prog w K mg base CX0 9 fa fd ["_law_script"] (spF K ev_law_k21) := by
  have e := hfa.symm.trans (PySem.W.mg_of X G a16)
  cases e
  have T : Tx mg := ⟨PySem.W.mg_none_of X G z_len, PySem.W.mg_none_of X G z_abs, PySem.W.mg_none_of X G z_int, PySem.W.mg_none_of X G z_tuple, PySem.W.mg_none_of X G z_list, PySem.W.mg_none_of X G z_range, PySem.W.mg_none_of X G z_isinstance, PySem.W.mg_none_of X G z_bool, PySem.W.mg_none_of X G z_max, PySem.W.mg_none_of X G z_min, PySem.W.mg_none_of X G z_all, PySem.W.mg_none_of X G z_any, PySem.W.mg_none_of X G z_sorted, PySem.W.mg_none_of X G z_enumerate, PySem.W.mg_none_of X G z_zip, PySem.W.mg_none_of X G z_set⟩
  have F0 := fun_mk (st := s_is_whole) l0 c0 k0
  have b0 := F0.binds (ps := ["thing"]) fun _ _ _ _ _ _ us hl => match us, hl with | [_], _ => rfl
  have F1 := fun_mk (st := s_is_number) l1 c1 k1
  have b1 := F1.binds (ps := ["thing", "least", "most"]) fun _ _ _ _ _ _ us hl => match us, hl with | [_, _, _], _ => rfl
  have F2 := fun_mk (st := s_is_name) l2 c2 k2
  have b2 := F2.binds (ps := ["names", "thing"]) fun _ _ _ _ _ _ us hl => match us, hl with | [_, _], _ => rfl
  have F3 := fun_mk (st := s_is_sign) l3 c3 k3
  have b3 := F3.binds (ps := ["names", "thing"]) fun _ _ _ _ _ _ us hl => match us, hl with | [_, _], _ => rfl
  have F4 := fun_mk (st := s_is_turning) l4 c4 k4
  have b4 := F4.binds (ps := ["names", "thing"]) fun _ _ _ _ _ _ us hl => match us, hl with | [_, _], _ => rfl
  have F5 := fun_mk (st := s_led_sign) l5 c5 k5
  have b5 := F5.binds (ps := ["turning", "sign"]) fun _ _ _ _ _ _ us hl => match us, hl with | [_, _], _ => rfl
  have F6 := fun_mk (st := s_law_cell_at) l6 c6 k6
  have b6 := F6.binds (ps := ["_law_script", "_law_k"]) fun _ _ _ _ _ _ us hl => match us, hl with | [_, _], _ => rfl
  have F7 := fun_mk (st := s_law_state) l7 c7 k7
  have b7 := F7.binds (ps := ["_law_script", "_law_k"]) fun _ _ _ _ _ _ us hl => match us, hl with | [_, _], _ => rfl
  have F8 := fun_mk (st := s_law_take) l8 c8 k8
  have b8 := F8.binds (ps := ["_law_state_here", "_law_many"]) fun _ _ _ _ _ _ us hl => match us, hl with | [_, _], _ => rfl
  have F9 := fun_mk (st := s_law_turning) l9 c9 k9
  have b9 := F9.binds (ps := ["_law_state_here", "_law_names"]) fun _ _ _ _ _ _ us hl => match us, hl with | [_, _], _ => rfl
  have F10 := fun_mk (st := s_law_led_sign) l10 c10 k10
  have b10 := F10.binds (ps := ["_law_turning_here", "_law_sign"]) fun _ _ _ _ _ _ us hl => match us, hl with | [_, _], _ => rfl
  have F11 := fun_mk (st := s_law_whole) l11 c11 k11
  have b11 := F11.binds (ps := ["_law_thing"]) fun _ _ _ _ _ _ us hl => match us, hl with | [_], _ => rfl
  have F12 := fun_mk (st := s_law_is_turning) l12 c12 k12
  have b12 := F12.binds (ps := ["_law_names", "_law_thing"]) fun _ _ _ _ _ _ us hl => match us, hl with | [_, _], _ => rfl
  have F13 := fun_mk (st := s_law_odd) l13 c13 k13
  have b13 := F13.binds (ps := ["_law_state_here"]) fun _ _ _ _ _ _ us hl => match us, hl with | [_], _ => rfl
  have F14 := fun_mk (st := s_law_bent_turning) l14 c14 k14
  have b14 := F14.binds (ps := ["_law_state_here", "_law_turning_here"]) fun _ _ _ _ _ _ us hl => match us, hl with | [_, _], _ => rfl
  have F15 := fun_mk (st := s_law_same) l15 c15 k15
  have b15 := F15.binds (ps := ["_law_found", "_law_due"]) fun _ _ _ _ _ _ us hl => match us, hl with | [_, _], _ => rfl
  have F16 := fun_mk (st := s_law) l16 c16 k16
  have b16 := F16.binds (ps := ["_law_script"]) fun _ _ _ _ _ _ us hl => match us, hl with | [_], _ => rfl
  refine ⟨PySem.W.fnOf "law" "law" (defArgs s_law) (defBody s_law) (defScope s_law) .none kV16 dc16 pm16 an16 cd16 ct16, fun s v => .of_eq rfl, fun base _ _ => ?_⟩
  have K0 := ok_is_whole (P := l.prog) (w := w) (base := base) (k := 0) F0 T  
  have K1 := ok_is_number (P := l.prog) (w := w) (base := base) (k := 1) F1 T  ⟨f0, _, K0.mono (by decide), PySem.W.mg_of X G a0, k0, b0⟩
  have K2 := ok_is_name (P := l.prog) (w := w) (base := base) (k := 2) F2 T  ⟨f1, _, K1.mono (by decide), PySem.W.mg_of X G a1, k1, b1⟩
  have K3 := ok_is_sign (P := l.prog) (w := w) (base := base) (k := 3) F3 T  ⟨f0, _, K0.mono (by decide), PySem.W.mg_of X G a0, k0, b0⟩ ⟨f2, _, K2.mono (by decide), PySem.W.mg_of X G a2, k2, b2⟩
  have K4 := ok_is_turning (P := l.prog) (w := w) (base := base) (k := 4) F4 T  ⟨f3, _, K3.mono (by decide), PySem.W.mg_of X G a3, k3, b3⟩
  have K5 := ok_led_sign (P := l.prog) (w := w) (base := base) (k := 0) F5 T  
  have K6 := ok_law_cell_at (P := l.prog) (w := w) (base := base) (k := 0) F6 T  
  have K7 := ok_law_state (P := l.prog) (w := w) (base := base) (k := 1) F7 T  ⟨f6, _, K6.mono (by decide), PySem.W.mg_of X G a6, k6, b6⟩
  have K8 := ok_law_take (P := l.prog) (w := w) (base := base) (k := 0) F8 T  
  have K9 := ok_law_turning (P := l.prog) (w := w) (base := base) (k := 1) F9 T  ⟨f8, _, K8.mono (by decide), PySem.W.mg_of X G a8, k8, b8⟩
  have K10 := ok_law_led_sign (P := l.prog) (w := w) (base := base) (k := 0) F10 T  
  have K11 := ok_law_whole (P := l.prog) (w := w) (base := base) (k := 0) F11 T  
  have K12 := ok_law_is_turning (P := l.prog) (w := w) (base := base) (k := 1) F12 T  ⟨f11, _, K11.mono (by decide), PySem.W.mg_of X G a11, k11, b11⟩
  have K13 := ok_law_odd (P := l.prog) (w := w) (base := base) (k := 1) F13 T  ⟨f8, _, K8.mono (by decide), PySem.W.mg_of X G a8, k8, b8⟩
  have K14 := ok_law_bent_turning (P := l.prog) (w := w) (base := base) (k := 1) F14 T  ⟨f8, _, K8.mono (by decide), PySem.W.mg_of X G a8, k8, b8⟩
  have K15 := ok_law_same (P := l.prog) (w := w) (base := base) F15 T  (PySem.W.mg_of X G a15) k15 b15 RD
  exact ok_law (k := 8) F16 T  ⟨f4, _, K4.mono (by decide), PySem.W.mg_of X G a4, k4, b4⟩ ⟨f7, _, K7.mono (by decide), PySem.W.mg_of X G a7, k7, b7⟩ ⟨f8, _, K8.mono (by decide), PySem.W.mg_of X G a8, k8, b8⟩ ⟨f9, _, K9.mono (by decide), PySem.W.mg_of X G a9, k9, b9⟩ ⟨f13, _, K13.mono (by decide), PySem.W.mg_of X G a13, k13, b13⟩ ⟨f14, _, K14.mono (by decide), PySem.W.mg_of X G a14, k14, b14⟩ ⟨f12, _, K12.mono (by decide), PySem.W.mg_of X G a12, k12, b12⟩ ⟨f5, _, K5.mono (by decide), PySem.W.mg_of X G a5, k5, b5⟩ ⟨f10, _, K10.mono (by decide), PySem.W.mg_of X G a10, k10, b10⟩ ⟨f15, _, K15.mono (by decide), PySem.W.mg_of X G a15, k15, b15⟩
theorem walk {l : PySem.W.OpenLaw} {q : Program} {loose : List Str} {XP : (Str → Option Value) → Heap → Prop} {YP : World → Heap → Prop} {d : DefRec} {K : Params → PySem.W.Frag} (hn : l.most = some 63) (hdf : d.params.defaults = []) (hY : ∀ (w : World) (h : Heap), YP w h → (K w.params).In h)
    (F : ∀ (w : World) (mg : Str → Option Value) (fa : Addr) (h : Heap), (K w.params).In h → h.Ns mainGlobals mg → mg d.name = some (.ref fa) → ∃ fd : FuncData, (∀ (s : Shared) (u : Value), BindsTo s fd ⟨[u], []⟩ [("_law_script", u)]) ∧ ∀ base : Heap, (K w.params).In base → base.Ns mainGlobals mg → FnOk l.prog w (K w.params) mg base CX0 9 fa fd ["_law_script"] (spF (K w.params) ev_law_k21))
    (M : ∀ ns : List Int, ns.length ≤ 63 → ∃ o outs, ev_law_k21 [(.lst (ns.map .int), false)] = some ((.bl true, o), outs)) : PySem.W.WalkO q loose XP YP l.row.toRowW d [] (fun f vs => PySem.call f vs) :=
  L2.walk_of (n := 63) (k := 9) (x := "_law_script") (CX := fun _ => CX0) (sp := fun w => spF (K w.params) ev_law_k21) hn (by decide) hdf ⟨rfl, by decide, by decide⟩ hY F (fun _ _ a ns hl _ hS => by obtain ⟨o, outs, e⟩ := M ns hl; exact law_sp hS e) fun _ _ _ _ _ z => z
end K21
set_option Elab.async false
set_option linter.all false
set_option maxRecDepth 100000
set_option maxHeartbeats 8000000
namespace PV
open PySem PySem.Spec PyProof.Rows L2 PX
@[simp] theorem r_fC (d : D) (δ : Dn) : fC d δ = some ((d, false), δ) := rfl
@[simp] theorem r_oVal (f : F) (δ : Dn) : oVal f δ = (f δ).bind fun p => some (.val p.1, p.2) := rfl
@[simp] theorem r_oVar0 (x : D × Bool) (δ : Dn) : oVar 0 (some x :: δ) = some (.slot 0, some x :: δ) := rfl
@[simp] theorem r_oVar1 (a : Sl) (x : D × Bool) (δ : Dn) : oVar 1 (a :: some x :: δ) = some (.slot 1, a :: some x :: δ) := rfl
@[simp] theorem r_oVar2 (a b : Sl) (x : D × Bool) (δ : Dn) : oVar 2 (a :: b :: some x :: δ) = some (.slot 2, a :: b :: some x :: δ) := rfl
@[simp] theorem r_oVar3 (a b c : Sl) (x : D × Bool) (δ : Dn) : oVar 3 (a :: b :: c :: some x :: δ) = some (.slot 3, a :: b :: c :: some x :: δ) := rfl
@[simp] theorem r_oVar4 (a b c d : Sl) (x : D × Bool) (δ : Dn) : oVar 4 (a :: b :: c :: d :: some x :: δ) = some (.slot 4, a :: b :: c :: d :: some x :: δ) := rfl
@[simp] theorem r_oVar5 (a b c d e : Sl) (x : D × Bool) (δ : Dn) : oVar 5 (a :: b :: c :: d :: e :: some x :: δ) = some (.slot 5, a :: b :: c :: d :: e :: some x :: δ) := rfl
@[simp] theorem r_oVar6 (a b c d e f : Sl) (x : D × Bool) (δ : Dn) : oVar 6 (a :: b :: c :: d :: e :: f :: some x :: δ) = some (.slot 6, a :: b :: c :: d :: e :: f :: some x :: δ) := rfl
@[simp] theorem r_oVar7 (a b c d e f g : Sl) (x : D × Bool) (δ : Dn) : oVar 7 (a :: b :: c :: d :: e :: f :: g :: some x :: δ) = some (.slot 7, a :: b :: c :: d :: e :: f :: g :: some x :: δ) := rfl
@[simp] theorem r_oVar8 (a b c d e f g h : Sl) (x : D × Bool) (δ : Dn) : oVar 8 (a :: b :: c :: d :: e :: f :: g :: h :: some x :: δ) = some (.slot 8, a :: b :: c :: d :: e :: f :: g :: h :: some x :: δ) := rfl
@[simp] theorem r_resV (δ : Dn) (r : D × Bool) : res δ (.val r) = some r.1 := rfl
@[simp] theorem r_res0 (x : D × Bool) (δ : Dn) : res (some x :: δ) (.slot 0) = some x.1 := rfl
@[simp] theorem r_res1 (a : Sl) (x : D × Bool) (δ : Dn) : res (a :: some x :: δ) (.slot 1) = some x.1 := rfl
@[simp] theorem r_res2 (a b : Sl) (x : D × Bool) (δ : Dn) : res (a :: b :: some x :: δ) (.slot 2) = some x.1 := rfl
@[simp] theorem r_res3 (a b c : Sl) (x : D × Bool) (δ : Dn) : res (a :: b :: c :: some x :: δ) (.slot 3) = some x.1 := rfl
@[simp] theorem r_res4 (a b c d : Sl) (x : D × Bool) (δ : Dn) : res (a :: b :: c :: d :: some x :: δ) (.slot 4) = some x.1 := rfl
@[simp] theorem r_res5 (a b c d e : Sl) (x : D × Bool) (δ : Dn) : res (a :: b :: c :: d :: e :: some x :: δ) (.slot 5) = some x.1 := rfl
@[simp] theorem r_res6 (a b c d e f : Sl) (x : D × Bool) (δ : Dn) : res (a :: b :: c :: d :: e :: f :: some x :: δ) (.slot 6) = some x.1 := rfl
@[simp] theorem r_res7 (a b c d e f g : Sl) (x : D × Bool) (δ : Dn) : res (a :: b :: c :: d :: e :: f :: g :: some x :: δ) (.slot 7) = some x.1 := rfl
@[simp] theorem r_res8 (a b c d e f g h : Sl) (x : D × Bool) (δ : Dn) : res (a :: b :: c :: d :: e :: f :: g :: h :: some x :: δ) (.slot 8) = some x.1 := rfl
@[simp] theorem r_fOp1 (g : D → Option (D × Bool)) (fa : FO) (δ : Dn) : fOp1 g fa δ = (fa δ).bind fun p => (res p.2 p.1).bind fun x => (g x).bind fun z => some (z, p.2) := rfl
@[simp] theorem r_fOp2 (g : D → D → Option (D × Bool)) (fa fb : FO) (δ : Dn) : fOp2 g fa fb δ = (fa δ).bind fun p => (fb p.2).bind fun q => (res q.2 p.1).bind fun x => (res q.2 q.1).bind fun y => (g x y).bind fun z => some (z, q.2) := rfl
@[simp] theorem r_fArgs0 (δ : Dn) : fArgs [] δ = some ([], δ) := rfl
@[simp] theorem r_fArgs (f : FO) (fs : List FO) (δ : Dn) : fArgs (f :: fs) δ = (f δ).bind fun p => (fArgs fs p.2).bind fun q => some (p.1 :: q.1, q.2) := rfl
@[simp] theorem r_resL0 (δ : Dn) : resL δ [] = some [] := rfl
@[simp] theorem r_resL (δ : Dn) (o : Opd) (os : List Opd) : resL δ (o :: os) = (res δ o).bind fun d => (resL δ os).bind fun l => some (d :: l) := rfl
@[simp] theorem r_fCall (g : List D → Option (D × Bool)) (fs : List FO) (δ : Dn) : fCall g fs δ = (fArgs fs δ).bind fun p => (resL p.2 p.1).bind fun ds => (g ds).bind fun z => some (z, p.2) := rfl
@[simp] theorem r_vals0 : valsOf [] = some [] := rfl
@[simp] theorem r_vals (r : D × Bool) (os : List Opd) : valsOf (.val r :: os) = (valsOf os).map (r.1 :: ·) := rfl
@[simp] theorem r_fTup (fs : List F) (δ : Dn) : fTup fs δ = (fArgs (fs.map oVal) δ).bind fun p => (valsOf p.1).bind fun ds => if ds.length ≤ sizeLine then some ((.tup ds, false), p.2) else none := rfl
@[simp] theorem r_fLst (fs : List F) (δ : Dn) : fLst fs δ = (fArgs (fs.map oVal) δ).bind fun p => (valsOf p.1).bind fun ds => if ds.length ≤ sizeLine then some ((.lst ds, true), p.2) else none := rfl
@[simp] theorem r_asB (b o : Bool) (δ : Dn) : asB ((.bl b, o), δ) = some (b, δ) := rfl
@[simp] theorem r_fT (f : F) (δ : Dn) : fT f δ = (f δ).bind asB := rfl
@[simp] theorem r_fAndT (f g : FT) (δ : Dn) : fAndT f g δ = (f δ).bind fun p => if p.1 = true then g p.2 else some (false, p.2) := rfl
@[simp] theorem r_fOrT (f g : FT) (δ : Dn) : fOrT f g δ = (f δ).bind fun p => if p.1 = true then some (true, p.2) else g p.2 := rfl
@[simp] theorem r_fNotT (f : FT) (δ : Dn) : fNotT f δ = (f δ).bind fun p => some (!p.1, p.2) := rfl
@[simp] theorem r_fAnd (f g : F) (δ : Dn) : fAnd f g δ = (f δ).bind fun p => (asB p).bind fun q => if q.1 = true then g q.2 else some ((.bl false, false), q.2) := rfl
@[simp] theorem r_fOr (f g : F) (δ : Dn) : fOr f g δ = (f δ).bind fun p => (asB p).bind fun q => if q.1 = true then some ((.bl true, false), q.2) else g q.2 := rfl
@[simp] theorem r_fNot (f : F) (δ : Dn) : fNot f δ = (f δ).bind fun p => (asB p).bind fun q => some ((.bl (!q.1), false), q.2) := rfl
@[simp] theorem r_fIf (t : FT) (f g : F) (δ : Dn) : fIf t f g δ = (t δ).bind fun p => if p.1 = true then f p.2 else g p.2 := rfl
@[simp] theorem r_sNil (δ : Dn) : sNil δ = some (.nx δ) := rfl
def nxt (g : FS) : Out → Option Out
  | .nx δ1 => g δ1
  | o => some o
@[simp] theorem r_nxt1 (g : FS) (δ : Dn) : nxt g (.nx δ) = g δ := rfl
@[simp] theorem r_nxt2 (g : FS) (r : D × Bool) (δ : Dn) : nxt g (.rt r δ) = some (.rt r δ) := rfl
@[simp] theorem r_sSeq (f g : FS) (δ : Dn) : sSeq f g δ = (f δ).bind (nxt g) := by
  unfold sSeq
  cases f δ with
  | none => rfl
  | some o => cases o <;> rfl
@[simp] theorem r_sExpr (f : F) (δ : Dn) : sExpr f δ = (f δ).bind fun p => some (.nx p.2) := rfl
@[simp] theorem r_sRet (f : F) (δ : Dn) : sRet f δ = (f δ).bind fun p => some (.rt p.1 p.2) := rfl
@[simp] theorem r_sIf (t : FT) (f g : FS) (δ : Dn) : sIf t f g δ = (t δ).bind fun p => if p.1 = true then f p.2 else g p.2 := rfl
@[simp] theorem r_sSet (i : Nat) (f : F) (δ : Dn) : sSet i f δ = (f δ).bind fun p => if i < p.2.length then some (.nx (p.2.set i (some p.1))) else none := rfl
@[simp] theorem r_sTup (tg : Tg) (f : F) (δ : Dn) : sTup tg f δ = (f δ).bind fun p => (tg p.1.1 p.2).bind fun δ1 => some (.nx δ1) := rfl
@[simp] theorem r_g1 (g : D → Option (D × Bool)) (d : D) : g1 g [d] = g d := rfl
@[simp] theorem r_g2 (g : D → D → Option (D × Bool)) (d e : D) : g2 g [d, e] = g d e := rfl
@[simp] theorem r_add (i j : Int) : gAdd (.int i) (.int j) = some (.int (i + j), false) := rfl
@[simp] theorem r_sub (i j : Int) : PX.gSub (.int i) (.int j) = some (.int (i - j), false) := rfl
@[simp] theorem r_neg (i : Int) : gNeg (.int i) = some (.int (-i), false) := rfl
@[simp] theorem r_abs (i : Int) : gAbs (.int i) = some (.int (if i < 0 then -i else i), false) := rfl
@[simp] theorem r_lenT (l : List D) : gLen (.tup l) = some (.int l.length, false) := rfl
@[simp] theorem r_lenL (l : List D) : gLen (.lst l) = some (.int l.length, false) := rfl
@[simp] theorem r_tupL (l : List D) : gTuple (.lst l) = some (.tup l, false) := rfl
@[simp] theorem r_tupT (l : List D) : gTuple (.tup l) = some (.tup l, false) := rfl
@[simp] theorem r_lstT (l : List D) : gList (.tup l) = some (.lst l, true) := rfl
@[simp] theorem r_lstL (l : List D) : gList (.lst l) = some (.lst l, true) := rfl
@[simp] theorem r_intB (b : Bool) : gInt (.bl b) = some (.int (if b then 1 else 0), false) := rfl
@[simp] theorem r_intI (b : Int) : gInt (.int b) = some (.int b, false) := rfl
@[simp] theorem r_max (i j : Int) : gMax2 (.int i) (.int j) = some (.int (if j > i then j else i), false) := rfl
@[simp] theorem r_min (i j : Int) : gMin2 (.int i) (.int j) = some (.int (if j < i then j else i), false) := rfl
@[simp] theorem r_isi (ts : List Ty) (d : D) : gIsi ts d = some (.bl (ts.any (isT d)), false) := rfl
theorem dint (i : Int) : D.dep (.int i) = 0 := by simp [D.dep]
@[simp] theorem r_eqI (i j : Int) : gEq (.int i) (.int j) = some (.bl (i == j), false) := by unfold gEq; rw [if_pos (by simp [D.dep])]; simp [D.eqb]
@[simp] theorem r_neI (i j : Int) : gNe (.int i) (.int j) = some (.bl (!(i == j)), false) := by unfold gNe; rw [if_pos (by simp [D.dep])]; simp [D.eqb]
@[simp] theorem r_eqB (i j : Bool) : gEq (.bl i) (.bl j) = some (.bl (i == j), false) := by unfold gEq; rw [if_pos (by simp [D.dep])]; simp [D.eqb]
@[simp] theorem r_neB (i j : Bool) : gNe (.bl i) (.bl j) = some (.bl (!(i == j)), false) := by unfold gNe; rw [if_pos (by simp [D.dep])]; simp [D.eqb]
@[simp] theorem r_lt (i j : Int) : gCmp .Lt (.int i) (.int j) = some (.bl (decide (i < j)), false) := by simp [gCmp, cmpD, icmp, D.dep]
@[simp] theorem r_le (i j : Int) : gCmp .LtE (.int i) (.int j) = some (.bl (decide (i ≤ j)), false) := by simp [gCmp, cmpD, icmp, D.dep]
@[simp] theorem r_gt (i j : Int) : gCmp .Gt (.int i) (.int j) = some (.bl (decide (i > j)), false) := by simp [gCmp, cmpD, icmp, D.dep]
@[simp] theorem r_ge (i j : Int) : gCmp .GtE (.int i) (.int j) = some (.bl (decide (i ≥ j)), false) := by simp [gCmp, cmpD, icmp, D.dep]
@[simp] theorem r_itSeq (f : F) (δ : Dn) : itSeq f δ = (f δ).bind fun p => match p.1.1 with | .lst l => some (l, p.2) | .tup l => some (l, p.2) | _ => none := rfl
@[simp] theorem r_sFor (fi : FIt) (tg : Tg) (fb : FS) (δ : Dn) : sFor fi tg fb δ = (fi δ).bind fun p => forL tg fb p.1 p.2 := rfl
@[simp] theorem r_fTrue (δ : Dn) : fTrue δ = some (true, δ) := rfl
@[simp] theorem r_bEmit (f : F) (acc : List D) (δ : Dn) : bEmit f acc δ = (f δ).bind fun p => if acc.length < sizeLine then some (acc ++ [p.1.1], p.2) else none := rfl
theorem size_le {n : Nat} (h : n ≤ 10000) : n ≤ sizeLine := by rw [sizeLine_eq]; omega
theorem size_lt {n : Nat} (h : n ≤ 10000) : n < sizeLine := by rw [sizeLine_eq]; omega
end PV
set_option Elab.async false
set_option linter.all false
set_option maxRecDepth 100000
set_option maxHeartbeats 8000000
namespace PV
open PySem PySem.Spec PyProof.Rows L2 PX
abbrev enc (t : List Int) : D × Bool := (.tup (t.map .int), false)
abbrev stt (a : Int) (b : Bool) : Sl := some (.lst [.int a, .bl b], true)
abbrev lsi (l : List Int) : Sl := some (.lst (l.map .int), true)
@[simp] theorem r_fUser (ev : EvF) (fs : List FO) (δ : Dn) : fUser ev fs δ = (fArgs fs δ).bind fun p => (argsOf p.2 p.1).bind fun args => if (lents p.1 args).Nodup then (ev args).bind fun q => some (q.1, wb p.1 args q.2 p.2) else none := rfl
@[simp] theorem r_argsOf0 (δ : Dn) : argsOf δ [] = some [] := rfl
@[simp] theorem r_argsOf (δ : Dn) (o : Opd) (os : List Opd) : argsOf δ (o :: os) = (argOf δ o).bind fun a => (argsOf δ os).bind fun l => some (a :: l) := rfl
@[simp] theorem r_argV (δ : Dn) (r : D × Bool) : argOf δ (.val r) = some (r.1, false) := rfl
@[simp] theorem r_argS (δ : Dn) (i : Nat) : argOf δ (.slot i) = (δ[i]?).join := rfl
theorem take_spec (a : Int) (b : Bool) (m : Int) (hm : 0 < m) (hm2 : m < 1073741824) :
    ∃ v a', 0 ≤ v ∧ v < m ∧ ev_law_take [(.lst [.int a, .bl b], true), (.int m, false)] = some ((.int v, false), [some (.lst [.int a', .bl b], true), some (.int m, false)]) := by
  cases b
  · have h1 : ∀ x : Int, -18446744073709551616 < x % 2147483647 ∧ x % 2147483647 < 18446744073709551616 := fun x => by omega
    have h2 : ∀ x : Int, -18446744073709551616 < x % 2147483629 ∧ x % 2147483629 < 18446744073709551616 := fun x => by omega
    simp only [ev_law_take, fs_law_take]
    simp [evF, gIx, atI, ixN, gMod, gI, gDiv, gMul, gPow, sSetIx, sRetVar, outsOf, lents, wb, CDiv, CPow, CMul, hm, hm2, h1, h2]
    exact ⟨Int.emod_nonneg _ (by omega), Int.emod_lt_of_pos _ hm⟩
  · simp only [ev_law_take, fs_law_take]
    simp [evF, gIx, atI, ixN, gMod, gI, gDiv, gMul, gPow, sSetIx, sRetVar, outsOf, lents, wb, CDiv, CPow, CMul, hm, hm2]
    exact ⟨Int.emod_nonneg _ (by omega), Int.emod_lt_of_pos _ hm⟩
theorem beq_dec (x y : Int) : (x == y) = decide (x = y) := rfl
theorem fCall_eq {g : List D → Option (D × Bool)} {fs : List FO} {δ δ' : Dn} {os : List Opd} {ds : List D} {z : D × Bool} (h1 : fArgs fs δ = some (os, δ')) (h2 : resL δ' os = some ds) (h3 : g ds = some z) : fCall g fs δ = some (z, δ') := by
  unfold fCall; rw [h1]; simp only [Option.bind_some]; rw [h2]; simp only [Option.bind_some]; rw [h3]; rfl
theorem evF_rt {n np : Nat} {asg : List Nat} {f : FS} {args : List (D × Bool)} {r : D × Bool} {δ : Dn} (h1 : args.length = np ∧ np ≤ n ∧ (args.zipIdx.all fun p => !(p.1.2 && asg.contains p.2)) = true) (h2 : f (args.map some ++ List.replicate (n - np) none) = some (.rt r δ)) : evF n np asg f args = some (r, outsOf args δ) := by
  unfold evF; rw [if_pos h1, h2]
theorem sSeq_nx {f g : FS} {δ δ1 : Dn} (h : f δ = some (.nx δ1)) : sSeq f g δ = g δ1 := by unfold sSeq; rw [h]; rfl
theorem sSeq_rt {f g : FS} {δ δ1 : Dn} {r} (h : f δ = some (.rt r δ1)) : sSeq f g δ = some (.rt r δ1) := by unfold sSeq; rw [h]; rfl
theorem sRet_eq {f : F} {δ δ1 : Dn} {r} (h : f δ = some (r, δ1)) : sRet f δ = some (.rt r δ1) := by unfold sRet; rw [h]; rfl
theorem sSet_eq {i : Nat} {f : F} {δ δ1 : Dn} {r} (h : f δ = some (r, δ1)) (hi : i < δ1.length) : sSet i f δ = some (.nx (δ1.set i (some r))) := by unfold sSet; rw [h]; simp only [Option.bind_some]; rw [if_pos hi]
theorem fT_eq {f : F} {δ δ1 : Dn} {b o : Bool} (h : f δ = some ((.bl b, o), δ1)) : fT f δ = some (b, δ1) := by unfold fT; rw [h]; rfl
theorem oVal_eq {f : F} {δ δ1 : Dn} {r} (h : f δ = some (r, δ1)) : oVal f δ = some (.val r, δ1) := by unfold oVal; rw [h]; rfl
theorem fOp2_eq {g : D → D → Option (D × Bool)} {fa fb : FO} {δ δ1 δ2 : Dn} {o1 o2 : Opd} {x y : D} {z : D × Bool} (h1 : fa δ = some (o1, δ1)) (h2 : fb δ1 = some (o2, δ2)) (h3 : res δ2 o1 = some x) (h4 : res δ2 o2 = some y) (h5 : g x y = some z) : fOp2 g fa fb δ = some (z, δ2) := by
  unfold fOp2; rw [h1]; simp only [Option.bind_some]; rw [h2]; simp only [Option.bind_some]; rw [h3, h4]; simp only [Option.bind_some]; rw [h5]; rfl
theorem fUser_eq {ev : EvF} {fs : List FO} {δ δ1 : Dn} {os : List Opd} {args : List (D × Bool)} {r : D × Bool} {outs : Dn} (h1 : fArgs fs δ = some (os, δ1)) (h2 : argsOf δ1 os = some args) (h3 : (lents os args).Nodup) (h4 : ev args = some (r, outs)) : fUser ev fs δ = some (r, wb os args outs δ1) := by
  unfold fUser; rw [h1]; simp only [Option.bind_some]; rw [h2]; simp only [Option.bind_some]; rw [if_pos h3, h4]; rfl
theorem fOrT_f {f g : FT} {δ δ1 : Dn} (h : f δ = some (false, δ1)) : fOrT f g δ = g δ1 := by unfold fOrT; rw [h]; rfl
theorem fOrT_t {f g : FT} {δ δ1 : Dn} (h : f δ = some (true, δ1)) : fOrT f g δ = some (true, δ1) := by unfold fOrT; rw [h]; rfl
theorem fNotT_eq {f : FT} {δ δ1 : Dn} {b : Bool} (h : f δ = some (b, δ1)) : fNotT f δ = some (!b, δ1) := by unfold fNotT; rw [h]; rfl
theorem sIf_f {t : FT} {f g : FS} {δ δ1 : Dn} (h : t δ = some (false, δ1)) : sIf t f g δ = g δ1 := by unfold sIf; rw [h]; rfl
theorem sIf_t {t : FT} {f g : FS} {δ δ1 : Dn} (h : t δ = some (true, δ1)) : sIf t f g δ = f δ1 := by unfold sIf; rw [h]; rfl
theorem fArgs2 {fa fb : FO} {δ δ1 δ2 : Dn} {o1 o2 : Opd} (h1 : fa δ = some (o1, δ1)) (h2 : fb δ1 = some (o2, δ2)) : fArgs [fa, fb] δ = some ([o1, o2], δ2) := by
  simp only [fArgs]; rw [h1]; simp only [Option.bind_some]; rw [h2]; rfl
theorem fArgs1 {fa : FO} {δ δ1 : Dn} {o1 : Opd} (h1 : fa δ = some (o1, δ1)) : fArgs [fa] δ = some ([o1], δ1) := by
  simp only [fArgs]; rw [h1]; rfl
theorem sFor_eq {fi : FIt} {tg : Tg} {fb : FS} {δ δ1 : Dn} {ds : List D} (h : fi δ = some (ds, δ1)) : sFor fi tg fb δ = forL tg fb ds δ1 := by unfold sFor; rw [h]; rfl
theorem fArgs_cons {fa : FO} {fs : List FO} {δ δ1 δ2 : Dn} {o1 : Opd} {os} (h1 : fa δ = some (o1, δ1)) (h2 : fArgs fs δ1 = some (os, δ2)) : fArgs (fa :: fs) δ = some (o1 :: os, δ2) := by
  simp only [fArgs]; rw [h1]; simp only [Option.bind_some]; rw [h2]; rfl
theorem fLst_eq {fs : List F} {δ δ1 : Dn} {os : List Opd} {ds : List D} (h1 : fArgs (fs.map oVal) δ = some (os, δ1)) (h2 : valsOf os = some ds) (h3 : ds.length ≤ sizeLine) : fLst fs δ = some ((.lst ds, true), δ1) := by
  unfold fLst; rw [h1]; simp only [Option.bind_some]; rw [h2]; simp only [Option.bind_some]; rw [if_pos h3]
theorem cell_ev (ns : List Int) (k : Nat) : ∃ c, ev_law_cell_at [(.lst (ns.map .int), false), (.int k, false)] = some ((.int c, false), [some (.lst (ns.map .int), false), some (.int k, false)]) := by
  by_cases hk : k < ns.length
  · refine ⟨ns[k], ?_⟩
    simp [ev_law_cell_at, fs_law_cell_at, evF, gIx, atI, ixN, outsOf, hk]
  · refine ⟨0, ?_⟩
    simp [ev_law_cell_at, fs_law_cell_at, evF, outsOf, hk]
theorem pow18 : gPow (.int 10) (.int 18) = some (.int 1000000000000000000, false) := by
  have : CPow 10 18 := by unfold CPow; decide +kernel
  show ((if CPow 10 18 then some (D.int (10 ^ (18 : Int).toNat)) else none).map fun z => (z, false)) = _
  rw [if_pos this]; rfl
theorem pow29 : gPow (.int 10) (.int 29) = some (.int 100000000000000000000000000000, false) := by
  have : CPow 10 29 := by unfold CPow; decide +kernel
  show ((if CPow 10 29 then some (D.int (10 ^ (29 : Int).toNat)) else none).map fun z => (z, false)) = _
  rw [if_pos this]; rfl
theorem state_ev (ns : List Int) (k : Nat) : ∃ a b, ev_law_state [(.lst (ns.map .int), false), (.int k, false)] = some ((.lst [.int a, .bl b], true), [some (.lst (ns.map .int), false), some (.int k, false)]) := by
  obtain ⟨c, hc⟩ := cell_ev ns k
  by_cases h : c ≥ 1000000000000000000
  · refine ⟨c - 1000000000000000000, true, ?_⟩
    simp [ev_law_state, fs_law_state, evF, hc, lents, wb, pow18, h, sizeLine_eq, outsOf]
  · refine ⟨c % 2147483647, false, ?_⟩
    simp [ev_law_state, fs_law_state, evF, hc, lents, wb, pow18, h, sizeLine_eq, outsOf, gMod, gI]
end PV
set_option Elab.async false
set_option linter.all false
set_option maxRecDepth 100000
set_option maxHeartbeats 8000000
namespace PV
open PySem PySem.Spec PyProof.Rows L2 PX
def st (n : Nat) : List Int := (List.range n).map fun (k : Nat) => (1 + (k : Int))
theorem st_enc (n : Nat) : (st n).map D.int = itRange 1 n := by simp [st, itRange]
def outsT : Nat → List Int → List Int → List (List Int)
  | 0, _, f => [f]
  | k + 1, r, f => (List.range r.length).flatMap fun v => outsT k (r.eraseIdx v) (f ++ [r.getD v 0 * 1]) ++ outsT k (r.eraseIdx v) (f ++ [r.getD v 0 * -1])
theorem erase_map (f : Int → D) : ∀ (l : List Int) (k : Nat), (l.map f).eraseIdx k = (l.eraseIdx k).map f
  | [], k => by simp
  | x :: l, 0 => by simp
  | x :: l, k + 1 => by simp [erase_map f l k]
theorem fPopAt_eq {i : Nat} {f : FO} {δ δ1 : Dn} {o : Opd} {l0 l : List D} {k : Int} {j : Nat} {d : D} (h0 : δ[i]? = some (some (.lst l0, true))) (h1 : f δ = some (o, δ1)) (h2 : res δ1 o = some (.int k)) (h3 : δ1[i]? = some (some (.lst l, true))) (h4 : -(2 ^ 63) ≤ k ∧ k < 2 ^ 63) (h5 : ixN l.length k = some j) (h6 : l[j]? = some d) :
    fPopAt i f δ = some ((d, false), δ1.set i (some (.lst (l.eraseIdx j), true))) := by
  unfold fPopAt; rw [h0]; simp only []; rw [h1]; simp only [Option.bind_some]; rw [h2, h3]; simp only []; rw [if_pos h4, h5]; simp only [Option.bind_some]; rw [h6]; rfl
theorem fAppend_eq {i : Nat} {f : F} {δ δ1 : Dn} {r : D × Bool} {l0 l : List D} (h0 : δ[i]? = some (some (.lst l0, true))) (h1 : f δ = some (r, δ1)) (h3 : δ1[i]? = some (some (.lst l, true))) (h4 : l.length < sizeLine) :
    fAppend i f δ = some ((.non, false), δ1.set i (some (.lst (l ++ [r.1]), true))) := by
  unfold fAppend; rw [h0]; simp only []; rw [h1]; simp only [Option.bind_some]; rw [h3]; simp only []; rw [if_pos h4]
theorem sExpr_eq {f : F} {δ δ1 : Dn} {r} (h : f δ = some (r, δ1)) : sExpr f δ = some (.nx δ1) := by unfold sExpr; rw [h]; rfl
abbrev fPop : F := (fPopAt 2 (oVal (fUser ev_law_take [(oVar 0), (oVal (fCall (g1 gLen) [(oVar 2)]))])))
abbrev fSgn : F := (fOp2 gIx (oVal (fLst [(fC (.int 1)), (fOp1 gNeg (oVal (fC (.int 1))))])) (oVal (fUser ev_law_take [(oVar 0), (oVal (fC (.int 2)))])))
abbrev fbT : FS := (sSeq (sExpr (fAppend 3 (fOp2 gMul (oVal fPop) (oVal fSgn)))) sNil)
theorem pop_ev (a : Int) (b : Bool) (n : Sl) (r f : List Int) (x : Sl) (h0 : 0 < r.length) (h5 : r.length ≤ 5) : ∃ v a', v < r.length ∧ fPop [stt a b, n, lsi r, lsi f, x] = some ((.int (r.getD v 0), false), [stt a' b, n, lsi (r.eraseIdx v), lsi f, x]) := by
  obtain ⟨v, a', hv0, hv, e⟩ := take_spec a b r.length (by omega) (by omega)
  have hn : v.toNat < r.length := by omega
  refine ⟨v.toNat, a', hn, ?_⟩
  have e1 : (lsi (r.eraseIdx v.toNat) : Sl) = some (.lst ((r.map D.int).eraseIdx v.toNat), true) := by rw [erase_map]
  rw [e1]
  refine fPopAt_eq (k := v) (δ1 := [stt a' b, n, lsi r, lsi f, x]) rfl (oVal_eq (r := (.int v, false)) (fUser_eq (δ1 := [stt a b, n, lsi r, lsi f, x]) (os := [.slot 0, .val (.int r.length, false)]) (args := [(.lst [.int a, .bl b], true), (.int r.length, false)]) ?_ rfl (show ([0] : List Nat).Nodup from by decide) e)) rfl rfl ⟨by omega, by omega⟩ (j := v.toNat) ?_ ?_
  · show some ([Opd.slot 0, Opd.val (D.int ((r.map D.int).length : Nat), false)], _) = _
    rw [List.length_map]
  · unfold ixN; rw [if_pos hv0, if_pos (by simpa using hv)]
  · simp [hn]
theorem sgn_ev (a : Int) (b : Bool) (n y z x : Sl) : ∃ s a', (s = 1 ∨ s = -1) ∧ fSgn [stt a b, n, y, z, x] = some ((.int s, false), [stt a' b, n, y, z, x]) := by
  obtain ⟨v, a', hv0, hv, e⟩ := take_spec a b 2 (by omega) (by omega)
  have hl : ∀ δ : Dn, fLst [(fC (.int 1)), (fOp1 gNeg (oVal (fC (.int 1))))] δ = some ((.lst [.int 1, .int (-1)], true), δ) := fun δ => rfl
  refine ⟨if v = 0 then 1 else -1, a', by split <;> simp, ?_⟩
  refine fOp2_eq (δ1 := [stt a b, n, y, z, x]) (oVal_eq (hl _)) (oVal_eq (δ1 := [stt a' b, n, y, z, x]) (fUser_eq (δ1 := [stt a b, n, y, z, x]) (os := [.slot 0, .val (.int 2, false)]) (args := [(.lst [.int a, .bl b], true), (.int 2, false)]) rfl rfl (show ([0] : List Nat).Nodup from by decide) e)) rfl rfl ?_
  rcases (show v = 0 ∨ v = 1 by omega) with rfl | rfl <;> rfl
theorem fbT_ev (a : Int) (b : Bool) (n : Sl) (r f : List Int) (x : Sl) (h0 : 0 < r.length) (h5 : r.length ≤ 5) (hf : f.length ≤ 5) : ∃ v s a', v < r.length ∧ (s = 1 ∨ s = -1) ∧ fbT [stt a b, n, lsi r, lsi f, x] = some (.nx [stt a' b, n, lsi (r.eraseIdx v), lsi (f ++ [r.getD v 0 * s]), x]) := by
  obtain ⟨v, a1, hv, e1⟩ := pop_ev a b n r f x h0 h5
  obtain ⟨s, a2, hs, e2⟩ := sgn_ev a1 b n (lsi (r.eraseIdx v)) (lsi f) x
  refine ⟨v, s, a2, hv, hs, ?_⟩
  have hm : gMul (.int (r.getD v 0)) (.int s) = some (.int (r.getD v 0 * s), false) := by
    have : CMul (r.getD v 0) s := .inr (by omega)
    show ((if CMul (r.getD v 0) s then some (D.int (r.getD v 0 * s)) else none).map fun z => (z, false)) = _
    rw [if_pos this]; rfl
  have hl : (f.map D.int).length < sizeLine := by rw [List.length_map]; exact Nat.lt_of_le_of_lt hf (by decide)
  have e3 := fAppend_eq (i := 3) (δ := [stt a b, n, lsi r, lsi f, x]) (l0 := f.map .int) rfl (fOp2_eq (oVal_eq e1) (oVal_eq e2) rfl rfl hm) (l := f.map .int) rfl hl
  refine (sSeq_nx (sExpr_eq e3)).trans ?_
  simp [sNil, lsi]
theorem for_t (b : Bool) (n : Sl) : ∀ (ds : List D) (a : Int) (r f : List Int) (x : Sl), ds.length = r.length → f.length + r.length ≤ 5 →
    ∃ a' t r' x', t ∈ outsT ds.length r f ∧ forL (tgName 4) fbT ds [stt a b, n, lsi r, lsi f, x] = some (.nx [stt a' b, n, lsi r', lsi t, x'])
  | [], a, r, f, x, _, _ => ⟨a, f, r, x, by simp [outsT], rfl⟩
  | d :: ds, a, r, f, x, h, hl => by
    simp only [List.length_cons] at h
    obtain ⟨v, s, a1, hv, hs, e⟩ := fbT_ev a b n r f (some (d, false)) (by omega) (by omega) (by omega)
    obtain ⟨a', t, r', x', ht, e'⟩ := for_t b n ds a1 (r.eraseIdx v) (f ++ [r.getD v 0 * s]) (some (d, false)) (by rw [List.length_eraseIdx, if_pos hv]; omega) (by rw [List.length_eraseIdx, if_pos hv, List.length_append]; simp only [List.length_cons, List.length_nil]; omega)
    refine ⟨a', t, r', x', ?_, ?_⟩
    · simp only [List.length_cons, outsT, List.mem_flatMap, List.mem_append, List.mem_range]
      refine ⟨v, hv, ?_⟩
      rcases hs with rfl | rfl
      · exact .inl ht
      · exact .inr ht
    · unfold forL
      rw [show tgName 4 d [stt a b, n, lsi r, lsi f, x] = some [stt a b, n, lsi r, lsi f, some (d, false)] from rfl]
      simp only [Option.bind_some]
      rw [e]
      simp only [Option.bind_some]
      exact e'
theorem rg_stl (n : Nat) (hn : n ≤ 5) : gRg .lst true [.int 1, .int ((n : Int) + 1)] = some (.lst ((st n).map .int), true) := by
  have : n = 0 ∨ n = 1 ∨ n = 2 ∨ n = 3 ∨ n = 4 ∨ n = 5 := by omega
  have h1 : RgOk 1 ((n : Int) + 1) := by rcases this with rfl | rfl | rfl | rfl | rfl | rfl <;> decide +kernel
  have h2 : ((n : Int) + 1 - 1).toNat = n := by omega
  show (if RgOk 1 ((n : Int) + 1) then some (D.lst (itRange 1 ((n : Int) + 1 - 1).toNat), true) else none) = _
  rw [if_pos h1, h2, ← st_enc]
theorem itR1_eq {f : FO} {δ δ1 : Dn} {o : Opd} {n : Nat} (h1 : f δ = some (o, δ1)) (h2 : res δ1 o = some (.int n)) (hn : n ≤ 63) : itR1 f δ = some (itRange 0 n, δ1) := by
  have hb : (-(2 ^ 62) ≤ (n : Int) ∧ (n : Int) < 2 ^ 62) := ⟨by omega, by omega⟩
  have h3 : fArgs [f] δ = some ([o], δ1) := by simp [fArgs, h1]
  have h4 : resL δ1 [o] = some [.int n] := by simp [resL, h2]
  unfold itR1; rw [h3]; simp only [Option.bind_some]; rw [h4]; simp only []; rw [if_pos hb]; rfl
theorem turning_ev (a : Int) (b : Bool) (n : Nat) (hn : n ≤ 5) : ∃ a' t, t ∈ outsT n (st n) [] ∧ ev_law_turning [(.lst [.int a, .bl b], true), (.int n, false)] = some (enc t, [stt a' b, some (.int n, false)]) := by
  have hlen : (itRange 0 n).length = n := by simp [itRange]
  have hst : (st n).length = n := by simp [st]
  obtain ⟨a', t, r', x', ht, e⟩ := for_t b (some (.int n, false)) (itRange 0 n) a (st n) [] none (by rw [hlen, hst]) (by rw [hst]; simpa using hn)
  rw [hlen] at ht
  refine ⟨a', t, ht, ?_⟩
  refine evF_rt (δ := [stt a' b, some (.int n, false), lsi r', lsi t, x']) ⟨rfl, by decide, rfl⟩ ?_
  refine (sSeq_nx (δ1 := [stt a b, some (.int n, false), lsi (st n), none, none]) (sSet_eq (i := 2) (δ1 := [stt a b, some (.int n, false), none, none, none]) (fCall_eq (os := [.val (.int 1, false), .val (.int ((n : Int) + 1), false)]) rfl rfl (rg_stl n hn)) (show 2 < 5 by decide))).trans ?_
  refine (sSeq_nx (δ1 := [stt a b, some (.int n, false), lsi (st n), lsi [], none]) rfl).trans ?_
  refine (sSeq_nx ((sFor_eq (itR1_eq (o := .slot 1) rfl rfl (by omega))).trans e)).trans ?_
  exact sSeq_rt (sRet_eq (fCall_eq (os := [.slot 3]) rfl rfl rfl))
theorem outsT_len : ∀ (k : Nat) (r f t : List Int), r.length = k → t ∈ outsT k r f → t.length = f.length + k
  | 0, r, f, t, _, h => by simp [outsT] at h; subst h; simp
  | k + 1, r, f, t, hr, h => by
    simp only [outsT, List.mem_flatMap, List.mem_append, List.mem_range] at h
    obtain ⟨v, hv, h⟩ := h
    have hl : (r.eraseIdx v).length = k := by rw [List.length_eraseIdx, if_pos hv]; omega
    rcases h with h | h
    · have := outsT_len k _ _ t hl h; simp at this; omega
    · have := outsT_len k _ _ t hl h; simp at this; omega
theorem turn_len {n : Nat} {t : List Int} (h : t ∈ outsT n (st n) []) : t.length = n := by
  have := outsT_len n (st n) [] t (by simp [st]) h; simpa using this
end PV
set_option Elab.async false
set_option linter.all false
set_option maxRecDepth 100000
set_option maxHeartbeats 8000000
namespace PV
open PySem PySem.Spec PyProof.Rows L2 PX
theorem dep_ints : ∀ t : List Int, D.depL (t.map .int) = 0
  | [] => by simp [D.depL]
  | s :: t => by simp [D.depL, D.dep, dep_ints t]
theorem eqb_ints : ∀ a b : List Int, D.eqbL (a.map .int) (b.map .int) = decide (a = b)
  | [], [] => by simp [D.eqbL]
  | [], _ :: _ => by simp [D.eqbL]
  | _ :: _, [] => by simp [D.eqbL]
  | x :: a, y :: b => by simp [D.eqbL, D.eqb, eqb_ints a b, Bool.decide_and, beq_dec]
@[simp] theorem gEq_lints (a b : List Int) : gEq (.lst (a.map .int)) (.lst (b.map .int)) = some (.bl (decide (a = b)), false) := by unfold gEq; rw [if_pos (by simp [D.dep, dep_ints])]; simp [D.eqb, eqb_ints]
theorem nd_perm : ∀ (l m : List Int), l.Nodup → (∀ x ∈ l, x ∈ m) → m.length ≤ l.length → l.Perm m
  | [], m, _, _, h => by
    have : m = [] := List.length_eq_zero_iff.mp (by simpa using h)
    subst this; exact List.Perm.refl _
  | x :: l, m, nd, hs, h => by
    rw [List.nodup_cons] at nd
    have hx := hs x List.mem_cons_self
    have hp := List.perm_cons_erase hx
    refine ((nd_perm l (m.erase x) nd.2 (fun y hy => ?_) ?_).cons x).trans hp.symm
    · have hy2 := hs y (List.mem_cons_of_mem _ hy)
      have hne : y ≠ x := fun e => nd.1 (e ▸ hy)
      exact (List.mem_erase_of_ne hne).mpr hy2
    · have := hp.length_eq
      simp only [List.length_cons] at this h
      omega
theorem st_mem {n : Nat} {x : Int} : x ∈ st n ↔ 1 ≤ x ∧ x ≤ n := by
  simp only [st, List.mem_map, List.mem_range]
  constructor
  · rintro ⟨k, h, rfl⟩; omega
  · rintro ⟨h1, h2⟩; exact ⟨(x - 1).toNat, by omega, by omega⟩
theorem st_pw (n : Nat) : (st n).Pairwise (· < ·) := by
  simp only [st]
  rw [List.pairwise_map]
  exact List.pairwise_lt_range.imp fun h => by omega
theorem st_nd (n : Nat) : (st n).Nodup := (st_pw n).imp fun h => by omega
theorem perm_st {n : Nat} {l : List Int} : l.Perm (st n) ↔ l.length = n ∧ (∀ x ∈ l, 1 ≤ x ∧ x ≤ n) ∧ l.Nodup := by
  constructor
  · intro h
    refine ⟨by rw [h.length_eq]; simp [st], fun x hx => st_mem.mp (h.mem_iff.mp hx), h.symm.nodup (st_nd n)⟩
  · rintro ⟨h1, h2, h3⟩
    exact nd_perm l (st n) h3 (fun x hx => st_mem.mpr (h2 x hx)) (by simp [st, h1])
theorem srt_st (n : Nat) : ((st n).map D.int).Pairwise (fun a b => ltT b a = false) := by
  rw [List.pairwise_map]
  refine (st_pw n).imp fun {a b} h => ?_
  have h1 : ¬ b < a := by omega
  have h2 : ¬ b = a := by omega
  rw [ltT_false]; simp [cT, h1, h2]
theorem pr_ints (l : List Int) : ∀ x ∈ l.map D.int, D.pr x = true := by
  intro x hx
  obtain ⟨i, _, rfl⟩ := List.mem_map.mp hx
  simp [D.pr]
theorem cT_int_eq {i j : Int} (h1 : ltT (.int i) (.int j) = false) (h2 : ltT (.int j) (.int i) = false) : i = j := by
  rw [ltT_false] at h1 h2
  simp only [cT] at h1 h2
  by_cases a : i < j
  · simp [a] at h1
  · by_cases b : j < i
    · simp [b] at h2
    · omega
theorem sort_iff {n : Nat} {l : List Int} : sortS ltT (l.map .int) = (st n).map .int ↔ l.Perm (st n) := by
  constructor
  · intro h
    have hp := sortS_perm ltT (l.map D.int)
    rw [h] at hp
    have := (hp.map fun d => match d with | D.int i => i | _ => 0)
    simp only [List.map_map] at this
    have e : ((fun d => match d with | D.int i => i | _ => 0) ∘ D.int) = id := rfl
    rw [e, List.map_id, List.map_id] at this
    exact this.symm
  · intro h
    refine List.Perm.eq_of_pairwise (fun x y hx hy h1 h2 => ?_) (sortS_srt _) (srt_st n) ((sortS_perm ltT _).trans (h.map _))
    obtain ⟨i, _, rfl⟩ := List.mem_map.mp ((sortS_perm ltT (l.map D.int)).mem_iff.mp hx)
    obtain ⟨j, _, rfl⟩ := List.mem_map.mp hy
    rw [cT_int_eq h2 h1]
theorem ints_of_perm {l : List Int} {m : List D} (h : m.Perm (l.map D.int)) : ∃ k : List Int, m = k.map .int := by
  refine ⟨m.map fun d => match d with | D.int i => i | _ => 0, ?_⟩
  rw [List.map_map]
  symm
  rw [List.map_congr_left (g := id), List.map_id]
  intro d hd
  obtain ⟨i, _, rfl⟩ := List.mem_map.mp (h.mem_iff.mp hd)
  rfl
theorem sortOk_ints (l : List Int) : sortOk (l.map .int) = true := by
  unfold sortOk
  cases l with
  | nil => rfl
  | cons x l =>
    rw [Bool.or_eq_true]; right
    simp only [List.map_cons]
    simp [headK, D.pr, D.dep, cmpD]
theorem gSorted_ints (l : List Int) (hl : l.length < 64) : gSorted (.lst (l.map .int)) = some (.lst (sortS ltT (l.map .int)), true) := by
  simp only [gSorted, seqOf, Option.bind_some, gSortedL]
  rw [if_pos ⟨sortOk_ints l, by first | (simpa using hl) | (rw [sizeLine_eq]; simp; omega)⟩]
theorem sorted_eq (l : List Int) (n : Nat) : gEq (.lst (sortS ltT (l.map .int))) (.lst (itRange 1 n)) = some (.bl (decide (l.Perm (st n))), false) := by
  obtain ⟨k, e⟩ := ints_of_perm (sortS_perm ltT (l.map D.int))
  rw [← st_enc, e, gEq_lints]
  have : k = st n ↔ l.Perm (st n) := by
    rw [← sort_iff, e]
    constructor
    · intro h; rw [h]
    · intro h
      have := congrArg (List.map fun d => match d with | D.int i => i | _ => 0) h
      simp only [List.map_map] at this
      have e : ((fun d => match d with | D.int i => i | _ => 0) ∘ D.int) = id := rfl
      rw [e, List.map_id, List.map_id] at this
      exact this
  simp only [this]
theorem setF_spec : ∀ l : List Int, (∀ k, (setF (l.reverse.map .int)).1 k = decide (k ∈ l.reverse)) ∧ (setF (l.reverse.map .int)).2 ≤ l.length ∧ ((setF (l.reverse.map .int)).2 = l.length ↔ l.Nodup)
  | [] => ⟨fun k => by simp [setF], by simp [setF], by simp [setF]⟩
  | x :: l => by
    obtain ⟨h1, h2, h3⟩ := setF_spec l
    rw [List.reverse_cons, List.map_append, List.map_cons, List.map_nil, setF_snoc]
    refine ⟨fun k => ?_, ?_, ?_⟩
    · dsimp only
      rw [h1 k]
      by_cases a : k ∈ l.reverse <;> by_cases b : k = x <;> simp_all
    · dsimp only; rw [List.length_cons]; split <;> omega
    · dsimp only
      rw [h1 x, List.nodup_cons]
      by_cases a : x ∈ l
      · simp only [List.mem_reverse, a, decide_true, if_true, not_true_eq_false, false_and, iff_false, List.length_cons]; omega
      · simp only [List.mem_reverse, a, decide_false, Bool.false_eq_true, if_false, not_false_eq_true, true_and, List.length_cons]; rw [← h3]; omega
theorem setF_nd (l : List Int) : (setF (l.map .int)).2 = l.length ↔ l.Nodup := by
  have := (setF_spec l.reverse).2.2
  rw [List.reverse_reverse, List.length_reverse, List.reverse_perm l |>.nodup_iff] at this
  exact this
end PV
set_option Elab.async false
set_option linter.all false
set_option maxRecDepth 100000
set_option maxHeartbeats 8000000
namespace PV
open PySem PySem.Spec PyProof.Rows L2 PX
theorem tg_last (pre : Dn) (x : Sl) (d : D) : tgName pre.length d (pre ++ [x]) = some (pre ++ [some (d, false)]) := by
  unfold tgName; rw [if_pos (by simp)]; simp [List.set_append]
theorem bl_gen (f : F) (g : D → D) (pre : Dn) : ∀ (l acc : List D) (x : Sl), (∀ d ∈ l, ∃ o, f (pre ++ [some (d, false)]) = some ((g d, o), pre ++ [some (d, false)])) → acc.length + l.length ≤ sizeLine →
    ∃ x', bLoop (tgName pre.length) fTrue (bEmit f) l acc (pre ++ [x]) = some (acc ++ l.map g, pre ++ [x'])
  | [], acc, x, _, _ => ⟨x, by simp [bLoop]⟩
  | d :: l, acc, x, h, hl => by
    obtain ⟨o, hd⟩ := h d List.mem_cons_self
    obtain ⟨x', e⟩ := bl_gen f g pre l (acc ++ [g d]) (some (d, false)) (fun d' h' => h d' (List.mem_cons_of_mem _ h')) (by simp at hl ⊢; omega)
    refine ⟨x', ?_⟩
    have hs : acc.length < sizeLine := by simp at hl; omega
    rw [bLoop, tg_last]
    simp only [Option.bind_some, r_fTrue, if_true, r_bEmit]
    rw [hd]
    simp only [Option.bind_some]
    rw [if_pos hs]
    simp only [Option.bind_some]
    rw [e]
    simp
theorem bl_set (f : F) (g : D → Int) (pre : Dn) : ∀ (l acc : List D) (x : Sl), (∀ d ∈ l, ∃ o, f (pre ++ [some (d, false)]) = some ((.int (g d), o), pre ++ [some (d, false)])) → acc.length + l.length ≤ 1000 →
    ∃ x', bLoop (tgName pre.length) fTrue (bEmitS f) l acc (pre ++ [x]) = some (acc ++ l.map fun d => .int (g d), pre ++ [x'])
  | [], acc, x, _, _ => ⟨x, by simp [bLoop]⟩
  | d :: l, acc, x, h, hl => by
    obtain ⟨o, hd⟩ := h d List.mem_cons_self
    obtain ⟨x', e⟩ := bl_set f g pre l (acc ++ [.int (g d)]) (some (d, false)) (fun d' h' => h d' (List.mem_cons_of_mem _ h')) (by simp at hl ⊢; omega)
    refine ⟨x', ?_⟩
    have hb : scanBound = 4096 := rfl
    have hs : acc.length + 1 < scanBound := by simp at hl; omega
    rw [bLoop, tg_last]
    simp only [Option.bind_some, r_fTrue, if_true, bEmitS]
    rw [hd]
    simp only [Option.bind_some]
    rw [if_pos hs]
    simp only [Option.bind_some]
    rw [e]
    simp
theorem bools_map (p : D → Bool) : ∀ l : List D, boolsOf (l.map fun d => .bl (p d)) = some (l.map p)
  | [] => rfl
  | d :: l => by simp [boolsOf, bools_map p l]
theorem all_map (p : D → Bool) (l : List D) : gAll (.lst (l.map fun d => .bl (p d))) = some (.bl (l.all p), false) := by
  simp [gAll, bools_map, List.all_map, Function.comp_def]
theorem any_map (p : D → Bool) (l : List D) : gAny (.lst (l.map fun d => .bl (p d))) = some (.bl (l.any p), false) := by
  simp [gAny, bools_map, List.any_map, Function.comp_def]
def ab (s : Int) : Int := if s < 0 then -s else s
def wh : D → Bool
  | .int _ => true
  | _ => false
def sg (n : Int) : D → Bool
  | .int s => decide (1 ≤ ab s) && decide (ab s ≤ n)
  | _ => false
def iOf : D → Int
  | .int s => s
  | _ => 0
theorem whole_ev (d : D) : ev_is_whole [(d, false)] = some ((.bl (wh d), false), [some (d, false)]) := by
  cases d <;> simp [ev_is_whole, fs_is_whole, evF, outsOf, wh, isT]
theorem lwhole_ev (d : D) : ev_law_whole_k21 [(d, false)] = some ((.bl (wh d), false), [some (d, false)]) := by
  cases d <;> simp [ev_law_whole_k21, fs_law_whole_k21, evF, outsOf, wh, isT]
theorem number_ev (d : D) (lo hi : Int) : ev_is_number [(d, false), (.int lo, false), (.int hi, false)] = some ((.bl (match d with | .int s => decide (lo ≤ s) && decide (s ≤ hi) | _ => false), false), [some (d, false), some (.int lo, false), some (.int hi, false)]) := by
  cases d with
  | int s => by_cases h : lo ≤ s <;> simp [ev_is_number, fs_is_number, evF, outsOf, whole_ev, wh, lents, wb, fChain, icmp, h]
  | _ => simp [ev_is_number, fs_is_number, evF, outsOf, whole_ev, wh, lents, wb]
theorem name_ev (d : D) (n : Int) : ev_is_name [(.int n, false), (d, false)] = some ((.bl (match d with | .int s => decide (1 ≤ s) && decide (s ≤ n) | _ => false), false), [some (.int n, false), some (d, false)]) := by
  simp [ev_is_name, fs_is_name, evF, outsOf, number_ev, lents, wb]
theorem sign_ev (n : Int) (d : D) : ev_is_sign [(.int n, false), (d, false)] = some ((.bl (sg n d), false), [some (.int n, false), some (d, false)]) := by
  cases d with
  | int s =>
    simp [ev_is_sign, fs_is_sign, evF, outsOf, whole_ev, name_ev, wh, lents, wb, sg, ab]
    rfl
  | _ => simp [ev_is_sign, fs_is_sign, evF, outsOf, whole_ev, name_ev, wh, lents, wb, sg, ab]
end PV
set_option Elab.async false
set_option linter.all false
set_option maxRecDepth 100000
set_option maxHeartbeats 8000000
namespace PV
open PySem PySem.Spec PyProof.Rows L2 PX
theorem sg_int {n : Int} {d : D} (h : sg n d = true) : d = .int (iOf d) := by cases d <;> simp_all [sg, iOf]
theorem wh_int {d : D} (h : wh d = true) : d = .int (iOf d) := by cases d <;> simp_all [wh, iOf]
def tB (n : Nat) : D → Bool
  | .tup l => decide (l.length = n) && (l.all (sg n) && decide ((l.map fun d => ab (iOf d)).Nodup))
  | _ => false
def lB (n : Nat) : D → Bool
  | .tup l => l.all wh && decide ((l.map fun d => ab (iOf d)).Perm (st n))
  | _ => false
theorem tB_eq (n : Nat) (d : D) : tB n d = lB n d := by
  cases d with
  | tup l =>
    rw [tB, lB, Bool.eq_iff_iff]
    simp only [Bool.and_eq_true, decide_eq_true_eq, List.all_eq_true, perm_st, List.length_map, List.mem_map]
    constructor
    · rintro ⟨h1, h2, h3⟩
      refine ⟨fun d hd => ?_, h1, ?_, h3⟩
      · rw [sg_int (h2 d hd)]; rfl
      · rintro x ⟨d, hd, rfl⟩
        have := h2 d hd
        rw [sg_int this] at this
        simpa [sg] using this
    · rintro ⟨h1, h2, h3, h4⟩
      refine ⟨h2, fun d hd => ?_, h4⟩
      have := h3 _ ⟨d, hd, rfl⟩
      rw [wh_int (h1 d hd)]
      simpa [sg] using this
  | _ => rfl
theorem turning_looked (n : Nat) (d : D) (hd : ∀ l, d = .tup l → l.length ≤ 60) : ev_is_turning [(.int n, false), (d, false)] = some ((.bl (tB n d), false), [some (.int n, false), some (d, false)]) := by
  cases d with
  | tup l =>
    have hl := hd l rfl
    by_cases h1 : l.length = n
    · obtain ⟨x1, e1⟩ := bl_gen (fUser ev_is_sign [oVar 0, oVar 1]) (fun d => .bl (sg n d)) [some (.int n, false)] l [] none (fun d _ => ⟨false, by simp [sign_ev, lents, wb]⟩) (by rw [sizeLine_eq]; simp; omega)
      simp only [List.cons_append, List.nil_append, List.length_cons, List.length_nil, Nat.zero_add] at e1
      by_cases h2 : l.all (sg n) = true
      · have hi : ∀ d ∈ l, ∃ o, fCall (g1 gAbs) [oVar 0] ([] ++ [some (d, false)]) = some ((.int (ab (iOf d)), o), ([] ++ [some (d, false)] : Dn)) := fun d hd => ⟨false, by
          rw [List.all_eq_true] at h2
          rw [sg_int (h2 d hd)]; rfl⟩
        obtain ⟨x2, e2⟩ := bl_set (fCall (g1 gAbs) [oVar 0]) (fun d => ab (iOf d)) [] l [] none hi (by simp; omega)
        simp only [List.cons_append, List.nil_append, List.length_cons, List.length_nil] at e2
        have e3 : (setF (l.map fun d => D.int (ab (iOf d)))).2 = l.length ↔ (l.map fun d => ab (iOf d)).Nodup := by
          have := setF_nd (l.map fun d => ab (iOf d))
          rw [List.map_map, List.length_map] at this
          exact this
        have e4 : (((setF (l.map fun d => D.int (ab (iOf d)))).2 : Int) == (n : Int)) = decide ((l.map fun d => ab (iOf d)).Nodup) := by
          rw [beq_dec, ← h1]
          by_cases q : (l.map fun d => ab (iOf d)).Nodup
          · rw [decide_eq_true q, e3.mpr q]; simp
          · rw [decide_eq_false q]
            simp only [decide_eq_false_iff_not, Int.natCast_inj]
            exact fun z => q (e3.mp z)
        simp [ev_is_turning, fs_is_turning, evF, isT, h1, fComp, fSetLen, fVar, e1, e2, all_map, h2, outsOf, lents, wb, tB, e4]
      · have h2' : l.all (sg n) = false := by simpa using h2
        simp [ev_is_turning, fs_is_turning, evF, isT, h1, fComp, fSetLen, fVar, e1, all_map, h2', outsOf, lents, wb, tB]
    · have : ¬ ((l.length : Int) = (n : Int)) := by omega
      simp [ev_is_turning, fs_is_turning, evF, isT, this, h1, outsOf, lents, wb, tB]
  | _ => simp [ev_is_turning, fs_is_turning, evF, isT, outsOf, tB]
theorem rg_stl2 (n : Nat) (hn : n ≤ 5) : gRg .lst true [.int 1, .int ((n : Int) + 1)] = some (.lst (itRange 1 n), true) := by rw [rg_stl n hn, st_enc]
theorem lturning_looked (n : Nat) (hn : n ≤ 5) (d : D) (hd : ∀ l, d = .tup l → l.length ≤ 60) : ev_law_is_turning [(.int n, false), (d, false)] = some ((.bl (lB n d), false), [some (.int n, false), some (d, false)]) := by
  cases d with
  | tup l =>
    have hl := hd l rfl
    obtain ⟨x1, e1⟩ := bl_gen (fUser ev_law_whole_k21 [oVar 0]) (fun d => .bl (wh d)) [] l [] none (fun d _ => ⟨false, by simp [lwhole_ev, lents, wb]⟩) (by rw [sizeLine_eq]; simp; omega)
    simp only [List.cons_append, List.nil_append, List.length_cons, List.length_nil, Nat.zero_add] at e1
    by_cases h2 : l.all wh = true
    · have hi : ∀ d ∈ l, ∃ o, fCall (g1 gAbs) [oVar 0] ([] ++ [some (d, false)]) = some ((.int (ab (iOf d)), o), ([] ++ [some (d, false)] : Dn)) := fun d hd => ⟨false, by
        rw [List.all_eq_true] at h2
        rw [wh_int (h2 d hd)]; rfl⟩
      obtain ⟨x2, e2⟩ := bl_gen (fCall (g1 gAbs) [oVar 0]) (fun d => .int (ab (iOf d))) [] l [] none hi (by rw [sizeLine_eq]; simp; omega)
      simp only [List.cons_append, List.nil_append, List.length_cons, List.length_nil] at e2
      have e3 : (l.map fun d => D.int (ab (iOf d))) = (l.map fun d => ab (iOf d)).map .int := by rw [List.map_map]; rfl
      have e4 := gSorted_ints (l.map fun d => ab (iOf d)) (by simp; omega)
      have e5 := sorted_eq (l.map fun d => ab (iOf d)) n
      rw [← e3] at e4 e5
      have c1 : fComp [] 1 (itSeq (fVar 1)) (tgName 0) fTrue (bEmit (fUser ev_law_whole_k21 [(oVar 0)])) [some (.int n, false), some (.tup l, false)] = some ((.lst (l.map fun d => .bl (wh d)), true), [some (.int n, false), some (.tup l, false)]) := by
        simp [fComp, fVar, e1, lents, wb]
      have c2 : fComp [] 1 (itSeq (fVar 1)) (tgName 0) fTrue (bEmit (fCall (g1 gAbs) [(oVar 0)])) [some (.int n, false), some (.tup l, false)] = some ((.lst (l.map fun d => .int (ab (iOf d))), true), [some (.int n, false), some (.tup l, false)]) := by
        simp only [fComp, fVar, r_itSeq, List.getElem?_cons_succ, List.getElem?_cons_zero, Option.bind_some, List.set_cons_succ, List.set_cons_zero, List.map_nil, r_argsOf0, lents, List.nodup_nil, if_true, List.nil_append, List.replicate_succ, List.replicate_zero]
        rw [e2]
        rfl
      have c3 : fCall (g1 gAll) [(oVal (fComp [] 1 (itSeq (fVar 1)) (tgName 0) fTrue (bEmit (fUser ev_law_whole_k21 [(oVar 0)]))))] [some (.int n, false), some (.tup l, false)] = some ((.bl true, false), [some (.int n, false), some (.tup l, false)]) :=
        fCall_eq (fArgs1 (oVal_eq c1)) rfl ((all_map wh l).trans (by rw [h2]))
      have hB : lB n (.tup l) = decide ((l.map fun d => ab (iOf d)).Perm (st n)) := by rw [lB, h2, Bool.true_and]
      rw [hB]
      refine evF_rt (δ := [some (.int n, false), some (.tup l, false)]) ⟨rfl, by decide, rfl⟩ ?_
      refine (sSeq_nx (δ1 := [some (.int n, false), some (.tup l, false)]) ((sIf_f (fOrT_f (δ1 := [some (.int n, false), some (.tup l, false)]) rfl |>.trans (fNotT_eq (fT_eq c3)))).trans rfl)).trans ?_
      exact sSeq_rt (sRet_eq (fOp2_eq (oVal_eq (fCall_eq (fArgs1 (oVal_eq c2)) rfl e4)) (oVal_eq (fCall_eq (os := [.val (.int 1, false), .val (.int ((n : Int) + 1), false)]) rfl rfl (rg_stl2 n hn))) rfl rfl e5))
    · have h2' : l.all wh = false := by simpa using h2
      simp [ev_law_is_turning, fs_law_is_turning, evF, isT, fComp, fVar, e1, all_map, h2', outsOf, lents, wb, lB]
  | _ => simp [ev_law_is_turning, fs_law_is_turning, evF, isT, outsOf, lB]
end PV
set_option Elab.async false
set_option linter.all false
set_option maxRecDepth 100000
set_option maxHeartbeats 8000000
namespace PV
open PySem PySem.Spec PyProof.Rows L2 PX
def OkD (d : D) : Prop := ∀ l, d = .tup l → l.length ≤ 60
theorem ixl {L : List D} {v : Int} (h0 : 0 ≤ v) (h : v < L.length) : gIx (.lst L) (.int v) = some (L.getD v.toNat .non, false) := by
  have h1 : v.toNat < L.length := by omega
  simp [gIx, atI, ixN, h0, h, h1]
theorem ixt {L : List D} {v : Int} (h0 : 0 ≤ v) (h : v < L.length) : gIx (.tup L) (.int v) = some (L.getD v.toNat .non, false) := by
  have h1 : v.toNat < L.length := by omega
  simp [gIx, atI, ixN, h0, h, h1]
theorem ixi {t : List Int} {v : Int} (h0 : 0 ≤ v) (h : v < t.length) : gIx (.tup (t.map .int)) (.int v) = some (.int (t.getD v.toNat 0), false) := by
  have h1 : v.toNat < t.length := by omega
  simp [gIx, atI, ixN, h0, h, h1]
theorem ixil {t : List Int} {v : Int} (h0 : 0 ≤ v) (h : v < t.length) : gIx (.lst (t.map .int)) (.int v) = some (.int (t.getD v.toNat 0), false) := by
  have h1 : v.toNat < t.length := by omega
  simp [gIx, atI, ixN, h0, h, h1]
theorem all_getD {P : D → Prop} {L : List D} (hn : P .non) (h : ∀ d ∈ L, P d) (k : Nat) : P (L.getD k .non) := by
  rw [List.getD_eq_getElem?_getD]
  cases e : L[k]? with
  | none => exact hn
  | some d => exact h d (List.mem_of_getElem? e)
theorem okd_non : OkD .non := fun l h => by cases h
theorem addT {l m : List D} (h1 : l.length ≤ 1000) (h2 : m.length ≤ 1000) : gAdd (.tup l) (.tup m) = some (.tup (l ++ m), false) := by
  simp only [gAdd]; rw [if_pos (by rw [sizeLine_eq]; omega)]
theorem addL {l m : List D} (h1 : l.length ≤ 1000) (h2 : m.length ≤ 1000) : gAdd (.lst l) (.lst m) = some (.lst (l ++ m), true) := by
  simp only [gAdd]; rw [if_pos (by rw [sizeLine_eq]; omega)]
def oddL : List D := [.non, .bl true, .bl false, .int (-1), .int 0, .int 1, .str "", .str "1", .tup [], .lst [], .tup [.bl true], .lst [.int 1], .oth .dct [.int 0] [.int 1], .tup [.non], .tup [.tup [.int 1]], .int 100000000000000000000000000000, .tup [.int 0], .tup [.int 1, .int 2]]
theorem okd_small : ∀ d ∈ oddL, OkD d := by
  intro d hd
  simp only [oddL, List.mem_cons, List.not_mem_nil, or_false] at hd
  rcases hd with rfl | rfl | rfl | rfl | rfl | rfl | rfl | rfl | rfl | rfl | rfl | rfl | rfl | rfl | rfl | rfl | rfl | rfl <;> intro l h <;> cases h <;> decide
theorem take_at (a : Int) (b : Bool) (m : Int) (hm : 0 < m) (hm2 : m < 1073741824) : ∃ v a', 0 ≤ v ∧ v < m ∧ ∀ (fo : FO) (δ : Dn) (o : Opd), fo (stt a b :: δ) = some (o, stt a b :: δ) → argOf (stt a b :: δ) o = some (.int m, false) → fUser ev_law_take [oVar 0, fo] (stt a b :: δ) = some ((.int v, false), stt a' b :: δ) := by
  obtain ⟨v, a', h0, h1, e⟩ := take_spec a b m hm hm2
  refine ⟨v, a', h0, h1, fun fo δ o h2 h3 => ?_⟩
  refine (fUser_eq (os := [.slot 0, o]) (args := [(.lst [.int a, .bl b], true), (.int m, false)]) (fArgs2 rfl h2) ?_ ?_ e).trans ?_
  · simp [h3]
  · cases o <;> simp [lents]
  · cases o <;> simp [wb]
theorem odd_ev (a : Int) (b : Bool) : ∃ a' d, OkD d ∧ ev_law_odd [(.lst [.int a, .bl b], true)] = some ((d, false), [stt a' b]) := by
  obtain ⟨v, a', h0, h1, e⟩ := take_at a b 18 (by omega) (by omega)
  refine ⟨a', oddL.getD v.toNat .non, all_getD okd_non okd_small _, ?_⟩
  refine evF_rt (δ := [stt a' b, some (.lst (oddL.take 16), true)]) ⟨rfl, by decide, rfl⟩ ?_
  refine (sSeq_nx (δ1 := [stt a b, some (.lst (oddL.take 16), true)]) ?_).trans ?_
  · simp [pow29, sizeLine_eq, fDct1, oddL]
  · refine sSeq_rt (sRet_eq (fOp2_eq (o1 := .val (.lst oddL, true)) (o2 := .val (.int v, false)) (oVal_eq (δ1 := [stt a b, some (.lst (oddL.take 16), true)]) (fOp2_eq (o1 := .slot 1) (o2 := .val (.lst [.tup [.int 0], .tup [.int 1, .int 2]], true)) rfl (oVal_eq ?_) rfl rfl ?_)) (oVal_eq (e _ _ _ rfl rfl)) rfl rfl (ixl h0 (by simpa [oddL] using h1))))
    · simp [sizeLine_eq]
    · exact addL (by decide) (by decide)
theorem cut_len (l : List D) (lo hi : Option Int) : (cutD l lo hi).length ≤ l.length := by
  unfold PX.cutD; rw [List.length_take, List.length_drop]; omega
def bentL (t : List Int) (i : Int) (x : D) : List D :=
  [.tup (cutD (t.map .int) none (some i) ++ [x] ++ cutD (t.map .int) (some (i + 1)) none), .tup (cutD (t.map .int) none (some i) ++ [x] ++ cutD (t.map .int) (some i) none), .lst (t.map .int), .tup [.tup (t.map .int)],
   .tup (cutD (t.map .int) none (some i) ++ cutD (t.map .int) (some (i + 1)) none), .tup (t.map .int ++ [.int (t.length + 1)]), .tup (t.map D.int).reverse, .tup (t.map .int ++ cutD (t.map .int) none (some 1))]
theorem okd_bent (t : List Int) (ht : t.length ≤ 5) (i : Int) (x : D) : ∀ d ∈ bentL t i x, OkD d := by
  intro d hd
  have hc : ∀ lo hi, (cutD (t.map D.int) lo hi).length ≤ 5 := fun lo hi => Nat.le_trans (cut_len _ _ _) (by simpa using ht)
  have c1 := hc none (some i)
  have c2 := hc (some (i + 1)) none
  have c3 := hc (some i) none
  have c4 := hc none (some 1)
  simp only [bentL, List.mem_cons, List.not_mem_nil, or_false] at hd
  rcases hd with rfl | rfl | rfl | rfl | rfl | rfl | rfl | rfl <;> intro l h <;> cases h <;> simp <;> omega
def b0L : List D := [.tup [.int 0], .tup [.int 1], .lst [], .non, .tup [.tup []], .tup [.bl true]]
theorem okd_b0 : ∀ d ∈ b0L, OkD d := by
  intro d hd
  simp only [b0L, List.mem_cons, List.not_mem_nil, or_false] at hd
  rcases hd with rfl | rfl | rfl | rfl | rfl | rfl <;> intro l h <;> cases h <;> decide
theorem bent_ev (a : Int) (b : Bool) (t : List Int) (ht : t.length ≤ 5) : ∃ a' d, OkD d ∧ ev_law_bent_turning [(.lst [.int a, .bl b], true), enc t] = some ((d, false), [stt a' b, some (enc t)]) := by
  by_cases hn : t.length = 0
  · have : t = [] := List.length_eq_zero_iff.mp hn
    subst this
    obtain ⟨v, a', h0, h1, e⟩ := take_at a b 6 (by omega) (by omega)
    refine ⟨a', b0L.getD v.toNat .non, all_getD okd_non okd_b0 _, ?_⟩
    refine evF_rt (δ := [stt a' b, some (enc []), some (.int 0, false), none, none, none, none]) ⟨rfl, by decide, rfl⟩ ?_
    refine (sSeq_nx (δ1 := [stt a b, some (enc []), some (.int 0, false), none, none, none, none]) rfl).trans ?_
    refine sSeq_rt ((sIf_t (δ1 := [stt a b, some (enc []), some (.int 0, false), none, none, none, none]) (by simp)).trans ?_)
    refine sSeq_rt (sRet_eq (fOp2_eq (o1 := .val (.lst b0L, true)) (o2 := .val (.int v, false)) (oVal_eq (δ1 := [stt a b, some (enc []), some (.int 0, false), none, none, none, none]) ?_) (oVal_eq (e _ _ _ rfl rfl)) rfl rfl (ixl h0 (by simpa [b0L] using h1))))
    simp [sizeLine_eq, b0L]
  · have hp : (0 : Int) < t.length := by omega
    obtain ⟨i, a1, i0, i1, e1⟩ := take_at a b t.length hp (by omega)
    obtain ⟨j, a2, j0, j1, e2⟩ := take_at a1 b t.length hp (by omega)
    obtain ⟨w, a3, w0, w1, e3⟩ := take_at a2 b 11 (by omega) (by omega)
    obtain ⟨v, a4, v0, v1, e4⟩ := take_at a3 b 10 (by omega) (by omega)
    let nL : List D := [.int 0, .int (t.length + 1), .int (-t.length - 1), .bl true, .non, .str "1", .tup [.int 1], .int (t.getD j.toNat 0), .int (-(t.getD j.toNat 0)), .int (-(t.getD i.toNat 0)), .int 100000000000000000000000000000]
    let x := nL.getD w.toNat .non
    let pL : List Int := [0, 0, 0, 1, 2, 3, 4, 5, 6, 7]
    let q := pL.getD v.toNat 0
    have hq : 0 ≤ q ∧ q < 8 := by
      have : v.toNat = 0 ∨ v.toNat = 1 ∨ v.toNat = 2 ∨ v.toNat = 3 ∨ v.toNat = 4 ∨ v.toNat = 5 ∨ v.toNat = 6 ∨ v.toNat = 7 ∨ v.toNat = 8 ∨ v.toNat = 9 := by omega
      rcases this with h | h | h | h | h | h | h | h | h | h <;> simp [q, pL, h]
    have hc : ∀ lo hi, (cutD (t.map D.int) lo hi).length ≤ 1000 := fun lo hi => Nat.le_trans (cut_len _ _ _) (by simp; omega)
    have hc2 : ∀ lo hi, (cutD (t.map D.int) lo hi).length ≤ 999 := fun lo hi => Nat.le_trans (cut_len _ _ _) (by simp; omega)
    have ht2 : t.length ≤ 1000 := by omega
    refine ⟨a4, (bentL t i x).getD q.toNat .non, all_getD okd_non (okd_bent t ht i x) _, ?_⟩
    refine evF_rt (δ := [stt a4 b, some (enc t), some (.int t.length, false), some (.int i, false), some (.int j, false), some (x, false), some (.lst (bentL t i x), true)]) ⟨rfl, by decide, rfl⟩ ?_
    refine (sSeq_nx (δ1 := [stt a b, some (enc t), some (.int t.length, false), none, none, none, none]) (by simp)).trans ?_
    refine (sSeq_nx (δ1 := [stt a b, some (enc t), some (.int t.length, false), none, none, none, none]) ((sIf_f (by simp [hn])).trans rfl)).trans ?_
    refine (sSeq_nx (δ1 := [stt a2 b, some (enc t), some (.int t.length, false), some (.int i, false), some (.int j, false), none, none]) ?_).trans ?_
    · unfold sPar
      simp only [List.map_cons, List.map_nil]
      rw [fArgs2 (oVal_eq (e1 _ _ _ rfl rfl)) (oVal_eq (e2 _ _ _ rfl rfl))]
      rfl
    refine (sSeq_nx (δ1 := [stt a2 b, some (enc t), some (.int t.length, false), some (.int i, false), some (.int j, false), some (.lst nL, true), none]) ?_).trans ?_
    · simp [ixi i0 i1, ixi j0 j1, pow29, sizeLine_eq, nL]
    refine (sSeq_nx (δ1 := [stt a3 b, some (enc t), some (.int t.length, false), some (.int i, false), some (.int j, false), some (x, false), none]) ?_).trans ?_
    · exact sSet_eq (i := 5) (δ1 := [stt a3 b, some (enc t), some (.int t.length, false), some (.int i, false), some (.int j, false), some (.lst nL, true), none]) (fOp2_eq (o1 := .slot 5) (o2 := .val (.int w, false)) rfl (oVal_eq (e3 _ [some (enc t), some (.int t.length, false), some (.int i, false), some (.int j, false), some (.lst nL, true), none] _ rfl rfl)) rfl rfl (ixl (L := nL) w0 (by simpa [nL] using w1))) (show 5 < 7 by decide)
    refine (sSeq_nx (δ1 := [stt a3 b, some (enc t), some (.int t.length, false), some (.int i, false), some (.int j, false), some (x, false), some (.lst ((bentL t i x).take 4), true)]) ?_).trans ?_
    · generalize x = y
      simp [fSlHi, fSlLo, gSl, addT, hc, hc2, ht2, sizeLine_eq, bentL, fVar]
    refine (sSeq_nx (δ1 := [stt a3 b, some (enc t), some (.int t.length, false), some (.int i, false), some (.int j, false), some (x, false), some (.lst (bentL t i x), true)]) ?_).trans ?_
    · generalize x = y
      simp [fSlHi, fSlLo, gSl, addT, addL, hc, hc2, ht2, sizeLine_eq, bentL, fVar, fRev, gRev]
    refine sSeq_rt (sRet_eq (fOp2_eq (o1 := .slot 6) (o2 := .val (.int q, false)) rfl (oVal_eq (fOp2_eq (o1 := .val (.lst (pL.map .int), true)) (o2 := .val (.int v, false)) (oVal_eq (δ1 := [stt a3 b, some (enc t), some (.int t.length, false), some (.int i, false), some (.int j, false), some (x, false), some (.lst (bentL t i x), true)]) ?_) (oVal_eq (e4 _ _ _ rfl rfl)) rfl rfl ?_)) rfl rfl (ixl hq.1 (by simpa [bentL] using hq.2))))
    · simp [sizeLine_eq, pL]
    · exact ixil v0 (by simpa [pL] using v1)
end PV
set_option Elab.async false
set_option linter.all false
set_option maxRecDepth 100000
set_option maxHeartbeats 8000000
namespace PV
open PySem PySem.Spec PyProof.Rows L2 PX
def led (u : List Int) (s : Int) : Int := if 0 < s then u.getD (s - 1).toNat 0 else -(u.getD (-s - 1).toNat 0)
theorem led_ev (u : List Int) (s : Int) (h0 : s ≠ 0) (h1 : -(u.length : Int) ≤ s) (h2 : s ≤ u.length) :
    ev_led_sign [enc u, (.int s, false)] = some ((.int (led u s), false), [some (enc u), some (.int s, false)]) := by
  simp only [ev_led_sign, fs_led_sign]
  by_cases h : 0 < s
  · have := ixi (t := u) (v := s - 1) (by omega) (by omega)
    simp only [evF]
    simp [h, led, this, outsOf]
  · have := ixi (t := u) (v := -s - 1) (by omega) (by omega)
    simp only [evF]
    simp [h, led, this, outsOf]
theorem mul1 (x : Int) : gMul (.int x) (.int 1) = some (.int x, false) := by
  have : CMul x 1 := .inr (by omega)
  show ((if CMul x 1 then some (D.int (x * 1)) else none).map fun z => (z, false)) = _
  rw [if_pos this, Int.mul_one]; rfl
theorem mulm (x : Int) : gMul (.int x) (.int (-1)) = some (.int (-x), false) := by
  have : CMul x (-1) := .inr (by omega)
  show ((if CMul x (-1) then some (D.int (x * (-1))) else none).map fun z => (z, false)) = _
  rw [if_pos this, Int.mul_neg, Int.mul_one]; rfl
theorem pm0 : gIx (.lst [.int 1, .int (-1)]) (.int 0) = some (.int 1, false) := rfl
theorem pm1 : gIx (.lst [.int 1, .int (-1)]) (.int 1) = some (.int (-1), false) := rfl
theorem lled_ev (u : List Int) (s : Int) (h0 : s ≠ 0) (h1 : -(u.length : Int) ≤ s) (h2 : s ≤ u.length) :
    ev_law_led_sign_k21 [enc u, (.int s, false)] = some ((.int (led u s), false), [some (enc u), some (.int s, false)]) := by
  simp only [ev_law_led_sign_k21, fs_law_led_sign_k21]
  by_cases h : 0 < s
  · have := ixi (t := u) (v := s - 1) (by omega) (by omega)
    have e0 : ¬ s < 0 := by omega
    simp only [evF]
    simp [h, e0, led, this, outsOf, sizeLine_eq, pm0, mul1]
  · have := ixi (t := u) (v := -s - 1) (by omega) (by omega)
    have e0 : s < 0 := by omega
    simp only [evF]
    simp [h, e0, led, this, outsOf, sizeLine_eq, pm1, mulm]
theorem same_int (r : Int) (k : Nat) : ev_law_same_k21 (k + 1) [(.int r, false), (.int r, false)] = some ((.bl true, false), [some (.int r, false), some (.int r, false)]) := by
  simp only [ev_law_same_k21, fs_law_same_k21]
  simp [evF, isT, outsOf]
theorem take_at2 (a : Int) (b : Bool) (m : Int) (hm : 0 < m) (hm2 : m < 1073741824) : ∃ v a', 0 ≤ v ∧ v < m ∧ ∀ (fo : FO) (c0 c1 : Sl) (δ : Dn) (o : Opd), fo (c0 :: c1 :: stt a b :: δ) = some (o, c0 :: c1 :: stt a b :: δ) → argOf (c0 :: c1 :: stt a b :: δ) o = some (.int m, false) → fUser ev_law_take [oVar 2, fo] (c0 :: c1 :: stt a b :: δ) = some ((.int v, false), c0 :: c1 :: stt a' b :: δ) := by
  obtain ⟨v, a', h0, h1, e⟩ := take_spec a b m hm hm2
  refine ⟨v, a', h0, h1, fun fo c0 c1 δ o h2 h3 => ?_⟩
  refine (fUser_eq (os := [.slot 2, o]) (args := [(.lst [.int a, .bl b], true), (.int m, false)]) (fArgs2 rfl h2) ?_ ?_ e).trans ?_
  · simp [h3]
  · cases o <;> simp [lents]
  · cases o <;> simp [wb]
theorem turn_at2 (a : Int) (b : Bool) (n : Nat) (hn : n ≤ 5) : ∃ t a', t ∈ outsT n (st n) [] ∧ ∀ (fo : FO) (c0 c1 : Sl) (δ0 δ : Dn) (o : Opd), fo δ0 = some (o, c0 :: c1 :: stt a b :: δ) → oVar 2 δ0 = some (.slot 2, δ0) → argOf (c0 :: c1 :: stt a b :: δ) o = some (.int n, false) → fUser ev_law_turning [oVar 2, fo] δ0 = some (enc t, c0 :: c1 :: stt a' b :: δ) := by
  obtain ⟨a', t, ht, e⟩ := turning_ev a b n hn
  refine ⟨t, a', ht, fun fo c0 c1 δ0 δ o h2 h4 h3 => ?_⟩
  refine (fUser_eq (os := [.slot 2, o]) (args := [(.lst [.int a, .bl b], true), (.int n, false)]) (fArgs2 h4 h2) ?_ ?_ e).trans ?_
  · simp [h3]
  · cases o <;> simp [lents]
  · cases o <;> simp [wb]
theorem bl_bent (b : Bool) (t : List Int) (ht : t.length ≤ 5) : ∀ (ds acc : List D) (a : Int) (x : Sl), (∀ d ∈ acc, OkD d) → acc.length + ds.length ≤ 1000 →
    ∃ a' acc' x', (∀ d ∈ acc', OkD d) ∧ acc'.length = acc.length + ds.length ∧ bLoop (tgName 2) fTrue (bEmit (fUser ev_law_bent_turning [oVar 0, oVar 1])) ds acc [stt a b, some (enc t), x] = some (acc', [stt a' b, some (enc t), x'])
  | [], acc, a, x, h, _ => ⟨a, acc, x, h, by simp, rfl⟩
  | d :: ds, acc, a, x, h, hl => by
    obtain ⟨a1, z, hz, e1⟩ := bent_ev a b t ht
    obtain ⟨a', acc', x', h', hl', e⟩ := bl_bent b t ht ds (acc ++ [z]) a1 (some (d, false)) (fun y hy => by
      rcases List.mem_append.mp hy with hy | hy
      · exact h y hy
      · simp at hy; subst hy; exact hz) (by simp at hl ⊢; omega)
    refine ⟨a', acc', x', h', by simp at hl' ⊢; omega, ?_⟩
    have hs : acc.length < sizeLine := by rw [sizeLine_eq]; simp at hl; omega
    have e2 : fUser ev_law_bent_turning [oVar 0, oVar 1] [stt a b, some (enc t), some (d, false)] = some ((z, false), [stt a1 b, some (enc t), some (d, false)]) :=
      fUser_eq (δ1 := [stt a b, some (enc t), some (d, false)]) (os := [.slot 0, .slot 1]) (args := [(.lst [.int a, .bl b], true), enc t]) rfl rfl (show ([0] : List Nat).Nodup by decide) e1
    rw [bLoop, show tgName 2 d [stt a b, some (enc t), x] = some [stt a b, some (enc t), some (d, false)] from rfl]
    simp only [Option.bind_some, r_fTrue, if_true, r_bEmit]
    rw [e2]
    simp only [Option.bind_some]
    rw [if_pos hs]
    exact e
end PV
set_option Elab.async false
set_option linter.all false
set_option maxRecDepth 100000
set_option maxHeartbeats 8000000
namespace PV
open PySem PySem.Spec PyProof.Rows L2 PX
abbrev bodyD : FS := (sSeq (sSet 7 (fUser ev_is_turning [(oVar 3), (oVar 6)])) (sSeq (sIf (fOrT (fNotT (fT (fOp1 (gIsi [.bool]) (oVar 7)))) (fT (fOp2 gNe (oVar 7) (oVal (fUser ev_law_is_turning [(oVar 3), (oVar 6)]))))) (sSeq (sRet (fC (.bl false))) sNil) sNil) sNil))
abbrev bodyS : FS := (sSeq (sIf (fNotT (fT (fUser (ev_law_same_k21 RD) [(oVal (fUser ev_led_sign [(oVar 4), (oVar 8)])), (oVal (fUser ev_law_led_sign_k21 [(oVar 4), (oVar 8)]))]))) (sSeq (sRet (fC (.bl false))) sNil) sNil) sNil)
theorem bodyD_ev (n : Nat) (hn : n ≤ 5) (d : D) (hd : OkD d) (c0 c1 c2 c4 c5 c7 c8 : Sl) : ∃ c7', bodyD [c0, c1, c2, some (.int n, false), c4, c5, some (d, false), c7, c8] = some (.nx [c0, c1, c2, some (.int n, false), c4, c5, some (d, false), c7', c8]) := by
  refine ⟨some (.bl (tB n d), false), ?_⟩
  refine (sSeq_nx (δ1 := [c0, c1, c2, some (.int n, false), c4, c5, some (d, false), some (.bl (tB n d), false), c8]) ?_).trans ?_
  · exact sSet_eq (i := 7) (δ1 := [c0, c1, c2, some (.int n, false), c4, c5, some (d, false), c7, c8]) (fUser_eq (δ1 := [c0, c1, c2, some (.int n, false), c4, c5, some (d, false), c7, c8]) (os := [.slot 3, .slot 6]) (args := [(.int n, false), (d, false)]) rfl rfl List.nodup_nil (turning_looked n d hd)) (show 7 < 9 by decide)
  · refine (sSeq_nx ((sIf_f (δ1 := [c0, c1, c2, some (.int n, false), c4, c5, some (d, false), some (.bl (tB n d), false), c8]) ((fOrT_f (fNotT_eq (b := true) rfl)).trans (fT_eq (o := false) ?_))).trans rfl)).trans rfl
    refine fOp2_eq (o1 := .slot 7) (y := .bl (lB n d)) rfl (oVal_eq (fUser_eq (δ1 := [c0, c1, c2, some (.int n, false), c4, c5, some (d, false), some (.bl (tB n d), false), c8]) (os := [.slot 3, .slot 6]) (args := [(.int n, false), (d, false)]) rfl rfl List.nodup_nil (lturning_looked n hn d hd))) rfl rfl ?_
    rw [r_neB, tB_eq]; simp
theorem loopD (n : Nat) (hn : n ≤ 5) (c0 c1 c2 c4 c5 c8 : Sl) : ∀ (ds : List D) (c6 c7 : Sl), (∀ d ∈ ds, OkD d) → ∃ c6' c7', forL (tgName 6) bodyD ds [c0, c1, c2, some (.int n, false), c4, c5, c6, c7, c8] = some (.nx [c0, c1, c2, some (.int n, false), c4, c5, c6', c7', c8])
  | [], c6, c7, _ => ⟨c6, c7, rfl⟩
  | d :: ds, c6, c7, h => by
    obtain ⟨c7', e⟩ := bodyD_ev n hn d (h d List.mem_cons_self) c0 c1 c2 c4 c5 c7 c8
    obtain ⟨c6'', c7'', e'⟩ := loopD n hn c0 c1 c2 c4 c5 c8 ds (some (d, false)) c7' fun x hx => h x (List.mem_cons_of_mem _ hx)
    refine ⟨c6'', c7'', ?_⟩
    unfold forL
    rw [show tgName 6 d [c0, c1, c2, some (.int n, false), c4, c5, c6, c7, c8] = some [c0, c1, c2, some (.int n, false), c4, c5, some (d, false), c7, c8] from rfl]
    simp only [Option.bind_some]
    rw [e]
    simp only [Option.bind_some]
    exact e'
theorem bodyS_ev (t : List Int) (s : Int) (h0 : s ≠ 0) (h1 : -(t.length : Int) ≤ s) (h2 : s ≤ t.length) (c0 c1 c2 c3 c5 c6 c7 : Sl) : bodyS [c0, c1, c2, c3, some (enc t), c5, c6, c7, some (.int s, false)] = some (.nx [c0, c1, c2, c3, some (enc t), c5, c6, c7, some (.int s, false)]) := by
  refine (sSeq_nx ((sIf_f (δ1 := [c0, c1, c2, c3, some (enc t), c5, c6, c7, some (.int s, false)]) (fNotT_eq (b := true) (fT_eq (o := false) ?_))).trans rfl)).trans rfl
  exact fUser_eq (args := [(.int (led t s), false), (.int (led t s), false)]) (fArgs2 (oVal_eq (fUser_eq (δ1 := [c0, c1, c2, c3, some (enc t), c5, c6, c7, some (.int s, false)]) (os := [.slot 4, .slot 8]) (args := [enc t, (.int s, false)]) rfl rfl List.nodup_nil (led_ev t s h0 h1 h2))) (oVal_eq (fUser_eq (δ1 := [c0, c1, c2, c3, some (enc t), c5, c6, c7, some (.int s, false)]) (os := [.slot 4, .slot 8]) (args := [enc t, (.int s, false)]) rfl rfl List.nodup_nil (lled_ev t s h0 h1 h2)))) rfl List.nodup_nil (same_int (led t s) 5)
theorem loopS (t : List Int) (c0 c1 c2 c3 c5 c6 c7 : Sl) : ∀ (ss : List Int) (c8 : Sl), (∀ s ∈ ss, s ≠ 0 ∧ -(t.length : Int) ≤ s ∧ s ≤ t.length) → ∃ c8', forL (tgName 8) bodyS (ss.map .int) [c0, c1, c2, c3, some (enc t), c5, c6, c7, c8] = some (.nx [c0, c1, c2, c3, some (enc t), c5, c6, c7, c8'])
  | [], c8, _ => ⟨c8, rfl⟩
  | s :: ss, c8, h => by
    obtain ⟨h0, h1, h2⟩ := h s List.mem_cons_self
    obtain ⟨c8', e'⟩ := loopS t c0 c1 c2 c3 c5 c6 c7 ss (some (.int s, false)) fun x hx => h x (List.mem_cons_of_mem _ hx)
    refine ⟨c8', ?_⟩
    rw [List.map_cons]
    unfold forL
    rw [show tgName 8 (.int s) [c0, c1, c2, c3, some (enc t), c5, c6, c7, c8] = some [c0, c1, c2, c3, some (enc t), c5, c6, c7, some (.int s, false)] from rfl]
    simp only [Option.bind_some]
    rw [bodyS_ev t s h0 h1 h2]
    simp only [Option.bind_some]
    exact e'
abbrev fbK : FS := (sSeq (sSet 2 (fUser ev_law_state [(oVar 0), (oVar 1)])) (sSeq (sSet 3 (fUser ev_law_take [(oVar 2), (oVal (fC (.int 6)))])) (sSeq (sSet 4 (fUser ev_law_turning [(oVar 2), (oVar 3)])) (sSeq (sSet 5 (fLst [(fVar 4), (fUser ev_law_odd [(oVar 2)]), (fUser ev_law_turning [(oVar 2), (oVal (fUser ev_law_take [(oVar 2), (oVal (fC (.int 6)))]))])])) (sSeq (sFor (itSeq (fOp2 gAdd (oVar 5) (oVal (fComp [2, 4] 1 (itR1 (oVal (fC (.int 4)))) (tgName 2) fTrue (bEmit (fUser ev_law_bent_turning [(oVar 0), (oVar 1)])))))) (tgName 6) bodyD) (sSeq (sFor (itSeq (fOp2 gAdd (oVal (fCall (gRg .lst true) [(oVal (fC (.int 1))), (oVal (fOp2 gAdd (oVar 3) (oVal (fC (.int 1)))))])) (oVal (fCall (gRg .lst true) [(oVal (fOp1 gNeg (oVar 3))), (oVal (fC (.int 0)))])))) (tgName 8) bodyS) sNil))))))
def sts (n : Nat) : List Int := (List.range n).map fun (k : Nat) => (-(n : Int) + (k : Int))
theorem rg_neg (n : Nat) (hn : n ≤ 5) : gRg .lst true [.int (-(n : Int)), .int 0] = some (.lst ((sts n).map .int), true) := by
  have : n = 0 ∨ n = 1 ∨ n = 2 ∨ n = 3 ∨ n = 4 ∨ n = 5 := by omega
  have h1 : RgOk (-(n : Int)) 0 := by rcases this with rfl | rfl | rfl | rfl | rfl | rfl <;> decide +kernel
  have h2 : (0 - -(n : Int)).toNat = n := by omega
  show (if RgOk (-(n : Int)) 0 then some (D.lst (itRange (-(n : Int)) (0 - -(n : Int)).toNat), true) else none) = _
  rw [if_pos h1, h2]; simp [sts, itRange]
theorem itSeq_lst {f : F} {δ δ1 : Dn} {l : List D} {o : Bool} (h : f δ = some ((.lst l, o), δ1)) : itSeq f δ = some (l, δ1) := by unfold itSeq; rw [h]; rfl
theorem okd_tup {t : List Int} (h : t.length ≤ 5) : OkD (.tup (t.map .int)) := by
  intro l e; cases e; simp; omega
theorem fbK_ev (ns : List Int) (k : Nat) (c2 c3 c4 c5 c6 c7 c8 : Sl) : ∃ d2 d3 d4 d5 d6 d7 d8, fbK [some (.lst (ns.map .int), false), some (.int k, false), c2, c3, c4, c5, c6, c7, c8] = some (.nx [some (.lst (ns.map .int), false), some (.int k, false), d2, d3, d4, d5, d6, d7, d8]) := by
  let z0 : Sl := some (.lst (ns.map .int), false)
  let z1 : Sl := some (.int k, false)
  obtain ⟨a, b, e0⟩ := state_ev ns k
  obtain ⟨v, a1, v0, v1, e1⟩ := take_at2 a b 6 (by omega) (by omega)
  obtain ⟨n, rfl⟩ : ∃ n : Nat, v = n := ⟨v.toNat, by omega⟩
  have hn : n ≤ 5 := by omega
  obtain ⟨t, a2, ht, e2⟩ := turn_at2 a1 b n hn
  have htl := turn_len ht
  obtain ⟨a3, od, hod, e3⟩ := odd_ev a2 b
  obtain ⟨v', a4, w0, w1, e4⟩ := take_at2 a3 b 6 (by omega) (by omega)
  obtain ⟨m, rfl⟩ : ∃ m : Nat, v' = m := ⟨v'.toNat, by omega⟩
  have hm : m ≤ 5 := by omega
  obtain ⟨u, a5, hu, e5⟩ := turn_at2 a4 b m hm
  have hul := turn_len hu
  obtain ⟨a6, bs, x', hbs, hbl, e6⟩ := bl_bent b t (by omega) (itRange 0 4) [] a5 none (by simp) (by simp [itRange])
  let ds : List D := [.tup (t.map .int), od, .tup (u.map .int)] ++ bs
  have hds : ∀ d ∈ ds, OkD d := by
    intro d hd
    simp only [ds, List.mem_append, List.mem_cons, List.not_mem_nil, or_false] at hd
    rcases hd with (rfl | rfl | rfl) | hd
    · exact okd_tup (by omega)
    · exact hod
    · exact okd_tup (by omega)
    · exact hbs d hd
  let L5 : Sl := some (.lst [.tup (t.map .int), od, .tup (u.map .int)], true)
  obtain ⟨c6', c7', e7⟩ := loopD n hn z0 z1 (stt a6 b) (some (enc t)) L5 c8 ds c6 c7 hds
  obtain ⟨c8', e8⟩ := loopS t z0 z1 (stt a6 b) (some (.int n, false)) L5 c6' c7' (st n ++ sts n) c8 (by
    intro s hs
    rw [List.mem_append] at hs
    rcases hs with hs | hs
    · have := st_mem.mp hs; omega
    · simp only [sts, List.mem_map, List.mem_range] at hs
      obtain ⟨k, hk, rfl⟩ := hs; omega)
  refine ⟨stt a6 b, some (.int n, false), some (enc t), L5, c6', c7', c8', ?_⟩
  refine (sSeq_nx (δ1 := [z0, z1, stt a b, c3, c4, c5, c6, c7, c8]) ?_).trans ?_
  · exact sSet_eq (i := 2) (δ1 := [z0, z1, c2, c3, c4, c5, c6, c7, c8]) (fUser_eq (δ1 := [z0, z1, c2, c3, c4, c5, c6, c7, c8]) (os := [.slot 0, .slot 1]) (args := [(.lst (ns.map .int), false), (.int k, false)]) rfl rfl List.nodup_nil e0) (show 2 < 9 by decide)
  refine (sSeq_nx (δ1 := [z0, z1, stt a1 b, some (.int n, false), c4, c5, c6, c7, c8]) ?_).trans ?_
  · exact sSet_eq (i := 3) (δ1 := [z0, z1, stt a1 b, c3, c4, c5, c6, c7, c8]) (e1 _ z0 z1 [c3, c4, c5, c6, c7, c8] (.val (.int 6, false)) rfl rfl) (show 3 < 9 by decide)
  refine (sSeq_nx (δ1 := [z0, z1, stt a2 b, some (.int n, false), some (enc t), c5, c6, c7, c8]) ?_).trans ?_
  · exact sSet_eq (i := 4) (δ1 := [z0, z1, stt a2 b, some (.int n, false), c4, c5, c6, c7, c8]) (e2 _ z0 z1 [z0, z1, stt a1 b, some (.int n, false), c4, c5, c6, c7, c8] [some (.int n, false), c4, c5, c6, c7, c8] (.slot 3) rfl rfl rfl) (show 4 < 9 by decide)
  refine (sSeq_nx (δ1 := [z0, z1, stt a5 b, some (.int n, false), some (enc t), L5, c6, c7, c8]) ?_).trans ?_
  · refine sSet_eq (i := 5) (δ1 := [z0, z1, stt a5 b, some (.int n, false), some (enc t), c5, c6, c7, c8]) (fLst_eq (os := [.val (enc t), .val (od, false), .val (enc u)]) ?_ rfl (by rw [sizeLine_eq]; simp)) (show 5 < 9 by decide)
    simp only [List.map_cons, List.map_nil]
    refine fArgs_cons (δ1 := [z0, z1, stt a2 b, some (.int n, false), some (enc t), c5, c6, c7, c8]) rfl ?_
    refine fArgs_cons (δ1 := [z0, z1, stt a3 b, some (.int n, false), some (enc t), c5, c6, c7, c8]) (oVal_eq (fUser_eq (δ1 := [z0, z1, stt a2 b, some (.int n, false), some (enc t), c5, c6, c7, c8]) (os := [.slot 2]) (args := [(.lst [.int a2, .bl b], true)]) rfl rfl (show ([2] : List Nat).Nodup by decide) e3)) ?_
    refine fArgs1 (oVal_eq (e5 _ z0 z1 [z0, z1, stt a3 b, some (.int n, false), some (enc t), c5, c6, c7, c8] [some (.int n, false), some (enc t), c5, c6, c7, c8] (.val (.int m, false)) (oVal_eq (e4 _ z0 z1 [some (.int n, false), some (enc t), c5, c6, c7, c8] (.val (.int 6, false)) rfl rfl)) rfl rfl))
  have hcomp : fComp [2, 4] 1 (itR1 (oVal (fC (.int 4)))) (tgName 2) fTrue (bEmit (fUser ev_law_bent_turning [(oVar 0), (oVar 1)])) [z0, z1, stt a5 b, some (.int n, false), some (enc t), L5, c6, c7, c8] = some ((.lst bs, true), [z0, z1, stt a6 b, some (.int n, false), some (enc t), L5, c6, c7, c8]) := by
    have i1 : itR1 (oVal (fC (.int 4))) [z0, z1, stt a5 b, some (.int n, false), some (enc t), L5, c6, c7, c8] = some (itRange 0 4, [z0, z1, stt a5 b, some (.int n, false), some (enc t), L5, c6, c7, c8]) := itR1_eq (n := 4) (o := .val (.int 4, false)) rfl rfl (by omega)
    unfold fComp
    rw [i1]
    simp only [Option.bind_some, List.map_cons, List.map_nil]
    rw [show argsOf [z0, z1, stt a5 b, some (.int n, false), some (enc t), L5, c6, c7, c8] [.slot 2, .slot 4] = some [(.lst [.int a5, .bl b], true), enc t] from rfl]
    simp only [Option.bind_some]
    rw [if_pos (show (lents [Opd.slot 2, Opd.slot 4] [(D.lst [.int a5, .bl b], true), enc t]).Nodup from (show ([2] : List Nat).Nodup by decide))]
    rw [show (List.map some [(D.lst [.int a5, .bl b], true), enc t] ++ List.replicate 1 none : Dn) = [stt a5 b, some (enc t), none] from rfl, e6]
    rfl
  refine (sSeq_nx (δ1 := [z0, z1, stt a6 b, some (.int n, false), some (enc t), L5, c6', c7', c8]) ?_).trans ?_
  · refine (sFor_eq (itSeq_lst (o := true) (fOp2_eq (o1 := .slot 5) (x := .lst [.tup (t.map .int), od, .tup (u.map .int)]) rfl (oVal_eq hcomp) rfl rfl ?_))).trans e7
    exact addL (by simp) (by simp [itRange] at hbl; omega)
  refine (sSeq_nx (δ1 := [z0, z1, stt a6 b, some (.int n, false), some (enc t), L5, c6', c7', c8']) ?_).trans rfl
  refine (sFor_eq (itSeq_lst (o := true) (fOp2_eq (δ1 := [z0, z1, stt a6 b, some (.int n, false), some (enc t), L5, c6', c7', c8]) (δ2 := [z0, z1, stt a6 b, some (.int n, false), some (enc t), L5, c6', c7', c8]) (oVal_eq (fCall_eq (os := [.val (.int 1, false), .val (.int ((n : Int) + 1), false)]) rfl rfl (rg_stl n hn))) (oVal_eq (fCall_eq (os := [.val (.int (-(n : Int)), false), .val (.int 0, false)]) rfl rfl (rg_neg n hn))) rfl rfl (addL (by simp [st]; omega) (by simp [sts]; omega))))).trans ?_
  rw [← List.map_append]
  exact e8
theorem loopK (ns : List Int) : ∀ (m j : Nat) (c1 c2 c3 c4 c5 c6 c7 c8 : Sl), ∃ d1 d2 d3 d4 d5 d6 d7 d8, forL (tgName 1) fbK ((List.range' j m).map fun (k : Nat) => D.int (0 + (k : Int))) [some (.lst (ns.map .int), false), c1, c2, c3, c4, c5, c6, c7, c8] = some (.nx [some (.lst (ns.map .int), false), d1, d2, d3, d4, d5, d6, d7, d8])
  | 0, j, c1, c2, c3, c4, c5, c6, c7, c8 => ⟨c1, c2, c3, c4, c5, c6, c7, c8, rfl⟩
  | m + 1, j, c1, c2, c3, c4, c5, c6, c7, c8 => by
    obtain ⟨d2, d3, d4, d5, d6, d7, d8, e⟩ := fbK_ev ns j c2 c3 c4 c5 c6 c7 c8
    obtain ⟨f1, f2, f3, f4, f5, f6, f7, f8, e'⟩ := loopK ns m (j + 1) (some (.int j, false)) d2 d3 d4 d5 d6 d7 d8
    refine ⟨f1, f2, f3, f4, f5, f6, f7, f8, ?_⟩
    rw [List.range'_succ, List.map_cons]
    unfold forL
    rw [show tgName 1 (.int (0 + (j : Int))) [some (.lst (ns.map .int), false), c1, c2, c3, c4, c5, c6, c7, c8] = some [some (.lst (ns.map .int), false), some (.int j, false), c2, c3, c4, c5, c6, c7, c8] from by rw [Int.zero_add]; rfl]
    simp only [Option.bind_some]
    rw [e]
    simp only [Option.bind_some]
    exact e'
theorem chk (n : Nat) (d : D) (hd : OkD d) (fs : F) (b : Bool) (δ : Dn) (h1 : fs δ = some ((d, false), δ)) (h2 : tB n d = b) : fT (fOp2 gIsNot (oVal (fUser ev_is_turning [(oVal (fC (.int n))), (oVal fs)])) (oVal (fC (.bl b)))) δ = some (false, δ) := by
  refine fT_eq (o := false) (fOp2_eq (δ1 := δ) (oVal_eq (r := (.bl (tB n d), false)) (fUser_eq (δ1 := δ) (os := [.val (.int n, false), .val (d, false)]) (args := [(.int n, false), (d, false)]) (fArgs2 rfl (oVal_eq h1)) rfl List.nodup_nil (turning_looked n d hd))) rfl rfl rfl ?_)
  rw [h2]
  cases b <;> rfl
theorem okd_t (l : List D) (h : l.length ≤ 60) : OkD (.tup l) := fun m e => by cases e; exact h
theorem main_k21 (ns : List Int) (hl : ns.length ≤ 63) : ∃ o outs, ev_law_k21 [(.lst (ns.map .int), false)] = some ((.bl true, o), outs) := by
  let z0 : Sl := some (.lst (ns.map .int), false)
  let N : Nat := if 1 < min ns.length 10 then min ns.length 10 else 1
  obtain ⟨d1, d2, d3, d4, d5, d6, d7, d8, e⟩ := loopK ns N 0 none none none none none none none none
  refine ⟨false, _, evF_rt (δ := [z0, d1, d2, d3, d4, d5, d6, d7, d8]) ⟨rfl, by decide, rfl⟩ ?_⟩
  refine (sSeq_nx (δ1 := [z0, none, none, none, none, none, none, none, none]) ((sIf_f (δ1 := [z0, none, none, none, none, none, none, none, none]) ?_).trans rfl)).trans ?_
  · refine (fOrT_f (chk 0 (.tup []) (okd_t _ (by decide)) _ true _ (by simp [sizeLine_eq, z0]) ?_)).trans ((fOrT_f (chk 1 (.tup [.bl true]) (okd_t _ (by decide)) _ false _ (by simp [sizeLine_eq, z0]) ?_)).trans (chk 2 (.tup [.int 2, .int (-1)]) (okd_t _ (by decide)) _ true _ (by simp [sizeLine_eq, z0]) ?_))
    · decide
    · decide
    · decide
  refine (sSeq_nx (δ1 := [z0, d1, d2, d3, d4, d5, d6, d7, d8]) ((sFor_eq (ds := (List.range' 0 N).map fun (k : Nat) => D.int (0 + (k : Int))) (δ1 := [z0, none, none, none, none, none, none, none, none]) ?_).trans e)).trans (sSeq_rt (sRet_eq rfl))
  have : itRange 0 N = (List.range' 0 N).map fun (k : Nat) => D.int (0 + (k : Int)) := by
    unfold itRange; rw [List.range_eq_range']
  rw [← this]
  refine itR1_eq (o := .val (.int N, false)) (oVal_eq ?_) rfl (by simp only [N]; split <;> omega)
  have hN : (N : Int) = if (if (10 : Int) < ns.length then 10 else (ns.length : Int)) > 1 then (if (10 : Int) < ns.length then 10 else (ns.length : Int)) else 1 := by
    simp only [N]; split <;> split <;> split <;> omega
  rw [hN]
  simp [z0]
end PV
set_option Elab.async false
set_option linter.all false
set_option maxRecDepth 100000
set_option maxHeartbeats 8000000
theorem K21.main (ns : List Int) (hl : ns.length ≤ 63) : ∃ o outs, PV.ev_law_k21 [(.lst (ns.map .int), false)] = some ((.bl true, o), outs) := PV.main_k21 ns hl
open PySem PySem.W PyProof.Rows
set_option maxRecDepth 100000 in
set_option maxHeartbeats 0 in
theorem PySem.Challenge.cw_twinriddles_k21_turnings_looked_at_holds : PySem.Challenge.rw_twinriddles_k21_turnings_looked_at.Holds := by
  w_on; o_law; k_head; (case hw => w_witness2)
  k_fill
  refine K21.walk (l := PySem.Challenge.rw_twinriddles_k21_turnings_looked_at) rfl rfl (fun w h Y => PySem.W.kIn_of Y) ?F K21.main
  case F =>
   intro w mg fa h KX G hmg
   refine' K21.all_mk KX G hmg ?a0 ?l0 ?c0 ?k0 ?a1 ?l1 ?c1 ?k1 ?a2 ?l2 ?c2 ?k2 ?a3 ?l3 ?c3 ?k3 ?a4 ?l4 ?c4 ?k4 ?a5 ?l5 ?c5 ?k5 ?a6 ?l6 ?c6 ?k6 ?a7 ?l7 ?c7 ?k7 ?a8 ?l8 ?c8 ?k8 ?a9 ?l9 ?c9 ?k9 ?a10 ?l10 ?c10 ?k10 ?a11 ?l11 ?c11 ?k11 ?a12 ?l12 ?c12 ?k12 ?a13 ?l13 ?c13 ?k13 ?a14 ?l14 ?c14 ?k14 ?a15 ?l15 ?c15 ?k15 ?a16 ?l16 ?c16 ?k16 ?z_len ?z_abs ?z_int ?z_tuple ?z_list ?z_range ?z_isinstance ?z_bool ?z_max ?z_min ?z_all ?z_any ?z_sorted ?z_enumerate ?z_zip ?z_set 
   (case a0 => k_is); (case l0 => k_is); (case c0 => k_is); (case k0 => k_is)
   (case a1 => k_is); (case l1 => k_is); (case c1 => k_is); (case k1 => k_is)
   (case a2 => k_is); (case l2 => k_is); (case c2 => k_is); (case k2 => k_is)
   (case a3 => k_is); (case l3 => k_is); (case c3 => k_is); (case k3 => k_is)
   (case a4 => k_is); (case l4 => k_is); (case c4 => k_is); (case k4 => k_is)
   (case a5 => k_is); (case l5 => k_is); (case c5 => k_is); (case k5 => k_is)
   (case a6 => k_is); (case l6 => k_is); (case c6 => k_is); (case k6 => k_is)
   (case a7 => k_is); (case l7 => k_is); (case c7 => k_is); (case k7 => k_is)
   (case a8 => k_is); (case l8 => k_is); (case c8 => k_is); (case k8 => k_is)
   (case a9 => k_is); (case l9 => k_is); (case c9 => k_is); (case k9 => k_is)
   (case a10 => k_is); (case l10 => k_is); (case c10 => k_is); (case k10 => k_is)
   (case a11 => k_is); (case l11 => k_is); (case c11 => k_is); (case k11 => k_is)
   (case a12 => k_is); (case l12 => k_is); (case c12 => k_is); (case k12 => k_is)
   (case a13 => k_is); (case l13 => k_is); (case c13 => k_is); (case k13 => k_is)
   (case a14 => k_is); (case l14 => k_is); (case c14 => k_is); (case k14 => k_is)
   (case a15 => k_is); (case l15 => k_is); (case c15 => k_is); (case k15 => k_is)
   (case a16 => k_is); (case l16 => k_is); (case c16 => k_is); (case k16 => k_is)
   (case z_len => k_is); (case z_abs => k_is); (case z_int => k_is); (case z_tuple => k_is); (case z_list => k_is); (case z_range => k_is); (case z_isinstance => k_is); (case z_bool => k_is); (case z_max => k_is); (case z_min => k_is); (case z_all => k_is); (case z_any => k_is); (case z_sorted => k_is); (case z_enumerate => k_is); (case z_zip => k_is); (case z_set => k_is)
