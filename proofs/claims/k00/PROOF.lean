import PyProof.Rows.All
import Wide.All
import OpenK.AllK
import Wide.FinOn
import HandS.ForMost
import KE.KExcInit
import KE.KTryMore
import HandS.Exc
import HandS.ExcOwn
import HandS.ExcInit
import HandS.ExcIs
import HandS.ExcValue
import HandS.TryMany
import HandS.IsInst
import PyProof.ReprRoads
import PyProof.ReprLen
import PyProof.CallFns
import HandS.Wide
import HandS.WordsExc
import PySem.Challenge.RW_dealtrows_k00_errors_and_what_they_keep
set_option Elab.async false
set_option linter.all false
set_option maxRecDepth 100000
/-! Dice of the scripts: what a draw leaves. -/
namespace Dt
open PySem PySem.Spec PyProof.Rows L2
def Die (H : Hp) (a : Addr) : Prop := ∃ x y z : Int, H a = some (.lst [.int x, .int y, .int z])
structure Rolled (a : Addr) (H H' : Hp) : Prop where
  die : Die H' a
  keep : ∀ b o, b ≠ a → H b = some o → H' b = some o
section
variable {K : PySem.W.Frag} {H H1 H2 : Hp} {a p : Addr} {o : HO} {xs : List V}
theorem Rolled.refl (h : Die H a) : Rolled a H H := ⟨h, fun _ _ _ e => e⟩
theorem Rolled.trans (r : Rolled a H H1) (q : Rolled a H1 H2) : Rolled a H H2 := ⟨q.die, fun b o hb e => q.keep b o hb (r.keep b o hb e)⟩
theorem Die.ne (h : Die H a) (hp : H p = none) : p ≠ a := fun z => by
  obtain ⟨x, y, w, e⟩ := h
  rw [z, e] at hp
  cases hp
theorem Die.new (h : Die H a) (hp : H p = none) : Die (upd H p o) a := by
  have n := h.ne hp
  obtain ⟨x, y, w, e⟩ := h
  exact ⟨x, y, w, by rw [upd_ne (Ne.symm n)]; exact e⟩
theorem Die.off (h : Die H a) (hp : p ≠ a) : Die (upd H p o) a := by
  obtain ⟨x, y, w, e⟩ := h
  exact ⟨x, y, w, by rw [upd_ne (Ne.symm hp)]; exact e⟩
/-- a new object is laid -/
theorem Rolled.new (r : Rolled a H H1) (hp : H1 p = none) : Rolled a H (upd H1 p o) := ⟨r.die.new hp, fun b u hb e => by
  have q := r.keep b u hb e
  rw [upd_ne (ne_of_none q hp)]
  exact q⟩
/-- an object that was not there at first is changed -/
theorem Rolled.mut (r : Rolled a H H1) (hp : H p = none) (hn : p ≠ a) : Rolled a H (upd H1 p o) := ⟨r.die.off hn, fun b u hb e => by
  rw [upd_ne (ne_of_none e hp)]
  exact r.keep b u hb e⟩
theorem Rolled.free (r : Rolled a H H1) (hp : H1 p = none) : H p = none := by
  cases q : H p with
  | none => rfl
  | some u =>
    have n := r.die.ne hp
    rw [r.keep p u n q] at hp
    cases hp
theorem Rolled.rd {u : HO} (r : Rolled a H H1) (n : p ≠ a) (h : Rd H p u) : Rd H1 p u := by
  rcases h with h | ⟨o, h⟩
  · exact .inl (r.keep _ _ n h)
  · exact .inr ⟨o, r.keep _ _ n h⟩
theorem Rolled.sqL (r : Rolled a H H1) (n : p ≠ a) (h : SqL K H p xs) : SqL K H1 p xs := by
  rcases h with h | h
  · exact .inl (r.rd n h)
  · exact .inr h
theorem Rolled.sqT (r : Rolled a H H1) (n : p ≠ a) (h : SqT K H p xs) : SqT K H1 p xs := by
  rcases h with h | h
  · exact .inl (r.rd n h)
  · exact .inr h
end
theorem atI_ok {α : Type} {xs : List α} {r : Int} (h0 : 0 ≤ r) (h : r < xs.length) : ∃ v, atI xs r = some v ∧ v ∈ xs := by
  obtain ⟨j, rfl⟩ := Int.eq_ofNat_of_zero_le h0
  have hj : j < xs.length := by omega
  exact ⟨xs[j], atI_nat (by simp [hj]), List.getElem_mem hj⟩
theorem sameNew {H : Hp} {p : Addr} {o : HO} (n : H p = none) : Same H (upd H p o) := fun b u e => by
  rw [upd_ne (ne_of_none e n)]
  exact e
/-- a new object, its heap by a name -/
theorem newL {H : Hp} {o : HO} {Q : VK} (h : ∀ p H1, H p = none → H1 p = some o → Same H H1 → Q (.ref p) H1) : ∀ p, H p = none → Q (.ref p) (upd H p o) := fun p n => h p _ n upd_same (sameNew n)
theorem sameT {K : PySem.W.Frag} {H H1 : Hp} {a : Addr} {xs : List V} (S : Same H H1) (h : SqT K H a xs) : SqT K H1 a xs := by
  rcases h with (h | ⟨o, h⟩) | h
  · exact .inl (.inl (S _ _ h))
  · exact .inl (.inr ⟨o, S _ _ h⟩)
  · exact .inr h
/-- both ways of a test -/
theorem iteB {c : Bool} {A B : Prop} (h1 : c = true → A) (h2 : c = false → B) : if c = true then A else B := by
  cases c with
  | true => exact iteT (h1 rfl)
  | false => exact iteF (h2 rfl)
theorem iteD {p : Prop} [Decidable p] {A B : Prop} (h1 : p → A) (h2 : ¬ p → B) : if decide p = true then A else B := iteB (fun c => h1 (of_decide_eq_true c)) fun c => h2 (of_decide_eq_false c)
/-- powers of any base -/
def CPowG (i j : Int) : Prop := 0 ≤ j ∧ (Builtin.Int.intBits i : Int) * j ≤ 2 ^ 27
theorem op_powG {X : Cx} : OpR X (binaryOp .Pow) (rI CPowG fun i j => .int (i ^ j.toNat)) := opI fun _ _ _ _ _ _ _ hc q => pow_int hc.1 hc.2 q
/-! what a roll, a pick promise -/
def spRoll : Sp := fun vs H Q _ => ∃ (a : Addr) (n : Int), vs = [.ref a, .int n] ∧ Die H a ∧ 0 < n ∧ n < 1073741824 ∧ ∀ (r : Int) H', 0 ≤ r → r < n → Rolled a H H' → Q (.int r) H'
/-- what can be picked from: a text, a list, a tuple, with its items -/
def Pool (K : PySem.W.Frag) (H : Hp) (a : Addr) : V → List V → Prop
  | .str z, xs => xs = z.cps.toList.map fun c => V.str ⟨#[c]⟩
  | .ref p, xs => p ≠ a ∧ (SqL K H p xs ∨ SqT K H p xs)
  | _, _ => False
def spPick (K : PySem.W.Frag) : Sp := fun vs H Q _ => ∃ (a : Addr) (y : V) (xs : List V), vs = [.ref a, y] ∧ Die H a ∧ Pool K H a y xs ∧ 0 < xs.length ∧ xs.length < 1000000 ∧
  ∀ v H', v ∈ xs → Rolled a H H' → Q v H'
def spDice (K : PySem.W.Frag) : Sp := fun vs H Q _ => ∃ (s : Addr) (ns : List Int) (i : Nat), vs = [.ref s, .int i] ∧ SqL K H s (ns.map V.int) ∧ ns.length ≤ 63 ∧ i ≤ 1000 ∧ ∀ p H', H p = none → Die H' p → (∀ b o, H b = some o → H' b = some o) → Q (.ref p) H'
end Dt

set_option Elab.async false
set_option linter.all false
set_option maxRecDepth 100000
set_option maxHeartbeats 4000000
/-! Exception classes of the program's own, over any built-in base: made, kept as values, asked, raised. -/
namespace Exs
open PySem PySem.Spec PyProof.Rows L2
open Builtin Builtin.ObjectAttr

/-- own classes first, then the built-in ones -/
def endsIn (t : List Value) : List Value → Bool
  | .ref _ :: r => endsIn t r
  | l => l == t
theorem endsIn_two (t : List Value) (l : List Value) (e : endsIn t l = true) : l = t ∨ ∃ c r, l = .ref c :: r ∧ endsIn t r = true := by
  cases l with
  | nil => exact .inl (beq_iff_eq.mp e)
  | cons a r =>
    cases a with
    | ref c => exact .inr ⟨c, r, rfl, e⟩
    | _ => exact .inl (beq_iff_eq.mp e)
theorem endsIn_has {t : List Value} (Y : String) : ∀ l : List Value, endsIn t l = true → l.contains (.type Y) = t.contains (.type Y) := by
  intro l
  induction l with
  | nil =>
    intro e
    rw [← beq_iff_eq.mp (show ([] == t) = true from e)]
  | cons a r ih =>
    intro e
    rcases endsIn_two t _ e with z | ⟨c, r', z, h⟩
    · rw [z]
    · cases z
      rw [List.contains_cons, ih h]
      rfl
/-- a built-in tail lets a store pass -/
def Lets (t : List Value) : Prop := ∀ self : Value, refuseLoop self "__setattr__" t = pure ()
theorem endsIn_lets {t : List Value} (p : Lets t) (self : Value) : ∀ l : List Value, endsIn t l = true → refuseLoop self "__setattr__" l = pure () := by
  intro l
  induction l with
  | nil =>
    intro e
    rw [beq_iff_eq.mp (show ([] == t) = true from e)]
    exact p self
  | cons a r ih =>
    intro e
    rcases endsIn_two t _ e with z | ⟨c, r', z, h⟩
    · rw [z]
      exact p self
    · cases z
      rw [refuseLoop_ref]
      exact ih h
section
variable {prog : Program} {w : World} {A : Around} {R : Result → Shared → Prop} {s : Shared} {K : W.Frag} {C x : Addr} {cd : ClassData} {t : List Value} {f : Str} {k : Tok} {v : Value} {fv : Array Value}
/-- the first store into an exception: its dict is made -/
theorem first_store (X : K.In s.heap) (ho : s.heap.get? x = some { cls := .ref C, data := .fields fv }) (hc : W.clsIn K C = some cd) (hm : endsIn t cd.mro = true) (hp : Lets t) (hb : t.contains (.type "object") = true) (ht : t ≠ [])
    (hd : cd.hasDict = true) (hn : W.findIn K (.ref C) f = some none)
    (q : ∀ s' dx, (∀ b o, b ≠ x → s.heap.get? b = some o → s'.heap.get? b = some o) → s.heap.objs.size ≤ dx → dx ≠ x → s'.heap.get? x = some { cls := .ref C, dict := some dx, data := .fields fv } →
      s'.heap.Ns1 dx (fun y => if y = f then some v else none) → s' = { s with heap := s'.heap, toks := s'.toks } → R (.ok (.ret .none)) s') :
    codeAny (model prog w) A (.call (.builtin "object.__setattr__") ⟨[.ref x, .str f k, v], []⟩) R s := by
  obtain ⟨hp0, ge, dr, tk, os⟩ := s
  have me : cd.mro.isEmpty = false := by
    cases e : cd.mro with
    | nil =>
      rw [e] at hm
      exact absurd (beq_iff_eq.mp (show (([] : List Value) == t) = true from hm)).symm ht
    | cons _ _ => rfl
  have mo : cd.mro.contains (.type "object") = true := by rw [endsIn_has _ _ hm]; exact hb
  have J : W.InstAt hp0 x { cls := .ref C, data := .fields fv } C none := ⟨ho, rfl, rfl, trivial⟩
  have nx : hp0.objs.size ≠ x := Nat.ne_of_gt (Heap.lt_size ho)
  have isO : W.Looks (model prog w) hp0 (isInstance (.ref x) (.type "object")) true := by
    refine J.type.andThen (W.looks_mroIn X ?_)
    unfold W.mroIn
    rw [hc, Option.bind_some, if_neg (by rw [me]; decide), mo]
  have mr : W.Looks (model prog w) hp0 (mroOf (.ref C)) cd.mro := (W.looks_clsIn X hc).andThen .now
  have ta : W.Looks (model prog w) hp0 (storeTaker? none) none := .now
  have cl : W.Looks (model prog w) hp0 (classData C) cd := W.looks_clsIn X hc
  refine codeAny_call_builtin PySem.F.store_object.slot.plain PySem.F.store_object.entry ?_
  refine @W.check_slot (model prog w) _ _ ⟨hp0, ge, dr, tk, os⟩ "object.__setattr__" "object" "__setattr__" (.ref x) [.str f k, v] [] _
    PySem.F.store_object.kind PySem.F.store_object.split isO (PySem.F.store_object.args (.ref x) (.str f k) v) ?_
  rw [W.osa_eq, refuse_eq]
  refine wpAny_bind (wpAny_bind (J.type.at ?_))
  refine wpAny_bind (mr.at ?_)
  rw [endsIn_lets hp _ _ hm]
  refine wpAny_pure (wpAny_bind (J.type.at ?_))
  refine wpAny_bind ((W.looks_findIn X hn).at ?_)
  refine wpAny_bind (ta.at ?_)
  show wpAny _ _ (storeInOwnDict (.ref x) (.ref C) (.str f k) f v false) _ _ _
  obtain ⟨c1, c2, c3, c4, c5, c6, c7, c8, c9, c10, c11⟩ := cd
  dsimp only at hd
  subst hd
  unfold storeInOwnDict ownDictForStores
  repeat (first
    | with_reducible refine HandSPX.store_in_new ?_ ?_
    | with_reducible refine wpAny_loadPart_at ho ?_
    | with_reducible refine cl.at ?_
    | wp_step)
  · refine ⟨_, #[], _, (Heap.get?_update_ne _ _ _ _ nx).trans (Heap.get?_push_at rfl rfl), rfl, fun e he => ?_, fun _ => rfl⟩
    exact absurd he (by simp)
  · intro h' tk' hn' hs
    have ho1 : (hp0.push { cls := .type "dict", data := .dict #[] }).get? x = some { cls := .ref C, data := .fields fv } := Heap.get?_push_of_some _ ho
    refine q ⟨h', ge, dr, tk', os⟩ hp0.objs.size (fun b o hbx hbo => ?_) (Nat.le_refl _) nx ?_ hn' rfl
    · refine (hs.2 b (Nat.ne_of_lt (Heap.lt_size hbo))).trans ?_
      exact (Heap.get?_update_ne _ _ _ _ hbx).trans (Heap.get?_push_of_some _ hbo)
    · exact (hs.2 x (Ne.symm nx)).trans (Heap.get?_update_self _ ho1 rfl)
end

/-! ### the call of an exception class with an __init__ of its own: what its chain must hold -/
section
variable {h : Heap} {g : Array GenState} {d : Drawn} {t : Nat} {os : OsState} {nm q : Str} {C N : Addr} {bs bm bmB : List Value} {hdct : Bool} {sn : List Str} {sub : List Value} {ab : Bool} {col : Option Bool} {dd : Option Addr} {k0 k1 k2 k3 k5 : Option Value}
  {B newId initId : String} {rest : List Value}
theorem chk_new {M : Model} {A : Around} {E : Value → Shared → Prop} {Q : Unit → Shared → Prop} (F : ExcBaseFacts B newId initId bmB) (hB : bm.contains (.type B) = true)
    (hC : h.get? C = some (excClassObj nm q C N bs bm hdct sn sub ab col dd k0 k1 k2 k3 k5 newId)) (z : Q () ⟨h, g, d, t, os⟩) : wpAny M A (checkBuiltinCall newId ⟨.ref C :: rest, []⟩) Q E ⟨h, g, d, t, os⟩ := by
  have has : (Value.ref C :: bm).contains (.type B) = true := by rw [List.contains_cons, hB, Bool.or_true]
  have ns := F.noStar
  simp only [checkBuiltinCall, F.newKind, F.newSplit, F.newRow]
  repeat (first
    | refine wpAny_loadPart_at hC ?_
    | (refine wpAny_isSubtype_exc hC ?_; rw [has])
    | refine wpAny_staticBase_exc hC ?_
    | refine wpAny_madeBy_exc hC ?_
    | simp only [bne_self_eq_false, Bool.false_eq_true, if_false]
    | wp_step)
  exact z
theorem new_run {prog : Program} {w : World} {A : Around} {R : Result → Shared → Prop} (F : ExcBaseFacts B newId initId bmB) (hB : bm.contains (.type B) = true) (hA : bm.contains (.type "AttributeError") = false) (hN : bm.contains (.type "NameError") = false)
    (hC : h.get? C = some (excClassObj nm q C N bs bm hdct sn sub ab col dd k0 k1 k2 k3 k5 newId)) (hz : rest.length ≤ sizeLine)
    (z : R (.ok (.ret (.ref (h.objs.size + 1)))) ⟨(h.push { cls := .type "tuple", data := .seq rest.toArray }).push { cls := .ref C, data := .fields #[.ref h.objs.size, .none, .none, .none, .bool false, .none] }, g, d, t, os⟩) :
    codeAny (model prog w) A (.builtin newId ⟨.ref C :: rest, []⟩) R ⟨h, g, d, t, os⟩ := by
  have e1 := F.ends
  have c1 : (Value.ref C :: bm).contains (.type B) = true := by rw [List.contains_cons, hB, Bool.or_true]
  have c2 : (Value.ref C :: bm).contains (.type "AttributeError") = false := by rw [List.contains_cons, hA]; rfl
  have c3 : (Value.ref C :: bm).contains (.type "NameError") = false := by rw [List.contains_cons, hN]; rfl
  refine codeAny_builtinAt F.entry ?_
  unfold Builtin.«BaseException.__new__»
  refine PySem.wpAt_bind ?_
  show PySem.wpAt _ _ _ (stack >>= _) _ _ _
  refine PySem.wpAt_bind (PySem.wpAt_stack fun p below => PySem.wpAt_of_wpAny ?_)
  wp_walk
  refine PySem.wpAt_of_wpAny ?_
  rw [F.owner]
  repeat (first
    | with_reducible refine wpAny_madeHere_exc F.canon hC ?_
    | with_reducible refine wpAny_loadPart_at hC ?_
    | (with_reducible refine wpAny_isSubtype_exc hC ?_; first | rw [c1] | rw [c2] | rw [c3])
    | wp_step)
  show R _ _
  rw [Heap.size_push]
  exact z
theorem type_run {prog : Program} {w : World} {A : Around} {E : Value → Shared → Prop} {fI : Addr} {Q : Fin → Shared → Prop} (F : ExcBaseFacts B newId initId bmB) (hB : bm.contains (.type B) = true) (hA : bm.contains (.type "AttributeError") = false) (hN : bm.contains (.type "NameError") = false)
    (hC : h.get? C = some (excClassObj nm q C N bs bm hdct sn sub ab col dd k0 k1 k2 k3 k5 newId)) (hi : W.Looks (model prog w) h (typeLookup (.ref C) "__init__") (some (.ref fI))) (hb : ∀ self, W.Looks (model prog w) h (bindSpecial (.ref fI) self) (.ref fI, [self]))
    (hz : rest.length ≤ sizeLine)
    (z : codeAny (model prog w) A (.call (.ref fI) ⟨.ref (h.objs.size + 1) :: rest, []⟩)
      (fun r s' => match r with | .ok (.ret v) => v = .none ∧ Q (.done (.ret (.ref (h.objs.size + 1)))) s' | .ok _ => False | .error e => E e s') ⟨(h.push (W.kdv_tup rest)).push (HandSPX.excO C h.objs.size), g, d, t, os⟩) :
    wpAny (model prog w) A (Builtin.«type.__call__» ⟨.ref C :: rest, []⟩) Q E ⟨h, g, d, t, os⟩ := by
  repeat (first
    | with_reducible refine wpAny_loadPart_at hC ?_
    | with_reducible refine wpAny_madeBy_exc hC ?_
    | wp_step)
  refine codeAny_call_builtin_code (Code.quiet_builtin _ F.quiet) (chk_new F hB hC ?_)
  refine new_run F hB hA hN hC hz ?_
  show wpAny _ _ _ _ _ _
  have kp : ∀ b o, h.get? b = some o → ((h.push (W.kdv_tup rest)).push (HandSPX.excO C h.objs.size)).get? b = some o := fun b o e => Heap.get?_push_of_some _ (Heap.get?_push_of_some _ e)
  have hC1 := kp _ _ hC
  have he : ((h.push (W.kdv_tup rest)).push (HandSPX.excO C h.objs.size)).get? (h.objs.size + 1) = some (HandSPX.excO C h.objs.size) := by heap_get
  have cc : (Value.ref C :: bm).contains (.ref C) = true := by simp
  have i1 := hi.keeps kp
  have b1 := (hb (.ref (h.objs.size + 1))).keeps kp
  unfold isInstance
  repeat (first
    | with_reducible refine wpAny_loadPart_at he ?_
    | (with_reducible refine wpAny_isSubtype_exc hC1 ?_; rw [cc])
    | wp_step)
  show wpAny _ _ (typeLookup (.ref C) _) _ _ _
  refine i1.at (wpAny_holding (wpAny_bind (b1.at ?_)))
  refine wpAny_bind (wpAny_call (codeAny_mono z fun r s' y => ?_))
  rcases r with e | (v | _ | _ | _) <;> first | exact y | exact y.elim | skip
  obtain ⟨rfl, y⟩ := y
  first
    | exact wpAny_pure (wpAny_pure y)
    | (wp_walk; exact y)
theorem call_run {prog : Program} {w : World} {A : Around} {R : Result → Shared → Prop} {fI : Addr} (F : ExcBaseFacts B newId initId bmB) (hB : bm.contains (.type B) = true) (hA : bm.contains (.type "AttributeError") = false) (hN : bm.contains (.type "NameError") = false)
    (hC : h.get? C = some (excClassObj nm q C N bs bm hdct sn sub ab col dd k0 k1 k2 k3 k5 newId)) (hi : W.Looks (model prog w) h (typeLookup (.ref C) "__init__") (some (.ref fI))) (hb : ∀ self, W.Looks (model prog w) h (bindSpecial (.ref fI) self) (.ref fI, [self]))
    (hz : rest.length ≤ sizeLine)
    (z : codeAny (model prog w) (A.under (.builtin "type.__call__" ⟨.ref C :: rest, []⟩)) (.call (.ref fI) ⟨.ref (h.objs.size + 1) :: rest, []⟩) (W.InitBack (h.objs.size + 1) R) ⟨(h.push (W.kdv_tup rest)).push (HandSPX.excO C h.objs.size), g, d, t, os⟩) :
    codeAny (model prog w) A (.call (.ref C) ⟨rest, []⟩) R ⟨h, g, d, t, os⟩ := by
  have l1 := tc_lookup
  have l2 := tc_bind (.ref C)
  have l3 : (⟨h, g, d, t, os⟩ : Shared).TypeIs (.ref C) "type" := ⟨_, hC, rfl⟩
  refine codeAny_of_tree ?_
  show wpAny _ _ (callAny (.ref C) _) _ _ _
  repeat (any_goals (first
    | assumption
    | with_reducible refine wpAny_loadPart_at hC ?_
    | wp_step))
  refine ⟨rfl, codeAny_call_builtin_at (Code.quiet_builtin _ (by decide +kernel)) entry_typeCall (wpAny_check_type_call_sub hC (type_run F hB hA hN hC hi hb hz ?_))⟩
  exact codeAny_mono z fun r s' y => by
    rcases r with e | (v | _ | _ | _) <;> exact y
end

/-- what the written part says of an exception class with an __init__ of its own -/
structure Cls1 (K : W.Frag) (C : Addr) : Prop where
  cls : ∃ nm q N bs bm sn sub ab col dd k0 k1 k2 k3 k5 B newId initId t0 t, K.lookup C = some (excClassObj nm q C N bs bm true sn sub ab col dd k0 k1 k2 k3 k5 newId) ∧
    ExcBaseFacts B newId initId t0 ∧ (bm.contains (.type B) = true ∧ bm.contains (.type "AttributeError") = false ∧ bm.contains (.type "NameError") = false) ∧ endsIn t bm = true ∧ Lets t ∧ t.contains (.type "object") = true ∧ t ≠ []
  sa : W.findIn K (.ref C) "__setattr__" = some (some (.builtin "object.__setattr__"))
  exC : W.subIn K (.ref C) (.type "BaseException") = some true
  tyC : W.typeIn K (.ref C) = some (.type "type")
  kC : W.keepIn K (.ref C) = true
section
variable {X : Cx} {pins : List (Addr × Obj)} {σ : L2.St} {H : Hp} {s : Shared} {a C : Addr} {f : Str} {y : V} {u : Value} {A : Around} {E : Value → Shared → Prop}
theorem put1 {Q : Unit → Shared → Prop} (T : Cls1 X.K C) (I : Inv X pins σ H s) (e : H a = some (exo a C none)) (hn : W.findIn X.K (.ref C) f = some none) (ry : RelV y u)
    (q : ∀ dx s', H dx = none → dx ≠ a → Inv X pins σ (upd (upd H dx (exd dx [(f, y)])) a (exo a C (some dx))) s' → Q () s') : wpAny (model X.prog X.w) A (setAttr (.ref a) f u) Q E s := by
  obtain ⟨nm, qn, N, bs, bm, sn, sub, ab, col, dd, k0, k1, k2, k3, k5, B, newId, initId, t0, t, hC, _, _, hbm, hl, hob, hne⟩ := T.cls
  have hcl : W.clsIn X.K C = some { name := nm, bases := bs, mro := .ref C :: bm, ns := N, qualname := qn, hasDict := true, slotNames := sn, subclasses := sub, abstract := ab, collection := col, hasDel := false } := by
    unfold W.clsIn
    rw [hC] <;> rfl
  obtain ⟨t1, ho⟩ := exo_at I.hok e
  refine W.set_plain I.kIn (ox := { cls := .ref C, dict := none, data := .fields #[.ref t1, .none, .none, .none, .bool false, .none] }) (od := none) ⟨ho, rfl, rfl, trivial⟩ T.sa ?_
  refine first_store I.kIn ho hcl (show endsIn t (.ref C :: bm) = true from hbm) hl hob hne rfl hn (fun s' dx kp dn dne hx hns es => ?_)
  obtain ⟨h', g', dr', tk', os'⟩ := s'
  cases es
  have hd : H dx = none := I.hok.fresh dn
  have nd : ∀ {b : Addr} {o : Obj}, s.heap.get? b = some o → b ≠ dx := fun {b o} z => Nat.ne_of_lt (Nat.lt_of_lt_of_le (Heap.lt_size z) dn)
  have na : ∀ {b : Addr}, H b = none → b ≠ a := fun {b} n z => by rw [z, e] at n; cases n
  have ba : ∀ {b : Addr} {o : HO}, H b = some o → (exo a C none) ≠ o → b ≠ a := fun {b o} z d w => by
    rw [w, e] at z
    exact d (Option.some.inj z)
  have bd : ∀ {b : Addr} {o : HO}, H b = some o → b ≠ dx := fun {b o} z => ne_of_none z hd
  have two : ∀ {b : Addr}, b ≠ a → b ≠ dx → upd (upd H dx (exd dx [(f, y)])) a (exo a C (some dx)) b = H b := fun {b} n1 n2 => by rw [upd_ne n1, upd_ne n2]
  have U : Un X.fs [] H (upd (upd H dx (exd dx [(f, y)])) a (exo a C (some dx))) s.heap h' := by
    refine ⟨fun b o z n _ _ => kp b o (na n) z, fun b o z n _ _ => ⟨o.slots, kp b o (na n) z⟩, fun b o z n _ => ?_, fun b o z _ => ?_, fun b xs z => ?_, fun b o v z => ?_, fun b ps z => ⟨#[], ?_⟩⟩
    · rw [two (na n) (nd z)]
      exact n
    · by_cases hb : b = a
      · exact ⟨_, by rw [hb]; exact hx⟩
      · exact ⟨o, kp b o hb z⟩
    · rw [two (ba z exo_tup) (bd z)]
      exact z
    · rw [two (ba z exo_frz) (bd z)]
      exact z
    · rw [two (ba z exo_tbl) (bd z), z]
      simp
  refine q dx _ hd dne (I.un (t' := tk') U fun b o z => ?_)
  by_cases hb : b = a
  · rw [hb, upd_same] at z
    cases z
    rw [hb]
    exact exo_ok hx
  · rw [upd_ne hb] at z
    by_cases hdx : b = dx
    · rw [hdx, upd_same] at z
      cases z
      rw [hdx]
      exact exd_ok hns (relO_put (fs := []) ry fun g => True.intro)
    · rw [upd_ne hdx] at z
      refine (I.hok b o z).stay (fun c v hc w => kp c v ?_ w) (fun c hc => ?_) fun c xs hc => ?_
      · rcases hc with hc | hc
        · rw [hc]
          exact hb
        · exact ba hc exo_own
      · rw [two (ba hc exo_own) (bd hc)]
        exact hc
      · rw [two (ba hc exo_tup) (bd hc)]
        exact hc
end
section
variable {X : Cx} {o e : Expr} {es : List Expr} {to te : TE} {ta : TA} {f x : Str} {p p' pos : Pos} {C fI : Addr} {k : Nat} {fd : FuncData} {ps : List Str} {sp : Sp} {CX : CXT}
/-- self.f = e, self an exception that is being made -/
def tPut1 (K : W.Frag) (f : Str) (to te : TE) : TS := fun D σ H => te σ H fun y H1 => to σ H1 fun x H2 => ∃ a C : Addr, x = .ref a ∧ Cls1 K C ∧ W.findIn K (.ref C) f = some none ∧ H2 a = some (exo a C none) ∧
  ∀ dx, H2 dx = none → dx ≠ a → D.nx σ (upd (upd H2 dx (exd dx [(f, y)])) a (exo a C (some dx)))
theorem ps_put1 (ho : PE X o to) (he : PE X e te) (hs : swapsWith e (some (.Attribute o f p')) pos.line X.env = pure false := by rfl) : PS X (.Assign [.Attribute o f p'] e pos) (tPut1 X.K f to te) := by
  refine ⟨fun pins s σ H D I h => plainObj_wpAny_Assign_Attribute (thn (he.run pins s σ H _ I h) ?_) hs⟩
  rintro v s1 ⟨y, H1, I1, r1, q1⟩
  refine thn (ho.run pins s1 σ H1 _ I1 q1) ?_
  rintro u s2 ⟨z, H2, I2, r2, a, C, rfl, T, hn, ea, q⟩
  cases r2
  exact put1 T I2 ea hn r1 fun dx s' n ne J => ⟨σ, _, J, q dx n ne⟩
/-- X(e, ..), the exception kept as a value -/
def tExv (C : Addr) (sp : Sp) (ta : TA) : TE := fun σ H Q => ta σ H fun vs H1 => vs.length ≤ 1000 ∧ ∀ a, H1 a = none → sp (.ref a :: vs) (upd H1 a (exo a C none)) (fun v H2 => v = .non ∧ Q (.ref a) H2) (fun _ _ _ => False)
/-- X(e, ..), to be raised -/
def tExr (C : Addr) (sp : Sp) (ta : TA) : L2.St → Hp → XK → Prop := fun σ H Q => ta σ H fun vs H1 => vs.length ≤ 1000 ∧ ∀ a, H1 a = none → sp (.ref a :: vs) (upd H1 a (exo a C none))
  (fun v H2 => v = .non ∧ ∃ (d : Addr) (fs : List (Str × V)), H2 a = some (exo a C (some d)) ∧ H2 d = some (exd d fs) ∧ H1 d = none ∧ Q (.ref C) (some d) (upd (del H2 a) d (.xd fs))) (fun _ _ _ => False)
/-- the call, told twice: what is wanted of its end is R -/
theorem exc_run {pins : List (Addr × Obj)} {σ : L2.St} {H1 : Hp} {s1 : Shared} {us : List Value} {vs : List V} {Q2 : VK} {R : Value → Shared → Prop} (T : Cls1 X.K C) (iC : W.findIn X.K (.ref C) "__init__" = some (some (.ref fI)))
    (tI : W.typeIn X.K (.ref fI) = some (.type "function")) (F1 : FnOk X.prog X.w X.K X.mg X.base CX k fI fd ps sp) (hr : Room (k + 1) X.A) (hb : Binds X.K fd ps []) (hx : Passes CX X (fun _ _ _ => False)) (I1 : Inv X pins σ H1 s1) (r1 : Vals vs us) (hz : vs.length ≤ 1000)
    (hq : sp (.ref (s1.heap.objs.size + 1) :: vs) (upd H1 (s1.heap.objs.size + 1) (exo (s1.heap.objs.size + 1) C none)) Q2 (fun _ _ _ => False))
    (fin : ∀ hp u s', Inv X pins σ (upd H1 (s1.heap.objs.size + 1) (exo (s1.heap.objs.size + 1) C none)) { s1 with heap := hp } → (∀ b o, s1.heap.get? b = some o → hp.get? b = some o) →
      CE X.stack X.prog X.w (upd H1 (s1.heap.objs.size + 1) (exo (s1.heap.objs.size + 1) C none)) { s1 with heap := hp } Q2 u s' → u = .none ∧ R (.ref (s1.heap.objs.size + 1)) s') :
    wpAny (model X.prog X.w) X.A (call (.ref C) us) R X.xe s1 := by
  obtain ⟨nm, qn, N, bs, bm, sn, sub, ab, col, dd, k0, k1, k2, k3, k5, B, newId, initId, t0, t, hC, FB, ⟨q1, q2, q3⟩, hbm, hl, hob, hne⟩ := T.cls
  obtain ⟨hp, g, dr, tk, os⟩ := s1
  let h2 : Heap := (hp.push (W.kdv_tup us)).push (HandSPX.excO C hp.objs.size)
  have kk : ∀ b o, hp.get? b = some o → h2.get? b = some o := fun b o z => Heap.get?_push_of_some _ (Heap.get?_push_of_some _ z)
  have hg : h2.get? (hp.objs.size + 1) = some (HandSPX.excO C hp.objs.size) := by
    show ((hp.push (W.kdv_tup us)).push (HandSPX.excO C hp.objs.size)).get? (hp.objs.size + 1) = _
    heap_get
  have I2 : Inv X pins σ (upd H1 (hp.objs.size + 1) (exo (hp.objs.size + 1) C none)) ⟨h2, g, dr, tk, os⟩ :=
    I1.laid (t' := tk) kk (Nat.le_succ _) (exo_ok hg)
  have r2 : Vals (V.ref (hp.objs.size + 1) :: vs) (Value.ref (hp.objs.size + 1) :: us) := .cons rfl r1
  have hlen : (Value.ref (hp.objs.size + 1) :: us ++ []).length = ps.length := by
    rw [List.append_nil, ← r2.length]
    exact F1.len _ _ _ _ hq
  have hus : us.length ≤ sizeLine := by
    rw [← Paired.length r1, sizeLine_eq]
    omega
  have hbt := hb ⟨h2, g, dr, tk, os⟩ (Value.ref (hp.objs.size + 1) :: us) I2.kIn hlen
  rw [List.append_nil] at hbt
  refine wpAny_call (call_run FB q1 q2 q3 (I1.kIn _ _ hC) (W.looks_findIn I1.kIn iC) (fun self => W.bind_fn I1.kIn self tI) hus ?_)
  refine codeAny_mono (F1.run _ X.stack _ _ ⟨Value.ref (hp.objs.size + 1) :: us, []⟩ _ _ _ (fun _ _ _ => False) (hr.make C us []) (I2.env0.make C us []) hbt r2 hq) fun r s' z => ?_
  cases r with
  | error er => exact hx pins σ _ _ er s' I2 z
  | ok fl =>
    cases fl with
    | ret u => exact fin h2 u s' I2 kk z
    | next => exact False.elim z
    | brk => exact False.elim z
    | cont => exact False.elim z
theorem pe_exv (T : Cls1 X.K C) (iC : W.findIn X.K (.ref C) "__init__" = some (some (.ref fI))) (tI : W.typeIn X.K (.ref fI) = some (.type "function")) (F1 : FnOk X.prog X.w X.K X.mg X.base CX k fI fd ps sp) (hr : Room (k + 1) X.A)
    (hb : Binds X.K fd ps []) (hx : Passes CX X (fun _ _ _ => False)) (hg : Gl X x) (hm : X.mg x = some (.ref C)) (ha : PA X (e :: es) ta)
    (hdb : (x == ("__debug__" : Str)) = false := by decide) (he : starEach (e :: es) X.env = (false, eval e X.env) :: starEach es X.env := by rfl) (hpl : (backTo pos (starEach es X.env)).any (·.1) = false := by rfl) :
    PE X (.Call (.Name x p) (e :: es) [] pos) (tExv C sp ta) := by
  refine ⟨fun pins s σ H Q I h => wpAny_Call_Name_kw (ld_glob I hg hm ?_ hdb)⟩
  refine W.callWith_K (h₀ := X.base) I.ok.mod.kin T.kC (thn (ha.run pos pins s σ H _ I h) ?_) he hpl
  rintro us s1 ⟨vs, H1, I1, r1, hz, q1⟩
  refine ⟨I1.kIn, exc_run T iC tI F1 hr hb hx I1 r1 hz (q1 _ (I1.hok.fresh (Nat.le_succ _))) fun hp u s' I2 kk z => ?_⟩
  obtain ⟨v, H2, I3, rv, ev, q2⟩ := I2.after z
  subst ev
  exact ⟨rv, .ref _, H2, I3, rfl, q2⟩
theorem pmk_exr (T : Cls1 X.K C) (iC : W.findIn X.K (.ref C) "__init__" = some (some (.ref fI))) (tI : W.typeIn X.K (.ref fI) = some (.type "function")) (F1 : FnOk X.prog X.w X.K X.mg X.base CX k fI fd ps sp) (hr : Room (k + 1) X.A)
    (hb : Binds X.K fd ps []) (hx : Passes CX X (fun _ _ _ => False)) (hg : Gl X x) (hm : X.mg x = some (.ref C)) (ha : PA X (e :: es) ta)
    (hdb : (x == ("__debug__" : Str)) = false := by decide) (he : starEach (e :: es) X.env = (false, eval e X.env) :: starEach es X.env := by rfl) (hpl : (backTo pos (starEach es X.env)).any (·.1) = false := by rfl) :
    PMk X (.Call (.Name x p) (e :: es) [] pos) (tExr C sp ta) := by
  intro pins s σ H Q I h
  refine wpAny_Call_Name_kw (ld_glob I hg hm ?_ hdb)
  refine W.callWith_K (h₀ := X.base) I.ok.mod.kin T.kC (thn (ha.run pos pins s σ H _ I h) ?_) he hpl
  rintro us s1 ⟨vs, H1, I1, r1, hz, q1⟩
  refine ⟨I1.kIn, exc_run T iC tI F1 hr hb hx I1 r1 hz (q1 _ (I1.hok.fresh (Nat.le_succ _))) fun hp u s' I2 kk z => ?_⟩
  obtain ⟨v, H2, os2, bare2, un2, hok2, rv, ev, d, fs, ea, ed, hd1, q2⟩ := z
  subst ev
  obtain ⟨h0, g0, d0, t0, o0⟩ := s1
  obtain ⟨h2, g2, d2, t2, o2⟩ := s'
  exact ⟨rv, mk_end (raises_own T.exC T.tyC) I1 (Nat.le_succ _) kk un2 hok2 os2 bare2 ea ed hd1 q2⟩
end

section
variable {prog : Program} {w : World} {A : Around} {E : Value → Shared → Prop} {s : Shared} {K : W.Frag} {x D : Addr} {ox : Obj} {od : Option Obj}
theorem data_found {a g : Value} {f : Str} (hc : (W.clsIn K D).isSome = true) (ha : W.findIn K (.ref D) f = some (some a)) (hg : W.specialIn K a "__get__" = some (some g)) (ht : W.takesIn K a = some true) : W.findObj K D od f = some (.bind g a) := by
  obtain ⟨c, e⟩ := Option.isSome_iff_exists.mp hc
  unfold W.findObj
  rw [e, Option.bind_some, ha, Option.bind_some]
  simp [hg, ht]
theorem cls_some (c : ExcC K D) : (W.clsIn K D).isSome = true := by
  obtain ⟨cd, h, _⟩ := W.any_some c.hd
  rw [h]
  rfl
/-- an exception's __class__ -/
theorem ask_class {Q : Option Value → Shared → Prop} (c : ExcC K D) (X : K.In s.heap) (I : W.InstAt s.heap x ox D od) (q : Q (some (.ref D)) { s with toks := s.toks + 1 }) : wpAny (model prog w) A (getAttr? (.ref x) "__class__") Q E s := by
  have hf : W.findObj K D od "__class__" = some (.bind (.builtin "getset_descriptor.__get__") (.builtin "object.__class__")) := data_found (cls_some c) c.ha c.hn c.ht
  obtain ⟨hp, ge, dr, tk, os⟩ := s
  have isB : W.Looks (model prog w) hp (isInstance (.ref x) (.type "BaseException")) true := I.type.andThen (W.looks_subIn X c.hs)
  have g1 := W.looks_findIn (M := model prog w) X c.hg
  have g2 := W.looks_findIn (M := model prog w) X c.hk
  have g3 := W.looks_find (M := model prog w) X I hf
  have n1 : (onTheHeap (Value.ref D) && Value.builtin "BaseException.__getattribute__" == Value.builtin "object.__getattribute__") = false := by
    rw [show (Value.builtin "BaseException.__getattribute__" == Value.builtin "object.__getattribute__") = false by decide +kernel]
    rfl
  unfold getAttr? getAttrBy? getAttrBy
  refine wpAny_bind (wpAny_mkText (wpAny_bind (wpAny_attempt (wpAny_holding (wpAny_bind ?_)))))
  refine I.type.at (wpAny_bind (g1.at ?_))
  show wpAny _ _ (if (onTheHeap (Value.ref D) && Value.builtin "BaseException.__getattribute__" == Value.builtin "object.__getattribute__") = true then _ else _) _ _ _
  rw [n1, if_neg Bool.false_ne_true]
  unfold getAttrByItsOwn hookBefore
  refine wpAny_bind ?_
  rw [if_pos (show onTheHeap (Value.ref D) = true from rfl)]
  refine g2.at (wpAny_bind (wpAny_attempt (wpAny_holding ?_)))
  unfold callGetattribute
  rw [show (false && onTheHeap (Value.builtin "BaseException.__getattribute__")) = false from rfl, if_neg Bool.false_ne_true]
  unfold boundAndCalled
  rw [PySem.F.excAttr_ValueError.ga.bind (.ref x)]
  refine wpAny_bind (wpAny_pure ?_)
  show wpAny _ _ (call (.builtin "BaseException.__getattribute__") [.ref x, .str "__class__" tk]) _ _ _
  refine wpAny_call (codeAny_call_builtin PySem.F.excAttr_ValueError.ga.plain PySem.F.entry_bexc_ga ?_)
  refine @W.check_slot (model prog w) _ _ ⟨hp, ge, dr, tk + 1, os⟩ "BaseException.__getattribute__" "BaseException" "__getattribute__" (.ref x) [.str "__class__" tk] [] _
    (by decide +kernel) (by decide +kernel) isB (PySem.F.args_bexc_ga (.ref x) (.str "__class__" tk)) ?_
  unfold Builtin.«object.__getattribute__»
  refine wpAny_bind (wpAny_of_eq (a := ((Value.ref x : Value), [Value.str "__class__" tk])) (by first | rfl | (simp only [slotArgs]; rfl)) ?_)
  refine wpAny_bind (wpAny_pure (wpAny_bind (I.type.at (wpAny_bind (g3.at ?_)))))
  show wpAny _ _ (holding [Value.builtin "object.__class__"] (call (.builtin "getset_descriptor.__get__") [.builtin "object.__class__", .ref x, .ref D]) >>= ret) _ _ _
  refine wpAny_bind (wpAny_holding (wpAny_call (W.class_get (s := ⟨hp, ge, dr, tk + 1, os⟩) (ox := ox) (od := od) X I c.hm ?_)))
  refine wpAny_pure ?_
  show wpAny _ _ (handedOut (.ref D)) _ _ _
  rw [W.handedOut_of (v := .ref D) rfl]
  first
    | exact wpAny_pure (wpAny_pure q)
    | exact wpAny_pure q
    | exact wpAny_pure (wpAny_bind (wpAny_pure (wpAny_pure q)))
theorem kit_exc (c : ExcC K D) : W.KitX K (.ref x) (.ref D) (fun h => ∃ ox od, W.InstAt h x ox D od) where
  ty := fun _ _ _ ⟨_, _, I⟩ => I.type
  it := fun _ _ X _ => by
    obtain ⟨cd, hcd, _⟩ := W.any_some c.hd
    unfold W.clsIn at hcd
    split at hcd
    · rename_i c' d' cd' sl' ho
      intro A' Q' E' s' k q
      unfold isType loadHead
      exact wpAny_bind (wpAny_loadPart (k _ _ (X _ _ ho)) (wpAny_pure q))
    · cases hcd
  ne := fun h tp dd its n sl X htp => by
    obtain ⟨cd, hcd, _⟩ := W.any_some c.hd
    refine Bool.eq_false_iff.mpr fun z => ?_
    have e : D = tp := Value.ref.inj (beq_iff_eq.mp z)
    unfold W.clsIn at hcd
    split at hcd
    · rename_i c' d' cd' sl' ho
      have z := X _ _ ho
      rw [e, htp] at z
      cases z
    · cases hcd
  ca := fun X ⟨_, _, I⟩ k => ask_class c X I k
end
section
variable {X : Cx} {pins : List (Addr × Obj)} {σ : L2.St} {H : Hp} {s : Shared} {a C d : Addr} {dx : Option Addr}
/-- an exception that stands, with its dict where it has one -/
def ExAt (H : Hp) (a C : Addr) : Option Addr → Prop
  | none => H a = some (exo a C none)
  | some d => H a = some (exo a C (some d)) ∧ ∃ fs, H d = some (exd d fs)
theorem ExAt.inst (I : Inv X pins σ H s) (h : ExAt H a C dx) : ∃ ox od, W.InstAt s.heap a ox C od := by
  cases dx with
  | none =>
    obtain ⟨t, e⟩ := exo_at I.hok h
    exact ⟨_, none, e, rfl, rfl, trivial⟩
  | some d =>
    obtain ⟨h1, fs, h2⟩ := h
    obtain ⟨t, e⟩ := exo_at I.hok h1
    obtain ⟨m, hn, _⟩ := exd_at I.hok h2
    obtain ⟨o, es, ep, ho, _⟩ := hn
    exact ⟨_, some o, e, rfl, rfl, ho⟩
theorem ExAt.same {H1 : Hp} (S : Same H H1) (h : ExAt H a C dx) : ExAt H1 a C dx := by
  cases dx with
  | none => exact S _ _ h
  | some d =>
    obtain ⟨h1, fs, h2⟩ := h
    exact ⟨S _ _ h1, fs, S _ _ h2⟩
/-- isinstance(e, c), e an exception that stands -/
def rIsX (K : W.Frag) : List V → Hp → VK → Prop := fun xs H Q => ∃ (a D : Addr) (dx : Option Addr) (c : V) (cv : Value) (b : Bool), xs = [.ref a, c] ∧ ExAt H a D dx ∧ ExcC K D ∧ ClsV c cv ∧ W.kitOne K (.ref D) cv = some b ∧ Q (.bl b) H
theorem call_isX : CallR X (.builtin "isinstance") (rIsX X.K) := by
  intro pins s σ H xs us Q I r h
  obtain ⟨a, D, dx, c, cv, b, rfl, hE, hC, hv, e, q⟩ := h
  obtain ⟨u1, u2, rfl, r1, r2⟩ := vals2 r
  cases r1
  have ec := hv.eq r2
  subst ec
  exact W.kia_one (kit_exc hC) I.kIn (hE.inst I) e (fun z => nomatch z) fun tk => ⟨.bl b, H, I.kept (t' := tk) fun _ _ z => z, rfl, q⟩
/-- e.f, e an exception that stands with its dict -/
def tGetX (K : W.Frag) (f : Str) (te : TE) : TE := fun σ H Q => te σ H fun x H1 => ∃ (a C d : Addr) (fs : List (Str × V)) (v : V), x = .ref a ∧ H1 a = some (exo a C (some d)) ∧ H1 d = some (exd d fs) ∧ ExcC K C ∧ W.findIn K (.ref C) f = some none ∧ fs.lookup f = some v ∧ Q v H1
theorem pe_getX {e : Expr} {te : TE} {f : Str} {pos : Pos} (he : PE X e te) (hb : attributeBase e f X.env (eval e X.env) = eval e X.env := by rfl) : PE X (.Attribute e f pos) (tGetX X.K f te) := by
  refine ⟨fun pins s σ H Q I h => attr_of hb (thn (he.run pins s σ H _ I h) ?_)⟩
  rintro u s1 ⟨x, H1, I1, rx, a, C, d, fs, v, rfl, ea, ed, hC, hn, hl, q⟩
  cases rx
  obtain ⟨t, ho⟩ := exo_at I1.hok ea
  obtain ⟨mA, hns, hr⟩ := exd_at I1.hok ed
  obtain ⟨od, hod, hlk⟩ := lookIn_ns hns
  obtain ⟨u, hu, ru⟩ := RelO.some_of (v := v) (o := mA f) (by rw [← hl]; exact hr f)
  have J : W.InstAt s1.heap a { cls := .ref C, dict := some d, data := .fields #[.ref t, .none, .none, .none, .bool false, .none] } C (some od) := ⟨ho, rfl, rfl, hod⟩
  exact HandSPX.exc_get I1.kIn J hC.hg hC.hk hC.hs (W.findObj_own hC.hd hn rfl (by rw [hlk, hu])) (handed_of ru) ⟨v, H1, I1.tok _, ru, q⟩
/-- X(e), X without an __init__ of its own, kept as a value -/
theorem pe_exn {bmB : List Value} {B newId initId : String} {x : Str} {e : Expr} {te : TE} {p pos : Pos} (F : ExcBaseFacts B newId initId bmB) (q : W.excIn X.K C bmB newId = true) (gC : X.mg x = some (.ref C)) (kC : W.keepIn X.K (.ref C) = true) (hg : Gl X x)
    (he : PE X e te) (hs : starEach [e] X.env = (false, eval e X.env) :: starEach [] X.env := by rfl) (hdb : (x == ("__debug__" : Str)) = false := by decide) :
    PE X (.Call (.Name x p) [e] [] pos) (fun σ H Q => te σ H fun _ H1 => ∀ a, H1 a = none → Q (.ref a) (upd H1 a (exo a C none))) := by
  refine ⟨fun pins s σ H Q I h => wpAny_Call_Name_kw (ld_glob I hg gC ?_ hdb)⟩
  refine W.callWith_K (h₀ := X.base) I.ok.mod.kin kC ?_ hs (by rfl)
  rw [hs]
  show wpAny _ _ (spliced ((false, eval e X.env) :: backTo pos (starEach [] X.env))) _ _ s
  refine Calls.spliced_cons (thn (he.run pins s σ H _ I h) ?_)
  rintro u s1 ⟨v, H1, I1, r1, q1⟩
  refine Calls.spliced_nil ⟨I1.kIn, ?_⟩
  show wpAny _ _ (call (.ref C) [u]) _ _ _
  obtain ⟨bm, N, nm, qn, bs, hdct, sn, sub, ab, col, dd, k0, k1, k2, k3, k5, mN, hC, hN, hni, T⟩ := exc_obj I1.kIn q
  refine wpAny_call_exc_subT F T hC hN hni (fun h' a hm => ?_) (by show 1 ≤ sizeLine; rw [sizeLine_eq]; omega)
  have hn : H1 a = none := I1.hok.gone hm.new
  obtain ⟨t, ht, _, _⟩ := hm.there
  exact ⟨.ref a, _, I1.laidN hm.keeps hm.new hn (exo_ok ht), rfl, q1 a hn⟩
end

/-! ### try .. except with several clauses, each with one class or with three -/
theorem flying_kept {B : Heap} {l : List Env} {e : Addr} {Z : Obj → Prop} {h h' : Heap} (F : HandSPX.FlyingZ B l e Z h) (k : ∀ b o, h.get? b = some o → h'.get? b = some o) : HandSPX.FlyingZ B l e Z h' := by
  obtain ⟨f1, f2, f3, oe, vs, T, oT, ts, he, hz, hd, h1, hn, hT, hg, hdT, h3⟩ := F
  exact ⟨fun b o q => k b o (f1 b o q), f2, f3.of_keeps fun b o q _ => ⟨o, k b o q, rfl⟩, oe, vs, T, oT, ts, k _ _ he, hz, hd, h1, hn, hT, k _ _ hg, hdT, h3⟩
/-- a clause's test: what is asked of the exception's class -/
def Asks (X : Cx) (e : Expr) (g : Value → Option Bool) : Prop :=
  ∀ (a : Addr) (oe : Obj) (pn : List (Addr × Obj)) (σ : L2.St) (H : Hp) (s : Shared) (b : Bool), Inv (X.suite a ((a, oe) :: pn)) [] σ H s → s.heap.get? a = some oe → g oe.cls = some b →
    ∀ (Q : Bool → Shared → Prop) (E : Value → Shared → Prop), (∀ h' t', (∀ c u, s.heap.get? c = some u → h'.get? c = some u) → Q b { s with heap := h', toks := t' }) →
      wpAny (model X.prog X.w) (X.A.mark (some (.ref a))) (eval e X.env) (fun c s1 => wpAny (model X.prog X.w) (X.A.mark (some (.ref a))) (excMatches (.ref a) c) Q E s1) E s
section
variable {X : Cx}
theorem looks_cls {M : Model} {h : Heap} {a : Addr} {oe : Obj} (e : h.get? a = some oe) : W.Looks M h (typeOf (.ref a)) oe.cls := fun A Q E s k q => wpAny_typeOf_ref (k _ _ e) q
theorem ld_named {a : Addr} {oe : Obj} {pn : List (Addr × Obj)} {σ : L2.St} {H : Hp} {s : Shared} {x : Str} {c : Value} {np : Pos} {Q : Value → Shared → Prop} {E : Value → Shared → Prop} (hc : Names X x c) (I : Inv (X.suite a ((a, oe) :: pn)) [] σ H s) (q : Q c s) :
    wpAny (model X.prog X.w) (X.A.mark (some (.ref a))) (eval (.Name x np) X.env) Q E s := by
  obtain ⟨hg, hdb, hm | ⟨hm, hv, hnn⟩⟩ := hc
  · exact ld_glob (X := X.suite a ((a, oe) :: pn)) I hg hm q hdb
  · exact ld_blt (X := X.suite a ((a, oe) :: pn)) I hg hm hv q hnn hdb
theorem asks_one {x : Str} {c : Value} {np : Pos} (hc : Names X x c) : Asks X (.Name x np) (fun cls => W.exmOne X.K cls c) := by
  intro a oe pn σ H s b I ha hb Q E q
  refine ld_named hc I ?_
  exact (W.exm_one (M := model X.prog X.w) I.kIn (looks_cls ha) hb).here (q s.heap s.toks fun _ _ z => z)
theorem asks_three {x1 x2 x3 : Str} {c1 c2 c3 : Value} {n1 n2 n3 tpos : Pos} {kt : Nat} (h1 : Names X x1 c1) (h2 : Names X x2 c2) (h3 : Names X x3 c3) :
    Asks X (.Tuple [.Name x1 n1, .Name x2 n2, .Name x3 n3] kt tpos) (fun cls => W.exmAny X.K cls [c1, c2, c3]) := by
  intro a oe pn σ H s b I ha hb Q E q
  refine Tuple_ ?_
  show wpAny _ _ (spliced ((false, eval (.Name x1 n1) X.env) :: (false, eval (.Name x2 n2) X.env) :: (false, eval (.Name x3 n3) X.env) :: [])) _ _ s
  refine Calls.spliced_cons (ld_named h1 I (Calls.spliced_cons (ld_named h2 I (Calls.spliced_cons (ld_named h3 I (Calls.spliced_nil ?_))))))
  refine wpAny_newObj_type ?_ (by show 3 ≤ sizeLine; decide)
  have hp := Heap.get?_push_size s.heap (o := { cls := .type "tuple", data := .seq [c1, c2, c3].toArray }) rfl
  have kp : ∀ c u, s.heap.get? c = some u → (s.heap.push { cls := .type "tuple", data := .seq [c1, c2, c3].toArray }).get? c = some u := fun c u z => Heap.get?_push_of_some _ z
  exact (W.exm_tup3 (M := model X.prog X.w) (h := s.heap.push { cls := .type "tuple", data := .seq [c1, c2, c3].toArray }) (I.kIn.keeps kp) (looks_cls (kp _ _ ha)) hp hb).here (q _ s.toks kp)
/-- what the clauses wish of an exception of the body -/
def wCl (Wout : WX) (D : Ends) : List ((Value → Option Bool) × (Addr → Value → Option Addr → TS)) → WX
  | [] => Wout
  | (g, ts) :: r => fun cls d σ H => ∃ b, g cls = some b ∧ (b = true → ∀ a, H a = none → ts a cls d D σ H) ∧ (b = false → wCl Wout D r cls d σ H)
inductive Clauses (X : Cx) : List ExceptHandler → List ((Value → Option Bool) × (Addr → Value → Option Addr → TS)) → Prop
  | nil : Clauses X [] []
  | cons {e : Expr} {g : Value → Option Bool} {ts : Addr → Value → Option Addr → TS} {b₀ : Stmt} {suite : List Stmt} {p : Pos} {hds : List ExceptHandler} {l : List ((Value → Option Bool) × (Addr → Value → Option Addr → TS))} (hc : Asks X e g)
      (hs : ∀ (a : Addr) (oe : Obj) (cls : Value) (d : Option Addr) (pn : List (Addr × Obj)), Zc cls d oe → (∃ vs, oe.data = .fields vs) → PSs (X.suite a ((a, oe) :: pn)) (b₀ :: suite) (ts a cls d)) (r : Clauses X hds l) :
      Clauses X (.ExceptHandler (some e) none (b₀ :: suite) p :: hds) ((g, ts) :: l)
theorem ps_try_cl {body : List Stmt} {h₀ : ExceptHandler} {hds : List ExceptHandler} {l : List ((Value → Option Bool) × (Addr → Value → Option Addr → TS))} {pos : Pos} {tb : WX → TS} {Wout : WX} (hs : X.stack = X.env :: X.outer) (hf : X.env.frame = some X.env.locals) (tk : Takes X Wout)
    (hb : ∀ (W : WX) (pn : List (Addr × Obj)) (xe : Value → Shared → Prop), Takes (X.tr pn xe) W → PassesOwn (model X.prog X.w) X.A X.env xe → PSs (X.tr pn xe) body (tb W))
    (hh : Clauses X (h₀ :: hds) l) : PS X (.Try body (h₀ :: hds) [] [] pos) (fun D σ H => tb (wCl Wout D l) D σ H) := by
  refine ⟨fun pins s σ H D I h => ?_⟩
  have ok := I.ok
  have hfr : X.A.frames = some (X.env :: X.outer) := by rw [ok.frames, hs]
  refine wpAny_Try_except (wpAny_mono ((hb (wCl Wout D l) (X.pn ++ pins) (fun e s1 => wpAny (model X.prog X.w) X.A (noteFrame e X.env) (fun _ s2 => wpAny (model X.prog X.w) X.A (setFlight e none) (fun _ s3 =>
    wpAny (model X.prog X.w) X.A (handleBy e X.env (h₀ :: hds)) (SP X pins D) X.xe s3) X.xe s2) X.xe s1) (fun u s' xx => ?_) PassesOwn.looking).run [] s σ H D (I.toTry _) h) (fun f s1 hsp => ?_) (fun e s1 he => he))
  · obtain ⟨a, B, sI, pins', σ', H', cls, d, rfl, J', nb, up, sky, na, os, ag, w0⟩ := xx
    have J : Inv X pins σ' H' sI := J'.ofTry ok
    have sky' : Sky B (X.env :: X.outer) a (Zc cls d) X.env.locals s'.heap := by rw [← hs]; exact sky
    show wpAny (model X.prog X.w) X.A (noteFrame (.ref a) X.env) _ _ _
    refine Sky.land Zc.steady hfr hf sky' fun h3 fl3 up3 => ?_
    -- where the flight stands at a heap h4: the suite's invariant there
    have at4 : ∀ {h4 : Heap} {t4 : Nat}, HandSPX.FlyingZ B (X.env :: X.outer) a (Zc cls d) h4 → s'.heap.UpToSlots h4 →
        Inv X pins σ' H' { s' with heap := h4, toks := t4 } ∧ ∃ oe, h4.get? a = some oe ∧ Zc cls d oe ∧ (∃ vs, oe.data = .fields vs) ∧ Inv (X.suite a ((a, oe) :: (X.pn ++ pins))) [] σ' H' { s' with heap := h4, toks := t4 } := by
      intro h4 t4 fl u4
      have J4 : Inv X pins σ' H' { s' with heap := h4 } := J.landed nb fl.1 (up.trans u4) os ag
      have J5 := J4.tok t4
      obtain ⟨oe, vs, he, hz, hd⟩ := fl.there
      have nfr : a ∉ frs (X.env :: X.outer) := fun hm => by
        obtain ⟨_, o', e', hnf⟩ := fl.2.2.1.mem hm
        rw [he] at e'
        cases e'
        exact hnf _ hd
      have nL : a ≠ X.env.locals := fun z => nfr (List.mem_filterMap.mpr ⟨X.env, List.mem_cons_self, by rw [hf, z]⟩)
      have nF : a ∉ X.fs := fun hm => by
        obtain ⟨e, he, q⟩ := List.mem_filterMap.mp hm
        exact nfr (List.mem_filterMap.mpr ⟨e, List.mem_cons_of_mem _ he, q⟩)
      exact ⟨J5, oe, he, hz, ⟨vs, hd⟩, J5.suite he hd na nL nF⟩
    have go : ∀ {hs' : List ExceptHandler} {l' : List ((Value → Option Bool) × (Addr → Value → Option Addr → TS))}, Clauses X hs' l' → wCl Wout D l' cls d σ' H' → ∀ (h4 : Heap) (t4 : Nat), HandSPX.FlyingZ B (X.env :: X.outer) a (Zc cls d) h4 → s'.heap.UpToSlots h4 →
        wpAny (model X.prog X.w) X.A (handleBy (.ref a) X.env hs') (SP X pins D) X.xe { s' with heap := h4, toks := t4 } := by
      intro hs' l' hk
      induction hk with
      | nil =>
        intro w1 h4 t4 fl u4
        refine wpAny_handleBy_nil ?_
        obtain ⟨k1, k2, k3, oe, vs, T, oT, ts', he, hz, hd, h1, hr⟩ := id fl
        unfold PySem.passOn
        refine wpAny_bind (wpAny_field he hd h1 ?_)
        rw [if_neg (show ¬ ((Value.ref T == Value.none) = true) from by simp)]
        have fin : wpAny (model X.prog X.w) X.A (setFlight (.ref a) X.env.frame) (fun _ s4 => wpAny (model X.prog X.w) X.A (throw (.ref a) : Sem Flow) (SP X pins D) X.xe s4) X.xe { s' with heap := h4, toks := t4 } := by
          rw [hf]
          refine HandSPX.setFlight_upZ fl fun h5 hh5 up5 => wpAny_throw (tk _ _ ?_)
          exact ⟨a, B, sI, pins, σ', H', cls, d, rfl, J, nb, (up.trans u4).trans up5, .inr (.inr (by rw [hs]; exact hh5)), na, os, ag, w1⟩
        first
          | exact wpAny_bind (wpAny_pure (wpAny_bind fin))
          | exact wpAny_bind fin
      | @cons e g ts b₀ suite p hds2 l2 hc hsu r ih =>
        intro w1 h4 t4 fl u4
        obtain ⟨b, hb1, hyes, hno⟩ := w1
        obtain ⟨J4, oe, he, hz, hd, S4⟩ := at4 (t4 := t4) fl u4
        refine wpAny_handleBy_cons (codeAny_handlers_test ?_) (by intro q; cases q)
        refine hc a oe (X.pn ++ pins) σ' H' _ b S4 he (by rw [hz.1]; exact hb1) _ _ fun h5 t5 k5 => ?_
        have fl5 := flying_kept fl k5
        have u5 : s'.heap.UpToSlots h5 := u4.trans (.of_keeps k5)
        cases b with
        | true =>
          refine codeAny_handlers_suite ?_
          refine HandSPX.lands_againZ fl5 fun h6 fl6 up6 => ?_
          obtain ⟨J6, oe6, he6, hz6, hd6, S6⟩ := at4 (t4 := t5) fl6 (u5.trans up6)
          refine wpAny_mono ((hsu a oe6 cls d (X.pn ++ pins) hz6 hd6).run [] _ _ H' _ S6 (hyes rfl a na)) (fun f s7 hsp => ?_) (fun _ _ z => False.elim z)
          cases f with
          | ret u =>
            obtain ⟨v7, σ7, H7, S7, r7, q7⟩ := hsp
            exact ⟨_, _, _, S7.unsuite ok, r7, q7⟩
          | next =>
            obtain ⟨σ7, H7, S7, q7⟩ := hsp
            exact ⟨_, _, S7.unsuite ok, q7⟩
          | brk =>
            obtain ⟨σ7, H7, S7, q7⟩ := hsp
            exact ⟨_, _, S7.unsuite ok, q7⟩
          | cont =>
            obtain ⟨σ7, H7, S7, q7⟩ := hsp
            exact ⟨_, _, S7.unsuite ok, q7⟩
        | false =>
          show wpAny _ X.A (handleBy (.ref a) X.env hds2) _ _ _
          exact ih (hno rfl) h5 t5 fl5 u5
    exact go hh w0 h3 s'.toks fl3 up3
  · cases f with
    | ret u =>
      obtain ⟨v, σ', H', J', r, q⟩ := hsp
      exact ⟨v, σ', H', J'.ofTry ok, r, q⟩
    | next =>
      obtain ⟨σ', H', J', q⟩ := hsp
      exact wpAny_execs_nil ⟨σ', H', J'.ofTry ok, q⟩
    | brk =>
      obtain ⟨σ', H', J', q⟩ := hsp
      exact ⟨σ', H', J'.ofTry ok, q⟩
    | cont =>
      obtain ⟨σ', H', J', q⟩ := hsp
      exact ⟨σ', H', J'.ofTry ok, q⟩
end

/-! ### facts of a class from its object -/
section
variable {K : W.Frag} {C D : Addr} {nm q : Str} {N : Addr} {bs bm : List Value} {sn : List Str} {sub : List Value} {ab : Bool} {col : Option Bool} {dd : Option Addr} {k0 k1 k2 k3 k5 : Option Value} {newId B initId : String} {t : List Value}
/-- the class object of an exception class: its chain and its maker -/
def XObj (K : W.Frag) (C : Addr) (bm : List Value) (newId : String) : Prop := ∃ nm q N bs sn sub ab col dd k0 k1 k2 k3 k5, K.lookup C = some (excClassObj nm q C N bs bm true sn sub ab col dd k0 k1 k2 k3 k5 newId)
theorem XObj.mk (x : K.lookup C = some (excClassObj nm q C N bs bm true sn sub ab col dd k0 k1 k2 k3 k5 newId)) : XObj K C bm newId := ⟨_, _, _, _, _, _, _, _, _, _, _, _, _, _, x⟩
theorem XObj.cls (x : XObj K C bm newId) : ∃ cd, W.clsIn K C = some cd ∧ cd.mro = .ref C :: bm ∧ cd.hasDict = true := by
  obtain ⟨_, _, _, _, _, _, _, _, _, _, _, _, _, _, e⟩ := x
  unfold W.clsIn
  rw [e]
  exact ⟨_, rfl, rfl, rfl⟩
theorem XObj.ty (x : XObj K C bm newId) : W.typeIn K (.ref C) = some (.type "type") := by
  obtain ⟨_, _, _, _, _, _, _, _, _, _, _, _, _, _, e⟩ := x
  show (K.lookup C).map (·.cls) = _
  rw [e]
  rfl
theorem XObj.mroIn (x : XObj K C bm newId) (b : Value) : W.mroIn K C b = some ((Value.ref C :: bm).contains b) := by
  obtain ⟨cd, e, m, _⟩ := x.cls
  unfold W.mroIn
  rw [e, Option.bind_some, m]
  rfl
theorem XObj.dict (x : XObj K C bm newId) : W.hasDictIn K C = true := by
  obtain ⟨cd, e, _, d⟩ := x.cls
  unfold W.hasDictIn
  rw [e]
  exact d
theorem has_cons {b : String} (h : bm.contains (.type b) = true) : (Value.ref C :: bm).contains (.type b) = true := by
  rw [List.contains_cons, h, Bool.or_true]
theorem XObj.excC (x : XObj K C bm newId) (hb : bm.contains (.type "BaseException") = true) (ho : bm.contains (.type "object") = true)
    (hg : W.findIn K (.ref C) "__getattribute__" = some (some (.builtin "BaseException.__getattribute__"))) (hk : W.findIn K (.ref C) "__getattr__" = some none) (ha : W.findIn K (.ref C) "__class__" = some (some (.builtin "object.__class__")))
    (hn : W.specialIn K (.builtin "object.__class__") "__get__" = some (some (.builtin "getset_descriptor.__get__"))) (ht : W.takesIn K (.builtin "object.__class__") = some true) : ExcC K C :=
  ⟨hg, hk, (x.mroIn _).trans (congrArg some (has_cons hb)), x.dict, ha, hn, ht, (x.mroIn _).trans (congrArg some (has_cons ho))⟩
theorem XObj.cls1 {t0 : List Value} (x : XObj K C bm newId) (F : ExcBaseFacts B newId initId t0) (h3 : bm.contains (.type B) = true ∧ bm.contains (.type "AttributeError") = false ∧ bm.contains (.type "NameError") = false) (hm : endsIn t bm = true) (hl : Lets t) (ho : t.contains (.type "object") = true) (hne : t ≠ []) (hb : bm.contains (.type "BaseException") = true)
    (sa : W.findIn K (.ref C) "__setattr__" = some (some (.builtin "object.__setattr__"))) (kC : W.keepIn K (.ref C) = true) : Cls1 K C := by
  have ty := x.ty
  have ex : W.subIn K (.ref C) (.type "BaseException") = some true := (x.mroIn _).trans (congrArg some (has_cons hb))
  obtain ⟨a1, a2, a3, a4, a5, a6, a7, a8, a9, b0, b1, b2, b3, b5, e⟩ := x
  exact ⟨⟨_, _, _, _, _, _, _, _, _, _, _, _, _, _, _, B, newId, initId, t0, t, e, F, h3, hm, hl, ho, hne⟩, sa, ex, ty, kC⟩
theorem XObj.kit {bm' : List Value} {n' : String} (x : XObj K D bm newId) (y : XObj K C bm' n') : W.kitOne K (.ref D) (.ref C) = some ((Value.ref D :: bm).contains (.ref C)) := by
  obtain ⟨cd, e, _⟩ := y.cls
  unfold W.kitOne W.kitCls
  by_cases h : D = C
  · subst h
    simp
  · have h1 : (Value.ref D == Value.ref C) = false := by simpa using h
    have h2 : ((W.clsIn K C).isSome && W.typeIn K (.ref C) == some (.type "type")) = true := by
      rw [e, y.ty]
      rfl
    rw [if_neg (by rw [h1]; decide)]
    dsimp only
    rw [if_pos h2]
    exact x.mroIn _
theorem XObj.kitT {T : String} (x : XObj K D bm newId) (h : W.kitMeta T = true) : W.kitOne K (.ref D) (.type T) = some (bm.contains (.type T)) := by
  unfold W.kitOne W.kitCls
  rw [if_neg (by simp)]
  dsimp only
  rw [if_pos h]
  refine (x.mroIn _).trans (congrArg some ?_)
  rw [List.contains_cons]
  rfl
theorem XObj.exm {bm' : List Value} {n' : String} (x : XObj K D bm newId) (y : XObj K C bm' n') (hb : bm'.contains (.type "BaseException") = true) : W.exmOne K (.ref D) (.ref C) = some ((Value.ref D :: bm).contains (.ref C)) := by
  have h1 : (W.subIn K (.ref C) (.type "BaseException") == some true) = true := by
    rw [show W.subIn K (.ref C) (.type "BaseException") = some true from (y.mroIn _).trans (congrArg some (has_cons hb))]
    rfl
  obtain ⟨cd, e, _⟩ := y.cls
  have h2 : ((W.clsIn K C).isSome && W.typeIn K (.ref C) == some (.type "type")) = true := by
    rw [e, y.ty]
    rfl
  unfold W.exmOne W.kitCls
  rw [if_pos h1]
  dsimp only
  rw [if_pos h2]
  exact x.mroIn _
theorem XObj.exmT {T : String} (x : XObj K D bm newId) (h : W.kitMeta T = true) (hb : (fastBuiltinMro T).map (·.contains (.type "BaseException")) = some true) : W.exmOne K (.ref D) (.type T) = some (bm.contains (.type T)) := by
  unfold W.exmOne W.kitCls
  rw [if_pos (by show ((fastBuiltinMro T).map (·.contains (.type "BaseException")) == some true) = true; rw [hb]; rfl)]
  dsimp only
  rw [if_pos h]
  refine (x.mroIn _).trans (congrArg some ?_)
  rw [List.contains_cons]
  rfl
end
end Exs

set_option Elab.async false
set_option linter.all false
set_option maxRecDepth 100000
set_option maxHeartbeats 4000000
/-! repr of data; calls where it is known that no repr is under way. -/
namespace Rp
open PySem PySem.Spec PyProof.Rows L2
/-- a key of a dict as data -/
def kD : Key → PyData
  | .inl i => .int i
  | .inr x => .str x
mutual
/-- no list, no dict -/
def flatT : PyData → Bool
  | .none | .bool _ | .int _ | .str _ => true
  | .tuple xs => flatsT xs
  | .list _ | .dict _ => false
def flatsT : List PyData → Bool
  | [] => true
  | x :: xs => flatT x && flatsT xs
end
mutual
/-- what is read as data; a dict stands alone, its values flat or tuples -/
inductive Dat (K : W.Frag) (H : Hp) : V → PyData → Prop
  | non : Dat K H .non .none
  | bl (b : Bool) : Dat K H (.bl b) (.bool b)
  | int (i : Int) : Dat K H (.int i) (.int i)
  | str (x : Str) : Dat K H (.str x) (.str x)
  | lst {a : Addr} {xs : List V} {ds : List PyData} : SqL K H a xs → DatAll K H xs ds → PyData.hasDictAll ds = false → Dat K H (.ref a) (.list ds)
  | tup {a : Addr} {xs : List V} {ds : List PyData} : SqT K H a xs → DatAll K H xs ds → PyData.hasDictAll ds = false → Dat K H (.ref a) (.tuple ds)
  | dic {a : Addr} {ks : List (Key × V)} {ds : List PyData} : Rd H a (.dK ks) → DatAll K H (ks.map (·.2)) ds → flatsT ds = true → Dat K H (.ref a) (.dict ((ks.map fun p => kD p.1).zip ds))
inductive DatAll (K : W.Frag) (H : Hp) : List V → List PyData → Prop
  | nil : DatAll K H [] []
  | cons {v : V} {vs : List V} {d : PyData} {ds : List PyData} : Dat K H v d → DatAll K H vs ds → DatAll K H (v :: vs) (d :: ds)
end
theorem DatAll.len {K : W.Frag} {H : Hp} : ∀ {vs : List V} {ds : List PyData}, DatAll K H vs ds → vs.length = ds.length
  | _, _, .nil => rfl
  | _, _, .cons _ t => congrArg (· + 1) (DatAll.len t)
theorem pairs_vals {P : Program} {w : World} : ∀ {es : List DictEntry} {kvs : List (Key × Value)}, Pairs (mixKind P w) es kvs → es.map (·.val) = kvs.map (·.2)
  | _, _, .nil => rfl
  | _, _, .cons _ h t => by rw [List.map_cons, List.map_cons, pairs_vals t, h]
theorem kvs_vals : ∀ {ks : List (Key × V)} {vs : List (Key × Value)}, KV ks vs → Vals (ks.map (·.2)) (vs.map (·.2))
  | _, _, .nil => .nil
  | _, _, .cons r t => .cons r.2 (kvs_vals t)
theorem key_reads {h : Heap} {k : Key} {v : Value} (e : keyIs k v = true) : Reads h v (kD k) [] := by
  rcases keyIs_shape e with ⟨i, t, rfl, rfl⟩ | ⟨x, t, rfl, rfl⟩
  · exact .int i t
  · exact .str x t
theorem keys_reads {P : Program} {w : World} {h : Heap} : ∀ {es : List DictEntry} {vs : List (Key × Value)} {ks : List (Key × V)}, Pairs (mixKind P w) es vs → KV ks vs → ReadsAll h (es.map (·.key)) (ks.map fun p => kD p.1) []
  | _, _, _, .nil, .nil => .nil
  | _, _, _, .cons hk _ t, .cons r t' => by
    have e := r.1
    have q := keys_reads (h := h) t t'
    exact ReadsAll.cons (as := []) (bs := []) (key_reads (by rw [e]; exact hk)) q
theorem zip_fst {α β : Type} : ∀ {l : List α} {m : List β}, l.length = m.length → (l.zip m).map (·.1) = l
  | [], [], _ => rfl
  | a :: l, b :: m, h => by rw [List.zip_cons_cons, List.map_cons, zip_fst (Nat.succ.inj h)]
theorem zip_snd {α β : Type} : ∀ {l : List α} {m : List β}, l.length = m.length → (l.zip m).map (·.2) = m
  | [], [], _ => rfl
  | a :: l, b :: m, h => by rw [List.zip_cons_cons, List.map_cons, zip_snd (Nat.succ.inj h)]
mutual
theorem flat_none {h : Heap} : ∀ {d : PyData} {u : Value} {as : List Addr}, Reads h u d as → flatT d = true → as = []
  | _, _, _, .none, _ => rfl
  | _, _, _, .bool _, _ => rfl
  | _, _, _, .int _ _, _ => rfl
  | _, _, _, .str _ _, _ => rfl
  | _, _, _, .tuple _ _ _ t, f => flats_none t (by rw [flatT] at f; exact f)
  | _, _, _, .list _ _ _ _, f => by rw [flatT] at f; cases f
  | _, _, _, .dict _ _ _ _ _, f => by rw [flatT] at f; cases f
theorem flats_none {h : Heap} : ∀ {ds : List PyData} {us : List Value} {as : List Addr}, ReadsAll h us ds as → flatsT ds = true → as = []
  | _, _, _, .nil, _ => rfl
  | _, _, _, .cons r t, f => by
    rw [flatsT, Bool.and_eq_true] at f
    rw [flat_none r f.1, flats_none t f.2]
    rfl
end
section
variable {X : Cx} {pins : List (Addr × Obj)} {σ : L2.St} {H : Hp} {s : Shared}
mutual
theorem Dat.reads (I : Inv X pins σ H s) : ∀ (d : PyData) (v : V) (u : Value), Dat X.K H v d → RelV v u → ∃ as, Reads s.heap u d as ∧ (d.hasDict = true → sysModules ∉ as)
  | _, _, _, .non, r => by cases r; exact ⟨_, .none, fun z => by cases z⟩
  | _, _, _, .bl b, r => by cases r; exact ⟨_, .bool b, fun z => by cases z⟩
  | _, _, _, .int i, r => by obtain ⟨t, rfl⟩ := r; exact ⟨_, .int i t, fun z => by cases z⟩
  | _, _, _, .str x, r => by obtain ⟨t, rfl⟩ := r; exact ⟨_, .str x t, fun z => by cases z⟩
  | _, _, _, .lst (ds := ds) hs ha hn, r => by
    cases r
    obtain ⟨its, rv, ⟨o, n, ho, hc, _, hd⟩, _⟩ := I.list hs
    obtain ⟨as, hr⟩ := DatAll.reads I ds _ its ha rv
    exact ⟨_, .list ho hc hd hr, fun z => by rw [PyData.hasDict, hn] at z; cases z⟩
  | _, _, _, .tup (ds := ds) hs ha hn, r => by
    cases r
    obtain ⟨its, rv, ⟨o, ho, hc, n, hd⟩, _⟩ := I.tuple hs
    obtain ⟨as, hr⟩ := DatAll.reads I ds _ its ha rv
    exact ⟨_, .tuple ho hc hd hr, fun z => by rw [PyData.hasDict, hn] at z; cases z⟩
  | _, _, _, .dic (ks := ks) (ds := ds) hs ha hn, r => by
    cases r
    obtain ⟨_, hm, vs, rv, o, es, ep, ho, hx, hd, _, hp, _⟩ := hs.ok I.hok
    have hl : (ks.map fun p => kD p.1).length = ds.length := by
      rw [List.length_map, ← ha.len, List.length_map]
    obtain ⟨bs, hr⟩ := DatAll.reads I ds _ _ ha (kvs_vals rv)
    have h1 : ReadsAll s.heap (es.toList.map (·.key)) (((ks.map fun p => kD p.1).zip ds).map (·.1)) [] := by
      rw [zip_fst hl]
      exact keys_reads hp rv
    have h2 : ReadsAll s.heap (es.toList.map (·.val)) (((ks.map fun p => kD p.1).zip ds).map (·.2)) bs := by
      rw [zip_snd hl, pairs_vals hp]
      exact hr
    have hb : bs = [] := flats_none hr hn
    subst hb
    refine ⟨_, .dict ho hx.1 hd h1 h2, fun _ z => ?_⟩
    rcases List.mem_append.mp z with z | z
    · rw [← List.mem_singleton.mp z] at hm
      exact absurd hm (by decide)
    · cases z
theorem DatAll.reads (I : Inv X pins σ H s) : ∀ (ds : List PyData) (vs : List V) (us : List Value), DatAll X.K H vs ds → Vals vs us → ∃ as, ReadsAll s.heap us ds as
  | _, _, _, .nil, r => by cases r; exact ⟨_, .nil⟩
  | _, _, _, .cons h t, r => by
    cases r with
    | cons r1 r2 =>
      obtain ⟨as, q1, _⟩ := Dat.reads I _ _ _ h r1
      obtain ⟨bs, q2⟩ := DatAll.reads I _ _ _ t r2
      exact ⟨_, .cons q1 q2⟩
end
end
/-- what can be shown, and is not too long -/
def Fits (d : PyData) : Prop := d.showable = true ∧ d.depth ≤ 60 ∧ ∃ B, 8 ≤ B ∧ d.leavesShort B = true ∧ (B + 2) * d.weight + B ≤ sizeLine
theorem Fits.len {d : PyData} (h : Fits d) : d.shown.length ≤ sizeLine := by
  obtain ⟨_, _, B, hB, hl, hw⟩ := h
  exact Nat.le_trans (PyData.shown_le B hB d hl) hw
/-- repr(x) -/
def rRepr (K : W.Frag) : List V → Hp → VK → Prop := fun xs H Q => ∃ x d, xs = [x] ∧ Dat K H x d ∧ Fits d ∧ Q (.str d.shown) H
theorem call_repr {X : Cx} (hg : X.A.guards = some []) (hu : X.A.units + 64 < cLine) : CallR X (.builtin "repr") (rRepr X.K) := by
  intro pins s σ H xs us Q I r h
  obtain ⟨x, d, rfl, hd, hf, q⟩ := h
  obtain ⟨u, rfl, r1⟩ := vals1 r
  obtain ⟨as, hr, hm⟩ := Dat.reads I d x u hd r1
  have hz := hf.len
  have fin : ∀ h' t tk, (∀ b o, s.heap.get? b = some o → h'.get? b = some o) → EP X pins σ Q (.str d.shown t) { s with heap := h', toks := tk } := fun h' t tk k => ⟨.str d.shown, H, I.kept k, ⟨t, rfl⟩, q⟩
  have keep : ∀ b o, s.heap.get? b = some o → s.heap.get? b = some o := fun _ _ z => z
  obtain ⟨hs, hdp, _⟩ := hf
  have ref : ∀ {a : Addr}, u = .ref a → wpAny (model X.prog X.w) X.A (call (.builtin "repr") [u]) (EP X pins σ Q) X.xe s := by
    rintro a rfl
    exact repr_of_reads' hr hs hm hg (by omega) keep (fun h' t tk k => fin h' t tk k) hz
  cases hd with
  | non => cases r1; exact PySem.P.repr_of_none (fin s.heap _ _ keep)
  | bl b => cases r1; exact PySem.P.repr_of_bool (fin s.heap _ _ keep)
  | int i =>
    obtain ⟨t, rfl⟩ := r1
    exact PySem.P.repr_of_int (by simpa [PyData.showable] using hs) (fin s.heap _ _ keep)
  | str y =>
    obtain ⟨t, rfl⟩ := r1
    exact PySem.P.repr_of_str (fin s.heap _ _ keep) hz
  | lst _ _ _ => cases r1; exact ref rfl
  | tup _ _ _ => cases r1; exact ref rfl
  | dic _ _ _ => cases r1; exact ref rfl
end Rp

/-! ### calls where no repr is under way -/
namespace Rp
open PySem PySem.Spec PyProof.Rows L2
/-- a def's promise, wherever no repr is under way -/
structure FnG (P : Program) (w : World) (K : W.Frag) (mg : Str → Option Value) (base : Heap) (CX : CXT) (k : Nat) (f : Addr) (fd : FuncData) (ps : List Str) (sp : Sp) : Prop where
  len : ∀ vs H Q E, sp vs H Q E → vs.length = ps.length
  run : ∀ (A : Around) (outer : List Env) (s : Shared) (H : Hp) (args : Args) (us : List Value) (vs : List V) (Q : VK) (E : XK), Room k A → A.guards = some [] → Env0 P w K mg base A outer s H → BindsTo s fd args (ps.zip us) → Vals vs us → sp vs H Q E →
    codeAny (model P w) A (.call (.ref f) args) (CR CX outer P w H s Q E) s
section
variable {P : Program} {w : World} {K : W.Frag} {mg : Str → Option Value} {base : Heap} {CX : CXT} {k j : Nat} {f : Addr} {fd : FuncData} {N ps : List Str} {sp : Sp} {x qual : Str} {st : Stmt}
theorem FnG.of (F : FnOk P w K mg base CX k f fd ps sp) : FnG P w K mg base CX k f fd ps sp := ⟨F.len, fun A outer s H args us vs Q E hr _ => F.run A outer s H args us vs Q E hr⟩
theorem FnG.mono (F : FnG P w K mg base CX j f fd ps sp) (h : j ≤ k) : FnG P w K mg base CX k f fd ps sp := ⟨F.len, fun A outer s H args us vs Q E hr => F.run A outer s H args us vs Q E (hr.mono h)⟩
/-- a def by its body -/
theorem okG (F : Fun K x qual st f fd) (S : FnScope N ps (defScope st)) (len : ∀ vs H Q E, sp vs H Q E → vs.length = ps.length)
    (hbody : ∀ (cdv : Value) (A : Around) (outer : List Env) (s : Shared) (H : Hp) (vs : List V) (Q : VK) (E : XK), Room k (A.deeper (envOfC qual (defScope st) s.heap.objs.size f cdv)) → A.guards = some [] → sp vs H Q E →
      ∃ t, PSs (cxOf CX0 P w K mg base N qual (defScope st) f cdv A outer s H E).nox (defBody st) t ∧ t { nx := fun _ H' => Q .non H', rt := Q } (L2.start N vs) H) : FnG P w K mg base CX0 (k + 1) f fd ps sp := by
  obtain ⟨oc, od, kV, doc, pm, an, cdv, ct, osl, rfl, lk, hcd⟩ := F.ex
  refine ⟨len, fun A outer s H args us vs Q E hr hg e0 hb r hsp => ?_⟩
  have inK : K.In s.heap := e0.mod.kin.keeps fun b o z => (e0.bs b o z).1
  have noL : s.heap.NoLimit := e0.mod.nolimit.keeps fun b o z => (e0.bs b o z).1
  have kinds : ∀ y ∈ ps.zip us, (defScope st).names.lookup y.1 = some .local ∨ ((defScope st).names.lookup y.1 = some .cell ∧ ((cellsFrom (s.heap.objs.size + 1) (defScope st).names []).lookup y.1).isSome = true) := by
    rintro ⟨n, v⟩ hy
    rcases S.par n (List.of_mem_zip hy).1 with q | q
    · exact .inl q
    · exact .inr ⟨q, W.cellsFrom_some _ _ _ (.inl q)⟩
  refine codeAny_call_function hr.depth (inK _ _ lk) rfl S.co S.gen rfl (W.codeRec_of inK hcd) (hb _ _ _ _ ?_)
  refine wpAny_newFunctionEnv_cells S.kind kinds fun env he s1 z => ?_
  subst he
  refine ⟨noL.keeps z.toInCall.keep, codeAny_func ?_⟩
  obtain ⟨t, ht, q⟩ := hbody cdv A outer s H vs Q E (hr.deeper _) hg hsp
  have I : Inv (cxOf CX0 P w K mg base N qual (defScope st) f cdv A outer s H E) [] (L2.start N vs) H s1 := inv_start S hr.hd e0 (len _ _ _ _ hsp) r z
  refine wpAny_mono (ht.nox.run [] s1 (L2.start N vs) H _ I q) (fun fl s' hs => ?_) fun _ _ hs => hs
  cases fl with
  | next =>
    obtain ⟨σ', H', J, q⟩ := hs
    exact ⟨V.non, H', J.os, J.bare, J.base, J.hok, rfl, q⟩
  | ret u =>
    obtain ⟨v, σ', H', J, rv, q⟩ := hs
    exact ⟨v, H', J.os, J.bare, J.base, J.hok, rv, q⟩
  | brk =>
    obtain ⟨_, _, _, q⟩ := hs
    exact q.elim
  | cont =>
    obtain ⟨_, _, _, q⟩ := hs
    exact q.elim
end
section
variable {X : Cx} {CX : CXT} {k : Nat} {f : Addr} {fd : FuncData} {ps : List Str} {sp : Sp} {E : XK} {x : Str} {p pos : Pos} {e : Expr} {es : List Expr} {t : TA}
theorem pe_callG (F : FnG X.prog X.w X.K X.mg X.base CX k f fd ps sp) (hr : Room k X.A) (hG : X.A.guards = some []) (hg : Gl X x) (hm : X.mg x = some (.ref f)) (hk : W.keepIn X.K (.ref f) = true) (hb : Binds X.K fd ps []) (hx : Passes CX X E)
    (ha : PA X (e :: es) t) (hdb : (x == ("__debug__" : Str)) = false := by decide) (he : starEach (e :: es) X.env = (false, eval e X.env) :: starEach es X.env := by rfl) (hpl : (backTo pos (starEach es X.env)).any (·.1) = false := by rfl) :
    PE X (.Call (.Name x p) (e :: es) [] pos) (tCall sp [] E t) := by
  refine ⟨fun pins s σ H Q I h => wpAny_Call_Name_kw (ld_glob I hg hm ?_ hdb)⟩
  refine W.callWith_K (h₀ := X.base) I.ok.mod.kin hk (thn (ha.run pos pins s σ H _ I h) ?_) he hpl
  rintro us s1 ⟨vs, H1, I1, r, q⟩
  rw [List.append_nil] at q
  have b := hb s1 us I1.kIn (by rw [List.append_nil, ← r.length]; exact F.len _ _ _ _ q)
  rw [List.append_nil] at b
  refine ⟨I1.kIn, wpAny_call (codeAny_mono (F.run X.A X.stack s1 H1 ⟨us, []⟩ us vs Q E hr hG I1.env0 b r q) fun r s' z => ?_)⟩
  cases r with
  | error e => exact hx pins σ H1 s1 e s' I1 z
  | ok fl =>
    cases fl with
    | ret u => exact I1.after z
    | next => exact z.elim
    | brk => exact z.elim
    | cont => exact z.elim
end
/-- the end of a law: its promise from the heap behind the top -/
theorem law_callG {P : Program} {w : World} {K : W.Frag} {mg mb : Str → Option Value} {k : Nat} {fa a : Addr} {fd : FuncData} {x : Str} {sp : Sp} {s₁ : Shared} {vs : List Value} {ns : List Int}
    (KX : K.In s₁.heap) (hns : s₁.heap.Ns mainGlobals mg) (hb : s₁.heap.Ns builtinsNs mb) (hbb : ∀ x : Str, x ≠ "__name__" → mb x = bootBuiltins x) (hlim : s₁.heap.NoLimit) (hg : s₁.gens = #[])
    (ha : s₁.heap.get? a = some { cls := .type "list", data := .seq vs.toArray }) (hi : IntsAre vs ns) (hl : ns.length ≤ sizeLine) (hr : Room k callerA)
    (F : ∀ base : Heap, K.In base → base.Ns mainGlobals mg → FnG P w K mg base CX0 k fa fd [x] sp) (hbind : ∀ (s : Shared) (u : Value), BindsTo s fd ⟨[u], []⟩ [(x, u)])
    (hsp : ∀ H : Hp, SqL K H a (ns.map V.int) → sp [.ref a] H (fun v _ => v = .bl true) fun _ _ _ => False) :
    codeAny (model P w) callerA (.call (.ref fa) ⟨[.ref a], []⟩) (fun r s' => r = .ok (.ret (.bool true)) ∧ OldK s₁.heap s'.heap ∧ s'.os = s₁.os ∧ AllBare s'.gens) s₁ := by
  have rv := vals_ints hi
  let oS : Obj := { cls := .type "list", data := .seq vs.toArray }
  -- H0 tracks the script, or nothing
  have go : ∀ H0 : Hp, (∀ b u, H0 b = some u → b = a ∧ ∃ zs, u = .frz oS (.lst zs) ∧ zs.length ≤ sizeLine ∧ Vals zs vs) → (∀ o, K.lookup a = some o → H0 a = none) → SqL K H0 a (ns.map V.int) →
      codeAny (model P w) callerA (.call (.ref fa) ⟨[.ref a], []⟩) (fun r s' => r = .ok (.ret (.bool true)) ∧ OldK s₁.heap s'.heap ∧ s'.os = s₁.os ∧ AllBare s'.gens) s₁ := by
    intro H0 hA hK hS
    have ok : HOk P w H0 s₁.heap := fun b u z => by
      obtain ⟨rfl, zs, rfl, h1, h2⟩ := hA b u z
      exact ⟨ha, h1, vs, _, h2, ha⟩
    have low : ∀ {b : Addr} {o : Obj}, s₁.heap.get? b = some o → o.cls ≠ .type "list" → H0 b = none := fun {b o} z hc => by
      cases e : H0 b with
      | none => rfl
      | some u =>
        obtain ⟨rfl, _⟩ := hA b u e
        rw [ha] at z
        cases z
        exact absurd rfl hc
    have ns0 : ∀ {b : Addr} {m : Str → Option Value}, s₁.heap.Ns b m → (hidT s₁.heap H0).Ns b m := by
      rintro b m ⟨o, es, ep, z, d, r⟩
      refine ⟨o, es, ep, hidT_get z ?_, d, r⟩
      cases e : H0 b with
      | none => rfl
      | some u =>
        obtain ⟨rfl, _⟩ := hA b u e
        rw [ha] at z
        cases z
        cases d
    have kIn : K.In (hidT s₁.heap H0) := fun b o z => by
      refine hidT_get (KX b o z) ?_
      cases e : H0 b with
      | none => rfl
      | some u =>
        obtain ⟨rfl, _⟩ := hA b u e
        rw [hK o z] at e
        cases e
    have M : Mod K mg (hidT s₁.heap H0) := by
      obtain ⟨mc, h1, h2⟩ := hlim
      exact ⟨kIn, ns0 hns, ⟨mb, ns0 hb, hbb⟩, mc, ns0 h1, h2⟩
    have nofr : ∀ b, b ∉ frs [] := fun b z => by cases z
    have e0 : Env0 P w K mg (hidT s₁.heap H0) callerA [] s₁ H0 := ⟨rfl, M, fun b o z => of_hidT z, Nat.le_of_eq (hidT_size _ _), trivial, fun b z => absurd z (nofr b), ok, .of_eq hg⟩
    refine codeAny_mono ((F _ kIn (ns0 hns)).run callerA [] s₁ H0 ⟨[.ref a], []⟩ [.ref a] [.ref a] _ _ hr rfl e0 (hbind s₁ (.ref a)) (.cons rfl .nil) (hsp H0 hS)) fun r s' z => ?_
    cases r with
    | error e => exact False.elim z
    | ok fl =>
      cases fl with
      | next => exact z.elim
      | brk => exact z.elim
      | cont => exact z.elim
      | ret u =>
        obtain ⟨v, H', os, bare, un, ok', r', rfl⟩ := z
        cases r'
        refine ⟨rfl, .of_keep fun b o z => ?_, os, bare⟩
        cases e : H0 b with
        | none => exact un.keep b o z e (nofr b) (by simp)
        | some u =>
          obtain ⟨rfl, zs, rfl, _⟩ := hA b u e
          obtain ⟨y, _⟩ := ok' b _ (un.frzs b _ _ e)
          rw [ha] at z
          cases z
          exact y
  cases hk : K.lookup a with
  | some o =>
    have z := KX a o hk
    rw [ha] at z
    cases z
    exact go (fun _ => none) (fun b u z => by cases z) (fun _ _ => rfl) (.inr ⟨_, vs.toArray, _, hk, rfl, rfl, rfl, by rw [List.size_toArray, hi.length]; exact hl, by simpa using rv⟩)
  | none =>
    refine go (fun b => if b = a then some (.frz oS (.lst (ns.map V.int))) else none) (fun b u z => ?_) (fun o z => by rw [hk] at z; cases z) (.inl (.inr ⟨oS, if_pos rfl⟩))
    by_cases hb : b = a
    · have z' := (if_pos hb).symm.trans z
      cases z'
      exact ⟨hb, _, rfl, by rw [List.length_map]; exact hl, rv⟩
    · have z' := (if_neg hb).symm.trans z
      cases z'
theorem walk_ofG {l : W.OpenLaw} {n k : Nat} {q : Program} {loose : List Str} {XP : (Str → Option Value) → Heap → Prop} {YP : World → Heap → Prop} {d : DefRec} {K : Params → W.Frag} {sp : W.Frag → Sp} {x : Str}
    (hn : l.most = some n) (hn2 : n ≤ sizeLine) (hdf : d.params.defaults = []) (hr : Room k callerA) (hY : ∀ (w : World) (h : Heap), YP w h → (K w.params).In h)
    (F : ∀ (w : World) (mg : Str → Option Value) (fa : Addr) (h : Heap), (K w.params).In h → h.Ns mainGlobals mg → mg d.name = some (.ref fa) →
      ∃ fd : FuncData, (∀ (s : Shared) (u : Value), BindsTo s fd ⟨[u], []⟩ [(x, u)]) ∧ ∀ base : Heap, (K w.params).In base → base.Ns mainGlobals mg → FnG l.prog w (K w.params) mg base CX0 k fa fd [x] (sp (K w.params)))
    (hsp : ∀ (K : W.Frag) (H : Hp) (a : Addr) (ns : List Int), ns.length ≤ n → SqL K H a (ns.map V.int) → sp K [.ref a] H (fun v _ => v = .bl true) fun _ _ _ => False) :
    W.WalkO q loose XP YP l.row.toRowW d [] (fun f vs => PySem.call f vs) := by
  refine Att.attach_call hn hdf fun w s₀ s₁ mg mb fa o pm cd doc a vs ns G Y ho hd hcd hmg hobj hints hlen hg => ?_
  obtain ⟨fd, hb, hF⟩ := F w mg fa _ (hY w _ Y) G.T.g hmg
  exact law_callG (hY w _ Y) G.T.g G.T.b G.T.builtins G.T.nolimit hg hobj hints (Nat.le_trans hlen hn2) hr hF hb fun H hS => hsp _ H a ns hlen hS
end Rp

set_option Elab.async false
set_option linter.all false
set_option maxRecDepth 100000
set_option maxHeartbeats 4000000
open L2 in
local macro_rules | `(tactic| walk_at "r1") => `(tactic| first
  | refine ⟨_, rfl, ?_⟩
  | refine ⟨_, _, rfl, rfl, ?_⟩
  | refine And.intro (show CMul _ _ from Or.inr ⟨by decide, by decide⟩) ?_
  | refine And.intro (show CMul _ _ from Or.inl ⟨by first | decide | omega, by first | decide | omega⟩) ?_
  | refine And.intro (show CMul _ _ from Or.inr ⟨by omega, by omega⟩) ?_
  | refine And.intro (show CDiv _ _ from ⟨by omega, by omega⟩) ?_
  | refine And.intro (show Dt.CPowG _ _ from ⟨by decide, by decide +kernel⟩) ?_
  | refine And.intro (by first | decide | omega) ?_
  | refine And.intro (Int.pow_pos (Int.pow_pos (by decide))) ?_
  | refine ⟨_, _, _, _, rfl, rfl, SqL.of (by first | assumption | exact upd_same), (by rfl), ?_⟩
  | refine ⟨_, _, _, _, rfl, rfl, (by first | assumption | exact upd_same), (by rfl), ?_⟩
  | refine Or.inl ⟨_, rfl, ?_⟩
  | refine Or.inr ⟨_, rfl, ?_⟩)
local macro_rules | `(tactic| walk_at "r") => `(tactic| repeat (walk_at "r1"))
local macro_rules | `(tactic| walk_at "eqt") => `(tactic| (refine ⟨_, rfl, ?_⟩; refine ⟨rfl, ?_⟩; first
  | (refine ⟨true, rfl, ?_⟩; refine L2.iteT ?_)
  | (refine ⟨false, rfl, ?_⟩; refine L2.iteF ?_)))
local macro_rules | `(tactic| walk_at "sz") => `(tactic| (rw [PySem.sizeLine_eq]; simp))
namespace K00
open PySem PySem.Spec PyProof.Rows L2 Dt
def topS (i : Nat) : Stmt := PySem.Challenge.pw_dealtrows_k00_errors_and_what_they_keep.main.body.getD i (.Pass ⟨0, 0, 0, 0⟩)
abbrev s_ParseError___init__ : Stmt := inClass (topS 12) 0
abbrev nm_ParseError___init__ : List Str := ["self", "line"]
abbrev ps_ParseError___init__ : List Str := ["self", "line"]
theorem sc_ParseError___init__ : FnScope nm_ParseError___init__ ps_ParseError___init__ (defScope s_ParseError___init__) := ⟨rfl, rfl, rfl, by decide +kernel, rfl, by decide +kernel, by decide +kernel⟩
abbrev s_BrokenConstraint___init__ : Stmt := inClass (topS 13) 0
abbrev nm_BrokenConstraint___init__ : List Str := ["self", "constraint"]
abbrev ps_BrokenConstraint___init__ : List Str := ["self", "constraint"]
theorem sc_BrokenConstraint___init__ : FnScope nm_BrokenConstraint___init__ ps_BrokenConstraint___init__ (defScope s_BrokenConstraint___init__) := ⟨rfl, rfl, rfl, by decide +kernel, rfl, by decide +kernel, by decide +kernel⟩
abbrev s_Rejected___init__ : Stmt := inClass (topS 14) 0
abbrev nm_Rejected___init__ : List Str := ["self", "reason"]
abbrev ps_Rejected___init__ : List Str := ["self", "reason"]
theorem sc_Rejected___init__ : FnScope nm_Rejected___init__ ps_Rejected___init__ (defScope s_Rejected___init__) := ⟨rfl, rfl, rfl, by decide +kernel, rfl, by decide +kernel, by decide +kernel⟩
abbrev s_UnknownName___init__ : Stmt := inClass (topS 15) 0
abbrev nm_UnknownName___init__ : List Str := ["self", "name"]
abbrev ps_UnknownName___init__ : List Str := ["self", "name"]
theorem sc_UnknownName___init__ : FnScope nm_UnknownName___init__ ps_UnknownName___init__ (defScope s_UnknownName___init__) := ⟨rfl, rfl, rfl, by decide +kernel, rfl, by decide +kernel, by decide +kernel⟩
abbrev s_MissingRow___init__ : Stmt := inClass (topS 16) 0
abbrev nm_MissingRow___init__ : List Str := ["self", "row"]
abbrev ps_MissingRow___init__ : List Str := ["self", "row"]
theorem sc_MissingRow___init__ : FnScope nm_MissingRow___init__ ps_MissingRow___init__ (defScope s_MissingRow___init__) := ⟨rfl, rfl, rfl, by decide +kernel, rfl, by decide +kernel, by decide +kernel⟩
abbrev s_NothingToUndo___init__ : Stmt := inClass (topS 17) 0
abbrev nm_NothingToUndo___init__ : List Str := ["self", "many"]
abbrev ps_NothingToUndo___init__ : List Str := ["self", "many"]
theorem sc_NothingToUndo___init__ : FnScope nm_NothingToUndo___init__ ps_NothingToUndo___init__ (defScope s_NothingToUndo___init__) := ⟨rfl, rfl, rfl, by decide +kernel, rfl, by decide +kernel, by decide +kernel⟩
abbrev s_TooMany___init__ : Stmt := inClass (topS 18) 0
abbrev nm_TooMany___init__ : List Str := ["self", "limit"]
abbrev ps_TooMany___init__ : List Str := ["self", "limit"]
theorem sc_TooMany___init__ : FnScope nm_TooMany___init__ ps_TooMany___init__ (defScope s_TooMany___init__) := ⟨rfl, rfl, rfl, by decide +kernel, rfl, by decide +kernel, by decide +kernel⟩
abbrev s_InvalidNumber___init__ : Stmt := inClass (topS 19) 0
abbrev nm_InvalidNumber___init__ : List Str := ["self", "value"]
abbrev ps_InvalidNumber___init__ : List Str := ["self", "value"]
theorem sc_InvalidNumber___init__ : FnScope nm_InvalidNumber___init__ ps_InvalidNumber___init__ (defScope s_InvalidNumber___init__) := ⟨rfl, rfl, rfl, by decide +kernel, rfl, by decide +kernel, by decide +kernel⟩
abbrev s_NoNodes___init__ : Stmt := inClass (topS 20) 0
abbrev nm_NoNodes___init__ : List Str := ["self", "value"]
abbrev ps_NoNodes___init__ : List Str := ["self", "value"]
theorem sc_NoNodes___init__ : FnScope nm_NoNodes___init__ ps_NoNodes___init__ (defScope s_NoNodes___init__) := ⟨rfl, rfl, rfl, by decide +kernel, rfl, by decide +kernel, by decide +kernel⟩
abbrev s__law_dice : Stmt := topS 22
abbrev nm__law_dice : List Str := ["_law_script", "_law_spot", "_law_cell", "_law_whole"]
abbrev ps__law_dice : List Str := ["_law_script", "_law_spot"]
theorem sc__law_dice : FnScope nm__law_dice ps__law_dice (defScope s__law_dice) := ⟨rfl, rfl, rfl, by decide +kernel, rfl, by decide +kernel, by decide +kernel⟩
abbrev s__law_roll : Stmt := topS 23
abbrev nm__law_roll : List Str := ["_law_dice_here", "_law_upto", "_law_found", "_law_one", "_law_two"]
abbrev ps__law_roll : List Str := ["_law_dice_here", "_law_upto"]
theorem sc__law_roll : FnScope nm__law_roll ps__law_roll (defScope s__law_roll) := ⟨rfl, rfl, rfl, by decide +kernel, rfl, by decide +kernel, by decide +kernel⟩
abbrev s__law_pick : Stmt := topS 24
abbrev nm__law_pick : List Str := ["_law_dice_here", "_law_items"]
abbrev ps__law_pick : List Str := ["_law_dice_here", "_law_items"]
theorem sc__law_pick : FnScope nm__law_pick ps__law_pick (defScope s__law_pick) := ⟨rfl, rfl, rfl, by decide +kernel, rfl, by decide +kernel, by decide +kernel⟩
abbrev s__law_told : Stmt := topS 25
abbrev nm__law_told : List Str := ["_law_at", "_law_text"]
abbrev ps__law_told : List Str := ["_law_at", "_law_text"]
theorem sc__law_told : FnScope nm__law_told ps__law_told (defScope s__law_told) := ⟨rfl, rfl, rfl, by decide +kernel, rfl, by decide +kernel, by decide +kernel⟩
abbrev s__law_keeper : Stmt := topS 26
abbrev nm__law_keeper : List Str := ["_law_at", "_law_kept_here"]
abbrev ps__law_keeper : List Str := ["_law_at", "_law_kept_here"]
theorem sc__law_keeper : FnScope nm__law_keeper ps__law_keeper (defScope s__law_keeper) := ⟨rfl, rfl, rfl, by decide +kernel, rfl, by decide +kernel, by decide +kernel⟩
abbrev s__law_kept : Stmt := topS 27
abbrev nm__law_kept : List Str := ["_law_at", "_law_found"]
abbrev ps__law_kept : List Str := ["_law_at", "_law_found"]
theorem sc__law_kept : FnScope nm__law_kept ps__law_kept (defScope s__law_kept) := ⟨rfl, rfl, rfl, by decide +kernel, rfl, by decide +kernel, by decide +kernel⟩
abbrev s__law_kinds : Stmt := topS 28
abbrev nm__law_kinds : List Str := ["_law_found", "_law_told_here"]
abbrev ps__law_kinds : List Str := ["_law_found"]
theorem sc__law_kinds : FnScope nm__law_kinds ps__law_kinds (defScope s__law_kinds) := ⟨rfl, rfl, rfl, by decide +kernel, rfl, by decide +kernel, by decide +kernel⟩
abbrev s__law_python : Stmt := topS 29
abbrev nm__law_python : List Str := ["_law_found", "_law_told_here"]
abbrev ps__law_python : List Str := ["_law_found"]
theorem sc__law_python : FnScope nm__law_python ps__law_python (defScope s__law_python) := ⟨rfl, rfl, rfl, by decide +kernel, rfl, by decide +kernel, by decide +kernel⟩
abbrev s__law_truths : Stmt := topS 30
abbrev nm__law_truths : List Str := ["_law_places", "_law_length", "_law_at"]
abbrev ps__law_truths : List Str := ["_law_places", "_law_length"]
theorem sc__law_truths : FnScope nm__law_truths ps__law_truths (defScope s__law_truths) := ⟨rfl, rfl, rfl, by decide +kernel, rfl, by decide +kernel, by decide +kernel⟩
abbrev s__law_raise : Stmt := topS 31
abbrev nm__law_raise : List Str := ["_law_at", "_law_kept_here"]
abbrev ps__law_raise : List Str := ["_law_at", "_law_kept_here"]
theorem sc__law_raise : FnScope nm__law_raise ps__law_raise (defScope s__law_raise) := ⟨rfl, rfl, rfl, by decide +kernel, rfl, by decide +kernel, by decide +kernel⟩
abbrev s__law_caught : Stmt := topS 32
abbrev nm__law_caught : List Str := ["_law_at", "_law_kept_here"]
abbrev ps__law_caught : List Str := ["_law_at", "_law_kept_here"]
theorem sc__law_caught : FnScope nm__law_caught ps__law_caught (defScope s__law_caught) := ⟨rfl, rfl, rfl, by decide +kernel, rfl, by decide +kernel, by decide +kernel⟩
abbrev s__law_word : Stmt := topS 33
abbrev nm__law_word : List Str := ["_law_dice_here", "_law_signs", "_law_turn"]
abbrev ps__law_word : List Str := ["_law_dice_here"]
theorem sc__law_word : FnScope nm__law_word ps__law_word (defScope s__law_word) := ⟨rfl, rfl, rfl, by decide +kernel, rfl, by decide +kernel, by decide +kernel⟩
abbrev s__law_value : Stmt := topS 34
abbrev nm__law_value : List Str := ["_law_dice_here", "_law_number", "_law_some"]
abbrev ps__law_value : List Str := ["_law_dice_here"]
theorem sc__law_value : FnScope nm__law_value ps__law_value (defScope s__law_value) := ⟨rfl, rfl, rfl, by decide +kernel, rfl, by decide +kernel, by decide +kernel⟩
abbrev s__law_messages_right : Stmt := topS 35
abbrev nm__law_messages_right : List Str := ["_law_dice_here", "_law_at", "_law_found"]
abbrev ps__law_messages_right : List Str := ["_law_dice_here"]
theorem sc__law_messages_right : FnScope nm__law_messages_right ps__law_messages_right (defScope s__law_messages_right) := ⟨rfl, rfl, rfl, by decide +kernel, rfl, by decide +kernel, by decide +kernel⟩
abbrev s__law_keepers_right : Stmt := topS 36
abbrev nm__law_keepers_right : List Str := ["_law_dice_here", "_law_python_here", "_law_words", "_law_at", "_law_kept_here", "_law_later", "_law_found", "_law_other"]
abbrev ps__law_keepers_right : List Str := ["_law_dice_here"]
theorem sc__law_keepers_right : FnScope nm__law_keepers_right ps__law_keepers_right (defScope s__law_keepers_right) := ⟨rfl, rfl, rfl, by decide +kernel, rfl, by decide +kernel, by decide +kernel⟩
abbrev s_law : Stmt := topS 37
abbrev nm_law : List Str := ["_law_script", "_law_spot", "_law_dice_here"]
abbrev ps_law : List Str := ["_law_script"]
theorem sc_law : FnScope nm_law ps_law (defScope s_law) := ⟨rfl, rfl, rfl, by decide +kernel, rfl, by decide +kernel, by decide +kernel⟩
structure Ads where
  ParseError___init__ : Addr
  fd_ParseError___init__ : FuncData
  BrokenConstraint___init__ : Addr
  fd_BrokenConstraint___init__ : FuncData
  Rejected___init__ : Addr
  fd_Rejected___init__ : FuncData
  UnknownName___init__ : Addr
  fd_UnknownName___init__ : FuncData
  MissingRow___init__ : Addr
  fd_MissingRow___init__ : FuncData
  NothingToUndo___init__ : Addr
  fd_NothingToUndo___init__ : FuncData
  TooMany___init__ : Addr
  fd_TooMany___init__ : FuncData
  InvalidNumber___init__ : Addr
  fd_InvalidNumber___init__ : FuncData
  NoNodes___init__ : Addr
  fd_NoNodes___init__ : FuncData
  dice : Addr
  fd_dice : FuncData
  roll : Addr
  fd_roll : FuncData
  pick : Addr
  fd_pick : FuncData
  told : Addr
  fd_told : FuncData
  keeper : Addr
  fd_keeper : FuncData
  kept : Addr
  fd_kept : FuncData
  kinds : Addr
  fd_kinds : FuncData
  python : Addr
  fd_python : FuncData
  truths : Addr
  fd_truths : FuncData
  raise : Addr
  fd_raise : FuncData
  caught : Addr
  fd_caught : FuncData
  word : Addr
  fd_word : FuncData
  value : Addr
  fd_value : FuncData
  messages_right : Addr
  fd_messages_right : FuncData
  keepers_right : Addr
  fd_keepers_right : FuncData
  law : Addr
  fd_law : FuncData
  c_InvalidSchema : Addr
  c_InvalidDatabase : Addr
  c_InvalidClause : Addr
  c_InvalidQuery : Addr
  c_InvalidRule : Addr
  c_InvalidPlacement : Addr
  c_InvalidCase : Addr
  c_InvalidRow : Addr
  c_InvalidAnswer : Addr
  c_InvalidOperation : Addr
  c_ParseError : Addr
  c_BrokenConstraint : Addr
  c_Rejected : Addr
  c_UnknownName : Addr
  c_MissingRow : Addr
  c_NothingToUndo : Addr
  c_TooMany : Addr
  c_InvalidNumber : Addr
  c_NoNodes : Addr
  c_DealError : Addr
abbrev veT : List Value := [.type "ValueError", .type "Exception", .type "BaseException", .type "object"]
abbrev keT : List Value := [.type "KeyError", .type "LookupError", .type "Exception", .type "BaseException", .type "object"]
abbrev leT : List Value := [.type "LookupError", .type "Exception", .type "BaseException", .type "object"]
abbrev ieT : List Value := [.type "IndexError", .type "LookupError", .type "Exception", .type "BaseException", .type "object"]
abbrev oeT : List Value := [.type "OverflowError", .type "ArithmeticError", .type "Exception", .type "BaseException", .type "object"]
abbrev reT : List Value := [.type "RuntimeError", .type "Exception", .type "BaseException", .type "object"]
abbrev zeT : List Value := [.type "ZeroDivisionError", .type "ArithmeticError", .type "Exception", .type "BaseException", .type "object"]
/-- the classes in the order in which they are asked -/
def cl (a : Ads) : List Addr := [a.c_InvalidSchema, a.c_InvalidDatabase, a.c_InvalidClause, a.c_InvalidQuery, a.c_InvalidRule, a.c_InvalidPlacement, a.c_InvalidCase, a.c_InvalidRow, a.c_InvalidAnswer, a.c_InvalidOperation, a.c_ParseError, a.c_BrokenConstraint, a.c_Rejected, a.c_UnknownName, a.c_MissingRow, a.c_NothingToUndo, a.c_TooMany, a.c_InvalidNumber, a.c_NoNodes, a.c_DealError]
/-- the field that a class keeps -/
def fld : Nat → Str := fun n => (["line", "constraint", "reason", "name", "row", "many", "limit", "value", "value"] : List Str).getD n "value"
/-- the class of the n-th error that keeps a value -/
def kcl (a : Ads) (n : Nat) : Addr := (cl a).getD (10 + n) 0
/-- the class of the n-th error with a message -/
def tcl (a : Ads) (n : Nat) : Addr := (cl a).getD (if n < 10 then n else 19) 0
def spInit (f : Str) (C : Addr) : Sp := fun vs H Q _ => ∃ (e : Addr) (v : V), vs = [.ref e, v] ∧ H e = some (exo e C none) ∧ ∀ d, H d = none → d ≠ e → Q .non (upd (upd H d (exd d [(f, v)])) e (exo e C (some d)))
def spTold (a : Ads) : Sp := fun vs H Q _ => ∃ (n : Nat) (v : V), vs = [.int (n : Nat), v] ∧ n < 11 ∧ ∀ e, H e = none → Q (.ref e) (upd H e (exo e (tcl a n) none))
/-- an error that keeps v stands at e -/
structure Kept (H H' : Hp) (a : Ads) (n : Nat) (v : V) (e d : Addr) : Prop where
  ne : H e = none
  nd : H d = none
  at_ : H' e = some (exo e (kcl a n) (some d))
  dict : H' d = some (exd d [(fld n, v)])
  keep : ∀ b o, H b = some o → H' b = some o
def spKeeper (a : Ads) : Sp := fun vs H Q _ => ∃ (n : Nat) (v : V), vs = [.int (n : Nat), v] ∧ n < 9 ∧ ∀ e d H', Kept H H' a n v e d → Q (.ref e) H'
def spKept (a : Ads) : Sp := fun vs H Q _ => ∃ (n : Nat) (v : V) (e d : Addr), vs = [.int (n : Nat), .ref e] ∧ n < 9 ∧ H e = some (exo e (kcl a n) (some d)) ∧ H d = some (exd d [(fld n, v)]) ∧ Q v H
/-- a new list of truths -/
def NewL (H : Hp) (Q : VK) (xs : List V) : Prop := ∀ p H', H p = none → H' p = some (.lst xs) → (∀ b o, H b = some o → H' b = some o) → Q (.ref p) H'
def spKinds (K : PySem.W.Frag) (a : Ads) : Sp := fun vs H Q _ => ∃ (e D : Addr) (dx : Option Addr) (tb : Nat → Bool), vs = [.ref e] ∧ Exs.ExAt H e D dx ∧ ExcC K D ∧ (∀ i C, (cl a)[i]? = some C → PySem.W.kitOne K (.ref D) (.ref C) = some (tb i)) ∧ NewL H Q ((List.range 20).map fun i => .bl (tb i))
def pyT : List String := ["ValueError", "KeyError", "IndexError", "LookupError", "ZeroDivisionError", "OverflowError", "ArithmeticError", "RuntimeError"]
def spPython (K : PySem.W.Frag) : Sp := fun vs H Q _ => ∃ (e D : Addr) (dx : Option Addr) (tb : Nat → Bool), vs = [.ref e] ∧ Exs.ExAt H e D dx ∧ ExcC K D ∧ (∀ i t, pyT[i]? = some t → PySem.W.kitOne K (.ref D) (.type t) = some (tb i)) ∧ NewL H Q ((List.range 8).map fun i => .bl (tb i))
def spTruths (K : PySem.W.Frag) : Sp := fun vs H Q _ => ∃ (p : Addr) (ns : List Int) (n : Nat), vs = [.ref p, .int (n : Nat)] ∧ SqT K H p (ns.map V.int) ∧ n ≤ 1000 ∧ NewL H Q ((List.range n).map fun (i : Nat) => V.bl (decide ((i : Int) ∈ ns)))
structure Txt (K : PySem.W.Frag) (mg : Str → Option Value) (a : Ads) : Prop where
  F_ParseError___init__ : Fun K "__init__" "ParseError.__init__" s_ParseError___init__ a.ParseError___init__ a.fd_ParseError___init__
  F_BrokenConstraint___init__ : Fun K "__init__" "BrokenConstraint.__init__" s_BrokenConstraint___init__ a.BrokenConstraint___init__ a.fd_BrokenConstraint___init__
  F_Rejected___init__ : Fun K "__init__" "Rejected.__init__" s_Rejected___init__ a.Rejected___init__ a.fd_Rejected___init__
  F_UnknownName___init__ : Fun K "__init__" "UnknownName.__init__" s_UnknownName___init__ a.UnknownName___init__ a.fd_UnknownName___init__
  F_MissingRow___init__ : Fun K "__init__" "MissingRow.__init__" s_MissingRow___init__ a.MissingRow___init__ a.fd_MissingRow___init__
  F_NothingToUndo___init__ : Fun K "__init__" "NothingToUndo.__init__" s_NothingToUndo___init__ a.NothingToUndo___init__ a.fd_NothingToUndo___init__
  F_TooMany___init__ : Fun K "__init__" "TooMany.__init__" s_TooMany___init__ a.TooMany___init__ a.fd_TooMany___init__
  F_InvalidNumber___init__ : Fun K "__init__" "InvalidNumber.__init__" s_InvalidNumber___init__ a.InvalidNumber___init__ a.fd_InvalidNumber___init__
  F_NoNodes___init__ : Fun K "__init__" "NoNodes.__init__" s_NoNodes___init__ a.NoNodes___init__ a.fd_NoNodes___init__
  F_dice : Fun K "_law_dice" "_law_dice" s__law_dice a.dice a.fd_dice
  g_dice : mg "_law_dice" = some (.ref a.dice)
  F_roll : Fun K "_law_roll" "_law_roll" s__law_roll a.roll a.fd_roll
  g_roll : mg "_law_roll" = some (.ref a.roll)
  F_pick : Fun K "_law_pick" "_law_pick" s__law_pick a.pick a.fd_pick
  g_pick : mg "_law_pick" = some (.ref a.pick)
  F_told : Fun K "_law_told" "_law_told" s__law_told a.told a.fd_told
  g_told : mg "_law_told" = some (.ref a.told)
  F_keeper : Fun K "_law_keeper" "_law_keeper" s__law_keeper a.keeper a.fd_keeper
  g_keeper : mg "_law_keeper" = some (.ref a.keeper)
  F_kept : Fun K "_law_kept" "_law_kept" s__law_kept a.kept a.fd_kept
  g_kept : mg "_law_kept" = some (.ref a.kept)
  F_kinds : Fun K "_law_kinds" "_law_kinds" s__law_kinds a.kinds a.fd_kinds
  g_kinds : mg "_law_kinds" = some (.ref a.kinds)
  F_python : Fun K "_law_python" "_law_python" s__law_python a.python a.fd_python
  g_python : mg "_law_python" = some (.ref a.python)
  F_truths : Fun K "_law_truths" "_law_truths" s__law_truths a.truths a.fd_truths
  g_truths : mg "_law_truths" = some (.ref a.truths)
  F_raise : Fun K "_law_raise" "_law_raise" s__law_raise a.raise a.fd_raise
  g_raise : mg "_law_raise" = some (.ref a.raise)
  F_caught : Fun K "_law_caught" "_law_caught" s__law_caught a.caught a.fd_caught
  g_caught : mg "_law_caught" = some (.ref a.caught)
  F_word : Fun K "_law_word" "_law_word" s__law_word a.word a.fd_word
  g_word : mg "_law_word" = some (.ref a.word)
  F_value : Fun K "_law_value" "_law_value" s__law_value a.value a.fd_value
  g_value : mg "_law_value" = some (.ref a.value)
  F_messages_right : Fun K "_law_messages_right" "_law_messages_right" s__law_messages_right a.messages_right a.fd_messages_right
  g_messages_right : mg "_law_messages_right" = some (.ref a.messages_right)
  F_keepers_right : Fun K "_law_keepers_right" "_law_keepers_right" s__law_keepers_right a.keepers_right a.fd_keepers_right
  g_keepers_right : mg "_law_keepers_right" = some (.ref a.keepers_right)
  F_law : Fun K "law" "law" s_law a.law a.fd_law
  g_law : mg "law" = some (.ref a.law)
  len : mg "len" = none
  int : mg "int" = none
  abs : mg "abs" = none
  max : mg "max" = none
  min : mg "min" = none
  range : mg "range" = none
  isinstance : mg "isinstance" = none
  repr : mg "repr" = none
  ValueError : mg "ValueError" = none
  KeyError : mg "KeyError" = none
  IndexError : mg "IndexError" = none
  LookupError : mg "LookupError" = none
  ZeroDivisionError : mg "ZeroDivisionError" = none
  OverflowError : mg "OverflowError" = none
  ArithmeticError : mg "ArithmeticError" = none
  RuntimeError : mg "RuntimeError" = none
  nd : (cl a).Nodup
  g_c_InvalidSchema : mg "InvalidSchema" = some (.ref a.c_InvalidSchema)
  x_InvalidSchema : Exs.XObj K a.c_InvalidSchema (.ref a.c_DealError :: veT) "ValueError.__new__"
  e_InvalidSchema : ExcC K a.c_InvalidSchema
  kp_InvalidSchema : PySem.W.keepIn K (.ref a.c_InvalidSchema) = true
  g_c_InvalidDatabase : mg "InvalidDatabase" = some (.ref a.c_InvalidDatabase)
  x_InvalidDatabase : Exs.XObj K a.c_InvalidDatabase (.ref a.c_DealError :: veT) "ValueError.__new__"
  e_InvalidDatabase : ExcC K a.c_InvalidDatabase
  kp_InvalidDatabase : PySem.W.keepIn K (.ref a.c_InvalidDatabase) = true
  g_c_InvalidClause : mg "InvalidClause" = some (.ref a.c_InvalidClause)
  x_InvalidClause : Exs.XObj K a.c_InvalidClause (.ref a.c_DealError :: veT) "ValueError.__new__"
  e_InvalidClause : ExcC K a.c_InvalidClause
  kp_InvalidClause : PySem.W.keepIn K (.ref a.c_InvalidClause) = true
  g_c_InvalidQuery : mg "InvalidQuery" = some (.ref a.c_InvalidQuery)
  x_InvalidQuery : Exs.XObj K a.c_InvalidQuery (.ref a.c_DealError :: veT) "ValueError.__new__"
  e_InvalidQuery : ExcC K a.c_InvalidQuery
  kp_InvalidQuery : PySem.W.keepIn K (.ref a.c_InvalidQuery) = true
  g_c_InvalidRule : mg "InvalidRule" = some (.ref a.c_InvalidRule)
  x_InvalidRule : Exs.XObj K a.c_InvalidRule (.ref a.c_DealError :: veT) "ValueError.__new__"
  e_InvalidRule : ExcC K a.c_InvalidRule
  kp_InvalidRule : PySem.W.keepIn K (.ref a.c_InvalidRule) = true
  g_c_InvalidPlacement : mg "InvalidPlacement" = some (.ref a.c_InvalidPlacement)
  x_InvalidPlacement : Exs.XObj K a.c_InvalidPlacement (.ref a.c_DealError :: veT) "ValueError.__new__"
  e_InvalidPlacement : ExcC K a.c_InvalidPlacement
  kp_InvalidPlacement : PySem.W.keepIn K (.ref a.c_InvalidPlacement) = true
  g_c_InvalidCase : mg "InvalidCase" = some (.ref a.c_InvalidCase)
  x_InvalidCase : Exs.XObj K a.c_InvalidCase (.ref a.c_DealError :: veT) "ValueError.__new__"
  e_InvalidCase : ExcC K a.c_InvalidCase
  kp_InvalidCase : PySem.W.keepIn K (.ref a.c_InvalidCase) = true
  g_c_InvalidRow : mg "InvalidRow" = some (.ref a.c_InvalidRow)
  x_InvalidRow : Exs.XObj K a.c_InvalidRow (.ref a.c_DealError :: veT) "ValueError.__new__"
  e_InvalidRow : ExcC K a.c_InvalidRow
  kp_InvalidRow : PySem.W.keepIn K (.ref a.c_InvalidRow) = true
  g_c_InvalidAnswer : mg "InvalidAnswer" = some (.ref a.c_InvalidAnswer)
  x_InvalidAnswer : Exs.XObj K a.c_InvalidAnswer (.ref a.c_DealError :: veT) "ValueError.__new__"
  e_InvalidAnswer : ExcC K a.c_InvalidAnswer
  kp_InvalidAnswer : PySem.W.keepIn K (.ref a.c_InvalidAnswer) = true
  g_c_InvalidOperation : mg "InvalidOperation" = some (.ref a.c_InvalidOperation)
  x_InvalidOperation : Exs.XObj K a.c_InvalidOperation (.ref a.c_DealError :: veT) "ValueError.__new__"
  e_InvalidOperation : ExcC K a.c_InvalidOperation
  kp_InvalidOperation : PySem.W.keepIn K (.ref a.c_InvalidOperation) = true
  g_c_ParseError : mg "ParseError" = some (.ref a.c_ParseError)
  x_ParseError : Exs.XObj K a.c_ParseError (.ref a.c_DealError :: veT) "ValueError.__new__"
  e_ParseError : ExcC K a.c_ParseError
  kp_ParseError : PySem.W.keepIn K (.ref a.c_ParseError) = true
  g_c_BrokenConstraint : mg "BrokenConstraint" = some (.ref a.c_BrokenConstraint)
  x_BrokenConstraint : Exs.XObj K a.c_BrokenConstraint (.ref a.c_DealError :: veT) "ValueError.__new__"
  e_BrokenConstraint : ExcC K a.c_BrokenConstraint
  kp_BrokenConstraint : PySem.W.keepIn K (.ref a.c_BrokenConstraint) = true
  g_c_Rejected : mg "Rejected" = some (.ref a.c_Rejected)
  x_Rejected : Exs.XObj K a.c_Rejected (.ref a.c_DealError :: veT) "ValueError.__new__"
  e_Rejected : ExcC K a.c_Rejected
  kp_Rejected : PySem.W.keepIn K (.ref a.c_Rejected) = true
  g_c_UnknownName : mg "UnknownName" = some (.ref a.c_UnknownName)
  x_UnknownName : Exs.XObj K a.c_UnknownName keT "LookupError.__new__"
  e_UnknownName : ExcC K a.c_UnknownName
  kp_UnknownName : PySem.W.keepIn K (.ref a.c_UnknownName) = true
  g_c_MissingRow : mg "MissingRow" = some (.ref a.c_MissingRow)
  x_MissingRow : Exs.XObj K a.c_MissingRow leT "LookupError.__new__"
  e_MissingRow : ExcC K a.c_MissingRow
  kp_MissingRow : PySem.W.keepIn K (.ref a.c_MissingRow) = true
  g_c_NothingToUndo : mg "NothingToUndo" = some (.ref a.c_NothingToUndo)
  x_NothingToUndo : Exs.XObj K a.c_NothingToUndo ieT "IndexError.__new__"
  e_NothingToUndo : ExcC K a.c_NothingToUndo
  kp_NothingToUndo : PySem.W.keepIn K (.ref a.c_NothingToUndo) = true
  g_c_TooMany : mg "TooMany" = some (.ref a.c_TooMany)
  x_TooMany : Exs.XObj K a.c_TooMany oeT "OverflowError.__new__"
  e_TooMany : ExcC K a.c_TooMany
  kp_TooMany : PySem.W.keepIn K (.ref a.c_TooMany) = true
  g_c_InvalidNumber : mg "InvalidNumber" = some (.ref a.c_InvalidNumber)
  x_InvalidNumber : Exs.XObj K a.c_InvalidNumber reT "RuntimeError.__new__"
  e_InvalidNumber : ExcC K a.c_InvalidNumber
  kp_InvalidNumber : PySem.W.keepIn K (.ref a.c_InvalidNumber) = true
  g_c_NoNodes : mg "NoNodes" = some (.ref a.c_NoNodes)
  x_NoNodes : Exs.XObj K a.c_NoNodes zeT "ZeroDivisionError.__new__"
  e_NoNodes : ExcC K a.c_NoNodes
  kp_NoNodes : PySem.W.keepIn K (.ref a.c_NoNodes) = true
  g_c_DealError : mg "DealError" = some (.ref a.c_DealError)
  x_DealError : Exs.XObj K a.c_DealError veT "ValueError.__new__"
  e_DealError : ExcC K a.c_DealError
  kp_DealError : PySem.W.keepIn K (.ref a.c_DealError) = true
  q_InvalidSchema : PySem.W.excIn K a.c_InvalidSchema veT "ValueError.__new__" = true
  q_InvalidDatabase : PySem.W.excIn K a.c_InvalidDatabase veT "ValueError.__new__" = true
  q_InvalidClause : PySem.W.excIn K a.c_InvalidClause veT "ValueError.__new__" = true
  q_InvalidQuery : PySem.W.excIn K a.c_InvalidQuery veT "ValueError.__new__" = true
  q_InvalidRule : PySem.W.excIn K a.c_InvalidRule veT "ValueError.__new__" = true
  q_InvalidPlacement : PySem.W.excIn K a.c_InvalidPlacement veT "ValueError.__new__" = true
  q_InvalidCase : PySem.W.excIn K a.c_InvalidCase veT "ValueError.__new__" = true
  q_InvalidRow : PySem.W.excIn K a.c_InvalidRow veT "ValueError.__new__" = true
  q_InvalidAnswer : PySem.W.excIn K a.c_InvalidAnswer veT "ValueError.__new__" = true
  q_InvalidOperation : PySem.W.excIn K a.c_InvalidOperation veT "ValueError.__new__" = true
  q_DealError : PySem.W.excIn K a.c_DealError veT "ValueError.__new__" = true
  k1_ParseError : Exs.Cls1 K a.c_ParseError
  i_ParseError : PySem.W.findIn K (.ref a.c_ParseError) "__init__" = some (some (.ref a.ParseError___init__))
  ti_ParseError : PySem.W.typeIn K (.ref a.ParseError___init__) = some (.type "function")
  nf_ParseError : PySem.W.findIn K (.ref a.c_ParseError) "line" = some none
  k1_BrokenConstraint : Exs.Cls1 K a.c_BrokenConstraint
  i_BrokenConstraint : PySem.W.findIn K (.ref a.c_BrokenConstraint) "__init__" = some (some (.ref a.BrokenConstraint___init__))
  ti_BrokenConstraint : PySem.W.typeIn K (.ref a.BrokenConstraint___init__) = some (.type "function")
  nf_BrokenConstraint : PySem.W.findIn K (.ref a.c_BrokenConstraint) "constraint" = some none
  k1_Rejected : Exs.Cls1 K a.c_Rejected
  i_Rejected : PySem.W.findIn K (.ref a.c_Rejected) "__init__" = some (some (.ref a.Rejected___init__))
  ti_Rejected : PySem.W.typeIn K (.ref a.Rejected___init__) = some (.type "function")
  nf_Rejected : PySem.W.findIn K (.ref a.c_Rejected) "reason" = some none
  k1_UnknownName : Exs.Cls1 K a.c_UnknownName
  i_UnknownName : PySem.W.findIn K (.ref a.c_UnknownName) "__init__" = some (some (.ref a.UnknownName___init__))
  ti_UnknownName : PySem.W.typeIn K (.ref a.UnknownName___init__) = some (.type "function")
  nf_UnknownName : PySem.W.findIn K (.ref a.c_UnknownName) "name" = some none
  k1_MissingRow : Exs.Cls1 K a.c_MissingRow
  i_MissingRow : PySem.W.findIn K (.ref a.c_MissingRow) "__init__" = some (some (.ref a.MissingRow___init__))
  ti_MissingRow : PySem.W.typeIn K (.ref a.MissingRow___init__) = some (.type "function")
  nf_MissingRow : PySem.W.findIn K (.ref a.c_MissingRow) "row" = some none
  k1_NothingToUndo : Exs.Cls1 K a.c_NothingToUndo
  i_NothingToUndo : PySem.W.findIn K (.ref a.c_NothingToUndo) "__init__" = some (some (.ref a.NothingToUndo___init__))
  ti_NothingToUndo : PySem.W.typeIn K (.ref a.NothingToUndo___init__) = some (.type "function")
  nf_NothingToUndo : PySem.W.findIn K (.ref a.c_NothingToUndo) "many" = some none
  k1_TooMany : Exs.Cls1 K a.c_TooMany
  i_TooMany : PySem.W.findIn K (.ref a.c_TooMany) "__init__" = some (some (.ref a.TooMany___init__))
  ti_TooMany : PySem.W.typeIn K (.ref a.TooMany___init__) = some (.type "function")
  nf_TooMany : PySem.W.findIn K (.ref a.c_TooMany) "limit" = some none
  k1_InvalidNumber : Exs.Cls1 K a.c_InvalidNumber
  i_InvalidNumber : PySem.W.findIn K (.ref a.c_InvalidNumber) "__init__" = some (some (.ref a.InvalidNumber___init__))
  ti_InvalidNumber : PySem.W.typeIn K (.ref a.InvalidNumber___init__) = some (.type "function")
  nf_InvalidNumber : PySem.W.findIn K (.ref a.c_InvalidNumber) "value" = some none
  k1_NoNodes : Exs.Cls1 K a.c_NoNodes
  i_NoNodes : PySem.W.findIn K (.ref a.c_NoNodes) "__init__" = some (some (.ref a.NoNodes___init__))
  ti_NoNodes : PySem.W.typeIn K (.ref a.NoNodes___init__) = some (.type "function")
  nf_NoNodes : PySem.W.findIn K (.ref a.c_NoNodes) "value" = some none
section
variable {P : Program} {w : World} {K : PySem.W.Frag} {mg : Str → Option Value} {base : Heap} {a : Ads}
theorem b_ParseError___init__ (T : Txt K mg a) : Binds K a.fd_ParseError___init__ ps_ParseError___init__ [] := T.F_ParseError___init__.binds fun _ _ _ _ _ _ us hl => match us, hl with | [_, _], _ => rfl
theorem b_BrokenConstraint___init__ (T : Txt K mg a) : Binds K a.fd_BrokenConstraint___init__ ps_BrokenConstraint___init__ [] := T.F_BrokenConstraint___init__.binds fun _ _ _ _ _ _ us hl => match us, hl with | [_, _], _ => rfl
theorem b_Rejected___init__ (T : Txt K mg a) : Binds K a.fd_Rejected___init__ ps_Rejected___init__ [] := T.F_Rejected___init__.binds fun _ _ _ _ _ _ us hl => match us, hl with | [_, _], _ => rfl
theorem b_UnknownName___init__ (T : Txt K mg a) : Binds K a.fd_UnknownName___init__ ps_UnknownName___init__ [] := T.F_UnknownName___init__.binds fun _ _ _ _ _ _ us hl => match us, hl with | [_, _], _ => rfl
theorem b_MissingRow___init__ (T : Txt K mg a) : Binds K a.fd_MissingRow___init__ ps_MissingRow___init__ [] := T.F_MissingRow___init__.binds fun _ _ _ _ _ _ us hl => match us, hl with | [_, _], _ => rfl
theorem b_NothingToUndo___init__ (T : Txt K mg a) : Binds K a.fd_NothingToUndo___init__ ps_NothingToUndo___init__ [] := T.F_NothingToUndo___init__.binds fun _ _ _ _ _ _ us hl => match us, hl with | [_, _], _ => rfl
theorem b_TooMany___init__ (T : Txt K mg a) : Binds K a.fd_TooMany___init__ ps_TooMany___init__ [] := T.F_TooMany___init__.binds fun _ _ _ _ _ _ us hl => match us, hl with | [_, _], _ => rfl
theorem b_InvalidNumber___init__ (T : Txt K mg a) : Binds K a.fd_InvalidNumber___init__ ps_InvalidNumber___init__ [] := T.F_InvalidNumber___init__.binds fun _ _ _ _ _ _ us hl => match us, hl with | [_, _], _ => rfl
theorem b_NoNodes___init__ (T : Txt K mg a) : Binds K a.fd_NoNodes___init__ ps_NoNodes___init__ [] := T.F_NoNodes___init__.binds fun _ _ _ _ _ _ us hl => match us, hl with | [_, _], _ => rfl
theorem b_dice (T : Txt K mg a) : Binds K a.fd_dice ps__law_dice [] := T.F_dice.binds fun _ _ _ _ _ _ us hl => match us, hl with | [_, _], _ => rfl
theorem b_roll (T : Txt K mg a) : Binds K a.fd_roll ps__law_roll [] := T.F_roll.binds fun _ _ _ _ _ _ us hl => match us, hl with | [_, _], _ => rfl
theorem b_pick (T : Txt K mg a) : Binds K a.fd_pick ps__law_pick [] := T.F_pick.binds fun _ _ _ _ _ _ us hl => match us, hl with | [_, _], _ => rfl
theorem b_told (T : Txt K mg a) : Binds K a.fd_told ps__law_told [] := T.F_told.binds fun _ _ _ _ _ _ us hl => match us, hl with | [_, _], _ => rfl
theorem b_keeper (T : Txt K mg a) : Binds K a.fd_keeper ps__law_keeper [] := T.F_keeper.binds fun _ _ _ _ _ _ us hl => match us, hl with | [_, _], _ => rfl
theorem b_kept (T : Txt K mg a) : Binds K a.fd_kept ps__law_kept [] := T.F_kept.binds fun _ _ _ _ _ _ us hl => match us, hl with | [_, _], _ => rfl
theorem b_kinds (T : Txt K mg a) : Binds K a.fd_kinds ps__law_kinds [] := T.F_kinds.binds fun _ _ _ _ _ _ us hl => match us, hl with | [_], _ => rfl
theorem b_python (T : Txt K mg a) : Binds K a.fd_python ps__law_python [] := T.F_python.binds fun _ _ _ _ _ _ us hl => match us, hl with | [_], _ => rfl
theorem b_truths (T : Txt K mg a) : Binds K a.fd_truths ps__law_truths [] := T.F_truths.binds fun _ _ _ _ _ _ us hl => match us, hl with | [_, _], _ => rfl
theorem b_raise (T : Txt K mg a) : Binds K a.fd_raise ps__law_raise [] := T.F_raise.binds fun _ _ _ _ _ _ us hl => match us, hl with | [_, _], _ => rfl
theorem b_caught (T : Txt K mg a) : Binds K a.fd_caught ps__law_caught [] := T.F_caught.binds fun _ _ _ _ _ _ us hl => match us, hl with | [_, _], _ => rfl
theorem b_word (T : Txt K mg a) : Binds K a.fd_word ps__law_word [] := T.F_word.binds fun _ _ _ _ _ _ us hl => match us, hl with | [_], _ => rfl
theorem b_value (T : Txt K mg a) : Binds K a.fd_value ps__law_value [] := T.F_value.binds fun _ _ _ _ _ _ us hl => match us, hl with | [_], _ => rfl
theorem b_messages_right (T : Txt K mg a) : Binds K a.fd_messages_right ps__law_messages_right [] := T.F_messages_right.binds fun _ _ _ _ _ _ us hl => match us, hl with | [_], _ => rfl
theorem b_keepers_right (T : Txt K mg a) : Binds K a.fd_keepers_right ps__law_keepers_right [] := T.F_keepers_right.binds fun _ _ _ _ _ _ us hl => match us, hl with | [_], _ => rfl
theorem b_law (T : Txt K mg a) : Binds K a.fd_law ps_law [] := T.F_law.binds fun _ _ _ _ _ _ us hl => match us, hl with | [_], _ => rfl
theorem ok_ParseError___init__ (T : Txt K mg a) : FnOk P w K mg base CX0 1 a.ParseError___init__ a.fd_ParseError___init__ ps_ParseError___init__ (spInit "line" a.c_ParseError) := by
  have F := T.F_ParseError___init__
  refine F.ok (k := 0) sc_ParseError___init__ (fun vs H Q E h => ?_) (fun cdv A outer s H vs Q E hr h => ?_)
  · obtain ⟨e, v, rfl, hE, k⟩ := h
    rfl
  · obtain ⟨e, v, rfl, hE, k⟩ := h
    have hu := hu_of hr
    refine ⟨_, (pss_one (Exs.ps_put1 (pv 0) (pv 1))), ?_⟩
    exact ⟨_, rfl, _, rfl, e, _, rfl, T.k1_ParseError, T.nf_ParseError, hE, fun d hd ne => k d hd ne⟩
theorem ok_BrokenConstraint___init__ (T : Txt K mg a) : FnOk P w K mg base CX0 1 a.BrokenConstraint___init__ a.fd_BrokenConstraint___init__ ps_BrokenConstraint___init__ (spInit "constraint" a.c_BrokenConstraint) := by
  have F := T.F_BrokenConstraint___init__
  refine F.ok (k := 0) sc_BrokenConstraint___init__ (fun vs H Q E h => ?_) (fun cdv A outer s H vs Q E hr h => ?_)
  · obtain ⟨e, v, rfl, hE, k⟩ := h
    rfl
  · obtain ⟨e, v, rfl, hE, k⟩ := h
    have hu := hu_of hr
    refine ⟨_, (pss_one (Exs.ps_put1 (pv 0) (pv 1))), ?_⟩
    exact ⟨_, rfl, _, rfl, e, _, rfl, T.k1_BrokenConstraint, T.nf_BrokenConstraint, hE, fun d hd ne => k d hd ne⟩
theorem ok_Rejected___init__ (T : Txt K mg a) : FnOk P w K mg base CX0 1 a.Rejected___init__ a.fd_Rejected___init__ ps_Rejected___init__ (spInit "reason" a.c_Rejected) := by
  have F := T.F_Rejected___init__
  refine F.ok (k := 0) sc_Rejected___init__ (fun vs H Q E h => ?_) (fun cdv A outer s H vs Q E hr h => ?_)
  · obtain ⟨e, v, rfl, hE, k⟩ := h
    rfl
  · obtain ⟨e, v, rfl, hE, k⟩ := h
    have hu := hu_of hr
    refine ⟨_, (pss_one (Exs.ps_put1 (pv 0) (pv 1))), ?_⟩
    exact ⟨_, rfl, _, rfl, e, _, rfl, T.k1_Rejected, T.nf_Rejected, hE, fun d hd ne => k d hd ne⟩
theorem ok_UnknownName___init__ (T : Txt K mg a) : FnOk P w K mg base CX0 1 a.UnknownName___init__ a.fd_UnknownName___init__ ps_UnknownName___init__ (spInit "name" a.c_UnknownName) := by
  have F := T.F_UnknownName___init__
  refine F.ok (k := 0) sc_UnknownName___init__ (fun vs H Q E h => ?_) (fun cdv A outer s H vs Q E hr h => ?_)
  · obtain ⟨e, v, rfl, hE, k⟩ := h
    rfl
  · obtain ⟨e, v, rfl, hE, k⟩ := h
    have hu := hu_of hr
    refine ⟨_, (pss_one (Exs.ps_put1 (pv 0) (pv 1))), ?_⟩
    exact ⟨_, rfl, _, rfl, e, _, rfl, T.k1_UnknownName, T.nf_UnknownName, hE, fun d hd ne => k d hd ne⟩
theorem ok_MissingRow___init__ (T : Txt K mg a) : FnOk P w K mg base CX0 1 a.MissingRow___init__ a.fd_MissingRow___init__ ps_MissingRow___init__ (spInit "row" a.c_MissingRow) := by
  have F := T.F_MissingRow___init__
  refine F.ok (k := 0) sc_MissingRow___init__ (fun vs H Q E h => ?_) (fun cdv A outer s H vs Q E hr h => ?_)
  · obtain ⟨e, v, rfl, hE, k⟩ := h
    rfl
  · obtain ⟨e, v, rfl, hE, k⟩ := h
    have hu := hu_of hr
    refine ⟨_, (pss_one (Exs.ps_put1 (pv 0) (pv 1))), ?_⟩
    exact ⟨_, rfl, _, rfl, e, _, rfl, T.k1_MissingRow, T.nf_MissingRow, hE, fun d hd ne => k d hd ne⟩
theorem ok_NothingToUndo___init__ (T : Txt K mg a) : FnOk P w K mg base CX0 1 a.NothingToUndo___init__ a.fd_NothingToUndo___init__ ps_NothingToUndo___init__ (spInit "many" a.c_NothingToUndo) := by
  have F := T.F_NothingToUndo___init__
  refine F.ok (k := 0) sc_NothingToUndo___init__ (fun vs H Q E h => ?_) (fun cdv A outer s H vs Q E hr h => ?_)
  · obtain ⟨e, v, rfl, hE, k⟩ := h
    rfl
  · obtain ⟨e, v, rfl, hE, k⟩ := h
    have hu := hu_of hr
    refine ⟨_, (pss_one (Exs.ps_put1 (pv 0) (pv 1))), ?_⟩
    exact ⟨_, rfl, _, rfl, e, _, rfl, T.k1_NothingToUndo, T.nf_NothingToUndo, hE, fun d hd ne => k d hd ne⟩
theorem ok_TooMany___init__ (T : Txt K mg a) : FnOk P w K mg base CX0 1 a.TooMany___init__ a.fd_TooMany___init__ ps_TooMany___init__ (spInit "limit" a.c_TooMany) := by
  have F := T.F_TooMany___init__
  refine F.ok (k := 0) sc_TooMany___init__ (fun vs H Q E h => ?_) (fun cdv A outer s H vs Q E hr h => ?_)
  · obtain ⟨e, v, rfl, hE, k⟩ := h
    rfl
  · obtain ⟨e, v, rfl, hE, k⟩ := h
    have hu := hu_of hr
    refine ⟨_, (pss_one (Exs.ps_put1 (pv 0) (pv 1))), ?_⟩
    exact ⟨_, rfl, _, rfl, e, _, rfl, T.k1_TooMany, T.nf_TooMany, hE, fun d hd ne => k d hd ne⟩
theorem ok_InvalidNumber___init__ (T : Txt K mg a) : FnOk P w K mg base CX0 1 a.InvalidNumber___init__ a.fd_InvalidNumber___init__ ps_InvalidNumber___init__ (spInit "value" a.c_InvalidNumber) := by
  have F := T.F_InvalidNumber___init__
  refine F.ok (k := 0) sc_InvalidNumber___init__ (fun vs H Q E h => ?_) (fun cdv A outer s H vs Q E hr h => ?_)
  · obtain ⟨e, v, rfl, hE, k⟩ := h
    rfl
  · obtain ⟨e, v, rfl, hE, k⟩ := h
    have hu := hu_of hr
    refine ⟨_, (pss_one (Exs.ps_put1 (pv 0) (pv 1))), ?_⟩
    exact ⟨_, rfl, _, rfl, e, _, rfl, T.k1_InvalidNumber, T.nf_InvalidNumber, hE, fun d hd ne => k d hd ne⟩
theorem ok_NoNodes___init__ (T : Txt K mg a) : FnOk P w K mg base CX0 1 a.NoNodes___init__ a.fd_NoNodes___init__ ps_NoNodes___init__ (spInit "value" a.c_NoNodes) := by
  have F := T.F_NoNodes___init__
  refine F.ok (k := 0) sc_NoNodes___init__ (fun vs H Q E h => ?_) (fun cdv A outer s H vs Q E hr h => ?_)
  · obtain ⟨e, v, rfl, hE, k⟩ := h
    rfl
  · obtain ⟨e, v, rfl, hE, k⟩ := h
    have hu := hu_of hr
    refine ⟨_, (pss_one (Exs.ps_put1 (pv 0) (pv 1))), ?_⟩
    exact ⟨_, rfl, _, rfl, e, _, rfl, T.k1_NoNodes, T.nf_NoNodes, hE, fun d hd ne => k d hd ne⟩
theorem ok_dice (T : Txt K mg a) : FnOk P w K mg base CX0 1 a.dice a.fd_dice ps__law_dice (spDice K) := by
  have F := T.F_dice
  refine F.ok (k := 0) sc__law_dice (fun vs H Q E h => ?_) (fun cdv A outer s H vs Q E hr h => ?_)
  · obtain ⟨s0, ns, i, rfl, hS, hl, hi, k⟩ := h
    rfl
  · obtain ⟨s0, ns, i, rfl, hS, hl, hi, k⟩ := h
    have hu := hu_of hr
    refine ⟨_, (pss_cons (ps_set (i := 2) sc__law_dice.nd rfl (Or.inl rfl) (pe_ifExp (pt_cmpR op_lt (pv 1) (pe_callB call_len (by rfl) T.len (by decide +kernel) (pa_cons (pv 0) pa_nil)) (nomark _)) (pe_ix ix_list (pv 0) (pv 1) (fun _ _ => rfl)) (pe_op op_add (pe_op op_mul pe_int (pv 1)) pe_int)))
      (pss_cons (ps_set (i := 3) sc__law_dice.nd rfl (Or.inl rfl) (pe_op op_mod (pe_callTy call_int1 (by rfl) T.int (by decide +kernel) (pa_cons (pe_callB call_abs (by rfl) T.abs (by decide +kernel) (pa_cons (pv 2) pa_nil)) pa_nil)) (pe_op op_powG (pe_op op_powG pe_int pe_int) pe_int)))
      (pss_one (ps_ret (pe_lst (pa_cons (pe_ifExp (pt_cmpR op_ge (pv 3) (pe_op op_powG pe_int pe_int) (nomark _)) (pv 3) pe_int) (pa_cons (pe_op op_add (pe_op op_add (pe_op op_add (pe_op op_mul pe_int (pv 3)) (pe_callTy call_int1 (by rfl) T.int (by decide +kernel) (pa_cons (pe_cmpR op_lt (pv 2) pe_int (nomark _)) pa_nil))) (pe_op op_mul pe_int (pv 1))) pe_int) (pa_cons pe_int pa_nil)))))))), ?_⟩
    refine ⟨_, rfl, _, rfl, _, _, rfl, .inl ⟨_, hS, rfl⟩, _, _, rfl, rfl, _, rfl, ?_⟩
    refine iteD (fun c => ?_) (fun c => ?_)
    · have hlt : i < ns.length := by simpa using c
      refine ⟨_, rfl, _, rfl, s0, _, i, .int ns[i], rfl, rfl, hS, atI_nat (by simp [hlt]), ?_⟩
      walk_at "r"
      refine iteB (fun c => ?_) (fun c => ?_)
      all_goals
        walk_at "r"
        refine ⟨by show 3 ≤ sizeLine; decide, fun p hp => ?_⟩
        exact k p _ hp ⟨_, _, _, upd_same⟩ fun b o e => by rw [upd_ne (ne_of_none e hp)]; exact e
    · walk_at "r"

      refine iteB (fun c => ?_) (fun c => ?_)
      all_goals
        walk_at "r"
        refine ⟨by show 3 ≤ sizeLine; decide, fun p hp => ?_⟩
        exact k p _ hp ⟨_, _, _, upd_same⟩ fun b o e => by rw [upd_ne (ne_of_none e hp)]; exact e
theorem ok_roll (T : Txt K mg a) : FnOk P w K mg base CX0 1 a.roll a.fd_roll ps__law_roll spRoll := by
  have F := T.F_roll
  refine F.ok (k := 0) sc__law_roll (fun vs H Q E h => ?_) (fun cdv A outer s H vs Q E hr h => ?_)
  · obtain ⟨d, n, rfl, ⟨x, y, z, hH⟩, h0, h1, k⟩ := h
    rfl
  · obtain ⟨d, n, rfl, ⟨x, y, z, hH⟩, h0, h1, k⟩ := h
    have hu := hu_of hr
    refine ⟨_, (pss_cons (ps_if (pt_cmpR op_gt (pe_ix ix_list (pv 0) pe_int (fun _ _ => rfl)) pe_int (nomark _)) (pss_cons (ps_set (i := 2) sc__law_roll.nd rfl (Or.inl rfl) (pe_op op_mod (pe_callTy call_int1 (by rfl) T.int (by decide +kernel) (pa_cons (pe_ix ix_list (pv 0) pe_int (fun _ _ => rfl)) pa_nil)) (pv 1)))
      (pss_cons (ps_asg (pe_op op_fdiv (pe_ix ix_list (pv 0) pe_int (fun _ _ => rfl)) (pv 1)) (pg_sub (pv 0) pe_int set_list))
      (pss_one (ps_ret (pv 2))))) pss_nil)
      (pss_cons (ps_asg (pe_op op_add (pe_ix ix_list (pv 0) pe_int (fun _ _ => rfl)) pe_int) (pg_sub (pv 0) pe_int set_list))
      (pss_cons (ps_set (i := 3) sc__law_roll.nd rfl (Or.inl rfl) (pe_op op_mod (pe_callTy call_int1 (by rfl) T.int (by decide +kernel) (pa_cons (pe_op op_add (pe_op op_mul (pe_ix ix_list (pv 0) pe_int (fun _ _ => rfl)) pe_int) (pe_op op_mul (pe_ix ix_list (pv 0) pe_int (fun _ _ => rfl)) pe_int)) pa_nil)) pe_int))
      (pss_cons (ps_set (i := 4) sc__law_roll.nd rfl (Or.inl rfl) (pe_op op_mod (pe_callTy call_int1 (by rfl) T.int (by decide +kernel) (pa_cons (pe_op op_add (pe_op op_mul (pv 3) (pv 3)) (pe_op op_mul (pe_ix ix_list (pv 0) pe_int (fun _ _ => rfl)) pe_int)) pa_nil)) pe_int))
      (pss_one (ps_ret (pe_op op_mod (pe_callTy call_int1 (by rfl) T.int (by decide +kernel) (pa_cons (pe_op op_fdiv (pe_op op_mod (pe_callTy call_int1 (by rfl) T.int (by decide +kernel) (pa_cons (pe_op op_add (pe_op op_mul (pv 4) (pv 4)) (pv 3)) pa_nil)) pe_int) pe_int) pa_nil)) (pv 1)))))))), ?_⟩
    walk_at "r"
    refine iteB (fun c => ?_) (fun c => ?_)
    · walk_at "r"
      refine k _ _ (Int.emod_nonneg _ (by omega)) (Int.emod_lt_of_pos _ h0) ⟨⟨_, _, _, upd_same⟩, fun b o hb e => ?_⟩
      rw [upd_ne hb]
      exact e
    · walk_at "r"
      refine k _ _ (Int.emod_nonneg _ (by omega)) (Int.emod_lt_of_pos _ h0) ⟨⟨_, _, _, upd_same⟩, fun b o hb e => ?_⟩
      rw [upd_ne hb]
      exact e
theorem ok_pick (T : Txt K mg a) : FnOk P w K mg base CX0 2 a.pick a.fd_pick ps__law_pick (spPick K) := by
  have F := T.F_pick
  refine F.ok (k := 1) sc__law_pick (fun vs H Q E h => ?_) (fun cdv A outer s H vs Q E hr h => ?_)
  · obtain ⟨d, y, xs, rfl, hD, hP, h0, h1, k⟩ := h
    rfl
  · obtain ⟨d, y, xs, rfl, hD, hP, h0, h1, k⟩ := h
    have hu := hu_of hr
    refine ⟨_, (pss_one (ps_ret (pe_ix ix_seq (pv 1) (pe_call (ok_roll T) (hr.mono (by decide)) (by rfl) T.g_roll T.F_roll.kp (b_roll T) .nil pass0 (pa_cons (pv 0) (pa_cons (pe_callB call_len (by rfl) T.len (by decide +kernel) (pa_cons (pv 1) pa_nil)) pa_nil))) (fun _ _ => rfl)))), ?_⟩
    have hx : (xs.length : Int) < 1073741824 := by omega
    cases y with
    | str z =>
      obtain rfl : xs = z.cps.toList.map fun c => V.str ⟨#[c]⟩ := hP
      have e : (z.cps.toList.map fun c => V.str ⟨#[c]⟩).length = z.length := by rw [List.length_map]; rfl
      rw [e] at h0 h1
      refine ⟨_, rfl, _, rfl, _, rfl, _, _, rfl, ⟨by rw [sizeLine_eq]; omega, rfl⟩, ⟨d, _, rfl, hD, by omega, by omega, fun r H' h2 h3 R => ?_⟩⟩
      obtain ⟨c, hc, hm⟩ := atI_ok (xs := z.cps.toList) h2 (by rw [show z.cps.toList.length = z.length from rfl]; exact h3)
      exact .inr (.inr ⟨z, r, c, rfl, rfl, by rw [sizeLine_eq]; omega, hc, k _ _ (List.mem_map.mpr ⟨c, hm, rfl⟩) R⟩)
    | ref p =>
      obtain ⟨hn, hq⟩ := hP
      have hL : LenV K (.ref p) H xs.length := hq.imp (fun q => ⟨xs, q, rfl⟩) fun q => ⟨xs, q, rfl⟩
      refine ⟨_, rfl, _, rfl, _, rfl, _, _, rfl, hL, ⟨d, _, rfl, hD, by omega, by omega, fun r H' h2 h3 R => ?_⟩⟩
      obtain ⟨v, hv, hm⟩ := atI_ok (xs := xs) h2 h3
      rcases hq with q | q
      · exact .inl ⟨p, xs, r, v, rfl, rfl, R.sqL hn q, hv, k _ _ hm R⟩
      · exact .inr (.inl ⟨p, xs, r, v, rfl, rfl, R.sqT hn q, hv, k _ _ hm R⟩)
    | _ => exact hP.elim
theorem ok_told (T : Txt K mg a) : FnOk P w K mg base CX0 2 a.told a.fd_told ps__law_told (spTold a) := by
  have F := T.F_told
  refine F.ok (k := 1) sc__law_told (fun vs H Q E h => ?_) (fun cdv A outer s H vs Q E hr h => ?_)
  · obtain ⟨n, v, rfl, hn, k⟩ := h
    rfl
  · obtain ⟨n, v, rfl, hn, k⟩ := h
    have hu := hu_of hr
    refine ⟨_, (pss_cons (ps_if (pt_cmpR op_eq (pv 0) pe_int (nomark _)) (pss_one (ps_ret (Exs.pe_exn PySem.F.excBase_ValueError T.q_InvalidSchema T.g_c_InvalidSchema T.kp_InvalidSchema (by rfl) (pv 1)))) pss_nil)
      (pss_cons (ps_if (pt_cmpR op_eq (pv 0) pe_int (nomark _)) (pss_one (ps_ret (Exs.pe_exn PySem.F.excBase_ValueError T.q_InvalidDatabase T.g_c_InvalidDatabase T.kp_InvalidDatabase (by rfl) (pv 1)))) pss_nil)
      (pss_cons (ps_if (pt_cmpR op_eq (pv 0) pe_int (nomark _)) (pss_one (ps_ret (Exs.pe_exn PySem.F.excBase_ValueError T.q_InvalidClause T.g_c_InvalidClause T.kp_InvalidClause (by rfl) (pv 1)))) pss_nil)
      (pss_cons (ps_if (pt_cmpR op_eq (pv 0) pe_int (nomark _)) (pss_one (ps_ret (Exs.pe_exn PySem.F.excBase_ValueError T.q_InvalidQuery T.g_c_InvalidQuery T.kp_InvalidQuery (by rfl) (pv 1)))) pss_nil)
      (pss_cons (ps_if (pt_cmpR op_eq (pv 0) pe_int (nomark _)) (pss_one (ps_ret (Exs.pe_exn PySem.F.excBase_ValueError T.q_InvalidRule T.g_c_InvalidRule T.kp_InvalidRule (by rfl) (pv 1)))) pss_nil)
      (pss_cons (ps_if (pt_cmpR op_eq (pv 0) pe_int (nomark _)) (pss_one (ps_ret (Exs.pe_exn PySem.F.excBase_ValueError T.q_InvalidPlacement T.g_c_InvalidPlacement T.kp_InvalidPlacement (by rfl) (pv 1)))) pss_nil)
      (pss_cons (ps_if (pt_cmpR op_eq (pv 0) pe_int (nomark _)) (pss_one (ps_ret (Exs.pe_exn PySem.F.excBase_ValueError T.q_InvalidCase T.g_c_InvalidCase T.kp_InvalidCase (by rfl) (pv 1)))) pss_nil)
      (pss_cons (ps_if (pt_cmpR op_eq (pv 0) pe_int (nomark _)) (pss_one (ps_ret (Exs.pe_exn PySem.F.excBase_ValueError T.q_InvalidRow T.g_c_InvalidRow T.kp_InvalidRow (by rfl) (pv 1)))) pss_nil)
      (pss_cons (ps_if (pt_cmpR op_eq (pv 0) pe_int (nomark _)) (pss_one (ps_ret (Exs.pe_exn PySem.F.excBase_ValueError T.q_InvalidAnswer T.g_c_InvalidAnswer T.kp_InvalidAnswer (by rfl) (pv 1)))) pss_nil)
      (pss_one (ps_ret (pe_ifExp (pt_cmpR op_eq (pv 0) pe_int (nomark _)) (Exs.pe_exn PySem.F.excBase_ValueError T.q_InvalidOperation T.g_c_InvalidOperation T.kp_InvalidOperation (by rfl) (pv 1)) (Exs.pe_exn PySem.F.excBase_ValueError T.q_DealError T.g_c_DealError T.kp_DealError (by rfl) (pv 1)))))))))))))), ?_⟩
    match n, hn, k with
    | 0, _, k =>
      repeat (walk_at "eqt")
      exact ⟨_, rfl, fun e he => k e he⟩
    | 1, _, k =>
      repeat (walk_at "eqt")
      exact ⟨_, rfl, fun e he => k e he⟩
    | 2, _, k =>
      repeat (walk_at "eqt")
      exact ⟨_, rfl, fun e he => k e he⟩
    | 3, _, k =>
      repeat (walk_at "eqt")
      exact ⟨_, rfl, fun e he => k e he⟩
    | 4, _, k =>
      repeat (walk_at "eqt")
      exact ⟨_, rfl, fun e he => k e he⟩
    | 5, _, k =>
      repeat (walk_at "eqt")
      exact ⟨_, rfl, fun e he => k e he⟩
    | 6, _, k =>
      repeat (walk_at "eqt")
      exact ⟨_, rfl, fun e he => k e he⟩
    | 7, _, k =>
      repeat (walk_at "eqt")
      exact ⟨_, rfl, fun e he => k e he⟩
    | 8, _, k =>
      repeat (walk_at "eqt")
      exact ⟨_, rfl, fun e he => k e he⟩
    | 9, _, k =>
      repeat (walk_at "eqt")
      exact ⟨_, rfl, fun e he => k e he⟩
    | 10, _, k =>
      repeat (walk_at "eqt")
      exact ⟨_, rfl, fun e he => k e he⟩
theorem kept_mk {H : Hp} {a : Ads} {n : Nat} {v : V} {e d : Addr} (he : H e = none) (hd : upd H e (exo e (kcl a n) none) d = none) (ne : d ≠ e) :
    Kept H (upd (upd (upd H e (exo e (kcl a n) none)) d (exd d [(fld n, v)])) e (exo e (kcl a n) (some d))) a n v e d := by
  have hd0 : H d = none := by rw [upd_ne ne] at hd; exact hd
  refine ⟨he, hd0, upd_same, by rw [upd_ne ne, upd_same], fun b o z => ?_⟩
  rw [upd_ne (ne_of_none z he), upd_ne (ne_of_none z hd0), upd_ne (ne_of_none z he)]
  exact z
theorem ok_keeper (T : Txt K mg a) : FnOk P w K mg base CX0 3 a.keeper a.fd_keeper ps__law_keeper (spKeeper a) := by
  have F := T.F_keeper
  refine F.ok (k := 2) sc__law_keeper (fun vs H Q E h => ?_) (fun cdv A outer s H vs Q E hr h => ?_)
  · obtain ⟨n, v, rfl, hn, k⟩ := h
    rfl
  · obtain ⟨n, v, rfl, hn, k⟩ := h
    have hu := hu_of hr
    refine ⟨_, (pss_cons (ps_if (pt_cmpR op_eq (pv 0) pe_int (nomark _)) (pss_one (ps_ret (Exs.pe_exv T.k1_ParseError T.i_ParseError T.ti_ParseError (ok_ParseError___init__ T) (hr.mono (by decide)) (b_ParseError___init__ T) pass0 (by rfl) T.g_c_ParseError (pa_cons (pv 1) pa_nil)))) pss_nil)
      (pss_cons (ps_if (pt_cmpR op_eq (pv 0) pe_int (nomark _)) (pss_one (ps_ret (Exs.pe_exv T.k1_BrokenConstraint T.i_BrokenConstraint T.ti_BrokenConstraint (ok_BrokenConstraint___init__ T) (hr.mono (by decide)) (b_BrokenConstraint___init__ T) pass0 (by rfl) T.g_c_BrokenConstraint (pa_cons (pv 1) pa_nil)))) pss_nil)
      (pss_cons (ps_if (pt_cmpR op_eq (pv 0) pe_int (nomark _)) (pss_one (ps_ret (Exs.pe_exv T.k1_Rejected T.i_Rejected T.ti_Rejected (ok_Rejected___init__ T) (hr.mono (by decide)) (b_Rejected___init__ T) pass0 (by rfl) T.g_c_Rejected (pa_cons (pv 1) pa_nil)))) pss_nil)
      (pss_cons (ps_if (pt_cmpR op_eq (pv 0) pe_int (nomark _)) (pss_one (ps_ret (Exs.pe_exv T.k1_UnknownName T.i_UnknownName T.ti_UnknownName (ok_UnknownName___init__ T) (hr.mono (by decide)) (b_UnknownName___init__ T) pass0 (by rfl) T.g_c_UnknownName (pa_cons (pv 1) pa_nil)))) pss_nil)
      (pss_cons (ps_if (pt_cmpR op_eq (pv 0) pe_int (nomark _)) (pss_one (ps_ret (Exs.pe_exv T.k1_MissingRow T.i_MissingRow T.ti_MissingRow (ok_MissingRow___init__ T) (hr.mono (by decide)) (b_MissingRow___init__ T) pass0 (by rfl) T.g_c_MissingRow (pa_cons (pv 1) pa_nil)))) pss_nil)
      (pss_cons (ps_if (pt_cmpR op_eq (pv 0) pe_int (nomark _)) (pss_one (ps_ret (Exs.pe_exv T.k1_NothingToUndo T.i_NothingToUndo T.ti_NothingToUndo (ok_NothingToUndo___init__ T) (hr.mono (by decide)) (b_NothingToUndo___init__ T) pass0 (by rfl) T.g_c_NothingToUndo (pa_cons (pv 1) pa_nil)))) pss_nil)
      (pss_cons (ps_if (pt_cmpR op_eq (pv 0) pe_int (nomark _)) (pss_one (ps_ret (Exs.pe_exv T.k1_TooMany T.i_TooMany T.ti_TooMany (ok_TooMany___init__ T) (hr.mono (by decide)) (b_TooMany___init__ T) pass0 (by rfl) T.g_c_TooMany (pa_cons (pv 1) pa_nil)))) pss_nil)
      (pss_one (ps_ret (pe_ifExp (pt_cmpR op_eq (pv 0) pe_int (nomark _)) (Exs.pe_exv T.k1_InvalidNumber T.i_InvalidNumber T.ti_InvalidNumber (ok_InvalidNumber___init__ T) (hr.mono (by decide)) (b_InvalidNumber___init__ T) pass0 (by rfl) T.g_c_InvalidNumber (pa_cons (pv 1) pa_nil)) (Exs.pe_exv T.k1_NoNodes T.i_NoNodes T.ti_NoNodes (ok_NoNodes___init__ T) (hr.mono (by decide)) (b_NoNodes___init__ T) pass0 (by rfl) T.g_c_NoNodes (pa_cons (pv 1) pa_nil)))))))))))), ?_⟩
    match n, hn, k with
    | 0, _, k =>
      repeat (walk_at "eqt")
      exact ⟨_, rfl, (by decide : 1 ≤ 1000), fun e he => ⟨e, v, rfl, upd_same, fun d hd ne => ⟨rfl, k e d _ (kept_mk (n := 0) he hd ne)⟩⟩⟩
    | 1, _, k =>
      repeat (walk_at "eqt")
      exact ⟨_, rfl, (by decide : 1 ≤ 1000), fun e he => ⟨e, v, rfl, upd_same, fun d hd ne => ⟨rfl, k e d _ (kept_mk (n := 1) he hd ne)⟩⟩⟩
    | 2, _, k =>
      repeat (walk_at "eqt")
      exact ⟨_, rfl, (by decide : 1 ≤ 1000), fun e he => ⟨e, v, rfl, upd_same, fun d hd ne => ⟨rfl, k e d _ (kept_mk (n := 2) he hd ne)⟩⟩⟩
    | 3, _, k =>
      repeat (walk_at "eqt")
      exact ⟨_, rfl, (by decide : 1 ≤ 1000), fun e he => ⟨e, v, rfl, upd_same, fun d hd ne => ⟨rfl, k e d _ (kept_mk (n := 3) he hd ne)⟩⟩⟩
    | 4, _, k =>
      repeat (walk_at "eqt")
      exact ⟨_, rfl, (by decide : 1 ≤ 1000), fun e he => ⟨e, v, rfl, upd_same, fun d hd ne => ⟨rfl, k e d _ (kept_mk (n := 4) he hd ne)⟩⟩⟩
    | 5, _, k =>
      repeat (walk_at "eqt")
      exact ⟨_, rfl, (by decide : 1 ≤ 1000), fun e he => ⟨e, v, rfl, upd_same, fun d hd ne => ⟨rfl, k e d _ (kept_mk (n := 5) he hd ne)⟩⟩⟩
    | 6, _, k =>
      repeat (walk_at "eqt")
      exact ⟨_, rfl, (by decide : 1 ≤ 1000), fun e he => ⟨e, v, rfl, upd_same, fun d hd ne => ⟨rfl, k e d _ (kept_mk (n := 6) he hd ne)⟩⟩⟩
    | 7, _, k =>
      repeat (walk_at "eqt")
      exact ⟨_, rfl, (by decide : 1 ≤ 1000), fun e he => ⟨e, v, rfl, upd_same, fun d hd ne => ⟨rfl, k e d _ (kept_mk (n := 7) he hd ne)⟩⟩⟩
    | 8, _, k =>
      repeat (walk_at "eqt")
      exact ⟨_, rfl, (by decide : 1 ≤ 1000), fun e he => ⟨e, v, rfl, upd_same, fun d hd ne => ⟨rfl, k e d _ (kept_mk (n := 8) he hd ne)⟩⟩⟩
theorem ok_kept (T : Txt K mg a) : FnOk P w K mg base CX0 1 a.kept a.fd_kept ps__law_kept (spKept a) := by
  have F := T.F_kept
  refine F.ok (k := 0) sc__law_kept (fun vs H Q E h => ?_) (fun cdv A outer s H vs Q E hr h => ?_)
  · obtain ⟨n, v, e, d, rfl, hn, hE, hd, k⟩ := h
    rfl
  · obtain ⟨n, v, e, d, rfl, hn, hE, hd, k⟩ := h
    have hu := hu_of hr
    refine ⟨_, (pss_cons (ps_if (pt_cmpR op_eq (pv 0) pe_int (nomark _)) (pss_one (ps_ret (Exs.pe_getX (pv 1)))) pss_nil)
      (pss_cons (ps_if (pt_cmpR op_eq (pv 0) pe_int (nomark _)) (pss_one (ps_ret (Exs.pe_getX (pv 1)))) pss_nil)
      (pss_cons (ps_if (pt_cmpR op_eq (pv 0) pe_int (nomark _)) (pss_one (ps_ret (Exs.pe_getX (pv 1)))) pss_nil)
      (pss_cons (ps_if (pt_cmpR op_eq (pv 0) pe_int (nomark _)) (pss_one (ps_ret (Exs.pe_getX (pv 1)))) pss_nil)
      (pss_cons (ps_if (pt_cmpR op_eq (pv 0) pe_int (nomark _)) (pss_one (ps_ret (Exs.pe_getX (pv 1)))) pss_nil)
      (pss_cons (ps_if (pt_cmpR op_eq (pv 0) pe_int (nomark _)) (pss_one (ps_ret (Exs.pe_getX (pv 1)))) pss_nil)
      (pss_one (ps_ret (pe_ifExp (pt_cmpR op_eq (pv 0) pe_int (nomark _)) (Exs.pe_getX (pv 1)) (Exs.pe_getX (pv 1))))))))))), ?_⟩
    match n, hn, hE, hd, k with
    | 0, _, hE, hd, k =>
      repeat (walk_at "eqt")
      exact ⟨_, rfl, e, _, d, _, v, rfl, hE, hd, T.e_ParseError, T.nf_ParseError, rfl, k⟩
    | 1, _, hE, hd, k =>
      repeat (walk_at "eqt")
      exact ⟨_, rfl, e, _, d, _, v, rfl, hE, hd, T.e_BrokenConstraint, T.nf_BrokenConstraint, rfl, k⟩
    | 2, _, hE, hd, k =>
      repeat (walk_at "eqt")
      exact ⟨_, rfl, e, _, d, _, v, rfl, hE, hd, T.e_Rejected, T.nf_Rejected, rfl, k⟩
    | 3, _, hE, hd, k =>
      repeat (walk_at "eqt")
      exact ⟨_, rfl, e, _, d, _, v, rfl, hE, hd, T.e_UnknownName, T.nf_UnknownName, rfl, k⟩
    | 4, _, hE, hd, k =>
      repeat (walk_at "eqt")
      exact ⟨_, rfl, e, _, d, _, v, rfl, hE, hd, T.e_MissingRow, T.nf_MissingRow, rfl, k⟩
    | 5, _, hE, hd, k =>
      repeat (walk_at "eqt")
      exact ⟨_, rfl, e, _, d, _, v, rfl, hE, hd, T.e_NothingToUndo, T.nf_NothingToUndo, rfl, k⟩
    | 6, _, hE, hd, k =>
      repeat (walk_at "eqt")
      exact ⟨_, rfl, e, _, d, _, v, rfl, hE, hd, T.e_TooMany, T.nf_TooMany, rfl, k⟩
    | 7, _, hE, hd, k =>
      repeat (walk_at "eqt")
      exact ⟨_, rfl, e, _, d, _, v, rfl, hE, hd, T.e_InvalidNumber, T.nf_InvalidNumber, rfl, k⟩
    | 8, _, hE, hd, k =>
      repeat (walk_at "eqt")
      exact ⟨_, rfl, e, _, d, _, v, rfl, hE, hd, T.e_NoNodes, T.nf_NoNodes, rfl, k⟩
theorem cl_len (a : Ads) : (cl a).length = 20 := rfl
theorem ok_kinds (T : Txt K mg a) : FnOk P w K mg base CX0 1 a.kinds a.fd_kinds ps__law_kinds (spKinds K a) := by
  have F := T.F_kinds
  refine F.ok (k := 0) sc__law_kinds (fun vs H Q E h => ?_) (fun cdv A outer s H vs Q E hr h => ?_)
  · obtain ⟨e, D, dx, tb, rfl, hE, hC, ht, k⟩ := h
    rfl
  · obtain ⟨e, D, dx, tb, rfl, hE, hC, ht, k⟩ := h
    have hu := hu_of hr
    refine ⟨_, (pss_cons (ps_set (i := 1) sc__law_kinds.nd rfl (Or.inl rfl) (pe_lst (pa_cons (pe_callB Exs.call_isX (by rfl) T.isinstance (by decide +kernel) (pa_cons (pv 0) (pa_cons (pe_glob (v := V.ref a.c_InvalidSchema) (by rfl) T.g_c_InvalidSchema (by rfl)) pa_nil))) (pa_cons (pe_callB Exs.call_isX (by rfl) T.isinstance (by decide +kernel) (pa_cons (pv 0) (pa_cons (pe_glob (v := V.ref a.c_InvalidDatabase) (by rfl) T.g_c_InvalidDatabase (by rfl)) pa_nil))) (pa_cons (pe_callB Exs.call_isX (by rfl) T.isinstance (by decide +kernel) (pa_cons (pv 0) (pa_cons (pe_glob (v := V.ref a.c_InvalidClause) (by rfl) T.g_c_InvalidClause (by rfl)) pa_nil))) pa_nil)))))
      (pss_cons (ps_set (i := 1) sc__law_kinds.nd rfl (Or.inl rfl) (pe_op op_cat (pv 1) (pe_lst (pa_cons (pe_callB Exs.call_isX (by rfl) T.isinstance (by decide +kernel) (pa_cons (pv 0) (pa_cons (pe_glob (v := V.ref a.c_InvalidQuery) (by rfl) T.g_c_InvalidQuery (by rfl)) pa_nil))) (pa_cons (pe_callB Exs.call_isX (by rfl) T.isinstance (by decide +kernel) (pa_cons (pv 0) (pa_cons (pe_glob (v := V.ref a.c_InvalidRule) (by rfl) T.g_c_InvalidRule (by rfl)) pa_nil))) (pa_cons (pe_callB Exs.call_isX (by rfl) T.isinstance (by decide +kernel) (pa_cons (pv 0) (pa_cons (pe_glob (v := V.ref a.c_InvalidPlacement) (by rfl) T.g_c_InvalidPlacement (by rfl)) pa_nil))) pa_nil))))))
      (pss_cons (ps_set (i := 1) sc__law_kinds.nd rfl (Or.inl rfl) (pe_op op_cat (pv 1) (pe_lst (pa_cons (pe_callB Exs.call_isX (by rfl) T.isinstance (by decide +kernel) (pa_cons (pv 0) (pa_cons (pe_glob (v := V.ref a.c_InvalidCase) (by rfl) T.g_c_InvalidCase (by rfl)) pa_nil))) (pa_cons (pe_callB Exs.call_isX (by rfl) T.isinstance (by decide +kernel) (pa_cons (pv 0) (pa_cons (pe_glob (v := V.ref a.c_InvalidRow) (by rfl) T.g_c_InvalidRow (by rfl)) pa_nil))) (pa_cons (pe_callB Exs.call_isX (by rfl) T.isinstance (by decide +kernel) (pa_cons (pv 0) (pa_cons (pe_glob (v := V.ref a.c_InvalidAnswer) (by rfl) T.g_c_InvalidAnswer (by rfl)) pa_nil))) pa_nil))))))
      (pss_cons (ps_set (i := 1) sc__law_kinds.nd rfl (Or.inl rfl) (pe_op op_cat (pv 1) (pe_lst (pa_cons (pe_callB Exs.call_isX (by rfl) T.isinstance (by decide +kernel) (pa_cons (pv 0) (pa_cons (pe_glob (v := V.ref a.c_InvalidOperation) (by rfl) T.g_c_InvalidOperation (by rfl)) pa_nil))) (pa_cons (pe_callB Exs.call_isX (by rfl) T.isinstance (by decide +kernel) (pa_cons (pv 0) (pa_cons (pe_glob (v := V.ref a.c_ParseError) (by rfl) T.g_c_ParseError (by rfl)) pa_nil))) pa_nil)))))
      (pss_cons (ps_set (i := 1) sc__law_kinds.nd rfl (Or.inl rfl) (pe_op op_cat (pv 1) (pe_lst (pa_cons (pe_callB Exs.call_isX (by rfl) T.isinstance (by decide +kernel) (pa_cons (pv 0) (pa_cons (pe_glob (v := V.ref a.c_BrokenConstraint) (by rfl) T.g_c_BrokenConstraint (by rfl)) pa_nil))) (pa_cons (pe_callB Exs.call_isX (by rfl) T.isinstance (by decide +kernel) (pa_cons (pv 0) (pa_cons (pe_glob (v := V.ref a.c_Rejected) (by rfl) T.g_c_Rejected (by rfl)) pa_nil))) (pa_cons (pe_callB Exs.call_isX (by rfl) T.isinstance (by decide +kernel) (pa_cons (pv 0) (pa_cons (pe_glob (v := V.ref a.c_UnknownName) (by rfl) T.g_c_UnknownName (by rfl)) pa_nil))) pa_nil))))))
      (pss_cons (ps_set (i := 1) sc__law_kinds.nd rfl (Or.inl rfl) (pe_op op_cat (pv 1) (pe_lst (pa_cons (pe_callB Exs.call_isX (by rfl) T.isinstance (by decide +kernel) (pa_cons (pv 0) (pa_cons (pe_glob (v := V.ref a.c_MissingRow) (by rfl) T.g_c_MissingRow (by rfl)) pa_nil))) (pa_cons (pe_callB Exs.call_isX (by rfl) T.isinstance (by decide +kernel) (pa_cons (pv 0) (pa_cons (pe_glob (v := V.ref a.c_NothingToUndo) (by rfl) T.g_c_NothingToUndo (by rfl)) pa_nil))) (pa_cons (pe_callB Exs.call_isX (by rfl) T.isinstance (by decide +kernel) (pa_cons (pv 0) (pa_cons (pe_glob (v := V.ref a.c_TooMany) (by rfl) T.g_c_TooMany (by rfl)) pa_nil))) pa_nil))))))
      (pss_one (ps_ret (pe_op op_cat (pv 1) (pe_lst (pa_cons (pe_callB Exs.call_isX (by rfl) T.isinstance (by decide +kernel) (pa_cons (pv 0) (pa_cons (pe_glob (v := V.ref a.c_InvalidNumber) (by rfl) T.g_c_InvalidNumber (by rfl)) pa_nil))) (pa_cons (pe_callB Exs.call_isX (by rfl) T.isinstance (by decide +kernel) (pa_cons (pv 0) (pa_cons (pe_glob (v := V.ref a.c_NoNodes) (by rfl) T.g_c_NoNodes (by rfl)) pa_nil))) (pa_cons (pe_callB Exs.call_isX (by rfl) T.isinstance (by decide +kernel) (pa_cons (pv 0) (pa_cons (pe_glob (v := V.ref a.c_DealError) (by rfl) T.g_c_DealError (by rfl)) pa_nil))) pa_nil))))))))))))), ?_⟩
    refine ⟨_, rfl, e, D, dx, _, _, _, rfl, hE, hC, .own _, ht 0 _ rfl, _, rfl, e, D, dx, _, _, _, rfl, hE, hC, .own _, ht 1 _ rfl, _, rfl, e, D, dx, _, _, _, rfl, hE, hC, .own _, ht 2 _ rfl, (by show 3 ≤ sizeLine; decide), fun p0 n0 => ?_⟩
    generalize EH0 : upd H p0 _ = H0
    have h0 := (congrFun EH0 p0).symm.trans upd_same
    have S0 : Same H H0 := by rw [← EH0]; exact sameNew n0
    have e0 := hE.same S0
    refine ⟨_, rfl, _, rfl, e, D, dx, _, _, _, rfl, e0, hC, .own _, ht 3 _ rfl, _, rfl, e, D, dx, _, _, _, rfl, e0, hC, .own _, ht 4 _ rfl, _, rfl, e, D, dx, _, _, _, rfl, e0, hC, .own _, ht 5 _ rfl, (by show 3 ≤ sizeLine; decide), fun q1 m1 => ?_⟩
    generalize EG1 : upd H0 q1 _ = G1
    have g1 := (congrFun EG1 q1).symm.trans upd_same
    have R1 : Same H0 G1 := by rw [← EG1]; exact sameNew m1
    refine ⟨_, _, _, _, rfl, rfl, R1 _ _ h0, g1, (by walk_at "sz"), fun p1 n1 => ?_⟩
    generalize EH1 : upd G1 p1 _ = H1
    have h1 := (congrFun EH1 p1).symm.trans upd_same
    have S1 : Same G1 H1 := by rw [← EH1]; exact sameNew n1
    have e1 := (e0.same R1).same S1
    refine ⟨_, rfl, _, rfl, e, D, dx, _, _, _, rfl, e1, hC, .own _, ht 6 _ rfl, _, rfl, e, D, dx, _, _, _, rfl, e1, hC, .own _, ht 7 _ rfl, _, rfl, e, D, dx, _, _, _, rfl, e1, hC, .own _, ht 8 _ rfl, (by show 3 ≤ sizeLine; decide), fun q2 m2 => ?_⟩
    generalize EG2 : upd H1 q2 _ = G2
    have g2 := (congrFun EG2 q2).symm.trans upd_same
    have R2 : Same H1 G2 := by rw [← EG2]; exact sameNew m2
    refine ⟨_, _, _, _, rfl, rfl, R2 _ _ h1, g2, (by walk_at "sz"), fun p2 n2 => ?_⟩
    generalize EH2 : upd G2 p2 _ = H2
    have h2 := (congrFun EH2 p2).symm.trans upd_same
    have S2 : Same G2 H2 := by rw [← EH2]; exact sameNew n2
    have e2 := (e1.same R2).same S2
    refine ⟨_, rfl, _, rfl, e, D, dx, _, _, _, rfl, e2, hC, .own _, ht 9 _ rfl, _, rfl, e, D, dx, _, _, _, rfl, e2, hC, .own _, ht 10 _ rfl, (by show 2 ≤ sizeLine; decide), fun q3 m3 => ?_⟩
    generalize EG3 : upd H2 q3 _ = G3
    have g3 := (congrFun EG3 q3).symm.trans upd_same
    have R3 : Same H2 G3 := by rw [← EG3]; exact sameNew m3
    refine ⟨_, _, _, _, rfl, rfl, R3 _ _ h2, g3, (by walk_at "sz"), fun p3 n3 => ?_⟩
    generalize EH3 : upd G3 p3 _ = H3
    have h3 := (congrFun EH3 p3).symm.trans upd_same
    have S3 : Same G3 H3 := by rw [← EH3]; exact sameNew n3
    have e3 := (e2.same R3).same S3
    refine ⟨_, rfl, _, rfl, e, D, dx, _, _, _, rfl, e3, hC, .own _, ht 11 _ rfl, _, rfl, e, D, dx, _, _, _, rfl, e3, hC, .own _, ht 12 _ rfl, _, rfl, e, D, dx, _, _, _, rfl, e3, hC, .own _, ht 13 _ rfl, (by show 3 ≤ sizeLine; decide), fun q4 m4 => ?_⟩
    generalize EG4 : upd H3 q4 _ = G4
    have g4 := (congrFun EG4 q4).symm.trans upd_same
    have R4 : Same H3 G4 := by rw [← EG4]; exact sameNew m4
    refine ⟨_, _, _, _, rfl, rfl, R4 _ _ h3, g4, (by walk_at "sz"), fun p4 n4 => ?_⟩
    generalize EH4 : upd G4 p4 _ = H4
    have h4 := (congrFun EH4 p4).symm.trans upd_same
    have S4 : Same G4 H4 := by rw [← EH4]; exact sameNew n4
    have e4 := (e3.same R4).same S4
    refine ⟨_, rfl, _, rfl, e, D, dx, _, _, _, rfl, e4, hC, .own _, ht 14 _ rfl, _, rfl, e, D, dx, _, _, _, rfl, e4, hC, .own _, ht 15 _ rfl, _, rfl, e, D, dx, _, _, _, rfl, e4, hC, .own _, ht 16 _ rfl, (by show 3 ≤ sizeLine; decide), fun q5 m5 => ?_⟩
    generalize EG5 : upd H4 q5 _ = G5
    have g5 := (congrFun EG5 q5).symm.trans upd_same
    have R5 : Same H4 G5 := by rw [← EG5]; exact sameNew m5
    refine ⟨_, _, _, _, rfl, rfl, R5 _ _ h4, g5, (by walk_at "sz"), fun p5 n5 => ?_⟩
    generalize EH5 : upd G5 p5 _ = H5
    have h5 := (congrFun EH5 p5).symm.trans upd_same
    have S5 : Same G5 H5 := by rw [← EH5]; exact sameNew n5
    have e5 := (e4.same R5).same S5
    refine ⟨_, rfl, _, rfl, e, D, dx, _, _, _, rfl, e5, hC, .own _, ht 17 _ rfl, _, rfl, e, D, dx, _, _, _, rfl, e5, hC, .own _, ht 18 _ rfl, _, rfl, e, D, dx, _, _, _, rfl, e5, hC, .own _, ht 19 _ rfl, (by show 3 ≤ sizeLine; decide), fun q6 m6 => ?_⟩
    generalize EG6 : upd H5 q6 _ = G6
    have g6 := (congrFun EG6 q6).symm.trans upd_same
    have R6 : Same H5 G6 := by rw [← EG6]; exact sameNew m6
    refine ⟨_, _, _, _, rfl, rfl, R6 _ _ h5, g6, (by walk_at "sz"), fun p6 n6 => ?_⟩
    generalize EH6 : upd G6 p6 _ = H6
    have h6 := (congrFun EH6 p6).symm.trans upd_same
    have S6 : Same G6 H6 := by rw [← EH6]; exact sameNew n6
    have e6 := (e5.same R6).same S6
    exact k p6 H6 ((((((((((((S0).trans R1).trans S1).trans R2).trans S2).trans R3).trans S3).trans R4).trans S4).trans R5).trans S5).free (R6.free n6)) h6 (((((((((((((S0).trans R1).trans S1).trans R2).trans S2).trans R3).trans S3).trans R4).trans S4).trans R5).trans S5).trans R6).trans S6)
theorem ok_python (T : Txt K mg a) : FnOk P w K mg base CX0 1 a.python a.fd_python ps__law_python (spPython K) := by
  have F := T.F_python
  refine F.ok (k := 0) sc__law_python (fun vs H Q E h => ?_) (fun cdv A outer s H vs Q E hr h => ?_)
  · obtain ⟨e, D, dx, tb, rfl, hE, hC, ht, k⟩ := h
    rfl
  · obtain ⟨e, D, dx, tb, rfl, hE, hC, ht, k⟩ := h
    have hu := hu_of hr
    refine ⟨_, (pss_cons (ps_set (i := 1) sc__law_python.nd rfl (Or.inl rfl) (pe_lst (pa_cons (pe_callB Exs.call_isX (by rfl) T.isinstance (by decide +kernel) (pa_cons (pv 0) (pa_cons (pe_bltn (v := V.ty "ValueError") (u := .type "ValueError") (by rfl) T.ValueError (by decide +kernel) (by rfl)) pa_nil))) (pa_cons (pe_callB Exs.call_isX (by rfl) T.isinstance (by decide +kernel) (pa_cons (pv 0) (pa_cons (pe_bltn (v := V.ty "KeyError") (u := .type "KeyError") (by rfl) T.KeyError (by decide +kernel) (by rfl)) pa_nil))) (pa_cons (pe_callB Exs.call_isX (by rfl) T.isinstance (by decide +kernel) (pa_cons (pv 0) (pa_cons (pe_bltn (v := V.ty "IndexError") (u := .type "IndexError") (by rfl) T.IndexError (by decide +kernel) (by rfl)) pa_nil))) pa_nil)))))
      (pss_cons (ps_set (i := 1) sc__law_python.nd rfl (Or.inl rfl) (pe_op op_cat (pv 1) (pe_lst (pa_cons (pe_callB Exs.call_isX (by rfl) T.isinstance (by decide +kernel) (pa_cons (pv 0) (pa_cons (pe_bltn (v := V.ty "LookupError") (u := .type "LookupError") (by rfl) T.LookupError (by decide +kernel) (by rfl)) pa_nil))) (pa_cons (pe_callB Exs.call_isX (by rfl) T.isinstance (by decide +kernel) (pa_cons (pv 0) (pa_cons (pe_bltn (v := V.ty "ZeroDivisionError") (u := .type "ZeroDivisionError") (by rfl) T.ZeroDivisionError (by decide +kernel) (by rfl)) pa_nil))) pa_nil)))))
      (pss_cons (ps_set (i := 1) sc__law_python.nd rfl (Or.inl rfl) (pe_op op_cat (pv 1) (pe_lst (pa_cons (pe_callB Exs.call_isX (by rfl) T.isinstance (by decide +kernel) (pa_cons (pv 0) (pa_cons (pe_bltn (v := V.ty "OverflowError") (u := .type "OverflowError") (by rfl) T.OverflowError (by decide +kernel) (by rfl)) pa_nil))) (pa_cons (pe_callB Exs.call_isX (by rfl) T.isinstance (by decide +kernel) (pa_cons (pv 0) (pa_cons (pe_bltn (v := V.ty "ArithmeticError") (u := .type "ArithmeticError") (by rfl) T.ArithmeticError (by decide +kernel) (by rfl)) pa_nil))) pa_nil)))))
      (pss_one (ps_ret (pe_op op_cat (pv 1) (pe_lst (pa_cons (pe_callB Exs.call_isX (by rfl) T.isinstance (by decide +kernel) (pa_cons (pv 0) (pa_cons (pe_bltn (v := V.ty "RuntimeError") (u := .type "RuntimeError") (by rfl) T.RuntimeError (by decide +kernel) (by rfl)) pa_nil))) pa_nil)))))))), ?_⟩
    refine ⟨_, rfl, e, D, dx, _, _, _, rfl, hE, hC, .ty _, ht 0 _ rfl, _, rfl, e, D, dx, _, _, _, rfl, hE, hC, .ty _, ht 1 _ rfl, _, rfl, e, D, dx, _, _, _, rfl, hE, hC, .ty _, ht 2 _ rfl, (by show 3 ≤ sizeLine; decide), fun p0 n0 => ?_⟩
    generalize EH0 : upd H p0 _ = H0
    have h0 := (congrFun EH0 p0).symm.trans upd_same
    have S0 : Same H H0 := by rw [← EH0]; exact sameNew n0
    have e0 := hE.same S0
    refine ⟨_, rfl, _, rfl, e, D, dx, _, _, _, rfl, e0, hC, .ty _, ht 3 _ rfl, _, rfl, e, D, dx, _, _, _, rfl, e0, hC, .ty _, ht 4 _ rfl, (by show 2 ≤ sizeLine; decide), fun q1 m1 => ?_⟩
    generalize EG1 : upd H0 q1 _ = G1
    have g1 := (congrFun EG1 q1).symm.trans upd_same
    have R1 : Same H0 G1 := by rw [← EG1]; exact sameNew m1
    refine ⟨_, _, _, _, rfl, rfl, R1 _ _ h0, g1, (by walk_at "sz"), fun p1 n1 => ?_⟩
    generalize EH1 : upd G1 p1 _ = H1
    have h1 := (congrFun EH1 p1).symm.trans upd_same
    have S1 : Same G1 H1 := by rw [← EH1]; exact sameNew n1
    have e1 := (e0.same R1).same S1
    refine ⟨_, rfl, _, rfl, e, D, dx, _, _, _, rfl, e1, hC, .ty _, ht 5 _ rfl, _, rfl, e, D, dx, _, _, _, rfl, e1, hC, .ty _, ht 6 _ rfl, (by show 2 ≤ sizeLine; decide), fun q2 m2 => ?_⟩
    generalize EG2 : upd H1 q2 _ = G2
    have g2 := (congrFun EG2 q2).symm.trans upd_same
    have R2 : Same H1 G2 := by rw [← EG2]; exact sameNew m2
    refine ⟨_, _, _, _, rfl, rfl, R2 _ _ h1, g2, (by walk_at "sz"), fun p2 n2 => ?_⟩
    generalize EH2 : upd G2 p2 _ = H2
    have h2 := (congrFun EH2 p2).symm.trans upd_same
    have S2 : Same G2 H2 := by rw [← EH2]; exact sameNew n2
    have e2 := (e1.same R2).same S2
    refine ⟨_, rfl, _, rfl, e, D, dx, _, _, _, rfl, e2, hC, .ty _, ht 7 _ rfl, (by show 1 ≤ sizeLine; decide), fun q3 m3 => ?_⟩
    generalize EG3 : upd H2 q3 _ = G3
    have g3 := (congrFun EG3 q3).symm.trans upd_same
    have R3 : Same H2 G3 := by rw [← EG3]; exact sameNew m3
    refine ⟨_, _, _, _, rfl, rfl, R3 _ _ h2, g3, (by walk_at "sz"), fun p3 n3 => ?_⟩
    generalize EH3 : upd G3 p3 _ = H3
    have h3 := (congrFun EH3 p3).symm.trans upd_same
    have S3 : Same G3 H3 := by rw [← EH3]; exact sameNew n3
    have e3 := (e2.same R3).same S3
    exact k p3 H3 ((((((S0).trans R1).trans S1).trans R2).trans S2).free (R3.free n3)) h3 (((((((S0).trans R1).trans S1).trans R2).trans S2).trans R3).trans S3)
theorem inV_ints (x : Int) : ∀ ns : List Int, inV (.int x) (ns.map V.int) = decide (x ∈ ns)
  | [] => rfl
  | n :: r => by
    have ih := inV_ints x r
    unfold inV at ih ⊢
    rw [List.map_cons, List.any_cons, ih]
    have e : eqV (V.int n) (V.int x) = (n == x) := rfl
    rw [e]
    by_cases h : n = x
    · subst h
      simp
    · have h' : ¬ x = n := fun z => h z.symm
      simp [h, h']
theorem flat_ints : ∀ ns : List Int, (ns.map V.int).all flatV = true
  | [] => rfl
  | _ :: r => by
    rw [List.map_cons, List.all_cons, flat_ints r]
    rfl
theorem range_map {α : Type} (f : Nat → α) (i : Nat) : (List.range (i + 1)).map f = (List.range i).map f ++ [f i] := by
  rw [List.range_succ, List.map_append]
  rfl
theorem ok_truths (T : Txt K mg a) : FnOk P w K mg base CX0 1 a.truths a.fd_truths ps__law_truths (spTruths K) := by
  have F := T.F_truths
  refine F.ok (k := 0) sc__law_truths (fun vs H Q E h => ?_) (fun cdv A outer s H vs Q E hr h => ?_)
  · obtain ⟨p, ns, n, rfl, hP, hn, k⟩ := h
    rfl
  · obtain ⟨p, ns, n, rfl, hP, hn, k⟩ := h
    have hu := hu_of hr
    refine ⟨_, (pss_one (ps_ret (pe_lc (own := [("_law_at", 2)]) rfl sc__law_truths.nd (pi_range1 (by rfl) T.range (pa_cons (pv 1) pa_nil)) (blkOk_by (N := nm__law_truths) (sc := defScope s__law_truths) (by decide +kernel)) (fun _ _ _ _ _ => (pg_name (i := 2) sc__law_truths.nd rfl (Or.inl rfl))) (fun _ _ _ _ _ => pts_nil) (fun _ _ _ _ _ => (pe_cmpR (r := rIn K false) op_in_seq (pv 2) (pv 0) (by rfl)))))), ?_⟩
    refine ⟨_, rfl, (n : Int), rfl, by omega, by omega, fun D hD => ?_⟩
    rw [Int.toNat_natCast]
    refine lc_range (lo := 0) (n := n) (fun i H1 => H1 = upd H D (.lst ((List.range i).map fun (j : Nat) => V.bl (decide ((j : Int) ∈ ns))))) rfl ?_ ?_
    · rintro i H1 hi rfl
      have S := sameNew (o := .lst ((List.range i).map fun (j : Nat) => V.bl (decide ((j : Int) ∈ ns)))) hD
      refine ⟨rfl, ?_⟩
      dsimp only [tYes]
      rw [if_pos rfl]
      refine ⟨_, rfl, _, rfl, p, _, rfl, .inr (sameT S hP), rfl, flat_ints ns, _, upd_same, ?_, ?_⟩
      · rw [List.length_map, List.length_range, sizeLine_eq]
        omega
      · rw [upd_upd, range_map]
        show upd H D (.lst (_ ++ [V.bl (inV (.int (0 + (i : Int))) (ns.map V.int))])) = _
        rw [inV_ints, Int.zero_add]
    · rintro H1 rfl
      exact k D _ hD upd_same (sameNew hD)
def spRaise (a : Ads) : Sp := fun vs H Q E => ∃ (n : Nat) (v : V), vs = [.int (n : Nat), v] ∧ n < 9 ∧ ∀ d H', H' d = some (.xd [(fld n, v)]) → Same H H' → E (.ref (kcl a n)) (some d) H'
/-- an error that is made and raised -/
theorem rse {H : Hp} {f : Str} {C : Addr} {v : V} {E : XK} (k : ∀ d H', H' d = some (.xd [(f, v)]) → Same H H' → E (.ref C) (some d) H') :
    ([v] : List V).length ≤ 1000 ∧ ∀ x, H x = none → spInit f C (.ref x :: [v]) (upd H x (exo x C none)) (fun u H2 => u = .non ∧ ∃ (d : Addr) (fs : List (Str × V)), H2 x = some (exo x C (some d)) ∧ H2 d = some (exd d fs) ∧ H d = none ∧ E (.ref C) (some d) (upd (del H2 x) d (.xd fs))) (fun _ _ _ => False) := by
  refine ⟨by simp, fun x hx => ⟨x, v, rfl, upd_same, fun d hd ne => ?_⟩⟩
  have hd' : H d = none := by
    rw [upd_ne ne] at hd
    exact hd
  refine ⟨rfl, d, [(f, v)], upd_same, ?_, hd', k d _ upd_same fun b o e => ?_⟩
  · rw [upd_ne ne]
    exact upd_same
  · have n1 : b ≠ d := ne_of_none e hd'
    have n2 : b ≠ x := ne_of_none e hx
    rw [upd_ne n1, del_ne n2, upd_ne n2, upd_ne n1, upd_ne n2]
    exact e
theorem ok_raise (T : Txt K mg a) : FnOk P w K mg base (L2.CX P w) 3 a.raise a.fd_raise ps__law_raise (spRaise a) := by
  have F := T.F_raise
  refine F.okX (k := 2) sc__law_raise (fun vs H Q E h => ?_) (fun cdv A outer s H vs Q E hr h => ?_)
  · obtain ⟨n, v, rfl, hn, k⟩ := h
    rfl
  · obtain ⟨n, v, rfl, hn, k⟩ := h
    have hu := hu_of hr
    refine ⟨_, (pss_cons (ps_if (pt_cmpR op_eq (pv 0) pe_int (nomark _)) (pss_one (ps_raise rfl (takes_of rfl rfl rfl rfl) (Exs.pmk_exr T.k1_ParseError T.i_ParseError T.ti_ParseError (ok_ParseError___init__ T) (hr.mono (by decide)) (b_ParseError___init__ T) pass0 (by rfl) T.g_c_ParseError (pa_cons (pv 1) pa_nil)))) pss_nil)
      (pss_cons (ps_if (pt_cmpR op_eq (pv 0) pe_int (nomark _)) (pss_one (ps_raise rfl (takes_of rfl rfl rfl rfl) (Exs.pmk_exr T.k1_BrokenConstraint T.i_BrokenConstraint T.ti_BrokenConstraint (ok_BrokenConstraint___init__ T) (hr.mono (by decide)) (b_BrokenConstraint___init__ T) pass0 (by rfl) T.g_c_BrokenConstraint (pa_cons (pv 1) pa_nil)))) pss_nil)
      (pss_cons (ps_if (pt_cmpR op_eq (pv 0) pe_int (nomark _)) (pss_one (ps_raise rfl (takes_of rfl rfl rfl rfl) (Exs.pmk_exr T.k1_Rejected T.i_Rejected T.ti_Rejected (ok_Rejected___init__ T) (hr.mono (by decide)) (b_Rejected___init__ T) pass0 (by rfl) T.g_c_Rejected (pa_cons (pv 1) pa_nil)))) pss_nil)
      (pss_cons (ps_if (pt_cmpR op_eq (pv 0) pe_int (nomark _)) (pss_one (ps_raise rfl (takes_of rfl rfl rfl rfl) (Exs.pmk_exr T.k1_UnknownName T.i_UnknownName T.ti_UnknownName (ok_UnknownName___init__ T) (hr.mono (by decide)) (b_UnknownName___init__ T) pass0 (by rfl) T.g_c_UnknownName (pa_cons (pv 1) pa_nil)))) pss_nil)
      (pss_cons (ps_if (pt_cmpR op_eq (pv 0) pe_int (nomark _)) (pss_one (ps_raise rfl (takes_of rfl rfl rfl rfl) (Exs.pmk_exr T.k1_MissingRow T.i_MissingRow T.ti_MissingRow (ok_MissingRow___init__ T) (hr.mono (by decide)) (b_MissingRow___init__ T) pass0 (by rfl) T.g_c_MissingRow (pa_cons (pv 1) pa_nil)))) pss_nil)
      (pss_cons (ps_if (pt_cmpR op_eq (pv 0) pe_int (nomark _)) (pss_one (ps_raise rfl (takes_of rfl rfl rfl rfl) (Exs.pmk_exr T.k1_NothingToUndo T.i_NothingToUndo T.ti_NothingToUndo (ok_NothingToUndo___init__ T) (hr.mono (by decide)) (b_NothingToUndo___init__ T) pass0 (by rfl) T.g_c_NothingToUndo (pa_cons (pv 1) pa_nil)))) pss_nil)
      (pss_cons (ps_if (pt_cmpR op_eq (pv 0) pe_int (nomark _)) (pss_one (ps_raise rfl (takes_of rfl rfl rfl rfl) (Exs.pmk_exr T.k1_TooMany T.i_TooMany T.ti_TooMany (ok_TooMany___init__ T) (hr.mono (by decide)) (b_TooMany___init__ T) pass0 (by rfl) T.g_c_TooMany (pa_cons (pv 1) pa_nil)))) pss_nil)
      (pss_cons (ps_if (pt_cmpR op_eq (pv 0) pe_int (nomark _)) (pss_one (ps_raise rfl (takes_of rfl rfl rfl rfl) (Exs.pmk_exr T.k1_InvalidNumber T.i_InvalidNumber T.ti_InvalidNumber (ok_InvalidNumber___init__ T) (hr.mono (by decide)) (b_InvalidNumber___init__ T) pass0 (by rfl) T.g_c_InvalidNumber (pa_cons (pv 1) pa_nil)))) pss_nil)
      (pss_one (ps_raise rfl (takes_of rfl rfl rfl rfl) (Exs.pmk_exr T.k1_NoNodes T.i_NoNodes T.ti_NoNodes (ok_NoNodes___init__ T) (hr.mono (by decide)) (b_NoNodes___init__ T) pass0 (by rfl) T.g_c_NoNodes (pa_cons (pv 1) pa_nil)))))))))))), ?_⟩
    match n, hn, k with
    | 0, _, k =>
      repeat (walk_at "eqt")
      refine ⟨_, rfl, ?_⟩
      exact rse k
    | 1, _, k =>
      repeat (walk_at "eqt")
      refine ⟨_, rfl, ?_⟩
      exact rse k
    | 2, _, k =>
      repeat (walk_at "eqt")
      refine ⟨_, rfl, ?_⟩
      exact rse k
    | 3, _, k =>
      repeat (walk_at "eqt")
      refine ⟨_, rfl, ?_⟩
      exact rse k
    | 4, _, k =>
      repeat (walk_at "eqt")
      refine ⟨_, rfl, ?_⟩
      exact rse k
    | 5, _, k =>
      repeat (walk_at "eqt")
      refine ⟨_, rfl, ?_⟩
      exact rse k
    | 6, _, k =>
      repeat (walk_at "eqt")
      refine ⟨_, rfl, ?_⟩
      exact rse k
    | 7, _, k =>
      repeat (walk_at "eqt")
      refine ⟨_, rfl, ?_⟩
      exact rse k
    | 8, _, k =>
      repeat (walk_at "eqt")
      refine ⟨_, rfl, ?_⟩
      exact rse k
/-- Python's classes above the n-th class -/
def tsOf : Nat → List Value
  | 13 => keT
  | 14 => leT
  | 15 => ieT
  | 16 => oeT
  | 17 => reT
  | 18 => zeT
  | _ => veT
/-- all classes above the n-th class -/
def bmOf (a : Ads) (n : Nat) : List Value := if n < 13 then .ref a.c_DealError :: tsOf n else tsOf n
theorem rowOf (T : Txt K mg a) : ∀ i, i < 20 → ∃ D nid, (cl a)[i]? = some D ∧ Exs.XObj K D (bmOf a i) nid ∧ ExcC K D
  | 0, _ => ⟨_, _, rfl, T.x_InvalidSchema, T.e_InvalidSchema⟩
  | 1, _ => ⟨_, _, rfl, T.x_InvalidDatabase, T.e_InvalidDatabase⟩
  | 2, _ => ⟨_, _, rfl, T.x_InvalidClause, T.e_InvalidClause⟩
  | 3, _ => ⟨_, _, rfl, T.x_InvalidQuery, T.e_InvalidQuery⟩
  | 4, _ => ⟨_, _, rfl, T.x_InvalidRule, T.e_InvalidRule⟩
  | 5, _ => ⟨_, _, rfl, T.x_InvalidPlacement, T.e_InvalidPlacement⟩
  | 6, _ => ⟨_, _, rfl, T.x_InvalidCase, T.e_InvalidCase⟩
  | 7, _ => ⟨_, _, rfl, T.x_InvalidRow, T.e_InvalidRow⟩
  | 8, _ => ⟨_, _, rfl, T.x_InvalidAnswer, T.e_InvalidAnswer⟩
  | 9, _ => ⟨_, _, rfl, T.x_InvalidOperation, T.e_InvalidOperation⟩
  | 10, _ => ⟨_, _, rfl, T.x_ParseError, T.e_ParseError⟩
  | 11, _ => ⟨_, _, rfl, T.x_BrokenConstraint, T.e_BrokenConstraint⟩
  | 12, _ => ⟨_, _, rfl, T.x_Rejected, T.e_Rejected⟩
  | 13, _ => ⟨_, _, rfl, T.x_UnknownName, T.e_UnknownName⟩
  | 14, _ => ⟨_, _, rfl, T.x_MissingRow, T.e_MissingRow⟩
  | 15, _ => ⟨_, _, rfl, T.x_NothingToUndo, T.e_NothingToUndo⟩
  | 16, _ => ⟨_, _, rfl, T.x_TooMany, T.e_TooMany⟩
  | 17, _ => ⟨_, _, rfl, T.x_InvalidNumber, T.e_InvalidNumber⟩
  | 18, _ => ⟨_, _, rfl, T.x_NoNodes, T.e_NoNodes⟩
  | 19, _ => ⟨_, _, rfl, T.x_DealError, T.e_DealError⟩
  | _ + 20, h => absurd h (by omega)
theorem ts_ref (C : Addr) : ∀ i, (tsOf i).contains (.ref C) = false := by
  intro i
  unfold tsOf
  split <;> rfl
theorem ts_base : ∀ i, (tsOf i).contains (.type "BaseException") = true := by
  intro i
  unfold tsOf
  split <;> rfl
theorem bm_ref (a : Ads) (C : Addr) (i : Nat) : (bmOf a i).contains (.ref C) = (decide (i < 13) && decide (C = a.c_DealError)) := by
  unfold bmOf
  by_cases h : i < 13
  · rw [if_pos h, List.contains_cons, ts_ref, Bool.or_false, decide_eq_true h, Bool.true_and]
    rw [Bool.eq_iff_iff]
    simp
  · rw [if_neg h, ts_ref, decide_eq_false h, Bool.false_and]
theorem bm_type (a : Ads) (X : String) (i : Nat) : (bmOf a i).contains (.type X) = (tsOf i).contains (.type X) := by
  unfold bmOf
  by_cases h : i < 13
  · rw [if_pos h, List.contains_cons]
    rfl
  · rw [if_neg h]
/-- whether the i-th class is one of the j-th -/
def isOf (i j : Nat) : Bool := decide (j = i) || (decide (i < 13) && decide (j = 19))
theorem cl_inj (T : Txt K mg a) {i j : Nat} {C : Addr} (h1 : (cl a)[i]? = some C) (h2 : (cl a)[j]? = some C) : i = j := by
  have hi : i < (cl a).length := (List.getElem?_eq_some_iff.mp h1).1
  have hj : j < (cl a).length := (List.getElem?_eq_some_iff.mp h2).1
  have e : (cl a)[i] = (cl a)[j] := by
    rw [List.getElem?_eq_getElem hi] at h1
    rw [List.getElem?_eq_getElem hj] at h2
    exact (Option.some.inj h1).trans (Option.some.inj h2).symm
  have nd := List.pairwise_iff_getElem.mp T.nd
  rcases Nat.lt_trichotomy i j with h | h | h
  · exact absurd e (nd i j hi hj h)
  · exact h
  · exact absurd e.symm (nd j i hj hi h)
theorem cl_lt {i : Nat} {C : Addr} (h : (cl a)[i]? = some C) : i < 20 := (List.getElem?_eq_some_iff.mp h).1
theorem mro_of (T : Txt K mg a) {i j : Nat} {D C : Addr} (h1 : (cl a)[i]? = some D) (h2 : (cl a)[j]? = some C) : (Value.ref D :: bmOf a i).contains (.ref C) = isOf i j := by
  rw [List.contains_cons, bm_ref]
  unfold isOf
  have e1 : (Value.ref C == Value.ref D) = decide (j = i) := by
    rw [Bool.eq_iff_iff]
    simp only [beq_iff_eq, Value.ref.injEq, decide_eq_true_eq]
    exact ⟨fun e => by subst e; exact cl_inj T h2 h1, fun e => by subst e; rw [h1] at h2; cases h2; rfl⟩
  have e2 : decide (C = a.c_DealError) = decide (j = 19) := by
    rw [decide_eq_decide]
    have h3 : (cl a)[19]? = some a.c_DealError := rfl
    exact ⟨fun e => by subst e; exact cl_inj T h2 h3, fun e => by subst e; rw [h3] at h2; cases h2; rfl⟩
  rw [e1, e2]
theorem kit_of (T : Txt K mg a) {i j : Nat} {D C : Addr} (h1 : (cl a)[i]? = some D) (h2 : (cl a)[j]? = some C) : PySem.W.kitOne K (.ref D) (.ref C) = some (isOf i j) := by
  obtain ⟨D', n1, q1, x1, _⟩ := rowOf T i (cl_lt h1)
  obtain ⟨C', n2, q2, x2, _⟩ := rowOf T j (cl_lt h2)
  rw [h1] at q1
  rw [h2] at q2
  cases q1
  cases q2
  rw [x1.kit x2, mro_of T h1 h2]
theorem exm_of' (T : Txt K mg a) {i j : Nat} {D C : Addr} (h1 : (cl a)[i]? = some D) (h2 : (cl a)[j]? = some C) : PySem.W.exmOne K (.ref D) (.ref C) = some (isOf i j) := by
  obtain ⟨D', n1, q1, x1, _⟩ := rowOf T i (cl_lt h1)
  obtain ⟨C', n2, q2, x2, _⟩ := rowOf T j (cl_lt h2)
  rw [h1] at q1
  rw [h2] at q2
  cases q1
  cases q2
  rw [x1.exm x2 (by rw [bm_type]; exact ts_base j), mro_of T h1 h2]
theorem kitT_of (T : Txt K mg a) {i : Nat} {D : Addr} {X : String} (h1 : (cl a)[i]? = some D) (h : PySem.W.kitMeta X = true) : PySem.W.kitOne K (.ref D) (.type X) = some ((tsOf i).contains (.type X)) := by
  obtain ⟨D', n1, q1, x1, _⟩ := rowOf T i (cl_lt h1)
  rw [h1] at q1
  cases q1
  rw [x1.kitT h, bm_type]
theorem exmT_of (T : Txt K mg a) {i : Nat} {D : Addr} {X : String} (h1 : (cl a)[i]? = some D) (h : PySem.W.kitMeta X = true) (hb : (fastBuiltinMro X).map (·.contains (.type "BaseException")) = some true) : PySem.W.exmOne K (.ref D) (.type X) = some ((tsOf i).contains (.type X)) := by
  obtain ⟨D', n1, q1, x1, _⟩ := rowOf T i (cl_lt h1)
  rw [h1] at q1
  cases q1
  rw [x1.exmT h hb, bm_type]
theorem exm3_of (T : Txt K mg a) {i : Nat} {D : Addr} (h1 : (cl a)[i]? = some D) : PySem.W.exmAny K (.ref D) [.ref a.c_NothingToUndo, .ref a.c_TooMany, .ref a.c_InvalidNumber] = some (isOf i 15 || (isOf i 16 || (isOf i 17 || false))) := by
  unfold PySem.W.exmAny
  rw [exm_of' T h1 (j := 15) rfl]
  unfold PySem.W.exmAny
  rw [exm_of' T h1 (j := 16) rfl]
  unfold PySem.W.exmAny
  rw [exm_of' T h1 (j := 17) rfl]
  rfl
/-- the word of the clause that takes the n-th error -/
def wd (n : Nat) : Str := (["deal", "deal", "deal", "key", "row", "other", "other", "other", "zero"] : List Str).getD n "none"
def spCaught : Sp := fun vs H Q _ => ∃ (n : Nat) (v : V), vs = [.int (n : Nat), v] ∧ n < 9 ∧ ∀ H', Same H H' → Q (.str (wd n)) H'
theorem kcl_at (a : Ads) {n : Nat} (h : n < 9) : (cl a)[10 + n]? = some (kcl a n) := by
  have q : 10 + n < (cl a).length := by
    show 10 + n < 20
    omega
  unfold kcl
  rw [List.getD_eq_getElem?_getD, List.getElem?_eq_getElem q]
  rfl
theorem ok_caught (T : Txt K mg a) : FnOk P w K mg base CX0 4 a.caught a.fd_caught ps__law_caught spCaught := by
  have F := T.F_caught
  refine F.ok (k := 3) sc__law_caught (fun vs H Q E h => ?_) (fun cdv A outer s H vs Q E hr h => ?_)
  · obtain ⟨n, v, rfl, hn, k⟩ := h
    rfl
  · obtain ⟨n, v, rfl, hn, k⟩ := h
    have hu := hu_of hr
    refine ⟨_, (pss_cons (Exs.ps_try_cl (Wout := fun _ _ _ _ => False) rfl rfl takes0 (fun W pn xe tk _ => (pss_one (ps_expr (pe_callS (ok_raise T) (hr.mono (by decide)) (by rfl) T.g_raise T.F_raise.kp (b_raise T) (fun σ => passAt tk σ) (pa_cons (pv 0) (pa_cons (pv 1) pa_nil)))))) (.cons (Exs.asks_one (hc := ⟨by rfl, by decide, .inl T.g_c_DealError⟩)) (fun a0 oe cls d0 pn hz hf => (pss_one (ps_ret pe_str))) (.cons (Exs.asks_one (c := .type "KeyError") (hc := ⟨by rfl, by decide, .inr ⟨T.KeyError, by decide +kernel, by decide⟩⟩)) (fun a0 oe cls d0 pn hz hf => (pss_one (ps_ret pe_str))) (.cons (Exs.asks_one (c := .type "ZeroDivisionError") (hc := ⟨by rfl, by decide, .inr ⟨T.ZeroDivisionError, by decide +kernel, by decide⟩⟩)) (fun a0 oe cls d0 pn hz hf => (pss_one (ps_ret pe_str))) (.cons (Exs.asks_one (hc := ⟨by rfl, by decide, .inl T.g_c_MissingRow⟩)) (fun a0 oe cls d0 pn hz hf => (pss_one (ps_ret pe_str))) (.cons (Exs.asks_three ⟨by rfl, by decide, .inl T.g_c_NothingToUndo⟩ ⟨by rfl, by decide, .inl T.g_c_TooMany⟩ ⟨by rfl, by decide, .inl T.g_c_InvalidNumber⟩) (fun a0 oe cls d0 pn hz hf => (pss_one (ps_ret pe_str))) .nil))))))
      (pss_one (ps_ret pe_str))), ?_⟩
    refine ⟨_, rfl, _, rfl, n, v, rfl, hn, fun d H' hd S => ?_⟩
    have h1 := kcl_at a hn
    match n, hn, k, h1 with
    | 0, _, k, h1 =>
      exact ⟨_, exm_of' T h1 (j := 19) rfl, fun _ x hx => k _ S, fun q => absurd q (by decide)⟩
    | 1, _, k, h1 =>
      exact ⟨_, exm_of' T h1 (j := 19) rfl, fun _ x hx => k _ S, fun q => absurd q (by decide)⟩
    | 2, _, k, h1 =>
      exact ⟨_, exm_of' T h1 (j := 19) rfl, fun _ x hx => k _ S, fun q => absurd q (by decide)⟩
    | 3, _, k, h1 =>
      refine ⟨_, exm_of' T h1 (j := 19) rfl, fun q _ _ => absurd q (by decide), fun _ => ?_⟩
      exact ⟨_, exmT_of T h1 (by decide) (by decide), fun _ x hx => k _ S, fun q => absurd q (by decide)⟩
    | 4, _, k, h1 =>
      refine ⟨_, exm_of' T h1 (j := 19) rfl, fun q _ _ => absurd q (by decide), fun _ => ?_⟩
      refine ⟨_, exmT_of T h1 (by decide) (by decide), fun q _ _ => absurd q (by decide), fun _ => ?_⟩
      refine ⟨_, exmT_of T h1 (by decide) (by decide), fun q _ _ => absurd q (by decide), fun _ => ?_⟩
      exact ⟨_, exm_of' T h1 (j := 14) rfl, fun _ x hx => k _ S, fun q => absurd q (by decide)⟩
    | 5, _, k, h1 =>
      refine ⟨_, exm_of' T h1 (j := 19) rfl, fun q _ _ => absurd q (by decide), fun _ => ?_⟩
      refine ⟨_, exmT_of T h1 (by decide) (by decide), fun q _ _ => absurd q (by decide), fun _ => ?_⟩
      refine ⟨_, exmT_of T h1 (by decide) (by decide), fun q _ _ => absurd q (by decide), fun _ => ?_⟩
      refine ⟨_, exm_of' T h1 (j := 14) rfl, fun q _ _ => absurd q (by decide), fun _ => ?_⟩
      exact ⟨_, exm3_of T h1, fun _ x hx => k _ S, fun q => absurd q (by decide)⟩
    | 6, _, k, h1 =>
      refine ⟨_, exm_of' T h1 (j := 19) rfl, fun q _ _ => absurd q (by decide), fun _ => ?_⟩
      refine ⟨_, exmT_of T h1 (by decide) (by decide), fun q _ _ => absurd q (by decide), fun _ => ?_⟩
      refine ⟨_, exmT_of T h1 (by decide) (by decide), fun q _ _ => absurd q (by decide), fun _ => ?_⟩
      refine ⟨_, exm_of' T h1 (j := 14) rfl, fun q _ _ => absurd q (by decide), fun _ => ?_⟩
      exact ⟨_, exm3_of T h1, fun _ x hx => k _ S, fun q => absurd q (by decide)⟩
    | 7, _, k, h1 =>
      refine ⟨_, exm_of' T h1 (j := 19) rfl, fun q _ _ => absurd q (by decide), fun _ => ?_⟩
      refine ⟨_, exmT_of T h1 (by decide) (by decide), fun q _ _ => absurd q (by decide), fun _ => ?_⟩
      refine ⟨_, exmT_of T h1 (by decide) (by decide), fun q _ _ => absurd q (by decide), fun _ => ?_⟩
      refine ⟨_, exm_of' T h1 (j := 14) rfl, fun q _ _ => absurd q (by decide), fun _ => ?_⟩
      exact ⟨_, exm3_of T h1, fun _ x hx => k _ S, fun q => absurd q (by decide)⟩
    | 8, _, k, h1 =>
      refine ⟨_, exm_of' T h1 (j := 19) rfl, fun q _ _ => absurd q (by decide), fun _ => ?_⟩
      refine ⟨_, exmT_of T h1 (by decide) (by decide), fun q _ _ => absurd q (by decide), fun _ => ?_⟩
      exact ⟨_, exmT_of T h1 (by decide) (by decide), fun _ x hx => k _ S, fun q => absurd q (by decide)⟩
/-- a sign of a word -/
def Sign (y : Str) : Prop := ∃ c, y = ⟨#[c]⟩ ∧ c < 128
/-- a drawn word -/
def Word (z : Str) : Prop := z.length ≤ 12 ∧ ∀ c ∈ z.cps.toList, c < 128
open TL in
theorem signs_join : ∀ ys : List Str, (∀ y ∈ ys, Sign y) → (tl (Str.join "" ys)).length = ys.length ∧ ∀ c ∈ tl (Str.join "" ys), c < 128 := by
  intro ys
  rw [tl_join]
  induction ys with
  | nil => exact fun _ => ⟨rfl, fun _ h => by cases h⟩
  | cons y r ih =>
    intro h
    obtain ⟨c, rfl, hc⟩ := h y List.mem_cons_self
    have q := ih fun z hz => h z (List.mem_cons_of_mem _ hz)
    cases r with
    | nil => exact ⟨rfl, fun d hd => by
        have e : d = c := by simpa [tl, joinL] using hd
        rw [e]
        exact hc⟩
    | cons y2 r2 =>
      refine ⟨?_, fun d hd => ?_⟩
      · have e := q.1
        show (tl ⟨#[c]⟩ ++ (tl "" ++ joinL (tl "") ((y2 :: r2).map tl))).length = _
        rw [List.length_append, List.length_append, e]
        show 1 + (0 + _) = _
        simp
        omega
      · have hd' : d ∈ tl ⟨#[c]⟩ ++ (tl "" ++ joinL (tl "") ((y2 :: r2).map tl)) := hd
        rw [List.mem_append, List.mem_append] at hd'
        rcases hd' with z | z | z
        · have e : d = c := by simpa [tl] using z
          rw [e]
          exact hc
        · cases z
        · exact q.2 d z
open TL in
theorem word_join {ys : List Str} (h : ∀ y ∈ ys, Sign y) (l : ys.length ≤ 12) : Word (Str.join "" ys) := by
  obtain ⟨q1, q2⟩ := signs_join ys h
  exact ⟨by show (tl (Str.join "" ys)).length ≤ 12; omega, q2⟩
theorem sum_signs : ∀ ys : List Str, (∀ y ∈ ys, Sign y) → (ys.map (·.length)).sum = ys.length
  | [], _ => rfl
  | y :: r, h => by
    obtain ⟨c, rfl, _⟩ := h y List.mem_cons_self
    rw [List.map_cons, List.sum_cons, sum_signs r fun z hz => h z (List.mem_cons_of_mem _ hz), List.length_cons]
    show 1 + _ = _
    omega
def signsT : Str := "abcdefghijklmnopqrstuvwxyzABCDEFGHIJKLMNOPQRSTUVWXYZ 0123456789.,:;-_()[]"
theorem sign_lt : ∀ c ∈ signsT.cps.toList, c < 128 := by decide +kernel
def spWord : Sp := fun vs H Q _ => ∃ d : Addr, vs = [.ref d] ∧ Die H d ∧ ∀ z H', Word z → Rolled d H H' → Q (.str z) H'
theorem ok_word (T : Txt K mg a) : FnOk P w K mg base CX0 3 a.word a.fd_word ps__law_word spWord := by
  have F := T.F_word
  refine F.ok (k := 2) sc__law_word (fun vs H Q E h => ?_) (fun cdv A outer s H vs Q E hr h => ?_)
  · obtain ⟨d, rfl, hD, k⟩ := h
    rfl
  · obtain ⟨d, rfl, hD, k⟩ := h
    have hu := hu_of hr
    refine ⟨_, (pss_cons (ps_set (i := 1) sc__law_word.nd rfl (Or.inr rfl) pe_str)
      (pss_one (ps_ret (pe_join pe_str (pe_lc (own := [("_law_turn", 2)]) rfl sc__law_word.nd (pi_range1 (by rfl) T.range (pa_cons (pe_call (ok_roll T) (hr.mono (by decide)) (by rfl) T.g_roll T.F_roll.kp (b_roll T) .nil pass0 (pa_cons (pv 0) (pa_cons pe_int pa_nil))) pa_nil)) (blkOk_by (N := nm__law_word) (sc := defScope s__law_word) (by decide +kernel)) (fun _ _ _ _ _ => (pg_name (i := 2) sc__law_word.nd rfl (Or.inl rfl))) (fun _ _ _ _ _ => pts_nil) (fun _ _ _ _ _ => (pe_call (ok_pick T) (hr.mono (by decide)) (by rfl) T.g_pick T.F_pick.kp (b_pick T) .nil pass0 (pa_cons (pv 0) (pa_cons (pv 1) pa_nil))))))))), ?_⟩
    refine ⟨⟨_, rfl⟩, _, rfl, d, 13, rfl, hD, by decide, by decide, fun r H1 h0 h1 R => ?_⟩
    obtain ⟨n, rfl⟩ := Int.eq_ofNat_of_zero_le h0
    refine ⟨(n : Int), rfl, by omega, by omega, fun D hn => ?_⟩
    have nd : D ≠ d := R.die.ne hn
    have fr : H D = none := R.free hn
    refine lc_range (lo := 0) (n := n) (fun i H2 => ∃ ys : List Str, ys.length = i ∧ (∀ y ∈ ys, Sign y) ∧ H2 D = some (.lst (ys.map V.str)) ∧ Rolled d H H2) ?_ ?_ ?_
    · exact ⟨[], rfl, (fun _ h => nomatch h), upd_same, R.new hn⟩
    · rintro i H2 hi ⟨ys, hl, hs, e, R2⟩
      refine ⟨rfl, ?_⟩
      dsimp only [tYes]
      rw [if_pos rfl]
      refine ⟨_, rfl, _, rfl, d, _, _, rfl, R2.die, rfl, by decide, by decide, fun v H3 hv R3 => ?_⟩
      obtain ⟨c, hc, rfl⟩ := List.mem_map.mp hv
      have hb : c < 128 := sign_lt c hc
      refine ⟨_, R3.keep _ _ nd e, ?_, ys ++ [⟨#[c]⟩], ?_, ?_, ?_, ?_⟩
      · rw [List.length_map, sizeLine_eq]
        omega
      · rw [List.length_append, hl]
        rfl
      · intro y hy
        rcases List.mem_append.mp hy with h | h
        · exact hs y h
        · rw [List.mem_singleton.mp h]
          exact ⟨c, rfl, hb⟩
      · rw [List.map_append]
        exact upd_same
      · exact (R2.trans R3).mut fr nd
    · rintro H2 ⟨ys, hl, hs, e, R2⟩
      refine ⟨_, D, ys, rfl, rfl, .inl (.of e), ?_, k _ _ (by rw [TL.join_eq]; exact word_join hs (by omega)) R2⟩
      rw [sum_signs ys hs]
      show _ + _ * 0 ≤ _
      omega
/-- the numbers that are drawn -/
def numL : List Int := ([0, 1, 100, 2000, -1, 10 ^ 59] : List Int).flatMap fun i => [i, i + 1, i + 2, i + 3, i + 4]
theorem num_in {i r : Int} (hj : i ∈ ([0, 1, 100, 2000, -1, 10 ^ 59] : List Int)) (h0 : 0 ≤ r) (h1 : r < 5) : i + r ∈ numL := by
  refine List.mem_flatMap.mpr ⟨i, hj, ?_⟩
  obtain rfl | rfl | rfl | rfl | rfl : r = 0 ∨ r = 1 ∨ r = 2 ∨ r = 3 ∨ r = 4 := by omega
  · simp
  · simp
  · simp
  · simp
  · simp
theorem num_facts : ∀ m ∈ numL, PyData.showable (.int m) = true ∧ PyData.leavesShort 61 (.int m) = true ∧ PyData.weight (.int m) ≤ 200 := by decide +kernel
theorem fits_of {dd : PyData} (h1 : dd.showable = true) (h2 : dd.depth ≤ 60) (h3 : dd.leavesShort 61 = true) (h4 : dd.weight ≤ 1000) : Rp.Fits dd := by
  refine ⟨h1, h2, 61, by decide, h3, ?_⟩
  rw [sizeLine_eq]
  omega
theorem word_short {z : Str} (h : Word z) : PyData.leavesShort 61 (.str z) = true := by
  rw [PyData.leavesShort, List.all_eq_true]
  intro c hc
  have := h.2 c hc
  exact decide_eq_true (by omega)
theorem word_weight {z : Str} (h : Word z) : PyData.weight (.str z) ≤ 12 := by
  rw [PyData.weight]
  exact h.1
theorem fits_int {m : Int} (h : m ∈ numL) : Rp.Fits (.int m) := by
  obtain ⟨h1, h2, h3⟩ := num_facts m h
  exact fits_of h1 (by rw [PyData.depth]; decide) h2 (by omega)
theorem fits_word {z : Str} (h : Word z) : Rp.Fits (.str z) :=
  fits_of (by rw [PyData.showable]) (by rw [PyData.depth]; decide) (word_short h) (Nat.le_trans (word_weight h) (by decide))
theorem fits_one {m : Int} (h : m ∈ numL) : Rp.Fits (.tuple [.int m]) := by
  obtain ⟨h1, h2, h3⟩ := num_facts m h
  refine fits_of ?_ ?_ ?_ ?_
  · simp only [PyData.showable, PyData.showableAll, Bool.and_true] at h1 ⊢
    exact h1
  · simp only [PyData.depth, PyData.depthAll]
    decide
  · rw [PyData.leavesShort, PyData.leavesShortAll, PyData.leavesShortAll, h2]
    rfl
  · rw [PyData.weight, PyData.weightAll, PyData.weightAll]
    omega
theorem fits_onel {m : Int} (h : m ∈ numL) : Rp.Fits (.list [.int m]) := by
  obtain ⟨h1, h2, h3⟩ := num_facts m h
  refine fits_of ?_ ?_ ?_ ?_
  · simp only [PyData.showable, PyData.showableAll, Bool.and_true] at h1 ⊢
    exact h1
  · simp only [PyData.depth, PyData.depthAll]
    decide
  · rw [PyData.leavesShort, PyData.leavesShortAll, PyData.leavesShortAll, h2]
    rfl
  · rw [PyData.weight, PyData.weightAll, PyData.weightAll]
    omega
theorem fits_two {m : Int} (h : m ∈ numL) : Rp.Fits (.tuple [.int 1, .int m]) := by
  obtain ⟨h1, h2, h3⟩ := num_facts m h
  refine fits_of ?_ ?_ ?_ ?_
  · rw [PyData.showable, PyData.showableAll, PyData.showableAll, PyData.showableAll, h1]
    decide
  · simp only [PyData.depth, PyData.depthAll]
    decide
  · rw [PyData.leavesShort, PyData.leavesShortAll, PyData.leavesShortAll, PyData.leavesShortAll, h2]
    decide
  · rw [PyData.weight, PyData.weightAll, PyData.weightAll, PyData.weightAll]
    have : PyData.weight (.int 1) = 1 := by decide
    omega
theorem fits_dict {m : Int} (h : m ∈ numL) : Rp.Fits (.dict [(.str "a", .int m)]) := by
  obtain ⟨h1, h2, h3⟩ := num_facts m h
  refine fits_of ?_ ?_ ?_ ?_
  · rw [PyData.showable, PyData.showableKv, PyData.showableKv, h1]
    decide
  · simp only [PyData.depth, PyData.depthKv]
    decide
  · rw [PyData.leavesShort, PyData.leavesShortKv, PyData.leavesShortKv, h2]
    decide
  · rw [PyData.weight, PyData.weightKv, PyData.weightKv]
    have : PyData.weight (.str "a") = 1 := by decide
    omega
theorem fits_key {z : Str} (h : Word z) : Rp.Fits (.tuple [.str "key", .str z, .tuple [.str "code"]]) := by
  refine fits_of ?_ ?_ ?_ ?_
  · simp only [PyData.showable, PyData.showableAll, Bool.and_true]
  · simp only [PyData.depth, PyData.depthAll]
    decide
  · have e : ∀ x : PyData, PyData.leavesShort 61 (.tuple [.str "key", x, .tuple [.str "code"]]) = (PyData.leavesShort 61 (.str "key") && (PyData.leavesShort 61 x && (PyData.leavesShort 61 (.tuple [.str "code"]) && true))) := fun x => by
      simp only [PyData.leavesShort, PyData.leavesShortAll]
    rw [e, word_short h]
    decide
  · rw [PyData.weight, PyData.weightAll, PyData.weightAll, PyData.weightAll, PyData.weightAll]
    have h1 := word_weight h
    have : PyData.weight (.str "key") = 3 := by decide
    have : PyData.weight (.tuple [.str "code"]) = 5 := by decide
    omega
theorem fits_ref : Rp.Fits (.tuple [.str "reference", .str "oc"]) := fits_of (by decide) (by decide) (by decide) (by decide)
theorem fits_bool (b : Bool) : Rp.Fits (.bool b) := by cases b <;> exact fits_of (by decide) (by decide) (by decide) (by decide)
theorem fits_none : Rp.Fits .none := fits_of (by decide) (by decide) (by decide) (by decide)
theorem fits_unit : Rp.Fits (.tuple []) := fits_of (by decide) (by decide) (by decide) (by decide)
/-! data stay where the heap grows -/
theorem rdS {H H1 : Hp} {p : Addr} {o : HO} (S : Same H H1) (h : Rd H p o) : Rd H1 p o := by
  rcases h with h | ⟨o, h⟩
  · exact .inl (S _ _ h)
  · exact .inr ⟨o, S _ _ h⟩
theorem sqLS {H H1 : Hp} {p : Addr} {xs : List V} (S : Same H H1) (h : SqL K H p xs) : SqL K H1 p xs := h.imp (rdS S) id
mutual
theorem dat_same {H H1 : Hp} (S : Same H H1) : ∀ (d : PyData) (v : V), Rp.Dat K H v d → Rp.Dat K H1 v d
  | _, _, .non => .non
  | _, _, .bl b => .bl b
  | _, _, .int i => .int i
  | _, _, .str x => .str x
  | _, _, .lst (ds := ds) hs ha hn => .lst (sqLS S hs) (dats_same S ds _ ha) hn
  | _, _, .tup (ds := ds) hs ha hn => .tup (sameT S hs) (dats_same S ds _ ha) hn
  | _, _, .dic (ds := ds) hs ha hn => .dic (rdS S hs) (dats_same S ds _ ha) hn
theorem dats_same {H H1 : Hp} (S : Same H H1) : ∀ (ds : List PyData) (vs : List V), Rp.DatAll K H vs ds → Rp.DatAll K H1 vs ds
  | _, _, .nil => .nil
  | _, _, .cons h t => .cons (dat_same S _ _ h) (dats_same S _ _ t)
end
/-- a datum, apart from the dice -/
def DatX (K : PySem.W.Frag) (H : Hp) (d : Addr) (v : V) : Prop := ∃ dd, Rp.Dat K (del H d) v dd ∧ Rp.Fits dd
theorem sd {H H1 : Hp} {d : Addr} (R : Rolled d H H1) : Same (del H d) (del H1 d) := fun b o e => by
  have n : b ≠ d := fun z => by
    rw [z, del_same] at e
    cases e
  rw [del_ne n] at e ⊢
  exact R.keep b o n e
theorem DatX.roll {H H1 : Hp} {d : Addr} {v : V} (h : DatX K H d v) (R : Rolled d H H1) : DatX K H1 d v := by
  obtain ⟨dd, h1, h2⟩ := h
  exact ⟨dd, dat_same (sd R) _ _ h1, h2⟩
theorem at_del {H : Hp} {p d : Addr} {o : HO} (n : p ≠ d) (h : H p = some o) : del H d p = some o := by
  rw [del_ne n]
  exact h
theorem roll_same {H H1 : Hp} {d : Addr} (h : Die H d) (S : Same H H1) : Rolled d H H1 := by
  obtain ⟨x, y, z, e⟩ := h
  exact ⟨⟨x, y, z, S _ _ e⟩, fun b o _ q => S b o q⟩
def spValue (K : PySem.W.Frag) : Sp := fun vs H Q _ => ∃ d : Addr, vs = [.ref d] ∧ Die H d ∧ ∀ v H', DatX K H' d v → Rolled d H H' → Q v H'
theorem ok_value (T : Txt K mg a) : FnOk P w K mg base CX0 4 a.value a.fd_value ps__law_value (spValue K) := by
  have F := T.F_value
  refine F.ok (k := 3) sc__law_value (fun vs H Q E h => ?_) (fun cdv A outer s H vs Q E hr h => ?_)
  · obtain ⟨d, rfl, hD, k⟩ := h
    rfl
  · obtain ⟨d, rfl, hD, k⟩ := h
    have hu := hu_of hr
    refine ⟨_, (pss_cons (ps_set (i := 1) sc__law_value.nd rfl (Or.inl rfl) (pe_op op_add (pe_call (ok_pick T) (hr.mono (by decide)) (by rfl) T.g_pick T.F_pick.kp (b_pick T) .nil pass0 (pa_cons (pv 0) (pa_cons (pe_lst (pa_cons pe_int (pa_cons pe_int (pa_cons pe_int (pa_cons pe_int (pa_cons (pe_un un_neg pe_int) (pa_cons (pe_op op_powG pe_int pe_int) pa_nil))))))) pa_nil))) (pe_call (ok_roll T) (hr.mono (by decide)) (by rfl) T.g_roll T.F_roll.kp (b_roll T) .nil pass0 (pa_cons (pv 0) (pa_cons pe_int pa_nil)))))
      (pss_cons (ps_set (i := 2) sc__law_value.nd rfl (Or.inl rfl) (pe_lst (pa_cons pe_non (pa_cons (pv 1) (pa_cons (pe_call (ok_word T) (hr.mono (by decide)) (by rfl) T.g_word T.F_word.kp (b_word T) .nil pass0 (pa_cons (pv 0) pa_nil)) (pa_cons (pe_tup (pa_cons (pv 1) pa_nil)) (pa_cons (pe_tup (pa_cons pe_str (pa_cons (pe_call (ok_word T) (hr.mono (by decide)) (by rfl) T.g_word T.F_word.kp (b_word T) .nil pass0 (pa_cons (pv 0) pa_nil)) (pa_cons (pe_tup (pa_cons pe_str pa_nil)) pa_nil)))) (pa_cons (pe_tup (pa_cons pe_str (pa_cons pe_str pa_nil))) pa_nil))))))))
      (pss_one (ps_ret (pe_call (ok_pick T) (hr.mono (by decide)) (by rfl) T.g_pick T.F_pick.kp (b_pick T) .nil pass0 (pa_cons (pv 0) (pa_cons (pe_op op_cat (pv 2) (pe_lst (pa_cons pe_bl (pa_cons pe_bl (pa_cons (pe_tup pa_nil) (pa_cons (pe_tup (pa_cons pe_int (pa_cons (pv 1) pa_nil))) (pa_cons (pe_lst (pa_cons (pv 1) pa_nil)) (pa_cons (pe_disp (pps_cons pe_str (pv 1) pps_nil) (by rfl) (by rfl) (fun z => by cases z) (by decide)) pa_nil)))))))) pa_nil))))))), ?_⟩
    refine ⟨_, rfl, 1, rfl, 10, 59, rfl, rfl, ⟨by decide, by decide +kernel⟩, (by show 6 ≤ sizeLine; decide), fun p0 n0 => ?_⟩
    generalize EH0 : upd H p0 _ = H0
    have h0 := (congrFun EH0 p0).symm.trans upd_same
    have S0 : Same H H0 := by rw [← EH0]; exact sameNew n0
    have m0 := hD.ne n0
    have R0 := roll_same hD S0
    refine ⟨d, .ref p0, ([0, 1, 100, 2000, -1, 10 ^ 59] : List Int).map V.int, rfl, R0.die, ⟨m0, .inl (.of h0)⟩, by decide, by decide, fun v H1 hv R1 => ?_⟩
    obtain ⟨i, hi, rfl⟩ := List.mem_map.mp hv
    refine ⟨_, rfl, d, 5, rfl, R1.die, by decide, by decide, fun r H2 q0 q1 R2 => ?_⟩
    refine ⟨i, r, rfl, rfl, ?_⟩
    have hm := num_in hi q0 q1
    refine ⟨_, rfl, _, rfl, d, rfl, R2.die, fun z H3 hz R3 => ?_⟩
    refine ⟨_, rfl, (by show 1 ≤ sizeLine; decide), fun p1 n1 => ?_⟩
    generalize EH4 : upd H3 p1 _ = H4
    have h1 := (congrFun EH4 p1).symm.trans upd_same
    have S4 : Same H3 H4 := by rw [← EH4]; exact sameNew n1
    have m1 := R3.die.ne n1
    have R4 := roll_same R3.die S4
    refine ⟨_, rfl, d, rfl, R4.die, fun y H5 hy R5 => ?_⟩
    refine ⟨(by show 1 ≤ sizeLine; decide), fun p2 n2 => ?_⟩
    generalize EH6 : upd H5 p2 _ = H6
    have h2 := (congrFun EH6 p2).symm.trans upd_same
    have S6 : Same H5 H6 := by rw [← EH6]; exact sameNew n2
    have m2 := R5.die.ne n2
    have R6 := roll_same R5.die S6
    refine ⟨(by show 3 ≤ sizeLine; decide), fun p3 n3 => ?_⟩
    generalize EH7 : upd H6 p3 _ = H7
    have h3 := (congrFun EH7 p3).symm.trans upd_same
    have S7 : Same H6 H7 := by rw [← EH7]; exact sameNew n3
    have m3 := R6.die.ne n3
    have R7 := roll_same R6.die S7
    refine ⟨(by show 2 ≤ sizeLine; decide), fun p4 n4 => ?_⟩
    generalize EH8 : upd H7 p4 _ = H8
    have h4 := (congrFun EH8 p4).symm.trans upd_same
    have S8 : Same H7 H8 := by rw [← EH8]; exact sameNew n4
    have m4 := R7.die.ne n4
    have R8 := roll_same R7.die S8
    refine ⟨(by show 6 ≤ sizeLine; decide), fun p5 n5 => ?_⟩
    generalize EH9 : upd H8 p5 _ = H9
    have h5 := (congrFun EH9 p5).symm.trans upd_same
    have S9 : Same H8 H9 := by rw [← EH9]; exact sameNew n5
    have m5 := R8.die.ne n5
    have R9 := roll_same R8.die S9
    refine ⟨_, rfl, _, rfl, ?_⟩
    refine ⟨(by show 0 ≤ sizeLine; decide), fun p6 n6 => ?_⟩
    generalize EG0 : upd H9 p6 _ = G0
    have h6 := (congrFun EG0 p6).symm.trans upd_same
    have T0 : Same H9 G0 := by rw [← EG0]; exact sameNew n6
    have m6 := R9.die.ne n6
    have U0 := roll_same R9.die T0
    refine ⟨_, rfl, (by show 2 ≤ sizeLine; decide), fun p7 n7 => ?_⟩
    generalize EG1 : upd G0 p7 _ = G1
    have h7 := (congrFun EG1 p7).symm.trans upd_same
    have T1 : Same G0 G1 := by rw [← EG1]; exact sameNew n7
    have m7 := U0.die.ne n7
    have U1 := roll_same U0.die T1
    refine ⟨_, rfl, (by show 1 ≤ sizeLine; decide), fun p8 n8 => ?_⟩
    generalize EG2 : upd G1 p8 _ = G2
    have h8 := (congrFun EG2 p8).symm.trans upd_same
    have T2 : Same G1 G2 := by rw [← EG2]; exact sameNew n8
    have m8 := U1.die.ne n8
    have U2 := roll_same U1.die T2
    refine fun p9 n9 => ?_
    refine ⟨_, rfl, upd_same, [(.inr "a", .int (i + r))], rfl, (by simp), ?_⟩
    rw [upd_upd]
    generalize EG3 : upd G2 p9 _ = G3
    have h9 := (congrFun EG3 p9).symm.trans upd_same
    have T3 : Same G2 G3 := by rw [← EG3]; exact sameNew n9
    have m9 := U2.die.ne n9
    have U3 := roll_same U2.die T3
    refine ⟨(by show 6 ≤ sizeLine; decide), fun q1 n10 => ?_⟩
    generalize EG4 : upd G3 q1 _ = G4
    have h10 := (congrFun EG4 q1).symm.trans upd_same
    have T4 : Same G3 G4 := by rw [← EG4]; exact sameNew n10
    have U4 := roll_same U3.die T4
    have C9 := U0.trans (U1.trans (U2.trans (U3.trans U4)))
    refine ⟨p5, q1, _, _, rfl, rfl, C9.keep _ _ m5 h5, h10, (by walk_at "sz"), fun q2 n11 => ?_⟩
    generalize EG5 : upd G4 q2 _ = G5
    have h11 := (congrFun EG5 q2).symm.trans upd_same
    have T5 : Same G4 G5 := by rw [← EG5]; exact sameNew n11
    have m11 := U4.die.ne n11
    have U5 := roll_same U4.die T5
    have Z3 := U4.trans U5
    have Z2 := U3.trans Z3
    have Z1 := U2.trans Z2
    have Z0 := U1.trans Z1
    have Y9 := U0.trans Z0
    have Y8 := R9.trans Y9
    have Y7 := R8.trans Y8
    have Y6 := R7.trans Y7
    have Y5 := R6.trans Y6
    have Y4 := R5.trans Y5
    have all : ∀ v ∈ ([.non, .int (i + r), .str z, .ref p1, .ref p3, .ref p4, .bl true, .bl false, .ref p6, .ref p7, .ref p8, .ref p9] : List V), DatX K G5 d v := by
      refine List.forall_mem_cons.mpr ⟨⟨_, .non, fits_none⟩, ?_⟩
      refine List.forall_mem_cons.mpr ⟨⟨_, .int _, fits_int hm⟩, ?_⟩
      refine List.forall_mem_cons.mpr ⟨⟨_, .str _, fits_word hz⟩, ?_⟩
      refine List.forall_mem_cons.mpr ⟨DatX.roll ⟨_, .tup (.of (at_del m1 h1)) (.cons (.int _) .nil) (by rfl), fits_one hm⟩ Y4, ?_⟩
      refine List.forall_mem_cons.mpr ⟨DatX.roll ⟨_, .tup (.of (at_del m3 h3)) (.cons (.str _) (.cons (.str _) (.cons (.tup (.of (at_del m2 (R7.keep _ _ m2 h2))) (.cons (.str _) .nil) (by decide)) .nil))) (by simp only [PyData.hasDictAll, PyData.hasDict, Bool.or_false]), fits_key hy⟩ Y7, ?_⟩
      refine List.forall_mem_cons.mpr ⟨DatX.roll ⟨_, .tup (.of (at_del m4 h4)) (.cons (.str _) (.cons (.str _) .nil)) (by decide), fits_ref⟩ Y8, ?_⟩
      refine List.forall_mem_cons.mpr ⟨⟨_, .bl _, fits_bool _⟩, ?_⟩
      refine List.forall_mem_cons.mpr ⟨⟨_, .bl _, fits_bool _⟩, ?_⟩
      refine List.forall_mem_cons.mpr ⟨DatX.roll ⟨_, .tup (.of (at_del m6 h6)) .nil (by decide), fits_unit⟩ Z0, ?_⟩
      refine List.forall_mem_cons.mpr ⟨DatX.roll ⟨_, .tup (.of (at_del m7 h7)) (.cons (.int _) (.cons (.int _) .nil)) (by rfl), fits_two hm⟩ Z1, ?_⟩
      refine List.forall_mem_cons.mpr ⟨DatX.roll ⟨_, .lst (.of (at_del m8 h8)) (.cons (.int _) .nil) (by rfl), fits_onel hm⟩ Z2, ?_⟩
      refine List.forall_mem_cons.mpr ⟨DatX.roll ⟨_, .dic (.of (at_del m9 h9)) (.cons (.int _) .nil) (by simp only [Rp.flatsT, Rp.flatT, Bool.and_true]), fits_dict hm⟩ Z3, ?_⟩
      exact fun _ h => nomatch h
    have Y0 := R0.trans (R1.trans (R2.trans (R3.trans (R4.trans Y4))))
    exact ⟨d, .ref q2, _, rfl, Y0.die, ⟨m11, .inl (.of h11)⟩, (by simp), (by simp), fun v H' hv R => k v H' ((all v hv).roll R) (Y0.trans R)⟩
theorem bools_dp {K : PySem.W.Frag} {H : Hp} : ∀ bs : List Bool, DpAll K H (bs.map V.bl) (bs.map PyData.bool)
  | [] => .nil
  | b :: r => .cons (.bl b) (bools_dp r)
theorem bools_lay : ∀ bs : List Bool, PyData.canLayAll0 (bs.map PyData.bool) = true
  | [] => rfl
  | b :: r => by
    rw [List.map_cons, PyData.canLayAll0, bools_lay r]
    rfl
theorem bools_depth : ∀ bs : List Bool, PyData.depthAll (bs.map PyData.bool) ≤ 1
  | [] => by decide
  | b :: r => by
    have := bools_depth r
    simp only [List.map_cons, PyData.depthAll, PyData.depth]
    omega
theorem bools_shaped (bs : List Bool) : SeqAt.shaped (.list (bs.map PyData.bool)) = true := by
  unfold SeqAt.shaped
  rw [Bool.and_eq_true_iff]
  refine ⟨bools_lay bs, decide_eq_true ?_⟩
  have := bools_depth bs
  simp only [PyData.depth]
  omega
/-- two lists of the same truths are not unlike -/
theorem ne_bools {K : PySem.W.Frag} {H : Hp} {p q : Addr} {f g : Nat → Bool} {n : Nat} {Q : VK} (hp : H p = some (.lst ((List.range n).map fun i => V.bl (f i)))) (hq : H q = some (.lst ((List.range n).map fun i => V.bl (g i))))
    (e : ∀ i, i < n → g i = f i) (k : Q (.bl false) H) : rNeD K (.ref p) (.ref q) H Q := by
  have e1 : ((List.range n).map fun i => V.bl (f i)) = ((List.range n).map f).map V.bl := by rw [List.map_map]; rfl
  have e2 : ((List.range n).map fun i => V.bl (g i)) = ((List.range n).map f).map V.bl := by
    rw [List.map_map]
    refine List.map_congr_left fun i hi => ?_
    rw [e i (List.mem_range.mp hi)]
    rfl
  rw [e1] at hp
  rw [e2] at hq
  refine ⟨_, _, .lst (.of hp) (bools_dp _), .lst (.of hq) (bools_dp _), bools_shaped _, bools_shaped _, ?_⟩
  have e3 : PyData.eqv (.list (((List.range n).map f).map PyData.bool)) (.list (((List.range n).map f).map PyData.bool)) = true := SeqAt.eqv_refl _ (SeqAt.canLay_of_shaped (bools_shaped _))
  rw [e3]
  exact k
def pyb (i j : Nat) : Bool := (tsOf i).contains (.type (pyT.getD j ""))
theorem py_facts (T : Txt K mg a) {i : Nat} {D : Addr} (h1 : (cl a)[i]? = some D) : ∀ j t, pyT[j]? = some t → PySem.W.kitOne K (.ref D) (.type t) = some (pyb i j) := by
  intro j t ht
  have e : pyT.getD j "" = t := by rw [List.getD_eq_getElem?_getD, ht]; rfl
  have hm : PySem.W.kitMeta t = true := by
    have q : ∀ t ∈ pyT, PySem.W.kitMeta t = true := by decide
    exact q t (List.mem_of_getElem? ht)
  unfold pyb
  rw [e]
  exact kitT_of T h1 hm
theorem exc_of (T : Txt K mg a) {i : Nat} {D : Addr} (h1 : (cl a)[i]? = some D) : ExcC K D := by
  obtain ⟨D', n1, q1, x1, c⟩ := rowOf T i (cl_lt h1)
  rw [h1] at q1
  cases q1
  exact c
def ti (n : Nat) : Nat := if n < 10 then n else 19
theorem tcl_at (a : Ads) {n : Nat} : (cl a)[ti n]? = some (tcl a n) := by
  have q : ti n < (cl a).length := by
    show ti n < 20
    unfold ti
    split <;> omega
  unfold tcl
  rw [List.getD_eq_getElem?_getD]
  show _ = some ((cl a)[ti n]?.getD 0)
  rw [List.getElem?_eq_getElem q]
  rfl
theorem tr1 (i j : Nat) (c : (i : Int) < 10) : decide ((j : Int) ∈ ([(i : Int), 19] : List Int)) = isOf (ti i) j := by
  unfold isOf ti
  rw [if_pos (by omega), Bool.eq_iff_iff]
  simp
  omega
theorem tr2 (i j : Nat) (c : ¬ (i : Int) < 10) : decide ((j : Int) ∈ ([19] : List Int)) = isOf (ti i) j := by
  unfold isOf ti
  rw [if_neg (by omega), Bool.eq_iff_iff]
  simp
  omega
theorem tr3 : ∀ i : Nat, i < 11 → ∀ j : Nat, j < 8 → decide ((j : Int) ∈ ([0] : List Int)) = pyb (ti i) j := by decide +kernel
def spRight : Sp := fun vs H Q _ => ∃ d : Addr, vs = [.ref d] ∧ Die H d ∧ ∀ H', Rolled d H H' → Q (.bl true) H'
theorem ok_messages_right (T : Txt K mg a) : FnOk P w K mg base CX0 4 a.messages_right a.fd_messages_right ps__law_messages_right spRight := by
  have F := T.F_messages_right
  refine F.ok (k := 3) sc__law_messages_right (fun vs H Q E h => ?_) (fun cdv A outer s H vs Q E hr h => ?_)
  · obtain ⟨d, rfl, hD, k⟩ := h
    rfl
  · obtain ⟨d, rfl, hD, k⟩ := h
    have hu := hu_of hr
    refine ⟨_, (pss_cons (ps_for PassesOwn.never rfl (pi_range1 (by rfl) T.range (pa_cons pe_int pa_nil)) (pg_name (i := 1) sc__law_messages_right.nd rfl (Or.inl rfl)) (pss_cons (ps_set (i := 2) sc__law_messages_right.nd rfl (Or.inl rfl) (pe_call (ok_told T) (hr.mono (by decide)) (by rfl) T.g_told T.F_told.kp (b_told T) .nil pass0 (pa_cons (pv 1) (pa_cons (pe_call (ok_word T) (hr.mono (by decide)) (by rfl) T.g_word T.F_word.kp (b_word T) .nil pass0 (pa_cons (pv 0) pa_nil)) pa_nil))))
      (pss_cons (ps_if (pt_cmpR (op_neD hr.units) (pe_call (ok_kinds T) (hr.mono (by decide)) (by rfl) T.g_kinds T.F_kinds.kp (b_kinds T) .nil pass0 (pa_cons (pv 2) pa_nil)) (pe_call (ok_truths T) (hr.mono (by decide)) (by rfl) T.g_truths T.F_truths.kp (b_truths T) .nil pass0 (pa_cons (pe_ifExp (pt_cmpR op_lt (pv 1) pe_int (nomark _)) (pe_tup (pa_cons (pv 1) (pa_cons pe_int pa_nil))) (pe_tup (pa_cons pe_int pa_nil))) (pa_cons pe_int pa_nil))) (nomark _)) (pss_one (ps_ret pe_bl)) pss_nil)
      (pss_one (ps_if (pt_cmpR (op_neD hr.units) (pe_call (ok_python T) (hr.mono (by decide)) (by rfl) T.g_python T.F_python.kp (b_python T) .nil pass0 (pa_cons (pv 2) pa_nil)) (pe_call (ok_truths T) (hr.mono (by decide)) (by rfl) T.g_truths T.F_truths.kp (b_truths T) .nil pass0 (pa_cons (pe_tup (pa_cons pe_int pa_nil)) (pa_cons pe_int pa_nil))) (nomark _)) (pss_one (ps_ret pe_bl)) pss_nil)))))
      (pss_one (ps_ret pe_bl))), ?_⟩
    refine ⟨11, rfl, by decide, by decide, for_range (lo := 0) (n := 11) (fun i σ H1 => ∃ x y, σ = [some (.ref d), x, y] ∧ Rolled d H H1) ?_ ?_ ?_⟩
    · exact ⟨_, _, rfl, .refl hD⟩
    · rintro i σ H1 hi ⟨x, y, rfl, R⟩
      rw [Int.zero_add]
      refine ⟨_, rfl, _, rfl, d, rfl, R.die, fun z H2 hz R2 => ?_⟩
      refine ⟨i, _, rfl, hi, fun e ne => ?_⟩
      generalize EH3 : upd H2 e _ = H3
      have he := (congrFun EH3 e).symm.trans upd_same
      have S3 : Same H2 H3 := by rw [← EH3]; exact sameNew ne
      have R3 := roll_same R2.die S3
      have h1 := tcl_at a (n := i)
      have hc := exc_of T h1
      refine ⟨_, rfl, ?_⟩
      refine ⟨e, tcl a i, none, fun j => isOf (ti i) j, rfl, he, hc, fun j C hC => kit_of T h1 hC, fun p H4 np hp S4 => ?_⟩
      replace S4 : Same H3 H4 := S4
      have R4 := roll_same R3.die S4
      refine ⟨_, rfl, _, _, rfl, rfl, _, rfl, ?_⟩
      refine iteD (fun c => ?_) (fun c => ?_)
      · refine ⟨_, rfl, (by show 2 ≤ sizeLine; decide), fun q nq => ?_⟩
        generalize EH5 : upd H4 q _ = H5
        have hq := (congrFun EH5 q).symm.trans upd_same
        have S5 : Same H4 H5 := by rw [← EH5]; exact sameNew nq
        have R5 := roll_same R4.die S5
        refine ⟨q, [(i : Int), 19], 20, rfl, .of hq, by decide, fun p2 H6 np2 hp2 S6 => ?_⟩
        replace S6 : Same H5 H6 := S6
        have R6 := roll_same R5.die S6
        refine ne_bools (S6 _ _ (S5 _ _ hp)) hp2 (fun j hj => tr1 i j c) ?_
        refine ⟨false, rfl, ?_⟩
        refine iteF ?_
        refine ⟨_, rfl, e, tcl a i, none, fun j => pyb (ti i) j, rfl, S6 _ _ (S5 _ _ (S4 _ _ he)), hc, py_facts T h1, fun p3 H7 np3 hp3 S7 => ?_⟩
        replace S7 : Same H6 H7 := S7
        have R7 := roll_same R6.die S7
        refine ⟨(by show 1 ≤ sizeLine; decide), fun q2 nq2 => ?_⟩
        generalize EH8 : upd H7 q2 _ = H8
        have hq2 := (congrFun EH8 q2).symm.trans upd_same
        have S8 : Same H7 H8 := by rw [← EH8]; exact sameNew nq2
        have R8 := roll_same R7.die S8
        refine ⟨q2, [0], 8, rfl, .of hq2, by decide, fun p4 H9 np4 hp4 S9 => ?_⟩
        replace S9 : Same H8 H9 := S9
        have R9 := roll_same R8.die S9
        refine ne_bools (S9 _ _ (S8 _ _ hp3)) hp4 (fun j hj => tr3 i hi j hj) ?_
        refine ⟨false, rfl, ?_⟩
        refine iteF ?_
        exact ⟨_, _, rfl, R.trans (R2.trans (R3.trans (R4.trans (R5.trans (R6.trans (R7.trans (R8.trans R9)))))))⟩
      · refine ⟨(by show 1 ≤ sizeLine; decide), fun q nq => ?_⟩
        generalize EH5 : upd H4 q _ = H5
        have hq := (congrFun EH5 q).symm.trans upd_same
        have S5 : Same H4 H5 := by rw [← EH5]; exact sameNew nq
        have R5 := roll_same R4.die S5
        refine ⟨q, [19], 20, rfl, .of hq, by decide, fun p2 H6 np2 hp2 S6 => ?_⟩
        replace S6 : Same H5 H6 := S6
        have R6 := roll_same R5.die S6
        refine ne_bools (S6 _ _ (S5 _ _ hp)) hp2 (fun j hj => tr2 i j c) ?_
        refine ⟨false, rfl, ?_⟩
        refine iteF ?_
        refine ⟨_, rfl, e, tcl a i, none, fun j => pyb (ti i) j, rfl, S6 _ _ (S5 _ _ (S4 _ _ he)), hc, py_facts T h1, fun p3 H7 np3 hp3 S7 => ?_⟩
        replace S7 : Same H6 H7 := S7
        have R7 := roll_same R6.die S7
        refine ⟨(by show 1 ≤ sizeLine; decide), fun q2 nq2 => ?_⟩
        generalize EH8 : upd H7 q2 _ = H8
        have hq2 := (congrFun EH8 q2).symm.trans upd_same
        have S8 : Same H7 H8 := by rw [← EH8]; exact sameNew nq2
        have R8 := roll_same R7.die S8
        refine ⟨q2, [0], 8, rfl, .of hq2, by decide, fun p4 H9 np4 hp4 S9 => ?_⟩
        replace S9 : Same H8 H9 := S9
        have R9 := roll_same R8.die S9
        refine ne_bools (S9 _ _ (S8 _ _ hp3)) hp4 (fun j hj => tr3 i hi j hj) ?_
        refine ⟨false, rfl, ?_⟩
        refine iteF ?_
        exact ⟨_, _, rfl, R.trans (R2.trans (R3.trans (R4.trans (R5.trans (R6.trans (R7.trans (R8.trans R9)))))))⟩
    · rintro σ H1 ⟨x, y, rfl, R⟩
      exact k _ R
def pyNs (n : Nat) : List Int := ([[0], [0], [0], [1, 3], [3], [2, 3], [5, 6], [7], [4, 6]] : List (List Int)).getD n []
theorem tr4 : ∀ n : Nat, n < 9 → ∀ j : Nat, j < 8 → decide ((j : Int) ∈ pyNs n) = pyb (10 + n) j := by decide +kernel
theorem tr5 (i j : Nat) (c : (i : Int) < 3) : decide ((j : Int) ∈ ([10 + (i : Int), 19] : List Int)) = isOf (10 + i) j := by
  unfold isOf
  rw [Bool.eq_iff_iff]
  simp
  omega
theorem tr6 (i j : Nat) (c : ¬ (i : Int) < 3) : decide ((j : Int) ∈ ([10 + (i : Int)] : List Int)) = isOf (10 + i) j := by
  unfold isOf
  rw [Bool.eq_iff_iff]
  simp
  omega
theorem del_same' (H : Hp) (d : Addr) : Same (del H d) H := fun b o e => by
  have n : b ≠ d := fun z => by
    rw [z, del_same] at e
    cases e
  rw [del_ne n] at e
  exact e
theorem wds : ∀ n, n < 9 → ([.str "deal", .str "deal", .str "deal", .str "key", .str "row", .str "other", .str "other", .str "other", .str "zero"] : List V)[n]? = some (.str (wd n))
  | 0, _ => rfl
  | 1, _ => rfl
  | 2, _ => rfl
  | 3, _ => rfl
  | 4, _ => rfl
  | 5, _ => rfl
  | 6, _ => rfl
  | 7, _ => rfl
  | 8, _ => rfl
  | _ + 9, h => absurd h (by omega)
theorem ok_keepers_right (T : Txt K mg a) : Rp.FnG P w K mg base CX0 5 a.keepers_right a.fd_keepers_right ps__law_keepers_right spRight := by
  have F := T.F_keepers_right
  refine Rp.okG (k := 4) F sc__law_keepers_right (fun vs H Q E h => ?_) (fun cdv A outer s H vs Q E hr hg h => ?_)
  · obtain ⟨d, rfl, hD, k⟩ := h
    rfl
  · obtain ⟨d, rfl, hD, k⟩ := h
    have hu := hu_of hr
    refine ⟨_, (pss_cons (ps_set (i := 1) sc__law_keepers_right.nd rfl (Or.inl rfl) (pe_lst (pa_cons (pe_tup (pa_cons pe_int pa_nil)) (pa_cons (pe_tup (pa_cons pe_int pa_nil)) (pa_cons (pe_tup (pa_cons pe_int pa_nil)) (pa_cons (pe_tup (pa_cons pe_int (pa_cons pe_int pa_nil))) (pa_cons (pe_tup (pa_cons pe_int pa_nil)) (pa_cons (pe_tup (pa_cons pe_int (pa_cons pe_int pa_nil))) (pa_cons (pe_tup (pa_cons pe_int (pa_cons pe_int pa_nil))) (pa_cons (pe_tup (pa_cons pe_int pa_nil)) (pa_cons (pe_tup (pa_cons pe_int (pa_cons pe_int pa_nil))) pa_nil)))))))))))
      (pss_cons (ps_set (i := 2) sc__law_keepers_right.nd rfl (Or.inl rfl) (pe_lst (pa_cons pe_str (pa_cons pe_str (pa_cons pe_str (pa_cons pe_str (pa_cons pe_str (pa_cons pe_str (pa_cons pe_str (pa_cons pe_str (pa_cons pe_str pa_nil)))))))))))
      (pss_cons (ps_for PassesOwn.never rfl (pi_range1 (by rfl) T.range (pa_cons pe_int pa_nil)) (pg_name (i := 3) sc__law_keepers_right.nd rfl (Or.inl rfl)) (pss_cons (ps_par (i := 4) (j := 5) rfl sc__law_keepers_right.nd rfl rfl (by decide) rfl rfl (pa_cons (pe_call (ok_value T) (hr.mono (by decide)) (by rfl) T.g_value T.F_value.kp (b_value T) .nil pass0 (pa_cons (pv 0) pa_nil)) (pa_cons (pe_call (ok_value T) (hr.mono (by decide)) (by rfl) T.g_value T.F_value.kp (b_value T) .nil pass0 (pa_cons (pv 0) pa_nil)) pa_nil)) (by rfl))
      (pss_cons (ps_set (i := 6) sc__law_keepers_right.nd rfl (Or.inl rfl) (pe_call (ok_keeper T) (hr.mono (by decide)) (by rfl) T.g_keeper T.F_keeper.kp (b_keeper T) .nil pass0 (pa_cons (pv 3) (pa_cons (pv 4) pa_nil))))
      (pss_cons (ps_set (i := 7) sc__law_keepers_right.nd rfl (Or.inl rfl) (pe_call (ok_keeper T) (hr.mono (by decide)) (by rfl) T.g_keeper T.F_keeper.kp (b_keeper T) .nil pass0 (pa_cons (pv 3) (pa_cons (pv 5) pa_nil))))
      (pss_cons (ps_if (PW.pt (pw_or (pt_cmpR op_ne (pe_callB (Rp.call_repr hg hr.units) (by rfl) T.repr (by decide +kernel) (pa_cons (pe_call (ok_kept T) (hr.mono (by decide)) (by rfl) T.g_kept T.F_kept.kp (b_kept T) .nil pass0 (pa_cons (pv 3) (pa_cons (pv 6) pa_nil))) pa_nil)) (pe_callB (Rp.call_repr hg hr.units) (by rfl) T.repr (by decide +kernel) (pa_cons (pv 4) pa_nil)) (nomark _)) (pw_or1 (pt_cmpR op_ne (pe_callB (Rp.call_repr hg hr.units) (by rfl) T.repr (by decide +kernel) (pa_cons (pe_call (ok_kept T) (hr.mono (by decide)) (by rfl) T.g_kept T.F_kept.kp (b_kept T) .nil pass0 (pa_cons (pv 3) (pa_cons (pv 7) pa_nil))) pa_nil)) (pe_callB (Rp.call_repr hg hr.units) (by rfl) T.repr (by decide +kernel) (pa_cons (pv 5) pa_nil)) (nomark _))))) (pss_one (ps_ret pe_bl)) pss_nil)
      (pss_cons (ps_if (pt_cmpR (op_neD hr.units) (pe_call (ok_kinds T) (hr.mono (by decide)) (by rfl) T.g_kinds T.F_kinds.kp (b_kinds T) .nil pass0 (pa_cons (pv 6) pa_nil)) (pe_call (ok_truths T) (hr.mono (by decide)) (by rfl) T.g_truths T.F_truths.kp (b_truths T) .nil pass0 (pa_cons (pe_ifExp (pt_cmpR op_lt (pv 3) pe_int (nomark _)) (pe_tup (pa_cons (pe_op op_add pe_int (pv 3)) (pa_cons pe_int pa_nil))) (pe_tup (pa_cons (pe_op op_add pe_int (pv 3)) pa_nil))) (pa_cons pe_int pa_nil))) (nomark _)) (pss_one (ps_ret pe_bl)) pss_nil)
      (pss_one (ps_if (PW.pt (pw_or (pt_cmpR (op_neD hr.units) (pe_call (ok_python T) (hr.mono (by decide)) (by rfl) T.g_python T.F_python.kp (b_python T) .nil pass0 (pa_cons (pv 6) pa_nil)) (pe_call (ok_truths T) (hr.mono (by decide)) (by rfl) T.g_truths T.F_truths.kp (b_truths T) .nil pass0 (pa_cons (pe_ix ix_list (pv 1) (pv 3) (fun _ _ => rfl)) (pa_cons pe_int pa_nil))) (nomark _)) (pw_or1 (pt_cmpR op_ne (pe_call (ok_caught T) (hr.mono (by decide)) (by rfl) T.g_caught T.F_caught.kp (b_caught T) .nil pass0 (pa_cons (pv 3) (pa_cons (pv 4) pa_nil))) (pe_ix ix_list (pv 2) (pv 3) (fun _ _ => rfl)) (nomark _))))) (pss_one (ps_ret pe_bl)) pss_nil))))))))
      (pss_one (ps_ret pe_bl))))), ?_⟩
    refine ⟨(by show 1 ≤ sizeLine; decide), fun p0 n0 => ?_⟩
    generalize EG0 : upd H p0 _ = G0
    have h0 := (congrFun EG0 p0).symm.trans upd_same
    have S0 : Same H G0 := by rw [← EG0]; exact sameNew n0
    have m0 := Die.ne hD n0
    have R0 := roll_same hD S0
    refine ⟨(by show 1 ≤ sizeLine; decide), fun p1 n1 => ?_⟩
    generalize EG1 : upd G0 p1 _ = G1
    have h1 := (congrFun EG1 p1).symm.trans upd_same
    have S1 : Same G0 G1 := by rw [← EG1]; exact sameNew n1
    have m1 := Die.ne (R0).die n1
    have R1 := roll_same (R0).die S1
    refine ⟨(by show 1 ≤ sizeLine; decide), fun p2 n2 => ?_⟩
    generalize EG2 : upd G1 p2 _ = G2
    have h2 := (congrFun EG2 p2).symm.trans upd_same
    have S2 : Same G1 G2 := by rw [← EG2]; exact sameNew n2
    have m2 := Die.ne (R1).die n2
    have R2 := roll_same (R1).die S2
    refine ⟨(by show 2 ≤ sizeLine; decide), fun p3 n3 => ?_⟩
    generalize EG3 : upd G2 p3 _ = G3
    have h3 := (congrFun EG3 p3).symm.trans upd_same
    have S3 : Same G2 G3 := by rw [← EG3]; exact sameNew n3
    have m3 := Die.ne (R2).die n3
    have R3 := roll_same (R2).die S3
    refine ⟨(by show 1 ≤ sizeLine; decide), fun p4 n4 => ?_⟩
    generalize EG4 : upd G3 p4 _ = G4
    have h4 := (congrFun EG4 p4).symm.trans upd_same
    have S4 : Same G3 G4 := by rw [← EG4]; exact sameNew n4
    have m4 := Die.ne (R3).die n4
    have R4 := roll_same (R3).die S4
    refine ⟨(by show 2 ≤ sizeLine; decide), fun p5 n5 => ?_⟩
    generalize EG5 : upd G4 p5 _ = G5
    have h5 := (congrFun EG5 p5).symm.trans upd_same
    have S5 : Same G4 G5 := by rw [← EG5]; exact sameNew n5
    have m5 := Die.ne (R4).die n5
    have R5 := roll_same (R4).die S5
    refine ⟨(by show 2 ≤ sizeLine; decide), fun p6 n6 => ?_⟩
    generalize EG6 : upd G5 p6 _ = G6
    have h6 := (congrFun EG6 p6).symm.trans upd_same
    have S6 : Same G5 G6 := by rw [← EG6]; exact sameNew n6
    have m6 := Die.ne (R5).die n6
    have R6 := roll_same (R5).die S6
    refine ⟨(by show 1 ≤ sizeLine; decide), fun p7 n7 => ?_⟩
    generalize EG7 : upd G6 p7 _ = G7
    have h7 := (congrFun EG7 p7).symm.trans upd_same
    have S7 : Same G6 G7 := by rw [← EG7]; exact sameNew n7
    have m7 := Die.ne (R6).die n7
    have R7 := roll_same (R6).die S7
    refine ⟨(by show 2 ≤ sizeLine; decide), fun p8 n8 => ?_⟩
    generalize EG8 : upd G7 p8 _ = G8
    have h8 := (congrFun EG8 p8).symm.trans upd_same
    have S8 : Same G7 G8 := by rw [← EG8]; exact sameNew n8
    have m8 := Die.ne (R7).die n8
    have R8 := roll_same (R7).die S8
    refine ⟨(by show 9 ≤ sizeLine; decide), fun L nL => ?_⟩
    generalize EGL : upd G8 L _ = GL
    have hL := (congrFun EGL L).symm.trans upd_same
    have SL : Same G8 GL := by rw [← EGL]; exact sameNew nL
    have mL := R8.die.ne nL
    have RL := roll_same R8.die SL
    refine ⟨(by show 9 ≤ sizeLine; decide), fun W nW => ?_⟩
    generalize EGW : upd GL W _ = GW
    have hW := (congrFun EGW W).symm.trans upd_same
    have SW : Same GL GW := by rw [← EGW]; exact sameNew nW
    have mW := RL.die.ne nW
    have RW := roll_same RL.die SW
    have K9 := RW
    have V8 := (RL.trans RW)
    have V7 := (R8.trans V8)
    have V6 := (R7.trans V7)
    have V5 := (R6.trans V6)
    have V4 := (R5.trans V5)
    have V3 := (R4.trans V4)
    have V2 := (R3.trans V3)
    have V1 := (R2.trans V2)
    have V0 := (R1.trans V1)
    have pys : ∀ n, n < 9 → ∃ p, ([.ref p0, .ref p1, .ref p2, .ref p3, .ref p4, .ref p5, .ref p6, .ref p7, .ref p8] : List V)[n]? = some (.ref p) ∧ GW p = some (.tup ((pyNs n).map V.int)) ∧ p ≠ d := fun n hn => match n, hn with
      | 0, _ => ⟨p0, rfl, V0.keep _ _ m0 h0, m0⟩
      | 1, _ => ⟨p1, rfl, V1.keep _ _ m1 h1, m1⟩
      | 2, _ => ⟨p2, rfl, V2.keep _ _ m2 h2, m2⟩
      | 3, _ => ⟨p3, rfl, V3.keep _ _ m3 h3, m3⟩
      | 4, _ => ⟨p4, rfl, V4.keep _ _ m4 h4, m4⟩
      | 5, _ => ⟨p5, rfl, V5.keep _ _ m5 h5, m5⟩
      | 6, _ => ⟨p6, rfl, V6.keep _ _ m6 h6, m6⟩
      | 7, _ => ⟨p7, rfl, V7.keep _ _ m7 h7, m7⟩
      | 8, _ => ⟨p8, rfl, V8.keep _ _ m8 h8, m8⟩
    have hL' := RW.keep _ _ mL hL
    have hB := R0.trans V0
    refine ⟨9, rfl, by decide, by decide, for_range (lo := 0) (n := 9) (fun i σ H1 => ∃ x3 x4 x5 x6 x7, σ = [some (.ref d), some (.ref L), some (.ref W), x3, x4, x5, x6, x7] ∧ Rolled d GW H1) ?_ ?_ ?_⟩
    · exact ⟨_, _, _, _, _, rfl, .refl RW.die⟩
    · rintro i σ H1 hi ⟨x3, x4, x5, x6, x7, rfl, R⟩
      rw [Int.zero_add]
      refine ⟨_, rfl, d, rfl, R.die, fun v H2 hv Q2 => ?_⟩
      refine ⟨_, rfl, d, rfl, Q2.die, fun u H3 hu' Q3 => ?_⟩
      replace hv : DatX K H2 d v := hv
      replace hu' : DatX K H3 d u := hu'
      refine ⟨v, u, rfl, ?_⟩
      refine ⟨_, rfl, _, rfl, i, v, rfl, hi, fun e x1 H4 KP => ?_⟩
      have Q4 := roll_same Q3.die KP.keep
      refine ⟨_, rfl, _, rfl, i, u, rfl, hi, fun f y1 H5 KO => ?_⟩
      have Q5 := roll_same Q4.die KO.keep
      obtain ⟨dv, hv1, hv2⟩ := hv.roll (Q3.trans (Q4.trans Q5))
      obtain ⟨du, hu1, hu2⟩ := hu'.roll (Q4.trans Q5)
      replace hv1 := dat_same (del_same' H5 d) _ _ hv1
      replace hu1 := dat_same (del_same' H5 d) _ _ hu1
      refine ⟨_, rfl, _, rfl, i, v, e, x1, rfl, hi, KO.keep _ _ KP.at_, KO.keep _ _ KP.dict, ?_⟩
      refine ⟨v, dv, rfl, hv1, hv2, ?_⟩
      refine ⟨_, rfl, v, dv, rfl, hv1, hv2, ?_⟩
      refine ⟨rfl, ?_⟩
      refine ⟨false, (by simp), ?_⟩
      refine iteF ?_
      refine ⟨_, rfl, _, rfl, i, u, f, y1, rfl, hi, KO.at_, KO.dict, ?_⟩
      refine ⟨u, du, rfl, hu1, hu2, ?_⟩
      refine ⟨_, rfl, u, du, rfl, hu1, hu2, ?_⟩
      refine ⟨rfl, ?_⟩
      refine ⟨false, (by simp), ?_⟩
      refine iteF ?_
      have h1 := kcl_at a hi
      have hc := exc_of T h1
      have he := KO.keep _ _ KP.at_
      have hx := KO.keep _ _ KP.dict
      obtain ⟨pn, pn1, pn2, pn3⟩ := pys i hi
      refine ⟨_, rfl, ?_⟩
      refine ⟨e, kcl a i, some x1, fun j => isOf (10 + i) j, rfl, ⟨he, _, hx⟩, hc, fun j C hC => kit_of T h1 hC, fun p H6 np hp S6 => ?_⟩
      replace S6 : Same H5 H6 := S6
      have Q6 := roll_same Q5.die S6
      refine ⟨_, rfl, _, _, rfl, rfl, _, rfl, ?_⟩
      refine iteD (fun c => ?_) (fun c => ?_)
      · refine ⟨_, rfl, _, _, rfl, rfl, (by show 2 ≤ sizeLine; decide), fun q nq => ?_⟩
        generalize EH7 : upd H6 q _ = H7
        have hq := (congrFun EH7 q).symm.trans upd_same
        have S7 : Same H6 H7 := by rw [← EH7]; exact sameNew nq
        have Q7 := roll_same Q6.die S7
        refine ⟨q, [10 + (i : Int), 19], 20, rfl, .of hq, by decide, fun p2 H8 np2 hp2 S8 => ?_⟩
        replace S8 : Same H7 H8 := S8
        have Q8 := roll_same Q7.die S8
        refine ne_bools (S8 _ _ (S7 _ _ hp)) hp2 (fun j hj => tr5 i j c) ?_
        refine ⟨false, rfl, ?_⟩
        refine iteF ?_
        have z1 := S8 _ _ (S7 _ _ (S6 _ _ he))
        have z2 := S8 _ _ (S7 _ _ (S6 _ _ hx))
        refine ⟨_, rfl, e, kcl a i, some x1, fun j => pyb (10 + i) j, rfl, ⟨z1, _, z2⟩, hc, py_facts T h1, fun p3 H9 np3 hp3 S9 => ?_⟩
        replace S9 : Same H8 H9 := S9
        have Q9 := roll_same Q8.die S9
        have W9 := R.trans (Q2.trans (Q3.trans (Q4.trans (Q5.trans (Q6.trans (Q7.trans (Q8.trans Q9)))))))
        refine ⟨_, rfl, _, rfl, L, _, i, .ref pn, rfl, rfl, .of (W9.keep _ _ mL hL'), atI_nat pn1, ?_⟩
        refine ⟨pn, pyNs i, 8, rfl, .of (W9.keep _ _ pn3 pn2), by decide, fun p4 I0 np4 hp4 T0 => ?_⟩
        replace T0 : Same H9 I0 := T0
        have P0 := roll_same Q9.die T0
        refine ne_bools (T0 _ _ hp3) hp4 (fun j hj => tr4 i hi j hj) ?_
        refine ⟨false, rfl, ?_⟩
        refine iteF ?_
        refine ⟨_, rfl, _, rfl, i, v, rfl, hi, fun I1 T1 => ?_⟩
        have P1 := roll_same P0.die T1
        have W1 := W9.trans (P0.trans P1)
        refine ⟨_, rfl, _, rfl, W, _, i, .str (wd i), rfl, rfl, .of (W1.keep _ _ mW hW), atI_nat (wds i hi), ?_⟩
        refine ⟨rfl, ?_⟩
        refine ⟨false, (by simp), ?_⟩
        refine iteF ?_
        exact ⟨_, _, _, _, _, rfl, W1⟩
      · refine ⟨_, rfl, _, _, rfl, rfl, (by show 1 ≤ sizeLine; decide), fun q nq => ?_⟩
        generalize EH7 : upd H6 q _ = H7
        have hq := (congrFun EH7 q).symm.trans upd_same
        have S7 : Same H6 H7 := by rw [← EH7]; exact sameNew nq
        have Q7 := roll_same Q6.die S7
        refine ⟨q, [10 + (i : Int)], 20, rfl, .of hq, by decide, fun p2 H8 np2 hp2 S8 => ?_⟩
        replace S8 : Same H7 H8 := S8
        have Q8 := roll_same Q7.die S8
        refine ne_bools (S8 _ _ (S7 _ _ hp)) hp2 (fun j hj => tr6 i j c) ?_
        refine ⟨false, rfl, ?_⟩
        refine iteF ?_
        have z1 := S8 _ _ (S7 _ _ (S6 _ _ he))
        have z2 := S8 _ _ (S7 _ _ (S6 _ _ hx))
        refine ⟨_, rfl, e, kcl a i, some x1, fun j => pyb (10 + i) j, rfl, ⟨z1, _, z2⟩, hc, py_facts T h1, fun p3 H9 np3 hp3 S9 => ?_⟩
        replace S9 : Same H8 H9 := S9
        have Q9 := roll_same Q8.die S9
        have W9 := R.trans (Q2.trans (Q3.trans (Q4.trans (Q5.trans (Q6.trans (Q7.trans (Q8.trans Q9)))))))
        refine ⟨_, rfl, _, rfl, L, _, i, .ref pn, rfl, rfl, .of (W9.keep _ _ mL hL'), atI_nat pn1, ?_⟩
        refine ⟨pn, pyNs i, 8, rfl, .of (W9.keep _ _ pn3 pn2), by decide, fun p4 I0 np4 hp4 T0 => ?_⟩
        replace T0 : Same H9 I0 := T0
        have P0 := roll_same Q9.die T0
        refine ne_bools (T0 _ _ hp3) hp4 (fun j hj => tr4 i hi j hj) ?_
        refine ⟨false, rfl, ?_⟩
        refine iteF ?_
        refine ⟨_, rfl, _, rfl, i, v, rfl, hi, fun I1 T1 => ?_⟩
        have P1 := roll_same P0.die T1
        have W1 := W9.trans (P0.trans P1)
        refine ⟨_, rfl, _, rfl, W, _, i, .str (wd i), rfl, rfl, .of (W1.keep _ _ mW hW), atI_nat (wds i hi), ?_⟩
        refine ⟨rfl, ?_⟩
        refine ⟨false, (by simp), ?_⟩
        refine iteF ?_
        exact ⟨_, _, _, _, _, rfl, W1⟩
    · rintro σ H1 ⟨x3, x4, x5, x6, x7, rfl, R⟩
      exact k _ (hB.trans R)
def spLaw (K : PySem.W.Frag) : Sp := fun vs H Q _ => ∃ (s : Addr) (ns : List Int), vs = [.ref s] ∧ SqL K H s (ns.map V.int) ∧ ns.length ≤ 63 ∧ ∀ H', Q (.bl true) H'
theorem count_of (L : Nat) : ∃ m : Nat, (if (if (L : Int) < 8 then (L : Int) else 8) > 1 then (if (L : Int) < 8 then (L : Int) else 8) else 1) = (m : Int) ∧ m ≤ 8 := by
  by_cases h : (L : Int) < 8
  · rw [if_pos h]
    by_cases h1 : (L : Int) > 1
    · rw [if_pos h1]
      exact ⟨L, rfl, by omega⟩
    · rw [if_neg h1]
      exact ⟨1, rfl, by decide⟩
  · rw [if_neg h]
    exact ⟨8, rfl, by decide⟩
theorem rolledS {K : PySem.W.Frag} {H H1 : Hp} {d s : Addr} {xs : List V} (R : Rolled d H H1) (hd : H d = none) (h : SqL K H s xs) : SqL K H1 s xs := by
  rcases h with (h | ⟨o, h⟩) | h
  · exact .inl (.inl (R.keep _ _ (ne_of_none h hd) h))
  · exact .inl (.inr ⟨o, R.keep _ _ (ne_of_none h hd) h⟩)
  · exact .inr h
theorem ok_law (T : Txt K mg a) : Rp.FnG P w K mg base CX0 6 a.law a.fd_law ps_law (spLaw K) := by
  have F := T.F_law
  refine Rp.okG (k := 5) F sc_law (fun vs H Q E h => ?_) (fun cdv A outer s H vs Q E hr hg h => ?_)
  · obtain ⟨s0, ns, rfl, hS, hl, k⟩ := h
    rfl
  · obtain ⟨s0, ns, rfl, hS, hl, k⟩ := h
    have hu := hu_of hr
    refine ⟨_, (pss_cons (ps_for PassesOwn.never rfl (pi_range1 (by rfl) T.range (pa_cons (pe_callB (call_max2 rfl) (by rfl) T.max (by decide +kernel) (pa_cons pe_int (pa_cons (pe_callB (call_min2 rfl) (by rfl) T.min (by decide +kernel) (pa_cons pe_int (pa_cons (pe_callB call_len (by rfl) T.len (by decide +kernel) (pa_cons (pv 0) pa_nil)) pa_nil))) pa_nil))) pa_nil)) (pg_name (i := 1) sc_law.nd rfl (Or.inl rfl)) (pss_cons (ps_set (i := 2) sc_law.nd rfl (Or.inl rfl) (pe_call (ok_dice T) (hr.mono (by decide)) (by rfl) T.g_dice T.F_dice.kp (b_dice T) .nil pass0 (pa_cons (pv 0) (pa_cons (pv 1) pa_nil))))
      (pss_one (ps_if (PW.pt (pw_or (pt_not (pt_val (pe_call (ok_messages_right T) (hr.mono (by decide)) (by rfl) T.g_messages_right T.F_messages_right.kp (b_messages_right T) .nil pass0 (pa_cons (pv 2) pa_nil)))) (pw_or1 (pt_not (pt_val (Rp.pe_callG (ok_keepers_right T) (hr.mono (by decide)) hg (by rfl) T.g_keepers_right T.F_keepers_right.kp (b_keepers_right T) pass0 (pa_cons (pv 2) pa_nil))))))) (pss_one (ps_ret pe_bl)) pss_nil))))
      (pss_one (ps_ret pe_bl))), ?_⟩
    have hL : LenV K (.ref s0) H ns.length := .inl ⟨_, hS, by rw [List.length_map]⟩
    refine ⟨_, rfl, ?_⟩
    refine ⟨_, _, rfl, hL, ?_⟩
    refine ⟨8, _, rfl, ?_⟩
    refine ⟨1, _, rfl, ?_⟩
    obtain ⟨m, hm, h8⟩ := count_of ns.length
    rw [hm]
    refine ⟨(m : Int), rfl, by omega, by omega, ?_⟩
    rw [Int.toNat_natCast]
    refine for_range (lo := 0) (n := m) (fun i σ H1 => ∃ x y, σ = [some (.ref s0), x, y] ∧ SqL K H1 s0 (ns.map V.int)) ?_ ?_ ?_
    · exact ⟨_, _, rfl, hS⟩
    · rintro i σ H1 hi ⟨x, y, rfl, hS1⟩
      rw [Int.zero_add]
      refine ⟨_, rfl, _, rfl, s0, ns, i, rfl, hS1, hl, by omega, fun p H2 np hp S2 => ?_⟩
      refine ⟨_, rfl, p, rfl, hp, fun H3 R3 => ?_⟩
      refine ⟨true, rfl, ?_⟩
      refine ⟨_, rfl, p, rfl, R3.die, fun H4 R4 => ?_⟩
      refine ⟨true, rfl, ?_⟩
      have R : Rolled p H1 H4 := ⟨R4.die, fun b o n e => R4.keep _ _ n (R3.keep _ _ n (S2 _ _ e))⟩
      exact ⟨_, _, rfl, rolledS R np hS1⟩
    · rintro σ H1 ⟨x, y, rfl, hS1⟩
      exact k _
end
end K00


set_option Elab.async false
set_option linter.all false
set_option maxRecDepth 100000
set_option maxHeartbeats 4000000
namespace K00
open PySem PySem.Spec PyProof.Rows L2 Dt
theorem mk_exc {K : PySem.W.Frag} {C : Addr} {bm : List Value} {newId : String} (hn : PySem.W.specialIn K (.builtin "object.__class__") "__get__" = some (some (.builtin "getset_descriptor.__get__"))) (ht : PySem.W.takesIn K (.builtin "object.__class__") = some true)
    (x : Exs.XObj K C bm newId) (hb : bm.contains (.type "BaseException") = true) (ho : bm.contains (.type "object") = true) (ga : PySem.W.findIn K (.ref C) "__getattribute__" = some (some (.builtin "BaseException.__getattribute__"))) (gg : PySem.W.findIn K (.ref C) "__getattr__" = some none) (gc : PySem.W.findIn K (.ref C) "__class__" = some (some (.builtin "object.__class__"))) : ExcC K C :=
  x.excC hb ho ga gg gc hn ht
theorem all_mk {P : Program} {w : World} {K : PySem.W.Frag} {h : Heap} {mg : Str → Option Value} {fa : Addr} (X : K.In h) (G : h.Ns mainGlobals mg) (hfa : mg "law" = some (.ref fa))
    {f_ParseError___init__ f_BrokenConstraint___init__ f_Rejected___init__ f_UnknownName___init__ f_MissingRow___init__ f_NothingToUndo___init__ f_TooMany___init__ f_InvalidNumber___init__ f_NoNodes___init__ f_dice f_roll f_pick f_told f_keeper f_kept f_kinds f_python f_truths f_raise f_caught f_word f_value f_messages_right f_keepers_right f_law : Addr}
    {c_InvalidSchema c_InvalidDatabase c_InvalidClause c_InvalidQuery c_InvalidRule c_InvalidPlacement c_InvalidCase c_InvalidRow c_InvalidAnswer c_InvalidOperation c_ParseError c_BrokenConstraint c_Rejected c_UnknownName c_MissingRow c_NothingToUndo c_TooMany c_InvalidNumber c_NoNodes c_DealError : Addr}
    {od_ParseError___init__ an_ParseError___init__ od_BrokenConstraint___init__ an_BrokenConstraint___init__ od_Rejected___init__ an_Rejected___init__ od_UnknownName___init__ an_UnknownName___init__ od_MissingRow___init__ an_MissingRow___init__ od_NothingToUndo___init__ an_NothingToUndo___init__ od_TooMany___init__ an_TooMany___init__ od_InvalidNumber___init__ an_InvalidNumber___init__ od_NoNodes___init__ an_NoNodes___init__ od_dice an_dice od_roll an_roll od_pick an_pick od_told an_told od_keeper an_keeper od_kept an_kept od_kinds an_kinds od_python an_python od_truths an_truths od_raise an_raise od_caught an_caught od_word an_word od_value an_value od_messages_right an_messages_right od_keepers_right an_keepers_right od_law an_law : Option Addr}
    {sl_ParseError___init__ sl_BrokenConstraint___init__ sl_Rejected___init__ sl_UnknownName___init__ sl_MissingRow___init__ sl_NothingToUndo___init__ sl_TooMany___init__ sl_InvalidNumber___init__ sl_NoNodes___init__ sl_dice sl_roll sl_pick sl_told sl_keeper sl_kept sl_kinds sl_python sl_truths sl_raise sl_caught sl_word sl_value sl_messages_right sl_keepers_right sl_law : Array (Option Value)}
    {oc_ParseError___init__ kV_ParseError___init__ dc_ParseError___init__ pm_ParseError___init__ cd_ParseError___init__ ct_ParseError___init__ oc_BrokenConstraint___init__ kV_BrokenConstraint___init__ dc_BrokenConstraint___init__ pm_BrokenConstraint___init__ cd_BrokenConstraint___init__ ct_BrokenConstraint___init__ oc_Rejected___init__ kV_Rejected___init__ dc_Rejected___init__ pm_Rejected___init__ cd_Rejected___init__ ct_Rejected___init__ oc_UnknownName___init__ kV_UnknownName___init__ dc_UnknownName___init__ pm_UnknownName___init__ cd_UnknownName___init__ ct_UnknownName___init__ oc_MissingRow___init__ kV_MissingRow___init__ dc_MissingRow___init__ pm_MissingRow___init__ cd_MissingRow___init__ ct_MissingRow___init__ oc_NothingToUndo___init__ kV_NothingToUndo___init__ dc_NothingToUndo___init__ pm_NothingToUndo___init__ cd_NothingToUndo___init__ ct_NothingToUndo___init__ oc_TooMany___init__ kV_TooMany___init__ dc_TooMany___init__ pm_TooMany___init__ cd_TooMany___init__ ct_TooMany___init__ oc_InvalidNumber___init__ kV_InvalidNumber___init__ dc_InvalidNumber___init__ pm_InvalidNumber___init__ cd_InvalidNumber___init__ ct_InvalidNumber___init__ oc_NoNodes___init__ kV_NoNodes___init__ dc_NoNodes___init__ pm_NoNodes___init__ cd_NoNodes___init__ ct_NoNodes___init__ oc_dice kV_dice dc_dice pm_dice cd_dice ct_dice oc_roll kV_roll dc_roll pm_roll cd_roll ct_roll oc_pick kV_pick dc_pick pm_pick cd_pick ct_pick oc_told kV_told dc_told pm_told cd_told ct_told oc_keeper kV_keeper dc_keeper pm_keeper cd_keeper ct_keeper oc_kept kV_kept dc_kept pm_kept cd_kept ct_kept oc_kinds kV_kinds dc_kinds pm_kinds cd_kinds ct_kinds oc_python kV_python dc_python pm_python cd_python ct_python oc_truths kV_truths dc_truths pm_truths cd_truths ct_truths oc_raise kV_raise dc_raise pm_raise cd_raise ct_raise oc_caught kV_caught dc_caught pm_caught cd_caught ct_caught oc_word kV_word dc_word pm_word cd_word ct_word oc_value kV_value dc_value pm_value cd_value ct_value oc_messages_right kV_messages_right dc_messages_right pm_messages_right cd_messages_right ct_messages_right oc_keepers_right kV_keepers_right dc_keepers_right pm_keepers_right cd_keepers_right ct_keepers_right oc_law kV_law dc_law pm_law cd_law ct_law : Value}
    {nm_InvalidSchema qn_InvalidSchema nm_InvalidDatabase qn_InvalidDatabase nm_InvalidClause qn_InvalidClause nm_InvalidQuery qn_InvalidQuery nm_InvalidRule qn_InvalidRule nm_InvalidPlacement qn_InvalidPlacement nm_InvalidCase qn_InvalidCase nm_InvalidRow qn_InvalidRow nm_InvalidAnswer qn_InvalidAnswer nm_InvalidOperation qn_InvalidOperation nm_ParseError qn_ParseError nm_BrokenConstraint qn_BrokenConstraint nm_Rejected qn_Rejected nm_UnknownName qn_UnknownName nm_MissingRow qn_MissingRow nm_NothingToUndo qn_NothingToUndo nm_TooMany qn_TooMany nm_InvalidNumber qn_InvalidNumber nm_NoNodes qn_NoNodes nm_DealError qn_DealError : Str}
    {N_InvalidSchema N_InvalidDatabase N_InvalidClause N_InvalidQuery N_InvalidRule N_InvalidPlacement N_InvalidCase N_InvalidRow N_InvalidAnswer N_InvalidOperation N_ParseError N_BrokenConstraint N_Rejected N_UnknownName N_MissingRow N_NothingToUndo N_TooMany N_InvalidNumber N_NoNodes N_DealError : Addr}
    {bs_InvalidSchema sub_InvalidSchema bs_InvalidDatabase sub_InvalidDatabase bs_InvalidClause sub_InvalidClause bs_InvalidQuery sub_InvalidQuery bs_InvalidRule sub_InvalidRule bs_InvalidPlacement sub_InvalidPlacement bs_InvalidCase sub_InvalidCase bs_InvalidRow sub_InvalidRow bs_InvalidAnswer sub_InvalidAnswer bs_InvalidOperation sub_InvalidOperation bs_ParseError sub_ParseError bs_BrokenConstraint sub_BrokenConstraint bs_Rejected sub_Rejected bs_UnknownName sub_UnknownName bs_MissingRow sub_MissingRow bs_NothingToUndo sub_NothingToUndo bs_TooMany sub_TooMany bs_InvalidNumber sub_InvalidNumber bs_NoNodes sub_NoNodes bs_DealError sub_DealError : List Value}
    {sn_InvalidSchema sn_InvalidDatabase sn_InvalidClause sn_InvalidQuery sn_InvalidRule sn_InvalidPlacement sn_InvalidCase sn_InvalidRow sn_InvalidAnswer sn_InvalidOperation sn_ParseError sn_BrokenConstraint sn_Rejected sn_UnknownName sn_MissingRow sn_NothingToUndo sn_TooMany sn_InvalidNumber sn_NoNodes sn_DealError : List Str}
    {ab_InvalidSchema ab_InvalidDatabase ab_InvalidClause ab_InvalidQuery ab_InvalidRule ab_InvalidPlacement ab_InvalidCase ab_InvalidRow ab_InvalidAnswer ab_InvalidOperation ab_ParseError ab_BrokenConstraint ab_Rejected ab_UnknownName ab_MissingRow ab_NothingToUndo ab_TooMany ab_InvalidNumber ab_NoNodes ab_DealError : Bool}
    {col_InvalidSchema col_InvalidDatabase col_InvalidClause col_InvalidQuery col_InvalidRule col_InvalidPlacement col_InvalidCase col_InvalidRow col_InvalidAnswer col_InvalidOperation col_ParseError col_BrokenConstraint col_Rejected col_UnknownName col_MissingRow col_NothingToUndo col_TooMany col_InvalidNumber col_NoNodes col_DealError : Option Bool}
    {dd_InvalidSchema dd_InvalidDatabase dd_InvalidClause dd_InvalidQuery dd_InvalidRule dd_InvalidPlacement dd_InvalidCase dd_InvalidRow dd_InvalidAnswer dd_InvalidOperation dd_ParseError dd_BrokenConstraint dd_Rejected dd_UnknownName dd_MissingRow dd_NothingToUndo dd_TooMany dd_InvalidNumber dd_NoNodes dd_DealError : Option Addr}
    {k0_InvalidSchema k1_InvalidSchema k2_InvalidSchema k3_InvalidSchema k5_InvalidSchema k0_InvalidDatabase k1_InvalidDatabase k2_InvalidDatabase k3_InvalidDatabase k5_InvalidDatabase k0_InvalidClause k1_InvalidClause k2_InvalidClause k3_InvalidClause k5_InvalidClause k0_InvalidQuery k1_InvalidQuery k2_InvalidQuery k3_InvalidQuery k5_InvalidQuery k0_InvalidRule k1_InvalidRule k2_InvalidRule k3_InvalidRule k5_InvalidRule k0_InvalidPlacement k1_InvalidPlacement k2_InvalidPlacement k3_InvalidPlacement k5_InvalidPlacement k0_InvalidCase k1_InvalidCase k2_InvalidCase k3_InvalidCase k5_InvalidCase k0_InvalidRow k1_InvalidRow k2_InvalidRow k3_InvalidRow k5_InvalidRow k0_InvalidAnswer k1_InvalidAnswer k2_InvalidAnswer k3_InvalidAnswer k5_InvalidAnswer k0_InvalidOperation k1_InvalidOperation k2_InvalidOperation k3_InvalidOperation k5_InvalidOperation k0_ParseError k1_ParseError k2_ParseError k3_ParseError k5_ParseError k0_BrokenConstraint k1_BrokenConstraint k2_BrokenConstraint k3_BrokenConstraint k5_BrokenConstraint k0_Rejected k1_Rejected k2_Rejected k3_Rejected k5_Rejected k0_UnknownName k1_UnknownName k2_UnknownName k3_UnknownName k5_UnknownName k0_MissingRow k1_MissingRow k2_MissingRow k3_MissingRow k5_MissingRow k0_NothingToUndo k1_NothingToUndo k2_NothingToUndo k3_NothingToUndo k5_NothingToUndo k0_TooMany k1_TooMany k2_TooMany k3_TooMany k5_TooMany k0_InvalidNumber k1_InvalidNumber k2_InvalidNumber k3_InvalidNumber k5_InvalidNumber k0_NoNodes k1_NoNodes k2_NoNodes k3_NoNodes k5_NoNodes k0_DealError k1_DealError k2_DealError k3_DealError k5_DealError : Option Value}
    (ac_InvalidSchema : PySem.W.nsIn K mainGlobals "InvalidSchema" = some (some (.ref c_InvalidSchema)))
    (ac_InvalidDatabase : PySem.W.nsIn K mainGlobals "InvalidDatabase" = some (some (.ref c_InvalidDatabase)))
    (ac_InvalidClause : PySem.W.nsIn K mainGlobals "InvalidClause" = some (some (.ref c_InvalidClause)))
    (ac_InvalidQuery : PySem.W.nsIn K mainGlobals "InvalidQuery" = some (some (.ref c_InvalidQuery)))
    (ac_InvalidRule : PySem.W.nsIn K mainGlobals "InvalidRule" = some (some (.ref c_InvalidRule)))
    (ac_InvalidPlacement : PySem.W.nsIn K mainGlobals "InvalidPlacement" = some (some (.ref c_InvalidPlacement)))
    (ac_InvalidCase : PySem.W.nsIn K mainGlobals "InvalidCase" = some (some (.ref c_InvalidCase)))
    (ac_InvalidRow : PySem.W.nsIn K mainGlobals "InvalidRow" = some (some (.ref c_InvalidRow)))
    (ac_InvalidAnswer : PySem.W.nsIn K mainGlobals "InvalidAnswer" = some (some (.ref c_InvalidAnswer)))
    (ac_InvalidOperation : PySem.W.nsIn K mainGlobals "InvalidOperation" = some (some (.ref c_InvalidOperation)))
    (ac_ParseError : PySem.W.nsIn K mainGlobals "ParseError" = some (some (.ref c_ParseError)))
    (ac_BrokenConstraint : PySem.W.nsIn K mainGlobals "BrokenConstraint" = some (some (.ref c_BrokenConstraint)))
    (ac_Rejected : PySem.W.nsIn K mainGlobals "Rejected" = some (some (.ref c_Rejected)))
    (ac_UnknownName : PySem.W.nsIn K mainGlobals "UnknownName" = some (some (.ref c_UnknownName)))
    (ac_MissingRow : PySem.W.nsIn K mainGlobals "MissingRow" = some (some (.ref c_MissingRow)))
    (ac_NothingToUndo : PySem.W.nsIn K mainGlobals "NothingToUndo" = some (some (.ref c_NothingToUndo)))
    (ac_TooMany : PySem.W.nsIn K mainGlobals "TooMany" = some (some (.ref c_TooMany)))
    (ac_InvalidNumber : PySem.W.nsIn K mainGlobals "InvalidNumber" = some (some (.ref c_InvalidNumber)))
    (ac_NoNodes : PySem.W.nsIn K mainGlobals "NoNodes" = some (some (.ref c_NoNodes)))
    (ac_DealError : PySem.W.nsIn K mainGlobals "DealError" = some (some (.ref c_DealError)))
    (x_InvalidSchema : K.lookup c_InvalidSchema = some (excClassObj nm_InvalidSchema qn_InvalidSchema c_InvalidSchema N_InvalidSchema bs_InvalidSchema ((.ref c_DealError :: veT)) true sn_InvalidSchema sub_InvalidSchema ab_InvalidSchema col_InvalidSchema dd_InvalidSchema k0_InvalidSchema k1_InvalidSchema k2_InvalidSchema k3_InvalidSchema k5_InvalidSchema "ValueError.__new__"))
    (kp_InvalidSchema : PySem.W.keepIn K (.ref c_InvalidSchema) = true)
    (ga_InvalidSchema : PySem.W.findIn K (.ref c_InvalidSchema) "__getattribute__" = some (some (.builtin "BaseException.__getattribute__")))
    (gg_InvalidSchema : PySem.W.findIn K (.ref c_InvalidSchema) "__getattr__" = some none)
    (gc_InvalidSchema : PySem.W.findIn K (.ref c_InvalidSchema) "__class__" = some (some (.builtin "object.__class__")))
    (x_InvalidDatabase : K.lookup c_InvalidDatabase = some (excClassObj nm_InvalidDatabase qn_InvalidDatabase c_InvalidDatabase N_InvalidDatabase bs_InvalidDatabase ((.ref c_DealError :: veT)) true sn_InvalidDatabase sub_InvalidDatabase ab_InvalidDatabase col_InvalidDatabase dd_InvalidDatabase k0_InvalidDatabase k1_InvalidDatabase k2_InvalidDatabase k3_InvalidDatabase k5_InvalidDatabase "ValueError.__new__"))
    (kp_InvalidDatabase : PySem.W.keepIn K (.ref c_InvalidDatabase) = true)
    (ga_InvalidDatabase : PySem.W.findIn K (.ref c_InvalidDatabase) "__getattribute__" = some (some (.builtin "BaseException.__getattribute__")))
    (gg_InvalidDatabase : PySem.W.findIn K (.ref c_InvalidDatabase) "__getattr__" = some none)
    (gc_InvalidDatabase : PySem.W.findIn K (.ref c_InvalidDatabase) "__class__" = some (some (.builtin "object.__class__")))
    (x_InvalidClause : K.lookup c_InvalidClause = some (excClassObj nm_InvalidClause qn_InvalidClause c_InvalidClause N_InvalidClause bs_InvalidClause ((.ref c_DealError :: veT)) true sn_InvalidClause sub_InvalidClause ab_InvalidClause col_InvalidClause dd_InvalidClause k0_InvalidClause k1_InvalidClause k2_InvalidClause k3_InvalidClause k5_InvalidClause "ValueError.__new__"))
    (kp_InvalidClause : PySem.W.keepIn K (.ref c_InvalidClause) = true)
    (ga_InvalidClause : PySem.W.findIn K (.ref c_InvalidClause) "__getattribute__" = some (some (.builtin "BaseException.__getattribute__")))
    (gg_InvalidClause : PySem.W.findIn K (.ref c_InvalidClause) "__getattr__" = some none)
    (gc_InvalidClause : PySem.W.findIn K (.ref c_InvalidClause) "__class__" = some (some (.builtin "object.__class__")))
    (x_InvalidQuery : K.lookup c_InvalidQuery = some (excClassObj nm_InvalidQuery qn_InvalidQuery c_InvalidQuery N_InvalidQuery bs_InvalidQuery ((.ref c_DealError :: veT)) true sn_InvalidQuery sub_InvalidQuery ab_InvalidQuery col_InvalidQuery dd_InvalidQuery k0_InvalidQuery k1_InvalidQuery k2_InvalidQuery k3_InvalidQuery k5_InvalidQuery "ValueError.__new__"))
    (kp_InvalidQuery : PySem.W.keepIn K (.ref c_InvalidQuery) = true)
    (ga_InvalidQuery : PySem.W.findIn K (.ref c_InvalidQuery) "__getattribute__" = some (some (.builtin "BaseException.__getattribute__")))
    (gg_InvalidQuery : PySem.W.findIn K (.ref c_InvalidQuery) "__getattr__" = some none)
    (gc_InvalidQuery : PySem.W.findIn K (.ref c_InvalidQuery) "__class__" = some (some (.builtin "object.__class__")))
    (x_InvalidRule : K.lookup c_InvalidRule = some (excClassObj nm_InvalidRule qn_InvalidRule c_InvalidRule N_InvalidRule bs_InvalidRule ((.ref c_DealError :: veT)) true sn_InvalidRule sub_InvalidRule ab_InvalidRule col_InvalidRule dd_InvalidRule k0_InvalidRule k1_InvalidRule k2_InvalidRule k3_InvalidRule k5_InvalidRule "ValueError.__new__"))
    (kp_InvalidRule : PySem.W.keepIn K (.ref c_InvalidRule) = true)
    (ga_InvalidRule : PySem.W.findIn K (.ref c_InvalidRule) "__getattribute__" = some (some (.builtin "BaseException.__getattribute__")))
    (gg_InvalidRule : PySem.W.findIn K (.ref c_InvalidRule) "__getattr__" = some none)
    (gc_InvalidRule : PySem.W.findIn K (.ref c_InvalidRule) "__class__" = some (some (.builtin "object.__class__")))
    (x_InvalidPlacement : K.lookup c_InvalidPlacement = some (excClassObj nm_InvalidPlacement qn_InvalidPlacement c_InvalidPlacement N_InvalidPlacement bs_InvalidPlacement ((.ref c_DealError :: veT)) true sn_InvalidPlacement sub_InvalidPlacement ab_InvalidPlacement col_InvalidPlacement dd_InvalidPlacement k0_InvalidPlacement k1_InvalidPlacement k2_InvalidPlacement k3_InvalidPlacement k5_InvalidPlacement "ValueError.__new__"))
    (kp_InvalidPlacement : PySem.W.keepIn K (.ref c_InvalidPlacement) = true)
    (ga_InvalidPlacement : PySem.W.findIn K (.ref c_InvalidPlacement) "__getattribute__" = some (some (.builtin "BaseException.__getattribute__")))
    (gg_InvalidPlacement : PySem.W.findIn K (.ref c_InvalidPlacement) "__getattr__" = some none)
    (gc_InvalidPlacement : PySem.W.findIn K (.ref c_InvalidPlacement) "__class__" = some (some (.builtin "object.__class__")))
    (x_InvalidCase : K.lookup c_InvalidCase = some (excClassObj nm_InvalidCase qn_InvalidCase c_InvalidCase N_InvalidCase bs_InvalidCase ((.ref c_DealError :: veT)) true sn_InvalidCase sub_InvalidCase ab_InvalidCase col_InvalidCase dd_InvalidCase k0_InvalidCase k1_InvalidCase k2_InvalidCase k3_InvalidCase k5_InvalidCase "ValueError.__new__"))
    (kp_InvalidCase : PySem.W.keepIn K (.ref c_InvalidCase) = true)
    (ga_InvalidCase : PySem.W.findIn K (.ref c_InvalidCase) "__getattribute__" = some (some (.builtin "BaseException.__getattribute__")))
    (gg_InvalidCase : PySem.W.findIn K (.ref c_InvalidCase) "__getattr__" = some none)
    (gc_InvalidCase : PySem.W.findIn K (.ref c_InvalidCase) "__class__" = some (some (.builtin "object.__class__")))
    (x_InvalidRow : K.lookup c_InvalidRow = some (excClassObj nm_InvalidRow qn_InvalidRow c_InvalidRow N_InvalidRow bs_InvalidRow ((.ref c_DealError :: veT)) true sn_InvalidRow sub_InvalidRow ab_InvalidRow col_InvalidRow dd_InvalidRow k0_InvalidRow k1_InvalidRow k2_InvalidRow k3_InvalidRow k5_InvalidRow "ValueError.__new__"))
    (kp_InvalidRow : PySem.W.keepIn K (.ref c_InvalidRow) = true)
    (ga_InvalidRow : PySem.W.findIn K (.ref c_InvalidRow) "__getattribute__" = some (some (.builtin "BaseException.__getattribute__")))
    (gg_InvalidRow : PySem.W.findIn K (.ref c_InvalidRow) "__getattr__" = some none)
    (gc_InvalidRow : PySem.W.findIn K (.ref c_InvalidRow) "__class__" = some (some (.builtin "object.__class__")))
    (x_InvalidAnswer : K.lookup c_InvalidAnswer = some (excClassObj nm_InvalidAnswer qn_InvalidAnswer c_InvalidAnswer N_InvalidAnswer bs_InvalidAnswer ((.ref c_DealError :: veT)) true sn_InvalidAnswer sub_InvalidAnswer ab_InvalidAnswer col_InvalidAnswer dd_InvalidAnswer k0_InvalidAnswer k1_InvalidAnswer k2_InvalidAnswer k3_InvalidAnswer k5_InvalidAnswer "ValueError.__new__"))
    (kp_InvalidAnswer : PySem.W.keepIn K (.ref c_InvalidAnswer) = true)
    (ga_InvalidAnswer : PySem.W.findIn K (.ref c_InvalidAnswer) "__getattribute__" = some (some (.builtin "BaseException.__getattribute__")))
    (gg_InvalidAnswer : PySem.W.findIn K (.ref c_InvalidAnswer) "__getattr__" = some none)
    (gc_InvalidAnswer : PySem.W.findIn K (.ref c_InvalidAnswer) "__class__" = some (some (.builtin "object.__class__")))
    (x_InvalidOperation : K.lookup c_InvalidOperation = some (excClassObj nm_InvalidOperation qn_InvalidOperation c_InvalidOperation N_InvalidOperation bs_InvalidOperation ((.ref c_DealError :: veT)) true sn_InvalidOperation sub_InvalidOperation ab_InvalidOperation col_InvalidOperation dd_InvalidOperation k0_InvalidOperation k1_InvalidOperation k2_InvalidOperation k3_InvalidOperation k5_InvalidOperation "ValueError.__new__"))
    (kp_InvalidOperation : PySem.W.keepIn K (.ref c_InvalidOperation) = true)
    (ga_InvalidOperation : PySem.W.findIn K (.ref c_InvalidOperation) "__getattribute__" = some (some (.builtin "BaseException.__getattribute__")))
    (gg_InvalidOperation : PySem.W.findIn K (.ref c_InvalidOperation) "__getattr__" = some none)
    (gc_InvalidOperation : PySem.W.findIn K (.ref c_InvalidOperation) "__class__" = some (some (.builtin "object.__class__")))
    (x_ParseError : K.lookup c_ParseError = some (excClassObj nm_ParseError qn_ParseError c_ParseError N_ParseError bs_ParseError ((.ref c_DealError :: veT)) true sn_ParseError sub_ParseError ab_ParseError col_ParseError dd_ParseError k0_ParseError k1_ParseError k2_ParseError k3_ParseError k5_ParseError "ValueError.__new__"))
    (kp_ParseError : PySem.W.keepIn K (.ref c_ParseError) = true)
    (ga_ParseError : PySem.W.findIn K (.ref c_ParseError) "__getattribute__" = some (some (.builtin "BaseException.__getattribute__")))
    (gg_ParseError : PySem.W.findIn K (.ref c_ParseError) "__getattr__" = some none)
    (gc_ParseError : PySem.W.findIn K (.ref c_ParseError) "__class__" = some (some (.builtin "object.__class__")))
    (x_BrokenConstraint : K.lookup c_BrokenConstraint = some (excClassObj nm_BrokenConstraint qn_BrokenConstraint c_BrokenConstraint N_BrokenConstraint bs_BrokenConstraint ((.ref c_DealError :: veT)) true sn_BrokenConstraint sub_BrokenConstraint ab_BrokenConstraint col_BrokenConstraint dd_BrokenConstraint k0_BrokenConstraint k1_BrokenConstraint k2_BrokenConstraint k3_BrokenConstraint k5_BrokenConstraint "ValueError.__new__"))
    (kp_BrokenConstraint : PySem.W.keepIn K (.ref c_BrokenConstraint) = true)
    (ga_BrokenConstraint : PySem.W.findIn K (.ref c_BrokenConstraint) "__getattribute__" = some (some (.builtin "BaseException.__getattribute__")))
    (gg_BrokenConstraint : PySem.W.findIn K (.ref c_BrokenConstraint) "__getattr__" = some none)
    (gc_BrokenConstraint : PySem.W.findIn K (.ref c_BrokenConstraint) "__class__" = some (some (.builtin "object.__class__")))
    (x_Rejected : K.lookup c_Rejected = some (excClassObj nm_Rejected qn_Rejected c_Rejected N_Rejected bs_Rejected ((.ref c_DealError :: veT)) true sn_Rejected sub_Rejected ab_Rejected col_Rejected dd_Rejected k0_Rejected k1_Rejected k2_Rejected k3_Rejected k5_Rejected "ValueError.__new__"))
    (kp_Rejected : PySem.W.keepIn K (.ref c_Rejected) = true)
    (ga_Rejected : PySem.W.findIn K (.ref c_Rejected) "__getattribute__" = some (some (.builtin "BaseException.__getattribute__")))
    (gg_Rejected : PySem.W.findIn K (.ref c_Rejected) "__getattr__" = some none)
    (gc_Rejected : PySem.W.findIn K (.ref c_Rejected) "__class__" = some (some (.builtin "object.__class__")))
    (x_UnknownName : K.lookup c_UnknownName = some (excClassObj nm_UnknownName qn_UnknownName c_UnknownName N_UnknownName bs_UnknownName (keT) true sn_UnknownName sub_UnknownName ab_UnknownName col_UnknownName dd_UnknownName k0_UnknownName k1_UnknownName k2_UnknownName k3_UnknownName k5_UnknownName "LookupError.__new__"))
    (kp_UnknownName : PySem.W.keepIn K (.ref c_UnknownName) = true)
    (ga_UnknownName : PySem.W.findIn K (.ref c_UnknownName) "__getattribute__" = some (some (.builtin "BaseException.__getattribute__")))
    (gg_UnknownName : PySem.W.findIn K (.ref c_UnknownName) "__getattr__" = some none)
    (gc_UnknownName : PySem.W.findIn K (.ref c_UnknownName) "__class__" = some (some (.builtin "object.__class__")))
    (x_MissingRow : K.lookup c_MissingRow = some (excClassObj nm_MissingRow qn_MissingRow c_MissingRow N_MissingRow bs_MissingRow (leT) true sn_MissingRow sub_MissingRow ab_MissingRow col_MissingRow dd_MissingRow k0_MissingRow k1_MissingRow k2_MissingRow k3_MissingRow k5_MissingRow "LookupError.__new__"))
    (kp_MissingRow : PySem.W.keepIn K (.ref c_MissingRow) = true)
    (ga_MissingRow : PySem.W.findIn K (.ref c_MissingRow) "__getattribute__" = some (some (.builtin "BaseException.__getattribute__")))
    (gg_MissingRow : PySem.W.findIn K (.ref c_MissingRow) "__getattr__" = some none)
    (gc_MissingRow : PySem.W.findIn K (.ref c_MissingRow) "__class__" = some (some (.builtin "object.__class__")))
    (x_NothingToUndo : K.lookup c_NothingToUndo = some (excClassObj nm_NothingToUndo qn_NothingToUndo c_NothingToUndo N_NothingToUndo bs_NothingToUndo (ieT) true sn_NothingToUndo sub_NothingToUndo ab_NothingToUndo col_NothingToUndo dd_NothingToUndo k0_NothingToUndo k1_NothingToUndo k2_NothingToUndo k3_NothingToUndo k5_NothingToUndo "IndexError.__new__"))
    (kp_NothingToUndo : PySem.W.keepIn K (.ref c_NothingToUndo) = true)
    (ga_NothingToUndo : PySem.W.findIn K (.ref c_NothingToUndo) "__getattribute__" = some (some (.builtin "BaseException.__getattribute__")))
    (gg_NothingToUndo : PySem.W.findIn K (.ref c_NothingToUndo) "__getattr__" = some none)
    (gc_NothingToUndo : PySem.W.findIn K (.ref c_NothingToUndo) "__class__" = some (some (.builtin "object.__class__")))
    (x_TooMany : K.lookup c_TooMany = some (excClassObj nm_TooMany qn_TooMany c_TooMany N_TooMany bs_TooMany (oeT) true sn_TooMany sub_TooMany ab_TooMany col_TooMany dd_TooMany k0_TooMany k1_TooMany k2_TooMany k3_TooMany k5_TooMany "OverflowError.__new__"))
    (kp_TooMany : PySem.W.keepIn K (.ref c_TooMany) = true)
    (ga_TooMany : PySem.W.findIn K (.ref c_TooMany) "__getattribute__" = some (some (.builtin "BaseException.__getattribute__")))
    (gg_TooMany : PySem.W.findIn K (.ref c_TooMany) "__getattr__" = some none)
    (gc_TooMany : PySem.W.findIn K (.ref c_TooMany) "__class__" = some (some (.builtin "object.__class__")))
    (x_InvalidNumber : K.lookup c_InvalidNumber = some (excClassObj nm_InvalidNumber qn_InvalidNumber c_InvalidNumber N_InvalidNumber bs_InvalidNumber (reT) true sn_InvalidNumber sub_InvalidNumber ab_InvalidNumber col_InvalidNumber dd_InvalidNumber k0_InvalidNumber k1_InvalidNumber k2_InvalidNumber k3_InvalidNumber k5_InvalidNumber "RuntimeError.__new__"))
    (kp_InvalidNumber : PySem.W.keepIn K (.ref c_InvalidNumber) = true)
    (ga_InvalidNumber : PySem.W.findIn K (.ref c_InvalidNumber) "__getattribute__" = some (some (.builtin "BaseException.__getattribute__")))
    (gg_InvalidNumber : PySem.W.findIn K (.ref c_InvalidNumber) "__getattr__" = some none)
    (gc_InvalidNumber : PySem.W.findIn K (.ref c_InvalidNumber) "__class__" = some (some (.builtin "object.__class__")))
    (x_NoNodes : K.lookup c_NoNodes = some (excClassObj nm_NoNodes qn_NoNodes c_NoNodes N_NoNodes bs_NoNodes (zeT) true sn_NoNodes sub_NoNodes ab_NoNodes col_NoNodes dd_NoNodes k0_NoNodes k1_NoNodes k2_NoNodes k3_NoNodes k5_NoNodes "ZeroDivisionError.__new__"))
    (kp_NoNodes : PySem.W.keepIn K (.ref c_NoNodes) = true)
    (ga_NoNodes : PySem.W.findIn K (.ref c_NoNodes) "__getattribute__" = some (some (.builtin "BaseException.__getattribute__")))
    (gg_NoNodes : PySem.W.findIn K (.ref c_NoNodes) "__getattr__" = some none)
    (gc_NoNodes : PySem.W.findIn K (.ref c_NoNodes) "__class__" = some (some (.builtin "object.__class__")))
    (x_DealError : K.lookup c_DealError = some (excClassObj nm_DealError qn_DealError c_DealError N_DealError bs_DealError (veT) true sn_DealError sub_DealError ab_DealError col_DealError dd_DealError k0_DealError k1_DealError k2_DealError k3_DealError k5_DealError "ValueError.__new__"))
    (kp_DealError : PySem.W.keepIn K (.ref c_DealError) = true)
    (ga_DealError : PySem.W.findIn K (.ref c_DealError) "__getattribute__" = some (some (.builtin "BaseException.__getattribute__")))
    (gg_DealError : PySem.W.findIn K (.ref c_DealError) "__getattr__" = some none)
    (gc_DealError : PySem.W.findIn K (.ref c_DealError) "__class__" = some (some (.builtin "object.__class__")))
    (hn : PySem.W.specialIn K (.builtin "object.__class__") "__get__" = some (some (.builtin "getset_descriptor.__get__")))
    (ht : PySem.W.takesIn K (.builtin "object.__class__") = some true)
    (q_InvalidSchema : PySem.W.excIn K c_InvalidSchema veT "ValueError.__new__" = true)
    (q_InvalidDatabase : PySem.W.excIn K c_InvalidDatabase veT "ValueError.__new__" = true)
    (q_InvalidClause : PySem.W.excIn K c_InvalidClause veT "ValueError.__new__" = true)
    (q_InvalidQuery : PySem.W.excIn K c_InvalidQuery veT "ValueError.__new__" = true)
    (q_InvalidRule : PySem.W.excIn K c_InvalidRule veT "ValueError.__new__" = true)
    (q_InvalidPlacement : PySem.W.excIn K c_InvalidPlacement veT "ValueError.__new__" = true)
    (q_InvalidCase : PySem.W.excIn K c_InvalidCase veT "ValueError.__new__" = true)
    (q_InvalidRow : PySem.W.excIn K c_InvalidRow veT "ValueError.__new__" = true)
    (q_InvalidAnswer : PySem.W.excIn K c_InvalidAnswer veT "ValueError.__new__" = true)
    (q_InvalidOperation : PySem.W.excIn K c_InvalidOperation veT "ValueError.__new__" = true)
    (q_DealError : PySem.W.excIn K c_DealError veT "ValueError.__new__" = true)
    (sa_ParseError : PySem.W.findIn K (.ref c_ParseError) "__setattr__" = some (some (.builtin "object.__setattr__")))
    (nf_ParseError : PySem.W.findIn K (.ref c_ParseError) "line" = some none)
    (sa_BrokenConstraint : PySem.W.findIn K (.ref c_BrokenConstraint) "__setattr__" = some (some (.builtin "object.__setattr__")))
    (nf_BrokenConstraint : PySem.W.findIn K (.ref c_BrokenConstraint) "constraint" = some none)
    (sa_Rejected : PySem.W.findIn K (.ref c_Rejected) "__setattr__" = some (some (.builtin "object.__setattr__")))
    (nf_Rejected : PySem.W.findIn K (.ref c_Rejected) "reason" = some none)
    (sa_UnknownName : PySem.W.findIn K (.ref c_UnknownName) "__setattr__" = some (some (.builtin "object.__setattr__")))
    (nf_UnknownName : PySem.W.findIn K (.ref c_UnknownName) "name" = some none)
    (sa_MissingRow : PySem.W.findIn K (.ref c_MissingRow) "__setattr__" = some (some (.builtin "object.__setattr__")))
    (nf_MissingRow : PySem.W.findIn K (.ref c_MissingRow) "row" = some none)
    (sa_NothingToUndo : PySem.W.findIn K (.ref c_NothingToUndo) "__setattr__" = some (some (.builtin "object.__setattr__")))
    (nf_NothingToUndo : PySem.W.findIn K (.ref c_NothingToUndo) "many" = some none)
    (sa_TooMany : PySem.W.findIn K (.ref c_TooMany) "__setattr__" = some (some (.builtin "object.__setattr__")))
    (nf_TooMany : PySem.W.findIn K (.ref c_TooMany) "limit" = some none)
    (sa_InvalidNumber : PySem.W.findIn K (.ref c_InvalidNumber) "__setattr__" = some (some (.builtin "object.__setattr__")))
    (nf_InvalidNumber : PySem.W.findIn K (.ref c_InvalidNumber) "value" = some none)
    (sa_NoNodes : PySem.W.findIn K (.ref c_NoNodes) "__setattr__" = some (some (.builtin "object.__setattr__")))
    (nf_NoNodes : PySem.W.findIn K (.ref c_NoNodes) "value" = some none)
    (i_ParseError : PySem.W.findIn K (.ref c_ParseError) "__init__" = some (some (.ref f_ParseError___init__)))
    (ti_ParseError : PySem.W.typeIn K (.ref f_ParseError___init__) = some (.type "function"))
    (l_ParseError___init__ : K.lookup f_ParseError___init__ = some ⟨oc_ParseError___init__, od_ParseError___init__, .func (PySem.W.fnOf "__init__" "ParseError.__init__" (defArgs s_ParseError___init__) (defBody s_ParseError___init__) (defScope s_ParseError___init__) .none kV_ParseError___init__ dc_ParseError___init__ pm_ParseError___init__ an_ParseError___init__ cd_ParseError___init__ ct_ParseError___init__), sl_ParseError___init__⟩)
    (cc_ParseError___init__ : PySem.W.codeIn K cd_ParseError___init__ "ParseError.__init__" = true)
    (kk_ParseError___init__ : PySem.W.keepIn K (.ref f_ParseError___init__) = true)
    (i_BrokenConstraint : PySem.W.findIn K (.ref c_BrokenConstraint) "__init__" = some (some (.ref f_BrokenConstraint___init__)))
    (ti_BrokenConstraint : PySem.W.typeIn K (.ref f_BrokenConstraint___init__) = some (.type "function"))
    (l_BrokenConstraint___init__ : K.lookup f_BrokenConstraint___init__ = some ⟨oc_BrokenConstraint___init__, od_BrokenConstraint___init__, .func (PySem.W.fnOf "__init__" "BrokenConstraint.__init__" (defArgs s_BrokenConstraint___init__) (defBody s_BrokenConstraint___init__) (defScope s_BrokenConstraint___init__) .none kV_BrokenConstraint___init__ dc_BrokenConstraint___init__ pm_BrokenConstraint___init__ an_BrokenConstraint___init__ cd_BrokenConstraint___init__ ct_BrokenConstraint___init__), sl_BrokenConstraint___init__⟩)
    (cc_BrokenConstraint___init__ : PySem.W.codeIn K cd_BrokenConstraint___init__ "BrokenConstraint.__init__" = true)
    (kk_BrokenConstraint___init__ : PySem.W.keepIn K (.ref f_BrokenConstraint___init__) = true)
    (i_Rejected : PySem.W.findIn K (.ref c_Rejected) "__init__" = some (some (.ref f_Rejected___init__)))
    (ti_Rejected : PySem.W.typeIn K (.ref f_Rejected___init__) = some (.type "function"))
    (l_Rejected___init__ : K.lookup f_Rejected___init__ = some ⟨oc_Rejected___init__, od_Rejected___init__, .func (PySem.W.fnOf "__init__" "Rejected.__init__" (defArgs s_Rejected___init__) (defBody s_Rejected___init__) (defScope s_Rejected___init__) .none kV_Rejected___init__ dc_Rejected___init__ pm_Rejected___init__ an_Rejected___init__ cd_Rejected___init__ ct_Rejected___init__), sl_Rejected___init__⟩)
    (cc_Rejected___init__ : PySem.W.codeIn K cd_Rejected___init__ "Rejected.__init__" = true)
    (kk_Rejected___init__ : PySem.W.keepIn K (.ref f_Rejected___init__) = true)
    (i_UnknownName : PySem.W.findIn K (.ref c_UnknownName) "__init__" = some (some (.ref f_UnknownName___init__)))
    (ti_UnknownName : PySem.W.typeIn K (.ref f_UnknownName___init__) = some (.type "function"))
    (l_UnknownName___init__ : K.lookup f_UnknownName___init__ = some ⟨oc_UnknownName___init__, od_UnknownName___init__, .func (PySem.W.fnOf "__init__" "UnknownName.__init__" (defArgs s_UnknownName___init__) (defBody s_UnknownName___init__) (defScope s_UnknownName___init__) .none kV_UnknownName___init__ dc_UnknownName___init__ pm_UnknownName___init__ an_UnknownName___init__ cd_UnknownName___init__ ct_UnknownName___init__), sl_UnknownName___init__⟩)
    (cc_UnknownName___init__ : PySem.W.codeIn K cd_UnknownName___init__ "UnknownName.__init__" = true)
    (kk_UnknownName___init__ : PySem.W.keepIn K (.ref f_UnknownName___init__) = true)
    (i_MissingRow : PySem.W.findIn K (.ref c_MissingRow) "__init__" = some (some (.ref f_MissingRow___init__)))
    (ti_MissingRow : PySem.W.typeIn K (.ref f_MissingRow___init__) = some (.type "function"))
    (l_MissingRow___init__ : K.lookup f_MissingRow___init__ = some ⟨oc_MissingRow___init__, od_MissingRow___init__, .func (PySem.W.fnOf "__init__" "MissingRow.__init__" (defArgs s_MissingRow___init__) (defBody s_MissingRow___init__) (defScope s_MissingRow___init__) .none kV_MissingRow___init__ dc_MissingRow___init__ pm_MissingRow___init__ an_MissingRow___init__ cd_MissingRow___init__ ct_MissingRow___init__), sl_MissingRow___init__⟩)
    (cc_MissingRow___init__ : PySem.W.codeIn K cd_MissingRow___init__ "MissingRow.__init__" = true)
    (kk_MissingRow___init__ : PySem.W.keepIn K (.ref f_MissingRow___init__) = true)
    (i_NothingToUndo : PySem.W.findIn K (.ref c_NothingToUndo) "__init__" = some (some (.ref f_NothingToUndo___init__)))
    (ti_NothingToUndo : PySem.W.typeIn K (.ref f_NothingToUndo___init__) = some (.type "function"))
    (l_NothingToUndo___init__ : K.lookup f_NothingToUndo___init__ = some ⟨oc_NothingToUndo___init__, od_NothingToUndo___init__, .func (PySem.W.fnOf "__init__" "NothingToUndo.__init__" (defArgs s_NothingToUndo___init__) (defBody s_NothingToUndo___init__) (defScope s_NothingToUndo___init__) .none kV_NothingToUndo___init__ dc_NothingToUndo___init__ pm_NothingToUndo___init__ an_NothingToUndo___init__ cd_NothingToUndo___init__ ct_NothingToUndo___init__), sl_NothingToUndo___init__⟩)
    (cc_NothingToUndo___init__ : PySem.W.codeIn K cd_NothingToUndo___init__ "NothingToUndo.__init__" = true)
    (kk_NothingToUndo___init__ : PySem.W.keepIn K (.ref f_NothingToUndo___init__) = true)
    (i_TooMany : PySem.W.findIn K (.ref c_TooMany) "__init__" = some (some (.ref f_TooMany___init__)))
    (ti_TooMany : PySem.W.typeIn K (.ref f_TooMany___init__) = some (.type "function"))
    (l_TooMany___init__ : K.lookup f_TooMany___init__ = some ⟨oc_TooMany___init__, od_TooMany___init__, .func (PySem.W.fnOf "__init__" "TooMany.__init__" (defArgs s_TooMany___init__) (defBody s_TooMany___init__) (defScope s_TooMany___init__) .none kV_TooMany___init__ dc_TooMany___init__ pm_TooMany___init__ an_TooMany___init__ cd_TooMany___init__ ct_TooMany___init__), sl_TooMany___init__⟩)
    (cc_TooMany___init__ : PySem.W.codeIn K cd_TooMany___init__ "TooMany.__init__" = true)
    (kk_TooMany___init__ : PySem.W.keepIn K (.ref f_TooMany___init__) = true)
    (i_InvalidNumber : PySem.W.findIn K (.ref c_InvalidNumber) "__init__" = some (some (.ref f_InvalidNumber___init__)))
    (ti_InvalidNumber : PySem.W.typeIn K (.ref f_InvalidNumber___init__) = some (.type "function"))
    (l_InvalidNumber___init__ : K.lookup f_InvalidNumber___init__ = some ⟨oc_InvalidNumber___init__, od_InvalidNumber___init__, .func (PySem.W.fnOf "__init__" "InvalidNumber.__init__" (defArgs s_InvalidNumber___init__) (defBody s_InvalidNumber___init__) (defScope s_InvalidNumber___init__) .none kV_InvalidNumber___init__ dc_InvalidNumber___init__ pm_InvalidNumber___init__ an_InvalidNumber___init__ cd_InvalidNumber___init__ ct_InvalidNumber___init__), sl_InvalidNumber___init__⟩)
    (cc_InvalidNumber___init__ : PySem.W.codeIn K cd_InvalidNumber___init__ "InvalidNumber.__init__" = true)
    (kk_InvalidNumber___init__ : PySem.W.keepIn K (.ref f_InvalidNumber___init__) = true)
    (i_NoNodes : PySem.W.findIn K (.ref c_NoNodes) "__init__" = some (some (.ref f_NoNodes___init__)))
    (ti_NoNodes : PySem.W.typeIn K (.ref f_NoNodes___init__) = some (.type "function"))
    (l_NoNodes___init__ : K.lookup f_NoNodes___init__ = some ⟨oc_NoNodes___init__, od_NoNodes___init__, .func (PySem.W.fnOf "__init__" "NoNodes.__init__" (defArgs s_NoNodes___init__) (defBody s_NoNodes___init__) (defScope s_NoNodes___init__) .none kV_NoNodes___init__ dc_NoNodes___init__ pm_NoNodes___init__ an_NoNodes___init__ cd_NoNodes___init__ ct_NoNodes___init__), sl_NoNodes___init__⟩)
    (cc_NoNodes___init__ : PySem.W.codeIn K cd_NoNodes___init__ "NoNodes.__init__" = true)
    (kk_NoNodes___init__ : PySem.W.keepIn K (.ref f_NoNodes___init__) = true)
    (a_dice : PySem.W.nsIn K mainGlobals "_law_dice" = some (some (.ref f_dice)))
    (l_dice : K.lookup f_dice = some ⟨oc_dice, od_dice, .func (PySem.W.fnOf "_law_dice" "_law_dice" (defArgs s__law_dice) (defBody s__law_dice) (defScope s__law_dice) .none kV_dice dc_dice pm_dice an_dice cd_dice ct_dice), sl_dice⟩)
    (cc_dice : PySem.W.codeIn K cd_dice "_law_dice" = true)
    (kk_dice : PySem.W.keepIn K (.ref f_dice) = true)
    (a_roll : PySem.W.nsIn K mainGlobals "_law_roll" = some (some (.ref f_roll)))
    (l_roll : K.lookup f_roll = some ⟨oc_roll, od_roll, .func (PySem.W.fnOf "_law_roll" "_law_roll" (defArgs s__law_roll) (defBody s__law_roll) (defScope s__law_roll) .none kV_roll dc_roll pm_roll an_roll cd_roll ct_roll), sl_roll⟩)
    (cc_roll : PySem.W.codeIn K cd_roll "_law_roll" = true)
    (kk_roll : PySem.W.keepIn K (.ref f_roll) = true)
    (a_pick : PySem.W.nsIn K mainGlobals "_law_pick" = some (some (.ref f_pick)))
    (l_pick : K.lookup f_pick = some ⟨oc_pick, od_pick, .func (PySem.W.fnOf "_law_pick" "_law_pick" (defArgs s__law_pick) (defBody s__law_pick) (defScope s__law_pick) .none kV_pick dc_pick pm_pick an_pick cd_pick ct_pick), sl_pick⟩)
    (cc_pick : PySem.W.codeIn K cd_pick "_law_pick" = true)
    (kk_pick : PySem.W.keepIn K (.ref f_pick) = true)
    (a_told : PySem.W.nsIn K mainGlobals "_law_told" = some (some (.ref f_told)))
    (l_told : K.lookup f_told = some ⟨oc_told, od_told, .func (PySem.W.fnOf "_law_told" "_law_told" (defArgs s__law_told) (defBody s__law_told) (defScope s__law_told) .none kV_told dc_told pm_told an_told cd_told ct_told), sl_told⟩)
    (cc_told : PySem.W.codeIn K cd_told "_law_told" = true)
    (kk_told : PySem.W.keepIn K (.ref f_told) = true)
    (a_keeper : PySem.W.nsIn K mainGlobals "_law_keeper" = some (some (.ref f_keeper)))
    (l_keeper : K.lookup f_keeper = some ⟨oc_keeper, od_keeper, .func (PySem.W.fnOf "_law_keeper" "_law_keeper" (defArgs s__law_keeper) (defBody s__law_keeper) (defScope s__law_keeper) .none kV_keeper dc_keeper pm_keeper an_keeper cd_keeper ct_keeper), sl_keeper⟩)
    (cc_keeper : PySem.W.codeIn K cd_keeper "_law_keeper" = true)
    (kk_keeper : PySem.W.keepIn K (.ref f_keeper) = true)
    (a_kept : PySem.W.nsIn K mainGlobals "_law_kept" = some (some (.ref f_kept)))
    (l_kept : K.lookup f_kept = some ⟨oc_kept, od_kept, .func (PySem.W.fnOf "_law_kept" "_law_kept" (defArgs s__law_kept) (defBody s__law_kept) (defScope s__law_kept) .none kV_kept dc_kept pm_kept an_kept cd_kept ct_kept), sl_kept⟩)
    (cc_kept : PySem.W.codeIn K cd_kept "_law_kept" = true)
    (kk_kept : PySem.W.keepIn K (.ref f_kept) = true)
    (a_kinds : PySem.W.nsIn K mainGlobals "_law_kinds" = some (some (.ref f_kinds)))
    (l_kinds : K.lookup f_kinds = some ⟨oc_kinds, od_kinds, .func (PySem.W.fnOf "_law_kinds" "_law_kinds" (defArgs s__law_kinds) (defBody s__law_kinds) (defScope s__law_kinds) .none kV_kinds dc_kinds pm_kinds an_kinds cd_kinds ct_kinds), sl_kinds⟩)
    (cc_kinds : PySem.W.codeIn K cd_kinds "_law_kinds" = true)
    (kk_kinds : PySem.W.keepIn K (.ref f_kinds) = true)
    (a_python : PySem.W.nsIn K mainGlobals "_law_python" = some (some (.ref f_python)))
    (l_python : K.lookup f_python = some ⟨oc_python, od_python, .func (PySem.W.fnOf "_law_python" "_law_python" (defArgs s__law_python) (defBody s__law_python) (defScope s__law_python) .none kV_python dc_python pm_python an_python cd_python ct_python), sl_python⟩)
    (cc_python : PySem.W.codeIn K cd_python "_law_python" = true)
    (kk_python : PySem.W.keepIn K (.ref f_python) = true)
    (a_truths : PySem.W.nsIn K mainGlobals "_law_truths" = some (some (.ref f_truths)))
    (l_truths : K.lookup f_truths = some ⟨oc_truths, od_truths, .func (PySem.W.fnOf "_law_truths" "_law_truths" (defArgs s__law_truths) (defBody s__law_truths) (defScope s__law_truths) .none kV_truths dc_truths pm_truths an_truths cd_truths ct_truths), sl_truths⟩)
    (cc_truths : PySem.W.codeIn K cd_truths "_law_truths" = true)
    (kk_truths : PySem.W.keepIn K (.ref f_truths) = true)
    (a_raise : PySem.W.nsIn K mainGlobals "_law_raise" = some (some (.ref f_raise)))
    (l_raise : K.lookup f_raise = some ⟨oc_raise, od_raise, .func (PySem.W.fnOf "_law_raise" "_law_raise" (defArgs s__law_raise) (defBody s__law_raise) (defScope s__law_raise) .none kV_raise dc_raise pm_raise an_raise cd_raise ct_raise), sl_raise⟩)
    (cc_raise : PySem.W.codeIn K cd_raise "_law_raise" = true)
    (kk_raise : PySem.W.keepIn K (.ref f_raise) = true)
    (a_caught : PySem.W.nsIn K mainGlobals "_law_caught" = some (some (.ref f_caught)))
    (l_caught : K.lookup f_caught = some ⟨oc_caught, od_caught, .func (PySem.W.fnOf "_law_caught" "_law_caught" (defArgs s__law_caught) (defBody s__law_caught) (defScope s__law_caught) .none kV_caught dc_caught pm_caught an_caught cd_caught ct_caught), sl_caught⟩)
    (cc_caught : PySem.W.codeIn K cd_caught "_law_caught" = true)
    (kk_caught : PySem.W.keepIn K (.ref f_caught) = true)
    (a_word : PySem.W.nsIn K mainGlobals "_law_word" = some (some (.ref f_word)))
    (l_word : K.lookup f_word = some ⟨oc_word, od_word, .func (PySem.W.fnOf "_law_word" "_law_word" (defArgs s__law_word) (defBody s__law_word) (defScope s__law_word) .none kV_word dc_word pm_word an_word cd_word ct_word), sl_word⟩)
    (cc_word : PySem.W.codeIn K cd_word "_law_word" = true)
    (kk_word : PySem.W.keepIn K (.ref f_word) = true)
    (a_value : PySem.W.nsIn K mainGlobals "_law_value" = some (some (.ref f_value)))
    (l_value : K.lookup f_value = some ⟨oc_value, od_value, .func (PySem.W.fnOf "_law_value" "_law_value" (defArgs s__law_value) (defBody s__law_value) (defScope s__law_value) .none kV_value dc_value pm_value an_value cd_value ct_value), sl_value⟩)
    (cc_value : PySem.W.codeIn K cd_value "_law_value" = true)
    (kk_value : PySem.W.keepIn K (.ref f_value) = true)
    (a_messages_right : PySem.W.nsIn K mainGlobals "_law_messages_right" = some (some (.ref f_messages_right)))
    (l_messages_right : K.lookup f_messages_right = some ⟨oc_messages_right, od_messages_right, .func (PySem.W.fnOf "_law_messages_right" "_law_messages_right" (defArgs s__law_messages_right) (defBody s__law_messages_right) (defScope s__law_messages_right) .none kV_messages_right dc_messages_right pm_messages_right an_messages_right cd_messages_right ct_messages_right), sl_messages_right⟩)
    (cc_messages_right : PySem.W.codeIn K cd_messages_right "_law_messages_right" = true)
    (kk_messages_right : PySem.W.keepIn K (.ref f_messages_right) = true)
    (a_keepers_right : PySem.W.nsIn K mainGlobals "_law_keepers_right" = some (some (.ref f_keepers_right)))
    (l_keepers_right : K.lookup f_keepers_right = some ⟨oc_keepers_right, od_keepers_right, .func (PySem.W.fnOf "_law_keepers_right" "_law_keepers_right" (defArgs s__law_keepers_right) (defBody s__law_keepers_right) (defScope s__law_keepers_right) .none kV_keepers_right dc_keepers_right pm_keepers_right an_keepers_right cd_keepers_right ct_keepers_right), sl_keepers_right⟩)
    (cc_keepers_right : PySem.W.codeIn K cd_keepers_right "_law_keepers_right" = true)
    (kk_keepers_right : PySem.W.keepIn K (.ref f_keepers_right) = true)
    (a_law : PySem.W.nsIn K mainGlobals "law" = some (some (.ref f_law)))
    (l_law : K.lookup f_law = some ⟨oc_law, od_law, .func (PySem.W.fnOf "law" "law" (defArgs s_law) (defBody s_law) (defScope s_law) .none kV_law dc_law pm_law an_law cd_law ct_law), sl_law⟩)
    (cc_law : PySem.W.codeIn K cd_law "law" = true)
    (kk_law : PySem.W.keepIn K (.ref f_law) = true)
    (b_len : PySem.W.nsIn K mainGlobals "len" = some none)
    (b_int : PySem.W.nsIn K mainGlobals "int" = some none)
    (b_abs : PySem.W.nsIn K mainGlobals "abs" = some none)
    (b_max : PySem.W.nsIn K mainGlobals "max" = some none)
    (b_min : PySem.W.nsIn K mainGlobals "min" = some none)
    (b_range : PySem.W.nsIn K mainGlobals "range" = some none)
    (b_isinstance : PySem.W.nsIn K mainGlobals "isinstance" = some none)
    (b_repr : PySem.W.nsIn K mainGlobals "repr" = some none)
    (b_ValueError : PySem.W.nsIn K mainGlobals "ValueError" = some none)
    (b_KeyError : PySem.W.nsIn K mainGlobals "KeyError" = some none)
    (b_IndexError : PySem.W.nsIn K mainGlobals "IndexError" = some none)
    (b_LookupError : PySem.W.nsIn K mainGlobals "LookupError" = some none)
    (b_ZeroDivisionError : PySem.W.nsIn K mainGlobals "ZeroDivisionError" = some none)
    (b_OverflowError : PySem.W.nsIn K mainGlobals "OverflowError" = some none)
    (b_ArithmeticError : PySem.W.nsIn K mainGlobals "ArithmeticError" = some none)
    (b_RuntimeError : PySem.W.nsIn K mainGlobals "RuntimeError" = some none)
    (nd : ([c_InvalidSchema, c_InvalidDatabase, c_InvalidClause, c_InvalidQuery, c_InvalidRule, c_InvalidPlacement, c_InvalidCase, c_InvalidRow, c_InvalidAnswer, c_InvalidOperation, c_ParseError, c_BrokenConstraint, c_Rejected, c_UnknownName, c_MissingRow, c_NothingToUndo, c_TooMany, c_InvalidNumber, c_NoNodes, c_DealError] : List Addr).Nodup) :
    ∃ fd : FuncData, (∀ (s : Shared) (u : Value), BindsTo s fd ⟨[u], []⟩ [("_law_script", u)]) ∧ ∀ base : Heap, K.In base → base.Ns mainGlobals mg → Rp.FnG P w K mg base CX0 6 fa fd ["_law_script"] (spLaw K) := by
  obtain rfl : f_law = fa := by
    have e := hfa.symm.trans (PySem.W.mg_of X G a_law)
    cases e
    rfl
  have X_InvalidSchema := Exs.XObj.mk x_InvalidSchema
  have X_InvalidDatabase := Exs.XObj.mk x_InvalidDatabase
  have X_InvalidClause := Exs.XObj.mk x_InvalidClause
  have X_InvalidQuery := Exs.XObj.mk x_InvalidQuery
  have X_InvalidRule := Exs.XObj.mk x_InvalidRule
  have X_InvalidPlacement := Exs.XObj.mk x_InvalidPlacement
  have X_InvalidCase := Exs.XObj.mk x_InvalidCase
  have X_InvalidRow := Exs.XObj.mk x_InvalidRow
  have X_InvalidAnswer := Exs.XObj.mk x_InvalidAnswer
  have X_InvalidOperation := Exs.XObj.mk x_InvalidOperation
  have X_ParseError := Exs.XObj.mk x_ParseError
  have X_BrokenConstraint := Exs.XObj.mk x_BrokenConstraint
  have X_Rejected := Exs.XObj.mk x_Rejected
  have X_UnknownName := Exs.XObj.mk x_UnknownName
  have X_MissingRow := Exs.XObj.mk x_MissingRow
  have X_NothingToUndo := Exs.XObj.mk x_NothingToUndo
  have X_TooMany := Exs.XObj.mk x_TooMany
  have X_InvalidNumber := Exs.XObj.mk x_InvalidNumber
  have X_NoNodes := Exs.XObj.mk x_NoNodes
  have X_DealError := Exs.XObj.mk x_DealError
  have T : Txt K mg ⟨f_ParseError___init__, (PySem.W.fnOf "__init__" "ParseError.__init__" (defArgs s_ParseError___init__) (defBody s_ParseError___init__) (defScope s_ParseError___init__) .none kV_ParseError___init__ dc_ParseError___init__ pm_ParseError___init__ an_ParseError___init__ cd_ParseError___init__ ct_ParseError___init__), f_BrokenConstraint___init__, (PySem.W.fnOf "__init__" "BrokenConstraint.__init__" (defArgs s_BrokenConstraint___init__) (defBody s_BrokenConstraint___init__) (defScope s_BrokenConstraint___init__) .none kV_BrokenConstraint___init__ dc_BrokenConstraint___init__ pm_BrokenConstraint___init__ an_BrokenConstraint___init__ cd_BrokenConstraint___init__ ct_BrokenConstraint___init__), f_Rejected___init__, (PySem.W.fnOf "__init__" "Rejected.__init__" (defArgs s_Rejected___init__) (defBody s_Rejected___init__) (defScope s_Rejected___init__) .none kV_Rejected___init__ dc_Rejected___init__ pm_Rejected___init__ an_Rejected___init__ cd_Rejected___init__ ct_Rejected___init__), f_UnknownName___init__, (PySem.W.fnOf "__init__" "UnknownName.__init__" (defArgs s_UnknownName___init__) (defBody s_UnknownName___init__) (defScope s_UnknownName___init__) .none kV_UnknownName___init__ dc_UnknownName___init__ pm_UnknownName___init__ an_UnknownName___init__ cd_UnknownName___init__ ct_UnknownName___init__), f_MissingRow___init__, (PySem.W.fnOf "__init__" "MissingRow.__init__" (defArgs s_MissingRow___init__) (defBody s_MissingRow___init__) (defScope s_MissingRow___init__) .none kV_MissingRow___init__ dc_MissingRow___init__ pm_MissingRow___init__ an_MissingRow___init__ cd_MissingRow___init__ ct_MissingRow___init__), f_NothingToUndo___init__, (PySem.W.fnOf "__init__" "NothingToUndo.__init__" (defArgs s_NothingToUndo___init__) (defBody s_NothingToUndo___init__) (defScope s_NothingToUndo___init__) .none kV_NothingToUndo___init__ dc_NothingToUndo___init__ pm_NothingToUndo___init__ an_NothingToUndo___init__ cd_NothingToUndo___init__ ct_NothingToUndo___init__), f_TooMany___init__, (PySem.W.fnOf "__init__" "TooMany.__init__" (defArgs s_TooMany___init__) (defBody s_TooMany___init__) (defScope s_TooMany___init__) .none kV_TooMany___init__ dc_TooMany___init__ pm_TooMany___init__ an_TooMany___init__ cd_TooMany___init__ ct_TooMany___init__), f_InvalidNumber___init__, (PySem.W.fnOf "__init__" "InvalidNumber.__init__" (defArgs s_InvalidNumber___init__) (defBody s_InvalidNumber___init__) (defScope s_InvalidNumber___init__) .none kV_InvalidNumber___init__ dc_InvalidNumber___init__ pm_InvalidNumber___init__ an_InvalidNumber___init__ cd_InvalidNumber___init__ ct_InvalidNumber___init__), f_NoNodes___init__, (PySem.W.fnOf "__init__" "NoNodes.__init__" (defArgs s_NoNodes___init__) (defBody s_NoNodes___init__) (defScope s_NoNodes___init__) .none kV_NoNodes___init__ dc_NoNodes___init__ pm_NoNodes___init__ an_NoNodes___init__ cd_NoNodes___init__ ct_NoNodes___init__), f_dice, (PySem.W.fnOf "_law_dice" "_law_dice" (defArgs s__law_dice) (defBody s__law_dice) (defScope s__law_dice) .none kV_dice dc_dice pm_dice an_dice cd_dice ct_dice), f_roll, (PySem.W.fnOf "_law_roll" "_law_roll" (defArgs s__law_roll) (defBody s__law_roll) (defScope s__law_roll) .none kV_roll dc_roll pm_roll an_roll cd_roll ct_roll), f_pick, (PySem.W.fnOf "_law_pick" "_law_pick" (defArgs s__law_pick) (defBody s__law_pick) (defScope s__law_pick) .none kV_pick dc_pick pm_pick an_pick cd_pick ct_pick), f_told, (PySem.W.fnOf "_law_told" "_law_told" (defArgs s__law_told) (defBody s__law_told) (defScope s__law_told) .none kV_told dc_told pm_told an_told cd_told ct_told), f_keeper, (PySem.W.fnOf "_law_keeper" "_law_keeper" (defArgs s__law_keeper) (defBody s__law_keeper) (defScope s__law_keeper) .none kV_keeper dc_keeper pm_keeper an_keeper cd_keeper ct_keeper), f_kept, (PySem.W.fnOf "_law_kept" "_law_kept" (defArgs s__law_kept) (defBody s__law_kept) (defScope s__law_kept) .none kV_kept dc_kept pm_kept an_kept cd_kept ct_kept), f_kinds, (PySem.W.fnOf "_law_kinds" "_law_kinds" (defArgs s__law_kinds) (defBody s__law_kinds) (defScope s__law_kinds) .none kV_kinds dc_kinds pm_kinds an_kinds cd_kinds ct_kinds), f_python, (PySem.W.fnOf "_law_python" "_law_python" (defArgs s__law_python) (defBody s__law_python) (defScope s__law_python) .none kV_python dc_python pm_python an_python cd_python ct_python), f_truths, (PySem.W.fnOf "_law_truths" "_law_truths" (defArgs s__law_truths) (defBody s__law_truths) (defScope s__law_truths) .none kV_truths dc_truths pm_truths an_truths cd_truths ct_truths), f_raise, (PySem.W.fnOf "_law_raise" "_law_raise" (defArgs s__law_raise) (defBody s__law_raise) (defScope s__law_raise) .none kV_raise dc_raise pm_raise an_raise cd_raise ct_raise), f_caught, (PySem.W.fnOf "_law_caught" "_law_caught" (defArgs s__law_caught) (defBody s__law_caught) (defScope s__law_caught) .none kV_caught dc_caught pm_caught an_caught cd_caught ct_caught), f_word, (PySem.W.fnOf "_law_word" "_law_word" (defArgs s__law_word) (defBody s__law_word) (defScope s__law_word) .none kV_word dc_word pm_word an_word cd_word ct_word), f_value, (PySem.W.fnOf "_law_value" "_law_value" (defArgs s__law_value) (defBody s__law_value) (defScope s__law_value) .none kV_value dc_value pm_value an_value cd_value ct_value), f_messages_right, (PySem.W.fnOf "_law_messages_right" "_law_messages_right" (defArgs s__law_messages_right) (defBody s__law_messages_right) (defScope s__law_messages_right) .none kV_messages_right dc_messages_right pm_messages_right an_messages_right cd_messages_right ct_messages_right), f_keepers_right, (PySem.W.fnOf "_law_keepers_right" "_law_keepers_right" (defArgs s__law_keepers_right) (defBody s__law_keepers_right) (defScope s__law_keepers_right) .none kV_keepers_right dc_keepers_right pm_keepers_right an_keepers_right cd_keepers_right ct_keepers_right), f_law, (PySem.W.fnOf "law" "law" (defArgs s_law) (defBody s_law) (defScope s_law) .none kV_law dc_law pm_law an_law cd_law ct_law), c_InvalidSchema, c_InvalidDatabase, c_InvalidClause, c_InvalidQuery, c_InvalidRule, c_InvalidPlacement, c_InvalidCase, c_InvalidRow, c_InvalidAnswer, c_InvalidOperation, c_ParseError, c_BrokenConstraint, c_Rejected, c_UnknownName, c_MissingRow, c_NothingToUndo, c_TooMany, c_InvalidNumber, c_NoNodes, c_DealError⟩ :=
    { F_ParseError___init__ := fun_mk l_ParseError___init__ cc_ParseError___init__ kk_ParseError___init__,
      F_BrokenConstraint___init__ := fun_mk l_BrokenConstraint___init__ cc_BrokenConstraint___init__ kk_BrokenConstraint___init__,
      F_Rejected___init__ := fun_mk l_Rejected___init__ cc_Rejected___init__ kk_Rejected___init__,
      F_UnknownName___init__ := fun_mk l_UnknownName___init__ cc_UnknownName___init__ kk_UnknownName___init__,
      F_MissingRow___init__ := fun_mk l_MissingRow___init__ cc_MissingRow___init__ kk_MissingRow___init__,
      F_NothingToUndo___init__ := fun_mk l_NothingToUndo___init__ cc_NothingToUndo___init__ kk_NothingToUndo___init__,
      F_TooMany___init__ := fun_mk l_TooMany___init__ cc_TooMany___init__ kk_TooMany___init__,
      F_InvalidNumber___init__ := fun_mk l_InvalidNumber___init__ cc_InvalidNumber___init__ kk_InvalidNumber___init__,
      F_NoNodes___init__ := fun_mk l_NoNodes___init__ cc_NoNodes___init__ kk_NoNodes___init__,
      F_dice := fun_mk l_dice cc_dice kk_dice,
      g_dice := PySem.W.mg_of X G a_dice,
      F_roll := fun_mk l_roll cc_roll kk_roll,
      g_roll := PySem.W.mg_of X G a_roll,
      F_pick := fun_mk l_pick cc_pick kk_pick,
      g_pick := PySem.W.mg_of X G a_pick,
      F_told := fun_mk l_told cc_told kk_told,
      g_told := PySem.W.mg_of X G a_told,
      F_keeper := fun_mk l_keeper cc_keeper kk_keeper,
      g_keeper := PySem.W.mg_of X G a_keeper,
      F_kept := fun_mk l_kept cc_kept kk_kept,
      g_kept := PySem.W.mg_of X G a_kept,
      F_kinds := fun_mk l_kinds cc_kinds kk_kinds,
      g_kinds := PySem.W.mg_of X G a_kinds,
      F_python := fun_mk l_python cc_python kk_python,
      g_python := PySem.W.mg_of X G a_python,
      F_truths := fun_mk l_truths cc_truths kk_truths,
      g_truths := PySem.W.mg_of X G a_truths,
      F_raise := fun_mk l_raise cc_raise kk_raise,
      g_raise := PySem.W.mg_of X G a_raise,
      F_caught := fun_mk l_caught cc_caught kk_caught,
      g_caught := PySem.W.mg_of X G a_caught,
      F_word := fun_mk l_word cc_word kk_word,
      g_word := PySem.W.mg_of X G a_word,
      F_value := fun_mk l_value cc_value kk_value,
      g_value := PySem.W.mg_of X G a_value,
      F_messages_right := fun_mk l_messages_right cc_messages_right kk_messages_right,
      g_messages_right := PySem.W.mg_of X G a_messages_right,
      F_keepers_right := fun_mk l_keepers_right cc_keepers_right kk_keepers_right,
      g_keepers_right := PySem.W.mg_of X G a_keepers_right,
      F_law := fun_mk l_law cc_law kk_law,
      g_law := PySem.W.mg_of X G a_law,
      len := PySem.W.mg_none_of X G b_len,
      int := PySem.W.mg_none_of X G b_int,
      abs := PySem.W.mg_none_of X G b_abs,
      max := PySem.W.mg_none_of X G b_max,
      min := PySem.W.mg_none_of X G b_min,
      range := PySem.W.mg_none_of X G b_range,
      isinstance := PySem.W.mg_none_of X G b_isinstance,
      repr := PySem.W.mg_none_of X G b_repr,
      ValueError := PySem.W.mg_none_of X G b_ValueError,
      KeyError := PySem.W.mg_none_of X G b_KeyError,
      IndexError := PySem.W.mg_none_of X G b_IndexError,
      LookupError := PySem.W.mg_none_of X G b_LookupError,
      ZeroDivisionError := PySem.W.mg_none_of X G b_ZeroDivisionError,
      OverflowError := PySem.W.mg_none_of X G b_OverflowError,
      ArithmeticError := PySem.W.mg_none_of X G b_ArithmeticError,
      RuntimeError := PySem.W.mg_none_of X G b_RuntimeError,
      nd := nd,
      g_c_InvalidSchema := PySem.W.mg_of X G ac_InvalidSchema,
      x_InvalidSchema := X_InvalidSchema,
      e_InvalidSchema := mk_exc hn ht X_InvalidSchema (by rfl) (by rfl) ga_InvalidSchema gg_InvalidSchema gc_InvalidSchema,
      kp_InvalidSchema := kp_InvalidSchema,
      g_c_InvalidDatabase := PySem.W.mg_of X G ac_InvalidDatabase,
      x_InvalidDatabase := X_InvalidDatabase,
      e_InvalidDatabase := mk_exc hn ht X_InvalidDatabase (by rfl) (by rfl) ga_InvalidDatabase gg_InvalidDatabase gc_InvalidDatabase,
      kp_InvalidDatabase := kp_InvalidDatabase,
      g_c_InvalidClause := PySem.W.mg_of X G ac_InvalidClause,
      x_InvalidClause := X_InvalidClause,
      e_InvalidClause := mk_exc hn ht X_InvalidClause (by rfl) (by rfl) ga_InvalidClause gg_InvalidClause gc_InvalidClause,
      kp_InvalidClause := kp_InvalidClause,
      g_c_InvalidQuery := PySem.W.mg_of X G ac_InvalidQuery,
      x_InvalidQuery := X_InvalidQuery,
      e_InvalidQuery := mk_exc hn ht X_InvalidQuery (by rfl) (by rfl) ga_InvalidQuery gg_InvalidQuery gc_InvalidQuery,
      kp_InvalidQuery := kp_InvalidQuery,
      g_c_InvalidRule := PySem.W.mg_of X G ac_InvalidRule,
      x_InvalidRule := X_InvalidRule,
      e_InvalidRule := mk_exc hn ht X_InvalidRule (by rfl) (by rfl) ga_InvalidRule gg_InvalidRule gc_InvalidRule,
      kp_InvalidRule := kp_InvalidRule,
      g_c_InvalidPlacement := PySem.W.mg_of X G ac_InvalidPlacement,
      x_InvalidPlacement := X_InvalidPlacement,
      e_InvalidPlacement := mk_exc hn ht X_InvalidPlacement (by rfl) (by rfl) ga_InvalidPlacement gg_InvalidPlacement gc_InvalidPlacement,
      kp_InvalidPlacement := kp_InvalidPlacement,
      g_c_InvalidCase := PySem.W.mg_of X G ac_InvalidCase,
      x_InvalidCase := X_InvalidCase,
      e_InvalidCase := mk_exc hn ht X_InvalidCase (by rfl) (by rfl) ga_InvalidCase gg_InvalidCase gc_InvalidCase,
      kp_InvalidCase := kp_InvalidCase,
      g_c_InvalidRow := PySem.W.mg_of X G ac_InvalidRow,
      x_InvalidRow := X_InvalidRow,
      e_InvalidRow := mk_exc hn ht X_InvalidRow (by rfl) (by rfl) ga_InvalidRow gg_InvalidRow gc_InvalidRow,
      kp_InvalidRow := kp_InvalidRow,
      g_c_InvalidAnswer := PySem.W.mg_of X G ac_InvalidAnswer,
      x_InvalidAnswer := X_InvalidAnswer,
      e_InvalidAnswer := mk_exc hn ht X_InvalidAnswer (by rfl) (by rfl) ga_InvalidAnswer gg_InvalidAnswer gc_InvalidAnswer,
      kp_InvalidAnswer := kp_InvalidAnswer,
      g_c_InvalidOperation := PySem.W.mg_of X G ac_InvalidOperation,
      x_InvalidOperation := X_InvalidOperation,
      e_InvalidOperation := mk_exc hn ht X_InvalidOperation (by rfl) (by rfl) ga_InvalidOperation gg_InvalidOperation gc_InvalidOperation,
      kp_InvalidOperation := kp_InvalidOperation,
      g_c_ParseError := PySem.W.mg_of X G ac_ParseError,
      x_ParseError := X_ParseError,
      e_ParseError := mk_exc hn ht X_ParseError (by rfl) (by rfl) ga_ParseError gg_ParseError gc_ParseError,
      kp_ParseError := kp_ParseError,
      g_c_BrokenConstraint := PySem.W.mg_of X G ac_BrokenConstraint,
      x_BrokenConstraint := X_BrokenConstraint,
      e_BrokenConstraint := mk_exc hn ht X_BrokenConstraint (by rfl) (by rfl) ga_BrokenConstraint gg_BrokenConstraint gc_BrokenConstraint,
      kp_BrokenConstraint := kp_BrokenConstraint,
      g_c_Rejected := PySem.W.mg_of X G ac_Rejected,
      x_Rejected := X_Rejected,
      e_Rejected := mk_exc hn ht X_Rejected (by rfl) (by rfl) ga_Rejected gg_Rejected gc_Rejected,
      kp_Rejected := kp_Rejected,
      g_c_UnknownName := PySem.W.mg_of X G ac_UnknownName,
      x_UnknownName := X_UnknownName,
      e_UnknownName := mk_exc hn ht X_UnknownName (by rfl) (by rfl) ga_UnknownName gg_UnknownName gc_UnknownName,
      kp_UnknownName := kp_UnknownName,
      g_c_MissingRow := PySem.W.mg_of X G ac_MissingRow,
      x_MissingRow := X_MissingRow,
      e_MissingRow := mk_exc hn ht X_MissingRow (by rfl) (by rfl) ga_MissingRow gg_MissingRow gc_MissingRow,
      kp_MissingRow := kp_MissingRow,
      g_c_NothingToUndo := PySem.W.mg_of X G ac_NothingToUndo,
      x_NothingToUndo := X_NothingToUndo,
      e_NothingToUndo := mk_exc hn ht X_NothingToUndo (by rfl) (by rfl) ga_NothingToUndo gg_NothingToUndo gc_NothingToUndo,
      kp_NothingToUndo := kp_NothingToUndo,
      g_c_TooMany := PySem.W.mg_of X G ac_TooMany,
      x_TooMany := X_TooMany,
      e_TooMany := mk_exc hn ht X_TooMany (by rfl) (by rfl) ga_TooMany gg_TooMany gc_TooMany,
      kp_TooMany := kp_TooMany,
      g_c_InvalidNumber := PySem.W.mg_of X G ac_InvalidNumber,
      x_InvalidNumber := X_InvalidNumber,
      e_InvalidNumber := mk_exc hn ht X_InvalidNumber (by rfl) (by rfl) ga_InvalidNumber gg_InvalidNumber gc_InvalidNumber,
      kp_InvalidNumber := kp_InvalidNumber,
      g_c_NoNodes := PySem.W.mg_of X G ac_NoNodes,
      x_NoNodes := X_NoNodes,
      e_NoNodes := mk_exc hn ht X_NoNodes (by rfl) (by rfl) ga_NoNodes gg_NoNodes gc_NoNodes,
      kp_NoNodes := kp_NoNodes,
      g_c_DealError := PySem.W.mg_of X G ac_DealError,
      x_DealError := X_DealError,
      e_DealError := mk_exc hn ht X_DealError (by rfl) (by rfl) ga_DealError gg_DealError gc_DealError,
      kp_DealError := kp_DealError,
      q_InvalidSchema := q_InvalidSchema,
      q_InvalidDatabase := q_InvalidDatabase,
      q_InvalidClause := q_InvalidClause,
      q_InvalidQuery := q_InvalidQuery,
      q_InvalidRule := q_InvalidRule,
      q_InvalidPlacement := q_InvalidPlacement,
      q_InvalidCase := q_InvalidCase,
      q_InvalidRow := q_InvalidRow,
      q_InvalidAnswer := q_InvalidAnswer,
      q_InvalidOperation := q_InvalidOperation,
      q_DealError := q_DealError,
      k1_ParseError := X_ParseError.cls1 (t := veT) PySem.F.excBase_ValueError ⟨by rfl, by rfl, by rfl⟩ (by simp [Exs.endsIn]) (fun _ => by rfl) (by rfl) (by decide) (by rfl) sa_ParseError kp_ParseError,
      i_ParseError := i_ParseError,
      ti_ParseError := ti_ParseError,
      nf_ParseError := nf_ParseError,
      k1_BrokenConstraint := X_BrokenConstraint.cls1 (t := veT) PySem.F.excBase_ValueError ⟨by rfl, by rfl, by rfl⟩ (by simp [Exs.endsIn]) (fun _ => by rfl) (by rfl) (by decide) (by rfl) sa_BrokenConstraint kp_BrokenConstraint,
      i_BrokenConstraint := i_BrokenConstraint,
      ti_BrokenConstraint := ti_BrokenConstraint,
      nf_BrokenConstraint := nf_BrokenConstraint,
      k1_Rejected := X_Rejected.cls1 (t := veT) PySem.F.excBase_ValueError ⟨by rfl, by rfl, by rfl⟩ (by simp [Exs.endsIn]) (fun _ => by rfl) (by rfl) (by decide) (by rfl) sa_Rejected kp_Rejected,
      i_Rejected := i_Rejected,
      ti_Rejected := ti_Rejected,
      nf_Rejected := nf_Rejected,
      k1_UnknownName := X_UnknownName.cls1 (t := keT) PySem.F.excBase_LookupError ⟨by rfl, by rfl, by rfl⟩ (by simp [Exs.endsIn]) (fun _ => by rfl) (by rfl) (by decide) (by rfl) sa_UnknownName kp_UnknownName,
      i_UnknownName := i_UnknownName,
      ti_UnknownName := ti_UnknownName,
      nf_UnknownName := nf_UnknownName,
      k1_MissingRow := X_MissingRow.cls1 (t := leT) PySem.F.excBase_LookupError ⟨by rfl, by rfl, by rfl⟩ (by simp [Exs.endsIn]) (fun _ => by rfl) (by rfl) (by decide) (by rfl) sa_MissingRow kp_MissingRow,
      i_MissingRow := i_MissingRow,
      ti_MissingRow := ti_MissingRow,
      nf_MissingRow := nf_MissingRow,
      k1_NothingToUndo := X_NothingToUndo.cls1 (t := ieT) PySem.F.excBase_IndexError ⟨by rfl, by rfl, by rfl⟩ (by simp [Exs.endsIn]) (fun _ => by rfl) (by rfl) (by decide) (by rfl) sa_NothingToUndo kp_NothingToUndo,
      i_NothingToUndo := i_NothingToUndo,
      ti_NothingToUndo := ti_NothingToUndo,
      nf_NothingToUndo := nf_NothingToUndo,
      k1_TooMany := X_TooMany.cls1 (t := oeT) PySem.F.excBase_OverflowError ⟨by rfl, by rfl, by rfl⟩ (by simp [Exs.endsIn]) (fun _ => by rfl) (by rfl) (by decide) (by rfl) sa_TooMany kp_TooMany,
      i_TooMany := i_TooMany,
      ti_TooMany := ti_TooMany,
      nf_TooMany := nf_TooMany,
      k1_InvalidNumber := X_InvalidNumber.cls1 (t := reT) PySem.F.excBase_RuntimeError ⟨by rfl, by rfl, by rfl⟩ (by simp [Exs.endsIn]) (fun _ => by rfl) (by rfl) (by decide) (by rfl) sa_InvalidNumber kp_InvalidNumber,
      i_InvalidNumber := i_InvalidNumber,
      ti_InvalidNumber := ti_InvalidNumber,
      nf_InvalidNumber := nf_InvalidNumber,
      k1_NoNodes := X_NoNodes.cls1 (t := zeT) PySem.F.excBase_ZeroDivisionError ⟨by rfl, by rfl, by rfl⟩ (by simp [Exs.endsIn]) (fun _ => by rfl) (by rfl) (by decide) (by rfl) sa_NoNodes kp_NoNodes,
      i_NoNodes := i_NoNodes,
      ti_NoNodes := ti_NoNodes,
      nf_NoNodes := nf_NoNodes }
  exact ⟨(PySem.W.fnOf "law" "law" (defArgs s_law) (defBody s_law) (defScope s_law) .none kV_law dc_law pm_law an_law cd_law ct_law), fun s u => .of_eq rfl, fun base _ _ => ok_law T⟩
theorem end_sp : ∀ (K : PySem.W.Frag) (H : Hp) (a : Addr) (ns : List Int), ns.length ≤ 63 → SqL K H a (ns.map V.int) → spLaw K [.ref a] H (fun v _ => v = .bl true) fun _ _ _ => False :=
  fun K H a ns hl hS => ⟨a, ns, rfl, hS, hl, fun _ => rfl⟩
end K00

open PySem PySem.W PyProof.Rows
set_option maxRecDepth 100000 in
set_option maxHeartbeats 0 in
theorem PySem.Challenge.cw_dealtrows_k00_errors_and_what_they_keep_holds : PySem.Challenge.rw_dealtrows_k00_errors_and_what_they_keep.Holds := by
  w_on; o_law; k_head; (case hw => w_witness2)
  k_fill
  refine Rp.walk_ofG (n := 63) (k := 6) (x := "_law_script") (sp := K00.spLaw) (by decide +kernel) (by decide) rfl ⟨rfl, by decide, by decide⟩ (fun w h Y => PySem.W.kIn_of Y) ?F (fun K H a ns hl hS => K00.end_sp K H a ns hl hS)
  case F =>
    intro w mg fa h KX G hmg
    refine' K00.all_mk KX G hmg ?ac_InvalidSchema ?ac_InvalidDatabase ?ac_InvalidClause ?ac_InvalidQuery ?ac_InvalidRule ?ac_InvalidPlacement ?ac_InvalidCase ?ac_InvalidRow ?ac_InvalidAnswer ?ac_InvalidOperation ?ac_ParseError ?ac_BrokenConstraint ?ac_Rejected ?ac_UnknownName ?ac_MissingRow ?ac_NothingToUndo ?ac_TooMany ?ac_InvalidNumber ?ac_NoNodes ?ac_DealError ?x_InvalidSchema ?kp_InvalidSchema ?ga_InvalidSchema ?gg_InvalidSchema ?gc_InvalidSchema ?x_InvalidDatabase ?kp_InvalidDatabase ?ga_InvalidDatabase ?gg_InvalidDatabase ?gc_InvalidDatabase ?x_InvalidClause ?kp_InvalidClause ?ga_InvalidClause ?gg_InvalidClause ?gc_InvalidClause ?x_InvalidQuery ?kp_InvalidQuery ?ga_InvalidQuery ?gg_InvalidQuery ?gc_InvalidQuery ?x_InvalidRule ?kp_InvalidRule ?ga_InvalidRule ?gg_InvalidRule ?gc_InvalidRule ?x_InvalidPlacement ?kp_InvalidPlacement ?ga_InvalidPlacement ?gg_InvalidPlacement ?gc_InvalidPlacement ?x_InvalidCase ?kp_InvalidCase ?ga_InvalidCase ?gg_InvalidCase ?gc_InvalidCase ?x_InvalidRow ?kp_InvalidRow ?ga_InvalidRow ?gg_InvalidRow ?gc_InvalidRow ?x_InvalidAnswer ?kp_InvalidAnswer ?ga_InvalidAnswer ?gg_InvalidAnswer ?gc_InvalidAnswer ?x_InvalidOperation ?kp_InvalidOperation ?ga_InvalidOperation ?gg_InvalidOperation ?gc_InvalidOperation ?x_ParseError ?kp_ParseError ?ga_ParseError ?gg_ParseError ?gc_ParseError ?x_BrokenConstraint ?kp_BrokenConstraint ?ga_BrokenConstraint ?gg_BrokenConstraint ?gc_BrokenConstraint ?x_Rejected ?kp_Rejected ?ga_Rejected ?gg_Rejected ?gc_Rejected ?x_UnknownName ?kp_UnknownName ?ga_UnknownName ?gg_UnknownName ?gc_UnknownName ?x_MissingRow ?kp_MissingRow ?ga_MissingRow ?gg_MissingRow ?gc_MissingRow ?x_NothingToUndo ?kp_NothingToUndo ?ga_NothingToUndo ?gg_NothingToUndo ?gc_NothingToUndo ?x_TooMany ?kp_TooMany ?ga_TooMany ?gg_TooMany ?gc_TooMany ?x_InvalidNumber ?kp_InvalidNumber ?ga_InvalidNumber ?gg_InvalidNumber ?gc_InvalidNumber ?x_NoNodes ?kp_NoNodes ?ga_NoNodes ?gg_NoNodes ?gc_NoNodes ?x_DealError ?kp_DealError ?ga_DealError ?gg_DealError ?gc_DealError ?hn ?ht ?q_InvalidSchema ?q_InvalidDatabase ?q_InvalidClause ?q_InvalidQuery ?q_InvalidRule ?q_InvalidPlacement ?q_InvalidCase ?q_InvalidRow ?q_InvalidAnswer ?q_InvalidOperation ?q_DealError ?sa_ParseError ?nf_ParseError ?sa_BrokenConstraint ?nf_BrokenConstraint ?sa_Rejected ?nf_Rejected ?sa_UnknownName ?nf_UnknownName ?sa_MissingRow ?nf_MissingRow ?sa_NothingToUndo ?nf_NothingToUndo ?sa_TooMany ?nf_TooMany ?sa_InvalidNumber ?nf_InvalidNumber ?sa_NoNodes ?nf_NoNodes ?i_ParseError ?ti_ParseError ?l_ParseError___init__ ?cc_ParseError___init__ ?kk_ParseError___init__ ?i_BrokenConstraint ?ti_BrokenConstraint ?l_BrokenConstraint___init__ ?cc_BrokenConstraint___init__ ?kk_BrokenConstraint___init__ ?i_Rejected ?ti_Rejected ?l_Rejected___init__ ?cc_Rejected___init__ ?kk_Rejected___init__ ?i_UnknownName ?ti_UnknownName ?l_UnknownName___init__ ?cc_UnknownName___init__ ?kk_UnknownName___init__ ?i_MissingRow ?ti_MissingRow ?l_MissingRow___init__ ?cc_MissingRow___init__ ?kk_MissingRow___init__ ?i_NothingToUndo ?ti_NothingToUndo ?l_NothingToUndo___init__ ?cc_NothingToUndo___init__ ?kk_NothingToUndo___init__ ?i_TooMany ?ti_TooMany ?l_TooMany___init__ ?cc_TooMany___init__ ?kk_TooMany___init__ ?i_InvalidNumber ?ti_InvalidNumber ?l_InvalidNumber___init__ ?cc_InvalidNumber___init__ ?kk_InvalidNumber___init__ ?i_NoNodes ?ti_NoNodes ?l_NoNodes___init__ ?cc_NoNodes___init__ ?kk_NoNodes___init__ ?a_dice ?l_dice ?cc_dice ?kk_dice ?a_roll ?l_roll ?cc_roll ?kk_roll ?a_pick ?l_pick ?cc_pick ?kk_pick ?a_told ?l_told ?cc_told ?kk_told ?a_keeper ?l_keeper ?cc_keeper ?kk_keeper ?a_kept ?l_kept ?cc_kept ?kk_kept ?a_kinds ?l_kinds ?cc_kinds ?kk_kinds ?a_python ?l_python ?cc_python ?kk_python ?a_truths ?l_truths ?cc_truths ?kk_truths ?a_raise ?l_raise ?cc_raise ?kk_raise ?a_caught ?l_caught ?cc_caught ?kk_caught ?a_word ?l_word ?cc_word ?kk_word ?a_value ?l_value ?cc_value ?kk_value ?a_messages_right ?l_messages_right ?cc_messages_right ?kk_messages_right ?a_keepers_right ?l_keepers_right ?cc_keepers_right ?kk_keepers_right ?a_law ?l_law ?cc_law ?kk_law ?b_len ?b_int ?b_abs ?b_max ?b_min ?b_range ?b_isinstance ?b_repr ?b_ValueError ?b_KeyError ?b_IndexError ?b_LookupError ?b_ZeroDivisionError ?b_OverflowError ?b_ArithmeticError ?b_RuntimeError ?nd
    (case ac_InvalidSchema => k_is)
    (case ac_InvalidDatabase => k_is)
    (case ac_InvalidClause => k_is)
    (case ac_InvalidQuery => k_is)
    (case ac_InvalidRule => k_is)
    (case ac_InvalidPlacement => k_is)
    (case ac_InvalidCase => k_is)
    (case ac_InvalidRow => k_is)
    (case ac_InvalidAnswer => k_is)
    (case ac_InvalidOperation => k_is)
    (case ac_ParseError => k_is)
    (case ac_BrokenConstraint => k_is)
    (case ac_Rejected => k_is)
    (case ac_UnknownName => k_is)
    (case ac_MissingRow => k_is)
    (case ac_NothingToUndo => k_is)
    (case ac_TooMany => k_is)
    (case ac_InvalidNumber => k_is)
    (case ac_NoNodes => k_is)
    (case ac_DealError => k_is)
    (case x_InvalidSchema => k_is)
    (case kp_InvalidSchema => k_is)
    (case ga_InvalidSchema => k_is)
    (case gg_InvalidSchema => k_is)
    (case gc_InvalidSchema => k_is)
    (case x_InvalidDatabase => k_is)
    (case kp_InvalidDatabase => k_is)
    (case ga_InvalidDatabase => k_is)
    (case gg_InvalidDatabase => k_is)
    (case gc_InvalidDatabase => k_is)
    (case x_InvalidClause => k_is)
    (case kp_InvalidClause => k_is)
    (case ga_InvalidClause => k_is)
    (case gg_InvalidClause => k_is)
    (case gc_InvalidClause => k_is)
    (case x_InvalidQuery => k_is)
    (case kp_InvalidQuery => k_is)
    (case ga_InvalidQuery => k_is)
    (case gg_InvalidQuery => k_is)
    (case gc_InvalidQuery => k_is)
    (case x_InvalidRule => k_is)
    (case kp_InvalidRule => k_is)
    (case ga_InvalidRule => k_is)
    (case gg_InvalidRule => k_is)
    (case gc_InvalidRule => k_is)
    (case x_InvalidPlacement => k_is)
    (case kp_InvalidPlacement => k_is)
    (case ga_InvalidPlacement => k_is)
    (case gg_InvalidPlacement => k_is)
    (case gc_InvalidPlacement => k_is)
    (case x_InvalidCase => k_is)
    (case kp_InvalidCase => k_is)
    (case ga_InvalidCase => k_is)
    (case gg_InvalidCase => k_is)
    (case gc_InvalidCase => k_is)
    (case x_InvalidRow => k_is)
    (case kp_InvalidRow => k_is)
    (case ga_InvalidRow => k_is)
    (case gg_InvalidRow => k_is)
    (case gc_InvalidRow => k_is)
    (case x_InvalidAnswer => k_is)
    (case kp_InvalidAnswer => k_is)
    (case ga_InvalidAnswer => k_is)
    (case gg_InvalidAnswer => k_is)
    (case gc_InvalidAnswer => k_is)
    (case x_InvalidOperation => k_is)
    (case kp_InvalidOperation => k_is)
    (case ga_InvalidOperation => k_is)
    (case gg_InvalidOperation => k_is)
    (case gc_InvalidOperation => k_is)
    (case x_ParseError => k_is)
    (case kp_ParseError => k_is)
    (case ga_ParseError => k_is)
    (case gg_ParseError => k_is)
    (case gc_ParseError => k_is)
    (case x_BrokenConstraint => k_is)
    (case kp_BrokenConstraint => k_is)
    (case ga_BrokenConstraint => k_is)
    (case gg_BrokenConstraint => k_is)
    (case gc_BrokenConstraint => k_is)
    (case x_Rejected => k_is)
    (case kp_Rejected => k_is)
    (case ga_Rejected => k_is)
    (case gg_Rejected => k_is)
    (case gc_Rejected => k_is)
    (case x_UnknownName => k_is)
    (case kp_UnknownName => k_is)
    (case ga_UnknownName => k_is)
    (case gg_UnknownName => k_is)
    (case gc_UnknownName => k_is)
    (case x_MissingRow => k_is)
    (case kp_MissingRow => k_is)
    (case ga_MissingRow => k_is)
    (case gg_MissingRow => k_is)
    (case gc_MissingRow => k_is)
    (case x_NothingToUndo => k_is)
    (case kp_NothingToUndo => k_is)
    (case ga_NothingToUndo => k_is)
    (case gg_NothingToUndo => k_is)
    (case gc_NothingToUndo => k_is)
    (case x_TooMany => k_is)
    (case kp_TooMany => k_is)
    (case ga_TooMany => k_is)
    (case gg_TooMany => k_is)
    (case gc_TooMany => k_is)
    (case x_InvalidNumber => k_is)
    (case kp_InvalidNumber => k_is)
    (case ga_InvalidNumber => k_is)
    (case gg_InvalidNumber => k_is)
    (case gc_InvalidNumber => k_is)
    (case x_NoNodes => k_is)
    (case kp_NoNodes => k_is)
    (case ga_NoNodes => k_is)
    (case gg_NoNodes => k_is)
    (case gc_NoNodes => k_is)
    (case x_DealError => k_is)
    (case kp_DealError => k_is)
    (case ga_DealError => k_is)
    (case gg_DealError => k_is)
    (case gc_DealError => k_is)
    (case hn => k_is)
    (case ht => k_is)
    (case q_InvalidSchema => k_exc)
    (case q_InvalidDatabase => k_exc)
    (case q_InvalidClause => k_exc)
    (case q_InvalidQuery => k_exc)
    (case q_InvalidRule => k_exc)
    (case q_InvalidPlacement => k_exc)
    (case q_InvalidCase => k_exc)
    (case q_InvalidRow => k_exc)
    (case q_InvalidAnswer => k_exc)
    (case q_InvalidOperation => k_exc)
    (case q_DealError => k_exc)
    (case sa_ParseError => k_is)
    (case nf_ParseError => k_is)
    (case sa_BrokenConstraint => k_is)
    (case nf_BrokenConstraint => k_is)
    (case sa_Rejected => k_is)
    (case nf_Rejected => k_is)
    (case sa_UnknownName => k_is)
    (case nf_UnknownName => k_is)
    (case sa_MissingRow => k_is)
    (case nf_MissingRow => k_is)
    (case sa_NothingToUndo => k_is)
    (case nf_NothingToUndo => k_is)
    (case sa_TooMany => k_is)
    (case nf_TooMany => k_is)
    (case sa_InvalidNumber => k_is)
    (case nf_InvalidNumber => k_is)
    (case sa_NoNodes => k_is)
    (case nf_NoNodes => k_is)
    (case i_ParseError => k_is)
    (case ti_ParseError => k_is)
    (case l_ParseError___init__ => k_is)
    (case cc_ParseError___init__ => k_is)
    (case kk_ParseError___init__ => k_is)
    (case i_BrokenConstraint => k_is)
    (case ti_BrokenConstraint => k_is)
    (case l_BrokenConstraint___init__ => k_is)
    (case cc_BrokenConstraint___init__ => k_is)
    (case kk_BrokenConstraint___init__ => k_is)
    (case i_Rejected => k_is)
    (case ti_Rejected => k_is)
    (case l_Rejected___init__ => k_is)
    (case cc_Rejected___init__ => k_is)
    (case kk_Rejected___init__ => k_is)
    (case i_UnknownName => k_is)
    (case ti_UnknownName => k_is)
    (case l_UnknownName___init__ => k_is)
    (case cc_UnknownName___init__ => k_is)
    (case kk_UnknownName___init__ => k_is)
    (case i_MissingRow => k_is)
    (case ti_MissingRow => k_is)
    (case l_MissingRow___init__ => k_is)
    (case cc_MissingRow___init__ => k_is)
    (case kk_MissingRow___init__ => k_is)
    (case i_NothingToUndo => k_is)
    (case ti_NothingToUndo => k_is)
    (case l_NothingToUndo___init__ => k_is)
    (case cc_NothingToUndo___init__ => k_is)
    (case kk_NothingToUndo___init__ => k_is)
    (case i_TooMany => k_is)
    (case ti_TooMany => k_is)
    (case l_TooMany___init__ => k_is)
    (case cc_TooMany___init__ => k_is)
    (case kk_TooMany___init__ => k_is)
    (case i_InvalidNumber => k_is)
    (case ti_InvalidNumber => k_is)
    (case l_InvalidNumber___init__ => k_is)
    (case cc_InvalidNumber___init__ => k_is)
    (case kk_InvalidNumber___init__ => k_is)
    (case i_NoNodes => k_is)
    (case ti_NoNodes => k_is)
    (case l_NoNodes___init__ => k_is)
    (case cc_NoNodes___init__ => k_is)
    (case kk_NoNodes___init__ => k_is)
    (case a_dice => k_is)
    (case l_dice => k_is)
    (case cc_dice => k_is)
    (case kk_dice => k_is)
    (case a_roll => k_is)
    (case l_roll => k_is)
    (case cc_roll => k_is)
    (case kk_roll => k_is)
    (case a_pick => k_is)
    (case l_pick => k_is)
    (case cc_pick => k_is)
    (case kk_pick => k_is)
    (case a_told => k_is)
    (case l_told => k_is)
    (case cc_told => k_is)
    (case kk_told => k_is)
    (case a_keeper => k_is)
    (case l_keeper => k_is)
    (case cc_keeper => k_is)
    (case kk_keeper => k_is)
    (case a_kept => k_is)
    (case l_kept => k_is)
    (case cc_kept => k_is)
    (case kk_kept => k_is)
    (case a_kinds => k_is)
    (case l_kinds => k_is)
    (case cc_kinds => k_is)
    (case kk_kinds => k_is)
    (case a_python => k_is)
    (case l_python => k_is)
    (case cc_python => k_is)
    (case kk_python => k_is)
    (case a_truths => k_is)
    (case l_truths => k_is)
    (case cc_truths => k_is)
    (case kk_truths => k_is)
    (case a_raise => k_is)
    (case l_raise => k_is)
    (case cc_raise => k_is)
    (case kk_raise => k_is)
    (case a_caught => k_is)
    (case l_caught => k_is)
    (case cc_caught => k_is)
    (case kk_caught => k_is)
    (case a_word => k_is)
    (case l_word => k_is)
    (case cc_word => k_is)
    (case kk_word => k_is)
    (case a_value => k_is)
    (case l_value => k_is)
    (case cc_value => k_is)
    (case kk_value => k_is)
    (case a_messages_right => k_is)
    (case l_messages_right => k_is)
    (case cc_messages_right => k_is)
    (case kk_messages_right => k_is)
    (case a_keepers_right => k_is)
    (case l_keepers_right => k_is)
    (case cc_keepers_right => k_is)
    (case kk_keepers_right => k_is)
    (case a_law => k_is)
    (case l_law => k_is)
    (case cc_law => k_is)
    (case kk_law => k_is)
    (case b_len => k_is)
    (case b_int => k_is)
    (case b_abs => k_is)
    (case b_max => k_is)
    (case b_min => k_is)
    (case b_range => k_is)
    (case b_isinstance => k_is)
    (case b_repr => k_is)
    (case b_ValueError => k_is)
    (case b_KeyError => k_is)
    (case b_IndexError => k_is)
    (case b_LookupError => k_is)
    (case b_ZeroDivisionError => k_is)
    (case b_OverflowError => k_is)
    (case b_ArithmeticError => k_is)
    (case b_RuntimeError => k_is)
    (case nd => decide)
