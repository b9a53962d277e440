import PyProof.Rows.All
import Wide.All
import OpenK.AllK
import Wide.FinOn
import HandS.ForMost
import KE.KExcInit
import KE.KTryMore
import HandS.Exc
import HandS.ExcOwn
import HandS.ExcInit
import HandS.ExcIs
import HandS.ExcValue
import HandS.TryMany
import HandS.IsInst
import PyProof.ReprRoads
import PyProof.ReprLen
import PyProof.CallFns
import KE.KEqDict
import KE.KDictKeyed
import HandS.DictComp
import HandS.Walk
import HandS.Conv
import HandS.StrMore
import HandS.Zip
import KE.KeyNested
import KE.KDictPairs
import HandS.Codes
import HandS.TupAny
import KE.KDictDisplayH
import HandS.TupMul
import HandS.Wide
import KE.GoesEnum
import PyProof.EqAt
import PyProof.NeKinds
import HandS.WordsExc
import HandS.More
import HandS.Defaults
import HandS.FStr
import HandS.TupLen
import HandS.Style
import HandS.Star
import PySem.Challenge.RW_dealtrows_k42_bases_of_rows
set_option Elab.async false
set_option linter.all false
set_option maxRecDepth 100000
/-! Dice of the scripts: what a draw leaves. -/
namespace Dt
open PySem PySem.Spec PyProof.Rows L2
def Die (H : Hp) (a : Addr) : Prop := ∃ x y z : Int, H a = some (.lst [.int x, .int y, .int z])
structure Rolled (a : Addr) (H H' : Hp) : Prop where
  die : Die H' a
  keep : ∀ b o, b ≠ a → H b = some o → H' b = some o
section
variable {K : PySem.W.Frag} {H H1 H2 : Hp} {a p : Addr} {o : HO} {xs : List V}
theorem Rolled.refl (h : Die H a) : Rolled a H H := ⟨h, fun _ _ _ e => e⟩
theorem Rolled.trans (r : Rolled a H H1) (q : Rolled a H1 H2) : Rolled a H H2 := ⟨q.die, fun b o hb e => q.keep b o hb (r.keep b o hb e)⟩
theorem Die.ne (h : Die H a) (hp : H p = none) : p ≠ a := fun z => by
  obtain ⟨x, y, w, e⟩ := h
  rw [z, e] at hp
  cases hp
theorem Die.new (h : Die H a) (hp : H p = none) : Die (upd H p o) a := by
  have n := h.ne hp
  obtain ⟨x, y, w, e⟩ := h
  exact ⟨x, y, w, by rw [upd_ne (Ne.symm n)]; exact e⟩
theorem Die.off (h : Die H a) (hp : p ≠ a) : Die (upd H p o) a := by
  obtain ⟨x, y, w, e⟩ := h
  exact ⟨x, y, w, by rw [upd_ne (Ne.symm hp)]; exact e⟩
/-- a new object is laid -/
theorem Rolled.new (r : Rolled a H H1) (hp : H1 p = none) : Rolled a H (upd H1 p o) := ⟨r.die.new hp, fun b u hb e => by
  have q := r.keep b u hb e
  rw [upd_ne (ne_of_none q hp)]
  exact q⟩
/-- an object that was not there at first is changed -/
theorem Rolled.mut (r : Rolled a H H1) (hp : H p = none) (hn : p ≠ a) : Rolled a H (upd H1 p o) := ⟨r.die.off hn, fun b u hb e => by
  rw [upd_ne (ne_of_none e hp)]
  exact r.keep b u hb e⟩
theorem Rolled.free (r : Rolled a H H1) (hp : H1 p = none) : H p = none := by
  cases q : H p with
  | none => rfl
  | some u =>
    have n := r.die.ne hp
    rw [r.keep p u n q] at hp
    cases hp
theorem Rolled.rd {u : HO} (r : Rolled a H H1) (n : p ≠ a) (h : Rd H p u) : Rd H1 p u := by
  rcases h with h | ⟨o, h⟩
  · exact .inl (r.keep _ _ n h)
  · exact .inr ⟨o, r.keep _ _ n h⟩
theorem Rolled.sqL (r : Rolled a H H1) (n : p ≠ a) (h : SqL K H p xs) : SqL K H1 p xs := by
  rcases h with h | h
  · exact .inl (r.rd n h)
  · exact .inr h
theorem Rolled.sqT (r : Rolled a H H1) (n : p ≠ a) (h : SqT K H p xs) : SqT K H1 p xs := by
  rcases h with h | h
  · exact .inl (r.rd n h)
  · exact .inr h
end
theorem atI_ok {α : Type} {xs : List α} {r : Int} (h0 : 0 ≤ r) (h : r < xs.length) : ∃ v, atI xs r = some v ∧ v ∈ xs := by
  obtain ⟨j, rfl⟩ := Int.eq_ofNat_of_zero_le h0
  have hj : j < xs.length := by omega
  exact ⟨xs[j], atI_nat (by simp [hj]), List.getElem_mem hj⟩
theorem sameNew {H : Hp} {p : Addr} {o : HO} (n : H p = none) : Same H (upd H p o) := fun b u e => by
  rw [upd_ne (ne_of_none e n)]
  exact e
/-- a new object, its heap by a name -/
theorem newL {H : Hp} {o : HO} {Q : VK} (h : ∀ p H1, H p = none → H1 p = some o → Same H H1 → Q (.ref p) H1) : ∀ p, H p = none → Q (.ref p) (upd H p o) := fun p n => h p _ n upd_same (sameNew n)
theorem sameT {K : PySem.W.Frag} {H H1 : Hp} {a : Addr} {xs : List V} (S : Same H H1) (h : SqT K H a xs) : SqT K H1 a xs := by
  rcases h with (h | ⟨o, h⟩) | h
  · exact .inl (.inl (S _ _ h))
  · exact .inl (.inr ⟨o, S _ _ h⟩)
  · exact .inr h
/-- both ways of a test -/
theorem iteB {c : Bool} {A B : Prop} (h1 : c = true → A) (h2 : c = false → B) : if c = true then A else B := by
  cases c with
  | true => exact iteT (h1 rfl)
  | false => exact iteF (h2 rfl)
theorem iteD {p : Prop} [Decidable p] {A B : Prop} (h1 : p → A) (h2 : ¬ p → B) : if decide p = true then A else B := iteB (fun c => h1 (of_decide_eq_true c)) fun c => h2 (of_decide_eq_false c)
/-- powers of any base -/
def CPowG (i j : Int) : Prop := 0 ≤ j ∧ (Builtin.Int.intBits i : Int) * j ≤ 2 ^ 27
theorem op_powG {X : Cx} : OpR X (binaryOp .Pow) (rI CPowG fun i j => .int (i ^ j.toNat)) := opI fun _ _ _ _ _ _ _ hc q => pow_int hc.1 hc.2 q
/-! what a roll, a pick promise -/
def spRoll : Sp := fun vs H Q _ => ∃ (a : Addr) (n : Int), vs = [.ref a, .int n] ∧ Die H a ∧ 0 < n ∧ n < 1073741824 ∧ ∀ (r : Int) H', 0 ≤ r → r < n → Rolled a H H' → Q (.int r) H'
/-- what can be picked from: a text, a list, a tuple, with its items -/
def Pool (K : PySem.W.Frag) (H : Hp) (a : Addr) : V → List V → Prop
  | .str z, xs => xs = z.cps.toList.map fun c => V.str ⟨#[c]⟩
  | .ref p, xs => p ≠ a ∧ (SqL K H p xs ∨ SqT K H p xs)
  | _, _ => False
def spPick (K : PySem.W.Frag) : Sp := fun vs H Q _ => ∃ (a : Addr) (y : V) (xs : List V), vs = [.ref a, y] ∧ Die H a ∧ Pool K H a y xs ∧ 0 < xs.length ∧ xs.length < 1000000 ∧
  ∀ v H', v ∈ xs → Rolled a H H' → Q v H'
def spDice (K : PySem.W.Frag) : Sp := fun vs H Q _ => ∃ (s : Addr) (ns : List Int) (i : Nat), vs = [.ref s, .int i] ∧ SqL K H s (ns.map V.int) ∧ ns.length ≤ 63 ∧ i ≤ 1000 ∧ ∀ p H', H p = none → Die H' p → (∀ b o, H b = some o → H' b = some o) → Q (.ref p) H'
end Dt

set_option Elab.async false
set_option linter.all false
set_option maxRecDepth 100000
set_option maxHeartbeats 4000000
/-! Exception classes of the program's own, over any built-in base: made, kept as values, asked, raised. -/
namespace Exs
open PySem PySem.Spec PyProof.Rows L2
open Builtin Builtin.ObjectAttr

/-- own classes first, then the built-in ones -/
def endsIn (t : List Value) : List Value → Bool
  | .ref _ :: r => endsIn t r
  | l => l == t
theorem endsIn_two (t : List Value) (l : List Value) (e : endsIn t l = true) : l = t ∨ ∃ c r, l = .ref c :: r ∧ endsIn t r = true := by
  cases l with
  | nil => exact .inl (beq_iff_eq.mp e)
  | cons a r =>
    cases a with
    | ref c => exact .inr ⟨c, r, rfl, e⟩
    | _ => exact .inl (beq_iff_eq.mp e)
theorem endsIn_has {t : List Value} (Y : String) : ∀ l : List Value, endsIn t l = true → l.contains (.type Y) = t.contains (.type Y) := by
  intro l
  induction l with
  | nil =>
    intro e
    rw [← beq_iff_eq.mp (show ([] == t) = true from e)]
  | cons a r ih =>
    intro e
    rcases endsIn_two t _ e with z | ⟨c, r', z, h⟩
    · rw [z]
    · cases z
      rw [List.contains_cons, ih h]
      rfl
/-- a built-in tail lets a store pass -/
def Lets (t : List Value) : Prop := ∀ self : Value, refuseLoop self "__setattr__" t = pure ()
theorem endsIn_lets {t : List Value} (p : Lets t) (self : Value) : ∀ l : List Value, endsIn t l = true → refuseLoop self "__setattr__" l = pure () := by
  intro l
  induction l with
  | nil =>
    intro e
    rw [beq_iff_eq.mp (show ([] == t) = true from e)]
    exact p self
  | cons a r ih =>
    intro e
    rcases endsIn_two t _ e with z | ⟨c, r', z, h⟩
    · rw [z]
      exact p self
    · cases z
      rw [refuseLoop_ref]
      exact ih h
section
variable {prog : Program} {w : World} {A : Around} {R : Result → Shared → Prop} {s : Shared} {K : W.Frag} {C x : Addr} {cd : ClassData} {t : List Value} {f : Str} {k : Tok} {v : Value} {fv : Array Value}
/-- the first store into an exception: its dict is made -/
theorem first_store (X : K.In s.heap) (ho : s.heap.get? x = some { cls := .ref C, data := .fields fv }) (hc : W.clsIn K C = some cd) (hm : endsIn t cd.mro = true) (hp : Lets t) (hb : t.contains (.type "object") = true) (ht : t ≠ [])
    (hd : cd.hasDict = true) (hn : W.findIn K (.ref C) f = some none)
    (q : ∀ s' dx, (∀ b o, b ≠ x → s.heap.get? b = some o → s'.heap.get? b = some o) → s.heap.objs.size ≤ dx → dx ≠ x → s'.heap.get? x = some { cls := .ref C, dict := some dx, data := .fields fv } →
      s'.heap.Ns1 dx (fun y => if y = f then some v else none) → s' = { s with heap := s'.heap, toks := s'.toks } → R (.ok (.ret .none)) s') :
    codeAny (model prog w) A (.call (.builtin "object.__setattr__") ⟨[.ref x, .str f k, v], []⟩) R s := by
  obtain ⟨hp0, ge, dr, tk, os⟩ := s
  have me : cd.mro.isEmpty = false := by
    cases e : cd.mro with
    | nil =>
      rw [e] at hm
      exact absurd (beq_iff_eq.mp (show (([] : List Value) == t) = true from hm)).symm ht
    | cons _ _ => rfl
  have mo : cd.mro.contains (.type "object") = true := by rw [endsIn_has _ _ hm]; exact hb
  have J : W.InstAt hp0 x { cls := .ref C, data := .fields fv } C none := ⟨ho, rfl, rfl, trivial⟩
  have nx : hp0.objs.size ≠ x := Nat.ne_of_gt (Heap.lt_size ho)
  have isO : W.Looks (model prog w) hp0 (isInstance (.ref x) (.type "object")) true := by
    refine J.type.andThen (W.looks_mroIn X ?_)
    unfold W.mroIn
    rw [hc, Option.bind_some, if_neg (by rw [me]; decide), mo]
  have mr : W.Looks (model prog w) hp0 (mroOf (.ref C)) cd.mro := (W.looks_clsIn X hc).andThen .now
  have ta : W.Looks (model prog w) hp0 (storeTaker? none) none := .now
  have cl : W.Looks (model prog w) hp0 (classData C) cd := W.looks_clsIn X hc
  refine codeAny_call_builtin PySem.F.store_object.slot.plain PySem.F.store_object.entry ?_
  refine @W.check_slot (model prog w) _ _ ⟨hp0, ge, dr, tk, os⟩ "object.__setattr__" "object" "__setattr__" (.ref x) [.str f k, v] [] _
    PySem.F.store_object.kind PySem.F.store_object.split isO (PySem.F.store_object.args (.ref x) (.str f k) v) ?_
  rw [W.osa_eq, refuse_eq]
  refine wpAny_bind (wpAny_bind (J.type.at ?_))
  refine wpAny_bind (mr.at ?_)
  rw [endsIn_lets hp _ _ hm]
  refine wpAny_pure (wpAny_bind (J.type.at ?_))
  refine wpAny_bind ((W.looks_findIn X hn).at ?_)
  refine wpAny_bind (ta.at ?_)
  show wpAny _ _ (storeInOwnDict (.ref x) (.ref C) (.str f k) f v false) _ _ _
  obtain ⟨c1, c2, c3, c4, c5, c6, c7, c8, c9, c10, c11⟩ := cd
  dsimp only at hd
  subst hd
  unfold storeInOwnDict ownDictForStores
  repeat (first
    | with_reducible refine HandSPX.store_in_new ?_ ?_
    | with_reducible refine wpAny_loadPart_at ho ?_
    | with_reducible refine cl.at ?_
    | wp_step)
  · refine ⟨_, #[], _, (Heap.get?_update_ne _ _ _ _ nx).trans (Heap.get?_push_at rfl rfl), rfl, fun e he => ?_, fun _ => rfl⟩
    exact absurd he (by simp)
  · intro h' tk' hn' hs
    have ho1 : (hp0.push { cls := .type "dict", data := .dict #[] }).get? x = some { cls := .ref C, data := .fields fv } := Heap.get?_push_of_some _ ho
    refine q ⟨h', ge, dr, tk', os⟩ hp0.objs.size (fun b o hbx hbo => ?_) (Nat.le_refl _) nx ?_ hn' rfl
    · refine (hs.2 b (Nat.ne_of_lt (Heap.lt_size hbo))).trans ?_
      exact (Heap.get?_update_ne _ _ _ _ hbx).trans (Heap.get?_push_of_some _ hbo)
    · exact (hs.2 x (Ne.symm nx)).trans (Heap.get?_update_self _ ho1 rfl)
end

/-! ### the call of an exception class with an __init__ of its own: what its chain must hold -/
section
variable {h : Heap} {g : Array GenState} {d : Drawn} {t : Nat} {os : OsState} {nm q : Str} {C N : Addr} {bs bm bmB : List Value} {hdct : Bool} {sn : List Str} {sub : List Value} {ab : Bool} {col : Option Bool} {dd : Option Addr} {k0 k1 k2 k3 k5 : Option Value}
  {B newId initId : String} {rest : List Value}
theorem chk_new {M : Model} {A : Around} {E : Value → Shared → Prop} {Q : Unit → Shared → Prop} (F : ExcBaseFacts B newId initId bmB) (hB : bm.contains (.type B) = true)
    (hC : h.get? C = some (excClassObj nm q C N bs bm hdct sn sub ab col dd k0 k1 k2 k3 k5 newId)) (z : Q () ⟨h, g, d, t, os⟩) : wpAny M A (checkBuiltinCall newId ⟨.ref C :: rest, []⟩) Q E ⟨h, g, d, t, os⟩ := by
  have has : (Value.ref C :: bm).contains (.type B) = true := by rw [List.contains_cons, hB, Bool.or_true]
  have ns := F.noStar
  simp only [checkBuiltinCall, F.newKind, F.newSplit, F.newRow]
  repeat (first
    | refine wpAny_loadPart_at hC ?_
    | (refine wpAny_isSubtype_exc hC ?_; rw [has])
    | refine wpAny_staticBase_exc hC ?_
    | refine wpAny_madeBy_exc hC ?_
    | simp only [bne_self_eq_false, Bool.false_eq_true, if_false]
    | wp_step)
  exact z
theorem new_run {prog : Program} {w : World} {A : Around} {R : Result → Shared → Prop} (F : ExcBaseFacts B newId initId bmB) (hB : bm.contains (.type B) = true) (hA : bm.contains (.type "AttributeError") = false) (hN : bm.contains (.type "NameError") = false)
    (hC : h.get? C = some (excClassObj nm q C N bs bm hdct sn sub ab col dd k0 k1 k2 k3 k5 newId)) (hz : rest.length ≤ sizeLine)
    (z : R (.ok (.ret (.ref (h.objs.size + 1)))) ⟨(h.push { cls := .type "tuple", data := .seq rest.toArray }).push { cls := .ref C, data := .fields #[.ref h.objs.size, .none, .none, .none, .bool false, .none] }, g, d, t, os⟩) :
    codeAny (model prog w) A (.builtin newId ⟨.ref C :: rest, []⟩) R ⟨h, g, d, t, os⟩ := by
  have e1 := F.ends
  have c1 : (Value.ref C :: bm).contains (.type B) = true := by rw [List.contains_cons, hB, Bool.or_true]
  have c2 : (Value.ref C :: bm).contains (.type "AttributeError") = false := by rw [List.contains_cons, hA]; rfl
  have c3 : (Value.ref C :: bm).contains (.type "NameError") = false := by rw [List.contains_cons, hN]; rfl
  refine codeAny_builtinAt F.entry ?_
  unfold Builtin.«BaseException.__new__»
  refine PySem.wpAt_bind ?_
  show PySem.wpAt _ _ _ (stack >>= _) _ _ _
  refine PySem.wpAt_bind (PySem.wpAt_stack fun p below => PySem.wpAt_of_wpAny ?_)
  wp_walk
  refine PySem.wpAt_of_wpAny ?_
  rw [F.owner]
  repeat (first
    | with_reducible refine wpAny_madeHere_exc F.canon hC ?_
    | with_reducible refine wpAny_loadPart_at hC ?_
    | (with_reducible refine wpAny_isSubtype_exc hC ?_; first | rw [c1] | rw [c2] | rw [c3])
    | wp_step)
  show R _ _
  rw [Heap.size_push]
  exact z
theorem type_run {prog : Program} {w : World} {A : Around} {E : Value → Shared → Prop} {fI : Addr} {Q : Fin → Shared → Prop} (F : ExcBaseFacts B newId initId bmB) (hB : bm.contains (.type B) = true) (hA : bm.contains (.type "AttributeError") = false) (hN : bm.contains (.type "NameError") = false)
    (hC : h.get? C = some (excClassObj nm q C N bs bm hdct sn sub ab col dd k0 k1 k2 k3 k5 newId)) (hi : W.Looks (model prog w) h (typeLookup (.ref C) "__init__") (some (.ref fI))) (hb : ∀ self, W.Looks (model prog w) h (bindSpecial (.ref fI) self) (.ref fI, [self]))
    (hz : rest.length ≤ sizeLine)
    (z : codeAny (model prog w) A (.call (.ref fI) ⟨.ref (h.objs.size + 1) :: rest, []⟩)
      (fun r s' => match r with | .ok (.ret v) => v = .none ∧ Q (.done (.ret (.ref (h.objs.size + 1)))) s' | .ok _ => False | .error e => E e s') ⟨(h.push (W.kdv_tup rest)).push (HandSPX.excO C h.objs.size), g, d, t, os⟩) :
    wpAny (model prog w) A (Builtin.«type.__call__» ⟨.ref C :: rest, []⟩) Q E ⟨h, g, d, t, os⟩ := by
  repeat (first
    | with_reducible refine wpAny_loadPart_at hC ?_
    | with_reducible refine wpAny_madeBy_exc hC ?_
    | wp_step)
  refine codeAny_call_builtin_code (Code.quiet_builtin _ F.quiet) (chk_new F hB hC ?_)
  refine new_run F hB hA hN hC hz ?_
  show wpAny _ _ _ _ _ _
  have kp : ∀ b o, h.get? b = some o → ((h.push (W.kdv_tup rest)).push (HandSPX.excO C h.objs.size)).get? b = some o := fun b o e => Heap.get?_push_of_some _ (Heap.get?_push_of_some _ e)
  have hC1 := kp _ _ hC
  have he : ((h.push (W.kdv_tup rest)).push (HandSPX.excO C h.objs.size)).get? (h.objs.size + 1) = some (HandSPX.excO C h.objs.size) := by heap_get
  have cc : (Value.ref C :: bm).contains (.ref C) = true := by simp
  have i1 := hi.keeps kp
  have b1 := (hb (.ref (h.objs.size + 1))).keeps kp
  unfold isInstance
  repeat (first
    | with_reducible refine wpAny_loadPart_at he ?_
    | (with_reducible refine wpAny_isSubtype_exc hC1 ?_; rw [cc])
    | wp_step)
  show wpAny _ _ (typeLookup (.ref C) _) _ _ _
  refine i1.at (wpAny_holding (wpAny_bind (b1.at ?_)))
  refine wpAny_bind (wpAny_call (codeAny_mono z fun r s' y => ?_))
  rcases r with e | (v | _ | _ | _) <;> first | exact y | exact y.elim | skip
  obtain ⟨rfl, y⟩ := y
  first
    | exact wpAny_pure (wpAny_pure y)
    | (wp_walk; exact y)
theorem call_run {prog : Program} {w : World} {A : Around} {R : Result → Shared → Prop} {fI : Addr} (F : ExcBaseFacts B newId initId bmB) (hB : bm.contains (.type B) = true) (hA : bm.contains (.type "AttributeError") = false) (hN : bm.contains (.type "NameError") = false)
    (hC : h.get? C = some (excClassObj nm q C N bs bm hdct sn sub ab col dd k0 k1 k2 k3 k5 newId)) (hi : W.Looks (model prog w) h (typeLookup (.ref C) "__init__") (some (.ref fI))) (hb : ∀ self, W.Looks (model prog w) h (bindSpecial (.ref fI) self) (.ref fI, [self]))
    (hz : rest.length ≤ sizeLine)
    (z : codeAny (model prog w) (A.under (.builtin "type.__call__" ⟨.ref C :: rest, []⟩)) (.call (.ref fI) ⟨.ref (h.objs.size + 1) :: rest, []⟩) (W.InitBack (h.objs.size + 1) R) ⟨(h.push (W.kdv_tup rest)).push (HandSPX.excO C h.objs.size), g, d, t, os⟩) :
    codeAny (model prog w) A (.call (.ref C) ⟨rest, []⟩) R ⟨h, g, d, t, os⟩ := by
  have l1 := tc_lookup
  have l2 := tc_bind (.ref C)
  have l3 : (⟨h, g, d, t, os⟩ : Shared).TypeIs (.ref C) "type" := ⟨_, hC, rfl⟩
  refine codeAny_of_tree ?_
  show wpAny _ _ (callAny (.ref C) _) _ _ _
  repeat (any_goals (first
    | assumption
    | with_reducible refine wpAny_loadPart_at hC ?_
    | wp_step))
  refine ⟨rfl, codeAny_call_builtin_at (Code.quiet_builtin _ (by decide +kernel)) entry_typeCall (wpAny_check_type_call_sub hC (type_run F hB hA hN hC hi hb hz ?_))⟩
  exact codeAny_mono z fun r s' y => by
    rcases r with e | (v | _ | _ | _) <;> exact y
end

/-- what the written part says of an exception class with an __init__ of its own -/
structure Cls1 (K : W.Frag) (C : Addr) : Prop where
  cls : ∃ nm q N bs bm sn sub ab col dd k0 k1 k2 k3 k5 B newId initId t0 t, K.lookup C = some (excClassObj nm q C N bs bm true sn sub ab col dd k0 k1 k2 k3 k5 newId) ∧
    ExcBaseFacts B newId initId t0 ∧ (bm.contains (.type B) = true ∧ bm.contains (.type "AttributeError") = false ∧ bm.contains (.type "NameError") = false) ∧ endsIn t bm = true ∧ Lets t ∧ t.contains (.type "object") = true ∧ t ≠ []
  sa : W.findIn K (.ref C) "__setattr__" = some (some (.builtin "object.__setattr__"))
  exC : W.subIn K (.ref C) (.type "BaseException") = some true
  tyC : W.typeIn K (.ref C) = some (.type "type")
  kC : W.keepIn K (.ref C) = true
section
variable {X : Cx} {pins : List (Addr × Obj)} {σ : L2.St} {H : Hp} {s : Shared} {a C : Addr} {f : Str} {y : V} {u : Value} {A : Around} {E : Value → Shared → Prop}
theorem put1 {Q : Unit → Shared → Prop} (T : Cls1 X.K C) (I : Inv X pins σ H s) (e : H a = some (exo a C none)) (hn : W.findIn X.K (.ref C) f = some none) (ry : RelV y u)
    (q : ∀ dx s', H dx = none → dx ≠ a → Inv X pins σ (upd (upd H dx (exd dx [(f, y)])) a (exo a C (some dx))) s' → Q () s') : wpAny (model X.prog X.w) A (setAttr (.ref a) f u) Q E s := by
  obtain ⟨nm, qn, N, bs, bm, sn, sub, ab, col, dd, k0, k1, k2, k3, k5, B, newId, initId, t0, t, hC, _, _, hbm, hl, hob, hne⟩ := T.cls
  have hcl : W.clsIn X.K C = some { name := nm, bases := bs, mro := .ref C :: bm, ns := N, qualname := qn, hasDict := true, slotNames := sn, subclasses := sub, abstract := ab, collection := col, hasDel := false } := by
    unfold W.clsIn
    rw [hC] <;> rfl
  obtain ⟨t1, ho⟩ := exo_at I.hok e
  refine W.set_plain I.kIn (ox := { cls := .ref C, dict := none, data := .fields #[.ref t1, .none, .none, .none, .bool false, .none] }) (od := none) ⟨ho, rfl, rfl, trivial⟩ T.sa ?_
  refine first_store I.kIn ho hcl (show endsIn t (.ref C :: bm) = true from hbm) hl hob hne rfl hn (fun s' dx kp dn dne hx hns es => ?_)
  obtain ⟨h', g', dr', tk', os'⟩ := s'
  cases es
  have hd : H dx = none := I.hok.fresh dn
  have nd : ∀ {b : Addr} {o : Obj}, s.heap.get? b = some o → b ≠ dx := fun {b o} z => Nat.ne_of_lt (Nat.lt_of_lt_of_le (Heap.lt_size z) dn)
  have na : ∀ {b : Addr}, H b = none → b ≠ a := fun {b} n z => by rw [z, e] at n; cases n
  have ba : ∀ {b : Addr} {o : HO}, H b = some o → (exo a C none) ≠ o → b ≠ a := fun {b o} z d w => by
    rw [w, e] at z
    exact d (Option.some.inj z)
  have bd : ∀ {b : Addr} {o : HO}, H b = some o → b ≠ dx := fun {b o} z => ne_of_none z hd
  have two : ∀ {b : Addr}, b ≠ a → b ≠ dx → upd (upd H dx (exd dx [(f, y)])) a (exo a C (some dx)) b = H b := fun {b} n1 n2 => by rw [upd_ne n1, upd_ne n2]
  have U : Un X.fs [] H (upd (upd H dx (exd dx [(f, y)])) a (exo a C (some dx))) s.heap h' := by
    refine ⟨fun b o z n _ _ => kp b o (na n) z, fun b o z n _ _ => ⟨o.slots, kp b o (na n) z⟩, fun b o z n _ => ?_, fun b o z _ => ?_, fun b xs z => ?_, fun b o v z => ?_, fun b ps z => ⟨#[], ?_⟩⟩
    · rw [two (na n) (nd z)]
      exact n
    · by_cases hb : b = a
      · exact ⟨_, by rw [hb]; exact hx⟩
      · exact ⟨o, kp b o hb z⟩
    · rw [two (ba z exo_tup) (bd z)]
      exact z
    · rw [two (ba z exo_frz) (bd z)]
      exact z
    · rw [two (ba z exo_tbl) (bd z), z]
      simp
  refine q dx _ hd dne (I.un (t' := tk') U fun b o z => ?_)
  by_cases hb : b = a
  · rw [hb, upd_same] at z
    cases z
    rw [hb]
    exact exo_ok hx
  · rw [upd_ne hb] at z
    by_cases hdx : b = dx
    · rw [hdx, upd_same] at z
      cases z
      rw [hdx]
      exact exd_ok hns (relO_put (fs := []) ry fun g => True.intro)
    · rw [upd_ne hdx] at z
      refine (I.hok b o z).stay (fun c v hc w => kp c v ?_ w) (fun c hc => ?_) fun c xs hc => ?_
      · rcases hc with hc | hc
        · rw [hc]
          exact hb
        · exact ba hc exo_own
      · rw [two (ba hc exo_own) (bd hc)]
        exact hc
      · rw [two (ba hc exo_tup) (bd hc)]
        exact hc
end
section
variable {X : Cx} {o e : Expr} {es : List Expr} {to te : TE} {ta : TA} {f x : Str} {p p' pos : Pos} {C fI : Addr} {k : Nat} {fd : FuncData} {ps : List Str} {sp : Sp} {CX : CXT}
/-- self.f = e, self an exception that is being made -/
def tPut1 (K : W.Frag) (f : Str) (to te : TE) : TS := fun D σ H => te σ H fun y H1 => to σ H1 fun x H2 => ∃ a C : Addr, x = .ref a ∧ Cls1 K C ∧ W.findIn K (.ref C) f = some none ∧ H2 a = some (exo a C none) ∧
  ∀ dx, H2 dx = none → dx ≠ a → D.nx σ (upd (upd H2 dx (exd dx [(f, y)])) a (exo a C (some dx)))
theorem ps_put1 (ho : PE X o to) (he : PE X e te) (hs : swapsWith e (some (.Attribute o f p')) pos.line X.env = pure false := by rfl) : PS X (.Assign [.Attribute o f p'] e pos) (tPut1 X.K f to te) := by
  refine ⟨fun pins s σ H D I h => plainObj_wpAny_Assign_Attribute (thn (he.run pins s σ H _ I h) ?_) hs⟩
  rintro v s1 ⟨y, H1, I1, r1, q1⟩
  refine thn (ho.run pins s1 σ H1 _ I1 q1) ?_
  rintro u s2 ⟨z, H2, I2, r2, a, C, rfl, T, hn, ea, q⟩
  cases r2
  exact put1 T I2 ea hn r1 fun dx s' n ne J => ⟨σ, _, J, q dx n ne⟩
/-- X(e, ..), the exception kept as a value -/
def tExv (C : Addr) (sp : Sp) (ta : TA) : TE := fun σ H Q => ta σ H fun vs H1 => vs.length ≤ 1000 ∧ ∀ a, H1 a = none → sp (.ref a :: vs) (upd H1 a (exo a C none)) (fun v H2 => v = .non ∧ Q (.ref a) H2) (fun _ _ _ => False)
/-- X(e, ..), to be raised -/
def tExr (C : Addr) (sp : Sp) (ta : TA) : L2.St → Hp → XK → Prop := fun σ H Q => ta σ H fun vs H1 => vs.length ≤ 1000 ∧ ∀ a, H1 a = none → sp (.ref a :: vs) (upd H1 a (exo a C none))
  (fun v H2 => v = .non ∧ ∃ (d : Addr) (fs : List (Str × V)), H2 a = some (exo a C (some d)) ∧ H2 d = some (exd d fs) ∧ H1 d = none ∧ Q (.ref C) (some d) (upd (del H2 a) d (.xd fs))) (fun _ _ _ => False)
/-- the call, told twice: what is wanted of its end is R -/
theorem exc_run {pins : List (Addr × Obj)} {σ : L2.St} {H1 : Hp} {s1 : Shared} {us : List Value} {vs : List V} {Q2 : VK} {R : Value → Shared → Prop} (T : Cls1 X.K C) (iC : W.findIn X.K (.ref C) "__init__" = some (some (.ref fI)))
    (tI : W.typeIn X.K (.ref fI) = some (.type "function")) (F1 : FnOk X.prog X.w X.K X.mg X.base CX k fI fd ps sp) (hr : Room (k + 1) X.A) (hb : Binds X.K fd ps []) (hx : Passes CX X (fun _ _ _ => False)) (I1 : Inv X pins σ H1 s1) (r1 : Vals vs us) (hz : vs.length ≤ 1000)
    (hq : sp (.ref (s1.heap.objs.size + 1) :: vs) (upd H1 (s1.heap.objs.size + 1) (exo (s1.heap.objs.size + 1) C none)) Q2 (fun _ _ _ => False))
    (fin : ∀ hp u s', Inv X pins σ (upd H1 (s1.heap.objs.size + 1) (exo (s1.heap.objs.size + 1) C none)) { s1 with heap := hp } → (∀ b o, s1.heap.get? b = some o → hp.get? b = some o) →
      CE X.stack X.prog X.w (upd H1 (s1.heap.objs.size + 1) (exo (s1.heap.objs.size + 1) C none)) { s1 with heap := hp } Q2 u s' → u = .none ∧ R (.ref (s1.heap.objs.size + 1)) s') :
    wpAny (model X.prog X.w) X.A (call (.ref C) us) R X.xe s1 := by
  obtain ⟨nm, qn, N, bs, bm, sn, sub, ab, col, dd, k0, k1, k2, k3, k5, B, newId, initId, t0, t, hC, FB, ⟨q1, q2, q3⟩, hbm, hl, hob, hne⟩ := T.cls
  obtain ⟨hp, g, dr, tk, os⟩ := s1
  let h2 : Heap := (hp.push (W.kdv_tup us)).push (HandSPX.excO C hp.objs.size)
  have kk : ∀ b o, hp.get? b = some o → h2.get? b = some o := fun b o z => Heap.get?_push_of_some _ (Heap.get?_push_of_some _ z)
  have hg : h2.get? (hp.objs.size + 1) = some (HandSPX.excO C hp.objs.size) := by
    show ((hp.push (W.kdv_tup us)).push (HandSPX.excO C hp.objs.size)).get? (hp.objs.size + 1) = _
    heap_get
  have I2 : Inv X pins σ (upd H1 (hp.objs.size + 1) (exo (hp.objs.size + 1) C none)) ⟨h2, g, dr, tk, os⟩ :=
    I1.laid (t' := tk) kk (Nat.le_succ _) (exo_ok hg)
  have r2 : Vals (V.ref (hp.objs.size + 1) :: vs) (Value.ref (hp.objs.size + 1) :: us) := .cons rfl r1
  have hlen : (Value.ref (hp.objs.size + 1) :: us ++ []).length = ps.length := by
    rw [List.append_nil, ← r2.length]
    exact F1.len _ _ _ _ hq
  have hus : us.length ≤ sizeLine := by
    rw [← Paired.length r1, sizeLine_eq]
    omega
  have hbt := hb ⟨h2, g, dr, tk, os⟩ (Value.ref (hp.objs.size + 1) :: us) I2.kIn hlen
  rw [List.append_nil] at hbt
  refine wpAny_call (call_run FB q1 q2 q3 (I1.kIn _ _ hC) (W.looks_findIn I1.kIn iC) (fun self => W.bind_fn I1.kIn self tI) hus ?_)
  refine codeAny_mono (F1.run _ X.stack _ _ ⟨Value.ref (hp.objs.size + 1) :: us, []⟩ _ _ _ (fun _ _ _ => False) (hr.make C us []) (I2.env0.make C us []) hbt r2 hq) fun r s' z => ?_
  cases r with
  | error er => exact hx pins σ _ _ er s' I2 z
  | ok fl =>
    cases fl with
    | ret u => exact fin h2 u s' I2 kk z
    | next => exact False.elim z
    | brk => exact False.elim z
    | cont => exact False.elim z
theorem pe_exv (T : Cls1 X.K C) (iC : W.findIn X.K (.ref C) "__init__" = some (some (.ref fI))) (tI : W.typeIn X.K (.ref fI) = some (.type "function")) (F1 : FnOk X.prog X.w X.K X.mg X.base CX k fI fd ps sp) (hr : Room (k + 1) X.A)
    (hb : Binds X.K fd ps []) (hx : Passes CX X (fun _ _ _ => False)) (hg : Gl X x) (hm : X.mg x = some (.ref C)) (ha : PA X (e :: es) ta)
    (hdb : (x == ("__debug__" : Str)) = false := by decide) (he : starEach (e :: es) X.env = (false, eval e X.env) :: starEach es X.env := by rfl) (hpl : (backTo pos (starEach es X.env)).any (·.1) = false := by rfl) :
    PE X (.Call (.Name x p) (e :: es) [] pos) (tExv C sp ta) := by
  refine ⟨fun pins s σ H Q I h => wpAny_Call_Name_kw (ld_glob I hg hm ?_ hdb)⟩
  refine W.callWith_K (h₀ := X.base) I.ok.mod.kin T.kC (thn (ha.run pos pins s σ H _ I h) ?_) he hpl
  rintro us s1 ⟨vs, H1, I1, r1, hz, q1⟩
  refine ⟨I1.kIn, exc_run T iC tI F1 hr hb hx I1 r1 hz (q1 _ (I1.hok.fresh (Nat.le_succ _))) fun hp u s' I2 kk z => ?_⟩
  obtain ⟨v, H2, I3, rv, ev, q2⟩ := I2.after z
  subst ev
  exact ⟨rv, .ref _, H2, I3, rfl, q2⟩
theorem pmk_exr (T : Cls1 X.K C) (iC : W.findIn X.K (.ref C) "__init__" = some (some (.ref fI))) (tI : W.typeIn X.K (.ref fI) = some (.type "function")) (F1 : FnOk X.prog X.w X.K X.mg X.base CX k fI fd ps sp) (hr : Room (k + 1) X.A)
    (hb : Binds X.K fd ps []) (hx : Passes CX X (fun _ _ _ => False)) (hg : Gl X x) (hm : X.mg x = some (.ref C)) (ha : PA X (e :: es) ta)
    (hdb : (x == ("__debug__" : Str)) = false := by decide) (he : starEach (e :: es) X.env = (false, eval e X.env) :: starEach es X.env := by rfl) (hpl : (backTo pos (starEach es X.env)).any (·.1) = false := by rfl) :
    PMk X (.Call (.Name x p) (e :: es) [] pos) (tExr C sp ta) := by
  intro pins s σ H Q I h
  refine wpAny_Call_Name_kw (ld_glob I hg hm ?_ hdb)
  refine W.callWith_K (h₀ := X.base) I.ok.mod.kin T.kC (thn (ha.run pos pins s σ H _ I h) ?_) he hpl
  rintro us s1 ⟨vs, H1, I1, r1, hz, q1⟩
  refine ⟨I1.kIn, exc_run T iC tI F1 hr hb hx I1 r1 hz (q1 _ (I1.hok.fresh (Nat.le_succ _))) fun hp u s' I2 kk z => ?_⟩
  obtain ⟨v, H2, os2, bare2, un2, hok2, rv, ev, d, fs, ea, ed, hd1, q2⟩ := z
  subst ev
  obtain ⟨h0, g0, d0, t0, o0⟩ := s1
  obtain ⟨h2, g2, d2, t2, o2⟩ := s'
  exact ⟨rv, mk_end (raises_own T.exC T.tyC) I1 (Nat.le_succ _) kk un2 hok2 os2 bare2 ea ed hd1 q2⟩
end

section
variable {prog : Program} {w : World} {A : Around} {E : Value → Shared → Prop} {s : Shared} {K : W.Frag} {x D : Addr} {ox : Obj} {od : Option Obj}
theorem data_found {a g : Value} {f : Str} (hc : (W.clsIn K D).isSome = true) (ha : W.findIn K (.ref D) f = some (some a)) (hg : W.specialIn K a "__get__" = some (some g)) (ht : W.takesIn K a = some true) : W.findObj K D od f = some (.bind g a) := by
  obtain ⟨c, e⟩ := Option.isSome_iff_exists.mp hc
  unfold W.findObj
  rw [e, Option.bind_some, ha, Option.bind_some]
  simp [hg, ht]
theorem cls_some (c : ExcC K D) : (W.clsIn K D).isSome = true := by
  obtain ⟨cd, h, _⟩ := W.any_some c.hd
  rw [h]
  rfl
/-- an exception's __class__ -/
theorem ask_class {Q : Option Value → Shared → Prop} (c : ExcC K D) (X : K.In s.heap) (I : W.InstAt s.heap x ox D od) (q : Q (some (.ref D)) { s with toks := s.toks + 1 }) : wpAny (model prog w) A (getAttr? (.ref x) "__class__") Q E s := by
  have hf : W.findObj K D od "__class__" = some (.bind (.builtin "getset_descriptor.__get__") (.builtin "object.__class__")) := data_found (cls_some c) c.ha c.hn c.ht
  obtain ⟨hp, ge, dr, tk, os⟩ := s
  have isB : W.Looks (model prog w) hp (isInstance (.ref x) (.type "BaseException")) true := I.type.andThen (W.looks_subIn X c.hs)
  have g1 := W.looks_findIn (M := model prog w) X c.hg
  have g2 := W.looks_findIn (M := model prog w) X c.hk
  have g3 := W.looks_find (M := model prog w) X I hf
  have n1 : (onTheHeap (Value.ref D) && Value.builtin "BaseException.__getattribute__" == Value.builtin "object.__getattribute__") = false := by
    rw [show (Value.builtin "BaseException.__getattribute__" == Value.builtin "object.__getattribute__") = false by decide +kernel]
    rfl
  unfold getAttr? getAttrBy? getAttrBy
  refine wpAny_bind (wpAny_mkText (wpAny_bind (wpAny_attempt (wpAny_holding (wpAny_bind ?_)))))
  refine I.type.at (wpAny_bind (g1.at ?_))
  show wpAny _ _ (if (onTheHeap (Value.ref D) && Value.builtin "BaseException.__getattribute__" == Value.builtin "object.__getattribute__") = true then _ else _) _ _ _
  rw [n1, if_neg Bool.false_ne_true]
  unfold getAttrByItsOwn hookBefore
  refine wpAny_bind ?_
  rw [if_pos (show onTheHeap (Value.ref D) = true from rfl)]
  refine g2.at (wpAny_bind (wpAny_attempt (wpAny_holding ?_)))
  unfold callGetattribute
  rw [show (false && onTheHeap (Value.builtin "BaseException.__getattribute__")) = false from rfl, if_neg Bool.false_ne_true]
  unfold boundAndCalled
  rw [PySem.F.excAttr_ValueError.ga.bind (.ref x)]
  refine wpAny_bind (wpAny_pure ?_)
  show wpAny _ _ (call (.builtin "BaseException.__getattribute__") [.ref x, .str "__class__" tk]) _ _ _
  refine wpAny_call (codeAny_call_builtin PySem.F.excAttr_ValueError.ga.plain PySem.F.entry_bexc_ga ?_)
  refine @W.check_slot (model prog w) _ _ ⟨hp, ge, dr, tk + 1, os⟩ "BaseException.__getattribute__" "BaseException" "__getattribute__" (.ref x) [.str "__class__" tk] [] _
    (by decide +kernel) (by decide +kernel) isB (PySem.F.args_bexc_ga (.ref x) (.str "__class__" tk)) ?_
  unfold Builtin.«object.__getattribute__»
  refine wpAny_bind (wpAny_of_eq (a := ((Value.ref x : Value), [Value.str "__class__" tk])) (by first | rfl | (simp only [slotArgs]; rfl)) ?_)
  refine wpAny_bind (wpAny_pure (wpAny_bind (I.type.at (wpAny_bind (g3.at ?_)))))
  show wpAny _ _ (holding [Value.builtin "object.__class__"] (call (.builtin "getset_descriptor.__get__") [.builtin "object.__class__", .ref x, .ref D]) >>= ret) _ _ _
  refine wpAny_bind (wpAny_holding (wpAny_call (W.class_get (s := ⟨hp, ge, dr, tk + 1, os⟩) (ox := ox) (od := od) X I c.hm ?_)))
  refine wpAny_pure ?_
  show wpAny _ _ (handedOut (.ref D)) _ _ _
  rw [W.handedOut_of (v := .ref D) rfl]
  first
    | exact wpAny_pure (wpAny_pure q)
    | exact wpAny_pure q
    | exact wpAny_pure (wpAny_bind (wpAny_pure (wpAny_pure q)))
theorem kit_exc (c : ExcC K D) : W.KitX K (.ref x) (.ref D) (fun h => ∃ ox od, W.InstAt h x ox D od) where
  ty := fun _ _ _ ⟨_, _, I⟩ => I.type
  it := fun _ _ X _ => by
    obtain ⟨cd, hcd, _⟩ := W.any_some c.hd
    unfold W.clsIn at hcd
    split at hcd
    · rename_i c' d' cd' sl' ho
      intro A' Q' E' s' k q
      unfold isType loadHead
      exact wpAny_bind (wpAny_loadPart (k _ _ (X _ _ ho)) (wpAny_pure q))
    · cases hcd
  ne := fun h tp dd its n sl X htp => by
    obtain ⟨cd, hcd, _⟩ := W.any_some c.hd
    refine Bool.eq_false_iff.mpr fun z => ?_
    have e : D = tp := Value.ref.inj (beq_iff_eq.mp z)
    unfold W.clsIn at hcd
    split at hcd
    · rename_i c' d' cd' sl' ho
      have z := X _ _ ho
      rw [e, htp] at z
      cases z
    · cases hcd
  ca := fun X ⟨_, _, I⟩ k => ask_class c X I k
end
section
variable {X : Cx} {pins : List (Addr × Obj)} {σ : L2.St} {H : Hp} {s : Shared} {a C d : Addr} {dx : Option Addr}
/-- an exception that stands, with its dict where it has one -/
def ExAt (H : Hp) (a C : Addr) : Option Addr → Prop
  | none => H a = some (exo a C none)
  | some d => H a = some (exo a C (some d)) ∧ ∃ fs, H d = some (exd d fs)
theorem ExAt.inst (I : Inv X pins σ H s) (h : ExAt H a C dx) : ∃ ox od, W.InstAt s.heap a ox C od := by
  cases dx with
  | none =>
    obtain ⟨t, e⟩ := exo_at I.hok h
    exact ⟨_, none, e, rfl, rfl, trivial⟩
  | some d =>
    obtain ⟨h1, fs, h2⟩ := h
    obtain ⟨t, e⟩ := exo_at I.hok h1
    obtain ⟨m, hn, _⟩ := exd_at I.hok h2
    obtain ⟨o, es, ep, ho, _⟩ := hn
    exact ⟨_, some o, e, rfl, rfl, ho⟩
theorem ExAt.same {H1 : Hp} (S : Same H H1) (h : ExAt H a C dx) : ExAt H1 a C dx := by
  cases dx with
  | none => exact S _ _ h
  | some d =>
    obtain ⟨h1, fs, h2⟩ := h
    exact ⟨S _ _ h1, fs, S _ _ h2⟩
/-- isinstance(e, c), e an exception that stands -/
def rIsX (K : W.Frag) : List V → Hp → VK → Prop := fun xs H Q => ∃ (a D : Addr) (dx : Option Addr) (c : V) (cv : Value) (b : Bool), xs = [.ref a, c] ∧ ExAt H a D dx ∧ ExcC K D ∧ ClsV c cv ∧ W.kitOne K (.ref D) cv = some b ∧ Q (.bl b) H
theorem call_isX : CallR X (.builtin "isinstance") (rIsX X.K) := by
  intro pins s σ H xs us Q I r h
  obtain ⟨a, D, dx, c, cv, b, rfl, hE, hC, hv, e, q⟩ := h
  obtain ⟨u1, u2, rfl, r1, r2⟩ := vals2 r
  cases r1
  have ec := hv.eq r2
  subst ec
  exact W.kia_one (kit_exc hC) I.kIn (hE.inst I) e (fun z => nomatch z) fun tk => ⟨.bl b, H, I.kept (t' := tk) fun _ _ z => z, rfl, q⟩
/-- e.f, e an exception that stands with its dict -/
def tGetX (K : W.Frag) (f : Str) (te : TE) : TE := fun σ H Q => te σ H fun x H1 => ∃ (a C d : Addr) (fs : List (Str × V)) (v : V), x = .ref a ∧ H1 a = some (exo a C (some d)) ∧ H1 d = some (exd d fs) ∧ ExcC K C ∧ W.findIn K (.ref C) f = some none ∧ fs.lookup f = some v ∧ Q v H1
theorem pe_getX {e : Expr} {te : TE} {f : Str} {pos : Pos} (he : PE X e te) (hb : attributeBase e f X.env (eval e X.env) = eval e X.env := by rfl) : PE X (.Attribute e f pos) (tGetX X.K f te) := by
  refine ⟨fun pins s σ H Q I h => attr_of hb (thn (he.run pins s σ H _ I h) ?_)⟩
  rintro u s1 ⟨x, H1, I1, rx, a, C, d, fs, v, rfl, ea, ed, hC, hn, hl, q⟩
  cases rx
  obtain ⟨t, ho⟩ := exo_at I1.hok ea
  obtain ⟨mA, hns, hr⟩ := exd_at I1.hok ed
  obtain ⟨od, hod, hlk⟩ := lookIn_ns hns
  obtain ⟨u, hu, ru⟩ := RelO.some_of (v := v) (o := mA f) (by rw [← hl]; exact hr f)
  have J : W.InstAt s1.heap a { cls := .ref C, dict := some d, data := .fields #[.ref t, .none, .none, .none, .bool false, .none] } C (some od) := ⟨ho, rfl, rfl, hod⟩
  exact HandSPX.exc_get I1.kIn J hC.hg hC.hk hC.hs (W.findObj_own hC.hd hn rfl (by rw [hlk, hu])) (handed_of ru) ⟨v, H1, I1.tok _, ru, q⟩
/-- X(e), X without an __init__ of its own, kept as a value -/
theorem pe_exn {bmB : List Value} {B newId initId : String} {x : Str} {e : Expr} {te : TE} {p pos : Pos} (F : ExcBaseFacts B newId initId bmB) (q : W.excIn X.K C bmB newId = true) (gC : X.mg x = some (.ref C)) (kC : W.keepIn X.K (.ref C) = true) (hg : Gl X x)
    (he : PE X e te) (hs : starEach [e] X.env = (false, eval e X.env) :: starEach [] X.env := by rfl) (hdb : (x == ("__debug__" : Str)) = false := by decide) :
    PE X (.Call (.Name x p) [e] [] pos) (fun σ H Q => te σ H fun _ H1 => ∀ a, H1 a = none → Q (.ref a) (upd H1 a (exo a C none))) := by
  refine ⟨fun pins s σ H Q I h => wpAny_Call_Name_kw (ld_glob I hg gC ?_ hdb)⟩
  refine W.callWith_K (h₀ := X.base) I.ok.mod.kin kC ?_ hs (by rfl)
  rw [hs]
  show wpAny _ _ (spliced ((false, eval e X.env) :: backTo pos (starEach [] X.env))) _ _ s
  refine Calls.spliced_cons (thn (he.run pins s σ H _ I h) ?_)
  rintro u s1 ⟨v, H1, I1, r1, q1⟩
  refine Calls.spliced_nil ⟨I1.kIn, ?_⟩
  show wpAny _ _ (call (.ref C) [u]) _ _ _
  obtain ⟨bm, N, nm, qn, bs, hdct, sn, sub, ab, col, dd, k0, k1, k2, k3, k5, mN, hC, hN, hni, T⟩ := exc_obj I1.kIn q
  refine wpAny_call_exc_subT F T hC hN hni (fun h' a hm => ?_) (by show 1 ≤ sizeLine; rw [sizeLine_eq]; omega)
  have hn : H1 a = none := I1.hok.gone hm.new
  obtain ⟨t, ht, _, _⟩ := hm.there
  exact ⟨.ref a, _, I1.laidN hm.keeps hm.new hn (exo_ok ht), rfl, q1 a hn⟩
end

/-! ### try .. except with several clauses, each with one class or with three -/
theorem flying_kept {B : Heap} {l : List Env} {e : Addr} {Z : Obj → Prop} {h h' : Heap} (F : HandSPX.FlyingZ B l e Z h) (k : ∀ b o, h.get? b = some o → h'.get? b = some o) : HandSPX.FlyingZ B l e Z h' := by
  obtain ⟨f1, f2, f3, oe, vs, T, oT, ts, he, hz, hd, h1, hn, hT, hg, hdT, h3⟩ := F
  exact ⟨fun b o q => k b o (f1 b o q), f2, f3.of_keeps fun b o q _ => ⟨o, k b o q, rfl⟩, oe, vs, T, oT, ts, k _ _ he, hz, hd, h1, hn, hT, k _ _ hg, hdT, h3⟩
/-- a clause's test: what is asked of the exception's class -/
def Asks (X : Cx) (e : Expr) (g : Value → Option Bool) : Prop :=
  ∀ (a : Addr) (oe : Obj) (pn : List (Addr × Obj)) (σ : L2.St) (H : Hp) (s : Shared) (b : Bool), Inv (X.suite a ((a, oe) :: pn)) [] σ H s → s.heap.get? a = some oe → g oe.cls = some b →
    ∀ (Q : Bool → Shared → Prop) (E : Value → Shared → Prop), (∀ h' t', (∀ c u, s.heap.get? c = some u → h'.get? c = some u) → Q b { s with heap := h', toks := t' }) →
      wpAny (model X.prog X.w) (X.A.mark (some (.ref a))) (eval e X.env) (fun c s1 => wpAny (model X.prog X.w) (X.A.mark (some (.ref a))) (excMatches (.ref a) c) Q E s1) E s
section
variable {X : Cx}
theorem looks_cls {M : Model} {h : Heap} {a : Addr} {oe : Obj} (e : h.get? a = some oe) : W.Looks M h (typeOf (.ref a)) oe.cls := fun A Q E s k q => wpAny_typeOf_ref (k _ _ e) q
theorem ld_named {a : Addr} {oe : Obj} {pn : List (Addr × Obj)} {σ : L2.St} {H : Hp} {s : Shared} {x : Str} {c : Value} {np : Pos} {Q : Value → Shared → Prop} {E : Value → Shared → Prop} (hc : Names X x c) (I : Inv (X.suite a ((a, oe) :: pn)) [] σ H s) (q : Q c s) :
    wpAny (model X.prog X.w) (X.A.mark (some (.ref a))) (eval (.Name x np) X.env) Q E s := by
  obtain ⟨hg, hdb, hm | ⟨hm, hv, hnn⟩⟩ := hc
  · exact ld_glob (X := X.suite a ((a, oe) :: pn)) I hg hm q hdb
  · exact ld_blt (X := X.suite a ((a, oe) :: pn)) I hg hm hv q hnn hdb
theorem asks_one {x : Str} {c : Value} {np : Pos} (hc : Names X x c) : Asks X (.Name x np) (fun cls => W.exmOne X.K cls c) := by
  intro a oe pn σ H s b I ha hb Q E q
  refine ld_named hc I ?_
  exact (W.exm_one (M := model X.prog X.w) I.kIn (looks_cls ha) hb).here (q s.heap s.toks fun _ _ z => z)
theorem asks_three {x1 x2 x3 : Str} {c1 c2 c3 : Value} {n1 n2 n3 tpos : Pos} {kt : Nat} (h1 : Names X x1 c1) (h2 : Names X x2 c2) (h3 : Names X x3 c3) :
    Asks X (.Tuple [.Name x1 n1, .Name x2 n2, .Name x3 n3] kt tpos) (fun cls => W.exmAny X.K cls [c1, c2, c3]) := by
  intro a oe pn σ H s b I ha hb Q E q
  refine Tuple_ ?_
  show wpAny _ _ (spliced ((false, eval (.Name x1 n1) X.env) :: (false, eval (.Name x2 n2) X.env) :: (false, eval (.Name x3 n3) X.env) :: [])) _ _ s
  refine Calls.spliced_cons (ld_named h1 I (Calls.spliced_cons (ld_named h2 I (Calls.spliced_cons (ld_named h3 I (Calls.spliced_nil ?_))))))
  refine wpAny_newObj_type ?_ (by show 3 ≤ sizeLine; decide)
  have hp := Heap.get?_push_size s.heap (o := { cls := .type "tuple", data := .seq [c1, c2, c3].toArray }) rfl
  have kp : ∀ c u, s.heap.get? c = some u → (s.heap.push { cls := .type "tuple", data := .seq [c1, c2, c3].toArray }).get? c = some u := fun c u z => Heap.get?_push_of_some _ z
  exact (W.exm_tup3 (M := model X.prog X.w) (h := s.heap.push { cls := .type "tuple", data := .seq [c1, c2, c3].toArray }) (I.kIn.keeps kp) (looks_cls (kp _ _ ha)) hp hb).here (q _ s.toks kp)
/-- what the clauses wish of an exception of the body -/
def wCl (Wout : WX) (D : Ends) : List ((Value → Option Bool) × (Addr → Value → Option Addr → TS)) → WX
  | [] => Wout
  | (g, ts) :: r => fun cls d σ H => ∃ b, g cls = some b ∧ (b = true → ∀ a, H a = none → ts a cls d D σ H) ∧ (b = false → wCl Wout D r cls d σ H)
inductive Clauses (X : Cx) : List ExceptHandler → List ((Value → Option Bool) × (Addr → Value → Option Addr → TS)) → Prop
  | nil : Clauses X [] []
  | cons {e : Expr} {g : Value → Option Bool} {ts : Addr → Value → Option Addr → TS} {b₀ : Stmt} {suite : List Stmt} {p : Pos} {hds : List ExceptHandler} {l : List ((Value → Option Bool) × (Addr → Value → Option Addr → TS))} (hc : Asks X e g)
      (hs : ∀ (a : Addr) (oe : Obj) (cls : Value) (d : Option Addr) (pn : List (Addr × Obj)), Zc cls d oe → (∃ vs, oe.data = .fields vs) → PSs (X.suite a ((a, oe) :: pn)) (b₀ :: suite) (ts a cls d)) (r : Clauses X hds l) :
      Clauses X (.ExceptHandler (some e) none (b₀ :: suite) p :: hds) ((g, ts) :: l)
theorem ps_try_cl {body : List Stmt} {h₀ : ExceptHandler} {hds : List ExceptHandler} {l : List ((Value → Option Bool) × (Addr → Value → Option Addr → TS))} {pos : Pos} {tb : WX → TS} {Wout : WX} (hs : X.stack = X.env :: X.outer) (hf : X.env.frame = some X.env.locals) (tk : Takes X Wout)
    (hb : ∀ (W : WX) (pn : List (Addr × Obj)) (xe : Value → Shared → Prop), Takes (X.tr pn xe) W → PassesOwn (model X.prog X.w) X.A X.env xe → PSs (X.tr pn xe) body (tb W))
    (hh : Clauses X (h₀ :: hds) l) : PS X (.Try body (h₀ :: hds) [] [] pos) (fun D σ H => tb (wCl Wout D l) D σ H) := by
  refine ⟨fun pins s σ H D I h => ?_⟩
  have ok := I.ok
  have hfr : X.A.frames = some (X.env :: X.outer) := by rw [ok.frames, hs]
  refine wpAny_Try_except (wpAny_mono ((hb (wCl Wout D l) (X.pn ++ pins) (fun e s1 => wpAny (model X.prog X.w) X.A (noteFrame e X.env) (fun _ s2 => wpAny (model X.prog X.w) X.A (setFlight e none) (fun _ s3 =>
    wpAny (model X.prog X.w) X.A (handleBy e X.env (h₀ :: hds)) (SP X pins D) X.xe s3) X.xe s2) X.xe s1) (fun u s' xx => ?_) PassesOwn.looking).run [] s σ H D (I.toTry _) h) (fun f s1 hsp => ?_) (fun e s1 he => he))
  · obtain ⟨a, B, sI, pins', σ', H', cls, d, rfl, J', nb, up, sky, na, os, ag, w0⟩ := xx
    have J : Inv X pins σ' H' sI := J'.ofTry ok
    have sky' : Sky B (X.env :: X.outer) a (Zc cls d) X.env.locals s'.heap := by rw [← hs]; exact sky
    show wpAny (model X.prog X.w) X.A (noteFrame (.ref a) X.env) _ _ _
    refine Sky.land Zc.steady hfr hf sky' fun h3 fl3 up3 => ?_
    -- where the flight stands at a heap h4: the suite's invariant there
    have at4 : ∀ {h4 : Heap} {t4 : Nat}, HandSPX.FlyingZ B (X.env :: X.outer) a (Zc cls d) h4 → s'.heap.UpToSlots h4 →
        Inv X pins σ' H' { s' with heap := h4, toks := t4 } ∧ ∃ oe, h4.get? a = some oe ∧ Zc cls d oe ∧ (∃ vs, oe.data = .fields vs) ∧ Inv (X.suite a ((a, oe) :: (X.pn ++ pins))) [] σ' H' { s' with heap := h4, toks := t4 } := by
      intro h4 t4 fl u4
      have J4 : Inv X pins σ' H' { s' with heap := h4 } := J.landed nb fl.1 (up.trans u4) os ag
      have J5 := J4.tok t4
      obtain ⟨oe, vs, he, hz, hd⟩ := fl.there
      have nfr : a ∉ frs (X.env :: X.outer) := fun hm => by
        obtain ⟨_, o', e', hnf⟩ := fl.2.2.1.mem hm
        rw [he] at e'
        cases e'
        exact hnf _ hd
      have nL : a ≠ X.env.locals := fun z => nfr (List.mem_filterMap.mpr ⟨X.env, List.mem_cons_self, by rw [hf, z]⟩)
      have nF : a ∉ X.fs := fun hm => by
        obtain ⟨e, he, q⟩ := List.mem_filterMap.mp hm
        exact nfr (List.mem_filterMap.mpr ⟨e, List.mem_cons_of_mem _ he, q⟩)
      exact ⟨J5, oe, he, hz, ⟨vs, hd⟩, J5.suite he hd na nL nF⟩
    have go : ∀ {hs' : List ExceptHandler} {l' : List ((Value → Option Bool) × (Addr → Value → Option Addr → TS))}, Clauses X hs' l' → wCl Wout D l' cls d σ' H' → ∀ (h4 : Heap) (t4 : Nat), HandSPX.FlyingZ B (X.env :: X.outer) a (Zc cls d) h4 → s'.heap.UpToSlots h4 →
        wpAny (model X.prog X.w) X.A (handleBy (.ref a) X.env hs') (SP X pins D) X.xe { s' with heap := h4, toks := t4 } := by
      intro hs' l' hk
      induction hk with
      | nil =>
        intro w1 h4 t4 fl u4
        refine wpAny_handleBy_nil ?_
        obtain ⟨k1, k2, k3, oe, vs, T, oT, ts', he, hz, hd, h1, hr⟩ := id fl
        unfold PySem.passOn
        refine wpAny_bind (wpAny_field he hd h1 ?_)
        rw [if_neg (show ¬ ((Value.ref T == Value.none) = true) from by simp)]
        have fin : wpAny (model X.prog X.w) X.A (setFlight (.ref a) X.env.frame) (fun _ s4 => wpAny (model X.prog X.w) X.A (throw (.ref a) : Sem Flow) (SP X pins D) X.xe s4) X.xe { s' with heap := h4, toks := t4 } := by
          rw [hf]
          refine HandSPX.setFlight_upZ fl fun h5 hh5 up5 => wpAny_throw (tk _ _ ?_)
          exact ⟨a, B, sI, pins, σ', H', cls, d, rfl, J, nb, (up.trans u4).trans up5, .inr (.inr (by rw [hs]; exact hh5)), na, os, ag, w1⟩
        first
          | exact wpAny_bind (wpAny_pure (wpAny_bind fin))
          | exact wpAny_bind fin
      | @cons e g ts b₀ suite p hds2 l2 hc hsu r ih =>
        intro w1 h4 t4 fl u4
        obtain ⟨b, hb1, hyes, hno⟩ := w1
        obtain ⟨J4, oe, he, hz, hd, S4⟩ := at4 (t4 := t4) fl u4
        refine wpAny_handleBy_cons (codeAny_handlers_test ?_) (by intro q; cases q)
        refine hc a oe (X.pn ++ pins) σ' H' _ b S4 he (by rw [hz.1]; exact hb1) _ _ fun h5 t5 k5 => ?_
        have fl5 := flying_kept fl k5
        have u5 : s'.heap.UpToSlots h5 := u4.trans (.of_keeps k5)
        cases b with
        | true =>
          refine codeAny_handlers_suite ?_
          refine HandSPX.lands_againZ fl5 fun h6 fl6 up6 => ?_
          obtain ⟨J6, oe6, he6, hz6, hd6, S6⟩ := at4 (t4 := t5) fl6 (u5.trans up6)
          refine wpAny_mono ((hsu a oe6 cls d (X.pn ++ pins) hz6 hd6).run [] _ _ H' _ S6 (hyes rfl a na)) (fun f s7 hsp => ?_) (fun _ _ z => False.elim z)
          cases f with
          | ret u =>
            obtain ⟨v7, σ7, H7, S7, r7, q7⟩ := hsp
            exact ⟨_, _, _, S7.unsuite ok, r7, q7⟩
          | next =>
            obtain ⟨σ7, H7, S7, q7⟩ := hsp
            exact ⟨_, _, S7.unsuite ok, q7⟩
          | brk =>
            obtain ⟨σ7, H7, S7, q7⟩ := hsp
            exact ⟨_, _, S7.unsuite ok, q7⟩
          | cont =>
            obtain ⟨σ7, H7, S7, q7⟩ := hsp
            exact ⟨_, _, S7.unsuite ok, q7⟩
        | false =>
          show wpAny _ X.A (handleBy (.ref a) X.env hds2) _ _ _
          exact ih (hno rfl) h5 t5 fl5 u5
    exact go hh w0 h3 s'.toks fl3 up3
  · cases f with
    | ret u =>
      obtain ⟨v, σ', H', J', r, q⟩ := hsp
      exact ⟨v, σ', H', J'.ofTry ok, r, q⟩
    | next =>
      obtain ⟨σ', H', J', q⟩ := hsp
      exact wpAny_execs_nil ⟨σ', H', J'.ofTry ok, q⟩
    | brk =>
      obtain ⟨σ', H', J', q⟩ := hsp
      exact ⟨σ', H', J'.ofTry ok, q⟩
    | cont =>
      obtain ⟨σ', H', J', q⟩ := hsp
      exact ⟨σ', H', J'.ofTry ok, q⟩
end

/-! ### facts of a class from its object -/
section
variable {K : W.Frag} {C D : Addr} {nm q : Str} {N : Addr} {bs bm : List Value} {sn : List Str} {sub : List Value} {ab : Bool} {col : Option Bool} {dd : Option Addr} {k0 k1 k2 k3 k5 : Option Value} {newId B initId : String} {t : List Value}
/-- the class object of an exception class: its chain and its maker -/
def XObj (K : W.Frag) (C : Addr) (bm : List Value) (newId : String) : Prop := ∃ nm q N bs sn sub ab col dd k0 k1 k2 k3 k5, K.lookup C = some (excClassObj nm q C N bs bm true sn sub ab col dd k0 k1 k2 k3 k5 newId)
theorem XObj.mk (x : K.lookup C = some (excClassObj nm q C N bs bm true sn sub ab col dd k0 k1 k2 k3 k5 newId)) : XObj K C bm newId := ⟨_, _, _, _, _, _, _, _, _, _, _, _, _, _, x⟩
theorem XObj.cls (x : XObj K C bm newId) : ∃ cd, W.clsIn K C = some cd ∧ cd.mro = .ref C :: bm ∧ cd.hasDict = true := by
  obtain ⟨_, _, _, _, _, _, _, _, _, _, _, _, _, _, e⟩ := x
  unfold W.clsIn
  rw [e]
  exact ⟨_, rfl, rfl, rfl⟩
theorem XObj.ty (x : XObj K C bm newId) : W.typeIn K (.ref C) = some (.type "type") := by
  obtain ⟨_, _, _, _, _, _, _, _, _, _, _, _, _, _, e⟩ := x
  show (K.lookup C).map (·.cls) = _
  rw [e]
  rfl
theorem XObj.mroIn (x : XObj K C bm newId) (b : Value) : W.mroIn K C b = some ((Value.ref C :: bm).contains b) := by
  obtain ⟨cd, e, m, _⟩ := x.cls
  unfold W.mroIn
  rw [e, Option.bind_some, m]
  rfl
theorem XObj.dict (x : XObj K C bm newId) : W.hasDictIn K C = true := by
  obtain ⟨cd, e, _, d⟩ := x.cls
  unfold W.hasDictIn
  rw [e]
  exact d
theorem has_cons {b : String} (h : bm.contains (.type b) = true) : (Value.ref C :: bm).contains (.type b) = true := by
  rw [List.contains_cons, h, Bool.or_true]
theorem XObj.excC (x : XObj K C bm newId) (hb : bm.contains (.type "BaseException") = true) (ho : bm.contains (.type "object") = true)
    (hg : W.findIn K (.ref C) "__getattribute__" = some (some (.builtin "BaseException.__getattribute__"))) (hk : W.findIn K (.ref C) "__getattr__" = some none) (ha : W.findIn K (.ref C) "__class__" = some (some (.builtin "object.__class__")))
    (hn : W.specialIn K (.builtin "object.__class__") "__get__" = some (some (.builtin "getset_descriptor.__get__"))) (ht : W.takesIn K (.builtin "object.__class__") = some true) : ExcC K C :=
  ⟨hg, hk, (x.mroIn _).trans (congrArg some (has_cons hb)), x.dict, ha, hn, ht, (x.mroIn _).trans (congrArg some (has_cons ho))⟩
theorem XObj.cls1 {t0 : List Value} (x : XObj K C bm newId) (F : ExcBaseFacts B newId initId t0) (h3 : bm.contains (.type B) = true ∧ bm.contains (.type "AttributeError") = false ∧ bm.contains (.type "NameError") = false) (hm : endsIn t bm = true) (hl : Lets t) (ho : t.contains (.type "object") = true) (hne : t ≠ []) (hb : bm.contains (.type "BaseException") = true)
    (sa : W.findIn K (.ref C) "__setattr__" = some (some (.builtin "object.__setattr__"))) (kC : W.keepIn K (.ref C) = true) : Cls1 K C := by
  have ty := x.ty
  have ex : W.subIn K (.ref C) (.type "BaseException") = some true := (x.mroIn _).trans (congrArg some (has_cons hb))
  obtain ⟨a1, a2, a3, a4, a5, a6, a7, a8, a9, b0, b1, b2, b3, b5, e⟩ := x
  exact ⟨⟨_, _, _, _, _, _, _, _, _, _, _, _, _, _, _, B, newId, initId, t0, t, e, F, h3, hm, hl, ho, hne⟩, sa, ex, ty, kC⟩
theorem XObj.kit {bm' : List Value} {n' : String} (x : XObj K D bm newId) (y : XObj K C bm' n') : W.kitOne K (.ref D) (.ref C) = some ((Value.ref D :: bm).contains (.ref C)) := by
  obtain ⟨cd, e, _⟩ := y.cls
  unfold W.kitOne W.kitCls
  by_cases h : D = C
  · subst h
    simp
  · have h1 : (Value.ref D == Value.ref C) = false := by simpa using h
    have h2 : ((W.clsIn K C).isSome && W.typeIn K (.ref C) == some (.type "type")) = true := by
      rw [e, y.ty]
      rfl
    rw [if_neg (by rw [h1]; decide)]
    dsimp only
    rw [if_pos h2]
    exact x.mroIn _
theorem XObj.kitT {T : String} (x : XObj K D bm newId) (h : W.kitMeta T = true) : W.kitOne K (.ref D) (.type T) = some (bm.contains (.type T)) := by
  unfold W.kitOne W.kitCls
  rw [if_neg (by simp)]
  dsimp only
  rw [if_pos h]
  refine (x.mroIn _).trans (congrArg some ?_)
  rw [List.contains_cons]
  rfl
theorem XObj.exm {bm' : List Value} {n' : String} (x : XObj K D bm newId) (y : XObj K C bm' n') (hb : bm'.contains (.type "BaseException") = true) : W.exmOne K (.ref D) (.ref C) = some ((Value.ref D :: bm).contains (.ref C)) := by
  have h1 : (W.subIn K (.ref C) (.type "BaseException") == some true) = true := by
    rw [show W.subIn K (.ref C) (.type "BaseException") = some true from (y.mroIn _).trans (congrArg some (has_cons hb))]
    rfl
  obtain ⟨cd, e, _⟩ := y.cls
  have h2 : ((W.clsIn K C).isSome && W.typeIn K (.ref C) == some (.type "type")) = true := by
    rw [e, y.ty]
    rfl
  unfold W.exmOne W.kitCls
  rw [if_pos h1]
  dsimp only
  rw [if_pos h2]
  exact x.mroIn _
theorem XObj.exmT {T : String} (x : XObj K D bm newId) (h : W.kitMeta T = true) (hb : (fastBuiltinMro T).map (·.contains (.type "BaseException")) = some true) : W.exmOne K (.ref D) (.type T) = some (bm.contains (.type T)) := by
  unfold W.exmOne W.kitCls
  rw [if_pos (by show ((fastBuiltinMro T).map (·.contains (.type "BaseException")) == some true) = true; rw [hb]; rfl)]
  dsimp only
  rw [if_pos h]
  refine (x.mroIn _).trans (congrArg some ?_)
  rw [List.contains_cons]
  rfl
end
end Exs

set_option Elab.async false
set_option linter.all false
set_option maxRecDepth 100000
set_option maxHeartbeats 4000000
/-! repr of data; calls where it is known that no repr is under way. -/
namespace Rp
open PySem PySem.Spec PyProof.Rows L2
/-- a key of a dict as data -/
def kD : Key → PyData
  | .inl i => .int i
  | .inr x => .str x
mutual
/-- no list, no dict -/
def flatT : PyData → Bool
  | .none | .bool _ | .int _ | .str _ => true
  | .tuple xs => flatsT xs
  | .list _ | .dict _ => false
def flatsT : List PyData → Bool
  | [] => true
  | x :: xs => flatT x && flatsT xs
end
mutual
/-- what is read as data; a dict stands alone, its values flat or tuples -/
inductive Dat (K : W.Frag) (H : Hp) : V → PyData → Prop
  | non : Dat K H .non .none
  | bl (b : Bool) : Dat K H (.bl b) (.bool b)
  | int (i : Int) : Dat K H (.int i) (.int i)
  | str (x : Str) : Dat K H (.str x) (.str x)
  | lst {a : Addr} {xs : List V} {ds : List PyData} : SqL K H a xs → DatAll K H xs ds → PyData.hasDictAll ds = false → Dat K H (.ref a) (.list ds)
  | tup {a : Addr} {xs : List V} {ds : List PyData} : SqT K H a xs → DatAll K H xs ds → PyData.hasDictAll ds = false → Dat K H (.ref a) (.tuple ds)
  | dic {a : Addr} {ks : List (Key × V)} {ds : List PyData} : Rd H a (.dK ks) → DatAll K H (ks.map (·.2)) ds → flatsT ds = true → Dat K H (.ref a) (.dict ((ks.map fun p => kD p.1).zip ds))
inductive DatAll (K : W.Frag) (H : Hp) : List V → List PyData → Prop
  | nil : DatAll K H [] []
  | cons {v : V} {vs : List V} {d : PyData} {ds : List PyData} : Dat K H v d → DatAll K H vs ds → DatAll K H (v :: vs) (d :: ds)
end
theorem DatAll.len {K : W.Frag} {H : Hp} : ∀ {vs : List V} {ds : List PyData}, DatAll K H vs ds → vs.length = ds.length
  | _, _, .nil => rfl
  | _, _, .cons _ t => congrArg (· + 1) (DatAll.len t)
theorem pairs_vals {P : Program} {w : World} : ∀ {es : List DictEntry} {kvs : List (Key × Value)}, Pairs (mixKind P w) es kvs → es.map (·.val) = kvs.map (·.2)
  | _, _, .nil => rfl
  | _, _, .cons _ h t => by rw [List.map_cons, List.map_cons, pairs_vals t, h]
theorem kvs_vals : ∀ {ks : List (Key × V)} {vs : List (Key × Value)}, KV ks vs → Vals (ks.map (·.2)) (vs.map (·.2))
  | _, _, .nil => .nil
  | _, _, .cons r t => .cons r.2 (kvs_vals t)
theorem key_reads {h : Heap} {k : Key} {v : Value} (e : keyIs k v = true) : Reads h v (kD k) [] := by
  rcases keyIs_shape e with ⟨i, t, rfl, rfl⟩ | ⟨x, t, rfl, rfl⟩
  · exact .int i t
  · exact .str x t
theorem keys_reads {P : Program} {w : World} {h : Heap} : ∀ {es : List DictEntry} {vs : List (Key × Value)} {ks : List (Key × V)}, Pairs (mixKind P w) es vs → KV ks vs → ReadsAll h (es.map (·.key)) (ks.map fun p => kD p.1) []
  | _, _, _, .nil, .nil => .nil
  | _, _, _, .cons hk _ t, .cons r t' => by
    have e := r.1
    have q := keys_reads (h := h) t t'
    exact ReadsAll.cons (as := []) (bs := []) (key_reads (by rw [e]; exact hk)) q
theorem zip_fst {α β : Type} : ∀ {l : List α} {m : List β}, l.length = m.length → (l.zip m).map (·.1) = l
  | [], [], _ => rfl
  | a :: l, b :: m, h => by rw [List.zip_cons_cons, List.map_cons, zip_fst (Nat.succ.inj h)]
theorem zip_snd {α β : Type} : ∀ {l : List α} {m : List β}, l.length = m.length → (l.zip m).map (·.2) = m
  | [], [], _ => rfl
  | a :: l, b :: m, h => by rw [List.zip_cons_cons, List.map_cons, zip_snd (Nat.succ.inj h)]
mutual
theorem flat_none {h : Heap} : ∀ {d : PyData} {u : Value} {as : List Addr}, Reads h u d as → flatT d = true → as = []
  | _, _, _, .none, _ => rfl
  | _, _, _, .bool _, _ => rfl
  | _, _, _, .int _ _, _ => rfl
  | _, _, _, .str _ _, _ => rfl
  | _, _, _, .tuple _ _ _ t, f => flats_none t (by rw [flatT] at f; exact f)
  | _, _, _, .list _ _ _ _, f => by rw [flatT] at f; cases f
  | _, _, _, .dict _ _ _ _ _, f => by rw [flatT] at f; cases f
theorem flats_none {h : Heap} : ∀ {ds : List PyData} {us : List Value} {as : List Addr}, ReadsAll h us ds as → flatsT ds = true → as = []
  | _, _, _, .nil, _ => rfl
  | _, _, _, .cons r t, f => by
    rw [flatsT, Bool.and_eq_true] at f
    rw [flat_none r f.1, flats_none t f.2]
    rfl
end
section
variable {X : Cx} {pins : List (Addr × Obj)} {σ : L2.St} {H : Hp} {s : Shared}
mutual
theorem Dat.reads (I : Inv X pins σ H s) : ∀ (d : PyData) (v : V) (u : Value), Dat X.K H v d → RelV v u → ∃ as, Reads s.heap u d as ∧ (d.hasDict = true → sysModules ∉ as)
  | _, _, _, .non, r => by cases r; exact ⟨_, .none, fun z => by cases z⟩
  | _, _, _, .bl b, r => by cases r; exact ⟨_, .bool b, fun z => by cases z⟩
  | _, _, _, .int i, r => by obtain ⟨t, rfl⟩ := r; exact ⟨_, .int i t, fun z => by cases z⟩
  | _, _, _, .str x, r => by obtain ⟨t, rfl⟩ := r; exact ⟨_, .str x t, fun z => by cases z⟩
  | _, _, _, .lst (ds := ds) hs ha hn, r => by
    cases r
    obtain ⟨its, rv, ⟨o, n, ho, hc, _, hd⟩, _⟩ := I.list hs
    obtain ⟨as, hr⟩ := DatAll.reads I ds _ its ha rv
    exact ⟨_, .list ho hc hd hr, fun z => by rw [PyData.hasDict, hn] at z; cases z⟩
  | _, _, _, .tup (ds := ds) hs ha hn, r => by
    cases r
    obtain ⟨its, rv, ⟨o, ho, hc, n, hd⟩, _⟩ := I.tuple hs
    obtain ⟨as, hr⟩ := DatAll.reads I ds _ its ha rv
    exact ⟨_, .tuple ho hc hd hr, fun z => by rw [PyData.hasDict, hn] at z; cases z⟩
  | _, _, _, .dic (ks := ks) (ds := ds) hs ha hn, r => by
    cases r
    obtain ⟨_, hm, vs, rv, o, es, ep, ho, hx, hd, _, hp, _⟩ := hs.ok I.hok
    have hl : (ks.map fun p => kD p.1).length = ds.length := by
      rw [List.length_map, ← ha.len, List.length_map]
    obtain ⟨bs, hr⟩ := DatAll.reads I ds _ _ ha (kvs_vals rv)
    have h1 : ReadsAll s.heap (es.toList.map (·.key)) (((ks.map fun p => kD p.1).zip ds).map (·.1)) [] := by
      rw [zip_fst hl]
      exact keys_reads hp rv
    have h2 : ReadsAll s.heap (es.toList.map (·.val)) (((ks.map fun p => kD p.1).zip ds).map (·.2)) bs := by
      rw [zip_snd hl, pairs_vals hp]
      exact hr
    have hb : bs = [] := flats_none hr hn
    subst hb
    refine ⟨_, .dict ho hx.1 hd h1 h2, fun _ z => ?_⟩
    rcases List.mem_append.mp z with z | z
    · rw [← List.mem_singleton.mp z] at hm
      exact absurd hm (by decide)
    · cases z
theorem DatAll.reads (I : Inv X pins σ H s) : ∀ (ds : List PyData) (vs : List V) (us : List Value), DatAll X.K H vs ds → Vals vs us → ∃ as, ReadsAll s.heap us ds as
  | _, _, _, .nil, r => by cases r; exact ⟨_, .nil⟩
  | _, _, _, .cons h t, r => by
    cases r with
    | cons r1 r2 =>
      obtain ⟨as, q1, _⟩ := Dat.reads I _ _ _ h r1
      obtain ⟨bs, q2⟩ := DatAll.reads I _ _ _ t r2
      exact ⟨_, .cons q1 q2⟩
end
end
/-- what can be shown, and is not too long -/
def Fits (d : PyData) : Prop := d.showable = true ∧ d.depth ≤ 60 ∧ ∃ B, 8 ≤ B ∧ d.leavesShort B = true ∧ (B + 2) * d.weight + B ≤ sizeLine
theorem Fits.len {d : PyData} (h : Fits d) : d.shown.length ≤ sizeLine := by
  obtain ⟨_, _, B, hB, hl, hw⟩ := h
  exact Nat.le_trans (PyData.shown_le B hB d hl) hw
/-- repr(x) -/
def rRepr (K : W.Frag) : List V → Hp → VK → Prop := fun xs H Q => ∃ x d, xs = [x] ∧ Dat K H x d ∧ Fits d ∧ Q (.str d.shown) H
theorem call_repr {X : Cx} (hg : X.A.guards = some []) (hu : X.A.units + 64 < cLine) : CallR X (.builtin "repr") (rRepr X.K) := by
  intro pins s σ H xs us Q I r h
  obtain ⟨x, d, rfl, hd, hf, q⟩ := h
  obtain ⟨u, rfl, r1⟩ := vals1 r
  obtain ⟨as, hr, hm⟩ := Dat.reads I d x u hd r1
  have hz := hf.len
  have fin : ∀ h' t tk, (∀ b o, s.heap.get? b = some o → h'.get? b = some o) → EP X pins σ Q (.str d.shown t) { s with heap := h', toks := tk } := fun h' t tk k => ⟨.str d.shown, H, I.kept k, ⟨t, rfl⟩, q⟩
  have keep : ∀ b o, s.heap.get? b = some o → s.heap.get? b = some o := fun _ _ z => z
  obtain ⟨hs, hdp, _⟩ := hf
  have ref : ∀ {a : Addr}, u = .ref a → wpAny (model X.prog X.w) X.A (call (.builtin "repr") [u]) (EP X pins σ Q) X.xe s := by
    rintro a rfl
    exact repr_of_reads' hr hs hm hg (by omega) keep (fun h' t tk k => fin h' t tk k) hz
  cases hd with
  | non => cases r1; exact PySem.P.repr_of_none (fin s.heap _ _ keep)
  | bl b => cases r1; exact PySem.P.repr_of_bool (fin s.heap _ _ keep)
  | int i =>
    obtain ⟨t, rfl⟩ := r1
    exact PySem.P.repr_of_int (by simpa [PyData.showable] using hs) (fin s.heap _ _ keep)
  | str y =>
    obtain ⟨t, rfl⟩ := r1
    exact PySem.P.repr_of_str (fin s.heap _ _ keep) hz
  | lst _ _ _ => cases r1; exact ref rfl
  | tup _ _ _ => cases r1; exact ref rfl
  | dic _ _ _ => cases r1; exact ref rfl
end Rp

/-! ### calls where no repr is under way -/
namespace Rp
open PySem PySem.Spec PyProof.Rows L2
/-- a def's promise, wherever no repr is under way -/
structure FnG (P : Program) (w : World) (K : W.Frag) (mg : Str → Option Value) (base : Heap) (CX : CXT) (k : Nat) (f : Addr) (fd : FuncData) (ps : List Str) (sp : Sp) : Prop where
  len : ∀ vs H Q E, sp vs H Q E → vs.length = ps.length
  run : ∀ (A : Around) (outer : List Env) (s : Shared) (H : Hp) (args : Args) (us : List Value) (vs : List V) (Q : VK) (E : XK), Room k A → A.guards = some [] → Env0 P w K mg base A outer s H → BindsTo s fd args (ps.zip us) → Vals vs us → sp vs H Q E →
    codeAny (model P w) A (.call (.ref f) args) (CR CX outer P w H s Q E) s
section
variable {P : Program} {w : World} {K : W.Frag} {mg : Str → Option Value} {base : Heap} {CX : CXT} {k j : Nat} {f : Addr} {fd : FuncData} {N ps : List Str} {sp : Sp} {x qual : Str} {st : Stmt}
theorem FnG.of (F : FnOk P w K mg base CX k f fd ps sp) : FnG P w K mg base CX k f fd ps sp := ⟨F.len, fun A outer s H args us vs Q E hr _ => F.run A outer s H args us vs Q E hr⟩
theorem FnG.mono (F : FnG P w K mg base CX j f fd ps sp) (h : j ≤ k) : FnG P w K mg base CX k f fd ps sp := ⟨F.len, fun A outer s H args us vs Q E hr => F.run A outer s H args us vs Q E (hr.mono h)⟩
/-- a def by its body -/
theorem okG (F : Fun K x qual st f fd) (S : FnScope N ps (defScope st)) (len : ∀ vs H Q E, sp vs H Q E → vs.length = ps.length)
    (hbody : ∀ (cdv : Value) (A : Around) (outer : List Env) (s : Shared) (H : Hp) (vs : List V) (Q : VK) (E : XK), Room k (A.deeper (envOfC qual (defScope st) s.heap.objs.size f cdv)) → A.guards = some [] → sp vs H Q E →
      ∃ t, PSs (cxOf CX0 P w K mg base N qual (defScope st) f cdv A outer s H E).nox (defBody st) t ∧ t { nx := fun _ H' => Q .non H', rt := Q } (L2.start N vs) H) : FnG P w K mg base CX0 (k + 1) f fd ps sp := by
  obtain ⟨oc, od, kV, doc, pm, an, cdv, ct, osl, rfl, lk, hcd⟩ := F.ex
  refine ⟨len, fun A outer s H args us vs Q E hr hg e0 hb r hsp => ?_⟩
  have inK : K.In s.heap := e0.mod.kin.keeps fun b o z => (e0.bs b o z).1
  have noL : s.heap.NoLimit := e0.mod.nolimit.keeps fun b o z => (e0.bs b o z).1
  have kinds : ∀ y ∈ ps.zip us, (defScope st).names.lookup y.1 = some .local ∨ ((defScope st).names.lookup y.1 = some .cell ∧ ((cellsFrom (s.heap.objs.size + 1) (defScope st).names []).lookup y.1).isSome = true) := by
    rintro ⟨n, v⟩ hy
    rcases S.par n (List.of_mem_zip hy).1 with q | q
    · exact .inl q
    · exact .inr ⟨q, W.cellsFrom_some _ _ _ (.inl q)⟩
  refine codeAny_call_function hr.depth (inK _ _ lk) rfl S.co S.gen rfl (W.codeRec_of inK hcd) (hb _ _ _ _ ?_)
  refine wpAny_newFunctionEnv_cells S.kind kinds fun env he s1 z => ?_
  subst he
  refine ⟨noL.keeps z.toInCall.keep, codeAny_func ?_⟩
  obtain ⟨t, ht, q⟩ := hbody cdv A outer s H vs Q E (hr.deeper _) hg hsp
  have I : Inv (cxOf CX0 P w K mg base N qual (defScope st) f cdv A outer s H E) [] (L2.start N vs) H s1 := inv_start S hr.hd e0 (len _ _ _ _ hsp) r z
  refine wpAny_mono (ht.nox.run [] s1 (L2.start N vs) H _ I q) (fun fl s' hs => ?_) fun _ _ hs => hs
  cases fl with
  | next =>
    obtain ⟨σ', H', J, q⟩ := hs
    exact ⟨V.non, H', J.os, J.bare, J.base, J.hok, rfl, q⟩
  | ret u =>
    obtain ⟨v, σ', H', J, rv, q⟩ := hs
    exact ⟨v, H', J.os, J.bare, J.base, J.hok, rv, q⟩
  | brk =>
    obtain ⟨_, _, _, q⟩ := hs
    exact q.elim
  | cont =>
    obtain ⟨_, _, _, q⟩ := hs
    exact q.elim
end
section
variable {X : Cx} {CX : CXT} {k : Nat} {f : Addr} {fd : FuncData} {ps : List Str} {sp : Sp} {E : XK} {x : Str} {p pos : Pos} {e : Expr} {es : List Expr} {t : TA}
theorem pe_callG (F : FnG X.prog X.w X.K X.mg X.base CX k f fd ps sp) (hr : Room k X.A) (hG : X.A.guards = some []) (hg : Gl X x) (hm : X.mg x = some (.ref f)) (hk : W.keepIn X.K (.ref f) = true) (hb : Binds X.K fd ps []) (hx : Passes CX X E)
    (ha : PA X (e :: es) t) (hdb : (x == ("__debug__" : Str)) = false := by decide) (he : starEach (e :: es) X.env = (false, eval e X.env) :: starEach es X.env := by rfl) (hpl : (backTo pos (starEach es X.env)).any (·.1) = false := by rfl) :
    PE X (.Call (.Name x p) (e :: es) [] pos) (tCall sp [] E t) := by
  refine ⟨fun pins s σ H Q I h => wpAny_Call_Name_kw (ld_glob I hg hm ?_ hdb)⟩
  refine W.callWith_K (h₀ := X.base) I.ok.mod.kin hk (thn (ha.run pos pins s σ H _ I h) ?_) he hpl
  rintro us s1 ⟨vs, H1, I1, r, q⟩
  rw [List.append_nil] at q
  have b := hb s1 us I1.kIn (by rw [List.append_nil, ← r.length]; exact F.len _ _ _ _ q)
  rw [List.append_nil] at b
  refine ⟨I1.kIn, wpAny_call (codeAny_mono (F.run X.A X.stack s1 H1 ⟨us, []⟩ us vs Q E hr hG I1.env0 b r q) fun r s' z => ?_)⟩
  cases r with
  | error e => exact hx pins σ H1 s1 e s' I1 z
  | ok fl =>
    cases fl with
    | ret u => exact I1.after z
    | next => exact z.elim
    | brk => exact z.elim
    | cont => exact z.elim
end
/-- the end of a law: its promise from the heap behind the top -/
theorem law_callG {P : Program} {w : World} {K : W.Frag} {mg mb : Str → Option Value} {k : Nat} {fa a : Addr} {fd : FuncData} {x : Str} {sp : Sp} {s₁ : Shared} {vs : List Value} {ns : List Int}
    (KX : K.In s₁.heap) (hns : s₁.heap.Ns mainGlobals mg) (hb : s₁.heap.Ns builtinsNs mb) (hbb : ∀ x : Str, x ≠ "__name__" → mb x = bootBuiltins x) (hlim : s₁.heap.NoLimit) (hg : s₁.gens = #[])
    (ha : s₁.heap.get? a = some { cls := .type "list", data := .seq vs.toArray }) (hi : IntsAre vs ns) (hl : ns.length ≤ sizeLine) (hr : Room k callerA)
    (F : ∀ base : Heap, K.In base → base.Ns mainGlobals mg → FnG P w K mg base CX0 k fa fd [x] sp) (hbind : ∀ (s : Shared) (u : Value), BindsTo s fd ⟨[u], []⟩ [(x, u)])
    (hsp : ∀ H : Hp, SqL K H a (ns.map V.int) → sp [.ref a] H (fun v _ => v = .bl true) fun _ _ _ => False) :
    codeAny (model P w) callerA (.call (.ref fa) ⟨[.ref a], []⟩) (fun r s' => r = .ok (.ret (.bool true)) ∧ OldK s₁.heap s'.heap ∧ s'.os = s₁.os ∧ AllBare s'.gens) s₁ := by
  have rv := vals_ints hi
  let oS : Obj := { cls := .type "list", data := .seq vs.toArray }
  -- H0 tracks the script, or nothing
  have go : ∀ H0 : Hp, (∀ b u, H0 b = some u → b = a ∧ ∃ zs, u = .frz oS (.lst zs) ∧ zs.length ≤ sizeLine ∧ Vals zs vs) → (∀ o, K.lookup a = some o → H0 a = none) → SqL K H0 a (ns.map V.int) →
      codeAny (model P w) callerA (.call (.ref fa) ⟨[.ref a], []⟩) (fun r s' => r = .ok (.ret (.bool true)) ∧ OldK s₁.heap s'.heap ∧ s'.os = s₁.os ∧ AllBare s'.gens) s₁ := by
    intro H0 hA hK hS
    have ok : HOk P w H0 s₁.heap := fun b u z => by
      obtain ⟨rfl, zs, rfl, h1, h2⟩ := hA b u z
      exact ⟨ha, h1, vs, _, h2, ha⟩
    have low : ∀ {b : Addr} {o : Obj}, s₁.heap.get? b = some o → o.cls ≠ .type "list" → H0 b = none := fun {b o} z hc => by
      cases e : H0 b with
      | none => rfl
      | some u =>
        obtain ⟨rfl, _⟩ := hA b u e
        rw [ha] at z
        cases z
        exact absurd rfl hc
    have ns0 : ∀ {b : Addr} {m : Str → Option Value}, s₁.heap.Ns b m → (hidT s₁.heap H0).Ns b m := by
      rintro b m ⟨o, es, ep, z, d, r⟩
      refine ⟨o, es, ep, hidT_get z ?_, d, r⟩
      cases e : H0 b with
      | none => rfl
      | some u =>
        obtain ⟨rfl, _⟩ := hA b u e
        rw [ha] at z
        cases z
        cases d
    have kIn : K.In (hidT s₁.heap H0) := fun b o z => by
      refine hidT_get (KX b o z) ?_
      cases e : H0 b with
      | none => rfl
      | some u =>
        obtain ⟨rfl, _⟩ := hA b u e
        rw [hK o z] at e
        cases e
    have M : Mod K mg (hidT s₁.heap H0) := by
      obtain ⟨mc, h1, h2⟩ := hlim
      exact ⟨kIn, ns0 hns, ⟨mb, ns0 hb, hbb⟩, mc, ns0 h1, h2⟩
    have nofr : ∀ b, b ∉ frs [] := fun b z => by cases z
    have e0 : Env0 P w K mg (hidT s₁.heap H0) callerA [] s₁ H0 := ⟨rfl, M, fun b o z => of_hidT z, Nat.le_of_eq (hidT_size _ _), trivial, fun b z => absurd z (nofr b), ok, .of_eq hg⟩
    refine codeAny_mono ((F _ kIn (ns0 hns)).run callerA [] s₁ H0 ⟨[.ref a], []⟩ [.ref a] [.ref a] _ _ hr rfl e0 (hbind s₁ (.ref a)) (.cons rfl .nil) (hsp H0 hS)) fun r s' z => ?_
    cases r with
    | error e => exact False.elim z
    | ok fl =>
      cases fl with
      | next => exact z.elim
      | brk => exact z.elim
      | cont => exact z.elim
      | ret u =>
        obtain ⟨v, H', os, bare, un, ok', r', rfl⟩ := z
        cases r'
        refine ⟨rfl, .of_keep fun b o z => ?_, os, bare⟩
        cases e : H0 b with
        | none => exact un.keep b o z e (nofr b) (by simp)
        | some u =>
          obtain ⟨rfl, zs, rfl, _⟩ := hA b u e
          obtain ⟨y, _⟩ := ok' b _ (un.frzs b _ _ e)
          rw [ha] at z
          cases z
          exact y
  cases hk : K.lookup a with
  | some o =>
    have z := KX a o hk
    rw [ha] at z
    cases z
    exact go (fun _ => none) (fun b u z => by cases z) (fun _ _ => rfl) (.inr ⟨_, vs.toArray, _, hk, rfl, rfl, rfl, by rw [List.size_toArray, hi.length]; exact hl, by simpa using rv⟩)
  | none =>
    refine go (fun b => if b = a then some (.frz oS (.lst (ns.map V.int))) else none) (fun b u z => ?_) (fun o z => by rw [hk] at z; cases z) (.inl (.inr ⟨oS, if_pos rfl⟩))
    by_cases hb : b = a
    · have z' := (if_pos hb).symm.trans z
      cases z'
      exact ⟨hb, _, rfl, by rw [List.length_map]; exact hl, rv⟩
    · have z' := (if_neg hb).symm.trans z
      cases z'
theorem walk_ofG {l : W.OpenLaw} {n k : Nat} {q : Program} {loose : List Str} {XP : (Str → Option Value) → Heap → Prop} {YP : World → Heap → Prop} {d : DefRec} {K : Params → W.Frag} {sp : W.Frag → Sp} {x : Str}
    (hn : l.most = some n) (hn2 : n ≤ sizeLine) (hdf : d.params.defaults = []) (hr : Room k callerA) (hY : ∀ (w : World) (h : Heap), YP w h → (K w.params).In h)
    (F : ∀ (w : World) (mg : Str → Option Value) (fa : Addr) (h : Heap), (K w.params).In h → h.Ns mainGlobals mg → mg d.name = some (.ref fa) →
      ∃ fd : FuncData, (∀ (s : Shared) (u : Value), BindsTo s fd ⟨[u], []⟩ [(x, u)]) ∧ ∀ base : Heap, (K w.params).In base → base.Ns mainGlobals mg → FnG l.prog w (K w.params) mg base CX0 k fa fd [x] (sp (K w.params)))
    (hsp : ∀ (K : W.Frag) (H : Hp) (a : Addr) (ns : List Int), ns.length ≤ n → SqL K H a (ns.map V.int) → sp K [.ref a] H (fun v _ => v = .bl true) fun _ _ _ => False) :
    W.WalkO q loose XP YP l.row.toRowW d [] (fun f vs => PySem.call f vs) := by
  refine Att.attach_call hn hdf fun w s₀ s₁ mg mb fa o pm cd doc a vs ns G Y ho hd hcd hmg hobj hints hlen hg => ?_
  obtain ⟨fd, hb, hF⟩ := F w mg fa _ (hY w _ Y) G.T.g hmg
  exact law_callG (hY w _ Y) G.T.g G.T.b G.T.builtins G.T.nolimit hg hobj hints (Nat.le_trans hlen hn2) hr hF hb fun H hS => hsp _ H a ns hlen hS
end Rp

set_option Elab.async false
set_option linter.all false
set_option maxRecDepth 100000
set_option maxHeartbeats 2000000
/-! == of dicts with tuple keys. -/
namespace Dh
open PySem PySem.Calls PyProof.Rows PySem.Spec
section
variable {prog : Program} {w : World} {K : Type} [DecidableEq K] {knd : HeapKind prog w K} {A : Around} {E : Value → Shared → Prop} {s : Shared}
/-- the entries of one dict, one after the other, beside those of the other one -/
inductive Hits (A : Around) (s : Shared) (kb : List (K × Addr × Value)) : List (K × Addr × Value) → Bool → Prop
  | nil : Hits A s kb [] true
  | miss {k : K} {p : Addr × Value} {r : List (K × Addr × Value)} : atKey kb k = none → Hits A s kb ((k, p) :: r) false
  | hit {k : K} {p q : Addr × Value} {r : List (K × Addr × Value)} {e b : Bool} : atKey kb k = some q → SeqAt.EqAt A s p.2 q.2 e → Hits A s kb r b → Hits A s kb ((k, p) :: r) (e && b)
theorem Hits.inv {kb : List (K × Addr × Value)} {k : K} {p : Addr × Value} {r : List (K × Addr × Value)} {b : Bool} (h : Hits A s kb ((k, p) :: r) b) :
    (atKey kb k = none ∧ b = false) ∨ ∃ q e b', atKey kb k = some q ∧ SeqAt.EqAt A s p.2 q.2 e ∧ Hits A s kb r b' ∧ b = (e && b') := by
  cases h with
  | miss hn => exact .inl ⟨hn, rfl⟩
  | hit hy he hr => exact .inr ⟨_, _, _, hy, he, hr, rfl⟩
theorem same_pairs {nm : String} {a b : Addr} {ka kb : List (K × Addr × Value)} {r : Bool} {Q : Bool → Shared → Prop} (ha : (a == sysModules) = false) (hb : (b == sysModules) = false) (hu : knd.room A)
    (da : s.heap.DictOfH knd a ka) (db : s.heap.DictOfH knd b kb) (hits : ka.length = kb.length → Hits A s kb ka r) (h : Q (ka.length == kb.length && r) s) :
    wpAny (model prog w) A (Builtin.Dict.samePairs nm a b) Q E s := by
  obtain ⟨oa, es, ep, oA, _, dA, eA, iA, nA⟩ := da
  obtain ⟨ob, es', ep', oB, _, dB, eB, iB, nB⟩ := db
  have zA : ka.length = es.size := (size_of_entries eA).symm
  have zB : kb.length = es'.size := (size_of_entries eB).symm
  rw [zA, zB] at h
  unfold Builtin.Dict.samePairs Builtin.Dict.showsAll
  rw [if_neg (show ¬ (a == sysModules) = true by rw [ha]; exact Bool.false_ne_true), if_neg (show ¬ (b == sysModules) = true by rw [hb]; exact Bool.false_ne_true)]
  refine wpAny_bind (wpAny_pure (wpAny_bind (wpAny_pure ?_)))
  refine wpAny_bind (wpAny_dictEntries oA dA ?_)
  dsimp only
  refine wpAny_bind (wpAny_dictEntries oB dB ?_)
  by_cases zz : es.size = es'.size
  case neg =>
    rw [if_pos (by simpa using zz)]
    have hbf : (es.size == es'.size) = false := by simpa using zz
    rw [hbf, Bool.false_and] at h
    exact wpAny_bind (wpAny_rule (wpAny_pure h))
  case pos =>
    have h' : Q r s := by simpa [zz] using h
    have hts := hits (by rw [zA, zB]; exact zz)
    rw [if_neg (by rw [zz]; simp)]
    refine wpAny_bind (wpAny_dictEpoch oA dA ?_)
    refine wpAny_bind ?_
    rw [Std.Legacy.Range.forIn_eq_forIn_range']
    simp only [Std.Legacy.Range.size, Nat.sub_zero, Nat.add_sub_cancel, Nat.div_one]
    refine wpAny_forIn_list _
      (fun rest q s' => s' = s ∧ q = (none, ()) ∧ ∃ i, rest = List.range' i (es.size - i) ∧ i ≤ es.size ∧ Hits A s kb (ka.drop i) r)
      _ ?_ ?_ _ _ ⟨rfl, rfl, 0, by simp, Nat.zero_le _, hts⟩
    · rintro x rest q s' ⟨rfl, rfl, i, hr, hi, pre1⟩
      have lt1 : i < es.size := by
        rcases Nat.lt_or_ge i es.size with h | h
        · exact h
        · rw [Nat.sub_eq_zero_of_le h] at hr
          simp at hr
      obtain ⟨rfl, rst⟩ : x = i ∧ rest = List.range' (i + 1) (es.size - (i + 1)) := by
        have e : es.size - i = (es.size - (i + 1)) + 1 := by omega
        rw [e, List.range'_succ] at hr
        injection hr with h1 h2
        exact ⟨h1, h2⟩
      refine wpAny_bind (wpAny_dictEntries oA dA ?_)
      have hlt' : x < ka.length := by rw [zA]; exact lt1
      obtain ⟨k, p, hkv⟩ : ∃ k p, ka[x] = (k, p) := ⟨_, _, rfl⟩
      have hg : ka[x]? = some (k, p) := by rw [List.getElem?_eq_getElem hlt', hkv]
      have hdrop : ka.drop x = (k, p) :: ka.drop (x + 1) := by
        rw [← hkv]
        exact List.drop_eq_getElem_cons hlt'
      rw [entry_at eA x, hg]
      rw [hdrop] at pre1
      show wpAny _ _ (holding [.ref p.1, p.2] _ >>= _) _ _ _
      refine wpAny_bind (wpAny_holding (wpAny_bind ?_))
      have hkey : knd.is s'.heap k p.1 := iA (k, p) (List.mem_of_getElem? hg)
      refine wpAny_dictFind_heap hu hkey oB dB eB iB nB (fun hno => ?_) fun j q hj => ?_
      · have hn : atKey kb k = none := atKey_none_of_get hno
        rcases pre1.inv with ⟨_, er⟩ | ⟨y, _, _, hy, _⟩
        · rw [er] at h'
          refine wpAny_pure ?_
          show wpAny _ _ (if (!false) = true then _ else _) _ _ _
          rw [if_pos (by decide)]
          exact wpAny_pure (wpAny_pure h')
        · rw [hn] at hy
          exact nomatch hy
      · have hv' : atKey kb k = some q := atKey_of_get nB hj
        refine wpAny_bind (wpAny_dictEntries oB dB ?_)
        rw [entry_at eB j, hj]
        rcases pre1.inv with ⟨hn, _⟩ | ⟨y, e, b', hy, he, more1, er⟩
        · rw [hv'] at hn
          exact nomatch hn
        · have ey : q = y := Option.some.inj (hv'.symm.trans hy)
          rw [← ey] at he
          refine wpAny_holding (he prog w _ _ ?_)
          cases e with
          | false =>
            rw [er, Bool.false_and] at h'
            show wpAny _ _ (if (!false) = true then _ else _) _ _ _
            rw [if_pos (by decide)]
            exact wpAny_pure (wpAny_pure h')
          | true =>
            rw [Bool.true_and] at er
            rw [← er] at more1
            show wpAny _ _ (if (!true) = true then _ else _) _ _ _
            rw [if_neg (by decide)]
            refine wpAny_bind (wpAny_dictEpoch oA dA ?_)
            rw [if_neg (by simp)]
            exact wpAny_pure ⟨rfl, rfl, x + 1, rst, lt1, more1⟩
    · rintro q s' ⟨rfl, rfl, i, hr, hi, pre1⟩
      have atEnd : i = es.size := by
        rcases Nat.lt_or_ge i es.size with h | h
        · have e : es.size - i = (es.size - (i + 1)) + 1 := by omega
          rw [e, List.range'_succ] at hr
          exact nomatch hr
        · exact Nat.le_antisymm hi h
      refine wpAny_pure ?_
      rw [atEnd, ← zA, List.drop_length] at pre1
      cases pre1
      exact h'
theorem cmp_eq {a b : Addr} {ka kb : List (K × Addr × Value)} {r : Bool} {Q : Value → Shared → Prop} {op : CmpOp} (hop : op = .Eq ∨ op = .NotEq) (ha : (a == sysModules) = false) (hb : (b == sysModules) = false) (hk : knd.room A.in1)
    (da : s.heap.DictOfH knd a ka) (db : s.heap.DictOfH knd b kb) (hu : A.units < cLine) (hits : ka.length = kb.length → Hits A.in1 s kb ka r) (h : Q (.bool ((ka.length == kb.length && r) == decide (op = .Eq))) s) :
    wpAny (model prog w) A (compareOp op (.ref a) (.ref b)) Q E s := by
  have dif : s.TypeIs (.ref a) "dict" := da.typeIs
  have dig : s.TypeIs (.ref b) "dict" := db.typeIs
  rcases hop with rfl | rfl
  · refine wpAny_richCompare_same_room (op := .Eq) dif dig PySem.F.slot_dict_eq (wpAny_call_entry PySem.F.slot_dict_eq dif PySem.F.entry_dict_eq ?_ (PySem.F.args_dict_eq_2 _ _)) hu
    show wpAny _ _ (Builtin.Dict.dictSlotArgs "__eq__" ⟨[.ref a, .ref b], []⟩ >>= _) _ _ s
    unfold Builtin.Dict.dictSlotArgs
    refine wpAny_bind (wpAny_bind (wpAny_notOrdered_dict dif (wpAny_pure ?_)))
    refine wpAny_bind (wpAny_isInstance (T := "dict") dig PySem.F.sub_dict_dict ?_)
    rw [if_neg (by simp)]
    refine wpAny_bind (wpAny_pure (wpAny_bind (wpAny_pure (wpAny_bind (same_pairs ha hb hk da db hits ?_)))))
    refine wpAny_pure ⟨_, rfl, (fun x => nomatch x), ?_⟩
    exact h
  · refine wpAny_richCompare_same_room (op := .NotEq) dif dig PySem.F.slot_dict_ne (wpAny_call_entry PySem.F.slot_dict_ne dif PySem.F.entry_dict_ne ?_ (PySem.F.args_dict_ne_2 _ _)) hu
    show wpAny _ _ (Builtin.Dict.dictSlotArgs "__ne__" ⟨[.ref a, .ref b], []⟩ >>= _) _ _ s
    unfold Builtin.Dict.dictSlotArgs
    refine wpAny_bind (wpAny_bind (wpAny_notOrdered_dict dif (wpAny_pure ?_)))
    refine wpAny_bind (wpAny_isInstance (T := "dict") dig PySem.F.sub_dict_dict ?_)
    rw [if_neg (by simp)]
    refine wpAny_bind (wpAny_pure (wpAny_bind (wpAny_pure (wpAny_bind (same_pairs ha hb hk da db hits ?_)))))
    refine wpAny_pure ⟨_, rfl, (fun x => nomatch x), ?_⟩
    exact h
end
end Dh
namespace Dh
open PySem PySem.Spec PyProof.Rows L2
/-- the entries of the one, looked up in the other one -/
def hitsB (ls : List (List Key × V)) : List (List Key × V) → Bool
  | [] => true
  | (k, v) :: r => match valV ls k with
    | none => false
    | some y => eqV v y && hitsB ls r
def eqT (ks ls : List (List Key × V)) : Bool := ks.length == ls.length && hitsB ls ks
theorem hits_of {P : Program} {w : World} {A : Around} {s : Shared} {H : Hp} {ls : List (List Key × V)} {ys : List (List Key × Addr × Value)} (rl : KT H ls ys) (fl : ∀ p ∈ ls, flatV p.2 = true) :
    ∀ {ks : List (List Key × V)} {xs : List (List Key × Addr × Value)}, KT H ks xs → (∀ p ∈ ks, flatV p.2 = true) → Hits A s ys xs (hitsB ls ks)
  | [], _, .nil, _ => .nil
  | (k, v) :: r, _, .cons (b := q) h t, f => by
    obtain ⟨k', b, u⟩ := q
    obtain ⟨e1, _, rv⟩ := h
    have e1' : k = k' := e1
    subst e1'
    have ih := hits_of (A := A) (s := s) (P := P) (w := w) rl fl t fun p hp => f p (List.mem_cons_of_mem _ hp)
    have rel := rl.val k
    unfold hitsB
    cases e : valV ls k with
    | none =>
      rw [e] at rel
      cases g : atKey ys k with
      | none => exact .miss g
      | some z =>
        rw [g] at rel
        exact rel.elim
    | some y =>
      rw [e] at rel
      cases g : atKey ys k with
      | none =>
        rw [g] at rel
        exact rel.elim
      | some z =>
        rw [g] at rel
        refine .hit g ?_ ih
        have fy : flatV y = true := by
          obtain ⟨p, hp, ep⟩ := Option.map_eq_some_iff.mp (show (ls.find? fun kv => decide (kv.1 = k)).map (·.2) = some y from e)
          rw [← ep]
          exact fl p (List.mem_of_find?_eq_some hp)
        exact eqAt_V rv rel (f _ List.mem_cons_self) fy
def rEqT (neg : Bool) : R2 := fun x y H Q => ∃ a b ks ls, x = .ref a ∧ y = .ref b ∧ Rd H a (.dT ks) ∧ Rd H b (.dT ls) ∧ (∀ p ∈ ks, flatV p.2 = true) ∧ (∀ p ∈ ls, flatV p.2 = true) ∧ Q (.bl (if neg then !eqT ks ls else eqT ks ls)) H
section
variable {X : Cx} {n : Nat}
theorem tuple_room {P : Program} {w : World} {A : Around} {k : Nat} (hr : Room (k + 1) A) : (tupleKind (mixKind P w)).room A.in1 := by
  have h : A.in1.units < cLine := by
    have e := hr.units
    show A.units + 1 < cLine
    omega
  exact h
theorem eq_dT {pins : List (Addr × Obj)} {σ : L2.St} {H : Hp} {s : Shared} {op : CmpOp} (hop : op = .Eq ∨ op = .NotEq) (hr : Room (n + 1) X.A) {a b : Addr} {ks ls : List (List Key × V)} {Q : Value → Shared → Prop} (I : Inv X pins σ H s) (ha : Rd H a (.dT ks)) (hb : Rd H b (.dT ls))
    (fa : ∀ p ∈ ks, flatV p.2 = true) (fb : ∀ p ∈ ls, flatV p.2 = true) (q : Q (.bool (eqT ks ls == decide (op = .Eq))) s) : wpAny (model X.prog X.w) X.A (compareOp op (.ref a) (.ref b)) Q X.xe s := by
  obtain ⟨za, ya, xs, ra, da⟩ := dt_rd I.hok ha
  obtain ⟨zb, yb, zs, rb, db⟩ := dt_rd I.hok hb
  refine cmp_eq hop ya yb (tuple_room hr) da db hr.units0 (fun _ => hits_of (P := X.prog) (w := X.w) rb fb ra fa) ?_
  have e1 : ks.length = xs.length := Paired.length ra
  have e2 : ls.length = zs.length := Paired.length rb
  rw [← e1, ← e2]
  exact q
theorem op_eqT (hr : Room (n + 1) X.A) : OpR X (compareOp .Eq) (rEqT false) := by
  intro pins s σ H x y v u Q I rx ry h
  obtain ⟨a, b, ks, ls, rfl, rfl, ha, hb, fa, fb, q⟩ := h
  cases rx
  cases ry
  refine eq_dT (.inl rfl) hr I ha hb fa fb ⟨.bl (eqT ks ls), H, I, ?_, q⟩
  rw [show (eqT ks ls == decide (CmpOp.Eq = CmpOp.Eq)) = eqT ks ls from by cases eqT ks ls <;> rfl]
  exact rfl
theorem op_neT (hr : Room (n + 1) X.A) : OpR X (compareOp .NotEq) (rEqT true) := by
  intro pins s σ H x y v u Q I rx ry h
  obtain ⟨a, b, ks, ls, rfl, rfl, ha, hb, fa, fb, q⟩ := h
  cases rx
  cases ry
  refine eq_dT (.inr rfl) hr I ha hb fa fb ⟨.bl (!eqT ks ls), H, I, ?_, q⟩
  rw [show (eqT ks ls == decide (CmpOp.NotEq = CmpOp.Eq)) = !eqT ks ls from by cases eqT ks ls <;> rfl]
  exact rfl
end
end Dh

set_option Elab.async false
set_option linter.all false
set_option maxRecDepth 100000
set_option maxHeartbeats 2000000
/-! Dict comprehensions of either kind of keys: ints and texts, or tuples of them. -/
namespace Dh
open PySem PySem.Spec PyProof.Rows L2
/-- an empty dict, to hold keys of a kind -/
def mt : Bool → HO
  | true => .dT []
  | false => .dK []
theorem mt_ok {P : Program} {w : World} {H : Hp} (t : Bool) (h : Heap) (hb : sysModules < h.objs.size) : ObjOk P w H (h.push { cls := .type "dict", data := .dict #[] }) h.objs.size (mt t) := by
  cases t with
  | true => exact dt_empty h hb
  | false => exact dk_empty h hb
section
variable {X : Cx}
theorem put_any {pins : List (Addr × Obj)} {σ : L2.St} {H H' : Hp} {s : Shared} {E : Value → Shared → Prop} {D : Addr} {y v : V} {u r : Value} {Q : Unit → Shared → Prop} (hu : X.A.units + 1 < cLine) (I : Inv X pins σ H s) (g : DPut H D y v H') (ry : RelV y u) (rv : RelV v r)
    (h : ∀ s', Inv X pins σ H' s' → Q () s') : wpAny (model X.prog X.w) X.A (dictSet D u r) Q E s := by
  rcases g with ⟨kvs, k, e, rfl, l, rfl⟩ | ⟨kvs, k, b, e, rfl, eb, l, rfl⟩
  · exact d_dictSet I e l ry rv h
  · cases ry
    obtain ⟨z, nm, xs, rel, dd⟩ := dt_of I.hok e
    have room : (tupleKind (mixKind X.prog X.w)).room X.A := by
      show X.A.units < cLine
      omega
    refine wpAny_dictSet_heap (hsz := by rw [← Paired.length rel]; exact z) room (key_of I.hok eb) dd fun h' dd' only => h _ ?_
    obtain ⟨o', es, ep, at', ex', dat', ent', _, nd'⟩ := dd'
    have rel' := rel.put k eb rv
    have more : (putK kvs k v).length ≤ sizeLine := by
      have := length_putK kvs k v
      omega
    refine d_write I (by rw [e]; exact True.intro) only ⟨o', at'⟩ ⟨more, nm, _, rel'.keeps fun c ys ec => ?_, o', es, ep, at', ex', dat', ent', nd'⟩
    rw [upd_ne (ne_of ec e (fun z => nomatch z))]
    exact ec
/-- {k: v for target in iter if ..}: D the new dict, t the kind of its keys -/
def tDcA (t : Bool) (wi : TI) (g : TG) (tt : TT) (tk tv : TE) (vs : List Nat) : TE := fun σ H Q => wi σ H fun J H1 => ∀ D, H1 D = none → ∃ W : Nat → Nat → Hp → Prop, (∃ m, W 0 m (upd H1 D (mt t))) ∧ ∀ i m H, W i m H →
  (J.stop i H ∧ Q (.ref D) H) ∨ (J.go i H ∧ ∃ Nx : Hp → Prop, (∀ H', Nx H' → ∃ m', m' < m ∧ W (i + 1) m' H') ∧ ∀ x H', J.yld i H x H' → g x (wipe σ vs) H' fun σ2 H2 => wipe σ2 vs = wipe σ vs ∧ tt σ2 H2 fun b H3 =>
    if b = true then tk σ2 H3 fun y H4 => tv σ2 H4 fun z H5 => ∃ H6, DPut H5 D y z H6 ∧ Nx H6 else Nx H3)
section
variable {pins : List (Addr × Obj)} {σ : L2.St} {H : Hp} {s : Shared} {kx vx tg iter : Expr} {ifs : List Expr} {scope : Scope} {own : List (Str × Nat)} {pos pos' : Pos} {t : Bool} {wi : TI} {g : TG} {tt : TT} {tk tv : TE}
/-- what stands in the block of a comprehension: its target, tests, key, value -/
structure Blk (X : Cx) (scope : Scope) (tg : Expr) (ifs : List Expr) (kx vx : Expr) (g : TG) (tt : TT) (tk tv : TE) : Prop where
  g : ∀ (s : Shared) (H : Hp) (C : Addr) (cl : List (Str × Addr)) (fp : List Addr), PG (X.blk s H scope (compEnvC scope cl C X.env) fp) tg g
  t : ∀ (s : Shared) (H : Hp) (C : Addr) (cl : List (Str × Addr)) (fp : List Addr), PTs (X.blk s H scope (compEnvC scope cl C X.env) fp) ifs tt
  k : ∀ (s : Shared) (H : Hp) (C : Addr) (cl : List (Str × Addr)) (fp : List Addr), PE (X.blk s H scope (compEnvC scope cl C X.env) fp) kx tk
  v : ∀ (s : Shared) (H : Hp) (C : Addr) (cl : List (Str × Addr)) (fp : List Addr), PE (X.blk s H scope (compEnvC scope cl C X.env) fp) vx tv
theorem dcA_core {Q : VK} {use : Option (Value → Sem Unit)} {Qf : Value → Shared → Prop} (hu : X.A.units + 1 < cLine) (hc : X.calm = true) (hN : X.N.Nodup) (I : Inv X pins σ H s) (hi : PI X tg iter wi) (ok : BlkOk X.N X.env.scope scope own) (B : Blk X scope tg ifs kx vx g tt tk tv)
    (hs : ∀ x, foldedSetIterable iter X.env x = pure x) (h : tDcA t wi g tt tk tv (own.map (·.2)) σ H Q)
    (out : ∀ D C s' m H', Inv X pins σ H' s' → Q (.ref D) H' → s'.heap.Ns C m → FpOk X pins H' C → compPost (model X.prog X.w) X.A X.xe use Qf (.ref D) C (.ok .next) s') :
    wpAny (model X.prog X.w) X.A (comprehension (.DictComp kx vx [⟨tg, iter, ifs, 0⟩] scope pos) scope X.env pos' newDict false (eval iter X.env) use) Qf X.xe s := by
  have outer : ∀ y ∈ scope.names, y.2 = .free → ∃ c, X.env.cells.lookup y.1 = some c := fun y hy e => (ok.free y hy e).elim (fun k => I.ok.has _ (.inl k)) fun k => I.ok.has _ (.inr k)
  refine wpAny_comprehension_free (use := use) rfl hs (closure_ok outer) ok.kind (fun y hy e => by rw [ok.uniq y hy, e]) (thn (hi.run pins s σ H _ I h) fun xv s1 hx => thn hx fun itv s2 h2 => ?_)
  obtain ⟨it, fp, tn, J, H2, rfl, I2, T, st2, f2, q⟩ := h2
  refine wpAny_newObj_type (newEnv_comp ?_)
  obtain ⟨D, eD⟩ : ∃ D, D = s2.heap.objs.size := ⟨_, rfl⟩
  have low : ∀ b ∈ fp, b < D := fun b hb => by
    obtain ⟨o, e, _⟩ := T.obj _ _ st2 b hb
    rw [eD]
    exact Heap.lt_size e
  obtain ⟨W, ⟨m0, w0⟩, turn⟩ := q D (I2.hok.fresh (Nat.le_of_eq eD.symm))
  -- the new dict
  obtain ⟨s3, es3⟩ : ∃ s3 : Shared, s3 = { s2 with heap := s2.heap.push { cls := .type "dict", data := .dict #[] } } := ⟨_, rfl⟩
  have kp3 : ∀ b o, s2.heap.get? b = some o → s3.heap.get? b = some o := fun b o e => by
    rw [es3]
    exact Heap.get?_push_of_some _ e
  have size3 : s3.heap.objs.size = D + 1 := by
    rw [es3, eD]
    exact Heap.size_push ..
  obtain ⟨H3, eH3⟩ : ∃ H3, H3 = upd H2 D (mt t) := ⟨_, rfl⟩
  rw [← eH3] at w0
  have I3 : Inv X pins σ H3 s3 := by
    rw [eH3, es3]
    refine I2.laid (t' := s2.toks) (fun b o e => Heap.get?_push_of_some _ e) (Nat.le_of_eq eD.symm) ?_
    rw [eD]
    exact mt_ok t s2.heap I2.big
  have off : ∀ b ∈ fp, H3 b = none := fun b hb => by
    rw [eH3, upd_ne (Nat.ne_of_lt (low b hb))]
    exact (f2 b hb).1
  have f3 : ∀ b ∈ fp, FpOk X pins H3 b ∧ b < s3.heap.objs.size := fun b hb => ⟨⟨off b hb, (f2 b hb).2⟩, by rw [size3]; exact Nat.lt_succ_of_lt (low b hb)⟩
  have I4 := block_start I3 ok hN f3
  obtain ⟨ce, ece⟩ : ∃ ce, ce = compEnvC scope (cellsFrom (s3.heap.objs.size + 1) scope.names (cloFrom X.env.cells scope.names [])) s3.heap.objs.size X.env := ⟨_, rfl⟩
  obtain ⟨s4, es4⟩ : ∃ s4 : Shared, s4 = { s3 with heap := pushCells (s3.heap.push { cls := .type "dict", data := .dict #[] }) scope.names } := ⟨_, rfl⟩
  have pg := B.g s3 H3 s3.heap.objs.size (cellsFrom (s3.heap.objs.size + 1) scope.names (cloFrom X.env.cells scope.names [])) fp
  have pt := B.t s3 H3 s3.heap.objs.size (cellsFrom (s3.heap.objs.size + 1) scope.names (cloFrom X.env.cells scope.names [])) fp
  have pk := B.k s3 H3 s3.heap.objs.size (cellsFrom (s3.heap.objs.size + 1) scope.names (cloFrom X.env.cells scope.names [])) fp
  have pe := B.v s3 H3 s3.heap.objs.size (cellsFrom (s3.heap.objs.size + 1) scope.names (cloFrom X.env.cells scope.names [])) fp
  rw [← ece] at I4 pg pt pk pe
  have st4 : tn 0 s4.heap := T.keep _ _ _ st2 fun b _ o e => by
    rw [es4]
    exact pushCells_keeps _ _ _ _ (Heap.get?_push_of_some _ (kp3 b o e))
  have I5 : Inv (X.blk s3 H3 scope ce fp) [] (wipe σ (own.map (·.2))) H3 s4 := by
    rw [es4]
    exact I4
  -- what the walk's own objects are to the block
  have held : ∀ {σ' : L2.St} {H' : Hp} {s' : Shared}, Inv (X.blk s3 H3 scope ce fp) [] σ' H' s' → (∀ b ∈ fp, H' b = none) → ∀ b ∈ fp, FpOk (X.blk s3 H3 scope ce fp) [] H' b := fun {σ' H' s'} J' hn b hb =>
    ⟨hn b hb, (J'.ok.exf b hb).1, J'.ok.exfs b hb, .inl hb, fun x c e => (J'.ok.exf b hb).2 x c e, fun p hp => nomatch (show p ∈ ([] : List (Addr × Obj)) from hp)⟩
  have loop : codeAny (model X.prog X.w) X.A (.compLoop (.DictComp kx vx [⟨tg, iter, ifs, 0⟩] scope pos) 0 (.ref it) (.ref D) ce) (compPost (model X.prog X.w) X.A X.xe use Qf (.ref D) s3.heap.objs.size) s4 := by
    refine compLoop_anyD (fun n s' => ∃ i H', Inv (X.blk s3 H3 scope ce fp) [] (wipe σ (own.map (·.2))) H' s' ∧ tn i s'.heap ∧ (∀ b ∈ fp, H' b = none) ∧ W i n H') ?_ m0 ⟨0, H3, I5, st4, off, w0⟩
    rintro n s5 ⟨i, H5, J5, st5, n5, w5⟩
    rcases turn i n H5 w5 with ⟨stop, fin⟩ | ⟨go, Nx, less, step⟩
    · refine thnF (T.done (X.blk s3 H3 scope ce fp) rfl rfl rfl hc i [] s5 _ H5 (fun _ _ => False) J5 (held J5 n5) st5 stop) fun r s6 ⟨er, J6⟩ => ?_
      subst er
      have J7 : Inv X pins σ H5 s6 := I3.call' (ch := fp) J6.os J6.base J6.hok J6.bare fun b hb => ⟨(f3 b hb).1.2.2.2.1, (f3 b hb).1.2.1, (f3 b hb).1.2.2.2.2.1, (f3 b hb).1.2.2.2.2.2⟩
      have noC : H5 s3.heap.objs.size = none := by
        have z : H5 ce.locals = none := J6.free
        rw [ece] at z
        exact z
      obtain ⟨m, ns, _⟩ := J6.loc
      have ns' : s6.heap.Ns ce.locals m := ns
      rw [ece] at ns'
      exact out D s3.heap.objs.size s6 m H5 J7 fin ns' (I3.fpOk (Nat.le_refl _) noC)
    · refine thnF (T.item (X.blk s3 H3 scope ce fp) rfl rfl rfl hc i [] s5 _ H5 (fun _ _ => False) J5 (held J5 n5) st5 go) fun r s6 ⟨u, er, h6⟩ => ?_
      subst er
      refine thnF h6 fun _ s7 ⟨x, H7, J7, r7, y7, st7, n7⟩ => ?_
      refine thnF (pg.run _ s7 _ H7 x u _ (J7.pinned (held J7 n7) (T.obj _ _ st7)) r7 (step x H7 y7)) fun _ s8 ⟨σ8, H8, J8, ew, q8⟩ => ?_
      refine thnF (pt.run _ s8 σ8 H8 _ J8 q8) fun b s9 ⟨H9, J9, q9⟩ => ?_
      have again : ∀ {s' : Shared} {H' : Hp}, Inv (X.blk s3 H3 scope ce fp) ([] ++ pinsAt fp s7.heap) σ8 H' s' → Nx H' → ∃ m, m < n ∧ ∃ i H', Inv (X.blk s3 H3 scope ce fp) [] (wipe σ (own.map (·.2))) H' s' ∧ tn i s'.heap ∧ (∀ b ∈ fp, H' b = none) ∧ W i m H' := fun {s' H'} J' nx => by
        obtain ⟨m', lt, w'⟩ := less H' nx
        have still : ∀ b ∈ fp, ∀ o, s7.heap.get? b = some o → s'.heap.get? b = some o ∧ H' b = none := fun b hb o e => by
          have z := J'.pin (b, o) (List.mem_append_right _ (List.mem_append_right _ (mem_pinsAt hb e)))
          exact ⟨z.1, z.2.1⟩
        refine ⟨m', lt, i + 1, H', (J'.unpinned (pins := [])).weak (by rw [← ew, wipe_length]) (fun j v e => ?_), T.keep _ _ _ st7 fun b hb o e => (still b hb o e).1, fun b hb => ?_, w'⟩
        · rw [← ew] at e
          exact (wipe_some e).1
        · obtain ⟨o, e, _⟩ := T.obj _ _ st7 b hb
          exact (still b hb o e).2
      cases b with
      | false => exact again J9 q9
      | true =>
        refine thnF (pk.run _ s9 σ8 H9 _ J9 q9) fun z s10 ⟨yk, H10, J10, r10, q10⟩ => ?_
        refine thnF (pe.run _ s10 σ8 H10 _ J10 q10) fun z2 s11 ⟨yv, H11, J11, r11, H12, put, nx⟩ => ?_
        exact put_any (X := X.blk s3 H3 scope ce fp) hu J11 put r10 r11 fun s12 J12 => again J12 nx
  have start := codeAny_compStart_dict loop (T.self X.A 0 _ _ _ st4 loop)
  subst es4 ece es3 eD
  exact start
end
/-- {k: v for target in iter if ..} as a value, its keys of the kind t -/
theorem pe_dcA {t : Bool} {kx vx tg iter : Expr} {ifs : List Expr} {scope : Scope} {own : List (Str × Nat)} {pos : Pos} {wi : TI} {g : TG} {tt : TT} {tk tv : TE} (hu : X.A.units + 1 < cLine) (hc : X.calm = true) (hN : X.N.Nodup) (hi : PI X tg iter wi) (ok : BlkOk X.N X.env.scope scope own)
    (B : Blk X scope tg ifs kx vx g tt tk tv) (hs : ∀ x, foldedSetIterable iter X.env x = pure x := by intro _; rfl) : PE X (.DictComp kx vx [⟨tg, iter, ifs, 0⟩] scope pos) (tDcA t wi g tt tk tv (own.map (·.2))) := by
  refine ⟨fun pins s σ H Q I h => ?_⟩
  rw [arm_eval_DictComp]
  refine dcA_core hu hc hN I hi ok B hs h fun D C s' m H' J q hn f => ⟨m, hn, fun h'' only => ?_⟩
  obtain ⟨f0, f1, f2, f3, f4, f5⟩ := f
  exact ⟨.ref D, H', J.turned (t' := s'.toks) (fun b o hb e => (only.2 b hb).trans e) f0 f1 f3 f4 f5, rfl, q⟩
/-- .. over anything that is walked: Pv by the turn and the heap (the new dict at D within) -/
theorem dcA_it {J : It} {n : Nat} {G : Hp → Prop} {Y : Nat → Hp → V → Hp → Prop} (w : Walk J n G Y) {t : Bool} {g : TG} {tt : TT} {tk tv : TE} {vs : List Nat} {σ : L2.St} {H1 : Hp} {D : Addr} {Qd : Hp → Prop} (Pv : Nat → Hp → Prop) (h0 : Pv 0 (upd H1 D (mt t))) (hG : ∀ i H, i ≤ n → Pv i H → G H)
    (turn : ∀ i x H H', i < n → Pv i H → Y i H x H' → g x (wipe σ vs) H' fun σ2 H2 => wipe σ2 vs = wipe σ vs ∧ tt σ2 H2 fun b H3 =>
      if b = true then tk σ2 H3 fun y H4 => tv σ2 H4 fun z H5 => ∃ H6, DPut H5 D y z H6 ∧ Pv (i + 1) H6 else Pv (i + 1) H3) (hd : ∀ H, Pv n H → Qd H) :
    ∃ W : Nat → Nat → Hp → Prop, (∃ m, W 0 m (upd H1 D (mt t))) ∧ ∀ i m H, W i m H → (J.stop i H ∧ Qd H) ∨ (J.go i H ∧ ∃ Nx : Hp → Prop, (∀ H', Nx H' → ∃ m', m' < m ∧ W (i + 1) m' H') ∧ ∀ x H', J.yld i H x H' →
      g x (wipe σ vs) H' fun σ2 H2 => wipe σ2 vs = wipe σ vs ∧ tt σ2 H2 fun b H3 => if b = true then tk σ2 H3 fun y H4 => tv σ2 H4 fun z H5 => ∃ H6, DPut H5 D y z H6 ∧ Nx H6 else Nx H3) := by
  refine ⟨fun i m H => m = n - i ∧ i ≤ n ∧ Pv i H, ⟨n, (Nat.sub_zero n).symm, Nat.zero_le n, h0⟩, fun i m H ⟨em, le, p⟩ => ?_⟩
  rcases Nat.lt_or_ge i n with lt | ge
  · refine .inr ⟨w.goes i H lt (hG i H le p), Pv (i + 1), fun H' p' => ⟨n - (i + 1), by omega, rfl, lt, p'⟩, fun x H' y => turn i x H H' lt p (w.yields i H x H' lt (hG i H le p) y)⟩
  · obtain rfl : i = n := Nat.le_antisymm le ge
    exact .inl ⟨w.stops H (hG i H le p), hd H p⟩
end
end Dh

set_option Elab.async false
set_option linter.all false
set_option maxRecDepth 100000
set_option maxHeartbeats 2000000
/-! dict(pairs), tuple(d), d.clear() of dicts with tuple keys. -/
namespace Dh
open PySem PySem.Spec PyProof.Rows L2
/-- tuple(d): its keys -/
theorem tuple_of {prog : Program} {w : World} {A : Around} {E : Value → Shared → Prop} {s : Shared} {r d : Addr} {n : Nat} {P : Nat → Value → Prop} {OK : Heap → Prop} {Q : Value → Shared → Prop} (S : W.KdlSrc prog w "dict" r d n P OK) (hh : A.handled = none) (ok : OK s.heap) (hn : n ≤ sizeLine)
    (h : ∀ (h' : Heap) (tk : Nat) (acc : Array Value), (∀ b o, s.heap.get? b = some o → h'.get? b = some o) → ItemsOf P acc n → Q (.ref h'.objs.size) { s with heap := h'.push { cls := .type "tuple", data := .seq acc }, toks := tk }) :
    wpAny (model prog w) A (call (.type "tuple") [.ref r]) Q E s := by
  have body : codeAny (model prog w) A.in1 (.call (.builtin "tuple.__new__") ⟨[.type "tuple", .ref r], []⟩) (wants (fun obj s₁ => s₁.TypeIs obj "tuple" ∧ Q obj s₁) E) s := by
    refine codeAny_of_tree ?_
    show wpAny _ A.in1.in1 (do checkBuiltinCall "tuple.__new__" ⟨[.type "tuple", .ref r], []⟩; again (.builtin "tuple.__new__" ⟨[.type "tuple", .ref r], []⟩)) _ _ s
    refine wpAny_bind (wpAny_of_eq (PySem.F.newCall_tuple_1 _) (wpAny_pure ⟨plainId_quiet PySem.F.plain_tuple_new _, codeAny_builtin PySem.F.entry_tuple_new ?_⟩))
    rw [Around.under_plainId PySem.F.plain_tuple_new _]
    have f1 := sub_tuple_self
    have f2 := init_tuple_lookup
    have f3 := madeHere_tuple
    have f4 : s.TypeIs (.ref r) "dict" := S.type s ok
    have f5 : A.in1.in1.handled = none := hh
    wp_walk using wpAny_typeOf f4, W.kdu_collect (A := A.in1.in1) S f5 ok hn
    intro h' tk acc hk hacc
    show wpAny _ _ (Builtin.Tuple.tupleExact acc.toList.toArray >>= fun v => ret v) _ _ _
    rw [Array.toArray_toList]
    unfold Builtin.Tuple.tupleExact
    exact wpAny_bind (wpAny_newObj_type (wpAny_pure ⟨⟨_, Heap.get?_push_size _ rfl, rfl⟩, h h' tk acc hk hacc⟩) (by show acc.size ≤ sizeLine; rw [hacc.1]; exact hn))
  refine callType_codes (Q₁ := fun obj s₁ => s₁.TypeIs obj "tuple" ∧ Q obj s₁) PySem.F.called_tuple (PySem.F.typeCall_tuple_1 _) PySem.F.entry_object_init body fun obj s₁ h₁ => ?_
  exact ⟨h₁.1, PySem.F.args_object_init_2 obj _, object_init_meets PySem.F.called_tuple.init.lookup PySem.F.called_tuple.made (by decide) prog w A.in1 _ s₁ ⟨h₁.1, rfl, h₁.2⟩⟩
/-- a pair that is to become an entry: where it stands, where its key stands, the key, the value -/
structure Pr where
  at_ : Addr
  kat : Addr
  key : List Key
  val : V
def Pr.ok (K : W.Frag) (H : Hp) (e : Pr) : Prop := SqT K H e.at_ [.ref e.kat, e.val] ∧ H e.kat = some (.tup (e.key.map kV))
/-- the entries one after the other, a later one wins -/
def mergeT (kvs more : List (List Key × V)) : List (List Key × V) := more.foldl (fun acc kv => putK acc kv.1 kv.2) kvs
theorem length_mergeT : ∀ (more kvs : List (List Key × V)), (mergeT kvs more).length ≤ kvs.length + more.length
  | [], _ => Nat.le_refl _
  | p :: r, kvs => by
    have h1 := length_mergeT r (putK kvs p.1 p.2)
    have h2 := length_putK kvs p.1 p.2
    rw [List.length_cons]
    exact Nat.le_trans h1 (by omega)
theorem kt_merge {H : Hp} : ∀ {more : List (List Key × V)} {ps : List (List Key × Addr × Value)} {kvs : List (List Key × V)} {xs : List (List Key × Addr × Value)}, KT H more ps → KT H kvs xs → KT H (mergeT kvs more) (storedAllH xs ps)
  | _, _, _, _, .nil, r => r
  | p :: m, _, _, _, .cons (b := q) h t, r => by
    obtain ⟨k, v⟩ := p
    obtain ⟨k', b, u⟩ := q
    obtain ⟨h1, h2, h3⟩ := h
    have e : k = k' := h1
    subst e
    show KT H (mergeT (putK _ k v) m) (storedAllH (storedH _ k b u) _)
    exact kt_merge t (r.put k h2 h3)
section
variable {X : Cx}
theorem pairs_vals {pins : List (Addr × Obj)} {σ : L2.St} {H : Hp} {s : Shared} (I : Inv X pins σ H s) : ∀ L : List Pr, (∀ e ∈ L, e.ok X.K H) → ∃ ps : List (List Key × Addr × Value), KT H (L.map fun e => (e.key, e.val)) ps ∧ ps.length = L.length ∧
    (∀ (j : Nat) (x : List Key × Addr × Value), ps[j]? = some x → ∃ e : Pr, L[j]? = some e ∧ x.2.1 = e.kat ∧ PairAt s.heap e.at_ (.ref e.kat) x.2.2) ∧ ∀ x ∈ ps, (tupleKind (mixKind X.prog X.w)).is s.heap x.1 x.2.1
  | [], _ => ⟨[], .nil, rfl, (fun _ _ h => nomatch h), (fun _ h => nomatch h)⟩
  | e :: L, h => by
    obtain ⟨ps, h1, h2, h3, h4⟩ := pairs_vals I L fun e he => h e (List.mem_cons_of_mem _ he)
    obtain ⟨ht, hk⟩ := h e List.mem_cons_self
    obtain ⟨its, rv, tp, _⟩ := I.tuple ht
    obtain ⟨u1, u2, rfl, r1, r2⟩ := vals2 rv
    cases r1
    refine ⟨(e.key, e.kat, u2) :: ps, .cons ⟨rfl, hk, r2⟩ h1, by rw [List.length_cons, List.length_cons, h2], fun j x hx => ?_, fun x hx => ?_⟩
    · cases j with
      | zero =>
        have q : (e.key, e.kat, u2) = x := Option.some.inj hx
        subst q
        exact ⟨e, rfl, rfl, .inl tp⟩
      | succ j =>
        obtain ⟨e', g1, g2, g3⟩ := h3 j x (by simpa using hx)
        exact ⟨e', by simpa using g1, g2, g3⟩
    · rcases List.mem_cons.mp hx with rfl | hx
      · exact key_of I.hok hk
      · exact h4 x hx
/-- dict(pairs), the keys tuples -/
def rDictP (K : W.Frag) : List V → Hp → VK → Prop := fun xs H Q => ∃ (a : Addr) (L : List Pr), xs = [.ref a] ∧ SqL K H a (L.map fun e => V.ref e.at_) ∧ (∀ e ∈ L, e.ok K H) ∧ ∀ p, H p = none → Q (.ref p) (upd H p (.dT (mergeT [] (L.map fun e => (e.key, e.val)))))
theorem call_dictPT (hc : X.calm = true) (hu : X.A.units + 64 < cLine) : CallR X (.type "dict") (rDictP X.K) := by
  intro pins s σ H xs us Q I r h
  obtain ⟨a, L, rfl, hs, hp, q⟩ := h
  rw [Vals.ref1 r]
  obtain ⟨its, rv, pl, hz⟩ := I.list hs
  rw [List.length_map] at hz
  obtain ⟨ps, k1, k2, k3, k4⟩ := pairs_vals I L hp
  have ei : its = L.map fun e => Value.ref e.at_ := by
    clear hs pl hz hp q k1 k2 k3 k4
    induction L generalizing its with
    | nil => cases rv; rfl
    | cons e L ih =>
      rw [List.map_cons] at rv
      cases rv with
      | cons r t =>
        rw [ih _ t, List.map_cons]
        exact congrArg (· :: _) r
  subst ei
  obtain ⟨vs, evs⟩ : ∃ vs : List (Value × Value), vs = ps.map fun x => (Value.ref x.2.1, x.2.2) := ⟨_, rfl⟩
  have lv : vs.length = L.length := by rw [evs, List.length_map, k2]
  have items : PairItems s.heap (L.map fun e => Value.ref e.at_).toArray (fun j => ((L[j]?).map (·.at_)).getD 0) vs := by
    refine ⟨by rw [List.size_toArray, List.length_map, lv], fun j k v hj => ?_⟩
    rw [evs, List.getElem?_map] at hj
    obtain ⟨x, hx, ex⟩ := Option.map_eq_some_iff.mp hj
    obtain ⟨e, g1, g2, g3⟩ := k3 j x hx
    cases ex
    have g4 : ((L[j]?).map (·.at_)).getD 0 = e.at_ := by
      rw [g1]
      rfl
    show _ = some (Value.ref (((L[j]?).map (·.at_)).getD 0)) ∧ PairAt s.heap (((L[j]?).map (·.at_)).getD 0) _ _
    rw [g4]
    refine ⟨?_, ?_⟩
    · show (L.map fun e => Value.ref e.at_).toArray[j]? = some (Value.ref e.at_)
      rw [List.getElem?_toArray, List.getElem?_map, g1]
      rfl
    · rw [g2]
      exact g3
  have room : (tupleKind (mixKind X.prog X.w)).room X.A.in1.in1 := by
    show X.A.units + 1 + 1 < cLine
    omega
  have lo : ¬ (s.heap.objs.size = sysModules) := Nat.ne_of_gt I.big
  refine call_dict_pairsH (knd := tupleKind (mixKind X.prog X.w)) (ps := ps) (PairArg.list (prog := X.prog) (w := X.w) a (L.map fun e => Value.ref e.at_).toArray (fun j => ((L[j]?).map (·.at_)).getD 0) vs) (I.ok.hd hc) room ⟨?_, items⟩ ⟨?_, fun i key v hrel => ?_⟩ (fun h' kk x hx => ?_) (by omega) fun h' tk hd' hk => ?_
  · obtain ⟨o, n, ho, hcl, hdd, hdat⟩ := pl
    exact ⟨o, n, ho, hcl, hdd, hdat⟩
  · rw [lv, k2]
  · have hrel' : vs[i]? = some (key, v) := hrel
    rw [evs, List.getElem?_map] at hrel'
    obtain ⟨x, hx, ex⟩ := Option.map_eq_some_iff.mp hrel'
    cases ex
    exact ⟨x.1, x.2.1, hx, rfl⟩
  · refine tupleKind_stays.stays (fun b o vs n e _ => kk b o (Nat.ne_of_lt (Heap.lt_size e)) (fun z => nomatch z) e) (k4 x hx)
  · have hm : (s.heap.objs.size == sysModules) = false := beq_eq_false_iff_ne.mpr lo
    have len : (mergeT [] (L.map fun e => (e.key, e.val))).length ≤ sizeLine := by
      have := length_mergeT (L.map fun e => (e.key, e.val)) []
      rw [List.length_map] at this
      exact Nat.le_trans this (by rw [List.length_nil, Nat.zero_add]; exact hz)
    have fresh : H s.heap.objs.size = none := I.hok.fresh (Nat.le_refl _)
    obtain ⟨o, es, ep, g1, g2, g3, g4, _, g5⟩ := hd'
    refine ⟨.ref s.heap.objs.size, upd H s.heap.objs.size (.dT (mergeT [] (L.map fun e => (e.key, e.val)))), I.laid (t' := tk) (fun b o e => hk b o (fun z => nomatch z) e) (Nat.le_refl _) ⟨len, hm, _, ?_, o, es, ep, g1, g2, g3, g4, g5⟩, rfl, q _ fresh⟩
    refine (kt_merge k1 .nil).keeps fun b ys e => ?_
    rw [upd_ne (ne_of_none e fresh)]
    exact e
/-- d.clear(), the keys of d tuples -/
def rClearT : V → List V → Hp → VK → Prop := fun x vs H Q => ∃ (a : Addr) (kvs : List (List Key × V)), x = .ref a ∧ vs = [] ∧ H a = some (.dT kvs) ∧ Q .non (upd H a (.dT []))
theorem mt_clearT : MtR X "dict.clear" rClearT := by
  intro pins s σ H x vs v us Q I rx rv h
  obtain ⟨a, kvs, rfl, rfl, e, q⟩ := h
  cases rx
  obtain rfl := rv.zero
  obtain ⟨z, nm, xs, rel, dd⟩ := dt_of I.hok e
  have lx : kvs.length = xs.length := Paired.length rel
  refine clear_keyed (knd := tupleKind (mixKind X.prog X.w)) (kvs := pairsH xs) ⟨xs, dd, rfl⟩ (fun h' dk only => ?_) (by rw [pairsH_length]; omega)
  obtain ⟨ys, dy, ey⟩ := dk
  have ny : ys = [] := by
    cases ys with
    | nil => rfl
    | cons y r => exact nomatch ey
  subst ny
  obtain ⟨o, es, ep, g1, g2, g3, g4, _, g5⟩ := dy
  exact ⟨.non, upd H a (.dT []), d_write (t' := s.toks) I (by rw [e]; exact True.intro) only ⟨o, g1⟩ ⟨Nat.zero_le _, nm, [], .nil, o, es, ep, g1, g2, g3, g4, g5⟩, rfl, q⟩
/-- tuple(d), list(d) of tuple keys: the keys, in their order -/
def rTupD : List V → Hp → VK → Prop := fun xs H Q => ∃ (a : Addr) (kvs : List (List Key × V)), xs = [.ref a] ∧ Rd H a (.dT kvs) ∧ ∀ p bs, H p = none → IsKeys H kvs bs → Q (.ref p) (upd H p (.tup (bs.map V.ref)))
theorem call_tupleD (hc : X.calm = true) : CallR X (.type "tuple") rTupD := by
  intro pins s σ H xs us Q I r h
  obtain ⟨a, kvs, rfl, hd, q⟩ := h
  rw [Vals.ref1 r]
  obtain ⟨z, nm, ks, pr, o, es, ep, ho, hx, hdt, he, hn⟩ := (show ObjOk X.prog X.w H s.heap a (.dT kvs) from hd.ok I.hok)
  have l1 : es.size = ks.length := size_of_entries he
  have l2 : kvs.length = ks.length := Paired.length pr
  refine tuple_of (kdl_raw nm hx hdt) (I.ok.hd hc) ho (by omega) fun h' tk acc kp it => ?_
  have ea : acc.toList = (ks.map fun x => x.2.1).map Value.ref := by
    rw [List.map_map]
    refine List.ext_getElem? fun j => ?_
    rw [List.getElem?_map]
    rcases Nat.lt_or_ge j ks.length with lt | ge
    · have lt' : j < acc.toList.length := by rw [Array.length_toList, it.1, l1]; exact lt
      obtain ⟨en, hen, hv⟩ := it.2 j acc.toList[j] (by rw [← Array.getElem?_toList]; exact List.getElem?_eq_getElem lt')
      have qe := entry_at he j
      rw [hen, List.getElem?_eq_getElem lt] at qe
      rw [List.getElem?_eq_getElem lt', hv, Option.some.inj qe, List.getElem?_eq_getElem lt]
      rfl
    · rw [List.getElem?_eq_none (by rw [Array.length_toList, it.1, l1]; exact ge), List.getElem?_eq_none ge]
      rfl
  have rv : Vals ((ks.map fun x => x.2.1).map V.ref) acc.toList := by
    rw [ea]
    exact vals_refs _
  have I1 : Inv X pins σ H { s with heap := h', toks := tk } := I.kept kp
  have len : ((ks.map fun x => x.2.1).map V.ref).length ≤ sizeLine := by
    rw [List.length_map, List.length_map]
    omega
  exact ⟨.ref h'.objs.size, upd H h'.objs.size (.tup ((ks.map fun x => x.2.1).map V.ref)), I1.laid (t' := tk) (fun b u e => Heap.get?_push_of_some _ e) (Nat.le_refl _) ⟨len, acc.toList, rv, ⟨_, Heap.get?_push_size _ rfl, rfl, 0, by simp⟩⟩, rfl, q _ _ (I1.hok.fresh (Nat.le_refl _)) (isKeys_of pr)⟩
end
end Dh

set_option Elab.async false
set_option linter.all false
set_option maxRecDepth 100000
set_option maxHeartbeats 4000000
/-! Values as data: their types, what isinstance says. -/
namespace An
open PySem PySem.Spec PyProof.Rows L2 Rp
mutual
/-- what is read as data, dicts within lists and tuples too -/
inductive Dq (K : PySem.W.Frag) (H : Hp) : V → PyData → Prop
  | non : Dq K H .non .none
  | bl (b : Bool) : Dq K H (.bl b) (.bool b)
  | int (i : Int) : Dq K H (.int i) (.int i)
  | str (x : Str) : Dq K H (.str x) (.str x)
  | lst {a : Addr} {xs : List V} {ds : List PyData} : SqL K H a xs → DqAll K H xs ds → Dq K H (.ref a) (.list ds)
  | tup {a : Addr} {xs : List V} {ds : List PyData} : SqT K H a xs → DqAll K H xs ds → Dq K H (.ref a) (.tuple ds)
  | dic {a : Addr} {ks : List (Key × V)} {ds : List (PyData × PyData)} : Rd H a (.dK ks) → Dq K H (.ref a) (.dict ds)
inductive DqAll (K : PySem.W.Frag) (H : Hp) : List V → List PyData → Prop
  | nil : DqAll K H [] []
  | cons {v : V} {vs : List V} {d : PyData} {ds : List PyData} : Dq K H v d → DqAll K H vs ds → DqAll K H (v :: vs) (d :: ds)
end
theorem DqAll.len {K : PySem.W.Frag} {H : Hp} : ∀ {vs : List V} {ds : List PyData}, DqAll K H vs ds → vs.length = ds.length
  | _, _, .nil => rfl
  | _, _, .cons _ t => congrArg (· + 1) (DqAll.len t)
mutual
theorem q_of {K : PySem.W.Frag} {H : Hp} : ∀ (d : PyData) (v : V), Rp.Dat K H v d → Dq K H v d
  | _, _, .non => .non
  | _, _, .bl b => .bl b
  | _, _, .int i => .int i
  | _, _, .str x => .str x
  | _, _, .lst (ds := ds) hs ha _ => .lst hs (qs_of ds _ ha)
  | _, _, .tup (ds := ds) hs ha _ => .tup hs (qs_of ds _ ha)
  | _, _, .dic hs _ _ => .dic hs
theorem qs_of {K : PySem.W.Frag} {H : Hp} : ∀ (ds : List PyData) (vs : List V), Rp.DatAll K H vs ds → DqAll K H vs ds
  | _, _, .nil => .nil
  | _, _, .cons h t => .cons (q_of _ _ h) (qs_of _ _ t)
end
theorem _root_.Rp.Dat.q {K : PySem.W.Frag} {H : Hp} {v : V} {d : PyData} (h : Rp.Dat K H v d) : Dq K H v d := q_of _ _ h
theorem _root_.Rp.DatAll.q {K : PySem.W.Frag} {H : Hp} {vs : List V} {ds : List PyData} (h : Rp.DatAll K H vs ds) : DqAll K H vs ds := qs_of _ _ h
def tyD : PyData → String
  | .none => "NoneType"
  | .bool _ => "bool"
  | .int _ => "int"
  | .str _ => "str"
  | .list _ => "list"
  | .tuple _ => "tuple"
  | .dict _ => "dict"
section
variable {K : PySem.W.Frag} {H : Hp} {v : V} {d : PyData}
theorem dat_ty (h : Dq K H v d) : TyX K H v (.type (tyD d)) := by
  cases h with
  | non => exact .base .non
  | bl b => exact .base (.bl b)
  | int i => exact .base (.int i)
  | str x => exact .base (.str x)
  | lst q _ =>
    rcases q with (q | ⟨o, q⟩) | ⟨o, its, n, q1, q2, _⟩
    · exact .base (.lst q)
    · exact .base (.frz q)
    · exact .kList q1 q2
  | tup q _ =>
    rcases q with (q | ⟨o, q⟩) | ⟨o, its, n, q1, q2, _⟩
    · exact .base (.tup q)
    · exact .fTuple q
    · exact .kTuple q1 q2
  | dic q =>
    rcases q with q | ⟨o, q⟩
    · exact .base (.dK q)
    · exact .fDict q
def isStr : PyData → Bool
  | .str _ => true
  | _ => false
def isIntB : PyData → Bool
  | .int _ => true
  | .bool _ => true
  | _ => false
def isBool : PyData → Bool
  | .bool _ => true
  | _ => false
def isTup : PyData → Bool
  | .tuple _ => true
  | _ => false
def isDict : PyData → Bool
  | .dict _ => true
  | _ => false
theorem kit_str (d : PyData) : PySem.W.kitOne K (.type (tyD d)) (.type "str") = some (isStr d) := by
  cases d with
  | none => exact kit_ty (a := "NoneType") (b := "str") (r := false) (by decide +kernel)
  | bool _ => exact kit_ty (a := "bool") (b := "str") (r := false) (by decide +kernel)
  | int _ => exact kit_ty (a := "int") (b := "str") (r := false) (by decide +kernel)
  | str _ => exact kit_ty (a := "str") (b := "str") (r := true) (by decide +kernel)
  | list _ => exact kit_ty (a := "list") (b := "str") (r := false) (by decide +kernel)
  | tuple _ => exact kit_ty (a := "tuple") (b := "str") (r := false) (by decide +kernel)
  | dict _ => exact kit_ty (a := "dict") (b := "str") (r := false) (by decide +kernel)
theorem kit_int (d : PyData) : PySem.W.kitOne K (.type (tyD d)) (.type "int") = some (isIntB d) := by
  cases d with
  | none => exact kit_ty (a := "NoneType") (b := "int") (r := false) (by decide +kernel)
  | bool _ => exact kit_ty (a := "bool") (b := "int") (r := true) (by decide +kernel)
  | int _ => exact kit_ty (a := "int") (b := "int") (r := true) (by decide +kernel)
  | str _ => exact kit_ty (a := "str") (b := "int") (r := false) (by decide +kernel)
  | list _ => exact kit_ty (a := "list") (b := "int") (r := false) (by decide +kernel)
  | tuple _ => exact kit_ty (a := "tuple") (b := "int") (r := false) (by decide +kernel)
  | dict _ => exact kit_ty (a := "dict") (b := "int") (r := false) (by decide +kernel)
theorem kit_bool (d : PyData) : PySem.W.kitOne K (.type (tyD d)) (.type "bool") = some (isBool d) := by
  cases d with
  | none => exact kit_ty (a := "NoneType") (b := "bool") (r := false) (by decide +kernel)
  | bool _ => exact kit_ty (a := "bool") (b := "bool") (r := true) (by decide +kernel)
  | int _ => exact kit_ty (a := "int") (b := "bool") (r := false) (by decide +kernel)
  | str _ => exact kit_ty (a := "str") (b := "bool") (r := false) (by decide +kernel)
  | list _ => exact kit_ty (a := "list") (b := "bool") (r := false) (by decide +kernel)
  | tuple _ => exact kit_ty (a := "tuple") (b := "bool") (r := false) (by decide +kernel)
  | dict _ => exact kit_ty (a := "dict") (b := "bool") (r := false) (by decide +kernel)
theorem kit_tup (d : PyData) : PySem.W.kitOne K (.type (tyD d)) (.type "tuple") = some (isTup d) := by
  cases d with
  | none => exact kit_ty (a := "NoneType") (b := "tuple") (r := false) (by decide +kernel)
  | bool _ => exact kit_ty (a := "bool") (b := "tuple") (r := false) (by decide +kernel)
  | int _ => exact kit_ty (a := "int") (b := "tuple") (r := false) (by decide +kernel)
  | str _ => exact kit_ty (a := "str") (b := "tuple") (r := false) (by decide +kernel)
  | list _ => exact kit_ty (a := "list") (b := "tuple") (r := false) (by decide +kernel)
  | tuple _ => exact kit_ty (a := "tuple") (b := "tuple") (r := true) (by decide +kernel)
  | dict _ => exact kit_ty (a := "dict") (b := "tuple") (r := false) (by decide +kernel)
theorem kit_dict (d : PyData) : PySem.W.kitOne K (.type (tyD d)) (.type "dict") = some (isDict d) := by
  cases d with
  | none => exact kit_ty (a := "NoneType") (b := "dict") (r := false) (by decide +kernel)
  | bool _ => exact kit_ty (a := "bool") (b := "dict") (r := false) (by decide +kernel)
  | int _ => exact kit_ty (a := "int") (b := "dict") (r := false) (by decide +kernel)
  | str _ => exact kit_ty (a := "str") (b := "dict") (r := false) (by decide +kernel)
  | list _ => exact kit_ty (a := "list") (b := "dict") (r := false) (by decide +kernel)
  | tuple _ => exact kit_ty (a := "tuple") (b := "dict") (r := false) (by decide +kernel)
  | dict _ => exact kit_ty (a := "dict") (b := "dict") (r := true) (by decide +kernel)
/-- isinstance of a datum -/
theorem isi_dat {Q : VK} {c : V} {cv : Value} {b : Bool} (h : Dq K H v d) (hc : ClsV c cv) (k : PySem.W.kitOne K (.type (tyD d)) cv = some b) (q : Q (.bl b) H) : rIsi K [v, c] H Q :=
  ⟨v, c, _, cv, b, rfl, hc, dat_ty h, k, q⟩
theorem dat_str (h : Dq K H v d) (e : isStr d = true) : ∃ z, v = .str z ∧ d = .str z := by
  cases h <;> first | exact ⟨_, rfl, rfl⟩ | cases e
theorem dat_int (h : Dq K H v d) (e : isIntB d = true) (n : isBool d = false) : ∃ i, v = .int i ∧ d = .int i := by
  cases h <;> first | exact ⟨_, rfl, rfl⟩ | exact Bool.noConfusion (show false = true from e) | exact Bool.noConfusion (show true = false from n)
theorem dat_tup (h : Dq K H v d) (e : isTup d = true) : ∃ a xs ds, v = .ref a ∧ d = .tuple ds ∧ SqT K H a xs ∧ DqAll K H xs ds := by
  cases h <;> first | exact ⟨_, _, _, rfl, rfl, ‹_›, ‹_›⟩ | cases e
theorem datAll_get : ∀ {vs : List V} {ds : List PyData}, DqAll K H vs ds → ∀ {i : Nat} {x : V}, vs[i]? = some x → ∃ y, ds[i]? = some y ∧ Dq K H x y
  | _, _, .nil, i, x, h => by cases h
  | _, _, .cons r t, 0, x, h => by
    have e := Option.some.inj h
    subst e
    exact ⟨_, rfl, r⟩
  | _, _, .cons r t, i + 1, x, h => datAll_get t h
end
/-! what a program's own tests say of data -/
def B60 : Int := 10 ^ 60
def isNumD : PyData → Bool
  | .int _ => true
  | _ => false
def isIntD : PyData → Bool
  | .int i => decide (-B60 < i) && decide (i < B60)
  | _ => false
def areIntsD : PyData → Bool
  | .tuple xs => xs.all isIntD
  | _ => false
def lenD : PyData → Nat
  | .tuple xs => xs.length
  | _ => 0
def isRowD (d : PyData) : Bool := areIntsD d && (decide (1 ≤ lenD d) && decide (lenD d ≤ 4))
def isHeadD (d : PyData) : Bool := areIntsD d && decide (lenD d ≤ 3)
def nameS (z : Str) : Bool := !decide (z.length > 8) && (Txt.isascii z && (Txt.isalpha z && Txt.islower z))
def isNameD : PyData → Bool
  | .str z => nameS z
  | _ => false
def forms : List Str := ["distinct", "count", "sum"]
def isFormD : PyData → Bool
  | .str z => decide (z ∈ forms)
  | _ => false
/-- a test of one datum -/
def spIs (f : PyData → Bool) (K : PySem.W.Frag) : Sp := fun vs H Q _ => ∃ v d, vs = [v] ∧ Dq K H v d ∧ Q (.bl (f d)) H
end An
namespace An
open PySem PySem.Spec PyProof.Rows L2 Rp
/-- a text that is not too long -/
def shortD : PyData → Bool
  | .str z => decide (z.length ≤ 1000)
  | _ => true
def spName (K : PySem.W.Frag) : Sp := fun vs H Q _ => ∃ v d, vs = [v] ∧ Dq K H v d ∧ shortD d = true ∧ Q (.bl (isNameD d)) H
end An

namespace An
open PySem PySem.Spec PyProof.Rows L2 Rp
abbrev rLenR (K : PySem.W.Frag) : List V → Hp → VK → Prop := fun xs H Q => ∃ x n, xs = [x] ∧ LenV K x H n ∧ Q (.int (n : Nat)) H
end An

namespace An
open PySem PySem.Spec PyProof.Rows L2 Rp
/-- a datum, or something else that is no tuple (as data: None) -/
def ArgD (K : PySem.W.Frag) (H : Hp) (v : V) (d : PyData) : Prop := Dq K H v d ∨ (d = .none ∧ ∃ t, TyX K H v t ∧ PySem.W.kitOne K t (.type "tuple") = some false)
theorem ArgD.tup {K : PySem.W.Frag} {H : Hp} {v : V} {d : PyData} (h : ArgD K H v d) : ∃ t, TyX K H v t ∧ PySem.W.kitOne K t (.type "tuple") = some (isTup d) := by
  rcases h with h | ⟨rfl, t, h1, h2⟩
  · exact ⟨_, dat_ty h, kit_tup d⟩
  · exact ⟨t, h1, h2⟩
theorem ArgD.dat {K : PySem.W.Frag} {H : Hp} {v : V} {d : PyData} (h : ArgD K H v d) (e : isTup d = true) : Dq K H v d := by
  rcases h with h | ⟨rfl, _⟩
  · exact h
  · cases e
def spArg (f : PyData → Bool) (K : PySem.W.Frag) : Sp := fun vs H Q _ => ∃ v d, vs = [v] ∧ ArgD K H v d ∧ Q (.bl (f d)) H
end An
namespace An
open PySem PySem.Spec PyProof.Rows L2 Rp
/-- all but the tables of code objects stays -/
def Ext (H H1 : Hp) : Prop := ∀ b o, H b = some o → (∀ ps, o ≠ .tbl ps) → H1 b = some o
theorem Ext.refl (H : Hp) : Ext H H := fun _ _ h _ => h
theorem Ext.trans {H H1 H2 : Hp} (a : Ext H H1) (b : Ext H1 H2) : Ext H H2 := fun c o h n => b c o (a c o h n) n
theorem Ext.of {H H1 : Hp} (S : Same H H1) : Ext H H1 := fun b o h _ => S b o h
section
variable {K : PySem.W.Frag} {H H1 : Hp} {p : Addr}
theorem Ext.lst {xs : List V} (S : Ext H H1) (h : H p = some (.lst xs)) : H1 p = some (.lst xs) := S _ _ h (fun _ z => nomatch z)
theorem Ext.tup {xs : List V} (S : Ext H H1) (h : H p = some (.tup xs)) : H1 p = some (.tup xs) := S _ _ h (fun _ z => nomatch z)
theorem Ext.dT {xs : List (List Key × V)} (S : Ext H H1) (h : H p = some (.dT xs)) : H1 p = some (.dT xs) := S _ _ h (fun _ z => nomatch z)
theorem Ext.ins {C dx : Addr} {fs : List (Str × V)} (S : Ext H H1) (h : H p = some (.ins C dx fs)) : H1 p = some (.ins C dx fs) := S _ _ h (fun _ z => nomatch z)
theorem Ext.rd {o : HO} (S : Ext H H1) (n : ∀ ps, o ≠ .tbl ps) (h : Rd H p o) : Rd H1 p o := by
  rcases h with h | ⟨u, h⟩
  · exact .inl (S _ _ h n)
  · exact .inr ⟨u, S _ _ h (fun _ z => nomatch z)⟩
theorem Ext.sqL {xs : List V} (S : Ext H H1) (h : SqL K H p xs) : SqL K H1 p xs := h.imp (S.rd (fun _ z => nomatch z)) id
theorem Ext.sqT {xs : List V} (S : Ext H H1) (h : SqT K H p xs) : SqT K H1 p xs := h.imp (S.rd (fun _ z => nomatch z)) id
mutual
theorem dat_ext (S : Ext H H1) : ∀ (d : PyData) (v : V), Dat K H v d → Dat K H1 v d
  | _, _, .non => .non
  | _, _, .bl b => .bl b
  | _, _, .int i => .int i
  | _, _, .str x => .str x
  | _, _, .lst (ds := ds) hs ha hn => .lst (S.sqL hs) (dats_ext S ds _ ha) hn
  | _, _, .tup (ds := ds) hs ha hn => .tup (S.sqT hs) (dats_ext S ds _ ha) hn
  | _, _, .dic (ds := ds) hs ha hn => .dic (S.rd (fun _ z => nomatch z) hs) (dats_ext S ds _ ha) hn
theorem dats_ext (S : Ext H H1) : ∀ (ds : List PyData) (vs : List V), DatAll K H vs ds → DatAll K H1 vs ds
  | _, _, .nil => .nil
  | _, _, .cons h t => .cons (dat_ext S _ _ h) (dats_ext S _ _ t)
end
theorem dat_same (S : Same H H1) {d : PyData} {v : V} (h : Dat K H v d) : Dat K H1 v d := dat_ext (.of S) _ _ h
theorem dats_same (S : Same H H1) {ds : List PyData} {vs : List V} (h : DatAll K H vs ds) : DatAll K H1 vs ds := dats_ext (.of S) _ _ h
mutual
theorem dq_ext (S : Ext H H1) : ∀ (d : PyData) (v : V), Dq K H v d → Dq K H1 v d
  | .none, _, h => by
    cases h
    exact .non
  | .bool b, _, h => by
    cases h
    exact .bl b
  | .int i, _, h => by
    cases h
    exact .int i
  | .str x, _, h => by
    cases h
    exact .str x
  | .list ds, _, h => by
    cases h with
    | lst hs ha => exact .lst (S.sqL hs) (dqs_ext S ds _ ha)
  | .tuple ds, _, h => by
    cases h with
    | tup hs ha => exact .tup (S.sqT hs) (dqs_ext S ds _ ha)
  | .dict ds, _, h => by
    cases h with
    | dic hs => exact .dic (S.rd (fun _ z => nomatch z) hs)
theorem dqs_ext (S : Ext H H1) : ∀ (ds : List PyData) (vs : List V), DqAll K H vs ds → DqAll K H1 vs ds
  | [], _, h => by
    cases h
    exact .nil
  | d :: ds, _, h => by
    cases h with
    | cons h t => exact .cons (dq_ext S d _ h) (dqs_ext S ds _ t)
end
theorem dq_same (S : Same H H1) {d : PyData} {v : V} (h : Dq K H v d) : Dq K H1 v d := dq_ext (.of S) _ _ h
theorem dqs_same (S : Same H H1) {ds : List PyData} {vs : List V} (h : DqAll K H vs ds) : DqAll K H1 vs ds := dqs_ext (.of S) _ _ h
end
end An

set_option Elab.async false
set_option linter.all false
set_option maxRecDepth 100000
set_option maxHeartbeats 4000000
/-! len(set(xs)), xs a list of ints, perhaps repeated. -/
namespace SL
open PySem PySem.Spec PyProof.Rows L2
/-- the different ints, as they first come -/
def dist (ns : List Int) : List Int := ns.foldl step_dedup []
theorem firstMet_all (ns : List Int) : firstMet (fun i => ns.getD i 0) ns.length = dist ns := by
  unfold firstMet dist
  congr 1
  refine List.ext_getElem (by simp) fun i h1 h2 => ?_
  rw [List.getElem_map, List.getElem_range, List.getD_eq_getElem?_getD, List.getElem?_eq_getElem h2]
  rfl
theorem mem_dist (x : Int) : ∀ (ns acc : List Int), x ∈ ns.foldl step_dedup acc ↔ x ∈ acc ∨ x ∈ ns
  | [], acc => by simp
  | n :: ns, acc => by
    rw [List.foldl_cons, mem_dist x ns]
    unfold step_dedup
    by_cases h : (acc.any (· == n)) = true
    · rw [if_pos h]
      obtain ⟨y, hy, e⟩ := List.any_eq_true.mp h
      have e2 : y = n := eq_of_beq e
      subst e2
      constructor
      · rintro (q | q)
        · exact .inl q
        · exact .inr (List.mem_cons_of_mem _ q)
      · rintro (q | q)
        · exact .inl q
        · rcases List.mem_cons.mp q with rfl | q
          · exact .inl hy
          · exact .inr q
    · rw [if_neg h]
      simp only [List.mem_append, List.mem_singleton, List.mem_cons, List.not_mem_nil, or_false]
      constructor
      · rintro ((q | q) | q)
        · exact .inl q
        · exact .inr (.inl q)
        · exact .inr (.inr q)
      · rintro (q | q | q)
        · exact .inl (.inl q)
        · exact .inl (.inr q)
        · exact .inr q
theorem dedup_nd : ∀ (ns acc : List Int), acc.Nodup → (ns.foldl step_dedup acc).Nodup
  | [], _, h => h
  | n :: ns, acc, h => by
    rw [List.foldl_cons]
    refine dedup_nd ns _ ?_
    unfold step_dedup
    by_cases q : (acc.any (· == n)) = true
    · rw [if_pos q]
      exact h
    · rw [if_neg q]
      refine List.nodup_append.mpr ⟨h, List.nodup_cons.mpr ⟨by simp, List.nodup_nil⟩, fun a ha b hb e => ?_⟩
      have hb' : b = n := by simpa using hb
      subst hb'
      subst e
      exact q (List.any_eq_true.mpr ⟨a, ha, beq_self_eq_true a⟩)
theorem dist_nd (ns : List Int) : (dist ns).Nodup := dedup_nd ns [] List.nodup_nil
theorem dist_mem {ns : List Int} {x : Int} : x ∈ dist ns ↔ x ∈ ns := by
  unfold dist
  rw [mem_dist]
  simp
/-- at most one int -/
theorem dist_one (ns : List Int) : (dist ns).length ≤ 1 ↔ ∀ a ∈ ns, ∀ b ∈ ns, a = b := by
  have nd := dist_nd ns
  constructor
  · intro h a ha b hb
    rw [← dist_mem] at ha hb
    match dist ns, h, ha, hb with
    | [x], _, ha, hb => rw [List.mem_singleton.mp ha, List.mem_singleton.mp hb]
  · intro h
    have q : ∀ a ∈ dist ns, ∀ b ∈ dist ns, a = b := fun a ha b hb => h a (dist_mem.mp ha) b (dist_mem.mp hb)
    match dist ns, nd, q with
    | [], _, _ => exact Nat.zero_le _
    | [x], _, _ => exact Nat.le_refl _
    | x :: y :: r, nd, q =>
      have e : x = y := q x List.mem_cons_self y (List.mem_cons_of_mem _ List.mem_cons_self)
      subst e
      exact absurd List.mem_cons_self (List.nodup_cons.mp nd).1
def tLenSetD (K : PySem.W.Frag) (ta : TE) : TE := fun σ H Q => ta σ H fun x H1 => ∃ (l : Addr) (ns : List Int), x = .ref l ∧ SqL K H1 l (ns.map V.int) ∧ ns.length ≤ 4000 ∧ Q (.int ((dist ns).length : Nat)) H1
theorem pe_lenSetD {X : Cx} {a : Expr} {ta : TE} {p p2 q pos : Pos} (hg : Gl X "len") (hm : X.mg "len" = none) (hg2 : Gl X "set") (hm2 : X.mg "set" = none) (ha : PE X a ta) (hc : X.calm = true := by rfl)
    (na : starEach [a] X.env = (false, eval a X.env) :: starEach [] X.env := by rfl) : PE X (.Call (.Name "len" p) [.Call (.Name "set" p2) [a] [] q] [] pos) (tLenSetD X.K ta) := by
  refine ⟨fun pins s σ H Q I h => ?_⟩
  refine Call_ (ld_blt I hg hm boot_len ?_)
  refine PyProof.Rows.callWith_builtin1 (PyProof.Rows.args_cons ?_ rfl) rfl rfl
  refine Call_ (ld_blt I hg2 hm2 boot_set ?_)
  refine PyProof.Rows.callWith_type1 (PyProof.Rows.args_cons (thn (ha.run pins s σ H _ I h) fun v s1 ⟨x, H1, I1, r1, q1⟩ => PyProof.Rows.args_nil ?_) na) na rfl
  obtain ⟨l, ns, rfl, hq, hl, q1⟩ := q1
  cases r1
  obtain ⟨its, r, pl, hz⟩ := I1.list hq
  have hlen : its.toArray.size = ns.length := by rw [List.size_toArray, ← r.length, List.length_map]
  refine call_set_list (I1.ok.hd hc) pl.isList (by simpa using RZ.intsAre_vals r) (by rw [hlen]; unfold scanBound; omega) fun h' tk hS hk => ?_
  refine PyProof.Rows.args_nil ?_
  rw [hlen, firstMet_all] at hS
  obtain ⟨o, es, ep, t, ho, hex, hd, _, _, _, hf, hn⟩ := hS
  have I2 : Inv X pins σ H1 { s1 with heap := h', toks := tk } := I1.kept fun b o e => hk b o (Heap.lt_size e) e
  have le : (dist ns).length ≤ ns.length := by
    rw [← firstMet_all]
    exact firstMet_length_le _ _
  exact call_len_set ho hex hd hf (by rw [hn] <;> omega) ⟨.int (dist ns).length, H1, I2.tok _, ⟨_, by rw [hn]⟩, q1⟩
end SL

set_option Elab.async false
set_option linter.all false
set_option maxRecDepth 100000
set_option maxHeartbeats 4000000
/-! Dicts whose keys are of several kinds: made from pairs with different keys, walked by keys. -/
namespace Mx
open PySem PySem.Spec PyProof.Rows L2
open SeqAt
/-- a stored key: what it is, its value, what it keeps -/
abbrev Ent := NestedKey × Value × Value
def ent (w : World) (x : Ent) : DictEntry := ⟨x.1.hash w, x.2.1, x.2.2⟩
def KeyOk (h : Heap) (k : NestedKey) (v : Value) : Prop := NestedIs h k v ∧ k.depth ≤ 8
section
variable {prog : Program} {w : World} {A : Around} {E : Value → Shared → Prop} {s : Shared}
theorem ent_at {es : Array DictEntry} {xs : List Ent} (he : es.toList = xs.map (ent w)) (j : Nat) : es[j]? = (xs[j]?).map (ent w) := by
  rw [← Array.getElem?_toList, he, List.getElem?_map]
theorem ent_size {es : Array DictEntry} {xs : List Ent} (he : es.toList = xs.map (ent w)) : es.size = xs.length := by
  rw [← Array.length_toList, he, List.length_map]
theorem ent_mem {es : Array DictEntry} {xs : List Ent} (he : es.toList = xs.map (ent w)) : ∀ e ∈ es, ∃ x ∈ xs, e = ent w x := by
  intro e hin
  have q : e ∈ xs.map (ent w) := he ▸ Array.mem_toList_iff.mpr hin
  obtain ⟨x, hx, rfl⟩ := List.mem_map.mp q
  exact ⟨x, hx, rfl⟩
theorem tells_not {key : Value} {k : NestedKey} {stored : List Value} {Q : Bool → Shared → Prop} (hk : KeyOk s.heap k key) (hst : ∀ v ∈ stored, ∃ k', KeyOk s.heap k' v) (h : Q false s) : wpAny (model prog w) A (tableMayTell key stored) Q E s := by
  unfold tableMayTell
  split
  · exact wpAny_pure h
  · refine wpAny_bind (quiet_key k key 8 s hk.1 hk.2 A E _ ?_)
    simp only [Bool.not_true, Bool.false_eq_true, if_false]
    refine wpAny_bind ?_
    refine wpAny_forIn_list _ (fun rest r s' => s' = s ∧ r = (none, ()) ∧ ∀ v ∈ rest, ∃ k', KeyOk s.heap k' v) _ ?_ ?_ _ _ ⟨rfl, rfl, hst⟩
    · rintro x rest r s' ⟨rfl, rfl, hr⟩
      obtain ⟨k', hb⟩ := hr x List.mem_cons_self
      refine wpAny_bind (quiet_key k' x 8 s' hb.1 hb.2 A E _ ?_)
      simp only [Bool.not_true, Bool.false_eq_true, if_false]
      exact wpAny_pure ⟨rfl, rfl, fun v hv => hr v (List.mem_cons_of_mem _ hv)⟩
    · rintro r s' ⟨rfl, rfl, _⟩
      exact wpAny_pure h
/-- a key that is not there is not found -/
theorem find_none {d : Addr} {o : Obj} {es : Array DictEntry} {ep : Nat} {xs : List Ent} {k : NestedKey} {key : Value} {Q : Option Nat → Shared → Prop} (hu : A.units + 8 < cLine) (hk : KeyOk s.heap k key)
    (ho : s.heap.get? d = some o) (hd : o.data = .dict es ep) (he : es.toList = xs.map (ent w)) (his : ∀ x ∈ xs, KeyOk s.heap x.1 x.2.1) (hne : ∀ x ∈ xs, x.1 ≠ k)
    (hv : carriedByValue key = true → ∀ x ∈ xs, carriedByValue x.2.1 = false) (h : Q none s) : wpAny (model prog w) A (dictFind d key (k.hash w)) Q E s := by
  have hmem := ent_mem he
  have hpl : ∀ i ∈ placesWithHash es.size (fun i => es[i]?.map (·.hash)) (k.hash w), ∃ x ∈ xs, es[i]? = some (ent w x) ∧ x.1.hash w = k.hash w := by
    intro i hi
    obtain ⟨h1, h2⟩ := List.mem_filter.mp hi
    have hl : i < es.size := List.mem_range.mp h1
    obtain ⟨x, hx, ex⟩ := hmem es[i] (Array.getElem_mem hl)
    refine ⟨x, hx, by rw [Array.getElem?_eq_getElem hl, ex], ?_⟩
    have h2 : (Option.map (fun x : DictEntry => x.hash) es[i]? == some (k.hash w)) = true := h2
    rw [Array.getElem?_eq_getElem hl, ex] at h2
    simpa [ent] using h2
  unfold dictFind
  try with_reducible refine wpAny_holding ?_
  refine wpAny_bind (wpAny_dictEntries ho hd ?_)
  dsimp only
  generalize placesWithHash es.size (fun i => es[i]?.map (·.hash)) (k.hash w) = pl at hpl ⊢
  have hst : ∀ v ∈ pl.filterMap (fun i => es[i]?.map (·.key)), ∃ x ∈ xs, v = x.2.1 := by
    intro v hvv
    obtain ⟨i, hi, q⟩ := List.mem_filterMap.mp hvv
    obtain ⟨x, hx, ex, _⟩ := hpl i hi
    rw [ex] at q
    have q : x.2.1 = v := by simpa [ent] using q
    exact ⟨x, hx, q.symm⟩
  have nil_of : (∀ v, v ∈ pl.filterMap (fun i => es[i]?.map (·.key)) → False) → pl = [] := fun no => by
    cases pl with
    | nil => rfl
    | cons i r =>
      obtain ⟨x, hx, ex, _⟩ := hpl i List.mem_cons_self
      refine (no x.2.1 (List.mem_filterMap.mpr ⟨i, List.mem_cons_self, ?_⟩)).elim
      rw [ex]
      rfl
  have str_no : ∀ y t, key = .str y t → xs ≠ [] → ¬ (es.all fun e => isExactStrKey e.key) = true := fun y t e ne q => by
    cases xs with
    | nil => exact ne rfl
    | cons x r =>
      have c := hv (by rw [e]; rfl) x List.mem_cons_self
      have hm : ent w x ∈ es := Array.mem_toList_iff.mp (by rw [he]; exact List.mem_cons_self)
      have z := Array.all_eq_true'.mp q _ hm
      have z' : isExactStrKey x.2.1 = true := z
      cases hx : x.2.1 <;> rw [hx] at z' c <;> first | exact Bool.noConfusion z' | exact Bool.noConfusion c
  have all_nil : carriedByValue key = true → (key :: pl.filterMap (fun i => es[i]?.map (·.key))).all carriedByValue = true → pl = [] := fun c q => nil_of fun v hvv => by
    obtain ⟨x, hx, ex⟩ := hst v hvv
    have z := List.all_eq_true.mp q v (List.mem_cons_of_mem _ hvv)
    rw [ex, hv c x hx] at z
    cases z
  have not_one : ¬ (pl.filterMap (fun i => es[i]?.map (·.key)) == [key]) = true := fun q => by
    have q2 := eq_of_beq q
    obtain ⟨x, hx, ex⟩ := hst key (by rw [q2]; exact List.mem_cons_self)
    exact hne x hx (NestedIs.inj _ _ _ (his x hx).1 (by rw [← ex]; exact hk.1))
  have hst2 : ∀ v ∈ pl.filterMap (fun i => es[i]?.map (·.key)), ∃ k', KeyOk s.heap k' v := fun v hvv => by
    obtain ⟨x, hx, ex⟩ := hst v hvv
    exact ⟨x.1, by rw [ex]; exact his x hx⟩
  have no_stale : ¬ (es.any fun e => e.key == key && e.hash != k.hash w) = true := by
    rw [← Array.any_toList, List.any_eq_true]
    rintro ⟨e, hin, hc⟩
    obtain ⟨x, hx, rfl⟩ := hmem e (Array.mem_toList_iff.mp hin)
    rw [Bool.and_eq_true] at hc
    have hxa : x.2.1 = key := eq_of_beq hc.1
    exact hne x hx (NestedIs.inj _ _ _ (his x hx).1 (by rw [hxa]; exact hk.1))
  obtain ⟨hk1, hk2⟩ := hk
  have hk1' := hk1
  cases hk1 with
  | @tup a0 o0 vs0 n0 ks0 g1 g2 g3 g4 =>
    dsimp only
    rw [if_neg (by simp [carriedByValue]), if_neg no_stale, if_neg not_one]
    refine wpAny_bind (tells_not ⟨hk1', hk2⟩ hst2 ?_)
    rw [if_neg (by simp)]
    refine wpAny_bind ?_
    refine wpAny_forIn_list _ (fun rest b s' => s' = s ∧ b = (none, none) ∧ ∀ i ∈ rest, ∃ x ∈ xs, es[i]? = some (ent w x) ∧ x.1.hash w = NestedKey.hash w (.tup ks0)) _ ?_ ?_ _ _ ⟨rfl, rfl, hpl⟩
    · rintro i rest b s' ⟨rfl, rfl, hr⟩
      obtain ⟨x, hx, ex, eh⟩ := hr i List.mem_cons_self
      have nb : NestedKey.beq x.1 (.tup ks0) = false := by
        rw [← NestedKey.decide_eq]
        exact decide_eq_false (hne x hx)
      rw [ex]
      dsimp only
      rw [if_pos (show ((ent w x).hash == _) = true from beq_iff_eq.mpr eh)]
      have dx := (his x hx).2
      refine wpAny_bind (wpAny_dictEpoch ho hd (wpAny_bind (eqAt_key x.1 (.tup ks0) A s' _ _ (his x hx).1 hk1' (by omega) _ _ _ _ ?_)))
      rw [nb]
      refine wpAny_bind (wpAny_dictEpoch ho hd ?_)
      rw [if_neg (by simp), if_neg (by simp)]
      refine wpAny_bind (wpAny_rule ?_)
      rw [if_neg (by simp)]
      exact wpAny_pure ⟨rfl, rfl, fun j hj => hr j (List.mem_cons_of_mem _ hj)⟩
    · rintro b s' ⟨rfl, rfl, _⟩
      exact wpAny_pure h
  | none =>
    dsimp only
    by_cases hall : (Value.none :: pl.filterMap (fun i => es[i]?.map (·.key))).all carriedByValue = true
    · have e0 := all_nil rfl hall
      subst e0
      rw [if_pos (by exact hall)]
      unfold dictWalkPlain
      exact wpAny_bind (wpAny_pure (wpAny_pure h))
    rw [if_neg (by exact hall), if_neg not_one]
    refine wpAny_bind (tells_not ⟨hk1', hk2⟩ hst2 ?_)
    rw [if_neg (by simp)]
    refine wpAny_bind ?_
    refine wpAny_forIn_list _ (fun rest b s' => s' = s ∧ b = (none, none) ∧ ∀ i ∈ rest, ∃ x ∈ xs, es[i]? = some (ent w x) ∧ x.1.hash w = NestedKey.hash w .none) _ ?_ ?_ _ _ ⟨rfl, rfl, hpl⟩
    · rintro i rest b s' ⟨rfl, rfl, hr⟩
      obtain ⟨x, hx, ex, eh⟩ := hr i List.mem_cons_self
      have nb : NestedKey.beq x.1 .none = false := by
        rw [← NestedKey.decide_eq]
        exact decide_eq_false (hne x hx)
      rw [ex]
      dsimp only
      rw [if_pos (show ((ent w x).hash == _) = true from beq_iff_eq.mpr eh)]
      have dx := (his x hx).2
      refine wpAny_bind (wpAny_dictEpoch ho hd (wpAny_bind (eqAt_key x.1 .none A s' _ _ (his x hx).1 hk1' (by omega) _ _ _ _ ?_)))
      rw [nb]
      refine wpAny_bind (wpAny_dictEpoch ho hd ?_)
      rw [if_neg (by simp), if_neg (by simp)]
      refine wpAny_bind (wpAny_rule ?_)
      rw [if_neg (by simp)]
      exact wpAny_pure ⟨rfl, rfl, fun j hj => hr j (List.mem_cons_of_mem _ hj)⟩
    · rintro b s' ⟨rfl, rfl, _⟩
      exact wpAny_pure h
  | @bool b0 i0 e0 =>
    dsimp only
    by_cases hall : (Value.bool b0 :: pl.filterMap (fun i => es[i]?.map (·.key))).all carriedByValue = true
    · have e0 := all_nil rfl hall
      subst e0
      rw [if_pos (by exact hall)]
      unfold dictWalkPlain
      exact wpAny_bind (wpAny_pure (wpAny_pure h))
    rw [if_neg (by exact hall), if_neg not_one]
    refine wpAny_bind (tells_not ⟨hk1', hk2⟩ hst2 ?_)
    rw [if_neg (by simp)]
    refine wpAny_bind ?_
    refine wpAny_forIn_list _ (fun rest b s' => s' = s ∧ b = (none, none) ∧ ∀ i ∈ rest, ∃ x ∈ xs, es[i]? = some (ent w x) ∧ x.1.hash w = NestedKey.hash w (.num i0)) _ ?_ ?_ _ _ ⟨rfl, rfl, hpl⟩
    · rintro i rest b s' ⟨rfl, rfl, hr⟩
      obtain ⟨x, hx, ex, eh⟩ := hr i List.mem_cons_self
      have nb : NestedKey.beq x.1 (.num i0) = false := by
        rw [← NestedKey.decide_eq]
        exact decide_eq_false (hne x hx)
      rw [ex]
      dsimp only
      rw [if_pos (show ((ent w x).hash == _) = true from beq_iff_eq.mpr eh)]
      have dx := (his x hx).2
      refine wpAny_bind (wpAny_dictEpoch ho hd (wpAny_bind (eqAt_key x.1 (.num i0) A s' _ _ (his x hx).1 hk1' (by omega) _ _ _ _ ?_)))
      rw [nb]
      refine wpAny_bind (wpAny_dictEpoch ho hd ?_)
      rw [if_neg (by simp), if_neg (by simp)]
      refine wpAny_bind (wpAny_rule ?_)
      rw [if_neg (by simp)]
      exact wpAny_pure ⟨rfl, rfl, fun j hj => hr j (List.mem_cons_of_mem _ hj)⟩
    · rintro b s' ⟨rfl, rfl, _⟩
      exact wpAny_pure h
  | int i0 t0 =>
    dsimp only
    by_cases hall : (Value.int i0 t0 :: pl.filterMap (fun i => es[i]?.map (·.key))).all carriedByValue = true
    · have e0 := all_nil rfl hall
      subst e0
      rw [if_pos (by exact hall)]
      unfold dictWalkPlain
      exact wpAny_bind (wpAny_pure (wpAny_pure h))
    rw [if_neg (by exact hall), if_neg not_one]
    refine wpAny_bind (tells_not ⟨hk1', hk2⟩ hst2 ?_)
    rw [if_neg (by simp)]
    refine wpAny_bind ?_
    refine wpAny_forIn_list _ (fun rest b s' => s' = s ∧ b = (none, none) ∧ ∀ i ∈ rest, ∃ x ∈ xs, es[i]? = some (ent w x) ∧ x.1.hash w = NestedKey.hash w (.num i0)) _ ?_ ?_ _ _ ⟨rfl, rfl, hpl⟩
    · rintro i rest b s' ⟨rfl, rfl, hr⟩
      obtain ⟨x, hx, ex, eh⟩ := hr i List.mem_cons_self
      have nb : NestedKey.beq x.1 (.num i0) = false := by
        rw [← NestedKey.decide_eq]
        exact decide_eq_false (hne x hx)
      rw [ex]
      dsimp only
      rw [if_pos (show ((ent w x).hash == _) = true from beq_iff_eq.mpr eh)]
      have dx := (his x hx).2
      refine wpAny_bind (wpAny_dictEpoch ho hd (wpAny_bind (eqAt_key x.1 (.num i0) A s' _ _ (his x hx).1 hk1' (by omega) _ _ _ _ ?_)))
      rw [nb]
      refine wpAny_bind (wpAny_dictEpoch ho hd ?_)
      rw [if_neg (by simp), if_neg (by simp)]
      refine wpAny_bind (wpAny_rule ?_)
      rw [if_neg (by simp)]
      exact wpAny_pure ⟨rfl, rfl, fun j hj => hr j (List.mem_cons_of_mem _ hj)⟩
    · rintro b s' ⟨rfl, rfl, _⟩
      exact wpAny_pure h
  | text x0 t0 =>
    dsimp only
    by_cases hx0 : xs = []
    · subst hx0
      have e0 : es = #[] := by
        cases es with
        | mk l =>
          have hl : l = [] := he
          rw [hl]
      subst e0
      rw [if_pos (by simp)]
      unfold foundByValue
      rw [show Array.findIdx? (fun e : DictEntry => e.key.isStr x0) #[] = none from by simp]
      exact wpAny_pure h
    rw [if_neg (str_no _ _ rfl hx0)]
    by_cases hall : (Value.str x0 t0 :: pl.filterMap (fun i => es[i]?.map (·.key))).all carriedByValue = true
    · have e0 := all_nil rfl hall
      subst e0
      rw [if_pos (by exact hall)]
      unfold dictWalkPlain
      exact wpAny_bind (wpAny_pure (wpAny_pure h))
    rw [if_neg (by exact hall), if_neg not_one]
    refine wpAny_bind (tells_not ⟨hk1', hk2⟩ hst2 ?_)
    rw [if_neg (by simp)]
    refine wpAny_bind ?_
    refine wpAny_forIn_list _ (fun rest b s' => s' = s ∧ b = (none, none) ∧ ∀ i ∈ rest, ∃ x ∈ xs, es[i]? = some (ent w x) ∧ x.1.hash w = NestedKey.hash w (.text x0)) _ ?_ ?_ _ _ ⟨rfl, rfl, hpl⟩
    · rintro i rest b s' ⟨rfl, rfl, hr⟩
      obtain ⟨x, hx, ex, eh⟩ := hr i List.mem_cons_self
      have nb : NestedKey.beq x.1 (.text x0) = false := by
        rw [← NestedKey.decide_eq]
        exact decide_eq_false (hne x hx)
      rw [ex]
      dsimp only
      rw [if_pos (show ((ent w x).hash == _) = true from beq_iff_eq.mpr eh)]
      have dx := (his x hx).2
      refine wpAny_bind (wpAny_dictEpoch ho hd (wpAny_bind (eqAt_key x.1 (.text x0) A s' _ _ (his x hx).1 hk1' (by omega) _ _ _ _ ?_)))
      rw [nb]
      refine wpAny_bind (wpAny_dictEpoch ho hd ?_)
      rw [if_neg (by simp), if_neg (by simp)]
      refine wpAny_bind (wpAny_rule ?_)
      rw [if_neg (by simp)]
      exact wpAny_pure ⟨rfl, rfl, fun j hj => hr j (List.mem_cons_of_mem _ hj)⟩
    · rintro b s' ⟨rfl, rfl, _⟩
      exact wpAny_pure h
theorem KeyOk.keep {h h' : Heap} {k : NestedKey} {v : Value} (x : KeyOk h k v) (kp : ∀ a o vs n, h.get? a = some o → o.data = .seq vs n → h'.get? a = some o) : KeyOk h' k v := ⟨NestedIs.at kp k v x.1, x.2⟩
/-- the table of a dict with these entries -/
def MixTab (w : World) (h : Heap) (d : Addr) (xs : List Ent) : Prop := ∃ o es ep, h.get? d = some o ∧ o.ExactDict ∧ o.data = .dict es ep ∧ es.toList = xs.map (ent w)
/-- a new key -/
theorem set_new {d : Addr} {xs : List Ent} {k : NestedKey} {key v : Value} {Q : Unit → Shared → Prop} (hu : A.units + 8 < cLine) (hk : KeyOk s.heap k key) (hm : MixTab w s.heap d xs) (his : ∀ x ∈ xs, KeyOk s.heap x.1 x.2.1) (hne : ∀ x ∈ xs, x.1 ≠ k)
    (hv : carriedByValue key = true → ∀ x ∈ xs, carriedByValue x.2.1 = false) (hsz : xs.length ≤ sizeLine) (hQ : ∀ h' tk, MixTab w h' d (xs ++ [(k, key, v)]) → Heap.SameBut d s.heap h' → Q () { s with heap := h', toks := tk }) :
    wpAny (model prog w) A (dictSet d key v) Q E s := by
  obtain ⟨o, es, ep, ho, hc, hd, he⟩ := hm
  unfold dictSet
  try with_reducible refine wpAny_holding ?_
  refine wpAny_bind (pyHash_key k key A s _ hk.1 (by have := hk.2; omega) ?_)
  unfold dictSetHashed
  try with_reducible refine wpAny_holding ?_
  refine wpAny_bind (find_none (s := { s with toks := s.toks + k.draws }) hu hk ho hd he his hne hv ?_)
  refine wpAny_bind (wpAny_rule (wpAny_updateDictKeys (hz := by have e := ent_size he; omega) (s := { s with toks := s.toks + k.draws }) ho hd (hQ _ _ ⟨_, _, ep + 1, Heap.get?_update_self _ ho (Obj.isFreed_of_dict (Obj.data_mapDictKeys hd _)),
      hc.mapDictKeys _, Obj.data_mapDictKeys hd _, ?_⟩ (Heap.SameBut.update ..))))
  simp [he, ent]
/-- dict(pairs): no key twice, at most one key that is no tuple -/
theorem call_dict_mix {a : Addr} {items : Array Value} {Ts : Nat → Addr} {ps : List Ent} {Q : Value → Shared → Prop} (hh : A.handled = none) (hu : A.units + 10 < cLine)
    (ok : PlainSeq "list" s.heap a items ∧ PairItems s.heap items Ts (ps.map fun x => (x.2.1, x.2.2))) (hk : ∀ x ∈ ps, KeyOk s.heap x.1 x.2.1) (hn : ps.Pairwise fun x y => x.1 ≠ y.1)
    (hv : ps.Pairwise fun x y => carriedByValue y.2.1 = true → carriedByValue x.2.1 = false) (hsz : ps.length ≤ sizeLine)
    (h : ∀ h' tk, MixTab w h' s.heap.objs.size ps → (∀ b o, s.heap.get? b = some o → h'.get? b = some o) → Q (.ref s.heap.objs.size) { s with heap := h', toks := tk }) :
    wpAny (model prog w) A (call (.type "dict") [.ref a]) Q E s := by
  have P := PairArg.list (prog := prog) (w := w) a items Ts (ps.map fun x => (x.2.1, x.2.2))
  refine call_dict_arg P ok fun s₁ hs₁ hdf ok₁ => ?_
  subst hs₁
  have hd0 : ∀ b o, s.heap.get? b = some o → b ≠ s.heap.objs.size := fun b o e => Nat.ne_of_lt (Heap.lt_size e)
  have hk1 : ∀ x ∈ ps, KeyOk (s.heap.push { cls := .type "dict", data := .dict #[] }) x.1 x.2.1 := fun x hx => (hk x hx).keep fun b o vs n e _ => Heap.get?_push_of_some _ e
  refine updateFrom_arg (A := A.in1) P .none hh ok₁ hdf (Tab := fun i h' => MixTab w h' s.heap.objs.size (ps.take i) ∧ ∀ b o, b ≠ s.heap.objs.size → (s.heap.push { cls := .type "dict", data := .dict #[] }).get? b = some o → h'.get? b = some o)
    ⟨⟨_, #[], 0, Heap.get?_push_size _ rfl, ⟨rfl, rfl, rfl⟩, rfl, rfl⟩, fun b o _ e => e⟩ (fun i h' tb => ?_) (fun i h1 h2 wr' hw1 hw2 tb kp => ?_) (fun i k v s' Q' E' hi hr tb _ hq => ?_) (fun h' tk tb kp => ?_)
  · obtain ⟨⟨o, _, _, ho, _⟩, _⟩ := tb
    exact Heap.lt_size ho
  · obtain ⟨⟨o, es, ep, ho, r⟩, kk⟩ := tb
    refine ⟨⟨o, es, ep, kp _ _ hw1 ho, r⟩, fun b o hb e => kp b o (fun hm => ?_) (kk b o hb e)⟩
    rcases hw2 b hm with z | z
    · cases z
    · have z' : (s.heap.push { cls := .type "dict", data := .dict #[] }).get? b = none := z
      rw [e] at z'
      cases z'
  · rw [List.length_map] at hi
    have hr : (ps.map fun x => (x.2.1, x.2.2))[i]? = some (k, v) := hr
    rw [List.getElem?_map, List.getElem?_eq_getElem hi] at hr
    cases hr
    obtain ⟨tb, kk⟩ := tb
    have stay : ∀ x ∈ ps, KeyOk s'.heap x.1 x.2.1 := fun x hx => (hk x hx).keep fun b o vs n e _ => kk b o (hd0 b o e) (Heap.get?_push_of_some _ e)
    have at_ : ∀ x ∈ ps.take i, ∃ j, j < i ∧ ps[j]? = some x := fun x hx => by
      obtain ⟨j, hj⟩ := List.mem_iff_getElem?.mp hx
      rw [List.getElem?_take] at hj
      by_cases hji : j < i
      · rw [if_pos hji] at hj
        exact ⟨j, hji, hj⟩
      · rw [if_neg hji] at hj
        cases hj
    refine set_new (by show A.units + 1 + 1 + 8 < cLine; omega) (stay _ (List.getElem_mem hi)) tb (fun x hx => stay x (List.mem_of_mem_take hx)) (fun x hx => ?_) (fun c x hx => ?_) (by rw [List.length_take]; omega) fun h' tk tb' sb => hq h' tk ⟨?_, fun b o hb e => sb.extBut b o hb (kk b o hb e)⟩ sb
    · obtain ⟨j, hj, e⟩ := at_ x hx
      obtain ⟨hjl, e⟩ := List.getElem?_eq_some_iff.mp e
      rw [← e]
      exact List.pairwise_iff_getElem.mp hn j i hjl hi hj
    · obtain ⟨j, hj, e⟩ := at_ x hx
      obtain ⟨hjl, e⟩ := List.getElem?_eq_some_iff.mp e
      rw [← e]
      exact List.pairwise_iff_getElem.mp hv j i hjl hi hj c
    · rw [List.take_add_one, List.getElem?_eq_getElem hi]
      exact tb'
  · obtain ⟨tb, kk⟩ := tb
    rw [List.length_map, List.take_length] at tb
    exact ⟨rfl, h h' tk tb fun b o e => kk b o (hd0 b o e) (Heap.get?_push_of_some _ e)⟩
end
/-! over the layer -/
mutual
/-- a value as a key -/
inductive NV (K : PySem.W.Frag) (H : Hp) : V → NestedKey → Prop
  | non : NV K H .non .none
  | bl (b : Bool) : NV K H (.bl b) (.num (if b = true then 1 else 0))
  | int (i : Int) : NV K H (.int i) (.num i)
  | str (x : Str) : NV K H (.str x) (.text x)
  | tup {a : Addr} {vs : List V} {ks : List NestedKey} : SqT K H a vs → NVs K H vs ks → NV K H (.ref a) (.tup ks)
inductive NVs (K : PySem.W.Frag) (H : Hp) : List V → List NestedKey → Prop
  | nil : NVs K H [] []
  | cons {v : V} {k : NestedKey} {vs : List V} {ks : List NestedKey} : NV K H v k → NVs K H vs ks → NVs K H (v :: vs) (k :: ks)
end
section
variable {X : Cx} {pins : List (Addr × Obj)} {σ : L2.St} {H : Hp} {s : Shared}
mutual
theorem nv_is (I : Inv X pins σ H s) : ∀ (k : NestedKey) (v : V) (u : Value), NV X.K H v k → RelV v u → NestedIs s.heap k u
  | .none, _, u, .non, r => by cases (show u = Value.none from r); exact .none
  | .num _, _, u, .bl b, r => by cases (show u = Value.bool b from r); exact .bool rfl
  | .num _, _, u, .int i, r => by obtain ⟨t, q⟩ := (show ∃ t, u = Value.int i t from r); cases q; exact .int i t
  | .text _, _, u, .str x, r => by obtain ⟨t, q⟩ := (show ∃ t, u = Value.str x t from r); cases q; exact .text x t
  | .tup ks, _, u, .tup h hs, r => by
    cases (show u = Value.ref _ from r)
    obtain ⟨its, rv, pl, _⟩ := I.tuple h
    obtain ⟨o, ho, hc, n, hd⟩ := pl
    exact .tup ho hc hd (by simpa using nvs_is I ks _ its hs rv)
theorem nvs_is (I : Inv X pins σ H s) : ∀ (ks : List NestedKey) (vs : List V) (us : List Value), NVs X.K H vs ks → Vals vs us → NestedAll s.heap ks us
  | [], _, _, .nil, .nil => .nil
  | _ :: ks, _, _, .cons h t, .cons r rt => .cons (nv_is I _ _ _ h r) (nvs_is I ks _ _ t rt)
end
end
/-- a dict at a with these keys, in this order -/
def MixO (a : Addr) (ks : List V) : HO := .ext fun h => (a == sysModules) = false ∧ ∃ o es ep, h.get? a = some o ∧ o.ExactDict ∧ o.data = .dict es ep ∧ es.size ≤ sizeLine ∧ Vals ks (es.toList.map (·.key))
theorem mixO_ok {P : Program} {w : World} {H : Hp} {h : Heap} {a : Addr} {ks : List V} {o : Obj} {es : Array DictEntry} {ep : Nat} (hs : (a == sysModules) = false) (ho : h.get? a = some o) (hx : o.ExactDict) (hd : o.data = .dict es ep) (hz : es.size ≤ sizeLine) (r : Vals ks (es.toList.map (·.key))) : ObjOk P w H h a (MixO a ks) :=
  ⟨⟨hs, o, es, ep, ho, hx, hd, hz, r⟩, ⟨o, ho⟩, fun h1 h2 ⟨hs, o, es, ep, ho, r⟩ st => ⟨hs, o, es, ep, st _ ho, r⟩⟩
/-- a pair of a list that dict() is made of: where it stands, its key, what the key is, its value -/
structure Pm where
  at_ : Addr
  key : V
  nk : NestedKey
  val : V
theorem paired_ix {α β : Type} {F : α → β → Prop} : ∀ {xs : List α} {ys : List β}, xs.length = ys.length → (∀ (i : Nat) (x : α) (y : β), xs[i]? = some x → ys[i]? = some y → F x y) → Paired F xs ys
  | [], [], _, _ => .nil
  | [], _ :: _, h, _ => by cases h
  | _ :: _, [], h, _ => by cases h
  | x :: xs, y :: ys, h, f => .cons (f 0 x y rfl rfl) (paired_ix (Nat.succ.inj h) fun i a b ha hb => f (i + 1) a b ha hb)
def byV : V → Bool
  | .ref _ => false
  | _ => true
theorem byV_of {v : V} {u : Value} (r : RelV v u) : carriedByValue u = byV v := by
  cases v with
  | non => cases (show u = Value.none from r); rfl
  | bl b => cases (show u = Value.bool b from r); rfl
  | int i => obtain ⟨t, q⟩ := (show ∃ t, u = Value.int i t from r); cases q; rfl
  | str i => obtain ⟨t, q⟩ := (show ∃ t, u = Value.str i t from r); cases q; rfl
  | byt i => obtain ⟨t, q⟩ := (show ∃ t, u = Value.bytes i t from r); cases q; rfl
  | flt i => obtain ⟨t, q⟩ := (show ∃ t, u = Value.float i t from r); cases q; rfl
  | ref i => cases (show u = Value.ref i from r); rfl
  | ty i => cases (show u = Value.type i from r); rfl
section
variable {X : Cx} {pins : List (Addr × Obj)} {σ : L2.St} {H : Hp} {s : Shared}
def rDictX (K : PySem.W.Frag) : List V → Hp → VK → Prop := fun xs H Q => ∃ (a : Addr) (L : List Pm), xs = [.ref a] ∧ SqL K H a (L.map fun e => V.ref e.at_) ∧ (∀ e ∈ L, SqT K H e.at_ [e.key, e.val] ∧ NV K H e.key e.nk ∧ e.nk.depth ≤ 8) ∧
  (L.Pairwise fun x y => x.nk ≠ y.nk) ∧ (L.Pairwise fun x y => byV y.key = true → byV x.key = false) ∧ ∀ p, H p = none → Q (.ref p) (upd H p (MixO p (L.map (·.key))))
theorem pairs_of (I : Inv X pins σ H s) : ∀ L : List Pm, (∀ e ∈ L, SqT X.K H e.at_ [e.key, e.val] ∧ NV X.K H e.key e.nk ∧ e.nk.depth ≤ 8) → ∃ ps : List Ent, ps.length = L.length ∧
    (∀ (j : Nat) (x : Ent), ps[j]? = some x → ∃ e : Pm, L[j]? = some e ∧ x.1 = e.nk ∧ RelV e.key x.2.1 ∧ KeyOk s.heap x.1 x.2.1 ∧ PairAt s.heap e.at_ x.2.1 x.2.2)
  | [], _ => ⟨[], rfl, fun j x h => by cases h⟩
  | e :: L, h => by
    obtain ⟨ps, h1, h2⟩ := pairs_of I L fun z hz => h z (List.mem_cons_of_mem _ hz)
    obtain ⟨g1, g2, g3⟩ := h e List.mem_cons_self
    obtain ⟨its, rv, pl, _⟩ := I.tuple g1
    obtain ⟨u1, u2, rfl, r1, r2⟩ := vals2 rv
    obtain ⟨o, ho, hc, n, hd⟩ := pl
    refine ⟨(e.nk, u1, u2) :: ps, by rw [List.length_cons, List.length_cons, h1], fun j x hj => ?_⟩
    cases j with
    | zero =>
      cases hj
      exact ⟨e, rfl, rfl, r1, ⟨nv_is I _ _ _ g2 r1, g3⟩, .inl ⟨o, ho, hc, n, hd⟩⟩
    | succ j => exact h2 j x hj
theorem call_dictX (hc : X.calm = true) (hu : X.A.units + 64 < cLine) : CallR X (.type "dict") (rDictX X.K) := by
  intro pins s σ H xs us Q I r h
  obtain ⟨a, L, rfl, hs, hp, hn, hv, q⟩ := h
  rw [Vals.ref1 r]
  obtain ⟨its, rv, pl, hz⟩ := I.list hs
  rw [List.length_map] at hz
  obtain ⟨ps, k2, k3⟩ := pairs_of I L hp
  have ei : its = L.map fun e => Value.ref e.at_ := by
    clear hs pl hz hp q k2 k3 hn hv
    induction L generalizing its with
    | nil => cases rv; rfl
    | cons e L ih =>
      rw [List.map_cons] at rv
      cases rv with
      | cons r t =>
        rw [ih _ t, List.map_cons]
        exact congrArg (· :: _) r
  subst ei
  have gets : ∀ (i : Nat) (hi : i < ps.length), ∃ (hl : i < L.length), ps[i].1 = L[i].nk ∧ RelV L[i].key ps[i].2.1 := fun i hi => by
    obtain ⟨e, e1, e2, e3, _⟩ := k3 i _ (List.getElem?_eq_getElem hi)
    obtain ⟨hl, e4⟩ := List.getElem?_eq_some_iff.mp e1
    exact ⟨hl, by rw [e4]; exact e2, by rw [e4]; exact e3⟩
  have items : PairItems s.heap (L.map fun e => Value.ref e.at_).toArray (fun j => ((L[j]?).map (·.at_)).getD 0) (ps.map fun x => (x.2.1, x.2.2)) := by
    refine ⟨by rw [List.size_toArray, List.length_map, List.length_map, k2], fun j k v hj => ?_⟩
    rw [List.getElem?_map] at hj
    obtain ⟨x, hx, ex⟩ := Option.map_eq_some_iff.mp hj
    obtain ⟨e, g1, g2, g3, g4, g5⟩ := k3 j x hx
    cases ex
    have e4 : ((L[j]?).map (·.at_)).getD 0 = e.at_ := by
      rw [g1]
      rfl
    show _ = some (Value.ref (((L[j]?).map (·.at_)).getD 0)) ∧ PairAt s.heap (((L[j]?).map (·.at_)).getD 0) _ _
    rw [e4]
    refine ⟨?_, g5⟩
    show (L.map fun e => Value.ref e.at_).toArray[j]? = some (Value.ref e.at_)
    rw [List.getElem?_toArray, List.getElem?_map, g1]
    rfl
  have lo : (s.heap.objs.size == sysModules) = false := beq_eq_false_iff_ne.mpr (Nat.ne_of_gt I.big)
  refine call_dict_mix (I.ok.hd hc) (by omega) ⟨?_, items⟩ (fun x hx => ?_) (List.pairwise_iff_getElem.mpr fun i j hi hj hij => ?_) (List.pairwise_iff_getElem.mpr fun i j hi hj hij c => ?_) (by omega) fun h' tk hm hk => ?_
  · obtain ⟨o, n, ho, hcl, hdd, hdat⟩ := pl
    exact ⟨o, n, ho, hcl, hdd, hdat⟩
  · obtain ⟨j, hj⟩ := List.mem_iff_getElem?.mp hx
    obtain ⟨e, _, _, _, g4, _⟩ := k3 j x hj
    exact g4
  · obtain ⟨l1, a1, _⟩ := gets i hi
    obtain ⟨l2, a2, _⟩ := gets j hj
    rw [a1, a2]
    exact List.pairwise_iff_getElem.mp hn i j l1 l2 hij
  · obtain ⟨l1, _, a1⟩ := gets i hi
    obtain ⟨l2, _, a2⟩ := gets j hj
    rw [byV_of a1]
    rw [byV_of a2] at c
    exact List.pairwise_iff_getElem.mp hv i j l1 l2 hij c
  · obtain ⟨o, es, ep, g1, g2, g3, g4⟩ := hm
    have fresh : H s.heap.objs.size = none := I.hok.fresh (Nat.le_refl _)
    have rk : Vals (L.map (·.key)) (es.toList.map (·.key)) := by
      rw [g4, List.map_map]
      refine paired_ix (by rw [List.length_map, List.length_map, k2]) fun i v u h1 h2 => ?_
      rw [List.getElem?_map] at h1 h2
      obtain ⟨x, hx, ex⟩ := Option.map_eq_some_iff.mp h2
      obtain ⟨e, e1, _, e3, _⟩ := k3 i x hx
      rw [e1] at h1
      cases h1
      cases ex
      exact e3
    exact ⟨.ref s.heap.objs.size, upd H s.heap.objs.size (MixO s.heap.objs.size (L.map (·.key))), I.laid (t' := tk) hk (Nat.le_refl _) (mixO_ok lo g1 g2 g3 (by rw [ent_size g4, k2]; exact hz) rk), rfl, q _ fresh⟩
end
section
variable {X : Cx} {pins : List (Addr × Obj)} {σ : L2.St} {H : Hp} {s : Shared}
/-- isinstance of such a dict, or of what has a told type -/
def rIsiZ (K : PySem.W.Frag) : List V → Hp → VK → Prop := fun xs H Q => rIsi K xs H Q ∨ ∃ (a : Addr) (ks : List V) (c : V) (u : Value) (b : Bool), xs = [.ref a, c] ∧ H a = some (MixO a ks) ∧ ClsV c u ∧ PySem.W.kitOne K (.type "dict") u = some b ∧ Q (.bl b) H
theorem call_isiZ : CallR X (.builtin "isinstance") (rIsiZ X.K) := by
  intro pins s σ H xs us Q I r h
  rcases h with h | ⟨a, ks, c, u, b, rfl, ha, k, e, q⟩
  · exact call_isi pins s σ H xs us Q I r h
  · obtain ⟨u1, u2, rfl, r1, r2⟩ := vals2 r
    cases (show u1 = Value.ref a from r1)
    have e2 := k.eq r2
    subst e2
    obtain ⟨⟨_, o, es, ep, ho, hx, _⟩, _, _⟩ := I.hok a _ ha
    exact PySem.W.kia_one PySem.W.kitx_dict I.kIn ⟨o, ho, hx.1⟩ e (fun z => nomatch z) fun tk => ⟨.bl b, H, I.tok tk, rfl, q⟩
/-- the keys of such a dict, locked -/
def Itx (d : Addr) (o : Obj) (ks : List V) : It :=
  ⟨fun i H => H d = some (.frz o (MixO d ks)) ∧ i < ks.length, fun i H x H' => H' = H ∧ ks[i]? = some x, fun i H => H d = some (.frz o (MixO d ks)) ∧ ks.length ≤ i⟩
theorem frzX {d : Addr} {o : Obj} {ks : List V} (I : Inv X pins σ H s) (h : H d = some (.frz o (MixO d ks))) : (d == sysModules) = false ∧ s.heap.get? d = some o ∧ o.ExactDict ∧ ∃ (es : Array DictEntry) (ep : Nat), o.data = .dict es ep ∧ es.size = ks.length ∧
    ∀ (i : Nat) (x : V), ks[i]? = some x → ∃ en : DictEntry, es[i]? = some en ∧ RelV x en.key := by
  obtain ⟨hd, ⟨hs, o', es, ep, ho, hx, hdt, hz, r⟩, _⟩ := I.hok d _ h
  rw [hd] at ho
  cases ho
  have l1 := r.length
  rw [List.length_map, Array.length_toList] at l1
  refine ⟨hs, hd, hx, es, ep, hdt, l1.symm, fun i x e => ?_⟩
  obtain ⟨u, hu, ru⟩ := r.get e
  rw [List.getElem?_map, Array.getElem?_toList] at hu
  obtain ⟨en, hen, rfl⟩ := Option.map_eq_some_iff.mp hu
  exact ⟨en, hen, ru⟩
theorem turn_keysX {P : Program} {w : World} {K : PySem.W.Frag} {tg : Expr} {d : Addr} {o : Obj} {es : Array DictEntry} {ep : Nat} {ks : List V} (it : Addr) (hod : o.data = .dict es ep) : Turn P w K tg (Itx d o ks) [it] it (fun i h => h.IsKeyIter it d i ks.length ep) where
  mem := by simp
  obj := fun i h st b hb => by
    have e : b = it := by simpa using hb
    subst e
    obtain ⟨oi, e, c, dd⟩ := st
    exact ⟨oi, e, fun v z => by rw [dd] at z; cases z⟩
  keep := fun i h h' st k => st.at fun oi e => k it (by simp) oi e
  item := by
    intro X hP hw hK hc i pins s σ H E I hf st hg
    subst hP hw hK
    obtain ⟨hd, hi⟩ := hg
    obtain ⟨f0, f1, f2, f3, f4, f5⟩ := hf it (by simp)
    obtain ⟨hs, hgd, hx, es', ep', hdt, hsz, ent⟩ := frzX I hd
    obtain ⟨rfl, rfl⟩ := dict_ep hod hdt
    obtain ⟨x, hkx⟩ : ∃ x, ks[i]? = some x := ⟨ks[i], List.getElem?_eq_getElem hi⟩
    obtain ⟨en, hen, hkey⟩ := ent i x hkx
    refine next_key_item st hgd hdt hsz hen fun h' st' sb => ?_
    have I1 : Inv X pins σ H { s with heap := h' } := I.turned (t' := s.toks) (fun b ob hb e => (sb.2 b hb).trans e) f0 f1 f3 f4 f5
    obtain ⟨oi, e, c, dd⟩ := id st'
    exact ⟨en.key, rfl, go_of (s := { s with heap := h' }) e c dd (by decide) ⟨x, H, I1, hkey, ⟨rfl, hkx⟩, st', fun b hb => (hf b hb).1⟩⟩
  done := by
    intro X hP hw hK hc i pins s σ H E I hf st hg
    subst hP hw hK
    obtain ⟨hd, hi⟩ := hg
    obtain ⟨f0, f1, f2, f3, f4, f5⟩ := hf it (by simp)
    obtain ⟨hs, hgd, hx, es', ep', hdt, hsz, ent⟩ := frzX I hd
    obtain ⟨rfl, rfl⟩ := dict_ep hod hdt
    exact next_key_end (I.ok.hd hc) st hgd hdt hsz hi fun h' eb => ⟨rfl, I.turned (t' := s.toks) (fun b ob hb e => eb b ob hb e) f0 f1 f3 f4 f5⟩
  self := fun A i s Q E st h => by
    refine wpAny_pyIter_slot st.typeIs F.slot_dict_keyiterator_iter (wpAny_call_entry F.slot_dict_keyiterator_iter st.typeIs F.entry_dict_keyiterator_iter ?_ (F.args_dict_keyiterator_iter_1 _))
    show wpAny _ _ (ret (.ref it)) _ _ s
    exact wpAny_pure ⟨_, rfl, "dict_keyiterator", _, st.typeIs, F.slot_dict_keyiterator_next.lookup, h⟩
theorem walk_keysX {d : Addr} {o : Obj} {ks : List V} : Walk (Itx d o ks) ks.length (fun H => H d = some (.frz o (MixO d ks))) (YAt ks) :=
  ⟨fun _ _ hi q => ⟨q, hi⟩, fun _ q => ⟨q, Nat.le_refl _⟩, fun _ _ _ _ _ _ y => y⟩
def iKeysX (td : TE) : TI := fun σ H R => td σ H fun x H1 => ∃ d o, x = .ref d ∧ ((∃ kvs, H1 d = some (.frz o (.dT kvs)) ∧ R (Itkt d o kvs) H1) ∨ ∃ ks, H1 d = some (.frz o (MixO d ks)) ∧ R (Itx d o ks) H1)
theorem pi_keysX {tg e : Expr} {td : TE} (he : PE X e td) : PI X tg e (iKeysX td) := by
  refine ⟨fun pins s σ H R I h => ?_⟩
  refine thn (he.run pins s σ H _ I h) fun u s1 ⟨x, H1, I1, rx, d, o, ex, q⟩ => ?_
  subst ex
  obtain rfl : u = Value.ref d := rx
  rcases q with ⟨kvs, hd, q⟩ | ⟨ks, hd, q⟩
  · obtain ⟨hs, hgd, hx, es, ep, hdt, hsz, ent⟩ := I1.frzT hd
    refine iter_keys hs hgd hx hdt (pi_one (tk := s1.toks) I1 _ (turn_keysT _ hdt) ⟨_, Heap.get?_push_size _ rfl, rfl, ?_⟩ q)
    rw [hsz] <;> rfl
  · obtain ⟨hs, hgd, hx, es, ep, hdt, hsz, ent⟩ := frzX I1 hd
    refine iter_keys hs hgd hx hdt (pi_one (tk := s1.toks) I1 _ (turn_keysX _ hdt) ⟨_, Heap.get?_push_size _ rfl, rfl, ?_⟩ q)
    rw [hsz] <;> rfl
end
end Mx

set_option Elab.async false
set_option linter.all false
set_option maxRecDepth 100000
set_option maxHeartbeats 2000000
/-! Names: texts of small letters. -/
namespace An
open PySem PySem.Spec PyProof.Rows L2 Rp
def low (c : Nat) : Prop := 97 ≤ c ∧ c ≤ 122
def bads : Str := "ABCXYZ0189_- .,\n\t"
theorem low_all : ∀ c < 123, 97 ≤ c → (decide (c < 128) && Unicode.isAlpha c && Unicode.isLower c && !(Unicode.isUpper c || Unicode.isTitle c)) = true := by decide +kernel
theorem bad_all : ∀ c ∈ bads.cps.toList, (Unicode.isAlpha c && !(Unicode.isUpper c || Unicode.isTitle c)) = false := by decide +kernel
theorem low_is {c : Nat} (h : low c) : c < 128 ∧ Unicode.isAlpha c = true ∧ Unicode.isLower c = true ∧ (Unicode.isUpper c || Unicode.isTitle c) = false := by
  have q := low_all c (by unfold low at h; omega) h.1
  simp only [Bool.and_eq_true, decide_eq_true_eq, Bool.not_eq_true'] at q
  exact ⟨q.1.1.1, q.1.1.2, q.1.2, q.2⟩
theorem nameS_low {cs : List Nat} (h1 : 1 ≤ cs.length) (h2 : cs.length ≤ 8) (lo : ∀ c ∈ cs, low c) : nameS (SX.S cs) = true := by
  unfold nameS Txt.isascii Txt.isalpha Txt.islower
  rw [SX.S_len]
  simp only [List.all_toArray, List.any_toArray]
  have e1 : (!decide (cs.length > 8)) = true := by simp; omega
  have e2 : (cs.all fun c => decide (c < 128)) = true := List.all_eq_true.mpr fun c hc => decide_eq_true (low_is (lo c hc)).1
  have e3 : cs.all Unicode.isAlpha = true := List.all_eq_true.mpr fun c hc => (low_is (lo c hc)).2.1
  have e4 : cs.any Unicode.isLower = true := by
    match cs, h1, lo with
    | c :: r, _, lo => exact List.any_eq_true.mpr ⟨c, List.mem_cons_self, (low_is (lo c List.mem_cons_self)).2.2.1⟩
  have e5 : (cs.any fun c => Unicode.isUpper c || Unicode.isTitle c) = false := by
    rw [List.any_eq_false]
    intro c hc
    rw [(low_is (lo c hc)).2.2.2]
    exact Bool.false_ne_true
  have e6 : decide (cs.length > 0) = true := decide_eq_true (by omega)
  rw [e1, e2, e3, e4, e5, e6]
  rfl
theorem nameS_long {cs : List Nat} (h : 8 < cs.length) : nameS (SX.S cs) = false := by
  unfold nameS
  rw [SX.S_len, decide_eq_true h]
  rfl
theorem nameS_bad {cs : List Nat} {c : Nat} (hc : c ∈ bads.cps.toList) (m : c ∈ cs) : nameS (SX.S cs) = false := by
  unfold nameS Txt.isascii Txt.isalpha Txt.islower
  simp only [List.all_toArray, List.any_toArray]
  have q := bad_all c hc
  cases e : Unicode.isAlpha c with
  | false =>
    have : cs.all Unicode.isAlpha = false := List.all_eq_false.mpr ⟨c, m, by rw [e]; exact Bool.false_ne_true⟩
    rw [this]
    simp
  | true =>
    rw [e, Bool.true_and, Bool.not_eq_false'] at q
    have : (cs.any fun c => Unicode.isUpper c || Unicode.isTitle c) = true := List.any_eq_true.mpr ⟨c, m, q⟩
    rw [this]
    simp
end An

set_option Elab.async false
set_option linter.all false
set_option maxRecDepth 100000
set_option maxHeartbeats 4000000
/-! Tuples put together and cut, all that was there stays; data without dicts. -/
namespace Ts
open PySem PySem.Spec PyProof.Rows L2 Dt An
theorem Same.rf (H : Hp) : Same H H := fun _ _ e => e
section
variable {X : Cx}
/-- t + u -/
def rCatS (K : PySem.W.Frag) : R2 := fun x y H Q => ∃ a b xs ys, x = .ref a ∧ y = .ref b ∧ SqT K H a xs ∧ SqT K H b ys ∧ xs.length + ys.length ≤ sizeLine ∧
  ∀ q H', Same H H' → SqT K H' q (xs ++ ys) → Q (.ref q) H'
theorem op_catS : OpR X (binaryOp .Add) (rCatS X.K) := by
  intro pins s σ H x y v u Q I rx ry h
  obtain ⟨a, b, xs, ys, ex, ey, ha, hb, hz, q⟩ := h
  refine op_catA pins s σ H x y v u Q I rx ry ⟨a, b, xs, ys, ex, ey, ha, hb, hz, fun e => ?_, fun _ e => ?_, fun _ _ p n => ?_⟩
  · subst e
    exact q b H (Same.rf H) hb
  · subst e
    exact q a H (Same.rf H) (by rw [List.append_nil]; exact ha)
  · exact q p _ (sameNew n) (.inl (.inl upd_same))
/-- t[lo:hi] -/
def rSlS (K : PySem.W.Frag) : V → Option Int → Option Int → Hp → VK → Prop := fun x lo hi H Q => ∃ a xs, x = .ref a ∧ SqT K H a xs ∧ ∀ q H', Same H H' → SqT K H' q (cutV xs lo hi) → Q (.ref q) H'
theorem sl_tupS : SlR X (rSlS X.K) := by
  intro pins s σ H x v vl vu lo hi sl Q I rx hs pl pu h
  obtain ⟨a, xs, ex, ha, q⟩ := h
  refine sl_tupA pins s σ H x v vl vu lo hi sl Q I rx hs pl pu ⟨a, xs, ex, ha, fun e => ?_, fun _ p n => ?_⟩
  · refine q a H (Same.rf H) ?_
    unfold cutV
    rw [e.1, e.2, Nat.sub_zero, List.drop_zero, List.take_length]
    exact ha
  · exact q p _ (sameNew n) (.inl (.inl upd_same))
end
theorem cut_to (xs : List V) (u : Nat) : cutV xs none (some (u : Int)) = xs.take u := by
  unfold cutV
  rw [HT.sIx_none, HT.sIx_nat, Nat.sub_zero, List.drop_zero]
  by_cases h : u ≤ xs.length
  · rw [Nat.min_eq_left h]
  · rw [Nat.min_eq_right (by omega), List.take_of_length_le (Nat.le_refl _), List.take_of_length_le (by omega)]
theorem cut_from (xs : List V) (u : Nat) : cutV xs (some (u : Int)) none = xs.drop u := by
  unfold cutV
  rw [HT.sIx_none, HT.sIx_nat]
  by_cases h : u ≤ xs.length
  · rw [Nat.min_eq_left h, List.take_of_length_le (by rw [List.length_drop]; exact Nat.le_refl _)]
  · rw [Nat.min_eq_right (by omega), List.drop_of_length_le (Nat.le_refl _), List.drop_of_length_le (by omega), List.take_nil]
section
variable {K : PySem.W.Frag} {H : Hp}
theorem intsQ : ∀ ns : List Int, DqAll K H (ns.map V.int) (ns.map PyData.int)
  | [] => .nil
  | n :: r => .cons (.int n) (intsQ r)
theorem dqs_app : ∀ {vs ws : List V} {ds es : List PyData}, DqAll K H vs ds → DqAll K H ws es → DqAll K H (vs ++ ws) (ds ++ es)
  | _, _, _, _, .nil, h => h
  | _, _, _, _, .cons a t, h => .cons a (dqs_app t h)
mutual
/-- data without dicts -/
theorem dp_of : ∀ (d : PyData) (v : V), Dq K H v d → d.hasDict = false → Dp K H v d
  | .none, _, h, _ => by
    cases h
    exact .non
  | .bool b, _, h, _ => by
    cases h
    exact .bl b
  | .int i, _, h, _ => by
    cases h
    exact .int i
  | .str x, _, h, _ => by
    cases h
    exact .str x
  | .list ds, _, h, e => by
    cases h with
    | lst hs ha => exact .lst hs (dps_of ds _ ha e)
  | .tuple ds, _, h, e => by
    cases h with
    | tup hs ha => exact .tup hs (dps_of ds _ ha e)
  | .dict ds, _, h, e => by cases e
theorem dps_of : ∀ (ds : List PyData) (vs : List V), DqAll K H vs ds → PyData.hasDictAll ds = false → DpAll K H vs ds
  | [], _, h, _ => by
    cases h
    exact .nil
  | d :: ds, _, h, e => by
    have e' : (d.hasDict || PyData.hasDictAll ds) = false := e
    rw [Bool.or_eq_false_iff] at e'
    cases h with
    | cons h t => exact .cons (dp_of d _ h e'.1) (dps_of ds _ t e'.2)
end
end
end Ts

set_option Elab.async false
set_option linter.all false
set_option maxRecDepth 100000
set_option maxHeartbeats 4000000
/-! A display of a dict whose keys are tuples. -/
namespace Dh
open PySem PySem.Spec PyProof.Rows L2
/-- a pair of a display: where the key stands, the key, the value -/
structure Pk where
  kat : Addr
  key : List Key
  val : V
def Pk.ok (H : Hp) (e : Pk) : Prop := H e.kat = some (.tup (e.key.map kV))
section
variable {X : Cx}
theorem carriesT {pins : List (Addr × Obj)} {σ : L2.St} {H : Hp} {s : Shared} (I : Inv X pins σ H s) : ∀ (L : List Pk) (ws : List (Value × Value)), (∀ e ∈ L, e.ok H) → VV (L.map fun e => (V.ref e.kat, e.val)) ws →
    ∃ ps : List (List Key × Addr × Value), CarriesH (tupleKind (mixKind X.prog X.w)) s.heap ws ps ∧ KT H (L.map fun e => (e.key, e.val)) ps
  | [], _, _, r => by
    cases r
    exact ⟨[], trivial, .nil⟩
  | e :: L, _, h, r => by
    rw [List.map_cons] at r
    cases r with
    | @cons a b as bs q t =>
      obtain ⟨ps, h1, h2⟩ := carriesT I L bs (fun e he => h e (List.mem_cons_of_mem _ he)) t
      obtain ⟨b1, b2⟩ := b
      obtain ⟨q1, q2⟩ := q
      cases q1
      have hk := h e List.mem_cons_self
      exact ⟨(e.key, e.kat, b2) :: ps, ⟨rfl, rfl, key_of I.hok hk, h1⟩, .cons ⟨rfl, hk, q2⟩ h2⟩
/-- {k: v, ..} with keys tuples; the new dict stands empty while the pairs are made -/
def tDispT (trs : List (TE × TE)) : TE := fun σ H Q => ∀ p, H p = none → tPairs trs σ (upd H p (.dT [])) fun ps H2 => H2 p = some (.dT []) ∧ ∃ L : List Pk, ps = L.map (fun e => (.ref e.kat, e.val)) ∧ (∀ e ∈ L, e.ok H2) ∧ L.length ≤ 15 ∧
  Q (.ref p) (upd H2 p (.dT (mergeT [] (L.map fun e => (e.key, e.val)))))
theorem pe_dispT {pos : Pos} {keys : List (Option Expr)} {values : List Expr} {trs : List (TE × TE)} (hu : X.A.units + 1 < cLine) (h : PPs X pos keys values trs) (hall : keys.all (·.isSome) = true) (hl : keys.length = values.length) (h0 : keys ≠ [])
    (h15 : keys.length ≤ 15) : PE X (.Dict keys values pos) (tDispT trs) := by
  refine ⟨fun pins s σ H Q I q => ?_⟩
  have hn := I.hok.fresh (Nat.le_refl s.heap.objs.size)
  have I1 := I.laid (a := s.heap.objs.size) (o := .dT []) (h' := s.heap.push { cls := .type "dict", data := .dict #[] }) (t' := s.toks) (fun _ _ q => Heap.get?_push_of_some _ q) (Nat.le_refl _) (dt_empty s.heap I.big)
  have lp := pairTrees_length keys values X.env pos hall hl
  rw [arm_eval_Dict, zip_pairTrees keys values X.env pos hall hl, dictDisplay_pairs (pairTrees keys values X.env pos) (fun z => by rw [z] at lp; exact h0 (List.length_eq_zero_iff.mp lp.symm)) (by omega)]
  refine wpAny_bind (wpAny_standAt (wpAny_bind (wpAny_subDictH (knd := tupleKind (mixKind X.prog X.w)) (Q := fun d s' => wpAny (model X.prog X.w) X.A (pure (Value.ref d)) (EP X pins σ Q) X.xe s') (by show X.A.units < cLine; omega) (by omega) ?_)))
  refine thn (h.run pins _ σ _ _ I1 (q _ hn)) fun ws s2 ⟨ps, H2, I2, rel, e, L, ep, hk, l15, q2⟩ => ?_
  subst ep
  obtain ⟨rs, c, rk⟩ := carriesT I2 L ws hk rel
  obtain ⟨z, hd, vs0, r0, dd⟩ := dt_of I2.hok e
  cases r0
  refine ⟨rs, c, dd, fun h' tk dd' hs => wpAny_pure ⟨.ref s.heap.objs.size, _, ?_, rfl, q2⟩⟩
  have len : (mergeT [] (L.map fun e => (e.key, e.val))).length ≤ sizeLine := by
    have := length_mergeT (L.map fun e => (e.key, e.val)) []
    rw [List.length_map] at this
    rw [sizeLine_eq]
    exact Nat.le_trans this (by rw [List.length_nil]; omega)
  have he : ∃ q, h'.get? s.heap.objs.size = some q := let ⟨q, _, _, hq, _⟩ := dd'; ⟨q, hq⟩
  obtain ⟨o, es, epo, g1, g2, g3, g4, _, g5⟩ := dd'
  refine d_write I2 (by rw [e]; exact True.intro) hs he ⟨len, hd, _, ?_, o, es, epo, g1, g2, g3, g4, g5⟩
  refine (kt_merge rk .nil).keeps fun b ys eb => ?_
  rw [upd_ne (fun z => by rw [z, e] at eb; cases eb)]
  exact eb
end
end Dh

set_option Elab.async false
set_option linter.all false
set_option maxRecDepth 100000
set_option maxHeartbeats 4000000
/-! t * k, k from 1 on; all that was there stays. -/
namespace Ts
open PySem PySem.Spec PyProof.Rows L2 Dt An
theorem tuple_mul1 (l : Addr) (items : Array Value) (n : Nat) (dd : Option Addr) (sl : Array (Option Value)) (u : Tok) :
    Meets (Builtin.«tuple.__mul__» ⟨[.ref l, .int 1 u], []⟩) (fun _ R s => s.heap.get? l = some { cls := .type "tuple", dict := dd, data := .seq items n, slots := sl } ∧ R (.ok (.ret (Value.ref l))) s) :=
  .of_wp fun prog w A R s h => by
    obtain ⟨hp, g, d, tk, os⟩ := s
    obtain ⟨hl, h⟩ := h
    have f1 := AutoSeq1.idx_int
    have c1 : (items.isEmpty || (1 : Int) == 1) = true := by rw [show ((1 : Int) == 1) = true from rfl, Bool.or_true]
    wp_walk using wpAny_loadPart' hl
    repeat (first
      | (refine wpAny_ite_true (decide_eq_true (by rw [c1])) ?_; wp_walk using wpAny_loadPart' hl)
      | (refine wpAny_ite_false (by decide) ?_; wp_walk using wpAny_loadPart' hl))
    exact ⟨_, rfl, h⟩
section
variable {X : Cx}
def rMulS (K : PySem.W.Frag) : R2 := fun x y H Q => ∃ l k xs, x = .ref l ∧ y = .int k ∧ SqT K H l xs ∧ xs ≠ [] ∧ 1 ≤ k ∧ k ≤ 1000 ∧ xs.length ≤ 1000 ∧ ∀ q H', Same H H' → SqT K H' q (List.replicate k.toNat xs).flatten → (H l = some (.tup xs) → H' q = some (.tup (List.replicate k.toNat xs).flatten)) → Q (.ref q) H'
theorem op_mulS : OpR X (binaryOp .Mult) (rMulS X.K) := by
  intro pins s σ H x y v u Q I rx ry h
  obtain ⟨l, k, xs, ex, ey, hT, hne, h1, h2, hz, q⟩ := h
  by_cases hk : k = 1
  · subst ex ey hk
    cases rx
    obtain ⟨t, rfl⟩ := ry
    obtain ⟨its, r, ⟨⟨cls, dd, data, sl⟩, ho, hc, n, hd⟩, hs⟩ := I.tuple hT
    simp only at hc hd
    subst hc hd
    refine wpAny_binaryOp_repeat_ref (T := "tuple") (U := "int") (by decide) ⟨_, ho, rfl⟩ (fun s' => typeIs_int s' 1 t) noFill_tuple_mul F.fills_int_mul F.slot_int_rmul repeat_tuple F.slot_int_index.lookup ?_
    refine call_meets F.slot_int_rmul (typeIs_int s 1 t) F.entry_int_rmul (F.args_int_rmul_2 _ _) (int_rmul_tuple 1 t l its.toArray n dd sl) ⟨ho, rfl, ⟨_, ho, rfl⟩, ?_⟩
    refine call_meets F.slot_tuple_mul ⟨_, ho, rfl⟩ F.entry_tuple_mul (F.args_tuple_mul_2 _ _) (tuple_mul1 l its.toArray n dd sl t) ⟨ho, .ref l, H, I, rfl, q l H (Same.rf H) ?_ ?_⟩
    all_goals rw [show (List.replicate (1 : Int).toNat xs).flatten = xs from by show (List.replicate 1 xs).flatten = xs; simp]
    · exact hT
    · exact id
  · exact op_repT pins s σ H x y v u Q I rx ry ⟨l, k, xs, ex, ey, hT, hne, by omega, h2, hz, fun p n => q p _ (sameNew n) (.inl (.inl upd_same)) fun _ => upd_same⟩
end
end Ts

set_option Elab.async false
set_option linter.all false
set_option maxRecDepth 100000
set_option maxHeartbeats 4000000
/-! t * k, k from 0 on; all that was there stays. -/
namespace Ts
open PySem PySem.Spec PyProof.Rows L2 Dt An
theorem tuple_mul0 (l : Addr) (items : Array Value) (n : Nat) (dd : Option Addr) (sl : Array (Option Value)) (u : Tok) (hi : items.isEmpty = false) :
    Meets (Builtin.«tuple.__mul__» ⟨[.ref l, .int 0 u], []⟩) (fun _ R s => s.heap.get? l = some { cls := .type "tuple", dict := dd, data := .seq items n, slots := sl } ∧
      R (.ok (.ret (Value.ref s.heap.objs.size))) { s with heap := s.heap.push { cls := Value.type "tuple", data := Data.seq #[] }, toks := s.toks }) :=
  .of_wp fun prog w A R s h => by
    obtain ⟨hp, g, d, tk, os⟩ := s
    obtain ⟨hl, h⟩ := h
    have f1 := AutoSeq1.idx_int
    have c1 : (items.isEmpty || (0 : Int) == 1) = false := by rw [hi]; rfl
    have c2 : (decide ((0 : Int) ≤ 0) || items.isEmpty) = true := by rw [hi]; rfl
    wp_walk using wpAny_loadPart' hl
    repeat (first
      | (refine wpAny_ite_false (decide_eq_false (by rw [c1]; exact Bool.false_ne_true)) ?_; wp_walk using wpAny_loadPart' hl)
      | (refine wpAny_ite_true (decide_eq_true (by rw [c2])) ?_; wp_walk using wpAny_loadPart' hl)
      | (refine wpAny_ite_false (by decide) ?_; wp_walk using wpAny_loadPart' hl))
    exact ⟨_, rfl, h⟩
section
variable {X : Cx}
def rMulZ (K : PySem.W.Frag) : R2 := fun x y H Q => ∃ l k xs, x = .ref l ∧ y = .int k ∧ SqT K H l xs ∧ xs ≠ [] ∧ 0 ≤ k ∧ k ≤ 1000 ∧ xs.length ≤ 1000 ∧ ∀ q H', Same H H' → SqT K H' q (List.replicate k.toNat xs).flatten → (H l = some (.tup xs) → H' q = some (.tup (List.replicate k.toNat xs).flatten)) → Q (.ref q) H'
theorem op_mulZ : OpR X (binaryOp .Mult) (rMulZ X.K) := by
  intro pins s σ H x y v u Q I rx ry h
  obtain ⟨l, k, xs, ex, ey, hT, hne, h1, h2, hz, q⟩ := h
  by_cases hk : k = 0
  · subst ex ey hk
    cases rx
    obtain ⟨t, rfl⟩ := ry
    obtain ⟨its, r, ⟨⟨cls, dd, data, sl⟩, ho, hc, n, hd⟩, hs⟩ := I.tuple hT
    simp only at hc hd
    subst hc hd
    have hle : its.length = xs.length := r.length.symm
    have hi : its.toArray.isEmpty = false := by
      cases its with
      | nil => exact absurd (List.eq_nil_of_length_eq_zero hle.symm) hne
      | cons a b => rfl
    refine wpAny_binaryOp_repeat_ref (T := "tuple") (U := "int") (by decide) ⟨_, ho, rfl⟩ (fun s' => typeIs_int s' 0 t) noFill_tuple_mul F.fills_int_mul F.slot_int_rmul repeat_tuple F.slot_int_index.lookup ?_
    refine call_meets F.slot_int_rmul (typeIs_int s 0 t) F.entry_int_rmul (F.args_int_rmul_2 _ _) (int_rmul_tuple 0 t l its.toArray n dd sl) ⟨ho, rfl, ⟨_, ho, rfl⟩, ?_⟩
    refine call_meets F.slot_tuple_mul ⟨_, ho, rfl⟩ F.entry_tuple_mul (F.args_tuple_mul_2 _ _) (tuple_mul0 l its.toArray n dd sl t hi) ⟨ho, ?_⟩
    have nw := I.hok.fresh (Nat.le_refl s.heap.objs.size)
    refine ⟨.ref s.heap.objs.size, _, I.laid (t' := s.toks) (o := .tup []) (fun b ob q => Heap.get?_push_of_some _ q) (Nat.le_refl _) ?_, rfl, q _ _ (sameNew nw) (.inl (.inl upd_same)) fun _ => upd_same⟩
    exact ⟨Nat.zero_le _, _, .nil, IsTup.new _ _⟩
  · exact Ts.op_mulS pins s σ H x y v u Q I rx ry ⟨l, k, xs, ex, ey, hT, hne, by omega, h2, hz, q⟩
end
end Ts

set_option Elab.async false
set_option linter.all false
/-! A term's reading replaced by one that gives it: so that an a if .. else b does not double what follows. -/
namespace L2
open PySem PySem.Spec PyProof.Rows
theorem PE.to {X : Cx} {e : Expr} {t t' : TE} (h : PE X e t) (w : ∀ σ H Q, t' σ H Q → t σ H Q) : PE X e t' := ⟨fun pins s σ H Q I q => h.run pins s σ H Q I (w σ H Q q)⟩
theorem PS.to {X : Cx} {e : Stmt} {t t' : TS} (h : PS X e t) (w : ∀ D σ H, t' D σ H → t D σ H) : PS X e t' := ⟨fun pins s σ H D I q => h.run pins s σ H D I (w D σ H q)⟩
end L2

set_option Elab.async false
set_option linter.all false
set_option maxRecDepth 100000
set_option maxHeartbeats 4000000
/-! x // y by any y but 0 of fewer than 9000 bits. -/
namespace Fz
open PySem PySem.Spec PyProof.Rows L2
def CDivZ (_ j : Int) : Prop := j ≠ 0 ∧ j.natAbs.log2 < 9000
variable {X : Cx}
theorem op_fdivZ : OpR X (binaryOp .FloorDiv) (rI CDivZ fun i j => .int (i.fdiv j)) := opI fun _ _ _ _ _ _ _ hc q => floordiv_int hc.1 q (.inl (PyProof.noPylong_of_log2 hc.2))
end Fz

set_option Elab.async false
set_option linter.all false
set_option maxRecDepth 100000
set_option maxHeartbeats 4000000
/-! Lattices of whole numbers: rows as functions, spans, bases in normal form, and that there is one alone. -/
namespace Lat
abbrev F := Nat → Int
def sub (v u : F) (k : Int) : F := fun i => v i - k * u i
def zero : F := fun _ => 0
/-- v is put together of the rows -/
def In : List F → F → Prop
  | [], v => ∀ i, v i = 0
  | b :: T, v => ∃ k, In T (sub v b k)
theorem In.zero : ∀ (B : List F) {v : F}, (∀ i, v i = 0) → In B v
  | [], _, h => h
  | _ :: T, _, h => ⟨0, In.zero T fun i => by show _ - _ = (0 : Int); rw [h i]; grind⟩
theorem In.sub : ∀ {B : List F} {u v : F} (k : Int), In B u → In B v → In B (sub u v k)
  | [], u, v, k, hu, hv => fun i => by show _ - _ = (0 : Int); rw [hu i, hv i]; grind
  | b :: T, u, v, k, ⟨k1, hu⟩, ⟨k2, hv⟩ => ⟨k1 - k * k2, by
    have := In.sub k hu hv
    have e : Lat.sub (Lat.sub u v k) b (k1 - k * k2) = Lat.sub (Lat.sub u b k1) (Lat.sub v b k2) k := by
      funext i
      show u i - k * v i - (k1 - k * k2) * b i = (u i - k1 * b i) - k * (v i - k2 * b i)
      grind
    rw [e]
    exact this⟩
theorem sub_zero (v u : F) : sub v u 0 = v := by
  funext i
  show v i - 0 * u i = v i
  grind
theorem In.tail {b : F} {T : List F} {v : F} (h : In T v) : In (b :: T) v := ⟨0, by rw [sub_zero]; exact h⟩
theorem In.head (b : F) (T : List F) : In (b :: T) b := ⟨1, In.zero T fun i => by show b i - 1 * b i = 0; grind⟩
theorem In.mem : ∀ {B : List F} {b : F}, b ∈ B → In B b
  | c :: T, b, h => by
    rcases List.mem_cons.mp h with rfl | h
    · exact In.head b T
    · exact (In.mem h).tail
theorem In.back {B : List F} {u v : F} {k : Int} (h : In B (Lat.sub u v k)) (hv : In B v) : In B u := by
  have := In.sub (-k) h hv
  have e : Lat.sub (Lat.sub u v k) v (-k) = u := by
    funext i
    show u i - k * v i - -k * v i = u i
    grind
  rwa [e] at this
theorem In.le : ∀ {A B : List F}, (∀ a ∈ A, In B a) → ∀ {v : F}, In A v → In B v
  | [], B, _, v, h => In.zero B h
  | a :: A, B, hA, v, ⟨k, h⟩ => In.back (In.le (fun x hx => hA x (List.mem_cons_of_mem _ hx)) h) (hA a List.mem_cons_self)
def Sm (A B : List F) : Prop := ∀ v, In A v ↔ In B v
theorem Sm.of {A B : List F} (h1 : ∀ a ∈ A, In B a) (h2 : ∀ b ∈ B, In A b) : Sm A B := fun _ => ⟨In.le h1, In.le h2⟩
theorem Sm.refl (A : List F) : Sm A A := fun _ => Iff.rfl
theorem Sm.symm {A B : List F} (h : Sm A B) : Sm B A := fun v => (h v).symm
theorem Sm.trans {A B C : List F} (h : Sm A B) (g : Sm B C) : Sm A C := fun v => (h v).trans (g v)
/-- the first place that is not 0 -/
def Piv (b : F) (p : Nat) : Prop := (∀ i, i < p → b i = 0) ∧ 0 < b p
theorem Piv.uniq {b : F} {p q : Nat} (h : Piv b p) (g : Piv b q) : p = q := by
  rcases Nat.lt_trichotomy p q with c | c | c
  · have := g.1 p c
    have := h.2
    omega
  · exact c
  · have := h.1 q c
    have := g.2
    omega
/-- a basis in normal form, its rows 0 before c -/
inductive Hn : Nat → List F → Prop
  | nil (c : Nat) : Hn c []
  | cons {c p : Nat} {b : F} {T : List F} : c ≤ p → Piv b p → Hn (p + 1) T → (∀ t ∈ T, ∀ q, Piv t q → 0 ≤ b q ∧ b q < t q) → Hn c (b :: T)
theorem Hn.low : ∀ {c : Nat} {B : List F}, Hn c B → ∀ {v : F}, In B v → ∀ i, i < c → v i = 0
  | _, _, .nil _, v, h, i, _ => h i
  | c, b :: T, .cons (p := p) hp hb hT _, v, ⟨k, h⟩, i, hi => by
    have := hT.low h i (by omega)
    have e : v i - k * b i = 0 := this
    rw [hb.1 i (by omega)] at e
    grind
theorem Hn.weak {c d : Nat} {B : List F} (h : Hn c B) (hd : d ≤ c) : Hn d B := by
  cases h with
  | nil => exact .nil _
  | cons hp hb hT hr => exact .cons (by omega) hb hT hr
theorem small_zero {k a : Int} (h : (k * a).natAbs < a.natAbs) : k = 0 := by
  rw [Int.natAbs_mul] at h
  have : k.natAbs = 0 := by
    rcases Nat.eq_zero_or_pos k.natAbs with z | z
    · exact z
    · have := Nat.le_mul_of_pos_left a.natAbs z
      omega
  omega
theorem Hn.small : ∀ {c : Nat} {B : List F}, Hn c B → ∀ {d : F}, In B d → (∀ t ∈ B, ∀ q, Piv t q → (d q).natAbs < (t q).natAbs) → ∀ i, d i = 0
  | _, _, .nil _, d, h, _, i => h i
  | c, b :: T, .cons (p := p) hp hb hT _, d, ⟨k, h⟩, hs, i => by
    have e : d p - k * b p = 0 := hT.low h p (by omega)
    have := hs b List.mem_cons_self p hb
    have e2 : d p = k * b p := by omega
    rw [e2] at this
    have hk := small_zero this
    subst hk
    rw [sub_zero] at h
    exact hT.small h (fun t ht => hs t (List.mem_cons_of_mem _ ht)) i
theorem Hn.uniq : ∀ {c d : Nat} {A B : List F}, Hn c A → Hn d B → Sm A B → A = B
  | _, _, [], [], _, _, _ => rfl
  | _, _, [], b :: B, _, .cons (p := p) _ hb _ _, s => by
    have := (s b).mpr (In.head b B) p
    have := hb.2
    omega
  | _, _, a :: A, [], .cons (p := p) _ ha _ _, _, s => by
    have := (s a).mp (In.head a A) p
    have := ha.2
    omega
  | _, _, a :: A, b :: B, .cons (p := p) hp ha hA ra, .cons (p := q) hq hb hB rb, s => by
    have lowA : ∀ {v : F}, In (a :: A) v → ∀ i, i < p → v i = 0 := fun h i hi => (Hn.cons (Nat.le_refl p) ha hA ra).low h i hi
    have lowB : ∀ {v : F}, In (b :: B) v → ∀ i, i < q → v i = 0 := fun h i hi => (Hn.cons (Nat.le_refl q) hb hB rb).low h i hi
    have epq : p = q := by
      rcases Nat.lt_trichotomy p q with c | c | c
      · have := lowB ((s a).mp (In.head a A)) p c
        have := ha.2
        omega
      · exact c
      · have := lowA ((s b).mpr (In.head b B)) q c
        have := hb.2
        omega
    subst epq
    obtain ⟨k, hk⟩ := (s a).mp (In.head a A)
    obtain ⟨j, hj⟩ := (s b).mpr (In.head b B)
    have e1 : a p - k * b p = 0 := hB.low hk p (by omega)
    have e2 : b p - j * a p = 0 := hA.low hj p (by omega)
    have d1 : b p ≤ a p := Int.le_of_dvd ha.2 ⟨k, by rw [Int.mul_comm]; omega⟩
    have d2 : a p ≤ b p := Int.le_of_dvd hb.2 ⟨j, by rw [Int.mul_comm]; omega⟩
    have eab : a p = b p := by omega
    have sT : Sm A B := fun v => by
      constructor
      · intro h
        obtain ⟨k, h2⟩ := (s v).mp h.tail
        have z : v p - k * b p = 0 := hB.low h2 p (by omega)
        rw [hA.low h p (by omega)] at z
        have hk : k = 0 := by
          rcases Int.mul_eq_zero.mp (show k * b p = 0 by omega) with z | z
          · exact z
          · have := hb.2
            omega
        subst hk
        rwa [sub_zero] at h2
      · intro h
        obtain ⟨k, h2⟩ := (s v).mpr h.tail
        have z : v p - k * a p = 0 := hA.low h2 p (by omega)
        rw [hB.low h p (by omega)] at z
        have hk : k = 0 := by
          rcases Int.mul_eq_zero.mp (show k * a p = 0 by omega) with z | z
          · exact z
          · have := ha.2
            omega
        subst hk
        rwa [sub_zero] at h2
    have eT : A = B := Hn.uniq hA hB sT
    subst eT
    have ab : a = b := by
      have din : In (b :: A) (sub a b 1) := In.sub 1 ((s a).mp (In.head a A)) (In.head b A)
      obtain ⟨k, h2⟩ := din
      have z : (a p - 1 * b p) - k * b p = 0 := hB.low h2 p (by omega)
      have hk : k = 0 := by
        rcases Int.mul_eq_zero.mp (show k * b p = 0 by omega) with z | z
        · exact z
        · have := hb.2
          omega
      subst hk
      rw [sub_zero] at h2
      have := hB.small h2 fun t ht q hq => by
        have r1 := ra t ht q hq
        have r2 := rb t ht q hq
        have := hq.2
        show (a q - 1 * b q).natAbs < (t q).natAbs
        omega
      funext i
      have z := this i
      have z2 : a i - 1 * b i = 0 := z
      omega
    rw [ab]
/-- a row more behind all others -/
theorem Hn.snoc : ∀ {c : Nat} {L : List F} {b : F} {p : Nat}, Hn c L → c ≤ p → Piv b p → (∀ t ∈ L, ∃ q, q < p ∧ Piv t q) → (∀ t ∈ L, 0 ≤ t p ∧ t p < b p) → Hn c (L ++ [b])
  | _, [], b, p, _, hc, hb, _, _ => .cons hc hb (.nil _) fun _ h => by cases h
  | _, a :: L, b, p, .cons (p := q) hq ha hL ra, hc, hb, hlt, hr => by
    obtain ⟨q2, l2, h2⟩ := hlt a List.mem_cons_self
    have := ha.uniq h2
    subst this
    refine .cons hq ha (hL.snoc (by omega) hb (fun t ht => hlt t (List.mem_cons_of_mem _ ht)) fun t ht => hr t (List.mem_cons_of_mem _ ht)) fun t ht r hr2 => ?_
    rcases List.mem_append.mp ht with h | h
    · exact ra t h r hr2
    · rw [List.mem_singleton.mp h] at hr2 ⊢
      have := hb.uniq hr2
      subst this
      exact hr a List.mem_cons_self
/-- the rows of a basis made smaller by one behind them -/
theorem Piv.red {t b : F} {p q : Nat} {k : Int} (h : Piv t q) (hb : ∀ i, i < p → b i = 0) (l : q < p) : Piv (sub t b k) q := by
  refine ⟨fun i hi => ?_, ?_⟩
  · show t i - k * b i = 0
    rw [h.1 i hi, hb i (by omega)]
    grind
  · show 0 < t q - k * b q
    rw [hb q l]
    have := h.2
    grind
theorem Hn.map : ∀ {c : Nat} {L : List F} {b : F} {p : Nat} (f : F → Int), Hn c L → (∀ i, i < p → b i = 0) → (∀ t ∈ L, ∃ q, q < p ∧ Piv t q) → Hn c (L.map fun t => sub t b (f t))
  | _, [], _, _, _, _, _, _ => .nil _
  | _, a :: L, b, p, f, .cons (p := q) hq ha hL ra, hb, hlt => by
    obtain ⟨q2, l2, h2⟩ := hlt a List.mem_cons_self
    have := ha.uniq h2
    subst this
    refine .cons hq (ha.red hb l2) (hL.map f hb fun t ht => hlt t (List.mem_cons_of_mem _ ht)) fun t ht r hr => ?_
    obtain ⟨t0, h0, rfl⟩ := List.mem_map.mp ht
    obtain ⟨r0, l0, h3⟩ := hlt t0 (List.mem_cons_of_mem _ h0)
    have := (h3.red (k := f t0) hb l0).uniq hr
    subst this
    have := ra t0 h0 r0 h3
    show 0 ≤ a r0 - f a * b r0 ∧ a r0 - f a * b r0 < t0 r0 - f t0 * b r0
    rw [hb r0 l0]
    omega
theorem In.mapS {L : List F} {b : F} (f : F → Int) : Sm (L ++ [b]) ((L.map fun t => Lat.sub t b (f t)) ++ [b]) := by
  refine Sm.of (fun x hx => ?_) fun x hx => ?_
  · rcases List.mem_append.mp hx with h | h
    · refine In.back (v := b) (k := f x) ?_ (In.mem (List.mem_append_right _ (List.mem_singleton.mpr rfl)))
      exact In.mem (List.mem_append_left _ (List.mem_map.mpr ⟨x, h, rfl⟩))
    · exact In.mem (List.mem_append_right _ h)
  · rcases List.mem_append.mp hx with h | h
    · obtain ⟨t, ht, rfl⟩ := List.mem_map.mp h
      exact In.sub _ (In.mem (List.mem_append_left _ ht)) (In.mem (List.mem_append_right _ (List.mem_singleton.mpr rfl)))
    · exact In.mem (List.mem_append_right _ h)
/-- the reduced rows, with one more -/
theorem Hn.step {c : Nat} {L : List F} {b : F} {p : Nat} (h : Hn c L) (hc : c ≤ p) (hb : Piv b p) (hlt : ∀ t ∈ L, ∃ q, q < p ∧ Piv t q) : Hn c ((L.map fun t => sub t b (t p / b p)) ++ [b]) := by
  refine Hn.snoc (h.map (fun t => t p / b p) hb.1 hlt) hc hb (fun t ht => ?_) fun t ht => ?_
  · obtain ⟨t0, h0, rfl⟩ := List.mem_map.mp ht
    obtain ⟨q, l, hq⟩ := hlt t0 h0
    exact ⟨q, l, hq.red hb.1 l⟩
  · obtain ⟨t0, h0, rfl⟩ := List.mem_map.mp ht
    have e : t0 p - t0 p / b p * b p = t0 p % b p := by
      have := Int.emod_add_mul_ediv (t0 p) (b p)
      rw [Int.mul_comm] at this
      omega
    show 0 ≤ t0 p - t0 p / b p * b p ∧ t0 p - t0 p / b p * b p < b p
    rw [e]
    exact ⟨Int.emod_nonneg _ (by have := hb.2; omega), Int.emod_lt_of_pos _ hb.2⟩
/-- what is left when a row is made smaller by all rows of a basis -/
theorem Hn.rest : ∀ {c : Nat} {B : List F} {v : F}, Hn c B → (∀ b ∈ B, ∀ p, Piv b p → 0 ≤ v p ∧ v p < b p) → In B v → ∀ i, v i = 0 := fun h hs hv => h.small hv fun t ht q hq => by
  have := hs t ht q hq
  have := hq.2
  omega
end Lat

set_option Elab.async false
set_option linter.all false
set_option maxRecDepth 100000
set_option maxHeartbeats 4000000
/-! How great the numbers of a basis in normal form can be, up to three columns. -/
namespace Lat
structure Lin (φ : F → Int) : Prop where
  sub : ∀ u v k, φ (sub u v k) = φ u - k * φ v
  zero : ∀ v, (∀ i, v i = 0) → φ v = 0
theorem Lin.dvd {φ : F → Int} (l : Lin φ) {D : Int} : ∀ {A : List F} {v : F}, (∀ a ∈ A, D ∣ φ a) → In A v → D ∣ φ v
  | [], v, _, h => by rw [l.zero v h]; exact Int.dvd_zero D
  | a :: A, v, hA, ⟨k, h⟩ => by
    have h1 := l.dvd (fun x hx => hA x (List.mem_cons_of_mem _ hx)) h
    rw [l.sub] at h1
    have h2 : D ∣ k * φ a := Int.dvd_mul_of_dvd_right (hA a List.mem_cons_self)
    have := Int.dvd_add h1 h2
    rwa [Int.sub_add_cancel] at this
theorem Lin.some {φ : F → Int} (l : Lin φ) {A : List F} {v : F} (h : In A v) (hv : φ v ≠ 0) : ∃ a ∈ A, φ a ≠ 0 := by
  refine Decidable.byContradiction fun c => hv ?_
  have : (0 : Int) ∣ φ v := l.dvd (fun a ha => by
    by_cases z : φ a = 0
    · rw [z]; exact Int.dvd_zero 0
    · exact absurd ⟨a, ha, z⟩ c) h
  exact Int.zero_dvd.mp this
def det2 (p q : Nat) (u v : F) : Int := u p * v q - u q * v p
theorem lin2l (p q : Nat) (v : F) : Lin fun u => det2 p q u v := ⟨fun u w k => by
  show (u p - k * w p) * v q - (u q - k * w q) * v p = (u p * v q - u q * v p) - k * (w p * v q - w q * v p)
  grind, fun u h => by
  show u p * v q - u q * v p = 0
  rw [h p, h q]
  grind⟩
theorem lin2r (p q : Nat) (u : F) : Lin fun v => det2 p q u v := ⟨fun v w k => by
  show u p * (v q - k * w q) - u q * (v p - k * w p) = (u p * v q - u q * v p) - k * (u p * w q - u q * w p)
  grind, fun v h => by
  show u p * v q - u q * v p = 0
  rw [h p, h q]
  grind⟩
def det3 (u v x : F) : Int := u 0 * (v 1 * x 2 - v 2 * x 1) - u 1 * (v 0 * x 2 - v 2 * x 0) + u 2 * (v 0 * x 1 - v 1 * x 0)
theorem lin3a (v x : F) : Lin fun u => det3 u v x := ⟨fun u w k => by
  show (u 0 - k * w 0) * (v 1 * x 2 - v 2 * x 1) - (u 1 - k * w 1) * (v 0 * x 2 - v 2 * x 0) + (u 2 - k * w 2) * (v 0 * x 1 - v 1 * x 0) = (u 0 * (v 1 * x 2 - v 2 * x 1) - u 1 * (v 0 * x 2 - v 2 * x 0) + u 2 * (v 0 * x 1 - v 1 * x 0)) - k * (w 0 * (v 1 * x 2 - v 2 * x 1) - w 1 * (v 0 * x 2 - v 2 * x 0) + w 2 * (v 0 * x 1 - v 1 * x 0))
  grind, fun u h => by
  show u 0 * (v 1 * x 2 - v 2 * x 1) - u 1 * (v 0 * x 2 - v 2 * x 0) + u 2 * (v 0 * x 1 - v 1 * x 0) = 0
  rw [h 0, h 1, h 2]
  grind⟩
theorem lin3b (u x : F) : Lin fun v => det3 u v x := ⟨fun v w k => by
  show u 0 * ((v 1 - k * w 1) * x 2 - (v 2 - k * w 2) * x 1) - u 1 * ((v 0 - k * w 0) * x 2 - (v 2 - k * w 2) * x 0) + u 2 * ((v 0 - k * w 0) * x 1 - (v 1 - k * w 1) * x 0) = (u 0 * (v 1 * x 2 - v 2 * x 1) - u 1 * (v 0 * x 2 - v 2 * x 0) + u 2 * (v 0 * x 1 - v 1 * x 0)) - k * (u 0 * (w 1 * x 2 - w 2 * x 1) - u 1 * (w 0 * x 2 - w 2 * x 0) + u 2 * (w 0 * x 1 - w 1 * x 0))
  grind, fun v h => by
  show u 0 * (v 1 * x 2 - v 2 * x 1) - u 1 * (v 0 * x 2 - v 2 * x 0) + u 2 * (v 0 * x 1 - v 1 * x 0) = 0
  rw [h 0, h 1, h 2]
  grind⟩
theorem lin3c (u v : F) : Lin fun x => det3 u v x := ⟨fun x w k => by
  show u 0 * (v 1 * (x 2 - k * w 2) - v 2 * (x 1 - k * w 1)) - u 1 * (v 0 * (x 2 - k * w 2) - v 2 * (x 0 - k * w 0)) + u 2 * (v 0 * (x 1 - k * w 1) - v 1 * (x 0 - k * w 0)) = (u 0 * (v 1 * x 2 - v 2 * x 1) - u 1 * (v 0 * x 2 - v 2 * x 0) + u 2 * (v 0 * x 1 - v 1 * x 0)) - k * (u 0 * (v 1 * w 2 - v 2 * w 1) - u 1 * (v 0 * w 2 - v 2 * w 0) + u 2 * (v 0 * w 1 - v 1 * w 0))
  grind, fun x h => by
  show u 0 * (v 1 * x 2 - v 2 * x 1) - u 1 * (v 0 * x 2 - v 2 * x 0) + u 2 * (v 0 * x 1 - v 1 * x 0) = 0
  rw [h 0, h 1, h 2]
  grind⟩
/-- the numbers are at most M -/
def Lim (M : Nat) (v : F) : Prop := ∀ i, (v i).natAbs ≤ M
theorem mul_lim {x y : Int} {M N : Nat} (h : x.natAbs ≤ M) (g : y.natAbs ≤ N) : (x * y).natAbs ≤ M * N := by
  rw [Int.natAbs_mul]
  exact Nat.mul_le_mul h g
theorem det2_lim {p q M : Nat} {u v : F} (h : Lim M u) (g : Lim M v) : (det2 p q u v).natAbs ≤ 2 * (M * M) := by
  have h1 := mul_lim (h p) (g q)
  have h2 := mul_lim (h q) (g p)
  unfold det2
  omega
theorem det3_lim {M : Nat} {u v x : F} (h : Lim M u) (g : Lim M v) (f : Lim M x) : (det3 u v x).natAbs ≤ 6 * (M * (M * M)) := by
  have e : ∀ p q, (v p * x q - v q * x p).natAbs ≤ 2 * (M * M) := fun p q => det2_lim g f
  have h0 := mul_lim (h 0) (e 1 2)
  have h1 := mul_lim (h 1) (e 0 2)
  have h2 := mul_lim (h 2) (e 0 1)
  have z : M * (2 * (M * M)) = 2 * (M * (M * M)) := by rw [Nat.mul_left_comm]
  rw [z] at h0 h1 h2
  unfold det3
  omega
theorem dvd_lim {a b : Int} (h : a ∣ b) (hb : b ≠ 0) : a.natAbs ≤ b.natAbs := Nat.le_of_dvd (by omega) (Int.natAbs_dvd_natAbs.mpr h)
/-- one row: a part of a given one -/
theorem lim1 {b : F} {p M : Nat} {G : List F} (hb : Piv b p) (s : Sm [b] G) (hG : ∀ g ∈ G, Lim M g) : Lim M b := fun i => by
  have l : Lin fun v : F => v p := ⟨fun u v k => rfl, fun v h => h p⟩
  obtain ⟨g, hg, z⟩ := l.some ((s b).mp (In.head b [])) (by have := hb.2; show b p ≠ 0; omega)
  obtain ⟨k, hk⟩ := (s g).mpr (In.mem hg)
  have e : ∀ j, g j = k * b j := fun j => by
    have : g j - k * b j = 0 := hk j
    omega
  have hk0 : k ≠ 0 := fun z2 => z (by show g p = 0; rw [e p, z2]; grind)
  have := hG g hg i
  rw [e i, Int.natAbs_mul] at this
  have := Nat.le_mul_of_pos_left (b i).natAbs (show 0 < k.natAbs by omega)
  omega
/-- two rows: their minors are parts of given ones -/
theorem lim2 {b c : F} {p q M : Nat} {G : List F} (hb : Piv b p) (hc : Piv c q) (l : p < q) (s : Sm [b, c] G) (hG : ∀ g ∈ G, Lim M g) (i j : Nat) : (det2 i j b c).natAbs ≤ 2 * (M * M) := by
  have z0 : det2 p q b c ≠ 0 := by
    have e : det2 p q b c = b p * c q := by
      unfold det2
      rw [hc.1 p l]
      grind
    rw [e]
    have h1 := hb.2
    have h2 := hc.2
    have := Int.mul_pos h1 h2
    omega
  obtain ⟨g, hg, z1⟩ := (lin2l p q c).some ((s b).mp (In.head b [c])) z0
  obtain ⟨h, hh, z2⟩ := (lin2r p q g).some ((s c).mp (In.head c []).tail) z1
  obtain ⟨k1, k2, hk⟩ := (s g).mpr (In.mem hg)
  obtain ⟨m1, m2, hm⟩ := (s h).mpr (In.mem hh)
  have eg : ∀ j, g j = k1 * b j + k2 * c j := fun j => by
    have : (g j - k1 * b j) - k2 * c j = 0 := hk j
    omega
  have eh : ∀ j, h j = m1 * b j + m2 * c j := fun j => by
    have : (h j - m1 * b j) - m2 * c j = 0 := hm j
    omega
  have t : ∀ i j, det2 i j g h = (k1 * m2 - k2 * m1) * det2 i j b c := fun i j => by
    unfold det2
    rw [eg, eg, eh, eh]
    grind
  have t0 : k1 * m2 - k2 * m1 ≠ 0 := fun z => z2 (by show det2 p q g h = 0; rw [t, z]; grind)
  have b1 := det2_lim (p := i) (q := j) (hG g hg) (hG h hh)
  rw [t, Int.natAbs_mul] at b1
  have := Nat.le_mul_of_pos_left (det2 i j b c).natAbs (show 0 < (k1 * m2 - k2 * m1).natAbs by omega)
  omega
/-- three rows of three columns: the whole minor is a part of a given one -/
theorem lim3 {b c d : F} {M : Nat} {G : List F} (hb : Piv b 0) (hc : Piv c 1) (hd : Piv d 2) (s : Sm [b, c, d] G) (hG : ∀ g ∈ G, Lim M g) : (b 0 * c 1 * d 2).natAbs ≤ 6 * (M * (M * M)) := by
  have c0 := hc.1 0 (by decide)
  have d0 := hd.1 0 (by decide)
  have d1 := hd.1 1 (by decide)
  have eD : det3 b c d = b 0 * c 1 * d 2 := by
    unfold det3
    rw [c0, d0, d1]
    grind
  have pos : 0 < b 0 * c 1 * d 2 := Int.mul_pos (Int.mul_pos hb.2 hc.2) hd.2
  obtain ⟨g, hg, z1⟩ := (lin3a c d).some ((s b).mp (In.head b [c, d])) (by show det3 b c d ≠ 0; rw [eD]; omega)
  obtain ⟨h, hh, z2⟩ := (lin3b g d).some ((s c).mp (In.head c [d]).tail) z1
  obtain ⟨f, hf, z3⟩ := (lin3c g h).some ((s d).mp (In.head d []).tail.tail) z2
  have dv : (b 0 * c 1 * d 2) ∣ det3 g h f := by
    refine (lin3a h f).dvd (fun x hx => ?_) ((s g).mpr (In.mem hg))
    refine (lin3b x f).dvd (fun y hy => ?_) ((s h).mpr (In.mem hh))
    refine (lin3c x y).dvd (fun z hz => ?_) ((s f).mpr (In.mem hf))
    simp only [List.mem_cons, List.mem_nil_iff, or_false] at hx hy hz
    rcases hx with rfl | rfl | rfl <;> rcases hy with rfl | rfl | rfl <;> rcases hz with rfl | rfl | rfl <;> unfold det3
    all_goals try simp only [c0, d0, d1]
    all_goals first | exact ⟨0, by grind⟩ | exact ⟨1, by grind⟩ | exact ⟨-1, by grind⟩
  exact Nat.le_trans (dvd_lim dv z3) (det3_lim (hG g hg) (hG h hh) (hG f hf))
theorem pos_le {a b : Int} {N : Nat} (ha : 0 < a) (hb : 0 < b) (h : (a * b).natAbs ≤ N) : a.natAbs ≤ N ∧ b.natAbs ≤ N := by
  rw [Int.natAbs_mul] at h
  have h1 := Nat.le_mul_of_pos_right a.natAbs (show 0 < b.natAbs by omega)
  have h2 := Nat.le_mul_of_pos_left b.natAbs (show 0 < a.natAbs by omega)
  omega
/-- the numbers of a basis in normal form of at most three columns -/
theorem Hn.lim {M : Nat} {B G : List F} (h : Hn 0 B) (hp : ∀ b ∈ B, ∀ p, Piv b p → p < 3) (h3 : ∀ b ∈ B, ∀ i, 3 ≤ i → b i = 0) (s : Sm B G) (hG : ∀ g ∈ G, Lim M g) : ∀ b ∈ B, Lim (6 * (M * (M * M)) + 4 * (M * M) + M) b := by
  cases h with
  | nil => exact fun _ z => by cases z
  | @cons _ p b T _ hb hT rb =>
    have p3 := hp b List.mem_cons_self p hb
    cases hT with
    | nil =>
      intro x hx i
      rw [List.mem_singleton.mp hx]
      have := lim1 hb s hG i
      omega
    | @cons _ q c T2 pq hc hT2 rc =>
      have q3 := hp c (List.mem_cons_of_mem _ List.mem_cons_self) q hc
      have bq := rb c List.mem_cons_self q hc
      cases hT2 with
      | nil =>
        have m := lim2 hb hc (by omega) s hG
        generalize hN : 2 * (M * M) = N at m
        have mpq := m p q
        have e1 : det2 p q b c = b p * c q := by
          unfold det2
          rw [hc.1 p (by omega)]
          grind
        rw [e1] at mpq
        obtain ⟨lb, lc⟩ := pos_le hb.2 hc.2 mpq
        -- any other column
        have cj : ∀ j, p ≠ j → (c j).natAbs ≤ N := fun j nj => by
          have := m p j
          have e : det2 p j b c = b p * c j := by
            unfold det2
            rw [hc.1 p (by omega)]
            grind
          rw [e, Int.natAbs_mul] at this
          have := Nat.le_mul_of_pos_left (c j).natAbs (show 0 < (b p).natAbs by have := hb.2; omega)
          omega
        have call : ∀ j, (c j).natAbs ≤ N := fun j => by
          by_cases z : p = j
          · rw [← z, hc.1 p (by omega)]
            exact Nat.zero_le _
          · exact cj j z
        have bqN : (b q).natAbs ≤ N := by omega
        have ball : ∀ j, (b j).natAbs ≤ 2 * N := fun j => by
          have h1 := m q j
          have e : b j * c q = b q * c j - det2 q j b c := by unfold det2; grind
          have l1 : (b j * c q).natAbs ≤ (b q * c j).natAbs + (det2 q j b c).natAbs := by rw [e]; omega
          have l2 : (b q * c j).natAbs ≤ (c q).natAbs * N := mul_lim (by omega) (call j)
          rw [Int.natAbs_mul] at l1
          have cq : 1 ≤ (c q).natAbs := by have := hc.2; omega
          have l3 : N ≤ (c q).natAbs * N := Nat.le_mul_of_pos_left N cq
          have l4 : (b j).natAbs * (c q).natAbs ≤ (2 * N) * (c q).natAbs := by
            rw [Nat.mul_comm (2 * N), Nat.mul_left_comm]
            omega
          exact Nat.le_of_mul_le_mul_right l4 cq
        intro x hx i
        rcases List.mem_cons.mp hx with rfl | hx
        · have := ball i
          omega
        · rw [List.mem_singleton.mp hx]
          have := call i
          omega
      | @cons _ r d T3 qr hd hT3 rd =>
        have r3 := hp d (List.mem_cons_of_mem _ (List.mem_cons_of_mem _ List.mem_cons_self)) r hd
        cases hT3 with
        | cons rs he hT4 re =>
          have := hp _ (List.mem_cons_of_mem _ (List.mem_cons_of_mem _ (List.mem_cons_of_mem _ List.mem_cons_self))) _ he
          omega
        | nil =>
          have ep : p = 0 := by omega
          have eq : q = 1 := by omega
          have er : r = 2 := by omega
          subst ep eq er
          have m := lim3 hb hc hd s hG
          generalize hN : 6 * (M * (M * M)) = N at m ⊢
          obtain ⟨l1, ld⟩ := pos_le (Int.mul_pos hb.2 hc.2) hd.2 m
          obtain ⟨lb, lc⟩ := pos_le hb.2 hc.2 l1
          have bd := rb d (List.mem_cons_of_mem _ List.mem_cons_self) 2 hd
          have cd := rc d List.mem_cons_self 2 hd
          have c0 := hc.1 0 (by decide)
          have d0 := hd.1 0 (by decide)
          have d1 := hd.1 1 (by decide)
          have three : ∀ x : F, (x 0).natAbs ≤ N → (x 1).natAbs ≤ N → (x 2).natAbs ≤ N → (∀ i, 3 ≤ i → x i = 0) → Lim (N + 4 * (M * M) + M) x := fun x x0 x1 x2 x3 i => by
            rcases i with _ | _ | _ | i
            · omega
            · show (x 1).natAbs ≤ _
              omega
            · show (x 2).natAbs ≤ _
              omega
            · rw [x3 _ (by omega)]
              exact Nat.zero_le _
          intro x hx
          simp only [List.mem_cons, List.mem_nil_iff, or_false] at hx
          rcases hx with rfl | rfl | rfl
          · exact three _ lb (by omega) (by omega) (h3 _ (by simp))
          · exact three _ (by omega) lc (by omega) (h3 _ (by simp))
          · exact three _ (by omega) (by omega) ld (h3 _ (by simp))
end Lat

set_option Elab.async false
set_option linter.all false
set_option maxRecDepth 100000
set_option maxHeartbeats 4000000
/-! Rows as lists of whole numbers; one step of the divisions, and how great the numbers get. -/
namespace Lat
def toF (r : List Int) : F := fun i => r.getD i 0
def lessL (r u : List Int) (k : Int) : List Int := List.zipWith (fun a b => a - k * b) r u
def LimL (N : Nat) (r : List Int) : Prop := ∀ i, (toF r i).natAbs ≤ N
theorem toF_lt {r : List Int} {i : Nat} (h : i < r.length) : toF r i = r[i] := by
  unfold toF
  rw [List.getD_eq_getElem?_getD, List.getElem?_eq_getElem h]
  rfl
theorem toF_ge {r : List Int} {i : Nat} (h : r.length ≤ i) : toF r i = 0 := by
  unfold toF
  rw [List.getD_eq_getElem?_getD, List.getElem?_eq_none h]
  rfl
theorem less_len {r u : List Int} {k : Int} (h : r.length = u.length) : (lessL r u k).length = r.length := by
  unfold lessL
  rw [List.length_zipWith, h, Nat.min_self]
theorem toF_less {r u : List Int} {k : Int} (h : r.length = u.length) : toF (lessL r u k) = sub (toF r) (toF u) k := by
  funext i
  show toF (lessL r u k) i = toF r i - k * toF u i
  by_cases c : i < r.length
  · rw [toF_lt (by rw [less_len h]; exact c), toF_lt c, toF_lt (by omega)]
    unfold lessL
    rw [List.getElem_zipWith]
  · rw [toF_ge (by rw [less_len h]; omega), toF_ge (by omega), toF_ge (by omega)]
    grind
theorem toF_inj {r u : List Int} (h : r.length = u.length) (e : toF r = toF u) : r = u := by
  refine List.ext_getElem h fun i h1 h2 => ?_
  rw [← toF_lt h1, ← toF_lt h2, e]
theorem toF_zero (w i : Nat) : toF (List.replicate w 0) i = 0 := by
  by_cases c : i < w
  · rw [toF_lt (by rw [List.length_replicate]; exact c), List.getElem_replicate]
  · exact toF_ge (by rw [List.length_replicate]; omega)
theorem zero_of {r : List Int} (h : ∀ i, toF r i = 0) : r = List.replicate r.length 0 := toF_inj (by rw [List.length_replicate]) (by
  funext i
  rw [h i, toF_zero])
theorem rows_inj {w : Nat} : ∀ {A B : List (List Int)}, (∀ r ∈ A, r.length = w) → (∀ r ∈ B, r.length = w) → A.map toF = B.map toF → A = B
  | [], [], _, _, _ => rfl
  | [], _ :: _, _, _, e => by cases e
  | _ :: _, [], _, _, e => by cases e
  | a :: A, b :: B, hA, hB, e => by
    rw [List.map_cons, List.map_cons, List.cons.injEq] at e
    rw [toF_inj (by rw [hA a List.mem_cons_self, hB b List.mem_cons_self]) e.1, rows_inj (fun r hr => hA r (List.mem_cons_of_mem _ hr)) (fun r hr => hB r (List.mem_cons_of_mem _ hr)) e.2]
/-- the first place with another number than 0, or the length -/
def pivotOf (r : List Int) : Nat := r.findIdx fun x => decide (x ≠ 0)
theorem pivotOf_low {r : List Int} {i : Nat} (h : i < pivotOf r) : toF r i = 0 := by
  have hl : i < r.length := Nat.lt_of_lt_of_le h List.findIdx_le_length
  rw [toF_lt hl]
  have := List.not_of_lt_findIdx h
  simpa using this
theorem pivotOf_at {r : List Int} (h : pivotOf r < r.length) : toF r (pivotOf r) ≠ 0 := by
  rw [toF_lt h]
  have := List.findIdx_getElem (p := fun x : Int => decide (x ≠ 0)) (xs := r) (w := h)
  exact of_decide_eq_true this
theorem pivotOf_eq {r : List Int} {p : Nat} (h : ∀ i, i < p → toF r i = 0) (hp : toF r p ≠ 0) : pivotOf r = p := by
  rcases Nat.lt_trichotomy (pivotOf r) p with c | c | c
  · have hl : p < r.length := by
      refine Decidable.byContradiction fun z => hp (toF_ge (by omega))
    exact absurd (h _ c) (pivotOf_at (by omega))
  · exact c
  · exact absurd (pivotOf_low c) hp
theorem pivotOf_piv {r : List Int} {p : Nat} (h : Piv (toF r) p) : pivotOf r = p := pivotOf_eq h.1 (by have := h.2; omega)
theorem piv_lt {r : List Int} {p : Nat} (h : Piv (toF r) p) : p < r.length := Decidable.byContradiction fun z => by
  have := h.2
  rw [toF_ge (by omega)] at this
  omega
/-! the division that rounds down -/
theorem fd_rest {f r : Int} (hr : r ≠ 0) : (f - Int.fdiv f r * r).natAbs < r.natAbs ∧ 0 ≤ (f - Int.fdiv f r * r) * r := by
  rcases Int.lt_or_gt_of_ne hr with c | c
  · have e : Int.fdiv f r = Int.fdiv (-f) (-r) := (Int.neg_fdiv_neg f r).symm
    have h1 := Int.fmod_nonneg_of_pos (-f) (show 0 < -r by omega)
    have h2 := Int.fmod_lt_of_pos (-f) (show 0 < -r by omega)
    rw [Int.fmod_def] at h1 h2
    rw [e]
    have e2 : f - Int.fdiv (-f) (-r) * r = -(-f - -r * Int.fdiv (-f) (-r)) := by grind
    rw [e2]
    generalize -f - -r * Int.fdiv (-f) (-r) = s at h1 h2
    refine ⟨by omega, ?_⟩
    have := Int.mul_nonneg h1 (show 0 ≤ -r by omega)
    grind
  · have h1 := Int.fmod_nonneg_of_pos f c
    have h2 := Int.fmod_lt_of_pos f c
    rw [Int.fmod_def, Int.mul_comm] at h1 h2
    exact ⟨by omega, Int.mul_nonneg h1 (by omega)⟩
theorem fd_sign {f r : Int} (hr : r ≠ 0) (h : 0 ≤ f * r) : 0 ≤ Int.fdiv f r := by
  rcases Int.lt_or_gt_of_ne hr with c | c
  · have hf : f ≤ 0 := Decidable.byContradiction fun z => by
      have := Int.mul_neg_of_pos_of_neg (show 0 < f by omega) c
      omega
    rw [← Int.neg_fdiv_neg]
    exact Int.fdiv_nonneg (by omega) (by omega)
  · have hf : 0 ≤ f := Decidable.byContradiction fun z => by
      have := Int.mul_neg_of_neg_of_pos (show f < 0 by omega) c
      omega
    exact Int.fdiv_nonneg hf (by omega)
/-- f = q r + s, where s has the sign of r: the sizes add up where f has it, too -/
theorem fd_abs {f r : Int} (hr : r ≠ 0) (h : 0 ≤ f * r) : f.natAbs = (Int.fdiv f r).natAbs * r.natAbs + (f - Int.fdiv f r * r).natAbs := by
  have h1 := (fd_rest (f := f) hr).2
  have h2 := fd_sign hr h
  rw [← Int.natAbs_mul]
  generalize hP : Int.fdiv f r * r = P at h1 ⊢
  rcases Int.lt_or_gt_of_ne hr with c | c
  · have p : P ≤ 0 := by
      rw [← hP]
      exact Int.mul_nonpos_of_nonneg_of_nonpos h2 (by omega)
    have s : f - P ≤ 0 := Decidable.byContradiction fun z => by
      have := Int.mul_neg_of_pos_of_neg (show 0 < f - P by omega) c
      omega
    omega
  · have p : 0 ≤ P := by
      rw [← hP]
      exact Int.mul_nonneg h2 (by omega)
    have s : 0 ≤ f - P := Decidable.byContradiction fun z => by
      have := Int.mul_neg_of_neg_of_pos (show f - P < 0 by omega) c
      omega
    omega
theorem fd_abs2 {f r : Int} (hr : r ≠ 0) : (Int.fdiv f r).natAbs * r.natAbs ≤ f.natAbs + r.natAbs := by
  have := (fd_rest (f := f) hr).1
  rw [← Int.natAbs_mul]
  omega
theorem fd_le {f r : Int} (hr : r ≠ 0) : (Int.fdiv f r).natAbs ≤ f.natAbs + 1 := by
  have h := fd_abs2 (f := f) hr
  have hr1 : 1 ≤ r.natAbs := by omega
  refine Decidable.byContradiction fun c => ?_
  have c2 : f.natAbs + 2 ≤ (Int.fdiv f r).natAbs := by omega
  have := Nat.mul_le_mul_right r.natAbs c2
  rw [Nat.add_mul] at this
  have := Nat.le_mul_of_pos_right f.natAbs hr1
  omega
theorem sub_abs (a q b : Int) : (a - q * b).natAbs ≤ a.natAbs + q.natAbs * b.natAbs := by
  have := Int.natAbs_mul q b
  omega
/-- two rows while one is divided by the other at a place -/
structure Eu (w at' M : Nat) (f r : List Int) : Prop where
  lf : f.length = w
  lr : r.length = w
  low : ∀ i, i < at' → toF f i = 0 ∧ toF r i = 0
  fl : LimL (4 * (M * M)) f
  rl : LimL (4 * (M * M)) r
  grow : (toF f at' ≠ 0 ∧ 0 ≤ toF f at' * toF r at' ∧ ∀ j, (toF f j).natAbs * (toF r at').natAbs + (toF r j).natAbs * (toF f at').natAbs ≤ 4 * (M * M)) ∨ (LimL M f ∧ LimL M r)
  fz : toF f at' = 0 → ∀ i, toF f i = 0
theorem le_sq {M : Nat} : M ≤ 4 * (M * M) := by
  rcases Nat.eq_zero_or_pos M with h | h
  · rw [h]; exact Nat.zero_le _
  · have := Nat.le_mul_of_pos_right M h
    omega
theorem LimL.mono {M N : Nat} {r : List Int} (h : LimL M r) (l : M ≤ N) : LimL N r := fun i => Nat.le_trans (h i) l
theorem Eu.start {w at' M : Nat} {f r : List Int} (lf : f.length = w) (lr : r.length = w) (low : ∀ i, i < at' → toF f i = 0 ∧ toF r i = 0) (hf : LimL M f) (hr : LimL M r) (fz : toF f at' = 0 → ∀ i, toF f i = 0) : Eu w at' M f r :=
  ⟨lf, lr, low, hf.mono le_sq, hr.mono le_sq, .inr ⟨hf, hr⟩, fz⟩
theorem Eu.step {w at' M : Nat} {f r : List Int} (h : Eu w at' M f r) (hr : toF r at' ≠ 0) : Eu w at' M r (lessL f r (Int.fdiv (toF f at') (toF r at'))) ∧ (toF (lessL f r (Int.fdiv (toF f at') (toF r at'))) at').natAbs < (toF r at').natAbs := by
  have e := toF_less (r := f) (u := r) (k := Int.fdiv (toF f at') (toF r at')) (by rw [h.lf, h.lr])
  have e1 : ∀ j, toF (lessL f r (Int.fdiv (toF f at') (toF r at'))) j = toF f j - Int.fdiv (toF f at') (toF r at') * toF r j := fun j => congrFun e j
  obtain ⟨s1, s2⟩ := fd_rest (f := toF f at') hr
  have N : ∀ j, (toF r j).natAbs * (toF f at' - Int.fdiv (toF f at') (toF r at') * toF r at').natAbs + (toF f j - Int.fdiv (toF f at') (toF r at') * toF r j).natAbs * (toF r at').natAbs ≤ 4 * (M * M) := fun j => by
    have x := sub_abs (toF f j) (Int.fdiv (toF f at') (toF r at')) (toF r j)
    have x2 := Nat.mul_le_mul_right (toF r at').natAbs x
    rw [Nat.add_mul] at x2
    have x3 : (Int.fdiv (toF f at') (toF r at')).natAbs * (toF r j).natAbs * (toF r at').natAbs = (toF r j).natAbs * ((Int.fdiv (toF f at') (toF r at')).natAbs * (toF r at').natAbs) := by grind
    rw [x3] at x2
    rcases h.grow with ⟨g0, g1, g2⟩ | ⟨g1, g2⟩
    · have a := fd_abs hr g1
      have b := g2 j
      rw [a, Nat.mul_add] at b
      omega
    · have a := fd_abs2 (f := toF f at') hr
      have b1 := g2 j
      have b2 := g1 j
      have b3 := g1 at'
      have b4 := g2 at'
      have y1 : (toF r j).natAbs * ((Int.fdiv (toF f at') (toF r at')).natAbs * (toF r at').natAbs) ≤ M * (2 * M) := Nat.mul_le_mul b1 (by omega)
      have y2 : (toF f j).natAbs * (toF r at').natAbs ≤ M * M := Nat.mul_le_mul b2 b4
      have y3 : (toF r j).natAbs * (toF f at' - Int.fdiv (toF f at') (toF r at') * toF r at').natAbs ≤ M * M := Nat.mul_le_mul b1 (by omega)
      have y4 : M * (2 * M) = 2 * (M * M) := by rw [Nat.mul_left_comm]
      omega
  refine ⟨⟨h.lr, by rw [less_len (by rw [h.lf, h.lr])]; exact h.lf, fun i hi => ⟨(h.low i hi).2, by rw [e1, (h.low i hi).1, (h.low i hi).2]; grind⟩, h.rl, fun j => ?_, .inl ⟨hr, by rw [e1, Int.mul_comm]; exact s2, fun j => by rw [e1, e1]; exact N j⟩, fun z => absurd z hr⟩, by rw [e1]; exact s1⟩
  rw [e1]
  have := N j
  have := Nat.le_mul_of_pos_right (toF f j - Int.fdiv (toF f at') (toF r at') * toF r j).natAbs (show 0 < (toF r at').natAbs by omega)
  omega
end Lat

set_option Elab.async false
set_option linter.all false
set_option maxRecDepth 100000
set_option maxHeartbeats 4000000
/-! A row put to a basis, column by column; rows reduced by those behind them. -/
namespace Lat
/-- a basis in normal form, as lists -/
structure Bas (w : Nat) (B : List (List Int)) : Prop where
  len : ∀ r ∈ B, r.length = w
  hn : Hn 0 (B.map toF)
theorem Hn.piv : ∀ {c : Nat} {B : List F}, Hn c B → ∀ {b : F}, b ∈ B → ∃ p, c ≤ p ∧ Piv b p
  | _, _, .cons (p := p) hp hb hT _, b, h => by
    rcases List.mem_cons.mp h with rfl | h
    · exact ⟨p, hp, hb⟩
    · obtain ⟨q, h1, h2⟩ := hT.piv h
      exact ⟨q, by omega, h2⟩
theorem Hn.inj : ∀ {c : Nat} {B : List F}, Hn c B → ∀ {b d : F} {p : Nat}, b ∈ B → d ∈ B → Piv b p → Piv d p → b = d
  | _, _, .cons (p := q) hq ha hT _, b, d, p, hb, hd, pb, pd => by
    rcases List.mem_cons.mp hb with e1 | hb2 <;> rcases List.mem_cons.mp hd with e2 | hd2
    · rw [e1, e2]
    · rw [e1] at pb
      obtain ⟨r, h1, h2⟩ := hT.piv hd2
      have := ha.uniq pb
      have := h2.uniq pd
      omega
    · rw [e2] at pd
      obtain ⟨r, h1, h2⟩ := hT.piv hb2
      have := ha.uniq pd
      have := h2.uniq pb
      omega
    · exact hT.inj hb2 hd2 pb pd
theorem Bas.piv {w : Nat} {B : List (List Int)} (h : Bas w B) {r : List Int} (hr : r ∈ B) : Piv (toF r) (pivotOf r) ∧ pivotOf r < w := by
  obtain ⟨p, _, hp⟩ := h.hn.piv (List.mem_map.mpr ⟨r, hr, rfl⟩)
  have e := pivotOf_piv hp
  rw [e]
  exact ⟨hp, by rw [← h.len r hr]; exact piv_lt hp⟩
def rowAt (B : List (List Int)) (p w : Nat) : List Int := (B.find? fun r => decide (pivotOf r = p)).getD (List.replicate w 0)
def remF (B : List (List Int)) (p : Nat) : List (List Int) := B.filter fun r => decide (p ≤ pivotOf r)
theorem mem_rem {B : List (List Int)} {p : Nat} {r : List Int} : r ∈ remF B p ↔ r ∈ B ∧ p ≤ pivotOf r := by
  unfold remF
  rw [List.mem_filter, decide_eq_true_iff]
theorem rem_0 (B : List (List Int)) : remF B 0 = B := List.filter_eq_self.mpr fun r _ => decide_eq_true (Nat.zero_le _)
theorem rem_w {w : Nat} {B : List (List Int)} (h : Bas w B) : remF B w = [] := List.filter_eq_nil_iff.mpr fun r hr => by
  have := (h.piv hr).2
  rw [decide_eq_false (by omega)]
  exact Bool.false_ne_true
structure RowAt (w p M : Nat) (B : List (List Int)) (f : List Int) : Prop where
  len : f.length = w
  low : ∀ i, i < p → toF f i = 0
  fz : toF f p = 0 → ∀ i, toF f i = 0
  lim : LimL M f
  sm : ∀ X Y : List F, Sm (X ++ ((remF B p).map toF ++ Y)) (X ++ toF f :: ((remF B (p + 1)).map toF ++ Y))
theorem in_l {A B : List F} {x : F} (h : x ∈ A) : In (A ++ B) x := In.mem (List.mem_append_left _ h)
theorem rowAt_ok {w p M : Nat} {B : List (List Int)} (h : Bas w B) (hM : ∀ r ∈ B, LimL M r) : RowAt w p M B (rowAt B p w) := by
  unfold rowAt
  cases e : B.find? fun r => decide (pivotOf r = p) with
  | none =>
    have no : ∀ r ∈ B, pivotOf r ≠ p := fun r hr z => by
      have := List.find?_eq_none.mp e r hr
      exact this (decide_eq_true z)
    show RowAt w p M B (List.replicate w 0)
    have z : ∀ i, toF (List.replicate w 0) i = 0 := fun i => toF_zero w i
    refine ⟨List.length_replicate, fun i _ => z i, fun _ i => z i, fun i => by rw [z i]; exact Nat.zero_le _, fun X Y => Sm.of (fun x hx => ?_) fun x hx => ?_⟩
    · refine In.mem ?_
      rcases List.mem_append.mp hx with h1 | h1
      · exact List.mem_append_left _ h1
      · refine List.mem_append_right _ (List.mem_cons_of_mem _ ?_)
        rcases List.mem_append.mp h1 with h2 | h2
        · obtain ⟨r, hr, rfl⟩ := List.mem_map.mp h2
          obtain ⟨hr1, hr2⟩ := mem_rem.mp hr
          exact List.mem_append_left _ (List.mem_map.mpr ⟨r, mem_rem.mpr ⟨hr1, by have := no r hr1; omega⟩, rfl⟩)
        · exact List.mem_append_right _ h2
    · rcases List.mem_append.mp hx with h1 | h1
      · exact In.mem (List.mem_append_left _ h1)
      · rcases List.mem_cons.mp h1 with rfl | h1
        · exact In.zero _ z
        · refine In.mem (List.mem_append_right _ ?_)
          rcases List.mem_append.mp h1 with h2 | h2
          · obtain ⟨r, hr, rfl⟩ := List.mem_map.mp h2
            obtain ⟨hr1, hr2⟩ := mem_rem.mp hr
            exact List.mem_append_left _ (List.mem_map.mpr ⟨r, mem_rem.mpr ⟨hr1, by omega⟩, rfl⟩)
          · exact List.mem_append_right _ h2
  | some f =>
    have hf := List.mem_of_find?_eq_some e
    have ep : pivotOf f = p := of_decide_eq_true (List.find?_some (p := fun r => decide (pivotOf r = p)) e)
    have pf := (h.piv hf).1
    rw [ep] at pf
    show RowAt w p M B f
    refine ⟨h.len f hf, pf.1, fun z => by have := pf.2; omega, hM f hf, fun X Y => Sm.of (fun x hx => In.mem ?_) fun x hx => In.mem ?_⟩
    · rcases List.mem_append.mp hx with h1 | h1
      · exact List.mem_append_left _ h1
      · refine List.mem_append_right _ ?_
        rcases List.mem_append.mp h1 with h2 | h2
        · obtain ⟨r, hr, rfl⟩ := List.mem_map.mp h2
          obtain ⟨hr1, hr2⟩ := mem_rem.mp hr
          by_cases c : pivotOf r = p
          · have pr := (h.piv hr1).1
            rw [c] at pr
            rw [h.hn.inj (List.mem_map.mpr ⟨r, hr1, rfl⟩) (List.mem_map.mpr ⟨f, hf, rfl⟩) pr pf]
            exact List.mem_cons_self
          · exact List.mem_cons_of_mem _ (List.mem_append_left _ (List.mem_map.mpr ⟨r, mem_rem.mpr ⟨hr1, by omega⟩, rfl⟩))
        · exact List.mem_cons_of_mem _ (List.mem_append_right _ h2)
    · rcases List.mem_append.mp hx with h1 | h1
      · exact List.mem_append_left _ h1
      · refine List.mem_append_right _ ?_
        rcases List.mem_cons.mp h1 with rfl | h1
        · exact List.mem_append_left _ (List.mem_map.mpr ⟨f, mem_rem.mpr ⟨hf, by omega⟩, rfl⟩)
        · rcases List.mem_append.mp h1 with h2 | h2
          · obtain ⟨r, hr, rfl⟩ := List.mem_map.mp h2
            obtain ⟨hr1, hr2⟩ := mem_rem.mp hr
            exact List.mem_append_left _ (List.mem_map.mpr ⟨r, mem_rem.mpr ⟨hr1, by omega⟩, rfl⟩)
          · exact List.mem_append_right _ h2
/-- rows whose first numbers are positive and stand further and further to the right -/
structure Ech (w p : Nat) (L : List (List Int)) : Prop where
  len : ∀ r ∈ L, r.length = w
  piv : ∀ r ∈ L, ∃ q, q < p ∧ Piv (toF r) q
  inc : L.Pairwise fun a b => ∀ q s, Piv (toF a) q → Piv (toF b) s → q < s
theorem Ech.snoc {w p : Nat} {L : List (List Int)} {r : List Int} (h : Ech w p L) (hl : r.length = w) (hp : Piv (toF r) p) : Ech w (p + 1) (L ++ [r]) := by
  refine ⟨fun x hx => ?_, fun x hx => ?_, List.pairwise_append.mpr ⟨h.inc, List.pairwise_singleton _ _, fun a ha b hb q s hq hs => ?_⟩⟩
  · rcases List.mem_append.mp hx with z | z
    · exact h.len x z
    · rw [List.mem_singleton.mp z]; exact hl
  · rcases List.mem_append.mp hx with z | z
    · obtain ⟨q, h1, h2⟩ := h.piv x z
      exact ⟨q, by omega, h2⟩
    · rw [List.mem_singleton.mp z]; exact ⟨p, by omega, hp⟩
  · rw [List.mem_singleton.mp hb] at hs
    have e1 := hp.uniq hs
    obtain ⟨q2, h1, h2⟩ := h.piv a ha
    have e2 := h2.uniq hq
    omega
theorem Ech.weak {w p q : Nat} {L : List (List Int)} (h : Ech w p L) (l : p ≤ q) : Ech w q L := ⟨h.len, fun r hr => by
  obtain ⟨s, h1, h2⟩ := h.piv r hr
  exact ⟨s, by omega, h2⟩, h.inc⟩
/-- what stands at a column while a row is put to a basis -/
structure Co (w p M : Nat) (B : List (List Int)) (row : List Int) (L : List (List Int)) (r : List Int) : Prop where
  ech : Ech w p L
  many : L.length ≤ p
  len : r.length = w
  low : ∀ i, i < p → toF r i = 0
  lim : LimL M r
  lims : ∀ x ∈ L, LimL M x
  sm : Sm (L.map toF ++ ((remF B p).map toF ++ [toF r])) (toF row :: B.map toF)
theorem Co.start {w M : Nat} {B : List (List Int)} {row : List Int} (hl : row.length = w) (hM : LimL M row) : Co w 0 M B row [] row :=
  ⟨⟨(fun _ z => by cases z), (fun _ z => by cases z), .nil⟩, Nat.le_refl _, hl, (fun _ z => by omega), hM, (fun _ z => by cases z), by
    rw [rem_0]
    show Sm (B.map toF ++ [toF row]) (toF row :: B.map toF)
    exact Sm.of (fun x hx => In.mem (by
      rcases List.mem_append.mp hx with z | z
      · exact List.mem_cons_of_mem _ z
      · rw [List.mem_singleton.mp z]; exact List.mem_cons_self)) fun x hx => In.mem (by
      rcases List.mem_cons.mp hx with rfl | z
      · exact List.mem_append_right _ (List.mem_singleton.mpr rfl)
      · exact List.mem_append_left _ z)⟩
/-- while the two rows are divided -/
structure CoE (w p M : Nat) (B : List (List Int)) (row : List Int) (L : List (List Int)) (f r : List Int) : Prop where
  eu : Eu w p M f r
  sm : Sm (L.map toF ++ toF f :: ((remF B (p + 1)).map toF ++ [toF r])) (toF row :: B.map toF)
theorem Co.first {w p M M0 : Nat} {B : List (List Int)} {row : List Int} {L : List (List Int)} {r : List Int} (h : Co w p M B row L r) (hB : Bas w B) (hM : ∀ x ∈ B, LimL M0 x) (l : M0 ≤ M) : CoE w p M B row L (rowAt B p w) r := by
  have q := rowAt_ok (p := p) hB hM
  exact ⟨Eu.start q.len h.len (fun i hi => ⟨q.low i hi, h.low i hi⟩) (q.lim.mono l) h.lim q.fz, (q.sm (L.map toF) [toF r]).symm.trans h.sm⟩
theorem CoE.step {w p M : Nat} {B : List (List Int)} {row : List Int} {L : List (List Int)} {f r : List Int} (h : CoE w p M B row L f r) (hr : toF r p ≠ 0) : CoE w p M B row L r (lessL f r (Int.fdiv (toF f p) (toF r p))) := by
  refine ⟨(h.eu.step hr).1, Sm.trans ?_ h.sm⟩
  have e := toF_less (r := f) (u := r) (k := Int.fdiv (toF f p) (toF r p)) (by rw [h.eu.lf, h.eu.lr])
  rw [e]
  refine Sm.of (fun x hx => ?_) fun x hx => ?_
  · rcases List.mem_append.mp hx with z | z
    · exact In.mem (List.mem_append_left _ z)
    · rcases List.mem_cons.mp z with rfl | z
      · exact In.mem (by simp)
      · rcases List.mem_append.mp z with z | z
        · exact In.mem (by simp only [List.mem_append, List.mem_cons]; exact .inr (.inr (.inl z)))
        · rw [List.mem_singleton.mp z]
          exact In.sub _ (In.mem (by simp)) (In.mem (by simp))
  · rcases List.mem_append.mp hx with z | z
    · exact In.mem (List.mem_append_left _ z)
    · rcases List.mem_cons.mp z with rfl | z
      · exact In.back (v := toF r) (k := Int.fdiv (toF f p) (toF r p)) (In.mem (by simp)) (In.mem (by simp))
      · rcases List.mem_append.mp z with z | z
        · exact In.mem (by simp only [List.mem_append, List.mem_cons]; exact .inr (.inr (.inl z)))
        · rw [List.mem_singleton.mp z]
          exact In.mem (by simp)
theorem neg_toF {w : Nat} {f : List Int} (h : f.length = w) : ∀ i, toF (lessL (List.replicate w 0) f 1) i = - toF f i := fun i => by
  have e := congrFun (toF_less (r := List.replicate w 0) (u := f) (k := 1) (by rw [List.length_replicate, h])) i
  rw [e]
  show toF (List.replicate w 0) i - 1 * toF f i = _
  rw [toF_zero]
  omega
/-- one row more is found -/
theorem CoE.put {w p M : Nat} {B : List (List Int)} {row : List Int} {L : List (List Int)} {f r g : List Int} (hL : Ech w p L) (hm : L.length ≤ p) (hls : ∀ x ∈ L, LimL (4 * (M * M)) x) (h : CoE w p M B row L f r) (hr : toF r p = 0) (hg : g.length = w) (hp : 0 < toF g p)
    (hgf : (∀ i, toF g i = toF f i) ∨ ∀ i, toF g i = - toF f i) : Co w (p + 1) (4 * (M * M)) B row (L ++ [g]) r := by
  have low : ∀ i, i < p → toF g i = 0 := fun i hi => by
    have := (h.eu.low i hi).1
    rcases hgf with e | e
    · rw [e]; exact this
    · rw [e, this]; rfl
  refine ⟨hL.snoc hg ⟨low, hp⟩, by rw [List.length_append]; show _ + 1 ≤ _; omega, h.eu.lr, fun i hi => ?_, h.eu.rl, fun x hx => ?_, Sm.trans ?_ h.sm⟩
  · by_cases c : i = p
    · rw [c]; exact hr
    · exact (h.eu.low i (by omega)).2
  · rcases List.mem_append.mp hx with z | z
    · exact hls x z
    · rw [List.mem_singleton.mp z]
      intro i
      have := h.eu.fl i
      rcases hgf with e | e
      · rw [e]; exact this
      · rw [e, Int.natAbs_neg]; exact this
  · have rest : ∀ x, x ∈ (remF B (p + 1)).map toF ++ [toF r] → ∀ y, x ∈ L.map toF ++ y :: ((remF B (p + 1)).map toF ++ [toF r]) := fun x hx y => List.mem_append_right _ (List.mem_cons_of_mem _ hx)
    rw [List.map_append]
    refine Sm.of (fun x hx => ?_) fun x hx => ?_
    · rcases List.mem_append.mp hx with z | z
      · rcases List.mem_append.mp z with z | z
        · exact In.mem (List.mem_append_left _ z)
        · rw [List.mem_singleton.mp z]
          have hf : In (L.map toF ++ toF f :: ((remF B (p + 1)).map toF ++ [toF r])) (toF f) := In.mem (by simp)
          rcases hgf with e | e
          · rw [show toF g = toF f from funext e]; exact hf
          · have e2 : toF g = sub (toF r) (sub (toF r) (toF f) (-1)) 1 := funext fun i => by
              rw [e]
              show _ = toF r i - 1 * (toF r i - -1 * toF f i)
              omega
            rw [e2]
            exact In.sub _ (In.mem (by simp)) (In.sub _ (In.mem (by simp)) hf)
      · exact In.mem (rest x z _)
    · rcases List.mem_append.mp hx with z | z
      · exact In.mem (List.mem_append_left _ (List.mem_append_left _ z))
      · rcases List.mem_cons.mp z with rfl | z
        · have hf : In ((L.map toF ++ [g].map toF) ++ ((remF B (p + 1)).map toF ++ [toF r])) (toF g) := In.mem (List.mem_append_left _ (List.mem_append_right _ (List.mem_singleton.mpr rfl)))
          have hr2 : In ((L.map toF ++ [g].map toF) ++ ((remF B (p + 1)).map toF ++ [toF r])) (toF r) := In.mem (List.mem_append_right _ (List.mem_append_right _ (List.mem_singleton.mpr rfl)))
          rcases hgf with e | e
          · rw [show toF f = toF g from funext fun i => (e i).symm]; exact hf
          · have e2 : toF f = sub (toF r) (sub (toF r) (toF g) (-1)) 1 := funext fun i => by
              show _ = toF r i - 1 * (toF r i - -1 * toF g i)
              rw [e]
              omega
            rw [e2]
            exact In.sub _ hr2 (In.sub _ hr2 hf)
        · exact In.mem (List.mem_append_right _ z)
/-- none is -/
theorem CoE.drop {w p M : Nat} {B : List (List Int)} {row : List Int} {L : List (List Int)} {f r : List Int} (hL : Ech w p L) (hm : L.length ≤ p) (hls : ∀ x ∈ L, LimL (4 * (M * M)) x) (h : CoE w p M B row L f r) (hr : toF r p = 0) (hf : toF f p = 0) : Co w (p + 1) (4 * (M * M)) B row L r := by
  refine ⟨hL.weak (by omega), by omega, h.eu.lr, fun i hi => ?_, h.eu.rl, hls, Sm.trans ?_ h.sm⟩
  · by_cases c : i = p
    · rw [c]; exact hr
    · exact (h.eu.low i (by omega)).2
  · refine Sm.of (fun x hx => In.mem ?_) fun x hx => ?_
    · rcases List.mem_append.mp hx with z | z
      · exact List.mem_append_left _ z
      · exact List.mem_append_right _ (List.mem_cons_of_mem _ z)
    · rcases List.mem_append.mp hx with z | z
      · exact In.mem (List.mem_append_left _ z)
      · rcases List.mem_cons.mp z with rfl | z
        · exact In.zero _ (h.eu.fz hf)
        · exact In.mem (List.mem_append_right _ z)
/-- behind the last column -/
theorem Co.done {w M : Nat} {B : List (List Int)} {row : List Int} {L : List (List Int)} {r : List Int} (h : Co w w M B row L r) (hB : Bas w B) : Sm (L.map toF) (toF row :: B.map toF) := by
  refine Sm.trans ?_ h.sm
  rw [rem_w hB]
  refine Sm.of (fun x hx => In.mem (List.mem_append_left _ hx)) fun x hx => ?_
  rcases List.mem_append.mp hx with z | z
  · exact In.mem z
  · rw [List.mem_singleton.mp (show x ∈ [toF r] from z)]
    refine In.zero _ fun i => ?_
    by_cases c : i < w
    · exact h.low i c
    · exact toF_ge (by rw [h.len]; omega)
/-- rows reduced by those behind them -/
def redS (A : List (List Int)) (r : List Int) : List (List Int) := (A.map fun e => lessL e r (Int.fdiv (toF e (pivotOf r)) (toF r (pivotOf r)))) ++ [r]
def redL (L : List (List Int)) : List (List Int) := L.foldl redS []
theorem redL_snoc (L : List (List Int)) (r : List Int) : redL (L ++ [r]) = redS (redL L) r := by
  unfold redL
  rw [List.foldl_append]
  rfl
structure Red (w p N : Nat) (L A : List (List Int)) : Prop where
  bas : Bas w A
  piv : ∀ x ∈ A, ∃ q, q < p ∧ Piv (toF x) q
  sm : Sm (A.map toF) (L.map toF)
  lim : ∀ x ∈ A, LimL N x
theorem Red.step {w p M N : Nat} {L A : List (List Int)} {r : List Int} (h : Red w p N L A) (hl : r.length = w) (hp : Piv (toF r) p) (hM : LimL M r) (hMN : M ≤ N + (N + 1) * M) : Red w (p + 1) (N + (N + 1) * M) (L ++ [r]) (redS A r) := by
  have ep := pivotOf_piv hp
  have eq : (redS A r).map toF = ((A.map toF).map fun t => sub t (toF r) (t p / (toF r) p)) ++ [toF r] := by
    unfold redS
    rw [List.map_append, List.map_map, List.map_map, ep]
    congr 1
    refine List.map_congr_left fun e he => ?_
    show toF (lessL e r (Int.fdiv (toF e p) (toF r p))) = sub (toF e) (toF r) (toF e p / toF r p)
    rw [toF_less (by rw [h.bas.len e he, hl]), Int.fdiv_eq_ediv_of_nonneg _ (by have := hp.2; omega)]
  have lt : ∀ t ∈ A.map toF, ∃ q, q < p ∧ Piv t q := fun t ht => by
    obtain ⟨e, he, rfl⟩ := List.mem_map.mp ht
    exact h.piv e he
  refine ⟨⟨fun x hx => ?_, by rw [eq]; exact h.bas.hn.step (Nat.zero_le _) hp lt⟩, fun x hx => ?_, ?_, fun x hx => ?_⟩
  · rcases List.mem_append.mp hx with z | z
    · obtain ⟨e, he, rfl⟩ := List.mem_map.mp z
      rw [less_len (by rw [h.bas.len e he, hl]), h.bas.len e he]
    · rw [List.mem_singleton.mp z]; exact hl
  · rcases List.mem_append.mp hx with z | z
    · obtain ⟨e, he, rfl⟩ := List.mem_map.mp z
      obtain ⟨q, h1, h2⟩ := h.piv e he
      exact ⟨q, by omega, by rw [toF_less (by rw [h.bas.len e he, hl])]; exact h2.red hp.1 h1⟩
    · rw [List.mem_singleton.mp z]; exact ⟨p, by omega, hp⟩
  · rw [eq, List.map_append]
    refine Sm.trans (In.mapS fun t => t p / (toF r) p).symm ?_
    refine Sm.of (fun x hx => ?_) fun x hx => ?_
    · rcases List.mem_append.mp hx with z | z
      · exact In.le (fun a ha => In.mem (List.mem_append_left _ ha)) ((h.sm x).mp (In.mem z))
      · exact In.mem (List.mem_append_right _ z)
    · rcases List.mem_append.mp hx with z | z
      · exact In.le (fun a ha => In.mem (List.mem_append_left _ ha)) ((h.sm x).mpr (In.mem z))
      · exact In.mem (List.mem_append_right _ z)
  · rcases List.mem_append.mp hx with z | z
    · obtain ⟨e, he, rfl⟩ := List.mem_map.mp z
      intro i
      rw [toF_less (by rw [h.bas.len e he, hl])]
      have a := sub_abs (toF e i) (Int.fdiv (toF e (pivotOf r)) (toF r (pivotOf r))) (toF r i)
      have b := fd_le (f := toF e (pivotOf r)) (r := toF r (pivotOf r)) (by rw [ep]; have := hp.2; omega)
      have c := h.lim e he (pivotOf r)
      have d : (Int.fdiv (toF e (pivotOf r)) (toF r (pivotOf r))).natAbs * (toF r i).natAbs ≤ (N + 1) * M := Nat.mul_le_mul (by omega) (hM i)
      have := h.lim e he i
      exact Nat.le_trans a (by omega)
    · rw [List.mem_singleton.mp z]; exact hM.mono hMN
end Lat

set_option Elab.async false
set_option linter.all false
set_option maxRecDepth 100000
set_option maxHeartbeats 4000000
/-! Rows divided by the least of them, again and again; a row made smaller by a basis. -/
namespace Lat
/-- a row made smaller by another one at a place -/
def byL (x h : List Int) (c : Nat) : List Int := lessL x h (Int.fdiv (toF x c) (toF h c))
theorem byL_at {x h : List Int} {c : Nat} (l : x.length = h.length) (j : Nat) : toF (byL x h c) j = toF x j - Int.fdiv (toF x c) (toF h c) * toF h j := congrFun (toF_less l) j
def K8 (M : Nat) : Nat := 3 * (M * M) * (M * M * (M * M) * (M * M))
/-- rows that are 0 before c: those that are not 0 at c, and those that are -/
structure Dv (w c M : Nat) (rows S R : List (List Int)) : Prop where
  lenS : ∀ x ∈ S, x.length = w
  lenR : ∀ x ∈ R, x.length = w
  lowS : ∀ x ∈ S, (∀ i, i < c → toF x i = 0) ∧ toF x c ≠ 0
  lowR : ∀ x ∈ R, ∀ i, i < c + 1 → toF x i = 0
  sm : Sm ((S ++ R).map toF) (rows.map toF)
  lim : ∀ x ∈ S ++ R, LimL (K8 M) x
  cl : ∀ x ∈ S, (toF x c).natAbs ≤ M
  pot : (∀ x ∈ S ++ R, LimL M x) ∨ ∃ h T, S = h :: T ∧ (∀ o ∈ T, (toF o c).natAbs < (toF h c).natAbs) ∧ (∀ o ∈ T, 0 ≤ toF o c * toF h c) ∧
    ∀ o ∈ T, (∀ u ∈ T, (toF o c).natAbs ≤ (toF u c).natAbs) → ∀ x ∈ S ++ R, ∀ j, (toF x j).natAbs * ((toF h c).natAbs * (toF o c).natAbs * ((toF h c).natAbs * (toF o c).natAbs) * ((toF h c).natAbs * (toF o c).natAbs)) ≤ K8 M
theorem le_K8 (M : Nat) : M ≤ K8 M := by
  rcases Nat.eq_zero_or_pos M with h | h
  · rw [h]; exact Nat.zero_le _
  · have a := Nat.le_mul_of_pos_right M h
    have b : 0 < M * M * (M * M) * (M * M) := Nat.mul_pos (Nat.mul_pos (Nat.mul_pos h h) (Nat.mul_pos h h)) (Nat.mul_pos h h)
    have := Nat.le_mul_of_pos_right (3 * (M * M)) b
    unfold K8
    omega
theorem Dv.start {w c M : Nat} {rows : List (List Int)} (hl : ∀ x ∈ rows, x.length = w) (low : ∀ x ∈ rows, ∀ i, i < c → toF x i = 0) (hM : ∀ x ∈ rows, LimL M x) : Dv w c M rows (rows.filter fun x => decide (toF x c ≠ 0)) (rows.filter fun x => decide (toF x c = 0)) := by
  have back : ∀ x, x ∈ (rows.filter fun x => decide (toF x c ≠ 0)) ++ (rows.filter fun x => decide (toF x c = 0)) → x ∈ rows := fun x hx => by
    rcases List.mem_append.mp hx with z | z <;> exact (List.mem_filter.mp z).1
  refine ⟨fun x hx => hl x (List.mem_filter.mp hx).1, fun x hx => hl x (List.mem_filter.mp hx).1, fun x hx => ?_, fun x hx i hi => ?_, Sm.of (fun x hx => ?_) fun x hx => ?_, fun x hx => (hM x (back x hx)).mono (le_K8 M), fun x hx => hM x (List.mem_filter.mp hx).1 c, .inl fun x hx => hM x (back x hx)⟩
  · obtain ⟨h1, h2⟩ := List.mem_filter.mp hx
    exact ⟨low x h1, of_decide_eq_true h2⟩
  · obtain ⟨h1, h2⟩ := List.mem_filter.mp hx
    have h2 : toF x c = 0 := of_decide_eq_true h2
    by_cases z : i = c
    · rw [z]; exact h2
    · exact low x h1 i (by omega)
  · obtain ⟨y, hy, rfl⟩ := List.mem_map.mp hx
    exact In.mem (List.mem_map.mpr ⟨y, back y hy, rfl⟩)
  · obtain ⟨y, hy, rfl⟩ := List.mem_map.mp hx
    refine In.mem (List.mem_map.mpr ⟨y, ?_, rfl⟩)
    by_cases z : toF y c = 0
    · exact List.mem_append_right _ (List.mem_filter.mpr ⟨hy, decide_eq_true z⟩)
    · exact List.mem_append_left _ (List.mem_filter.mpr ⟨hy, decide_eq_true z⟩)
/-- the numbers of one step -/
theorem pot_step {K m a b X Y Z : Nat} (h1 : X * (m * a * (m * a) * (m * a)) ≤ K) (h2 : Y * (m * a * (m * a) * (m * a)) ≤ K) (hz : Z * a ≤ X * a + 2 * m * Y) (ham : a ≤ m) (ha : 0 < a) (hb : 2 * b ≤ m) (hba : b ≤ a) (hm : 0 < m) : Z * (a * b * (a * b) * (a * b)) ≤ K := by
  have s1 : Z * a * (m * a * (m * a) * (m * a)) ≤ (X * a + 2 * m * Y) * (m * a * (m * a) * (m * a)) := Nat.mul_le_mul_right _ hz
  have s2 : (X * a + 2 * m * Y) * (m * a * (m * a) * (m * a)) = a * (X * (m * a * (m * a) * (m * a))) + 2 * m * (Y * (m * a * (m * a) * (m * a))) := by grind
  have s3 : a * (X * (m * a * (m * a) * (m * a))) ≤ m * K := Nat.mul_le_mul ham h1
  have s4 : 2 * m * (Y * (m * a * (m * a) * (m * a))) ≤ 2 * m * K := Nat.mul_le_mul_left _ h2
  have s5 : Z * a * (m * a * (m * a) * (m * a)) = m * (Z * (a * a * a * a) * (m * m)) := by grind
  have s6 : m * (Z * (a * a * a * a) * (m * m)) ≤ m * (3 * K) := by
    have : m * (3 * K) = m * K + 2 * m * K := by grind
    omega
  have s7 : Z * (a * a * a * a) * (m * m) ≤ 3 * K := Nat.le_of_mul_le_mul_left s6 hm
  have t1 : (2 * b) * (2 * b) * b ≤ m * m * a := Nat.mul_le_mul (Nat.mul_le_mul hb hb) hba
  have t2 : Z * (a * a * a) * ((2 * b) * (2 * b) * b) ≤ Z * (a * a * a) * (m * m * a) := Nat.mul_le_mul_left _ t1
  have t3 : Z * (a * a * a) * ((2 * b) * (2 * b) * b) = 4 * (Z * (a * b * (a * b) * (a * b))) := by grind
  have t4 : Z * (a * a * a) * (m * m * a) = Z * (a * a * a * a) * (m * m) := by grind
  omega
theorem pot_end {K m a X Y Z : Nat} (h1 : X * (m * a * (m * a) * (m * a)) ≤ K) (h2 : Y * (m * a * (m * a) * (m * a)) ≤ K) (hz : Z * a ≤ X * a + 2 * m * Y) (ham : a < m) (ha : 0 < a) : Z ≤ K := by
  have := pot_step (b := 1) h1 h2 hz (by omega) ha (by omega) (by omega) (by omega)
  have p : 0 < a * 1 * (a * 1) * (a * 1) := by rw [Nat.mul_one]; exact Nat.mul_pos (Nat.mul_pos ha ha) ha
  have := Nat.le_mul_of_pos_right Z p
  omega
theorem pot_less {K m a b X : Nat} (h1 : X * (m * a * (m * a) * (m * a)) ≤ K) (ham : a ≤ m) (hba : b ≤ a) : X * (a * b * (a * b) * (a * b)) ≤ K := by
  have p : a * b ≤ m * a := Nat.mul_le_mul ham hba
  exact Nat.le_trans (Nat.mul_le_mul_left _ (Nat.mul_le_mul (Nat.mul_le_mul p p) p)) h1
theorem pot_first {M a b Z : Nat} (hz : Z ≤ M + 2 * M * M) (ha : a ≤ M) (hb : b ≤ M) : Z * (a * b * (a * b) * (a * b)) ≤ K8 M := by
  have p : a * b ≤ M * M := Nat.mul_le_mul ha hb
  have q : a * b * (a * b) * (a * b) ≤ M * M * (M * M) * (M * M) := Nat.mul_le_mul (Nat.mul_le_mul p p) p
  have z : Z ≤ 3 * (M * M) := by
    rcases Nat.eq_zero_or_pos M with h | h
    · subst h; omega
    · have := Nat.le_mul_of_pos_right M h
      have : 2 * M * M = 2 * (M * M) := Nat.mul_assoc 2 M M
      omega
  exact Nat.mul_le_mul z q
/-- one step: the least row stays ahead, the others are made smaller by it -/
theorem Dv.step {w c M : Nat} {rows S R S1 S2 : List (List Int)} {g : List Int} (h : Dv w c M rows S R) (hS : S = S1 ++ g :: S2) (hmin : ∀ x ∈ S, (toF g c).natAbs ≤ (toF x c).natAbs) (two : S1 ++ S2 ≠ []) :
    Dv w c M rows (g :: ((S1 ++ S2).map fun x => byL x g c).filter fun x => decide (toF x c ≠ 0)) (R ++ ((S1 ++ S2).map fun x => byL x g c).filter fun x => decide (toF x c = 0)) := by
  have gS : g ∈ S := by rw [hS]; simp
  have oS : ∀ x ∈ S1 ++ S2, x ∈ S := fun x hx => by
    rw [hS]
    rcases List.mem_append.mp hx with z | z
    · exact List.mem_append_left _ z
    · exact List.mem_append_right _ (List.mem_cons_of_mem _ z)
  have oS2 : ∀ x ∈ S, x = g ∨ x ∈ S1 ++ S2 := fun x hx => by
    rw [hS] at hx
    rcases List.mem_append.mp hx with z | z
    · exact .inr (List.mem_append_left _ z)
    · rcases List.mem_cons.mp z with z | z
      · exact .inl z
      · exact .inr (List.mem_append_right _ z)
  have g0 := (h.lowS g gS).2
  have gl := h.lenS g gS
  have at' : ∀ x ∈ S1 ++ S2, ∀ j, toF (byL x g c) j = toF x j - Int.fdiv (toF x c) (toF g c) * toF g j := fun x hx j => byL_at (by rw [gl, h.lenS x (oS x hx)]) j
  have less : ∀ x ∈ S1 ++ S2, (toF (byL x g c) c).natAbs < (toF g c).natAbs := fun x hx => by
    rw [at' x hx]
    exact (fd_rest g0).1
  have low : ∀ x ∈ S1 ++ S2, ∀ i, i < c → toF (byL x g c) i = 0 := fun x hx i hi => by
    rw [at' x hx, (h.lowS x (oS x hx)).1 i hi, (h.lowS g gS).1 i hi]
    grind
  have ln : ∀ x ∈ S1 ++ S2, (byL x g c).length = w := fun x hx => by
    unfold byL
    rw [less_len (by rw [gl, h.lenS x (oS x hx)])]
    exact h.lenS x (oS x hx)
  -- a row of the new ones comes from one of the old ones
  have from' : ∀ y, y ∈ (g :: ((S1 ++ S2).map fun x => byL x g c).filter fun x => decide (toF x c ≠ 0)) ++ (R ++ ((S1 ++ S2).map fun x => byL x g c).filter fun x => decide (toF x c = 0)) → y = g ∨ y ∈ R ∨ ∃ x ∈ S1 ++ S2, y = byL x g c := fun y hy => by
    rcases List.mem_append.mp hy with z | z
    · rcases List.mem_cons.mp z with z | z
      · exact .inl z
      · obtain ⟨x, hx, e⟩ := List.mem_map.mp (List.mem_filter.mp z).1
        exact .inr (.inr ⟨x, hx, e.symm⟩)
    · rcases List.mem_append.mp z with z | z
      · exact .inr (.inl z)
      · obtain ⟨x, hx, e⟩ := List.mem_map.mp (List.mem_filter.mp z).1
        exact .inr (.inr ⟨x, hx, e.symm⟩)
  have q2 : ∀ x ∈ S1 ++ S2, ∀ j, (toF (byL x g c) j).natAbs * (toF g c).natAbs ≤ (toF x j).natAbs * (toF g c).natAbs + ((toF x c).natAbs + (toF g c).natAbs) * (toF g j).natAbs := fun x hx j => by
    rw [at' x hx]
    have a := Nat.mul_le_mul_right (toF g c).natAbs (sub_abs (toF x j) (Int.fdiv (toF x c) (toF g c)) (toF g j))
    have b := Nat.mul_le_mul_right (toF g j).natAbs (fd_abs2 (f := toF x c) g0)
    rw [Nat.add_mul] at a
    have e : (Int.fdiv (toF x c) (toF g c)).natAbs * (toF g j).natAbs * (toF g c).natAbs = (Int.fdiv (toF x c) (toF g c)).natAbs * (toF g c).natAbs * (toF g j).natAbs := by grind
    omega
  have gpos : 0 < (toF g c).natAbs := by omega
  -- how great all is, in the first step and in later ones
  have key : (∀ x ∈ S ++ R, LimL M x) ∨ ∃ m, (toF g c).natAbs < m ∧ (∀ x ∈ S, (toF x c).natAbs ≤ m) ∧ (∀ x ∈ S ++ R, ∀ j, (toF x j).natAbs * (m * (toF g c).natAbs * (m * (toF g c).natAbs) * (m * (toF g c).natAbs)) ≤ K8 M) ∧
      ∀ o ∈ ((S1 ++ S2).map fun x => byL x g c).filter (fun x => decide (toF x c ≠ 0)), (∀ u ∈ ((S1 ++ S2).map fun x => byL x g c).filter (fun x => decide (toF x c ≠ 0)), (toF o c).natAbs ≤ (toF u c).natAbs) → 2 * (toF o c).natAbs ≤ m := by
    rcases h.pot with p | ⟨m, T, eS, hT, hsg, hp⟩
    · exact .inl p
    · have mS : m ∈ S := by rw [eS]; exact List.mem_cons_self
      have tS : ∀ u ∈ T, u ∈ S := fun u hu => by rw [eS]; exact List.mem_cons_of_mem _ hu
      have ne : T ≠ [] := fun z => by
        rw [z] at eS
        have l := congrArg List.length (hS.symm.trans eS)
        rw [List.length_append, List.length_cons, List.length_singleton] at l
        have : (S1 ++ S2).length = 0 := by rw [List.length_append]; omega
        exact two (List.length_eq_zero_iff.mp this)
      have gT : ∃ o ∈ T, (toF o c).natAbs = (toF g c).natAbs ∧ (∀ u ∈ T, (toF o c).natAbs ≤ (toF u c).natAbs) ∧ 0 ≤ toF g c * toF m c := by
        rw [eS] at gS
        rcases List.mem_cons.mp gS with z | z
        · obtain ⟨t, T2, e⟩ := List.exists_cons_of_ne_nil ne
          have tt : t ∈ T := by rw [e]; exact List.mem_cons_self
          have := hT t tt
          have := hmin t (tS t tt)
          rw [z] at this
          omega
        · exact ⟨g, z, rfl, fun u hu => hmin u (tS u hu), hsg g z⟩
      obtain ⟨t, ht, et, tmin, sg⟩ := gT
      have hp := hp t ht tmin
      have gm : (toF g c).natAbs < (toF m c).natAbs := by have := hT t ht; omega
      rw [et] at hp
      refine .inr ⟨(toF m c).natAbs, gm, fun x hx => ?_, hp, fun o ho omin => ?_⟩
      · rw [eS] at hx
        rcases List.mem_cons.mp hx with z | z
        · rw [z]
          exact Nat.le_refl _
        · exact Nat.le_of_lt (hT x z)
      · have mo : m ∈ S1 ++ S2 := by
          rcases oS2 m mS with z | z
          · rw [z] at gm
            omega
          · exact z
        have ab := fd_abs (f := toF m c) g0 (by rw [Int.mul_comm]; exact sg)
        have l2 := (fd_rest (f := toF m c) g0).1
        have k0 : 1 ≤ (Int.fdiv (toF m c) (toF g c)).natAbs := Decidable.byContradiction fun k => by
          have z : (Int.fdiv (toF m c) (toF g c)).natAbs = 0 := by omega
          rw [z, Nat.zero_mul] at ab
          omega
        obtain ⟨ho1, ho2⟩ := List.mem_filter.mp ho
        obtain ⟨o0, ho0, rfl⟩ := List.mem_map.mp ho1
        have lo := less o0 ho0
        by_cases z : toF (byL m g c) c = 0
        · rw [at' m mo] at z
          rw [z] at ab
          have k2 : 2 ≤ (Int.fdiv (toF m c) (toF g c)).natAbs := Decidable.byContradiction fun k => by
            have k1 : (Int.fdiv (toF m c) (toF g c)).natAbs = 1 := by omega
            rw [k1, Nat.one_mul] at ab
            have : (0 : Int).natAbs = 0 := rfl
            omega
          have := Nat.mul_le_mul_right (toF g c).natAbs k2
          omega
        · have mm : byL m g c ∈ ((S1 ++ S2).map fun x => byL x g c).filter (fun x => decide (toF x c ≠ 0)) := List.mem_filter.mpr ⟨List.mem_map.mpr ⟨m, mo, rfl⟩, decide_eq_true z⟩
          have l1 := omin _ mm
          rw [at' m mo] at l1
          have := Nat.mul_le_mul_right (toF g c).natAbs k0
          omega
  have q3 : ∀ m, (toF g c).natAbs < m → (∀ x ∈ S, (toF x c).natAbs ≤ m) → ∀ x ∈ S1 ++ S2, ∀ j, (toF (byL x g c) j).natAbs * (toF g c).natAbs ≤ (toF x j).natAbs * (toF g c).natAbs + 2 * m * (toF g j).natAbs := fun m gm hm x hx j => by
    have a := q2 x hx j
    have b := hm x (oS x hx)
    have d : ((toF x c).natAbs + (toF g c).natAbs) * (toF g j).natAbs ≤ 2 * m * (toF g j).natAbs := Nat.mul_le_mul_right _ (by omega)
    omega
  have first : (∀ x ∈ S ++ R, LimL M x) → ∀ x ∈ S1 ++ S2, ∀ j, (toF (byL x g c) j).natAbs ≤ M + 2 * M * M := fun p x hx j => by
    have xM := p x (List.mem_append_left _ (oS x hx))
    have gM := p g (List.mem_append_left _ gS)
    have b1 := gM c
    have b2 := xM j
    have b3 := xM c
    rw [at' x hx]
    have s := sub_abs (toF x j) (Int.fdiv (toF x c) (toF g c)) (toF g j)
    have t := fd_abs2 (f := toF x c) g0
    have u : (Int.fdiv (toF x c) (toF g c)).natAbs ≤ 2 * M := by
      have := Nat.le_mul_of_pos_right (Int.fdiv (toF x c) (toF g c)).natAbs gpos
      omega
    have v : (Int.fdiv (toF x c) (toF g c)).natAbs * (toF g j).natAbs ≤ 2 * M * M := Nat.mul_le_mul u (gM j)
    omega
  refine ⟨fun x hx => ?_, fun x hx => ?_, fun x hx => ?_, fun x hx i hi => ?_, Sm.trans ?_ h.sm, fun y hy j => ?_, fun x hx => ?_, .inr ⟨g, _, rfl, fun o ho => ?_, fun o ho => ?_, fun o ho omin y hy j => ?_⟩⟩
  · rcases List.mem_cons.mp hx with z | z
    · rw [z]; exact gl
    · obtain ⟨x0, hx0, rfl⟩ := List.mem_map.mp (List.mem_filter.mp z).1
      exact ln x0 hx0
  · rcases List.mem_append.mp hx with z | z
    · exact h.lenR x z
    · obtain ⟨x0, hx0, rfl⟩ := List.mem_map.mp (List.mem_filter.mp z).1
      exact ln x0 hx0
  · rcases List.mem_cons.mp hx with z | z
    · rw [z]; exact h.lowS g gS
    · obtain ⟨h1, h2⟩ := List.mem_filter.mp z
      obtain ⟨x0, hx0, rfl⟩ := List.mem_map.mp h1
      exact ⟨low x0 hx0, of_decide_eq_true h2⟩
  · rcases List.mem_append.mp hx with z | z
    · exact h.lowR x z i hi
    · obtain ⟨h1, h2⟩ := List.mem_filter.mp z
      obtain ⟨x0, hx0, rfl⟩ := List.mem_map.mp h1
      have h2 : toF (byL x0 g c) c = 0 := of_decide_eq_true h2
      by_cases e : i = c
      · rw [e]; exact h2
      · exact low x0 hx0 i (by omega)
  · have eF : ∀ x ∈ S1 ++ S2, toF (byL x g c) = sub (toF x) (toF g) (Int.fdiv (toF x c) (toF g c)) := fun x hx => funext (at' x hx)
    refine Sm.of (fun x hx => ?_) fun x hx => ?_
    · obtain ⟨y, hy, rfl⟩ := List.mem_map.mp hx
      rcases from' y hy with rfl | z | ⟨x0, hx0, rfl⟩
      · exact In.mem (List.mem_map.mpr ⟨_, List.mem_append_left _ gS, rfl⟩)
      · exact In.mem (List.mem_map.mpr ⟨_, List.mem_append_right _ z, rfl⟩)
      · rw [eF x0 hx0]
        exact In.sub _ (In.mem (List.mem_map.mpr ⟨_, List.mem_append_left _ (oS x0 hx0), rfl⟩)) (In.mem (List.mem_map.mpr ⟨_, List.mem_append_left _ gS, rfl⟩))
    · obtain ⟨y, hy, rfl⟩ := List.mem_map.mp hx
      rcases List.mem_append.mp hy with z | z
      · rcases oS2 y z with rfl | hy0
        · exact In.mem (List.mem_map.mpr ⟨_, List.mem_append_left _ List.mem_cons_self, rfl⟩)
        · refine In.back (v := toF g) (k := Int.fdiv (toF y c) (toF g c)) ?_ (In.mem (List.mem_map.mpr ⟨_, List.mem_append_left _ List.mem_cons_self, rfl⟩))
          rw [← eF y hy0]
          refine In.mem (List.mem_map.mpr ⟨_, ?_, rfl⟩)
          by_cases e : toF (byL y g c) c = 0
          · exact List.mem_append_right _ (List.mem_append_right _ (List.mem_filter.mpr ⟨List.mem_map.mpr ⟨y, hy0, rfl⟩, decide_eq_true e⟩))
          · exact List.mem_append_left _ (List.mem_cons_of_mem _ (List.mem_filter.mpr ⟨List.mem_map.mpr ⟨y, hy0, rfl⟩, decide_eq_true e⟩))
      · exact In.mem (List.mem_map.mpr ⟨_, List.mem_append_right _ (List.mem_append_left _ z), rfl⟩)
  · rcases from' y hy with rfl | z | ⟨x0, hx0, rfl⟩
    · exact h.lim _ (List.mem_append_left _ gS) j
    · exact h.lim _ (List.mem_append_right _ z) j
    · rcases key with p | ⟨m, gm, hm, hp, _⟩
      · have := pot_first (a := 1) (b := 1) (first p x0 hx0 j) (by have := p g (List.mem_append_left _ gS) c; omega) (by have := p g (List.mem_append_left _ gS) c; omega)
        omega
      · exact pot_end (hp x0 (List.mem_append_left _ (oS x0 hx0)) j) (hp g (List.mem_append_left _ gS) j) (q3 m gm hm x0 hx0 j) gm gpos
  · have gc := h.cl g gS
    rcases List.mem_cons.mp hx with z | z
    · rw [z]; exact gc
    · obtain ⟨x0, hx0, rfl⟩ := List.mem_map.mp (List.mem_filter.mp z).1
      have := less x0 hx0
      omega
  · obtain ⟨o0, ho0, rfl⟩ := List.mem_map.mp (List.mem_filter.mp ho).1
    exact less o0 ho0
  · obtain ⟨o0, ho0, rfl⟩ := List.mem_map.mp (List.mem_filter.mp ho).1
    rw [at' o0 ho0]
    exact (fd_rest g0).2
  · have lo : (toF o c).natAbs < (toF g c).natAbs := by
      obtain ⟨o0, ho0, rfl⟩ := List.mem_map.mp (List.mem_filter.mp ho).1
      exact less o0 ho0
    rcases key with p | ⟨m, gm, hm, hp, half⟩
    · have b1 := p g (List.mem_append_left _ gS) c
      rcases from' y hy with rfl | z | ⟨x, hx, rfl⟩
      · have := p y (List.mem_append_left _ gS) j
        exact pot_first (by omega) b1 (by omega)
      · have := p y (List.mem_append_right _ z) j
        exact pot_first (by omega) b1 (by omega)
      · exact pot_first (first p x hx j) b1 (by omega)
    · rcases from' y hy with rfl | z | ⟨x, hx, rfl⟩
      · exact pot_less (hp y (List.mem_append_left _ gS) j) (by omega) (by omega)
      · exact pot_less (hp y (List.mem_append_right _ z) j) (by omega) (by omega)
      · exact pot_step (hp x (List.mem_append_left _ (oS x hx)) j) (hp g (List.mem_append_left _ gS) j) (q3 m gm hm x hx j) (by omega) gpos (half o ho omin) (by omega) (by omega)
end Lat

set_option Elab.async false
set_option linter.all false
set_option maxRecDepth 100000
set_option maxHeartbeats 4000000
/-! The rows of the law's own basis; a row made smaller by a basis. -/
namespace Lat
def szs (c : Nat) (S : List (List Int)) : Nat := (S.map fun x => (toF x c).natAbs).sum
theorem szs_le {c : Nat} {f g : List Int → List Int} : ∀ (L : List (List Int)), (∀ x ∈ L, (toF (f x) c).natAbs ≤ (toF x c).natAbs) → szs c ((L.map f).filter fun x => decide (toF x c ≠ 0)) ≤ szs c L
  | [], _ => Nat.le_refl _
  | a :: L, h => by
    have ih := szs_le (f := f) (g := g) L fun x hx => h x (List.mem_cons_of_mem _ hx)
    have ha := h a List.mem_cons_self
    unfold szs at ih ⊢
    rw [List.map_cons, List.filter_cons, List.map_cons, List.sum_cons]
    split
    · rw [List.map_cons, List.sum_cons]
      omega
    · omega
theorem szs_lt {c : Nat} {f : List Int → List Int} : ∀ (L : List (List Int)), L ≠ [] → (∀ x ∈ L, (toF (f x) c).natAbs < (toF x c).natAbs) → szs c ((L.map f).filter fun x => decide (toF x c ≠ 0)) < szs c L
  | a :: L, _, h => by
    have ih := szs_le (f := f) (g := f) (c := c) L fun x hx => Nat.le_of_lt (h x (List.mem_cons_of_mem _ hx))
    have ha := h a List.mem_cons_self
    unfold szs at ih ⊢
    rw [List.map_cons, List.filter_cons, List.map_cons, List.sum_cons]
    split
    · rw [List.map_cons, List.sum_cons]
      omega
    · omega
theorem szs_app (c : Nat) (A B : List (List Int)) : szs c (A ++ B) = szs c A + szs c B := by
  unfold szs
  rw [List.map_append, List.sum_append]
theorem szs_cons (c : Nat) (a : List Int) (B : List (List Int)) : szs c (a :: B) = (toF a c).natAbs + szs c B := by
  unfold szs
  rw [List.map_cons, List.sum_cons]
theorem Dv.down {w c M : Nat} {rows S R S1 S2 : List (List Int)} {g : List Int} (h : Dv w c M rows S R) (hS : S = S1 ++ g :: S2) (hmin : ∀ x ∈ S, (toF g c).natAbs ≤ (toF x c).natAbs) (two : S1 ++ S2 ≠ []) :
    szs c (g :: ((S1 ++ S2).map fun x => byL x g c).filter fun x => decide (toF x c ≠ 0)) < szs c S := by
  have gS : g ∈ S := by rw [hS]; simp
  have oS : ∀ x ∈ S1 ++ S2, x ∈ S := fun x hx => by
    rw [hS]
    rcases List.mem_append.mp hx with z | z
    · exact List.mem_append_left _ z
    · exact List.mem_append_right _ (List.mem_cons_of_mem _ z)
  have := szs_lt (c := c) (f := fun x => byL x g c) (S1 ++ S2) two fun x hx => by
    rw [byL_at (by rw [h.lenS g gS, h.lenS x (oS x hx)])]
    exact Nat.lt_of_lt_of_le (fd_rest (h.lowS g gS).2).1 (hmin x (oS x hx))
  rw [szs_cons, hS, szs_app, szs_cons]
  rw [szs_app] at this
  omega
/-- what stands at a column of the law's own basis -/
structure Ec (w c M N : Nat) (rows L A left : List (List Int)) : Prop where
  red : Red w c N L A
  len : ∀ x ∈ left, x.length = w
  low : ∀ x ∈ left, ∀ i, i < c → toF x i = 0
  lim : ∀ x ∈ left, LimL M x
  sm : Sm ((L ++ left).map toF) (rows.map toF)
  many : A.length ≤ c
theorem Red.weak {w p q N : Nat} {L A : List (List Int)} (h : Red w p N L A) (l : p ≤ q) : Red w q N L A := ⟨h.bas, fun x hx => by
  obtain ⟨s, h1, h2⟩ := h.piv x hx
  exact ⟨s, by omega, h2⟩, h.sm, h.lim⟩
theorem Red.nil (w p N : Nat) : Red w p N [] [] := ⟨⟨fun _ z => (by cases z), .nil 0⟩, fun _ z => (by cases z), Sm.refl _, fun _ z => (by cases z)⟩
theorem Ec.start {w M : Nat} {rows left : List (List Int)} (hl : ∀ x ∈ rows, x.length = w) (hM : ∀ x ∈ rows, LimL M x) (he : ∀ x, x ∈ left ↔ x ∈ rows ∧ x ≠ List.replicate w 0) : Ec w 0 M 0 rows [] [] left :=
  ⟨Red.nil w 0 0, fun x hx => hl x ((he x).mp hx).1, fun _ _ _ z => by omega, fun x hx => hM x ((he x).mp hx).1, Sm.of (fun x hx => by
    obtain ⟨y, hy, rfl⟩ := List.mem_map.mp hx
    exact In.mem (List.mem_map.mpr ⟨y, ((he y).mp hy).1, rfl⟩)) (fun x hx => by
    obtain ⟨y, hy, rfl⟩ := List.mem_map.mp hx
    by_cases z : y = List.replicate w 0
    · rw [z]
      exact In.zero _ fun i => toF_zero w i
    · exact In.mem (List.mem_map.mpr ⟨y, (he y).mpr ⟨hy, z⟩, rfl⟩)), Nat.le_refl _⟩
theorem sm_app {L A B : List (List Int)} (h : Sm (A.map toF) (B.map toF)) : Sm ((L ++ A).map toF) ((L ++ B).map toF) := by
  rw [List.map_append, List.map_append]
  refine Sm.of (fun x hx => ?_) fun x hx => ?_
  · rcases List.mem_append.mp hx with z | z
    · exact In.mem (List.mem_append_left _ z)
    · exact In.le (fun a ha => In.mem (List.mem_append_right _ ha)) ((h x).mp (In.mem z))
  · rcases List.mem_append.mp hx with z | z
    · exact In.mem (List.mem_append_left _ z)
    · exact In.le (fun a ha => In.mem (List.mem_append_right _ ha)) ((h x).mpr (In.mem z))
theorem Ec.none {w c M N : Nat} {rows L A left R : List (List Int)} (h : Ec w c M N rows L A left) (d : Dv w c M left [] R) : Ec w (c + 1) (K8 M) N rows L A R :=
  ⟨h.red.weak (by omega), d.lenR, d.lowR, fun x hx => d.lim x hx, (sm_app (L := L) d.sm).trans h.sm, by have := h.many; omega⟩
theorem Ec.one {w c M N : Nat} {rows L A left R : List (List Int)} {f g : List Int} (h : Ec w c M N rows L A left) (d : Dv w c M left [f] R) (hg : g.length = w) (hp : 0 < toF g c) (hgf : (∀ i, toF g i = toF f i) ∨ ∀ i, toF g i = - toF f i) :
    Ec w (c + 1) (K8 M) (N + (N + 1) * K8 M) rows (L ++ [g]) (redS A g) R := by
  have fS := List.mem_singleton.mpr (rfl : f = f)
  have low : ∀ i, i < c → toF g i = 0 := fun i hi => by
    have := (d.lowS f fS).1 i hi
    rcases hgf with e | e
    · rw [e]; exact this
    · rw [e, this]; rfl
  have lim : LimL (K8 M) g := fun i => by
    have := d.lim f (List.mem_append_left _ fS) i
    rcases hgf with e | e
    · rw [e]; exact this
    · rw [e, Int.natAbs_neg]; exact this
  refine ⟨h.red.step hg ⟨low, hp⟩ lim ?_, d.lenR, d.lowR, fun x hx => d.lim x (List.mem_append_right _ hx), Sm.trans ?_ ((sm_app (L := L) d.sm).trans h.sm), ?_⟩
  · have : 1 * K8 M ≤ (N + 1) * K8 M := Nat.mul_le_mul_right _ (by omega)
    omega
  · rw [List.append_assoc]
    refine sm_app ?_
    have gi : ∀ B : List F, toF f ∈ B → In B (toF g) := fun B hB => by
      rcases hgf with e | e
      · rw [show toF g = toF f from funext e]; exact In.mem hB
      · have e2 : toF g = sub zero (toF f) 1 := funext fun i => by
          rw [e]
          show _ = 0 - 1 * toF f i
          omega
        rw [e2]
        exact In.sub _ (In.zero _ fun _ => rfl) (In.mem hB)
    have fi : ∀ B : List F, toF g ∈ B → In B (toF f) := fun B hB => by
      rcases hgf with e | e
      · rw [show toF f = toF g from funext fun i => (e i).symm]; exact In.mem hB
      · have e2 : toF f = sub zero (toF g) 1 := funext fun i => by
          show _ = 0 - 1 * toF g i
          rw [e]
          omega
        rw [e2]
        exact In.sub _ (In.zero _ fun _ => rfl) (In.mem hB)
    rw [List.map_append, List.map_append]
    refine Sm.of (fun x hx => ?_) fun x hx => ?_
    · rcases List.mem_append.mp hx with z | z
      · rw [List.mem_singleton.mp (show x ∈ [toF g] from z)]
        exact gi _ (List.mem_append_left _ (List.mem_singleton.mpr rfl))
      · exact In.mem (List.mem_append_right _ z)
    · rcases List.mem_append.mp hx with z | z
      · rw [List.mem_singleton.mp (show x ∈ [toF f] from z)]
        exact fi _ (List.mem_append_left _ (List.mem_singleton.mpr rfl))
      · exact In.mem (List.mem_append_right _ z)
  · unfold redS
    have := h.many
    rw [List.length_append, List.length_map]
    show A.length + 1 ≤ c + 1
    omega
theorem Ec.done {w M N : Nat} {rows L A left : List (List Int)} (h : Ec w w M N rows L A left) : Bas w A ∧ Sm (A.map toF) (rows.map toF) := by
  refine ⟨h.red.bas, h.red.sm.trans (Sm.trans ?_ h.sm)⟩
  rw [List.map_append]
  refine Sm.of (fun x hx => In.mem (List.mem_append_left _ hx)) fun x hx => ?_
  rcases List.mem_append.mp hx with z | z
  · exact In.mem z
  · obtain ⟨y, hy, rfl⟩ := List.mem_map.mp z
    refine In.zero _ fun i => ?_
    by_cases c : i < w
    · exact h.low y hy i c
    · exact toF_ge (by rw [h.len y hy]; omega)
/-! a row within a basis -/
theorem Hn.inc : ∀ {c : Nat} {B : List F}, Hn c B → B.Pairwise fun a b => ∀ q s, Piv a q → Piv b s → q < s
  | _, _, .nil _ => .nil
  | _, _, .cons (p := p) hp hb hT _ => .cons (fun d hd q s hq hs => by
      obtain ⟨r, h1, h2⟩ := hT.piv hd
      have := hb.uniq hq
      have := h2.uniq hs
      omega) hT.inc
/-- v0 made smaller by the rows of B1 -/
structure Wi (w V : Nat) (B B1 : List (List Int)) (v0 v : List Int) : Prop where
  len : v.length = w
  iff : In (B.map toF) (toF v) ↔ In (B.map toF) (toF v0)
  red : ∀ b ∈ B1, ∀ p, Piv (toF b) p → 0 ≤ toF v p ∧ toF v p < toF b p
  lim : LimL V v
theorem Wi.step {w V M : Nat} {B B1 : List (List Int)} {v0 v b : List Int} (hB : Bas w B) (hM : ∀ x ∈ B, LimL M x) (h : Wi w V B B1 v0 v) (hb : b ∈ B) (hinc : ∀ x ∈ B1, ∀ q s, Piv (toF x) q → Piv (toF b) s → q < s) : Wi w (V + (V + 1) * M) B (B1 ++ [b]) v0 (byL v b (pivotOf b)) := by
  have pb := (hB.piv hb).1
  have lb := hB.len b hb
  have e := fun j => byL_at (x := v) (h := b) (c := pivotOf b) (by rw [h.len, lb]) j
  have e1 : toF (byL v b (pivotOf b)) = sub (toF v) (toF b) (Int.fdiv (toF v (pivotOf b)) (toF b (pivotOf b))) := funext e
  have bi : In (B.map toF) (toF b) := In.mem (List.mem_map.mpr ⟨b, hb, rfl⟩)
  refine ⟨by unfold byL; rw [less_len (by rw [h.len, lb])]; exact h.len, ⟨fun z => h.iff.mp ?_, fun z => ?_⟩, fun x hx p hp => ?_, fun j => ?_⟩
  · rw [e1] at z
    exact In.back z bi
  · rw [e1]
    exact In.sub _ (h.iff.mpr z) bi
  · rcases List.mem_append.mp hx with z | z
    · have l := hinc x z p _ hp pb
      rw [e, pb.1 p l, Int.mul_zero, Int.sub_zero]
      exact h.red x z p hp
    · rw [List.mem_singleton.mp z] at hp ⊢
      have ep := pb.uniq hp
      subst ep
      have f := fd_rest (f := toF v (pivotOf b)) (r := toF b (pivotOf b)) (by have := hp.2; omega)
      have pos := hp.2
      rw [e]
      generalize toF v (pivotOf b) - Int.fdiv (toF v (pivotOf b)) (toF b (pivotOf b)) * toF b (pivotOf b) = s at f
      have s0 : 0 ≤ s := Decidable.byContradiction fun z => by
        have := Int.mul_neg_of_neg_of_pos (show s < 0 by omega) pos
        omega
      omega
  · rw [e]
    have a := sub_abs (toF v j) (Int.fdiv (toF v (pivotOf b)) (toF b (pivotOf b))) (toF b j)
    have d := fd_le (f := toF v (pivotOf b)) (r := toF b (pivotOf b)) (by have := pb.2; omega)
    have v1 := h.lim (pivotOf b)
    have m : (Int.fdiv (toF v (pivotOf b)) (toF b (pivotOf b))).natAbs * (toF b j).natAbs ≤ (V + 1) * M := Nat.mul_le_mul (by omega) (hM b hb j)
    have := h.lim j
    omega
theorem Wi.done {w V : Nat} {B : List (List Int)} {v0 v : List Int} (hB : Bas w B) (h : Wi w V B B v0 v) : v = List.replicate w 0 ↔ In (B.map toF) (toF v0) := by
  constructor
  · intro z
    refine h.iff.mp ?_
    rw [z]
    exact In.zero _ fun i => toF_zero w i
  · intro z
    have := hB.hn.rest (fun b hb p hp => by
      obtain ⟨y, hy, rfl⟩ := List.mem_map.mp hb
      exact h.red y hy p hp) (h.iff.mpr z)
    rw [zero_of this, h.len]
theorem Bas.uniq {w : Nat} {A B : List (List Int)} (h : Bas w A) (g : Bas w B) (s : Sm (A.map toF) (B.map toF)) : A = B := rows_inj h.len g.len (h.hn.uniq g.hn s)
end Lat

set_option Elab.async false
set_option linter.all false
set_option maxRecDepth 100000
set_option maxHeartbeats 4000000
/-! Bounds as powers of two; which products and quotients are taken. -/
namespace Lat
open PySem PySem.Spec PyProof.Rows L2
theorem log_of {n k : Nat} (h : n ≤ 2 ^ k) : n.log2 < k + 1 := by
  rcases Nat.eq_zero_or_pos n with z | z
  · rw [z, Nat.log2_zero]
    omega
  · refine (Nat.log2_lt (by omega)).mpr ?_
    rw [Nat.pow_succ]
    have := Nat.two_pow_pos k
    omega
theorem cmul {a b : Int} {i j : Nat} (ha : a.natAbs ≤ 2 ^ i) (hb : b.natAbs ≤ 2 ^ j) (h : i + j < 999990) : CMulW a b := by
  have h1 := log_of ha
  have h2 := log_of hb
  show a.natAbs.log2 + b.natAbs.log2 < 1000000
  omega
theorem cdiv {a b : Int} {j : Nat} (hb0 : b ≠ 0) (hb : b.natAbs ≤ 2 ^ j) (h : j < 8999) : Fz.CDivZ a b := ⟨hb0, by have := log_of hb; omega⟩
theorem cdivw {a b : Int} (h0 : 0 < b) (h1 : b < 1152921504606846976) : CDivW a b := ⟨h0, by have := log_of (show b.natAbs ≤ 2 ^ 60 by omega); omega⟩
theorem two_mono {i j : Nat} (h : i ≤ j) : 2 ^ i ≤ 2 ^ j := Nat.pow_le_pow_right (by decide) h
theorem sq_two (k : Nat) : 4 * (2 ^ k * 2 ^ k) = 2 ^ (k + k + 2) := by
  rw [← Nat.pow_add, Nat.pow_add 2 (k + k) 2, Nat.mul_comm]
theorem K8_two (k : Nat) : K8 (2 ^ k) ≤ 2 ^ (8 * k + 2) := by
  unfold K8
  rw [← Nat.pow_add, ← Nat.pow_add, ← Nat.pow_add, Nat.mul_assoc, ← Nat.pow_add]
  have e : 2 ^ (8 * k + 2) = 4 * 2 ^ (k + k + (k + k + (k + k) + (k + k))) := by
    rw [show k + k + (k + k + (k + k) + (k + k)) = 8 * k by omega, Nat.pow_add, Nat.mul_comm]
  rw [e]
  omega
theorem red_two {i j : Nat} : 2 ^ i + (2 ^ i + 1) * 2 ^ j ≤ 2 ^ (i + j + 2) := by
  rw [Nat.add_mul, ← Nat.pow_add, Nat.one_mul]
  have a := two_mono (show i ≤ i + j by omega)
  have b := two_mono (show j ≤ i + j by omega)
  have e : 2 ^ (i + j + 2) = 4 * 2 ^ (i + j) := by rw [Nat.pow_add, Nat.mul_comm]
  rw [e]
  omega
theorem hn_two {k : Nat} : 6 * (2 ^ k * (2 ^ k * 2 ^ k)) + 4 * (2 ^ k * 2 ^ k) + 2 ^ k ≤ 2 ^ (3 * k + 4) := by
  rw [← Nat.pow_add, ← Nat.pow_add]
  have a := two_mono (show k + k ≤ 3 * k by omega)
  have b := two_mono (show k ≤ 3 * k by omega)
  have e : 2 ^ (3 * k + 4) = 16 * 2 ^ (3 * k) := by rw [Nat.pow_add, Nat.mul_comm]
  rw [e, show k + (k + k) = 3 * k by omega]
  omega
theorem pivotOf_le (r : List Int) : pivotOf r ≤ r.length := List.findIdx_le_length
theorem lim_of {N : Nat} {r : List Int} (h : ∀ x ∈ r, x.natAbs ≤ N) : LimL N r := fun i => by
  by_cases c : i < r.length
  · rw [toF_lt c]
    exact h _ (List.getElem_mem c)
  · rw [toF_ge (by omega)]
    exact Nat.zero_le _
theorem LimL.mem {N : Nat} {r : List Int} (h : LimL N r) {x : Int} (hx : x ∈ r) : x.natAbs ≤ N := by
  obtain ⟨i, hi, rfl⟩ := List.mem_iff_getElem.mp hx
  have := h i
  rwa [toF_lt hi] at this
end Lat

set_option Elab.async false
set_option linter.all false
set_option maxRecDepth 100000
set_option maxHeartbeats 4000000
/-! enumerate(t), t a tuple. -/
namespace Et
open PySem PySem.Spec PyProof.Rows L2
theorem meets_new1 {v : Value} {o : Obj} {H : Heap → Prop} (B : Begins v o H) :
    Meets (Builtin.«enumerate.__new__» ⟨[.type "enumerate", v], []⟩) (fun _ R s => H s.heap ∧
      R (.ok (.ret (.ref (s.heap.push o).objs.size))) { s with heap := (s.heap.push o).push { cls := .type "enumerate", data := .fields #[.none, .bool false, .ref s.heap.objs.size, rawInt 0, .none, .none] } }) :=
  .of_wp fun prog w A R s h => by
    obtain ⟨hp, g, d, tk, os⟩ := s; obtain ⟨h1, h⟩ := h
    have hsub := sub_enumerate
    have q1 : ∀ {A' : Around} {E : Value → Shared → Prop} {Q : Value → Shared → Prop}, Q (.ref hp.objs.size) ⟨hp.push o, g, d, tk, os⟩ → wpAny (model prog w) A' (pyIter v) Q E ⟨hp, g, d, tk, os⟩ :=
      fun q => B.iter prog w _ _ ⟨hp, g, d, tk, os⟩ _ h1 q
    wp_walk using q1
    refine wpAny_stack_any fun st => wpAny_pure ?_
    split
    · rename_i c _ _ _ _ _
      cases (c == Value.type "enumerate")
      · wp_walk using q1
        exact ⟨_, rfl, h⟩
      · wp_walk using q1
        exact ⟨_, rfl, h⟩
    · wp_walk using q1
      exact ⟨_, rfl, h⟩
section
variable {prog : Program} {w : World} {A : Around} {E : Value → Shared → Prop} {s : Shared}
theorem call_enumT {v : Value} {o : Obj} {H : Heap → Prop} {Q : Value → Shared → Prop} (B : Begins v o H) (h1 : H s.heap)
    (h : ∀ h', IsEnum h' (s.heap.objs.size + 1) s.heap.objs.size 0 .none → h'.get? s.heap.objs.size = some o → h'.objs.size = s.heap.objs.size + 2 →
      (∀ b o, s.heap.get? b = some o → h'.get? b = some o) → Q (.ref (s.heap.objs.size + 1)) { s with heap := h' }) :
    wpAny (model prog w) A (call (.type "enumerate") [v]) Q E s := by
  refine callType_new F.called_enumerate (by decide) (F.typeCall_enumerate_1 _) (F.newCall_enumerate_1 _) (fun obj => F.args_object_init_2 obj _) F.entry_enumerate_new (meets_new1 B) ⟨h1, ?_⟩
  have hz : (s.heap.push o).objs.size = s.heap.objs.size + 1 := Heap.size_push ..
  show _ ∧ _
  rw [hz]
  have he : IsEnum ((s.heap.push o).push { cls := .type "enumerate", data := .fields #[.none, .bool false, .ref s.heap.objs.size, rawInt 0, .none, .none] }) (s.heap.objs.size + 1) s.heap.objs.size 0 .none := by
    have := Heap.get?_push_size (s.heap.push o) (o := { cls := .type "enumerate", data := .fields #[.none, .bool false, .ref s.heap.objs.size, rawInt 0, .none, .none] }) rfl
    rw [hz] at this; exact this
  refine ⟨⟨_, he, rfl⟩, h _ he (Heap.get?_push_of_some _ (Heap.get?_push_size _ B.free)) (by rw [Heap.size_push, hz]) fun b o x => Heap.get?_push_of_some _ (Heap.get?_push_of_some _ x)⟩
end
/-- the tuple at a as it stands at each turn, each item in a new pair -/
def IteT (K : PySem.W.Frag) (a : Addr) : It :=
  ⟨fun i H => ∃ (xs : List V) (x : V), SqT K H a xs ∧ xs[i]? = some x, fun i H v H' => ∃ T x, v = .ref T ∧ H T = none ∧ H' = upd H T (.tup [.int (i : Nat), x]) ∧ ∀ xs, SqT K H a xs → xs[i]? = some x, fun i H => ∃ xs : List V, SqT K H a xs ∧ xs.length ≤ i⟩
theorem apartT {h : Heap} {e it t : Addr} {i : Nat} {items : Array Value} {c : Int} {old : Value} (he : IsEnum h e it c old) (hit : h.IsTupleIter it t i) (p : h.IsTuple t items) : e ≠ t ∧ t ≠ it := by
  obtain ⟨o, ho, hc, _⟩ := p
  obtain ⟨o2, ho2, hc2, _⟩ := hit
  refine ⟨fun z => ?_, fun z => ?_⟩
  · subst z
    have he2 : h.get? e = some _ := he
    rw [he2] at ho
    cases ho
    exact absurd (Value.type.inj hc) (by decide)
  · subst z
    rw [ho2] at ho
    cases ho
    rw [hc2] at hc
    exact absurd (Value.type.inj hc) (by decide)
theorem turn_enumT {P : Program} {w : World} {K : PySem.W.Frag} {elts : List Expr} {kk : Nat} {tpos : Pos} (a e it : Addr) :
    Turn P w K (.Tuple elts kk tpos) (IteT K a) [e, it] e (fun i h => (∃ old, IsEnum h e it ((i : Nat) : Int) old) ∧ h.IsTupleIter it a i ∧ e ≠ it) where
  mem := by simp
  obj := fun i h st b hb => by
    obtain ⟨⟨old, he⟩, ⟨o, ho, hc, hd⟩, _⟩ := st
    have e' : b = e ∨ b = it := by simpa using hb
    rcases e' with z | z
    · rw [z]; exact ⟨_, he, fun v q => nomatch q⟩
    · rw [z]; exact ⟨o, ho, fun v q => by rw [hd] at q; cases q⟩
  keep := fun i h h' st k => let ⟨⟨old, he⟩, hi, hne⟩ := st; ⟨⟨old, k e (by simp) _ he⟩, hi.at fun o q => k it (by simp) o q, hne⟩
  item := by
    intro X hP hw hK hc i pins s σ H E I hf st hg
    subst hP hw hK
    obtain ⟨⟨old, he⟩, hit, hne⟩ := st
    obtain ⟨xs, x, hq, hx⟩ := hg
    obtain ⟨its, rv, p, hz⟩ := I.tuple hq
    obtain ⟨u, hu, ru⟩ := rv.get hx
    obtain ⟨n1, n2⟩ := apartT he hit p
    have hel : e < s.heap.objs.size := Heap.lt_size he
    have hil : it < s.heap.objs.size := by obtain ⟨_, q, _⟩ := hit; exact Heap.lt_size q
    have hlt : i < its.toArray.size := by
      have := List.getElem?_eq_some_iff.mp hu
      obtain ⟨h1, _⟩ := this
      rw [List.size_toArray]
      exact h1
    refine wpAny_pyNext_enum_itemD (Draws.tuple (show X.A.in1.handled = none from I.ok.hd hc) it a n2 its.toArray) he ⟨hit, p⟩ hlt hne (fun z => by
      rcases List.mem_cons.mp z with z | z
      · exact hne z
      · exact n1 (List.mem_singleton.mp z)) fun u2 h' tk hP ho hst hT hsz hk => ?_
    have eu : u2 = u := by
      have := hP
      rw [List.getElem?_toArray, hu] at this
      exact (Option.some.inj this).symm
    subst eu
    refine ⟨_, rfl, wpAny_letOwnedTupleGo_enum (s := { s with heap := h', toks := tk + 1 }) ho fun h'' he' sb => ?_⟩
    have hT2 : h''.get? s.heap.objs.size = some { cls := .type "tuple", data := .seq #[.int i tk, u2] } := (sb.2 _ (Nat.ne_of_gt hel)).trans hT
    have new : ObjOk X.prog X.w (upd H s.heap.objs.size (.tup [.int (i : Nat), x])) h'' s.heap.objs.size (.tup [.int (i : Nat), x]) :=
      ⟨by show 2 ≤ sizeLine; decide, [.int i tk, u2], .cons ⟨_, rfl⟩ (.cons ru .nil), ⟨_, hT2, rfl, _, rfl⟩⟩
    have I1 : Inv X pins σ (upd H s.heap.objs.size (.tup [.int (i : Nat), x])) { s with heap := h'', toks := tk + 1 } :=
      I.turnedNew (ch := [e, it]) (fun b ob hb q => (sb.2 b (fun z => hb (by simp [z]))).trans (hk b ob (fun z => hb (by simp [z])) (fun z => hb (by simp [z])) q)) hf (Nat.le_refl _) new
    refine ⟨.ref s.heap.objs.size, _, I1, rfl, ⟨_, x, rfl, I.hok.fresh (Nat.le_refl _), rfl, fun ys hy => by rw [I.tuple_inj hy hq]; exact hx⟩, ⟨⟨u2, ?_⟩, hst.1.at fun o q => (sb.2 it (Ne.symm hne)).trans q, hne⟩, fun b hb => ?_⟩
    · have e1 : ((i + 1 : Nat) : Int) = (i : Int) + 1 := by omega
      rw [e1]; exact he'
    · have hb' : b < s.heap.objs.size := by
        have e' : b = e ∨ b = it := by simpa using hb
        rcases e' with z | z
        · rw [z]; exact hel
        · rw [z]; exact hil
      rw [upd_ne (Nat.ne_of_lt hb')]
      exact (hf b hb).1
  done := by
    intro X hP hw hK hc i pins s σ H E I hf st hg
    subst hP hw hK
    obtain ⟨⟨old, he⟩, hit, hne⟩ := st
    obtain ⟨xs, hq, hx⟩ := hg
    obtain ⟨its, rv, p, hz⟩ := I.tuple hq
    obtain ⟨n1, n2⟩ := apartT he hit p
    obtain ⟨f0, f1, f2, f3, f4, f5⟩ := hf it (by simp)
    have hl := rv.length
    have D : Draws X.prog X.w X.A.in1 it [it, a] i (fun i v => its.toArray[i]? = some v) (fun j h => j = i ∧ h.IsTupleIter it a j ∧ h.IsTuple a its.toArray) :=
      ⟨fun _ _ st => let ⟨o, ho, _⟩ := st.2.1; ⟨o, ho⟩, fun _ _ _ st hk => ⟨st.1, st.2.1.at fun o e => hk it (by simp) o e, st.2.2.at fun o e => hk a (by simp) o e⟩, fun j s Q E hi st hQ => absurd st.1 (by omega),
        fun s Q E st hE => wpAny_nextOf_tuple_end (show X.A.in1.handled = none from I.ok.hd hc) st.2.1 st.2.2 (by simp; omega) hE⟩
    exact wpAny_pyNext_enum_endD D he ⟨rfl, hit, p⟩ fun h' eb => ⟨rfl, I.turned (t' := s.toks) (fun b o hb q => eb b o hb q) f0 f1 f3 f4 f5⟩
  self := fun A i s Q E st h => let ⟨⟨_, he⟩, _⟩ := st; wpAny_pyIter_enum he h
def iEnumT (K : PySem.W.Frag) (ta : TA) : TI := fun σ H R => ta σ H fun vs H1 => ∃ a xs, vs = [.ref a] ∧ SqT K H1 a xs ∧ R (IteT K a) H1
theorem pi_enumT {X : Cx} {e : Expr} {ta : TA} {p pos tpos : Pos} {elts : List Expr} {kk : Nat} (hg : Gl X "enumerate") (hm : X.mg "enumerate" = none) (ha : PA X [e] ta) (hs : starEach [e] X.env = [(false, eval e X.env)] := by rfl) :
    PI X (.Tuple elts kk tpos) (.Call (.Name "enumerate" p) [e] [] pos) (iEnumT X.K ta) := by
  refine ⟨fun pins s σ H R I h => ?_⟩
  refine Call_ (ld_blt I hg hm boot_enumerate (PyProof.Rows.callWith_type1 (thn (ha.run pos pins s σ H _ I h) fun us s1 ⟨vs, H1, I1, r1, q1⟩ => ?_) hs rfl))
  obtain ⟨a, xs, ex, hq, q⟩ := q1
  subst ex
  cases r1 with
  | cons r rr =>
    cases rr
    cases r
    obtain ⟨its, rv, p', hz⟩ := I1.tuple hq
    refine call_enumT (begins_tuple a its.toArray) p' fun h' he hit hsz hk => wpAny_pyIter_enum he ?_
    have I2 : Inv X pins σ H1 { s1 with heap := h' } := I1.kept (t' := s1.toks) hk
    refine ⟨s1.heap.objs.size + 1, [s1.heap.objs.size + 1, s1.heap.objs.size], _, _, H1, rfl, I2, turn_enumT a (s1.heap.objs.size + 1) s1.heap.objs.size, ⟨⟨.none, he⟩, ⟨_, hit, rfl, rfl⟩, Nat.succ_ne_self _⟩, fun b hb => ?_, q⟩
    have e' : b = s1.heap.objs.size + 1 ∨ b = s1.heap.objs.size := by simpa using hb
    have hle : s1.heap.objs.size ≤ b := by
      rcases e' with z | z
      · rw [z]; exact Nat.le_add_right _ _
      · rw [z]; exact Nat.le_refl _
    exact I1.fpOk hle (I1.hok.fresh hle)
/-- a loop over enumerate of a tuple -/
theorem for_enumT {K : PySem.W.Frag} {a : Addr} {xs : List V} {g : TG} {tb : TS} {D : Ends} {σ : L2.St} {H : Hp} (Pv : Nat → L2.St → Hp → Prop) (h0 : Pv 0 σ H) (hq : ∀ i σ H, Pv i σ H → SqT K H a xs)
    (hs : ∀ (i : Nat) (x : V) (T : Addr) (σ : L2.St) (H : Hp), xs[i]? = some x → Pv i σ H → H T = none → g (.ref T) σ (upd H T (.tup [.int (i : Nat), x])) fun σ2 H2 => tb { D with nx := Pv (i + 1), ct := Pv (i + 1), bk := D.nx } σ2 H2) (hd : ∀ σ H, Pv xs.length σ H → D.nx σ H) :
    ∃ W : Nat → Nat → L2.St → Hp → Prop, (∃ m, W 0 m σ H) ∧ ∀ i m σ H, W i m σ H →
      ((IteT K a).stop i H ∧ D.nx σ H) ∨ ((IteT K a).go i H ∧ ∃ N : L2.St → Hp → Prop, (∀ σ' H', N σ' H' → ∃ m', m' < m ∧ W (i + 1) m' σ' H') ∧ ∀ v H', (IteT K a).yld i H v H' → g v σ H' fun σ2 H2 => tb { D with nx := N, ct := N, bk := D.nx } σ2 H2) := by
  refine ⟨fun i m σ H => m = xs.length - i ∧ i ≤ xs.length ∧ Pv i σ H, ⟨xs.length, rfl, Nat.zero_le _, h0⟩, ?_⟩
  rintro i m σ H ⟨rfl, hi, p⟩
  have qx := hq i σ H p
  by_cases hlt : i < xs.length
  · have hx : xs[i]? = some xs[i] := List.getElem?_eq_getElem hlt
    refine .inr ⟨⟨xs, _, qx, hx⟩, Pv (i + 1), fun σ' H' p' => ⟨xs.length - (i + 1), by omega, rfl, hlt, p'⟩, fun v H' y => ?_⟩
    obtain ⟨T, x', rfl, hT, rfl, f1⟩ := y
    exact hs i x' T σ H (f1 xs qx) p hT
  · have e : i = xs.length := by omega
    subst e
    exact .inl ⟨⟨xs, qx, Nat.le_refl _⟩, hd σ H p⟩
theorem walk_zipT {K : PySem.W.Frag} {a b : Addr} {xs ys : List V} {n : Nat} (hn : n = min xs.length ys.length) : Walk (RZ.ItzT K a b) n (fun H => SqT K H a xs ∧ SqT K H b ys) (YPair (fun i => xs[i]?) (fun i => ys[i]?)) := by
  subst hn
  refine ⟨fun i _ hi q => ?_, fun _ q => ⟨xs, ys, q.1, q.2, by omega⟩, fun i H v H' _ q y => ?_⟩
  · have h1 : i < xs.length := by omega
    have h2 : i < ys.length := by omega
    exact ⟨xs, ys, xs[i], ys[i], q.1, q.2, by simp [h1], by simp [h2]⟩
  · obtain ⟨T, x, z, h1, h2, h3, h4, h5⟩ := y
    exact ⟨T, x, z, h1, h2, h3, h4 xs q.1, h5 ys q.2⟩
end Et

set_option Elab.async false
set_option linter.all false
set_option maxRecDepth 100000
set_option maxHeartbeats 2000000
/-! xs == ys where xs and ys are lists: data, or lists of different lengths. -/
namespace Le
open PySem PySem.Calls PyProof.Rows PySem.Spec L2
section
variable {X : Cx}
def rEqL (K : W.Frag) : R2 := fun x y H Q => rEqD K x y H Q ∨ ∃ a b xs ys, x = .ref a ∧ y = .ref b ∧ H a = some (.lst xs) ∧ H b = some (.lst ys) ∧ xs.length ≠ ys.length ∧ Q (.bl false) H
theorem op_eqL (hu : X.A.units + 64 < cLine) : OpR X (compareOp .Eq) (rEqL X.K) := by
  intro pins s σ H x y v u Q I rx ry h
  rcases h with h | ⟨a, b, xs, ys, rfl, rfl, ha, hb, hl, q⟩
  · exact op_eqD hu pins s σ H x y v u Q I rx ry h
  · cases rx
    cases ry
    obtain ⟨_, is, n, r1, h1⟩ := (show ObjOk X.prog X.w H s.heap a (.lst xs) from I.hok a _ ha)
    obtain ⟨_, js, m, r2, h2⟩ := (show ObjOk X.prog X.w H s.heap b (.lst ys) from I.hok b _ hb)
    have e1 := r1.length
    have e2 := r2.length
    have hne : (is.toArray.size != js.toArray.size) = true := by
      rw [List.size_toArray, List.size_toArray, bne_iff_ne]
      omega
    show wpAny _ X.A (richCompare .Eq _ _) _ _ s
    exact SeqAt.RcAt.lists_lengths ⟨_, h1, rfl, n, rfl⟩ ⟨_, h2, rfl, m, rfl⟩ hne (by omega) _ _ _ _ ⟨.bl false, H, I, rfl, q⟩
end
end Le

set_option Elab.async false
set_option linter.all false
set_option maxRecDepth 100000
set_option maxHeartbeats 2000000
/-! xs != ys where xs and ys are lists: data, or lists of different lengths. -/
namespace Le
open PySem PySem.Calls PyProof.Rows PySem.Spec L2
section
variable {X : Cx}
def rNeL (K : W.Frag) : R2 := fun x y H Q => rNeD K x y H Q ∨ ∃ a b xs ys, x = .ref a ∧ y = .ref b ∧ H a = some (.lst xs) ∧ H b = some (.lst ys) ∧ xs.length ≠ ys.length ∧ Q (.bl true) H
theorem op_neL (hu : X.A.units + 64 < cLine) : OpR X (compareOp .NotEq) (rNeL X.K) := by
  intro pins s σ H x y v u Q I rx ry h
  rcases h with h | ⟨a, b, xs, ys, rfl, rfl, ha, hb, hl, q⟩
  · exact op_neD hu pins s σ H x y v u Q I rx ry h
  · cases rx
    cases ry
    obtain ⟨_, is, n, r1, h1⟩ := (show ObjOk X.prog X.w H s.heap a (.lst xs) from I.hok a _ ha)
    obtain ⟨_, js, m, r2, h2⟩ := (show ObjOk X.prog X.w H s.heap b (.lst ys) from I.hok b _ hb)
    have e1 := r1.length
    have e2 := r2.length
    have hne : (is.toArray.size != js.toArray.size) = true := by
      rw [List.size_toArray, List.size_toArray, bne_iff_ne]
      omega
    show wpAny _ X.A (richCompare .NotEq _ _) _ _ s
    exact SeqAt.RcNeAt.lists_lengths ⟨_, h1, rfl, n, rfl⟩ ⟨_, h2, rfl, m, rfl⟩ hne (by omega) _ _ _ _ ⟨.bl true, H, I, rfl, q⟩
end
end Le

set_option Elab.async false
set_option linter.all false
set_option maxRecDepth 100000
set_option maxHeartbeats 4000000
open L2 in
local macro_rules | `(tactic| walk_at "q1") => `(tactic| first
  | refine ⟨_, rfl, ?_⟩
  | refine ⟨_, _, rfl, rfl, ?_⟩
  | refine And.intro (show CMul _ _ from Or.inr ⟨by decide, by decide⟩) ?_
  | refine And.intro (show CMul _ _ from Or.inl ⟨by first | decide | omega, by first | decide | omega⟩) ?_
  | refine And.intro (show CMul _ _ from Or.inr ⟨by omega, by omega⟩) ?_
  | refine And.intro (show CDiv _ _ from ⟨by omega, by omega⟩) ?_
  | refine And.intro (Lat.cdivw (by omega) (by omega)) ?_
  | refine And.intro (show Dt.CPowG _ _ from ⟨by decide, by decide +kernel⟩) ?_
  | refine And.intro (by first | decide | omega) ?_
  | refine And.intro (Int.pow_pos (Int.pow_pos (by decide))) ?_
  | refine ⟨_, _, _, _, rfl, rfl, SqL.of (by first | assumption | exact upd_same), (by rfl), ?_⟩
  | refine ⟨_, _, _, _, rfl, rfl, (by first | assumption | exact upd_same), (by rfl), ?_⟩
  | refine Or.inl ⟨_, rfl, ?_⟩
  | refine Or.inr ⟨_, rfl, ?_⟩)
local macro_rules | `(tactic| walk_at "q") => `(tactic| repeat (walk_at "q1"))
local macro_rules | `(tactic| walk_at "eqt") => `(tactic| (refine ⟨_, rfl, ?_⟩; refine ⟨rfl, ?_⟩; first
  | (refine ⟨true, rfl, ?_⟩; refine L2.iteT ?_)
  | (refine ⟨false, rfl, ?_⟩; refine L2.iteF ?_)))
local macro_rules | `(tactic| walk_at "sz") => `(tactic| (rw [PySem.sizeLine_eq]; simp))
namespace K42
open PySem PySem.Spec PyProof.Rows L2 Dt An Rp Lat
def topS (i : Nat) : Stmt := PySem.Challenge.pw_dealtrows_k42_bases_of_rows.main.body.getD i (.Pass ⟨0, 0, 0, 0⟩)
abbrev s_are_integers : Stmt := topS 2
abbrev nm_are_integers : List Str := ["value", "number"]
abbrev ps_are_integers : List Str := ["value"]
theorem sc_are_integers : FnScope nm_are_integers ps_are_integers (defScope s_are_integers) := ⟨rfl, rfl, rfl, by decide +kernel, rfl, by decide +kernel, by decide +kernel⟩
abbrev s__pivot : Stmt := topS 7
abbrev nm__pivot : List Str := ["row", "at", "number"]
abbrev ps__pivot : List Str := ["row"]
theorem sc__pivot : FnScope nm__pivot ps__pivot (defScope s__pivot) := ⟨rfl, rfl, rfl, by decide +kernel, rfl, by decide +kernel, by decide +kernel⟩
abbrev s__less : Stmt := topS 8
abbrev nm__less : List Str := ["row", "other", "factor", "number", "less"]
abbrev ps__less : List Str := ["row", "other", "factor"]
theorem sc__less : FnScope nm__less ps__less (defScope s__less) := ⟨rfl, rfl, rfl, by decide +kernel, rfl, by decide +kernel, by decide +kernel⟩
abbrev s__pivot_row : Stmt := topS 9
abbrev nm__pivot_row : List Str := ["basis", "at", "width", "row"]
abbrev ps__pivot_row : List Str := ["basis", "at", "width"]
theorem sc__pivot_row : FnScope nm__pivot_row ps__pivot_row (defScope s__pivot_row) := ⟨rfl, rfl, rfl, by decide +kernel, rfl, by decide +kernel, by decide +kernel⟩
abbrev s__reduced : Stmt := topS 10
abbrev nm__reduced : List Str := ["rows", "found", "row", "at", "earlier"]
abbrev ps__reduced : List Str := ["rows"]
theorem sc__reduced : FnScope nm__reduced ps__reduced (defScope s__reduced) := ⟨rfl, rfl, rfl, by decide +kernel, rfl, by decide +kernel, by decide +kernel⟩
abbrev s_basis_with : Stmt := topS 11
abbrev nm_basis_with : List Str := ["basis", "row", "found", "rest", "at", "first"]
abbrev ps_basis_with : List Str := ["basis", "row"]
theorem sc_basis_with : FnScope nm_basis_with ps_basis_with (defScope s_basis_with) := ⟨rfl, rfl, rfl, by decide +kernel, rfl, by decide +kernel, by decide +kernel⟩
abbrev s_basis_from : Stmt := topS 12
abbrev nm_basis_from : List Str := ["rows", "found", "row"]
abbrev ps_basis_from : List Str := ["rows"]
theorem sc_basis_from : FnScope nm_basis_from ps_basis_from (defScope s_basis_from) := ⟨rfl, rfl, rfl, by decide +kernel, rfl, by decide +kernel, by decide +kernel⟩
abbrev s__are_rows : Stmt := topS 15
abbrev nm__are_rows : List Str := ["value", "row"]
abbrev ps__are_rows : List Str := ["value"]
theorem sc__are_rows : FnScope nm__are_rows ps__are_rows (defScope s__are_rows) := ⟨rfl, rfl, rfl, by decide +kernel, rfl, by decide +kernel, by decide +kernel⟩
abbrev s_basis_of : Stmt := topS 16
abbrev nm_basis_of : List Str := ["rows"]
abbrev ps_basis_of : List Str := ["rows"]
theorem sc_basis_of : FnScope nm_basis_of ps_basis_of (defScope s_basis_of) := ⟨rfl, rfl, rfl, by decide +kernel, rfl, by decide +kernel, by decide +kernel⟩
abbrev s__law_reel : Stmt := topS 18
abbrev nm__law_reel : List Str := ["_law_script", "_law_spot", "_law_cell", "_law_great", "_law_blend"]
abbrev ps__law_reel : List Str := ["_law_script", "_law_spot"]
theorem sc__law_reel : FnScope nm__law_reel ps__law_reel (defScope s__law_reel) := ⟨rfl, rfl, rfl, by decide +kernel, rfl, by decide +kernel, by decide +kernel⟩
abbrev s__law_spin : Stmt := topS 19
abbrev nm__law_spin : List Str := ["_law_reel_here", "_law_total", "_law_found", "_law_one", "_law_two"]
abbrev ps__law_spin : List Str := ["_law_reel_here", "_law_total"]
theorem sc__law_spin : FnScope nm__law_spin ps__law_spin (defScope s__law_spin) := ⟨rfl, rfl, rfl, by decide +kernel, rfl, by decide +kernel, by decide +kernel⟩
abbrev s__law_pick : Stmt := topS 20
abbrev nm__law_pick : List Str := ["_law_reel_here", "_law_items"]
abbrev ps__law_pick : List Str := ["_law_reel_here", "_law_items"]
theorem sc__law_pick : FnScope nm__law_pick ps__law_pick (defScope s__law_pick) := ⟨rfl, rfl, rfl, by decide +kernel, rfl, by decide +kernel, by decide +kernel⟩
abbrev s__law_mixed : Stmt := topS 21
abbrev nm__law_mixed : List Str := ["_law_reel_here", "_law_items", "_law_left", "_law_found"]
abbrev ps__law_mixed : List Str := ["_law_reel_here", "_law_items"]
theorem sc__law_mixed : FnScope nm__law_mixed ps__law_mixed (defScope s__law_mixed) := ⟨rfl, rfl, rfl, by decide +kernel, rfl, by decide +kernel, by decide +kernel⟩
abbrev s__law_minus : Stmt := topS 22
abbrev nm__law_minus : List Str := ["_law_row", "_law_other", "_law_factor", "_law_at"]
abbrev ps__law_minus : List Str := ["_law_row", "_law_other", "_law_factor"]
theorem sc__law_minus : FnScope nm__law_minus ps__law_minus (defScope s__law_minus) := ⟨rfl, rfl, rfl, by decide +kernel, rfl, by decide +kernel, by decide +kernel⟩
abbrev s__law_divided : Stmt := topS 23
abbrev nm__law_divided : List Str := ["_law_rows", "_law_column", "_law_some", "_law_row", "_law_rest", "_law_sizes", "_law_spot", "_law_held", "_law_left", "_law_at"]
abbrev ps__law_divided : List Str := ["_law_rows", "_law_column"]
theorem sc__law_divided : FnScope nm__law_divided ps__law_divided (defScope s__law_divided) := ⟨rfl, rfl, rfl, by decide +kernel, rfl, by decide +kernel, by decide +kernel⟩
abbrev s__law_echelon : Stmt := topS 24
abbrev nm__law_echelon : List Str := ["_law_rows", "_law_wide", "_law_left", "_law_found", "_law_row", "_law_column", "_law_some", "_law_held"]
abbrev ps__law_echelon : List Str := ["_law_rows", "_law_wide"]
theorem sc__law_echelon : FnScope nm__law_echelon ps__law_echelon (defScope s__law_echelon) := ⟨rfl, rfl, rfl, by decide +kernel, rfl, by decide +kernel, by decide +kernel⟩
abbrev s__law_first : Stmt := topS 25
abbrev nm__law_first : List Str := ["_law_row", "_law_at"]
abbrev ps__law_first : List Str := ["_law_row"]
theorem sc__law_first : FnScope nm__law_first ps__law_first (defScope s__law_first) := ⟨rfl, rfl, rfl, by decide +kernel, rfl, by decide +kernel, by decide +kernel⟩
abbrev s__law_is_within : Stmt := topS 26
abbrev nm__law_is_within : List Str := ["_law_row", "_law_basis", "_law_held"]
abbrev ps__law_is_within : List Str := ["_law_row", "_law_basis"]
theorem sc__law_is_within : FnScope nm__law_is_within ps__law_is_within (defScope s__law_is_within) := ⟨rfl, rfl, rfl, by decide +kernel, rfl, by decide +kernel, by decide +kernel⟩
abbrev s__law_drawn_rows : Stmt := topS 27
abbrev nm__law_drawn_rows : List Str := ["_law_reel_here", "_law_wide", "_law_rows", "_law_turn", "_law_size", "_law_row", "_law_column"]
abbrev ps__law_drawn_rows : List Str := ["_law_reel_here", "_law_wide"]
theorem sc__law_drawn_rows : FnScope nm__law_drawn_rows ps__law_drawn_rows (defScope s__law_drawn_rows) := ⟨rfl, rfl, rfl, by decide +kernel, rfl, by decide +kernel, by decide +kernel⟩
abbrev s__law_changed : Stmt := topS 28
abbrev nm__law_changed : List Str := ["_law_reel_here", "_law_rows", "_law_wide", "_law_some"]
abbrev ps__law_changed : List Str := ["_law_reel_here", "_law_rows", "_law_wide"]
theorem sc__law_changed : FnScope nm__law_changed ps__law_changed (defScope s__law_changed) := ⟨rfl, rfl, rfl, by decide +kernel, rfl, by decide +kernel, by decide +kernel⟩
abbrev s__law_basis_right : Stmt := topS 29
abbrev nm__law_basis_right : List Str := ["_law_reel_here", "_law_wide", "_law_rows", "_law_due", "_law_more", "_law_column"]
abbrev ps__law_basis_right : List Str := ["_law_reel_here"]
theorem sc__law_basis_right : FnScope nm__law_basis_right ps__law_basis_right (defScope s__law_basis_right) := ⟨rfl, rfl, rfl, by decide +kernel, rfl, by decide +kernel, by decide +kernel⟩
abbrev s__law_refused : Stmt := topS 30
abbrev nm__law_refused : List Str := ["_law_value", "_law_told"]
abbrev ps__law_refused : List Str := ["_law_value"]
theorem sc__law_refused : FnScope nm__law_refused ps__law_refused (defScope s__law_refused) := ⟨rfl, rfl, rfl, by decide +kernel, rfl, by decide +kernel, by decide +kernel⟩
abbrev s__law_near : Stmt := topS 31
abbrev nm__law_near : List Str := ["_law_reel_here", "_law_row", "_law_column", "_law_odd", "_law_at", "_law_bad", "_law_wrong"]
abbrev ps__law_near : List Str := ["_law_reel_here"]
theorem sc__law_near : FnScope nm__law_near ps__law_near (defScope s__law_near) := ⟨rfl, rfl, rfl, by decide +kernel, rfl, by decide +kernel, by decide +kernel⟩
abbrev s_law : Stmt := topS 32
abbrev nm_law : List Str := ["_law_script", "_law_at", "_law_reel_here", "_law_told"]
abbrev ps_law : List Str := ["_law_script"]
theorem sc_law : FnScope nm_law ps_law (defScope s_law) := ⟨rfl, rfl, rfl, by decide +kernel, rfl, by decide +kernel, by decide +kernel⟩
structure Ads where
  are_integers : Addr
  fd_are_integers : FuncData
  _pivot : Addr
  fd__pivot : FuncData
  _less : Addr
  fd__less : FuncData
  _pivot_row : Addr
  fd__pivot_row : FuncData
  _reduced : Addr
  fd__reduced : FuncData
  basis_with : Addr
  fd_basis_with : FuncData
  basis_from : Addr
  fd_basis_from : FuncData
  _are_rows : Addr
  fd__are_rows : FuncData
  basis_of : Addr
  fd_basis_of : FuncData
  reel : Addr
  fd_reel : FuncData
  spin : Addr
  fd_spin : FuncData
  pick : Addr
  fd_pick : FuncData
  mixed : Addr
  fd_mixed : FuncData
  minus : Addr
  fd_minus : FuncData
  divided : Addr
  fd_divided : FuncData
  echelon : Addr
  fd_echelon : FuncData
  first : Addr
  fd_first : FuncData
  is_within : Addr
  fd_is_within : FuncData
  drawn_rows : Addr
  fd_drawn_rows : FuncData
  changed : Addr
  fd_changed : FuncData
  basis_right : Addr
  fd_basis_right : FuncData
  refused : Addr
  fd_refused : FuncData
  near : Addr
  fd_near : FuncData
  law : Addr
  fd_law : FuncData
  c_InvalidOperation : Addr
  tk__INTEGER_BOUND : Tok
  tk__COLUMNS : Tok
abbrev veT : List Value := [.type "ValueError", .type "Exception", .type "BaseException", .type "object"]
structure Txt (K : PySem.W.Frag) (mg : Str → Option Value) (a : Ads) : Prop where
  F_are_integers : Fun K "are_integers" "are_integers" s_are_integers a.are_integers a.fd_are_integers
  g_are_integers : mg "are_integers" = some (.ref a.are_integers)
  F__pivot : Fun K "_pivot" "_pivot" s__pivot a._pivot a.fd__pivot
  g__pivot : mg "_pivot" = some (.ref a._pivot)
  F__less : Fun K "_less" "_less" s__less a._less a.fd__less
  g__less : mg "_less" = some (.ref a._less)
  F__pivot_row : Fun K "_pivot_row" "_pivot_row" s__pivot_row a._pivot_row a.fd__pivot_row
  g__pivot_row : mg "_pivot_row" = some (.ref a._pivot_row)
  F__reduced : Fun K "_reduced" "_reduced" s__reduced a._reduced a.fd__reduced
  g__reduced : mg "_reduced" = some (.ref a._reduced)
  F_basis_with : Fun K "basis_with" "basis_with" s_basis_with a.basis_with a.fd_basis_with
  g_basis_with : mg "basis_with" = some (.ref a.basis_with)
  F_basis_from : Fun K "basis_from" "basis_from" s_basis_from a.basis_from a.fd_basis_from
  g_basis_from : mg "basis_from" = some (.ref a.basis_from)
  F__are_rows : Fun K "_are_rows" "_are_rows" s__are_rows a._are_rows a.fd__are_rows
  g__are_rows : mg "_are_rows" = some (.ref a._are_rows)
  F_basis_of : Fun K "basis_of" "basis_of" s_basis_of a.basis_of a.fd_basis_of
  g_basis_of : mg "basis_of" = some (.ref a.basis_of)
  F_reel : Fun K "_law_reel" "_law_reel" s__law_reel a.reel a.fd_reel
  g_reel : mg "_law_reel" = some (.ref a.reel)
  F_spin : Fun K "_law_spin" "_law_spin" s__law_spin a.spin a.fd_spin
  g_spin : mg "_law_spin" = some (.ref a.spin)
  F_pick : Fun K "_law_pick" "_law_pick" s__law_pick a.pick a.fd_pick
  g_pick : mg "_law_pick" = some (.ref a.pick)
  F_mixed : Fun K "_law_mixed" "_law_mixed" s__law_mixed a.mixed a.fd_mixed
  g_mixed : mg "_law_mixed" = some (.ref a.mixed)
  F_minus : Fun K "_law_minus" "_law_minus" s__law_minus a.minus a.fd_minus
  g_minus : mg "_law_minus" = some (.ref a.minus)
  F_divided : Fun K "_law_divided" "_law_divided" s__law_divided a.divided a.fd_divided
  g_divided : mg "_law_divided" = some (.ref a.divided)
  F_echelon : Fun K "_law_echelon" "_law_echelon" s__law_echelon a.echelon a.fd_echelon
  g_echelon : mg "_law_echelon" = some (.ref a.echelon)
  F_first : Fun K "_law_first" "_law_first" s__law_first a.first a.fd_first
  g_first : mg "_law_first" = some (.ref a.first)
  F_is_within : Fun K "_law_is_within" "_law_is_within" s__law_is_within a.is_within a.fd_is_within
  g_is_within : mg "_law_is_within" = some (.ref a.is_within)
  F_drawn_rows : Fun K "_law_drawn_rows" "_law_drawn_rows" s__law_drawn_rows a.drawn_rows a.fd_drawn_rows
  g_drawn_rows : mg "_law_drawn_rows" = some (.ref a.drawn_rows)
  F_changed : Fun K "_law_changed" "_law_changed" s__law_changed a.changed a.fd_changed
  g_changed : mg "_law_changed" = some (.ref a.changed)
  F_basis_right : Fun K "_law_basis_right" "_law_basis_right" s__law_basis_right a.basis_right a.fd_basis_right
  g_basis_right : mg "_law_basis_right" = some (.ref a.basis_right)
  F_refused : Fun K "_law_refused" "_law_refused" s__law_refused a.refused a.fd_refused
  g_refused : mg "_law_refused" = some (.ref a.refused)
  F_near : Fun K "_law_near" "_law_near" s__law_near a.near a.fd_near
  g_near : mg "_law_near" = some (.ref a.near)
  F_law : Fun K "law" "law" s_law a.law a.fd_law
  g_law : mg "law" = some (.ref a.law)
  len : mg "len" = none
  isinstance : mg "isinstance" = none
  all : mg "all" = none
  int : mg "int" = none
  bool : mg "bool" = none
  tuple : mg "tuple" = none
  dict : mg "dict" = none
  set : mg "set" = none
  list : mg "list" = none
  repr : mg "repr" = none
  abs : mg "abs" = none
  range : mg "range" = none
  min : mg "min" = none
  max : mg "max" = none
  enumerate : mg "enumerate" = none
  zip : mg "zip" = none
  m__INTEGER_BOUND : mg "_INTEGER_BOUND" = some (.int (10 ^ 60) a.tk__INTEGER_BOUND)
  m__COLUMNS : mg "_COLUMNS" = some (.int (3) a.tk__COLUMNS)
  g_c_InvalidOperation : mg "InvalidOperation" = some (.ref a.c_InvalidOperation)
  q_InvalidOperation : PySem.W.excIn K a.c_InvalidOperation veT "ValueError.__new__" = true
  kp_InvalidOperation : PySem.W.keepIn K (.ref a.c_InvalidOperation) = true
  b_InvalidOperation : PySem.W.subIn K (.ref a.c_InvalidOperation) (.type "BaseException") = some true
  ty_InvalidOperation : PySem.W.typeIn K (.ref a.c_InvalidOperation) = some (.type "type")
  e_InvalidOperation : ExcC K a.c_InvalidOperation
  em_InvalidOperation : PySem.W.exmOne K (.ref a.c_InvalidOperation) (.ref a.c_InvalidOperation) = some true
section
variable {P : Program} {w : World} {K : PySem.W.Frag} {mg : Str → Option Value} {base : Heap} {a : Ads}
theorem b_are_integers (T : Txt K mg a) : Binds K a.fd_are_integers ps_are_integers [] := T.F_are_integers.binds fun _ _ _ _ _ _ us hl => match us, hl with | [_], _ => rfl
theorem b__pivot (T : Txt K mg a) : Binds K a.fd__pivot ps__pivot [] := T.F__pivot.binds fun _ _ _ _ _ _ us hl => match us, hl with | [_], _ => rfl
theorem b__less (T : Txt K mg a) : Binds K a.fd__less ps__less [] := T.F__less.binds fun _ _ _ _ _ _ us hl => match us, hl with | [_, _, _], _ => rfl
theorem b__pivot_row (T : Txt K mg a) : Binds K a.fd__pivot_row ps__pivot_row [] := T.F__pivot_row.binds fun _ _ _ _ _ _ us hl => match us, hl with | [_, _, _], _ => rfl
theorem b__reduced (T : Txt K mg a) : Binds K a.fd__reduced ps__reduced [] := T.F__reduced.binds fun _ _ _ _ _ _ us hl => match us, hl with | [_], _ => rfl
theorem b_basis_with (T : Txt K mg a) : Binds K a.fd_basis_with ps_basis_with [] := T.F_basis_with.binds fun _ _ _ _ _ _ us hl => match us, hl with | [_, _], _ => rfl
theorem b_basis_from (T : Txt K mg a) : Binds K a.fd_basis_from ps_basis_from [] := T.F_basis_from.binds fun _ _ _ _ _ _ us hl => match us, hl with | [_], _ => rfl
theorem b__are_rows (T : Txt K mg a) : Binds K a.fd__are_rows ps__are_rows [] := T.F__are_rows.binds fun _ _ _ _ _ _ us hl => match us, hl with | [_], _ => rfl
theorem b_basis_of (T : Txt K mg a) : Binds K a.fd_basis_of ps_basis_of [] := T.F_basis_of.binds fun _ _ _ _ _ _ us hl => match us, hl with | [_], _ => rfl
theorem b_reel (T : Txt K mg a) : Binds K a.fd_reel ps__law_reel [] := T.F_reel.binds fun _ _ _ _ _ _ us hl => match us, hl with | [_, _], _ => rfl
theorem b_spin (T : Txt K mg a) : Binds K a.fd_spin ps__law_spin [] := T.F_spin.binds fun _ _ _ _ _ _ us hl => match us, hl with | [_, _], _ => rfl
theorem b_pick (T : Txt K mg a) : Binds K a.fd_pick ps__law_pick [] := T.F_pick.binds fun _ _ _ _ _ _ us hl => match us, hl with | [_, _], _ => rfl
theorem b_mixed (T : Txt K mg a) : Binds K a.fd_mixed ps__law_mixed [] := T.F_mixed.binds fun _ _ _ _ _ _ us hl => match us, hl with | [_, _], _ => rfl
theorem b_minus (T : Txt K mg a) : Binds K a.fd_minus ps__law_minus [] := T.F_minus.binds fun _ _ _ _ _ _ us hl => match us, hl with | [_, _, _], _ => rfl
theorem b_divided (T : Txt K mg a) : Binds K a.fd_divided ps__law_divided [] := T.F_divided.binds fun _ _ _ _ _ _ us hl => match us, hl with | [_, _], _ => rfl
theorem b_echelon (T : Txt K mg a) : Binds K a.fd_echelon ps__law_echelon [] := T.F_echelon.binds fun _ _ _ _ _ _ us hl => match us, hl with | [_, _], _ => rfl
theorem b_first (T : Txt K mg a) : Binds K a.fd_first ps__law_first [] := T.F_first.binds fun _ _ _ _ _ _ us hl => match us, hl with | [_], _ => rfl
theorem b_is_within (T : Txt K mg a) : Binds K a.fd_is_within ps__law_is_within [] := T.F_is_within.binds fun _ _ _ _ _ _ us hl => match us, hl with | [_, _], _ => rfl
theorem b_drawn_rows (T : Txt K mg a) : Binds K a.fd_drawn_rows ps__law_drawn_rows [] := T.F_drawn_rows.binds fun _ _ _ _ _ _ us hl => match us, hl with | [_, _], _ => rfl
theorem b_changed (T : Txt K mg a) : Binds K a.fd_changed ps__law_changed [] := T.F_changed.binds fun _ _ _ _ _ _ us hl => match us, hl with | [_, _, _], _ => rfl
theorem b_basis_right (T : Txt K mg a) : Binds K a.fd_basis_right ps__law_basis_right [] := T.F_basis_right.binds fun _ _ _ _ _ _ us hl => match us, hl with | [_], _ => rfl
theorem b_refused (T : Txt K mg a) : Binds K a.fd_refused ps__law_refused [] := T.F_refused.binds fun _ _ _ _ _ _ us hl => match us, hl with | [_], _ => rfl
theorem b_near (T : Txt K mg a) : Binds K a.fd_near ps__law_near [] := T.F_near.binds fun _ _ _ _ _ _ us hl => match us, hl with | [_], _ => rfl
theorem b_law (T : Txt K mg a) : Binds K a.fd_law ps_law [] := T.F_law.binds fun _ _ _ _ _ _ us hl => match us, hl with | [_], _ => rfl
theorem all_at {f : PyData → Bool} {ds : List PyData} {i : Nat} {y : PyData} (h : ds[i]? = some y) (q : f y = false) : ds.all f = false := by
  rw [Bool.eq_false_iff]
  intro z
  rw [List.all_eq_true.mp z y (List.mem_of_getElem? h)] at q
  cases q
theorem take_all {f : PyData → Bool} {ds : List PyData} {i : Nat} {y : PyData} (h : ds[i]? = some y) (a : (ds.take i).all f = true) (q : f y = true) : (ds.take (i + 1)).all f = true := by
  rw [List.take_add_one, h, List.all_append, a]
  simp [q]
theorem ok_are_integers (T : Txt K mg a) : FnOk P w K mg base CX0 1 a.are_integers a.fd_are_integers ps_are_integers (spArg areIntsD K) := by
  have F := T.F_are_integers
  refine F.ok (k := 0) sc_are_integers (fun vs H Q E h => ?_) (fun cdv A outer s H vs Q E hr h => ?_)
  · obtain ⟨v, d, rfl, hd, k⟩ := h
    rfl
  · obtain ⟨v, d, rfl, hd, k⟩ := h
    have hu := hu_of hr
    refine ⟨_, (pss_cons (ps_if (pt_not (pt_val (pe_callB call_isi (by rfl) T.isinstance (by decide +kernel) (pa_cons (pv 0) (pa_cons (pe_bltn (v := V.ty "tuple") (u := .type "tuple") (by rfl) T.tuple (by decide +kernel) (by rfl)) pa_nil))))) (pss_one (ps_ret pe_bl)) pss_nil)
      (pss_cons (ps_for PassesOwn.never rfl (pi_tup (pv 0)) (pg_name (i := 1) sc_are_integers.nd rfl (Or.inl rfl)) (pss_one (ps_if (PW.pt (pw_or (pt_not (pt_val (pe_callB call_isi (by rfl) T.isinstance (by decide +kernel) (pa_cons (pv 1) (pa_cons (pe_bltn (v := V.ty "int") (u := .type "int") (by rfl) T.int (by decide +kernel) (by rfl)) pa_nil))))) (pw_or (pt_val (pe_callB call_isi (by rfl) T.isinstance (by decide +kernel) (pa_cons (pv 1) (pa_cons (pe_bltn (v := V.ty "bool") (u := .type "bool") (by rfl) T.bool (by decide +kernel) (by rfl)) pa_nil)))) (pw_or1 (pt_not (pt_chain op_lt op_lt (pe_un un_neg (pe_glob (v := V.int (10 ^ 60)) (by rfl) T.m__INTEGER_BOUND ⟨_, rfl⟩)) (pv 1) (pe_glob (v := V.int (10 ^ 60)) (by rfl) T.m__INTEGER_BOUND ⟨_, rfl⟩))))))) (pss_one (ps_ret pe_bl)) pss_nil)))
      (pss_one (ps_ret pe_bl)))), ?_⟩
    obtain ⟨t, ht, kt⟩ := hd.tup
    refine ⟨v, rfl, v, .ty "tuple", _, _, _, rfl, .ty _, ht, kt, _, rfl, ?_⟩
    cases e : isTup d with
    | false =>
      have q : areIntsD d = false := by cases d <;> first | rfl | cases e
      rw [q] at k
      exact iteT k
    | true =>
      obtain ⟨p, xs, ds, rfl, rfl, hp, hx⟩ := dat_tup (hd.dat e) e
      have k : Q (.bl (ds.all isIntD)) H := k
      refine iteF ?_
      refine ⟨_, rfl, p, rfl, ⟨_, hp⟩, ?_⟩
      refine for_tup (K := K) (a := p) (xs := xs) (fun i σ H1 => H1 = H ∧ (∃ o, σ = [some (.ref p), o]) ∧ (ds.take i).all isIntD = true) ⟨rfl, ⟨_, rfl⟩, by simp⟩ (fun i σ H1 hi q => by obtain ⟨rfl, _, _⟩ := q; exact hp) ?_ ?_
      · rintro i x σ H1 hi ⟨rfl, ⟨o, rfl⟩, ha⟩
        obtain ⟨y, hy, hdy⟩ := datAll_get hx hi
        refine ⟨x, rfl, x, .ty "int", _, _, _, rfl, .ty _, dat_ty hdy, kit_int y, _, rfl, ?_⟩
        cases e1 : isIntB y with
        | false =>
          have q : isIntD y = false := by cases y <;> first | rfl | cases e1
          rw [all_at hy q] at k
          exact iteT (iteT k)
        | true =>
          refine iteF ?_
          refine ⟨x, rfl, x, .ty "bool", _, _, _, rfl, .ty _, dat_ty hdy, kit_bool y, _, rfl, ?_⟩
          cases e2 : isBool y with
          | true =>
            have q : isIntD y = false := by cases y <;> first | rfl | cases e2
            rw [all_at hy q] at k
            exact iteT (iteT k)
          | false =>
            refine iteF ?_
            obtain ⟨n, rfl, rfl⟩ := dat_int hdy e1 e2
            refine ⟨_, rfl, _, rfl, _, _, rfl, rfl, _, rfl, ?_⟩
            have nxt : isIntD (.int n) = true → H1 = H1 ∧ (∃ o', [some (V.ref p), some (V.int n)] = [some (V.ref p), o']) ∧ (ds.take (i + 1)).all isIntD = true := fun q => ⟨rfl, ⟨_, rfl⟩, take_all hy ha q⟩
            refine iteD (fun c => ?_) (fun c => ?_)
            · have c : -B60 < n := c
              refine ⟨_, _, rfl, rfl, _, rfl, ?_⟩
              refine iteB (fun c2 => ?_) (fun c2 => ?_)
              · have c2 : (!decide (n < B60)) = true := c2
                have q : isIntD (.int n) = false := by
                  show (decide (-B60 < n) && decide (n < B60)) = false
                  rw [Bool.not_eq_true'] at c2
                  rw [c2, Bool.and_false]
                rw [all_at hy q] at k
                exact k
              · have c2 : (!decide (n < B60)) = false := c2
                refine nxt ?_
                show (decide (-B60 < n) && decide (n < B60)) = true
                rw [Bool.not_eq_false'] at c2
                rw [c2, decide_eq_true c]
                rfl
            · have c : ¬ -B60 < n := c
              have q : isIntD (.int n) = false := by
                show (decide (-B60 < n) && decide (n < B60)) = false
                rw [decide_eq_false c, Bool.false_and]
              rw [all_at hy q] at k
              exact ⟨_, rfl, iteT k⟩
      · rintro σ H1 ⟨rfl, _, ha⟩
        rw [hx.len, List.take_of_length_le (Nat.le_refl _)] at ha
        rw [ha] at k
        exact k
open Lat
/-- a row stands there -/
def RT (H : Hp) (p : Addr) (r : List Int) : Prop := H p = some (.tup (r.map V.int))
theorem at_toF {r : List Int} {i : Nat} (h : i < r.length) : atI (r.map V.int) ((i : Nat) : Int) = some (V.int (toF r i)) := atI_nat (by rw [List.getElem?_map, List.getElem?_eq_getElem h, toF_lt h]; rfl)
def spPivot : Sp := fun vs H Q _ => ∃ p r, vs = [.ref p] ∧ RT H p r ∧ ∀ H', Same H H' → Q (.int ((pivotOf r : Nat) : Int)) H'
theorem ok__pivot (T : Txt K mg a) : FnOk P w K mg base CX0 1 a._pivot a.fd__pivot ps__pivot spPivot := by
  have F := T.F__pivot
  refine F.ok (k := 0) sc__pivot (fun vs H Q E h => ?_) (fun cdv A outer s H vs Q E hr h => ?_)
  · obtain ⟨p, r, rfl, hR, k⟩ := h
    rfl
  · obtain ⟨p, r, rfl, hR, k⟩ := h
    have hu := hu_of hr
    refine ⟨_, (pss_cons (ps_for PassesOwn.never rfl (Et.pi_enumT (by rfl) T.enumerate (pa_cons (pv 0) pa_nil)) (pg_tup rfl (pgs_cons (pg_name (i := 1) sc__pivot.nd rfl (Or.inl rfl)) (pgs_cons (pg_name (i := 2) sc__pivot.nd rfl (Or.inl rfl)) pgs_nil))) (pss_one (ps_if (pt_cmpR op_ne (pv 2) pe_int (nomark _)) (pss_one (ps_ret (pv 1))) pss_nil)))
      (pss_one (ps_ret (pe_callB call_len (by rfl) T.len (by decide +kernel) (pa_cons (pv 0) pa_nil))))), ?_⟩
    refine ⟨_, rfl, p, _, rfl, SqT.of hR, ?_⟩
    refine Et.for_enumT (K := K) (a := p) (xs := r.map V.int) (fun i σ Hi => i ≤ pivotOf r ∧ (∃ x y, σ = [some (.ref p), x, y]) ∧ Same H Hi) ⟨Nat.zero_le _, ⟨_, _, rfl⟩, fun _ _ e => e⟩ ?_ ?_ ?_
    · rintro i σ Hi ⟨_, _, S⟩
      exact SqT.of (S _ _ hR)
    · rintro i x t σ Hi hx ⟨hi, ⟨u, v, rfl⟩, S⟩ ht
      rw [List.getElem?_map] at hx
      obtain ⟨n, hn, rfl⟩ := Option.map_eq_some_iff.mp hx
      have hl : i < r.length := (List.getElem?_eq_some_iff.mp hn).1
      have en : toF r i = n := by
        rw [toF_lt hl]
        exact (List.getElem?_eq_some_iff.mp hn).2
      refine ⟨t, _, rfl, SqT.of upd_same, rfl, _, _, rfl, _, _, rfl, rfl, ?_⟩
      have S2 : Same H (upd Hi t (.tup [.int (i : Nat), .int n])) := fun b o e => by
        have e2 := S b o e
        rw [upd_ne (ne_of_none e2 ht)]
        exact e2
      refine ⟨_, rfl, rfl, _, rfl, ?_⟩
      refine iteB (fun c => ?_) (fun c => ?_)
      · have n0 : n ≠ 0 := fun z => by rw [z] at c; cases c
        refine ⟨_, rfl, ?_⟩
        have ep : pivotOf r = i := pivotOf_eq (fun j hj => pivotOf_low (by omega)) (by rw [en]; exact n0)
        have := k _ S2
        rw [ep] at this
        exact this
      · have n0 : n = 0 := by
          have c2 := of_decide_eq_true (by simpa using c : decide (V.int n = V.int 0) = true)
          exact V.int.inj c2
        refine ⟨?_, ⟨_, _, rfl⟩, S2⟩
        rcases Nat.lt_or_ge i (pivotOf r) with z | z
        · exact z
        · have e : pivotOf r = i := by omega
          have := pivotOf_at (r := r) (by omega)
          rw [e, en] at this
          exact absurd n0 this
    · rintro σ Hi ⟨hi, ⟨u, v, rfl⟩, S⟩
      rw [List.length_map] at hi
      have ep : pivotOf r = r.length := Nat.le_antisymm (pivotOf_le r) hi
      refine ⟨_, rfl, _, _, rfl, .inr ⟨_, SqT.of (S _ _ hR), rfl⟩, ?_⟩
      rw [List.length_map, ← ep]
      exact k _ S
def spLess : Sp := fun vs H Q _ => ∃ p q k r u, vs = [.ref p, .ref q, .int k] ∧ RT H p r ∧ RT H q u ∧ r.length = u.length ∧ r.length ≤ 3 ∧ k.natAbs ≤ 2 ^ 100000 ∧ LimL (2 ^ 100000) u ∧ ∀ z H', Same H H' → RT H' z (lessL r u k) → Q (.ref z) H'
theorem ok__less (T : Txt K mg a) : FnOk P w K mg base CX0 1 a._less a.fd__less ps__less spLess := by
  have F := T.F__less
  refine F.ok (k := 0) sc__less (fun vs H Q E h => ?_) (fun cdv A outer s H vs Q E hr h => ?_)
  · obtain ⟨p, q, k0, r, u, rfl, hR, hU, hl, h3, hk, hu2, k⟩ := h
    rfl
  · obtain ⟨p, q, k0, r, u, rfl, hR, hU, hl, h3, hk, hu2, k⟩ := h
    have hu := hu_of hr
    refine ⟨_, (pss_one (ps_ret (pe_callTy call_tuple_of (by rfl) T.tuple (by decide +kernel) (pa_cons (pe_lc (own := [("number", 3), ("less", 4)]) rfl sc__less.nd (RZ.pi_zipA (by rfl) T.zip (pa_cons (pv 0) (pa_cons (pv 1) pa_nil))) (blkOk_by (N := nm__less) (sc := defScope s__less) (by decide +kernel)) (fun _ _ _ _ _ => (show PG _ _ (gTup K 2 (gCons (gName 3) (gCons (gName 4) gNil))) from pg_tup rfl (pgs_cons (pg_name (i := 3) sc__less.nd rfl (Or.inl rfl)) (pgs_cons (pg_name (i := 4) sc__less.nd rfl (Or.inl rfl)) pgs_nil)))) (fun _ _ _ _ _ => pts_nil) (fun _ _ _ _ _ => (pe_op op_sub (pv 3) (pe_op op_mulW (pv 2) (pv 4))))) pa_nil)))), ?_⟩
    refine ⟨_, rfl, _, rfl, p, q, _, _, rfl, .inr ⟨SqT.of hR, SqT.of hU, ?_⟩⟩
    intro D hD
    refine lc_it (Et.walk_zipT (K := K) (a := p) (b := q) (xs := r.map V.int) (ys := u.map V.int) (n := r.length) (by rw [List.length_map, List.length_map, hl, Nat.min_self])) (fun i Hi => Same H Hi ∧ Hi D = some (.lst (((lessL r u k0).take i).map V.int))) ⟨sameNew hD, upd_same⟩ ?_ ?_ ?_
    · rintro i Hi hi ⟨S, _⟩
      exact ⟨SqT.of (S _ _ hR), SqT.of (S _ _ hU)⟩
    · rintro i y Hi Hj hi ⟨S, eD⟩ ⟨t, x1, y1, rfl, ht, rfl, h1, h2⟩
      have hi2 : i < u.length := by omega
      have h1 : (r.map V.int)[i]? = some x1 := h1
      have h2 : (u.map V.int)[i]? = some y1 := h2
      rw [List.getElem?_map, List.getElem?_eq_getElem hi] at h1
      rw [List.getElem?_map, List.getElem?_eq_getElem hi2] at h2
      cases h1
      cases h2
      refine ⟨t, _, rfl, SqT.of upd_same, rfl, _, _, rfl, _, _, rfl, rfl, ?_⟩
      refine ⟨rfl, ?_⟩
      dsimp only [tYes]
      rw [if_pos rfl]
      refine ⟨_, rfl, _, rfl, _, rfl, _, _, rfl, rfl, cmul hk (hu2.mem (List.getElem_mem hi2)) (by decide), _, _, rfl, rfl, ?_⟩
      have nDt : D ≠ t := ne_of_none eD ht
      have ln : (lessL r u k0).length = r.length := less_len hl
      have at' : (lessL r u k0)[i]? = some (r[i] - k0 * u[i]) := by
        rw [List.getElem?_eq_getElem (by omega)]
        unfold lessL
        rw [List.getElem_zipWith]
      refine ⟨_, by rw [upd_ne nDt]; exact eD, by rw [List.length_map, List.length_take, sizeLine_eq]; omega, fun b o e => ?_, ?_⟩
      · have e2 := S b o e
        rw [upd_ne (ne_of_none e hD), upd_ne (ne_of_none e2 ht)]
        exact e2
      · rw [List.take_add_one, at', List.map_append]
        exact upd_same
    rintro H5 ⟨S, eD⟩
    rw [List.take_of_length_le (by rw [less_len hl]; exact Nat.le_refl _)] at eD
    refine ⟨D, _, rfl, .inl ⟨.inl (.inl eD), fun z hz => ?_⟩⟩
    exact k z _ (S.trans (sameNew hz)) upd_same
/-- rows stand there -/
def Rows (H : Hp) (ps : List Addr) (Rs : List (List Int)) : Prop := Paired (fun p r => RT H p r) ps Rs
theorem Rows.keep {H H' : Hp} {ps : List Addr} {Rs : List (List Int)} (h : Rows H ps Rs) (S : Same H H') : Rows H' ps Rs := Paired.mapP h fun _ _ e => S _ _ e
theorem Rows.get {H : Hp} : ∀ {ps : List Addr} {Rs : List (List Int)}, Rows H ps Rs → ∀ {i : Nat} {p : Addr}, ps[i]? = some p → ∃ r, Rs[i]? = some r ∧ RT H p r
  | _, _, .nil, _, _, e => by cases e
  | _, _, .cons h _, 0, _, e => by
    cases e
    exact ⟨_, rfl, h⟩
  | _, _, .cons _ t, i + 1, _, e => Rows.get t (i := i) e
theorem Rows.len {H : Hp} : ∀ {ps : List Addr} {Rs : List (List Int)}, Rows H ps Rs → ps.length = Rs.length
  | _, _, .nil => rfl
  | _, _, .cons _ t => congrArg (· + 1) (Rows.len t)
theorem Rows.snoc {H : Hp} {p : Addr} {r : List Int} (h : RT H p r) : ∀ {ps : List Addr} {Rs : List (List Int)}, Rows H ps Rs → Rows H (ps ++ [p]) (Rs ++ [r])
  | _, _, .nil => .cons h .nil
  | _, _, .cons q t => .cons q (Rows.snoc h t)
theorem find_next {Bs : List (List Int)} {i : Nat} {r : List Int} {f : List Int → Bool} (h : (Bs.take i).find? f = none) (hr : Bs[i]? = some r) : (f r = true → Bs.find? f = some r) ∧ (f r = false → (Bs.take (i + 1)).find? f = none) := by
  refine ⟨fun c => ?_, fun c => ?_⟩
  · obtain ⟨hi, er⟩ := List.getElem?_eq_some_iff.mp hr
    have e : Bs = Bs.take i ++ (r :: Bs.drop (i + 1)) := by
      rw [← er, ← List.drop_eq_getElem_cons hi, List.take_append_drop]
    rw [e, List.find?_append, h]
    simp [c]
  · rw [List.take_add_one, hr, List.find?_append, h]
    simp [c]
theorem zeros_map (w : Nat) : (List.replicate ((w : Nat) : Int).toNat [V.int 0]).flatten = (List.replicate w (0 : Int)).map V.int := by
  rw [List.flatten_replicate_singleton, List.map_replicate, Int.toNat_natCast]
def spPivotRow : Sp := fun vs H Q _ => ∃ b at' w ps Bs, vs = [.ref b, .int ((at' : Nat) : Int), .int ((w : Nat) : Int)] ∧ H b = some (.tup (ps.map V.ref)) ∧ Rows H ps Bs ∧ 1 ≤ w ∧ w ≤ 3 ∧ ∀ z H', Same H H' → RT H' z (rowAt Bs at' w) → Q (.ref z) H'
theorem ok__pivot_row (T : Txt K mg a) : FnOk P w K mg base CX0 2 a._pivot_row a.fd__pivot_row ps__pivot_row spPivotRow := by
  have F := T.F__pivot_row
  refine F.ok (k := 1) sc__pivot_row (fun vs H Q E h => ?_) (fun cdv A outer s H vs Q E hr h => ?_)
  · obtain ⟨b, at', w, ps, Bs, rfl, hb, hB, hw1, hw3, k⟩ := h
    rfl
  · obtain ⟨b, at', w, ps, Bs, rfl, hb, hB, hw1, hw3, k⟩ := h
    have hu := hu_of hr
    refine ⟨_, (pss_cons (ps_for PassesOwn.never rfl (pi_tup (pv 0)) (pg_name (i := 3) sc__pivot_row.nd rfl (Or.inl rfl)) (pss_one (ps_if (pt_cmpR op_eq (pe_call (ok__pivot T) (hr.mono (by decide)) (by rfl) T.g__pivot T.F__pivot.kp (b__pivot T) .nil pass0 (pa_cons (pv 3) pa_nil)) (pv 1) (nomark _)) (pss_one (ps_ret (pv 3))) pss_nil)))
      (pss_one (ps_ret (pe_op Ts.op_mulZ (pe_tup (pa_cons pe_int pa_nil)) (pv 2))))), ?_⟩
    refine ⟨_, rfl, b, rfl, ⟨_, SqT.of hb⟩, ?_⟩
    refine for_tup (K := K) (a := b) (xs := ps.map V.ref) (fun i σ Hi => Same H Hi ∧ (∃ x, σ = [some (.ref b), some (.int ((at' : Nat) : Int)), some (.int ((w : Nat) : Int)), x]) ∧ (Bs.take i).find? (fun r => decide (pivotOf r = at')) = none) ⟨fun _ _ e => e, ⟨_, rfl⟩, rfl⟩ (fun i σ H1 hi q => SqT.of (q.1 _ _ hb)) ?_ ?_
    · rintro i x σ Hi hi ⟨S, ⟨o, rfl⟩, ha⟩
      rw [List.getElem?_map] at hi
      obtain ⟨p, hp, rfl⟩ := Option.map_eq_some_iff.mp hi
      obtain ⟨r, hr0, hR⟩ := hB.get hp
      refine ⟨_, rfl, p, r, rfl, S _ _ hR, fun H2 S2 => ?_⟩
      refine ⟨_, rfl, rfl, _, rfl, ?_⟩
      refine iteB (fun c => ?_) (fun c => ?_)
      · have e := V.int.inj (of_decide_eq_true c)
        refine ⟨_, rfl, ?_⟩
        have q := (find_next ha hr0).1 (decide_eq_true (show pivotOf r = at' by omega))
        refine k p H2 (S.trans S2) ?_
        unfold rowAt
        rw [q]
        exact S2 _ _ (S _ _ hR)
      · refine ⟨S.trans S2, ⟨_, rfl⟩, (find_next ha hr0).2 (decide_eq_false fun z => ?_)⟩
        rw [z, decide_eq_true rfl] at c
        cases c
    · rintro σ Hi ⟨S, ⟨o, rfl⟩, ha⟩
      rw [List.length_map, hB.len, List.take_of_length_le (Nat.le_refl _)] at ha
      refine ⟨(by show 1 ≤ sizeLine; decide), fun l nl => ?_⟩
      refine ⟨_, rfl, l, _, [.int 0], rfl, rfl, SqT.of upd_same, (fun z => by cases z), by omega, by omega, (by decide), fun q H' S' hq ht => ?_⟩
      have e := ht upd_same
      rw [zeros_map] at e
      refine k q H' ((S.trans (sameNew nl)).trans S') ?_
      unfold rowAt
      rw [ha]
      exact e
/-- a list of rows -/
def LRows (H : Hp) (l : Addr) (ps : List Addr) (Rs : List (List Int)) : Prop := H l = some (.lst (ps.map V.ref)) ∧ Rows H ps Rs
def TRows (H : Hp) (l : Addr) (ps : List Addr) (Rs : List (List Int)) : Prop := H l = some (.tup (ps.map V.ref)) ∧ Rows H ps Rs
theorem Red.mono {w p N N' : Nat} {L A : List (List Int)} (h : Red w p N L A) (l : N ≤ N') : Red w p N' L A := ⟨h.bas, h.piv, h.sm, fun x hx => (h.lim x hx).mono l⟩
theorem drop_at {α : Type} {L : List α} {j : Nat} {r : α} (h : L[j]? = some r) : L.drop j = r :: L.drop (j + 1) := by
  obtain ⟨hi, er⟩ := List.getElem?_eq_some_iff.mp h
  rw [List.drop_eq_getElem_cons hi, er]
theorem take_at {α : Type} {L : List α} {j : Nat} {r : α} (h : L[j]? = some r) : L.take (j + 1) = L.take j ++ [r] := by
  rw [List.take_add_one, h]
  rfl
def spReduced : Sp := fun vs H Q _ => ∃ l ps Rs w M, vs = [.ref l] ∧ LRows H l ps Rs ∧ Rs.length ≤ 3 ∧ Ech w w Rs ∧ w ≤ 3 ∧ M < 8999 ∧ (∀ x ∈ Rs, LimL (2 ^ M) x) ∧ ∀ z qs As H', Same H H' → TRows H' z qs As → Bas w As → Sm (As.map toF) (Rs.map toF) → Q (.ref z) H'
theorem ok__reduced (T : Txt K mg a) : FnOk P w K mg base CX0 2 a._reduced a.fd__reduced ps__reduced spReduced := by
  have F := T.F__reduced
  refine F.ok (k := 1) sc__reduced (fun vs H Q E h => ?_) (fun cdv A outer s H vs Q E hr h => ?_)
  · obtain ⟨l, ps, Rs, w, M, rfl, hL, hm, hE, hw, hM, hlim, k⟩ := h
    rfl
  · obtain ⟨l, ps, Rs, w, M, rfl, hL, hm, hE, hw, hM, hlim, k⟩ := h
    have hu := hu_of hr
    refine ⟨_, (pss_cons (ps_set (i := 1) sc__reduced.nd rfl (Or.inl rfl) (pe_lst pa_nil))
      (pss_cons (ps_for PassesOwn.never rfl (pi_list (pv 0)) (pg_name (i := 2) sc__reduced.nd rfl (Or.inr rfl)) (pss_cons (ps_set (i := 3) sc__reduced.nd rfl (Or.inr rfl) (pe_call (ok__pivot T) (hr.mono (by decide)) (by rfl) T.g__pivot T.F__pivot.kp (b__pivot T) .nil pass0 (pa_cons (pv 2) pa_nil)))
      (pss_one (ps_set (i := 1) sc__reduced.nd rfl (Or.inl rfl) (pe_lst (StX.pa_star (pe_lc (own := [("earlier", 4)]) rfl sc__reduced.nd (pi_list (pv 1)) (blkOk_by (N := nm__reduced) (sc := defScope s__reduced) (by decide +kernel)) (fun _ _ _ _ _ => (pg_name (i := 4) sc__reduced.nd rfl (Or.inl rfl))) (fun _ _ _ _ _ => pts_nil) (fun _ _ _ _ _ => (pe_call (ok__less T) (hr.mono (by decide)) (by rfl) T.g__less T.F__less.kp (b__less T) .nil pass0 (pa_cons (pv 4) (pa_cons (pv 2) (pa_cons (pe_op Fz.op_fdivZ (pe_ix (r := rIxT K) ix_tup (pv 4) (pv 3) (fun _ _ => rfl)) (pe_ix (r := rIxT K) ix_tup (pv 2) (pv 3) (fun _ _ => rfl))) pa_nil)))))) (pa_cons (pv 2) pa_nil)))))))
      (pss_one (ps_ret (pe_callTy call_tuple_of (by rfl) T.tuple (by decide +kernel) (pa_cons (pv 1) pa_nil)))))), ?_⟩
    refine ⟨(by show 0 ≤ sizeLine; decide), fun f0 nf0 => ?_⟩
    refine ⟨_, rfl, l, rfl, ⟨_, SqL.of (sameNew nf0 _ _ hL.1)⟩, ?_⟩
    refine for_list (K := K) (a := l) (xs := ps.map V.ref) (fun j σ Hj => ∃ f qs As x2 x3 x4 p, σ = [some (.ref l), some (.ref f), x2, x3, x4] ∧ Same H Hj ∧ LRows Hj f qs As ∧ qs.length = j ∧ j ≤ Rs.length ∧ Red w p (2 ^ (j * (M + 2))) (Rs.take j) As ∧ ∀ r ∈ Rs.drop j, ∀ s, Piv (toF r) s → p ≤ s) ?_ ?_ ?_ ?_
    · exact ⟨f0, [], [], _, _, _, 0, rfl, sameNew nf0, ⟨upd_same, .nil⟩, rfl, Nat.zero_le _, Red.nil w 0 _, fun _ _ _ _ => Nat.zero_le _⟩
    · rintro j σ Hj hj ⟨f, qs, As, x2, x3, x4, p, rfl, S, _⟩
      exact SqL.of (S _ _ hL.1)
    · rintro j x σ Hj hx ⟨f, qs, As, x2, x3, x4, p, rfl, S, hF, hqs, hj, hRed, hlow⟩
      rw [List.getElem?_map] at hx
      obtain ⟨pr, hpr, rfl⟩ := Option.map_eq_some_iff.mp hx
      obtain ⟨r, hr0, hR0⟩ := hL.2.get hpr
      have hR := S _ _ hR0
      have hj1 := (List.getElem?_eq_some_iff.mp hr0).1
      have hmem : r ∈ Rs := List.mem_of_getElem? hr0
      obtain ⟨q, hq1, hq2⟩ := hE.piv r hmem
      have hlr := hE.len r hmem
      have eq : pivotOf r = q := pivotOf_piv hq2
      have hpq : p ≤ q := hlow r (by rw [drop_at hr0]; exact List.mem_cons_self) q hq2
      have hRed2 := hRed.weak hpq
      have hlimr := hlim r hmem
      refine ⟨_, rfl, pr, r, rfl, hR, fun H2 S2 => ?_⟩
      rw [eq]
      refine ⟨_, rfl, f, rfl, ⟨_, SqL.of (S2 _ _ hF.1)⟩, fun D hD => ?_⟩
      refine lc_it (walk_list (K := K) (a := f) (xs := qs.map V.ref)) (fun i Hi => ∃ zs, Same H2 Hi ∧ Hi D = some (.lst (zs.map V.ref)) ∧ zs.length = i ∧ Rows Hi zs ((As.take i).map fun e => lessL e r (Int.fdiv (toF e q) (toF r q)))) ⟨[], sameNew hD, upd_same, rfl, .nil⟩ ?_ ?_ ?_
      · rintro i Hi hi ⟨zs, S3, _⟩
        exact .inl (.inl (S3 _ _ (S2 _ _ hF.1)))
      · rintro i y Hi0 Hi hi ⟨zs, S3, eD, hz, hZ⟩ ⟨rfl, hy⟩
        rw [List.length_map] at hi
        rw [List.getElem?_map] at hy
        obtain ⟨pe, hpe, rfl⟩ := Option.map_eq_some_iff.mp hy
        obtain ⟨e, he0, hE0⟩ := hF.2.get hpe
        have heE := S3 _ _ (S2 _ _ hE0)
        have heM : e ∈ As := List.mem_of_getElem? he0
        have hle := hRed.bas.len e heM
        refine ⟨rfl, ?_⟩
        dsimp only [tYes]
        rw [if_pos rfl]
        have rq0 : toF r q ≠ 0 := by have := hq2.2; omega
        have k1 := fd_le (f := toF e q) rq0
        have k2 := hRed.lim e heM q
        have big : (Int.fdiv (toF e q) (toF r q)).natAbs ≤ 2 ^ 100000 := by
          have : j * (M + 2) + 1 ≤ 100000 := by
            have : j * (M + 2) ≤ 3 * 9001 := Nat.mul_le_mul (by omega) (by omega)
            omega
          have := two_mono this
          rw [Nat.pow_succ] at this
          have := Nat.two_pow_pos (j * (M + 2))
          omega
        refine ⟨_, rfl, _, rfl, _, rfl, _, rfl, pe, _, _, _, rfl, rfl, SqT.of heE, at_toF (by omega), _, rfl, _, rfl, pr, _, _, _, rfl, rfl, SqT.of (S3 _ _ (S2 _ _ hR)), at_toF (by omega), _, _, rfl, rfl, cdiv rq0 (hlimr q) hM, pe, pr, _, e, r, rfl, heE, S3 _ _ (S2 _ _ hR), by omega, by omega, big, hlimr.mono (two_mono (by omega)), fun z H4 S4 hZ4 => ?_⟩
        have eD4 := S4 _ _ eD
        refine ⟨zs.map V.ref, eD4, by rw [List.length_map, hz, sizeLine_eq]; omega, zs ++ [z], fun b o hb => ?_, by rw [List.map_append]; exact upd_same, by rw [List.length_append, hz]; rfl, ?_⟩
        · rw [upd_ne (ne_of_none hb hD)]
          exact S4 _ _ (S3 _ _ hb)
        · rw [take_at he0, List.map_append]
          refine Rows.snoc ?_ ?_
          · show upd H4 D _ z = _
            rw [upd_ne (fun y => by rw [y] at hZ4; rw [hZ4] at eD4; cases eD4)]
            exact hZ4
          · refine Paired.mapP (hZ.keep S4) fun a b hab => ?_
            show upd H4 D _ a = _
            rw [upd_ne (fun y => by rw [y] at hab; rw [hab] at eD4; cases eD4)]
            exact hab
      rintro H5 ⟨zs, S5, eD, hz, hZ⟩
      rw [List.length_map] at hz hZ
      rw [List.take_of_length_le (by rw [hF.2.len]; exact Nat.le_refl _)] at hZ
      refine ⟨D, _, rfl, .inr (SqL.of eD), ?_⟩
      refine ⟨_, rfl, ?_⟩
      refine ⟨by rw [List.length_append, List.length_map, hz, sizeLine_eq]; show _ + 1 ≤ _; omega, fun f2 nf2 => ?_⟩
      have S6 := sameNew (o := .lst (zs.map V.ref ++ [V.ref pr])) nf2
      have S26 := S2.trans (S5.trans S6)
      refine ⟨f2, zs ++ [pr], redS As r, _, _, _, q + 1, rfl, S.trans S26, ⟨by rw [List.map_append]; exact upd_same, ?_⟩, by rw [List.length_append, hz, hqs]; rfl, hj1, ?_, fun r2 hr2 s hs => ?_⟩
      · unfold redS
        rw [eq]
        exact Rows.snoc (S26 _ _ hR) (hZ.keep S6)
      · rw [take_at hr0]
        refine Red.mono (hRed2.step hlr hq2 hlimr ?_) ?_
        · rw [Nat.add_mul, Nat.one_mul]
          exact Nat.le_trans (Nat.le_add_left (2 ^ M) (2 ^ (j * (M + 2)) * 2 ^ M)) (Nat.le_add_left _ _)
        · have := red_two (i := j * (M + 2)) (j := M)
          rwa [show j * (M + 2) + M + 2 = (j + 1) * (M + 2) by rw [Nat.add_mul, Nat.one_mul]; omega] at this
      · have pw := hE.inc.sublist (List.drop_sublist j Rs)
        rw [drop_at hr0] at pw
        exact List.rel_of_pairwise_cons pw hr2 q s hq2 hs
    · rintro σ Hj ⟨f, qs, As, x2, x3, x4, p, rfl, S, hF, hqs, hj, hRed, hlow⟩
      rw [List.length_map, hL.2.len, List.take_of_length_le (Nat.le_refl _)] at hRed
      refine ⟨_, rfl, f, _, rfl, .inl ⟨SqL.of hF.1, fun z hz => ?_⟩⟩
      exact k z qs As _ (S.trans (sameNew hz)) ⟨upd_same, hF.2.keep (sameNew hz)⟩ hRed.bas hRed.sm
end
end K42

set_option Elab.async false
set_option linter.all false
set_option maxRecDepth 100000
set_option maxHeartbeats 4000000
open L2 in
local macro_rules | `(tactic| walk_at "q1") => `(tactic| first
  | refine ⟨_, rfl, ?_⟩
  | refine ⟨_, _, rfl, rfl, ?_⟩
  | refine And.intro (show CMul _ _ from Or.inr ⟨by decide, by decide⟩) ?_
  | refine And.intro (show CMul _ _ from Or.inl ⟨by first | decide | omega, by first | decide | omega⟩) ?_
  | refine And.intro (show CMul _ _ from Or.inr ⟨by omega, by omega⟩) ?_
  | refine And.intro (show CDiv _ _ from ⟨by omega, by omega⟩) ?_
  | refine And.intro (Lat.cdivw (by omega) (by omega)) ?_
  | refine And.intro (show Dt.CPowG _ _ from ⟨by decide, by decide +kernel⟩) ?_
  | refine And.intro (by first | decide | omega) ?_
  | refine And.intro (Int.pow_pos (Int.pow_pos (by decide))) ?_
  | refine ⟨_, _, _, _, rfl, rfl, SqL.of (by first | assumption | exact upd_same), (by rfl), ?_⟩
  | refine ⟨_, _, _, _, rfl, rfl, (by first | assumption | exact upd_same), (by rfl), ?_⟩
  | refine Or.inl ⟨_, rfl, ?_⟩
  | refine Or.inr ⟨_, rfl, ?_⟩)
local macro_rules | `(tactic| walk_at "q") => `(tactic| repeat (walk_at "q1"))
local macro_rules | `(tactic| walk_at "eqt") => `(tactic| (refine ⟨_, rfl, ?_⟩; refine ⟨rfl, ?_⟩; first
  | (refine ⟨true, rfl, ?_⟩; refine L2.iteT ?_)
  | (refine ⟨false, rfl, ?_⟩; refine L2.iteF ?_)))
local macro_rules | `(tactic| walk_at "sz") => `(tactic| (rw [PySem.sizeLine_eq]; simp))
namespace K42
open PySem PySem.Spec PyProof.Rows L2 Dt An Rp Lat
section
variable {P : Program} {w : World} {K : PySem.W.Frag} {mg : Str → Option Value} {base : Heap} {a : Ads}
/-- the bits of the numbers at a column -/
def mc (M : Nat) : Nat → Nat
  | 0 => M
  | c + 1 => mc M c + mc M c + 2
theorem mc_le {M c : Nat} (hc : c ≤ 3) (hM : M ≤ 1100) : mc M c ≤ 8814 := by
  rcases c with _ | _ | _ | _ | c
  · show M ≤ _
    omega
  · show M + M + 2 ≤ _
    omega
  · show (M + M + 2) + (M + M + 2) + 2 ≤ _
    omega
  · show ((M + M + 2) + (M + M + 2) + 2) + ((M + M + 2) + (M + M + 2) + 2) + 2 ≤ _
    omega
  · omega
theorem mc_ge (M : Nat) : ∀ c, M ≤ mc M c
  | 0 => Nat.le_refl _
  | c + 1 => by
    have := mc_ge M c
    show M ≤ mc M c + mc M c + 2
    omega
theorem big_of {x : Int} {k : Nat} (h : x.natAbs ≤ 2 ^ k + 1) (hk : k < 50000) : x.natAbs ≤ 2 ^ 100000 := by
  have a := two_mono (show k + 1 ≤ 100000 by omega)
  rw [Nat.pow_succ] at a
  have := Nat.two_pow_pos k
  omega
def spBasisWith : Sp := fun vs H Q _ => ∃ b pr ps Bs row w M, vs = [.ref b, .ref pr] ∧ TRows H b ps Bs ∧ RT H pr row ∧ Bas w Bs ∧ row.length = w ∧ 1 ≤ w ∧ w ≤ 3 ∧ M ≤ 1100 ∧ LimL (2 ^ M) row ∧ (∀ x ∈ Bs, LimL (2 ^ M) x) ∧
  ∀ z qs As H', Same H H' → TRows H' z qs As → Bas w As → Sm (As.map toF) (toF row :: Bs.map toF) → Q (.ref z) H'
theorem RT.upd {H : Hp} {p l : Addr} {r : List Int} {zs : List V} {o : HO} (h : RT H p r) (hl : H l = some (.lst zs)) : RT (upd H l o) p r := by
  show L2.upd H l o p = _
  rw [upd_ne (fun y => by
    have h2 : H p = _ := h
    rw [y, hl] at h2
    cases h2)]
  exact h
theorem Rows.upd {H : Hp} {l : Addr} {ps : List Addr} {Rs : List (List Int)} {zs : List V} {o : HO} (h : Rows H ps Rs) (hl : H l = some (.lst zs)) : Rows (upd H l o) ps Rs := Paired.mapP h fun _ _ e => RT.upd e hl
theorem same_upd {H H1 : Hp} {l : Addr} {o : HO} (S : Same H H1) (h : H l = none) : Same H (upd H1 l o) := fun b u e => by
  rw [upd_ne (ne_of_none e h)]
  exact S _ _ e
theorem ok_basis_with (T : Txt K mg a) : FnOk P w K mg base CX0 3 a.basis_with a.fd_basis_with ps_basis_with spBasisWith := by
  have F := T.F_basis_with
  refine F.ok (k := 2) sc_basis_with (fun vs H Q E h => ?_) (fun cdv A outer s H vs Q E hr h => ?_)
  · obtain ⟨b, pr, ps, Bs, row, w, M, rfl, hB, hR, bB, hl, hw1, hw3, hM, limR, limB, k⟩ := h
    rfl
  · obtain ⟨b, pr, ps, Bs, row, w, M, rfl, hB, hR, bB, hl, hw1, hw3, hM, limR, limB, k⟩ := h
    have hu := hu_of hr
    refine ⟨_, (pss_cons (ps_set (i := 2) sc_basis_with.nd rfl (Or.inl rfl) (pe_lst pa_nil))
      (pss_cons (ps_set (i := 3) sc_basis_with.nd rfl (Or.inl rfl) (pv 1))
      (pss_cons (ps_for PassesOwn.never rfl (pi_range1 (by rfl) T.range (pa_cons (pe_callB call_len (by rfl) T.len (by decide +kernel) (pa_cons (pv 1) pa_nil)) pa_nil)) (pg_name (i := 4) sc_basis_with.nd rfl (Or.inl rfl)) (pss_cons (ps_set (i := 5) sc_basis_with.nd rfl (Or.inl rfl) (pe_call (ok__pivot_row T) (hr.mono (by decide)) (by rfl) T.g__pivot_row T.F__pivot_row.kp (b__pivot_row T) .nil pass0 (pa_cons (pv 0) (pa_cons (pv 4) (pa_cons (pe_callB call_len (by rfl) T.len (by decide +kernel) (pa_cons (pv 1) pa_nil)) pa_nil)))))
      (pss_cons (ps_while PassesOwn.never (pt_cmpR op_ne (pe_ix ix_tup (pv 3) (pv 4) (fun _ _ => rfl)) pe_int (nomark _)) (pss_one (ps_par (i := 5) (j := 3) rfl sc_basis_with.nd rfl rfl (by decide) rfl rfl (pa_cons (pv 3) (pa_cons (pe_call (ok__less T) (hr.mono (by decide)) (by rfl) T.g__less T.F__less.kp (b__less T) .nil pass0 (pa_cons (pv 5) (pa_cons (pv 3) (pa_cons (pe_op Fz.op_fdivZ (pe_ix ix_tup (pv 5) (pv 4) (fun _ _ => rfl)) (pe_ix ix_tup (pv 3) (pv 4) (fun _ _ => rfl))) pa_nil)))) pa_nil)) (by rfl))))
      (pss_one (ps_if (pt_cmpR op_gt (pe_ix ix_tup (pv 5) (pv 4) (fun _ _ => rfl)) pe_int (nomark _)) (pss_one (ps_expr (pe_bm PySem.F.plainAttrs_list PySem.F.slot_list_append PySem.F.type_list_append mt_append (pv 2) (pa_cons (pv 5) pa_nil)))) (pss_one (ps_if (pt_cmpR op_lt (pe_ix ix_tup (pv 5) (pv 4) (fun _ _ => rfl)) pe_int (nomark _)) (pss_one (ps_expr (pe_bm PySem.F.plainAttrs_list PySem.F.slot_list_append PySem.F.type_list_append mt_append (pv 2) (pa_cons (pe_call (ok__less T) (hr.mono (by decide)) (by rfl) T.g__less T.F__less.kp (b__less T) .nil pass0 (pa_cons (pe_op Ts.op_mulZ (pe_tup (pa_cons pe_int pa_nil)) (pe_callB call_len (by rfl) T.len (by decide +kernel) (pa_cons (pv 1) pa_nil))) (pa_cons (pv 5) (pa_cons pe_int pa_nil)))) pa_nil)))) pss_nil)))))))
      (pss_one (ps_ret (pe_call (ok__reduced T) (hr.mono (by decide)) (by rfl) T.g__reduced T.F__reduced.kp (b__reduced T) .nil pass0 (pa_cons (pv 2) pa_nil))))))), ?_⟩
    refine ⟨(by show 0 ≤ sizeLine; decide), fun l0 nl0 => ?_⟩
    have S0 := sameNew (o := .lst []) nl0
    refine ⟨_, rfl, ?_⟩
    refine ⟨_, rfl, .ref pr, w, rfl, .inr ⟨_, SqT.of (S0 _ _ hR), (by rw [List.length_map, hl])⟩, ?_⟩
    refine ⟨_, rfl, by omega, by omega, ?_⟩
    rw [Int.toNat_natCast]
    refine for_range (lo := 0) (n := w) (fun c σ Hj => ∃ fs L rp rest x4 x5, σ = [some (.ref b), some (.ref pr), some (.ref l0), some (.ref rp), x4, x5] ∧ Same H Hj ∧ LRows Hj l0 fs L ∧ RT Hj rp rest ∧ Co w c (2 ^ mc M c) Bs row L rest) ?_ ?_ ?_
    · exact ⟨[], [], pr, row, _, _, rfl, S0, ⟨upd_same, .nil⟩, S0 _ _ hR, Co.start hl limR⟩
    · rintro c σ H1 hc ⟨fs, L, rp0, rest0, x4, x5, rfl, S1, hF, hr0, hCo⟩
      rw [Int.zero_add]
      have mcb : mc M (c + 1) ≤ 8814 := mc_le (by omega) hM
      have mcs : mc M (c + 1) = mc M c + mc M c + 2 := rfl
      refine ⟨_, rfl, _, rfl, _, rfl, .ref pr, w, rfl, .inr ⟨_, SqT.of (S1 _ _ hR), (by rw [List.length_map, hl])⟩, b, c, w, ps, Bs, rfl, S1 _ _ hB.1, hB.2.keep S1, hw1, hw3, fun fp0 H2 S2 hf0 => ?_⟩
      have hC0 := hCo.first bB (fun x hx => limB x hx) (two_mono (mc_ge M c))
      refine ⟨fun m σ Hj => ∃ fp rp f r, σ = [some (.ref b), some (.ref pr), some (.ref l0), some (.ref rp), some (.int ((c : Nat) : Int)), some (.ref fp)] ∧ Same H2 Hj ∧ RT Hj fp f ∧ RT Hj rp r ∧ CoE w c (2 ^ mc M c) Bs row L f r ∧ (toF r c).natAbs = m, ⟨_, fp0, rp0, _, rest0, rfl, fun _ _ e => e, hf0, S2 _ _ hr0, hC0, rfl⟩, ?_⟩
      rintro m σ H3 ⟨fp, rp, f, r, rfl, S3, hf, hr, hC, hm⟩
      have lf := hC.eu.lf
      have lr := hC.eu.lr
      have bl : 4 * (2 ^ mc M c * 2 ^ mc M c) = 2 ^ mc M (c + 1) := by rw [sq_two, mcs]
      refine ⟨_, rfl, _, rfl, rp, _, _, _, rfl, rfl, SqT.of hr, at_toF (by omega), rfl, _, rfl, ?_⟩
      refine iteB (fun z => ?_) (fun z => ?_)
      · have r0 : toF r c ≠ 0 := fun y => by rw [y] at z; cases z
        refine ⟨_, fun _ _ h => h, ?_⟩
        have b1 := hC.eu.fl c
        have b2 := hC.eu.rl c
        rw [bl] at b1 b2
        have q1 := fd_le (f := toF f c) r0
        refine ⟨_, rfl, _, rfl, _, rfl, _, rfl, _, rfl, fp, _, _, _, rfl, rfl, SqT.of hf, at_toF (by omega), _, rfl, _, rfl, rp, _, _, _, rfl, rfl, SqT.of hr, at_toF (by omega), _, _, rfl, rfl, cdiv r0 b2 (by omega), fp, rp, _, f, r, rfl, hf, hr, by omega, by omega, big_of (k := mc M (c + 1)) (by omega) (by omega), ?_, fun z4 H4 S4 hz4 => ?_⟩
        · intro i
          have := hC.eu.rl i
          rw [bl] at this
          exact Nat.le_trans this (two_mono (by omega))
        refine ⟨_, _, rfl, ?_⟩
        have st := hC.eu.step r0
        exact ⟨_, by rw [← hm]; exact st.2, rp, z4, r, _, rfl, S3.trans S4, S4 _ _ hr, hz4, hC.step r0, rfl⟩
      · have r0 : toF r c = 0 := by
          have := of_decide_eq_true (by simpa using z : decide (V.int (toF r c) = V.int 0) = true)
          exact V.int.inj this
        have S13 : Same H1 H3 := S2.trans S3
        have hF3 := S13 _ _ hF.1
        have hFr := hF.2.keep S13
        have lfs : fs.length ≤ 3 := by have := hFr.len; have := hCo.many; omega
        have hls : ∀ x ∈ L, LimL (4 * (2 ^ mc M c * 2 ^ mc M c)) x := fun x hx => (hCo.lims x hx).mono le_sq
        have rL := fun (g : List Int) => bl ▸ (@CoE.put w c (2 ^ mc M c) Bs row L f r g hCo.ech hCo.many hls hC r0)
        refine ⟨_, rfl, _, rfl, fp, _, _, _, rfl, rfl, SqT.of hf, at_toF (by omega), _, _, rfl, rfl, _, rfl, ?_⟩
        refine iteB (fun y => ?_) (fun y => ?_)
        · have pos : 0 < toF f c := of_decide_eq_true y
          refine ⟨_, rfl, .inl ⟨rfl, _, SqL.of hF3⟩, ?_⟩
          refine ⟨_, rfl, l0, _, _, rfl, rfl, hF3, by rw [List.length_map, sizeLine_eq]; omega, ?_⟩
          exact ⟨fs ++ [fp], L ++ [f], rp, r, _, _, rfl, same_upd (S1.trans S13) nl0, ⟨by rw [List.map_append]; exact upd_same, Rows.snoc (RT.upd hf hF3) (Rows.upd hFr hF3)⟩, RT.upd hr hF3, rL f lf pos (.inl fun _ => rfl)⟩
        · have npos : ¬ 0 < toF f c := of_decide_eq_false y
          refine ⟨_, rfl, _, rfl, fp, _, _, _, rfl, rfl, SqT.of hf, at_toF (by omega), _, _, rfl, rfl, _, rfl, ?_⟩
          refine iteB (fun y2 => ?_) (fun y2 => ?_)
          · have neg : toF f c < 0 := of_decide_eq_true y2
            refine ⟨_, rfl, .inl ⟨rfl, _, SqL.of hF3⟩, ?_⟩
            refine ⟨(by show 1 ≤ sizeLine; decide), fun l1 nl1 => ?_⟩
            have S4 := sameNew (o := .tup [V.int 0]) nl1
            refine ⟨_, rfl, .ref pr, w, rfl, .inr ⟨_, SqT.of (S4 _ _ (S13 _ _ (S1 _ _ hR))), (by rw [List.length_map, hl])⟩, l1, _, [.int 0], rfl, rfl, SqT.of upd_same, (fun z => by cases z), by omega, by omega, (by decide), fun q H5 S5 hq ht => ?_⟩
            have e := ht upd_same
            rw [zeros_map] at e
            have S45 := S4.trans S5
            refine ⟨_, rfl, q, fp, 1, List.replicate w 0, f, rfl, e, S45 _ _ hf, by rw [List.length_replicate, lf], by rw [List.length_replicate]; exact hw3, big_of (k := 0) (by decide) (by decide), ?_, fun z4 H6 S6 hz4 => ?_⟩
            · intro i
              have := hC.eu.fl i
              rw [bl] at this
              exact Nat.le_trans this (two_mono (by omega))
            have S36 := S45.trans S6
            have hF6 := S36 _ _ hF3
            refine ⟨l0, _, _, rfl, rfl, hF6, by rw [List.length_map, sizeLine_eq]; omega, ?_⟩
            exact ⟨fs ++ [z4], L ++ [lessL (List.replicate w 0) f 1], rp, r, _, _, rfl, same_upd ((S1.trans S13).trans S36) nl0, ⟨by rw [List.map_append]; exact upd_same, Rows.snoc (RT.upd hz4 hF6) (Rows.upd (hFr.keep S36) hF6)⟩, RT.upd (S36 _ _ hr) hF6,
              rL _ (by rw [less_len (by rw [List.length_replicate, lf]), List.length_replicate]) (by rw [neg_toF lf]; omega) (.inr (neg_toF lf))⟩
          · have nneg : ¬ toF f c < 0 := of_decide_eq_false y2
            exact ⟨fs, L, rp, r, _, _, rfl, S1.trans S13, ⟨hF3, hFr⟩, hr, bl ▸ hC.drop hCo.ech hCo.many hls r0 (by omega)⟩
    · rintro σ Hj ⟨fs, L, rp, rest, x4, x5, rfl, S, hF, hr, hCo⟩
      have := hCo.many
      exact ⟨_, rfl, l0, fs, L, w, mc M w, rfl, hF, by omega, hCo.ech, hw3, by have := mc_le (M := M) hw3 hM; omega, hCo.lims, fun z qs As H' S' hT bA sA => k z qs As H' (S.trans S') hT bA (sA.trans (hCo.done bB))⟩
end
end K42

set_option Elab.async false
set_option linter.all false
set_option maxRecDepth 100000
set_option maxHeartbeats 4000000
open L2 in
local macro_rules | `(tactic| walk_at "q1") => `(tactic| first
  | refine ⟨_, rfl, ?_⟩
  | refine ⟨_, _, rfl, rfl, ?_⟩
  | refine And.intro (show CMul _ _ from Or.inr ⟨by decide, by decide⟩) ?_
  | refine And.intro (show CMul _ _ from Or.inl ⟨by first | decide | omega, by first | decide | omega⟩) ?_
  | refine And.intro (show CMul _ _ from Or.inr ⟨by omega, by omega⟩) ?_
  | refine And.intro (show CDiv _ _ from ⟨by omega, by omega⟩) ?_
  | refine And.intro (Lat.cdivw (by omega) (by omega)) ?_
  | refine And.intro (show Dt.CPowG _ _ from ⟨by decide, by decide +kernel⟩) ?_
  | refine And.intro (by first | decide | omega) ?_
  | refine And.intro (Int.pow_pos (Int.pow_pos (by decide))) ?_
  | refine ⟨_, _, _, _, rfl, rfl, SqL.of (by first | assumption | exact upd_same), (by rfl), ?_⟩
  | refine ⟨_, _, _, _, rfl, rfl, (by first | assumption | exact upd_same), (by rfl), ?_⟩
  | refine Or.inl ⟨_, rfl, ?_⟩
  | refine Or.inr ⟨_, rfl, ?_⟩)
local macro_rules | `(tactic| walk_at "q") => `(tactic| repeat (walk_at "q1"))
local macro_rules | `(tactic| walk_at "eqt") => `(tactic| (refine ⟨_, rfl, ?_⟩; refine ⟨rfl, ?_⟩; first
  | (refine ⟨true, rfl, ?_⟩; refine L2.iteT ?_)
  | (refine ⟨false, rfl, ?_⟩; refine L2.iteF ?_)))
local macro_rules | `(tactic| walk_at "sz") => `(tactic| (rw [PySem.sizeLine_eq]; simp))
namespace K42
open PySem PySem.Spec PyProof.Rows L2 Dt An Rp Lat
section
variable {P : Program} {w : World} {K : PySem.W.Frag} {mg : Str → Option Value} {base : Heap} {a : Ads}
def spBasisFrom : Sp := fun vs H Q _ => ∃ l ps Rs w M, vs = [.ref l] ∧ TRows H l ps Rs ∧ (∀ r ∈ Rs, r.length = w) ∧ 1 ≤ w ∧ w ≤ 3 ∧ M ≤ 360 ∧ (∀ x ∈ Rs, LimL (2 ^ M) x) ∧
  ∀ z qs As H', Same H H' → TRows H' z qs As → Bas w As → Sm (As.map toF) (Rs.map toF) → Q (.ref z) H'
/-- the numbers of a basis of rows -/
theorem bas_lim {w M : Nat} {As Rs : List (List Int)} (b : Bas w As) (s : Sm (As.map toF) (Rs.map toF)) (hw : w ≤ 3) (h : ∀ x ∈ Rs, LimL (2 ^ M) x) : ∀ x ∈ As, LimL (2 ^ (3 * M + 4)) x := fun x hx => by
  have := b.hn.lim (M := 2 ^ M) (G := Rs.map toF) (fun t ht p hp => by
    obtain ⟨r, hr, rfl⟩ := List.mem_map.mp ht
    have := piv_lt hp
    rw [b.len r hr] at this
    omega) (fun t ht i hi => by
    obtain ⟨r, hr, rfl⟩ := List.mem_map.mp ht
    exact toF_ge (by rw [b.len r hr]; omega)) s (fun g hg => by
    obtain ⟨r, hr, rfl⟩ := List.mem_map.mp hg
    exact h r hr) (toF x) (List.mem_map.mpr ⟨x, hx, rfl⟩)
  exact fun i => Nat.le_trans (this i) hn_two
theorem sm_cons {A L : List (List Int)} {r : List Int} (s : Sm (A.map toF) (L.map toF)) : Sm (toF r :: A.map toF) ((L ++ [r]).map toF) := by
  rw [List.map_append]
  refine Sm.of (fun x hx => ?_) fun x hx => ?_
  · rcases List.mem_cons.mp hx with z | z
    · rw [z]
      exact In.mem (List.mem_append_right _ (List.mem_singleton.mpr rfl))
    · exact In.le (fun a ha => In.mem (List.mem_append_left _ ha)) ((s x).mp (In.mem z))
  · rcases List.mem_append.mp hx with z | z
    · exact In.le (fun a ha => In.mem (List.mem_cons_of_mem _ ha)) ((s x).mpr (In.mem z))
    · rw [List.mem_singleton.mp (show x ∈ [toF r] from z)]
      exact In.mem List.mem_cons_self
theorem bas_nil (w : Nat) : Bas w [] := ⟨(fun _ z => by cases z), .nil 0⟩
theorem ok_basis_from (T : Txt K mg a) : FnOk P w K mg base CX0 4 a.basis_from a.fd_basis_from ps_basis_from spBasisFrom := by
  have F := T.F_basis_from
  refine F.ok (k := 3) sc_basis_from (fun vs H Q E h => ?_) (fun cdv A outer s H vs Q E hr h => ?_)
  · obtain ⟨l, ps, Rs, w, M, rfl, hL, hlen, hw1, hw3, hM, hlim, k⟩ := h
    rfl
  · obtain ⟨l, ps, Rs, w, M, rfl, hL, hlen, hw1, hw3, hM, hlim, k⟩ := h
    have hu := hu_of hr
    refine ⟨_, (pss_cons (ps_set (i := 1) sc_basis_from.nd rfl (Or.inl rfl) (pe_tup pa_nil))
      (pss_cons (ps_for PassesOwn.never rfl (pi_tup (pv 0)) (pg_name (i := 2) sc_basis_from.nd rfl (Or.inl rfl)) (pss_one (ps_set (i := 1) sc_basis_from.nd rfl (Or.inl rfl) (pe_call (ok_basis_with T) (hr.mono (by decide)) (by rfl) T.g_basis_with T.F_basis_with.kp (b_basis_with T) .nil pass0 (pa_cons (pv 1) (pa_cons (pv 2) pa_nil))))))
      (pss_one (ps_ret (pv 1))))), ?_⟩
    refine ⟨(by show 0 ≤ sizeLine; decide), fun f0 nf0 => ?_⟩
    have S0 := sameNew (o := .tup []) nf0
    refine ⟨_, rfl, l, rfl, ⟨_, SqT.of (S0 _ _ hL.1)⟩, ?_⟩
    refine for_tup (K := K) (a := l) (xs := ps.map V.ref) (fun j σ Hj => ∃ f qs As x, σ = [some (.ref l), some (.ref f), x] ∧ Same H Hj ∧ TRows Hj f qs As ∧ Bas w As ∧ Sm (As.map toF) ((Rs.take j).map toF)) ?_ ?_ ?_ ?_
    · exact ⟨f0, [], [], _, rfl, S0, ⟨upd_same, .nil⟩, bas_nil w, Sm.refl _⟩
    · rintro j σ Hj hj ⟨f, qs, As, x, rfl, S, _⟩
      exact SqT.of (S _ _ hL.1)
    · rintro j u σ Hj hu ⟨f, qs, As, x, rfl, S, hF, bA, sA⟩
      rw [List.getElem?_map] at hu
      obtain ⟨pr, hpr, rfl⟩ := Option.map_eq_some_iff.mp hu
      obtain ⟨r, hr0, hR0⟩ := hL.2.get hpr
      have hmem : r ∈ Rs := List.mem_of_getElem? hr0
      refine ⟨_, rfl, _, rfl, f, pr, qs, As, r, w, 3 * M + 4, rfl, hF, S _ _ hR0, bA, hlen r hmem, hw1, hw3, by omega, (hlim r hmem).mono (two_mono (by omega)), bas_lim bA sA hw3 (fun x hx => hlim x (List.mem_of_mem_take hx)), fun z qs2 As2 H2 S2 hT2 bA2 sA2 => ?_⟩
      refine ⟨z, qs2, As2, _, rfl, S.trans S2, hT2, bA2, sA2.trans ?_⟩
      rw [take_at hr0]
      exact sm_cons sA
    · rintro σ Hj ⟨f, qs, As, x, rfl, S, hF, bA, sA⟩
      rw [List.length_map, hL.2.len, List.take_of_length_le (Nat.le_refl _)] at sA
      exact ⟨_, rfl, k f qs As Hj S hF bA sA⟩
def rowD (d : PyData) : Bool := areIntsD d && (decide (1 ≤ lenD d) && decide (lenD d ≤ 3))
def oneLenD (ds : List PyData) : Bool := decide ((SL.dist (ds.map fun d => ((lenD d : Nat) : Int))).length ≤ 1)
def areRowsD : PyData → Bool
  | .tuple ds => ds.all rowD && oneLenD ds
  | _ => false
def spAreRows (K : PySem.W.Frag) : Sp := fun vs H Q _ => ∃ v d, vs = [v] ∧ ArgD K H v d ∧ (∀ ds, d = .tuple ds → ds.length ≤ 1000) ∧ ∀ H', Same H H' → Q (.bl (areRowsD d)) H'
theorem sqt_same {H H' : Hp} {p : Addr} {xs : List V} (S : Same H H') (h : SqT K H p xs) : SqT K H' p xs := by
  rcases h with (h | ⟨o, h⟩) | h
  · exact .inl (.inl (S _ _ h))
  · exact .inl (.inr ⟨o, S _ _ h⟩)
  · exact .inr h
theorem ok__are_rows (T : Txt K mg a) : FnOk P w K mg base CX0 2 a._are_rows a.fd__are_rows ps__are_rows (spAreRows K) := by
  have F := T.F__are_rows
  refine F.ok (k := 1) sc__are_rows (fun vs H Q E h => ?_) (fun cdv A outer s H vs Q E hr h => ?_)
  · obtain ⟨v, d, rfl, hd, hsz, k⟩ := h
    rfl
  · obtain ⟨v, d, rfl, hd, hsz, k⟩ := h
    have hu := hu_of hr
    refine ⟨_, (pss_cons (ps_if (PW.pt (pw_or (pt_not (pt_val (pe_callB call_isi (by rfl) T.isinstance (by decide +kernel) (pa_cons (pv 0) (pa_cons (pe_bltn (v := V.ty "tuple") (u := .type "tuple") (by rfl) T.tuple (by decide +kernel) (by rfl)) pa_nil))))) (pw_or1 (pt_not (pt_val (pe_callB (cr_all rfl) (by rfl) T.all (by decide +kernel) (pa_cons (pe_lc (own := [("row", 1)]) rfl sc__are_rows.nd (pi_tup (pv 0)) (blkOk_by (N := nm__are_rows) (sc := defScope s__are_rows) (by decide +kernel)) (fun _ _ _ _ _ => (pg_name (i := 1) sc__are_rows.nd rfl (Or.inl rfl))) (fun _ _ _ _ _ => pts_nil) (fun _ _ _ _ _ => (pe_and (pe_call (ok_are_integers T) (hr.mono (by decide)) (by rfl) T.g_are_integers T.F_are_integers.kp (b_are_integers T) .nil pass0 (pa_cons (pv 1) pa_nil)) (pe_one (pe_chain op_le op_le pe_int (pe_callB (id := "len") (r := rLenR K) call_len (by rfl) T.len (by decide +kernel) (pa_cons (pv 1) pa_nil)) (pe_glob (v := V.int (3)) (by rfl) T.m__COLUMNS ⟨_, rfl⟩)))))) pa_nil))))))) (pss_one (ps_ret pe_bl)) pss_nil)
      (pss_one (ps_ret (pe_cmpR op_le (SL.pe_lenSetD (by rfl) T.len (by rfl) T.set (pe_lc (own := [("row", 1)]) rfl sc__are_rows.nd (pi_tup (pv 0)) (blkOk_by (N := nm__are_rows) (sc := defScope s__are_rows) (by decide +kernel)) (fun _ _ _ _ _ => (pg_name (i := 1) sc__are_rows.nd rfl (Or.inl rfl))) (fun _ _ _ _ _ => pts_nil) (fun _ _ _ _ _ => (pe_callB (id := "len") (r := rLenR K) call_len (by rfl) T.len (by decide +kernel) (pa_cons (pv 1) pa_nil))))) pe_int (nomark _))))), ?_⟩
    obtain ⟨t, ht, kt⟩ := hd.tup
    refine ⟨v, rfl, v, .ty "tuple", _, _, _, rfl, .ty _, ht, kt, _, rfl, ?_⟩
    cases e : isTup d with
    | false =>
      have q : areRowsD d = false := by cases d <;> first | rfl | cases e
      rw [q] at k
      exact iteT (k H fun _ _ e => e)
    | true =>
      obtain ⟨p, xs, ds, rfl, rfl, hp, hx⟩ := dat_tup (hd.dat e) e
      have hl := hsz ds rfl
      refine iteF ?_
      refine ⟨_, rfl, p, rfl, ⟨_, hp⟩, fun D hD => ?_⟩
      have lx := hx.len
      refine lc_it (walk_tup (K := K) (a := p) (xs := xs)) (fun i Hi => Same H Hi ∧ Hi D = some (.lst ((ds.take i).map fun d => V.bl (rowD d)))) ⟨sameNew hD, upd_same⟩ ?_ ?_ ?_
      · rintro i Hi hi ⟨S, _⟩
        exact sqt_same S hp
      · rintro i x Hi0 Hi hi ⟨S, eD⟩ ⟨rfl, hi2⟩
        obtain ⟨y, hy, hdy0⟩ := datAll_get hx hi2
        have hdy := dq_same S hdy0
        have nxt : ∃ acc, Hi D = some (.lst acc) ∧ acc.length < sizeLine ∧ Same H (upd Hi D (.lst (acc ++ [V.bl (rowD y)]))) ∧ upd Hi D (.lst (acc ++ [V.bl (rowD y)])) D = some (.lst ((ds.take (i + 1)).map fun d => V.bl (rowD d))) := by
          refine ⟨_, eD, by rw [List.length_map, List.length_take, sizeLine_eq]; omega, same_upd S hD, ?_⟩
          rw [take_at hy, List.map_append]
          exact upd_same
        refine ⟨rfl, ?_⟩
        dsimp only [tYes]
        rw [if_pos rfl]
        refine ⟨_, rfl, x, y, rfl, .inl hdy, _, rfl, ?_⟩
        cases e1 : areIntsD y with
        | false =>
          have q : rowD y = false := by
            unfold rowD
            rw [e1, Bool.false_and]
          rw [q] at nxt
          exact iteF nxt
        | true =>
          refine iteT ?_
          obtain ⟨p2, xs2, ds2, rfl, rfl, hp2, hx2⟩ := dat_tup hdy (by cases y <;> first | rfl | cases e1)
          have q : rowD (.tuple ds2) = (decide (1 ≤ ds2.length) && decide (ds2.length ≤ 3)) := by
            show (areIntsD (.tuple ds2) && _) = _
            rw [e1, Bool.true_and]
            rfl
          rw [q] at nxt
          refine ⟨_, rfl, _, _, rfl, .inr ⟨_, hp2, rfl⟩, ?_⟩
          refine ⟨_, _, rfl, rfl, _, rfl, ?_⟩
          rw [hx2.len]
          refine iteD (fun c => ?_) (fun c => ?_)
          · rw [decide_eq_true (show 1 ≤ ds2.length by omega), Bool.true_and] at nxt
            refine ⟨_, _, rfl, rfl, ?_⟩
            rw [show decide (ds2.length ≤ 3) = decide ((ds2.length : Int) ≤ 3) from decide_eq_decide.mpr (by omega)] at nxt
            exact nxt
          · rw [decide_eq_false (show ¬ 1 ≤ ds2.length by omega), Bool.false_and] at nxt
            exact nxt
      rintro H1 ⟨S1, eD⟩
      rw [lx, List.take_of_length_le (Nat.le_refl _)] at eD
      refine ⟨D, ds.map rowD, rfl, .inl (.inl (by rw [eD, List.map_map]; rfl)), _, rfl, ?_⟩
      rw [List.all_map, show (id ∘ rowD) = rowD from rfl]
      cases e2 : ds.all rowD with
      | false =>
        have q : areRowsD (.tuple ds) = false := by
          show (ds.all rowD && oneLenD ds) = false
          rw [e2, Bool.false_and]
        rw [q] at k
        exact iteT (k H1 S1)
      | true =>
        have q : areRowsD (.tuple ds) = oneLenD ds := by
          show (ds.all rowD && oneLenD ds) = oneLenD ds
          rw [e2, Bool.true_and]
        rw [q] at k
        refine iteF ?_
        refine ⟨_, rfl, p, rfl, ⟨_, sqt_same S1 hp⟩, fun D2 hD2 => ?_⟩
        refine lc_it (walk_tup (K := K) (a := p) (xs := xs)) (fun i Hi => Same H1 Hi ∧ Hi D2 = some (.lst ((ds.take i).map fun d => V.int ((lenD d : Nat) : Int)))) ⟨sameNew hD2, upd_same⟩ ?_ ?_ ?_
        · rintro i Hi hi ⟨S, _⟩
          exact sqt_same (S1.trans S) hp
        · rintro i x Hi0 Hi hi ⟨S, eD2⟩ ⟨rfl, hi2⟩
          obtain ⟨y, hy, hdy0⟩ := datAll_get hx hi2
          have hdy := dq_same (S1.trans S) hdy0
          have e3 : rowD y = true := List.all_eq_true.mp e2 y (List.mem_of_getElem? hy)
          obtain ⟨p2, xs2, ds2, rfl, rfl, hp2, hx2⟩ := dat_tup hdy (by cases y <;> first | rfl | cases e3)
          refine ⟨rfl, ?_⟩
          dsimp only [tYes]
          rw [if_pos rfl]
          refine ⟨_, rfl, _, _, rfl, .inr ⟨_, hp2, rfl⟩, _, eD2, by rw [List.length_map, List.length_take, sizeLine_eq]; omega, same_upd S hD2, ?_⟩
          rw [take_at hy, List.map_append, hx2.len]
          exact upd_same
        rintro H3 ⟨S3, eD3⟩
        rw [lx, List.take_of_length_le (Nat.le_refl _)] at eD3
        refine ⟨D2, ds.map fun d => ((lenD d : Nat) : Int), rfl, .inl (.inl (by rw [eD3, List.map_map]; rfl)), by rw [List.length_map]; omega, ?_⟩
        refine ⟨_, _, rfl, rfl, ?_⟩
        have := k H3 (S1.trans S3)
        unfold oneLenD at this
        rw [show decide ((SL.dist (ds.map fun d => ((lenD d : Nat) : Int))).length ≤ 1) = decide (((SL.dist (ds.map fun d => ((lenD d : Nat) : Int))).length : Int) ≤ 1) from decide_eq_decide.mpr (by omega)] at this
        exact this
def spBasisOf (K : PySem.W.Frag) (CO : Addr) : Sp := fun vs H Q E => ∃ v, vs = [v] ∧ ((∃ d, ArgD K H v d ∧ (∀ ds, d = .tuple ds → ds.length ≤ 1000) ∧ areRowsD d = false ∧ ∀ H', Same H H' → E (.ref CO) none H') ∨
  ∃ l ps Rs w M, v = .ref l ∧ TRows H l ps Rs ∧ Rs.length ≤ 100 ∧ (∀ r ∈ Rs, r.length = w) ∧ 1 ≤ w ∧ w ≤ 3 ∧ M ≤ 180 ∧ (∀ x ∈ Rs, LimL (2 ^ M) x) ∧
    ∀ z qs As H', Same H H' → TRows H' z qs As → Bas w As → Sm (As.map toF) (Rs.map toF) → Q (.ref z) H')
theorem rows_dq {H : Hp} : ∀ {ps : List Addr} {Rs : List (List Int)}, Rows H ps Rs → DqAll K H (ps.map V.ref) (Rs.map fun r => PyData.tuple (r.map PyData.int))
  | _, _, .nil => .nil
  | _, _, .cons h t => .cons (.tup (SqT.of h) (Ts.intsQ _)) (rows_dq t)
theorem rows_ok {w M : Nat} {Rs : List (List Int)} (hl : ∀ r ∈ Rs, r.length = w) (h1 : 1 ≤ w) (h3 : w ≤ 3) (hM : M ≤ 180) (hlim : ∀ x ∈ Rs, LimL (2 ^ M) x) : areRowsD (.tuple (Rs.map fun r => PyData.tuple (r.map PyData.int))) = true := by
  show (List.all _ rowD && oneLenD _) = true
  rw [Bool.and_eq_true]
  constructor
  · rw [List.all_map]
    refine List.all_eq_true.mpr fun r hr => ?_
    show (List.all (r.map PyData.int) isIntD && (decide (1 ≤ (r.map PyData.int).length) && decide ((r.map PyData.int).length ≤ 3))) = true
    rw [List.length_map, hl r hr, decide_eq_true h1, decide_eq_true h3, Bool.and_true, Bool.and_true, List.all_map]
    refine List.all_eq_true.mpr fun x hx => ?_
    have a := (hlim r hr).mem hx
    have b : 2 ^ M ≤ 2 ^ 180 := two_mono hM
    have c : (2 : Nat) ^ 180 < 10 ^ 60 := by decide +kernel
    have e : B60 = 10 ^ 60 := rfl
    show (decide (-B60 < x) && decide (x < B60)) = true
    have d : x.natAbs < 10 ^ 60 := Nat.lt_of_le_of_lt (Nat.le_trans a b) c
    rw [decide_eq_true (show -B60 < x by rw [e]; omega), decide_eq_true (show x < B60 by rw [e]; omega)]
    rfl
  · refine decide_eq_true ((SL.dist_one _).mpr fun a ha b hb => ?_)
    have back : ∀ a, a ∈ (Rs.map fun r => PyData.tuple (r.map PyData.int)).map (fun d => ((lenD d : Nat) : Int)) → a = (w : Int) := fun a ha => by
      obtain ⟨d, hd, rfl⟩ := List.mem_map.mp ha
      obtain ⟨r, hr, rfl⟩ := List.mem_map.mp hd
      show (((r.map PyData.int).length : Nat) : Int) = _
      rw [List.length_map, hl r hr]
    rw [back a ha, back b hb]
theorem ok_basis_of (T : Txt K mg a) : FnOk P w K mg base (L2.CX P w) 5 a.basis_of a.fd_basis_of ps_basis_of (spBasisOf K a.c_InvalidOperation) := by
  have F := T.F_basis_of
  refine F.okX (k := 4) sc_basis_of (fun vs H Q E h => ?_) (fun cdv A outer s H vs Q E hr h => ?_)
  · obtain ⟨v, rfl, hv⟩ := h
    rfl
  · obtain ⟨v, rfl, hv⟩ := h
    have hu := hu_of hr
    refine ⟨_, (pss_cons (ps_if (pt_not (pt_val (pe_call (ok__are_rows T) (hr.mono (by decide)) (by rfl) T.g__are_rows T.F__are_rows.kp (b__are_rows T) .nil pass0 (pa_cons (pv 0) pa_nil)))) (pss_one (ps_raise rfl (takes_of rfl rfl rfl rfl) (pmk_own PySem.F.excBase_ValueError T.q_InvalidOperation T.g_c_InvalidOperation T.kp_InvalidOperation (raises_own T.b_InvalidOperation T.ty_InvalidOperation) (by rfl)))) pss_nil)
      (pss_one (ps_ret (pe_call (ok_basis_from T) (hr.mono (by decide)) (by rfl) T.g_basis_from T.F_basis_from.kp (b_basis_from T) .nil pass0 (pa_cons (pv 0) pa_nil))))), ?_⟩
    rcases hv with ⟨d, hd, hsz, e, kE⟩ | ⟨l, ps, Rs, w, M, rfl, hL, hm, hlen, hw1, hw3, hM, hlim, k⟩
    · refine ⟨_, rfl, v, d, rfl, hd, hsz, fun H1 S1 => ?_⟩
      refine ⟨_, rfl, ?_⟩
      rw [e]
      exact iteT (kE H1 S1)
    · refine ⟨_, rfl, .ref l, _, rfl, .inl (.tup (SqT.of hL.1) (rows_dq hL.2)), fun ds e => ?_, fun H1 S1 => ?_⟩
      · injection e with e
        rw [← e, List.length_map]
        omega
      refine ⟨_, rfl, ?_⟩
      rw [rows_ok hlen hw1 hw3 hM hlim]
      refine iteF ?_
      exact ⟨_, rfl, l, ps, Rs, w, M, rfl, ⟨S1 _ _ hL.1, hL.2.keep S1⟩, hlen, hw1, hw3, by omega, hlim, fun z qs As H' S' hT bA sA => k z qs As H' (S1.trans S') hT bA sA⟩
end
end K42

set_option Elab.async false
set_option linter.all false
set_option maxRecDepth 100000
set_option maxHeartbeats 4000000
open L2 in
local macro_rules | `(tactic| walk_at "q1") => `(tactic| first
  | refine ⟨_, rfl, ?_⟩
  | refine ⟨_, _, rfl, rfl, ?_⟩
  | refine And.intro (show CMul _ _ from Or.inr ⟨by decide, by decide⟩) ?_
  | refine And.intro (show CMul _ _ from Or.inl ⟨by first | decide | omega, by first | decide | omega⟩) ?_
  | refine And.intro (show CMul _ _ from Or.inr ⟨by omega, by omega⟩) ?_
  | refine And.intro (show CDiv _ _ from ⟨by omega, by omega⟩) ?_
  | refine And.intro (Lat.cdivw (by omega) (by omega)) ?_
  | refine And.intro (show Dt.CPowG _ _ from ⟨by decide, by decide +kernel⟩) ?_
  | refine And.intro (by first | decide | omega) ?_
  | refine And.intro (Int.pow_pos (Int.pow_pos (by decide))) ?_
  | refine ⟨_, _, _, _, rfl, rfl, SqL.of (by first | assumption | exact upd_same), (by rfl), ?_⟩
  | refine ⟨_, _, _, _, rfl, rfl, (by first | assumption | exact upd_same), (by rfl), ?_⟩
  | refine Or.inl ⟨_, rfl, ?_⟩
  | refine Or.inr ⟨_, rfl, ?_⟩)
local macro_rules | `(tactic| walk_at "q") => `(tactic| repeat (walk_at "q1"))
local macro_rules | `(tactic| walk_at "eqt") => `(tactic| (refine ⟨_, rfl, ?_⟩; refine ⟨rfl, ?_⟩; first
  | (refine ⟨true, rfl, ?_⟩; refine L2.iteT ?_)
  | (refine ⟨false, rfl, ?_⟩; refine L2.iteF ?_)))
local macro_rules | `(tactic| walk_at "sz") => `(tactic| (rw [PySem.sizeLine_eq]; simp))
namespace K42
open PySem PySem.Spec PyProof.Rows L2 Dt An Rp Lat
section
variable {P : Program} {w : World} {K : PySem.W.Frag} {mg : Str → Option Value} {base : Heap} {a : Ads}
theorem ok_reel (T : Txt K mg a) : FnOk P w K mg base CX0 1 a.reel a.fd_reel ps__law_reel (spDice K) := by
  have F := T.F_reel
  refine F.ok (k := 0) sc__law_reel (fun vs H Q E h => ?_) (fun cdv A outer s H vs Q E hr h => ?_)
  · obtain ⟨s0, ns, i, rfl, hS, hl, hi, k⟩ := h
    rfl
  · obtain ⟨s0, ns, i, rfl, hS, hl, hi, k⟩ := h
    have hu := hu_of hr
    refine ⟨_, (pss_cons (ps_set (i := 2) sc__law_reel.nd rfl (Or.inl rfl) (pe_ifExp (pt_cmpR op_lt (pv 1) (pe_callB call_len (by rfl) T.len (by decide +kernel) (pa_cons (pv 0) pa_nil)) (nomark _)) (pe_ix ix_list (pv 0) (pv 1) (fun _ _ => rfl)) (pe_op op_add (pe_op op_mul pe_int (pv 1)) pe_int)))
      (pss_cons (ps_set (i := 3) sc__law_reel.nd rfl (Or.inl rfl) (pe_op op_mod (pe_callTy call_int1 (by rfl) T.int (by decide +kernel) (pa_cons (pe_callB call_abs (by rfl) T.abs (by decide +kernel) (pa_cons (pv 2) pa_nil)) pa_nil)) (pe_op op_powG (pe_op op_powG pe_int pe_int) pe_int)))
      (pss_cons (ps_set (i := 4) sc__law_reel.nd rfl (Or.inl rfl) (pe_op op_add (pe_op op_add (pe_op op_add (pe_op op_mul (pv 3) pe_int) (pe_op op_mul pe_int (pv 1))) (pe_op op_mul pe_int (pe_callTy call_int1 (by rfl) T.int (by decide +kernel) (pa_cons (pe_cmpR op_lt (pv 2) pe_int (nomark _)) pa_nil)))) pe_int))
      (pss_one (ps_ret (pe_lst (pa_cons (pe_callB (call_max2 rfl) (by rfl) T.max (by decide +kernel) (pa_cons pe_int (pa_cons (pe_op op_sub (pv 3) (pe_op op_powG pe_int pe_int)) pa_nil))) (pa_cons (pe_op op_mod (pe_callTy call_int1 (by rfl) T.int (by decide +kernel) (pa_cons (pv 4) pa_nil)) pe_int) (pa_cons pe_int pa_nil))))))))), ?_⟩
    refine ⟨_, rfl, _, rfl, _, _, rfl, .inl ⟨_, hS, rfl⟩, _, _, rfl, rfl, _, rfl, ?_⟩
    refine iteD (fun c => ?_) (fun c => ?_)
    · have hlt : i < ns.length := by simpa using c
      refine ⟨_, rfl, _, rfl, s0, _, i, .int ns[i], rfl, rfl, hS, atI_nat (by simp [hlt]), ?_⟩
      walk_at "q"
      refine ⟨_, _, rfl, ?_⟩
      walk_at "q"
      refine ⟨by show 3 ≤ sizeLine; decide, fun p hp => ?_⟩
      exact k p _ hp ⟨_, _, _, upd_same⟩ fun b o e => by rw [upd_ne (ne_of_none e hp)]; exact e
    · walk_at "q"
      refine ⟨_, _, rfl, ?_⟩
      walk_at "q"
      refine ⟨by show 3 ≤ sizeLine; decide, fun p hp => ?_⟩
      exact k p _ hp ⟨_, _, _, upd_same⟩ fun b o e => by rw [upd_ne (ne_of_none e hp)]; exact e
def spSpin : Sp := fun vs H Q _ => ∃ (a : Addr) (n : Int), vs = [.ref a, .int n] ∧ Die H a ∧ 0 < n ∧ n < 1152921504606846976 ∧ ∀ (r : Int) H', 0 ≤ r → r < n → Rolled a H H' → Q (.int r) H'
theorem ok_spin (T : Txt K mg a) : FnOk P w K mg base CX0 1 a.spin a.fd_spin ps__law_spin spSpin := by
  have F := T.F_spin
  refine F.ok (k := 0) sc__law_spin (fun vs H Q E h => ?_) (fun cdv A outer s H vs Q E hr h => ?_)
  · obtain ⟨d, n, rfl, ⟨x, y, z, hH⟩, h0, h1, k⟩ := h
    rfl
  · obtain ⟨d, n, rfl, ⟨x, y, z, hH⟩, h0, h1, k⟩ := h
    have hu := hu_of hr
    refine ⟨_, (pss_cons (ps_if (pt_cmpR op_gt (pe_ix ix_list (pv 0) pe_int (fun _ _ => rfl)) pe_int (nomark _)) (pss_cons (ps_set (i := 2) sc__law_spin.nd rfl (Or.inl rfl) (pe_op op_mod (pe_callTy call_int1 (by rfl) T.int (by decide +kernel) (pa_cons (pe_ix ix_list (pv 0) pe_int (fun _ _ => rfl)) pa_nil)) (pv 1)))
      (pss_cons (ps_asg (pe_op op_fdivW (pe_ix ix_list (pv 0) pe_int (fun _ _ => rfl)) (pv 1)) (pg_sub (pv 0) pe_int set_list))
      (pss_one (ps_ret (pv 2))))) pss_nil)
      (pss_cons (ps_asg (pe_op op_add (pe_ix ix_list (pv 0) pe_int (fun _ _ => rfl)) pe_int) (pg_sub (pv 0) pe_int set_list))
      (pss_cons (ps_set (i := 3) sc__law_spin.nd rfl (Or.inl rfl) (pe_op op_mod (pe_callTy call_int1 (by rfl) T.int (by decide +kernel) (pa_cons (pe_op op_add (pe_ix ix_list (pv 0) pe_int (fun _ _ => rfl)) (pe_op op_mul pe_int (pe_ix ix_list (pv 0) pe_int (fun _ _ => rfl)))) pa_nil)) pe_int))
      (pss_cons (ps_set (i := 4) sc__law_spin.nd rfl (Or.inl rfl) (pe_op op_add (pe_op op_mul (pe_op op_mod (pe_callTy call_int1 (by rfl) T.int (by decide +kernel) (pa_cons (pe_op op_mul (pv 3) (pv 3)) pa_nil)) pe_int) (pv 3)) (pe_op op_mul pe_int (pe_ix ix_list (pv 0) pe_int (fun _ _ => rfl)))))
      (pss_one (ps_ret (pe_op op_mod (pe_callTy call_int1 (by rfl) T.int (by decide +kernel) (pa_cons (pe_op op_fdivW (pe_op op_mod (pe_callTy call_int1 (by rfl) T.int (by decide +kernel) (pa_cons (pe_op op_add (pv 4) (pe_ix ix_list (pv 0) pe_int (fun _ _ => rfl))) pa_nil)) pe_int) pe_int) pa_nil)) (pv 1)))))))), ?_⟩
    walk_at "q"
    refine iteB (fun c => ?_) (fun c => ?_)
    · walk_at "q"
      refine k _ _ (Int.emod_nonneg _ (by omega)) (Int.emod_lt_of_pos _ h0) ⟨⟨_, _, _, upd_same⟩, fun b o hb e => ?_⟩
      rw [upd_ne hb]
      exact e
    · walk_at "q"
      refine k _ _ (Int.emod_nonneg _ (by omega)) (Int.emod_lt_of_pos _ h0) ⟨⟨_, _, _, upd_same⟩, fun b o hb e => ?_⟩
      rw [upd_ne hb]
      exact e
theorem ok_pick (T : Txt K mg a) : FnOk P w K mg base CX0 2 a.pick a.fd_pick ps__law_pick (spPick K) := by
  have F := T.F_pick
  refine F.ok (k := 1) sc__law_pick (fun vs H Q E h => ?_) (fun cdv A outer s H vs Q E hr h => ?_)
  · obtain ⟨d, y, xs, rfl, hD, hP, h0, h1, k⟩ := h
    rfl
  · obtain ⟨d, y, xs, rfl, hD, hP, h0, h1, k⟩ := h
    have hu := hu_of hr
    refine ⟨_, (pss_one (ps_ret (pe_ix ix_seq (pv 1) (pe_call (ok_spin T) (hr.mono (by decide)) (by rfl) T.g_spin T.F_spin.kp (b_spin T) .nil pass0 (pa_cons (pv 0) (pa_cons (pe_callB call_len (by rfl) T.len (by decide +kernel) (pa_cons (pv 1) pa_nil)) pa_nil))) (fun _ _ => rfl)))), ?_⟩
    have hx : (xs.length : Int) < 1073741824 := by omega
    cases y with
    | str z =>
      obtain rfl : xs = z.cps.toList.map fun c => V.str ⟨#[c]⟩ := hP
      have e : (z.cps.toList.map fun c => V.str ⟨#[c]⟩).length = z.length := by rw [List.length_map]; rfl
      rw [e] at h0 h1
      refine ⟨_, rfl, _, rfl, _, rfl, _, _, rfl, ⟨by rw [sizeLine_eq]; omega, rfl⟩, ⟨d, _, rfl, hD, by omega, by omega, fun r H' h2 h3 R => ?_⟩⟩
      obtain ⟨c, hc, hm⟩ := atI_ok (xs := z.cps.toList) h2 (by rw [show z.cps.toList.length = z.length from rfl]; exact h3)
      exact .inr (.inr ⟨z, r, c, rfl, rfl, by rw [sizeLine_eq]; omega, hc, k _ _ (List.mem_map.mpr ⟨c, hm, rfl⟩) R⟩)
    | ref p =>
      obtain ⟨hn, hq⟩ := hP
      have hL : LenV K (.ref p) H xs.length := hq.imp (fun q => ⟨xs, q, rfl⟩) fun q => ⟨xs, q, rfl⟩
      refine ⟨_, rfl, _, rfl, _, rfl, _, _, rfl, hL, ⟨d, _, rfl, hD, by omega, by omega, fun r H' h2 h3 R => ?_⟩⟩
      obtain ⟨v, hv, hm⟩ := atI_ok (xs := xs) h2 h3
      rcases hq with q | q
      · exact .inl ⟨p, xs, r, v, rfl, rfl, R.sqL hn q, hv, k _ _ hm R⟩
      · exact .inr (.inl ⟨p, xs, r, v, rfl, rfl, R.sqT hn q, hv, k _ _ hm R⟩)
    | _ => exact hP.elim
theorem die_same {H H1 : Hp} {a : Addr} (h : Die H a) (S : Same H H1) : Die H1 a := by
  obtain ⟨x, y, z, e⟩ := h
  exact ⟨x, y, z, S _ _ e⟩
theorem roll_same {H H1 H2 : Hp} {a : Addr} (r : Rolled a H H1) (S : Same H1 H2) : Rolled a H H2 := ⟨die_same r.die S, fun b o hb e => S b o (r.keep b o hb e)⟩
theorem same_roll {H H1 : Hp} {a : Addr} (h : Die H a) (S : Same H H1) : Rolled a H H1 := ⟨die_same h S, fun b o _ e => S b o e⟩

theorem ite_t {c : Bool} {A B : Prop} (e : c = true) (h : A) : if c = true then A else B := by rw [if_pos e]; exact h
theorem ite_f {c : Bool} {A B : Prop} (e : c = false) (h : B) : if c = true then A else B := by
  rw [if_neg (by rw [e]; exact Bool.false_ne_true)]
  exact h
theorem free_of {H H1 : Hp} (S : Same H H1) {p : Addr} (h : H1 p = none) : H p = none := by
  cases z : H p with
  | none => rfl
  | some o =>
    rw [S _ _ z] at h
    cases h
theorem roll_upd {d l : Addr} {H H1 : Hp} {o : HO} (R : Rolled d H H1) (h : H l = none) (n : l ≠ d) : Rolled d H (upd H1 l o) := by
  obtain ⟨⟨x, y, z, e⟩, kp⟩ := R
  refine ⟨⟨x, y, z, by rw [upd_ne n.symm]; exact e⟩, fun b u hb eb => ?_⟩
  rw [upd_ne (ne_of_none eb h)]
  exact kp b u hb eb
theorem erase_perm {α : Type} {l : List α} {i : Nat} (h : i < l.length) : ([l[i]] ++ l.eraseIdx i).Perm l := by
  have e : l = l.take i ++ (l[i] :: l.drop (i + 1)) := by rw [← List.drop_eq_getElem_cons h, List.take_append_drop]
  rw [List.eraseIdx_eq_take_drop_succ]
  exact (List.perm_middle (l₁ := l.take i) (a := l[i]) (l₂ := l.drop (i + 1))).symm.trans (.of_eq e.symm)
def spMixed : Sp := fun vs H Q _ => ∃ d l xs, vs = [.ref d, .ref l] ∧ Die H d ∧ l ≠ d ∧ H l = some (.lst xs) ∧ xs.length ≤ 1000 ∧ ∀ z ys H', ys.Perm xs → Rolled d H H' → H z = none → H' z = some (.lst ys) → Q (.ref z) H'
theorem ok_mixed (T : Txt K mg a) : FnOk P w K mg base CX0 2 a.mixed a.fd_mixed ps__law_mixed spMixed := by
  have F := T.F_mixed
  refine F.ok (k := 1) sc__law_mixed (fun vs H Q E h => ?_) (fun cdv A outer s H vs Q E hr h => ?_)
  · obtain ⟨d, l, xs, rfl, hD, hne, hL, hsz, k⟩ := h
    rfl
  · obtain ⟨d, l, xs, rfl, hD, hne, hL, hsz, k⟩ := h
    have hu := hu_of hr
    refine ⟨_, (pss_cons (ps_par (i := 2) (j := 3) rfl sc__law_mixed.nd rfl rfl (by decide) rfl rfl (pa_cons (pe_callTy call_list_of (by rfl) T.list (by decide +kernel) (pa_cons (pv 1) pa_nil)) (pa_cons (pe_lst pa_nil) pa_nil)) (by rfl))
      (pss_cons (ps_while PassesOwn.never (pt_cmpR (Le.op_neL hr.units) (pv 2) (pe_lst pa_nil) (nomark _)) (pss_one (ps_expr (pe_bm PySem.F.plainAttrs_list PySem.F.slot_list_append PySem.F.type_list_append mt_append (pv 3) (pa_cons (pe_bm PySem.F.plainAttrs_list PySem.F.slot_list_pop PySem.F.type_list_pop mt_popAt (pv 2) (pa_cons (pe_call (ok_spin T) (hr.mono (by decide)) (by rfl) T.g_spin T.F_spin.kp (b_spin T) .nil pass0 (pa_cons (pv 0) (pa_cons (pe_callB call_len (by rfl) T.len (by decide +kernel) (pa_cons (pv 2) pa_nil)) pa_nil))) pa_nil)) pa_nil)))))
      (pss_one (ps_ret (pv 3))))), ?_⟩
    refine ⟨_, rfl, l, xs, rfl, .inl (SqL.of hL), fun l2 nl2 => ?_⟩
    generalize EH2 : upd H l2 _ = H2
    have g2 := (congrFun EH2 l2).symm.trans upd_same
    have S2 : Same H H2 := by rw [← EH2]; exact sameNew nl2
    refine ⟨(by show 0 ≤ sizeLine; decide), fun f0 nf0 => ?_⟩
    generalize EH3 : upd H2 f0 _ = H3
    have g3 := (congrFun EH3 f0).symm.trans upd_same
    have S3 : Same H2 H3 := by rw [← EH3]; exact sameNew nf0
    refine ⟨_, _, rfl, ?_⟩
    have D3 := die_same hD (S2.trans S3)
    have n2 : l2 ≠ d := hD.ne nl2
    have n3 : f0 ≠ d := (die_same hD S2).ne nf0
    have n23 : l2 ≠ f0 := ne_of_none g2 nf0
    have R3 : Rolled d H H3 := same_roll hD (S2.trans S3)
    refine ⟨fun m σ Hj => ∃ xl xf, σ = [some (.ref d), some (.ref l), some (.ref l2), some (.ref f0)] ∧ Rolled d H Hj ∧ Hj l2 = some (.lst xl) ∧ Hj f0 = some (.lst xf) ∧ (xf ++ xl).Perm xs ∧ xl.length = m, ⟨_, xs, [], rfl, R3, S3 _ _ g2, g3, .refl _, rfl⟩, ?_⟩
    rintro m σ Hj ⟨xl, xf, rfl, R, e2, e3, pm, hm⟩
    have lens : xf.length + xl.length = xs.length := by
      have := pm.length_eq
      rwa [List.length_append] at this
    refine ⟨_, rfl, (by show 0 ≤ sizeLine; decide), fun e0 ne0 => ?_⟩
    generalize EHk : upd Hj e0 _ = Hk
    have ge := (congrFun EHk e0).symm.trans upd_same
    have Sk : Same Hj Hk := by rw [← EHk]; exact sameNew ne0
    have k2 := Sk _ _ e2
    have k3 := Sk _ _ e3
    have Rk : Rolled d H Hk := R.trans (same_roll R.die Sk)
    cases xl with
    | nil =>
      refine .inl ⟨.list [], .list [], .lst (SqL.of k2) .nil, .lst (SqL.of ge) .nil, (by decide +kernel), (by decide +kernel), ?_⟩
      refine ⟨_, rfl, ?_⟩
      refine ite_f (by decide +kernel) ?_
      rw [List.append_nil] at pm
      exact ⟨_, rfl, k f0 xf Hk pm Rk (free_of S2 nf0) k3⟩
    | cons x0 xr =>
      have lx : (x0 :: xr).length ≤ 1000 := by omega
      refine .inr ⟨l2, e0, _, [], rfl, rfl, k2, ge, (by simp), ?_⟩
      refine ⟨_, rfl, ?_⟩
      refine iteT ?_
      refine ⟨_, fun _ _ h => h, ?_⟩
      refine ⟨_, rfl, .inl ⟨rfl, _, SqL.of k3⟩, ?_⟩
      refine ⟨_, rfl, .inl ⟨rfl, _, SqL.of k2⟩, ?_⟩
      refine ⟨_, rfl, _, rfl, _, _, rfl, .inl ⟨_, SqL.of k2, rfl⟩, d, _, rfl, Rk.die, (by simp), (by omega), fun r H5 r0 r1 R5 => ?_⟩
      have m2 := R5.keep l2 _ n2 k2
      have m3 := R5.keep f0 _ n3 k3
      have hi : r.toNat < (x0 :: xr).length := by omega
      refine ⟨l2, _, r, r.toNat, _, rfl, rfl, m2, by omega, by omega, seqIndex_of r0 r1, List.getElem?_eq_getElem hi, ?_⟩
      refine ⟨f0, xf, _, rfl, rfl, by rw [upd_ne n23.symm]; exact m3, by rw [sizeLine_eq]; omega, ?_⟩
      refine ⟨((x0 :: xr).eraseIdx r.toNat).length, by rw [List.length_eraseIdx_of_lt hi]; omega, _, _, rfl, roll_upd (roll_upd (Rk.trans R5) nl2 n2) (free_of S2 nf0) n3, by rw [upd_ne n23]; exact upd_same, upd_same, ?_, rfl⟩
      refine List.Perm.trans ?_ pm
      rw [List.append_assoc]
      exact List.Perm.append_left xf (erase_perm hi)
def spMinus : Sp := fun vs H Q _ => ∃ p q k r u, vs = [.ref p, .ref q, .int k] ∧ RT H p r ∧ RT H q u ∧ r.length = u.length ∧ r.length ≤ 3 ∧ k.natAbs ≤ 2 ^ 100000 ∧ LimL (2 ^ 100000) u ∧ ∀ z H', Same H H' → RT H' z (lessL r u k) → Q (.ref z) H'
theorem ok_minus (T : Txt K mg a) : FnOk P w K mg base CX0 1 a.minus a.fd_minus ps__law_minus spMinus := by
  have F := T.F_minus
  refine F.ok (k := 0) sc__law_minus (fun vs H Q E h => ?_) (fun cdv A outer s H vs Q E hr h => ?_)
  · obtain ⟨p, q, k0, r, u, rfl, hR, hU, hl, h3, hk, hu2, k⟩ := h
    rfl
  · obtain ⟨p, q, k0, r, u, rfl, hR, hU, hl, h3, hk, hu2, k⟩ := h
    have hu := hu_of hr
    refine ⟨_, (pss_one (ps_ret (pe_callTy call_tuple_of (by rfl) T.tuple (by decide +kernel) (pa_cons (pe_lc (own := [("_law_at", 3)]) rfl sc__law_minus.nd (pi_range1 (by rfl) T.range (pa_cons (pe_callB call_len (by rfl) T.len (by decide +kernel) (pa_cons (pv 0) pa_nil)) pa_nil)) (blkOk_by (N := nm__law_minus) (sc := defScope s__law_minus) (by decide +kernel)) (fun _ _ _ _ _ => (pg_name (i := 3) sc__law_minus.nd rfl (Or.inl rfl))) (fun _ _ _ _ _ => pts_nil) (fun _ _ _ _ _ => (pe_op op_sub (pe_ix (r := rIxT K) ix_tup (pv 0) (pv 3) (fun _ _ => rfl)) (pe_op op_mulW (pv 2) (pe_ix (r := rIxT K) ix_tup (pv 1) (pv 3) (fun _ _ => rfl)))))) pa_nil)))), ?_⟩
    refine ⟨_, rfl, _, _, rfl, .inr ⟨_, SqT.of hR, rfl⟩, ?_⟩
    rw [List.length_map]
    refine ⟨_, rfl, by omega, by omega, fun D hD => ?_⟩
    rw [Int.toNat_natCast]
    refine lc_it (walk_range (lo := 0) (n := r.length)) (fun i Hi => Same H Hi ∧ Hi D = some (.lst (((lessL r u k0).take i).map V.int))) ⟨sameNew hD, upd_same⟩ ?_ ?_ ?_
    · rintro i Hi hi _
      trivial
    · rintro i y Hi0 Hi hi ⟨S, eD⟩ ⟨rfl, rfl⟩
      dsimp only
      rw [Int.zero_add]
      have hi2 : i < u.length := by omega
      refine ⟨rfl, ?_⟩
      dsimp only [tYes]
      rw [if_pos rfl]
      refine ⟨_, rfl, _, rfl, p, _, _, _, rfl, rfl, SqT.of (S _ _ hR), at_toF hi, _, rfl, _, rfl, _, rfl, q, _, _, _, rfl, rfl, SqT.of (S _ _ hU), at_toF hi2, _, _, rfl, rfl, cmul hk (hu2 i) (by decide), _, _, rfl, rfl, ?_⟩
      have ln : (lessL r u k0).length = r.length := less_len hl
      have at' : (lessL r u k0)[i]? = some (toF r i - k0 * toF u i) := by
        rw [List.getElem?_eq_getElem (by omega), toF_lt hi, toF_lt hi2]
        unfold lessL
        rw [List.getElem_zipWith]
      refine ⟨_, eD, by rw [List.length_map, List.length_take, sizeLine_eq]; omega, same_upd S hD, ?_⟩
      rw [take_at at', List.map_append]
      exact upd_same
    rintro H5 ⟨S, eD⟩
    rw [List.take_of_length_le (by rw [less_len hl]; exact Nat.le_refl _)] at eD
    refine ⟨D, _, rfl, .inl ⟨.inl (.inl eD), fun z hz => ?_⟩⟩
    exact k z _ (S.trans (sameNew hz)) upd_same
end
end K42

set_option Elab.async false
set_option linter.all false
set_option maxRecDepth 100000
set_option maxHeartbeats 4000000
open L2 in
local macro_rules | `(tactic| walk_at "q1") => `(tactic| first
  | refine ⟨_, rfl, ?_⟩
  | refine ⟨_, _, rfl, rfl, ?_⟩
  | refine And.intro (show CMul _ _ from Or.inr ⟨by decide, by decide⟩) ?_
  | refine And.intro (show CMul _ _ from Or.inl ⟨by first | decide | omega, by first | decide | omega⟩) ?_
  | refine And.intro (show CMul _ _ from Or.inr ⟨by omega, by omega⟩) ?_
  | refine And.intro (show CDiv _ _ from ⟨by omega, by omega⟩) ?_
  | refine And.intro (Lat.cdivw (by omega) (by omega)) ?_
  | refine And.intro (show Dt.CPowG _ _ from ⟨by decide, by decide +kernel⟩) ?_
  | refine And.intro (by first | decide | omega) ?_
  | refine And.intro (Int.pow_pos (Int.pow_pos (by decide))) ?_
  | refine ⟨_, _, _, _, rfl, rfl, SqL.of (by first | assumption | exact upd_same), (by rfl), ?_⟩
  | refine ⟨_, _, _, _, rfl, rfl, (by first | assumption | exact upd_same), (by rfl), ?_⟩
  | refine Or.inl ⟨_, rfl, ?_⟩
  | refine Or.inr ⟨_, rfl, ?_⟩)
local macro_rules | `(tactic| walk_at "q") => `(tactic| repeat (walk_at "q1"))
local macro_rules | `(tactic| walk_at "eqt") => `(tactic| (refine ⟨_, rfl, ?_⟩; refine ⟨rfl, ?_⟩; first
  | (refine ⟨true, rfl, ?_⟩; refine L2.iteT ?_)
  | (refine ⟨false, rfl, ?_⟩; refine L2.iteF ?_)))
local macro_rules | `(tactic| walk_at "sz") => `(tactic| (rw [PySem.sizeLine_eq]; simp))
namespace K42
open PySem PySem.Spec PyProof.Rows L2 Dt An Rp Lat
section
variable {P : Program} {w : World} {K : PySem.W.Frag} {mg : Str → Option Value} {base : Heap} {a : Ads}
def spDivided : Sp := fun vs H Q _ => ∃ l ps Rs w c M, vs = [.ref l, .int ((c : Nat) : Int)] ∧ LRows H l ps Rs ∧ Rs.length ≤ 100 ∧ (∀ r ∈ Rs, r.length = w) ∧ (∀ r ∈ Rs, ∀ i, i < c → toF r i = 0) ∧ c < w ∧ w ≤ 3 ∧ M ≤ 6000 ∧ (∀ x ∈ Rs, LimL (2 ^ M) x) ∧
  ∀ t s r ss rs S R H', Same H H' → H' t = some (.tup [.ref s, .ref r]) → LRows H' s ss S → LRows H' r rs R → S.length ≤ 1 → R.length ≤ 100 → Dv w c (2 ^ M) Rs S R → Q (.ref t) H'
theorem vint0 (n : Int) : decide (V.int n = V.int 0) = decide (n = 0) := decide_eq_decide.mpr ⟨fun h => V.int.inj h, fun h => by rw [h]⟩
/-- the rows but the j-th, up to the i-th -/
def oth (S : List (List Int)) (j i : Nat) : List (List Int) := if i ≤ j then S.take i else S.take j ++ (S.drop (j + 1)).take (i - (j + 1))
theorem oth_same {S : List (List Int)} {j : Nat} : oth S j (j + 1) = oth S j j := by
  unfold oth
  rw [if_neg (by omega), if_pos (Nat.le_refl _), Nat.sub_self, List.take_zero, List.append_nil]
theorem oth_next {S : List (List Int)} {i j : Nat} {x : List Int} (h : S[i]? = some x) (n : i ≠ j) : oth S j (i + 1) = oth S j i ++ [x] := by
  unfold oth
  by_cases c : i < j
  · rw [if_pos (by omega), if_pos (by omega), take_at h]
  · rw [if_neg (by omega), if_neg (by omega), show i + 1 - (j + 1) = (i - (j + 1)) + 1 by omega, List.append_assoc]
    congr 1
    refine take_at ?_
    rw [List.getElem?_drop, show j + 1 + (i - (j + 1)) = i by omega]
    exact h
theorem oth_all {S : List (List Int)} {j : Nat} (h : j < S.length) : oth S j S.length = S.take j ++ S.drop (j + 1) := by
  unfold oth
  rw [if_neg (by omega), List.take_of_length_le (l := S.drop (j + 1)) (by rw [List.length_drop]; omega)]
theorem at_split {α : Type} {S : List α} {j : Nat} {g : α} (h : S[j]? = some g) : S = S.take j ++ g :: S.drop (j + 1) := by rw [← drop_at h, List.take_append_drop]
theorem first_at {ns : List Int} {m : Int} (h : m ∈ ns) : ∃ j, ns[j]? = some m ∧ ∀ (i : Nat) (z : Int), i < j → ns[i]? = some z → z ≠ m := by
  refine ⟨ns.findIdx fun x => decide (x = m), ?_, fun i z hi hz e => ?_⟩
  · have l : ns.findIdx (fun x => decide (x = m)) < ns.length := List.findIdx_lt_length_of_exists ⟨m, h, decide_eq_true rfl⟩
    rw [List.getElem?_eq_getElem l]
    have := List.findIdx_getElem (p := fun x : Int => decide (x = m)) (xs := ns) (w := l)
    rw [of_decide_eq_true this]
  · have := List.not_of_lt_findIdx hi
    obtain ⟨hl, ez⟩ := List.getElem?_eq_some_iff.mp hz
    rw [ez, e] at this
    simp at this
theorem two_filt {c : Nat} : ∀ L : List (List Int), (L.filter fun x => decide (toF x c ≠ 0)).length + (L.filter fun x => decide (toF x c = 0)).length = L.length
  | [] => rfl
  | x :: r => by
    have ih := two_filt (c := c) r
    by_cases z : toF x c = 0
    · simp [z] at ih ⊢
      omega
    · simp [z] at ih ⊢
      omega
theorem Rows.app {H : Hp} : ∀ {ps qs : List Addr} {Rs Ss : List (List Int)}, Rows H ps Rs → Rows H qs Ss → Rows H (ps ++ qs) (Rs ++ Ss)
  | _, _, _, _, .nil, h => h
  | _, _, _, _, .cons a t, h => .cons a (Rows.app t h)
theorem eqv_self (n : Int) : eqV (.int n) (.int n) = true := by unfold eqV; simp
theorem eqv_ne {z n : Int} (h : z ≠ n) : eqV (.int z) (.int n) = false := by unfold eqV; simp [h]
theorem ok_divided (T : Txt K mg a) : FnOk P w K mg base CX0 2 a.divided a.fd_divided ps__law_divided spDivided := by
  have F := T.F_divided
  refine F.ok (k := 1) sc__law_divided (fun vs H Q E h => ?_) (fun cdv A outer s H vs Q E hr h => ?_)
  · obtain ⟨l, ps, Rs, w, c, M, rfl, hL, hm, hlen, hlow, hc, hw, hM, hlim, k⟩ := h
    rfl
  · obtain ⟨l, ps, Rs, w, c, M, rfl, hL, hm, hlen, hlow, hc, hw, hM, hlim, k⟩ := h
    have hu := hu_of hr
    refine ⟨_, (pss_cons (ps_setLc (i := 2) (own := [("_law_row", 3)]) rfl sc__law_divided.nd rfl rfl (sw_true rfl rfl rfl (by decide +kernel)) (pi_list (pv 0)) (blkOk_by (N := nm__law_divided) (sc := defScope s__law_divided) (by decide +kernel)) (fun _ _ _ _ _ => (pg_name (i := 3) sc__law_divided.nd rfl (Or.inl rfl))) (fun _ _ _ _ _ => (pts_one (pt_cmpR op_ne (pe_ix (r := rIxT K) ix_tup (pv 3) (pv 1) (fun _ _ => rfl)) pe_int (nomark _)))) (fun _ _ _ _ _ => (pv 3)))
      (pss_cons (ps_setLc (i := 4) (own := [("_law_row", 3)]) rfl sc__law_divided.nd rfl rfl (sw_true rfl rfl rfl (by decide +kernel)) (pi_list (pv 0)) (blkOk_by (N := nm__law_divided) (sc := defScope s__law_divided) (by decide +kernel)) (fun _ _ _ _ _ => (pg_name (i := 3) sc__law_divided.nd rfl (Or.inl rfl))) (fun _ _ _ _ _ => (pts_one (pt_cmpR op_eq (pe_ix (r := rIxT K) ix_tup (pv 3) (pv 1) (fun _ _ => rfl)) pe_int (nomark _)))) (fun _ _ _ _ _ => (pv 3)))
      (pss_cons (ps_while PassesOwn.never (pt_cmpR op_gt (pe_callB call_len (by rfl) T.len (by decide +kernel) (pa_cons (pv 2) pa_nil)) pe_int (nomark _)) (pss_cons (ps_setLc (i := 5) (own := [("_law_row", 3)]) rfl sc__law_divided.nd rfl rfl (sw_true rfl rfl rfl (by decide +kernel)) (pi_list (pv 2)) (blkOk_by (N := nm__law_divided) (sc := defScope s__law_divided) (by decide +kernel)) (fun _ _ _ _ _ => (pg_name (i := 3) sc__law_divided.nd rfl (Or.inl rfl))) (fun _ _ _ _ _ => pts_nil) (fun _ _ _ _ _ => (pe_callB call_abs (by rfl) T.abs (by decide +kernel) (pa_cons (pe_ix (r := rIxT K) ix_tup (pv 3) (pv 1) (fun _ _ => rfl)) pa_nil))))
      (pss_cons (ps_set (i := 6) sc__law_divided.nd rfl (Or.inl rfl) (pe_bm PySem.F.plainAttrs_list PySem.F.slot_list_index PySem.F.type_list_index mt_index (pv 5) (pa_cons (pe_callB (cr_min rfl) (by rfl) T.min (by decide +kernel) (pa_cons (pv 5) pa_nil)) pa_nil)))
      (pss_cons (ps_par (i := 7) (j := 8) rfl sc__law_divided.nd rfl rfl (by decide) rfl rfl (pa_cons (pe_ix ix_list (pv 2) (pv 6) (fun _ _ => rfl)) (pa_cons (pe_lst pa_nil) pa_nil)) (by rfl))
      (pss_cons (ps_for PassesOwn.never rfl (pi_range1 (by rfl) T.range (pa_cons (pe_callB call_len (by rfl) T.len (by decide +kernel) (pa_cons (pv 2) pa_nil)) pa_nil)) (pg_name (i := 9) sc__law_divided.nd rfl (Or.inl rfl)) (pss_one (ps_if (pt_cmpR op_ne (pv 9) (pv 6) (nomark _)) (pss_one (ps_expr (pe_bm PySem.F.plainAttrs_list PySem.F.slot_list_append PySem.F.type_list_append mt_append (pv 8) (pa_cons (pe_call (ok_minus T) (hr.mono (by decide)) (by rfl) T.g_minus T.F_minus.kp (b_minus T) .nil pass0 (pa_cons (pe_ix ix_list (pv 2) (pv 9) (fun _ _ => rfl)) (pa_cons (pv 7) (pa_cons (pe_op Fz.op_fdivZ (pe_ix ix_seq (pe_ix ix_list (pv 2) (pv 9) (fun _ _ => rfl)) (pv 1) (fun _ _ => rfl)) (pe_ix ix_tup (pv 7) (pv 1) (fun _ _ => rfl))) pa_nil)))) pa_nil)))) pss_nil)))
      (pss_cons (ps_set (i := 2) sc__law_divided.nd rfl (Or.inl rfl) (pe_op op_cat (pe_lst (pa_cons (pv 7) pa_nil)) (pe_lc (own := [("_law_row", 3)]) rfl sc__law_divided.nd (pi_list (pv 8)) (blkOk_by (N := nm__law_divided) (sc := defScope s__law_divided) (by decide +kernel)) (fun _ _ _ _ _ => (pg_name (i := 3) sc__law_divided.nd rfl (Or.inl rfl))) (fun _ _ _ _ _ => (pts_one (pt_cmpR op_ne (pe_ix (r := rIxT K) ix_tup (pv 3) (pv 1) (fun _ _ => rfl)) pe_int (nomark _)))) (fun _ _ _ _ _ => (pv 3)))))
      (pss_one (ps_set (i := 4) sc__law_divided.nd rfl (Or.inl rfl) (pe_op op_cat (pv 4) (pe_lc (own := [("_law_row", 3)]) rfl sc__law_divided.nd (pi_list (pv 8)) (blkOk_by (N := nm__law_divided) (sc := defScope s__law_divided) (by decide +kernel)) (fun _ _ _ _ _ => (pg_name (i := 3) sc__law_divided.nd rfl (Or.inl rfl))) (fun _ _ _ _ _ => (pts_one (pt_cmpR op_eq (pe_ix (r := rIxT K) ix_tup (pv 3) (pv 1) (fun _ _ => rfl)) pe_int (nomark _)))) (fun _ _ _ _ _ => (pv 3))))))))))))
      (pss_one (ps_ret (pe_tup (pa_cons (pv 2) (pa_cons (pv 4) pa_nil)))))))), ?_⟩
    refine ⟨_, rfl, l, rfl, ⟨_, SqL.of hL.1⟩, fun D1 hD1 => ?_⟩
    refine lc_it (walk_list (K := K) (a := l) (xs := ps.map V.ref)) (fun i Hi => ∃ qs, Same H Hi ∧ Hi D1 = some (.lst (qs.map V.ref)) ∧ qs.length ≤ i ∧ Rows Hi qs ((Rs.take i).filter fun x => decide (toF x c ≠ 0))) ⟨[], sameNew hD1, upd_same, Nat.le_refl _, .nil⟩ ?_ ?_ ?_
    · rintro i Hi hi ⟨qs, S, _⟩
      exact .inl (.inl (S _ _ hL.1))
    · rintro i y Hi0 Hi hi ⟨qs, S, eD, hq, hQ⟩ ⟨rfl, hy⟩
      rw [List.length_map] at hi
      rw [List.getElem?_map] at hy
      obtain ⟨px, hpx, rfl⟩ := Option.map_eq_some_iff.mp hy
      obtain ⟨x, hx0, hX⟩ := Rows.get hL.2 hpx
      have hX1 := S _ _ hX
      have hxl : c < x.length := by rw [hlen x (List.mem_of_getElem? hx0)]; exact hc
      have hlp := Rows.len hL.2
      refine ⟨rfl, ?_⟩
      refine ⟨_, rfl, _, rfl, px, _, _, _, rfl, rfl, SqT.of hX1, at_toF hxl, rfl, _, rfl, ?_⟩
      rw [take_at hx0, List.filter_append, vint0]
      by_cases z : toF x c = 0
      · refine ite_f (by rw [decide_eq_true z]; rfl) ?_
        rw [show [x].filter (fun x => decide (toF x c ≠ 0)) = [] by rw [List.filter_cons, if_neg (by rw [decide_eq_false (fun q => q z)]; exact Bool.false_ne_true)]; rfl]
        refine ⟨qs, S, eD, by omega, ?_⟩
        rw [List.append_nil]
        exact hQ
      · refine ite_t (by rw [decide_eq_false z]; rfl) ?_
        rw [show [x].filter (fun x => decide (toF x c ≠ 0)) = [x] by rw [List.filter_cons, if_pos (decide_eq_true z)]; rfl]
        refine ⟨_, rfl, _, eD, by rw [List.length_map, sizeLine_eq]; omega, qs ++ [px], same_upd S hD1, by rw [List.map_append]; exact upd_same, by rw [List.length_append]; show _ + 1 ≤ _; omega, ?_⟩
        exact Rows.snoc (RT.upd hX1 eD) (Rows.upd hQ eD)
    rintro H1 ⟨ss0, S1, e1, q1, Q1⟩
    rw [List.length_map, Rows.len hL.2, List.take_of_length_le (Nat.le_refl _)] at Q1
    rw [List.length_map] at q1
    have hL1 := S1 _ _ hL.1
    have hLr1 := hL.2.keep S1
    refine ⟨_, rfl, l, rfl, ⟨_, SqL.of hL1⟩, fun D2 hD2 => ?_⟩
    refine lc_it (walk_list (K := K) (a := l) (xs := ps.map V.ref)) (fun i Hi => ∃ qs, Same H1 Hi ∧ Hi D2 = some (.lst (qs.map V.ref)) ∧ qs.length ≤ i ∧ Rows Hi qs ((Rs.take i).filter fun x => decide (toF x c = 0))) ⟨[], sameNew hD2, upd_same, Nat.le_refl _, .nil⟩ ?_ ?_ ?_
    · rintro i Hi hi ⟨qs, S, _⟩
      exact .inl (.inl (S _ _ hL1))
    · rintro i y Hi0 Hi hi ⟨qs, S, eD, hq, hQ⟩ ⟨rfl, hy⟩
      rw [List.length_map] at hi
      rw [List.getElem?_map] at hy
      obtain ⟨px, hpx, rfl⟩ := Option.map_eq_some_iff.mp hy
      obtain ⟨x, hx0, hX⟩ := Rows.get hLr1 hpx
      have hX1 := S _ _ hX
      have hxl : c < x.length := by rw [hlen x (List.mem_of_getElem? hx0)]; exact hc
      have hlp := Rows.len hLr1
      refine ⟨rfl, ?_⟩
      refine ⟨_, rfl, _, rfl, px, _, _, _, rfl, rfl, SqT.of hX1, at_toF hxl, rfl, _, rfl, ?_⟩
      rw [take_at hx0, List.filter_append, vint0]
      by_cases z : toF x c = 0
      · refine ite_t (decide_eq_true z) ?_
        rw [show [x].filter (fun x => decide (toF x c = 0)) = [x] by rw [List.filter_cons, if_pos (decide_eq_true z)]; rfl]
        refine ⟨_, rfl, _, eD, by rw [List.length_map, sizeLine_eq]; omega, qs ++ [px], same_upd S hD2, by rw [List.map_append]; exact upd_same, by rw [List.length_append]; show _ + 1 ≤ _; omega, ?_⟩
        exact Rows.snoc (RT.upd hX1 eD) (Rows.upd hQ eD)
      · refine ite_f (decide_eq_false z) ?_
        rw [show [x].filter (fun x => decide (toF x c = 0)) = [] by rw [List.filter_cons, if_neg (by rw [decide_eq_false z]; exact Bool.false_ne_true)]; rfl]
        refine ⟨qs, S, eD, by omega, ?_⟩
        rw [List.append_nil]
        exact hQ
    rintro H2 ⟨rs0, S2, e2, q2, Q2⟩
    rw [List.length_map, Rows.len hLr1, List.take_of_length_le (Nat.le_refl _)] at Q2
    rw [List.length_map] at q2
    have lps := hL.2.len
    have dv0 : Dv w c (2 ^ M) Rs (Rs.filter fun x => decide (toF x c ≠ 0)) (Rs.filter fun x => decide (toF x c = 0)) := Dv.start hlen hlow hlim
    refine ⟨fun m σ Hj => ∃ sl ss S rl rs R x3 x5 x6 x7 x8 x9, σ = [some (.ref l), some (.int ((c : Nat) : Int)), some (.ref sl), x3, some (.ref rl), x5, x6, x7, x8, x9] ∧ Same H Hj ∧ LRows Hj sl ss S ∧ LRows Hj rl rs R ∧ Dv w c (2 ^ M) Rs S R ∧ S.length + R.length ≤ 100 ∧ szs c S = m, ⟨_, D1, ss0, _, D2, rs0, _, _, _, _, _, _, _, rfl, S1.trans S2, ⟨S2 _ _ e1, Q1.keep S2⟩, ⟨e2, Q2⟩, dv0, ?_, rfl⟩, ?_⟩
    · rw [two_filt]
      exact hm
    rintro m σ H3 ⟨sl, ss, S, rl, rs, R, x3, x5, x6, x7, x8, x9, rfl, S3, hS, hR, dv, hn, hsz⟩
    have lss := hS.2.len
    refine ⟨_, rfl, _, _, rfl, .inl ⟨_, SqL.of hS.1, rfl⟩, _, _, rfl, rfl, _, rfl, ?_⟩
    rw [List.length_map, lss]
    refine iteB (fun z => ?_) (fun z => ?_)
    · have two : 1 < S.length := by have := of_decide_eq_true z; omega
      refine ⟨_, fun _ _ h => h, ?_⟩
      refine ⟨_, rfl, sl, rfl, ⟨_, SqL.of hS.1⟩, fun D3 hD3 => ?_⟩
      refine lc_it (walk_list (K := K) (a := sl) (xs := ss.map V.ref)) (fun i Hi => Same H3 Hi ∧ Hi D3 = some (.lst (((S.take i).map fun x => ((toF x c).natAbs : Int)).map V.int))) ⟨sameNew hD3, upd_same⟩ ?_ ?_ ?_
      · rintro i Hi hi ⟨Si, _⟩
        exact .inl (.inl (Si _ _ hS.1))
      · rintro i y Hi0 Hi hi ⟨Si, eD⟩ ⟨rfl, hy⟩
        rw [List.length_map] at hi
        rw [List.getElem?_map] at hy
        obtain ⟨px, hpx, rfl⟩ := Option.map_eq_some_iff.mp hy
        obtain ⟨x, hx0, hX⟩ := Rows.get hS.2 hpx
        have hxl : c < x.length := by rw [dv.lenS x (List.mem_of_getElem? hx0)]; exact hc
        refine ⟨rfl, ?_⟩
        dsimp only [tYes]
        rw [if_pos rfl]
        refine ⟨_, rfl, _, rfl, px, _, _, _, rfl, rfl, SqT.of (Si _ _ hX), at_toF hxl, _, rfl, ?_⟩
        rw [show (if toF x c < 0 then -toF x c else toF x c) = ((toF x c).natAbs : Int) by split <;> omega]
        refine ⟨_, eD, by rw [List.length_map, List.length_map, List.length_take, sizeLine_eq]; omega, same_upd Si hD3, ?_⟩
        rw [take_at hx0, List.map_append, List.map_append]
        exact upd_same
      rintro H4 ⟨S4, e4⟩
      rw [List.length_map, lss, List.take_of_length_le (Nat.le_refl _)] at e4
      have pos : 0 < (S.map fun x => ((toF x c).natAbs : Int)).length := by rw [List.length_map]; omega
      refine ⟨_, rfl, .inl ⟨rfl, _, SqL.of e4⟩, ?_⟩
      refine ⟨_, rfl, D3, _, rfl, SqL.of e4, pos, fun mn hmn hmin => ?_⟩
      obtain ⟨j, hj, hjf⟩ := first_at hmn
      obtain ⟨g, hg, eg⟩ : ∃ g, S[j]? = some g ∧ ((toF g c).natAbs : Int) = mn := by
        rw [List.getElem?_map] at hj
        obtain ⟨g, h1, h2⟩ := Option.map_eq_some_iff.mp hj
        exact ⟨g, h1, h2⟩
      have hjl : j < S.length := (List.getElem?_eq_some_iff.mp hg).1
      refine ⟨D3, _, .int mn, j, .int mn, rfl, rfl, SqL.of e4, rfl, by rw [List.all_map]; exact List.all_eq_true.mpr fun _ _ => rfl, by rw [List.getElem?_map, hj]; rfl, eqv_self mn, fun i z' hi hz => ?_, ?_⟩
      · rw [List.getElem?_map] at hz
        obtain ⟨z0, h1, rfl⟩ := Option.map_eq_some_iff.mp hz
        exact eqv_ne (hjf i z0 hi h1)
      obtain ⟨pg, hpg⟩ : ∃ pg, ss[j]? = some pg := ⟨ss[j]'(by omega), List.getElem?_eq_getElem (by omega)⟩
      obtain ⟨g2, hg2, hG0⟩ := Rows.get hS.2 hpg
      obtain rfl : g2 = g := by rw [hg] at hg2; exact (Option.some.inj hg2).symm
      have gmem : g2 ∈ S := List.mem_of_getElem? hg
      have hGl := dv.lenS g2 gmem
      have g0 := (dv.lowS g2 gmem).2
      have b8 : ∀ x ∈ S ++ R, LimL (2 ^ (8 * M + 2)) x := fun x hx => (dv.lim x hx).mono (K8_two M)
      have bg := b8 g2 (List.mem_append_left _ gmem)
      have bgc := dv.cl g2 gmem
      refine ⟨_, rfl, _, rfl, sl, _, _, .ref pg, rfl, rfl, SqL.of (S4 _ _ hS.1), atI_nat (by rw [List.getElem?_map, hpg]; rfl), (by show 0 ≤ sizeLine; decide), fun l8 nl8 => ?_⟩
      refine ⟨_, _, rfl, ?_⟩
      have S5 := sameNew (o := .lst []) nl8
      refine ⟨_, rfl, _, _, rfl, .inl ⟨_, SqL.of (S5 _ _ (S4 _ _ hS.1)), rfl⟩, ?_⟩
      rw [List.length_map, lss]
      refine ⟨_, rfl, by omega, by omega, ?_⟩
      rw [Int.toNat_natCast]
      refine for_range (lo := 0) (n := S.length) (fun i σ Hi => ∃ y3 x9 zs, σ = [some (.ref l), some (.int ((c : Nat) : Int)), some (.ref sl), y3, some (.ref rl), some (.ref D3), some (.int ((j : Nat) : Int)), some (.ref pg), some (.ref l8), x9] ∧ Same H4 Hi ∧ LRows Hi l8 zs ((oth S j i).map fun x => byL x g2 c)) ?_ ?_ ?_
      · exact ⟨_, _, [], rfl, S5, upd_same, by rw [show oth S j 0 = [] by unfold oth; rw [if_pos (Nat.zero_le _)]; rfl]; exact .nil⟩
      · rintro i σ Hi hi ⟨y3, x9, zs, rfl, Si, hZ⟩
        rw [Int.zero_add]
        have S34 := S4.trans Si
        obtain ⟨x, hx0⟩ : ∃ x, S[i]? = some x := ⟨S[i], List.getElem?_eq_getElem hi⟩
        obtain ⟨px, hpx⟩ : ∃ px, ss[i]? = some px := ⟨ss[i]'(by omega), List.getElem?_eq_getElem (by omega)⟩
        obtain ⟨x', hx1, hX⟩ := Rows.get hS.2 hpx
        obtain rfl : x' = x := by rw [hx0] at hx1; exact (Option.some.inj hx1).symm
        have xmem : x' ∈ S := List.mem_of_getElem? hx0
        have hXl := dv.lenS x' xmem
        have hX3 := S34 _ _ hX
        have hG3 := S34 _ _ hG0
        refine ⟨_, rfl, _, rfl, rfl, _, rfl, ?_⟩
        by_cases n : i = j
        · subst n
          refine ite_f (by rw [decide_eq_true rfl]; rfl) ?_
          exact ⟨_, _, zs, rfl, Si, hZ.1, by rw [oth_same]; exact hZ.2⟩
        · refine ite_t (by rw [decide_eq_false (fun q => n (by have := V.int.inj q; omega))]; rfl) ?_
          have xb := b8 x' (List.mem_append_left _ xmem) c
          have q1 := fd_le (f := toF x' c) g0
          refine ⟨_, rfl, .inl ⟨rfl, _, SqL.of hZ.1⟩, ?_⟩
          have atx : atI (ss.map V.ref) ((i : Nat) : Int) = some (V.ref px) := atI_nat (by rw [List.getElem?_map, hpx]; rfl)
          refine ⟨_, rfl, _, rfl, sl, _, _, .ref px, rfl, rfl, SqL.of (S34 _ _ hS.1), atx, ?_⟩
          refine ⟨_, rfl, ?_⟩
          refine ⟨_, rfl, _, rfl, sl, _, _, .ref px, rfl, rfl, SqL.of (S34 _ _ hS.1), atx, ?_⟩
          refine ⟨_, rfl, .inr (.inl ⟨px, _, _, _, rfl, rfl, SqT.of hX3, at_toF (by omega), ?_⟩)⟩
          refine ⟨_, rfl, _, rfl, pg, _, _, _, rfl, rfl, SqT.of hG3, at_toF (by omega), ?_⟩
          refine ⟨_, _, rfl, rfl, cdiv g0 bgc (by omega), ?_⟩
          refine ⟨px, pg, _, x', g2, rfl, hX3, hG3, by omega, by omega, big_of (k := 8 * M + 2) (by omega) (by omega), bg.mono (two_mono (by omega)), fun z H6 S6 hz => ?_⟩
          have e6 := S6 _ _ hZ.1
          have lz : zs.length ≤ 200 := by
            have := hZ.2.len
            rw [List.length_map] at this
            have o : (oth S j i).length ≤ i := by
              unfold oth
              split
              · rw [List.length_take]; omega
              · rw [List.length_append, List.length_take, List.length_take]; omega
            omega
          refine ⟨l8, _, _, rfl, rfl, e6, by rw [List.length_map, sizeLine_eq]; omega, ?_⟩
          refine ⟨_, _, zs ++ [z], rfl, same_upd (Si.trans S6) nl8, by rw [List.map_append]; exact upd_same, ?_⟩
          rw [oth_next hx0 n, List.map_append]
          exact Rows.snoc (RT.upd hz e6) (Rows.upd (hZ.2.keep S6) e6)
      rintro σ H7 ⟨y3, x9, zs, rfl, S7, hZ⟩
      rw [oth_all hjl] at hZ
      have S37 := S4.trans S7
      have hG7 := S37 _ _ hG0
      have split := at_split hg
      have gmin : ∀ x ∈ S, (toF g2 c).natAbs ≤ (toF x c).natAbs := fun x hx => by
        have := hmin _ (List.mem_map.mpr ⟨x, hx, rfl⟩)
        omega
      have two' : S.take j ++ S.drop (j + 1) ≠ [] := fun z => by
        have l := congrArg List.length split
        have l2 := congrArg List.length z
        rw [List.length_append, List.length_cons] at l
        rw [List.length_append] at l2
        have : ([] : List (List Int)).length = 0 := rfl
        omega
      have oS : ∀ x ∈ S.take j ++ S.drop (j + 1), x ∈ S := fun x hx => by
        rcases List.mem_append.mp hx with z | z
        · exact List.mem_of_mem_take z
        · exact List.mem_of_mem_drop z
      have hlen8 : ∀ x ∈ (S.take j ++ S.drop (j + 1)).map (fun x => byL x g2 c), x.length = w := fun x hx => by
        obtain ⟨y, hy, rfl⟩ := List.mem_map.mp hx
        unfold byL
        rw [less_len (by rw [dv.lenS y (oS y hy), hGl])]
        exact dv.lenS y (oS y hy)
      have lo : ((S.take j ++ S.drop (j + 1)).map fun x => byL x g2 c).length + 1 = S.length := by
        have l := congrArg List.length split
        rw [List.length_append, List.length_cons] at l
        rw [List.length_map, List.length_append]
        omega
      refine ⟨_, rfl, (by show 1 ≤ sizeLine; decide), fun l10 nl10 => ?_⟩
      generalize EH8 : upd H7 l10 _ = H8
      have e10 := (congrFun EH8 l10).symm.trans upd_same
      have S8 : Same H7 H8 := by rw [← EH8]; exact sameNew nl10
      have hL8 := S8 _ _ hZ.1
      have hZ8 := hZ.2.keep S8
      refine ⟨_, rfl, l8, rfl, ⟨_, SqL.of hL8⟩, fun D4 hD4 => ?_⟩
      refine lc_it (walk_list (K := K) (a := l8) (xs := zs.map V.ref)) (fun i Hi => ∃ qs, Same H8 Hi ∧ Hi D4 = some (.lst (qs.map V.ref)) ∧ qs.length ≤ i ∧ Rows Hi qs ((((S.take j ++ S.drop (j + 1)).map fun x => byL x g2 c).take i).filter fun x => decide (toF x c ≠ 0))) ⟨[], sameNew hD4, upd_same, Nat.le_refl _, .nil⟩ ?_ ?_ ?_
      · rintro i Hi hi ⟨qs, S, _⟩
        exact .inl (.inl (S _ _ hL8))
      · rintro i y Hi0 Hi hi ⟨qs, S, eD, hq, hQ⟩ ⟨rfl, hy⟩
        rw [List.length_map] at hi
        rw [List.getElem?_map] at hy
        obtain ⟨px, hpx, rfl⟩ := Option.map_eq_some_iff.mp hy
        obtain ⟨x, hx0, hX⟩ := Rows.get hZ8 hpx
        have hX1 := S _ _ hX
        have hxl : c < x.length := by rw [hlen8 x (List.mem_of_getElem? hx0)]; exact hc
        have hlp := Rows.len hZ8
        refine ⟨rfl, ?_⟩
        refine ⟨_, rfl, _, rfl, px, _, _, _, rfl, rfl, SqT.of hX1, at_toF hxl, rfl, _, rfl, ?_⟩
        rw [take_at hx0, List.filter_append, vint0]
        by_cases z : toF x c = 0
        · refine ite_f (by rw [decide_eq_true z]; rfl) ?_
          rw [show [x].filter (fun x => decide (toF x c ≠ 0)) = [] by rw [List.filter_cons, if_neg (by rw [decide_eq_false (fun q => q z)]; exact Bool.false_ne_true)]; rfl]
          refine ⟨qs, S, eD, by omega, ?_⟩
          rw [List.append_nil]
          exact hQ
        · refine ite_t (by rw [decide_eq_false z]; rfl) ?_
          rw [show [x].filter (fun x => decide (toF x c ≠ 0)) = [x] by rw [List.filter_cons, if_pos (decide_eq_true z)]; rfl]
          refine ⟨_, rfl, _, eD, by rw [List.length_map, sizeLine_eq]; omega, qs ++ [px], same_upd S hD4, by rw [List.map_append]; exact upd_same, by rw [List.length_append]; show _ + 1 ≤ _; omega, ?_⟩
          exact Rows.snoc (RT.upd hX1 eD) (Rows.upd hQ eD)
      rintro H9 ⟨qn, S9, e9, qn1, Qn⟩
      rw [List.length_map, Rows.len hZ8, List.take_of_length_le (Nat.le_refl _)] at Qn
      rw [List.length_map] at qn1
      refine ⟨l10, D4, [.ref pg], _, rfl, rfl, S9 _ _ e10, e9, by rw [List.length_map, sizeLine_eq]; show 1 + _ ≤ _; have := hZ8.len; omega, fun sl' nsl' => ?_⟩
      generalize EH10 : upd H9 sl' _ = H10
      have e11 := (congrFun EH10 sl').symm.trans upd_same
      have S10 : Same H9 H10 := by rw [← EH10]; exact sameNew nsl'
      have hL10 := S10 _ _ (S9 _ _ hL8)
      have hZ10 := hZ8.keep (S9.trans S10)
      refine ⟨_, rfl, ?_⟩
      refine ⟨_, rfl, l8, rfl, ⟨_, SqL.of hL10⟩, fun D5 hD5 => ?_⟩
      refine lc_it (walk_list (K := K) (a := l8) (xs := zs.map V.ref)) (fun i Hi => ∃ qs, Same H10 Hi ∧ Hi D5 = some (.lst (qs.map V.ref)) ∧ qs.length ≤ i ∧ Rows Hi qs ((((S.take j ++ S.drop (j + 1)).map fun x => byL x g2 c).take i).filter fun x => decide (toF x c = 0))) ⟨[], sameNew hD5, upd_same, Nat.le_refl _, .nil⟩ ?_ ?_ ?_
      · rintro i Hi hi ⟨qs, S, _⟩
        exact .inl (.inl (S _ _ hL10))
      · rintro i y Hi0 Hi hi ⟨qs, S, eD, hq, hQ⟩ ⟨rfl, hy⟩
        rw [List.length_map] at hi
        rw [List.getElem?_map] at hy
        obtain ⟨px, hpx, rfl⟩ := Option.map_eq_some_iff.mp hy
        obtain ⟨x, hx0, hX⟩ := Rows.get hZ10 hpx
        have hX1 := S _ _ hX
        have hxl : c < x.length := by rw [hlen8 x (List.mem_of_getElem? hx0)]; exact hc
        have hlp := Rows.len hZ10
        refine ⟨rfl, ?_⟩
        refine ⟨_, rfl, _, rfl, px, _, _, _, rfl, rfl, SqT.of hX1, at_toF hxl, rfl, _, rfl, ?_⟩
        rw [take_at hx0, List.filter_append, vint0]
        by_cases z : toF x c = 0
        · refine ite_t (decide_eq_true z) ?_
          rw [show [x].filter (fun x => decide (toF x c = 0)) = [x] by rw [List.filter_cons, if_pos (decide_eq_true z)]; rfl]
          refine ⟨_, rfl, _, eD, by rw [List.length_map, sizeLine_eq]; omega, qs ++ [px], same_upd S hD5, by rw [List.map_append]; exact upd_same, by rw [List.length_append]; show _ + 1 ≤ _; omega, ?_⟩
          exact Rows.snoc (RT.upd hX1 eD) (Rows.upd hQ eD)
        · refine ite_f (decide_eq_false z) ?_
          rw [show [x].filter (fun x => decide (toF x c = 0)) = [] by rw [List.filter_cons, if_neg (by rw [decide_eq_false z]; exact Bool.false_ne_true)]; rfl]
          refine ⟨qs, S, eD, by omega, ?_⟩
          rw [List.append_nil]
          exact hQ
      rintro H11 ⟨qz, S11, e12, qz1, Qz⟩
      rw [List.length_map, Rows.len hZ10, List.take_of_length_le (Nat.le_refl _)] at Qz
      rw [List.length_map] at qz1
      have S3e : Same H3 H11 := ((S37.trans S8).trans (S9.trans S10)).trans S11
      refine ⟨rl, D5, rs.map V.ref, _, rfl, rfl, S3e _ _ hR.1, e12, by rw [List.length_map, List.length_map, sizeLine_eq]; have := hZ10.len; have := hR.2.len; omega, fun rl' nrl' => ?_⟩
      generalize EH12 : upd H11 rl' _ = H12
      have e13 := (congrFun EH12 rl').symm.trans upd_same
      have S12 : Same H11 H12 := by rw [← EH12]; exact sameNew nrl'
      have S3f := S3e.trans S12
      have S10f := S11.trans S12
      refine ⟨_, by rw [← hsz]; exact dv.down split gmin two', sl', pg :: qn, _, rl', rs ++ qz, _, _, _, _, _, _, _, rfl, S3.trans S3f, ⟨S10f _ _ e11, .cons (S3f _ _ hG0) (Qn.keep (S10.trans S10f))⟩, ⟨by rw [List.map_append]; exact e13, Rows.app (hR.2.keep S3f) (Qz.keep S12)⟩, dv.step split gmin two', ?_, rfl⟩
      have := two_filt (c := c) ((S.take j ++ S.drop (j + 1)).map fun x => byL x g2 c)
      rw [List.length_cons, List.length_append]
      omega
    · have one : S.length ≤ 1 := by have := of_decide_eq_false z; omega
      refine ⟨_, rfl, _, rfl, (by show 2 ≤ sizeLine; decide), fun t ht => ?_⟩
      have S4 := sameNew (o := .tup [.ref sl, .ref rl]) ht
      exact k t sl rl ss rs S R _ (S3.trans S4) upd_same ⟨S4 _ _ hS.1, hS.2.keep S4⟩ ⟨S4 _ _ hR.1, hR.2.keep S4⟩ one (by omega) dv
end
end K42

set_option Elab.async false
set_option linter.all false
set_option maxRecDepth 100000
set_option maxHeartbeats 4000000
open L2 in
local macro_rules | `(tactic| walk_at "q1") => `(tactic| first
  | refine ⟨_, rfl, ?_⟩
  | refine ⟨_, _, rfl, rfl, ?_⟩
  | refine And.intro (show CMul _ _ from Or.inr ⟨by decide, by decide⟩) ?_
  | refine And.intro (show CMul _ _ from Or.inl ⟨by first | decide | omega, by first | decide | omega⟩) ?_
  | refine And.intro (show CMul _ _ from Or.inr ⟨by omega, by omega⟩) ?_
  | refine And.intro (show CDiv _ _ from ⟨by omega, by omega⟩) ?_
  | refine And.intro (Lat.cdivw (by omega) (by omega)) ?_
  | refine And.intro (show Dt.CPowG _ _ from ⟨by decide, by decide +kernel⟩) ?_
  | refine And.intro (by first | decide | omega) ?_
  | refine And.intro (Int.pow_pos (Int.pow_pos (by decide))) ?_
  | refine ⟨_, _, _, _, rfl, rfl, SqL.of (by first | assumption | exact upd_same), (by rfl), ?_⟩
  | refine ⟨_, _, _, _, rfl, rfl, (by first | assumption | exact upd_same), (by rfl), ?_⟩
  | refine Or.inl ⟨_, rfl, ?_⟩
  | refine Or.inr ⟨_, rfl, ?_⟩)
local macro_rules | `(tactic| walk_at "q") => `(tactic| repeat (walk_at "q1"))
local macro_rules | `(tactic| walk_at "eqt") => `(tactic| (refine ⟨_, rfl, ?_⟩; refine ⟨rfl, ?_⟩; first
  | (refine ⟨true, rfl, ?_⟩; refine L2.iteT ?_)
  | (refine ⟨false, rfl, ?_⟩; refine L2.iteF ?_)))
local macro_rules | `(tactic| walk_at "sz") => `(tactic| (rw [PySem.sizeLine_eq]; simp))
namespace K42
open PySem PySem.Spec PyProof.Rows L2 Dt An Rp Lat
section
variable {P : Program} {w : World} {K : PySem.W.Frag} {mg : Str → Option Value} {base : Heap} {a : Ads}
theorem sh3 : ∀ (r : List Int), r.length ≤ 3 → SeqAt.shaped (.tuple (r.map PyData.int)) = true
  | [], _ => rfl
  | [_], _ => rfl
  | [_, _], _ => rfl
  | [_, _, _], _ => rfl
theorem eq3 : ∀ (r u : List Int), r.length = u.length → r.length ≤ 3 → PyData.eqv (.tuple (r.map PyData.int)) (.tuple (u.map PyData.int)) = decide (r = u)
  | [], [], _, _ => by decide +kernel
  | [a], [b], _, _ => by (simp [PyData.eqv, PyData.eqvAll]; rfl)
  | [_, _], [_, _], _, _ => by (simp [PyData.eqv, PyData.eqvAll]; rfl)
  | [_, _, _], [_, _, _], _, _ => by (simp [PyData.eqv, PyData.eqvAll]; rfl)
theorem dp_ints {H : Hp} : ∀ r : List Int, DpAll K H (r.map V.int) (r.map PyData.int)
  | [] => .nil
  | n :: r => .cons (.int n) (dp_ints r)
theorem dp_row {H : Hp} {p : Addr} {r : List Int} (h : RT H p r) : Dp K H (.ref p) (.tuple (r.map PyData.int)) := .tup (SqT.of h) (dp_ints r)
/-- the row that is held, its sign turned where its number is negative -/
def tNeg : TS := fun D σ H => ∃ pf f w c, σ[7]? = some (some (V.ref pf)) ∧ σ[5]? = some (some (V.int ((c : Nat) : Int))) ∧ σ[1]? = some (some (V.int ((w : Nat) : Int))) ∧ RT H pf f ∧ f.length = w ∧ w ≤ 3 ∧ c < w ∧ toF f c ≠ 0 ∧ LimL (2 ^ 50000) f ∧
  ∀ pg g H', Same H H' → RT H' pg g → g.length = w → 0 < toF g c → ((∀ i, toF g i = toF f i) ∨ ∀ i, toF g i = - toF f i) → D.nx (σ.set 7 (some (.ref pg))) H'
theorem neg_ok {D : Ends} {σ : L2.St} {H : Hp} (h : tNeg D σ H) : tIfS (tTest (tOp (rI0 fun i j => V.bl (decide (i < j))) (tOp (rIxT K) (tVar 7) (tVar 5)) (tC (V.int 0)))) (tAsg (tCall spMinus [] E0 (tCons (tOp (Ts.rMulZ K) (tTup (tCons (tC (V.int 0)) tNil)) (tVar 1)) (tCons (tVar 7) (tCons (tC (V.int 1)) tNil)))) (gName 7)) tNext D σ H := by
  obtain ⟨pf, f, w, c, h7, h5, h1, hF, hl, hw, hc, f0, lim, k⟩ := h
  refine ⟨_, h7, _, h5, pf, _, _, _, rfl, rfl, SqT.of hF, at_toF (by omega), _, _, rfl, rfl, _, rfl, ?_⟩
  refine iteB (fun z => ?_) (fun z => ?_)
  · have neg : toF f c < 0 := of_decide_eq_true z
    refine ⟨(by show 1 ≤ sizeLine; decide), fun l1 nl1 => ?_⟩
    have S1 := sameNew (o := .tup [V.int 0]) nl1
    refine ⟨_, h1, l1, _, [.int 0], rfl, rfl, SqT.of upd_same, (fun z => by cases z), by omega, by omega, (by decide), fun q H2 S2 hq ht => ?_⟩
    have e := ht upd_same
    rw [zeros_map] at e
    refine ⟨_, h7, q, pf, 1, List.replicate w 0, f, rfl, e, S2 _ _ (S1 _ _ hF), by rw [List.length_replicate, hl], by rw [List.length_replicate]; exact hw, big_of (k := 0) (by decide) (by decide), lim.mono (two_mono (by decide)), fun z4 H3 S3 hz4 => ?_⟩
    exact k z4 _ H3 ((S1.trans S2).trans S3) hz4 (by rw [less_len (by rw [List.length_replicate, hl]), List.length_replicate]) (by rw [neg_toF hl]; omega) (.inr (neg_toF hl))
  · have pos : ¬ toF f c < 0 := of_decide_eq_false z
    have := k pf f H (fun _ _ e => e) hF hl (by omega) (.inl fun _ => rfl)
    obtain ⟨h7l, h7e⟩ := List.getElem?_eq_some_iff.mp h7
    rw [← h7e, List.set_getElem_self] at this
    exact this
def ec (M : Nat) : Nat → Nat
  | 0 => M
  | c + 1 => 8 * ec M c + 2
def nb (M : Nat) : Nat → Nat
  | 0 => 0
  | c + 1 => nb M c + (8 * ec M c + 2) + 2
theorem ec_le {M c : Nat} (hM : M ≤ 60) (hc : c < 3) : ec M c ≤ 3858 := by
  rcases c with _ | _ | _ | c
  · show M ≤ _; omega
  · show 8 * M + 2 ≤ _; omega
  · show 8 * (8 * M + 2) + 2 ≤ _; omega
  · omega
theorem nb_le {M c : Nat} (hM : M ≤ 60) (hc : c ≤ 3) : nb M c ≤ 36000 := by
  rcases c with _ | _ | _ | _ | c
  · show 0 ≤ _; omega
  · show 0 + (8 * M + 2) + 2 ≤ _; omega
  · show 0 + (8 * M + 2) + 2 + (8 * (8 * M + 2) + 2) + 2 ≤ _; omega
  · show 0 + (8 * M + 2) + 2 + (8 * (8 * M + 2) + 2) + 2 + (8 * (8 * (8 * M + 2) + 2) + 2) + 2 ≤ _; omega
  · omega
theorem Ec.up {w c M N M' N' : Nat} {rows L A left : List (List Int)} (h : Ec w c M N rows L A left) (hM : M ≤ M') (hN : N ≤ N') : Ec w c M' N' rows L A left := ⟨Red.mono h.red hN, h.len, h.low, fun x hx => (h.lim x hx).mono hM, h.sm, h.many⟩
def spEchelon : Sp := fun vs H Q _ => ∃ l ps Rs w M, vs = [.ref l, .int ((w : Nat) : Int)] ∧ LRows H l ps Rs ∧ Rs.length ≤ 100 ∧ (∀ r ∈ Rs, r.length = w) ∧ 1 ≤ w ∧ w ≤ 3 ∧ M ≤ 60 ∧ (∀ x ∈ Rs, LimL (2 ^ M) x) ∧
  ∀ z qs As H', Same H H' → TRows H' z qs As → Bas w As → Sm (As.map toF) (Rs.map toF) → Q (.ref z) H'
theorem ok_echelon (T : Txt K mg a) : FnOk P w K mg base CX0 3 a.echelon a.fd_echelon ps__law_echelon spEchelon := by
  have F := T.F_echelon
  refine F.ok (k := 2) sc__law_echelon (fun vs H Q E h => ?_) (fun cdv A outer s H vs Q E hr h => ?_)
  · obtain ⟨l, ps, Rs, w, M, rfl, hL, hm, hlen, hw1, hw3, hM, hlim, k⟩ := h
    rfl
  · obtain ⟨l, ps, Rs, w, M, rfl, hL, hm, hlen, hw1, hw3, hM, hlim, k⟩ := h
    have hu := hu_of hr
    refine ⟨_, (pss_cons (ps_par (i := 2) (j := 3) rfl sc__law_echelon.nd rfl rfl (by decide) rfl rfl (pa_cons (pe_lc (own := [("_law_row", 4)]) rfl sc__law_echelon.nd (pi_list (pv 0)) (blkOk_by (N := nm__law_echelon) (sc := defScope s__law_echelon) (by decide +kernel)) (fun _ _ _ _ _ => (pg_name (i := 4) sc__law_echelon.nd rfl (Or.inl rfl))) (fun _ _ _ _ _ => (pts_one (pt_cmpR (r := rNeD K) (op_neD hr.units) (pv 4) (pe_op (r := Ts.rMulZ K) Ts.op_mulZ (pe_tup (pa_cons pe_int pa_nil)) (pv 1)) (nomark _)))) (fun _ _ _ _ _ => (pv 4))) (pa_cons (pe_lst pa_nil) pa_nil)) (by rfl))
      (pss_cons (ps_for PassesOwn.never rfl (pi_range1 (by rfl) T.range (pa_cons (pv 1) pa_nil)) (pg_name (i := 5) sc__law_echelon.nd rfl (Or.inr rfl)) (pss_cons (ps_asg (pe_call (ok_divided T) (hr.mono (by decide)) (by rfl) T.g_divided T.F_divided.kp (b_divided T) .nil pass0 (pa_cons (pv 2) (pa_cons (pv 5) pa_nil))) (pg_tup rfl (pgs_cons (pg_name (i := 6) sc__law_echelon.nd rfl (Or.inl rfl)) (pgs_cons (pg_name (i := 2) sc__law_echelon.nd rfl (Or.inl rfl)) pgs_nil))))
      (pss_one (ps_if (pt_cmpR (Le.op_neL hr.units) (pv 6) (pe_lst pa_nil) (nomark _)) (pss_cons (ps_set (i := 7) sc__law_echelon.nd rfl (Or.inr rfl) (pe_ix ix_list (pv 6) pe_int (fun _ _ => rfl)))
      (pss_cons (PS.to (t' := tNeg) (ps_if (pt_cmpR op_lt (pe_ix ix_tup (pv 7) (pv 5) (fun _ _ => rfl)) pe_int (nomark _)) (pss_one (ps_set (i := 7) sc__law_echelon.nd rfl (Or.inr rfl) (pe_call (ok_minus T) (hr.mono (by decide)) (by rfl) T.g_minus T.F_minus.kp (b_minus T) .nil pass0 (pa_cons (pe_op Ts.op_mulZ (pe_tup (pa_cons pe_int pa_nil)) (pv 1)) (pa_cons (pv 7) (pa_cons pe_int pa_nil)))))) pss_nil) (fun D σ H h => neg_ok h))
      (pss_one (ps_set (i := 3) sc__law_echelon.nd rfl (Or.inl rfl) (pe_op op_cat (pe_lc (own := [("_law_row", 4)]) rfl sc__law_echelon.nd (pi_list (pv 3)) (blkOk_by (N := nm__law_echelon) (sc := defScope s__law_echelon) (by decide +kernel)) (fun _ _ _ _ _ => (pg_name (i := 4) sc__law_echelon.nd rfl (Or.inl rfl))) (fun _ _ _ _ _ => pts_nil) (fun _ _ _ _ _ => (pe_call (ok_minus T) (hr.mono (by decide)) (by rfl) T.g_minus T.F_minus.kp (b_minus T) .nil pass0 (pa_cons (pv 4) (pa_cons (pv 7) (pa_cons (pe_op Fz.op_fdivZ (pe_ix (r := rIxT K) ix_tup (pv 4) (pv 5) (fun _ _ => rfl)) (pe_ix (r := rIxT K) ix_tup (pv 7) (pv 5) (fun _ _ => rfl))) pa_nil)))))) (pe_lst (pa_cons (pv 7) pa_nil))))))) pss_nil))))
      (pss_one (ps_ret (pe_callTy call_tuple_of (by rfl) T.tuple (by decide +kernel) (pa_cons (pv 3) pa_nil)))))), ?_⟩
    have lps := hL.2.len
    refine ⟨_, rfl, l, rfl, ⟨_, SqL.of hL.1⟩, fun D hD => ?_⟩
    refine lc_it (walk_list (K := K) (a := l) (xs := ps.map V.ref)) (fun i Hi => ∃ qs, Same H Hi ∧ Hi D = some (.lst (qs.map V.ref)) ∧ qs.length ≤ i ∧ Rows Hi qs ((Rs.take i).filter fun x => !decide (x = List.replicate w 0))) ⟨[], sameNew hD, upd_same, Nat.le_refl _, .nil⟩ ?_ ?_ ?_
    · rintro i Hi hi ⟨qs, S, _⟩
      exact .inl (.inl (S _ _ hL.1))
    · rintro i y Hi0 Hi hi ⟨qs, S, eD, hq, hQ⟩ ⟨rfl, hy⟩
      rw [List.length_map] at hi
      rw [List.getElem?_map] at hy
      obtain ⟨px, hpx, rfl⟩ := Option.map_eq_some_iff.mp hy
      obtain ⟨x, hx0, hX⟩ := Rows.get hL.2 hpx
      have hxl := hlen x (List.mem_of_getElem? hx0)
      refine ⟨rfl, ?_⟩
      refine ⟨_, rfl, (by show 1 ≤ sizeLine; decide), fun l1 nl1 => ?_⟩
      have T1 := sameNew (o := .tup [V.int 0]) nl1
      refine ⟨_, rfl, l1, _, [.int 0], rfl, rfl, SqT.of upd_same, (fun z => by cases z), by omega, by omega, (by decide), fun q H2 T2 hq2 ht => ?_⟩
      have e := ht upd_same
      rw [zeros_map] at e
      have Sx := S.trans (T1.trans T2)
      have eD2 := T2 _ _ (T1 _ _ eD)
      have hQ2 := hQ.keep (T1.trans T2)
      have e3 : PyData.eqv (.tuple (x.map PyData.int)) (.tuple ((List.replicate w (0 : Int)).map PyData.int)) = decide (x = List.replicate w 0) := eq3 _ _ (by rw [List.length_replicate, hxl]) (by omega)
      refine ⟨_, _, dp_row (Sx _ _ hX), dp_row e, sh3 _ (by omega), sh3 _ (by rw [List.length_replicate]; exact hw3), _, rfl, ?_⟩
      rw [e3, take_at hx0, List.filter_append]
      refine iteB (fun z => ?_) (fun z => ?_)
      · rw [show [x].filter (fun x => !decide (x = List.replicate w 0)) = [x] by rw [List.filter_cons, if_pos z]; rfl]
        refine ⟨_, rfl, _, eD2, by rw [List.length_map, sizeLine_eq]; omega, qs ++ [px], same_upd Sx hD, by rw [List.map_append]; exact upd_same, by rw [List.length_append]; show _ + 1 ≤ _; omega, ?_⟩
        exact Rows.snoc (RT.upd (Sx _ _ hX) eD2) (Rows.upd hQ2 eD2)
      · rw [show [x].filter (fun x => !decide (x = List.replicate w 0)) = [] by rw [List.filter_cons, if_neg (by rw [z]; exact Bool.false_ne_true)]; rfl]
        refine ⟨qs, Sx, eD2, by omega, ?_⟩
        rw [List.append_nil]
        exact hQ2
    rintro H1 ⟨qs, S1, eD, hq, hQ⟩
    rw [List.length_map, lps, List.take_of_length_le (Nat.le_refl _)] at hQ
    rw [List.length_map] at hq
    refine ⟨(by show 0 ≤ sizeLine; decide), fun f0 nf0 => ?_⟩
    have S2 := sameNew (o := .lst []) nf0
    refine ⟨_, _, rfl, ?_⟩
    refine ⟨_, rfl, _, rfl, by omega, by omega, ?_⟩
    rw [Int.toNat_natCast]
    refine for_range (lo := 0) (n := w) (fun c σ Hj => ∃ fl fs A lf ls left L x4 x5 x6 x7, σ = [some (.ref l), some (.int ((w : Nat) : Int)), some (.ref lf), some (.ref fl), x4, x5, x6, x7] ∧ Same H Hj ∧ LRows Hj lf ls left ∧ LRows Hj fl fs A ∧ left.length ≤ 100 ∧ Ec w c (2 ^ ec M c) (2 ^ nb M c) Rs L A left) ?_ ?_ ?_
    · refine ⟨f0, [], [], D, qs, _, [], _, _, _, _, rfl, S1.trans S2, ⟨S2 _ _ eD, hQ.keep S2⟩, ⟨upd_same, .nil⟩, by have := hQ.len; omega, ?_⟩
      refine Ec.up (Ec.start hlen hlim fun x => ?_) (Nat.le_refl _) (Nat.zero_le _)
      rw [List.mem_filter, Bool.not_eq_true', decide_eq_false_iff_not]
    · rintro c σ H3 hc ⟨fl, fs, A, lf, ls, left, L, x4, x5, x6, x7, rfl, S3, hLf, hF, h100, hE⟩
      rw [Int.zero_add]
      have ecb : ec M c ≤ 3858 := ec_le hM (by omega)
      have nbb : nb M (c + 1) ≤ 36000 := nb_le hM (by omega)
      have nbs : nb M (c + 1) = nb M c + (8 * ec M c + 2) + 2 := rfl
      refine ⟨_, rfl, _, rfl, lf, ls, left, w, c, ec M c, rfl, hLf, h100, hE.len, hE.low, hc, hw3, by omega, hE.lim, fun t s r ss rs S R H4 S4 ht hS hR s1 rl dv => ?_⟩
      refine ⟨t, _, rfl, SqT.of ht, rfl, _, _, rfl, _, _, rfl, rfl, ?_⟩
      refine ⟨_, rfl, (by show 0 ≤ sizeLine; decide), fun e0 ne0 => ?_⟩
      have S5 := sameNew (o := .lst []) ne0
      have lss := hS.2.len
      have S35 := S3.trans (S4.trans S5)
      cases S with
      | nil =>
        obtain rfl : ss = [] := List.length_eq_zero_iff.mp lss
        refine .inl ⟨.list [], .list [], .lst (SqL.of (S5 _ _ hS.1)) .nil, .lst (SqL.of upd_same) .nil, (by decide +kernel), (by decide +kernel), ?_⟩
        refine ⟨_, rfl, ?_⟩
        refine ite_f (by decide +kernel) ?_
        exact ⟨fl, fs, A, r, rs, R, L, _, _, _, _, rfl, S35, ⟨S5 _ _ hR.1, hR.2.keep S5⟩, ⟨S5 _ _ (S4 _ _ hF.1), hF.2.keep (S4.trans S5)⟩, rl, Ec.up (hE.none dv) (K8_two _) (two_mono (by omega))⟩
      | cons f S' =>
        obtain rfl : S' = [] := List.length_eq_zero_iff.mp (by rw [List.length_cons] at s1; omega)
        obtain ⟨pf, rfl⟩ : ∃ pf, ss = [pf] := List.length_eq_one_iff.mp lss
        have hf0 : RT H4 pf f := by
          obtain ⟨g, h1, h2⟩ := Rows.get hS.2 (i := 0) (p := pf) rfl
          cases h1
          exact h2
        refine .inr ⟨s, e0, _, [], rfl, rfl, S5 _ _ hS.1, upd_same, (by simp), ?_⟩
        refine ⟨_, rfl, ?_⟩
        refine iteT ?_
        refine ⟨_, rfl, s, _, 0, .ref pf, rfl, rfl, SqL.of (S5 _ _ hS.1), (show atI _ ((0 : Nat) : Int) = _ from atI_nat rfl), ?_⟩
        have fS : f ∈ [f] := List.mem_singleton.mpr rfl
        have lf' := dv.lenS f fS
        have b8 := (dv.lim f (List.mem_append_left _ fS)).mono (K8_two _)
        refine ⟨pf, f, w, c, rfl, rfl, rfl, S5 _ _ hf0, lf', hw3, hc, (dv.lowS f fS).2, b8.mono (two_mono (by omega)), fun pg g H6 S6 hg lg gp hgf => ?_⟩
        have S36 := (S4.trans S5).trans S6
        have hF6 := S36 _ _ hF.1
        have hFr6 := hF.2.keep S36
        have gcb : (toF g c).natAbs ≤ 2 ^ ec M c := by
          have := dv.cl f fS
          rcases hgf with e | e
          · rw [e]; exact this
          · rw [e, Int.natAbs_neg]; exact this
        have gl8 : LimL (2 ^ (8 * ec M c + 2)) g := fun i => by
          have := b8 i
          rcases hgf with e | e
          · rw [e]; exact this
          · rw [e, Int.natAbs_neg]; exact this
        have gpiv : pivotOf g = c := pivotOf_eq (fun i hi => by
          have := (dv.lowS f fS).1 i hi
          rcases hgf with e | e
          · rw [e]; exact this
          · rw [e, this]; rfl) (by omega)
        have hEn := hE.one dv lg gp hgf
        refine ⟨_, rfl, fl, rfl, ⟨_, SqL.of hF6⟩, fun D2 hD2 => ?_⟩
        refine lc_it (walk_list (K := K) (a := fl) (xs := fs.map V.ref)) (fun i Hi => ∃ zs, Same H6 Hi ∧ Hi D2 = some (.lst (zs.map V.ref)) ∧ zs.length = i ∧ Rows Hi zs ((A.take i).map fun e => lessL e g (Int.fdiv (toF e c) (toF g c)))) ⟨[], sameNew hD2, upd_same, rfl, .nil⟩ ?_ ?_ ?_
        · rintro i Hi hi ⟨zs, S7, _⟩
          exact .inl (.inl (S7 _ _ hF6))
        · rintro i y Hi0 Hi hi ⟨zs, S7, eD7, hz, hZ⟩ ⟨rfl, hy⟩
          rw [List.length_map] at hi
          rw [List.getElem?_map] at hy
          obtain ⟨pe, hpe, rfl⟩ := Option.map_eq_some_iff.mp hy
          obtain ⟨e, he0, hE0⟩ := Rows.get hFr6 hpe
          have heE := S7 _ _ hE0
          have heM : e ∈ A := List.mem_of_getElem? he0
          have hle := hE.red.bas.len e heM
          have lA := hE.many
          have lfs := hF.2.len
          refine ⟨rfl, ?_⟩
          dsimp only [tYes]
          rw [if_pos rfl]
          have rq0 : toF g c ≠ 0 := by omega
          have k1 := fd_le (f := toF e c) rq0
          have k2 := hE.red.lim e heM c
          refine ⟨_, rfl, _, rfl, _, rfl, _, rfl, pe, _, _, _, rfl, rfl, SqT.of heE, at_toF (by omega), _, rfl, _, rfl, pg, _, _, _, rfl, rfl, SqT.of (S7 _ _ hg), at_toF (by omega), _, _, rfl, rfl, cdiv rq0 gcb (by omega), pe, pg, _, e, g, rfl, heE, S7 _ _ hg, by omega, by omega, big_of (k := nb M c) (by omega) (by omega), gl8.mono (two_mono (by omega)), fun z H8 S8 hZ8 => ?_⟩
          have eD8 := S8 _ _ eD7
          refine ⟨zs.map V.ref, eD8, by rw [List.length_map, hz, sizeLine_eq]; omega, zs ++ [z], same_upd (S7.trans S8) hD2, by rw [List.map_append]; exact upd_same, by rw [List.length_append, hz]; rfl, ?_⟩
          rw [take_at he0, List.map_append]
          exact Rows.snoc (RT.upd hZ8 eD8) (Rows.upd (hZ.keep S8) eD8)
        rintro H9 ⟨zs, S9, eD9, hz, hZ⟩
        rw [List.length_map] at hz hZ
        rw [List.take_of_length_le (by rw [hF.2.len]; exact Nat.le_refl _)] at hZ
        have lA := hE.many
        have lfs := hF.2.len
        refine ⟨_, rfl, (by show 1 ≤ sizeLine; decide), fun l9 nl9 => ?_⟩
        have S10 := sameNew (o := .lst [V.ref pg]) nl9
        refine ⟨D2, l9, zs.map V.ref, [.ref pg], rfl, rfl, S10 _ _ eD9, upd_same, by rw [List.length_map, hz, sizeLine_eq]; show _ + 1 ≤ _; omega, fun l11 nl11 => ?_⟩
        have S11 := sameNew (o := .lst (zs.map V.ref ++ [V.ref pg])) nl11
        have S611 := S9.trans (S10.trans S11)
        have S511 := S6.trans S611
        refine ⟨l11, zs ++ [pg], redS A g, r, rs, R, L ++ [g], _, _, _, _, rfl, S35.trans S511, ⟨S511 _ _ (S5 _ _ hR.1), hR.2.keep (S5.trans S511)⟩, ⟨by rw [List.map_append]; exact upd_same, ?_⟩, rl, Ec.up hEn (K8_two _) ?_⟩
        · unfold redS
          rw [gpiv]
          exact Rows.snoc (S611 _ _ hg) (hZ.keep (S10.trans S11))
        · have a := red_two (i := nb M c) (j := 8 * ec M c + 2)
          have b := Nat.mul_le_mul_left (2 ^ nb M c + 1) (K8_two (ec M c))
          rw [nbs]
          exact Nat.le_trans (Nat.add_le_add_left b _) a
    · rintro σ Hj ⟨fl, fs, A, lf, ls, left, L, x4, x5, x6, x7, rfl, S3, hLf, hF, h100, hE⟩
      obtain ⟨bA, sA⟩ := hE.done
      refine ⟨_, rfl, fl, _, rfl, .inl ⟨SqL.of hF.1, fun z hz => ?_⟩⟩
      exact k z fs A _ (S3.trans (sameNew hz)) ⟨upd_same, hF.2.keep (sameNew hz)⟩ bA sA
end
end K42

set_option Elab.async false
set_option linter.all false
set_option maxRecDepth 100000
set_option maxHeartbeats 4000000
open L2 in
local macro_rules | `(tactic| walk_at "q1") => `(tactic| first
  | refine ⟨_, rfl, ?_⟩
  | refine ⟨_, _, rfl, rfl, ?_⟩
  | refine And.intro (show CMul _ _ from Or.inr ⟨by decide, by decide⟩) ?_
  | refine And.intro (show CMul _ _ from Or.inl ⟨by first | decide | omega, by first | decide | omega⟩) ?_
  | refine And.intro (show CMul _ _ from Or.inr ⟨by omega, by omega⟩) ?_
  | refine And.intro (show CDiv _ _ from ⟨by omega, by omega⟩) ?_
  | refine And.intro (Lat.cdivw (by omega) (by omega)) ?_
  | refine And.intro (show Dt.CPowG _ _ from ⟨by decide, by decide +kernel⟩) ?_
  | refine And.intro (by first | decide | omega) ?_
  | refine And.intro (Int.pow_pos (Int.pow_pos (by decide))) ?_
  | refine ⟨_, _, _, _, rfl, rfl, SqL.of (by first | assumption | exact upd_same), (by rfl), ?_⟩
  | refine ⟨_, _, _, _, rfl, rfl, (by first | assumption | exact upd_same), (by rfl), ?_⟩
  | refine Or.inl ⟨_, rfl, ?_⟩
  | refine Or.inr ⟨_, rfl, ?_⟩)
local macro_rules | `(tactic| walk_at "q") => `(tactic| repeat (walk_at "q1"))
local macro_rules | `(tactic| walk_at "eqt") => `(tactic| (refine ⟨_, rfl, ?_⟩; refine ⟨rfl, ?_⟩; first
  | (refine ⟨true, rfl, ?_⟩; refine L2.iteT ?_)
  | (refine ⟨false, rfl, ?_⟩; refine L2.iteF ?_)))
local macro_rules | `(tactic| walk_at "sz") => `(tactic| (rw [PySem.sizeLine_eq]; simp))
namespace K42
open PySem PySem.Spec PyProof.Rows L2 Dt An Rp Lat
section
variable {P : Program} {w : World} {K : PySem.W.Frag} {mg : Str → Option Value} {base : Heap} {a : Ads}
def spFirst : Sp := fun vs H Q _ => ∃ p r, vs = [.ref p] ∧ RT H p r ∧ r.length ≤ 3 ∧ pivotOf r < r.length ∧ ∀ H', Same H H' → Q (.int ((pivotOf r : Nat) : Int)) H'
theorem ok_first (T : Txt K mg a) : FnOk P w K mg base CX0 1 a.first a.fd_first ps__law_first spFirst := by
  have F := T.F_first
  refine F.ok (k := 0) sc__law_first (fun vs H Q E h => ?_) (fun cdv A outer s H vs Q E hr h => ?_)
  · obtain ⟨p, r, rfl, hR, h3, hp, k⟩ := h
    rfl
  · obtain ⟨p, r, rfl, hR, h3, hp, k⟩ := h
    have hu := hu_of hr
    refine ⟨_, (pss_one (ps_ret (pe_ix ix_list (pe_lc (own := [("_law_at", 1)]) rfl sc__law_first.nd (pi_range1 (by rfl) T.range (pa_cons (pe_callB call_len (by rfl) T.len (by decide +kernel) (pa_cons (pv 0) pa_nil)) pa_nil)) (blkOk_by (N := nm__law_first) (sc := defScope s__law_first) (by decide +kernel)) (fun _ _ _ _ _ => (pg_name (i := 1) sc__law_first.nd rfl (Or.inl rfl))) (fun _ _ _ _ _ => (pts_one (pt_cmpR op_ne (pe_ix (r := rIxT K) ix_tup (pv 0) (pv 1) (fun _ _ => rfl)) pe_int (nomark _)))) (fun _ _ _ _ _ => (pv 1))) pe_int (fun _ _ => rfl)))), ?_⟩
    refine ⟨_, rfl, _, _, rfl, .inr ⟨_, SqT.of hR, rfl⟩, ?_⟩
    rw [List.length_map]
    refine ⟨_, rfl, by omega, by omega, fun D hD => ?_⟩
    rw [Int.toNat_natCast]
    refine lc_it (walk_range (lo := 0) (n := r.length)) (fun i Hi => ∃ xs, Same H Hi ∧ Hi D = some (.lst xs) ∧ xs.length ≤ i ∧ (pivotOf r < i → xs[0]? = some (.int ((pivotOf r : Nat) : Int))) ∧ (i ≤ pivotOf r → xs = [])) ⟨[], sameNew hD, upd_same, Nat.le_refl _, (fun z => by omega), fun _ => rfl⟩ ?_ ?_ ?_
    · rintro i Hi hi _
      trivial
    · rintro i y Hi0 Hi hi ⟨xs, S, eD, hl, h1, h2⟩ ⟨rfl, rfl⟩
      dsimp only
      rw [Int.zero_add]
      refine ⟨rfl, ?_⟩
      refine ⟨_, rfl, _, rfl, p, _, _, _, rfl, rfl, SqT.of (S _ _ hR), at_toF hi, rfl, _, rfl, ?_⟩
      rw [vint0]
      by_cases z : toF r i = 0
      · refine ite_f (by rw [decide_eq_true z]; rfl) ?_
        have n : i ≠ pivotOf r := fun e => pivotOf_at hp (by rw [← e]; exact z)
        exact ⟨xs, S, eD, by omega, fun q => h1 (by omega), fun q => h2 (by omega)⟩
      · refine ite_t (by rw [decide_eq_false z]; rfl) ?_
        have n : pivotOf r ≤ i := Decidable.byContradiction fun q => z (pivotOf_low (by omega))
        refine ⟨_, rfl, _, eD, by rw [sizeLine_eq]; omega, _, same_upd S hD, upd_same, by rw [List.length_append]; show _ + 1 ≤ _; omega, fun _ => ?_, fun q => by omega⟩
        rcases Nat.lt_or_ge (pivotOf r) i with c | c
        · have := h1 c
          rw [List.getElem?_append_left]
          · exact this
          · exact (List.getElem?_eq_some_iff.mp this).1
        · rw [h2 c, show pivotOf r = i by omega]
          rfl
    rintro H5 ⟨xs, S, eD, hl, h1, h2⟩
    exact ⟨D, xs, 0, _, rfl, rfl, SqL.of eD, (show atI xs ((0 : Nat) : Int) = _ from atI_nat (h1 hp)), k H5 S⟩
theorem Wi.up {w V V' : Nat} {B B1 : List (List Int)} {v0 v : List Int} (h : Wi w V B B1 v0 v) (l : V ≤ V') : Wi w V' B B1 v0 v := ⟨h.len, h.iff, h.red, h.lim.mono l⟩
def spWithin : Sp := fun vs H Q _ => ∃ p t v w ps Bs M, vs = [.ref p, .ref t] ∧ RT H p v ∧ TRows H t ps Bs ∧ Bas w Bs ∧ Bs.length ≤ 3 ∧ v.length = w ∧ 1 ≤ w ∧ w ≤ 3 ∧ M ≤ 400 ∧ LimL (2 ^ M) v ∧ (∀ x ∈ Bs, LimL (2 ^ M) x) ∧ ∀ b H', Same H H' → (b = true ↔ In (Bs.map toF) (toF v)) → Q (.bl b) H'
theorem ok_is_within (T : Txt K mg a) : FnOk P w K mg base CX0 2 a.is_within a.fd_is_within ps__law_is_within spWithin := by
  have F := T.F_is_within
  refine F.ok (k := 1) sc__law_is_within (fun vs H Q E h => ?_) (fun cdv A outer s H vs Q E hr h => ?_)
  · obtain ⟨p, t, v, w, ps, Bs, M, rfl, hV, hB, bB, hm, hl, hw1, hw3, hM, hlimv, hlim, k⟩ := h
    rfl
  · obtain ⟨p, t, v, w, ps, Bs, M, rfl, hV, hB, bB, hm, hl, hw1, hw3, hM, hlimv, hlim, k⟩ := h
    have hu := hu_of hr
    refine ⟨_, (pss_cons (ps_for PassesOwn.never rfl (pi_tup (pv 1)) (pg_name (i := 2) sc__law_is_within.nd rfl (Or.inl rfl)) (pss_one (ps_set (i := 0) sc__law_is_within.nd rfl (Or.inl rfl) (pe_call (ok_minus T) (hr.mono (by decide)) (by rfl) T.g_minus T.F_minus.kp (b_minus T) .nil pass0 (pa_cons (pv 0) (pa_cons (pv 2) (pa_cons (pe_op Fz.op_fdivZ (pe_ix ix_tup (pv 0) (pe_call (ok_first T) (hr.mono (by decide)) (by rfl) T.g_first T.F_first.kp (b_first T) .nil pass0 (pa_cons (pv 2) pa_nil)) (fun _ _ => rfl)) (pe_ix ix_tup (pv 2) (pe_call (ok_first T) (hr.mono (by decide)) (by rfl) T.g_first T.F_first.kp (b_first T) .nil pass0 (pa_cons (pv 2) pa_nil)) (fun _ _ => rfl))) pa_nil)))))))
      (pss_one (ps_ret (pe_cmpR (op_eqD hr.units) (pv 0) (pe_op Ts.op_mulZ (pe_tup (pa_cons pe_int pa_nil)) (pe_callB call_len (by rfl) T.len (by decide +kernel) (pa_cons (pv 0) pa_nil))) (nomark _))))), ?_⟩
    refine ⟨_, rfl, t, rfl, ⟨_, SqT.of hB.1⟩, ?_⟩
    refine for_tup (K := K) (a := t) (xs := ps.map V.ref) (fun j σ Hj => ∃ pv v' x, σ = [some (.ref pv), some (.ref t), x] ∧ Same H Hj ∧ RT Hj pv v' ∧ j ≤ Bs.length ∧ Wi w (2 ^ (j * (M + 2) + M)) Bs (Bs.take j) v v') ?_ ?_ ?_ ?_
    · exact ⟨p, v, _, rfl, fun _ _ e => e, hV, Nat.zero_le _, hl, Iff.rfl, (fun _ z => by cases z), hlimv.mono (two_mono (by omega))⟩
    · rintro j σ Hj hj ⟨pv, v', x, rfl, S, _⟩
      exact SqT.of (S _ _ hB.1)
    · rintro j u σ Hj hu ⟨pv, v', x, rfl, S, hv, hj, hW⟩
      rw [List.getElem?_map] at hu
      obtain ⟨pb, hpb, rfl⟩ := Option.map_eq_some_iff.mp hu
      obtain ⟨b, hb0, hB0⟩ := hB.2.get hpb
      have hmem : b ∈ Bs := List.mem_of_getElem? hb0
      have hj1 := (List.getElem?_eq_some_iff.mp hb0).1
      have hlb := bB.len b hmem
      obtain ⟨pb1, pb2⟩ := bB.piv hmem
      have lv := hW.len
      have rq0 : toF b (pivotOf b) ≠ 0 := by have := pb1.2; omega
      have q1 := fd_le (f := toF v' (pivotOf b)) rq0
      have q2 := hW.lim (pivotOf b)
      have jb : j * (M + 2) + M ≤ 3 * 402 + 400 := by
        have : j * (M + 2) ≤ 3 * 402 := Nat.mul_le_mul (by omega) (by omega)
        omega
      refine ⟨_, rfl, _, rfl, _, rfl, _, rfl, pb, b, rfl, S _ _ hB0, by omega, by omega, fun H2 S2 => ?_⟩
      refine ⟨pv, _, _, _, rfl, rfl, SqT.of (S2 _ _ hv), at_toF (by omega), ?_⟩
      refine ⟨_, rfl, _, rfl, pb, b, rfl, S2 _ _ (S _ _ hB0), by omega, by omega, fun H3 S3 => ?_⟩
      refine ⟨pb, _, _, _, rfl, rfl, SqT.of (S3 _ _ (S2 _ _ (S _ _ hB0))), at_toF (by omega), ?_⟩
      refine ⟨_, _, rfl, rfl, cdiv rq0 (hlim b hmem _) (by omega), ?_⟩
      have S23 := S2.trans S3
      refine ⟨pv, pb, _, v', b, rfl, S23 _ _ hv, S23 _ _ (S _ _ hB0), by omega, by omega, big_of (k := j * (M + 2) + M) (by omega) (by omega), (hlim b hmem).mono (two_mono (by omega)), fun z H4 S4 hz => ?_⟩
      refine ⟨z, _, _, rfl, S.trans (S23.trans S4), hz, hj1, ?_⟩
      rw [take_at hb0]
      refine Wi.up (hW.step bB hlim hmem fun x hx q s hq hs => ?_) ?_
      · have inc := bB.hn.inc
        rw [at_split hb0, List.map_append, List.pairwise_append] at inc
        exact inc.2.2 (toF x) (List.mem_map.mpr ⟨x, hx, rfl⟩) (toF b) (by rw [List.map_cons]; exact List.mem_cons_self) q s hq hs
      · have := red_two (i := j * (M + 2) + M) (j := M)
        rwa [show j * (M + 2) + M + M + 2 = (j + 1) * (M + 2) + M by rw [Nat.add_mul, Nat.one_mul]; omega] at this
    · rintro σ Hj ⟨pv, v', x, rfl, S, hv, hj, hW⟩
      rw [List.length_map, hB.2.len, List.take_of_length_le (Nat.le_refl _)] at hW
      have lv := hW.len
      refine ⟨_, rfl, (by show 1 ≤ sizeLine; decide), fun l1 nl1 => ?_⟩
      have S1 := sameNew (o := .tup [V.int 0]) nl1
      refine ⟨_, rfl, .ref pv, w, rfl, .inr ⟨_, SqT.of (S1 _ _ hv), (by rw [List.length_map, lv])⟩, l1, _, [.int 0], rfl, rfl, SqT.of upd_same, (fun z => by cases z), by omega, by omega, (by decide), fun q H2 S2 hq ht => ?_⟩
      have e := ht upd_same
      rw [zeros_map] at e
      refine ⟨_, _, dp_row (S2 _ _ (S1 _ _ hv)), dp_row e, sh3 _ (by omega), sh3 _ (by rw [List.length_replicate]; exact hw3), ?_⟩
      rw [eq3 _ _ (by rw [List.length_replicate, lv]) (by omega)]
      exact k _ H2 (S.trans (S1.trans S2)) (by rw [decide_eq_true_iff]; exact hW.done bB)
end
end K42

set_option Elab.async false
set_option linter.all false
set_option maxRecDepth 100000
set_option maxHeartbeats 4000000
open L2 in
local macro_rules | `(tactic| walk_at "q1") => `(tactic| first
  | refine ⟨_, rfl, ?_⟩
  | refine ⟨_, _, rfl, rfl, ?_⟩
  | refine And.intro (show CMul _ _ from Or.inr ⟨by decide, by decide⟩) ?_
  | refine And.intro (show CMul _ _ from Or.inl ⟨by first | decide | omega, by first | decide | omega⟩) ?_
  | refine And.intro (show CMul _ _ from Or.inr ⟨by omega, by omega⟩) ?_
  | refine And.intro (show CDiv _ _ from ⟨by omega, by omega⟩) ?_
  | refine And.intro (Lat.cdivw (by omega) (by omega)) ?_
  | refine And.intro (show Dt.CPowG _ _ from ⟨by decide, by decide +kernel⟩) ?_
  | refine And.intro (by first | decide | omega) ?_
  | refine And.intro (Int.pow_pos (Int.pow_pos (by decide))) ?_
  | refine ⟨_, _, _, _, rfl, rfl, SqL.of (by first | assumption | exact upd_same), (by rfl), ?_⟩
  | refine ⟨_, _, _, _, rfl, rfl, (by first | assumption | exact upd_same), (by rfl), ?_⟩
  | refine Or.inl ⟨_, rfl, ?_⟩
  | refine Or.inr ⟨_, rfl, ?_⟩)
local macro_rules | `(tactic| walk_at "q") => `(tactic| repeat (walk_at "q1"))
local macro_rules | `(tactic| walk_at "eqt") => `(tactic| (refine ⟨_, rfl, ?_⟩; refine ⟨rfl, ?_⟩; first
  | (refine ⟨true, rfl, ?_⟩; refine L2.iteT ?_)
  | (refine ⟨false, rfl, ?_⟩; refine L2.iteF ?_)))
local macro_rules | `(tactic| walk_at "sz") => `(tactic| (rw [PySem.sizeLine_eq]; simp))
namespace K42
open PySem PySem.Spec PyProof.Rows L2 Dt An Rp Lat
section
variable {P : Program} {w : World} {K : PySem.W.Frag} {mg : Str → Option Value} {base : Heap} {a : Ads}
theorem RT.roll {d p : Addr} {H H' : Hp} {r : List Int} (h : RT H p r) (hD : Die H d) (R : Rolled d H H') : RT H' p r := R.keep p _ (fun z => by
  obtain ⟨x, y, u, e⟩ := hD
  have h2 : H p = _ := h
  rw [z, e] at h2
  cases h2) h
theorem Rows.roll {d : Addr} {H H' : Hp} {ps : List Addr} {Rs : List (List Int)} (h : Rows H ps Rs) (hD : Die H d) (R : Rolled d H H') : Rows H' ps Rs := Paired.mapP h fun _ _ e => RT.roll e hD R
theorem less_lim {r u : List Int} {k : Int} {t : Nat} (h : r.length = u.length) (hr : LimL (2 ^ t) r) (hu : LimL (2 ^ t) u) (hk : k.natAbs ≤ 3) : LimL (2 ^ (t + 2)) (lessL r u k) := fun i => by
  rw [toF_less h]
  have a := sub_abs (toF r i) k (toF u i)
  have b := Nat.mul_le_mul hk (hu i)
  have c := hr i
  have e : 2 ^ (t + 2) = 4 * 2 ^ t := by rw [Nat.pow_add, Nat.mul_comm]
  rw [e]
  exact Nat.le_trans a (by omega)
/-- the row, perhaps made smaller by one of those that are there -/
def tMaybe : TS := fun D σ H => ∃ d l ps Rs rp r w t, σ[0]? = some (some (V.ref d)) ∧ σ[2]? = some (some (V.ref l)) ∧ σ[5]? = some (some (V.ref rp)) ∧ Die H d ∧ l ≠ d ∧ LRows H l ps Rs ∧ Rs.length ≤ 5 ∧ (∀ x ∈ Rs, x.length = w) ∧ w ≤ 3 ∧ RT H rp r ∧ r.length = w ∧ LimL (2 ^ t) r ∧ (∀ x ∈ Rs, LimL (2 ^ t) x) ∧ t ≤ 60 ∧
  ∀ rp' g H', Rolled d H H' → RT H' rp' g → g.length = w → LimL (2 ^ (t + 2)) g → D.nx (σ.set 5 (some (.ref rp'))) H'
theorem maybe_ok {D : Ends} {σ : L2.St} {H : Hp} (h : tMaybe D σ H) : tIfS (tAnd (tTest (tOp (Le.rNeL K) (tVar 2) (tLst tNil))) (tTest (tOp rEq (tCall spSpin [] E0 (tCons (tVar 0) (tCons (tC (V.int 4)) tNil))) (tC (V.int 0)))))
    (tAsg (tCall spMinus [] E0 (tCons (tVar 5) (tCons (tCall (spPick K) [] E0 (tCons (tVar 0) (tCons (tVar 2) tNil))) (tCons (tOp (rI0 fun i j => V.int (i - j)) (tCall spSpin [] E0 (tCons (tVar 0) (tCons (tC (V.int 5)) tNil))) (tC (V.int 2))) tNil)))) (gName 5)) tNext D σ H := by
  obtain ⟨d, l, ps, Rs, rp, r, w, t, h0, h2, h5, hD, nl, hL, hm, hlen, hw, hR, hl, lim, lims, ht, k⟩ := h
  have same : σ.set 5 (some (.ref rp)) = σ := by
    obtain ⟨q1, q2⟩ := List.getElem?_eq_some_iff.mp h5
    rw [← q2, List.set_getElem_self]
  refine ⟨_, h2, (by show 0 ≤ sizeLine; decide), fun e0 ne0 => ?_⟩
  have S1 := sameNew (o := .lst []) ne0
  have R1 : Rolled d H (upd H e0 (.lst [])) := same_roll hD S1
  cases Rs with
  | nil =>
    obtain rfl : ps = [] := List.length_eq_zero_iff.mp hL.2.len
    refine .inl ⟨.list [], .list [], .lst (SqL.of (S1 _ _ hL.1)) .nil, .lst (SqL.of upd_same) .nil, (by decide +kernel), (by decide +kernel), ?_⟩
    refine ⟨_, rfl, ?_⟩
    refine ite_f (by decide +kernel) ?_
    refine iteF ?_
    have := k rp r _ R1 (S1 _ _ hR) hl (lim.mono (two_mono (by omega)))
    rw [same] at this
    exact this
  | cons x0 xr =>
    have lp := hL.2.len
    rw [List.length_cons] at lp
    refine .inr ⟨l, e0, _, [], rfl, rfl, S1 _ _ hL.1, upd_same, by rw [List.length_map, lp]; simp, ?_⟩
    refine ⟨_, rfl, ?_⟩
    refine iteT ?_
    refine ⟨_, h0, d, 4, rfl, R1.die, (by decide), (by decide), fun v H2 v0 v4 R2 => ?_⟩
    refine ⟨rfl, _, rfl, ?_⟩
    have R12 := R1.trans R2
    refine iteB (fun z => ?_) (fun z => ?_)
    · refine ⟨_, h5, ?_⟩
      refine ⟨_, h0, _, h2, d, .ref l, _, rfl, R2.die, ⟨nl, .inl (SqL.of (R12.keep l _ nl hL.1))⟩, by rw [List.length_map]; omega, by rw [List.length_map]; rw [List.length_cons] at hm; omega, fun u H3 hu R3 => ?_⟩
      obtain ⟨po, hpo, rfl⟩ := List.mem_map.mp hu
      obtain ⟨j, o, hj1, hj2, hO⟩ : ∃ (j : Nat) (o : List Int), ps[j]? = some po ∧ (x0 :: xr)[j]? = some o ∧ RT H po o := by
        obtain ⟨j, hj, e⟩ := List.mem_iff_getElem.mp hpo
        have e2 : ps[j]? = some po := by rw [List.getElem?_eq_getElem hj, e]
        obtain ⟨o, h1, h2⟩ := hL.2.get e2
        exact ⟨j, o, e2, h1, h2⟩
      have om : o ∈ x0 :: xr := List.mem_of_getElem? hj2
      have R13 := R12.trans R3
      refine ⟨_, h0, d, 5, rfl, R3.die, (by decide), (by decide), fun k5 H4 k0 k5' R4 => ?_⟩
      have R14 := R13.trans R4
      refine ⟨_, _, rfl, rfl, ?_⟩
      refine ⟨rp, po, _, r, o, rfl, RT.roll hR hD R14, RT.roll hO hD R14, by rw [hl, hlen o om], by omega, big_of (k := 1) (by omega) (by decide), (lims o om).mono (two_mono (by omega)), fun z5 H5 S5 hz => ?_⟩
      exact k z5 _ H5 (R14.trans (same_roll R4.die S5)) hz (by rw [less_len (by rw [hl, hlen o om])]; exact hl) (less_lim (by rw [hl, hlen o om]) lim (lims o om) (by omega))
    · have := k rp r _ R12 (RT.roll hR hD R12) hl (lim.mono (two_mono (by omega)))
      rw [same] at this
      exact this
def spDrawn : Sp := fun vs H Q _ => ∃ d w, vs = [.ref d, .int ((w : Nat) : Int)] ∧ 1 ≤ w ∧ w ≤ 3 ∧ Die H d ∧ ∀ z ps Rs H', Rolled d H H' → H z = none → LRows H' z ps Rs → Rs.length ≤ 5 → (∀ r ∈ Rs, r.length = w) → (∀ x ∈ Rs, LimL (2 ^ 42) x) → Q (.ref z) H'
theorem ok_drawn_rows (T : Txt K mg a) : FnOk P w K mg base CX0 3 a.drawn_rows a.fd_drawn_rows ps__law_drawn_rows spDrawn := by
  have F := T.F_drawn_rows
  refine F.ok (k := 2) sc__law_drawn_rows (fun vs H Q E h => ?_) (fun cdv A outer s H vs Q E hr h => ?_)
  · obtain ⟨d, w, rfl, hw1, hw3, hD, k⟩ := h
    rfl
  · obtain ⟨d, w, rfl, hw1, hw3, hD, k⟩ := h
    have hu := hu_of hr
    refine ⟨_, (pss_cons (ps_set (i := 2) sc__law_drawn_rows.nd rfl (Or.inl rfl) (pe_lst pa_nil))
      (pss_cons (ps_for PassesOwn.never rfl (pi_range1 (by rfl) T.range (pa_cons (pe_call (ok_spin T) (hr.mono (by decide)) (by rfl) T.g_spin T.F_spin.kp (b_spin T) .nil pass0 (pa_cons (pv 0) (pa_cons pe_int pa_nil))) pa_nil)) (pg_name (i := 3) sc__law_drawn_rows.nd rfl (Or.inl rfl)) (pss_cons (ps_set (i := 4) sc__law_drawn_rows.nd rfl (Or.inr rfl) (pe_call (ok_pick T) (hr.mono (by decide)) (by rfl) T.g_pick T.F_pick.kp (b_pick T) .nil pass0 (pa_cons (pv 0) (pa_cons (pe_lst (pa_cons pe_int (pa_cons pe_int (pa_cons pe_int (pa_cons (pe_op op_powG pe_int pe_int) pa_nil))))) pa_nil))))
      (pss_cons (ps_set (i := 5) sc__law_drawn_rows.nd rfl (Or.inl rfl) (pe_callTy call_tuple_of (by rfl) T.tuple (by decide +kernel) (pa_cons (pe_lc (own := [("_law_column", 6)]) rfl sc__law_drawn_rows.nd (pi_range1 (by rfl) T.range (pa_cons (pv 1) pa_nil)) (blkOk_by (N := nm__law_drawn_rows) (sc := defScope s__law_drawn_rows) (by decide +kernel)) (fun _ _ _ _ _ => (pg_name (i := 6) sc__law_drawn_rows.nd rfl (Or.inl rfl))) (fun _ _ _ _ _ => pts_nil) (fun _ _ _ _ _ => (pe_op op_sub (pe_call (ok_spin T) (hr.mono (by decide)) (by rfl) T.g_spin T.F_spin.kp (b_spin T) .nil pass0 (pa_cons (pv 0) (pa_cons (pe_op op_add (pe_op op_mul pe_int (pv 4)) pe_int) pa_nil))) (pv 4)))) pa_nil)))
      (pss_cons (PS.to (t' := tMaybe) (ps_if (PW.pt (pw_and (pt_cmpR (Le.op_neL hr.units) (pv 2) (pe_lst pa_nil) (nomark _)) (pw_and1 (pt_cmpR op_eq (pe_call (ok_spin T) (hr.mono (by decide)) (by rfl) T.g_spin T.F_spin.kp (b_spin T) .nil pass0 (pa_cons (pv 0) (pa_cons pe_int pa_nil))) pe_int (nomark _))))) (pss_one (ps_set (i := 5) sc__law_drawn_rows.nd rfl (Or.inl rfl) (pe_call (ok_minus T) (hr.mono (by decide)) (by rfl) T.g_minus T.F_minus.kp (b_minus T) .nil pass0 (pa_cons (pv 5) (pa_cons (pe_call (ok_pick T) (hr.mono (by decide)) (by rfl) T.g_pick T.F_pick.kp (b_pick T) .nil pass0 (pa_cons (pv 0) (pa_cons (pv 2) pa_nil))) (pa_cons (pe_op op_sub (pe_call (ok_spin T) (hr.mono (by decide)) (by rfl) T.g_spin T.F_spin.kp (b_spin T) .nil pass0 (pa_cons (pv 0) (pa_cons pe_int pa_nil))) pe_int) pa_nil)))))) pss_nil) (fun D σ H h => maybe_ok h))
      (pss_one (ps_expr (pe_bm PySem.F.plainAttrs_list PySem.F.slot_list_append PySem.F.type_list_append mt_append (pv 2) (pa_cons (pv 5) pa_nil))))))))
      (pss_one (ps_ret (pv 2))))), ?_⟩
    refine ⟨(by show 0 ≤ sizeLine; decide), fun l0 nl0 => ?_⟩
    have S0 := sameNew (o := .lst []) nl0
    have n0 : l0 ≠ d := hD.ne nl0
    have R0 : Rolled d H (upd H l0 (.lst [])) := same_roll hD S0
    refine ⟨_, rfl, d, 6, rfl, R0.die, (by decide), (by decide), fun n H1 n1 n6 R1 => ?_⟩
    obtain ⟨n, rfl⟩ := Int.eq_ofNat_of_zero_le n1
    have R01 := R0.trans R1
    refine ⟨_, rfl, by omega, by omega, ?_⟩
    rw [Int.toNat_natCast]
    refine for_range (lo := 0) (n := n) (fun t σ Hj => ∃ ps Rs x3 x4 x5 x6, σ = [some (.ref d), some (.int ((w : Nat) : Int)), some (.ref l0), x3, x4, x5, x6] ∧ Rolled d H Hj ∧ LRows Hj l0 ps Rs ∧ Rs.length = t ∧ (∀ r ∈ Rs, r.length = w) ∧ ∀ x ∈ Rs, LimL (2 ^ (30 + 2 * t)) x) ?_ ?_ ?_
    · exact ⟨[], [], _, _, _, _, rfl, R01, ⟨R1.keep l0 _ n0 upd_same, .nil⟩, rfl, (fun _ z => by cases z), (fun _ z => by cases z)⟩
    · rintro t σ Hj ht ⟨ps, Rs, x3, x4, x5, x6, rfl, Rj, hL, hm, hlen, hlim⟩
      refine ⟨_, rfl, ?_⟩
      refine ⟨_, _, rfl, rfl, (show Dt.CPowG _ _ from ⟨by decide, by decide +kernel⟩), ?_⟩
      refine ⟨(by show 4 ≤ sizeLine; decide), fun lp nlp => ?_⟩
      have S2 := sameNew (o := .lst [V.int 2, V.int 3, V.int 6, V.int (10 ^ (Int.toNat 9))]) nlp
      have D2 := die_same Rj.die S2
      refine ⟨d, .ref lp, _, rfl, D2, ⟨Rj.die.ne nlp, .inl (SqL.of upd_same)⟩, (by decide), (by decide), fun v H3 hv R3 => ?_⟩
      obtain ⟨sz, rfl, sz0, sz9⟩ : ∃ sz : Int, v = .int sz ∧ 0 < sz ∧ sz ≤ 1000000000 := by
        simp only [List.mem_cons, List.mem_nil_iff, or_false] at hv
        rcases hv with h | h | h | h <;> subst h
        · exact ⟨2, rfl, by decide, by decide⟩
        · exact ⟨3, rfl, by decide, by decide⟩
        · exact ⟨6, rfl, by decide, by decide⟩
        · exact ⟨_, rfl, by decide +kernel, by decide +kernel⟩
      have R23 : Rolled d Hj H3 := (same_roll Rj.die S2).trans R3
      refine ⟨_, rfl, _, rfl, by omega, by omega, fun D hDn => ?_⟩
      rw [Int.toNat_natCast]
      have nD : D ≠ d := R3.die.ne hDn
      refine lc_it (walk_range (lo := 0) (n := w)) (fun i Hi => ∃ es : List Int, Rolled d H3 Hi ∧ Hi D = some (.lst (es.map V.int)) ∧ es.length = i ∧ ∀ e ∈ es, e.natAbs ≤ 2 ^ 30) ⟨[], same_roll R3.die (sameNew hDn), upd_same, rfl, (fun _ z => by cases z)⟩ ?_ ?_ ?_
      · rintro i Hi hi _
        trivial
      · rintro i y Hi0 Hi hi ⟨es, Ri, eD, hes, hb⟩ ⟨rfl, rfl⟩
        refine ⟨rfl, ?_⟩
        dsimp only [tYes]
        rw [if_pos rfl]
        refine ⟨_, rfl, _, rfl, _, _, rfl, rfl, .inl ⟨by decide, by decide⟩, _, _, rfl, rfl, d, _, rfl, Ri.die, by omega, by omega, fun r H4 r0 r1 R4 => ?_⟩
        refine ⟨_, rfl, _, _, rfl, rfl, ?_⟩
        have eD4 := R4.keep D _ nD eD
        refine ⟨_, eD4, by rw [List.length_map, sizeLine_eq]; omega, es ++ [r - sz], roll_upd (Ri.trans R4) hDn nD, by rw [List.map_append]; exact upd_same, by rw [List.length_append, hes]; rfl, fun e he => ?_⟩
        rcases List.mem_append.mp he with z | z
        · exact hb e z
        · rw [List.mem_singleton.mp z]
          omega
      rintro H5 ⟨es, R5, eD, hes, hb⟩
      refine ⟨D, _, rfl, .inl ⟨SqL.of eD, fun rp nrp => ?_⟩⟩
      have S6 := sameNew (o := .tup (es.map V.int)) nrp
      have R6 : Rolled d Hj (upd H5 rp (.tup (es.map V.int))) := (R23.trans R5).trans (same_roll R5.die S6)
      have hL6 := R6.keep l0 _ n0 hL.1
      refine ⟨d, l0, ps, Rs, rp, es, w, 30 + 2 * t, rfl, rfl, rfl, R6.die, n0, ⟨hL6, hL.2.roll Rj.die R6⟩, by omega, hlen, hw3, upd_same, hes, (lim_of hb).mono (two_mono (by omega)), hlim, by omega, fun rp' g H7 R7 hg lg limg => ?_⟩
      have hL7 := R7.keep l0 _ n0 hL6
      have lps := hL.2.len
      refine ⟨_, rfl, .inl ⟨rfl, _, SqL.of hL7⟩, ?_⟩
      refine ⟨_, rfl, l0, _, _, rfl, rfl, hL7, by rw [List.length_map, sizeLine_eq]; omega, ?_⟩
      refine ⟨ps ++ [rp'], Rs ++ [g], _, _, _, _, rfl, roll_upd ((Rj.trans R6).trans R7) nl0 n0, ⟨by rw [List.map_append]; exact upd_same, Rows.snoc (RT.upd hg hL7) (Rows.upd ((hL.2.roll Rj.die R6).roll R6.die R7) hL7)⟩, by rw [List.length_append, hm]; rfl, fun x hx => ?_, fun x hx => ?_⟩
      · rcases List.mem_append.mp hx with z | z
        · exact hlen x z
        · rw [List.mem_singleton.mp z]; exact lg
      · rcases List.mem_append.mp hx with z | z
        · exact (hlim x z).mono (two_mono (by omega))
        · rw [List.mem_singleton.mp z]; exact limg.mono (two_mono (by omega))
    · rintro σ Hj ⟨ps, Rs, x3, x4, x5, x6, rfl, Rj, hL, hm, hlen, hlim⟩
      exact ⟨_, rfl, k l0 ps Rs Hj Rj nl0 hL (by omega) hlen fun x hx => (hlim x hx).mono (two_mono (by omega))⟩
end
end K42

set_option Elab.async false
set_option linter.all false
set_option maxRecDepth 100000
set_option maxHeartbeats 4000000
open L2 in
local macro_rules | `(tactic| walk_at "q1") => `(tactic| first
  | refine ⟨_, rfl, ?_⟩
  | refine ⟨_, _, rfl, rfl, ?_⟩
  | refine And.intro (show CMul _ _ from Or.inr ⟨by decide, by decide⟩) ?_
  | refine And.intro (show CMul _ _ from Or.inl ⟨by first | decide | omega, by first | decide | omega⟩) ?_
  | refine And.intro (show CMul _ _ from Or.inr ⟨by omega, by omega⟩) ?_
  | refine And.intro (show CDiv _ _ from ⟨by omega, by omega⟩) ?_
  | refine And.intro (Lat.cdivw (by omega) (by omega)) ?_
  | refine And.intro (show Dt.CPowG _ _ from ⟨by decide, by decide +kernel⟩) ?_
  | refine And.intro (by first | decide | omega) ?_
  | refine And.intro (Int.pow_pos (Int.pow_pos (by decide))) ?_
  | refine ⟨_, _, _, _, rfl, rfl, SqL.of (by first | assumption | exact upd_same), (by rfl), ?_⟩
  | refine ⟨_, _, _, _, rfl, rfl, (by first | assumption | exact upd_same), (by rfl), ?_⟩
  | refine Or.inl ⟨_, rfl, ?_⟩
  | refine Or.inr ⟨_, rfl, ?_⟩)
local macro_rules | `(tactic| walk_at "q") => `(tactic| repeat (walk_at "q1"))
local macro_rules | `(tactic| walk_at "eqt") => `(tactic| (refine ⟨_, rfl, ?_⟩; refine ⟨rfl, ?_⟩; first
  | (refine ⟨true, rfl, ?_⟩; refine L2.iteT ?_)
  | (refine ⟨false, rfl, ?_⟩; refine L2.iteF ?_)))
local macro_rules | `(tactic| walk_at "sz") => `(tactic| (rw [PySem.sizeLine_eq]; simp))
namespace K42
open PySem PySem.Spec PyProof.Rows L2 Dt An Rp Lat
section
variable {P : Program} {w : World} {K : PySem.W.Frag} {mg : Str → Option Value} {base : Heap} {a : Ads}
theorem rows_perm {H : Hp} {ys zs : List V} (pm : ys.Perm zs) : ∀ {ps : List Addr} {Rs : List (List Int)}, Rows H ps Rs → zs = ps.map V.ref → ∃ qs Ss, ys = qs.map V.ref ∧ Rows H qs Ss ∧ Ss.Perm Rs := by
  induction pm with
  | nil =>
    intro ps Rs h e
    cases h with
    | nil => exact ⟨[], [], rfl, .nil, .refl _⟩
    | cons _ _ => cases e
  | cons x _ ih =>
    intro ps Rs h e
    cases h with
    | nil => cases e
    | @cons p r ps' Rs' hp ht =>
      rw [List.map_cons, List.cons.injEq] at e
      obtain ⟨qs, Ss, e2, hQ, p2⟩ := ih ht e.2
      exact ⟨p :: qs, r :: Ss, by rw [List.map_cons, e.1, e2], .cons hp hQ, p2.cons r⟩
  | swap x y l =>
    intro ps Rs h e
    cases h with
    | nil => cases e
    | @cons p r ps' Rs' hp ht =>
      cases ht with
      | nil => cases e
      | @cons p2 r2 ps2 Rs2 hp2 ht2 =>
        rw [List.map_cons, List.map_cons, List.cons.injEq, List.cons.injEq] at e
        exact ⟨p2 :: p :: ps2, r2 :: r :: Rs2, by rw [List.map_cons, List.map_cons, e.1, e.2.1, e.2.2], .cons hp2 (.cons hp ht2), .swap _ _ _⟩
  | trans _ _ ih1 ih2 =>
    intro ps Rs h e
    obtain ⟨qs, Ss, e2, hQ, p2⟩ := ih2 h e
    obtain ⟨qs1, Ss1, e3, hQ1, p3⟩ := ih1 hQ e2
    exact ⟨qs1, Ss1, e3, hQ1, p3.trans p2⟩
theorem Rows.last {H : Hp} {x : List Int} : ∀ {qs : List Addr} {Sr : List (List Int)}, Rows H qs (Sr ++ [x]) → ∃ qr q, qs = qr ++ [q] ∧ Rows H qr Sr ∧ RT H q x
  | _, [], .cons h .nil => ⟨[], _, rfl, .nil, h⟩
  | _, _ :: _, .cons h t => by
    obtain ⟨qr, q, rfl, h1, h2⟩ := Rows.last t
    exact ⟨_ :: qr, q, rfl, .cons h h1, h2⟩
theorem rows_two {H : Hp} : ∀ {qs : List Addr} {Ss : List (List Int)}, Rows H qs Ss → 1 < Ss.length → ∃ q0 q1 qr x0 x1 xr, qs = q0 :: q1 :: qr ∧ Ss = x0 :: x1 :: xr ∧ RT H q0 x0 ∧ RT H q1 x1 ∧ Rows H qr xr
  | _, _, .nil, h => by simp at h
  | _, _, .cons _ .nil, h => by simp at h
  | _, _, .cons a (.cons b t), _ => ⟨_, _, _, _, _, _, rfl, rfl, a, b, t⟩
theorem Rows.rep {H : Hp} {q : Addr} {x : List Int} (h : RT H q x) : ∀ n, Rows H (List.replicate n q) (List.replicate n x)
  | 0 => .nil
  | n + 1 => .cons h (Rows.rep h n)
theorem rep_map (n : Nat) (q : Addr) : (List.replicate n [V.ref q]).flatten = (List.replicate n q).map V.ref := by
  rw [List.flatten_replicate_singleton, List.map_replicate]
structure Ch (w t : Nat) (Ss Ss' : List (List Int)) : Prop where
  len : Ss'.length = Ss.length
  wid : ∀ r ∈ Ss', r.length = w
  lim : ∀ x ∈ Ss', LimL (2 ^ (t + 2)) x
  sm : Sm (Ss'.map toF) (Ss.map toF)
def tCh : TS := fun D σ H => ∃ d z qs Ss w t H0, σ[0]? = some (some (V.ref d)) ∧ σ[3]? = some (some (V.ref z)) ∧ σ[2]? = some (some (V.int ((w : Nat) : Int))) ∧ H0 z = none ∧ z ≠ d ∧ Rolled d H0 H ∧ LRows H z qs Ss ∧ Ss.length ≤ 6 ∧ (∀ r ∈ Ss, r.length = w) ∧ w ≤ 3 ∧ (∀ x ∈ Ss, LimL (2 ^ t) x) ∧ t ≤ 60 ∧
  ∀ qs' Ss' H', Rolled d H0 H' → LRows H' z qs' Ss' → Ch w t Ss Ss' → D.nx σ H'
theorem ch1_ok {D : Ends} {σ : L2.St} {H : Hp} (h : tCh D σ H) : tIfS (tTest (tOp (rI0 fun i j => V.bl (decide (j < i))) (tCB (fun xs H Q => ∃ x n, xs = [x] ∧ LenV K x H n ∧ Q (V.int ↑n) H) (tCons (tVar 3) tNil)) (tC (V.int 1))))
    (tAsg (tCall spMinus [] E0 (tCons (tOp (rIxL K) (tVar 3) (tC (V.int 0))) (tCons (tOp (rIxL K) (tVar 3) (tC (V.int 1))) (tCons (tOp (rI0 fun i j => V.int (i - j)) (tCall spSpin [] E0 (tCons (tVar 0) (tCons (tC (V.int 7)) tNil))) (tC (V.int 3))) tNil)))) (gSub (tVar 3) (tC (V.int 0)) rSetL)) tNext D σ H := by
  obtain ⟨d, z, qs, Ss, w, t, H0, h0, h3, h2, nz, nzd, R0, hL, hm, hlen, hw, lims, ht, k⟩ := h
  have lq := hL.2.len
  refine ⟨_, h3, _, _, rfl, .inl ⟨_, SqL.of hL.1, rfl⟩, _, _, rfl, rfl, _, rfl, ?_⟩
  refine iteB (fun c => ?_) (fun c => ?_)
  · have two : 1 < Ss.length := by
      have := of_decide_eq_true c
      rw [List.length_map] at this
      omega
    obtain ⟨hz, hQ⟩ := hL
    obtain ⟨q0, q1, qr, x0, x1, xr, rfl, rfl, hx0, hx1, hQ⟩ := rows_two hQ two
    have m0 : x0 ∈ x0 :: x1 :: xr := List.mem_cons_self
    have m1 : x1 ∈ x0 :: x1 :: xr := List.mem_cons_of_mem _ List.mem_cons_self
    have l01 : x0.length = x1.length := by rw [hlen x0 m0, hlen x1 m1]
    refine ⟨_, h3, z, _, 0, .ref q0, rfl, rfl, SqL.of hz, (show atI _ ((0 : Nat) : Int) = _ from atI_nat rfl), ?_⟩
    refine ⟨_, h3, z, _, 1, .ref q1, rfl, rfl, SqL.of hz, (show atI _ ((1 : Nat) : Int) = _ from atI_nat rfl), ?_⟩
    refine ⟨_, h0, d, 7, rfl, R0.die, (by decide), (by decide), fun k0 H2 k1 k7 R2 => ?_⟩
    refine ⟨_, _, rfl, rfl, ?_⟩
    have hx0' : RT H q0 x0 := hx0
    have hx1' : RT H q1 x1 := hx1
    have kb : (k0 - 3).natAbs ≤ 3 := by omega
    refine ⟨q0, q1, _, x0, x1, rfl, hx0'.roll R0.die R2, hx1'.roll R0.die R2, l01, by rw [hlen x0 m0]; exact hw, big_of (k := 2) (by omega) (by decide), (lims x1 m1).mono (two_mono (by omega)), fun zz H3 S3 hzz => ?_⟩
    have hz3 := S3 _ _ (R2.keep z _ nzd hz)
    refine ⟨_, h3, z, _, 0, 0, rfl, rfl, hz3, by unfold ixN; rw [if_pos (by decide), if_pos (by simp; omega)]; rfl, ?_⟩
    refine k (zz :: q1 :: qr) (lessL x0 x1 (k0 - 3) :: x1 :: xr) _ (roll_upd ((R0.trans R2).trans (same_roll R2.die S3)) nz nzd) ⟨upd_same, .cons (RT.upd hzz hz3) (Rows.upd (Rows.keep (.cons (hx1'.roll R0.die R2) (Rows.roll hQ R0.die R2)) S3) hz3)⟩ ⟨rfl, fun r hr => ?_, fun r hr => ?_, ?_⟩
    · rcases List.mem_cons.mp hr with e | e
      · rw [e, less_len l01]; exact hlen x0 m0
      · exact hlen r (List.mem_cons_of_mem _ e)
    · rcases List.mem_cons.mp hr with e | e
      · rw [e]; exact less_lim l01 (lims x0 m0) (lims x1 m1) kb
      · exact (lims r (List.mem_cons_of_mem _ e)).mono (two_mono (by omega))
    · have eF := toF_less (k := k0 - 3) l01
      refine Sm.of (fun x hx => ?_) fun x hx => ?_
      · rcases List.mem_cons.mp hx with e | e
        · rw [e, eF]
          exact In.sub _ (In.mem List.mem_cons_self) (In.mem (List.mem_cons_of_mem _ List.mem_cons_self))
        · exact In.mem (List.mem_cons_of_mem _ e)
      · rcases List.mem_cons.mp hx with e | e
        · rw [e]
          refine In.back (v := toF x1) (k := k0 - 3) ?_ (In.mem (List.mem_cons_of_mem _ List.mem_cons_self))
          rw [← eF]
          exact In.mem List.mem_cons_self
        · exact In.mem (List.mem_cons_of_mem _ e)
  · exact k qs Ss H R0 hL ⟨rfl, hlen, fun x hx => (lims x hx).mono (two_mono (by omega)), Sm.refl _⟩
theorem ch2_ok {D : Ends} {σ : L2.St} {H : Hp} (h : tCh D σ H) : tIfS (tTest (tOp (Le.rNeL K) (tVar 3) (tLst tNil)))
    (tAsg (tCall spMinus [] E0 (tCons (tOp (Ts.rMulZ K) (tTup (tCons (tC (V.int 0)) tNil)) (tVar 2)) (tCons (tOp (rIxL K) (tVar 3) (tUn (rU fun i => V.int (-i)) (tC (V.int 1)))) (tCons (tC (V.int 1)) tNil)))) (gSub (tVar 3) (tUn (rU fun i => V.int (-i)) (tC (V.int 1))) rSetL)) tNext D σ H := by
  obtain ⟨d, z, qs, Ss, w, t, H0, h0, h3, h2, nz, nzd, R0, hL, hm, hlen, hw, lims, ht, k⟩ := h
  refine ⟨_, h3, (by show 0 ≤ sizeLine; decide), fun e0 ne0 => ?_⟩
  have S1 := sameNew (o := .lst []) ne0
  have R1 : Rolled d H0 (upd H e0 (.lst [])) := R0.trans (same_roll R0.die S1)
  rcases List.eq_nil_or_concat Ss with e | ⟨Sr, xl, e⟩
  · subst e
    obtain rfl : qs = [] := List.length_eq_zero_iff.mp hL.2.len
    refine .inl ⟨.list [], .list [], .lst (SqL.of (S1 _ _ hL.1)) .nil, .lst (SqL.of upd_same) .nil, (by decide +kernel), (by decide +kernel), ?_⟩
    refine ⟨_, rfl, ?_⟩
    refine ite_f (by decide +kernel) ?_
    exact k [] [] _ R1 ⟨S1 _ _ hL.1, .nil⟩ ⟨rfl, hlen, fun x hx => (lims x hx).mono (two_mono (by omega)), Sm.refl _⟩
  · rw [List.concat_eq_append] at e
    subst e
    obtain ⟨qr, ql, rfl, hQr, hxl⟩ := Rows.last hL.2
    have ml : xl ∈ Sr ++ [xl] := List.mem_append_right _ (List.mem_singleton.mpr rfl)
    have ll := hlen xl ml
    have hz : H z = some (.lst (qr.map V.ref ++ [V.ref ql])) := by
      have := hL.1
      rw [List.map_append] at this
      exact this
    refine .inr ⟨z, e0, _, [], rfl, rfl, S1 _ _ hz, upd_same, by rw [List.length_append]; simp, ?_⟩
    refine ⟨_, rfl, ?_⟩
    refine iteT ?_
    refine ⟨(by show 1 ≤ sizeLine; decide), fun l1 nl1 => ?_⟩
    have S2 := sameNew (o := .tup [V.int 0]) nl1
    refine ⟨_, h2, l1, _, [.int 0], rfl, rfl, SqT.of upd_same, (fun z => by cases z), by omega, by omega, (by decide), fun q H3 S3 hq htt => ?_⟩
    have e := htt upd_same
    rw [zeros_map] at e
    have S13 := S1.trans (S2.trans S3)
    refine ⟨_, h3, 1, rfl, z, _, -1, .ref ql, rfl, rfl, SqL.of (S13 _ _ hz), atI_last _ _, ?_⟩
    refine ⟨q, ql, 1, List.replicate w 0, xl, rfl, e, S13 _ _ hxl, by rw [List.length_replicate, ll], by rw [List.length_replicate]; exact hw, big_of (k := 0) (by decide) (by decide), (lims xl ml).mono (two_mono (by omega)), fun zz H4 S4 hzz => ?_⟩
    have S14 := S13.trans S4
    have hz4 := S14 _ _ hz
    have ix : ixN (qr.map V.ref ++ [V.ref ql]).length (-1) = some (qr.map V.ref).length := by
      unfold ixN
      rw [if_neg (by decide), if_pos (by rw [List.length_append]; simp; omega), List.length_append]
      congr 1
      simp
      omega
    refine ⟨_, h3, 1, rfl, z, _, -1, _, rfl, rfl, hz4, ix, ?_⟩
    have st : (qr.map V.ref ++ [V.ref ql]).set (qr.map V.ref).length (V.ref zz) = (qr ++ [zz]).map V.ref := by
      rw [List.set_append_right _ _ (Nat.le_refl _), Nat.sub_self, List.map_append]
      rfl
    rw [st]
    have ng := neg_toF ll
    refine k (qr ++ [zz]) (Sr ++ [lessL (List.replicate w 0) xl 1]) _ (roll_upd (R0.trans (same_roll R0.die S14)) nz nzd) ⟨upd_same, Rows.snoc (RT.upd hzz hz4) (Rows.upd (hQr.keep S14) hz4)⟩ ⟨by rw [List.length_append, List.length_append]; rfl, fun r hr => ?_, fun r hr => ?_, ?_⟩
    · rcases List.mem_append.mp hr with c | c
      · exact hlen r (List.mem_append_left _ c)
      · rw [List.mem_singleton.mp c, less_len (by rw [List.length_replicate, ll]), List.length_replicate]
    · rcases List.mem_append.mp hr with c | c
      · exact (lims r (List.mem_append_left _ c)).mono (two_mono (by omega))
      · rw [List.mem_singleton.mp c]
        intro i
        rw [ng i, Int.natAbs_neg]
        exact Nat.le_trans (lims xl ml i) (two_mono (by omega))
    · have turn : ∀ (B : List F) (f g : F), (∀ i, g i = - f i) → f ∈ B → In B g := fun B f g e hB => by
        rw [show g = sub zero f 1 from funext fun i => by rw [e]; show _ = 0 - 1 * f i; omega]
        exact In.sub _ (In.zero _ fun _ => rfl) (In.mem hB)
      rw [List.map_append, List.map_append]
      refine Sm.of (fun x hx => ?_) fun x hx => ?_
      · rcases List.mem_append.mp hx with c | c
        · exact In.mem (List.mem_append_left _ c)
        · rw [List.mem_singleton.mp (show x ∈ [toF (lessL (List.replicate w 0) xl 1)] from c)]
          exact turn _ (toF xl) _ ng (List.mem_append_right _ (List.mem_singleton.mpr rfl))
      · rcases List.mem_append.mp hx with c | c
        · exact In.mem (List.mem_append_left _ c)
        · rw [List.mem_singleton.mp (show x ∈ [toF xl] from c)]
          exact turn _ (toF (lessL (List.replicate w 0) xl 1)) _ (fun i => by rw [ng i]; omega) (List.mem_append_right _ (List.mem_singleton.mpr rfl))
def spChanged : Sp := fun vs H Q _ => ∃ d l ps Rs w, vs = [.ref d, .ref l, .int ((w : Nat) : Int)] ∧ Die H d ∧ l ≠ d ∧ LRows H l ps Rs ∧ Rs.length ≤ 5 ∧ (∀ r ∈ Rs, r.length = w) ∧ 1 ≤ w ∧ w ≤ 3 ∧ (∀ x ∈ Rs, LimL (2 ^ 42) x) ∧
  ∀ z qs Ss H', Rolled d H H' → LRows H' z qs Ss → Ss.length ≤ 6 → (∀ r ∈ Ss, r.length = w) → (∀ x ∈ Ss, LimL (2 ^ 46) x) → Sm (Ss.map toF) (Rs.map toF) → Q (.ref z) H'
theorem ok_changed (T : Txt K mg a) : FnOk P w K mg base CX0 3 a.changed a.fd_changed ps__law_changed spChanged := by
  have F := T.F_changed
  refine F.ok (k := 2) sc__law_changed (fun vs H Q E h => ?_) (fun cdv A outer s H vs Q E hr h => ?_)
  · obtain ⟨d, l, ps, Rs, w, rfl, hD, nl, hL, hm, hlen, hw1, hw3, hlim, k⟩ := h
    rfl
  · obtain ⟨d, l, ps, Rs, w, rfl, hD, nl, hL, hm, hlen, hw1, hw3, hlim, k⟩ := h
    have hu := hu_of hr
    refine ⟨_, (pss_cons (ps_set (i := 3) sc__law_changed.nd rfl (Or.inl rfl) (pe_call (ok_mixed T) (hr.mono (by decide)) (by rfl) T.g_mixed T.F_mixed.kp (b_mixed T) .nil pass0 (pa_cons (pv 0) (pa_cons (pv 1) pa_nil))))
      (pss_cons (PS.to (t' := tCh) (ps_if (pt_cmpR op_gt (pe_callB call_len (by rfl) T.len (by decide +kernel) (pa_cons (pv 3) pa_nil)) pe_int (nomark _)) (pss_one (ps_asg (pe_call (ok_minus T) (hr.mono (by decide)) (by rfl) T.g_minus T.F_minus.kp (b_minus T) .nil pass0 (pa_cons (pe_ix ix_list (pv 3) pe_int (fun _ _ => rfl)) (pa_cons (pe_ix ix_list (pv 3) pe_int (fun _ _ => rfl)) (pa_cons (pe_op op_sub (pe_call (ok_spin T) (hr.mono (by decide)) (by rfl) T.g_spin T.F_spin.kp (b_spin T) .nil pass0 (pa_cons (pv 0) (pa_cons pe_int pa_nil))) pe_int) pa_nil)))) (pg_sub (pv 3) pe_int set_list))) pss_nil) (fun D σ H h => ch1_ok h))
      (pss_cons (PS.to (t' := tCh) (ps_if (pt_cmpR (Le.op_neL hr.units) (pv 3) (pe_lst pa_nil) (nomark _)) (pss_one (ps_asg (pe_call (ok_minus T) (hr.mono (by decide)) (by rfl) T.g_minus T.F_minus.kp (b_minus T) .nil pass0 (pa_cons (pe_op Ts.op_mulZ (pe_tup (pa_cons pe_int pa_nil)) (pv 2)) (pa_cons (pe_ix ix_list (pv 3) (pe_un un_neg pe_int) (fun _ _ => rfl)) (pa_cons pe_int pa_nil)))) (pg_sub (pv 3) (pe_un un_neg pe_int) set_list))) pss_nil) (fun D σ H h => ch2_ok h))
      (pss_one (ps_ret (pe_op op_cat (pv 3) (pe_op op_rep (pe_lst (pa_cons (pe_op Ts.op_mulZ (pe_tup (pa_cons pe_int pa_nil)) (pv 2)) pa_nil)) (pe_call (ok_spin T) (hr.mono (by decide)) (by rfl) T.g_spin T.F_spin.kp (b_spin T) .nil pass0 (pa_cons (pv 0) (pa_cons pe_int pa_nil)))))))))), ?_⟩
    refine ⟨_, rfl, _, rfl, d, l, ps.map V.ref, rfl, hD, nl, hL.1, by rw [List.length_map]; have := hL.2.len; omega, fun z ys H1 pm R1 nz hz => ?_⟩
    obtain ⟨qs, Ss, rfl, hQ0, pm2⟩ := rows_perm pm hL.2 rfl
    have nzd : z ≠ d := hD.ne nz
    have memS : ∀ x, x ∈ Ss ↔ x ∈ Rs := fun x => pm2.mem_iff
    have lSs : Ss.length = Rs.length := pm2.length_eq
    refine ⟨d, z, qs, Ss, w, 42, H, rfl, rfl, rfl, nz, nzd, R1, ⟨hz, hQ0.roll hD R1⟩, by omega, fun x hx => hlen x ((memS x).mp hx), hw3, fun x hx => hlim x ((memS x).mp hx), by decide, fun qs2 S2 H2 R2 hL2 c2 => ?_⟩
    refine ⟨d, z, qs2, S2, w, 44, H, rfl, rfl, rfl, nz, nzd, R2, hL2, by rw [c2.len]; omega, c2.wid, hw3, c2.lim, by decide, fun qs3 S3 H3 R3 hL3 c3 => ?_⟩
    have l3 := hL3.2.len
    have c3l := c3.len
    have c2l := c2.len
    refine ⟨_, rfl, (by show 1 ≤ sizeLine; decide), fun l1 nl1 => ?_⟩
    have T1 := sameNew (o := .tup [V.int 0]) nl1
    refine ⟨_, rfl, l1, _, [.int 0], rfl, rfl, SqT.of upd_same, (fun z => by cases z), by omega, by omega, (by decide), fun q H4 T4 hq htt => ?_⟩
    have e := htt upd_same
    rw [zeros_map] at e
    refine ⟨(by show 1 ≤ sizeLine; decide), fun lz nlz => ?_⟩
    have T5 := sameNew (o := .lst [V.ref q]) nlz
    have R35 : Rolled d H3 (upd H4 lz (.lst [V.ref q])) := same_roll R3.die (T1.trans (T4.trans T5))
    have nlzd : lz ≠ d := (die_same R3.die (T1.trans T4)).ne nlz
    refine ⟨_, rfl, d, 2, rfl, R35.die, (by decide), (by decide), fun n H6 n0 n2 R6 => ?_⟩
    refine ⟨lz, n, [.ref q], rfl, rfl, R6.keep lz _ nlzd upd_same, by omega, by omega, by show 1 * n.toNat ≤ sizeLine; rw [sizeLine_eq]; omega, fun lw nlw => ?_⟩
    rw [rep_map]
    have T7 := sameNew (o := .lst ((List.replicate n.toNat q).map V.ref)) nlw
    have R37 := (R35.trans R6).trans (same_roll R6.die T7)
    have hz7 := R37.keep z _ nzd hL3.1
    refine ⟨z, lw, _, _, rfl, rfl, hz7, upd_same, by rw [List.length_map, List.length_map, List.length_replicate, sizeLine_eq]; omega, fun lf nlf => ?_⟩
    have T8 := sameNew (o := .lst (qs3.map V.ref ++ (List.replicate n.toNat q).map V.ref)) nlf
    have R38 := R37.trans (same_roll R37.die T8)
    have hq8 : RT (upd (upd H6 lw (.lst ((List.replicate n.toNat q).map V.ref))) lf (.lst (qs3.map V.ref ++ (List.replicate n.toNat q).map V.ref))) q (List.replicate w 0) := T8 _ _ (T7 _ _ (RT.roll (T5 _ _ e) R35.die R6))
    refine k lf (qs3 ++ List.replicate n.toNat q) (S3 ++ List.replicate n.toNat (List.replicate w 0)) _ (R3.trans R38) ⟨by rw [List.map_append]; exact upd_same, Rows.app (hL3.2.roll R3.die R38) (Rows.rep hq8 _)⟩ (by rw [List.length_append, List.length_replicate]; omega) (fun x hx => ?_) (fun x hx => ?_) ?_
    · rcases List.mem_append.mp hx with c | c
      · exact c3.wid x c
      · rw [List.eq_of_mem_replicate c, List.length_replicate]
    · rcases List.mem_append.mp hx with c | c
      · exact c3.lim x c
      · rw [List.eq_of_mem_replicate c]
        intro i
        rw [toF_zero]
        exact Nat.zero_le _
    · have sP : Sm (Ss.map toF) (Rs.map toF) := Sm.of (fun x hx => by
        obtain ⟨y, hy, rfl⟩ := List.mem_map.mp hx
        exact In.mem (List.mem_map.mpr ⟨y, (memS y).mp hy, rfl⟩)) fun x hx => by
        obtain ⟨y, hy, rfl⟩ := List.mem_map.mp hx
        exact In.mem (List.mem_map.mpr ⟨y, (memS y).mpr hy, rfl⟩)
      refine Sm.trans ?_ ((c3.sm.trans c2.sm).trans sP)
      rw [List.map_append]
      refine Sm.of (fun x hx => ?_) fun x hx => In.mem (List.mem_append_left _ hx)
      rcases List.mem_append.mp hx with c | c
      · exact In.mem c
      · obtain ⟨y, hy, rfl⟩ := List.mem_map.mp c
        rw [List.eq_of_mem_replicate hy]
        exact In.zero _ fun i => toF_zero w i
end
end K42

set_option Elab.async false
set_option linter.all false
set_option maxRecDepth 100000
set_option maxHeartbeats 4000000
open L2 in
local macro_rules | `(tactic| walk_at "q1") => `(tactic| first
  | refine ⟨_, rfl, ?_⟩
  | refine ⟨_, _, rfl, rfl, ?_⟩
  | refine And.intro (show CMul _ _ from Or.inr ⟨by decide, by decide⟩) ?_
  | refine And.intro (show CMul _ _ from Or.inl ⟨by first | decide | omega, by first | decide | omega⟩) ?_
  | refine And.intro (show CMul _ _ from Or.inr ⟨by omega, by omega⟩) ?_
  | refine And.intro (show CDiv _ _ from ⟨by omega, by omega⟩) ?_
  | refine And.intro (Lat.cdivw (by omega) (by omega)) ?_
  | refine And.intro (show Dt.CPowG _ _ from ⟨by decide, by decide +kernel⟩) ?_
  | refine And.intro (by first | decide | omega) ?_
  | refine And.intro (Int.pow_pos (Int.pow_pos (by decide))) ?_
  | refine ⟨_, _, _, _, rfl, rfl, SqL.of (by first | assumption | exact upd_same), (by rfl), ?_⟩
  | refine ⟨_, _, _, _, rfl, rfl, (by first | assumption | exact upd_same), (by rfl), ?_⟩
  | refine Or.inl ⟨_, rfl, ?_⟩
  | refine Or.inr ⟨_, rfl, ?_⟩)
local macro_rules | `(tactic| walk_at "q") => `(tactic| repeat (walk_at "q1"))
local macro_rules | `(tactic| walk_at "eqt") => `(tactic| (refine ⟨_, rfl, ?_⟩; refine ⟨rfl, ?_⟩; first
  | (refine ⟨true, rfl, ?_⟩; refine L2.iteT ?_)
  | (refine ⟨false, rfl, ?_⟩; refine L2.iteF ?_)))
local macro_rules | `(tactic| walk_at "sz") => `(tactic| (rw [PySem.sizeLine_eq]; simp))
namespace K42
open PySem PySem.Spec PyProof.Rows L2 Dt An Rp Lat
section
variable {P : Program} {w : World} {K : PySem.W.Frag} {mg : Str → Option Value} {base : Heap} {a : Ads}
theorem never {X : Cx} : L2.Passes (L2.CX X.prog X.w) X (fun _ _ _ => False) := fun _ _ _ _ _ _ _ h => by
  obtain ⟨_, _, _, _, _, _, _, _, _, _, _, _, q⟩ := h
  exact q.elim
structure Wt (c e : Nat) (d : PyData) : Prop where
  sh : d.showable = true
  dp : d.depth ≤ e
  lf : d.leavesShort 100 = true
  wt : d.weight ≤ c
  nd : d.hasDict = false
theorem Wt.mono {c e c' e' : Nat} {d : PyData} (h : Wt c e d) (hc : c ≤ c') (he : e ≤ e') : Wt c' e' d := ⟨h.sh, Nat.le_trans h.dp he, h.lf, Nat.le_trans h.wt hc, h.nd⟩
theorem wt_all {c e : Nat} : ∀ ds : List PyData, (∀ d ∈ ds, Wt c e d) → PyData.showableAll ds = true ∧ PyData.depthAll ds ≤ e ∧ PyData.leavesShortAll 100 ds = true ∧ PyData.weightAll ds ≤ ds.length * (c + 1) ∧ PyData.hasDictAll ds = false
  | [], _ => ⟨rfl, Nat.zero_le _, rfl, Nat.zero_le _, rfl⟩
  | d :: r, h => by
    obtain ⟨h1, h2, h3, h4, h5⟩ := wt_all r fun x hx => h x (List.mem_cons_of_mem _ hx)
    have q := h d List.mem_cons_self
    refine ⟨?_, ?_, ?_, ?_, ?_⟩
    · unfold PyData.showableAll
      rw [q.sh, h1]
      rfl
    · unfold PyData.depthAll
      exact Nat.max_le.mpr ⟨q.dp, h2⟩
    · unfold PyData.leavesShortAll
      rw [q.lf, h3]
      rfl
    · unfold PyData.weightAll
      have := q.wt
      rw [List.length_cons, Nat.succ_mul]
      omega
    · unfold PyData.hasDictAll
      rw [q.nd, h5]
      rfl
theorem wt_tup {c e n : Nat} {ds : List PyData} (h : ∀ d ∈ ds, Wt c e d) (hn : ds.length ≤ n) : Wt (n * (c + 1)) (e + 1) (.tuple ds) := by
  obtain ⟨h1, h2, h3, h4, h5⟩ := wt_all ds h
  exact ⟨h1, Nat.succ_le_succ h2, h3, Nat.le_trans h4 (Nat.mul_le_mul_right _ hn), h5⟩
theorem wt_fits {c e : Nat} {d : PyData} (h : Wt c e d) (he : e ≤ 60) (hc : c ≤ 150000) : Fits d := by
  refine ⟨h.sh, Nat.le_trans h.dp he, 100, by decide, h.lf, ?_⟩
  have := h.wt
  rw [sizeLine_eq]
  omega
theorem wt_big {i : Int} (h1 : -(10 ^ 82) < i) (h2 : i < 10 ^ 82) : Wt 273 0 (.int i) := by
  have hn : i.natAbs < 10 ^ 82 := by omega
  have hp : (10 : Nat) ^ 82 < 2 ^ 200 * 2 ^ 73 := by decide
  have hl : i.natAbs.log2 < 273 := by
    rcases Nat.eq_zero_or_pos i.natAbs with z | z
    · rw [z]
      decide
    · exact (Nat.log2_lt (by omega)).mpr (by rw [show 273 = 200 + 73 from rfl, Nat.pow_add]; omega)
  refine ⟨decide_eq_true (by omega), Nat.le_refl _, decide_eq_true ?_, ?_, rfl⟩
  · show (Str.ofString (toString i)).length ≤ 100
    rw [PySem.ofString_length]
    have := int_text_length_le10 (k := 82) (by decide) hn
    omega
  · show (if i == 0 then 0 else i.natAbs.log2 + 1) ≤ 273
    split <;> omega
def rD (r : List Int) : PyData := .tuple (r.map PyData.int)
def dueD (A : List (List Int)) : PyData := .tuple (A.map rD)
theorem lay_ints : ∀ r : List Int, PyData.canLayAll0 (r.map PyData.int) = true
  | [] => rfl
  | x :: r => by
    show (PyData.canLay0 (.int x) && _) = true
    rw [lay_ints r]
    rfl
theorem lay_rows : ∀ A : List (List Int), PyData.canLayAll0 (A.map rD) = true
  | [] => rfl
  | x :: r => by
    show (PyData.canLayAll0 (x.map PyData.int) && _) = true
    rw [lay_ints x, lay_rows r]
    rfl
theorem wt_due {w : Nat} {A : List (List Int)} (hw : w ≤ 3) (hl : ∀ r ∈ A, r.length = w) (hm : A.length ≤ 3) (lim : ∀ x ∈ A, LimL (2 ^ 180) x) : Wt (3 * (3 * 274 + 1)) 2 (dueD A) := by
  refine wt_tup (c := 3 * 274) (e := 1) (fun d hd => ?_) (by rw [List.length_map]; exact hm)
  obtain ⟨r, hr, rfl⟩ := List.mem_map.mp hd
  refine wt_tup (c := 273) (e := 0) (fun d hd2 => ?_) (by rw [List.length_map, hl r hr]; exact hw)
  obtain ⟨x, hx, rfl⟩ := List.mem_map.mp hd2
  have b := (lim r hr).mem hx
  have c : (2 : Nat) ^ 180 < 10 ^ 82 := by decide +kernel
  exact wt_big (by omega) (by omega)
theorem sh_due {c : Nat} {A : List (List Int)} (h : Wt c 2 (dueD A)) : SeqAt.shaped (dueD A) = true := by
  show (PyData.canLayAll0 (A.map rD) && decide ((dueD A).depth ≤ 64)) = true
  rw [lay_rows, decide_eq_true (Nat.le_trans h.dp (by decide))]
  rfl
theorem eq_due {w : Nat} (hw : w ≤ 3) : ∀ {A B : List (List Int)}, (∀ r ∈ A, r.length = w) → (∀ r ∈ B, r.length = w) → PyData.eqv (dueD A) (dueD B) = decide (A = B)
  | [], [], _, _ => by decide +kernel
  | [], _ :: _, _, _ => by
    rw [decide_eq_false (fun z => by cases z)]
    simp [dueD, PyData.eqv, PyData.eqvAll]
  | _ :: _, [], _, _ => by
    rw [decide_eq_false (fun z => by cases z)]
    simp [dueD, PyData.eqv, PyData.eqvAll]
  | a :: A, b :: B, hA, hB => by
    have ih := eq_due hw (A := A) (B := B) (fun r hr => hA r (List.mem_cons_of_mem _ hr)) fun r hr => hB r (List.mem_cons_of_mem _ hr)
    have la := hA a List.mem_cons_self
    have lb := hB b List.mem_cons_self
    have e := eq3 a b (by rw [la, lb]) (by rw [la]; exact hw)
    have u : PyData.eqv (dueD (a :: A)) (dueD (b :: B)) = (PyData.eqv (rD a) (rD b) && PyData.eqv (dueD A) (dueD B)) := by
      simp only [dueD, PyData.eqv, PyData.eqvAll, List.map_cons]
    rw [u, ih, show PyData.eqv (rD a) (rD b) = decide (a = b) from e]
    by_cases c : a = b <;> by_cases d : A = B <;> simp [c, d]
theorem dp_rows {H : Hp} : ∀ {ps : List Addr} {Rs : List (List Int)}, Rows H ps Rs → DpAll K H (ps.map V.ref) (Rs.map rD)
  | _, _, .nil => .nil
  | _, _, .cons h t => .cons (dp_row h) (dp_rows t)
theorem dat_ints2 {H : Hp} : ∀ r : List Int, DatAll K H (r.map V.int) (r.map PyData.int)
  | [] => .nil
  | n :: r => .cons (.int n) (dat_ints2 r)
theorem nd_ints : ∀ r : List Int, PyData.hasDictAll (r.map PyData.int) = false
  | [] => rfl
  | n :: r => by
    show (PyData.hasDict (.int n) || _) = false
    rw [nd_ints r]
    rfl
theorem nd_rows : ∀ A : List (List Int), PyData.hasDictAll (A.map rD) = false
  | [] => rfl
  | n :: r => by
    show (PyData.hasDictAll (n.map PyData.int) || _) = false
    rw [nd_ints n, nd_rows r]
    rfl
theorem dat_rows {H : Hp} : ∀ {ps : List Addr} {Rs : List (List Int)}, Rows H ps Rs → DatAll K H (ps.map V.ref) (Rs.map rD)
  | _, _, .nil => .nil
  | _, _, .cons h t => .cons (.tup (SqT.of h) (dat_ints2 _) (nd_ints _)) (dat_rows t)
theorem dat_due {H : Hp} {z : Addr} {qs : List Addr} {A : List (List Int)} (h : TRows H z qs A) : Dat K H (.ref z) (dueD A) := .tup (SqT.of h.1) (dat_rows h.2) (nd_rows A)
theorem dp_due {H : Hp} {z : Addr} {qs : List Addr} {A : List (List Int)} (h : TRows H z qs A) : Dp K H (.ref z) (dueD A) := .tup (SqT.of h.1) (dp_rows h.2)
theorem hn_len {w : Nat} : ∀ {c : Nat} {B : List F}, Hn c B → (∀ b ∈ B, ∀ p, Piv b p → p < w) → B.length ≤ w - c
  | _, _, .nil _, _ => Nat.zero_le _
  | c, b :: T, .cons (p := p) hp hb hT _, h => by
    have := hn_len hT fun x hx => h x (List.mem_cons_of_mem _ hx)
    have := h b List.mem_cons_self p hb
    rw [List.length_cons]
    omega
theorem bas_len {w : Nat} {A : List (List Int)} (b : Bas w A) : A.length ≤ w := by
  have := hn_len (w := w) b.hn fun t ht p hp => by
    obtain ⟨r, hr, rfl⟩ := List.mem_map.mp ht
    have := piv_lt hp
    rwa [b.len r hr] at this
  rw [List.length_map] at this
  omega
def spRight : Sp := fun vs H Q _ => ∃ d, vs = [.ref d] ∧ Die H d ∧ ∀ H', Rolled d H H' → Q (.bl true) H'
theorem TRows.keep {H H' : Hp} {z : Addr} {qs : List Addr} {A : List (List Int)} (h : TRows H z qs A) (S : Same H H') : TRows H' z qs A := ⟨S _ _ h.1, h.2.keep S⟩
theorem TRows.roll {d : Addr} {H H' : Hp} {z : Addr} {qs : List Addr} {A : List (List Int)} (h : TRows H z qs A) (hD : Die H d) (R : Rolled d H H') : TRows H' z qs A := ⟨R.keep z _ (fun y => by
  obtain ⟨a1, a2, a3, e⟩ := hD
  have h2 := h.1
  rw [y, e] at h2
  cases h2) h.1, h.2.roll hD R⟩
theorem ok_basis_right (T : Txt K mg a) : Rp.FnG P w K mg base CX0 6 a.basis_right a.fd_basis_right ps__law_basis_right spRight := by
  have F := T.F_basis_right
  refine Rp.okG (k := 5) F sc__law_basis_right (fun vs H Q E h => ?_) (fun cdv A outer s H vs Q E hr hg h => ?_)
  · obtain ⟨d, rfl, hD, k⟩ := h
    rfl
  · obtain ⟨d, rfl, hD, k⟩ := h
    have hu := hu_of hr
    refine ⟨_, (pss_cons (ps_set (i := 1) sc__law_basis_right.nd rfl (Or.inl rfl) (pe_op op_add pe_int (pe_call (ok_spin T) (hr.mono (by decide)) (by rfl) T.g_spin T.F_spin.kp (b_spin T) .nil pass0 (pa_cons (pv 0) (pa_cons pe_int pa_nil)))))
      (pss_cons (ps_set (i := 2) sc__law_basis_right.nd rfl (Or.inl rfl) (pe_call (ok_drawn_rows T) (hr.mono (by decide)) (by rfl) T.g_drawn_rows T.F_drawn_rows.kp (b_drawn_rows T) .nil pass0 (pa_cons (pv 0) (pa_cons (pv 1) pa_nil))))
      (pss_cons (ps_set (i := 3) sc__law_basis_right.nd rfl (Or.inl rfl) (pe_call (ok_echelon T) (hr.mono (by decide)) (by rfl) T.g_echelon T.F_echelon.kp (b_echelon T) .nil pass0 (pa_cons (pv 2) (pa_cons (pv 1) pa_nil))))
      (pss_cons (ps_if (PW.pt (pw_or (pt_cmpR op_ne (pe_callB (Rp.call_repr hg hr.units) (by rfl) T.repr (by decide +kernel) (pa_cons (pe_call (ok_basis_of T) (hr.mono (by decide)) (by rfl) T.g_basis_of T.F_basis_of.kp (b_basis_of T) .nil never (pa_cons (pe_callTy call_tuple_of (by rfl) T.tuple (by decide +kernel) (pa_cons (pv 2) pa_nil)) pa_nil)) pa_nil)) (pe_callB (Rp.call_repr hg hr.units) (by rfl) T.repr (by decide +kernel) (pa_cons (pv 3) pa_nil)) (nomark _)) (pw_or1 (pt_cmpR op_ne (pe_callB (Rp.call_repr hg hr.units) (by rfl) T.repr (by decide +kernel) (pa_cons (pe_call (ok_basis_of T) (hr.mono (by decide)) (by rfl) T.g_basis_of T.F_basis_of.kp (b_basis_of T) .nil never (pa_cons (pv 3) pa_nil)) pa_nil)) (pe_callB (Rp.call_repr hg hr.units) (by rfl) T.repr (by decide +kernel) (pa_cons (pv 3) pa_nil)) (nomark _))))) (pss_one (ps_ret pe_bl)) pss_nil)
      (pss_cons (ps_if (pt_cmpR op_ne (pe_callB (Rp.call_repr hg hr.units) (by rfl) T.repr (by decide +kernel) (pa_cons (pe_call (ok_basis_of T) (hr.mono (by decide)) (by rfl) T.g_basis_of T.F_basis_of.kp (b_basis_of T) .nil never (pa_cons (pe_callTy call_tuple_of (by rfl) T.tuple (by decide +kernel) (pa_cons (pe_call (ok_changed T) (hr.mono (by decide)) (by rfl) T.g_changed T.F_changed.kp (b_changed T) .nil pass0 (pa_cons (pv 0) (pa_cons (pv 2) (pa_cons (pv 1) pa_nil)))) pa_nil)) pa_nil)) pa_nil)) (pe_callB (Rp.call_repr hg hr.units) (by rfl) T.repr (by decide +kernel) (pa_cons (pv 3) pa_nil)) (nomark _)) (pss_one (ps_ret pe_bl)) pss_nil)
      (pss_cons (ps_set (i := 4) sc__law_basis_right.nd rfl (Or.inl rfl) (pe_callTy call_tuple_of (by rfl) T.tuple (by decide +kernel) (pa_cons (pe_lc (own := [("_law_column", 5)]) rfl sc__law_basis_right.nd (pi_range1 (by rfl) T.range (pa_cons (pv 1) pa_nil)) (blkOk_by (N := nm__law_basis_right) (sc := defScope s__law_basis_right) (by decide +kernel)) (fun _ _ _ _ _ => (pg_name (i := 5) sc__law_basis_right.nd rfl (Or.inl rfl))) (fun _ _ _ _ _ => pts_nil) (fun _ _ _ _ _ => (pe_op op_sub (pe_call (ok_spin T) (hr.mono (by decide)) (by rfl) T.g_spin T.F_spin.kp (b_spin T) .nil pass0 (pa_cons (pv 0) (pa_cons pe_int pa_nil))) pe_int))) pa_nil)))
      (pss_one (ps_ret (pe_cmpR op_eq (pe_cmpR (op_eqD hr.units) (pe_call (ok_basis_of T) (hr.mono (by decide)) (by rfl) T.g_basis_of T.F_basis_of.kp (b_basis_of T) .nil never (pa_cons (pe_callTy call_tuple_of (by rfl) T.tuple (by decide +kernel) (pa_cons (pe_op op_cat (pv 2) (pe_lst (pa_cons (pv 4) pa_nil))) pa_nil)) pa_nil)) (pv 3) (nomark _)) (pe_call (ok_is_within T) (hr.mono (by decide)) (by rfl) T.g_is_within T.F_is_within.kp (b_is_within T) .nil pass0 (pa_cons (pv 4) (pa_cons (pv 3) pa_nil))) (nomark _)))))))))), ?_⟩
    refine ⟨_, rfl, d, 3, rfl, hD, (by decide), (by decide), fun r H1 r0 r3 R1 => ?_⟩
    refine ⟨_, _, rfl, rfl, ?_⟩
    obtain ⟨w, hw⟩ : ∃ w : Nat, 1 + r = (w : Int) := ⟨(1 + r).toNat, by omega⟩
    rw [show (fun i j : Int => V.int (i + j)) 1 r = V.int (w : Int) from by show V.int (1 + r) = _; rw [hw]]
    have hw1 : 1 ≤ w := by omega
    have hw3 : w ≤ 3 := by omega
    refine ⟨_, rfl, _, rfl, d, w, rfl, hw1, hw3, R1.die, fun lz ps Rs H2 R2 nlz hL lR lenR limR => ?_⟩
    have nlzd : lz ≠ d := R1.die.ne nlz
    have limR2 : ∀ M, 42 ≤ M → ∀ x ∈ Rs, LimL (2 ^ M) x := fun M hM x hx => (limR x hx).mono (two_mono hM)
    refine ⟨_, rfl, _, rfl, lz, ps, Rs, w, 42, rfl, hL, by omega, lenR, hw1, hw3, by decide, limR, fun zd qd Ad H3 S3 hT bA sA => ?_⟩
    have limA : ∀ x ∈ Ad, LimL (2 ^ 130) x := bas_lim bA sA hw3 limR
    have lenA : Ad.length ≤ 3 := Nat.le_trans (bas_len bA) hw3
    have wt := wt_due hw3 bA.len lenA (fun x hx => (limA x hx).mono (two_mono (by decide)))
    have fits : Fits (dueD Ad) := wt_fits wt (by decide) (by decide)
    have D3 : Die H3 d := die_same R2.die S3
    have hL3 := S3 _ _ hL.1
    -- of the rows
    refine ⟨_, rfl, lz, _, rfl, .inl ⟨SqL.of hL3, fun t1 nt1 => ?_⟩⟩
    have S4 := sameNew (o := .tup (ps.map V.ref)) nt1
    refine ⟨.ref t1, rfl, .inr ⟨t1, ps, Rs, w, 42, rfl, ⟨upd_same, (hL.2.keep S3).keep S4⟩, by omega, lenR, hw1, hw3, by decide, limR, fun z1 q1 A1 H5 S5 hT1 bA1 sA1 => ?_⟩⟩
    obtain rfl : A1 = Ad := bA1.uniq bA (sA1.trans sA.symm)
    have S35 := S4.trans S5
    refine ⟨.ref z1, dueD A1, rfl, dat_due hT1, fits, ?_⟩
    refine ⟨_, rfl, .ref zd, dueD A1, rfl, dat_due (hT.keep S35), fits, ?_⟩
    refine ⟨rfl, _, rfl, ?_⟩
    refine ite_f (by rw [decide_eq_true rfl]; rfl) ?_
    -- of the basis itself
    refine ⟨_, rfl, .ref zd, rfl, .inr ⟨zd, qd, A1, w, 130, rfl, hT.keep S35, by omega, bA.len, hw1, hw3, by decide, limA, fun z2 q2 A2 H6 S6 hT2 bA2 sA2 => ?_⟩⟩
    obtain rfl : A2 = A1 := bA2.uniq bA sA2
    refine ⟨.ref z2, dueD A2, rfl, dat_due hT2, fits, ?_⟩
    refine ⟨_, rfl, .ref zd, dueD A2, rfl, dat_due ((hT.keep S35).keep S6), fits, ?_⟩
    refine ⟨rfl, _, rfl, ?_⟩
    refine ite_f (by rw [decide_eq_true rfl]; rfl) ?_
    have S36 := S35.trans S6
    have D6 := die_same D3 S36
    -- of changed rows
    refine ⟨_, rfl, _, rfl, _, rfl, d, lz, ps, Rs, w, rfl, D6, nlzd, ⟨S36 _ _ hL3, (hL.2.keep S3).keep S36⟩, lR, lenR, hw1, hw3, limR, fun zc qc Sc H7 R7 hLc lc lenc limc sc => ?_⟩
    refine ⟨zc, _, rfl, .inl ⟨SqL.of hLc.1, fun t2 nt2 => ?_⟩⟩
    have S8 := sameNew (o := .tup (qc.map V.ref)) nt2
    refine ⟨.ref t2, rfl, .inr ⟨t2, qc, Sc, w, 46, rfl, ⟨upd_same, hLc.2.keep S8⟩, by omega, lenc, hw1, hw3, by decide, limc, fun z3 q3 A3 H9 S9 hT3 bA3 sA3 => ?_⟩⟩
    obtain rfl : A3 = A2 := bA3.uniq bA ((sA3.trans sc).trans sA.symm)
    have R69 : Rolled d H6 H9 := R7.trans (same_roll R7.die (S8.trans S9))
    have hT9 : TRows H9 zd qd A3 := (hT.keep S36).roll D6 R69
    refine ⟨.ref z3, dueD A3, rfl, dat_due hT3, fits, ?_⟩
    refine ⟨_, rfl, .ref zd, dueD A3, rfl, dat_due hT9, fits, ?_⟩
    refine ⟨rfl, _, rfl, ?_⟩
    refine ite_f (by rw [decide_eq_true rfl]; rfl) ?_
    -- one row more
    have D9 := R69.die
    refine ⟨_, rfl, _, rfl, by omega, by omega, fun D hDn => ?_⟩
    rw [Int.toNat_natCast]
    have nD : D ≠ d := D9.ne hDn
    refine lc_it (walk_range (lo := 0) (n := w)) (fun i Hi => ∃ es : List Int, Rolled d H9 Hi ∧ Hi D = some (.lst (es.map V.int)) ∧ es.length = i ∧ ∀ e ∈ es, e.natAbs ≤ 2 ^ 3) ⟨[], same_roll D9 (sameNew hDn), upd_same, rfl, (fun _ z => by cases z)⟩ ?_ ?_ ?_
    · rintro i Hi hi _
      trivial
    · rintro i y Hi0 Hi hi ⟨es, Ri, eD, hes, hb⟩ ⟨rfl, rfl⟩
      refine ⟨rfl, ?_⟩
      dsimp only [tYes]
      rw [if_pos rfl]
      refine ⟨_, rfl, d, 5, rfl, Ri.die, (by decide), (by decide), fun r H4 r0 r1 R4 => ?_⟩
      refine ⟨_, _, rfl, rfl, ?_⟩
      have eD4 := R4.keep D _ nD eD
      refine ⟨_, eD4, by rw [List.length_map, sizeLine_eq]; omega, es ++ [r - 2], roll_upd (Ri.trans R4) hDn nD, by rw [List.map_append]; exact upd_same, by rw [List.length_append, hes]; rfl, fun e he => ?_⟩
      rcases List.mem_append.mp he with z | z
      · exact hb e z
      · rw [List.mem_singleton.mp z]
        omega
    rintro H10 ⟨es, R10, eD, hes, hb⟩
    refine ⟨D, _, rfl, .inl ⟨SqL.of eD, fun rp nrp => ?_⟩⟩
    have S11 := sameNew (o := .tup (es.map V.int)) nrp
    have hm11 : RT (upd H10 rp (.tup (es.map V.int))) rp es := upd_same
    generalize upd H10 rp (.tup (es.map V.int)) = H11 at S11 hm11 ⊢
    have R311 : Rolled d H3 H11 := ((same_roll D3 S36).trans R69).trans (R10.trans (same_roll R10.die S11))
    have hT11 : TRows H11 zd qd A3 := hT.roll D3 R311
    have hL11 := R311.keep lz _ nlzd hL3
    have hr11 := (hL.2.keep S3).roll D3 R311
    have lps := hL.2.len
    have limes : LimL (2 ^ 42) es := (lim_of hb).mono (two_mono (by decide))
    refine ⟨_, rfl, _, rfl, (by show 1 ≤ sizeLine; decide), fun lm nlm => ?_⟩
    have S12 := sameNew (o := .lst [V.ref rp]) nlm
    refine ⟨lz, lm, ps.map V.ref, [.ref rp], rfl, rfl, S12 _ _ hL11, upd_same, by rw [List.length_map, sizeLine_eq]; show _ + 1 ≤ _; omega, fun lr nlr => ?_⟩
    have S13 := sameNew (o := .lst (ps.map V.ref ++ [V.ref rp])) nlr
    refine ⟨lr, _, rfl, .inl ⟨SqL.of upd_same, fun t3 nt3 => ?_⟩⟩
    have S14 := sameNew (o := .tup (ps.map V.ref ++ [V.ref rp])) nt3
    have S1114 := (S12.trans S13).trans S14
    have inm : ∀ x ∈ Rs ++ [es], x.length = w ∧ LimL (2 ^ 42) x := fun x hx => by
      rcases List.mem_append.mp hx with z | z
      · exact ⟨lenR x z, limR x z⟩
      · rw [List.mem_singleton.mp z]; exact ⟨hes, limes⟩
    refine ⟨.ref t3, rfl, .inr ⟨t3, ps ++ [rp], Rs ++ [es], w, 42, rfl, ⟨by rw [List.map_append]; exact upd_same, Rows.snoc (S1114 _ _ hm11) (hr11.keep S1114)⟩, by rw [List.length_append]; show _ + 1 ≤ _; omega, fun x hx => (inm x hx).1, hw1, hw3, by decide, fun x hx => (inm x hx).2, fun z4 q4 A4 H15 S15 hT4 bA4 sA4 => ?_⟩⟩
    have S1115 := S1114.trans S15
    have lenA4 : A4.length ≤ 3 := Nat.le_trans (bas_len bA4) hw3
    have lim4 : ∀ x ∈ A4, LimL (2 ^ 130) x := bas_lim bA4 sA4 hw3 fun x hx => (inm x hx).2
    have wt4 := wt_due hw3 bA4.len lenA4 (fun x hx => (lim4 x hx).mono (two_mono (by decide)))
    refine ⟨_, rfl, dueD A4, dueD A3, dp_due hT4, dp_due (hT11.keep S1115), sh_due wt4, sh_due wt, ?_⟩
    refine ⟨_, rfl, _, rfl, rp, zd, es, w, qd, A3, 130, rfl, S1115 _ _ hm11, hT11.keep S1115, bA, lenA, hes, hw1, hw3, by decide, limes.mono (two_mono (by decide)), limA, fun b H16 S16 hb2 => ?_⟩
    rw [eq_due hw3 bA4.len bA.len]
    have eb : decide (A4 = A3) = b := by
      have sn : Sm ((Rs ++ [es]).map toF) (toF es :: A3.map toF) := (sm_cons sA).symm
      have iff : A4 = A3 ↔ In (A3.map toF) (toF es) := by
        constructor
        · intro z
          rw [← z]
          exact (sA4 _).mpr (In.mem (List.mem_map.mpr ⟨es, List.mem_append_right _ (List.mem_singleton.mpr rfl), rfl⟩))
        · intro z
          refine bA4.uniq bA ((sA4.trans sn).trans (Sm.of (fun x hx => ?_) fun x hx => In.mem (List.mem_cons_of_mem _ hx)))
          rcases List.mem_cons.mp hx with e | e
          · rw [e]; exact z
          · exact In.mem e
      cases b with
      | true => exact decide_eq_true (iff.mpr (hb2.mp rfl))
      | false =>
        refine decide_eq_false fun z => ?_
        have := hb2.mpr (iff.mp z)
        cases this
    rw [eb]
    refine ⟨rfl, ?_⟩
    rw [decide_eq_true rfl]
    exact k H16 ((((R1.trans R2).trans (same_roll R2.die S3)).trans R311).trans (same_roll R311.die (S1115.trans S16)))
end
end K42

set_option Elab.async false
set_option linter.all false
set_option maxRecDepth 100000
set_option maxHeartbeats 4000000
open L2 in
local macro_rules | `(tactic| walk_at "q1") => `(tactic| first
  | refine ⟨_, rfl, ?_⟩
  | refine ⟨_, _, rfl, rfl, ?_⟩
  | refine And.intro (show CMul _ _ from Or.inr ⟨by decide, by decide⟩) ?_
  | refine And.intro (show CMul _ _ from Or.inl ⟨by first | decide | omega, by first | decide | omega⟩) ?_
  | refine And.intro (show CMul _ _ from Or.inr ⟨by omega, by omega⟩) ?_
  | refine And.intro (show CDiv _ _ from ⟨by omega, by omega⟩) ?_
  | refine And.intro (Lat.cdivw (by omega) (by omega)) ?_
  | refine And.intro (show Dt.CPowG _ _ from ⟨by decide, by decide +kernel⟩) ?_
  | refine And.intro (by first | decide | omega) ?_
  | refine And.intro (Int.pow_pos (Int.pow_pos (by decide))) ?_
  | refine ⟨_, _, _, _, rfl, rfl, SqL.of (by first | assumption | exact upd_same), (by rfl), ?_⟩
  | refine ⟨_, _, _, _, rfl, rfl, (by first | assumption | exact upd_same), (by rfl), ?_⟩
  | refine Or.inl ⟨_, rfl, ?_⟩
  | refine Or.inr ⟨_, rfl, ?_⟩)
local macro_rules | `(tactic| walk_at "q") => `(tactic| repeat (walk_at "q1"))
local macro_rules | `(tactic| walk_at "eqt") => `(tactic| (refine ⟨_, rfl, ?_⟩; refine ⟨rfl, ?_⟩; first
  | (refine ⟨true, rfl, ?_⟩; refine L2.iteT ?_)
  | (refine ⟨false, rfl, ?_⟩; refine L2.iteF ?_)))
local macro_rules | `(tactic| walk_at "sz") => `(tactic| (rw [PySem.sizeLine_eq]; simp))
namespace K42
open PySem PySem.Spec PyProof.Rows L2 Dt An Rp Lat
section
variable {P : Program} {w : World} {K : PySem.W.Frag} {mg : Str → Option Value} {base : Heap} {a : Ads}
def Bad (K : PySem.W.Frag) (H : Hp) (v : V) : Prop := ∃ pd, ArgD K H v pd ∧ (∀ ds, pd = .tuple ds → ds.length ≤ 1000) ∧ areRowsD pd = false
def spRefused (K : PySem.W.Frag) : Sp := fun vs H Q _ => ∃ v, vs = [v] ∧ Bad K H v ∧ ∀ H', Same H H' → Q (.bl true) H'
theorem ok_refused (T : Txt K mg a) : FnOk P w K mg base CX0 6 a.refused a.fd_refused ps__law_refused (spRefused K) := by
  have F := T.F_refused
  refine F.ok (k := 5) sc__law_refused (fun vs H Q E h => ?_) (fun cdv A outer s H vs Q E hr h => ?_)
  · obtain ⟨v, rfl, ⟨pd, hd, hsz, e⟩, k⟩ := h
    rfl
  · obtain ⟨v, rfl, ⟨pd, hd, hsz, e⟩, k⟩ := h
    have hu := hu_of hr
    refine ⟨_, (pss_cons (ps_set (i := 1) sc__law_refused.nd rfl (Or.inl rfl) pe_bl)
      (pss_cons (Exs.ps_try_cl (Wout := fun _ _ _ _ => False) rfl rfl takes0 (fun W pn xe tk _ => (pss_one (ps_expr (pe_callS (ok_basis_of T) (hr.mono (by decide)) (by rfl) T.g_basis_of T.F_basis_of.kp (b_basis_of T) (fun σ => passAt tk σ) (pa_cons (pv 0) pa_nil))))) (.cons (Exs.asks_one (hc := ⟨by rfl, by decide, .inl T.g_c_InvalidOperation⟩)) (fun a0 oe cls d0 pn hz hf => (pss_one (ps_set (i := 1) sc__law_refused.nd rfl (Or.inl rfl) pe_bl))) .nil))
      (pss_one (ps_ret (pv 1))))), ?_⟩
    refine ⟨_, rfl, ?_⟩
    refine ⟨v, rfl, .inl ⟨pd, hd, hsz, e, fun H1 S1 => ⟨true, T.em_InvalidOperation, fun _ ae hae => ?_, fun z => by cases z⟩⟩⟩
    exact ⟨_, rfl, k H1 S1⟩
end
end K42

set_option Elab.async false
set_option linter.all false
set_option maxRecDepth 100000
set_option maxHeartbeats 4000000
open L2 in
local macro_rules | `(tactic| walk_at "q1") => `(tactic| first
  | refine ⟨_, rfl, ?_⟩
  | refine ⟨_, _, rfl, rfl, ?_⟩
  | refine And.intro (show CMul _ _ from Or.inr ⟨by decide, by decide⟩) ?_
  | refine And.intro (show CMul _ _ from Or.inl ⟨by first | decide | omega, by first | decide | omega⟩) ?_
  | refine And.intro (show CMul _ _ from Or.inr ⟨by omega, by omega⟩) ?_
  | refine And.intro (show CDiv _ _ from ⟨by omega, by omega⟩) ?_
  | refine And.intro (Lat.cdivw (by omega) (by omega)) ?_
  | refine And.intro (show Dt.CPowG _ _ from ⟨by decide, by decide +kernel⟩) ?_
  | refine And.intro (by first | decide | omega) ?_
  | refine And.intro (Int.pow_pos (Int.pow_pos (by decide))) ?_
  | refine ⟨_, _, _, _, rfl, rfl, SqL.of (by first | assumption | exact upd_same), (by rfl), ?_⟩
  | refine ⟨_, _, _, _, rfl, rfl, (by first | assumption | exact upd_same), (by rfl), ?_⟩
  | refine Or.inl ⟨_, rfl, ?_⟩
  | refine Or.inr ⟨_, rfl, ?_⟩)
local macro_rules | `(tactic| walk_at "q") => `(tactic| repeat (walk_at "q1"))
local macro_rules | `(tactic| walk_at "eqt") => `(tactic| (refine ⟨_, rfl, ?_⟩; refine ⟨rfl, ?_⟩; first
  | (refine ⟨true, rfl, ?_⟩; refine L2.iteT ?_)
  | (refine ⟨false, rfl, ?_⟩; refine L2.iteF ?_)))
local macro_rules | `(tactic| walk_at "sz") => `(tactic| (rw [PySem.sizeLine_eq]; simp))
namespace K42
open PySem PySem.Spec PyProof.Rows L2 Dt An Rp Lat
section
variable {P : Program} {w : World} {K : PySem.W.Frag} {mg : Str → Option Value} {base : Heap} {a : Ads}
def del (H : Hp) (d : Addr) : Hp := fun b => if b = d then none else H b
theorem del_ne {H : Hp} {b d : Addr} (n : b ≠ d) : del H d b = H b := if_neg n
theorem del_at {H : Hp} {b d : Addr} {o : HO} (e : del H d b = some o) : b ≠ d ∧ H b = some o := by
  unfold del at e
  by_cases n : b = d
  · rw [if_pos n] at e
    cases e
  · rw [if_neg n] at e
    exact ⟨n, e⟩
theorem del_sub (H : Hp) (d : Addr) : Same (del H d) H := fun b o e => (del_at e).2
theorem del_roll {H H1 : Hp} {d : Addr} (R : Rolled d H H1) : Same (del H d) (del H1 d) := fun b o e => by
  obtain ⟨n, q⟩ := del_at e
  rw [del_ne n]
  exact R.keep b o n q
theorem del_new {H : Hp} {d p : Addr} {o : HO} (hp : H p = some o) (n : p ≠ d) : del H d p = some o := by
  rw [del_ne n]
  exact hp
theorem del_same {H H' : Hp} {d : Addr} (S : Same H H') : Same (del H d) (del H' d) := fun b o e => by
  obtain ⟨n, q⟩ := del_at e
  rw [del_ne n]
  exact S _ _ q
theorem sqt_del {K : PySem.W.Frag} {H : Hp} {d p : Addr} {xs : List V} (hD : Die H d) (h : SqT K H p xs) : SqT K (del H d) p xs := by
  obtain ⟨x, y, z, e⟩ := hD
  rcases h with (h | ⟨o, h⟩) | h
  · exact .inl (.inl (del_new h (fun q => by rw [q, e] at h; cases h)))
  · exact .inl (.inr ⟨o, del_new h (fun q => by rw [q, e] at h; cases h)⟩)
  · exact .inr h
def Odd (K : PySem.W.Frag) (H : Hp) (v : V) : Prop := ∃ pd, Dq K H v pd ∧ isIntD pd = false
def Wro (K : PySem.W.Frag) (w : Nat) (H : Hp) (v : V) : Prop := ∃ pd, Dq K H v pd ∧ (rowD pd = false ∨ lenD pd ≠ w)
def BadQ (K : PySem.W.Frag) (H : Hp) (v : V) : Prop := (∃ pd, Dq K H v pd ∧ (∀ ds, pd = .tuple ds → ds.length ≤ 1000) ∧ areRowsD pd = false) ∨ ∃ p ks, v = .ref p ∧ H p = some (.dT ks)
theorem Odd.same {K : PySem.W.Frag} {H H' : Hp} {v : V} (S : Same H H') (h : Odd K H v) : Odd K H' v := ⟨h.choose, dq_same S h.choose_spec.1, h.choose_spec.2⟩
theorem Wro.same {K : PySem.W.Frag} {w : Nat} {H H' : Hp} {v : V} (S : Same H H') (h : Wro K w H v) : Wro K w H' v := ⟨h.choose, dq_same S h.choose_spec.1, h.choose_spec.2⟩
theorem BadQ.same {K : PySem.W.Frag} {H H' : Hp} {v : V} (S : Same H H') (h : BadQ K H v) : BadQ K H' v := by
  rcases h with ⟨pd, h1, h2⟩ | ⟨p, ks, e, h⟩
  · exact .inl ⟨pd, dq_same S h1, h2⟩
  · exact .inr ⟨p, ks, e, S _ _ h⟩
theorem BadQ.bad {K : PySem.W.Frag} {H : Hp} {v : V} (h : BadQ K H v) : Bad K H v := by
  rcases h with ⟨pd, h1, h2⟩ | ⟨p, ks, rfl, h⟩
  · exact ⟨pd, .inl h1, h2⟩
  · exact ⟨.none, .inr ⟨rfl, .type "dict", .base (.dT h), kit_tup (.dict [])⟩, (fun ds e => by cases e), rfl⟩
theorem all_nil {α : Type} {P : α → Prop} : ∀ y ∈ ([] : List α), P y := fun _ z => by cases z
theorem all_cons {α : Type} {P : α → Prop} {x : α} {xs : List α} (h : P x) (t : ∀ y ∈ xs, P y) : ∀ y ∈ x :: xs, P y := fun y z => by
  rcases List.mem_cons.mp z with e | e
  · rw [e]; exact h
  · exact t y e
theorem row_bad {ds : List PyData} {o : PyData} (h : o ∈ ds) (e : isIntD o = false) : rowD (.tuple ds) = false := by
  cases q : rowD (.tuple ds) with
  | false => rfl
  | true =>
    have z : (ds.all isIntD && (decide (1 ≤ lenD (.tuple ds)) && decide (lenD (.tuple ds) ≤ 3))) = true := q
    rw [Bool.and_eq_true] at z
    have y := List.all_eq_true.mp z.1 o h
    rw [e] at y
    cases y
theorem rows_bad1 {ds : List PyData} {o : PyData} (h : o ∈ ds) (e : rowD o = false) : areRowsD (.tuple ds) = false := by
  cases q : areRowsD (.tuple ds) with
  | false => rfl
  | true =>
    have z : (ds.all rowD && oneLenD ds) = true := q
    rw [Bool.and_eq_true] at z
    have y := List.all_eq_true.mp z.1 o h
    rw [e] at y
    cases y
theorem rows_bad2 {ds : List PyData} {o u : PyData} (h : o ∈ ds) (h2 : u ∈ ds) (n : lenD o ≠ lenD u) : areRowsD (.tuple ds) = false := by
  cases q : areRowsD (.tuple ds) with
  | false => rfl
  | true =>
    have z : (ds.all rowD && oneLenD ds) = true := q
    rw [Bool.and_eq_true] at z
    have y := (SL.dist_one _).mp (of_decide_eq_true z.2) _ (List.mem_map.mpr ⟨o, h, rfl⟩) _ (List.mem_map.mpr ⟨u, h2, rfl⟩)
    exact absurd (Int.ofNat.inj y) n
theorem pair_bad {K : PySem.W.Frag} {H : Hp} {w : Nat} {v x : V} {p : Addr} {es : List Int} (hw : es.length = w) (hv : Wro K w H v) (hx : Dq K H x (.tuple (es.map PyData.int))) (h : SqT K H p [x, v] ∨ SqT K H p [v, x]) : BadQ K H (.ref p) := by
  obtain ⟨pd, h1, h2⟩ := hv
  have go : ∀ ds, PyData.tuple (es.map PyData.int) ∈ ds → pd ∈ ds → areRowsD (.tuple ds) = false := fun ds a b => by
    rcases h2 with e | e
    · exact rows_bad1 b e
    · refine rows_bad2 b a fun z => e (z.trans ?_)
      show (es.map PyData.int).length = w
      rw [List.length_map, hw]
  rcases h with h | h
  · exact .inl ⟨.tuple [_, pd], .tup h (.cons hx (.cons h1 .nil)), (fun ds e => by injection e with e; rw [← e]; show 2 ≤ 1000; decide), go _ List.mem_cons_self (List.mem_cons_of_mem _ List.mem_cons_self)⟩
  · exact .inl ⟨.tuple [pd, _], .tup h (.cons h1 (.cons hx .nil)), (fun ds e => by injection e with e; rw [← e]; show 2 ≤ 1000; decide), go _ (List.mem_cons_of_mem _ List.mem_cons_self) List.mem_cons_self⟩
def spNear (K : PySem.W.Frag) : Sp := fun vs H Q _ => ∃ d, vs = [.ref d] ∧ Die H d ∧ ∀ v H', Rolled d H H' → Bad K H' v → Q v H'
theorem ok_near (T : Txt K mg a) : FnOk P w K mg base CX0 3 a.near a.fd_near ps__law_near (spNear K) := by
  have F := T.F_near
  refine F.ok (k := 2) sc__law_near (fun vs H Q E h => ?_) (fun cdv A outer s H vs Q E hr h => ?_)
  · obtain ⟨d, rfl, hD, k⟩ := h
    rfl
  · obtain ⟨d, rfl, hD, k⟩ := h
    have hu := hu_of hr
    refine ⟨_, (pss_cons (ps_set (i := 1) sc__law_near.nd rfl (Or.inl rfl) (pe_callTy call_tuple_of (by rfl) T.tuple (by decide +kernel) (pa_cons (pe_lc (own := [("_law_column", 2)]) rfl sc__law_near.nd (pi_range1 (by rfl) T.range (pa_cons (pe_op op_add pe_int (pe_call (ok_spin T) (hr.mono (by decide)) (by rfl) T.g_spin T.F_spin.kp (b_spin T) .nil pass0 (pa_cons (pv 0) (pa_cons pe_int pa_nil)))) pa_nil)) (blkOk_by (N := nm__law_near) (sc := defScope s__law_near) (by decide +kernel)) (fun _ _ _ _ _ => (pg_name (i := 2) sc__law_near.nd rfl (Or.inl rfl))) (fun _ _ _ _ _ => pts_nil) (fun _ _ _ _ _ => (pe_call (ok_spin T) (hr.mono (by decide)) (by rfl) T.g_spin T.F_spin.kp (b_spin T) .nil pass0 (pa_cons (pv 0) (pa_cons pe_int pa_nil))))) pa_nil)))
      (pss_cons (ps_set (i := 3) sc__law_near.nd rfl (Or.inl rfl) (pe_call (ok_pick T) (hr.mono (by decide)) (by rfl) T.g_pick T.F_pick.kp (b_pick T) .nil pass0 (pa_cons (pv 0) (pa_cons (pe_lst (pa_cons pe_non (pa_cons pe_str (pa_cons pe_bl (pa_cons (pe_op op_powG pe_int pe_int) (pa_cons (pe_tup (pa_cons pe_int pa_nil)) (pa_cons (pe_lst pa_nil) (pa_cons (pe_un un_neg (pe_op op_powG pe_int pe_int)) (pa_cons pe_bl pa_nil))))))))) pa_nil))))
      (pss_cons (ps_set (i := 4) sc__law_near.nd rfl (Or.inl rfl) (pe_call (ok_spin T) (hr.mono (by decide)) (by rfl) T.g_spin T.F_spin.kp (b_spin T) .nil pass0 (pa_cons (pv 0) (pa_cons (pe_callB call_len (by rfl) T.len (by decide +kernel) (pa_cons (pv 1) pa_nil)) pa_nil))))
      (pss_cons (ps_set (i := 5) sc__law_near.nd rfl (Or.inl rfl) (pe_op Ts.op_catS (pe_op Ts.op_catS (pe_slice Ts.sl_tupS (pv 1) po_none (po_some (pv 4))) (pe_tup (pa_cons (pv 3) pa_nil))) (pe_slice Ts.sl_tupS (pv 1) (po_some (pe_op op_add (pv 4) pe_int)) po_none)))
      (pss_cons (ps_set (i := 6) sc__law_near.nd rfl (Or.inl rfl) (pe_call (ok_pick T) (hr.mono (by decide)) (by rfl) T.g_pick T.F_pick.kp (b_pick T) .nil pass0 (pa_cons (pv 0) (pa_cons (pe_lst (pa_cons (pv 5) (pa_cons (pe_callTy call_list_of (by rfl) T.list (by decide +kernel) (pa_cons (pv 1) pa_nil)) (pa_cons (pe_op Ts.op_catS (pv 1) (pe_tup (pa_cons pe_int pa_nil))) (pa_cons (pe_slice Ts.sl_tupS (pv 1) (po_some pe_int) po_none) (pa_cons pe_int (pa_cons pe_non (pa_cons pe_str (pa_cons (pe_tup (pa_cons pe_int (pa_cons pe_int (pa_cons pe_int (pa_cons pe_int pa_nil))))) (pa_cons (pe_tup pa_nil) pa_nil)))))))))) pa_nil))))
      (pss_one (ps_ret (pe_call (ok_pick T) (hr.mono (by decide)) (by rfl) T.g_pick T.F_pick.kp (b_pick T) .nil pass0 (pa_cons (pv 0) (pa_cons (pe_lst (pa_cons (pe_tup (pa_cons (pv 1) (pa_cons (pv 6) pa_nil))) (pa_cons (pe_tup (pa_cons (pv 6) (pa_cons (pv 1) pa_nil))) (pa_cons (pe_lst (pa_cons (pv 1) pa_nil)) (pa_cons pe_non (pa_cons pe_int (pa_cons pe_str (pa_cons (Dh.pe_dispT hu (pps_cons (pv 1) (pv 1) pps_nil) (by rfl) (by rfl) (fun z => by cases z) (by decide)) (pa_cons (pe_tup (pa_cons (pe_tup (pa_cons pe_int (pa_cons pe_int (pa_cons pe_int (pa_cons pe_int pa_nil))))) pa_nil)) (pa_cons (pe_tup (pa_cons (pe_tup pa_nil) pa_nil)) pa_nil)))))))))) pa_nil)))))))))), ?_⟩
    refine ⟨_, rfl, d, 3, rfl, hD, (by decide), (by decide), fun r H1 r0 r3 R1 => ?_⟩
    refine ⟨_, _, rfl, rfl, ?_⟩
    obtain ⟨w, hw⟩ : ∃ w : Nat, 1 + r = (w : Int) := ⟨(1 + r).toNat, by omega⟩
    rw [show (fun i j : Int => V.int (i + j)) 1 r = V.int (w : Int) from by show V.int (1 + r) = _; rw [hw]]
    have hw1 : 1 ≤ w := by omega
    have hw3 : w ≤ 3 := by omega
    have D1 := R1.die
    refine ⟨_, rfl, by omega, by omega, fun D hDn => ?_⟩
    rw [Int.toNat_natCast]
    have nD : D ≠ d := D1.ne hDn
    refine lc_it (walk_range (lo := 0) (n := w)) (fun i Hi => ∃ es : List Int, Rolled d H1 Hi ∧ Hi D = some (.lst (es.map V.int)) ∧ es.length = i ∧ ∀ e ∈ es, 0 ≤ e ∧ e < 9) ⟨[], same_roll D1 (sameNew hDn), upd_same, rfl, (fun _ z => by cases z)⟩ ?_ ?_ ?_
    · rintro i Hi hi _
      trivial
    · rintro i y Hi0 Hi hi ⟨es, Ri, eD, hes, hb⟩ ⟨rfl, rfl⟩
      refine ⟨rfl, ?_⟩
      dsimp only [tYes]
      rw [if_pos rfl]
      refine ⟨_, rfl, d, 9, rfl, Ri.die, (by decide), (by decide), fun r H4 r0 r1 R4 => ?_⟩
      have eD4 := R4.keep D _ nD eD
      refine ⟨_, eD4, by rw [List.length_map, sizeLine_eq]; omega, es ++ [r], roll_upd (Ri.trans R4) hDn nD, by rw [List.map_append]; exact upd_same, by rw [List.length_append, hes]; rfl, fun e he => ?_⟩
      rcases List.mem_append.mp he with z | z
      · exact hb e z
      · rw [List.mem_singleton.mp z]
        exact ⟨r0, r1⟩
    rintro H2 ⟨es, R2, eD, hes, hb⟩
    refine ⟨D, _, rfl, .inl ⟨SqL.of eD, fun rp nrp => ?_⟩⟩
    have D2 := R2.die
    generalize EH3 : upd H2 rp _ = H3
    have hm3 := (congrFun EH3 rp).symm.trans upd_same
    have S3 : Same H2 H3 := by rw [← EH3]; exact sameNew nrp
    have D3 := die_same D2 S3
    refine ⟨_, rfl, ?_⟩
    refine ⟨_, _, rfl, rfl, ⟨by decide, by decide +kernel⟩, ?_⟩
    refine ⟨by show 1 ≤ sizeLine; decide, fun t1 nt1 => ?_⟩
    generalize EH4 : upd H3 t1 _ = H4
    have ht1 := (congrFun EH4 t1).symm.trans upd_same
    have S4 : Same H3 H4 := by rw [← EH4]; exact sameNew nt1
    refine ⟨by show 0 ≤ sizeLine; decide, fun l1 nl1 => ?_⟩
    generalize EH5 : upd H4 l1 _ = H5
    have hl1 := (congrFun EH5 l1).symm.trans upd_same
    have S5 : Same H4 H5 := by rw [← EH5]; exact sameNew nl1
    refine ⟨_, _, rfl, rfl, ⟨by decide, by decide +kernel⟩, ?_⟩
    refine ⟨_, rfl, ?_⟩
    refine ⟨by show 8 ≤ sizeLine; decide, fun p1 np1 => ?_⟩
    generalize EH6 : upd H5 p1 _ = H6
    have hp1 := (congrFun EH6 p1).symm.trans upd_same
    have S6 : Same H5 H6 := by rw [← EH6]; exact sameNew np1
    have D6 := die_same D3 ((S4.trans S5).trans S6)
    have D5 := die_same D3 (S4.trans S5)
    have n1 := D5.ne np1
    refine ⟨d, .ref p1, _, rfl, D6, ⟨n1, .inl (SqL.of hp1)⟩, by show (0 : Nat) < 8; decide, by show 8 < 1000000; decide, fun o H7 ho R7 => ?_⟩
    have nt := D3.ne nt1
    have nl := (die_same D3 S4).ne nl1
    have od6 : Odd K (del H6 d) o := by
      have eT := del_new (S6 _ _ (S5 _ _ ht1)) nt
      have eL := del_new (S6 _ _ hl1) nl
      refine all_cons ⟨_, .non, rfl⟩ (all_cons ⟨_, .str _, rfl⟩ (all_cons ⟨_, .bl _, rfl⟩ (all_cons ⟨.int (10 ^ 60), .int _, by decide +kernel⟩ (all_cons ⟨.tuple [.int 1], .tup (SqT.of eT) (.cons (.int 1) .nil), rfl⟩ (all_cons ⟨.list [], .lst (SqL.of eL) .nil, rfl⟩ (all_cons ⟨.int (-(10 ^ 61)), .int _, by decide +kernel⟩ (all_cons ⟨_, .bl _, rfl⟩ all_nil))))))) o ho
    have od7 := od6.same (del_roll R7)
    have hm7 : RT H7 rp es := RT.roll (H := H6) (((S4.trans S5).trans S6) _ _ hm3) D6 R7
    have D7 := R7.die
    refine ⟨_, rfl, _, rfl, _, _, rfl, .inr ⟨_, SqT.of hm7, rfl⟩, d, _, rfl, D7, by rw [List.length_map, hes]; omega, by rw [List.length_map, hes]; omega, fun at_ H8 a0 a1 R8 => ?_⟩
    have hm8 := hm7.roll D7 R8
    have od8 := od7.same (del_roll R8)
    have D8 := R8.die
    obtain ⟨u, rfl⟩ : ∃ u : Nat, at_ = (u : Int) := ⟨at_.toNat, by omega⟩
    refine ⟨_, rfl, _, rfl, _, rfl, rp, _, rfl, SqT.of hm8, fun q1 H9 S9 hq1 => ?_⟩
    refine ⟨_, rfl, by show 1 ≤ sizeLine; decide, fun q2 nq2 => ?_⟩
    generalize EH10 : upd H9 q2 _ = H10
    have hq2 := (congrFun EH10 q2).symm.trans upd_same
    have S10 : Same H9 H10 := by rw [← EH10]; exact sameNew nq2
    refine ⟨q1, q2, _, _, rfl, rfl, sqt_same S10 hq1, SqT.of hq2, ?_⟩
    refine ⟨by rw [Ts.cut_to, List.length_take, List.length_map, sizeLine_eq]; show _ + 1 ≤ _; omega, fun q3 H11 S11 hq3 => ?_⟩
    have hm11 := ((S9.trans S10).trans S11) _ _ hm8
    refine ⟨_, rfl, _, rfl, _, _, rfl, rfl, _, rfl, rp, _, rfl, SqT.of hm11, fun q4 H12 S12 hq4 => ?_⟩
    refine ⟨q3, q4, _, _, rfl, rfl, sqt_same S12 hq3, hq4, ?_, fun q5 H13 S13 hq5 => ?_⟩
    · rw [Ts.cut_to, show cutV (es.map V.int) (some ((u : Int) + 1)) none = (es.map V.int).drop (u + 1) from Ts.cut_from _ (u + 1), List.length_append, List.length_take, List.length_drop, List.length_map, sizeLine_eq]
      show _ + 1 + _ ≤ _
      omega
    rw [Ts.cut_to, show cutV (es.map V.int) (some ((u : Int) + 1)) none = (es.map V.int).drop (u + 1) from Ts.cut_from _ (u + 1), ← List.map_take, ← List.map_drop] at hq5
    have S813 : Same H8 H13 := (((S9.trans S10).trans S11).trans S12).trans S13
    have D13 := die_same D8 S813
    have hm13 := S813 _ _ hm8
    have w5 : Wro K w (del H13 d) (.ref q5) := by
      obtain ⟨pd, o1, o2⟩ := od8.same (del_same S813)
      refine ⟨_, .tup (sqt_del D13 hq5) (Ts.dqs_app (Ts.dqs_app (Ts.intsQ _) (.cons o1 .nil)) (Ts.intsQ _)), .inl (row_bad (List.mem_append_left _ (List.mem_append_right _ List.mem_cons_self)) o2)⟩
    refine ⟨_, rfl, _, rfl, _, rfl, rp, _, rfl, .inr (SqT.of hm13), fun l2 nl2 => ?_⟩
    generalize EH14 : upd H13 l2 _ = H14
    have hl2 := (congrFun EH14 l2).symm.trans upd_same
    have S14 : Same H13 H14 := by rw [← EH14]; exact sameNew nl2
    refine ⟨_, rfl, by show 1 ≤ sizeLine; decide, fun q6 nq6 => ?_⟩
    generalize EH15 : upd H14 q6 _ = H15
    have hq6 := (congrFun EH15 q6).symm.trans upd_same
    have S15 : Same H14 H15 := by rw [← EH15]; exact sameNew nq6
    have hm15 := (S14.trans S15) _ _ hm13
    refine ⟨rp, q6, _, _, rfl, rfl, SqT.of hm15, SqT.of hq6, by rw [List.length_map, sizeLine_eq]; show _ + 1 ≤ _; omega, fun q7 H16 S16 hq7 => ?_⟩
    have hm16 := S16 _ _ hm15
    refine ⟨_, rfl, _, rfl, rp, _, rfl, SqT.of hm16, fun q8 H17 S17 hq8 => ?_⟩
    refine ⟨by show 4 ≤ sizeLine; decide, fun t4 nt4 => ?_⟩
    generalize EH18 : upd H17 t4 _ = H18
    have ht4 := (congrFun EH18 t4).symm.trans upd_same
    have S18 : Same H17 H18 := by rw [← EH18]; exact sameNew nt4
    refine ⟨by show 0 ≤ sizeLine; decide, fun t0 nt0 => ?_⟩
    generalize EH19 : upd H18 t0 _ = H19
    have ht0 := (congrFun EH19 t0).symm.trans upd_same
    have S19 : Same H18 H19 := by rw [← EH19]; exact sameNew nt0
    refine ⟨by show 9 ≤ sizeLine; decide, fun p2 np2 => ?_⟩
    generalize EH20 : upd H19 p2 _ = H20
    have hp2 := (congrFun EH20 p2).symm.trans upd_same
    have S20 : Same H19 H20 := by rw [← EH20]; exact sameNew np2
    have D17 := die_same D13 (((S14.trans S15).trans S16).trans S17)
    have D14 := die_same D13 S14
    have D18 := die_same D17 S18
    have D19 := die_same D18 S19
    have D20 := die_same D19 S20
    have hm17 := S17 _ _ hm16
    have S1820 := (S18.trans S19).trans S20
    have S1320 : Same H13 H20 := (((S14.trans S15).trans S16).trans S17).trans S1820
    refine ⟨d, .ref p2, _, rfl, D20, ⟨D19.ne np2, .inl (SqL.of hp2)⟩, by show (0 : Nat) < 9; decide, by show 9 < 1000000; decide, fun v H21 hv R21 => ?_⟩
    have wv : Wro K w (del H20 d) v := by
      have e2 : SqL K (del H14 d) l2 (es.map V.int) := SqL.of (del_new hl2 (D13.ne nl2))
      have e7 := sqt_del (die_same D14 (S15.trans S16)) hq7
      have e8 := sqt_del D17 hq8
      rw [show cutV (es.map V.int) (some 1) none = (es.map V.int).drop 1 from Ts.cut_from _ 1] at e8
      have e4 := SqT.of (K := K) (del_new ht4 (D17.ne nt4))
      have e0 := SqT.of (K := K) (del_new ht0 (D18.ne nt0))
      have s14 : Same (del H14 d) (del H20 d) := del_same (((S15.trans S16).trans S17).trans S1820)
      have s16 : Same (del H16 d) (del H20 d) := del_same (S17.trans S1820)
      have s17 : Same (del H17 d) (del H20 d) := del_same S1820
      refine all_cons (w5.same (del_same S1320)) (all_cons (Wro.same s14 ⟨_, .lst e2 (Ts.intsQ _), .inl rfl⟩) (all_cons (Wro.same s16 ⟨_, .tup e7 (Ts.dqs_app (Ts.intsQ _) (.cons (.int 0) .nil)), .inr ?_⟩) (all_cons (Wro.same s17 ⟨_, .tup e8 (show DqAll K (del H17 d) ((es.map V.int).drop 1) ((es.drop 1).map PyData.int) from by rw [← List.map_drop]; exact Ts.intsQ _), .inr ?_⟩) (all_cons ⟨_, .int 0, .inl rfl⟩ (all_cons ⟨_, .non, .inl rfl⟩ (all_cons ⟨_, .str _, .inl rfl⟩ (all_cons (Wro.same (del_same (S19.trans S20)) ⟨.tuple [.int 0, .int 0, .int 0, .int 0], .tup e4 (.cons (.int 0) (.cons (.int 0) (.cons (.int 0) (.cons (.int 0) .nil)))), .inl (by decide +kernel)⟩) (all_cons (Wro.same (del_same S20) ⟨.tuple [], .tup e0 .nil, .inl (by decide +kernel)⟩) all_nil)))))))) v hv
      · show (es.map PyData.int ++ [PyData.int 0]).length ≠ w
        rw [List.length_append, List.length_map, hes]
        show w + 1 ≠ w
        omega
      · show ((es.drop 1).map PyData.int).length ≠ w
        rw [List.length_map, List.length_drop, hes]
        omega
    have wv := wv.same (del_roll R21)
    have hm21 : RT H21 rp es := RT.roll (H := H20) (S1820 _ _ hm17) D20 R21
    have D21 := R21.die
    have ner : rp ≠ d := D2.ne nrp
    refine ⟨_, rfl, _, rfl, _, rfl, by show 2 ≤ sizeLine; decide, fun b1 nb1 => ?_⟩
    generalize EH22 : upd H21 b1 _ = H22
    have hb1 := (congrFun EH22 b1).symm.trans upd_same
    have S22 : Same H21 H22 := by rw [← EH22]; exact sameNew nb1
    refine ⟨_, rfl, _, rfl, by show 2 ≤ sizeLine; decide, fun b2 nb2 => ?_⟩
    generalize EH23 : upd H22 b2 _ = H23
    have hb2 := (congrFun EH23 b2).symm.trans upd_same
    have S23 : Same H22 H23 := by rw [← EH23]; exact sameNew nb2
    refine ⟨_, rfl, by show 1 ≤ sizeLine; decide, fun b3 nb3 => ?_⟩
    generalize EH24 : upd H23 b3 _ = H24
    have hb3 := (congrFun EH24 b3).symm.trans upd_same
    have S24 : Same H23 H24 := by rw [← EH24]; exact sameNew nb3
    have S2124 := (S22.trans S23).trans S24
    have D22 := die_same D21 S22
    have D23 := die_same D22 S23
    have D24 := die_same D23 S24
    have hm24 := S2124 _ _ hm21
    intro b4 nb4
    refine ⟨_, rfl, _, rfl, upd_same, [⟨rp, es.map Sum.inl, .ref rp⟩], rfl, (fun e he => ?_), by show 1 ≤ 15; decide, ?_⟩
    · rw [List.mem_singleton.mp he]
      show upd H24 b4 _ rp = some (.tup ((es.map Sum.inl).map kV))
      rw [upd_ne (ne_of_none hm24 nb4), hm24, List.map_map]
      rfl
    have S25 : Same H24 (upd (upd H24 b4 (.dT [])) b4 (.dT (Dh.mergeT [] ([(⟨rp, es.map Sum.inl, .ref rp⟩ : Dh.Pk)].map fun e => (e.key, e.val))))) := fun x o e => by
      rw [upd_ne (ne_of_none e nb4), upd_ne (ne_of_none e nb4)]
      exact e
    have hb4 : upd (upd H24 b4 (.dT [])) b4 (.dT (Dh.mergeT [] ([(⟨rp, es.map Sum.inl, .ref rp⟩ : Dh.Pk)].map fun e => (e.key, e.val)))) b4 = some (.dT (Dh.mergeT [] ([(⟨rp, es.map Sum.inl, .ref rp⟩ : Dh.Pk)].map fun e => (e.key, e.val)))) := upd_same
    generalize upd (upd H24 b4 (.dT [])) b4 (.dT (Dh.mergeT [] ([(⟨rp, es.map Sum.inl, .ref rp⟩ : Dh.Pk)].map fun e => (e.key, e.val)))) = H25 at S25 hb4 ⊢
    have D25 := die_same D24 S25
    refine ⟨by show 4 ≤ sizeLine; decide, fun c1 nc1 => ?_⟩
    generalize EH26 : upd H25 c1 _ = H26
    have hc1 := (congrFun EH26 c1).symm.trans upd_same
    have S26 : Same H25 H26 := by rw [← EH26]; exact sameNew nc1
    refine ⟨by show 1 ≤ sizeLine; decide, fun c2 nc2 => ?_⟩
    generalize EH27 : upd H26 c2 _ = H27
    have hc2 := (congrFun EH27 c2).symm.trans upd_same
    have S27 : Same H26 H27 := by rw [← EH27]; exact sameNew nc2
    refine ⟨by show 0 ≤ sizeLine; decide, fun c3 nc3 => ?_⟩
    generalize EH28 : upd H27 c3 _ = H28
    have hc3 := (congrFun EH28 c3).symm.trans upd_same
    have S28 : Same H27 H28 := by rw [← EH28]; exact sameNew nc3
    refine ⟨by show 1 ≤ sizeLine; decide, fun c4 nc4 => ?_⟩
    generalize EH29 : upd H28 c4 _ = H29
    have hc4 := (congrFun EH29 c4).symm.trans upd_same
    have S29 : Same H28 H29 := by rw [← EH29]; exact sameNew nc4
    refine ⟨by show 9 ≤ sizeLine; decide, fun p3 np3 => ?_⟩
    generalize EH30 : upd H29 p3 _ = H30
    have hp3 := (congrFun EH30 p3).symm.trans upd_same
    have S30 : Same H29 H30 := by rw [← EH30]; exact sameNew np3
    have D26 := die_same D25 S26
    have D27 := die_same D26 S27
    have D28 := die_same D27 S28
    have D29 := die_same D28 S29
    have D30 := die_same D29 S30
    have S2530 := (((S26.trans S27).trans S28).trans S29).trans S30
    have S2430 := S25.trans S2530
    refine ⟨d, .ref p3, _, rfl, D30, ⟨D29.ne np3, .inl (SqL.of hp3)⟩, by show (0 : Nat) < 9; decide, by show 9 < 1000000; decide, fun z H31 hz R31 => ?_⟩
    have bz : BadQ K (del H30 d) z := by
      have hrow : ∀ {H' : Hp}, Same H21 H' → Dq K (del H' d) (.ref rp) (.tuple (es.map PyData.int)) := fun S => .tup (SqT.of (del_new (S _ _ hm21) ner)) (Ts.intsQ _)
      have e1 := SqT.of (K := K) (del_new hb1 (D21.ne nb1))
      have e2 := SqT.of (K := K) (del_new hb2 (D22.ne nb2))
      have e3 := SqL.of (K := K) (del_new hb3 (D23.ne nb3))
      have e4 := del_new hb4 (D24.ne nb4)
      have f1 := SqT.of (K := K) (del_new (S27 _ _ hc1) (D25.ne nc1))
      have f2 := SqT.of (K := K) (del_new hc2 (D26.ne nc2))
      have f3 := SqT.of (K := K) (del_new (S29 _ _ hc3) (D27.ne nc3))
      have f4 := SqT.of (K := K) (del_new hc4 (D28.ne nc4))
      refine all_cons (BadQ.same (del_same ((S23.trans S24).trans S2430)) (pair_bad hes (wv.same (del_same S22)) (hrow S22) (.inl e1))) (all_cons (BadQ.same (del_same (S24.trans S2430)) (pair_bad hes (wv.same (del_same (S22.trans S23))) (hrow (S22.trans S23)) (.inr e2))) (all_cons (BadQ.same (del_same S2430) (.inl ⟨.list [.tuple (es.map PyData.int)], .lst e3 (.cons (hrow S2124) .nil), (fun ds e => by cases e), rfl⟩)) (all_cons (.inl ⟨.none, .non, (fun ds e => by cases e), rfl⟩) (all_cons (.inl ⟨.int 0, .int 0, (fun ds e => by cases e), rfl⟩) (all_cons (.inl ⟨.str _, .str _, (fun ds e => by cases e), rfl⟩) (all_cons (BadQ.same (del_same S2530) (.inr ⟨b4, _, rfl, e4⟩)) (all_cons (BadQ.same (del_same ((S28.trans S29).trans S30)) (.inl ⟨.tuple [.tuple [.int 0, .int 0, .int 0, .int 0]], .tup f2 (.cons (.tup f1 (.cons (.int 0) (.cons (.int 0) (.cons (.int 0) (.cons (.int 0) .nil))))) .nil), (fun ds e => by injection e with e; rw [← e]; show 1 ≤ 1000; decide), by decide +kernel⟩)) (all_cons (BadQ.same (del_same S30) (.inl ⟨.tuple [.tuple []], .tup f4 (.cons (.tup f3 .nil) .nil), (fun ds e => by injection e with e; rw [← e]; show 1 ≤ 1000; decide), by decide +kernel⟩)) all_nil)))))))) z hz
    have S36 := (S4.trans S5).trans S6
    refine k z H31 ?_ ((bz.same (del_roll R31)).same (del_sub _ _)).bad
    exact (R1.trans (R2.trans ((same_roll D2 (S3.trans S36)).trans (R7.trans (R8.trans ((same_roll D8 (S813.trans S1320)).trans (R21.trans ((same_roll D21 (S2124.trans S2430)).trans R31))))))))
end
end K42

set_option Elab.async false
set_option linter.all false
set_option maxRecDepth 100000
set_option maxHeartbeats 4000000
open L2 in
local macro_rules | `(tactic| walk_at "q1") => `(tactic| first
  | refine ⟨_, rfl, ?_⟩
  | refine ⟨_, _, rfl, rfl, ?_⟩
  | refine And.intro (show CMul _ _ from Or.inr ⟨by decide, by decide⟩) ?_
  | refine And.intro (show CMul _ _ from Or.inl ⟨by first | decide | omega, by first | decide | omega⟩) ?_
  | refine And.intro (show CMul _ _ from Or.inr ⟨by omega, by omega⟩) ?_
  | refine And.intro (show CDiv _ _ from ⟨by omega, by omega⟩) ?_
  | refine And.intro (Lat.cdivw (by omega) (by omega)) ?_
  | refine And.intro (show Dt.CPowG _ _ from ⟨by decide, by decide +kernel⟩) ?_
  | refine And.intro (by first | decide | omega) ?_
  | refine And.intro (Int.pow_pos (Int.pow_pos (by decide))) ?_
  | refine ⟨_, _, _, _, rfl, rfl, SqL.of (by first | assumption | exact upd_same), (by rfl), ?_⟩
  | refine ⟨_, _, _, _, rfl, rfl, (by first | assumption | exact upd_same), (by rfl), ?_⟩
  | refine Or.inl ⟨_, rfl, ?_⟩
  | refine Or.inr ⟨_, rfl, ?_⟩)
local macro_rules | `(tactic| walk_at "q") => `(tactic| repeat (walk_at "q1"))
local macro_rules | `(tactic| walk_at "eqt") => `(tactic| (refine ⟨_, rfl, ?_⟩; refine ⟨rfl, ?_⟩; first
  | (refine ⟨true, rfl, ?_⟩; refine L2.iteT ?_)
  | (refine ⟨false, rfl, ?_⟩; refine L2.iteF ?_)))
local macro_rules | `(tactic| walk_at "sz") => `(tactic| (rw [PySem.sizeLine_eq]; simp))
namespace K42
open PySem PySem.Spec PyProof.Rows L2 Dt An Rp Lat
section
variable {P : Program} {w : World} {K : PySem.W.Frag} {mg : Str → Option Value} {base : Heap} {a : Ads}
def spLaw (K : PySem.W.Frag) : Sp := fun vs H Q _ => ∃ (s : Addr) (ns : List Int), vs = [.ref s] ∧ SqL K H s (ns.map V.int) ∧ ns.length ≤ 63 ∧ ∀ H', Q (.bl true) H'
theorem count_of (L : Nat) : ∃ m : Nat, (if (if (L : Int) < 12 then (L : Int) else 12) > 1 then (if (L : Int) < 12 then (L : Int) else 12) else 1) = (m : Int) ∧ m ≤ 12 := by
  by_cases h : (L : Int) < 12
  · rw [if_pos h]
    by_cases h1 : (L : Int) > 1
    · rw [if_pos h1]
      exact ⟨L, rfl, by omega⟩
    · rw [if_neg h1]
      exact ⟨1, rfl, by decide⟩
  · rw [if_neg h]
    exact ⟨12, rfl, by decide⟩
theorem extS {K : PySem.W.Frag} {H1 H2 H3 : Hp} {d s : Addr} {xs : List V} (hd : H1 d = none) (S : ∀ b o, H1 b = some o → H2 b = some o) (X : Rolled d H2 H3) (h : SqL K H1 s xs) : SqL K H3 s xs := by
  rcases h with (h | ⟨o, h⟩) | h
  · exact .inl (.inl (X.keep _ _ (ne_of_none h hd) (S _ _ h)))
  · exact .inl (.inr ⟨o, X.keep _ _ (ne_of_none h hd) (S _ _ h)⟩)
  · exact .inr h
theorem in_one {x y : Int} (k : Int) (h : y - k * x = 0) : In [toF [x]] (toF [y]) := ⟨k, fun i => by
  match i with
  | 0 => exact h
  | n + 1 =>
    show (0 : Int) - k * 0 = 0
    rw [Int.mul_zero]
    rfl⟩
theorem in_two1 {x u y : Int} (k j : Int) (h : y - k * x - j * u = 0) : In [toF [x], toF [u]] (toF [y]) := ⟨k, j, fun i => by
  match i with
  | 0 => exact h
  | n + 1 =>
    show (0 : Int) - k * 0 - j * 0 = 0
    rw [Int.mul_zero, Int.mul_zero]
    rfl⟩
theorem in_two {a b c d x y : Int} (k j : Int) (h0 : x - k * a - j * c = 0) (h1 : y - k * b - j * d = 0) : In [toF [a, b], toF [c, d]] (toF [x, y]) := ⟨k, j, fun i => by
  match i with
  | 0 => exact h0
  | 1 => exact h1
  | n + 2 =>
    show (0 : Int) - k * 0 - j * 0 = 0
    rw [Int.mul_zero, Int.mul_zero]
    rfl⟩
theorem piv0 {a : Int} {r : List Int} (h : 0 < a) : Piv (toF (a :: r)) 0 := ⟨fun i z => absurd z (Nat.not_lt_zero _), h⟩
theorem piv1 {a : Int} {r : List Int} (h : 0 < a) : Piv (toF (0 :: a :: r)) 1 := ⟨fun i z => by
  obtain rfl : i = 0 := by omega
  rfl, h⟩
theorem bas_one {a : Int} (h : 0 < a) : Bas 1 [[a]] := ⟨all_cons rfl all_nil, .cons (Nat.le_refl _) (piv0 h) (.nil _) fun _ z => by cases z⟩
theorem bas_two {a b d : Int} (h : 0 < a) (hd : 0 < d) (h0 : 0 ≤ b) (h1 : b < d) : Bas 2 [[a, b], [0, d]] := ⟨all_cons rfl (all_cons rfl all_nil), .cons (Nat.le_refl _) (piv0 h) (.cons (Nat.le_refl _) (piv1 hd) (.nil _) fun _ z => by cases z) fun t ht q hq => by
  rw [List.mem_singleton.mp ht] at hq ⊢
  obtain rfl := (piv1 hd).uniq hq
  exact ⟨h0, h1⟩⟩
def tN : Int := 10 ^ 50
theorem sm2 : Sm (([] : List (List Int)).map toF) ([[0, 0]].map toF) := Sm.of all_nil (all_cons (fun i => by
  match i with
  | 0 => rfl
  | 1 => rfl
  | n + 2 => rfl) all_nil)
theorem sm3 : Sm ([[2, 2], [0, 3]].map toF) ([[4, 1], [6, 3]].map toF) := Sm.of (all_cons (in_two (-1) 1 (by decide) (by decide)) (all_cons (in_two (-3) 2 (by decide) (by decide)) all_nil)) (all_cons (in_two 2 (-1) (by decide) (by decide)) (all_cons (in_two 3 (-1) (by decide) (by decide)) all_nil))
theorem sm4 : Sm ([[1]].map toF) ([[-3], [5]].map toF) := Sm.of (all_cons (in_two1 (-2) (-1) (by decide)) all_nil) (all_cons (in_one (-3) (by decide)) (all_cons (in_one 5 (by decide)) all_nil))
theorem sm5 : Sm ([[1, 10 ^ 64 * 10 ^ 36 - 10 ^ 50], [0, 10 ^ 64 * 10 ^ 36]].map toF) ([[10 ^ 50, 0], [-1, 10 ^ 50]].map toF) := Sm.of (all_cons (in_two 1 (10 ^ 50 - 1) (by decide +kernel) (by decide +kernel)) (all_cons (in_two 1 (10 ^ 50) (by decide +kernel) (by decide +kernel)) all_nil)) (all_cons (in_two (10 ^ 50) (1 - 10 ^ 50) (by decide +kernel) (by decide +kernel)) (all_cons (in_two (-1) 1 (by decide +kernel) (by decide +kernel)) all_nil))
def allD : PyData := .list [dueD [], dueD [], dueD [[2, 2], [0, 3]], dueD [[1]], dueD [[1, 10 ^ 64 * 10 ^ 36 - 10 ^ 50], [0, 10 ^ 64 * 10 ^ 36]]]
theorem all_sh : SeqAt.shaped allD = true := by decide +kernel
theorem all_eq : PyData.eqv allD allD = true := by decide +kernel
theorem rows0 (H : Hp) : Rows H [] [] := .nil
theorem ok_law (T : Txt K mg a) : Rp.FnG P w K mg base CX0 7 a.law a.fd_law ps_law (spLaw K) := by
  have F := T.F_law
  refine Rp.okG (k := 6) F sc_law (fun vs H Q E h => ?_) (fun cdv A outer s H vs Q E hr hg h => ?_)
  · obtain ⟨s0, ns, rfl, hS, hl, k⟩ := h
    rfl
  · obtain ⟨s0, ns, rfl, hS, hl, k⟩ := h
    have hu := hu_of hr
    refine ⟨_, (pss_cons (ps_for PassesOwn.never rfl (pi_range1 (by rfl) T.range (pa_cons (pe_callB (call_max2 rfl) (by rfl) T.max (by decide +kernel) (pa_cons pe_int (pa_cons (pe_callB (call_min2 rfl) (by rfl) T.min (by decide +kernel) (pa_cons pe_int (pa_cons (pe_callB call_len (by rfl) T.len (by decide +kernel) (pa_cons (pv 0) pa_nil)) pa_nil))) pa_nil))) pa_nil)) (pg_name (i := 1) sc_law.nd rfl (Or.inl rfl)) (pss_cons (ps_set (i := 2) sc_law.nd rfl (Or.inl rfl) (pe_call (ok_reel T) (hr.mono (by decide)) (by rfl) T.g_reel T.F_reel.kp (b_reel T) .nil pass0 (pa_cons (pv 0) (pa_cons (pv 1) pa_nil))))
      (pss_one (ps_if (PW.pt (pw_or (pt_not (pt_val (Rp.pe_callG (ok_basis_right T) (hr.mono (by decide)) hg (by rfl) T.g_basis_right T.F_basis_right.kp (b_basis_right T) pass0 (pa_cons (pv 2) pa_nil)))) (pw_or (pt_not (pt_val (pe_call (ok_refused T) (hr.mono (by decide)) (by rfl) T.g_refused T.F_refused.kp (b_refused T) .nil pass0 (pa_cons (pe_call (ok_near T) (hr.mono (by decide)) (by rfl) T.g_near T.F_near.kp (b_near T) .nil pass0 (pa_cons (pv 2) pa_nil)) pa_nil)))) (pw_or1 (pt_not (pt_val (pe_call (ok_refused T) (hr.mono (by decide)) (by rfl) T.g_refused T.F_refused.kp (b_refused T) .nil pass0 (pa_cons (pe_tup (pa_cons (pe_tup (pa_cons pe_int (pa_cons pe_int pa_nil))) (pa_cons (pe_tup (pa_cons pe_int (pa_cons pe_int (pa_cons pe_int pa_nil)))) pa_nil))) pa_nil)))))))) (pss_one (ps_ret pe_bl)) pss_nil))))
      (pss_cons (ps_set (i := 3) sc_law.nd rfl (Or.inl rfl) (pe_lst (pa_cons (pe_call (ok_basis_of T) (hr.mono (by decide)) (by rfl) T.g_basis_of T.F_basis_of.kp (b_basis_of T) .nil never (pa_cons (pe_tup pa_nil) pa_nil)) (pa_cons (pe_call (ok_basis_of T) (hr.mono (by decide)) (by rfl) T.g_basis_of T.F_basis_of.kp (b_basis_of T) .nil never (pa_cons (pe_tup (pa_cons (pe_tup (pa_cons pe_int (pa_cons pe_int pa_nil))) pa_nil)) pa_nil)) (pa_cons (pe_call (ok_basis_of T) (hr.mono (by decide)) (by rfl) T.g_basis_of T.F_basis_of.kp (b_basis_of T) .nil never (pa_cons (pe_tup (pa_cons (pe_tup (pa_cons pe_int (pa_cons pe_int pa_nil))) (pa_cons (pe_tup (pa_cons pe_int (pa_cons pe_int pa_nil))) pa_nil))) pa_nil)) (pa_cons (pe_call (ok_basis_of T) (hr.mono (by decide)) (by rfl) T.g_basis_of T.F_basis_of.kp (b_basis_of T) .nil never (pa_cons (pe_tup (pa_cons (pe_tup (pa_cons (pe_un un_neg pe_int) pa_nil)) (pa_cons (pe_tup (pa_cons pe_int pa_nil)) pa_nil))) pa_nil)) pa_nil))))))
      (pss_cons (ps_expr (pe_bm PySem.F.plainAttrs_list PySem.F.slot_list_append PySem.F.type_list_append mt_append (pv 3) (pa_cons (pe_call (ok_basis_of T) (hr.mono (by decide)) (by rfl) T.g_basis_of T.F_basis_of.kp (b_basis_of T) .nil never (pa_cons (pe_tup (pa_cons (pe_tup (pa_cons (pe_op op_powG pe_int pe_int) (pa_cons pe_int pa_nil))) (pa_cons (pe_tup (pa_cons (pe_un un_neg pe_int) (pa_cons (pe_op op_powG pe_int pe_int) pa_nil))) pa_nil))) pa_nil)) pa_nil)))
      (pss_one (ps_ret (pe_cmpR (op_eqD hr.units) (pv 3) (pe_lst (pa_cons (pe_tup pa_nil) (pa_cons (pe_tup pa_nil) (pa_cons (pe_tup (pa_cons (pe_tup (pa_cons pe_int (pa_cons pe_int pa_nil))) (pa_cons (pe_tup (pa_cons pe_int (pa_cons pe_int pa_nil))) pa_nil))) (pa_cons (pe_tup (pa_cons (pe_tup (pa_cons pe_int pa_nil)) pa_nil)) (pa_cons (pe_tup (pa_cons (pe_tup (pa_cons pe_int (pa_cons (pe_op op_sub (pe_op op_mulW (pe_op op_powG pe_int pe_int) (pe_op op_powG pe_int pe_int)) (pe_op op_powG pe_int pe_int)) pa_nil))) (pa_cons (pe_tup (pa_cons pe_int (pa_cons (pe_op op_mulW (pe_op op_powG pe_int pe_int) (pe_op op_powG pe_int pe_int)) pa_nil))) pa_nil))) pa_nil)))))) (nomark _))))))), ?_⟩
    have hL : LenV K (.ref s0) H ns.length := .inl ⟨_, hS, by rw [List.length_map]⟩
    refine ⟨_, rfl, ?_⟩
    refine ⟨_, _, rfl, hL, ?_⟩
    refine ⟨12, _, rfl, ?_⟩
    refine ⟨1, _, rfl, ?_⟩
    obtain ⟨m, hm, h12⟩ := count_of ns.length
    rw [hm]
    refine ⟨(m : Int), rfl, by omega, by omega, ?_⟩
    rw [Int.toNat_natCast]
    refine for_range (lo := 0) (n := m) (fun i σ H1 => ∃ x y z, σ = [some (.ref s0), x, y, z] ∧ SqL K H1 s0 (ns.map V.int)) ?_ ?_ ?_
    · exact ⟨_, _, _, rfl, hS⟩
    · rintro i σ H1 hi ⟨x, y, z, rfl, hS1⟩
      rw [Int.zero_add]
      refine ⟨_, rfl, _, rfl, s0, ns, i, rfl, hS1, hl, by omega, fun p H2 np hp S2 => ?_⟩
      refine ⟨_, rfl, p, rfl, hp, fun H3 R3 => ?_⟩
      refine ⟨true, rfl, ?_⟩
      refine ⟨_, rfl, p, rfl, R3.die, fun v H4 R4 bv => ?_⟩
      refine ⟨v, rfl, bv, fun H5 S5 => ?_⟩
      refine ⟨true, rfl, ?_⟩
      refine ⟨by show 2 ≤ sizeLine; decide, fun a1 na1 => ?_⟩
      generalize EH6 : upd H5 a1 _ = H6
      have ha1 := (congrFun EH6 a1).symm.trans upd_same
      have S6 : Same H5 H6 := by rw [← EH6]; exact sameNew na1
      refine ⟨by show 3 ≤ sizeLine; decide, fun a2 na2 => ?_⟩
      generalize EH7 : upd H6 a2 _ = H7
      have ha2 := (congrFun EH7 a2).symm.trans upd_same
      have S7 : Same H6 H7 := by rw [← EH7]; exact sameNew na2
      refine ⟨by show 2 ≤ sizeLine; decide, fun a3 na3 => ?_⟩
      generalize EH8 : upd H7 a3 _ = H8
      have ha3 := (congrFun EH8 a3).symm.trans upd_same
      have S8 : Same H7 H8 := by rw [← EH8]; exact sameNew na3
      refine ⟨.ref a3, rfl, ⟨.tuple [.tuple [.int 1, .int 2], .tuple [.int 1, .int 2, .int 3]], .inl (.tup (SqT.of ha3) (.cons (.tup (SqT.of (S8 _ _ (S7 _ _ ha1))) (.cons (.int 1) (.cons (.int 2) .nil))) (.cons (.tup (SqT.of (S8 _ _ ha2)) (.cons (.int 1) (.cons (.int 2) (.cons (.int 3) .nil)))) .nil))), (fun ds e => by injection e with e; rw [← e]; show 2 ≤ 1000; decide), by decide +kernel⟩, fun H9 S9 => ?_⟩
      refine ⟨true, rfl, ?_⟩
      have S59 := ((S6.trans S7).trans S8).trans S9
      exact ⟨_, _, _, rfl, extS np S2 (R3.trans (R4.trans (same_roll R4.die (S5.trans S59)))) hS1⟩
    rintro σ H1 ⟨x, y, z, rfl, hS1⟩
    -- ()
    refine ⟨by show 0 ≤ sizeLine; decide, fun p1 np1 => ?_⟩
    generalize EH2 : upd H1 p1 _ = H2
    have hp1 := (congrFun EH2 p1).symm.trans upd_same
    have S2 : Same H1 H2 := by rw [← EH2]; exact sameNew np1
    refine ⟨.ref p1, rfl, .inr ⟨p1, [], [], 1, 1, rfl, ⟨hp1, rows0 _⟩, by decide, (fun _ z => by cases z), by decide, by decide, by decide, (fun _ z => by cases z), fun z1 q1 A1 H3 S3 T1 B1 s1 => ?_⟩⟩
    obtain rfl : A1 = [] := B1.uniq (bas_nil 1) s1
    -- ((0, 0),)
    refine ⟨by show 2 ≤ sizeLine; decide, fun e1 ne1 => ?_⟩
    generalize EH4 : upd H3 e1 _ = H4
    have he1 := (congrFun EH4 e1).symm.trans upd_same
    have S4 : Same H3 H4 := by rw [← EH4]; exact sameNew ne1
    refine ⟨by show 1 ≤ sizeLine; decide, fun p2 np2 => ?_⟩
    generalize EH5 : upd H4 p2 _ = H5
    have hp2 := (congrFun EH5 p2).symm.trans upd_same
    have S5 : Same H4 H5 := by rw [← EH5]; exact sameNew np2
    refine ⟨.ref p2, rfl, .inr ⟨p2, [e1], [[0, 0]], 2, 1, rfl, ⟨hp2, .cons (S5 _ _ he1) .nil⟩, by decide, all_cons rfl all_nil, by decide, by decide, by decide, all_cons (lim_of (by decide)) all_nil, fun z2 q2 A2 H6 S6 T2 B2 s2 => ?_⟩⟩
    obtain rfl : A2 = [] := B2.uniq (bas_nil 2) (s2.trans sm2.symm)
    -- ((4, 1), (6, 3))
    refine ⟨by show 2 ≤ sizeLine; decide, fun f1 nf1 => ?_⟩
    generalize EH7 : upd H6 f1 _ = H7
    have hf1 := (congrFun EH7 f1).symm.trans upd_same
    have S7 : Same H6 H7 := by rw [← EH7]; exact sameNew nf1
    refine ⟨by show 2 ≤ sizeLine; decide, fun f2 nf2 => ?_⟩
    generalize EH8 : upd H7 f2 _ = H8
    have hf2 := (congrFun EH8 f2).symm.trans upd_same
    have S8 : Same H7 H8 := by rw [← EH8]; exact sameNew nf2
    refine ⟨by show 2 ≤ sizeLine; decide, fun p3 np3 => ?_⟩
    generalize EH9 : upd H8 p3 _ = H9
    have hp3 := (congrFun EH9 p3).symm.trans upd_same
    have S9 : Same H8 H9 := by rw [← EH9]; exact sameNew np3
    refine ⟨.ref p3, rfl, .inr ⟨p3, [f1, f2], [[4, 1], [6, 3]], 2, 3, rfl, ⟨hp3, .cons ((S8.trans S9) _ _ hf1) (.cons (S9 _ _ hf2) .nil)⟩, by decide, all_cons rfl (all_cons rfl all_nil), by decide, by decide, by decide, all_cons (lim_of (by decide)) (all_cons (lim_of (by decide)) all_nil), fun z3 q3 A3 H10 S10 T3 B3 s3 => ?_⟩⟩
    obtain rfl : A3 = [[2, 2], [0, 3]] := B3.uniq (bas_two (by decide) (by decide) (by decide) (by decide)) (s3.trans sm3.symm)
    -- ((-3,), (5,))
    refine ⟨_, rfl, ?_⟩
    refine ⟨by show 1 ≤ sizeLine; decide, fun g1 ng1 => ?_⟩
    generalize EH11 : upd H10 g1 _ = H11
    have hg1 := (congrFun EH11 g1).symm.trans upd_same
    have S11 : Same H10 H11 := by rw [← EH11]; exact sameNew ng1
    refine ⟨by show 1 ≤ sizeLine; decide, fun g2 ng2 => ?_⟩
    generalize EH12 : upd H11 g2 _ = H12
    have hg2 := (congrFun EH12 g2).symm.trans upd_same
    have S12 : Same H11 H12 := by rw [← EH12]; exact sameNew ng2
    refine ⟨by show 2 ≤ sizeLine; decide, fun p4 np4 => ?_⟩
    generalize EH13 : upd H12 p4 _ = H13
    have hp4 := (congrFun EH13 p4).symm.trans upd_same
    have S13 : Same H12 H13 := by rw [← EH13]; exact sameNew np4
    refine ⟨.ref p4, rfl, .inr ⟨p4, [g1, g2], [[-3], [5]], 1, 3, rfl, ⟨hp4, .cons ((S12.trans S13) _ _ hg1) (.cons (S13 _ _ hg2) .nil)⟩, by decide, all_cons rfl (all_cons rfl all_nil), by decide, by decide, by decide, all_cons (lim_of (by decide)) (all_cons (lim_of (by decide)) all_nil), fun z4 q4 A4 H14 S14 T4 B4 s4 => ?_⟩⟩
    obtain rfl : A4 = [[1]] := B4.uniq (bas_one (by decide)) (s4.trans sm4.symm)
    refine ⟨by show 4 ≤ sizeLine; decide, fun l1 nl1 => ?_⟩
    generalize EH15 : upd H14 l1 _ = H15
    have hl1 := (congrFun EH15 l1).symm.trans upd_same
    have S15 : Same H14 H15 := by rw [← EH15]; exact sameNew nl1
    -- (10 ** 50, 0), (-1, 10 ** 50)
    refine ⟨_, rfl, .inl ⟨rfl, _, SqL.of hl1⟩, ?_⟩
    refine ⟨_, _, rfl, rfl, ⟨by decide, by decide +kernel⟩, ?_⟩
    refine ⟨by show 2 ≤ sizeLine; decide, fun k1 nk1 => ?_⟩
    generalize EH16 : upd H15 k1 _ = H16
    have hk1 := (congrFun EH16 k1).symm.trans upd_same
    have S16 : Same H15 H16 := by rw [← EH16]; exact sameNew nk1
    refine ⟨_, rfl, ?_⟩
    refine ⟨_, _, rfl, rfl, ⟨by decide, by decide +kernel⟩, ?_⟩
    refine ⟨by show 2 ≤ sizeLine; decide, fun k2 nk2 => ?_⟩
    generalize EH17 : upd H16 k2 _ = H17
    have hk2 := (congrFun EH17 k2).symm.trans upd_same
    have S17 : Same H16 H17 := by rw [← EH17]; exact sameNew nk2
    refine ⟨by show 2 ≤ sizeLine; decide, fun p5 np5 => ?_⟩
    generalize EH18 : upd H17 p5 _ = H18
    have hp5 := (congrFun EH18 p5).symm.trans upd_same
    have S18 : Same H17 H18 := by rw [← EH18]; exact sameNew np5
    refine ⟨.ref p5, rfl, .inr ⟨p5, [k1, k2], [[10 ^ 50, 0], [-1, 10 ^ 50]], 2, 170, rfl, ⟨hp5, .cons ((S17.trans S18) _ _ hk1) (.cons (S18 _ _ hk2) .nil)⟩, by decide, all_cons rfl (all_cons rfl all_nil), by decide, by decide, by decide, all_cons (lim_of (by decide +kernel)) (all_cons (lim_of (by decide +kernel)) all_nil), fun z5 q5 A5 H19 S19 T5 B5 s5 => ?_⟩⟩
    obtain rfl : A5 = [[1, 10 ^ 64 * 10 ^ 36 - 10 ^ 50], [0, 10 ^ 64 * 10 ^ 36]] := B5.uniq (bas_two (by decide) (by decide +kernel) (by decide +kernel) (by decide +kernel)) (s5.trans sm5.symm)
    have S1519 := ((S16.trans S17).trans S18).trans S19
    have hl19 := S1519 _ _ hl1
    refine ⟨l1, _, .ref z5, rfl, rfl, hl19, by show 4 < sizeLine; decide, ?_⟩
    have nl19 : H14 l1 = none := nl1
    have hl20 : upd H19 l1 (.lst ([.ref z1, .ref z2, .ref z3, .ref z4] ++ [.ref z5])) l1 = some (.lst [.ref z1, .ref z2, .ref z3, .ref z4, .ref z5]) := upd_same
    have S20 : Same H14 (upd H19 l1 (.lst ([.ref z1, .ref z2, .ref z3, .ref z4] ++ [.ref z5]))) := fun b o e => by
      rw [upd_ne (ne_of_none e nl1)]
      exact (S15.trans S1519) _ _ e
    have T5' : TRows (upd H19 l1 (.lst ([.ref z1, .ref z2, .ref z3, .ref z4] ++ [.ref z5]))) z5 q5 [[1, 10 ^ 64 * 10 ^ 36 - 10 ^ 50], [0, 10 ^ 64 * 10 ^ 36]] := by
      have lu : ∀ b : Addr, ∀ xs : List V, H19 b = some (.tup xs) → upd H19 l1 (.lst ([.ref z1, .ref z2, .ref z3, .ref z4] ++ [.ref z5])) b = some (.tup xs) := fun b xs e => by
        rw [upd_ne (fun z => by rw [z, hl19] at e; cases e)]
        exact e
      exact ⟨lu _ _ T5.1, Paired.mapP T5.2 fun _ _ e => lu _ _ e⟩
    generalize upd H19 l1 (.lst ([.ref z1, .ref z2, .ref z3, .ref z4] ++ [.ref z5])) = H20 at S20 hl20 T5' ⊢
    have Y11 := (((S11.trans S12).trans S13).trans S14).trans S20
    have Y7 := (((S7.trans S8).trans S9).trans S10).trans Y11
    have Y4 := ((S4.trans S5).trans S6).trans Y7
    have T1' := T1.keep Y4
    have T2' := T2.keep Y7
    have T3' := T3.keep Y11
    have T4' := T4.keep S20
    -- as written
    refine ⟨_, rfl, ?_⟩
    refine ⟨by show 0 ≤ sizeLine; decide, fun u1 mu1 => ?_⟩
    generalize EH21 : upd H20 u1 _ = H21
    have hu1 := (congrFun EH21 u1).symm.trans upd_same
    have S21 : Same H20 H21 := by rw [← EH21]; exact sameNew mu1
    refine ⟨by show 0 ≤ sizeLine; decide, fun u2 mu2 => ?_⟩
    generalize EH22 : upd H21 u2 _ = H22
    have hu2 := (congrFun EH22 u2).symm.trans upd_same
    have S22 : Same H21 H22 := by rw [← EH22]; exact sameNew mu2
    refine ⟨by show 2 ≤ sizeLine; decide, fun v1 mv1 => ?_⟩
    generalize EH23 : upd H22 v1 _ = H23
    have hv1 := (congrFun EH23 v1).symm.trans upd_same
    have S23 : Same H22 H23 := by rw [← EH23]; exact sameNew mv1
    refine ⟨by show 2 ≤ sizeLine; decide, fun v2 mv2 => ?_⟩
    generalize EH24 : upd H23 v2 _ = H24
    have hv2 := (congrFun EH24 v2).symm.trans upd_same
    have S24 : Same H23 H24 := by rw [← EH24]; exact sameNew mv2
    refine ⟨by show 2 ≤ sizeLine; decide, fun u3 mu3 => ?_⟩
    generalize EH25 : upd H24 u3 _ = H25
    have hu3 := (congrFun EH25 u3).symm.trans upd_same
    have S25 : Same H24 H25 := by rw [← EH25]; exact sameNew mu3
    refine ⟨by show 1 ≤ sizeLine; decide, fun v3 mv3 => ?_⟩
    generalize EH26 : upd H25 v3 _ = H26
    have hv3 := (congrFun EH26 v3).symm.trans upd_same
    have S26 : Same H25 H26 := by rw [← EH26]; exact sameNew mv3
    refine ⟨by show 1 ≤ sizeLine; decide, fun u4 mu4 => ?_⟩
    generalize EH27 : upd H26 u4 _ = H27
    have hu4 := (congrFun EH27 u4).symm.trans upd_same
    have S27 : Same H26 H27 := by rw [← EH27]; exact sameNew mu4
    refine ⟨_, _, rfl, rfl, ⟨by decide, by decide +kernel⟩, ?_⟩
    refine ⟨_, _, rfl, rfl, ⟨by decide, by decide +kernel⟩, ?_⟩
    refine ⟨_, _, rfl, rfl, (by show (_ : Nat) + _ < 1000000; decide +kernel), ?_⟩
    refine ⟨_, _, rfl, rfl, ⟨by decide, by decide +kernel⟩, ?_⟩
    refine ⟨_, _, rfl, rfl, ?_⟩
    refine ⟨by show 2 ≤ sizeLine; decide, fun v4 mv4 => ?_⟩
    generalize EH28 : upd H27 v4 _ = H28
    have hv4 := (congrFun EH28 v4).symm.trans upd_same
    have S28 : Same H27 H28 := by rw [← EH28]; exact sameNew mv4
    refine ⟨_, _, rfl, rfl, ⟨by decide, by decide +kernel⟩, ?_⟩
    refine ⟨_, _, rfl, rfl, ⟨by decide, by decide +kernel⟩, ?_⟩
    refine ⟨_, _, rfl, rfl, (by show (_ : Nat) + _ < 1000000; decide +kernel), ?_⟩
    refine ⟨by show 2 ≤ sizeLine; decide, fun v5 mv5 => ?_⟩
    generalize EH29 : upd H28 v5 _ = H29
    have hv5 := (congrFun EH29 v5).symm.trans upd_same
    have S29 : Same H28 H29 := by rw [← EH29]; exact sameNew mv5
    refine ⟨by show 2 ≤ sizeLine; decide, fun u5 mu5 => ?_⟩
    generalize EH30 : upd H29 u5 _ = H30
    have hu5 := (congrFun EH30 u5).symm.trans upd_same
    have S30 : Same H29 H30 := by rw [← EH30]; exact sameNew mu5
    refine ⟨by show 5 ≤ sizeLine; decide, fun l2 ml2 => ?_⟩
    generalize EH31 : upd H30 l2 _ = H31
    have hl2 := (congrFun EH31 l2).symm.trans upd_same
    have S31 : Same H30 H31 := by rw [← EH31]; exact sameNew ml2
    have W29 := S30.trans S31
    have W28 := S29.trans W29
    have W27 := S28.trans W28
    have W26 := S27.trans W27
    have W25 := S26.trans W26
    have W24 := S25.trans W25
    have W23 := S24.trans W24
    have W22 := S23.trans W23
    have W21 := S22.trans W22
    have W20 := S21.trans W21
    refine ⟨allD, allD, .lst (SqL.of (W20 _ _ hl20)) (.cons (dp_due (T1'.keep W20)) (.cons (dp_due (T2'.keep W20)) (.cons (dp_due (T3'.keep W20)) (.cons (dp_due (T4'.keep W20)) (.cons (dp_due (T5'.keep W20)) .nil))))), .lst (SqL.of hl2) (.cons (dp_due (qs := []) ⟨W21 _ _ hu1, .nil⟩) (.cons (dp_due (qs := []) ⟨W22 _ _ hu2, .nil⟩) (.cons (dp_due (qs := [v1, v2]) ⟨W25 _ _ hu3, .cons (W23 _ _ hv1) (.cons (W24 _ _ hv2) .nil)⟩) (.cons (dp_due (qs := [v3]) ⟨W27 _ _ hu4, .cons (W26 _ _ hv3) .nil⟩) (.cons (dp_due (qs := [v4, v5]) ⟨S31 _ _ hu5, .cons (W28 _ _ hv4) (.cons (W29 _ _ hv5) .nil)⟩) .nil))))), all_sh, all_sh, ?_⟩
    rw [all_eq]
    exact k _
end
end K42

set_option Elab.async false
set_option linter.all false
set_option maxRecDepth 100000
set_option maxHeartbeats 4000000
namespace K42
open PySem PySem.Spec PyProof.Rows L2 Dt An Rp Lat
theorem end_sp : ∀ (K : PySem.W.Frag) (H : Hp) (a : Addr) (ns : List Int), ns.length ≤ 63 → SqL K H a (ns.map V.int) → spLaw K [.ref a] H (fun v _ => v = .bl true) fun _ _ _ => False :=
  fun K H a ns hl hS => ⟨a, ns, rfl, hS, hl, fun _ => rfl⟩
theorem all_mk {P : Program} {w : World} {K : PySem.W.Frag} {h : Heap} {mg : Str → Option Value} {fa : Addr} (X : K.In h) (G : h.Ns mainGlobals mg) (hfa : mg "law" = some (.ref fa))
    {c_InvalidOperation f_are_integers f__pivot f__less f__pivot_row f__reduced f_basis_with f_basis_from f__are_rows f_basis_of f_reel f_spin f_pick f_mixed f_minus f_divided f_echelon f_first f_is_within f_drawn_rows f_changed f_basis_right f_refused f_near f_law : Addr}
    {od_are_integers an_are_integers od__pivot an__pivot od__less an__less od__pivot_row an__pivot_row od__reduced an__reduced od_basis_with an_basis_with od_basis_from an_basis_from od__are_rows an__are_rows od_basis_of an_basis_of od_reel an_reel od_spin an_spin od_pick an_pick od_mixed an_mixed od_minus an_minus od_divided an_divided od_echelon an_echelon od_first an_first od_is_within an_is_within od_drawn_rows an_drawn_rows od_changed an_changed od_basis_right an_basis_right od_refused an_refused od_near an_near od_law an_law : Option Addr}
    {sl_are_integers sl__pivot sl__less sl__pivot_row sl__reduced sl_basis_with sl_basis_from sl__are_rows sl_basis_of sl_reel sl_spin sl_pick sl_mixed sl_minus sl_divided sl_echelon sl_first sl_is_within sl_drawn_rows sl_changed sl_basis_right sl_refused sl_near sl_law : Array (Option Value)}
    {oc_are_integers kV_are_integers dc_are_integers pm_are_integers cd_are_integers ct_are_integers oc__pivot kV__pivot dc__pivot pm__pivot cd__pivot ct__pivot oc__less kV__less dc__less pm__less cd__less ct__less oc__pivot_row kV__pivot_row dc__pivot_row pm__pivot_row cd__pivot_row ct__pivot_row oc__reduced kV__reduced dc__reduced pm__reduced cd__reduced ct__reduced oc_basis_with kV_basis_with dc_basis_with pm_basis_with cd_basis_with ct_basis_with oc_basis_from kV_basis_from dc_basis_from pm_basis_from cd_basis_from ct_basis_from oc__are_rows kV__are_rows dc__are_rows pm__are_rows cd__are_rows ct__are_rows oc_basis_of kV_basis_of dc_basis_of pm_basis_of cd_basis_of ct_basis_of oc_reel kV_reel dc_reel pm_reel cd_reel ct_reel oc_spin kV_spin dc_spin pm_spin cd_spin ct_spin oc_pick kV_pick dc_pick pm_pick cd_pick ct_pick oc_mixed kV_mixed dc_mixed pm_mixed cd_mixed ct_mixed oc_minus kV_minus dc_minus pm_minus cd_minus ct_minus oc_divided kV_divided dc_divided pm_divided cd_divided ct_divided oc_echelon kV_echelon dc_echelon pm_echelon cd_echelon ct_echelon oc_first kV_first dc_first pm_first cd_first ct_first oc_is_within kV_is_within dc_is_within pm_is_within cd_is_within ct_is_within oc_drawn_rows kV_drawn_rows dc_drawn_rows pm_drawn_rows cd_drawn_rows ct_drawn_rows oc_changed kV_changed dc_changed pm_changed cd_changed ct_changed oc_basis_right kV_basis_right dc_basis_right pm_basis_right cd_basis_right ct_basis_right oc_refused kV_refused dc_refused pm_refused cd_refused ct_refused oc_near kV_near dc_near pm_near cd_near ct_near oc_law kV_law dc_law pm_law cd_law ct_law : Value}
    {tk__INTEGER_BOUND tk__COLUMNS : Tok}
    (ac_InvalidOperation : PySem.W.nsIn K mainGlobals "InvalidOperation" = some (some (.ref c_InvalidOperation)))
    (a_are_integers : PySem.W.nsIn K mainGlobals "are_integers" = some (some (.ref f_are_integers)))
    (l_are_integers : K.lookup f_are_integers = some ⟨oc_are_integers, od_are_integers, .func (PySem.W.fnOf "are_integers" "are_integers" (defArgs s_are_integers) (defBody s_are_integers) (defScope s_are_integers) .none kV_are_integers dc_are_integers pm_are_integers an_are_integers cd_are_integers ct_are_integers), sl_are_integers⟩)
    (cc_are_integers : PySem.W.codeIn K cd_are_integers "are_integers" = true)
    (kk_are_integers : PySem.W.keepIn K (.ref f_are_integers) = true)
    (a__pivot : PySem.W.nsIn K mainGlobals "_pivot" = some (some (.ref f__pivot)))
    (l__pivot : K.lookup f__pivot = some ⟨oc__pivot, od__pivot, .func (PySem.W.fnOf "_pivot" "_pivot" (defArgs s__pivot) (defBody s__pivot) (defScope s__pivot) .none kV__pivot dc__pivot pm__pivot an__pivot cd__pivot ct__pivot), sl__pivot⟩)
    (cc__pivot : PySem.W.codeIn K cd__pivot "_pivot" = true)
    (kk__pivot : PySem.W.keepIn K (.ref f__pivot) = true)
    (a__less : PySem.W.nsIn K mainGlobals "_less" = some (some (.ref f__less)))
    (l__less : K.lookup f__less = some ⟨oc__less, od__less, .func (PySem.W.fnOf "_less" "_less" (defArgs s__less) (defBody s__less) (defScope s__less) .none kV__less dc__less pm__less an__less cd__less ct__less), sl__less⟩)
    (cc__less : PySem.W.codeIn K cd__less "_less" = true)
    (kk__less : PySem.W.keepIn K (.ref f__less) = true)
    (a__pivot_row : PySem.W.nsIn K mainGlobals "_pivot_row" = some (some (.ref f__pivot_row)))
    (l__pivot_row : K.lookup f__pivot_row = some ⟨oc__pivot_row, od__pivot_row, .func (PySem.W.fnOf "_pivot_row" "_pivot_row" (defArgs s__pivot_row) (defBody s__pivot_row) (defScope s__pivot_row) .none kV__pivot_row dc__pivot_row pm__pivot_row an__pivot_row cd__pivot_row ct__pivot_row), sl__pivot_row⟩)
    (cc__pivot_row : PySem.W.codeIn K cd__pivot_row "_pivot_row" = true)
    (kk__pivot_row : PySem.W.keepIn K (.ref f__pivot_row) = true)
    (a__reduced : PySem.W.nsIn K mainGlobals "_reduced" = some (some (.ref f__reduced)))
    (l__reduced : K.lookup f__reduced = some ⟨oc__reduced, od__reduced, .func (PySem.W.fnOf "_reduced" "_reduced" (defArgs s__reduced) (defBody s__reduced) (defScope s__reduced) .none kV__reduced dc__reduced pm__reduced an__reduced cd__reduced ct__reduced), sl__reduced⟩)
    (cc__reduced : PySem.W.codeIn K cd__reduced "_reduced" = true)
    (kk__reduced : PySem.W.keepIn K (.ref f__reduced) = true)
    (a_basis_with : PySem.W.nsIn K mainGlobals "basis_with" = some (some (.ref f_basis_with)))
    (l_basis_with : K.lookup f_basis_with = some ⟨oc_basis_with, od_basis_with, .func (PySem.W.fnOf "basis_with" "basis_with" (defArgs s_basis_with) (defBody s_basis_with) (defScope s_basis_with) .none kV_basis_with dc_basis_with pm_basis_with an_basis_with cd_basis_with ct_basis_with), sl_basis_with⟩)
    (cc_basis_with : PySem.W.codeIn K cd_basis_with "basis_with" = true)
    (kk_basis_with : PySem.W.keepIn K (.ref f_basis_with) = true)
    (a_basis_from : PySem.W.nsIn K mainGlobals "basis_from" = some (some (.ref f_basis_from)))
    (l_basis_from : K.lookup f_basis_from = some ⟨oc_basis_from, od_basis_from, .func (PySem.W.fnOf "basis_from" "basis_from" (defArgs s_basis_from) (defBody s_basis_from) (defScope s_basis_from) .none kV_basis_from dc_basis_from pm_basis_from an_basis_from cd_basis_from ct_basis_from), sl_basis_from⟩)
    (cc_basis_from : PySem.W.codeIn K cd_basis_from "basis_from" = true)
    (kk_basis_from : PySem.W.keepIn K (.ref f_basis_from) = true)
    (a__are_rows : PySem.W.nsIn K mainGlobals "_are_rows" = some (some (.ref f__are_rows)))
    (l__are_rows : K.lookup f__are_rows = some ⟨oc__are_rows, od__are_rows, .func (PySem.W.fnOf "_are_rows" "_are_rows" (defArgs s__are_rows) (defBody s__are_rows) (defScope s__are_rows) .none kV__are_rows dc__are_rows pm__are_rows an__are_rows cd__are_rows ct__are_rows), sl__are_rows⟩)
    (cc__are_rows : PySem.W.codeIn K cd__are_rows "_are_rows" = true)
    (kk__are_rows : PySem.W.keepIn K (.ref f__are_rows) = true)
    (a_basis_of : PySem.W.nsIn K mainGlobals "basis_of" = some (some (.ref f_basis_of)))
    (l_basis_of : K.lookup f_basis_of = some ⟨oc_basis_of, od_basis_of, .func (PySem.W.fnOf "basis_of" "basis_of" (defArgs s_basis_of) (defBody s_basis_of) (defScope s_basis_of) .none kV_basis_of dc_basis_of pm_basis_of an_basis_of cd_basis_of ct_basis_of), sl_basis_of⟩)
    (cc_basis_of : PySem.W.codeIn K cd_basis_of "basis_of" = true)
    (kk_basis_of : PySem.W.keepIn K (.ref f_basis_of) = true)
    (a_reel : PySem.W.nsIn K mainGlobals "_law_reel" = some (some (.ref f_reel)))
    (l_reel : K.lookup f_reel = some ⟨oc_reel, od_reel, .func (PySem.W.fnOf "_law_reel" "_law_reel" (defArgs s__law_reel) (defBody s__law_reel) (defScope s__law_reel) .none kV_reel dc_reel pm_reel an_reel cd_reel ct_reel), sl_reel⟩)
    (cc_reel : PySem.W.codeIn K cd_reel "_law_reel" = true)
    (kk_reel : PySem.W.keepIn K (.ref f_reel) = true)
    (a_spin : PySem.W.nsIn K mainGlobals "_law_spin" = some (some (.ref f_spin)))
    (l_spin : K.lookup f_spin = some ⟨oc_spin, od_spin, .func (PySem.W.fnOf "_law_spin" "_law_spin" (defArgs s__law_spin) (defBody s__law_spin) (defScope s__law_spin) .none kV_spin dc_spin pm_spin an_spin cd_spin ct_spin), sl_spin⟩)
    (cc_spin : PySem.W.codeIn K cd_spin "_law_spin" = true)
    (kk_spin : PySem.W.keepIn K (.ref f_spin) = true)
    (a_pick : PySem.W.nsIn K mainGlobals "_law_pick" = some (some (.ref f_pick)))
    (l_pick : K.lookup f_pick = some ⟨oc_pick, od_pick, .func (PySem.W.fnOf "_law_pick" "_law_pick" (defArgs s__law_pick) (defBody s__law_pick) (defScope s__law_pick) .none kV_pick dc_pick pm_pick an_pick cd_pick ct_pick), sl_pick⟩)
    (cc_pick : PySem.W.codeIn K cd_pick "_law_pick" = true)
    (kk_pick : PySem.W.keepIn K (.ref f_pick) = true)
    (a_mixed : PySem.W.nsIn K mainGlobals "_law_mixed" = some (some (.ref f_mixed)))
    (l_mixed : K.lookup f_mixed = some ⟨oc_mixed, od_mixed, .func (PySem.W.fnOf "_law_mixed" "_law_mixed" (defArgs s__law_mixed) (defBody s__law_mixed) (defScope s__law_mixed) .none kV_mixed dc_mixed pm_mixed an_mixed cd_mixed ct_mixed), sl_mixed⟩)
    (cc_mixed : PySem.W.codeIn K cd_mixed "_law_mixed" = true)
    (kk_mixed : PySem.W.keepIn K (.ref f_mixed) = true)
    (a_minus : PySem.W.nsIn K mainGlobals "_law_minus" = some (some (.ref f_minus)))
    (l_minus : K.lookup f_minus = some ⟨oc_minus, od_minus, .func (PySem.W.fnOf "_law_minus" "_law_minus" (defArgs s__law_minus) (defBody s__law_minus) (defScope s__law_minus) .none kV_minus dc_minus pm_minus an_minus cd_minus ct_minus), sl_minus⟩)
    (cc_minus : PySem.W.codeIn K cd_minus "_law_minus" = true)
    (kk_minus : PySem.W.keepIn K (.ref f_minus) = true)
    (a_divided : PySem.W.nsIn K mainGlobals "_law_divided" = some (some (.ref f_divided)))
    (l_divided : K.lookup f_divided = some ⟨oc_divided, od_divided, .func (PySem.W.fnOf "_law_divided" "_law_divided" (defArgs s__law_divided) (defBody s__law_divided) (defScope s__law_divided) .none kV_divided dc_divided pm_divided an_divided cd_divided ct_divided), sl_divided⟩)
    (cc_divided : PySem.W.codeIn K cd_divided "_law_divided" = true)
    (kk_divided : PySem.W.keepIn K (.ref f_divided) = true)
    (a_echelon : PySem.W.nsIn K mainGlobals "_law_echelon" = some (some (.ref f_echelon)))
    (l_echelon : K.lookup f_echelon = some ⟨oc_echelon, od_echelon, .func (PySem.W.fnOf "_law_echelon" "_law_echelon" (defArgs s__law_echelon) (defBody s__law_echelon) (defScope s__law_echelon) .none kV_echelon dc_echelon pm_echelon an_echelon cd_echelon ct_echelon), sl_echelon⟩)
    (cc_echelon : PySem.W.codeIn K cd_echelon "_law_echelon" = true)
    (kk_echelon : PySem.W.keepIn K (.ref f_echelon) = true)
    (a_first : PySem.W.nsIn K mainGlobals "_law_first" = some (some (.ref f_first)))
    (l_first : K.lookup f_first = some ⟨oc_first, od_first, .func (PySem.W.fnOf "_law_first" "_law_first" (defArgs s__law_first) (defBody s__law_first) (defScope s__law_first) .none kV_first dc_first pm_first an_first cd_first ct_first), sl_first⟩)
    (cc_first : PySem.W.codeIn K cd_first "_law_first" = true)
    (kk_first : PySem.W.keepIn K (.ref f_first) = true)
    (a_is_within : PySem.W.nsIn K mainGlobals "_law_is_within" = some (some (.ref f_is_within)))
    (l_is_within : K.lookup f_is_within = some ⟨oc_is_within, od_is_within, .func (PySem.W.fnOf "_law_is_within" "_law_is_within" (defArgs s__law_is_within) (defBody s__law_is_within) (defScope s__law_is_within) .none kV_is_within dc_is_within pm_is_within an_is_within cd_is_within ct_is_within), sl_is_within⟩)
    (cc_is_within : PySem.W.codeIn K cd_is_within "_law_is_within" = true)
    (kk_is_within : PySem.W.keepIn K (.ref f_is_within) = true)
    (a_drawn_rows : PySem.W.nsIn K mainGlobals "_law_drawn_rows" = some (some (.ref f_drawn_rows)))
    (l_drawn_rows : K.lookup f_drawn_rows = some ⟨oc_drawn_rows, od_drawn_rows, .func (PySem.W.fnOf "_law_drawn_rows" "_law_drawn_rows" (defArgs s__law_drawn_rows) (defBody s__law_drawn_rows) (defScope s__law_drawn_rows) .none kV_drawn_rows dc_drawn_rows pm_drawn_rows an_drawn_rows cd_drawn_rows ct_drawn_rows), sl_drawn_rows⟩)
    (cc_drawn_rows : PySem.W.codeIn K cd_drawn_rows "_law_drawn_rows" = true)
    (kk_drawn_rows : PySem.W.keepIn K (.ref f_drawn_rows) = true)
    (a_changed : PySem.W.nsIn K mainGlobals "_law_changed" = some (some (.ref f_changed)))
    (l_changed : K.lookup f_changed = some ⟨oc_changed, od_changed, .func (PySem.W.fnOf "_law_changed" "_law_changed" (defArgs s__law_changed) (defBody s__law_changed) (defScope s__law_changed) .none kV_changed dc_changed pm_changed an_changed cd_changed ct_changed), sl_changed⟩)
    (cc_changed : PySem.W.codeIn K cd_changed "_law_changed" = true)
    (kk_changed : PySem.W.keepIn K (.ref f_changed) = true)
    (a_basis_right : PySem.W.nsIn K mainGlobals "_law_basis_right" = some (some (.ref f_basis_right)))
    (l_basis_right : K.lookup f_basis_right = some ⟨oc_basis_right, od_basis_right, .func (PySem.W.fnOf "_law_basis_right" "_law_basis_right" (defArgs s__law_basis_right) (defBody s__law_basis_right) (defScope s__law_basis_right) .none kV_basis_right dc_basis_right pm_basis_right an_basis_right cd_basis_right ct_basis_right), sl_basis_right⟩)
    (cc_basis_right : PySem.W.codeIn K cd_basis_right "_law_basis_right" = true)
    (kk_basis_right : PySem.W.keepIn K (.ref f_basis_right) = true)
    (a_refused : PySem.W.nsIn K mainGlobals "_law_refused" = some (some (.ref f_refused)))
    (l_refused : K.lookup f_refused = some ⟨oc_refused, od_refused, .func (PySem.W.fnOf "_law_refused" "_law_refused" (defArgs s__law_refused) (defBody s__law_refused) (defScope s__law_refused) .none kV_refused dc_refused pm_refused an_refused cd_refused ct_refused), sl_refused⟩)
    (cc_refused : PySem.W.codeIn K cd_refused "_law_refused" = true)
    (kk_refused : PySem.W.keepIn K (.ref f_refused) = true)
    (a_near : PySem.W.nsIn K mainGlobals "_law_near" = some (some (.ref f_near)))
    (l_near : K.lookup f_near = some ⟨oc_near, od_near, .func (PySem.W.fnOf "_law_near" "_law_near" (defArgs s__law_near) (defBody s__law_near) (defScope s__law_near) .none kV_near dc_near pm_near an_near cd_near ct_near), sl_near⟩)
    (cc_near : PySem.W.codeIn K cd_near "_law_near" = true)
    (kk_near : PySem.W.keepIn K (.ref f_near) = true)
    (a_law : PySem.W.nsIn K mainGlobals "law" = some (some (.ref f_law)))
    (l_law : K.lookup f_law = some ⟨oc_law, od_law, .func (PySem.W.fnOf "law" "law" (defArgs s_law) (defBody s_law) (defScope s_law) .none kV_law dc_law pm_law an_law cd_law ct_law), sl_law⟩)
    (cc_law : PySem.W.codeIn K cd_law "law" = true)
    (kk_law : PySem.W.keepIn K (.ref f_law) = true)
    (a__INTEGER_BOUND : PySem.W.nsIn K mainGlobals "_INTEGER_BOUND" = some (some (.int (10 ^ 60) tk__INTEGER_BOUND)))
    (a__COLUMNS : PySem.W.nsIn K mainGlobals "_COLUMNS" = some (some (.int (3) tk__COLUMNS)))
    (b_len : PySem.W.nsIn K mainGlobals "len" = some none)
    (b_isinstance : PySem.W.nsIn K mainGlobals "isinstance" = some none)
    (b_all : PySem.W.nsIn K mainGlobals "all" = some none)
    (b_int : PySem.W.nsIn K mainGlobals "int" = some none)
    (b_bool : PySem.W.nsIn K mainGlobals "bool" = some none)
    (b_tuple : PySem.W.nsIn K mainGlobals "tuple" = some none)
    (b_dict : PySem.W.nsIn K mainGlobals "dict" = some none)
    (b_set : PySem.W.nsIn K mainGlobals "set" = some none)
    (b_list : PySem.W.nsIn K mainGlobals "list" = some none)
    (b_repr : PySem.W.nsIn K mainGlobals "repr" = some none)
    (b_abs : PySem.W.nsIn K mainGlobals "abs" = some none)
    (b_range : PySem.W.nsIn K mainGlobals "range" = some none)
    (b_min : PySem.W.nsIn K mainGlobals "min" = some none)
    (b_max : PySem.W.nsIn K mainGlobals "max" = some none)
    (b_enumerate : PySem.W.nsIn K mainGlobals "enumerate" = some none)
    (b_zip : PySem.W.nsIn K mainGlobals "zip" = some none)
    (ti2 : PySem.W.specialIn K (.builtin "object.__class__") "__get__" = some (some (.builtin "getset_descriptor.__get__")))
    (ti3 : PySem.W.takesIn K (.builtin "object.__class__") = some true)
    (kpO : PySem.W.keepIn K (.ref c_InvalidOperation) = true)
    (bO : PySem.W.subIn K (.ref c_InvalidOperation) (.type "BaseException") = some true)
    (tyO : PySem.W.typeIn K (.ref c_InvalidOperation) = some (.type "type"))
    (e1O : PySem.W.findIn K (.ref c_InvalidOperation) "__getattribute__" = some (some (.builtin "BaseException.__getattribute__")))
    (e2O : PySem.W.findIn K (.ref c_InvalidOperation) "__getattr__" = some none)
    (e4O : PySem.W.hasDictIn K c_InvalidOperation = true)
    (e5O : PySem.W.findIn K (.ref c_InvalidOperation) "__class__" = some (some (.builtin "object.__class__")))
    (e8O : PySem.W.mroIn K c_InvalidOperation (.type "object") = some true)
    (emOO : PySem.W.exmOne K (.ref c_InvalidOperation) (.ref c_InvalidOperation) = some true)
    (q_O : PySem.W.excIn K c_InvalidOperation veT "ValueError.__new__" = true) :
    ∃ fd : FuncData, (∀ (s : Shared) (u : Value), BindsTo s fd ⟨[u], []⟩ [("_law_script", u)]) ∧ ∀ base : Heap, K.In base → base.Ns mainGlobals mg → Rp.FnG P w K mg base CX0 7 fa fd ["_law_script"] (spLaw K) := by
  obtain rfl : f_law = fa := by
    have e := hfa.symm.trans (PySem.W.mg_of X G a_law)
    cases e
    rfl
  have T : Txt K mg ⟨f_are_integers, (PySem.W.fnOf "are_integers" "are_integers" (defArgs s_are_integers) (defBody s_are_integers) (defScope s_are_integers) .none kV_are_integers dc_are_integers pm_are_integers an_are_integers cd_are_integers ct_are_integers), f__pivot, (PySem.W.fnOf "_pivot" "_pivot" (defArgs s__pivot) (defBody s__pivot) (defScope s__pivot) .none kV__pivot dc__pivot pm__pivot an__pivot cd__pivot ct__pivot), f__less, (PySem.W.fnOf "_less" "_less" (defArgs s__less) (defBody s__less) (defScope s__less) .none kV__less dc__less pm__less an__less cd__less ct__less), f__pivot_row, (PySem.W.fnOf "_pivot_row" "_pivot_row" (defArgs s__pivot_row) (defBody s__pivot_row) (defScope s__pivot_row) .none kV__pivot_row dc__pivot_row pm__pivot_row an__pivot_row cd__pivot_row ct__pivot_row), f__reduced, (PySem.W.fnOf "_reduced" "_reduced" (defArgs s__reduced) (defBody s__reduced) (defScope s__reduced) .none kV__reduced dc__reduced pm__reduced an__reduced cd__reduced ct__reduced), f_basis_with, (PySem.W.fnOf "basis_with" "basis_with" (defArgs s_basis_with) (defBody s_basis_with) (defScope s_basis_with) .none kV_basis_with dc_basis_with pm_basis_with an_basis_with cd_basis_with ct_basis_with), f_basis_from, (PySem.W.fnOf "basis_from" "basis_from" (defArgs s_basis_from) (defBody s_basis_from) (defScope s_basis_from) .none kV_basis_from dc_basis_from pm_basis_from an_basis_from cd_basis_from ct_basis_from), f__are_rows, (PySem.W.fnOf "_are_rows" "_are_rows" (defArgs s__are_rows) (defBody s__are_rows) (defScope s__are_rows) .none kV__are_rows dc__are_rows pm__are_rows an__are_rows cd__are_rows ct__are_rows), f_basis_of, (PySem.W.fnOf "basis_of" "basis_of" (defArgs s_basis_of) (defBody s_basis_of) (defScope s_basis_of) .none kV_basis_of dc_basis_of pm_basis_of an_basis_of cd_basis_of ct_basis_of), f_reel, (PySem.W.fnOf "_law_reel" "_law_reel" (defArgs s__law_reel) (defBody s__law_reel) (defScope s__law_reel) .none kV_reel dc_reel pm_reel an_reel cd_reel ct_reel), f_spin, (PySem.W.fnOf "_law_spin" "_law_spin" (defArgs s__law_spin) (defBody s__law_spin) (defScope s__law_spin) .none kV_spin dc_spin pm_spin an_spin cd_spin ct_spin), f_pick, (PySem.W.fnOf "_law_pick" "_law_pick" (defArgs s__law_pick) (defBody s__law_pick) (defScope s__law_pick) .none kV_pick dc_pick pm_pick an_pick cd_pick ct_pick), f_mixed, (PySem.W.fnOf "_law_mixed" "_law_mixed" (defArgs s__law_mixed) (defBody s__law_mixed) (defScope s__law_mixed) .none kV_mixed dc_mixed pm_mixed an_mixed cd_mixed ct_mixed), f_minus, (PySem.W.fnOf "_law_minus" "_law_minus" (defArgs s__law_minus) (defBody s__law_minus) (defScope s__law_minus) .none kV_minus dc_minus pm_minus an_minus cd_minus ct_minus), f_divided, (PySem.W.fnOf "_law_divided" "_law_divided" (defArgs s__law_divided) (defBody s__law_divided) (defScope s__law_divided) .none kV_divided dc_divided pm_divided an_divided cd_divided ct_divided), f_echelon, (PySem.W.fnOf "_law_echelon" "_law_echelon" (defArgs s__law_echelon) (defBody s__law_echelon) (defScope s__law_echelon) .none kV_echelon dc_echelon pm_echelon an_echelon cd_echelon ct_echelon), f_first, (PySem.W.fnOf "_law_first" "_law_first" (defArgs s__law_first) (defBody s__law_first) (defScope s__law_first) .none kV_first dc_first pm_first an_first cd_first ct_first), f_is_within, (PySem.W.fnOf "_law_is_within" "_law_is_within" (defArgs s__law_is_within) (defBody s__law_is_within) (defScope s__law_is_within) .none kV_is_within dc_is_within pm_is_within an_is_within cd_is_within ct_is_within), f_drawn_rows, (PySem.W.fnOf "_law_drawn_rows" "_law_drawn_rows" (defArgs s__law_drawn_rows) (defBody s__law_drawn_rows) (defScope s__law_drawn_rows) .none kV_drawn_rows dc_drawn_rows pm_drawn_rows an_drawn_rows cd_drawn_rows ct_drawn_rows), f_changed, (PySem.W.fnOf "_law_changed" "_law_changed" (defArgs s__law_changed) (defBody s__law_changed) (defScope s__law_changed) .none kV_changed dc_changed pm_changed an_changed cd_changed ct_changed), f_basis_right, (PySem.W.fnOf "_law_basis_right" "_law_basis_right" (defArgs s__law_basis_right) (defBody s__law_basis_right) (defScope s__law_basis_right) .none kV_basis_right dc_basis_right pm_basis_right an_basis_right cd_basis_right ct_basis_right), f_refused, (PySem.W.fnOf "_law_refused" "_law_refused" (defArgs s__law_refused) (defBody s__law_refused) (defScope s__law_refused) .none kV_refused dc_refused pm_refused an_refused cd_refused ct_refused), f_near, (PySem.W.fnOf "_law_near" "_law_near" (defArgs s__law_near) (defBody s__law_near) (defScope s__law_near) .none kV_near dc_near pm_near an_near cd_near ct_near), f_law, (PySem.W.fnOf "law" "law" (defArgs s_law) (defBody s_law) (defScope s_law) .none kV_law dc_law pm_law an_law cd_law ct_law), c_InvalidOperation, tk__INTEGER_BOUND, tk__COLUMNS⟩ :=
    { F_are_integers := fun_mk l_are_integers cc_are_integers kk_are_integers,
      g_are_integers := PySem.W.mg_of X G a_are_integers,
      F__pivot := fun_mk l__pivot cc__pivot kk__pivot,
      g__pivot := PySem.W.mg_of X G a__pivot,
      F__less := fun_mk l__less cc__less kk__less,
      g__less := PySem.W.mg_of X G a__less,
      F__pivot_row := fun_mk l__pivot_row cc__pivot_row kk__pivot_row,
      g__pivot_row := PySem.W.mg_of X G a__pivot_row,
      F__reduced := fun_mk l__reduced cc__reduced kk__reduced,
      g__reduced := PySem.W.mg_of X G a__reduced,
      F_basis_with := fun_mk l_basis_with cc_basis_with kk_basis_with,
      g_basis_with := PySem.W.mg_of X G a_basis_with,
      F_basis_from := fun_mk l_basis_from cc_basis_from kk_basis_from,
      g_basis_from := PySem.W.mg_of X G a_basis_from,
      F__are_rows := fun_mk l__are_rows cc__are_rows kk__are_rows,
      g__are_rows := PySem.W.mg_of X G a__are_rows,
      F_basis_of := fun_mk l_basis_of cc_basis_of kk_basis_of,
      g_basis_of := PySem.W.mg_of X G a_basis_of,
      F_reel := fun_mk l_reel cc_reel kk_reel,
      g_reel := PySem.W.mg_of X G a_reel,
      F_spin := fun_mk l_spin cc_spin kk_spin,
      g_spin := PySem.W.mg_of X G a_spin,
      F_pick := fun_mk l_pick cc_pick kk_pick,
      g_pick := PySem.W.mg_of X G a_pick,
      F_mixed := fun_mk l_mixed cc_mixed kk_mixed,
      g_mixed := PySem.W.mg_of X G a_mixed,
      F_minus := fun_mk l_minus cc_minus kk_minus,
      g_minus := PySem.W.mg_of X G a_minus,
      F_divided := fun_mk l_divided cc_divided kk_divided,
      g_divided := PySem.W.mg_of X G a_divided,
      F_echelon := fun_mk l_echelon cc_echelon kk_echelon,
      g_echelon := PySem.W.mg_of X G a_echelon,
      F_first := fun_mk l_first cc_first kk_first,
      g_first := PySem.W.mg_of X G a_first,
      F_is_within := fun_mk l_is_within cc_is_within kk_is_within,
      g_is_within := PySem.W.mg_of X G a_is_within,
      F_drawn_rows := fun_mk l_drawn_rows cc_drawn_rows kk_drawn_rows,
      g_drawn_rows := PySem.W.mg_of X G a_drawn_rows,
      F_changed := fun_mk l_changed cc_changed kk_changed,
      g_changed := PySem.W.mg_of X G a_changed,
      F_basis_right := fun_mk l_basis_right cc_basis_right kk_basis_right,
      g_basis_right := PySem.W.mg_of X G a_basis_right,
      F_refused := fun_mk l_refused cc_refused kk_refused,
      g_refused := PySem.W.mg_of X G a_refused,
      F_near := fun_mk l_near cc_near kk_near,
      g_near := PySem.W.mg_of X G a_near,
      F_law := fun_mk l_law cc_law kk_law,
      g_law := PySem.W.mg_of X G a_law,
      len := PySem.W.mg_none_of X G b_len,
      isinstance := PySem.W.mg_none_of X G b_isinstance,
      all := PySem.W.mg_none_of X G b_all,
      int := PySem.W.mg_none_of X G b_int,
      bool := PySem.W.mg_none_of X G b_bool,
      tuple := PySem.W.mg_none_of X G b_tuple,
      dict := PySem.W.mg_none_of X G b_dict,
      set := PySem.W.mg_none_of X G b_set,
      list := PySem.W.mg_none_of X G b_list,
      repr := PySem.W.mg_none_of X G b_repr,
      abs := PySem.W.mg_none_of X G b_abs,
      range := PySem.W.mg_none_of X G b_range,
      min := PySem.W.mg_none_of X G b_min,
      max := PySem.W.mg_none_of X G b_max,
      enumerate := PySem.W.mg_none_of X G b_enumerate,
      zip := PySem.W.mg_none_of X G b_zip,
      m__INTEGER_BOUND := PySem.W.mg_of X G a__INTEGER_BOUND,
      m__COLUMNS := PySem.W.mg_of X G a__COLUMNS,
      g_c_InvalidOperation := PySem.W.mg_of X G ac_InvalidOperation,
      q_InvalidOperation := q_O,
      kp_InvalidOperation := kpO,
      b_InvalidOperation := bO,
      ty_InvalidOperation := tyO,
      e_InvalidOperation := ⟨e1O, e2O, bO, e4O, e5O, ti2, ti3, e8O⟩,
      em_InvalidOperation := emOO }
  exact ⟨(PySem.W.fnOf "law" "law" (defArgs s_law) (defBody s_law) (defScope s_law) .none kV_law dc_law pm_law an_law cd_law ct_law), fun s u => .of_eq rfl, fun base _ _ => ok_law T⟩
end K42

set_option Elab.async false
open PySem PySem.W PyProof.Rows
set_option maxRecDepth 100000 in
set_option maxHeartbeats 0 in
theorem PySem.Challenge.cw_dealtrows_k42_bases_of_rows_holds : PySem.Challenge.rw_dealtrows_k42_bases_of_rows.Holds := by
  w_on; o_law; k_head; (case hw => w_witness2)
  k_fill
  refine Rp.walk_ofG (n := 63) (k := 7) (x := "_law_script") (sp := K42.spLaw) (by decide +kernel) (by decide) rfl ⟨rfl, by decide, by decide⟩ (fun w h Y => PySem.W.kIn_of Y) ?F (fun K H a ns hl hS => K42.end_sp K H a ns hl hS)
  case F =>
    intro w mg fa h KX G hmg
    refine' K42.all_mk KX G hmg ?ac_InvalidOperation ?a_are_integers ?l_are_integers ?cc_are_integers ?kk_are_integers ?a__pivot ?l__pivot ?cc__pivot ?kk__pivot ?a__less ?l__less ?cc__less ?kk__less ?a__pivot_row ?l__pivot_row ?cc__pivot_row ?kk__pivot_row ?a__reduced ?l__reduced ?cc__reduced ?kk__reduced ?a_basis_with ?l_basis_with ?cc_basis_with ?kk_basis_with ?a_basis_from ?l_basis_from ?cc_basis_from ?kk_basis_from ?a__are_rows ?l__are_rows ?cc__are_rows ?kk__are_rows ?a_basis_of ?l_basis_of ?cc_basis_of ?kk_basis_of ?a_reel ?l_reel ?cc_reel ?kk_reel ?a_spin ?l_spin ?cc_spin ?kk_spin ?a_pick ?l_pick ?cc_pick ?kk_pick ?a_mixed ?l_mixed ?cc_mixed ?kk_mixed ?a_minus ?l_minus ?cc_minus ?kk_minus ?a_divided ?l_divided ?cc_divided ?kk_divided ?a_echelon ?l_echelon ?cc_echelon ?kk_echelon ?a_first ?l_first ?cc_first ?kk_first ?a_is_within ?l_is_within ?cc_is_within ?kk_is_within ?a_drawn_rows ?l_drawn_rows ?cc_drawn_rows ?kk_drawn_rows ?a_changed ?l_changed ?cc_changed ?kk_changed ?a_basis_right ?l_basis_right ?cc_basis_right ?kk_basis_right ?a_refused ?l_refused ?cc_refused ?kk_refused ?a_near ?l_near ?cc_near ?kk_near ?a_law ?l_law ?cc_law ?kk_law ?a__INTEGER_BOUND ?a__COLUMNS ?b_len ?b_isinstance ?b_all ?b_int ?b_bool ?b_tuple ?b_dict ?b_set ?b_list ?b_repr ?b_abs ?b_range ?b_min ?b_max ?b_enumerate ?b_zip ?ti2 ?ti3 ?kpO ?bO ?tyO ?e1O ?e2O ?e4O ?e5O ?e8O ?emOO ?q_O
    (case ac_InvalidOperation => k_is)
    (case a_are_integers => k_is)
    (case l_are_integers => k_is)
    (case cc_are_integers => k_is)
    (case kk_are_integers => k_is)
    (case a__pivot => k_is)
    (case l__pivot => k_is)
    (case cc__pivot => k_is)
    (case kk__pivot => k_is)
    (case a__less => k_is)
    (case l__less => k_is)
    (case cc__less => k_is)
    (case kk__less => k_is)
    (case a__pivot_row => k_is)
    (case l__pivot_row => k_is)
    (case cc__pivot_row => k_is)
    (case kk__pivot_row => k_is)
    (case a__reduced => k_is)
    (case l__reduced => k_is)
    (case cc__reduced => k_is)
    (case kk__reduced => k_is)
    (case a_basis_with => k_is)
    (case l_basis_with => k_is)
    (case cc_basis_with => k_is)
    (case kk_basis_with => k_is)
    (case a_basis_from => k_is)
    (case l_basis_from => k_is)
    (case cc_basis_from => k_is)
    (case kk_basis_from => k_is)
    (case a__are_rows => k_is)
    (case l__are_rows => k_is)
    (case cc__are_rows => k_is)
    (case kk__are_rows => k_is)
    (case a_basis_of => k_is)
    (case l_basis_of => k_is)
    (case cc_basis_of => k_is)
    (case kk_basis_of => k_is)
    (case a_reel => k_is)
    (case l_reel => k_is)
    (case cc_reel => k_is)
    (case kk_reel => k_is)
    (case a_spin => k_is)
    (case l_spin => k_is)
    (case cc_spin => k_is)
    (case kk_spin => k_is)
    (case a_pick => k_is)
    (case l_pick => k_is)
    (case cc_pick => k_is)
    (case kk_pick => k_is)
    (case a_mixed => k_is)
    (case l_mixed => k_is)
    (case cc_mixed => k_is)
    (case kk_mixed => k_is)
    (case a_minus => k_is)
    (case l_minus => k_is)
    (case cc_minus => k_is)
    (case kk_minus => k_is)
    (case a_divided => k_is)
    (case l_divided => k_is)
    (case cc_divided => k_is)
    (case kk_divided => k_is)
    (case a_echelon => k_is)
    (case l_echelon => k_is)
    (case cc_echelon => k_is)
    (case kk_echelon => k_is)
    (case a_first => k_is)
    (case l_first => k_is)
    (case cc_first => k_is)
    (case kk_first => k_is)
    (case a_is_within => k_is)
    (case l_is_within => k_is)
    (case cc_is_within => k_is)
    (case kk_is_within => k_is)
    (case a_drawn_rows => k_is)
    (case l_drawn_rows => k_is)
    (case cc_drawn_rows => k_is)
    (case kk_drawn_rows => k_is)
    (case a_changed => k_is)
    (case l_changed => k_is)
    (case cc_changed => k_is)
    (case kk_changed => k_is)
    (case a_basis_right => k_is)
    (case l_basis_right => k_is)
    (case cc_basis_right => k_is)
    (case kk_basis_right => k_is)
    (case a_refused => k_is)
    (case l_refused => k_is)
    (case cc_refused => k_is)
    (case kk_refused => k_is)
    (case a_near => k_is)
    (case l_near => k_is)
    (case cc_near => k_is)
    (case kk_near => k_is)
    (case a_law => k_is)
    (case l_law => k_is)
    (case cc_law => k_is)
    (case kk_law => k_is)
    (case a__INTEGER_BOUND => k_is)
    (case a__COLUMNS => k_is)
    (case b_len => k_is)
    (case b_isinstance => k_is)
    (case b_all => k_is)
    (case b_int => k_is)
    (case b_bool => k_is)
    (case b_tuple => k_is)
    (case b_dict => k_is)
    (case b_set => k_is)
    (case b_list => k_is)
    (case b_repr => k_is)
    (case b_abs => k_is)
    (case b_range => k_is)
    (case b_min => k_is)
    (case b_max => k_is)
    (case b_enumerate => k_is)
    (case b_zip => k_is)
    (case ti2 => k_is)
    (case ti3 => k_is)
    (case kpO => k_is)
    (case bO => k_is)
    (case tyO => k_is)
    (case e1O => k_is)
    (case e2O => k_is)
    (case e4O => k_is)
    (case e5O => k_is)
    (case e8O => k_is)
    (case emOO => kernel_rfl)
    (case q_O => k_exc)

