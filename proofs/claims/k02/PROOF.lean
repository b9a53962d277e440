import PyProof.Rows.All
import Wide.All
import OpenK.AllK
import Wide.FinOn
import HandS.ForMost
import KE.KExcInit
import KE.KTryMore
import HandS.Exc
import HandS.ExcOwn
import HandS.ExcInit
import HandS.ExcIs
import HandS.ExcValue
import HandS.TryMany
import HandS.IsInst
import PyProof.ReprRoads
import PyProof.ReprLen
import PyProof.CallFns
import OpenK.KMeth
import OpenK.KOps
import KE.KOpsOwn
import KE.KCallOwn
import PyProof.InstNe
import HandS.OwnEq
import HandS.Small
import KE.KEqDict
import KE.KDictKeyed
import HandS.DictComp
import HandS.Walk
import KE.KSortTupAny
import KE.KDictSum
import HandS.SortOrd
import HandS.Conv
import HandS.StrMore
import HandS.Zip
import KE.KeyNested
import KE.KDictPairs
import PyProof.EqKinds
import PyProof.FactsAll.dict_1
import PyProof.FactsAll.subtypes_4
import HandS.More
import HandS.Codes
import HandS.TupAny
import KE.KItemsList
import HandS.DictTup
import KE.KDictDisplayH
import HandS.Iter
import KE.KPairComp
import HandS.TupMul
import HandS.Lambda
import HandS.EndBits
import KE.KNest
import KE.KNestM
import HandS.Star
import HandS.WordsExc
import KE.KDictCopyH
import KE.KDictWalk
import PyProof.EqAt
import HandS.Wide
import HandS.Defaults
import HandS.Property
import HandS.FStr
import HandS.EndTab
import HandS.ClsMeth
import HandS.TupLen
import HandS.Style
import PySem.Challenge.RW_dealtrows_k02_answers_put_together
set_option Elab.async false
set_option linter.all false
set_option maxRecDepth 100000
/-! Dice of the scripts: what a draw leaves. -/
namespace Dt
open PySem PySem.Spec PyProof.Rows L2
def Die (H : Hp) (a : Addr) : Prop := ∃ x y z : Int, H a = some (.lst [.int x, .int y, .int z])
structure Rolled (a : Addr) (H H' : Hp) : Prop where
  die : Die H' a
  keep : ∀ b o, b ≠ a → H b = some o → H' b = some o
section
variable {K : PySem.W.Frag} {H H1 H2 : Hp} {a p : Addr} {o : HO} {xs : List V}
theorem Rolled.refl (h : Die H a) : Rolled a H H := ⟨h, fun _ _ _ e => e⟩
theorem Rolled.trans (r : Rolled a H H1) (q : Rolled a H1 H2) : Rolled a H H2 := ⟨q.die, fun b o hb e => q.keep b o hb (r.keep b o hb e)⟩
theorem Die.ne (h : Die H a) (hp : H p = none) : p ≠ a := fun z => by
  obtain ⟨x, y, w, e⟩ := h
  rw [z, e] at hp
  cases hp
theorem Die.new (h : Die H a) (hp : H p = none) : Die (upd H p o) a := by
  have n := h.ne hp
  obtain ⟨x, y, w, e⟩ := h
  exact ⟨x, y, w, by rw [upd_ne (Ne.symm n)]; exact e⟩
theorem Die.off (h : Die H a) (hp : p ≠ a) : Die (upd H p o) a := by
  obtain ⟨x, y, w, e⟩ := h
  exact ⟨x, y, w, by rw [upd_ne (Ne.symm hp)]; exact e⟩
/-- a new object is laid -/
theorem Rolled.new (r : Rolled a H H1) (hp : H1 p = none) : Rolled a H (upd H1 p o) := ⟨r.die.new hp, fun b u hb e => by
  have q := r.keep b u hb e
  rw [upd_ne (ne_of_none q hp)]
  exact q⟩
/-- an object that was not there at first is changed -/
theorem Rolled.mut (r : Rolled a H H1) (hp : H p = none) (hn : p ≠ a) : Rolled a H (upd H1 p o) := ⟨r.die.off hn, fun b u hb e => by
  rw [upd_ne (ne_of_none e hp)]
  exact r.keep b u hb e⟩
theorem Rolled.free (r : Rolled a H H1) (hp : H1 p = none) : H p = none := by
  cases q : H p with
  | none => rfl
  | some u =>
    have n := r.die.ne hp
    rw [r.keep p u n q] at hp
    cases hp
theorem Rolled.rd {u : HO} (r : Rolled a H H1) (n : p ≠ a) (h : Rd H p u) : Rd H1 p u := by
  rcases h with h | ⟨o, h⟩
  · exact .inl (r.keep _ _ n h)
  · exact .inr ⟨o, r.keep _ _ n h⟩
theorem Rolled.sqL (r : Rolled a H H1) (n : p ≠ a) (h : SqL K H p xs) : SqL K H1 p xs := by
  rcases h with h | h
  · exact .inl (r.rd n h)
  · exact .inr h
theorem Rolled.sqT (r : Rolled a H H1) (n : p ≠ a) (h : SqT K H p xs) : SqT K H1 p xs := by
  rcases h with h | h
  · exact .inl (r.rd n h)
  · exact .inr h
end
theorem atI_ok {α : Type} {xs : List α} {r : Int} (h0 : 0 ≤ r) (h : r < xs.length) : ∃ v, atI xs r = some v ∧ v ∈ xs := by
  obtain ⟨j, rfl⟩ := Int.eq_ofNat_of_zero_le h0
  have hj : j < xs.length := by omega
  exact ⟨xs[j], atI_nat (by simp [hj]), List.getElem_mem hj⟩
theorem sameNew {H : Hp} {p : Addr} {o : HO} (n : H p = none) : Same H (upd H p o) := fun b u e => by
  rw [upd_ne (ne_of_none e n)]
  exact e
/-- a new object, its heap by a name -/
theorem newL {H : Hp} {o : HO} {Q : VK} (h : ∀ p H1, H p = none → H1 p = some o → Same H H1 → Q (.ref p) H1) : ∀ p, H p = none → Q (.ref p) (upd H p o) := fun p n => h p _ n upd_same (sameNew n)
theorem sameT {K : PySem.W.Frag} {H H1 : Hp} {a : Addr} {xs : List V} (S : Same H H1) (h : SqT K H a xs) : SqT K H1 a xs := by
  rcases h with (h | ⟨o, h⟩) | h
  · exact .inl (.inl (S _ _ h))
  · exact .inl (.inr ⟨o, S _ _ h⟩)
  · exact .inr h
/-- both ways of a test -/
theorem iteB {c : Bool} {A B : Prop} (h1 : c = true → A) (h2 : c = false → B) : if c = true then A else B := by
  cases c with
  | true => exact iteT (h1 rfl)
  | false => exact iteF (h2 rfl)
theorem iteD {p : Prop} [Decidable p] {A B : Prop} (h1 : p → A) (h2 : ¬ p → B) : if decide p = true then A else B := iteB (fun c => h1 (of_decide_eq_true c)) fun c => h2 (of_decide_eq_false c)
/-- powers of any base -/
def CPowG (i j : Int) : Prop := 0 ≤ j ∧ (Builtin.Int.intBits i : Int) * j ≤ 2 ^ 27
theorem op_powG {X : Cx} : OpR X (binaryOp .Pow) (rI CPowG fun i j => .int (i ^ j.toNat)) := opI fun _ _ _ _ _ _ _ hc q => pow_int hc.1 hc.2 q
/-! what a roll, a pick promise -/
def spRoll : Sp := fun vs H Q _ => ∃ (a : Addr) (n : Int), vs = [.ref a, .int n] ∧ Die H a ∧ 0 < n ∧ n < 1073741824 ∧ ∀ (r : Int) H', 0 ≤ r → r < n → Rolled a H H' → Q (.int r) H'
/-- what can be picked from: a text, a list, a tuple, with its items -/
def Pool (K : PySem.W.Frag) (H : Hp) (a : Addr) : V → List V → Prop
  | .str z, xs => xs = z.cps.toList.map fun c => V.str ⟨#[c]⟩
  | .ref p, xs => p ≠ a ∧ (SqL K H p xs ∨ SqT K H p xs)
  | _, _ => False
def spPick (K : PySem.W.Frag) : Sp := fun vs H Q _ => ∃ (a : Addr) (y : V) (xs : List V), vs = [.ref a, y] ∧ Die H a ∧ Pool K H a y xs ∧ 0 < xs.length ∧ xs.length < 1000000 ∧
  ∀ v H', v ∈ xs → Rolled a H H' → Q v H'
def spDice (K : PySem.W.Frag) : Sp := fun vs H Q _ => ∃ (s : Addr) (ns : List Int) (i : Nat), vs = [.ref s, .int i] ∧ SqL K H s (ns.map V.int) ∧ ns.length ≤ 63 ∧ i ≤ 1000 ∧ ∀ p H', H p = none → Die H' p → (∀ b o, H b = some o → H' b = some o) → Q (.ref p) H'
end Dt

set_option Elab.async false
set_option linter.all false
set_option maxRecDepth 100000
set_option maxHeartbeats 4000000
/-! Exception classes of the program's own, over any built-in base: made, kept as values, asked, raised. -/
namespace Exs
open PySem PySem.Spec PyProof.Rows L2
open Builtin Builtin.ObjectAttr

/-- own classes first, then the built-in ones -/
def endsIn (t : List Value) : List Value → Bool
  | .ref _ :: r => endsIn t r
  | l => l == t
theorem endsIn_two (t : List Value) (l : List Value) (e : endsIn t l = true) : l = t ∨ ∃ c r, l = .ref c :: r ∧ endsIn t r = true := by
  cases l with
  | nil => exact .inl (beq_iff_eq.mp e)
  | cons a r =>
    cases a with
    | ref c => exact .inr ⟨c, r, rfl, e⟩
    | _ => exact .inl (beq_iff_eq.mp e)
theorem endsIn_has {t : List Value} (Y : String) : ∀ l : List Value, endsIn t l = true → l.contains (.type Y) = t.contains (.type Y) := by
  intro l
  induction l with
  | nil =>
    intro e
    rw [← beq_iff_eq.mp (show ([] == t) = true from e)]
  | cons a r ih =>
    intro e
    rcases endsIn_two t _ e with z | ⟨c, r', z, h⟩
    · rw [z]
    · cases z
      rw [List.contains_cons, ih h]
      rfl
/-- a built-in tail lets a store pass -/
def Lets (t : List Value) : Prop := ∀ self : Value, refuseLoop self "__setattr__" t = pure ()
theorem endsIn_lets {t : List Value} (p : Lets t) (self : Value) : ∀ l : List Value, endsIn t l = true → refuseLoop self "__setattr__" l = pure () := by
  intro l
  induction l with
  | nil =>
    intro e
    rw [beq_iff_eq.mp (show ([] == t) = true from e)]
    exact p self
  | cons a r ih =>
    intro e
    rcases endsIn_two t _ e with z | ⟨c, r', z, h⟩
    · rw [z]
      exact p self
    · cases z
      rw [refuseLoop_ref]
      exact ih h
section
variable {prog : Program} {w : World} {A : Around} {R : Result → Shared → Prop} {s : Shared} {K : W.Frag} {C x : Addr} {cd : ClassData} {t : List Value} {f : Str} {k : Tok} {v : Value} {fv : Array Value}
/-- the first store into an exception: its dict is made -/
theorem first_store (X : K.In s.heap) (ho : s.heap.get? x = some { cls := .ref C, data := .fields fv }) (hc : W.clsIn K C = some cd) (hm : endsIn t cd.mro = true) (hp : Lets t) (hb : t.contains (.type "object") = true) (ht : t ≠ [])
    (hd : cd.hasDict = true) (hn : W.findIn K (.ref C) f = some none)
    (q : ∀ s' dx, (∀ b o, b ≠ x → s.heap.get? b = some o → s'.heap.get? b = some o) → s.heap.objs.size ≤ dx → dx ≠ x → s'.heap.get? x = some { cls := .ref C, dict := some dx, data := .fields fv } →
      s'.heap.Ns1 dx (fun y => if y = f then some v else none) → s' = { s with heap := s'.heap, toks := s'.toks } → R (.ok (.ret .none)) s') :
    codeAny (model prog w) A (.call (.builtin "object.__setattr__") ⟨[.ref x, .str f k, v], []⟩) R s := by
  obtain ⟨hp0, ge, dr, tk, os⟩ := s
  have me : cd.mro.isEmpty = false := by
    cases e : cd.mro with
    | nil =>
      rw [e] at hm
      exact absurd (beq_iff_eq.mp (show (([] : List Value) == t) = true from hm)).symm ht
    | cons _ _ => rfl
  have mo : cd.mro.contains (.type "object") = true := by rw [endsIn_has _ _ hm]; exact hb
  have J : W.InstAt hp0 x { cls := .ref C, data := .fields fv } C none := ⟨ho, rfl, rfl, trivial⟩
  have nx : hp0.objs.size ≠ x := Nat.ne_of_gt (Heap.lt_size ho)
  have isO : W.Looks (model prog w) hp0 (isInstance (.ref x) (.type "object")) true := by
    refine J.type.andThen (W.looks_mroIn X ?_)
    unfold W.mroIn
    rw [hc, Option.bind_some, if_neg (by rw [me]; decide), mo]
  have mr : W.Looks (model prog w) hp0 (mroOf (.ref C)) cd.mro := (W.looks_clsIn X hc).andThen .now
  have ta : W.Looks (model prog w) hp0 (storeTaker? none) none := .now
  have cl : W.Looks (model prog w) hp0 (classData C) cd := W.looks_clsIn X hc
  refine codeAny_call_builtin PySem.F.store_object.slot.plain PySem.F.store_object.entry ?_
  refine @W.check_slot (model prog w) _ _ ⟨hp0, ge, dr, tk, os⟩ "object.__setattr__" "object" "__setattr__" (.ref x) [.str f k, v] [] _
    PySem.F.store_object.kind PySem.F.store_object.split isO (PySem.F.store_object.args (.ref x) (.str f k) v) ?_
  rw [W.osa_eq, refuse_eq]
  refine wpAny_bind (wpAny_bind (J.type.at ?_))
  refine wpAny_bind (mr.at ?_)
  rw [endsIn_lets hp _ _ hm]
  refine wpAny_pure (wpAny_bind (J.type.at ?_))
  refine wpAny_bind ((W.looks_findIn X hn).at ?_)
  refine wpAny_bind (ta.at ?_)
  show wpAny _ _ (storeInOwnDict (.ref x) (.ref C) (.str f k) f v false) _ _ _
  obtain ⟨c1, c2, c3, c4, c5, c6, c7, c8, c9, c10, c11⟩ := cd
  dsimp only at hd
  subst hd
  unfold storeInOwnDict ownDictForStores
  repeat (first
    | with_reducible refine HandSPX.store_in_new ?_ ?_
    | with_reducible refine wpAny_loadPart_at ho ?_
    | with_reducible refine cl.at ?_
    | wp_step)
  · refine ⟨_, #[], _, (Heap.get?_update_ne _ _ _ _ nx).trans (Heap.get?_push_at rfl rfl), rfl, fun e he => ?_, fun _ => rfl⟩
    exact absurd he (by simp)
  · intro h' tk' hn' hs
    have ho1 : (hp0.push { cls := .type "dict", data := .dict #[] }).get? x = some { cls := .ref C, data := .fields fv } := Heap.get?_push_of_some _ ho
    refine q ⟨h', ge, dr, tk', os⟩ hp0.objs.size (fun b o hbx hbo => ?_) (Nat.le_refl _) nx ?_ hn' rfl
    · refine (hs.2 b (Nat.ne_of_lt (Heap.lt_size hbo))).trans ?_
      exact (Heap.get?_update_ne _ _ _ _ hbx).trans (Heap.get?_push_of_some _ hbo)
    · exact (hs.2 x (Ne.symm nx)).trans (Heap.get?_update_self _ ho1 rfl)
end

/-! ### the call of an exception class with an __init__ of its own: what its chain must hold -/
section
variable {h : Heap} {g : Array GenState} {d : Drawn} {t : Nat} {os : OsState} {nm q : Str} {C N : Addr} {bs bm bmB : List Value} {hdct : Bool} {sn : List Str} {sub : List Value} {ab : Bool} {col : Option Bool} {dd : Option Addr} {k0 k1 k2 k3 k5 : Option Value}
  {B newId initId : String} {rest : List Value}
theorem chk_new {M : Model} {A : Around} {E : Value → Shared → Prop} {Q : Unit → Shared → Prop} (F : ExcBaseFacts B newId initId bmB) (hB : bm.contains (.type B) = true)
    (hC : h.get? C = some (excClassObj nm q C N bs bm hdct sn sub ab col dd k0 k1 k2 k3 k5 newId)) (z : Q () ⟨h, g, d, t, os⟩) : wpAny M A (checkBuiltinCall newId ⟨.ref C :: rest, []⟩) Q E ⟨h, g, d, t, os⟩ := by
  have has : (Value.ref C :: bm).contains (.type B) = true := by rw [List.contains_cons, hB, Bool.or_true]
  have ns := F.noStar
  simp only [checkBuiltinCall, F.newKind, F.newSplit, F.newRow]
  repeat (first
    | refine wpAny_loadPart_at hC ?_
    | (refine wpAny_isSubtype_exc hC ?_; rw [has])
    | refine wpAny_staticBase_exc hC ?_
    | refine wpAny_madeBy_exc hC ?_
    | simp only [bne_self_eq_false, Bool.false_eq_true, if_false]
    | wp_step)
  exact z
theorem new_run {prog : Program} {w : World} {A : Around} {R : Result → Shared → Prop} (F : ExcBaseFacts B newId initId bmB) (hB : bm.contains (.type B) = true) (hA : bm.contains (.type "AttributeError") = false) (hN : bm.contains (.type "NameError") = false)
    (hC : h.get? C = some (excClassObj nm q C N bs bm hdct sn sub ab col dd k0 k1 k2 k3 k5 newId)) (hz : rest.length ≤ sizeLine)
    (z : R (.ok (.ret (.ref (h.objs.size + 1)))) ⟨(h.push { cls := .type "tuple", data := .seq rest.toArray }).push { cls := .ref C, data := .fields #[.ref h.objs.size, .none, .none, .none, .bool false, .none] }, g, d, t, os⟩) :
    codeAny (model prog w) A (.builtin newId ⟨.ref C :: rest, []⟩) R ⟨h, g, d, t, os⟩ := by
  have e1 := F.ends
  have c1 : (Value.ref C :: bm).contains (.type B) = true := by rw [List.contains_cons, hB, Bool.or_true]
  have c2 : (Value.ref C :: bm).contains (.type "AttributeError") = false := by rw [List.contains_cons, hA]; rfl
  have c3 : (Value.ref C :: bm).contains (.type "NameError") = false := by rw [List.contains_cons, hN]; rfl
  refine codeAny_builtinAt F.entry ?_
  unfold Builtin.«BaseException.__new__»
  refine PySem.wpAt_bind ?_
  show PySem.wpAt _ _ _ (stack >>= _) _ _ _
  refine PySem.wpAt_bind (PySem.wpAt_stack fun p below => PySem.wpAt_of_wpAny ?_)
  wp_walk
  refine PySem.wpAt_of_wpAny ?_
  rw [F.owner]
  repeat (first
    | with_reducible refine wpAny_madeHere_exc F.canon hC ?_
    | with_reducible refine wpAny_loadPart_at hC ?_
    | (with_reducible refine wpAny_isSubtype_exc hC ?_; first | rw [c1] | rw [c2] | rw [c3])
    | wp_step)
  show R _ _
  rw [Heap.size_push]
  exact z
theorem type_run {prog : Program} {w : World} {A : Around} {E : Value → Shared → Prop} {fI : Addr} {Q : Fin → Shared → Prop} (F : ExcBaseFacts B newId initId bmB) (hB : bm.contains (.type B) = true) (hA : bm.contains (.type "AttributeError") = false) (hN : bm.contains (.type "NameError") = false)
    (hC : h.get? C = some (excClassObj nm q C N bs bm hdct sn sub ab col dd k0 k1 k2 k3 k5 newId)) (hi : W.Looks (model prog w) h (typeLookup (.ref C) "__init__") (some (.ref fI))) (hb : ∀ self, W.Looks (model prog w) h (bindSpecial (.ref fI) self) (.ref fI, [self]))
    (hz : rest.length ≤ sizeLine)
    (z : codeAny (model prog w) A (.call (.ref fI) ⟨.ref (h.objs.size + 1) :: rest, []⟩)
      (fun r s' => match r with | .ok (.ret v) => v = .none ∧ Q (.done (.ret (.ref (h.objs.size + 1)))) s' | .ok _ => False | .error e => E e s') ⟨(h.push (W.kdv_tup rest)).push (HandSPX.excO C h.objs.size), g, d, t, os⟩) :
    wpAny (model prog w) A (Builtin.«type.__call__» ⟨.ref C :: rest, []⟩) Q E ⟨h, g, d, t, os⟩ := by
  repeat (first
    | with_reducible refine wpAny_loadPart_at hC ?_
    | with_reducible refine wpAny_madeBy_exc hC ?_
    | wp_step)
  refine codeAny_call_builtin_code (Code.quiet_builtin _ F.quiet) (chk_new F hB hC ?_)
  refine new_run F hB hA hN hC hz ?_
  show wpAny _ _ _ _ _ _
  have kp : ∀ b o, h.get? b = some o → ((h.push (W.kdv_tup rest)).push (HandSPX.excO C h.objs.size)).get? b = some o := fun b o e => Heap.get?_push_of_some _ (Heap.get?_push_of_some _ e)
  have hC1 := kp _ _ hC
  have he : ((h.push (W.kdv_tup rest)).push (HandSPX.excO C h.objs.size)).get? (h.objs.size + 1) = some (HandSPX.excO C h.objs.size) := by heap_get
  have cc : (Value.ref C :: bm).contains (.ref C) = true := by simp
  have i1 := hi.keeps kp
  have b1 := (hb (.ref (h.objs.size + 1))).keeps kp
  unfold isInstance
  repeat (first
    | with_reducible refine wpAny_loadPart_at he ?_
    | (with_reducible refine wpAny_isSubtype_exc hC1 ?_; rw [cc])
    | wp_step)
  show wpAny _ _ (typeLookup (.ref C) _) _ _ _
  refine i1.at (wpAny_holding (wpAny_bind (b1.at ?_)))
  refine wpAny_bind (wpAny_call (codeAny_mono z fun r s' y => ?_))
  rcases r with e | (v | _ | _ | _) <;> first | exact y | exact y.elim | skip
  obtain ⟨rfl, y⟩ := y
  first
    | exact wpAny_pure (wpAny_pure y)
    | (wp_walk; exact y)
theorem call_run {prog : Program} {w : World} {A : Around} {R : Result → Shared → Prop} {fI : Addr} (F : ExcBaseFacts B newId initId bmB) (hB : bm.contains (.type B) = true) (hA : bm.contains (.type "AttributeError") = false) (hN : bm.contains (.type "NameError") = false)
    (hC : h.get? C = some (excClassObj nm q C N bs bm hdct sn sub ab col dd k0 k1 k2 k3 k5 newId)) (hi : W.Looks (model prog w) h (typeLookup (.ref C) "__init__") (some (.ref fI))) (hb : ∀ self, W.Looks (model prog w) h (bindSpecial (.ref fI) self) (.ref fI, [self]))
    (hz : rest.length ≤ sizeLine)
    (z : codeAny (model prog w) (A.under (.builtin "type.__call__" ⟨.ref C :: rest, []⟩)) (.call (.ref fI) ⟨.ref (h.objs.size + 1) :: rest, []⟩) (W.InitBack (h.objs.size + 1) R) ⟨(h.push (W.kdv_tup rest)).push (HandSPX.excO C h.objs.size), g, d, t, os⟩) :
    codeAny (model prog w) A (.call (.ref C) ⟨rest, []⟩) R ⟨h, g, d, t, os⟩ := by
  have l1 := tc_lookup
  have l2 := tc_bind (.ref C)
  have l3 : (⟨h, g, d, t, os⟩ : Shared).TypeIs (.ref C) "type" := ⟨_, hC, rfl⟩
  refine codeAny_of_tree ?_
  show wpAny _ _ (callAny (.ref C) _) _ _ _
  repeat (any_goals (first
    | assumption
    | with_reducible refine wpAny_loadPart_at hC ?_
    | wp_step))
  refine ⟨rfl, codeAny_call_builtin_at (Code.quiet_builtin _ (by decide +kernel)) entry_typeCall (wpAny_check_type_call_sub hC (type_run F hB hA hN hC hi hb hz ?_))⟩
  exact codeAny_mono z fun r s' y => by
    rcases r with e | (v | _ | _ | _) <;> exact y
end

/-- what the written part says of an exception class with an __init__ of its own -/
structure Cls1 (K : W.Frag) (C : Addr) : Prop where
  cls : ∃ nm q N bs bm sn sub ab col dd k0 k1 k2 k3 k5 B newId initId t0 t, K.lookup C = some (excClassObj nm q C N bs bm true sn sub ab col dd k0 k1 k2 k3 k5 newId) ∧
    ExcBaseFacts B newId initId t0 ∧ (bm.contains (.type B) = true ∧ bm.contains (.type "AttributeError") = false ∧ bm.contains (.type "NameError") = false) ∧ endsIn t bm = true ∧ Lets t ∧ t.contains (.type "object") = true ∧ t ≠ []
  sa : W.findIn K (.ref C) "__setattr__" = some (some (.builtin "object.__setattr__"))
  exC : W.subIn K (.ref C) (.type "BaseException") = some true
  tyC : W.typeIn K (.ref C) = some (.type "type")
  kC : W.keepIn K (.ref C) = true
section
variable {X : Cx} {pins : List (Addr × Obj)} {σ : L2.St} {H : Hp} {s : Shared} {a C : Addr} {f : Str} {y : V} {u : Value} {A : Around} {E : Value → Shared → Prop}
theorem put1 {Q : Unit → Shared → Prop} (T : Cls1 X.K C) (I : Inv X pins σ H s) (e : H a = some (exo a C none)) (hn : W.findIn X.K (.ref C) f = some none) (ry : RelV y u)
    (q : ∀ dx s', H dx = none → dx ≠ a → Inv X pins σ (upd (upd H dx (exd dx [(f, y)])) a (exo a C (some dx))) s' → Q () s') : wpAny (model X.prog X.w) A (setAttr (.ref a) f u) Q E s := by
  obtain ⟨nm, qn, N, bs, bm, sn, sub, ab, col, dd, k0, k1, k2, k3, k5, B, newId, initId, t0, t, hC, _, _, hbm, hl, hob, hne⟩ := T.cls
  have hcl : W.clsIn X.K C = some { name := nm, bases := bs, mro := .ref C :: bm, ns := N, qualname := qn, hasDict := true, slotNames := sn, subclasses := sub, abstract := ab, collection := col, hasDel := false } := by
    unfold W.clsIn
    rw [hC] <;> rfl
  obtain ⟨t1, ho⟩ := exo_at I.hok e
  refine W.set_plain I.kIn (ox := { cls := .ref C, dict := none, data := .fields #[.ref t1, .none, .none, .none, .bool false, .none] }) (od := none) ⟨ho, rfl, rfl, trivial⟩ T.sa ?_
  refine first_store I.kIn ho hcl (show endsIn t (.ref C :: bm) = true from hbm) hl hob hne rfl hn (fun s' dx kp dn dne hx hns es => ?_)
  obtain ⟨h', g', dr', tk', os'⟩ := s'
  cases es
  have hd : H dx = none := I.hok.fresh dn
  have nd : ∀ {b : Addr} {o : Obj}, s.heap.get? b = some o → b ≠ dx := fun {b o} z => Nat.ne_of_lt (Nat.lt_of_lt_of_le (Heap.lt_size z) dn)
  have na : ∀ {b : Addr}, H b = none → b ≠ a := fun {b} n z => by rw [z, e] at n; cases n
  have ba : ∀ {b : Addr} {o : HO}, H b = some o → (exo a C none) ≠ o → b ≠ a := fun {b o} z d w => by
    rw [w, e] at z
    exact d (Option.some.inj z)
  have bd : ∀ {b : Addr} {o : HO}, H b = some o → b ≠ dx := fun {b o} z => ne_of_none z hd
  have two : ∀ {b : Addr}, b ≠ a → b ≠ dx → upd (upd H dx (exd dx [(f, y)])) a (exo a C (some dx)) b = H b := fun {b} n1 n2 => by rw [upd_ne n1, upd_ne n2]
  have U : Un X.fs [] H (upd (upd H dx (exd dx [(f, y)])) a (exo a C (some dx))) s.heap h' := by
    refine ⟨fun b o z n _ _ => kp b o (na n) z, fun b o z n _ _ => ⟨o.slots, kp b o (na n) z⟩, fun b o z n _ => ?_, fun b o z _ => ?_, fun b xs z => ?_, fun b o v z => ?_, fun b ps z => ⟨#[], ?_⟩⟩
    · rw [two (na n) (nd z)]
      exact n
    · by_cases hb : b = a
      · exact ⟨_, by rw [hb]; exact hx⟩
      · exact ⟨o, kp b o hb z⟩
    · rw [two (ba z exo_tup) (bd z)]
      exact z
    · rw [two (ba z exo_frz) (bd z)]
      exact z
    · rw [two (ba z exo_tbl) (bd z), z]
      simp
  refine q dx _ hd dne (I.un (t' := tk') U fun b o z => ?_)
  by_cases hb : b = a
  · rw [hb, upd_same] at z
    cases z
    rw [hb]
    exact exo_ok hx
  · rw [upd_ne hb] at z
    by_cases hdx : b = dx
    · rw [hdx, upd_same] at z
      cases z
      rw [hdx]
      exact exd_ok hns (relO_put (fs := []) ry fun g => True.intro)
    · rw [upd_ne hdx] at z
      refine (I.hok b o z).stay (fun c v hc w => kp c v ?_ w) (fun c hc => ?_) fun c xs hc => ?_
      · rcases hc with hc | hc
        · rw [hc]
          exact hb
        · exact ba hc exo_own
      · rw [two (ba hc exo_own) (bd hc)]
        exact hc
      · rw [two (ba hc exo_tup) (bd hc)]
        exact hc
end
section
variable {X : Cx} {o e : Expr} {es : List Expr} {to te : TE} {ta : TA} {f x : Str} {p p' pos : Pos} {C fI : Addr} {k : Nat} {fd : FuncData} {ps : List Str} {sp : Sp} {CX : CXT}
/-- self.f = e, self an exception that is being made -/
def tPut1 (K : W.Frag) (f : Str) (to te : TE) : TS := fun D σ H => te σ H fun y H1 => to σ H1 fun x H2 => ∃ a C : Addr, x = .ref a ∧ Cls1 K C ∧ W.findIn K (.ref C) f = some none ∧ H2 a = some (exo a C none) ∧
  ∀ dx, H2 dx = none → dx ≠ a → D.nx σ (upd (upd H2 dx (exd dx [(f, y)])) a (exo a C (some dx)))
theorem ps_put1 (ho : PE X o to) (he : PE X e te) (hs : swapsWith e (some (.Attribute o f p')) pos.line X.env = pure false := by rfl) : PS X (.Assign [.Attribute o f p'] e pos) (tPut1 X.K f to te) := by
  refine ⟨fun pins s σ H D I h => plainObj_wpAny_Assign_Attribute (thn (he.run pins s σ H _ I h) ?_) hs⟩
  rintro v s1 ⟨y, H1, I1, r1, q1⟩
  refine thn (ho.run pins s1 σ H1 _ I1 q1) ?_
  rintro u s2 ⟨z, H2, I2, r2, a, C, rfl, T, hn, ea, q⟩
  cases r2
  exact put1 T I2 ea hn r1 fun dx s' n ne J => ⟨σ, _, J, q dx n ne⟩
/-- X(e, ..), the exception kept as a value -/
def tExv (C : Addr) (sp : Sp) (ta : TA) : TE := fun σ H Q => ta σ H fun vs H1 => vs.length ≤ 1000 ∧ ∀ a, H1 a = none → sp (.ref a :: vs) (upd H1 a (exo a C none)) (fun v H2 => v = .non ∧ Q (.ref a) H2) (fun _ _ _ => False)
/-- X(e, ..), to be raised -/
def tExr (C : Addr) (sp : Sp) (ta : TA) : L2.St → Hp → XK → Prop := fun σ H Q => ta σ H fun vs H1 => vs.length ≤ 1000 ∧ ∀ a, H1 a = none → sp (.ref a :: vs) (upd H1 a (exo a C none))
  (fun v H2 => v = .non ∧ ∃ (d : Addr) (fs : List (Str × V)), H2 a = some (exo a C (some d)) ∧ H2 d = some (exd d fs) ∧ H1 d = none ∧ Q (.ref C) (some d) (upd (del H2 a) d (.xd fs))) (fun _ _ _ => False)
/-- the call, told twice: what is wanted of its end is R -/
theorem exc_run {pins : List (Addr × Obj)} {σ : L2.St} {H1 : Hp} {s1 : Shared} {us : List Value} {vs : List V} {Q2 : VK} {R : Value → Shared → Prop} (T : Cls1 X.K C) (iC : W.findIn X.K (.ref C) "__init__" = some (some (.ref fI)))
    (tI : W.typeIn X.K (.ref fI) = some (.type "function")) (F1 : FnOk X.prog X.w X.K X.mg X.base CX k fI fd ps sp) (hr : Room (k + 1) X.A) (hb : Binds X.K fd ps []) (hx : Passes CX X (fun _ _ _ => False)) (I1 : Inv X pins σ H1 s1) (r1 : Vals vs us) (hz : vs.length ≤ 1000)
    (hq : sp (.ref (s1.heap.objs.size + 1) :: vs) (upd H1 (s1.heap.objs.size + 1) (exo (s1.heap.objs.size + 1) C none)) Q2 (fun _ _ _ => False))
    (fin : ∀ hp u s', Inv X pins σ (upd H1 (s1.heap.objs.size + 1) (exo (s1.heap.objs.size + 1) C none)) { s1 with heap := hp } → (∀ b o, s1.heap.get? b = some o → hp.get? b = some o) →
      CE X.stack X.prog X.w (upd H1 (s1.heap.objs.size + 1) (exo (s1.heap.objs.size + 1) C none)) { s1 with heap := hp } Q2 u s' → u = .none ∧ R (.ref (s1.heap.objs.size + 1)) s') :
    wpAny (model X.prog X.w) X.A (call (.ref C) us) R X.xe s1 := by
  obtain ⟨nm, qn, N, bs, bm, sn, sub, ab, col, dd, k0, k1, k2, k3, k5, B, newId, initId, t0, t, hC, FB, ⟨q1, q2, q3⟩, hbm, hl, hob, hne⟩ := T.cls
  obtain ⟨hp, g, dr, tk, os⟩ := s1
  let h2 : Heap := (hp.push (W.kdv_tup us)).push (HandSPX.excO C hp.objs.size)
  have kk : ∀ b o, hp.get? b = some o → h2.get? b = some o := fun b o z => Heap.get?_push_of_some _ (Heap.get?_push_of_some _ z)
  have hg : h2.get? (hp.objs.size + 1) = some (HandSPX.excO C hp.objs.size) := by
    show ((hp.push (W.kdv_tup us)).push (HandSPX.excO C hp.objs.size)).get? (hp.objs.size + 1) = _
    heap_get
  have I2 : Inv X pins σ (upd H1 (hp.objs.size + 1) (exo (hp.objs.size + 1) C none)) ⟨h2, g, dr, tk, os⟩ :=
    I1.laid (t' := tk) kk (Nat.le_succ _) (exo_ok hg)
  have r2 : Vals (V.ref (hp.objs.size + 1) :: vs) (Value.ref (hp.objs.size + 1) :: us) := .cons rfl r1
  have hlen : (Value.ref (hp.objs.size + 1) :: us ++ []).length = ps.length := by
    rw [List.append_nil, ← r2.length]
    exact F1.len _ _ _ _ hq
  have hus : us.length ≤ sizeLine := by
    rw [← Paired.length r1, sizeLine_eq]
    omega
  have hbt := hb ⟨h2, g, dr, tk, os⟩ (Value.ref (hp.objs.size + 1) :: us) I2.kIn hlen
  rw [List.append_nil] at hbt
  refine wpAny_call (call_run FB q1 q2 q3 (I1.kIn _ _ hC) (W.looks_findIn I1.kIn iC) (fun self => W.bind_fn I1.kIn self tI) hus ?_)
  refine codeAny_mono (F1.run _ X.stack _ _ ⟨Value.ref (hp.objs.size + 1) :: us, []⟩ _ _ _ (fun _ _ _ => False) (hr.make C us []) (I2.env0.make C us []) hbt r2 hq) fun r s' z => ?_
  cases r with
  | error er => exact hx pins σ _ _ er s' I2 z
  | ok fl =>
    cases fl with
    | ret u => exact fin h2 u s' I2 kk z
    | next => exact False.elim z
    | brk => exact False.elim z
    | cont => exact False.elim z
theorem pe_exv (T : Cls1 X.K C) (iC : W.findIn X.K (.ref C) "__init__" = some (some (.ref fI))) (tI : W.typeIn X.K (.ref fI) = some (.type "function")) (F1 : FnOk X.prog X.w X.K X.mg X.base CX k fI fd ps sp) (hr : Room (k + 1) X.A)
    (hb : Binds X.K fd ps []) (hx : Passes CX X (fun _ _ _ => False)) (hg : Gl X x) (hm : X.mg x = some (.ref C)) (ha : PA X (e :: es) ta)
    (hdb : (x == ("__debug__" : Str)) = false := by decide) (he : starEach (e :: es) X.env = (false, eval e X.env) :: starEach es X.env := by rfl) (hpl : (backTo pos (starEach es X.env)).any (·.1) = false := by rfl) :
    PE X (.Call (.Name x p) (e :: es) [] pos) (tExv C sp ta) := by
  refine ⟨fun pins s σ H Q I h => wpAny_Call_Name_kw (ld_glob I hg hm ?_ hdb)⟩
  refine W.callWith_K (h₀ := X.base) I.ok.mod.kin T.kC (thn (ha.run pos pins s σ H _ I h) ?_) he hpl
  rintro us s1 ⟨vs, H1, I1, r1, hz, q1⟩
  refine ⟨I1.kIn, exc_run T iC tI F1 hr hb hx I1 r1 hz (q1 _ (I1.hok.fresh (Nat.le_succ _))) fun hp u s' I2 kk z => ?_⟩
  obtain ⟨v, H2, I3, rv, ev, q2⟩ := I2.after z
  subst ev
  exact ⟨rv, .ref _, H2, I3, rfl, q2⟩
theorem pmk_exr (T : Cls1 X.K C) (iC : W.findIn X.K (.ref C) "__init__" = some (some (.ref fI))) (tI : W.typeIn X.K (.ref fI) = some (.type "function")) (F1 : FnOk X.prog X.w X.K X.mg X.base CX k fI fd ps sp) (hr : Room (k + 1) X.A)
    (hb : Binds X.K fd ps []) (hx : Passes CX X (fun _ _ _ => False)) (hg : Gl X x) (hm : X.mg x = some (.ref C)) (ha : PA X (e :: es) ta)
    (hdb : (x == ("__debug__" : Str)) = false := by decide) (he : starEach (e :: es) X.env = (false, eval e X.env) :: starEach es X.env := by rfl) (hpl : (backTo pos (starEach es X.env)).any (·.1) = false := by rfl) :
    PMk X (.Call (.Name x p) (e :: es) [] pos) (tExr C sp ta) := by
  intro pins s σ H Q I h
  refine wpAny_Call_Name_kw (ld_glob I hg hm ?_ hdb)
  refine W.callWith_K (h₀ := X.base) I.ok.mod.kin T.kC (thn (ha.run pos pins s σ H _ I h) ?_) he hpl
  rintro us s1 ⟨vs, H1, I1, r1, hz, q1⟩
  refine ⟨I1.kIn, exc_run T iC tI F1 hr hb hx I1 r1 hz (q1 _ (I1.hok.fresh (Nat.le_succ _))) fun hp u s' I2 kk z => ?_⟩
  obtain ⟨v, H2, os2, bare2, un2, hok2, rv, ev, d, fs, ea, ed, hd1, q2⟩ := z
  subst ev
  obtain ⟨h0, g0, d0, t0, o0⟩ := s1
  obtain ⟨h2, g2, d2, t2, o2⟩ := s'
  exact ⟨rv, mk_end (raises_own T.exC T.tyC) I1 (Nat.le_succ _) kk un2 hok2 os2 bare2 ea ed hd1 q2⟩
end

section
variable {prog : Program} {w : World} {A : Around} {E : Value → Shared → Prop} {s : Shared} {K : W.Frag} {x D : Addr} {ox : Obj} {od : Option Obj}
theorem data_found {a g : Value} {f : Str} (hc : (W.clsIn K D).isSome = true) (ha : W.findIn K (.ref D) f = some (some a)) (hg : W.specialIn K a "__get__" = some (some g)) (ht : W.takesIn K a = some true) : W.findObj K D od f = some (.bind g a) := by
  obtain ⟨c, e⟩ := Option.isSome_iff_exists.mp hc
  unfold W.findObj
  rw [e, Option.bind_some, ha, Option.bind_some]
  simp [hg, ht]
theorem cls_some (c : ExcC K D) : (W.clsIn K D).isSome = true := by
  obtain ⟨cd, h, _⟩ := W.any_some c.hd
  rw [h]
  rfl
/-- an exception's __class__ -/
theorem ask_class {Q : Option Value → Shared → Prop} (c : ExcC K D) (X : K.In s.heap) (I : W.InstAt s.heap x ox D od) (q : Q (some (.ref D)) { s with toks := s.toks + 1 }) : wpAny (model prog w) A (getAttr? (.ref x) "__class__") Q E s := by
  have hf : W.findObj K D od "__class__" = some (.bind (.builtin "getset_descriptor.__get__") (.builtin "object.__class__")) := data_found (cls_some c) c.ha c.hn c.ht
  obtain ⟨hp, ge, dr, tk, os⟩ := s
  have isB : W.Looks (model prog w) hp (isInstance (.ref x) (.type "BaseException")) true := I.type.andThen (W.looks_subIn X c.hs)
  have g1 := W.looks_findIn (M := model prog w) X c.hg
  have g2 := W.looks_findIn (M := model prog w) X c.hk
  have g3 := W.looks_find (M := model prog w) X I hf
  have n1 : (onTheHeap (Value.ref D) && Value.builtin "BaseException.__getattribute__" == Value.builtin "object.__getattribute__") = false := by
    rw [show (Value.builtin "BaseException.__getattribute__" == Value.builtin "object.__getattribute__") = false by decide +kernel]
    rfl
  unfold getAttr? getAttrBy? getAttrBy
  refine wpAny_bind (wpAny_mkText (wpAny_bind (wpAny_attempt (wpAny_holding (wpAny_bind ?_)))))
  refine I.type.at (wpAny_bind (g1.at ?_))
  show wpAny _ _ (if (onTheHeap (Value.ref D) && Value.builtin "BaseException.__getattribute__" == Value.builtin "object.__getattribute__") = true then _ else _) _ _ _
  rw [n1, if_neg Bool.false_ne_true]
  unfold getAttrByItsOwn hookBefore
  refine wpAny_bind ?_
  rw [if_pos (show onTheHeap (Value.ref D) = true from rfl)]
  refine g2.at (wpAny_bind (wpAny_attempt (wpAny_holding ?_)))
  unfold callGetattribute
  rw [show (false && onTheHeap (Value.builtin "BaseException.__getattribute__")) = false from rfl, if_neg Bool.false_ne_true]
  unfold boundAndCalled
  rw [PySem.F.excAttr_ValueError.ga.bind (.ref x)]
  refine wpAny_bind (wpAny_pure ?_)
  show wpAny _ _ (call (.builtin "BaseException.__getattribute__") [.ref x, .str "__class__" tk]) _ _ _
  refine wpAny_call (codeAny_call_builtin PySem.F.excAttr_ValueError.ga.plain PySem.F.entry_bexc_ga ?_)
  refine @W.check_slot (model prog w) _ _ ⟨hp, ge, dr, tk + 1, os⟩ "BaseException.__getattribute__" "BaseException" "__getattribute__" (.ref x) [.str "__class__" tk] [] _
    (by decide +kernel) (by decide +kernel) isB (PySem.F.args_bexc_ga (.ref x) (.str "__class__" tk)) ?_
  unfold Builtin.«object.__getattribute__»
  refine wpAny_bind (wpAny_of_eq (a := ((Value.ref x : Value), [Value.str "__class__" tk])) (by first | rfl | (simp only [slotArgs]; rfl)) ?_)
  refine wpAny_bind (wpAny_pure (wpAny_bind (I.type.at (wpAny_bind (g3.at ?_)))))
  show wpAny _ _ (holding [Value.builtin "object.__class__"] (call (.builtin "getset_descriptor.__get__") [.builtin "object.__class__", .ref x, .ref D]) >>= ret) _ _ _
  refine wpAny_bind (wpAny_holding (wpAny_call (W.class_get (s := ⟨hp, ge, dr, tk + 1, os⟩) (ox := ox) (od := od) X I c.hm ?_)))
  refine wpAny_pure ?_
  show wpAny _ _ (handedOut (.ref D)) _ _ _
  rw [W.handedOut_of (v := .ref D) rfl]
  first
    | exact wpAny_pure (wpAny_pure q)
    | exact wpAny_pure q
    | exact wpAny_pure (wpAny_bind (wpAny_pure (wpAny_pure q)))
theorem kit_exc (c : ExcC K D) : W.KitX K (.ref x) (.ref D) (fun h => ∃ ox od, W.InstAt h x ox D od) where
  ty := fun _ _ _ ⟨_, _, I⟩ => I.type
  it := fun _ _ X _ => by
    obtain ⟨cd, hcd, _⟩ := W.any_some c.hd
    unfold W.clsIn at hcd
    split at hcd
    · rename_i c' d' cd' sl' ho
      intro A' Q' E' s' k q
      unfold isType loadHead
      exact wpAny_bind (wpAny_loadPart (k _ _ (X _ _ ho)) (wpAny_pure q))
    · cases hcd
  ne := fun h tp dd its n sl X htp => by
    obtain ⟨cd, hcd, _⟩ := W.any_some c.hd
    refine Bool.eq_false_iff.mpr fun z => ?_
    have e : D = tp := Value.ref.inj (beq_iff_eq.mp z)
    unfold W.clsIn at hcd
    split at hcd
    · rename_i c' d' cd' sl' ho
      have z := X _ _ ho
      rw [e, htp] at z
      cases z
    · cases hcd
  ca := fun X ⟨_, _, I⟩ k => ask_class c X I k
end
section
variable {X : Cx} {pins : List (Addr × Obj)} {σ : L2.St} {H : Hp} {s : Shared} {a C d : Addr} {dx : Option Addr}
/-- an exception that stands, with its dict where it has one -/
def ExAt (H : Hp) (a C : Addr) : Option Addr → Prop
  | none => H a = some (exo a C none)
  | some d => H a = some (exo a C (some d)) ∧ ∃ fs, H d = some (exd d fs)
theorem ExAt.inst (I : Inv X pins σ H s) (h : ExAt H a C dx) : ∃ ox od, W.InstAt s.heap a ox C od := by
  cases dx with
  | none =>
    obtain ⟨t, e⟩ := exo_at I.hok h
    exact ⟨_, none, e, rfl, rfl, trivial⟩
  | some d =>
    obtain ⟨h1, fs, h2⟩ := h
    obtain ⟨t, e⟩ := exo_at I.hok h1
    obtain ⟨m, hn, _⟩ := exd_at I.hok h2
    obtain ⟨o, es, ep, ho, _⟩ := hn
    exact ⟨_, some o, e, rfl, rfl, ho⟩
theorem ExAt.same {H1 : Hp} (S : Same H H1) (h : ExAt H a C dx) : ExAt H1 a C dx := by
  cases dx with
  | none => exact S _ _ h
  | some d =>
    obtain ⟨h1, fs, h2⟩ := h
    exact ⟨S _ _ h1, fs, S _ _ h2⟩
/-- isinstance(e, c), e an exception that stands -/
def rIsX (K : W.Frag) : List V → Hp → VK → Prop := fun xs H Q => ∃ (a D : Addr) (dx : Option Addr) (c : V) (cv : Value) (b : Bool), xs = [.ref a, c] ∧ ExAt H a D dx ∧ ExcC K D ∧ ClsV c cv ∧ W.kitOne K (.ref D) cv = some b ∧ Q (.bl b) H
theorem call_isX : CallR X (.builtin "isinstance") (rIsX X.K) := by
  intro pins s σ H xs us Q I r h
  obtain ⟨a, D, dx, c, cv, b, rfl, hE, hC, hv, e, q⟩ := h
  obtain ⟨u1, u2, rfl, r1, r2⟩ := vals2 r
  cases r1
  have ec := hv.eq r2
  subst ec
  exact W.kia_one (kit_exc hC) I.kIn (hE.inst I) e (fun z => nomatch z) fun tk => ⟨.bl b, H, I.kept (t' := tk) fun _ _ z => z, rfl, q⟩
/-- e.f, e an exception that stands with its dict -/
def tGetX (K : W.Frag) (f : Str) (te : TE) : TE := fun σ H Q => te σ H fun x H1 => ∃ (a C d : Addr) (fs : List (Str × V)) (v : V), x = .ref a ∧ H1 a = some (exo a C (some d)) ∧ H1 d = some (exd d fs) ∧ ExcC K C ∧ W.findIn K (.ref C) f = some none ∧ fs.lookup f = some v ∧ Q v H1
theorem pe_getX {e : Expr} {te : TE} {f : Str} {pos : Pos} (he : PE X e te) (hb : attributeBase e f X.env (eval e X.env) = eval e X.env := by rfl) : PE X (.Attribute e f pos) (tGetX X.K f te) := by
  refine ⟨fun pins s σ H Q I h => attr_of hb (thn (he.run pins s σ H _ I h) ?_)⟩
  rintro u s1 ⟨x, H1, I1, rx, a, C, d, fs, v, rfl, ea, ed, hC, hn, hl, q⟩
  cases rx
  obtain ⟨t, ho⟩ := exo_at I1.hok ea
  obtain ⟨mA, hns, hr⟩ := exd_at I1.hok ed
  obtain ⟨od, hod, hlk⟩ := lookIn_ns hns
  obtain ⟨u, hu, ru⟩ := RelO.some_of (v := v) (o := mA f) (by rw [← hl]; exact hr f)
  have J : W.InstAt s1.heap a { cls := .ref C, dict := some d, data := .fields #[.ref t, .none, .none, .none, .bool false, .none] } C (some od) := ⟨ho, rfl, rfl, hod⟩
  exact HandSPX.exc_get I1.kIn J hC.hg hC.hk hC.hs (W.findObj_own hC.hd hn rfl (by rw [hlk, hu])) (handed_of ru) ⟨v, H1, I1.tok _, ru, q⟩
/-- X(e), X without an __init__ of its own, kept as a value -/
theorem pe_exn {bmB : List Value} {B newId initId : String} {x : Str} {e : Expr} {te : TE} {p pos : Pos} (F : ExcBaseFacts B newId initId bmB) (q : W.excIn X.K C bmB newId = true) (gC : X.mg x = some (.ref C)) (kC : W.keepIn X.K (.ref C) = true) (hg : Gl X x)
    (he : PE X e te) (hs : starEach [e] X.env = (false, eval e X.env) :: starEach [] X.env := by rfl) (hdb : (x == ("__debug__" : Str)) = false := by decide) :
    PE X (.Call (.Name x p) [e] [] pos) (fun σ H Q => te σ H fun _ H1 => ∀ a, H1 a = none → Q (.ref a) (upd H1 a (exo a C none))) := by
  refine ⟨fun pins s σ H Q I h => wpAny_Call_Name_kw (ld_glob I hg gC ?_ hdb)⟩
  refine W.callWith_K (h₀ := X.base) I.ok.mod.kin kC ?_ hs (by rfl)
  rw [hs]
  show wpAny _ _ (spliced ((false, eval e X.env) :: backTo pos (starEach [] X.env))) _ _ s
  refine Calls.spliced_cons (thn (he.run pins s σ H _ I h) ?_)
  rintro u s1 ⟨v, H1, I1, r1, q1⟩
  refine Calls.spliced_nil ⟨I1.kIn, ?_⟩
  show wpAny _ _ (call (.ref C) [u]) _ _ _
  obtain ⟨bm, N, nm, qn, bs, hdct, sn, sub, ab, col, dd, k0, k1, k2, k3, k5, mN, hC, hN, hni, T⟩ := exc_obj I1.kIn q
  refine wpAny_call_exc_subT F T hC hN hni (fun h' a hm => ?_) (by show 1 ≤ sizeLine; rw [sizeLine_eq]; omega)
  have hn : H1 a = none := I1.hok.gone hm.new
  obtain ⟨t, ht, _, _⟩ := hm.there
  exact ⟨.ref a, _, I1.laidN hm.keeps hm.new hn (exo_ok ht), rfl, q1 a hn⟩
end

/-! ### try .. except with several clauses, each with one class or with three -/
theorem flying_kept {B : Heap} {l : List Env} {e : Addr} {Z : Obj → Prop} {h h' : Heap} (F : HandSPX.FlyingZ B l e Z h) (k : ∀ b o, h.get? b = some o → h'.get? b = some o) : HandSPX.FlyingZ B l e Z h' := by
  obtain ⟨f1, f2, f3, oe, vs, T, oT, ts, he, hz, hd, h1, hn, hT, hg, hdT, h3⟩ := F
  exact ⟨fun b o q => k b o (f1 b o q), f2, f3.of_keeps fun b o q _ => ⟨o, k b o q, rfl⟩, oe, vs, T, oT, ts, k _ _ he, hz, hd, h1, hn, hT, k _ _ hg, hdT, h3⟩
/-- a clause's test: what is asked of the exception's class -/
def Asks (X : Cx) (e : Expr) (g : Value → Option Bool) : Prop :=
  ∀ (a : Addr) (oe : Obj) (pn : List (Addr × Obj)) (σ : L2.St) (H : Hp) (s : Shared) (b : Bool), Inv (X.suite a ((a, oe) :: pn)) [] σ H s → s.heap.get? a = some oe → g oe.cls = some b →
    ∀ (Q : Bool → Shared → Prop) (E : Value → Shared → Prop), (∀ h' t', (∀ c u, s.heap.get? c = some u → h'.get? c = some u) → Q b { s with heap := h', toks := t' }) →
      wpAny (model X.prog X.w) (X.A.mark (some (.ref a))) (eval e X.env) (fun c s1 => wpAny (model X.prog X.w) (X.A.mark (some (.ref a))) (excMatches (.ref a) c) Q E s1) E s
section
variable {X : Cx}
theorem looks_cls {M : Model} {h : Heap} {a : Addr} {oe : Obj} (e : h.get? a = some oe) : W.Looks M h (typeOf (.ref a)) oe.cls := fun A Q E s k q => wpAny_typeOf_ref (k _ _ e) q
theorem ld_named {a : Addr} {oe : Obj} {pn : List (Addr × Obj)} {σ : L2.St} {H : Hp} {s : Shared} {x : Str} {c : Value} {np : Pos} {Q : Value → Shared → Prop} {E : Value → Shared → Prop} (hc : Names X x c) (I : Inv (X.suite a ((a, oe) :: pn)) [] σ H s) (q : Q c s) :
    wpAny (model X.prog X.w) (X.A.mark (some (.ref a))) (eval (.Name x np) X.env) Q E s := by
  obtain ⟨hg, hdb, hm | ⟨hm, hv, hnn⟩⟩ := hc
  · exact ld_glob (X := X.suite a ((a, oe) :: pn)) I hg hm q hdb
  · exact ld_blt (X := X.suite a ((a, oe) :: pn)) I hg hm hv q hnn hdb
theorem asks_one {x : Str} {c : Value} {np : Pos} (hc : Names X x c) : Asks X (.Name x np) (fun cls => W.exmOne X.K cls c) := by
  intro a oe pn σ H s b I ha hb Q E q
  refine ld_named hc I ?_
  exact (W.exm_one (M := model X.prog X.w) I.kIn (looks_cls ha) hb).here (q s.heap s.toks fun _ _ z => z)
theorem asks_three {x1 x2 x3 : Str} {c1 c2 c3 : Value} {n1 n2 n3 tpos : Pos} {kt : Nat} (h1 : Names X x1 c1) (h2 : Names X x2 c2) (h3 : Names X x3 c3) :
    Asks X (.Tuple [.Name x1 n1, .Name x2 n2, .Name x3 n3] kt tpos) (fun cls => W.exmAny X.K cls [c1, c2, c3]) := by
  intro a oe pn σ H s b I ha hb Q E q
  refine Tuple_ ?_
  show wpAny _ _ (spliced ((false, eval (.Name x1 n1) X.env) :: (false, eval (.Name x2 n2) X.env) :: (false, eval (.Name x3 n3) X.env) :: [])) _ _ s
  refine Calls.spliced_cons (ld_named h1 I (Calls.spliced_cons (ld_named h2 I (Calls.spliced_cons (ld_named h3 I (Calls.spliced_nil ?_))))))
  refine wpAny_newObj_type ?_ (by show 3 ≤ sizeLine; decide)
  have hp := Heap.get?_push_size s.heap (o := { cls := .type "tuple", data := .seq [c1, c2, c3].toArray }) rfl
  have kp : ∀ c u, s.heap.get? c = some u → (s.heap.push { cls := .type "tuple", data := .seq [c1, c2, c3].toArray }).get? c = some u := fun c u z => Heap.get?_push_of_some _ z
  exact (W.exm_tup3 (M := model X.prog X.w) (h := s.heap.push { cls := .type "tuple", data := .seq [c1, c2, c3].toArray }) (I.kIn.keeps kp) (looks_cls (kp _ _ ha)) hp hb).here (q _ s.toks kp)
/-- what the clauses wish of an exception of the body -/
def wCl (Wout : WX) (D : Ends) : List ((Value → Option Bool) × (Addr → Value → Option Addr → TS)) → WX
  | [] => Wout
  | (g, ts) :: r => fun cls d σ H => ∃ b, g cls = some b ∧ (b = true → ∀ a, H a = none → ts a cls d D σ H) ∧ (b = false → wCl Wout D r cls d σ H)
inductive Clauses (X : Cx) : List ExceptHandler → List ((Value → Option Bool) × (Addr → Value → Option Addr → TS)) → Prop
  | nil : Clauses X [] []
  | cons {e : Expr} {g : Value → Option Bool} {ts : Addr → Value → Option Addr → TS} {b₀ : Stmt} {suite : List Stmt} {p : Pos} {hds : List ExceptHandler} {l : List ((Value → Option Bool) × (Addr → Value → Option Addr → TS))} (hc : Asks X e g)
      (hs : ∀ (a : Addr) (oe : Obj) (cls : Value) (d : Option Addr) (pn : List (Addr × Obj)), Zc cls d oe → (∃ vs, oe.data = .fields vs) → PSs (X.suite a ((a, oe) :: pn)) (b₀ :: suite) (ts a cls d)) (r : Clauses X hds l) :
      Clauses X (.ExceptHandler (some e) none (b₀ :: suite) p :: hds) ((g, ts) :: l)
theorem ps_try_cl {body : List Stmt} {h₀ : ExceptHandler} {hds : List ExceptHandler} {l : List ((Value → Option Bool) × (Addr → Value → Option Addr → TS))} {pos : Pos} {tb : WX → TS} {Wout : WX} (hs : X.stack = X.env :: X.outer) (hf : X.env.frame = some X.env.locals) (tk : Takes X Wout)
    (hb : ∀ (W : WX) (pn : List (Addr × Obj)) (xe : Value → Shared → Prop), Takes (X.tr pn xe) W → PassesOwn (model X.prog X.w) X.A X.env xe → PSs (X.tr pn xe) body (tb W))
    (hh : Clauses X (h₀ :: hds) l) : PS X (.Try body (h₀ :: hds) [] [] pos) (fun D σ H => tb (wCl Wout D l) D σ H) := by
  refine ⟨fun pins s σ H D I h => ?_⟩
  have ok := I.ok
  have hfr : X.A.frames = some (X.env :: X.outer) := by rw [ok.frames, hs]
  refine wpAny_Try_except (wpAny_mono ((hb (wCl Wout D l) (X.pn ++ pins) (fun e s1 => wpAny (model X.prog X.w) X.A (noteFrame e X.env) (fun _ s2 => wpAny (model X.prog X.w) X.A (setFlight e none) (fun _ s3 =>
    wpAny (model X.prog X.w) X.A (handleBy e X.env (h₀ :: hds)) (SP X pins D) X.xe s3) X.xe s2) X.xe s1) (fun u s' xx => ?_) PassesOwn.looking).run [] s σ H D (I.toTry _) h) (fun f s1 hsp => ?_) (fun e s1 he => he))
  · obtain ⟨a, B, sI, pins', σ', H', cls, d, rfl, J', nb, up, sky, na, os, ag, w0⟩ := xx
    have J : Inv X pins σ' H' sI := J'.ofTry ok
    have sky' : Sky B (X.env :: X.outer) a (Zc cls d) X.env.locals s'.heap := by rw [← hs]; exact sky
    show wpAny (model X.prog X.w) X.A (noteFrame (.ref a) X.env) _ _ _
    refine Sky.land Zc.steady hfr hf sky' fun h3 fl3 up3 => ?_
    -- where the flight stands at a heap h4: the suite's invariant there
    have at4 : ∀ {h4 : Heap} {t4 : Nat}, HandSPX.FlyingZ B (X.env :: X.outer) a (Zc cls d) h4 → s'.heap.UpToSlots h4 →
        Inv X pins σ' H' { s' with heap := h4, toks := t4 } ∧ ∃ oe, h4.get? a = some oe ∧ Zc cls d oe ∧ (∃ vs, oe.data = .fields vs) ∧ Inv (X.suite a ((a, oe) :: (X.pn ++ pins))) [] σ' H' { s' with heap := h4, toks := t4 } := by
      intro h4 t4 fl u4
      have J4 : Inv X pins σ' H' { s' with heap := h4 } := J.landed nb fl.1 (up.trans u4) os ag
      have J5 := J4.tok t4
      obtain ⟨oe, vs, he, hz, hd⟩ := fl.there
      have nfr : a ∉ frs (X.env :: X.outer) := fun hm => by
        obtain ⟨_, o', e', hnf⟩ := fl.2.2.1.mem hm
        rw [he] at e'
        cases e'
        exact hnf _ hd
      have nL : a ≠ X.env.locals := fun z => nfr (List.mem_filterMap.mpr ⟨X.env, List.mem_cons_self, by rw [hf, z]⟩)
      have nF : a ∉ X.fs := fun hm => by
        obtain ⟨e, he, q⟩ := List.mem_filterMap.mp hm
        exact nfr (List.mem_filterMap.mpr ⟨e, List.mem_cons_of_mem _ he, q⟩)
      exact ⟨J5, oe, he, hz, ⟨vs, hd⟩, J5.suite he hd na nL nF⟩
    have go : ∀ {hs' : List ExceptHandler} {l' : List ((Value → Option Bool) × (Addr → Value → Option Addr → TS))}, Clauses X hs' l' → wCl Wout D l' cls d σ' H' → ∀ (h4 : Heap) (t4 : Nat), HandSPX.FlyingZ B (X.env :: X.outer) a (Zc cls d) h4 → s'.heap.UpToSlots h4 →
        wpAny (model X.prog X.w) X.A (handleBy (.ref a) X.env hs') (SP X pins D) X.xe { s' with heap := h4, toks := t4 } := by
      intro hs' l' hk
      induction hk with
      | nil =>
        intro w1 h4 t4 fl u4
        refine wpAny_handleBy_nil ?_
        obtain ⟨k1, k2, k3, oe, vs, T, oT, ts', he, hz, hd, h1, hr⟩ := id fl
        unfold PySem.passOn
        refine wpAny_bind (wpAny_field he hd h1 ?_)
        rw [if_neg (show ¬ ((Value.ref T == Value.none) = true) from by simp)]
        have fin : wpAny (model X.prog X.w) X.A (setFlight (.ref a) X.env.frame) (fun _ s4 => wpAny (model X.prog X.w) X.A (throw (.ref a) : Sem Flow) (SP X pins D) X.xe s4) X.xe { s' with heap := h4, toks := t4 } := by
          rw [hf]
          refine HandSPX.setFlight_upZ fl fun h5 hh5 up5 => wpAny_throw (tk _ _ ?_)
          exact ⟨a, B, sI, pins, σ', H', cls, d, rfl, J, nb, (up.trans u4).trans up5, .inr (.inr (by rw [hs]; exact hh5)), na, os, ag, w1⟩
        first
          | exact wpAny_bind (wpAny_pure (wpAny_bind fin))
          | exact wpAny_bind fin
      | @cons e g ts b₀ suite p hds2 l2 hc hsu r ih =>
        intro w1 h4 t4 fl u4
        obtain ⟨b, hb1, hyes, hno⟩ := w1
        obtain ⟨J4, oe, he, hz, hd, S4⟩ := at4 (t4 := t4) fl u4
        refine wpAny_handleBy_cons (codeAny_handlers_test ?_) (by intro q; cases q)
        refine hc a oe (X.pn ++ pins) σ' H' _ b S4 he (by rw [hz.1]; exact hb1) _ _ fun h5 t5 k5 => ?_
        have fl5 := flying_kept fl k5
        have u5 : s'.heap.UpToSlots h5 := u4.trans (.of_keeps k5)
        cases b with
        | true =>
          refine codeAny_handlers_suite ?_
          refine HandSPX.lands_againZ fl5 fun h6 fl6 up6 => ?_
          obtain ⟨J6, oe6, he6, hz6, hd6, S6⟩ := at4 (t4 := t5) fl6 (u5.trans up6)
          refine wpAny_mono ((hsu a oe6 cls d (X.pn ++ pins) hz6 hd6).run [] _ _ H' _ S6 (hyes rfl a na)) (fun f s7 hsp => ?_) (fun _ _ z => False.elim z)
          cases f with
          | ret u =>
            obtain ⟨v7, σ7, H7, S7, r7, q7⟩ := hsp
            exact ⟨_, _, _, S7.unsuite ok, r7, q7⟩
          | next =>
            obtain ⟨σ7, H7, S7, q7⟩ := hsp
            exact ⟨_, _, S7.unsuite ok, q7⟩
          | brk =>
            obtain ⟨σ7, H7, S7, q7⟩ := hsp
            exact ⟨_, _, S7.unsuite ok, q7⟩
          | cont =>
            obtain ⟨σ7, H7, S7, q7⟩ := hsp
            exact ⟨_, _, S7.unsuite ok, q7⟩
        | false =>
          show wpAny _ X.A (handleBy (.ref a) X.env hds2) _ _ _
          exact ih (hno rfl) h5 t5 fl5 u5
    exact go hh w0 h3 s'.toks fl3 up3
  · cases f with
    | ret u =>
      obtain ⟨v, σ', H', J', r, q⟩ := hsp
      exact ⟨v, σ', H', J'.ofTry ok, r, q⟩
    | next =>
      obtain ⟨σ', H', J', q⟩ := hsp
      exact wpAny_execs_nil ⟨σ', H', J'.ofTry ok, q⟩
    | brk =>
      obtain ⟨σ', H', J', q⟩ := hsp
      exact ⟨σ', H', J'.ofTry ok, q⟩
    | cont =>
      obtain ⟨σ', H', J', q⟩ := hsp
      exact ⟨σ', H', J'.ofTry ok, q⟩
end

/-! ### facts of a class from its object -/
section
variable {K : W.Frag} {C D : Addr} {nm q : Str} {N : Addr} {bs bm : List Value} {sn : List Str} {sub : List Value} {ab : Bool} {col : Option Bool} {dd : Option Addr} {k0 k1 k2 k3 k5 : Option Value} {newId B initId : String} {t : List Value}
/-- the class object of an exception class: its chain and its maker -/
def XObj (K : W.Frag) (C : Addr) (bm : List Value) (newId : String) : Prop := ∃ nm q N bs sn sub ab col dd k0 k1 k2 k3 k5, K.lookup C = some (excClassObj nm q C N bs bm true sn sub ab col dd k0 k1 k2 k3 k5 newId)
theorem XObj.mk (x : K.lookup C = some (excClassObj nm q C N bs bm true sn sub ab col dd k0 k1 k2 k3 k5 newId)) : XObj K C bm newId := ⟨_, _, _, _, _, _, _, _, _, _, _, _, _, _, x⟩
theorem XObj.cls (x : XObj K C bm newId) : ∃ cd, W.clsIn K C = some cd ∧ cd.mro = .ref C :: bm ∧ cd.hasDict = true := by
  obtain ⟨_, _, _, _, _, _, _, _, _, _, _, _, _, _, e⟩ := x
  unfold W.clsIn
  rw [e]
  exact ⟨_, rfl, rfl, rfl⟩
theorem XObj.ty (x : XObj K C bm newId) : W.typeIn K (.ref C) = some (.type "type") := by
  obtain ⟨_, _, _, _, _, _, _, _, _, _, _, _, _, _, e⟩ := x
  show (K.lookup C).map (·.cls) = _
  rw [e]
  rfl
theorem XObj.mroIn (x : XObj K C bm newId) (b : Value) : W.mroIn K C b = some ((Value.ref C :: bm).contains b) := by
  obtain ⟨cd, e, m, _⟩ := x.cls
  unfold W.mroIn
  rw [e, Option.bind_some, m]
  rfl
theorem XObj.dict (x : XObj K C bm newId) : W.hasDictIn K C = true := by
  obtain ⟨cd, e, _, d⟩ := x.cls
  unfold W.hasDictIn
  rw [e]
  exact d
theorem has_cons {b : String} (h : bm.contains (.type b) = true) : (Value.ref C :: bm).contains (.type b) = true := by
  rw [List.contains_cons, h, Bool.or_true]
theorem XObj.excC (x : XObj K C bm newId) (hb : bm.contains (.type "BaseException") = true) (ho : bm.contains (.type "object") = true)
    (hg : W.findIn K (.ref C) "__getattribute__" = some (some (.builtin "BaseException.__getattribute__"))) (hk : W.findIn K (.ref C) "__getattr__" = some none) (ha : W.findIn K (.ref C) "__class__" = some (some (.builtin "object.__class__")))
    (hn : W.specialIn K (.builtin "object.__class__") "__get__" = some (some (.builtin "getset_descriptor.__get__"))) (ht : W.takesIn K (.builtin "object.__class__") = some true) : ExcC K C :=
  ⟨hg, hk, (x.mroIn _).trans (congrArg some (has_cons hb)), x.dict, ha, hn, ht, (x.mroIn _).trans (congrArg some (has_cons ho))⟩
theorem XObj.cls1 {t0 : List Value} (x : XObj K C bm newId) (F : ExcBaseFacts B newId initId t0) (h3 : bm.contains (.type B) = true ∧ bm.contains (.type "AttributeError") = false ∧ bm.contains (.type "NameError") = false) (hm : endsIn t bm = true) (hl : Lets t) (ho : t.contains (.type "object") = true) (hne : t ≠ []) (hb : bm.contains (.type "BaseException") = true)
    (sa : W.findIn K (.ref C) "__setattr__" = some (some (.builtin "object.__setattr__"))) (kC : W.keepIn K (.ref C) = true) : Cls1 K C := by
  have ty := x.ty
  have ex : W.subIn K (.ref C) (.type "BaseException") = some true := (x.mroIn _).trans (congrArg some (has_cons hb))
  obtain ⟨a1, a2, a3, a4, a5, a6, a7, a8, a9, b0, b1, b2, b3, b5, e⟩ := x
  exact ⟨⟨_, _, _, _, _, _, _, _, _, _, _, _, _, _, _, B, newId, initId, t0, t, e, F, h3, hm, hl, ho, hne⟩, sa, ex, ty, kC⟩
theorem XObj.kit {bm' : List Value} {n' : String} (x : XObj K D bm newId) (y : XObj K C bm' n') : W.kitOne K (.ref D) (.ref C) = some ((Value.ref D :: bm).contains (.ref C)) := by
  obtain ⟨cd, e, _⟩ := y.cls
  unfold W.kitOne W.kitCls
  by_cases h : D = C
  · subst h
    simp
  · have h1 : (Value.ref D == Value.ref C) = false := by simpa using h
    have h2 : ((W.clsIn K C).isSome && W.typeIn K (.ref C) == some (.type "type")) = true := by
      rw [e, y.ty]
      rfl
    rw [if_neg (by rw [h1]; decide)]
    dsimp only
    rw [if_pos h2]
    exact x.mroIn _
theorem XObj.kitT {T : String} (x : XObj K D bm newId) (h : W.kitMeta T = true) : W.kitOne K (.ref D) (.type T) = some (bm.contains (.type T)) := by
  unfold W.kitOne W.kitCls
  rw [if_neg (by simp)]
  dsimp only
  rw [if_pos h]
  refine (x.mroIn _).trans (congrArg some ?_)
  rw [List.contains_cons]
  rfl
theorem XObj.exm {bm' : List Value} {n' : String} (x : XObj K D bm newId) (y : XObj K C bm' n') (hb : bm'.contains (.type "BaseException") = true) : W.exmOne K (.ref D) (.ref C) = some ((Value.ref D :: bm).contains (.ref C)) := by
  have h1 : (W.subIn K (.ref C) (.type "BaseException") == some true) = true := by
    rw [show W.subIn K (.ref C) (.type "BaseException") = some true from (y.mroIn _).trans (congrArg some (has_cons hb))]
    rfl
  obtain ⟨cd, e, _⟩ := y.cls
  have h2 : ((W.clsIn K C).isSome && W.typeIn K (.ref C) == some (.type "type")) = true := by
    rw [e, y.ty]
    rfl
  unfold W.exmOne W.kitCls
  rw [if_pos h1]
  dsimp only
  rw [if_pos h2]
  exact x.mroIn _
theorem XObj.exmT {T : String} (x : XObj K D bm newId) (h : W.kitMeta T = true) (hb : (fastBuiltinMro T).map (·.contains (.type "BaseException")) = some true) : W.exmOne K (.ref D) (.type T) = some (bm.contains (.type T)) := by
  unfold W.exmOne W.kitCls
  rw [if_pos (by show ((fastBuiltinMro T).map (·.contains (.type "BaseException")) == some true) = true; rw [hb]; rfl)]
  dsimp only
  rw [if_pos h]
  refine (x.mroIn _).trans (congrArg some ?_)
  rw [List.contains_cons]
  rfl
end
end Exs

set_option Elab.async false
set_option linter.all false
set_option maxRecDepth 100000
set_option maxHeartbeats 4000000
/-! repr of data; calls where it is known that no repr is under way. -/
namespace Rp
open PySem PySem.Spec PyProof.Rows L2
/-- a key of a dict as data -/
def kD : Key → PyData
  | .inl i => .int i
  | .inr x => .str x
mutual
/-- no list, no dict -/
def flatT : PyData → Bool
  | .none | .bool _ | .int _ | .str _ => true
  | .tuple xs => flatsT xs
  | .list _ | .dict _ => false
def flatsT : List PyData → Bool
  | [] => true
  | x :: xs => flatT x && flatsT xs
end
mutual
/-- what is read as data; a dict stands alone, its values flat or tuples -/
inductive Dat (K : W.Frag) (H : Hp) : V → PyData → Prop
  | non : Dat K H .non .none
  | bl (b : Bool) : Dat K H (.bl b) (.bool b)
  | int (i : Int) : Dat K H (.int i) (.int i)
  | str (x : Str) : Dat K H (.str x) (.str x)
  | lst {a : Addr} {xs : List V} {ds : List PyData} : SqL K H a xs → DatAll K H xs ds → PyData.hasDictAll ds = false → Dat K H (.ref a) (.list ds)
  | tup {a : Addr} {xs : List V} {ds : List PyData} : SqT K H a xs → DatAll K H xs ds → PyData.hasDictAll ds = false → Dat K H (.ref a) (.tuple ds)
  | dic {a : Addr} {ks : List (Key × V)} {ds : List PyData} : Rd H a (.dK ks) → DatAll K H (ks.map (·.2)) ds → flatsT ds = true → Dat K H (.ref a) (.dict ((ks.map fun p => kD p.1).zip ds))
inductive DatAll (K : W.Frag) (H : Hp) : List V → List PyData → Prop
  | nil : DatAll K H [] []
  | cons {v : V} {vs : List V} {d : PyData} {ds : List PyData} : Dat K H v d → DatAll K H vs ds → DatAll K H (v :: vs) (d :: ds)
end
theorem DatAll.len {K : W.Frag} {H : Hp} : ∀ {vs : List V} {ds : List PyData}, DatAll K H vs ds → vs.length = ds.length
  | _, _, .nil => rfl
  | _, _, .cons _ t => congrArg (· + 1) (DatAll.len t)
theorem pairs_vals {P : Program} {w : World} : ∀ {es : List DictEntry} {kvs : List (Key × Value)}, Pairs (mixKind P w) es kvs → es.map (·.val) = kvs.map (·.2)
  | _, _, .nil => rfl
  | _, _, .cons _ h t => by rw [List.map_cons, List.map_cons, pairs_vals t, h]
theorem kvs_vals : ∀ {ks : List (Key × V)} {vs : List (Key × Value)}, KV ks vs → Vals (ks.map (·.2)) (vs.map (·.2))
  | _, _, .nil => .nil
  | _, _, .cons r t => .cons r.2 (kvs_vals t)
theorem key_reads {h : Heap} {k : Key} {v : Value} (e : keyIs k v = true) : Reads h v (kD k) [] := by
  rcases keyIs_shape e with ⟨i, t, rfl, rfl⟩ | ⟨x, t, rfl, rfl⟩
  · exact .int i t
  · exact .str x t
theorem keys_reads {P : Program} {w : World} {h : Heap} : ∀ {es : List DictEntry} {vs : List (Key × Value)} {ks : List (Key × V)}, Pairs (mixKind P w) es vs → KV ks vs → ReadsAll h (es.map (·.key)) (ks.map fun p => kD p.1) []
  | _, _, _, .nil, .nil => .nil
  | _, _, _, .cons hk _ t, .cons r t' => by
    have e := r.1
    have q := keys_reads (h := h) t t'
    exact ReadsAll.cons (as := []) (bs := []) (key_reads (by rw [e]; exact hk)) q
theorem zip_fst {α β : Type} : ∀ {l : List α} {m : List β}, l.length = m.length → (l.zip m).map (·.1) = l
  | [], [], _ => rfl
  | a :: l, b :: m, h => by rw [List.zip_cons_cons, List.map_cons, zip_fst (Nat.succ.inj h)]
theorem zip_snd {α β : Type} : ∀ {l : List α} {m : List β}, l.length = m.length → (l.zip m).map (·.2) = m
  | [], [], _ => rfl
  | a :: l, b :: m, h => by rw [List.zip_cons_cons, List.map_cons, zip_snd (Nat.succ.inj h)]
mutual
theorem flat_none {h : Heap} : ∀ {d : PyData} {u : Value} {as : List Addr}, Reads h u d as → flatT d = true → as = []
  | _, _, _, .none, _ => rfl
  | _, _, _, .bool _, _ => rfl
  | _, _, _, .int _ _, _ => rfl
  | _, _, _, .str _ _, _ => rfl
  | _, _, _, .tuple _ _ _ t, f => flats_none t (by rw [flatT] at f; exact f)
  | _, _, _, .list _ _ _ _, f => by rw [flatT] at f; cases f
  | _, _, _, .dict _ _ _ _ _, f => by rw [flatT] at f; cases f
theorem flats_none {h : Heap} : ∀ {ds : List PyData} {us : List Value} {as : List Addr}, ReadsAll h us ds as → flatsT ds = true → as = []
  | _, _, _, .nil, _ => rfl
  | _, _, _, .cons r t, f => by
    rw [flatsT, Bool.and_eq_true] at f
    rw [flat_none r f.1, flats_none t f.2]
    rfl
end
section
variable {X : Cx} {pins : List (Addr × Obj)} {σ : L2.St} {H : Hp} {s : Shared}
mutual
theorem Dat.reads (I : Inv X pins σ H s) : ∀ (d : PyData) (v : V) (u : Value), Dat X.K H v d → RelV v u → ∃ as, Reads s.heap u d as ∧ (d.hasDict = true → sysModules ∉ as)
  | _, _, _, .non, r => by cases r; exact ⟨_, .none, fun z => by cases z⟩
  | _, _, _, .bl b, r => by cases r; exact ⟨_, .bool b, fun z => by cases z⟩
  | _, _, _, .int i, r => by obtain ⟨t, rfl⟩ := r; exact ⟨_, .int i t, fun z => by cases z⟩
  | _, _, _, .str x, r => by obtain ⟨t, rfl⟩ := r; exact ⟨_, .str x t, fun z => by cases z⟩
  | _, _, _, .lst (ds := ds) hs ha hn, r => by
    cases r
    obtain ⟨its, rv, ⟨o, n, ho, hc, _, hd⟩, _⟩ := I.list hs
    obtain ⟨as, hr⟩ := DatAll.reads I ds _ its ha rv
    exact ⟨_, .list ho hc hd hr, fun z => by rw [PyData.hasDict, hn] at z; cases z⟩
  | _, _, _, .tup (ds := ds) hs ha hn, r => by
    cases r
    obtain ⟨its, rv, ⟨o, ho, hc, n, hd⟩, _⟩ := I.tuple hs
    obtain ⟨as, hr⟩ := DatAll.reads I ds _ its ha rv
    exact ⟨_, .tuple ho hc hd hr, fun z => by rw [PyData.hasDict, hn] at z; cases z⟩
  | _, _, _, .dic (ks := ks) (ds := ds) hs ha hn, r => by
    cases r
    obtain ⟨_, hm, vs, rv, o, es, ep, ho, hx, hd, _, hp, _⟩ := hs.ok I.hok
    have hl : (ks.map fun p => kD p.1).length = ds.length := by
      rw [List.length_map, ← ha.len, List.length_map]
    obtain ⟨bs, hr⟩ := DatAll.reads I ds _ _ ha (kvs_vals rv)
    have h1 : ReadsAll s.heap (es.toList.map (·.key)) (((ks.map fun p => kD p.1).zip ds).map (·.1)) [] := by
      rw [zip_fst hl]
      exact keys_reads hp rv
    have h2 : ReadsAll s.heap (es.toList.map (·.val)) (((ks.map fun p => kD p.1).zip ds).map (·.2)) bs := by
      rw [zip_snd hl, pairs_vals hp]
      exact hr
    have hb : bs = [] := flats_none hr hn
    subst hb
    refine ⟨_, .dict ho hx.1 hd h1 h2, fun _ z => ?_⟩
    rcases List.mem_append.mp z with z | z
    · rw [← List.mem_singleton.mp z] at hm
      exact absurd hm (by decide)
    · cases z
theorem DatAll.reads (I : Inv X pins σ H s) : ∀ (ds : List PyData) (vs : List V) (us : List Value), DatAll X.K H vs ds → Vals vs us → ∃ as, ReadsAll s.heap us ds as
  | _, _, _, .nil, r => by cases r; exact ⟨_, .nil⟩
  | _, _, _, .cons h t, r => by
    cases r with
    | cons r1 r2 =>
      obtain ⟨as, q1, _⟩ := Dat.reads I _ _ _ h r1
      obtain ⟨bs, q2⟩ := DatAll.reads I _ _ _ t r2
      exact ⟨_, .cons q1 q2⟩
end
end
/-- what can be shown, and is not too long -/
def Fits (d : PyData) : Prop := d.showable = true ∧ d.depth ≤ 60 ∧ ∃ B, 8 ≤ B ∧ d.leavesShort B = true ∧ (B + 2) * d.weight + B ≤ sizeLine
theorem Fits.len {d : PyData} (h : Fits d) : d.shown.length ≤ sizeLine := by
  obtain ⟨_, _, B, hB, hl, hw⟩ := h
  exact Nat.le_trans (PyData.shown_le B hB d hl) hw
/-- repr(x) -/
def rRepr (K : W.Frag) : List V → Hp → VK → Prop := fun xs H Q => ∃ x d, xs = [x] ∧ Dat K H x d ∧ Fits d ∧ Q (.str d.shown) H
theorem call_repr {X : Cx} (hg : X.A.guards = some []) (hu : X.A.units + 64 < cLine) : CallR X (.builtin "repr") (rRepr X.K) := by
  intro pins s σ H xs us Q I r h
  obtain ⟨x, d, rfl, hd, hf, q⟩ := h
  obtain ⟨u, rfl, r1⟩ := vals1 r
  obtain ⟨as, hr, hm⟩ := Dat.reads I d x u hd r1
  have hz := hf.len
  have fin : ∀ h' t tk, (∀ b o, s.heap.get? b = some o → h'.get? b = some o) → EP X pins σ Q (.str d.shown t) { s with heap := h', toks := tk } := fun h' t tk k => ⟨.str d.shown, H, I.kept k, ⟨t, rfl⟩, q⟩
  have keep : ∀ b o, s.heap.get? b = some o → s.heap.get? b = some o := fun _ _ z => z
  obtain ⟨hs, hdp, _⟩ := hf
  have ref : ∀ {a : Addr}, u = .ref a → wpAny (model X.prog X.w) X.A (call (.builtin "repr") [u]) (EP X pins σ Q) X.xe s := by
    rintro a rfl
    exact repr_of_reads' hr hs hm hg (by omega) keep (fun h' t tk k => fin h' t tk k) hz
  cases hd with
  | non => cases r1; exact PySem.P.repr_of_none (fin s.heap _ _ keep)
  | bl b => cases r1; exact PySem.P.repr_of_bool (fin s.heap _ _ keep)
  | int i =>
    obtain ⟨t, rfl⟩ := r1
    exact PySem.P.repr_of_int (by simpa [PyData.showable] using hs) (fin s.heap _ _ keep)
  | str y =>
    obtain ⟨t, rfl⟩ := r1
    exact PySem.P.repr_of_str (fin s.heap _ _ keep) hz
  | lst _ _ _ => cases r1; exact ref rfl
  | tup _ _ _ => cases r1; exact ref rfl
  | dic _ _ _ => cases r1; exact ref rfl
end Rp

/-! ### calls where no repr is under way -/
namespace Rp
open PySem PySem.Spec PyProof.Rows L2
/-- a def's promise, wherever no repr is under way -/
structure FnG (P : Program) (w : World) (K : W.Frag) (mg : Str → Option Value) (base : Heap) (CX : CXT) (k : Nat) (f : Addr) (fd : FuncData) (ps : List Str) (sp : Sp) : Prop where
  len : ∀ vs H Q E, sp vs H Q E → vs.length = ps.length
  run : ∀ (A : Around) (outer : List Env) (s : Shared) (H : Hp) (args : Args) (us : List Value) (vs : List V) (Q : VK) (E : XK), Room k A → A.guards = some [] → Env0 P w K mg base A outer s H → BindsTo s fd args (ps.zip us) → Vals vs us → sp vs H Q E →
    codeAny (model P w) A (.call (.ref f) args) (CR CX outer P w H s Q E) s
section
variable {P : Program} {w : World} {K : W.Frag} {mg : Str → Option Value} {base : Heap} {CX : CXT} {k j : Nat} {f : Addr} {fd : FuncData} {N ps : List Str} {sp : Sp} {x qual : Str} {st : Stmt}
theorem FnG.of (F : FnOk P w K mg base CX k f fd ps sp) : FnG P w K mg base CX k f fd ps sp := ⟨F.len, fun A outer s H args us vs Q E hr _ => F.run A outer s H args us vs Q E hr⟩
theorem FnG.mono (F : FnG P w K mg base CX j f fd ps sp) (h : j ≤ k) : FnG P w K mg base CX k f fd ps sp := ⟨F.len, fun A outer s H args us vs Q E hr => F.run A outer s H args us vs Q E (hr.mono h)⟩
/-- a def by its body -/
theorem okG (F : Fun K x qual st f fd) (S : FnScope N ps (defScope st)) (len : ∀ vs H Q E, sp vs H Q E → vs.length = ps.length)
    (hbody : ∀ (cdv : Value) (A : Around) (outer : List Env) (s : Shared) (H : Hp) (vs : List V) (Q : VK) (E : XK), Room k (A.deeper (envOfC qual (defScope st) s.heap.objs.size f cdv)) → A.guards = some [] → sp vs H Q E →
      ∃ t, PSs (cxOf CX0 P w K mg base N qual (defScope st) f cdv A outer s H E).nox (defBody st) t ∧ t { nx := fun _ H' => Q .non H', rt := Q } (L2.start N vs) H) : FnG P w K mg base CX0 (k + 1) f fd ps sp := by
  obtain ⟨oc, od, kV, doc, pm, an, cdv, ct, osl, rfl, lk, hcd⟩ := F.ex
  refine ⟨len, fun A outer s H args us vs Q E hr hg e0 hb r hsp => ?_⟩
  have inK : K.In s.heap := e0.mod.kin.keeps fun b o z => (e0.bs b o z).1
  have noL : s.heap.NoLimit := e0.mod.nolimit.keeps fun b o z => (e0.bs b o z).1
  have kinds : ∀ y ∈ ps.zip us, (defScope st).names.lookup y.1 = some .local ∨ ((defScope st).names.lookup y.1 = some .cell ∧ ((cellsFrom (s.heap.objs.size + 1) (defScope st).names []).lookup y.1).isSome = true) := by
    rintro ⟨n, v⟩ hy
    rcases S.par n (List.of_mem_zip hy).1 with q | q
    · exact .inl q
    · exact .inr ⟨q, W.cellsFrom_some _ _ _ (.inl q)⟩
  refine codeAny_call_function hr.depth (inK _ _ lk) rfl S.co S.gen rfl (W.codeRec_of inK hcd) (hb _ _ _ _ ?_)
  refine wpAny_newFunctionEnv_cells S.kind kinds fun env he s1 z => ?_
  subst he
  refine ⟨noL.keeps z.toInCall.keep, codeAny_func ?_⟩
  obtain ⟨t, ht, q⟩ := hbody cdv A outer s H vs Q E (hr.deeper _) hg hsp
  have I : Inv (cxOf CX0 P w K mg base N qual (defScope st) f cdv A outer s H E) [] (L2.start N vs) H s1 := inv_start S hr.hd e0 (len _ _ _ _ hsp) r z
  refine wpAny_mono (ht.nox.run [] s1 (L2.start N vs) H _ I q) (fun fl s' hs => ?_) fun _ _ hs => hs
  cases fl with
  | next =>
    obtain ⟨σ', H', J, q⟩ := hs
    exact ⟨V.non, H', J.os, J.bare, J.base, J.hok, rfl, q⟩
  | ret u =>
    obtain ⟨v, σ', H', J, rv, q⟩ := hs
    exact ⟨v, H', J.os, J.bare, J.base, J.hok, rv, q⟩
  | brk =>
    obtain ⟨_, _, _, q⟩ := hs
    exact q.elim
  | cont =>
    obtain ⟨_, _, _, q⟩ := hs
    exact q.elim
end
section
variable {X : Cx} {CX : CXT} {k : Nat} {f : Addr} {fd : FuncData} {ps : List Str} {sp : Sp} {E : XK} {x : Str} {p pos : Pos} {e : Expr} {es : List Expr} {t : TA}
theorem pe_callG (F : FnG X.prog X.w X.K X.mg X.base CX k f fd ps sp) (hr : Room k X.A) (hG : X.A.guards = some []) (hg : Gl X x) (hm : X.mg x = some (.ref f)) (hk : W.keepIn X.K (.ref f) = true) (hb : Binds X.K fd ps []) (hx : Passes CX X E)
    (ha : PA X (e :: es) t) (hdb : (x == ("__debug__" : Str)) = false := by decide) (he : starEach (e :: es) X.env = (false, eval e X.env) :: starEach es X.env := by rfl) (hpl : (backTo pos (starEach es X.env)).any (·.1) = false := by rfl) :
    PE X (.Call (.Name x p) (e :: es) [] pos) (tCall sp [] E t) := by
  refine ⟨fun pins s σ H Q I h => wpAny_Call_Name_kw (ld_glob I hg hm ?_ hdb)⟩
  refine W.callWith_K (h₀ := X.base) I.ok.mod.kin hk (thn (ha.run pos pins s σ H _ I h) ?_) he hpl
  rintro us s1 ⟨vs, H1, I1, r, q⟩
  rw [List.append_nil] at q
  have b := hb s1 us I1.kIn (by rw [List.append_nil, ← r.length]; exact F.len _ _ _ _ q)
  rw [List.append_nil] at b
  refine ⟨I1.kIn, wpAny_call (codeAny_mono (F.run X.A X.stack s1 H1 ⟨us, []⟩ us vs Q E hr hG I1.env0 b r q) fun r s' z => ?_)⟩
  cases r with
  | error e => exact hx pins σ H1 s1 e s' I1 z
  | ok fl =>
    cases fl with
    | ret u => exact I1.after z
    | next => exact z.elim
    | brk => exact z.elim
    | cont => exact z.elim
end
/-- the end of a law: its promise from the heap behind the top -/
theorem law_callG {P : Program} {w : World} {K : W.Frag} {mg mb : Str → Option Value} {k : Nat} {fa a : Addr} {fd : FuncData} {x : Str} {sp : Sp} {s₁ : Shared} {vs : List Value} {ns : List Int}
    (KX : K.In s₁.heap) (hns : s₁.heap.Ns mainGlobals mg) (hb : s₁.heap.Ns builtinsNs mb) (hbb : ∀ x : Str, x ≠ "__name__" → mb x = bootBuiltins x) (hlim : s₁.heap.NoLimit) (hg : s₁.gens = #[])
    (ha : s₁.heap.get? a = some { cls := .type "list", data := .seq vs.toArray }) (hi : IntsAre vs ns) (hl : ns.length ≤ sizeLine) (hr : Room k callerA)
    (F : ∀ base : Heap, K.In base → base.Ns mainGlobals mg → FnG P w K mg base CX0 k fa fd [x] sp) (hbind : ∀ (s : Shared) (u : Value), BindsTo s fd ⟨[u], []⟩ [(x, u)])
    (hsp : ∀ H : Hp, SqL K H a (ns.map V.int) → sp [.ref a] H (fun v _ => v = .bl true) fun _ _ _ => False) :
    codeAny (model P w) callerA (.call (.ref fa) ⟨[.ref a], []⟩) (fun r s' => r = .ok (.ret (.bool true)) ∧ OldK s₁.heap s'.heap ∧ s'.os = s₁.os ∧ AllBare s'.gens) s₁ := by
  have rv := vals_ints hi
  let oS : Obj := { cls := .type "list", data := .seq vs.toArray }
  -- H0 tracks the script, or nothing
  have go : ∀ H0 : Hp, (∀ b u, H0 b = some u → b = a ∧ ∃ zs, u = .frz oS (.lst zs) ∧ zs.length ≤ sizeLine ∧ Vals zs vs) → (∀ o, K.lookup a = some o → H0 a = none) → SqL K H0 a (ns.map V.int) →
      codeAny (model P w) callerA (.call (.ref fa) ⟨[.ref a], []⟩) (fun r s' => r = .ok (.ret (.bool true)) ∧ OldK s₁.heap s'.heap ∧ s'.os = s₁.os ∧ AllBare s'.gens) s₁ := by
    intro H0 hA hK hS
    have ok : HOk P w H0 s₁.heap := fun b u z => by
      obtain ⟨rfl, zs, rfl, h1, h2⟩ := hA b u z
      exact ⟨ha, h1, vs, _, h2, ha⟩
    have low : ∀ {b : Addr} {o : Obj}, s₁.heap.get? b = some o → o.cls ≠ .type "list" → H0 b = none := fun {b o} z hc => by
      cases e : H0 b with
      | none => rfl
      | some u =>
        obtain ⟨rfl, _⟩ := hA b u e
        rw [ha] at z
        cases z
        exact absurd rfl hc
    have ns0 : ∀ {b : Addr} {m : Str → Option Value}, s₁.heap.Ns b m → (hidT s₁.heap H0).Ns b m := by
      rintro b m ⟨o, es, ep, z, d, r⟩
      refine ⟨o, es, ep, hidT_get z ?_, d, r⟩
      cases e : H0 b with
      | none => rfl
      | some u =>
        obtain ⟨rfl, _⟩ := hA b u e
        rw [ha] at z
        cases z
        cases d
    have kIn : K.In (hidT s₁.heap H0) := fun b o z => by
      refine hidT_get (KX b o z) ?_
      cases e : H0 b with
      | none => rfl
      | some u =>
        obtain ⟨rfl, _⟩ := hA b u e
        rw [hK o z] at e
        cases e
    have M : Mod K mg (hidT s₁.heap H0) := by
      obtain ⟨mc, h1, h2⟩ := hlim
      exact ⟨kIn, ns0 hns, ⟨mb, ns0 hb, hbb⟩, mc, ns0 h1, h2⟩
    have nofr : ∀ b, b ∉ frs [] := fun b z => by cases z
    have e0 : Env0 P w K mg (hidT s₁.heap H0) callerA [] s₁ H0 := ⟨rfl, M, fun b o z => of_hidT z, Nat.le_of_eq (hidT_size _ _), trivial, fun b z => absurd z (nofr b), ok, .of_eq hg⟩
    refine codeAny_mono ((F _ kIn (ns0 hns)).run callerA [] s₁ H0 ⟨[.ref a], []⟩ [.ref a] [.ref a] _ _ hr rfl e0 (hbind s₁ (.ref a)) (.cons rfl .nil) (hsp H0 hS)) fun r s' z => ?_
    cases r with
    | error e => exact False.elim z
    | ok fl =>
      cases fl with
      | next => exact z.elim
      | brk => exact z.elim
      | cont => exact z.elim
      | ret u =>
        obtain ⟨v, H', os, bare, un, ok', r', rfl⟩ := z
        cases r'
        refine ⟨rfl, .of_keep fun b o z => ?_, os, bare⟩
        cases e : H0 b with
        | none => exact un.keep b o z e (nofr b) (by simp)
        | some u =>
          obtain ⟨rfl, zs, rfl, _⟩ := hA b u e
          obtain ⟨y, _⟩ := ok' b _ (un.frzs b _ _ e)
          rw [ha] at z
          cases z
          exact y
  cases hk : K.lookup a with
  | some o =>
    have z := KX a o hk
    rw [ha] at z
    cases z
    exact go (fun _ => none) (fun b u z => by cases z) (fun _ _ => rfl) (.inr ⟨_, vs.toArray, _, hk, rfl, rfl, rfl, by rw [List.size_toArray, hi.length]; exact hl, by simpa using rv⟩)
  | none =>
    refine go (fun b => if b = a then some (.frz oS (.lst (ns.map V.int))) else none) (fun b u z => ?_) (fun o z => by rw [hk] at z; cases z) (.inl (.inr ⟨oS, if_pos rfl⟩))
    by_cases hb : b = a
    · have z' := (if_pos hb).symm.trans z
      cases z'
      exact ⟨hb, _, rfl, by rw [List.length_map]; exact hl, rv⟩
    · have z' := (if_neg hb).symm.trans z
      cases z'
theorem walk_ofG {l : W.OpenLaw} {n k : Nat} {q : Program} {loose : List Str} {XP : (Str → Option Value) → Heap → Prop} {YP : World → Heap → Prop} {d : DefRec} {K : Params → W.Frag} {sp : W.Frag → Sp} {x : Str}
    (hn : l.most = some n) (hn2 : n ≤ sizeLine) (hdf : d.params.defaults = []) (hr : Room k callerA) (hY : ∀ (w : World) (h : Heap), YP w h → (K w.params).In h)
    (F : ∀ (w : World) (mg : Str → Option Value) (fa : Addr) (h : Heap), (K w.params).In h → h.Ns mainGlobals mg → mg d.name = some (.ref fa) →
      ∃ fd : FuncData, (∀ (s : Shared) (u : Value), BindsTo s fd ⟨[u], []⟩ [(x, u)]) ∧ ∀ base : Heap, (K w.params).In base → base.Ns mainGlobals mg → FnG l.prog w (K w.params) mg base CX0 k fa fd [x] (sp (K w.params)))
    (hsp : ∀ (K : W.Frag) (H : Hp) (a : Addr) (ns : List Int), ns.length ≤ n → SqL K H a (ns.map V.int) → sp K [.ref a] H (fun v _ => v = .bl true) fun _ _ _ => False) :
    W.WalkO q loose XP YP l.row.toRowW d [] (fun f vs => PySem.call f vs) := by
  refine Att.attach_call hn hdf fun w s₀ s₁ mg mb fa o pm cd doc a vs ns G Y ho hd hcd hmg hobj hints hlen hg => ?_
  obtain ⟨fd, hb, hF⟩ := F w mg fa _ (hY w _ Y) G.T.g hmg
  exact law_callG (hY w _ Y) G.T.g G.T.b G.T.builtins G.T.nolimit hg hobj hints (Nat.le_trans hlen hn2) hr hF hb fun H hS => hsp _ H a ns hlen hS
end Rp

set_option Elab.async false
set_option linter.all false
set_option maxRecDepth 100000
set_option maxHeartbeats 2000000
/-! Operators, subscripts, truth, len, str of own instances by the text's own defs. -/
namespace Ow
open PySem PySem.Spec PyProof.Rows L2
section
variable {X : Cx} {CX : CXT} {n : Nat} {f C : Addr} {fd : FuncData} {ps : List Str} {sp : Sp} {E : XK} {pins : List (Addr × Obj)} {σ : L2.St} {H : Hp} {s : Shared} {A : Around}
/-- a def called from somewhere below the running body -/
theorem run_at {Q : VK} {us : List Value} {vs : List V} (F : FnOk X.prog X.w X.K X.mg X.base CX n f fd ps sp) (sb : Sub X n A) (hb : Binds X.K fd ps []) (hx : Passes CX X E) (I : Inv X pins σ H s) (r : Vals vs us) (h : sp vs H Q E) :
    wpAny (model X.prog X.w) A (call (.ref f) us) (EP X pins σ Q) X.xe s := by
  have hl : (us ++ []).length = ps.length := by
    rw [List.append_nil, ← r.length]
    exact F.len _ _ _ _ h
  have e0 : Env0 X.prog X.w X.K X.mg X.base A X.stack s H := by
    have e := I.env0
    exact ⟨by rw [sb.fr]; exact e.frames, e.mod, e.bs, e.bsz, e.funs, e.frf, e.hok, e.bare⟩
  have hbt := hb s us I.kIn hl
  rw [List.append_nil] at hbt
  refine wpAny_call (codeAny_mono (F.run A X.stack s H ⟨us, []⟩ us vs Q E sb.room e0 hbt r h) fun r s' hq => ?_)
  cases r with
  | error e => exact hx pins σ H s e s' I hq
  | ok fl =>
    cases fl with
    | ret u => exact I.after hq
    | next => exact False.elim hq
    | brk => exact False.elim hq
    | cont => exact False.elim hq
/-- the def behind a name of an own class -/
structure Dun (X : Cx) (CX : CXT) (n : Nat) (C f : Addr) (name : Str) (fd : FuncData) (ps : List Str) (sp : Sp) : Prop where
  at_ : W.findIn X.K (.ref C) name = some (some (.ref f))
  fn : W.isFn X.K (.ref f) = true
  F : FnOk X.prog X.w X.K X.mg X.base CX n f fd ps sp
  b : Binds X.K fd ps []
/-- an own instance stands there -/
def Own (H : Hp) (C a : Addr) : Prop := ∃ dx fs, H a = some (.ins C dx fs)
theorem own_at (I : Inv X pins σ H s) {a : Addr} (h : Own H C a) : ∃ ox od, W.InstAt s.heap a ox C od := by
  obtain ⟨dx, fs, h⟩ := h
  obtain ⟨mA, J, _⟩ := ins_get I.hok h
  obtain ⟨od, J, _⟩ := J.look
  exact ⟨_, _, J⟩
/-! x in o, x not in o -/
def rInO (C : Addr) (sp : Sp) (E : XK) (neg : Bool) : R2 := fun x y H Q => ∃ a, y = .ref a ∧ Own H C a ∧ sp [.ref a, x] H (fun z H' => ∃ b, z = .bl b ∧ Q (.bl (if neg then !b else b)) H') E
theorem op_inO (D : Dun X CX n C f "__contains__" fd ps sp) (hr : Room n X.A) (hx : Passes CX X E) : OpR X (compareOp .In) (rInO C sp E false) := by
  intro pins s σ H x y v u Q I rx ry h
  obtain ⟨a, rfl, ha, q⟩ := h
  cases ry
  obtain ⟨ox, od, J⟩ := own_at I ha
  obtain ⟨m, hF⟩ := I.fr
  refine W.in_K hF I.ok.mod.kin J D.at_ D.fn (wpAny_mono (run_at D.F ⟨hr, rfl⟩ D.b hx I (vs := [.ref _, _]) (.cons rfl (.cons rx .nil)) q) (fun r s' z => ?_) fun _ _ z => z)
  obtain ⟨w, H', I', rw', b, rfl, q⟩ := z
  cases rw'
  exact wpAny_truthy_bool ⟨.bl b, H', I', rfl, q⟩
theorem op_notInO (D : Dun X CX n C f "__contains__" fd ps sp) (hr : Room n X.A) (hx : Passes CX X E) : OpR X (compareOp .NotIn) (rInO C sp E true) := by
  intro pins s σ H x y v u Q I rx ry h
  obtain ⟨a, rfl, ha, q⟩ := h
  cases ry
  obtain ⟨ox, od, J⟩ := own_at I ha
  obtain ⟨m, hF⟩ := I.fr
  refine W.notIn_K hF I.ok.mod.kin J D.at_ D.fn (wpAny_mono (run_at D.F ⟨hr, rfl⟩ D.b hx I (vs := [.ref _, _]) (.cons rfl (.cons rx .nil)) q) (fun r s' z => ?_) fun _ _ z => z)
  obtain ⟨w, H', I', rw', b, rfl, q⟩ := z
  cases rw'
  exact wpAny_truthy_bool ⟨.bl (!b), H', I', rfl, q⟩
/-! o[i] -/
def rGetO (C : Addr) (sp : Sp) (E : XK) : R2 := fun x y H Q => ∃ a, x = .ref a ∧ Own H C a ∧ sp [.ref a, y] H Q E
theorem pe_ixO {a b : Expr} {ta tb : TE} {pos : Pos} (D : Dun X CX n C f "__getitem__" fd ps sp) (hfn : W.fnIn X.K f = true) (hr : Room (n + 1) X.A) (hx : Passes CX X E) (ha : PE X a ta) (hb : PE X b tb)
    (hsl : ∀ (x : Addr) (i : Value), subscripted b true (.ref x) i = runValue (.builtin "lifetime.subscript" ⟨[.ref x, i], []⟩) := by intro _ _; with_unfolding_all rfl) : PE X (.Subscript a b pos) (tOp (rGetO C sp E) ta tb) := by
  refine ⟨fun pins s σ H Q I h => ?_⟩
  refine Subscript_ (binT ha hb I h fun v u s2 x y H2 I2 rx ry q => ?_)
  obtain ⟨p, rfl, hp, q⟩ := q
  cases rx
  obtain ⟨ox, od, J⟩ := own_at I2 hp
  obtain ⟨m, hF⟩ := I2.fr
  exact W.sub_K hF I2.ok.mod.kin J D.at_ hfn D.fn (run_at D.F ⟨hr.in1, rfl⟩ D.b hx I2 (vs := [.ref _, _]) (.cons rfl (.cons ry .nil)) q) (hsl p u)
/-! len(o), bool(o), str(o), the truth of o -/
def rLenO (C : Addr) (sp : Sp) (E : XK) : List V → Hp → VK → Prop := fun xs H Q => ∃ a, xs = [.ref a] ∧ Own H C a ∧ sp [.ref a] H (fun z H' => ∃ k : Int, z = .int k ∧ (0 ≤ k ∧ k < 2 ^ 63) ∧ Q (.int k) H') E
theorem call_lenO (D : Dun X CX n C f "__len__" fd ps sp) (hr : Room (n + 1) X.A) (hx : Passes CX X E) : CallR X (.builtin "len") (rLenO C sp E) := by
  intro pins s σ H xs us Q I r h
  obtain ⟨a, rfl, ha, q⟩ := h
  obtain rfl := Vals.ref1 r
  obtain ⟨ox, od, J⟩ := own_at I ha
  obtain ⟨m, hF⟩ := I.fr
  refine W.len_K hF I.ok.mod.kin J D.at_ D.fn (wpAny_mono (run_at D.F ⟨hr.in1, rfl⟩ D.b hx I (vs := [.ref _]) (.cons rfl .nil) q) (fun r s' z => ?_) fun _ _ z => z)
  obtain ⟨w, H', I', rw', k, rfl, hk, q⟩ := z
  obtain ⟨t, rfl⟩ := rw'
  exact ⟨hk, ⟨.int k, H', I'.tok _, ⟨_, rfl⟩, q⟩⟩
def rStrO (C : Addr) (sp : Sp) (E : XK) : List V → Hp → VK → Prop := fun xs H Q => ∃ a, xs = [.ref a] ∧ Own H C a ∧ sp [.ref a] H (fun z H' => ∃ y : Str, z = .str y ∧ Q (.str y) H') E
theorem call_strO (D : Dun X CX n C f "__str__" fd ps sp) (hr : Room (n + 2) X.A) (hx : Passes CX X E) : CallR X (.type "str") (rStrO C sp E) := by
  intro pins s σ H xs us Q I r h
  obtain ⟨a, rfl, ha, q⟩ := h
  obtain rfl := Vals.ref1 r
  obtain ⟨ox, od, J⟩ := own_at I ha
  refine W.kso_call hr.in1.in1.units0 I.kIn J D.at_ D.fn (wpAny_mono (run_at D.F ⟨hr.in1.in1, rfl⟩ D.b hx I (vs := [.ref _]) (.cons rfl .nil) q) (fun r s' z => ?_) fun _ _ z => z)
  obtain ⟨w, H', I', rw', y, rfl, q⟩ := z
  obtain ⟨t, rfl⟩ := rw'
  exact ⟨.str y, H', I', ⟨_, rfl⟩, q⟩
/-! o == y -/
def rEqO (K : W.Frag) (C : Addr) (sp : Sp) (E : XK) : R2 := fun x y H Q => ∃ a t, x = .ref a ∧ Own H C a ∧ TyX K H y t ∧ W.notFirst K C t = true ∧ sp [.ref a, y] H (fun z H' => ∃ b, z = .bl b ∧ Q (.bl b) H') E
theorem op_eqO (D : Dun X CX n C f "__eq__" fd ps sp) (hr : Room n X.A) (hx : Passes CX X E) : OpR X (compareOp .Eq) (rEqO X.K C sp E) := by
  intro pins s σ H x y v u Q I rx ry h
  obtain ⟨a, t, rfl, ha, ty, hn, q⟩ := h
  cases rx
  obtain ⟨ox, od, J⟩ := own_at I ha
  obtain ⟨m, hF⟩ := I.fr
  obtain ⟨P, kx, hP, _⟩ := kit_of I ry ty
  show wpAny _ _ (richCompare .Eq (.ref a) u) _ _ _
  refine W.cmp_K (op := .Eq) hr.units0 hF I.ok.mod.kin J (kx.ty _ _ I.kIn hP) hn D.at_ D.fn (wpAny_mono (run_at D.F ⟨hr, rfl⟩ D.b hx I (vs := [.ref _, _]) (.cons rfl (.cons ry .nil)) q) (fun r s' z => ?_) fun _ _ z => z)
  obtain ⟨w, H', I', rw', b, rfl, q⟩ := z
  cases rw'
  exact ⟨.bl b, H', I', rfl, q⟩
/-! o != y, by the own == -/
theorem slot_one : Slot "object" "__ne__" "object.__ne__" :=
  Slot.of (T := "object") (name := "__ne__") (owner := "object") (n := "__ne__") (by rw [typeLookup_type, builtinLookup_eq_fast]; kernel_rfl) (by decide +kernel) (by decide +kernel) (by decide +kernel) (.inl (by decide +kernel)) (by rw [isSubtype_type]; kernel_rfl)
theorem ne_own {prog : Program} {w : World} {A : Around} {E : Value → Shared → Prop} {s : Shared} {K : W.Frag} {x C L f : Addr} {h₀ : Heap} {m : Str → Option Value} {ox : Obj} {od : Option Obj} {b tb : Value} {Q : Value → Shared → Prop}
    (hu : A.units + 1 < cLine) (F : Fr h₀ L s.heap m) (X₀ : K.In h₀) (I : W.InstAt s.heap x ox C od) (hb : W.Looks (model prog w) s.heap (typeOf b) tb) (hn : W.notFirst K C tb = true) (hne : W.findIn K (.ref C) "__ne__" = some (some (.builtin "object.__ne__")))
    (hi : W.subIn K (.ref C) (.type "object") = some true) (hs : W.findIn K (.ref C) "__eq__" = some (some (.ref f))) (hf : W.isFn K (.ref f) = true)
    (h : wpAny (model prog w) A.in1 (call (.ref f) [.ref x, b]) (fun v s' => ∃ c, v = .bool c ∧ Q (.bool (!c)) s') E s) : wpAny (model prog w) A (richCompare .NotEq (.ref x) b) Q E s := by
  have X := X₀.keeps F.keep
  have body : wpAny (model prog w) A.in1 (Builtin.«object.__ne__» ⟨[.ref x, b], []⟩) (GQ.FinOf prog w A (wants (fun v s' => v ≠ .notImplemented ∧ Q v s') E)) (fun e s' => E e s') s := by
    unfold Builtin.«object.__ne__»
    refine wpAny_bind (wpAny_pure ?_)
    dsimp only
    refine wpAny_bind (wpAny_cRoomFor (by show A.units + 1 < cLine; exact hu) ?_)
    refine wpAny_bind (W.ifBound_K X I hs hf (wpAny_mono h (fun v s' hv => ?_) fun _ _ z => z))
    obtain ⟨c, rfl, q⟩ := hv
    refine wpAny_bind (wpAny_truthy_bool ?_)
    exact wpAny_pure ⟨(fun z => nomatch z), q⟩
  have called : wpAny (model prog w) A (call (.builtin "object.__ne__") [.ref x, b]) (fun v s' => v ≠ .notImplemented ∧ Q v s') E s := by
    refine wpAny_call (codeAny_call_builtin slot_one.plain PySem.F.cmpEntry_ne (W.check_slot PySem.F.cmpKind_ne PySem.F.cmpSplit_ne (I.type.andThen (W.looks_subIn X hi)) (PySem.F.cmpArgs_ne _ _) ?_))
    exact body
  have one : wpAny (model prog w) A (tryCompare (.ref x) (cmpInfo .NotEq).2.1 b) (fun r s' => ∃ v, r = some v ∧ Q v s') E s := by
    unfold tryCompare callSpecialIfBound? bindSpecialIfBound?
    refine wpAny_bind ?_
    refine wpAny_holding (wpAny_bind (wpAny_bind (wpAny_bind (I.type.here ((W.looks_findIn X hne).here ?_)))))
    simp only [slot_one.bind]
    have fin : wpAny (model prog w) A (call (.builtin "object.__ne__") ([.ref x] ++ [b]) >>= fun v => pure (some v)) (fun o s' => wpAny (model prog w) A (match o with | some .notImplemented => pure none | none => pure none | some r => pure (some r)) (fun r s' => ∃ v, r = some v ∧ Q v s') E s') E s := by
      refine wpAny_bind (wpAny_mono called (fun v s' hv => ?_) fun _ _ z => z)
      obtain ⟨h1, h2⟩ := hv
      refine wpAny_pure ?_
      cases v <;> first | exact absurd rfl h1 | exact wpAny_pure ⟨_, rfl, h2⟩
    refine wpAny_bind (wpAny_askSetting (wpAny_ite ?_))
    split
    · exact wpAny_bind (wpAny_pure (wpAny_pure fin))
    · exact wpAny_tryCatch (wpAny_bind (wpAny_pure (wpAny_pure fin)))
  unfold richCompare
  simp only [oneThing_ref]
  refine wpAny_holding (wpAny_bind (wpAny_cRoomFor (Nat.lt_of_succ_lt hu) ?_))
  refine wpAny_bind (I.type.here (wpAny_bind (hb.here ?_)))
  have last : wpAny (model prog w) A (tryCompare (.ref x) (cmpInfo .NotEq).2.1 b) (fun r s' => ∃ v, r = some v ∧ Q v s') E s := one
  split
  · rename_i q
    have e : W.subIn K tb (.ref C) = some false := by
      rcases Bool.or_eq_true_iff.mp hn with e | e
      · rw [beq_iff_eq.mp e] at q
        simp at q
      · exact beq_iff_eq.mp e
    refine wpAny_bind ((W.looks_subIn X e).here ?_)
    simp only [Bool.false_eq_true, if_false]
    refine wpAny_bind (wpAny_mono last (fun r s' z => ?_) fun _ _ e => e)
    obtain ⟨v, rfl, hq⟩ := z
    exact wpAny_pure hq
  · refine wpAny_bind (wpAny_pure ?_)
    simp only [Bool.false_eq_true, if_false]
    refine wpAny_bind (wpAny_mono last (fun r s' z => ?_) fun _ _ e => e)
    obtain ⟨v, rfl, hq⟩ := z
    exact wpAny_pure hq
/-- o != y -/
def rNeO (K : W.Frag) (C : Addr) (sp : Sp) (E : XK) : R2 := fun x y H Q => ∃ a t, x = .ref a ∧ Own H C a ∧ TyX K H y t ∧ W.notFirst K C t = true ∧ sp [.ref a, y] H (fun z H' => ∃ b, z = .bl b ∧ Q (.bl (!b)) H') E
theorem op_neO (D : Dun X CX n C f "__eq__" fd ps sp) (hne : W.findIn X.K (.ref C) "__ne__" = some (some (.builtin "object.__ne__"))) (hi : W.subIn X.K (.ref C) (.type "object") = some true) (hr : Room (n + 1) X.A) (hx : Passes CX X E) : OpR X (compareOp .NotEq) (rNeO X.K C sp E) := by
  intro pins s σ H x y v u Q I rx ry h
  obtain ⟨a, t, rfl, ha, ty, hn, q⟩ := h
  cases rx
  obtain ⟨ox, od, J⟩ := own_at I ha
  obtain ⟨m, hF⟩ := I.fr
  obtain ⟨P, kx, hP, _⟩ := kit_of I ry ty
  show wpAny _ _ (richCompare .NotEq (.ref a) u) _ _ _
  refine ne_own (by have := hr.units; omega) hF I.ok.mod.kin J (kx.ty _ _ I.kIn hP) hn hne hi D.at_ D.fn (wpAny_mono (run_at D.F ⟨hr.in1, rfl⟩ D.b hx I (vs := [.ref _, _]) (.cons rfl (.cons ry .nil)) q) (fun r s' z => ?_) fun _ _ z => z)
  obtain ⟨w, H', I', rw', b, rfl, q⟩ := z
  cases rw'
  exact ⟨b, rfl, .bl (!b), H', I', rfl, q⟩
/-! bool(o), o as a test -/
theorem bool_own {prog : Program} {w : World} {A : Around} {E : Value → Shared → Prop} {s : Shared} {x : Value} {Q : Value → Shared → Prop} (h : wpAny (model prog w) A.in1.in1 (truthy x) (fun b s' => Q (.bool b) s') E s) : wpAny (model prog w) A (call (.type "bool") [x]) Q E s := by
  refine callType_codes (T := "bool") (Bi := Builtin.«object.__init__») (Q₁ := fun r s₁ => ∃ b, r = .bool b ∧ Q r s₁) PySem.F.called_bool (PySem.F.typeCall_bool_1 _) PySem.F.entry_object_init ?_ ?_
  · refine codeAny_of_tree ?_
    show wpAny _ A.in1.in1 (do checkBuiltinCall "bool.__new__" ⟨[.type "bool", x], []⟩; again (.builtin "bool.__new__" ⟨[.type "bool", x], []⟩)) _ _ s
    refine wpAny_bind (wpAny_of_eq (PySem.F.newCall_bool_1 _) (wpAny_pure ⟨plainId_quiet (by decide +kernel) _, codeAny_builtin PySem.F.entry_bool_new ?_⟩))
    rw [Around.under_plainId (by decide +kernel) _]
    unfold Builtin.«bool.__new__»
    dsimp only
    have f1 := PySem.F.conv_sub_bool
    have f0 : isType (.type "bool") = pure true := by kernel_rfl
    refine wpAny_bind (wpAny_of_eq f0 ?_)
    rw [if_neg (by simp)]
    refine wpAny_bind (wpAny_of_eq f1 ?_)
    rw [if_neg (by simp)]
    refine wpAny_bind (m := someArgs "bool" 0 1 ⟨[x], []⟩) (wpAny_pure ?_)
    dsimp only
    refine wpAny_bind (wpAny_mono h (fun b s' q => wpAny_pure ⟨b, rfl, q⟩) fun _ _ z => z)
  · rintro obj s₁ ⟨b, rfl, hq⟩
    exact ⟨rfl, PySem.F.args_object_init_2 _ _, object_init_meets PySem.F.called_bool.init.lookup PySem.F.called_bool.made (by decide) prog w A.in1 _ s₁ ⟨rfl, rfl, hq⟩⟩
section
variable {X : Cx} {CX : CXT} {n : Nat} {f C : Addr} {fd : FuncData} {ps : List Str} {sp : Sp} {E : XK}
theorem truthy_own {pins : List (Addr × Obj)} {σ : L2.St} {H : Hp} {s : Shared} {A : Around} {a : Addr} {Q : Bool → Hp → Prop} (D : Dun X CX n C f "__bool__" fd ps sp) (sb : Sub X n A) (hx : Passes CX X E) (I : Inv X pins σ H s) (ha : Own H C a) (q : sp [.ref a] H (fun z H' => ∃ b, z = .bl b ∧ Q b H') E) :
    wpAny (model X.prog X.w) A (truthy (.ref a)) (TP X pins σ Q) X.xe s := by
  obtain ⟨ox, od, J⟩ := own_at I ha
  obtain ⟨m, hF⟩ := I.fr
  refine W.truthy_K hF I.ok.mod.kin J D.at_ D.fn (wpAny_mono (run_at D.F sb D.b hx I (vs := [.ref _]) (.cons rfl .nil) q) (fun r s' z => ?_) fun _ _ z => z)
  obtain ⟨w, H', I', rw', b, rfl, q⟩ := z
  cases rw'
  exact ⟨H', I', q⟩
def rBoolO (C : Addr) (sp : Sp) (E : XK) : List V → Hp → VK → Prop := fun xs H Q => ∃ a, xs = [.ref a] ∧ Own H C a ∧ sp [.ref a] H (fun z H' => ∃ b, z = .bl b ∧ Q (.bl b) H') E
theorem call_boolO (D : Dun X CX n C f "__bool__" fd ps sp) (hr : Room (n + 2) X.A) (hx : Passes CX X E) : CallR X (.type "bool") (rBoolO C sp E) := by
  intro pins s σ H xs us Q I r h
  obtain ⟨a, rfl, ha, q⟩ := h
  obtain rfl := Vals.ref1 r
  refine bool_own (wpAny_mono (truthy_own D ⟨hr.in1.in1, rfl⟩ hx I ha q) (fun b s' z => ?_) fun _ _ z => z)
  obtain ⟨H', I', q⟩ := z
  exact ⟨.bl b, H', I', rfl, q⟩
/-- o as a test -/
theorem pt_own {a : Expr} {ta : TE} (D : Dun X CX n C f "__bool__" fd ps sp) (hr : Room n X.A) (hx : Passes CX X E) (ha : PE X a ta) (he : ∀ whole, isTrue a X.env whole = (do let v ← whole; standAt a.pos; holding [v] (truthy v))) :
    PT X a (fun σ H Q => ta σ H fun x H' => ∃ p, x = .ref p ∧ Own H' C p ∧ sp [.ref p] H' (fun z H2 => ∃ b, z = .bl b ∧ Q b H2) E) := by
  refine ⟨fun pins s σ H Q I h => ?_⟩
  refine isTrue_plain (thn (ha.run pins s σ H _ I h) fun v s1 ⟨x, H1, I1, r1, q1⟩ => ?_) (he _)
  obtain ⟨p, rfl, hp, q⟩ := q1
  cases r1
  exact truthy_own D ⟨hr, rfl⟩ hx I1 hp q
/-! o + y, .. of one class -/
def rBinO (C : Addr) (sp : Sp) (E : XK) : R2 := fun x y H Q => ∃ a b, x = .ref a ∧ y = .ref b ∧ Own H C a ∧ Own H C b ∧ sp [.ref a, .ref b] H (fun z H' => ((∃ p, z = .ref p) ∨ z = .non ∨ ∃ b, z = .bl b) ∧ Q z H') E
theorem op_binO {op : Operator} (D : Dun X CX n C f (PySem.dunder op.info.2) fd ps sp) (hc : W.selfFirst X.K C = true) (hr : Room n X.A) (hx : Passes CX X E) : OpR X (binaryOp op) (rBinO C sp E) := by
  intro pins s σ H x y v u Q I rx ry h
  obtain ⟨a, b, rfl, rfl, ha, hb, q⟩ := h
  cases rx
  cases ry
  obtain ⟨ox, od, J⟩ := own_at I ha
  obtain ⟨ox', od', J'⟩ := own_at I hb
  obtain ⟨m, hF⟩ := I.fr
  refine W.binop_K hF I.ok.mod.kin J J'.type hc D.at_ D.fn (wpAny_mono (run_at D.F ⟨hr, rfl⟩ D.b hx I (vs := [.ref _, .ref _]) (.cons rfl (.cons rfl .nil)) q) (fun r s' z => ?_) fun _ _ z => z)
  obtain ⟨w, H', I', rw', k, q⟩ := z
  rcases k with ⟨p, rfl⟩ | rfl | ⟨b, rfl⟩
  · cases rw'
    exact ⟨.ref p, H', I', rfl, q⟩
  · cases rw'
    exact ⟨.non, H', I', rfl, q⟩
  · cases rw'
    exact ⟨.bl b, H', I', rfl, q⟩
/-- -o -/
theorem un_negO (D : Dun X CX n C f "__neg__" fd ps sp) (hr : Room n X.A) (hx : Passes CX X E) : UnR X (unaryOp .USub) (fun x H Q => ∃ a, x = .ref a ∧ Own H C a ∧ sp [.ref a] H Q E) := by
  intro pins s σ H x v Q I rx h
  obtain ⟨a, rfl, ha, q⟩ := h
  cases rx
  obtain ⟨ox, od, J⟩ := own_at I ha
  obtain ⟨m, hF⟩ := I.fr
  exact W.ksp_neg hF I.ok.mod.kin J D.at_ D.fn (run_at D.F ⟨hr, rfl⟩ D.b hx I (vs := [.ref _]) (.cons rfl .nil) q)
end
end
end Ow

set_option Elab.async false
set_option linter.all false
set_option maxRecDepth 100000
set_option maxHeartbeats 2000000
/-! == of dicts with tuple keys. -/
namespace Dh
open PySem PySem.Calls PyProof.Rows PySem.Spec
section
variable {prog : Program} {w : World} {K : Type} [DecidableEq K] {knd : HeapKind prog w K} {A : Around} {E : Value → Shared → Prop} {s : Shared}
/-- the entries of one dict, one after the other, beside those of the other one -/
inductive Hits (A : Around) (s : Shared) (kb : List (K × Addr × Value)) : List (K × Addr × Value) → Bool → Prop
  | nil : Hits A s kb [] true
  | miss {k : K} {p : Addr × Value} {r : List (K × Addr × Value)} : atKey kb k = none → Hits A s kb ((k, p) :: r) false
  | hit {k : K} {p q : Addr × Value} {r : List (K × Addr × Value)} {e b : Bool} : atKey kb k = some q → SeqAt.EqAt A s p.2 q.2 e → Hits A s kb r b → Hits A s kb ((k, p) :: r) (e && b)
theorem Hits.inv {kb : List (K × Addr × Value)} {k : K} {p : Addr × Value} {r : List (K × Addr × Value)} {b : Bool} (h : Hits A s kb ((k, p) :: r) b) :
    (atKey kb k = none ∧ b = false) ∨ ∃ q e b', atKey kb k = some q ∧ SeqAt.EqAt A s p.2 q.2 e ∧ Hits A s kb r b' ∧ b = (e && b') := by
  cases h with
  | miss hn => exact .inl ⟨hn, rfl⟩
  | hit hy he hr => exact .inr ⟨_, _, _, hy, he, hr, rfl⟩
theorem same_pairs {nm : String} {a b : Addr} {ka kb : List (K × Addr × Value)} {r : Bool} {Q : Bool → Shared → Prop} (ha : (a == sysModules) = false) (hb : (b == sysModules) = false) (hu : knd.room A)
    (da : s.heap.DictOfH knd a ka) (db : s.heap.DictOfH knd b kb) (hits : ka.length = kb.length → Hits A s kb ka r) (h : Q (ka.length == kb.length && r) s) :
    wpAny (model prog w) A (Builtin.Dict.samePairs nm a b) Q E s := by
  obtain ⟨oa, es, ep, oA, _, dA, eA, iA, nA⟩ := da
  obtain ⟨ob, es', ep', oB, _, dB, eB, iB, nB⟩ := db
  have zA : ka.length = es.size := (size_of_entries eA).symm
  have zB : kb.length = es'.size := (size_of_entries eB).symm
  rw [zA, zB] at h
  unfold Builtin.Dict.samePairs Builtin.Dict.showsAll
  rw [if_neg (show ¬ (a == sysModules) = true by rw [ha]; exact Bool.false_ne_true), if_neg (show ¬ (b == sysModules) = true by rw [hb]; exact Bool.false_ne_true)]
  refine wpAny_bind (wpAny_pure (wpAny_bind (wpAny_pure ?_)))
  refine wpAny_bind (wpAny_dictEntries oA dA ?_)
  dsimp only
  refine wpAny_bind (wpAny_dictEntries oB dB ?_)
  by_cases zz : es.size = es'.size
  case neg =>
    rw [if_pos (by simpa using zz)]
    have hbf : (es.size == es'.size) = false := by simpa using zz
    rw [hbf, Bool.false_and] at h
    exact wpAny_bind (wpAny_rule (wpAny_pure h))
  case pos =>
    have h' : Q r s := by simpa [zz] using h
    have hts := hits (by rw [zA, zB]; exact zz)
    rw [if_neg (by rw [zz]; simp)]
    refine wpAny_bind (wpAny_dictEpoch oA dA ?_)
    refine wpAny_bind ?_
    rw [Std.Legacy.Range.forIn_eq_forIn_range']
    simp only [Std.Legacy.Range.size, Nat.sub_zero, Nat.add_sub_cancel, Nat.div_one]
    refine wpAny_forIn_list _
      (fun rest q s' => s' = s ∧ q = (none, ()) ∧ ∃ i, rest = List.range' i (es.size - i) ∧ i ≤ es.size ∧ Hits A s kb (ka.drop i) r)
      _ ?_ ?_ _ _ ⟨rfl, rfl, 0, by simp, Nat.zero_le _, hts⟩
    · rintro x rest q s' ⟨rfl, rfl, i, hr, hi, pre1⟩
      have lt1 : i < es.size := by
        rcases Nat.lt_or_ge i es.size with h | h
        · exact h
        · rw [Nat.sub_eq_zero_of_le h] at hr
          simp at hr
      obtain ⟨rfl, rst⟩ : x = i ∧ rest = List.range' (i + 1) (es.size - (i + 1)) := by
        have e : es.size - i = (es.size - (i + 1)) + 1 := by omega
        rw [e, List.range'_succ] at hr
        injection hr with h1 h2
        exact ⟨h1, h2⟩
      refine wpAny_bind (wpAny_dictEntries oA dA ?_)
      have hlt' : x < ka.length := by rw [zA]; exact lt1
      obtain ⟨k, p, hkv⟩ : ∃ k p, ka[x] = (k, p) := ⟨_, _, rfl⟩
      have hg : ka[x]? = some (k, p) := by rw [List.getElem?_eq_getElem hlt', hkv]
      have hdrop : ka.drop x = (k, p) :: ka.drop (x + 1) := by
        rw [← hkv]
        exact List.drop_eq_getElem_cons hlt'
      rw [entry_at eA x, hg]
      rw [hdrop] at pre1
      show wpAny _ _ (holding [.ref p.1, p.2] _ >>= _) _ _ _
      refine wpAny_bind (wpAny_holding (wpAny_bind ?_))
      have hkey : knd.is s'.heap k p.1 := iA (k, p) (List.mem_of_getElem? hg)
      refine wpAny_dictFind_heap hu hkey oB dB eB iB nB (fun hno => ?_) fun j q hj => ?_
      · have hn : atKey kb k = none := atKey_none_of_get hno
        rcases pre1.inv with ⟨_, er⟩ | ⟨y, _, _, hy, _⟩
        · rw [er] at h'
          refine wpAny_pure ?_
          show wpAny _ _ (if (!false) = true then _ else _) _ _ _
          rw [if_pos (by decide)]
          exact wpAny_pure (wpAny_pure h')
        · rw [hn] at hy
          exact nomatch hy
      · have hv' : atKey kb k = some q := atKey_of_get nB hj
        refine wpAny_bind (wpAny_dictEntries oB dB ?_)
        rw [entry_at eB j, hj]
        rcases pre1.inv with ⟨hn, _⟩ | ⟨y, e, b', hy, he, more1, er⟩
        · rw [hv'] at hn
          exact nomatch hn
        · have ey : q = y := Option.some.inj (hv'.symm.trans hy)
          rw [← ey] at he
          refine wpAny_holding (he prog w _ _ ?_)
          cases e with
          | false =>
            rw [er, Bool.false_and] at h'
            show wpAny _ _ (if (!false) = true then _ else _) _ _ _
            rw [if_pos (by decide)]
            exact wpAny_pure (wpAny_pure h')
          | true =>
            rw [Bool.true_and] at er
            rw [← er] at more1
            show wpAny _ _ (if (!true) = true then _ else _) _ _ _
            rw [if_neg (by decide)]
            refine wpAny_bind (wpAny_dictEpoch oA dA ?_)
            rw [if_neg (by simp)]
            exact wpAny_pure ⟨rfl, rfl, x + 1, rst, lt1, more1⟩
    · rintro q s' ⟨rfl, rfl, i, hr, hi, pre1⟩
      have atEnd : i = es.size := by
        rcases Nat.lt_or_ge i es.size with h | h
        · have e : es.size - i = (es.size - (i + 1)) + 1 := by omega
          rw [e, List.range'_succ] at hr
          exact nomatch hr
        · exact Nat.le_antisymm hi h
      refine wpAny_pure ?_
      rw [atEnd, ← zA, List.drop_length] at pre1
      cases pre1
      exact h'
theorem cmp_eq {a b : Addr} {ka kb : List (K × Addr × Value)} {r : Bool} {Q : Value → Shared → Prop} {op : CmpOp} (hop : op = .Eq ∨ op = .NotEq) (ha : (a == sysModules) = false) (hb : (b == sysModules) = false) (hk : knd.room A.in1)
    (da : s.heap.DictOfH knd a ka) (db : s.heap.DictOfH knd b kb) (hu : A.units < cLine) (hits : ka.length = kb.length → Hits A.in1 s kb ka r) (h : Q (.bool ((ka.length == kb.length && r) == decide (op = .Eq))) s) :
    wpAny (model prog w) A (compareOp op (.ref a) (.ref b)) Q E s := by
  have dif : s.TypeIs (.ref a) "dict" := da.typeIs
  have dig : s.TypeIs (.ref b) "dict" := db.typeIs
  rcases hop with rfl | rfl
  · refine wpAny_richCompare_same_room (op := .Eq) dif dig PySem.F.slot_dict_eq (wpAny_call_entry PySem.F.slot_dict_eq dif PySem.F.entry_dict_eq ?_ (PySem.F.args_dict_eq_2 _ _)) hu
    show wpAny _ _ (Builtin.Dict.dictSlotArgs "__eq__" ⟨[.ref a, .ref b], []⟩ >>= _) _ _ s
    unfold Builtin.Dict.dictSlotArgs
    refine wpAny_bind (wpAny_bind (wpAny_notOrdered_dict dif (wpAny_pure ?_)))
    refine wpAny_bind (wpAny_isInstance (T := "dict") dig PySem.F.sub_dict_dict ?_)
    rw [if_neg (by simp)]
    refine wpAny_bind (wpAny_pure (wpAny_bind (wpAny_pure (wpAny_bind (same_pairs ha hb hk da db hits ?_)))))
    refine wpAny_pure ⟨_, rfl, (fun x => nomatch x), ?_⟩
    exact h
  · refine wpAny_richCompare_same_room (op := .NotEq) dif dig PySem.F.slot_dict_ne (wpAny_call_entry PySem.F.slot_dict_ne dif PySem.F.entry_dict_ne ?_ (PySem.F.args_dict_ne_2 _ _)) hu
    show wpAny _ _ (Builtin.Dict.dictSlotArgs "__ne__" ⟨[.ref a, .ref b], []⟩ >>= _) _ _ s
    unfold Builtin.Dict.dictSlotArgs
    refine wpAny_bind (wpAny_bind (wpAny_notOrdered_dict dif (wpAny_pure ?_)))
    refine wpAny_bind (wpAny_isInstance (T := "dict") dig PySem.F.sub_dict_dict ?_)
    rw [if_neg (by simp)]
    refine wpAny_bind (wpAny_pure (wpAny_bind (wpAny_pure (wpAny_bind (same_pairs ha hb hk da db hits ?_)))))
    refine wpAny_pure ⟨_, rfl, (fun x => nomatch x), ?_⟩
    exact h
end
end Dh
namespace Dh
open PySem PySem.Spec PyProof.Rows L2
/-- the entries of the one, looked up in the other one -/
def hitsB (ls : List (List Key × V)) : List (List Key × V) → Bool
  | [] => true
  | (k, v) :: r => match valV ls k with
    | none => false
    | some y => eqV v y && hitsB ls r
def eqT (ks ls : List (List Key × V)) : Bool := ks.length == ls.length && hitsB ls ks
theorem hits_of {P : Program} {w : World} {A : Around} {s : Shared} {H : Hp} {ls : List (List Key × V)} {ys : List (List Key × Addr × Value)} (rl : KT H ls ys) (fl : ∀ p ∈ ls, flatV p.2 = true) :
    ∀ {ks : List (List Key × V)} {xs : List (List Key × Addr × Value)}, KT H ks xs → (∀ p ∈ ks, flatV p.2 = true) → Hits A s ys xs (hitsB ls ks)
  | [], _, .nil, _ => .nil
  | (k, v) :: r, _, .cons (b := q) h t, f => by
    obtain ⟨k', b, u⟩ := q
    obtain ⟨e1, _, rv⟩ := h
    have e1' : k = k' := e1
    subst e1'
    have ih := hits_of (A := A) (s := s) (P := P) (w := w) rl fl t fun p hp => f p (List.mem_cons_of_mem _ hp)
    have rel := rl.val k
    unfold hitsB
    cases e : valV ls k with
    | none =>
      rw [e] at rel
      cases g : atKey ys k with
      | none => exact .miss g
      | some z =>
        rw [g] at rel
        exact rel.elim
    | some y =>
      rw [e] at rel
      cases g : atKey ys k with
      | none =>
        rw [g] at rel
        exact rel.elim
      | some z =>
        rw [g] at rel
        refine .hit g ?_ ih
        have fy : flatV y = true := by
          obtain ⟨p, hp, ep⟩ := Option.map_eq_some_iff.mp (show (ls.find? fun kv => decide (kv.1 = k)).map (·.2) = some y from e)
          rw [← ep]
          exact fl p (List.mem_of_find?_eq_some hp)
        exact eqAt_V rv rel (f _ List.mem_cons_self) fy
def rEqT (neg : Bool) : R2 := fun x y H Q => ∃ a b ks ls, x = .ref a ∧ y = .ref b ∧ Rd H a (.dT ks) ∧ Rd H b (.dT ls) ∧ (∀ p ∈ ks, flatV p.2 = true) ∧ (∀ p ∈ ls, flatV p.2 = true) ∧ Q (.bl (if neg then !eqT ks ls else eqT ks ls)) H
section
variable {X : Cx} {n : Nat}
theorem tuple_room {P : Program} {w : World} {A : Around} {k : Nat} (hr : Room (k + 1) A) : (tupleKind (mixKind P w)).room A.in1 := by
  have h : A.in1.units < cLine := by
    have e := hr.units
    show A.units + 1 < cLine
    omega
  exact h
theorem eq_dT {pins : List (Addr × Obj)} {σ : L2.St} {H : Hp} {s : Shared} {op : CmpOp} (hop : op = .Eq ∨ op = .NotEq) (hr : Room (n + 1) X.A) {a b : Addr} {ks ls : List (List Key × V)} {Q : Value → Shared → Prop} (I : Inv X pins σ H s) (ha : Rd H a (.dT ks)) (hb : Rd H b (.dT ls))
    (fa : ∀ p ∈ ks, flatV p.2 = true) (fb : ∀ p ∈ ls, flatV p.2 = true) (q : Q (.bool (eqT ks ls == decide (op = .Eq))) s) : wpAny (model X.prog X.w) X.A (compareOp op (.ref a) (.ref b)) Q X.xe s := by
  obtain ⟨za, ya, xs, ra, da⟩ := dt_rd I.hok ha
  obtain ⟨zb, yb, zs, rb, db⟩ := dt_rd I.hok hb
  refine cmp_eq hop ya yb (tuple_room hr) da db hr.units0 (fun _ => hits_of (P := X.prog) (w := X.w) rb fb ra fa) ?_
  have e1 : ks.length = xs.length := Paired.length ra
  have e2 : ls.length = zs.length := Paired.length rb
  rw [← e1, ← e2]
  exact q
theorem op_eqT (hr : Room (n + 1) X.A) : OpR X (compareOp .Eq) (rEqT false) := by
  intro pins s σ H x y v u Q I rx ry h
  obtain ⟨a, b, ks, ls, rfl, rfl, ha, hb, fa, fb, q⟩ := h
  cases rx
  cases ry
  refine eq_dT (.inl rfl) hr I ha hb fa fb ⟨.bl (eqT ks ls), H, I, ?_, q⟩
  rw [show (eqT ks ls == decide (CmpOp.Eq = CmpOp.Eq)) = eqT ks ls from by cases eqT ks ls <;> rfl]
  exact rfl
theorem op_neT (hr : Room (n + 1) X.A) : OpR X (compareOp .NotEq) (rEqT true) := by
  intro pins s σ H x y v u Q I rx ry h
  obtain ⟨a, b, ks, ls, rfl, rfl, ha, hb, fa, fb, q⟩ := h
  cases rx
  cases ry
  refine eq_dT (.inr rfl) hr I ha hb fa fb ⟨.bl (!eqT ks ls), H, I, ?_, q⟩
  rw [show (eqT ks ls == decide (CmpOp.NotEq = CmpOp.Eq)) = !eqT ks ls from by cases eqT ks ls <;> rfl]
  exact rfl
end
end Dh

set_option Elab.async false
set_option linter.all false
set_option maxRecDepth 100000
set_option maxHeartbeats 2000000
/-! Dict comprehensions of either kind of keys: ints and texts, or tuples of them. -/
namespace Dh
open PySem PySem.Spec PyProof.Rows L2
/-- an empty dict, to hold keys of a kind -/
def mt : Bool → HO
  | true => .dT []
  | false => .dK []
theorem mt_ok {P : Program} {w : World} {H : Hp} (t : Bool) (h : Heap) (hb : sysModules < h.objs.size) : ObjOk P w H (h.push { cls := .type "dict", data := .dict #[] }) h.objs.size (mt t) := by
  cases t with
  | true => exact dt_empty h hb
  | false => exact dk_empty h hb
section
variable {X : Cx}
theorem put_any {pins : List (Addr × Obj)} {σ : L2.St} {H H' : Hp} {s : Shared} {E : Value → Shared → Prop} {D : Addr} {y v : V} {u r : Value} {Q : Unit → Shared → Prop} (hu : X.A.units + 1 < cLine) (I : Inv X pins σ H s) (g : DPut H D y v H') (ry : RelV y u) (rv : RelV v r)
    (h : ∀ s', Inv X pins σ H' s' → Q () s') : wpAny (model X.prog X.w) X.A (dictSet D u r) Q E s := by
  rcases g with ⟨kvs, k, e, rfl, l, rfl⟩ | ⟨kvs, k, b, e, rfl, eb, l, rfl⟩
  · exact d_dictSet I e l ry rv h
  · cases ry
    obtain ⟨z, nm, xs, rel, dd⟩ := dt_of I.hok e
    have room : (tupleKind (mixKind X.prog X.w)).room X.A := by
      show X.A.units < cLine
      omega
    refine wpAny_dictSet_heap (hsz := by rw [← Paired.length rel]; exact z) room (key_of I.hok eb) dd fun h' dd' only => h _ ?_
    obtain ⟨o', es, ep, at', ex', dat', ent', _, nd'⟩ := dd'
    have rel' := rel.put k eb rv
    have more : (putK kvs k v).length ≤ sizeLine := by
      have := length_putK kvs k v
      omega
    refine d_write I (by rw [e]; exact True.intro) only ⟨o', at'⟩ ⟨more, nm, _, rel'.keeps fun c ys ec => ?_, o', es, ep, at', ex', dat', ent', nd'⟩
    rw [upd_ne (ne_of ec e (fun z => nomatch z))]
    exact ec
/-- {k: v for target in iter if ..}: D the new dict, t the kind of its keys -/
def tDcA (t : Bool) (wi : TI) (g : TG) (tt : TT) (tk tv : TE) (vs : List Nat) : TE := fun σ H Q => wi σ H fun J H1 => ∀ D, H1 D = none → ∃ W : Nat → Nat → Hp → Prop, (∃ m, W 0 m (upd H1 D (mt t))) ∧ ∀ i m H, W i m H →
  (J.stop i H ∧ Q (.ref D) H) ∨ (J.go i H ∧ ∃ Nx : Hp → Prop, (∀ H', Nx H' → ∃ m', m' < m ∧ W (i + 1) m' H') ∧ ∀ x H', J.yld i H x H' → g x (wipe σ vs) H' fun σ2 H2 => wipe σ2 vs = wipe σ vs ∧ tt σ2 H2 fun b H3 =>
    if b = true then tk σ2 H3 fun y H4 => tv σ2 H4 fun z H5 => ∃ H6, DPut H5 D y z H6 ∧ Nx H6 else Nx H3)
section
variable {pins : List (Addr × Obj)} {σ : L2.St} {H : Hp} {s : Shared} {kx vx tg iter : Expr} {ifs : List Expr} {scope : Scope} {own : List (Str × Nat)} {pos pos' : Pos} {t : Bool} {wi : TI} {g : TG} {tt : TT} {tk tv : TE}
/-- what stands in the block of a comprehension: its target, tests, key, value -/
structure Blk (X : Cx) (scope : Scope) (tg : Expr) (ifs : List Expr) (kx vx : Expr) (g : TG) (tt : TT) (tk tv : TE) : Prop where
  g : ∀ (s : Shared) (H : Hp) (C : Addr) (cl : List (Str × Addr)) (fp : List Addr), PG (X.blk s H scope (compEnvC scope cl C X.env) fp) tg g
  t : ∀ (s : Shared) (H : Hp) (C : Addr) (cl : List (Str × Addr)) (fp : List Addr), PTs (X.blk s H scope (compEnvC scope cl C X.env) fp) ifs tt
  k : ∀ (s : Shared) (H : Hp) (C : Addr) (cl : List (Str × Addr)) (fp : List Addr), PE (X.blk s H scope (compEnvC scope cl C X.env) fp) kx tk
  v : ∀ (s : Shared) (H : Hp) (C : Addr) (cl : List (Str × Addr)) (fp : List Addr), PE (X.blk s H scope (compEnvC scope cl C X.env) fp) vx tv
theorem dcA_core {Q : VK} {use : Option (Value → Sem Unit)} {Qf : Value → Shared → Prop} (hu : X.A.units + 1 < cLine) (hc : X.calm = true) (hN : X.N.Nodup) (I : Inv X pins σ H s) (hi : PI X tg iter wi) (ok : BlkOk X.N X.env.scope scope own) (B : Blk X scope tg ifs kx vx g tt tk tv)
    (hs : ∀ x, foldedSetIterable iter X.env x = pure x) (h : tDcA t wi g tt tk tv (own.map (·.2)) σ H Q)
    (out : ∀ D C s' m H', Inv X pins σ H' s' → Q (.ref D) H' → s'.heap.Ns C m → FpOk X pins H' C → compPost (model X.prog X.w) X.A X.xe use Qf (.ref D) C (.ok .next) s') :
    wpAny (model X.prog X.w) X.A (comprehension (.DictComp kx vx [⟨tg, iter, ifs, 0⟩] scope pos) scope X.env pos' newDict false (eval iter X.env) use) Qf X.xe s := by
  have outer : ∀ y ∈ scope.names, y.2 = .free → ∃ c, X.env.cells.lookup y.1 = some c := fun y hy e => (ok.free y hy e).elim (fun k => I.ok.has _ (.inl k)) fun k => I.ok.has _ (.inr k)
  refine wpAny_comprehension_free (use := use) rfl hs (closure_ok outer) ok.kind (fun y hy e => by rw [ok.uniq y hy, e]) (thn (hi.run pins s σ H _ I h) fun xv s1 hx => thn hx fun itv s2 h2 => ?_)
  obtain ⟨it, fp, tn, J, H2, rfl, I2, T, st2, f2, q⟩ := h2
  refine wpAny_newObj_type (newEnv_comp ?_)
  obtain ⟨D, eD⟩ : ∃ D, D = s2.heap.objs.size := ⟨_, rfl⟩
  have low : ∀ b ∈ fp, b < D := fun b hb => by
    obtain ⟨o, e, _⟩ := T.obj _ _ st2 b hb
    rw [eD]
    exact Heap.lt_size e
  obtain ⟨W, ⟨m0, w0⟩, turn⟩ := q D (I2.hok.fresh (Nat.le_of_eq eD.symm))
  -- the new dict
  obtain ⟨s3, es3⟩ : ∃ s3 : Shared, s3 = { s2 with heap := s2.heap.push { cls := .type "dict", data := .dict #[] } } := ⟨_, rfl⟩
  have kp3 : ∀ b o, s2.heap.get? b = some o → s3.heap.get? b = some o := fun b o e => by
    rw [es3]
    exact Heap.get?_push_of_some _ e
  have size3 : s3.heap.objs.size = D + 1 := by
    rw [es3, eD]
    exact Heap.size_push ..
  obtain ⟨H3, eH3⟩ : ∃ H3, H3 = upd H2 D (mt t) := ⟨_, rfl⟩
  rw [← eH3] at w0
  have I3 : Inv X pins σ H3 s3 := by
    rw [eH3, es3]
    refine I2.laid (t' := s2.toks) (fun b o e => Heap.get?_push_of_some _ e) (Nat.le_of_eq eD.symm) ?_
    rw [eD]
    exact mt_ok t s2.heap I2.big
  have off : ∀ b ∈ fp, H3 b = none := fun b hb => by
    rw [eH3, upd_ne (Nat.ne_of_lt (low b hb))]
    exact (f2 b hb).1
  have f3 : ∀ b ∈ fp, FpOk X pins H3 b ∧ b < s3.heap.objs.size := fun b hb => ⟨⟨off b hb, (f2 b hb).2⟩, by rw [size3]; exact Nat.lt_succ_of_lt (low b hb)⟩
  have I4 := block_start I3 ok hN f3
  obtain ⟨ce, ece⟩ : ∃ ce, ce = compEnvC scope (cellsFrom (s3.heap.objs.size + 1) scope.names (cloFrom X.env.cells scope.names [])) s3.heap.objs.size X.env := ⟨_, rfl⟩
  obtain ⟨s4, es4⟩ : ∃ s4 : Shared, s4 = { s3 with heap := pushCells (s3.heap.push { cls := .type "dict", data := .dict #[] }) scope.names } := ⟨_, rfl⟩
  have pg := B.g s3 H3 s3.heap.objs.size (cellsFrom (s3.heap.objs.size + 1) scope.names (cloFrom X.env.cells scope.names [])) fp
  have pt := B.t s3 H3 s3.heap.objs.size (cellsFrom (s3.heap.objs.size + 1) scope.names (cloFrom X.env.cells scope.names [])) fp
  have pk := B.k s3 H3 s3.heap.objs.size (cellsFrom (s3.heap.objs.size + 1) scope.names (cloFrom X.env.cells scope.names [])) fp
  have pe := B.v s3 H3 s3.heap.objs.size (cellsFrom (s3.heap.objs.size + 1) scope.names (cloFrom X.env.cells scope.names [])) fp
  rw [← ece] at I4 pg pt pk pe
  have st4 : tn 0 s4.heap := T.keep _ _ _ st2 fun b _ o e => by
    rw [es4]
    exact pushCells_keeps _ _ _ _ (Heap.get?_push_of_some _ (kp3 b o e))
  have I5 : Inv (X.blk s3 H3 scope ce fp) [] (wipe σ (own.map (·.2))) H3 s4 := by
    rw [es4]
    exact I4
  -- what the walk's own objects are to the block
  have held : ∀ {σ' : L2.St} {H' : Hp} {s' : Shared}, Inv (X.blk s3 H3 scope ce fp) [] σ' H' s' → (∀ b ∈ fp, H' b = none) → ∀ b ∈ fp, FpOk (X.blk s3 H3 scope ce fp) [] H' b := fun {σ' H' s'} J' hn b hb =>
    ⟨hn b hb, (J'.ok.exf b hb).1, J'.ok.exfs b hb, .inl hb, fun x c e => (J'.ok.exf b hb).2 x c e, fun p hp => nomatch (show p ∈ ([] : List (Addr × Obj)) from hp)⟩
  have loop : codeAny (model X.prog X.w) X.A (.compLoop (.DictComp kx vx [⟨tg, iter, ifs, 0⟩] scope pos) 0 (.ref it) (.ref D) ce) (compPost (model X.prog X.w) X.A X.xe use Qf (.ref D) s3.heap.objs.size) s4 := by
    refine compLoop_anyD (fun n s' => ∃ i H', Inv (X.blk s3 H3 scope ce fp) [] (wipe σ (own.map (·.2))) H' s' ∧ tn i s'.heap ∧ (∀ b ∈ fp, H' b = none) ∧ W i n H') ?_ m0 ⟨0, H3, I5, st4, off, w0⟩
    rintro n s5 ⟨i, H5, J5, st5, n5, w5⟩
    rcases turn i n H5 w5 with ⟨stop, fin⟩ | ⟨go, Nx, less, step⟩
    · refine thnF (T.done (X.blk s3 H3 scope ce fp) rfl rfl rfl hc i [] s5 _ H5 (fun _ _ => False) J5 (held J5 n5) st5 stop) fun r s6 ⟨er, J6⟩ => ?_
      subst er
      have J7 : Inv X pins σ H5 s6 := I3.call' (ch := fp) J6.os J6.base J6.hok J6.bare fun b hb => ⟨(f3 b hb).1.2.2.2.1, (f3 b hb).1.2.1, (f3 b hb).1.2.2.2.2.1, (f3 b hb).1.2.2.2.2.2⟩
      have noC : H5 s3.heap.objs.size = none := by
        have z : H5 ce.locals = none := J6.free
        rw [ece] at z
        exact z
      obtain ⟨m, ns, _⟩ := J6.loc
      have ns' : s6.heap.Ns ce.locals m := ns
      rw [ece] at ns'
      exact out D s3.heap.objs.size s6 m H5 J7 fin ns' (I3.fpOk (Nat.le_refl _) noC)
    · refine thnF (T.item (X.blk s3 H3 scope ce fp) rfl rfl rfl hc i [] s5 _ H5 (fun _ _ => False) J5 (held J5 n5) st5 go) fun r s6 ⟨u, er, h6⟩ => ?_
      subst er
      refine thnF h6 fun _ s7 ⟨x, H7, J7, r7, y7, st7, n7⟩ => ?_
      refine thnF (pg.run _ s7 _ H7 x u _ (J7.pinned (held J7 n7) (T.obj _ _ st7)) r7 (step x H7 y7)) fun _ s8 ⟨σ8, H8, J8, ew, q8⟩ => ?_
      refine thnF (pt.run _ s8 σ8 H8 _ J8 q8) fun b s9 ⟨H9, J9, q9⟩ => ?_
      have again : ∀ {s' : Shared} {H' : Hp}, Inv (X.blk s3 H3 scope ce fp) ([] ++ pinsAt fp s7.heap) σ8 H' s' → Nx H' → ∃ m, m < n ∧ ∃ i H', Inv (X.blk s3 H3 scope ce fp) [] (wipe σ (own.map (·.2))) H' s' ∧ tn i s'.heap ∧ (∀ b ∈ fp, H' b = none) ∧ W i m H' := fun {s' H'} J' nx => by
        obtain ⟨m', lt, w'⟩ := less H' nx
        have still : ∀ b ∈ fp, ∀ o, s7.heap.get? b = some o → s'.heap.get? b = some o ∧ H' b = none := fun b hb o e => by
          have z := J'.pin (b, o) (List.mem_append_right _ (List.mem_append_right _ (mem_pinsAt hb e)))
          exact ⟨z.1, z.2.1⟩
        refine ⟨m', lt, i + 1, H', (J'.unpinned (pins := [])).weak (by rw [← ew, wipe_length]) (fun j v e => ?_), T.keep _ _ _ st7 fun b hb o e => (still b hb o e).1, fun b hb => ?_, w'⟩
        · rw [← ew] at e
          exact (wipe_some e).1
        · obtain ⟨o, e, _⟩ := T.obj _ _ st7 b hb
          exact (still b hb o e).2
      cases b with
      | false => exact again J9 q9
      | true =>
        refine thnF (pk.run _ s9 σ8 H9 _ J9 q9) fun z s10 ⟨yk, H10, J10, r10, q10⟩ => ?_
        refine thnF (pe.run _ s10 σ8 H10 _ J10 q10) fun z2 s11 ⟨yv, H11, J11, r11, H12, put, nx⟩ => ?_
        exact put_any (X := X.blk s3 H3 scope ce fp) hu J11 put r10 r11 fun s12 J12 => again J12 nx
  have start := codeAny_compStart_dict loop (T.self X.A 0 _ _ _ st4 loop)
  subst es4 ece es3 eD
  exact start
end
/-- {k: v for target in iter if ..} as a value, its keys of the kind t -/
theorem pe_dcA {t : Bool} {kx vx tg iter : Expr} {ifs : List Expr} {scope : Scope} {own : List (Str × Nat)} {pos : Pos} {wi : TI} {g : TG} {tt : TT} {tk tv : TE} (hu : X.A.units + 1 < cLine) (hc : X.calm = true) (hN : X.N.Nodup) (hi : PI X tg iter wi) (ok : BlkOk X.N X.env.scope scope own)
    (B : Blk X scope tg ifs kx vx g tt tk tv) (hs : ∀ x, foldedSetIterable iter X.env x = pure x := by intro _; rfl) : PE X (.DictComp kx vx [⟨tg, iter, ifs, 0⟩] scope pos) (tDcA t wi g tt tk tv (own.map (·.2))) := by
  refine ⟨fun pins s σ H Q I h => ?_⟩
  rw [arm_eval_DictComp]
  refine dcA_core hu hc hN I hi ok B hs h fun D C s' m H' J q hn f => ⟨m, hn, fun h'' only => ?_⟩
  obtain ⟨f0, f1, f2, f3, f4, f5⟩ := f
  exact ⟨.ref D, H', J.turned (t' := s'.toks) (fun b o hb e => (only.2 b hb).trans e) f0 f1 f3 f4 f5, rfl, q⟩
/-- .. over anything that is walked: Pv by the turn and the heap (the new dict at D within) -/
theorem dcA_it {J : It} {n : Nat} {G : Hp → Prop} {Y : Nat → Hp → V → Hp → Prop} (w : Walk J n G Y) {t : Bool} {g : TG} {tt : TT} {tk tv : TE} {vs : List Nat} {σ : L2.St} {H1 : Hp} {D : Addr} {Qd : Hp → Prop} (Pv : Nat → Hp → Prop) (h0 : Pv 0 (upd H1 D (mt t))) (hG : ∀ i H, i ≤ n → Pv i H → G H)
    (turn : ∀ i x H H', i < n → Pv i H → Y i H x H' → g x (wipe σ vs) H' fun σ2 H2 => wipe σ2 vs = wipe σ vs ∧ tt σ2 H2 fun b H3 =>
      if b = true then tk σ2 H3 fun y H4 => tv σ2 H4 fun z H5 => ∃ H6, DPut H5 D y z H6 ∧ Pv (i + 1) H6 else Pv (i + 1) H3) (hd : ∀ H, Pv n H → Qd H) :
    ∃ W : Nat → Nat → Hp → Prop, (∃ m, W 0 m (upd H1 D (mt t))) ∧ ∀ i m H, W i m H → (J.stop i H ∧ Qd H) ∨ (J.go i H ∧ ∃ Nx : Hp → Prop, (∀ H', Nx H' → ∃ m', m' < m ∧ W (i + 1) m' H') ∧ ∀ x H', J.yld i H x H' →
      g x (wipe σ vs) H' fun σ2 H2 => wipe σ2 vs = wipe σ vs ∧ tt σ2 H2 fun b H3 => if b = true then tk σ2 H3 fun y H4 => tv σ2 H4 fun z H5 => ∃ H6, DPut H5 D y z H6 ∧ Nx H6 else Nx H3) := by
  refine ⟨fun i m H => m = n - i ∧ i ≤ n ∧ Pv i H, ⟨n, (Nat.sub_zero n).symm, Nat.zero_le n, h0⟩, fun i m H ⟨em, le, p⟩ => ?_⟩
  rcases Nat.lt_or_ge i n with lt | ge
  · refine .inr ⟨w.goes i H lt (hG i H le p), Pv (i + 1), fun H' p' => ⟨n - (i + 1), by omega, rfl, lt, p'⟩, fun x H' y => turn i x H H' lt p (w.yields i H x H' lt (hG i H le p) y)⟩
  · obtain rfl : i = n := Nat.le_antisymm le ge
    exact .inl ⟨w.stops H (hG i H le p), hd H p⟩
end
end Dh

set_option Elab.async false
set_option linter.all false
set_option maxRecDepth 100000
set_option maxHeartbeats 2000000
/-! sorted of tuples of ints and texts: of a list, of a dict's keys. -/
namespace Dh
open PySem PySem.Spec PyProof.Rows L2
/-- a key as the sorts see it -/
def ik (k : List Key) : List (Int ⊕ List Nat) := k.map fun
  | .inl i => .inl i
  | .inr z => .inr z.cps.toList
/-- a key stands before another one -/
def kLt (a b : List Key) : Bool := PyProof.Rows.lexLt itemOrd (ik a) (ik b)
/-- where the texts stand -/
def Shaped (shape : Nat → Bool) (k : List Key) : Prop := ∀ i x, k[i]? = some x → shape i = x.isRight
theorem items_of_key {shape : Nat → Bool} : ∀ (k : List Key) (us : List Value) (n : Nat), Vals (k.map kV) us → (∀ i x, k[i]? = some x → shape (n + i) = x.isRight) → tupItems shape n us = some (ik k)
  | [], _, _, .nil, _ => rfl
  | x :: k, _, n, .cons (b := u) r t, h => by
    have h0 : shape n = x.isRight := h 0 x rfl
    have ih := items_of_key k _ (n + 1) t fun i y e => by
      have q := h (i + 1) y (by simpa using e)
      rw [show n + 1 + i = n + (i + 1) from by omega]
      exact q
    cases x with
    | inl i =>
      obtain ⟨tk, rfl⟩ := (show ∃ t, u = Value.int i t from r)
      have h1 : shape n = false := h0
      show (if shape n = true then none else (tupItems shape (n + 1) _).map (Sum.inl i :: ·)) = _
      rw [h1, if_neg Bool.false_ne_true, ih]
      rfl
    | inr z =>
      obtain ⟨tk, rfl⟩ := (show ∃ t, u = Value.str z t from r)
      have h1 : shape n = true := h0
      show (if shape n = true then (tupItems shape (n + 1) _).map (Sum.inr z.cps.toList :: ·) else none) = _
      rw [h1, if_pos rfl, ih]
      rfl
theorem swo_of {α : Type} (O : KeyOrd) (f : α → O.α) : SrtO.Swo fun x y => O.blt (f x) (f y) := by
  refine ⟨fun x y h => ?_, fun x y z h1 h2 => ?_⟩
  · cases q : O.blt (f y) (f x) with
    | false => rfl
    | true =>
      have := O.trans _ _ _ h q
      rw [O.irrefl] at this
      exact this.symm
  · cases q : O.blt (f z) (f x) with
    | false => rfl
    | true =>
      rcases O.negTrans (f z) (f y) (f x) q with e | e
      · exact e.symm.trans h2 |>.symm ▸ rfl
      · exact e.symm.trans h1 |>.symm ▸ rfl
theorem kLt_irrefl (k : List Key) : kLt k k = false := (listOrd itemOrd).irrefl _
theorem ik_inj : ∀ a b : List Key, ik a = ik b → a = b
  | [], [], _ => rfl
  | [], _ :: _, h => nomatch h
  | _ :: _, [], h => nomatch h
  | x :: a, y :: b, h => by
    have h1 := (List.cons.inj h).1
    have h2 := ik_inj a b (List.cons.inj h).2
    cases x with
    | inl i =>
      cases y with
      | inl j =>
        have e : i = j := Sum.inl.inj h1
        rw [e, h2]
      | inr z => exact nomatch h1
    | inr z =>
      cases y with
      | inl j => exact nomatch h1
      | inr z' =>
        have e : z.cps.toList = z'.cps.toList := Sum.inr.inj h1
        have e' : z = z' := by
          obtain ⟨⟨l⟩⟩ := z
          obtain ⟨⟨l'⟩⟩ := z'
          have e2 : l = l' := e
          rw [e2]
        rw [e', h2]
/-- two different keys stand one before the other -/
theorem kLt_total {a b : List Key} (h1 : kLt a b = false) (h2 : kLt b a = false) : a = b := ik_inj a b ((listOrd itemOrd).total _ _ h1 h2)
theorem perm_back {α β : Type} {f : α → β} {m l : List β} (p : m.Perm l) : ∀ L : List α, L.map f = m → ∃ L' : List α, L'.Perm L ∧ L'.map f = l := by
  induction p with
  | nil => exact fun L e => ⟨L, .refl _, e⟩
  | cons x p ih =>
    intro L e
    cases L with
    | nil => exact nomatch e
    | cons z L =>
      have e1 := (List.cons.inj e).1
      obtain ⟨L', q1, q2⟩ := ih L (List.cons.inj e).2
      exact ⟨z :: L', q1.cons z, by rw [List.map_cons, q2, e1]⟩
  | swap x y l =>
    intro L e
    match L, e with
    | z :: z' :: L, e =>
      have e1 := (List.cons.inj e).1
      have e2 := (List.cons.inj (List.cons.inj e).2).1
      have e3 := (List.cons.inj (List.cons.inj e).2).2
      exact ⟨z' :: z :: L, List.Perm.swap .., by rw [List.map_cons, List.map_cons, e1, e2, e3]⟩
  | trans p1 p2 ih1 ih2 =>
    intro L e
    obtain ⟨L1, q1, q2⟩ := ih1 L e
    obtain ⟨L2, q3, q4⟩ := ih2 L1 q2
    exact ⟨L2, q3.trans q1, q4⟩
/-- tuples that are keys, in a heap -/
structure Keyed (h : Heap) (shape : Nat → Bool) (L : List (Addr × List Key)) : Prop where
  at_ : ∀ p ∈ L, ∃ o us n, h.get? p.1 = some o ∧ o.cls = .type "tuple" ∧ o.data = .seq us n ∧ Vals (p.2.map kV) us.toList ∧ Shaped shape p.2
  full : 2 ≤ L.length → ∀ p ∈ L, p.2 ≠ []
def keyAt (h : Heap) (shape : Nat → Bool) (v : Value) : List (Int ⊕ List Nat) := (tupKey h shape v).getD []
theorem Keyed.key {h : Heap} {shape : Nat → Bool} {L : List (Addr × List Key)} (K : Keyed h shape L) {p : Addr × List Key} (hp : p ∈ L) : tupKey h shape (.ref p.1) = some (ik p.2) := by
  obtain ⟨o, us, n, ho, hc, hd, hv, hs⟩ := K.at_ p hp
  have e := items_of_key p.2 us.toList 0 hv fun i x q => by
    rw [Nat.zero_add]
    exact hs i x q
  simp only [tupKey, ho, hd]
  exact e
theorem Keyed.keeps {h h' : Heap} {shape : Nat → Bool} {L : List (Addr × List Key)} (K : Keyed h shape L) (k : ∀ b o, h.get? b = some o → o.cls = .type "tuple" → h'.get? b = some o) : Keyed h' shape L :=
  ⟨fun p hp => by
    obtain ⟨o, us, n, ho, hc, r⟩ := K.at_ p hp
    exact ⟨o, us, n, k _ _ ho hc, hc, r⟩, K.full⟩
section
variable {prog : Program} {w : World} {A : Around} {s : Shared}
theorem tups_of {h : Heap} {shape : Nat → Bool} : ∀ (L : List (Addr × List Key)), Keyed h shape L → (∀ p ∈ L, p.2 ≠ []) → ∃ fs, TupsOf h shape (L.map fun p => Value.ref p.1) fs ∧ fs.length = L.length
  | [], _, _ => ⟨[], .nil, rfl⟩
  | p :: L, K, ne => by
    have K' : Keyed h shape L := ⟨fun q hq => K.at_ q (List.mem_cons_of_mem _ hq), fun _ q hq => ne q (List.mem_cons_of_mem _ hq)⟩
    obtain ⟨fs, h1, h2⟩ := tups_of L K' fun q hq => ne q (List.mem_cons_of_mem _ hq)
    obtain ⟨o, us, n, ho, hc, hd, hv, hs⟩ := K.at_ p List.mem_cons_self
    obtain ⟨a, k⟩ := p
    cases k with
    | nil => exact absurd rfl (ne (a, []) List.mem_cons_self)
    | cons x k =>
      obtain ⟨l⟩ := us
      cases hv with
      | @cons _ u _ us' r t =>
        refine ⟨u :: fs, .cons ⟨a, o, _, n, rfl, ho, hc, hd, rfl, fun q => ?_, fun q => ?_⟩ h1, by rw [List.length_cons, List.length_cons, h2]⟩
        · have e := hs 0 x rfl
          rw [q] at e
          cases x with
          | inl i => exact ⟨i, r⟩
          | inr z => exact nomatch e
        · have e := hs 0 x rfl
          rw [q] at e
          cases x with
          | inl i => exact nomatch e
          | inr z => exact ⟨z, r⟩
theorem sortable {h : Heap} {shape : Nat → Bool} {L : List (Addr × List Key)} {a : Addr} {vs : List Value} (hvs : vs = L.map fun p => Value.ref p.1) (K : Keyed s.heap shape L) (h2 : 2 ≤ L.length) (ha : ∀ o, s.heap.get? a = some o → o.cls ≠ .type "tuple") (hk : ∀ p ∈ L, keyAt h shape (.ref p.1) = ik p.2) :
    SrtO.SortableO prog w A s a vs fun v u => PyProof.Rows.lexLt itemOrd (keyAt h shape v) (keyAt h shape u) := by
  subst hvs
  intro h' keep
  have K' : Keyed h' shape L := K.keeps fun b o e c => keep b o (fun z => by subst z; exact ha o e c) e
  obtain ⟨fs, f1, f2⟩ := tups_of L K' (K.full h2)
  refine ⟨tuples' true, fun Q E q => tup_kind (s := { s with heap := h' }) (by omega) f1 q, fun p q hp hq => ?_⟩
  obtain ⟨p', hp', e1⟩ := List.mem_map.mp hp
  obtain ⟨q', hq', e2⟩ := List.mem_map.mp hq
  rw [← e1, ← e2]
  refine tup_ltAt (s := { s with heap := h' }) true A _ _ _ (ik p'.2) (ik q'.2) (K'.key hp') (K'.key hq') ⟨rfl, ?_⟩
  rw [SrtO.lt2, ← e1, ← e2, hk p' hp', hk q' hq']
end
theorem sorted_back {h : Heap} {shape : Nat → Bool} {L : List (Addr × List Key)} {out : List Value} (hk : ∀ p ∈ L, keyAt h shape (.ref p.1) = ik p.2)
    (h1 : SrtO.Srtd (fun v u => PyProof.Rows.lexLt itemOrd (keyAt h shape v) (keyAt h shape u)) out) (h2 : SrtO.Stb (fun v u => PyProof.Rows.lexLt itemOrd (keyAt h shape v) (keyAt h shape u)) out (L.map fun p => Value.ref p.1)) :
    ∃ L' : List (Addr × List Key), L'.Perm L ∧ L'.Pairwise (fun q r => kLt r.2 q.2 = false) ∧ out = L'.map fun p => Value.ref p.1 := by
  obtain ⟨L', p1, p2⟩ := perm_back h2.perm.symm L rfl
  refine ⟨L', p1, ?_, p2.symm⟩
  rw [← p2] at h1
  have h3 := List.pairwise_map.mp h1
  refine List.Pairwise.imp_of_mem (fun {q r} hq hr e => ?_) h3
  have e' : PyProof.Rows.lexLt itemOrd (keyAt h shape (.ref r.1)) (keyAt h shape (.ref q.1)) = false := e
  rw [hk r (p1.mem_iff.mp hr), hk q (p1.mem_iff.mp hq)] at e'
  exact e'
section
variable {X : Cx}
/-- what sorted gives of tuples of ints and texts -/
def rSortK (K : W.Frag) : List V → Hp → VK → Prop := fun vs H Q => ∃ (a : Addr) (L : List (Addr × List Key)) (shape : Nat → Bool), vs = [V.ref a] ∧ SqL K H a (L.map fun p => V.ref p.1) ∧ (∀ p ∈ L, SqT K H p.1 (p.2.map kV) ∧ Shaped shape p.2) ∧ (2 ≤ L.length → ∀ p ∈ L, p.2 ≠ []) ∧
  ∀ (L' : List (Addr × List Key)) (p : Addr), L'.Perm L → L'.Pairwise (fun q r => kLt r.2 q.2 = false) → H p = none → Q (.ref p) (upd H p (.lst (L'.map fun q => V.ref q.1)))
theorem refs_vals : ∀ L : List (Addr × List Key), Vals (L.map fun p => V.ref p.1) (L.map fun p => Value.ref p.1)
  | [] => .nil
  | _ :: L => .cons rfl (refs_vals L)
theorem vals_uniq : ∀ (L : List (Addr × List Key)) (us : List Value), Vals (L.map fun p => V.ref p.1) us → us = L.map fun p => Value.ref p.1
  | [], _, .nil => rfl
  | p :: L, _, .cons (b := u) r t => by
    have e : u = Value.ref p.1 := r
    rw [e, vals_uniq L _ t, List.map_cons]
theorem keyed_of {pins : List (Addr × Obj)} {σ : L2.St} {H : Hp} {s : Shared} {L : List (Addr × List Key)} {shape : Nat → Bool} (I : Inv X pins σ H s) (hk : ∀ p ∈ L, SqT X.K H p.1 (p.2.map kV) ∧ Shaped shape p.2) (h2 : 2 ≤ L.length → ∀ p ∈ L, p.2 ≠ []) : Keyed s.heap shape L :=
  ⟨fun p hp => by
    obtain ⟨its, rv, ⟨o, ho, hc, n, hd⟩, _⟩ := I.tuple (hk p hp).1
    exact ⟨o, its.toArray, n, ho, hc, hd, by simpa using rv, (hk p hp).2⟩, h2⟩
theorem cr_sortK : CallR X (.builtin "sorted") (rSortK X.K) := by
  intro pins s σ H vs us Q I r h
  obtain ⟨a, L, shape, rfl, hs, hk, h2, q⟩ := h
  obtain ⟨its, rv, hl, hz⟩ := I.list hs
  obtain rfl := vals_uniq L its rv
  rw [Vals.ref1 r]
  have K := keyed_of I hk h2
  have ka : ∀ p ∈ L, keyAt s.heap shape (.ref p.1) = ik p.2 := fun p hp => by
    unfold keyAt
    rw [K.key hp]
    rfl
  refine SrtO.sorted_ord (swo_of (listOrd itemOrd) (keyAt s.heap shape)) hl.isList (by rw [← rv.length]; exact hz) (fun n2 h₁ b hb kk => ?_) fun out hs hb => ?_
  · rw [List.length_map] at n2
    refine sortable (s := { s with heap := h₁ }) rfl (K.keeps fun c o e _ => (kk c o e).2) n2 (fun o e => ?_) ka
    have e' : some o = some (seqObj "list" (L.map fun p => Value.ref p.1).toArray 0) := e.symm.trans hb
    cases e'
    intro c
    exact absurd (Value.type.inj c) (by decide)
  · obtain ⟨L', p1, p2, rfl⟩ := sorted_back ka hs hb
    obtain ⟨ep, at'⟩ := PyProof.Rows.sortedAll_at s.heap (L.map fun p => Value.ref p.1) (L'.map fun p => Value.ref p.1).toArray
    have len : (L'.map fun p => V.ref p.1).length ≤ sizeLine := by
      rw [List.length_map, p1.length_eq, ← List.length_map (f := fun p : Addr × List Key => V.ref p.1)]
      exact hz
    exact ⟨.ref _, upd H (s.heap.objs.size + 1) (.lst (L'.map fun p => V.ref p.1)), I.laid (t' := s.toks) (fun _ _ => PyProof.Rows.sortedAll_old) (Nat.le_succ _) ⟨len, _, ep, refs_vals L', at'⟩, rfl, q L' _ p1 p2 (I.hok.fresh (Nat.le_succ _))⟩
theorem kt_mem {H : Hp} : ∀ {kvs : List (List Key × V)} {xs : List (List Key × Addr × Value)}, KT H kvs xs → ∀ x ∈ xs, H x.2.1 = some (.tup (x.1.map kV)) ∧ ∃ k ∈ kvs, k.1 = x.1
  | _, _, .nil, _, h => nomatch h
  | p :: _, _, .cons (b := q) r t, x, h => by
    rcases List.mem_cons.mp h with rfl | h
    · exact ⟨by rw [← r.1]; exact r.2.1, p, List.mem_cons_self, r.1⟩
    · obtain ⟨h1, k, hk, e⟩ := kt_mem t x h
      exact ⟨h1, k, List.mem_cons_of_mem _ hk, e⟩
theorem kt_keys {H : Hp} : ∀ {kvs : List (List Key × V)} {xs : List (List Key × Addr × Value)}, KT H kvs xs → xs.map ((fun z : Addr × List Key => z.2) ∘ fun x => (x.2.1, x.1)) = kvs.map (·.1)
  | _, _, .nil => rfl
  | _ :: _, _, .cons r t => by
    rw [List.map_cons, List.map_cons, kt_keys t, r.1]
    rfl
/-- sorted(d), the keys of d tuples -/
def rSortD (K : W.Frag) : List V → Hp → VK → Prop := fun vs H Q => ∃ (a : Addr) (kvs : List (List Key × V)) (shape : Nat → Bool), vs = [V.ref a] ∧ Rd H a (.dT kvs) ∧ (∀ p ∈ kvs, Shaped shape p.1) ∧ (2 ≤ kvs.length → ∀ p ∈ kvs, p.1 ≠ []) ∧
  ∀ (L : List (Addr × List Key)) (p : Addr), (L.map (·.2)).Perm (kvs.map (·.1)) → (∀ z ∈ L, H z.1 = some (.tup (z.2.map kV))) → L.Pairwise (fun q r => kLt r.2 q.2 = false) → H p = none → Q (.ref p) (upd H p (.lst (L.map fun q => V.ref q.1)))
theorem cr_sortD (hc : X.calm = true) : CallR X (.builtin "sorted") (rSortD X.K) := by
  intro pins s σ H vs us Q I r h
  obtain ⟨a, kvs, shape, rfl, hd, hsh, h2, q⟩ := h
  rw [Vals.ref1 r]
  obtain ⟨z, nm, ks, pr, o, es, ep, ho, hx, hdt, he, hn⟩ := (show ObjOk X.prog X.w H s.heap a (.dT kvs) from hd.ok I.hok)
  have l1 : es.size = ks.length := size_of_entries he
  have l2 : kvs.length = ks.length := Paired.length pr
  obtain ⟨L, eL⟩ : ∃ L : List (Addr × List Key), L = ks.map fun x => (x.2.1, x.1) := ⟨_, rfl⟩
  have lL : L.length = ks.length := by rw [eL, List.length_map]
  have there : ∀ p ∈ L, H p.1 = some (.tup (p.2.map kV)) ∧ ∃ k ∈ kvs, k.1 = p.2 := fun p hp => by
    rw [eL] at hp
    obtain ⟨x, hxm, rfl⟩ := List.mem_map.mp hp
    exact kt_mem pr x hxm
  have same : L.map (·.2) = kvs.map (·.1) := by
    rw [eL, List.map_map]
    exact kt_keys pr
  have K := keyed_of (L := L) (shape := shape) I (fun p hp => ⟨.of (there p hp).1, by
    obtain ⟨k, hkm, e⟩ := (there p hp).2
    rw [← e]
    exact hsh k hkm⟩) fun n p hp => by
    obtain ⟨k, hkm, e⟩ := (there p hp).2
    rw [← e]
    exact h2 (by omega) k hkm
  have ka : ∀ p ∈ L, keyAt s.heap shape (.ref p.1) = ik p.2 := fun p hp => by
    unfold keyAt
    rw [K.key hp]
    rfl
  have zz : L.length ≤ sizeLine := by omega
  refine Calls.call_function_entry PyProof.Rows.kind_sorted PyProof.Rows.plain_sorted PyProof.Rows.entry_sorted (PyProof.Rows.args_sorted1 _) ?_
  unfold Builtin.«sorted»
  refine wpAny_bind (m := checkCount "sorted" 1 1 _) (wpAny_pure ?_)
  refine wpAny_bind (W.kdu_collect (A := X.A.in1) (kdl_raw nm hx hdt) (I.ok.hd hc) ho (by omega) fun h' tk acc kp it => ?_)
  have ea : acc.toList = L.map fun p => Value.ref p.1 := by
    rw [eL, List.map_map]
    refine List.ext_getElem? fun j => ?_
    rw [List.getElem?_map]
    rcases Nat.lt_or_ge j ks.length with lt | ge
    · have lt' : j < acc.toList.length := by rw [Array.length_toList, it.1, l1]; exact lt
      obtain ⟨en, hen, hv⟩ := it.2 j acc.toList[j] (by rw [← Array.getElem?_toList]; exact List.getElem?_eq_getElem lt')
      have qe := entry_at he j
      rw [hen, List.getElem?_eq_getElem lt] at qe
      rw [List.getElem?_eq_getElem lt', hv, Option.some.inj qe, List.getElem?_eq_getElem lt]
      rfl
    · rw [List.getElem?_eq_none (by rw [Array.length_toList, it.1, l1]; exact ge), List.getElem?_eq_none ge]
      rfl
  rw [ea]
  have I1 : Inv X pins σ H { s with heap := h', toks := tk } := I.kept kp
  refine wpAny_bind (wpAny_newList ?_ (by rw [List.length_map]; exact zz))
  obtain ⟨g, eg⟩ : ∃ g, g = h'.push (seqObj "list" (L.map fun p => Value.ref p.1).toArray 0) := ⟨_, rfl⟩
  have gL : g.get? h'.objs.size = some (seqObj "list" (L.map fun p => Value.ref p.1).toArray 0) := by
    rw [eg]
    exact Heap.get?_push_size _ rfl
  have gk : ∀ b o, s.heap.get? b = some o → g.get? b = some o := fun b o e => by
    rw [eg]
    exact Heap.get?_push_of_some _ (kp b o e)
  show wpAny _ _ _ _ _ { s with heap := h'.push (seqObj "list" (L.map fun p => Value.ref p.1).toArray 0), toks := tk }
  rw [← eg]
  refine wpAny_bind (wpAny_holding (wpAny_call_entry PyProof.Rows.slot_list_sort ⟨_, gL, rfl⟩ PyProof.Rows.entry_list_sort
    (SrtO.list_sort_ord (s := { s with heap := g, toks := tk }) (swo_of (listOrd itemOrd) (keyAt s.heap shape)) gL (by rw [List.length_map]; exact zz) (fun n2 => ?_) fun out hs hb => ⟨_, rfl, ?_⟩) (PyProof.Rows.args_list_sort _)))
  · rw [List.length_map] at n2
    refine sortable (s := { s with heap := g, toks := tk }) rfl (K.keeps fun c o e _ => gk c o e) n2 (fun o e => ?_) ka
    have e' : some o = some (seqObj "list" (L.map fun p => Value.ref p.1).toArray 0) := e.symm.trans gL
    cases e'
    intro c
    exact absurd (Value.type.inj c) (by decide)
  · obtain ⟨L', p1, p2, rfl⟩ := sorted_back ka hs hb
    obtain ⟨e', at'⟩ := PyProof.Rows.sortedHeap_at (vs := L.map fun p => Value.ref p.1) (out := (L'.map fun p => Value.ref p.1).toArray) gL
    have len : (L'.map fun p => V.ref p.1).length ≤ sizeLine := by
      rw [List.length_map, p1.length_eq]
      exact zz
    refine wpAny_pure ⟨_, rfl, .ref h'.objs.size, upd H h'.objs.size (.lst (L'.map fun p => V.ref p.1)), I1.laid (t' := tk) (fun b u e => ?_) (Nat.le_refl _) ⟨len, _, e', refs_vals L', at'⟩, rfl,
      q L' _ (same ▸ p1.map (·.2)) (fun y hy => (there y (p1.mem_iff.mp hy)).1) p2 (I1.hok.fresh (Nat.le_refl _))⟩
    have lt : b < h'.objs.size := Heap.lt_size e
    rw [PyProof.Rows.sortedHeap_old (Nat.ne_of_lt lt) (by rw [eg, size_push']; exact Nat.lt_succ_of_lt lt), eg]
    exact Heap.get?_push_of_some _ e
end
end Dh

set_option Elab.async false
set_option linter.all false
set_option maxRecDepth 100000
set_option maxHeartbeats 2000000
/-! dict(pairs), tuple(d), d.clear() of dicts with tuple keys. -/
namespace Dh
open PySem PySem.Spec PyProof.Rows L2
/-- tuple(d): its keys -/
theorem tuple_of {prog : Program} {w : World} {A : Around} {E : Value → Shared → Prop} {s : Shared} {r d : Addr} {n : Nat} {P : Nat → Value → Prop} {OK : Heap → Prop} {Q : Value → Shared → Prop} (S : W.KdlSrc prog w "dict" r d n P OK) (hh : A.handled = none) (ok : OK s.heap) (hn : n ≤ sizeLine)
    (h : ∀ (h' : Heap) (tk : Nat) (acc : Array Value), (∀ b o, s.heap.get? b = some o → h'.get? b = some o) → ItemsOf P acc n → Q (.ref h'.objs.size) { s with heap := h'.push { cls := .type "tuple", data := .seq acc }, toks := tk }) :
    wpAny (model prog w) A (call (.type "tuple") [.ref r]) Q E s := by
  have body : codeAny (model prog w) A.in1 (.call (.builtin "tuple.__new__") ⟨[.type "tuple", .ref r], []⟩) (wants (fun obj s₁ => s₁.TypeIs obj "tuple" ∧ Q obj s₁) E) s := by
    refine codeAny_of_tree ?_
    show wpAny _ A.in1.in1 (do checkBuiltinCall "tuple.__new__" ⟨[.type "tuple", .ref r], []⟩; again (.builtin "tuple.__new__" ⟨[.type "tuple", .ref r], []⟩)) _ _ s
    refine wpAny_bind (wpAny_of_eq (PySem.F.newCall_tuple_1 _) (wpAny_pure ⟨plainId_quiet PySem.F.plain_tuple_new _, codeAny_builtin PySem.F.entry_tuple_new ?_⟩))
    rw [Around.under_plainId PySem.F.plain_tuple_new _]
    have f1 := sub_tuple_self
    have f2 := init_tuple_lookup
    have f3 := madeHere_tuple
    have f4 : s.TypeIs (.ref r) "dict" := S.type s ok
    have f5 : A.in1.in1.handled = none := hh
    wp_walk using wpAny_typeOf f4, W.kdu_collect (A := A.in1.in1) S f5 ok hn
    intro h' tk acc hk hacc
    show wpAny _ _ (Builtin.Tuple.tupleExact acc.toList.toArray >>= fun v => ret v) _ _ _
    rw [Array.toArray_toList]
    unfold Builtin.Tuple.tupleExact
    exact wpAny_bind (wpAny_newObj_type (wpAny_pure ⟨⟨_, Heap.get?_push_size _ rfl, rfl⟩, h h' tk acc hk hacc⟩) (by show acc.size ≤ sizeLine; rw [hacc.1]; exact hn))
  refine callType_codes (Q₁ := fun obj s₁ => s₁.TypeIs obj "tuple" ∧ Q obj s₁) PySem.F.called_tuple (PySem.F.typeCall_tuple_1 _) PySem.F.entry_object_init body fun obj s₁ h₁ => ?_
  exact ⟨h₁.1, PySem.F.args_object_init_2 obj _, object_init_meets PySem.F.called_tuple.init.lookup PySem.F.called_tuple.made (by decide) prog w A.in1 _ s₁ ⟨h₁.1, rfl, h₁.2⟩⟩
/-- a pair that is to become an entry: where it stands, where its key stands, the key, the value -/
structure Pr where
  at_ : Addr
  kat : Addr
  key : List Key
  val : V
def Pr.ok (K : W.Frag) (H : Hp) (e : Pr) : Prop := SqT K H e.at_ [.ref e.kat, e.val] ∧ H e.kat = some (.tup (e.key.map kV))
/-- the entries one after the other, a later one wins -/
def mergeT (kvs more : List (List Key × V)) : List (List Key × V) := more.foldl (fun acc kv => putK acc kv.1 kv.2) kvs
theorem length_mergeT : ∀ (more kvs : List (List Key × V)), (mergeT kvs more).length ≤ kvs.length + more.length
  | [], _ => Nat.le_refl _
  | p :: r, kvs => by
    have h1 := length_mergeT r (putK kvs p.1 p.2)
    have h2 := length_putK kvs p.1 p.2
    rw [List.length_cons]
    exact Nat.le_trans h1 (by omega)
theorem kt_merge {H : Hp} : ∀ {more : List (List Key × V)} {ps : List (List Key × Addr × Value)} {kvs : List (List Key × V)} {xs : List (List Key × Addr × Value)}, KT H more ps → KT H kvs xs → KT H (mergeT kvs more) (storedAllH xs ps)
  | _, _, _, _, .nil, r => r
  | p :: m, _, _, _, .cons (b := q) h t, r => by
    obtain ⟨k, v⟩ := p
    obtain ⟨k', b, u⟩ := q
    obtain ⟨h1, h2, h3⟩ := h
    have e : k = k' := h1
    subst e
    show KT H (mergeT (putK _ k v) m) (storedAllH (storedH _ k b u) _)
    exact kt_merge t (r.put k h2 h3)
section
variable {X : Cx}
theorem pairs_vals {pins : List (Addr × Obj)} {σ : L2.St} {H : Hp} {s : Shared} (I : Inv X pins σ H s) : ∀ L : List Pr, (∀ e ∈ L, e.ok X.K H) → ∃ ps : List (List Key × Addr × Value), KT H (L.map fun e => (e.key, e.val)) ps ∧ ps.length = L.length ∧
    (∀ (j : Nat) (x : List Key × Addr × Value), ps[j]? = some x → ∃ e : Pr, L[j]? = some e ∧ x.2.1 = e.kat ∧ PairAt s.heap e.at_ (.ref e.kat) x.2.2) ∧ ∀ x ∈ ps, (tupleKind (mixKind X.prog X.w)).is s.heap x.1 x.2.1
  | [], _ => ⟨[], .nil, rfl, (fun _ _ h => nomatch h), (fun _ h => nomatch h)⟩
  | e :: L, h => by
    obtain ⟨ps, h1, h2, h3, h4⟩ := pairs_vals I L fun e he => h e (List.mem_cons_of_mem _ he)
    obtain ⟨ht, hk⟩ := h e List.mem_cons_self
    obtain ⟨its, rv, tp, _⟩ := I.tuple ht
    obtain ⟨u1, u2, rfl, r1, r2⟩ := vals2 rv
    cases r1
    refine ⟨(e.key, e.kat, u2) :: ps, .cons ⟨rfl, hk, r2⟩ h1, by rw [List.length_cons, List.length_cons, h2], fun j x hx => ?_, fun x hx => ?_⟩
    · cases j with
      | zero =>
        have q : (e.key, e.kat, u2) = x := Option.some.inj hx
        subst q
        exact ⟨e, rfl, rfl, .inl tp⟩
      | succ j =>
        obtain ⟨e', g1, g2, g3⟩ := h3 j x (by simpa using hx)
        exact ⟨e', by simpa using g1, g2, g3⟩
    · rcases List.mem_cons.mp hx with rfl | hx
      · exact key_of I.hok hk
      · exact h4 x hx
/-- dict(pairs), the keys tuples -/
def rDictP (K : W.Frag) : List V → Hp → VK → Prop := fun xs H Q => ∃ (a : Addr) (L : List Pr), xs = [.ref a] ∧ SqL K H a (L.map fun e => V.ref e.at_) ∧ (∀ e ∈ L, e.ok K H) ∧ ∀ p, H p = none → Q (.ref p) (upd H p (.dT (mergeT [] (L.map fun e => (e.key, e.val)))))
theorem call_dictPT (hc : X.calm = true) (hu : X.A.units + 64 < cLine) : CallR X (.type "dict") (rDictP X.K) := by
  intro pins s σ H xs us Q I r h
  obtain ⟨a, L, rfl, hs, hp, q⟩ := h
  rw [Vals.ref1 r]
  obtain ⟨its, rv, pl, hz⟩ := I.list hs
  rw [List.length_map] at hz
  obtain ⟨ps, k1, k2, k3, k4⟩ := pairs_vals I L hp
  have ei : its = L.map fun e => Value.ref e.at_ := by
    clear hs pl hz hp q k1 k2 k3 k4
    induction L generalizing its with
    | nil => cases rv; rfl
    | cons e L ih =>
      rw [List.map_cons] at rv
      cases rv with
      | cons r t =>
        rw [ih _ t, List.map_cons]
        exact congrArg (· :: _) r
  subst ei
  obtain ⟨vs, evs⟩ : ∃ vs : List (Value × Value), vs = ps.map fun x => (Value.ref x.2.1, x.2.2) := ⟨_, rfl⟩
  have lv : vs.length = L.length := by rw [evs, List.length_map, k2]
  have items : PairItems s.heap (L.map fun e => Value.ref e.at_).toArray (fun j => ((L[j]?).map (·.at_)).getD 0) vs := by
    refine ⟨by rw [List.size_toArray, List.length_map, lv], fun j k v hj => ?_⟩
    rw [evs, List.getElem?_map] at hj
    obtain ⟨x, hx, ex⟩ := Option.map_eq_some_iff.mp hj
    obtain ⟨e, g1, g2, g3⟩ := k3 j x hx
    cases ex
    have g4 : ((L[j]?).map (·.at_)).getD 0 = e.at_ := by
      rw [g1]
      rfl
    show _ = some (Value.ref (((L[j]?).map (·.at_)).getD 0)) ∧ PairAt s.heap (((L[j]?).map (·.at_)).getD 0) _ _
    rw [g4]
    refine ⟨?_, ?_⟩
    · show (L.map fun e => Value.ref e.at_).toArray[j]? = some (Value.ref e.at_)
      rw [List.getElem?_toArray, List.getElem?_map, g1]
      rfl
    · rw [g2]
      exact g3
  have room : (tupleKind (mixKind X.prog X.w)).room X.A.in1.in1 := by
    show X.A.units + 1 + 1 < cLine
    omega
  have lo : ¬ (s.heap.objs.size = sysModules) := Nat.ne_of_gt I.big
  refine call_dict_pairsH (knd := tupleKind (mixKind X.prog X.w)) (ps := ps) (PairArg.list (prog := X.prog) (w := X.w) a (L.map fun e => Value.ref e.at_).toArray (fun j => ((L[j]?).map (·.at_)).getD 0) vs) (I.ok.hd hc) room ⟨?_, items⟩ ⟨?_, fun i key v hrel => ?_⟩ (fun h' kk x hx => ?_) (by omega) fun h' tk hd' hk => ?_
  · obtain ⟨o, n, ho, hcl, hdd, hdat⟩ := pl
    exact ⟨o, n, ho, hcl, hdd, hdat⟩
  · rw [lv, k2]
  · have hrel' : vs[i]? = some (key, v) := hrel
    rw [evs, List.getElem?_map] at hrel'
    obtain ⟨x, hx, ex⟩ := Option.map_eq_some_iff.mp hrel'
    cases ex
    exact ⟨x.1, x.2.1, hx, rfl⟩
  · refine tupleKind_stays.stays (fun b o vs n e _ => kk b o (Nat.ne_of_lt (Heap.lt_size e)) (fun z => nomatch z) e) (k4 x hx)
  · have hm : (s.heap.objs.size == sysModules) = false := beq_eq_false_iff_ne.mpr lo
    have len : (mergeT [] (L.map fun e => (e.key, e.val))).length ≤ sizeLine := by
      have := length_mergeT (L.map fun e => (e.key, e.val)) []
      rw [List.length_map] at this
      exact Nat.le_trans this (by rw [List.length_nil, Nat.zero_add]; exact hz)
    have fresh : H s.heap.objs.size = none := I.hok.fresh (Nat.le_refl _)
    obtain ⟨o, es, ep, g1, g2, g3, g4, _, g5⟩ := hd'
    refine ⟨.ref s.heap.objs.size, upd H s.heap.objs.size (.dT (mergeT [] (L.map fun e => (e.key, e.val)))), I.laid (t' := tk) (fun b o e => hk b o (fun z => nomatch z) e) (Nat.le_refl _) ⟨len, hm, _, ?_, o, es, ep, g1, g2, g3, g4, g5⟩, rfl, q _ fresh⟩
    refine (kt_merge k1 .nil).keeps fun b ys e => ?_
    rw [upd_ne (ne_of_none e fresh)]
    exact e
/-- d.clear(), the keys of d tuples -/
def rClearT : V → List V → Hp → VK → Prop := fun x vs H Q => ∃ (a : Addr) (kvs : List (List Key × V)), x = .ref a ∧ vs = [] ∧ H a = some (.dT kvs) ∧ Q .non (upd H a (.dT []))
theorem mt_clearT : MtR X "dict.clear" rClearT := by
  intro pins s σ H x vs v us Q I rx rv h
  obtain ⟨a, kvs, rfl, rfl, e, q⟩ := h
  cases rx
  obtain rfl := rv.zero
  obtain ⟨z, nm, xs, rel, dd⟩ := dt_of I.hok e
  have lx : kvs.length = xs.length := Paired.length rel
  refine clear_keyed (knd := tupleKind (mixKind X.prog X.w)) (kvs := pairsH xs) ⟨xs, dd, rfl⟩ (fun h' dk only => ?_) (by rw [pairsH_length]; omega)
  obtain ⟨ys, dy, ey⟩ := dk
  have ny : ys = [] := by
    cases ys with
    | nil => rfl
    | cons y r => exact nomatch ey
  subst ny
  obtain ⟨o, es, ep, g1, g2, g3, g4, _, g5⟩ := dy
  exact ⟨.non, upd H a (.dT []), d_write (t' := s.toks) I (by rw [e]; exact True.intro) only ⟨o, g1⟩ ⟨Nat.zero_le _, nm, [], .nil, o, es, ep, g1, g2, g3, g4, g5⟩, rfl, q⟩
/-- tuple(d), list(d) of tuple keys: the keys, in their order -/
def rTupD : List V → Hp → VK → Prop := fun xs H Q => ∃ (a : Addr) (kvs : List (List Key × V)), xs = [.ref a] ∧ Rd H a (.dT kvs) ∧ ∀ p bs, H p = none → IsKeys H kvs bs → Q (.ref p) (upd H p (.tup (bs.map V.ref)))
theorem call_tupleD (hc : X.calm = true) : CallR X (.type "tuple") rTupD := by
  intro pins s σ H xs us Q I r h
  obtain ⟨a, kvs, rfl, hd, q⟩ := h
  rw [Vals.ref1 r]
  obtain ⟨z, nm, ks, pr, o, es, ep, ho, hx, hdt, he, hn⟩ := (show ObjOk X.prog X.w H s.heap a (.dT kvs) from hd.ok I.hok)
  have l1 : es.size = ks.length := size_of_entries he
  have l2 : kvs.length = ks.length := Paired.length pr
  refine tuple_of (kdl_raw nm hx hdt) (I.ok.hd hc) ho (by omega) fun h' tk acc kp it => ?_
  have ea : acc.toList = (ks.map fun x => x.2.1).map Value.ref := by
    rw [List.map_map]
    refine List.ext_getElem? fun j => ?_
    rw [List.getElem?_map]
    rcases Nat.lt_or_ge j ks.length with lt | ge
    · have lt' : j < acc.toList.length := by rw [Array.length_toList, it.1, l1]; exact lt
      obtain ⟨en, hen, hv⟩ := it.2 j acc.toList[j] (by rw [← Array.getElem?_toList]; exact List.getElem?_eq_getElem lt')
      have qe := entry_at he j
      rw [hen, List.getElem?_eq_getElem lt] at qe
      rw [List.getElem?_eq_getElem lt', hv, Option.some.inj qe, List.getElem?_eq_getElem lt]
      rfl
    · rw [List.getElem?_eq_none (by rw [Array.length_toList, it.1, l1]; exact ge), List.getElem?_eq_none ge]
      rfl
  have rv : Vals ((ks.map fun x => x.2.1).map V.ref) acc.toList := by
    rw [ea]
    exact vals_refs _
  have I1 : Inv X pins σ H { s with heap := h', toks := tk } := I.kept kp
  have len : ((ks.map fun x => x.2.1).map V.ref).length ≤ sizeLine := by
    rw [List.length_map, List.length_map]
    omega
  exact ⟨.ref h'.objs.size, upd H h'.objs.size (.tup ((ks.map fun x => x.2.1).map V.ref)), I1.laid (t' := tk) (fun b u e => Heap.get?_push_of_some _ e) (Nat.le_refl _) ⟨len, acc.toList, rv, ⟨_, Heap.get?_push_size _ rfl, rfl, 0, by simp⟩⟩, rfl, q _ _ (I1.hok.fresh (Nat.le_refl _)) (isKeys_of pr)⟩
end
end Dh

set_option Elab.async false
set_option linter.all false
set_option maxRecDepth 100000
set_option maxHeartbeats 4000000
/-! Values as data: their types, what isinstance says. -/
namespace An
open PySem PySem.Spec PyProof.Rows L2 Rp
mutual
/-- what is read as data, dicts within lists and tuples too -/
inductive Dq (K : PySem.W.Frag) (H : Hp) : V → PyData → Prop
  | non : Dq K H .non .none
  | bl (b : Bool) : Dq K H (.bl b) (.bool b)
  | int (i : Int) : Dq K H (.int i) (.int i)
  | str (x : Str) : Dq K H (.str x) (.str x)
  | lst {a : Addr} {xs : List V} {ds : List PyData} : SqL K H a xs → DqAll K H xs ds → Dq K H (.ref a) (.list ds)
  | tup {a : Addr} {xs : List V} {ds : List PyData} : SqT K H a xs → DqAll K H xs ds → Dq K H (.ref a) (.tuple ds)
  | dic {a : Addr} {ks : List (Key × V)} {ds : List (PyData × PyData)} : Rd H a (.dK ks) → Dq K H (.ref a) (.dict ds)
inductive DqAll (K : PySem.W.Frag) (H : Hp) : List V → List PyData → Prop
  | nil : DqAll K H [] []
  | cons {v : V} {vs : List V} {d : PyData} {ds : List PyData} : Dq K H v d → DqAll K H vs ds → DqAll K H (v :: vs) (d :: ds)
end
theorem DqAll.len {K : PySem.W.Frag} {H : Hp} : ∀ {vs : List V} {ds : List PyData}, DqAll K H vs ds → vs.length = ds.length
  | _, _, .nil => rfl
  | _, _, .cons _ t => congrArg (· + 1) (DqAll.len t)
mutual
theorem q_of {K : PySem.W.Frag} {H : Hp} : ∀ (d : PyData) (v : V), Rp.Dat K H v d → Dq K H v d
  | _, _, .non => .non
  | _, _, .bl b => .bl b
  | _, _, .int i => .int i
  | _, _, .str x => .str x
  | _, _, .lst (ds := ds) hs ha _ => .lst hs (qs_of ds _ ha)
  | _, _, .tup (ds := ds) hs ha _ => .tup hs (qs_of ds _ ha)
  | _, _, .dic hs _ _ => .dic hs
theorem qs_of {K : PySem.W.Frag} {H : Hp} : ∀ (ds : List PyData) (vs : List V), Rp.DatAll K H vs ds → DqAll K H vs ds
  | _, _, .nil => .nil
  | _, _, .cons h t => .cons (q_of _ _ h) (qs_of _ _ t)
end
theorem _root_.Rp.Dat.q {K : PySem.W.Frag} {H : Hp} {v : V} {d : PyData} (h : Rp.Dat K H v d) : Dq K H v d := q_of _ _ h
theorem _root_.Rp.DatAll.q {K : PySem.W.Frag} {H : Hp} {vs : List V} {ds : List PyData} (h : Rp.DatAll K H vs ds) : DqAll K H vs ds := qs_of _ _ h
def tyD : PyData → String
  | .none => "NoneType"
  | .bool _ => "bool"
  | .int _ => "int"
  | .str _ => "str"
  | .list _ => "list"
  | .tuple _ => "tuple"
  | .dict _ => "dict"
section
variable {K : PySem.W.Frag} {H : Hp} {v : V} {d : PyData}
theorem dat_ty (h : Dq K H v d) : TyX K H v (.type (tyD d)) := by
  cases h with
  | non => exact .base .non
  | bl b => exact .base (.bl b)
  | int i => exact .base (.int i)
  | str x => exact .base (.str x)
  | lst q _ =>
    rcases q with (q | ⟨o, q⟩) | ⟨o, its, n, q1, q2, _⟩
    · exact .base (.lst q)
    · exact .base (.frz q)
    · exact .kList q1 q2
  | tup q _ =>
    rcases q with (q | ⟨o, q⟩) | ⟨o, its, n, q1, q2, _⟩
    · exact .base (.tup q)
    · exact .fTuple q
    · exact .kTuple q1 q2
  | dic q =>
    rcases q with q | ⟨o, q⟩
    · exact .base (.dK q)
    · exact .fDict q
def isStr : PyData → Bool
  | .str _ => true
  | _ => false
def isIntB : PyData → Bool
  | .int _ => true
  | .bool _ => true
  | _ => false
def isBool : PyData → Bool
  | .bool _ => true
  | _ => false
def isTup : PyData → Bool
  | .tuple _ => true
  | _ => false
def isDict : PyData → Bool
  | .dict _ => true
  | _ => false
theorem kit_str (d : PyData) : PySem.W.kitOne K (.type (tyD d)) (.type "str") = some (isStr d) := by
  cases d with
  | none => exact kit_ty (a := "NoneType") (b := "str") (r := false) (by decide +kernel)
  | bool _ => exact kit_ty (a := "bool") (b := "str") (r := false) (by decide +kernel)
  | int _ => exact kit_ty (a := "int") (b := "str") (r := false) (by decide +kernel)
  | str _ => exact kit_ty (a := "str") (b := "str") (r := true) (by decide +kernel)
  | list _ => exact kit_ty (a := "list") (b := "str") (r := false) (by decide +kernel)
  | tuple _ => exact kit_ty (a := "tuple") (b := "str") (r := false) (by decide +kernel)
  | dict _ => exact kit_ty (a := "dict") (b := "str") (r := false) (by decide +kernel)
theorem kit_int (d : PyData) : PySem.W.kitOne K (.type (tyD d)) (.type "int") = some (isIntB d) := by
  cases d with
  | none => exact kit_ty (a := "NoneType") (b := "int") (r := false) (by decide +kernel)
  | bool _ => exact kit_ty (a := "bool") (b := "int") (r := true) (by decide +kernel)
  | int _ => exact kit_ty (a := "int") (b := "int") (r := true) (by decide +kernel)
  | str _ => exact kit_ty (a := "str") (b := "int") (r := false) (by decide +kernel)
  | list _ => exact kit_ty (a := "list") (b := "int") (r := false) (by decide +kernel)
  | tuple _ => exact kit_ty (a := "tuple") (b := "int") (r := false) (by decide +kernel)
  | dict _ => exact kit_ty (a := "dict") (b := "int") (r := false) (by decide +kernel)
theorem kit_bool (d : PyData) : PySem.W.kitOne K (.type (tyD d)) (.type "bool") = some (isBool d) := by
  cases d with
  | none => exact kit_ty (a := "NoneType") (b := "bool") (r := false) (by decide +kernel)
  | bool _ => exact kit_ty (a := "bool") (b := "bool") (r := true) (by decide +kernel)
  | int _ => exact kit_ty (a := "int") (b := "bool") (r := false) (by decide +kernel)
  | str _ => exact kit_ty (a := "str") (b := "bool") (r := false) (by decide +kernel)
  | list _ => exact kit_ty (a := "list") (b := "bool") (r := false) (by decide +kernel)
  | tuple _ => exact kit_ty (a := "tuple") (b := "bool") (r := false) (by decide +kernel)
  | dict _ => exact kit_ty (a := "dict") (b := "bool") (r := false) (by decide +kernel)
theorem kit_tup (d : PyData) : PySem.W.kitOne K (.type (tyD d)) (.type "tuple") = some (isTup d) := by
  cases d with
  | none => exact kit_ty (a := "NoneType") (b := "tuple") (r := false) (by decide +kernel)
  | bool _ => exact kit_ty (a := "bool") (b := "tuple") (r := false) (by decide +kernel)
  | int _ => exact kit_ty (a := "int") (b := "tuple") (r := false) (by decide +kernel)
  | str _ => exact kit_ty (a := "str") (b := "tuple") (r := false) (by decide +kernel)
  | list _ => exact kit_ty (a := "list") (b := "tuple") (r := false) (by decide +kernel)
  | tuple _ => exact kit_ty (a := "tuple") (b := "tuple") (r := true) (by decide +kernel)
  | dict _ => exact kit_ty (a := "dict") (b := "tuple") (r := false) (by decide +kernel)
theorem kit_dict (d : PyData) : PySem.W.kitOne K (.type (tyD d)) (.type "dict") = some (isDict d) := by
  cases d with
  | none => exact kit_ty (a := "NoneType") (b := "dict") (r := false) (by decide +kernel)
  | bool _ => exact kit_ty (a := "bool") (b := "dict") (r := false) (by decide +kernel)
  | int _ => exact kit_ty (a := "int") (b := "dict") (r := false) (by decide +kernel)
  | str _ => exact kit_ty (a := "str") (b := "dict") (r := false) (by decide +kernel)
  | list _ => exact kit_ty (a := "list") (b := "dict") (r := false) (by decide +kernel)
  | tuple _ => exact kit_ty (a := "tuple") (b := "dict") (r := false) (by decide +kernel)
  | dict _ => exact kit_ty (a := "dict") (b := "dict") (r := true) (by decide +kernel)
/-- isinstance of a datum -/
theorem isi_dat {Q : VK} {c : V} {cv : Value} {b : Bool} (h : Dq K H v d) (hc : ClsV c cv) (k : PySem.W.kitOne K (.type (tyD d)) cv = some b) (q : Q (.bl b) H) : rIsi K [v, c] H Q :=
  ⟨v, c, _, cv, b, rfl, hc, dat_ty h, k, q⟩
theorem dat_str (h : Dq K H v d) (e : isStr d = true) : ∃ z, v = .str z ∧ d = .str z := by
  cases h <;> first | exact ⟨_, rfl, rfl⟩ | cases e
theorem dat_int (h : Dq K H v d) (e : isIntB d = true) (n : isBool d = false) : ∃ i, v = .int i ∧ d = .int i := by
  cases h <;> first | exact ⟨_, rfl, rfl⟩ | exact Bool.noConfusion (show false = true from e) | exact Bool.noConfusion (show true = false from n)
theorem dat_tup (h : Dq K H v d) (e : isTup d = true) : ∃ a xs ds, v = .ref a ∧ d = .tuple ds ∧ SqT K H a xs ∧ DqAll K H xs ds := by
  cases h <;> first | exact ⟨_, _, _, rfl, rfl, ‹_›, ‹_›⟩ | cases e
theorem datAll_get : ∀ {vs : List V} {ds : List PyData}, DqAll K H vs ds → ∀ {i : Nat} {x : V}, vs[i]? = some x → ∃ y, ds[i]? = some y ∧ Dq K H x y
  | _, _, .nil, i, x, h => by cases h
  | _, _, .cons r t, 0, x, h => by
    have e := Option.some.inj h
    subst e
    exact ⟨_, rfl, r⟩
  | _, _, .cons r t, i + 1, x, h => datAll_get t h
end
/-! what a program's own tests say of data -/
def B60 : Int := 10 ^ 60
def isNumD : PyData → Bool
  | .int _ => true
  | _ => false
def isIntD : PyData → Bool
  | .int i => decide (-B60 < i) && decide (i < B60)
  | _ => false
def areIntsD : PyData → Bool
  | .tuple xs => xs.all isIntD
  | _ => false
def lenD : PyData → Nat
  | .tuple xs => xs.length
  | _ => 0
def isRowD (d : PyData) : Bool := areIntsD d && (decide (1 ≤ lenD d) && decide (lenD d ≤ 4))
def isHeadD (d : PyData) : Bool := areIntsD d && decide (lenD d ≤ 3)
def nameS (z : Str) : Bool := !decide (z.length > 8) && (Txt.isascii z && (Txt.isalpha z && Txt.islower z))
def isNameD : PyData → Bool
  | .str z => nameS z
  | _ => false
def forms : List Str := ["distinct", "count", "sum"]
def isFormD : PyData → Bool
  | .str z => decide (z ∈ forms)
  | _ => false
/-- a test of one datum -/
def spIs (f : PyData → Bool) (K : PySem.W.Frag) : Sp := fun vs H Q _ => ∃ v d, vs = [v] ∧ Dq K H v d ∧ Q (.bl (f d)) H
end An
namespace An
open PySem PySem.Spec PyProof.Rows L2 Rp
/-- a text that is not too long -/
def shortD : PyData → Bool
  | .str z => decide (z.length ≤ 1000)
  | _ => true
def spName (K : PySem.W.Frag) : Sp := fun vs H Q _ => ∃ v d, vs = [v] ∧ Dq K H v d ∧ shortD d = true ∧ Q (.bl (isNameD d)) H
end An

namespace An
open PySem PySem.Spec PyProof.Rows L2 Rp
abbrev rLenR (K : PySem.W.Frag) : List V → Hp → VK → Prop := fun xs H Q => ∃ x n, xs = [x] ∧ LenV K x H n ∧ Q (.int (n : Nat)) H
end An

namespace An
open PySem PySem.Spec PyProof.Rows L2 Rp
/-- a datum, or something else that is no tuple (as data: None) -/
def ArgD (K : PySem.W.Frag) (H : Hp) (v : V) (d : PyData) : Prop := Dq K H v d ∨ (d = .none ∧ ∃ t, TyX K H v t ∧ PySem.W.kitOne K t (.type "tuple") = some false)
theorem ArgD.tup {K : PySem.W.Frag} {H : Hp} {v : V} {d : PyData} (h : ArgD K H v d) : ∃ t, TyX K H v t ∧ PySem.W.kitOne K t (.type "tuple") = some (isTup d) := by
  rcases h with h | ⟨rfl, t, h1, h2⟩
  · exact ⟨_, dat_ty h, kit_tup d⟩
  · exact ⟨t, h1, h2⟩
theorem ArgD.dat {K : PySem.W.Frag} {H : Hp} {v : V} {d : PyData} (h : ArgD K H v d) (e : isTup d = true) : Dq K H v d := by
  rcases h with h | ⟨rfl, _⟩
  · exact h
  · cases e
def spArg (f : PyData → Bool) (K : PySem.W.Frag) : Sp := fun vs H Q _ => ∃ v d, vs = [v] ∧ ArgD K H v d ∧ Q (.bl (f d)) H
end An
namespace An
open PySem PySem.Spec PyProof.Rows L2 Rp
/-- all but the tables of code objects stays -/
def Ext (H H1 : Hp) : Prop := ∀ b o, H b = some o → (∀ ps, o ≠ .tbl ps) → H1 b = some o
theorem Ext.refl (H : Hp) : Ext H H := fun _ _ h _ => h
theorem Ext.trans {H H1 H2 : Hp} (a : Ext H H1) (b : Ext H1 H2) : Ext H H2 := fun c o h n => b c o (a c o h n) n
theorem Ext.of {H H1 : Hp} (S : Same H H1) : Ext H H1 := fun b o h _ => S b o h
section
variable {K : PySem.W.Frag} {H H1 : Hp} {p : Addr}
theorem Ext.lst {xs : List V} (S : Ext H H1) (h : H p = some (.lst xs)) : H1 p = some (.lst xs) := S _ _ h (fun _ z => nomatch z)
theorem Ext.tup {xs : List V} (S : Ext H H1) (h : H p = some (.tup xs)) : H1 p = some (.tup xs) := S _ _ h (fun _ z => nomatch z)
theorem Ext.dT {xs : List (List Key × V)} (S : Ext H H1) (h : H p = some (.dT xs)) : H1 p = some (.dT xs) := S _ _ h (fun _ z => nomatch z)
theorem Ext.ins {C dx : Addr} {fs : List (Str × V)} (S : Ext H H1) (h : H p = some (.ins C dx fs)) : H1 p = some (.ins C dx fs) := S _ _ h (fun _ z => nomatch z)
theorem Ext.rd {o : HO} (S : Ext H H1) (n : ∀ ps, o ≠ .tbl ps) (h : Rd H p o) : Rd H1 p o := by
  rcases h with h | ⟨u, h⟩
  · exact .inl (S _ _ h n)
  · exact .inr ⟨u, S _ _ h (fun _ z => nomatch z)⟩
theorem Ext.sqL {xs : List V} (S : Ext H H1) (h : SqL K H p xs) : SqL K H1 p xs := h.imp (S.rd (fun _ z => nomatch z)) id
theorem Ext.sqT {xs : List V} (S : Ext H H1) (h : SqT K H p xs) : SqT K H1 p xs := h.imp (S.rd (fun _ z => nomatch z)) id
mutual
theorem dat_ext (S : Ext H H1) : ∀ (d : PyData) (v : V), Dat K H v d → Dat K H1 v d
  | _, _, .non => .non
  | _, _, .bl b => .bl b
  | _, _, .int i => .int i
  | _, _, .str x => .str x
  | _, _, .lst (ds := ds) hs ha hn => .lst (S.sqL hs) (dats_ext S ds _ ha) hn
  | _, _, .tup (ds := ds) hs ha hn => .tup (S.sqT hs) (dats_ext S ds _ ha) hn
  | _, _, .dic (ds := ds) hs ha hn => .dic (S.rd (fun _ z => nomatch z) hs) (dats_ext S ds _ ha) hn
theorem dats_ext (S : Ext H H1) : ∀ (ds : List PyData) (vs : List V), DatAll K H vs ds → DatAll K H1 vs ds
  | _, _, .nil => .nil
  | _, _, .cons h t => .cons (dat_ext S _ _ h) (dats_ext S _ _ t)
end
theorem dat_same (S : Same H H1) {d : PyData} {v : V} (h : Dat K H v d) : Dat K H1 v d := dat_ext (.of S) _ _ h
theorem dats_same (S : Same H H1) {ds : List PyData} {vs : List V} (h : DatAll K H vs ds) : DatAll K H1 vs ds := dats_ext (.of S) _ _ h
mutual
theorem dq_ext (S : Ext H H1) : ∀ (d : PyData) (v : V), Dq K H v d → Dq K H1 v d
  | .none, _, h => by
    cases h
    exact .non
  | .bool b, _, h => by
    cases h
    exact .bl b
  | .int i, _, h => by
    cases h
    exact .int i
  | .str x, _, h => by
    cases h
    exact .str x
  | .list ds, _, h => by
    cases h with
    | lst hs ha => exact .lst (S.sqL hs) (dqs_ext S ds _ ha)
  | .tuple ds, _, h => by
    cases h with
    | tup hs ha => exact .tup (S.sqT hs) (dqs_ext S ds _ ha)
  | .dict ds, _, h => by
    cases h with
    | dic hs => exact .dic (S.rd (fun _ z => nomatch z) hs)
theorem dqs_ext (S : Ext H H1) : ∀ (ds : List PyData) (vs : List V), DqAll K H vs ds → DqAll K H1 vs ds
  | [], _, h => by
    cases h
    exact .nil
  | d :: ds, _, h => by
    cases h with
    | cons h t => exact .cons (dq_ext S d _ h) (dqs_ext S ds _ t)
end
theorem dq_same (S : Same H H1) {d : PyData} {v : V} (h : Dq K H v d) : Dq K H1 v d := dq_ext (.of S) _ _ h
theorem dqs_same (S : Same H H1) {ds : List PyData} {vs : List V} (h : DqAll K H vs ds) : DqAll K H1 vs ds := dqs_ext (.of S) _ _ h
end
end An

set_option Elab.async false
set_option linter.all false
set_option maxRecDepth 100000
set_option maxHeartbeats 4000000
/-! len(set(xs)), xs a list of ints, perhaps repeated. -/
namespace SL
open PySem PySem.Spec PyProof.Rows L2
/-- the different ints, as they first come -/
def dist (ns : List Int) : List Int := ns.foldl step_dedup []
theorem firstMet_all (ns : List Int) : firstMet (fun i => ns.getD i 0) ns.length = dist ns := by
  unfold firstMet dist
  congr 1
  refine List.ext_getElem (by simp) fun i h1 h2 => ?_
  rw [List.getElem_map, List.getElem_range, List.getD_eq_getElem?_getD, List.getElem?_eq_getElem h2]
  rfl
theorem mem_dist (x : Int) : ∀ (ns acc : List Int), x ∈ ns.foldl step_dedup acc ↔ x ∈ acc ∨ x ∈ ns
  | [], acc => by simp
  | n :: ns, acc => by
    rw [List.foldl_cons, mem_dist x ns]
    unfold step_dedup
    by_cases h : (acc.any (· == n)) = true
    · rw [if_pos h]
      obtain ⟨y, hy, e⟩ := List.any_eq_true.mp h
      have e2 : y = n := eq_of_beq e
      subst e2
      constructor
      · rintro (q | q)
        · exact .inl q
        · exact .inr (List.mem_cons_of_mem _ q)
      · rintro (q | q)
        · exact .inl q
        · rcases List.mem_cons.mp q with rfl | q
          · exact .inl hy
          · exact .inr q
    · rw [if_neg h]
      simp only [List.mem_append, List.mem_singleton, List.mem_cons, List.not_mem_nil, or_false]
      constructor
      · rintro ((q | q) | q)
        · exact .inl q
        · exact .inr (.inl q)
        · exact .inr (.inr q)
      · rintro (q | q | q)
        · exact .inl (.inl q)
        · exact .inl (.inr q)
        · exact .inr q
theorem dedup_nd : ∀ (ns acc : List Int), acc.Nodup → (ns.foldl step_dedup acc).Nodup
  | [], _, h => h
  | n :: ns, acc, h => by
    rw [List.foldl_cons]
    refine dedup_nd ns _ ?_
    unfold step_dedup
    by_cases q : (acc.any (· == n)) = true
    · rw [if_pos q]
      exact h
    · rw [if_neg q]
      refine List.nodup_append.mpr ⟨h, List.nodup_cons.mpr ⟨by simp, List.nodup_nil⟩, fun a ha b hb e => ?_⟩
      have hb' : b = n := by simpa using hb
      subst hb'
      subst e
      exact q (List.any_eq_true.mpr ⟨a, ha, beq_self_eq_true a⟩)
theorem dist_nd (ns : List Int) : (dist ns).Nodup := dedup_nd ns [] List.nodup_nil
theorem dist_mem {ns : List Int} {x : Int} : x ∈ dist ns ↔ x ∈ ns := by
  unfold dist
  rw [mem_dist]
  simp
/-- at most one int -/
theorem dist_one (ns : List Int) : (dist ns).length ≤ 1 ↔ ∀ a ∈ ns, ∀ b ∈ ns, a = b := by
  have nd := dist_nd ns
  constructor
  · intro h a ha b hb
    rw [← dist_mem] at ha hb
    match dist ns, h, ha, hb with
    | [x], _, ha, hb => rw [List.mem_singleton.mp ha, List.mem_singleton.mp hb]
  · intro h
    have q : ∀ a ∈ dist ns, ∀ b ∈ dist ns, a = b := fun a ha b hb => h a (dist_mem.mp ha) b (dist_mem.mp hb)
    match dist ns, nd, q with
    | [], _, _ => exact Nat.zero_le _
    | [x], _, _ => exact Nat.le_refl _
    | x :: y :: r, nd, q =>
      have e : x = y := q x List.mem_cons_self y (List.mem_cons_of_mem _ List.mem_cons_self)
      subst e
      exact absurd List.mem_cons_self (List.nodup_cons.mp nd).1
def tLenSetD (K : PySem.W.Frag) (ta : TE) : TE := fun σ H Q => ta σ H fun x H1 => ∃ (l : Addr) (ns : List Int), x = .ref l ∧ SqL K H1 l (ns.map V.int) ∧ ns.length ≤ 4000 ∧ Q (.int ((dist ns).length : Nat)) H1
theorem pe_lenSetD {X : Cx} {a : Expr} {ta : TE} {p p2 q pos : Pos} (hg : Gl X "len") (hm : X.mg "len" = none) (hg2 : Gl X "set") (hm2 : X.mg "set" = none) (ha : PE X a ta) (hc : X.calm = true := by rfl)
    (na : starEach [a] X.env = (false, eval a X.env) :: starEach [] X.env := by rfl) : PE X (.Call (.Name "len" p) [.Call (.Name "set" p2) [a] [] q] [] pos) (tLenSetD X.K ta) := by
  refine ⟨fun pins s σ H Q I h => ?_⟩
  refine Call_ (ld_blt I hg hm boot_len ?_)
  refine PyProof.Rows.callWith_builtin1 (PyProof.Rows.args_cons ?_ rfl) rfl rfl
  refine Call_ (ld_blt I hg2 hm2 boot_set ?_)
  refine PyProof.Rows.callWith_type1 (PyProof.Rows.args_cons (thn (ha.run pins s σ H _ I h) fun v s1 ⟨x, H1, I1, r1, q1⟩ => PyProof.Rows.args_nil ?_) na) na rfl
  obtain ⟨l, ns, rfl, hq, hl, q1⟩ := q1
  cases r1
  obtain ⟨its, r, pl, hz⟩ := I1.list hq
  have hlen : its.toArray.size = ns.length := by rw [List.size_toArray, ← r.length, List.length_map]
  refine call_set_list (I1.ok.hd hc) pl.isList (by simpa using RZ.intsAre_vals r) (by rw [hlen]; unfold scanBound; omega) fun h' tk hS hk => ?_
  refine PyProof.Rows.args_nil ?_
  rw [hlen, firstMet_all] at hS
  obtain ⟨o, es, ep, t, ho, hex, hd, _, _, _, hf, hn⟩ := hS
  have I2 : Inv X pins σ H1 { s1 with heap := h', toks := tk } := I1.kept fun b o e => hk b o (Heap.lt_size e) e
  have le : (dist ns).length ≤ ns.length := by
    rw [← firstMet_all]
    exact firstMet_length_le _ _
  exact call_len_set ho hex hd hf (by rw [hn] <;> omega) ⟨.int (dist ns).length, H1, I2.tok _, ⟨_, by rw [hn]⟩, q1⟩
end SL

set_option Elab.async false
set_option linter.all false
set_option maxRecDepth 100000
set_option maxHeartbeats 4000000
/-! Dicts whose keys are of several kinds: made from pairs with different keys, walked by keys. -/
namespace Mx
open PySem PySem.Spec PyProof.Rows L2
open SeqAt
/-- a stored key: what it is, its value, what it keeps -/
abbrev Ent := NestedKey × Value × Value
def ent (w : World) (x : Ent) : DictEntry := ⟨x.1.hash w, x.2.1, x.2.2⟩
def KeyOk (h : Heap) (k : NestedKey) (v : Value) : Prop := NestedIs h k v ∧ k.depth ≤ 8
section
variable {prog : Program} {w : World} {A : Around} {E : Value → Shared → Prop} {s : Shared}
theorem ent_at {es : Array DictEntry} {xs : List Ent} (he : es.toList = xs.map (ent w)) (j : Nat) : es[j]? = (xs[j]?).map (ent w) := by
  rw [← Array.getElem?_toList, he, List.getElem?_map]
theorem ent_size {es : Array DictEntry} {xs : List Ent} (he : es.toList = xs.map (ent w)) : es.size = xs.length := by
  rw [← Array.length_toList, he, List.length_map]
theorem ent_mem {es : Array DictEntry} {xs : List Ent} (he : es.toList = xs.map (ent w)) : ∀ e ∈ es, ∃ x ∈ xs, e = ent w x := by
  intro e hin
  have q : e ∈ xs.map (ent w) := he ▸ Array.mem_toList_iff.mpr hin
  obtain ⟨x, hx, rfl⟩ := List.mem_map.mp q
  exact ⟨x, hx, rfl⟩
theorem tells_not {key : Value} {k : NestedKey} {stored : List Value} {Q : Bool → Shared → Prop} (hk : KeyOk s.heap k key) (hst : ∀ v ∈ stored, ∃ k', KeyOk s.heap k' v) (h : Q false s) : wpAny (model prog w) A (tableMayTell key stored) Q E s := by
  unfold tableMayTell
  split
  · exact wpAny_pure h
  · refine wpAny_bind (quiet_key k key 8 s hk.1 hk.2 A E _ ?_)
    simp only [Bool.not_true, Bool.false_eq_true, if_false]
    refine wpAny_bind ?_
    refine wpAny_forIn_list _ (fun rest r s' => s' = s ∧ r = (none, ()) ∧ ∀ v ∈ rest, ∃ k', KeyOk s.heap k' v) _ ?_ ?_ _ _ ⟨rfl, rfl, hst⟩
    · rintro x rest r s' ⟨rfl, rfl, hr⟩
      obtain ⟨k', hb⟩ := hr x List.mem_cons_self
      refine wpAny_bind (quiet_key k' x 8 s' hb.1 hb.2 A E _ ?_)
      simp only [Bool.not_true, Bool.false_eq_true, if_false]
      exact wpAny_pure ⟨rfl, rfl, fun v hv => hr v (List.mem_cons_of_mem _ hv)⟩
    · rintro r s' ⟨rfl, rfl, _⟩
      exact wpAny_pure h
/-- a key that is not there is not found -/
theorem find_none {d : Addr} {o : Obj} {es : Array DictEntry} {ep : Nat} {xs : List Ent} {k : NestedKey} {key : Value} {Q : Option Nat → Shared → Prop} (hu : A.units + 8 < cLine) (hk : KeyOk s.heap k key)
    (ho : s.heap.get? d = some o) (hd : o.data = .dict es ep) (he : es.toList = xs.map (ent w)) (his : ∀ x ∈ xs, KeyOk s.heap x.1 x.2.1) (hne : ∀ x ∈ xs, x.1 ≠ k)
    (hv : carriedByValue key = true → ∀ x ∈ xs, carriedByValue x.2.1 = false) (h : Q none s) : wpAny (model prog w) A (dictFind d key (k.hash w)) Q E s := by
  have hmem := ent_mem he
  have hpl : ∀ i ∈ placesWithHash es.size (fun i => es[i]?.map (·.hash)) (k.hash w), ∃ x ∈ xs, es[i]? = some (ent w x) ∧ x.1.hash w = k.hash w := by
    intro i hi
    obtain ⟨h1, h2⟩ := List.mem_filter.mp hi
    have hl : i < es.size := List.mem_range.mp h1
    obtain ⟨x, hx, ex⟩ := hmem es[i] (Array.getElem_mem hl)
    refine ⟨x, hx, by rw [Array.getElem?_eq_getElem hl, ex], ?_⟩
    have h2 : (Option.map (fun x : DictEntry => x.hash) es[i]? == some (k.hash w)) = true := h2
    rw [Array.getElem?_eq_getElem hl, ex] at h2
    simpa [ent] using h2
  unfold dictFind
  try with_reducible refine wpAny_holding ?_
  refine wpAny_bind (wpAny_dictEntries ho hd ?_)
  dsimp only
  generalize placesWithHash es.size (fun i => es[i]?.map (·.hash)) (k.hash w) = pl at hpl ⊢
  have hst : ∀ v ∈ pl.filterMap (fun i => es[i]?.map (·.key)), ∃ x ∈ xs, v = x.2.1 := by
    intro v hvv
    obtain ⟨i, hi, q⟩ := List.mem_filterMap.mp hvv
    obtain ⟨x, hx, ex, _⟩ := hpl i hi
    rw [ex] at q
    have q : x.2.1 = v := by simpa [ent] using q
    exact ⟨x, hx, q.symm⟩
  have nil_of : (∀ v, v ∈ pl.filterMap (fun i => es[i]?.map (·.key)) → False) → pl = [] := fun no => by
    cases pl with
    | nil => rfl
    | cons i r =>
      obtain ⟨x, hx, ex, _⟩ := hpl i List.mem_cons_self
      refine (no x.2.1 (List.mem_filterMap.mpr ⟨i, List.mem_cons_self, ?_⟩)).elim
      rw [ex]
      rfl
  have str_no : ∀ y t, key = .str y t → xs ≠ [] → ¬ (es.all fun e => isExactStrKey e.key) = true := fun y t e ne q => by
    cases xs with
    | nil => exact ne rfl
    | cons x r =>
      have c := hv (by rw [e]; rfl) x List.mem_cons_self
      have hm : ent w x ∈ es := Array.mem_toList_iff.mp (by rw [he]; exact List.mem_cons_self)
      have z := Array.all_eq_true'.mp q _ hm
      have z' : isExactStrKey x.2.1 = true := z
      cases hx : x.2.1 <;> rw [hx] at z' c <;> first | exact Bool.noConfusion z' | exact Bool.noConfusion c
  have all_nil : carriedByValue key = true → (key :: pl.filterMap (fun i => es[i]?.map (·.key))).all carriedByValue = true → pl = [] := fun c q => nil_of fun v hvv => by
    obtain ⟨x, hx, ex⟩ := hst v hvv
    have z := List.all_eq_true.mp q v (List.mem_cons_of_mem _ hvv)
    rw [ex, hv c x hx] at z
    cases z
  have not_one : ¬ (pl.filterMap (fun i => es[i]?.map (·.key)) == [key]) = true := fun q => by
    have q2 := eq_of_beq q
    obtain ⟨x, hx, ex⟩ := hst key (by rw [q2]; exact List.mem_cons_self)
    exact hne x hx (NestedIs.inj _ _ _ (his x hx).1 (by rw [← ex]; exact hk.1))
  have hst2 : ∀ v ∈ pl.filterMap (fun i => es[i]?.map (·.key)), ∃ k', KeyOk s.heap k' v := fun v hvv => by
    obtain ⟨x, hx, ex⟩ := hst v hvv
    exact ⟨x.1, by rw [ex]; exact his x hx⟩
  have no_stale : ¬ (es.any fun e => e.key == key && e.hash != k.hash w) = true := by
    rw [← Array.any_toList, List.any_eq_true]
    rintro ⟨e, hin, hc⟩
    obtain ⟨x, hx, rfl⟩ := hmem e (Array.mem_toList_iff.mp hin)
    rw [Bool.and_eq_true] at hc
    have hxa : x.2.1 = key := eq_of_beq hc.1
    exact hne x hx (NestedIs.inj _ _ _ (his x hx).1 (by rw [hxa]; exact hk.1))
  obtain ⟨hk1, hk2⟩ := hk
  have hk1' := hk1
  cases hk1 with
  | @tup a0 o0 vs0 n0 ks0 g1 g2 g3 g4 =>
    dsimp only
    rw [if_neg (by simp [carriedByValue]), if_neg no_stale, if_neg not_one]
    refine wpAny_bind (tells_not ⟨hk1', hk2⟩ hst2 ?_)
    rw [if_neg (by simp)]
    refine wpAny_bind ?_
    refine wpAny_forIn_list _ (fun rest b s' => s' = s ∧ b = (none, none) ∧ ∀ i ∈ rest, ∃ x ∈ xs, es[i]? = some (ent w x) ∧ x.1.hash w = NestedKey.hash w (.tup ks0)) _ ?_ ?_ _ _ ⟨rfl, rfl, hpl⟩
    · rintro i rest b s' ⟨rfl, rfl, hr⟩
      obtain ⟨x, hx, ex, eh⟩ := hr i List.mem_cons_self
      have nb : NestedKey.beq x.1 (.tup ks0) = false := by
        rw [← NestedKey.decide_eq]
        exact decide_eq_false (hne x hx)
      rw [ex]
      dsimp only
      rw [if_pos (show ((ent w x).hash == _) = true from beq_iff_eq.mpr eh)]
      have dx := (his x hx).2
      refine wpAny_bind (wpAny_dictEpoch ho hd (wpAny_bind (eqAt_key x.1 (.tup ks0) A s' _ _ (his x hx).1 hk1' (by omega) _ _ _ _ ?_)))
      rw [nb]
      refine wpAny_bind (wpAny_dictEpoch ho hd ?_)
      rw [if_neg (by simp), if_neg (by simp)]
      refine wpAny_bind (wpAny_rule ?_)
      rw [if_neg (by simp)]
      exact wpAny_pure ⟨rfl, rfl, fun j hj => hr j (List.mem_cons_of_mem _ hj)⟩
    · rintro b s' ⟨rfl, rfl, _⟩
      exact wpAny_pure h
  | none =>
    dsimp only
    by_cases hall : (Value.none :: pl.filterMap (fun i => es[i]?.map (·.key))).all carriedByValue = true
    · have e0 := all_nil rfl hall
      subst e0
      rw [if_pos (by exact hall)]
      unfold dictWalkPlain
      exact wpAny_bind (wpAny_pure (wpAny_pure h))
    rw [if_neg (by exact hall), if_neg not_one]
    refine wpAny_bind (tells_not ⟨hk1', hk2⟩ hst2 ?_)
    rw [if_neg (by simp)]
    refine wpAny_bind ?_
    refine wpAny_forIn_list _ (fun rest b s' => s' = s ∧ b = (none, none) ∧ ∀ i ∈ rest, ∃ x ∈ xs, es[i]? = some (ent w x) ∧ x.1.hash w = NestedKey.hash w .none) _ ?_ ?_ _ _ ⟨rfl, rfl, hpl⟩
    · rintro i rest b s' ⟨rfl, rfl, hr⟩
      obtain ⟨x, hx, ex, eh⟩ := hr i List.mem_cons_self
      have nb : NestedKey.beq x.1 .none = false := by
        rw [← NestedKey.decide_eq]
        exact decide_eq_false (hne x hx)
      rw [ex]
      dsimp only
      rw [if_pos (show ((ent w x).hash == _) = true from beq_iff_eq.mpr eh)]
      have dx := (his x hx).2
      refine wpAny_bind (wpAny_dictEpoch ho hd (wpAny_bind (eqAt_key x.1 .none A s' _ _ (his x hx).1 hk1' (by omega) _ _ _ _ ?_)))
      rw [nb]
      refine wpAny_bind (wpAny_dictEpoch ho hd ?_)
      rw [if_neg (by simp), if_neg (by simp)]
      refine wpAny_bind (wpAny_rule ?_)
      rw [if_neg (by simp)]
      exact wpAny_pure ⟨rfl, rfl, fun j hj => hr j (List.mem_cons_of_mem _ hj)⟩
    · rintro b s' ⟨rfl, rfl, _⟩
      exact wpAny_pure h
  | @bool b0 i0 e0 =>
    dsimp only
    by_cases hall : (Value.bool b0 :: pl.filterMap (fun i => es[i]?.map (·.key))).all carriedByValue = true
    · have e0 := all_nil rfl hall
      subst e0
      rw [if_pos (by exact hall)]
      unfold dictWalkPlain
      exact wpAny_bind (wpAny_pure (wpAny_pure h))
    rw [if_neg (by exact hall), if_neg not_one]
    refine wpAny_bind (tells_not ⟨hk1', hk2⟩ hst2 ?_)
    rw [if_neg (by simp)]
    refine wpAny_bind ?_
    refine wpAny_forIn_list _ (fun rest b s' => s' = s ∧ b = (none, none) ∧ ∀ i ∈ rest, ∃ x ∈ xs, es[i]? = some (ent w x) ∧ x.1.hash w = NestedKey.hash w (.num i0)) _ ?_ ?_ _ _ ⟨rfl, rfl, hpl⟩
    · rintro i rest b s' ⟨rfl, rfl, hr⟩
      obtain ⟨x, hx, ex, eh⟩ := hr i List.mem_cons_self
      have nb : NestedKey.beq x.1 (.num i0) = false := by
        rw [← NestedKey.decide_eq]
        exact decide_eq_false (hne x hx)
      rw [ex]
      dsimp only
      rw [if_pos (show ((ent w x).hash == _) = true from beq_iff_eq.mpr eh)]
      have dx := (his x hx).2
      refine wpAny_bind (wpAny_dictEpoch ho hd (wpAny_bind (eqAt_key x.1 (.num i0) A s' _ _ (his x hx).1 hk1' (by omega) _ _ _ _ ?_)))
      rw [nb]
      refine wpAny_bind (wpAny_dictEpoch ho hd ?_)
      rw [if_neg (by simp), if_neg (by simp)]
      refine wpAny_bind (wpAny_rule ?_)
      rw [if_neg (by simp)]
      exact wpAny_pure ⟨rfl, rfl, fun j hj => hr j (List.mem_cons_of_mem _ hj)⟩
    · rintro b s' ⟨rfl, rfl, _⟩
      exact wpAny_pure h
  | int i0 t0 =>
    dsimp only
    by_cases hall : (Value.int i0 t0 :: pl.filterMap (fun i => es[i]?.map (·.key))).all carriedByValue = true
    · have e0 := all_nil rfl hall
      subst e0
      rw [if_pos (by exact hall)]
      unfold dictWalkPlain
      exact wpAny_bind (wpAny_pure (wpAny_pure h))
    rw [if_neg (by exact hall), if_neg not_one]
    refine wpAny_bind (tells_not ⟨hk1', hk2⟩ hst2 ?_)
    rw [if_neg (by simp)]
    refine wpAny_bind ?_
    refine wpAny_forIn_list _ (fun rest b s' => s' = s ∧ b = (none, none) ∧ ∀ i ∈ rest, ∃ x ∈ xs, es[i]? = some (ent w x) ∧ x.1.hash w = NestedKey.hash w (.num i0)) _ ?_ ?_ _ _ ⟨rfl, rfl, hpl⟩
    · rintro i rest b s' ⟨rfl, rfl, hr⟩
      obtain ⟨x, hx, ex, eh⟩ := hr i List.mem_cons_self
      have nb : NestedKey.beq x.1 (.num i0) = false := by
        rw [← NestedKey.decide_eq]
        exact decide_eq_false (hne x hx)
      rw [ex]
      dsimp only
      rw [if_pos (show ((ent w x).hash == _) = true from beq_iff_eq.mpr eh)]
      have dx := (his x hx).2
      refine wpAny_bind (wpAny_dictEpoch ho hd (wpAny_bind (eqAt_key x.1 (.num i0) A s' _ _ (his x hx).1 hk1' (by omega) _ _ _ _ ?_)))
      rw [nb]
      refine wpAny_bind (wpAny_dictEpoch ho hd ?_)
      rw [if_neg (by simp), if_neg (by simp)]
      refine wpAny_bind (wpAny_rule ?_)
      rw [if_neg (by simp)]
      exact wpAny_pure ⟨rfl, rfl, fun j hj => hr j (List.mem_cons_of_mem _ hj)⟩
    · rintro b s' ⟨rfl, rfl, _⟩
      exact wpAny_pure h
  | text x0 t0 =>
    dsimp only
    by_cases hx0 : xs = []
    · subst hx0
      have e0 : es = #[] := by
        cases es with
        | mk l =>
          have hl : l = [] := he
          rw [hl]
      subst e0
      rw [if_pos (by simp)]
      unfold foundByValue
      rw [show Array.findIdx? (fun e : DictEntry => e.key.isStr x0) #[] = none from by simp]
      exact wpAny_pure h
    rw [if_neg (str_no _ _ rfl hx0)]
    by_cases hall : (Value.str x0 t0 :: pl.filterMap (fun i => es[i]?.map (·.key))).all carriedByValue = true
    · have e0 := all_nil rfl hall
      subst e0
      rw [if_pos (by exact hall)]
      unfold dictWalkPlain
      exact wpAny_bind (wpAny_pure (wpAny_pure h))
    rw [if_neg (by exact hall), if_neg not_one]
    refine wpAny_bind (tells_not ⟨hk1', hk2⟩ hst2 ?_)
    rw [if_neg (by simp)]
    refine wpAny_bind ?_
    refine wpAny_forIn_list _ (fun rest b s' => s' = s ∧ b = (none, none) ∧ ∀ i ∈ rest, ∃ x ∈ xs, es[i]? = some (ent w x) ∧ x.1.hash w = NestedKey.hash w (.text x0)) _ ?_ ?_ _ _ ⟨rfl, rfl, hpl⟩
    · rintro i rest b s' ⟨rfl, rfl, hr⟩
      obtain ⟨x, hx, ex, eh⟩ := hr i List.mem_cons_self
      have nb : NestedKey.beq x.1 (.text x0) = false := by
        rw [← NestedKey.decide_eq]
        exact decide_eq_false (hne x hx)
      rw [ex]
      dsimp only
      rw [if_pos (show ((ent w x).hash == _) = true from beq_iff_eq.mpr eh)]
      have dx := (his x hx).2
      refine wpAny_bind (wpAny_dictEpoch ho hd (wpAny_bind (eqAt_key x.1 (.text x0) A s' _ _ (his x hx).1 hk1' (by omega) _ _ _ _ ?_)))
      rw [nb]
      refine wpAny_bind (wpAny_dictEpoch ho hd ?_)
      rw [if_neg (by simp), if_neg (by simp)]
      refine wpAny_bind (wpAny_rule ?_)
      rw [if_neg (by simp)]
      exact wpAny_pure ⟨rfl, rfl, fun j hj => hr j (List.mem_cons_of_mem _ hj)⟩
    · rintro b s' ⟨rfl, rfl, _⟩
      exact wpAny_pure h
theorem KeyOk.keep {h h' : Heap} {k : NestedKey} {v : Value} (x : KeyOk h k v) (kp : ∀ a o vs n, h.get? a = some o → o.data = .seq vs n → h'.get? a = some o) : KeyOk h' k v := ⟨NestedIs.at kp k v x.1, x.2⟩
/-- the table of a dict with these entries -/
def MixTab (w : World) (h : Heap) (d : Addr) (xs : List Ent) : Prop := ∃ o es ep, h.get? d = some o ∧ o.ExactDict ∧ o.data = .dict es ep ∧ es.toList = xs.map (ent w)
/-- a new key -/
theorem set_new {d : Addr} {xs : List Ent} {k : NestedKey} {key v : Value} {Q : Unit → Shared → Prop} (hu : A.units + 8 < cLine) (hk : KeyOk s.heap k key) (hm : MixTab w s.heap d xs) (his : ∀ x ∈ xs, KeyOk s.heap x.1 x.2.1) (hne : ∀ x ∈ xs, x.1 ≠ k)
    (hv : carriedByValue key = true → ∀ x ∈ xs, carriedByValue x.2.1 = false) (hsz : xs.length ≤ sizeLine) (hQ : ∀ h' tk, MixTab w h' d (xs ++ [(k, key, v)]) → Heap.SameBut d s.heap h' → Q () { s with heap := h', toks := tk }) :
    wpAny (model prog w) A (dictSet d key v) Q E s := by
  obtain ⟨o, es, ep, ho, hc, hd, he⟩ := hm
  unfold dictSet
  try with_reducible refine wpAny_holding ?_
  refine wpAny_bind (pyHash_key k key A s _ hk.1 (by have := hk.2; omega) ?_)
  unfold dictSetHashed
  try with_reducible refine wpAny_holding ?_
  refine wpAny_bind (find_none (s := { s with toks := s.toks + k.draws }) hu hk ho hd he his hne hv ?_)
  refine wpAny_bind (wpAny_rule (wpAny_updateDictKeys (hz := by have e := ent_size he; omega) (s := { s with toks := s.toks + k.draws }) ho hd (hQ _ _ ⟨_, _, ep + 1, Heap.get?_update_self _ ho (Obj.isFreed_of_dict (Obj.data_mapDictKeys hd _)),
      hc.mapDictKeys _, Obj.data_mapDictKeys hd _, ?_⟩ (Heap.SameBut.update ..))))
  simp [he, ent]
/-- dict(pairs): no key twice, at most one key that is no tuple -/
theorem call_dict_mix {a : Addr} {items : Array Value} {Ts : Nat → Addr} {ps : List Ent} {Q : Value → Shared → Prop} (hh : A.handled = none) (hu : A.units + 10 < cLine)
    (ok : PlainSeq "list" s.heap a items ∧ PairItems s.heap items Ts (ps.map fun x => (x.2.1, x.2.2))) (hk : ∀ x ∈ ps, KeyOk s.heap x.1 x.2.1) (hn : ps.Pairwise fun x y => x.1 ≠ y.1)
    (hv : ps.Pairwise fun x y => carriedByValue y.2.1 = true → carriedByValue x.2.1 = false) (hsz : ps.length ≤ sizeLine)
    (h : ∀ h' tk, MixTab w h' s.heap.objs.size ps → (∀ b o, s.heap.get? b = some o → h'.get? b = some o) → Q (.ref s.heap.objs.size) { s with heap := h', toks := tk }) :
    wpAny (model prog w) A (call (.type "dict") [.ref a]) Q E s := by
  have P := PairArg.list (prog := prog) (w := w) a items Ts (ps.map fun x => (x.2.1, x.2.2))
  refine call_dict_arg P ok fun s₁ hs₁ hdf ok₁ => ?_
  subst hs₁
  have hd0 : ∀ b o, s.heap.get? b = some o → b ≠ s.heap.objs.size := fun b o e => Nat.ne_of_lt (Heap.lt_size e)
  have hk1 : ∀ x ∈ ps, KeyOk (s.heap.push { cls := .type "dict", data := .dict #[] }) x.1 x.2.1 := fun x hx => (hk x hx).keep fun b o vs n e _ => Heap.get?_push_of_some _ e
  refine updateFrom_arg (A := A.in1) P .none hh ok₁ hdf (Tab := fun i h' => MixTab w h' s.heap.objs.size (ps.take i) ∧ ∀ b o, b ≠ s.heap.objs.size → (s.heap.push { cls := .type "dict", data := .dict #[] }).get? b = some o → h'.get? b = some o)
    ⟨⟨_, #[], 0, Heap.get?_push_size _ rfl, ⟨rfl, rfl, rfl⟩, rfl, rfl⟩, fun b o _ e => e⟩ (fun i h' tb => ?_) (fun i h1 h2 wr' hw1 hw2 tb kp => ?_) (fun i k v s' Q' E' hi hr tb _ hq => ?_) (fun h' tk tb kp => ?_)
  · obtain ⟨⟨o, _, _, ho, _⟩, _⟩ := tb
    exact Heap.lt_size ho
  · obtain ⟨⟨o, es, ep, ho, r⟩, kk⟩ := tb
    refine ⟨⟨o, es, ep, kp _ _ hw1 ho, r⟩, fun b o hb e => kp b o (fun hm => ?_) (kk b o hb e)⟩
    rcases hw2 b hm with z | z
    · cases z
    · have z' : (s.heap.push { cls := .type "dict", data := .dict #[] }).get? b = none := z
      rw [e] at z'
      cases z'
  · rw [List.length_map] at hi
    have hr : (ps.map fun x => (x.2.1, x.2.2))[i]? = some (k, v) := hr
    rw [List.getElem?_map, List.getElem?_eq_getElem hi] at hr
    cases hr
    obtain ⟨tb, kk⟩ := tb
    have stay : ∀ x ∈ ps, KeyOk s'.heap x.1 x.2.1 := fun x hx => (hk x hx).keep fun b o vs n e _ => kk b o (hd0 b o e) (Heap.get?_push_of_some _ e)
    have at_ : ∀ x ∈ ps.take i, ∃ j, j < i ∧ ps[j]? = some x := fun x hx => by
      obtain ⟨j, hj⟩ := List.mem_iff_getElem?.mp hx
      rw [List.getElem?_take] at hj
      by_cases hji : j < i
      · rw [if_pos hji] at hj
        exact ⟨j, hji, hj⟩
      · rw [if_neg hji] at hj
        cases hj
    refine set_new (by show A.units + 1 + 1 + 8 < cLine; omega) (stay _ (List.getElem_mem hi)) tb (fun x hx => stay x (List.mem_of_mem_take hx)) (fun x hx => ?_) (fun c x hx => ?_) (by rw [List.length_take]; omega) fun h' tk tb' sb => hq h' tk ⟨?_, fun b o hb e => sb.extBut b o hb (kk b o hb e)⟩ sb
    · obtain ⟨j, hj, e⟩ := at_ x hx
      obtain ⟨hjl, e⟩ := List.getElem?_eq_some_iff.mp e
      rw [← e]
      exact List.pairwise_iff_getElem.mp hn j i hjl hi hj
    · obtain ⟨j, hj, e⟩ := at_ x hx
      obtain ⟨hjl, e⟩ := List.getElem?_eq_some_iff.mp e
      rw [← e]
      exact List.pairwise_iff_getElem.mp hv j i hjl hi hj c
    · rw [List.take_add_one, List.getElem?_eq_getElem hi]
      exact tb'
  · obtain ⟨tb, kk⟩ := tb
    rw [List.length_map, List.take_length] at tb
    exact ⟨rfl, h h' tk tb fun b o e => kk b o (hd0 b o e) (Heap.get?_push_of_some _ e)⟩
end
/-! over the layer -/
mutual
/-- a value as a key -/
inductive NV (K : PySem.W.Frag) (H : Hp) : V → NestedKey → Prop
  | non : NV K H .non .none
  | bl (b : Bool) : NV K H (.bl b) (.num (if b = true then 1 else 0))
  | int (i : Int) : NV K H (.int i) (.num i)
  | str (x : Str) : NV K H (.str x) (.text x)
  | tup {a : Addr} {vs : List V} {ks : List NestedKey} : SqT K H a vs → NVs K H vs ks → NV K H (.ref a) (.tup ks)
inductive NVs (K : PySem.W.Frag) (H : Hp) : List V → List NestedKey → Prop
  | nil : NVs K H [] []
  | cons {v : V} {k : NestedKey} {vs : List V} {ks : List NestedKey} : NV K H v k → NVs K H vs ks → NVs K H (v :: vs) (k :: ks)
end
section
variable {X : Cx} {pins : List (Addr × Obj)} {σ : L2.St} {H : Hp} {s : Shared}
mutual
theorem nv_is (I : Inv X pins σ H s) : ∀ (k : NestedKey) (v : V) (u : Value), NV X.K H v k → RelV v u → NestedIs s.heap k u
  | .none, _, u, .non, r => by cases (show u = Value.none from r); exact .none
  | .num _, _, u, .bl b, r => by cases (show u = Value.bool b from r); exact .bool rfl
  | .num _, _, u, .int i, r => by obtain ⟨t, q⟩ := (show ∃ t, u = Value.int i t from r); cases q; exact .int i t
  | .text _, _, u, .str x, r => by obtain ⟨t, q⟩ := (show ∃ t, u = Value.str x t from r); cases q; exact .text x t
  | .tup ks, _, u, .tup h hs, r => by
    cases (show u = Value.ref _ from r)
    obtain ⟨its, rv, pl, _⟩ := I.tuple h
    obtain ⟨o, ho, hc, n, hd⟩ := pl
    exact .tup ho hc hd (by simpa using nvs_is I ks _ its hs rv)
theorem nvs_is (I : Inv X pins σ H s) : ∀ (ks : List NestedKey) (vs : List V) (us : List Value), NVs X.K H vs ks → Vals vs us → NestedAll s.heap ks us
  | [], _, _, .nil, .nil => .nil
  | _ :: ks, _, _, .cons h t, .cons r rt => .cons (nv_is I _ _ _ h r) (nvs_is I ks _ _ t rt)
end
end
/-- a dict at a with these keys, in this order -/
def MixO (a : Addr) (ks : List V) : HO := .ext fun h => (a == sysModules) = false ∧ ∃ o es ep, h.get? a = some o ∧ o.ExactDict ∧ o.data = .dict es ep ∧ es.size ≤ sizeLine ∧ Vals ks (es.toList.map (·.key))
theorem mixO_ok {P : Program} {w : World} {H : Hp} {h : Heap} {a : Addr} {ks : List V} {o : Obj} {es : Array DictEntry} {ep : Nat} (hs : (a == sysModules) = false) (ho : h.get? a = some o) (hx : o.ExactDict) (hd : o.data = .dict es ep) (hz : es.size ≤ sizeLine) (r : Vals ks (es.toList.map (·.key))) : ObjOk P w H h a (MixO a ks) :=
  ⟨⟨hs, o, es, ep, ho, hx, hd, hz, r⟩, ⟨o, ho⟩, fun h1 h2 ⟨hs, o, es, ep, ho, r⟩ st => ⟨hs, o, es, ep, st _ ho, r⟩⟩
/-- a pair of a list that dict() is made of: where it stands, its key, what the key is, its value -/
structure Pm where
  at_ : Addr
  key : V
  nk : NestedKey
  val : V
theorem paired_ix {α β : Type} {F : α → β → Prop} : ∀ {xs : List α} {ys : List β}, xs.length = ys.length → (∀ (i : Nat) (x : α) (y : β), xs[i]? = some x → ys[i]? = some y → F x y) → Paired F xs ys
  | [], [], _, _ => .nil
  | [], _ :: _, h, _ => by cases h
  | _ :: _, [], h, _ => by cases h
  | x :: xs, y :: ys, h, f => .cons (f 0 x y rfl rfl) (paired_ix (Nat.succ.inj h) fun i a b ha hb => f (i + 1) a b ha hb)
def byV : V → Bool
  | .ref _ => false
  | _ => true
theorem byV_of {v : V} {u : Value} (r : RelV v u) : carriedByValue u = byV v := by
  cases v with
  | non => cases (show u = Value.none from r); rfl
  | bl b => cases (show u = Value.bool b from r); rfl
  | int i => obtain ⟨t, q⟩ := (show ∃ t, u = Value.int i t from r); cases q; rfl
  | str i => obtain ⟨t, q⟩ := (show ∃ t, u = Value.str i t from r); cases q; rfl
  | byt i => obtain ⟨t, q⟩ := (show ∃ t, u = Value.bytes i t from r); cases q; rfl
  | flt i => obtain ⟨t, q⟩ := (show ∃ t, u = Value.float i t from r); cases q; rfl
  | ref i => cases (show u = Value.ref i from r); rfl
  | ty i => cases (show u = Value.type i from r); rfl
section
variable {X : Cx} {pins : List (Addr × Obj)} {σ : L2.St} {H : Hp} {s : Shared}
def rDictX (K : PySem.W.Frag) : List V → Hp → VK → Prop := fun xs H Q => ∃ (a : Addr) (L : List Pm), xs = [.ref a] ∧ SqL K H a (L.map fun e => V.ref e.at_) ∧ (∀ e ∈ L, SqT K H e.at_ [e.key, e.val] ∧ NV K H e.key e.nk ∧ e.nk.depth ≤ 8) ∧
  (L.Pairwise fun x y => x.nk ≠ y.nk) ∧ (L.Pairwise fun x y => byV y.key = true → byV x.key = false) ∧ ∀ p, H p = none → Q (.ref p) (upd H p (MixO p (L.map (·.key))))
theorem pairs_of (I : Inv X pins σ H s) : ∀ L : List Pm, (∀ e ∈ L, SqT X.K H e.at_ [e.key, e.val] ∧ NV X.K H e.key e.nk ∧ e.nk.depth ≤ 8) → ∃ ps : List Ent, ps.length = L.length ∧
    (∀ (j : Nat) (x : Ent), ps[j]? = some x → ∃ e : Pm, L[j]? = some e ∧ x.1 = e.nk ∧ RelV e.key x.2.1 ∧ KeyOk s.heap x.1 x.2.1 ∧ PairAt s.heap e.at_ x.2.1 x.2.2)
  | [], _ => ⟨[], rfl, fun j x h => by cases h⟩
  | e :: L, h => by
    obtain ⟨ps, h1, h2⟩ := pairs_of I L fun z hz => h z (List.mem_cons_of_mem _ hz)
    obtain ⟨g1, g2, g3⟩ := h e List.mem_cons_self
    obtain ⟨its, rv, pl, _⟩ := I.tuple g1
    obtain ⟨u1, u2, rfl, r1, r2⟩ := vals2 rv
    obtain ⟨o, ho, hc, n, hd⟩ := pl
    refine ⟨(e.nk, u1, u2) :: ps, by rw [List.length_cons, List.length_cons, h1], fun j x hj => ?_⟩
    cases j with
    | zero =>
      cases hj
      exact ⟨e, rfl, rfl, r1, ⟨nv_is I _ _ _ g2 r1, g3⟩, .inl ⟨o, ho, hc, n, hd⟩⟩
    | succ j => exact h2 j x hj
theorem call_dictX (hc : X.calm = true) (hu : X.A.units + 64 < cLine) : CallR X (.type "dict") (rDictX X.K) := by
  intro pins s σ H xs us Q I r h
  obtain ⟨a, L, rfl, hs, hp, hn, hv, q⟩ := h
  rw [Vals.ref1 r]
  obtain ⟨its, rv, pl, hz⟩ := I.list hs
  rw [List.length_map] at hz
  obtain ⟨ps, k2, k3⟩ := pairs_of I L hp
  have ei : its = L.map fun e => Value.ref e.at_ := by
    clear hs pl hz hp q k2 k3 hn hv
    induction L generalizing its with
    | nil => cases rv; rfl
    | cons e L ih =>
      rw [List.map_cons] at rv
      cases rv with
      | cons r t =>
        rw [ih _ t, List.map_cons]
        exact congrArg (· :: _) r
  subst ei
  have gets : ∀ (i : Nat) (hi : i < ps.length), ∃ (hl : i < L.length), ps[i].1 = L[i].nk ∧ RelV L[i].key ps[i].2.1 := fun i hi => by
    obtain ⟨e, e1, e2, e3, _⟩ := k3 i _ (List.getElem?_eq_getElem hi)
    obtain ⟨hl, e4⟩ := List.getElem?_eq_some_iff.mp e1
    exact ⟨hl, by rw [e4]; exact e2, by rw [e4]; exact e3⟩
  have items : PairItems s.heap (L.map fun e => Value.ref e.at_).toArray (fun j => ((L[j]?).map (·.at_)).getD 0) (ps.map fun x => (x.2.1, x.2.2)) := by
    refine ⟨by rw [List.size_toArray, List.length_map, List.length_map, k2], fun j k v hj => ?_⟩
    rw [List.getElem?_map] at hj
    obtain ⟨x, hx, ex⟩ := Option.map_eq_some_iff.mp hj
    obtain ⟨e, g1, g2, g3, g4, g5⟩ := k3 j x hx
    cases ex
    have e4 : ((L[j]?).map (·.at_)).getD 0 = e.at_ := by
      rw [g1]
      rfl
    show _ = some (Value.ref (((L[j]?).map (·.at_)).getD 0)) ∧ PairAt s.heap (((L[j]?).map (·.at_)).getD 0) _ _
    rw [e4]
    refine ⟨?_, g5⟩
    show (L.map fun e => Value.ref e.at_).toArray[j]? = some (Value.ref e.at_)
    rw [List.getElem?_toArray, List.getElem?_map, g1]
    rfl
  have lo : (s.heap.objs.size == sysModules) = false := beq_eq_false_iff_ne.mpr (Nat.ne_of_gt I.big)
  refine call_dict_mix (I.ok.hd hc) (by omega) ⟨?_, items⟩ (fun x hx => ?_) (List.pairwise_iff_getElem.mpr fun i j hi hj hij => ?_) (List.pairwise_iff_getElem.mpr fun i j hi hj hij c => ?_) (by omega) fun h' tk hm hk => ?_
  · obtain ⟨o, n, ho, hcl, hdd, hdat⟩ := pl
    exact ⟨o, n, ho, hcl, hdd, hdat⟩
  · obtain ⟨j, hj⟩ := List.mem_iff_getElem?.mp hx
    obtain ⟨e, _, _, _, g4, _⟩ := k3 j x hj
    exact g4
  · obtain ⟨l1, a1, _⟩ := gets i hi
    obtain ⟨l2, a2, _⟩ := gets j hj
    rw [a1, a2]
    exact List.pairwise_iff_getElem.mp hn i j l1 l2 hij
  · obtain ⟨l1, _, a1⟩ := gets i hi
    obtain ⟨l2, _, a2⟩ := gets j hj
    rw [byV_of a1]
    rw [byV_of a2] at c
    exact List.pairwise_iff_getElem.mp hv i j l1 l2 hij c
  · obtain ⟨o, es, ep, g1, g2, g3, g4⟩ := hm
    have fresh : H s.heap.objs.size = none := I.hok.fresh (Nat.le_refl _)
    have rk : Vals (L.map (·.key)) (es.toList.map (·.key)) := by
      rw [g4, List.map_map]
      refine paired_ix (by rw [List.length_map, List.length_map, k2]) fun i v u h1 h2 => ?_
      rw [List.getElem?_map] at h1 h2
      obtain ⟨x, hx, ex⟩ := Option.map_eq_some_iff.mp h2
      obtain ⟨e, e1, _, e3, _⟩ := k3 i x hx
      rw [e1] at h1
      cases h1
      cases ex
      exact e3
    exact ⟨.ref s.heap.objs.size, upd H s.heap.objs.size (MixO s.heap.objs.size (L.map (·.key))), I.laid (t' := tk) hk (Nat.le_refl _) (mixO_ok lo g1 g2 g3 (by rw [ent_size g4, k2]; exact hz) rk), rfl, q _ fresh⟩
end
section
variable {X : Cx} {pins : List (Addr × Obj)} {σ : L2.St} {H : Hp} {s : Shared}
/-- isinstance of such a dict, or of what has a told type -/
def rIsiZ (K : PySem.W.Frag) : List V → Hp → VK → Prop := fun xs H Q => rIsi K xs H Q ∨ ∃ (a : Addr) (ks : List V) (c : V) (u : Value) (b : Bool), xs = [.ref a, c] ∧ H a = some (MixO a ks) ∧ ClsV c u ∧ PySem.W.kitOne K (.type "dict") u = some b ∧ Q (.bl b) H
theorem call_isiZ : CallR X (.builtin "isinstance") (rIsiZ X.K) := by
  intro pins s σ H xs us Q I r h
  rcases h with h | ⟨a, ks, c, u, b, rfl, ha, k, e, q⟩
  · exact call_isi pins s σ H xs us Q I r h
  · obtain ⟨u1, u2, rfl, r1, r2⟩ := vals2 r
    cases (show u1 = Value.ref a from r1)
    have e2 := k.eq r2
    subst e2
    obtain ⟨⟨_, o, es, ep, ho, hx, _⟩, _, _⟩ := I.hok a _ ha
    exact PySem.W.kia_one PySem.W.kitx_dict I.kIn ⟨o, ho, hx.1⟩ e (fun z => nomatch z) fun tk => ⟨.bl b, H, I.tok tk, rfl, q⟩
/-- the keys of such a dict, locked -/
def Itx (d : Addr) (o : Obj) (ks : List V) : It :=
  ⟨fun i H => H d = some (.frz o (MixO d ks)) ∧ i < ks.length, fun i H x H' => H' = H ∧ ks[i]? = some x, fun i H => H d = some (.frz o (MixO d ks)) ∧ ks.length ≤ i⟩
theorem frzX {d : Addr} {o : Obj} {ks : List V} (I : Inv X pins σ H s) (h : H d = some (.frz o (MixO d ks))) : (d == sysModules) = false ∧ s.heap.get? d = some o ∧ o.ExactDict ∧ ∃ (es : Array DictEntry) (ep : Nat), o.data = .dict es ep ∧ es.size = ks.length ∧
    ∀ (i : Nat) (x : V), ks[i]? = some x → ∃ en : DictEntry, es[i]? = some en ∧ RelV x en.key := by
  obtain ⟨hd, ⟨hs, o', es, ep, ho, hx, hdt, hz, r⟩, _⟩ := I.hok d _ h
  rw [hd] at ho
  cases ho
  have l1 := r.length
  rw [List.length_map, Array.length_toList] at l1
  refine ⟨hs, hd, hx, es, ep, hdt, l1.symm, fun i x e => ?_⟩
  obtain ⟨u, hu, ru⟩ := r.get e
  rw [List.getElem?_map, Array.getElem?_toList] at hu
  obtain ⟨en, hen, rfl⟩ := Option.map_eq_some_iff.mp hu
  exact ⟨en, hen, ru⟩
theorem turn_keysX {P : Program} {w : World} {K : PySem.W.Frag} {tg : Expr} {d : Addr} {o : Obj} {es : Array DictEntry} {ep : Nat} {ks : List V} (it : Addr) (hod : o.data = .dict es ep) : Turn P w K tg (Itx d o ks) [it] it (fun i h => h.IsKeyIter it d i ks.length ep) where
  mem := by simp
  obj := fun i h st b hb => by
    have e : b = it := by simpa using hb
    subst e
    obtain ⟨oi, e, c, dd⟩ := st
    exact ⟨oi, e, fun v z => by rw [dd] at z; cases z⟩
  keep := fun i h h' st k => st.at fun oi e => k it (by simp) oi e
  item := by
    intro X hP hw hK hc i pins s σ H E I hf st hg
    subst hP hw hK
    obtain ⟨hd, hi⟩ := hg
    obtain ⟨f0, f1, f2, f3, f4, f5⟩ := hf it (by simp)
    obtain ⟨hs, hgd, hx, es', ep', hdt, hsz, ent⟩ := frzX I hd
    obtain ⟨rfl, rfl⟩ := dict_ep hod hdt
    obtain ⟨x, hkx⟩ : ∃ x, ks[i]? = some x := ⟨ks[i], List.getElem?_eq_getElem hi⟩
    obtain ⟨en, hen, hkey⟩ := ent i x hkx
    refine next_key_item st hgd hdt hsz hen fun h' st' sb => ?_
    have I1 : Inv X pins σ H { s with heap := h' } := I.turned (t' := s.toks) (fun b ob hb e => (sb.2 b hb).trans e) f0 f1 f3 f4 f5
    obtain ⟨oi, e, c, dd⟩ := id st'
    exact ⟨en.key, rfl, go_of (s := { s with heap := h' }) e c dd (by decide) ⟨x, H, I1, hkey, ⟨rfl, hkx⟩, st', fun b hb => (hf b hb).1⟩⟩
  done := by
    intro X hP hw hK hc i pins s σ H E I hf st hg
    subst hP hw hK
    obtain ⟨hd, hi⟩ := hg
    obtain ⟨f0, f1, f2, f3, f4, f5⟩ := hf it (by simp)
    obtain ⟨hs, hgd, hx, es', ep', hdt, hsz, ent⟩ := frzX I hd
    obtain ⟨rfl, rfl⟩ := dict_ep hod hdt
    exact next_key_end (I.ok.hd hc) st hgd hdt hsz hi fun h' eb => ⟨rfl, I.turned (t' := s.toks) (fun b ob hb e => eb b ob hb e) f0 f1 f3 f4 f5⟩
  self := fun A i s Q E st h => by
    refine wpAny_pyIter_slot st.typeIs F.slot_dict_keyiterator_iter (wpAny_call_entry F.slot_dict_keyiterator_iter st.typeIs F.entry_dict_keyiterator_iter ?_ (F.args_dict_keyiterator_iter_1 _))
    show wpAny _ _ (ret (.ref it)) _ _ s
    exact wpAny_pure ⟨_, rfl, "dict_keyiterator", _, st.typeIs, F.slot_dict_keyiterator_next.lookup, h⟩
theorem walk_keysX {d : Addr} {o : Obj} {ks : List V} : Walk (Itx d o ks) ks.length (fun H => H d = some (.frz o (MixO d ks))) (YAt ks) :=
  ⟨fun _ _ hi q => ⟨q, hi⟩, fun _ q => ⟨q, Nat.le_refl _⟩, fun _ _ _ _ _ _ y => y⟩
def iKeysX (td : TE) : TI := fun σ H R => td σ H fun x H1 => ∃ d o, x = .ref d ∧ ((∃ kvs, H1 d = some (.frz o (.dT kvs)) ∧ R (Itkt d o kvs) H1) ∨ ∃ ks, H1 d = some (.frz o (MixO d ks)) ∧ R (Itx d o ks) H1)
theorem pi_keysX {tg e : Expr} {td : TE} (he : PE X e td) : PI X tg e (iKeysX td) := by
  refine ⟨fun pins s σ H R I h => ?_⟩
  refine thn (he.run pins s σ H _ I h) fun u s1 ⟨x, H1, I1, rx, d, o, ex, q⟩ => ?_
  subst ex
  obtain rfl : u = Value.ref d := rx
  rcases q with ⟨kvs, hd, q⟩ | ⟨ks, hd, q⟩
  · obtain ⟨hs, hgd, hx, es, ep, hdt, hsz, ent⟩ := I1.frzT hd
    refine iter_keys hs hgd hx hdt (pi_one (tk := s1.toks) I1 _ (turn_keysT _ hdt) ⟨_, Heap.get?_push_size _ rfl, rfl, ?_⟩ q)
    rw [hsz] <;> rfl
  · obtain ⟨hs, hgd, hx, es, ep, hdt, hsz, ent⟩ := frzX I1 hd
    refine iter_keys hs hgd hx hdt (pi_one (tk := s1.toks) I1 _ (turn_keysX _ hdt) ⟨_, Heap.get?_push_size _ rfl, rfl, ?_⟩ q)
    rw [hsz] <;> rfl
end
end Mx

set_option Elab.async false
set_option linter.all false
set_option maxRecDepth 100000
set_option maxHeartbeats 4000000
/-! Small rules: bool(a tuple). -/
namespace Bt
open PySem PySem.Spec PyProof.Rows L2
section
variable {X : Cx}
/-- bool(a tuple) -/
theorem call_boolT : CallR X (.type "bool") (fun xs H Q => ∃ (a : Addr) (zs : List V), xs = [.ref a] ∧ SqT X.K H a zs ∧ Q (.bl (!zs.isEmpty)) H) := by
  intro pins s σ H xs us Q I r h
  obtain ⟨a, zs, rfl, hq, q⟩ := h
  obtain rfl := Vals.ref1 r
  obtain ⟨its, rv, pl, hz⟩ := I.tuple hq
  have hl := line63
  have hlen := rv.length
  refine Ow.bool_own (truthy_tuple pl (by simp only [List.size_toArray]; omega) ?_)
  exact ⟨.bl (!zs.isEmpty), H, I.tok _, by rw [isEmpty_of rv]; rfl, q⟩
/-- x(e, ..), x a local name that holds the class at C -/
theorem pe_makeL {CX : CXT} {k : Nat} {f C : Addr} {fd : FuncData} {ps : List Str} {sp : Sp} {dvs : List V} {ds : List Value} {E : XK} {x : Str} {p pos : Pos} {e : Expr} {es : List Expr} {t : TA} {tf : TE} (M : Mk X.K C f) (F : FnOk X.prog X.w X.K X.mg X.base CX k f fd ps sp) (hr : Room (k + 1) X.A)
    (hb : Binds X.K fd ps ds) (hd : Vals dvs ds) (hx : Passes CX X E) (hf : PE X (.Name x p) tf) (ha : PA X (e :: es) t) (he : starEach (e :: es) X.env = (false, eval e X.env) :: starEach es X.env := by rfl) (hpl : (backTo pos (starEach es X.env)).any (·.1) = false := by rfl) :
    PE X (.Call (.Name x p) (e :: es) [] pos) (fun σ H Q => tf σ H fun y H1 => y = .ref C ∧ tMake C sp dvs E t σ H1 Q) := by
  refine ⟨fun pins s σ H Q I h => ?_⟩
  refine wpAny_Call_Name_kw (thn (hf.run pins s σ H _ I h) fun u s1 ⟨y, H1, I1, ry, ey, q1⟩ => ?_)
  subst ey
  obtain rfl : u = Value.ref C := ry
  refine PySem.W.callWith_K (h₀ := X.base) I1.ok.mod.kin M.kp (thn (ha.run pos pins s1 σ H1 _ I1 q1) fun us s2 ⟨vs, H2, I2, r, q⟩ => ⟨I2.kIn, ?_⟩) he hpl
  exact run_make M F hr hb hd hx I2 r q
end
end Bt

set_option Elab.async false
set_option linter.all false
set_option maxRecDepth 100000
set_option maxHeartbeats 2000000
/-! == of a dict and a tuple. -/
namespace Dm
open PySem PySem.Calls PyProof.Rows PySem.Spec L2
theorem dict_eq_declines (l b : Addr) (ol ob : Obj) (hcl : ol.cls = .type "dict") (hcb : ob.cls = .type "tuple") :
    Meets (Builtin.«dict.__eq__» ⟨[.ref l, .ref b], []⟩) (fun _ R s => s.heap.get? l = some ol ∧ s.heap.get? b = some ob ∧ R (.ok (.ret .notImplemented)) s) :=
  .of_wp fun prog w A R s h => by
    obtain ⟨hp, g, d, tk, os⟩ := s
    obtain ⟨hl, hb, h⟩ := h
    obtain ⟨cl, dl, al, sl⟩ := ol
    obtain ⟨cb, db, ab, sb⟩ := ob
    simp only at hcl hcb
    subst hcl hcb
    have f1 := F.sub_tuple_dict
    wp_walk
    exact ⟨_, rfl, h⟩
theorem tuple_eq_declines (l b : Addr) (ol ob : Obj) (hcl : ol.cls = .type "tuple") (hcb : ob.cls = .type "dict") :
    Meets (Builtin.«tuple.__eq__» ⟨[.ref l, .ref b], []⟩) (fun _ R s => s.heap.get? l = some ol ∧ s.heap.get? b = some ob ∧ R (.ok (.ret .notImplemented)) s) :=
  .of_wp fun prog w A R s h => by
    obtain ⟨hp, g, d, tk, os⟩ := s
    obtain ⟨hl, hb, h⟩ := h
    obtain ⟨cl, dl, al, sl⟩ := ol
    obtain ⟨cb, db, ab, sb⟩ := ob
    simp only at hcl hcb
    subst hcl hcb
    have f1 := F.sub_dict_tuple
    wp_walk
    exact ⟨_, rfl, h⟩
theorem rc_dict_tuple {prog : Program} {w : World} {A : Around} {s : Shared} {E Q : Value → Shared → Prop} {l b : Addr} {ol ob : Obj} (hl : s.heap.get? l = some ol) (hb : s.heap.get? b = some ob) (hcl : ol.cls = .type "dict") (hcb : ob.cls = .type "tuple") (hu : A.units < cLine) (h : Q (.bool false) s) :
    wpAny (model prog w) A (compareOp .Eq (.ref l) (.ref b)) Q E s := by
  have hne : l ≠ b := fun e => by
    subst e
    rw [hl] at hb
    cases hb
    rw [hcl] at hcb
    exact absurd hcb (by simp)
  show wpAny _ A (richCompare .Eq _ _) Q E s
  exact SeqAt.rc_eq_decline_or (k := false) ⟨_, hl, hcl⟩ ⟨_, hb, hcb⟩ (by decide) F.sub_tuple_dict F.slot_dict_eq F.slot_tuple_eq_refl
    (fun _ hq => call_meets F.slot_dict_eq ⟨_, hl, hcl⟩ F.entry_dict_eq (F.args_dict_eq_2 _ _) (dict_eq_declines l b ol ob hcl hcb) ⟨hl, hb, hq⟩)
    (fun _ hq => call_meets F.slot_tuple_eq_refl ⟨_, hb, hcb⟩ F.entry_tuple_eq (F.args_tuple_eq_2 _ _) (tuple_eq_declines b l ob ol hcb hcl) ⟨hb, hl, hq⟩)
    (fun _ hq => wpAny_isSame_ref_other hne hl hb (by rw [hcl]; simp) hq) (.inr hu) h
section
variable {X : Cx}
/-- data or a dict, and data -/
def rEqM (K : PySem.W.Frag) : R2 := fun x y H Q => rEqD K x y H Q ∨ ∃ a b ks ys, x = .ref a ∧ y = .ref b ∧ Rd H a (.dK ks) ∧ SqT K H b ys ∧ Q (.bl false) H
theorem op_eqM (hu : X.A.units + 64 < cLine) : OpR X (compareOp .Eq) (rEqM X.K) := by
  intro pins s σ H x y v u Q I rx ry h
  rcases h with h | ⟨a, b, ks, ys, rfl, rfl, ha, hb, q⟩
  · exact op_eqD hu pins s σ H x y v u Q I rx ry h
  · have tx : s.TypeIs (.ref a) "dict" := by
      rcases ha with ha | ⟨o, ha⟩
      · exact TyB.is I (x := .ref a) (u := .ref a) rfl (.dK ha)
      · obtain ⟨_, _, _, vs, _, o, es, ep, h1, h2, _⟩ := I.hok a _ ha
        exact ⟨o, h1, h2.1⟩
    obtain ⟨ol, hl, hcl⟩ := tx
    obtain ⟨its, _, ⟨ob, hob, hcb, _⟩, _⟩ := I.tuple hb
    cases rx
    cases ry
    exact rc_dict_tuple hl hob hcl hcb (by omega) ⟨.bl false, H, I, rfl, q⟩
end
end Dm

set_option Elab.async false
set_option linter.all false
set_option maxRecDepth 100000
set_option maxHeartbeats 2000000
/-! Names: texts of small letters. -/
namespace An
open PySem PySem.Spec PyProof.Rows L2 Rp
def low (c : Nat) : Prop := 97 ≤ c ∧ c ≤ 122
def bads : Str := "ABCXYZ0189_- .,\n\t"
theorem low_all : ∀ c < 123, 97 ≤ c → (decide (c < 128) && Unicode.isAlpha c && Unicode.isLower c && !(Unicode.isUpper c || Unicode.isTitle c)) = true := by decide +kernel
theorem bad_all : ∀ c ∈ bads.cps.toList, (Unicode.isAlpha c && !(Unicode.isUpper c || Unicode.isTitle c)) = false := by decide +kernel
theorem low_is {c : Nat} (h : low c) : c < 128 ∧ Unicode.isAlpha c = true ∧ Unicode.isLower c = true ∧ (Unicode.isUpper c || Unicode.isTitle c) = false := by
  have q := low_all c (by unfold low at h; omega) h.1
  simp only [Bool.and_eq_true, decide_eq_true_eq, Bool.not_eq_true'] at q
  exact ⟨q.1.1.1, q.1.1.2, q.1.2, q.2⟩
theorem nameS_low {cs : List Nat} (h1 : 1 ≤ cs.length) (h2 : cs.length ≤ 8) (lo : ∀ c ∈ cs, low c) : nameS (SX.S cs) = true := by
  unfold nameS Txt.isascii Txt.isalpha Txt.islower
  rw [SX.S_len]
  simp only [List.all_toArray, List.any_toArray]
  have e1 : (!decide (cs.length > 8)) = true := by simp; omega
  have e2 : (cs.all fun c => decide (c < 128)) = true := List.all_eq_true.mpr fun c hc => decide_eq_true (low_is (lo c hc)).1
  have e3 : cs.all Unicode.isAlpha = true := List.all_eq_true.mpr fun c hc => (low_is (lo c hc)).2.1
  have e4 : cs.any Unicode.isLower = true := by
    match cs, h1, lo with
    | c :: r, _, lo => exact List.any_eq_true.mpr ⟨c, List.mem_cons_self, (low_is (lo c List.mem_cons_self)).2.2.1⟩
  have e5 : (cs.any fun c => Unicode.isUpper c || Unicode.isTitle c) = false := by
    rw [List.any_eq_false]
    intro c hc
    rw [(low_is (lo c hc)).2.2.2]
    exact Bool.false_ne_true
  have e6 : decide (cs.length > 0) = true := decide_eq_true (by omega)
  rw [e1, e2, e3, e4, e5, e6]
  rfl
theorem nameS_long {cs : List Nat} (h : 8 < cs.length) : nameS (SX.S cs) = false := by
  unfold nameS
  rw [SX.S_len, decide_eq_true h]
  rfl
theorem nameS_bad {cs : List Nat} {c : Nat} (hc : c ∈ bads.cps.toList) (m : c ∈ cs) : nameS (SX.S cs) = false := by
  unfold nameS Txt.isascii Txt.isalpha Txt.islower
  simp only [List.all_toArray, List.any_toArray]
  have q := bad_all c hc
  cases e : Unicode.isAlpha c with
  | false =>
    have : cs.all Unicode.isAlpha = false := List.all_eq_false.mpr ⟨c, m, by rw [e]; exact Bool.false_ne_true⟩
    rw [this]
    simp
  | true =>
    rw [e, Bool.true_and, Bool.not_eq_false'] at q
    have : (cs.any fun c => Unicode.isUpper c || Unicode.isTitle c) = true := List.any_eq_true.mpr ⟨c, m, q⟩
    rw [this]
    simp
end An

set_option Elab.async false
set_option linter.all false
set_option maxRecDepth 100000
set_option maxHeartbeats 4000000
/-! Tuples put together and cut, all that was there stays; data without dicts. -/
namespace Ts
open PySem PySem.Spec PyProof.Rows L2 Dt An
theorem Same.rf (H : Hp) : Same H H := fun _ _ e => e
section
variable {X : Cx}
/-- t + u -/
def rCatS (K : PySem.W.Frag) : R2 := fun x y H Q => ∃ a b xs ys, x = .ref a ∧ y = .ref b ∧ SqT K H a xs ∧ SqT K H b ys ∧ xs.length + ys.length ≤ sizeLine ∧
  ∀ q H', Same H H' → SqT K H' q (xs ++ ys) → Q (.ref q) H'
theorem op_catS : OpR X (binaryOp .Add) (rCatS X.K) := by
  intro pins s σ H x y v u Q I rx ry h
  obtain ⟨a, b, xs, ys, ex, ey, ha, hb, hz, q⟩ := h
  refine op_catA pins s σ H x y v u Q I rx ry ⟨a, b, xs, ys, ex, ey, ha, hb, hz, fun e => ?_, fun _ e => ?_, fun _ _ p n => ?_⟩
  · subst e
    exact q b H (Same.rf H) hb
  · subst e
    exact q a H (Same.rf H) (by rw [List.append_nil]; exact ha)
  · exact q p _ (sameNew n) (.inl (.inl upd_same))
/-- t[lo:hi] -/
def rSlS (K : PySem.W.Frag) : V → Option Int → Option Int → Hp → VK → Prop := fun x lo hi H Q => ∃ a xs, x = .ref a ∧ SqT K H a xs ∧ ∀ q H', Same H H' → SqT K H' q (cutV xs lo hi) → Q (.ref q) H'
theorem sl_tupS : SlR X (rSlS X.K) := by
  intro pins s σ H x v vl vu lo hi sl Q I rx hs pl pu h
  obtain ⟨a, xs, ex, ha, q⟩ := h
  refine sl_tupA pins s σ H x v vl vu lo hi sl Q I rx hs pl pu ⟨a, xs, ex, ha, fun e => ?_, fun _ p n => ?_⟩
  · refine q a H (Same.rf H) ?_
    unfold cutV
    rw [e.1, e.2, Nat.sub_zero, List.drop_zero, List.take_length]
    exact ha
  · exact q p _ (sameNew n) (.inl (.inl upd_same))
end
theorem cut_to (xs : List V) (u : Nat) : cutV xs none (some (u : Int)) = xs.take u := by
  unfold cutV
  rw [HT.sIx_none, HT.sIx_nat, Nat.sub_zero, List.drop_zero]
  by_cases h : u ≤ xs.length
  · rw [Nat.min_eq_left h]
  · rw [Nat.min_eq_right (by omega), List.take_of_length_le (Nat.le_refl _), List.take_of_length_le (by omega)]
theorem cut_from (xs : List V) (u : Nat) : cutV xs (some (u : Int)) none = xs.drop u := by
  unfold cutV
  rw [HT.sIx_none, HT.sIx_nat]
  by_cases h : u ≤ xs.length
  · rw [Nat.min_eq_left h, List.take_of_length_le (by rw [List.length_drop]; exact Nat.le_refl _)]
  · rw [Nat.min_eq_right (by omega), List.drop_of_length_le (Nat.le_refl _), List.drop_of_length_le (by omega), List.take_nil]
section
variable {K : PySem.W.Frag} {H : Hp}
theorem intsQ : ∀ ns : List Int, DqAll K H (ns.map V.int) (ns.map PyData.int)
  | [] => .nil
  | n :: r => .cons (.int n) (intsQ r)
theorem dqs_app : ∀ {vs ws : List V} {ds es : List PyData}, DqAll K H vs ds → DqAll K H ws es → DqAll K H (vs ++ ws) (ds ++ es)
  | _, _, _, _, .nil, h => h
  | _, _, _, _, .cons a t, h => .cons a (dqs_app t h)
mutual
/-- data without dicts -/
theorem dp_of : ∀ (d : PyData) (v : V), Dq K H v d → d.hasDict = false → Dp K H v d
  | .none, _, h, _ => by
    cases h
    exact .non
  | .bool b, _, h, _ => by
    cases h
    exact .bl b
  | .int i, _, h, _ => by
    cases h
    exact .int i
  | .str x, _, h, _ => by
    cases h
    exact .str x
  | .list ds, _, h, e => by
    cases h with
    | lst hs ha => exact .lst hs (dps_of ds _ ha e)
  | .tuple ds, _, h, e => by
    cases h with
    | tup hs ha => exact .tup hs (dps_of ds _ ha e)
  | .dict ds, _, h, e => by cases e
theorem dps_of : ∀ (ds : List PyData) (vs : List V), DqAll K H vs ds → PyData.hasDictAll ds = false → DpAll K H vs ds
  | [], _, h, _ => by
    cases h
    exact .nil
  | d :: ds, _, h, e => by
    have e' : (d.hasDict || PyData.hasDictAll ds) = false := e
    rw [Bool.or_eq_false_iff] at e'
    cases h with
    | cons h t => exact .cons (dp_of d _ h e'.1) (dps_of ds _ t e'.2)
end
end
end Ts

set_option Elab.async false
set_option linter.all false
set_option maxRecDepth 100000
set_option maxHeartbeats 4000000
/-! list(d.items()), d with tuple keys. -/
namespace Itd
open PySem PySem.W PySem.Calls PyProof.Rows PyProof.V PySem.Spec L2
section
variable {prog : Program} {w : World} {A : Around} {s : Shared} {es : Array DictEntry} {ep : Nat} {r d : Addr}
theorem initI {R : Result → Shared → Prop} (hh : A.handled = none) (hv : s.heap.IsItemsView r d) (hm : DT.Raw s.heap d es ep) (S : Addr) (hSr : S ≠ r) (hSd : d ≠ S) (hS : s.heap.get? S = some { cls := .type "list", data := .seq #[] })
    (hR : ∀ h' tk acc c as, (∀ b o, b ≠ S → s.heap.get? b = some o → h'.get? b = some o) → h'.get? S = some { cls := .type "list", dict := none, data := .seq acc c, slots := #[] } → as.length = es.size → DT.Made es S h' as →
      acc.toList = as.map Value.ref → R (.ok (.ret .none)) { s with heap := h', toks := tk }) (hn : es.size ≤ sizeLine) :
    wpAny (model prog w) A.in1 (Builtin.«list.__init__» ⟨[.ref S, .ref r], []⟩)
      (fun fin s' => match fin with | .done f => R (.ok f) s' | .again c' => c'.quiet = true ∧ codeAny (model prog w) A c' R s') (fun e s' => R (.error e) s') s := by
  show wpAny _ _ (do let old ← Builtin.List.listItems (.ref S); Builtin.List.listUpdate (.ref S) (fun _ => #[]); letGo old.toList.reverse; Builtin.List.listExtendWith (.ref S) (.ref r) .none) _ _ s
  refine wpAny_bind ?_
  unfold Builtin.List.listItems
  refine wpAny_bind (wpAny_seqItems hS rfl (wpAny_pure ?_))
  show wpAny _ _ (updateSeq S (fun _ => #[]) >>= fun _ => letGo (#[] : Array Value).toList.reverse >>= fun _ => Builtin.List.listExtendWith (.ref S) (.ref r) .none) _ _ s
  refine wpAny_bind (wpAny_updateSeq hS rfl ?_)
  have hS₂ := Heap.get?_update_self (Obj.mapSeq (fun _ => (#[] : Array Value))) hS rfl
  have oth : ∀ b o, b ≠ S → s.heap.get? b = some o → (s.heap.update S (Obj.mapSeq (fun _ => (#[] : Array Value)))).get? b = some o :=
    fun b o hb e => (Heap.get?_update_other _ _ (Ne.symm hb)).trans e
  refine wpAny_bind (wpAny_letGo ?_)
  refine DT.extI (es := es) (ep := ep) hh (let ⟨o, ho, x⟩ := hv; ⟨o, oth r o hSr.symm ho, x⟩) (hm.at' fun o e => oth d o hSd e) S hSr hSd .none _ hS₂ (fun h' tk acc c as hk hS' hl hG hacc => ?_) hn
  exact hR h' tk acc c as (fun b o hb e => hk b o hb (oth b o hb e)) hS' hl (hG.low (Nat.le_of_lt (Heap.lt_size hS₂))) hacc
theorem callI {Q : Value → Shared → Prop} {E : Value → Shared → Prop} (hh : A.handled = none) (hv : s.heap.IsItemsView r d) (hm : DT.Raw s.heap d es ep) (hn : es.size ≤ sizeLine)
    (hQ : ∀ h' tk acc c as, (∀ b o, s.heap.get? b = some o → h'.get? b = some o) → h'.get? s.heap.objs.size = some { cls := .type "list", dict := none, data := .seq acc c, slots := #[] } → as.length = es.size → DT.Made es s.heap.objs.size h' as →
      acc.toList = as.map Value.ref → Q (.ref s.heap.objs.size) { s with heap := h', toks := tk }) :
    wpAny (model prog w) A (call (.type "list") [.ref r]) Q E s := by
  refine callType_codes (Q₁ := fun obj s₁ => obj = .ref s.heap.objs.size ∧ s₁ = { s with heap := s.heap.push { cls := .type "list", data := .seq #[] } }) PySem.F.called_list (PySem.F.typeCall_list_1 _) PySem.F.entry_list_init
    (code_list_new _ ⟨rfl, rfl⟩) fun obj s₁ h₁ => ?_
  obtain ⟨rfl, rfl⟩ := h₁
  have hS : (s.heap.push { cls := .type "list", data := .seq #[] }).get? s.heap.objs.size = some { cls := .type "list", data := .seq #[] } := Heap.get?_push_size _ rfl
  have hr : r < s.heap.objs.size := let ⟨_, ho, _⟩ := hv; Heap.lt_size ho
  have hd : d < s.heap.objs.size := hm.lt
  refine ⟨⟨_, hS, rfl⟩, PySem.F.args_list_init_2 _ _, initI (es := es) (ep := ep) (A := A.in1) hh (let ⟨o, ho, x⟩ := hv; ⟨o, Heap.get?_push_of_some _ ho, x⟩) (hm.push _) _ (Nat.ne_of_gt hr) (Nat.ne_of_lt hd) hS (fun h' tk acc c as hk hS' hl hG hacc => ?_) hn⟩
  exact ⟨rfl, hQ h' tk acc c as (fun b o e => hk b o (Nat.ne_of_lt (Heap.lt_size e)) (Heap.get?_push_of_some _ e)) hS' hl hG hacc⟩
end
/-- a pair of a key and its value -/
def PairAt (H : Hp) (b : Addr) (e : List L2.Key × V) : Prop := ∃ q, H b = some (.tup [.ref q, e.2]) ∧ H q = some (.tup (e.1.map kV))
theorem paired_mk {α β : Type} {F : α → β → Prop} : ∀ {xs : List α} {ys : List β}, xs.length = ys.length → (∀ (j : Nat) x y, xs[j]? = some x → ys[j]? = some y → F x y) → Paired F xs ys
  | [], [], _, _ => .nil
  | [], _ :: _, h, _ => by cases h
  | _ :: _, [], h, _ => by cases h
  | x :: xs, y :: ys, h, k => .cons (k 0 x y rfl rfl) (paired_mk (Nat.succ.inj h) fun j a b e1 e2 => k (j + 1) a b e1 e2)
def rListI : List V → Hp → VK → Prop := fun xs H Q => ∃ p a kvs, xs = [.ref p] ∧ H p = some (L2.DX.itemsO p a) ∧ H a = some (.dT kvs) ∧
  ∀ l bs H', H l = none → (∀ b o, H b = some o → H' b = some o) → H' l = some (.lst (bs.map V.ref)) → Paired (PairAt H') bs kvs → Q (.ref l) H'
section
variable {X : Cx}
/-- list(d.items()), the view at p -/
theorem call_listI (hc : X.calm = true) : CallR X (.type "list") rListI := by
  intro pins s σ H xs us Q I r h
  obtain ⟨p, a, kvs, rfl, hp, ha, q⟩ := h
  obtain rfl := Vals.ref1 r
  have view : s.heap.IsItemsView p a := (show ObjOk X.prog X.w H s.heap p (L2.DX.itemsO p a) from I.hok p _ hp).1
  obtain ⟨z, hd, xs', rel, o, es, ep, ho, hx, hdat, hes, his, hn⟩ := dt_of I.hok ha
  have l1 : kvs.length = xs'.length := Paired.length rel
  have l2 : es.size = xs'.length := size_of_entries hes
  have hh : X.A.handled = none := I.ok.hd hc
  refine callI (es := es) (ep := ep) hh view ⟨o, ho, hx, hdat⟩ (by omega) fun h' tk acc c as hk hS hl hG hacc => ?_
  have lak : as.length = kvs.length := by omega
  have nd : as.Nodup := List.Pairwise.imp (fun h => Nat.ne_of_lt h) hG.rise
  have hf : H s.heap.objs.size = none := I.hok.fresh (Nat.le_refl _)
  have I1 : Inv X pins σ H { s with heap := h', toks := tk } := I.kept (t' := tk) hk
  have I2 : Inv X pins σ (upd H s.heap.objs.size (.lst (as.map V.ref))) { s with heap := h', toks := tk } := I1.take (h' := h') (t' := tk) (fun b ob _ e => e) (I.fpOk (Nat.le_refl _) hf)
    ⟨by rw [List.length_map]; omega, acc.toList, c, by rw [hacc]; exact L2.vals_refs as, by rw [Array.toArray_toList]; exact hS⟩
  obtain ⟨H2, I3, kp, ht⟩ := L2.DX.takeT (P := fun b vs => ∃ (j : Nat) (e : List L2.Key × V) (q : Addr), as[j]? = some b ∧ kvs[j]? = some e ∧ vs = [.ref q, e.2] ∧ H q = some (.tup (e.1.map kV))) I as _ I2 nd fun b hb => by
    have hb1 := hG.above b hb
    have hb0 : H b = none := I.hok.fresh (Nat.le_of_lt hb1)
    refine ⟨Nat.le_of_lt hb1, by rw [upd_ne (Nat.ne_of_gt hb1)]; exact hb0, ?_⟩
    obtain ⟨j, hj⟩ := List.mem_iff_getElem?.mp hb
    obtain ⟨en, he, hg⟩ := hG.pairs j b hj
    rw [entry_at hes j] at he
    cases hxj : xs'[j]? with
    | none =>
      rw [hxj] at he
      exact nomatch (show (none : Option DictEntry) = some en from he)
    | some x =>
      rw [hxj] at he
      have een : entryOfKey (tupleKind (mixKind X.prog X.w)) x = en := Option.some.inj he
      obtain ⟨e0, he0, r1, r2, r3⟩ := L2.DX.pget rel hxj
      refine ⟨[.ref x.2.1, e0.2], ⟨j, e0, x.2.1, hj, he0, rfl, r2⟩, fun H2 => ?_⟩
      refine ⟨by show 2 ≤ sizeLine; decide, [.ref x.2.1, x.2.2], .cons rfl (.cons r3 .nil), ⟨_, hg, rfl, 0, ?_⟩⟩
      rw [← een]
      rfl
  refine ⟨.ref s.heap.objs.size, H2, I3, rfl, q _ as H2 hf (fun b o e => kp b o (by rw [upd_ne (ne_of_none e hf)]; exact e)) (kp _ _ upd_same) (paired_mk lak fun j b e e1 e2 => ?_)⟩
  obtain ⟨vs, ⟨j', e', q', f1, f2, rfl, f4⟩, f5⟩ := ht b (List.mem_of_getElem? e1)
  have ej : j' = j := (List.getElem?_inj (List.getElem?_eq_some_iff.mp f1).1 nd).mp (f1.trans e1.symm)
  subst ej
  rw [e2] at f2
  cases f2
  exact ⟨q', f5, kp _ _ (by rw [upd_ne (ne_of_none f4 hf)]; exact f4)⟩
end
end Itd

set_option Elab.async false
set_option linter.all false
set_option maxRecDepth 100000
set_option maxHeartbeats 4000000
/-! A display of a dict whose keys are tuples. -/
namespace Dh
open PySem PySem.Spec PyProof.Rows L2
/-- a pair of a display: where the key stands, the key, the value -/
structure Pk where
  kat : Addr
  key : List Key
  val : V
def Pk.ok (H : Hp) (e : Pk) : Prop := H e.kat = some (.tup (e.key.map kV))
section
variable {X : Cx}
theorem carriesT {pins : List (Addr × Obj)} {σ : L2.St} {H : Hp} {s : Shared} (I : Inv X pins σ H s) : ∀ (L : List Pk) (ws : List (Value × Value)), (∀ e ∈ L, e.ok H) → VV (L.map fun e => (V.ref e.kat, e.val)) ws →
    ∃ ps : List (List Key × Addr × Value), CarriesH (tupleKind (mixKind X.prog X.w)) s.heap ws ps ∧ KT H (L.map fun e => (e.key, e.val)) ps
  | [], _, _, r => by
    cases r
    exact ⟨[], trivial, .nil⟩
  | e :: L, _, h, r => by
    rw [List.map_cons] at r
    cases r with
    | @cons a b as bs q t =>
      obtain ⟨ps, h1, h2⟩ := carriesT I L bs (fun e he => h e (List.mem_cons_of_mem _ he)) t
      obtain ⟨b1, b2⟩ := b
      obtain ⟨q1, q2⟩ := q
      cases q1
      have hk := h e List.mem_cons_self
      exact ⟨(e.key, e.kat, b2) :: ps, ⟨rfl, rfl, key_of I.hok hk, h1⟩, .cons ⟨rfl, hk, q2⟩ h2⟩
/-- {k: v, ..} with keys tuples; the new dict stands empty while the pairs are made -/
def tDispT (trs : List (TE × TE)) : TE := fun σ H Q => ∀ p, H p = none → tPairs trs σ (upd H p (.dT [])) fun ps H2 => H2 p = some (.dT []) ∧ ∃ L : List Pk, ps = L.map (fun e => (.ref e.kat, e.val)) ∧ (∀ e ∈ L, e.ok H2) ∧ L.length ≤ 15 ∧
  Q (.ref p) (upd H2 p (.dT (mergeT [] (L.map fun e => (e.key, e.val)))))
theorem pe_dispT {pos : Pos} {keys : List (Option Expr)} {values : List Expr} {trs : List (TE × TE)} (hu : X.A.units + 1 < cLine) (h : PPs X pos keys values trs) (hall : keys.all (·.isSome) = true) (hl : keys.length = values.length) (h0 : keys ≠ [])
    (h15 : keys.length ≤ 15) : PE X (.Dict keys values pos) (tDispT trs) := by
  refine ⟨fun pins s σ H Q I q => ?_⟩
  have hn := I.hok.fresh (Nat.le_refl s.heap.objs.size)
  have I1 := I.laid (a := s.heap.objs.size) (o := .dT []) (h' := s.heap.push { cls := .type "dict", data := .dict #[] }) (t' := s.toks) (fun _ _ q => Heap.get?_push_of_some _ q) (Nat.le_refl _) (dt_empty s.heap I.big)
  have lp := pairTrees_length keys values X.env pos hall hl
  rw [arm_eval_Dict, zip_pairTrees keys values X.env pos hall hl, dictDisplay_pairs (pairTrees keys values X.env pos) (fun z => by rw [z] at lp; exact h0 (List.length_eq_zero_iff.mp lp.symm)) (by omega)]
  refine wpAny_bind (wpAny_standAt (wpAny_bind (wpAny_subDictH (knd := tupleKind (mixKind X.prog X.w)) (Q := fun d s' => wpAny (model X.prog X.w) X.A (pure (Value.ref d)) (EP X pins σ Q) X.xe s') (by show X.A.units < cLine; omega) (by omega) ?_)))
  refine thn (h.run pins _ σ _ _ I1 (q _ hn)) fun ws s2 ⟨ps, H2, I2, rel, e, L, ep, hk, l15, q2⟩ => ?_
  subst ep
  obtain ⟨rs, c, rk⟩ := carriesT I2 L ws hk rel
  obtain ⟨z, hd, vs0, r0, dd⟩ := dt_of I2.hok e
  cases r0
  refine ⟨rs, c, dd, fun h' tk dd' hs => wpAny_pure ⟨.ref s.heap.objs.size, _, ?_, rfl, q2⟩⟩
  have len : (mergeT [] (L.map fun e => (e.key, e.val))).length ≤ sizeLine := by
    have := length_mergeT (L.map fun e => (e.key, e.val)) []
    rw [List.length_map] at this
    rw [sizeLine_eq]
    exact Nat.le_trans this (by rw [List.length_nil]; omega)
  have he : ∃ q, h'.get? s.heap.objs.size = some q := let ⟨q, _, _, hq, _⟩ := dd'; ⟨q, hq⟩
  obtain ⟨o, es, epo, g1, g2, g3, g4, _, g5⟩ := dd'
  refine d_write I2 (by rw [e]; exact True.intro) hs he ⟨len, hd, _, ?_, o, es, epo, g1, g2, g3, g4, g5⟩
  refine (kt_merge rk .nil).keeps fun b ys eb => ?_
  rw [upd_ne (fun z => by rw [z, e] at eb; cases eb)]
  exact eb
end
end Dh

set_option Elab.async false
set_option linter.all false
set_option maxRecDepth 100000
set_option maxHeartbeats 4000000
/-! A list comprehension over what keeps its last tuple (items of a dict), with a name as the target. -/
namespace Lk
open PySem PySem.Spec PyProof.Rows L2
/-- tuples stay -/
def Grow (H H' : Hp) : Prop := ∀ c xs, H c = some (.tup xs) → H' c = some (.tup xs)
/-- one turn of an iterator that keeps a tuple: a is the kept one -/
structure TurnK (P : Program) (w : World) (K : PySem.W.Frag) (tg : Expr) (J : It) (fp : List Addr) (it : Addr) (tn : Nat → Option Addr → Heap → Prop) : Prop where
  obj : ∀ i a h, tn i a h → ∀ b ∈ fp, ∃ o, h.get? b = some o ∧ ∀ v, o.data ≠ .cell v
  keep : ∀ i a h h', tn i a h → (∀ b ∈ fp, ∀ o, h.get? b = some o → h'.get? b = some o) → tn i a h'
  item : ∀ (X : Cx), X.prog = P → X.w = w → X.K = K → X.calm = true → ∀ (i : Nat) (a : Option Addr) (pins : List (Addr × Obj)) (s : Shared) (σ : L2.St) (H : Hp) (E : Value → Shared → Prop), Inv X pins σ H s → (∀ b ∈ fp, FpOk X pins H b) → tn i a s.heap →
    (∀ b, a = some b → ∃ xs, H b = some (.tup xs)) → J.go i H → wpAny (model P w) X.A (pyNext (.ref it)) (fun r s1 => ∃ u, r = some u ∧
      wpAny (model P w) X.A (letOwnedTupleGo tg (.ref it) u) (fun _ s2 => ∃ b a' H', u = Value.ref b ∧ Inv X pins σ H' s2 ∧ J.yld i H (.ref b) H' ∧ tn (i + 1) a' s2.heap ∧ (∀ c, a' = some c → ∃ xs, H' c = some (.tup xs)) ∧ ∀ c ∈ fp, H' c = none) E s1) E s
  done : ∀ (X : Cx), X.prog = P → X.w = w → X.K = K → X.calm = true → ∀ (i : Nat) (a : Option Addr) (pins : List (Addr × Obj)) (s : Shared) (σ : L2.St) (H : Hp) (E : Value → Shared → Prop), Inv X pins σ H s → (∀ b ∈ fp, FpOk X pins H b) → tn i a s.heap →
    (∀ b, a = some b → ∃ xs, H b = some (.tup xs)) → J.stop i H → wpAny (model P w) X.A (pyNext (.ref it)) (fun r s1 => r = none ∧ Inv X pins σ H s1) E s
  self : ∀ (A : Around) (s : Shared) (Q : Value → Shared → Prop) (E : Value → Shared → Prop), tn 0 none s.heap → Q (.ref it) s → wpAny (model P w) A (pyIter (.ref it)) Q E s
/-- what is walked -/
structure PIk (X : Cx) (tg iter : Expr) (wi : TI) : Prop where
  run : ∀ (pins : List (Addr × Obj)) (s : Shared) (σ : L2.St) (H : Hp) (R : It → Hp → Prop), Inv X pins σ H s → wi σ H R →
    wpAny (model X.prog X.w) X.A (eval iter X.env) (fun v s1 => wpAny (model X.prog X.w) X.A (pyIter v) (fun itv s2 => ∃ (it : Addr) (fp : List Addr) (tn : Nat → Option Addr → Heap → Prop) (J : It) (H' : Hp), itv = .ref it ∧ Inv X pins σ H' s2 ∧ TurnK X.prog X.w X.K tg J fp it tn ∧ tn 0 none s2.heap ∧ (∀ b ∈ fp, FpOk X pins H' b) ∧ R J H') X.xe s1) X.xe s
/-- [e for target in iter if ..]: what was there when it was yielded is still there at the turn's end -/
def tLk (wi : TI) (g : TG) (tt : TT) (te : TE) (vs : List Nat) : TE := fun σ H Q => wi σ H fun J H1 => ∀ D, H1 D = none → ∃ W : Nat → Nat → Hp → Prop, (∃ m, W 0 m (upd H1 D (.lst []))) ∧ ∀ i m H, W i m H →
  (J.stop i H ∧ Q (.ref D) H) ∨ (J.go i H ∧ ∃ Nx : Hp → Prop, (∀ H', Nx H' → ∃ m', m' < m ∧ W (i + 1) m' H') ∧ ∀ b H', J.yld i H (.ref b) H' → g (.ref b) (wipe σ vs) H' fun σ2 H2 => wipe σ2 vs = wipe σ vs ∧ tt σ2 H2 fun c H3 =>
    if c = true then te σ2 H3 fun y H4 => ∃ acc, H4 D = some (.lst acc) ∧ acc.length < sizeLine ∧ Grow H' (upd H4 D (.lst (acc ++ [y]))) ∧ Nx (upd H4 D (.lst (acc ++ [y]))) else Grow H' H3 ∧ Nx H3)
section
variable {X : Cx}
/-- what stands in the block: its target, tests, item -/
structure BlkL (X : Cx) (scope : Scope) (tg : Expr) (ifs : List Expr) (ex : Expr) (g : TG) (tt : TT) (te : TE) : Prop where
  g : ∀ (s : Shared) (H : Hp) (C : Addr) (cl : List (Str × Addr)) (fp : List Addr), PG (X.blk s H scope (compEnvC scope cl C X.env) fp) tg g
  t : ∀ (s : Shared) (H : Hp) (C : Addr) (cl : List (Str × Addr)) (fp : List Addr), PTs (X.blk s H scope (compEnvC scope cl C X.env) fp) ifs tt
  v : ∀ (s : Shared) (H : Hp) (C : Addr) (cl : List (Str × Addr)) (fp : List Addr), PE (X.blk s H scope (compEnvC scope cl C X.env) fp) ex te
theorem lk_core {pins : List (Addr × Obj)} {σ : L2.St} {H : Hp} {s : Shared} {ex tg iter : Expr} {ifs : List Expr} {scope : Scope} {own : List (Str × Nat)} {pos pos' : Pos} {wi : TI} {g : TG} {tt : TT} {te : TE} {Q : VK} {use : Option (Value → Sem Unit)} {Qf : Value → Shared → Prop} (hc : X.calm = true) (hN : X.N.Nodup) (I : Inv X pins σ H s) (hi : PIk X tg iter wi) (ok : BlkOk X.N X.env.scope scope own) (B : BlkL X scope tg ifs ex g tt te)
    (hs : ∀ x, foldedSetIterable iter X.env x = pure x) (h : tLk wi g tt te (own.map (·.2)) σ H Q)
    (out : ∀ D C s' m H', Inv X pins σ H' s' → Q (.ref D) H' → s'.heap.Ns C m → FpOk X pins H' C → compPost (model X.prog X.w) X.A X.xe use Qf (.ref D) C (.ok .next) s') :
    wpAny (model X.prog X.w) X.A (comprehension (.ListComp ex [⟨tg, iter, ifs, 0⟩] scope pos) scope X.env pos' (newList []) false (eval iter X.env) use) Qf X.xe s := by
  have outer : ∀ y ∈ scope.names, y.2 = .free → ∃ c, X.env.cells.lookup y.1 = some c := fun y hy e => (ok.free y hy e).elim (fun k => I.ok.has _ (.inl k)) fun k => I.ok.has _ (.inr k)
  refine wpAny_comprehension_free (use := use) rfl hs (closure_ok outer) ok.kind (fun y hy e => by rw [ok.uniq y hy, e]) (thn (hi.run pins s σ H _ I h) fun xv s1 hx => thn hx fun itv s2 h2 => ?_)
  obtain ⟨it, fp, tn, J, H2, rfl, I2, T, st2, f2, q⟩ := h2
  refine wpAny_newObj_type (newEnv_comp ?_) (by show 0 ≤ sizeLine; decide)
  obtain ⟨D, eD⟩ : ∃ D, D = s2.heap.objs.size := ⟨_, rfl⟩
  have low : ∀ b ∈ fp, b < D := fun b hb => by
    obtain ⟨o, e, _⟩ := T.obj _ _ _ st2 b hb
    rw [eD]
    exact Heap.lt_size e
  obtain ⟨W, ⟨m0, w0⟩, turn⟩ := q D (I2.hok.fresh (Nat.le_of_eq eD.symm))
  -- the new dict
  obtain ⟨s3, es3⟩ : ∃ s3 : Shared, s3 = { s2 with heap := s2.heap.push { cls := .type "list", data := .seq ([] : List Value).toArray } } := ⟨_, rfl⟩
  have kp3 : ∀ b o, s2.heap.get? b = some o → s3.heap.get? b = some o := fun b o e => by
    rw [es3]
    exact Heap.get?_push_of_some _ e
  have size3 : s3.heap.objs.size = D + 1 := by
    rw [es3, eD]
    exact Heap.size_push ..
  obtain ⟨H3, eH3⟩ : ∃ H3, H3 = upd H2 D (.lst []) := ⟨_, rfl⟩
  rw [← eH3] at w0
  have I3 : Inv X pins σ H3 s3 := by
    rw [eH3, es3]
    refine I2.laid (t' := s2.toks) (fun b o e => Heap.get?_push_of_some _ e) (Nat.le_of_eq eD.symm) ⟨Nat.zero_le _, [], 0, .nil, ?_⟩
    rw [eD]
    exact Heap.get?_push_size _ rfl
  have off : ∀ b ∈ fp, H3 b = none := fun b hb => by
    rw [eH3, upd_ne (Nat.ne_of_lt (low b hb))]
    exact (f2 b hb).1
  have f3 : ∀ b ∈ fp, FpOk X pins H3 b ∧ b < s3.heap.objs.size := fun b hb => ⟨⟨off b hb, (f2 b hb).2⟩, by rw [size3]; exact Nat.lt_succ_of_lt (low b hb)⟩
  have I4 := block_start I3 ok hN f3
  obtain ⟨ce, ece⟩ : ∃ ce, ce = compEnvC scope (cellsFrom (s3.heap.objs.size + 1) scope.names (cloFrom X.env.cells scope.names [])) s3.heap.objs.size X.env := ⟨_, rfl⟩
  obtain ⟨s4, es4⟩ : ∃ s4 : Shared, s4 = { s3 with heap := pushCells (s3.heap.push { cls := .type "dict", data := .dict #[] }) scope.names } := ⟨_, rfl⟩
  have pg := B.g s3 H3 s3.heap.objs.size (cellsFrom (s3.heap.objs.size + 1) scope.names (cloFrom X.env.cells scope.names [])) fp
  have pt := B.t s3 H3 s3.heap.objs.size (cellsFrom (s3.heap.objs.size + 1) scope.names (cloFrom X.env.cells scope.names [])) fp
  have pe := B.v s3 H3 s3.heap.objs.size (cellsFrom (s3.heap.objs.size + 1) scope.names (cloFrom X.env.cells scope.names [])) fp
  rw [← ece] at I4 pg pt pe
  have st4 : tn 0 none s4.heap := T.keep _ _ _ _ st2 fun b _ o e => by
    rw [es4]
    exact pushCells_keeps _ _ _ _ (Heap.get?_push_of_some _ (kp3 b o e))
  have I5 : Inv (X.blk s3 H3 scope ce fp) [] (wipe σ (own.map (·.2))) H3 s4 := by
    rw [es4]
    exact I4
  -- what the walk's own objects are to the block
  have held : ∀ {σ' : L2.St} {H' : Hp} {s' : Shared}, Inv (X.blk s3 H3 scope ce fp) [] σ' H' s' → (∀ b ∈ fp, H' b = none) → ∀ b ∈ fp, FpOk (X.blk s3 H3 scope ce fp) [] H' b := fun {σ' H' s'} J' hn b hb =>
    ⟨hn b hb, (J'.ok.exf b hb).1, J'.ok.exfs b hb, .inl hb, fun x c e => (J'.ok.exf b hb).2 x c e, fun p hp => nomatch (show p ∈ ([] : List (Addr × Obj)) from hp)⟩
  have loop : codeAny (model X.prog X.w) X.A (.compLoop (.ListComp ex [⟨tg, iter, ifs, 0⟩] scope pos) 0 (.ref it) (.ref D) ce) (compPost (model X.prog X.w) X.A X.xe use Qf (.ref D) s3.heap.objs.size) s4 := by
    refine compLoop_any (fun n s' => ∃ i a H', Inv (X.blk s3 H3 scope ce fp) [] (wipe σ (own.map (·.2))) H' s' ∧ tn i a s'.heap ∧ (∀ b, a = some b → ∃ xs, H' b = some (.tup xs)) ∧ (∀ b ∈ fp, H' b = none) ∧ W i n H') ?_ m0 ⟨0, none, H3, I5, st4, (fun _ z => nomatch z), off, w0⟩
    rintro n s5 ⟨i, ka, H5, J5, st5, kh, n5, w5⟩
    rcases turn i n H5 w5 with ⟨stop, fin⟩ | ⟨go, Nx, less, step⟩
    · refine thnF (T.done (X.blk s3 H3 scope ce fp) rfl rfl rfl hc i ka [] s5 _ H5 (fun _ _ => False) J5 (held J5 n5) st5 kh stop) fun r s6 ⟨er, J6⟩ => ?_
      subst er
      have J7 : Inv X pins σ H5 s6 := I3.call' (ch := fp) J6.os J6.base J6.hok J6.bare fun b hb => ⟨(f3 b hb).1.2.2.2.1, (f3 b hb).1.2.1, (f3 b hb).1.2.2.2.2.1, (f3 b hb).1.2.2.2.2.2⟩
      have noC : H5 s3.heap.objs.size = none := by
        have z : H5 ce.locals = none := J6.free
        rw [ece] at z
        exact z
      obtain ⟨m, ns, _⟩ := J6.loc
      have ns' : s6.heap.Ns ce.locals m := ns
      rw [ece] at ns'
      exact out D s3.heap.objs.size s6 m H5 J7 fin ns' (I3.fpOk (Nat.le_refl _) noC)
    · refine thnF (T.item (X.blk s3 H3 scope ce fp) rfl rfl rfl hc i ka [] s5 _ H5 (fun _ _ => False) J5 (held J5 n5) st5 kh go) fun r s6 ⟨u, er, h6⟩ => ?_
      subst er
      refine thnF h6 fun _ s7 ⟨kb, a7, H7, eu, J7, y7, st7, k7, n7⟩ => ?_
      subst eu
      refine thnF (pg.run _ s7 _ H7 (V.ref kb) (Value.ref kb) _ (J7.pinned (held J7 n7) (T.obj _ _ _ st7)) rfl (step kb H7 y7)) fun _ s8 ⟨σ8, H8, J8, ew, q8⟩ => ?_
      refine thnF (pt.run _ s8 σ8 H8 _ J8 q8) fun b s9 ⟨H9, J9, q9⟩ => ?_
      have again : ∀ {s' : Shared} {H' : Hp}, Inv (X.blk s3 H3 scope ce fp) ([] ++ pinsAt fp s7.heap) σ8 H' s' → Grow H7 H' → Nx H' → ∃ m, m < n ∧ ∃ i a H', Inv (X.blk s3 H3 scope ce fp) [] (wipe σ (own.map (·.2))) H' s' ∧ tn i a s'.heap ∧ (∀ b, a = some b → ∃ xs, H' b = some (.tup xs)) ∧ (∀ b ∈ fp, H' b = none) ∧ W i m H' := fun {s' H'} J' kx nx => by
        obtain ⟨m', lt, w'⟩ := less H' nx
        have still : ∀ b ∈ fp, ∀ o, s7.heap.get? b = some o → s'.heap.get? b = some o ∧ H' b = none := fun b hb o e => by
          have z := J'.pin (b, o) (List.mem_append_right _ (List.mem_append_right _ (mem_pinsAt hb e)))
          exact ⟨z.1, z.2.1⟩
        refine ⟨m', lt, i + 1, a7, H', (J'.unpinned (pins := [])).weak (by rw [← ew, wipe_length]) (fun j v e => ?_), T.keep _ _ _ _ st7 fun b hb o e => (still b hb o e).1, (fun b eb => by obtain ⟨ys, e⟩ := k7 b eb; exact ⟨ys, kx b ys e⟩), fun b hb => ?_, w'⟩
        · rw [← ew] at e
          exact (wipe_some e).1
        · obtain ⟨o, e, _⟩ := T.obj _ _ _ st7 b hb
          exact (still b hb o e).2
      cases b with
      | false => exact again J9 q9.1 q9.2
      | true =>
        refine thnF (pe.run _ s9 σ8 H9 _ J9 q9) fun z s10 ⟨yv, H10, J10, r10, acc, hD10, hz10, kx, nx⟩ => ?_
        exact app_ok (X := X.blk s3 H3 scope ce fp) J10 hD10 hz10 r10 fun s11 J11 => again J11 kx nx
  have start := codeAny_compStart_list loop (T.self X.A _ _ _ st4 loop)
  subst es4 ece es3 eD
  exact start
end
end Lk

set_option Elab.async false
set_option linter.all false
set_option maxRecDepth 100000
set_option maxHeartbeats 4000000
/-! [.. for x in d.items() if ..], d with tuple keys, locked meanwhile. -/
namespace Lk
open PySem PySem.Calls PySem.Spec PyProof.Rows L2
/-- each pair in a new tuple -/
def Itn (d : Addr) (o : Obj) (kvs : List (List Key × V)) : It :=
  ⟨fun i H => H d = some (.frz o (.dT kvs)) ∧ i < kvs.length, fun i H x H' => ∃ b q e, x = .ref b ∧ H b = none ∧ kvs[i]? = some e ∧ H q = some (.tup (e.1.map kV)) ∧ H' = upd H b (.tup [.ref q, e.2]), fun i H => H d = some (.frz o (.dT kvs)) ∧ kvs.length ≤ i⟩
def tnI (it d : Addr) (n ep : Nat) (i : Nat) (a : Option Addr) (h : Heap) : Prop :=
  (i = 0 ∧ a = none ∧ ∃ ok ov, IsItemIter h it d 0 n ep ok ov) ∨ ∃ ok ov b f, a = some b ∧ PySem.W.KdxIt h it d i n ep ok ov b f ∧ b ≠ it
theorem tnI.ob {it d : Addr} {n ep i : Nat} {a : Option Addr} {h : Heap} (x : tnI it d n ep i a h) : ∃ o, h.get? it = some o ∧ o.cls = .type "dict_itemiterator" ∧ ∃ fs, o.data = .fields fs := by
  rcases x with ⟨_, _, ok, ov, e⟩ | ⟨ok, ov, b, f, _, e, _⟩
  · exact ⟨_, e, rfl, _, rfl⟩
  · exact ⟨_, e, rfl, _, rfl⟩
theorem turn_itn {P : Program} {w : World} {K : PySem.W.Frag} {x : Str} {px : Pos} (it d : Addr) {o : Obj} {kvs : List (List Key × V)} {es : Array DictEntry} {ep : Nat} (hod : o.data = .dict es ep) : TurnK P w K (.Name x px) (Itn d o kvs) [it] it (tnI it d es.size ep) where
  obj := fun i a h st b hb => by
    have e : b = it := by simpa using hb
    subst e
    obtain ⟨oi, e, _, fs, dd⟩ := st.ob
    exact ⟨oi, e, fun v z => by rw [dd] at z; cases z⟩
  keep := fun i a h h' st k => by
    rcases st with ⟨e, ea, ok, ov, hit⟩ | ⟨ok, ov, b, f, ea, hit, ne⟩
    · exact .inl ⟨e, ea, ok, ov, k it (by simp) _ hit⟩
    · exact .inr ⟨ok, ov, b, f, ea, k it (by simp) _ hit, ne⟩
  item := by
    intro X hP hw hK hc i a pins s σ H E I hf st kh hg
    subst hP hw hK
    obtain ⟨hd, hi⟩ := hg
    obtain ⟨f0, f1, f2, f3, f4, f5⟩ := hf it (by simp)
    obtain ⟨hgd, z, hs, xs, pr, o', es', ep', ho, hx, hdt, he, _⟩ := I.hok d _ hd
    rw [hgd] at ho
    cases ho
    rw [hod] at hdt
    cases hdt
    have l1 : es.size = xs.length := size_of_entries he
    have l2 : kvs.length = xs.length := Paired.length pr
    have hie : i < es.size := by omega
    have raw : DT.Raw s.heap d es ep := ⟨o, hgd, hx, hod⟩
    obtain ⟨y, hy, e1, e2, e3⟩ := paired_get pr (List.getElem?_eq_getElem hi)
    have ent : es[i]? = some (entryOfKey (tupleKind (mixKind X.prog X.w)) y) := by
      rw [entry_at he i, hy]
      rfl
    have eg : es[i] = entryOfKey (tupleKind (mixKind X.prog X.w)) y := by
      rw [Array.getElem?_eq_getElem hie] at ent
      exact Option.some.inj ent
    have hfr : H s.heap.objs.size = none := I.hok.fresh (Nat.le_refl _)
    have fin : ∀ (h' : Heap) (a' : Option Addr), tnI it d es.size ep (i + 1) a' h' → (∀ c, a' = some c → c = s.heap.objs.size ∨ ∃ ys, H c = some (.tup ys)) →
        h'.get? s.heap.objs.size = some { cls := .type "tuple", data := .seq #[es[i].key, es[i].val] } → (∀ b o, b ≠ it → s.heap.get? b = some o → h'.get? b = some o) →
        ∃ u, some (Value.ref s.heap.objs.size) = some u ∧ wpAny (model X.prog X.w) X.A (letOwnedTupleGo (.Name x px) (.ref it) u) (fun _ s2 => ∃ b a' H', u = Value.ref b ∧ Inv X pins σ H' s2 ∧ (Itn d o kvs).yld i H (.ref b) H' ∧ tnI it d es.size ep (i + 1) a' s2.heap ∧ (∀ c, a' = some c → ∃ xs, H' c = some (.tup xs)) ∧ ∀ c ∈ [it], H' c = none) E { s with heap := h' } := by
      intro h' a' st' ka ht hk
      refine ⟨_, rfl, ?_⟩
      have I1 : Inv X pins σ H { s with heap := h' } := I.turned (t' := s.toks) (fun b ob hb e => hk b ob hb e) f0 f1 f3 f4 f5
      have I2 : Inv X pins σ (upd H s.heap.objs.size (.tup [.ref y.2.1, kvs[i].2])) { s with heap := h' } := I1.take (h' := h') (t' := s.toks) (fun b ob _ e => e) (I.fpOk (Nat.le_refl _) hfr)
        ⟨by show 2 ≤ sizeLine; decide, [.ref y.2.1, y.2.2], .cons rfl (.cons e3 .nil), ⟨_, ht, rfl, 0, by rw [eg]; rfl⟩⟩
      show wpAny _ _ (pure ()) _ _ _
      refine wpAny_pure ⟨s.heap.objs.size, a', _, rfl, I2, ⟨s.heap.objs.size, y.2.1, kvs[i], rfl, hfr, List.getElem?_eq_getElem hi, e2, rfl⟩, st', fun c ec => ?_, fun c hc => ?_⟩
      · by_cases ee : c = s.heap.objs.size
        · subst ee
          exact ⟨_, upd_same⟩
        · rcases ka c ec with z | ⟨o2, z⟩
          · exact absurd z ee
          · exact ⟨o2, by rw [upd_ne ee]; exact z⟩
      · have ec : c = it := by simpa using hc
        subst ec
        obtain ⟨oi, e, _⟩ := st.ob
        rw [upd_ne (Nat.ne_of_lt (Heap.lt_size e))]
        exact f0
    rcases st with ⟨ei, ea, ok, ov, hit⟩ | ⟨ok, ov, b, f, ea, hit, ne⟩
    · subst ei ea
      refine DT.nextI hit raw hie fun h' hit' ht hz hk => fin h' (some s.heap.objs.size) (.inr ⟨_, _, _, false, rfl, hit', ?_⟩) (fun c ec => .inl (Option.some.inj ec).symm) ht hk
      exact Nat.ne_of_gt (Heap.lt_size hit)
    · obtain ⟨ob, hb⟩ := kh b ea
      obtain ⟨_, _, _, oa, hoa, _⟩ := I.hok b _ hb
      exact DT.nextO hit hoa ne raw hie fun h' hit' ht hz hk => fin h' a (.inr ⟨ok, ov, b, true, ea, hit', ne⟩) (fun c ec => by rw [ea] at ec; cases ec; exact .inr ⟨ob, hb⟩) ht hk
  done := by
    intro X hP hw hK hc i a pins s σ H E I hf st kh hg
    subst hP hw hK
    obtain ⟨hd, hi⟩ := hg
    obtain ⟨f0, f1, f2, f3, f4, f5⟩ := hf it (by simp)
    obtain ⟨hs, hgd, hx, es', ep', hdt, hsz, _⟩ := I.frzT hd
    rw [hod] at hdt
    cases hdt
    have raw : DT.Raw s.heap d es ep := ⟨o, hgd, hx, hod⟩
    have fin : ∀ h', Heap.ExtBut it s.heap h' → (none : Option Value) = none ∧ Inv X pins σ H { s with heap := h' } := fun h' eb => ⟨rfl, I.turned (t' := s.toks) (fun b ob hb e => eb b ob hb e) f0 f1 f3 f4 f5⟩
    rcases st with ⟨ei, ea, ok, ov, hit⟩ | ⟨ok, ov, b, f, ea, hit, ne⟩
    · subst ei
      exact DT.endI (I.ok.hd hc) hit raw (by omega) fin
    · exact DT.endO (I.ok.hd hc) hit raw (by omega) fin
  self := fun A s Q E st h => by
    rcases st with ⟨_, _, ok, ov, hit⟩ | ⟨_, _, _, _, ea, _⟩
    · exact PySem.W.kcp_self hit h
    · cases ea
end Lk

set_option Elab.async false
set_option linter.all false
set_option maxRecDepth 100000
set_option maxHeartbeats 4000000
/-! name = [.. for x in d.items() if ..]: the rules one uses. -/
namespace Lk
open PySem PySem.Calls PySem.Spec PyProof.Rows L2
section
variable {X : Cx}
/-- d.items(), d locked -/
def rItF : V → List V → Hp → VK → Prop := fun x xs H Q => ∃ (a : Addr) (o : Obj) (kvs : List (List Key × V)), x = .ref a ∧ xs = [] ∧ H a = some (.frz o (.dT kvs)) ∧ ∀ p, H p = none → Q (.ref p) (upd H p (DX.itemsO p a))
theorem mt_itF : MtR X "dict.items" rItF := by
  intro pins s σ H x xs v us Q I rx rxs h
  obtain ⟨a, o, kvs, rfl, rfl, ha, q⟩ := h
  cases rx
  cases rxs
  obtain ⟨hs, hgd, hx, es, ep, hdt, _⟩ := I.frzT ha
  refine DT.callItems (es := es) (ep := ep) hs ⟨o, hgd, hx, hdt⟩ ?_
  have hf : H s.heap.objs.size = none := I.hok.fresh (Nat.le_refl _)
  refine ⟨.ref s.heap.objs.size, upd H s.heap.objs.size (DX.itemsO s.heap.objs.size a), ?_, rfl, q _ hf⟩
  exact I.laid (t' := s.toks) (fun b u e => Heap.get?_push_of_some _ e) (Nat.le_refl _) (DX.itemsO_ok (Heap.get?_push_size _ rfl))
/-- o.items() as a value, o a locked dict -/
theorem pe_itF {o : Expr} {to : TE} {apos cpos : Pos} (ho : PE X o to) (hbase : attributeBase o "items" X.env (eval o X.env) = eval o X.env := by rfl) (hline : (apos.endLine == cpos.line) = true := by rfl) :
    PE X (.Call (.Attribute o "items" apos) [] [] cpos) (fun σ H Q => to σ H fun x H1 => rItF x [] H1 Q) := by
  refine ⟨fun pins s σ H Q I h => ?_⟩
  refine wpAny_Call_method0_late hbase hline (thn (ho.run pins s σ H _ I h) fun v s1 ⟨x, H1, I1, r1, q1⟩ => ?_)
  obtain ⟨a, ob, kvs, ex, _, ha, _⟩ := id q1
  subst ex
  obtain rfl : v = Value.ref a := r1
  obtain ⟨_, hgd, hx, _⟩ := I1.frzT ha
  exact ⟨"dict", "dict.items", PySem.F.plainAttrs_dict, PySem.F.slot_dict_items, PySem.F.type_dict_items, ⟨_, hgd, hx.1⟩, (fun b e => by cases e; exact ⟨_, hgd, hx.2.1⟩),
    Calls.callWith_builtin rfl (PySem.evalArgs_none (mt_itF pins s1 σ H1 (.ref a) [] (.ref a) [] Q I1 rfl .nil q1))⟩
def iItF (te : TE) : TI := fun σ H R => te σ H fun x H1 => ∃ p d o kvs, x = .ref p ∧ H1 p = some (DX.itemsO p d) ∧ H1 d = some (.frz o (.dT kvs)) ∧ R (Itn d o kvs) H1
theorem pik_view {x : Str} {px : Pos} {e : Expr} {te : TE} (he : PE X e te) : PIk X (.Name x px) e (iItF te) := by
  refine ⟨fun pins s σ H R I h => ?_⟩
  refine thn (he.run pins s σ H _ I h) fun u s1 ⟨y, H1, I1, ry, p, d, o, kvs, ey, hp, hd, q⟩ => ?_
  subst ey
  obtain rfl : u = Value.ref p := ry
  have view : s1.heap.IsItemsView p d := (show ObjOk X.prog X.w H1 s1.heap p (DX.itemsO p d) from I1.hok p _ hp).1
  obtain ⟨hs, hgd, hx, es, ep, hdt, hsz, _⟩ := I1.frzT hd
  refine DT.iterI (es := es) (ep := ep) view ⟨o, hgd, hx, hdt⟩ ?_
  refine ⟨s1.heap.objs.size, [s1.heap.objs.size], tnI s1.heap.objs.size d es.size ep, Itn d o kvs, H1, rfl, I1.kept (t' := s1.toks) (fun b ob e => Heap.get?_push_of_some _ e), turn_itn _ d hdt, .inl ⟨rfl, rfl, _, _, Heap.get?_push_size _ rfl⟩, fun b hb => ?_, q⟩
  rw [List.mem_singleton.mp hb]
  exact I1.fpOk (Nat.le_refl _) (I1.hok.fresh (Nat.le_refl _))
/-- name = [..], the name a local -/
theorem ps_setLk {i : Nat} {y : Str} {py : Pos} {ex tg iter : Expr} {ifs : List Expr} {scope : Scope} {own : List (Str × Nat)} {pos spos : Pos} {wi : TI} {g : TG} {tt : TT} {te : TE} (hc : X.calm = true) (hN : X.N.Nodup) (hy : X.N[i]? = some y) (hyl : X.env.scope.names.lookup y = some .local)
    (hsw : swapsWith (.ListComp ex [⟨tg, iter, ifs, 0⟩] scope pos) (some (.Name y py)) spos.line X.env = pure true) (hi : PIk X tg iter wi) (ok : BlkOk X.N X.env.scope scope own) (B : BlkL X scope tg ifs ex g tt te)
    (hs : ∀ x, foldedSetIterable iter X.env x = pure x := by intro _; rfl) : PS X (.Assign [.Name y py] (.ListComp ex [⟨tg, iter, ifs, 0⟩] scope pos) spos) (tAsg (tLk wi g tt te (own.map (·.2))) (gName i)) := by
  refine ⟨fun pins s σ H D I h => ?_⟩
  have h' : tLk wi g tt te (own.map (·.2)) σ H (fun x H1 => gName i x σ H1 D.nx) := h
  rw [exec_Assign_Name_used _ _ _ _ hsw]
  refine wpAny_bind (wpAny_standAt (wpAny_bind ?_))
  refine wpAny_bind (thn (lk_core (Qf := fun _ s' => SP X pins D .next s') hc hN I hi ok B hs h' fun L C s' m H' I' q hn f => ?_) fun _ s' hq => wpAny_pure (wpAny_pure hq))
  obtain ⟨f0, f1, f2, f3, f4, f5⟩ := f
  show wpAny _ _ (assign (.Name y py) X.env (.ref L)) _ _ _
  refine wpAny_assign_Name (store_ok2 (v := V.ref L) I' hN hy (.inl hyl) rfl (fun s2 I2 ⟨a, sb, ha⟩ => ?_) (.inr hyl))
  have off : C ≠ a := ha.elim (fun z => by rw [z]; exact f1) fun z e => f4 y a z e.symm
  exact ⟨m, hn.sameBut sb off, fun h3 sb3 => ⟨_, H', I2.turned (t' := s2.toks) (fun b o hb e => (sb3.2 b hb).trans e) f0 f1 f3 f4 f5, q⟩⟩
end
/-- its reading: Pv by the turn and the heap (the new list at D within) -/
theorem lk_it {d : Addr} {o : Obj} {kvs : List (List Key × V)} {g : TG} {tt : TT} {te : TE} {vs : List Nat} {σ : L2.St} {H1 : Hp} {D : Addr} {Qd : Hp → Prop} (Pv : Nat → Hp → Prop) (h0 : Pv 0 (upd H1 D (.lst []))) (hG : ∀ i H, i ≤ kvs.length → Pv i H → H d = some (.frz o (.dT kvs)))
    (turn : ∀ i H (e : List Key × V) b q, kvs[i]? = some e → Pv i H → H b = none → H q = some (.tup (e.1.map kV)) → g (.ref b) (wipe σ vs) (upd H b (.tup [.ref q, e.2])) fun σ2 H2 => wipe σ2 vs = wipe σ vs ∧ tt σ2 H2 fun c H3 =>
      if c = true then te σ2 H3 fun y H4 => ∃ acc, H4 D = some (.lst acc) ∧ acc.length < sizeLine ∧ Grow (upd H b (.tup [.ref q, e.2])) (upd H4 D (.lst (acc ++ [y]))) ∧ Pv (i + 1) (upd H4 D (.lst (acc ++ [y]))) else Grow (upd H b (.tup [.ref q, e.2])) H3 ∧ Pv (i + 1) H3) (hd : ∀ H, Pv kvs.length H → Qd H) :
    ∃ W : Nat → Nat → Hp → Prop, (∃ m, W 0 m (upd H1 D (.lst []))) ∧ ∀ i m H, W i m H → ((Itn d o kvs).stop i H ∧ Qd H) ∨ ((Itn d o kvs).go i H ∧ ∃ Nx : Hp → Prop, (∀ H', Nx H' → ∃ m', m' < m ∧ W (i + 1) m' H') ∧ ∀ b H', (Itn d o kvs).yld i H (.ref b) H' → g (.ref b) (wipe σ vs) H' fun σ2 H2 => wipe σ2 vs = wipe σ vs ∧ tt σ2 H2 fun c H3 =>
      if c = true then te σ2 H3 fun y H4 => ∃ acc, H4 D = some (.lst acc) ∧ acc.length < sizeLine ∧ Grow H' (upd H4 D (.lst (acc ++ [y]))) ∧ Nx (upd H4 D (.lst (acc ++ [y]))) else Grow H' H3 ∧ Nx H3) := by
  refine ⟨fun i m H => m = kvs.length - i ∧ i ≤ kvs.length ∧ Pv i H, ⟨kvs.length, (Nat.sub_zero _).symm, Nat.zero_le _, h0⟩, fun i m H ⟨em, le, p⟩ => ?_⟩
  rcases Nat.lt_or_ge i kvs.length with lt | ge
  · refine .inr ⟨⟨hG i H le p, lt⟩, Pv (i + 1), fun H' p' => ⟨kvs.length - (i + 1), by omega, rfl, lt, p'⟩, ?_⟩
    rintro b H' ⟨b', q, e, eb, hb, he, hq, rfl⟩
    cases eb
    exact turn i H e b q he p hb hq
  · obtain rfl : i = kvs.length := Nat.le_antisymm le ge
    exact .inl ⟨⟨hG _ H le p, Nat.le_refl _⟩, hd H p⟩
end Lk

set_option Elab.async false
set_option linter.all false
set_option maxRecDepth 100000
set_option maxHeartbeats 4000000
/-! t * k, k from 1 on; all that was there stays. -/
namespace Ts
open PySem PySem.Spec PyProof.Rows L2 Dt An
theorem tuple_mul1 (l : Addr) (items : Array Value) (n : Nat) (dd : Option Addr) (sl : Array (Option Value)) (u : Tok) :
    Meets (Builtin.«tuple.__mul__» ⟨[.ref l, .int 1 u], []⟩) (fun _ R s => s.heap.get? l = some { cls := .type "tuple", dict := dd, data := .seq items n, slots := sl } ∧ R (.ok (.ret (Value.ref l))) s) :=
  .of_wp fun prog w A R s h => by
    obtain ⟨hp, g, d, tk, os⟩ := s
    obtain ⟨hl, h⟩ := h
    have f1 := AutoSeq1.idx_int
    have c1 : (items.isEmpty || (1 : Int) == 1) = true := by rw [show ((1 : Int) == 1) = true from rfl, Bool.or_true]
    wp_walk using wpAny_loadPart' hl
    repeat (first
      | (refine wpAny_ite_true (decide_eq_true (by rw [c1])) ?_; wp_walk using wpAny_loadPart' hl)
      | (refine wpAny_ite_false (by decide) ?_; wp_walk using wpAny_loadPart' hl))
    exact ⟨_, rfl, h⟩
section
variable {X : Cx}
def rMulS (K : PySem.W.Frag) : R2 := fun x y H Q => ∃ l k xs, x = .ref l ∧ y = .int k ∧ SqT K H l xs ∧ xs ≠ [] ∧ 1 ≤ k ∧ k ≤ 1000 ∧ xs.length ≤ 1000 ∧ ∀ q H', Same H H' → SqT K H' q (List.replicate k.toNat xs).flatten → (H l = some (.tup xs) → H' q = some (.tup (List.replicate k.toNat xs).flatten)) → Q (.ref q) H'
theorem op_mulS : OpR X (binaryOp .Mult) (rMulS X.K) := by
  intro pins s σ H x y v u Q I rx ry h
  obtain ⟨l, k, xs, ex, ey, hT, hne, h1, h2, hz, q⟩ := h
  by_cases hk : k = 1
  · subst ex ey hk
    cases rx
    obtain ⟨t, rfl⟩ := ry
    obtain ⟨its, r, ⟨⟨cls, dd, data, sl⟩, ho, hc, n, hd⟩, hs⟩ := I.tuple hT
    simp only at hc hd
    subst hc hd
    refine wpAny_binaryOp_repeat_ref (T := "tuple") (U := "int") (by decide) ⟨_, ho, rfl⟩ (fun s' => typeIs_int s' 1 t) noFill_tuple_mul F.fills_int_mul F.slot_int_rmul repeat_tuple F.slot_int_index.lookup ?_
    refine call_meets F.slot_int_rmul (typeIs_int s 1 t) F.entry_int_rmul (F.args_int_rmul_2 _ _) (int_rmul_tuple 1 t l its.toArray n dd sl) ⟨ho, rfl, ⟨_, ho, rfl⟩, ?_⟩
    refine call_meets F.slot_tuple_mul ⟨_, ho, rfl⟩ F.entry_tuple_mul (F.args_tuple_mul_2 _ _) (tuple_mul1 l its.toArray n dd sl t) ⟨ho, .ref l, H, I, rfl, q l H (Same.rf H) ?_ ?_⟩
    all_goals rw [show (List.replicate (1 : Int).toNat xs).flatten = xs from by show (List.replicate 1 xs).flatten = xs; simp]
    · exact hT
    · exact id
  · exact op_repT pins s σ H x y v u Q I rx ry ⟨l, k, xs, ex, ey, hT, hne, by omega, h2, hz, fun p n => q p _ (sameNew n) (.inl (.inl upd_same)) fun _ => upd_same⟩
end
end Ts

set_option Elab.async false
set_option linter.all false
set_option maxRecDepth 100000
set_option maxHeartbeats 4000000
/-! t * k, k from 0 on; all that was there stays. -/
namespace Ts
open PySem PySem.Spec PyProof.Rows L2 Dt An
theorem tuple_mul0 (l : Addr) (items : Array Value) (n : Nat) (dd : Option Addr) (sl : Array (Option Value)) (u : Tok) (hi : items.isEmpty = false) :
    Meets (Builtin.«tuple.__mul__» ⟨[.ref l, .int 0 u], []⟩) (fun _ R s => s.heap.get? l = some { cls := .type "tuple", dict := dd, data := .seq items n, slots := sl } ∧
      R (.ok (.ret (Value.ref s.heap.objs.size))) { s with heap := s.heap.push { cls := Value.type "tuple", data := Data.seq #[] }, toks := s.toks }) :=
  .of_wp fun prog w A R s h => by
    obtain ⟨hp, g, d, tk, os⟩ := s
    obtain ⟨hl, h⟩ := h
    have f1 := AutoSeq1.idx_int
    have c1 : (items.isEmpty || (0 : Int) == 1) = false := by rw [hi]; rfl
    have c2 : (decide ((0 : Int) ≤ 0) || items.isEmpty) = true := by rw [hi]; rfl
    wp_walk using wpAny_loadPart' hl
    repeat (first
      | (refine wpAny_ite_false (decide_eq_false (by rw [c1]; exact Bool.false_ne_true)) ?_; wp_walk using wpAny_loadPart' hl)
      | (refine wpAny_ite_true (decide_eq_true (by rw [c2])) ?_; wp_walk using wpAny_loadPart' hl)
      | (refine wpAny_ite_false (by decide) ?_; wp_walk using wpAny_loadPart' hl))
    exact ⟨_, rfl, h⟩
section
variable {X : Cx}
def rMulZ (K : PySem.W.Frag) : R2 := fun x y H Q => ∃ l k xs, x = .ref l ∧ y = .int k ∧ SqT K H l xs ∧ xs ≠ [] ∧ 0 ≤ k ∧ k ≤ 1000 ∧ xs.length ≤ 1000 ∧ ∀ q H', Same H H' → SqT K H' q (List.replicate k.toNat xs).flatten → (H l = some (.tup xs) → H' q = some (.tup (List.replicate k.toNat xs).flatten)) → Q (.ref q) H'
theorem op_mulZ : OpR X (binaryOp .Mult) (rMulZ X.K) := by
  intro pins s σ H x y v u Q I rx ry h
  obtain ⟨l, k, xs, ex, ey, hT, hne, h1, h2, hz, q⟩ := h
  by_cases hk : k = 0
  · subst ex ey hk
    cases rx
    obtain ⟨t, rfl⟩ := ry
    obtain ⟨its, r, ⟨⟨cls, dd, data, sl⟩, ho, hc, n, hd⟩, hs⟩ := I.tuple hT
    simp only at hc hd
    subst hc hd
    have hle : its.length = xs.length := r.length.symm
    have hi : its.toArray.isEmpty = false := by
      cases its with
      | nil => exact absurd (List.eq_nil_of_length_eq_zero hle.symm) hne
      | cons a b => rfl
    refine wpAny_binaryOp_repeat_ref (T := "tuple") (U := "int") (by decide) ⟨_, ho, rfl⟩ (fun s' => typeIs_int s' 0 t) noFill_tuple_mul F.fills_int_mul F.slot_int_rmul repeat_tuple F.slot_int_index.lookup ?_
    refine call_meets F.slot_int_rmul (typeIs_int s 0 t) F.entry_int_rmul (F.args_int_rmul_2 _ _) (int_rmul_tuple 0 t l its.toArray n dd sl) ⟨ho, rfl, ⟨_, ho, rfl⟩, ?_⟩
    refine call_meets F.slot_tuple_mul ⟨_, ho, rfl⟩ F.entry_tuple_mul (F.args_tuple_mul_2 _ _) (tuple_mul0 l its.toArray n dd sl t hi) ⟨ho, ?_⟩
    have nw := I.hok.fresh (Nat.le_refl s.heap.objs.size)
    refine ⟨.ref s.heap.objs.size, _, I.laid (t' := s.toks) (o := .tup []) (fun b ob q => Heap.get?_push_of_some _ q) (Nat.le_refl _) ?_, rfl, q _ _ (sameNew nw) (.inl (.inl upd_same)) fun _ => upd_same⟩
    exact ⟨Nat.zero_le _, _, .nil, IsTup.new _ _⟩
  · exact Ts.op_mulS pins s σ H x y v u Q I rx ry ⟨l, k, xs, ex, ey, hT, hne, by omega, h2, hz, q⟩
end
end Ts

set_option Elab.async false
set_option linter.all false
set_option maxRecDepth 100000
set_option maxHeartbeats 2000000
/-! The end of a law whose defs make lambdas and ask repr: tables of code objects are tracked, no repr is under way. -/
namespace Tg
open PySem PySem.Spec PyProof.Rows L2
/-- an empty table -/
abbrev bare : Obj := { cls := .none, data := .fields #[] }
/-- the script's object -/
abbrev scr (vs : List Value) : Obj := { cls := .type "list", data := .seq vs.toArray }
/-- what is tracked at first: the tables, and perhaps the script -/
structure First (K : W.Frag) (cs : List (Addr × Addr)) (q : Addr) (vs : List Value) (H : Hp) : Prop where
  one : ∀ b u, H b = some u → (∃ p ∈ cs, p.2 = b ∧ u = .tbl #[]) ∨ (b = q ∧ ∃ zs, u = .frz (scr vs) (.lst zs) ∧ zs.length ≤ sizeLine ∧ Vals zs vs)
  tab : ∀ p ∈ cs, H p.2 = some (.tbl #[])
  noK : ∀ o, K.lookup q = some o → H q = none
section
variable {P : Program} {w : World} {K : W.Frag} {mg mb : Str → Option Value} {k : Nat} {fa q : Addr} {cs : List (Addr × Addr)} {fd : FuncData} {x : Str} {sp : Sp} {t : Shared} {vs : List Value} {ns : List Int} {H : Hp}
theorem First.low (F : First K cs q vs H) (ht : ∀ p ∈ cs, t.heap.get? p.2 = some bare) (hq : t.heap.get? q = some (scr vs)) {b : Addr} {o : Obj} (e : t.heap.get? b = some o) (n1 : ∀ us n, o.data ≠ .seq us n) (n2 : o.data ≠ .fields #[]) : H b = none := by
  cases z : H b with
  | none => rfl
  | some u =>
    rcases F.one b u z with ⟨p, hp, rfl, _⟩ | ⟨rfl, _⟩
    · rw [ht p hp] at e
      cases e
      exact (n2 rfl).elim
    · rw [hq] at e
      cases e
      exact (n1 _ _ rfl).elim
theorem First.inK (F : First K cs q vs H) (KX : K.In t.heap) (nt : ∀ p ∈ cs, K.lookup p.2 = none) : K.In (hidT t.heap H) := fun b o e => by
  refine hidT_get (KX b o e) ?_
  cases z : H b with
  | none => rfl
  | some u =>
    rcases F.one b u z with ⟨p, hp, rfl, _⟩ | ⟨rfl, _⟩
    · rw [nt p hp] at e
      cases e
    · rw [F.noK o e] at z
      cases z
theorem First.ok (F : First K cs q vs H) (ht : ∀ p ∈ cs, t.heap.get? p.2 = some bare) (hq : t.heap.get? q = some (scr vs)) : HOk P w H t.heap := fun b u z => by
  rcases F.one b u z with ⟨p, hp, rfl, rfl⟩ | ⟨rfl, zs, rfl, h1, h2⟩
  · exact ht p hp
  · exact ⟨hq, h1, vs, _, h2, hq⟩
/-- the call, from a heap that tracks so much -/
theorem call_first (F : First K cs q vs H) (KX : K.In t.heap) (g1 : t.heap.Ns mainGlobals mg) (g2 : t.heap.Ns builtinsNs mb) (g3 : ∀ x : Str, x ≠ "__name__" → mb x = bootBuiltins x) (g4 : t.heap.NoLimit) (g5 : t.gens = #[])
    (ht : ∀ p ∈ cs, t.heap.get? p.2 = some bare) (nt : ∀ p ∈ cs, K.lookup p.2 = none) (hc : ∀ p ∈ cs, W.CodeHd t.heap p.1 p.2)
    (hb : ∃ (m : Addr) (o : Obj), mg "__builtins__" = some (.ref m) ∧ m ≠ builtinsNs ∧ t.heap.get? m = some o ∧ o.cls = .type "module" ∧ o.dict = some builtinsNs ∧ o.data = .plain)
    (hq : t.heap.get? q = some (scr vs)) (hr : Room k callerA)
    (hF : ∀ base : Heap, K.In base → base.Ns mainGlobals mg → (∀ p ∈ cs, LamX.TabB base mg p.1 p.2) → Rp.FnG P w K mg base CX0 k fa fd [x] sp) (bi : ∀ (s : Shared) (u : Value), BindsTo s fd ⟨[u], []⟩ [(x, u)])
    (hs : sp [.ref q] H (fun v _ => v = .bl true) fun _ _ _ => False) :
    codeAny (model P w) callerA (.call (.ref fa) ⟨[.ref q], []⟩) (fun r s' => r = .ok (.ret (.bool true)) ∧ OldK t.heap s'.heap ∧ s'.os = t.os ∧ AllBare s'.gens) t := by
  have in0 := F.inK KX nt
  have ok0 : HOk P w H t.heap := F.ok ht hq
  have dic : ∀ {b : Addr} {o : Obj} {es : Array DictEntry} {ep : Nat}, t.heap.get? b = some o → o.data = .dict es ep → H b = none := fun {b o es ep} e d =>
    F.low ht hq e (fun us n z => by rw [d] at z; cases z) (fun z => by rw [d] at z; cases z)
  have nsp : ∀ {b : Addr} {m : Str → Option Value}, t.heap.Ns b m → (hidT t.heap H).Ns b m := by
    rintro b m ⟨o, es, ep, e, d, r⟩
    exact ⟨o, es, ep, hidT_get e (dic e d), d, r⟩
  have gm := nsp g1
  have nl : (hidT t.heap H).NoLimit := by
    obtain ⟨mc, u1, u2⟩ := g4
    exact ⟨mc, nsp u1, u2⟩
  have md : Mod K mg (hidT t.heap H) := ⟨in0, gm, ⟨mb, nsp g2, g3⟩, nl⟩
  have tb : ∀ p ∈ cs, LamX.TabB (hidT t.heap H) mg p.1 p.2 := fun p hp => by
    have e0 := ht p hp
    refine ⟨?_, ?_, ?_⟩
    · obtain ⟨o, us, f1, f2, f3, f4, f5, f6, f7, c1, c2, c3, c4⟩ := hc p hp
      refine ⟨o, us, f1, f2, f3, f4, f5, f6, f7, hidT_get c1 (F.low ht hq c1 (fun v n z => ?_) fun z => ?_), c2, c3, c4⟩
      · rw [c3] at z
        cases z
      · rw [c3] at z
        cases z
        cases c4.1
    · obtain ⟨m, o, d1, d2, d3, d4, d5, d6⟩ := hb
      refine ⟨m, o, d1, d2, fun z => ?_, fun z => ?_, hidT_get d3 (F.low ht hq d3 (fun v n z => by rw [d6] at z; cases z) fun z => by rw [d6] at z; cases z), d4, d5, d6⟩
      · obtain ⟨o2, es, ep, y1, y2, _⟩ := g1
        rw [z, y1] at d3
        cases d3
        rw [y2] at d6
        cases d6
      · rw [z, e0] at d3
        cases d3
        cases d6
    · intro z
      obtain ⟨o2, es, ep, y1, y2, _⟩ := g1
      rw [z, e0] at y1
      cases y1
      cases y2
  have no : ∀ b, b ∉ frs [] := fun b z => by cases z
  have ev : Env0 P w K mg (hidT t.heap H) callerA [] t H := ⟨rfl, md, fun b o z => of_hidT z, Nat.le_of_eq (hidT_size _ _), trivial, fun b z => absurd z (no b), ok0, .of_eq g5⟩
  refine codeAny_mono ((hF _ in0 gm tb).run callerA [] t H ⟨[.ref q], []⟩ [.ref q] [.ref q] _ _ hr rfl ev (bi t (.ref q)) (.cons rfl .nil) hs) fun r s' z => ?_
  cases r with
  | error e => exact z.elim
  | ok fl =>
    cases fl with
    | next => exact z.elim
    | brk => exact z.elim
    | cont => exact z.elim
    | ret u =>
      obtain ⟨v, H', os, al, un, ok', rl, rfl⟩ := z
      cases rl
      have kept : ∀ b o, (∀ p ∈ cs, p.2 ≠ b) → t.heap.get? b = some o → s'.heap.get? b = some o := fun b o nb e => by
        cases z : H b with
        | none => exact un.keep b o e z (no b) (by simp)
        | some u =>
          rcases F.one b u z with ⟨p, hp, h1, _⟩ | ⟨rfl, zs, rfl, _⟩
          · exact absurd h1 (nb p hp)
          · obtain ⟨y, _⟩ := ok' b _ (un.frzs b _ _ z)
            rw [hq] at e
            cases e
            exact y
      have more : ∀ p ∈ cs, ∃ us : Array Value, s'.heap.get? p.2 = some { cls := .none, data := .fields us } := fun p hp => by
        obtain ⟨us, z⟩ := un.tbls p.2 #[] (F.tab p hp)
        exact ⟨_, ok' p.2 _ z⟩
      refine ⟨rfl, .mk (fun b o e => ?_) (fun b o e => ?_), os, al⟩
      · by_cases hb : ∃ p ∈ cs, p.2 = b
        · obtain ⟨p, hp, rfl⟩ := hb
          obtain ⟨us, hu⟩ := more p hp
          have cd := ((hc p hp).tab (ht p hp)).isCodeTable
          rw [ht p hp] at e
          cases e
          refine .inr (.inl ⟨cd, rfl, #[], us, rfl, ?_⟩)
          rw [Array.empty_append]
          exact hu
        · exact .inl (kept b o (fun p hp y => hb ⟨p, hp, y⟩) e)
      · by_cases hb : ∃ p ∈ cs, p.2 = b
        · obtain ⟨p, hp, rfl⟩ := hb
          obtain ⟨us, hu⟩ := more p hp
          exact ⟨_, hu⟩
        · exact ⟨o, kept b o (fun p hp y => hb ⟨p, hp, y⟩) e⟩
theorem call_tabs (KX : K.In t.heap) (g1 : t.heap.Ns mainGlobals mg) (g2 : t.heap.Ns builtinsNs mb) (g3 : ∀ x : Str, x ≠ "__name__" → mb x = bootBuiltins x) (g4 : t.heap.NoLimit) (g5 : t.gens = #[])
    (ht : ∀ p ∈ cs, t.heap.get? p.2 = some bare) (nt : ∀ p ∈ cs, K.lookup p.2 = none) (hc : ∀ p ∈ cs, W.CodeHd t.heap p.1 p.2)
    (hb : ∃ (m : Addr) (o : Obj), mg "__builtins__" = some (.ref m) ∧ m ≠ builtinsNs ∧ t.heap.get? m = some o ∧ o.cls = .type "module" ∧ o.dict = some builtinsNs ∧ o.data = .plain)
    (hq : t.heap.get? q = some (scr vs)) (hi : IntsAre vs ns) (hl : ns.length ≤ sizeLine) (hr : Room k callerA)
    (hF : ∀ base : Heap, K.In base → base.Ns mainGlobals mg → (∀ p ∈ cs, LamX.TabB base mg p.1 p.2) → Rp.FnG P w K mg base CX0 k fa fd [x] sp) (bi : ∀ (s : Shared) (u : Value), BindsTo s fd ⟨[u], []⟩ [(x, u)])
    (hs : ∀ H : Hp, (∀ p ∈ cs, H p.2 = some (.tbl #[])) → SqL K H q (ns.map V.int) → sp [.ref q] H (fun v _ => v = .bl true) fun _ _ _ => False) :
    codeAny (model P w) callerA (.call (.ref fa) ⟨[.ref q], []⟩) (fun r s' => r = .ok (.ret (.bool true)) ∧ OldK t.heap s'.heap ∧ s'.os = t.os ∧ AllBare s'.gens) t := by
  have rv := vals_ints hi
  have nq : ∀ p ∈ cs, p.2 ≠ q := fun p hp z => by
    have e := ht p hp
    rw [z, hq] at e
    cases e
  have isT : ∀ b : Addr, (∃ p ∈ cs, p.2 = b) ∨ ¬ ∃ p ∈ cs, p.2 = b := fun b => Classical.em _
  cases hk : K.lookup q with
  | some o =>
    have e := KX q o hk
    rw [hq] at e
    cases e
    obtain ⟨H, hH⟩ : ∃ H : Hp, ∀ b, ((∃ p ∈ cs, p.2 = b) → H b = some (.tbl #[])) ∧ ((¬ ∃ p ∈ cs, p.2 = b) → H b = none) := ⟨fun b => if b ∈ cs.map (·.2) then some (.tbl #[]) else none, fun b => ⟨fun ⟨p, hp, y⟩ => if_pos (List.mem_map.mpr ⟨p, hp, y⟩), fun h => if_neg fun z => h (by obtain ⟨p, hp, y⟩ := List.mem_map.mp z; exact ⟨p, hp, y⟩)⟩⟩
    have hqn : H q = none := (hH q).2 fun ⟨p, hp, y⟩ => nq p hp y
    have F : First K cs q vs H := by
      refine ⟨fun b u z => ?_, fun p hp => (hH p.2).1 ⟨p, hp, rfl⟩, fun _ _ => hqn⟩
      rcases isT b with h | h
      · rw [(hH b).1 h] at z
        obtain ⟨p, hp, y⟩ := h
        exact .inl ⟨p, hp, y, (Option.some.inj z).symm⟩
      · rw [(hH b).2 h] at z
        cases z
    exact call_first F KX g1 g2 g3 g4 g5 ht nt hc hb hq hr hF bi (hs H F.tab (.inr ⟨_, vs.toArray, _, hk, rfl, rfl, rfl, by rw [List.size_toArray, hi.length]; exact hl, by simpa using rv⟩))
  | none =>
    obtain ⟨H, hH, hq2⟩ : ∃ H : Hp, (∀ b, b ≠ q → ((∃ p ∈ cs, p.2 = b) → H b = some (.tbl #[])) ∧ ((¬ ∃ p ∈ cs, p.2 = b) → H b = none)) ∧ H q = some (.frz (scr vs) (.lst (ns.map V.int))) :=
      ⟨fun b => if b = q then some (.frz (scr vs) (.lst (ns.map V.int))) else if b ∈ cs.map (·.2) then some (.tbl #[]) else none,
        fun b n => ⟨fun ⟨p, hp, y⟩ => (if_neg n).trans (if_pos (List.mem_map.mpr ⟨p, hp, y⟩)), fun h => (if_neg n).trans (if_neg fun z => h (by obtain ⟨p, hp, y⟩ := List.mem_map.mp z; exact ⟨p, hp, y⟩))⟩, if_pos rfl⟩
    have F : First K cs q vs H := by
      refine ⟨fun b u z => ?_, fun p hp => (hH p.2 (nq p hp)).1 ⟨p, hp, rfl⟩, fun o e => by rw [hk] at e; cases e⟩
      by_cases n : b = q
      · rw [n, hq2] at z
        exact .inr ⟨n, _, (Option.some.inj z).symm, by rw [List.length_map]; exact hl, rv⟩
      · rcases isT b with h | h
        · rw [(hH b n).1 h] at z
          obtain ⟨p, hp, y⟩ := h
          exact .inl ⟨p, hp, y, (Option.some.inj z).symm⟩
        · rw [(hH b n).2 h] at z
          cases z
    exact call_first F KX g1 g2 g3 g4 g5 ht nt hc hb hq hr hF bi (hs H F.tab (.inl (.inr ⟨_, hq2⟩)))
end
/-- what is known of the law at the heap behind the top -/
def Known (l : W.OpenLaw) (w : World) (K : W.Frag) (k n : Nat) (x : Str) (mg : Str → Option Value) (fa : Addr) (h : Heap) : Prop :=
  ∃ (fd : FuncData) (cs : List (Addr × Addr)) (sp : Sp), (∀ p ∈ cs, h.get? p.2 = some bare ∧ K.lookup p.2 = none ∧ W.CodeHd h p.1 p.2) ∧ (∀ (s : Shared) (u : Value), BindsTo s fd ⟨[u], []⟩ [(x, u)]) ∧
    (∀ (H : Hp) (q : Addr) (ns : List Int), ns.length ≤ n → (∀ p ∈ cs, H p.2 = some (.tbl #[])) → SqL K H q (ns.map V.int) → sp [.ref q] H (fun v _ => v = .bl true) fun _ _ _ => False) ∧
    ∀ base : Heap, K.In base → base.Ns mainGlobals mg → (∀ p ∈ cs, LamX.TabB base mg p.1 p.2) → Rp.FnG l.prog w K mg base CX0 k fa fd [x] sp
theorem walk_known {l : W.OpenLaw} {n k : Nat} {q : Program} {loose : List Str} {XP : (Str → Option Value) → Heap → Prop} {YP : World → Heap → Prop} {d : DefRec} {K : Params → W.Frag} {x : Str}
    (h1 : l.most = some n) (h2 : n ≤ sizeLine) (h3 : d.params.defaults = []) (h4 : Room k callerA) (h5 : ∀ (w : World) (h : Heap), YP w h → (K w.params).In h)
    (F : ∀ (w : World) (mg : Str → Option Value) (fa : Addr) (h : Heap), YP w h → (K w.params).In h → h.Ns mainGlobals mg → mg d.name = some (.ref fa) → Known l w (K w.params) k n x mg fa h) :
    W.WalkO q loose XP YP l.row.toRowW d [] (fun f vs => PySem.call f vs) := by
  refine Att.attach_callB h1 h3 fun w s₀ s₁ mg mb fa o pm cd doc q vs ns G Y ho hd hcd hm hobj hi hl _ hg => ?_
  obtain ⟨fd, cs, sp, c1, c2, c3, c4⟩ := F w mg fa _ Y (h5 w _ Y) G.T.g hm
  exact call_tabs (h5 w _ Y) G.T.g G.T.b G.T.builtins G.T.nolimit hg (fun p hp => (c1 p hp).1) (fun p hp => (c1 p hp).2.1) (fun p hp => (c1 p hp).2.2) G.T.bmain hobj hi (Nat.le_trans hl h2) h4 c4 c2 fun H e1 e2 => c3 H q ns hl e1 e2
end Tg

set_option Elab.async false
set_option linter.all false
set_option maxRecDepth 100000
set_option maxHeartbeats 2000000
/-! *d in a display or an argument list, d a dict with tuple keys: its keys, in their order. -/
namespace Dh
open PySem PySem.Spec PyProof.Rows L2
section
variable {X : Cx} {pins : List (Addr × Obj)} {σ : L2.St} {H : Hp} {s : Shared}
theorem star_dT {a : Addr} {kvs : List (List Key × V)} {E : Value → Shared → Prop} {Q : List Value → Shared → Prop} (hc : X.calm = true) (I : Inv X pins σ H s) (hd : Rd H a (.dT kvs)) (hQ : ∀ bs s', Inv X pins σ H s' → IsKeys H kvs bs → Q (bs.map Value.ref) s') :
    PySem.W.StarOf (model X.prog X.w) X.A E (.ref a) Q s := by
  obtain ⟨z, nm, ks, pr, o, es, ep, ho, hx, hdt, he, hn⟩ := (show ObjOk X.prog X.w H s.heap a (.dT kvs) from hd.ok I.hok)
  have l1 : es.size = ks.length := size_of_entries he
  have l2 : kvs.length = ks.length := Paired.length pr
  have S := kdl_raw (prog := X.prog) (w := X.w) nm hx hdt
  have hT : s.TypeIs (.ref a) "dict" := S.type s ho
  have z : wpAny (model X.prog X.w) X.A (collect (.ref a)) Q E s := by
    refine W.kdu_collect (A := X.A) S (I.ok.hd hc) ho (by omega) fun h' tk acc kp it => ?_
    have ea : acc.toList = (ks.map fun x => x.2.1).map Value.ref := by
      rw [List.map_map]
      refine List.ext_getElem? fun j => ?_
      rw [List.getElem?_map]
      rcases Nat.lt_or_ge j ks.length with lt | ge
      · have lt' : j < acc.toList.length := by rw [Array.length_toList, it.1, l1]; exact lt
        obtain ⟨en, hen, hv⟩ := it.2 j acc.toList[j] (by rw [← Array.getElem?_toList]; exact List.getElem?_eq_getElem lt')
        have qe := entry_at he j
        rw [hen, List.getElem?_eq_getElem lt] at qe
        rw [List.getElem?_eq_getElem lt', hv, Option.some.inj qe, List.getElem?_eq_getElem lt]
        rfl
      · rw [List.getElem?_eq_none (by rw [Array.length_toList, it.1, l1]; exact ge), List.getElem?_eq_none ge]
        rfl
    rw [ea]
    exact hQ _ _ (I.kept kp) (isKeys_of pr)
  unfold PySem.W.StarOf notIterableAtAll
  exact wpAny_bind (wpAny_specialOf hT PySem.F.slot_dict_iter.lookup (wpAny_pure ⟨rfl, z⟩))
end
/-- *e, e a dict with tuple keys -/
def tStarD (te : TE) (t : TA) : TA := fun σ H Q => te σ H fun x H1 => ∃ p kvs, x = V.ref p ∧ Rd H1 p (.dT kvs) ∧ ∀ bs, IsKeys H1 kvs bs → t σ H1 fun ys H2 => Q (bs.map V.ref ++ ys) H2
section
variable {X : Cx} {e : Expr} {es : List Expr} {te : TE} {t : TA} {p : Pos}
theorem pa_starD (hc : X.calm = true) (he : PE X e te) (hr : PA X es t) (hs : starEach (.Starred e p :: es) X.env = (true, eval e X.env) :: starEach es X.env := by rfl) : PA X (.Starred e p :: es) (tStarD te t) := by
  refine ⟨fun pos pins s σ H Q I h => ?_⟩
  refine PySem.W.items_star (thn (he.run pins s σ H _ I h) fun v s1 ⟨y, H1, I1, ry, a, kvs, ey, hx, q⟩ => ?_) hs
  subst ey
  obtain rfl : v = Value.ref a := ry
  refine star_dT hc I1 hx fun bs s2 I2 ik => ?_
  exact thn (hr.run pos pins s2 σ H1 _ I2 (q bs ik)) fun ws s3 ⟨vs, H3, I3, r3, q3⟩ => ⟨bs.map V.ref ++ vs, H3, I3, (vals_refs bs).append r3, q3⟩
end
end Dh

set_option Elab.async false
set_option linter.all false
set_option maxRecDepth 100000
set_option maxHeartbeats 2000000
/-! The reading of a list comprehension with two for clauses (tLc2) over two walks. -/
namespace L2c
open PySem PySem.Spec PyProof.Rows L2
/-- what the second clause's loop is to give: Nx, once it has ended -/
def InL (J1 : It) (g1 : TG) (tt1 : TT) (te : TE) (vs1 : List Nat) (D : Addr) (σ2 : L2.St) (H4 : Hp) (Nx : Hp → Prop) : Prop :=
  ∃ W1 : Nat → Nat → Hp → Prop, (∃ m, W1 0 m H4) ∧ ∀ j k H, W1 j k H →
      (J1.stop j H ∧ Nx H) ∨ (J1.go j H ∧ ∃ Nx1 : Hp → Prop, (∀ H', Nx1 H' → ∃ k', k' < k ∧ W1 (j + 1) k' H') ∧ ∀ x H', J1.yld j H x H' → g1 x (wipe σ2 vs1) H' fun σ3 H5 => wipe σ3 vs1 = wipe σ2 vs1 ∧ tt1 σ3 H5 fun b H6 =>
        if b = true then te σ3 H6 fun y H7 => ∃ acc, H7 D = some (.lst acc) ∧ acc.length < sizeLine ∧ Nx1 (upd H7 D (.lst (acc ++ [y]))) else Nx1 H6)
theorem in_it {J1 : It} {n : Nat} {G : Hp → Prop} {Y : Nat → Hp → V → Hp → Prop} (w : Walk J1 n G Y) {g1 : TG} {tt1 : TT} {te : TE} {vs1 : List Nat} {D : Addr} {σ2 : L2.St} {H4 : Hp} {Nx : Hp → Prop} (Pv : Nat → Hp → Prop) (h0 : Pv 0 H4) (hG : ∀ i H, i ≤ n → Pv i H → G H)
    (turn : ∀ i x H H', i < n → Pv i H → Y i H x H' → g1 x (wipe σ2 vs1) H' fun σ3 H5 => wipe σ3 vs1 = wipe σ2 vs1 ∧ tt1 σ3 H5 fun b H6 =>
      if b = true then te σ3 H6 fun y H7 => ∃ acc, H7 D = some (.lst acc) ∧ acc.length < sizeLine ∧ Pv (i + 1) (upd H7 D (.lst (acc ++ [y]))) else Pv (i + 1) H6) (hd : ∀ H, Pv n H → Nx H) : InL J1 g1 tt1 te vs1 D σ2 H4 Nx := by
  refine ⟨fun i m H => m = n - i ∧ i ≤ n ∧ Pv i H, ⟨n, (Nat.sub_zero n).symm, Nat.zero_le n, h0⟩, fun i m H ⟨em, le, p⟩ => ?_⟩
  rcases Nat.lt_or_ge i n with lt | ge
  · refine .inr ⟨w.goes i H lt (hG i H le p), Pv (i + 1), fun H' p' => ⟨n - (i + 1), by omega, rfl, lt, p'⟩, fun x H' y => turn i x H H' lt p (w.yields i H x H' lt (hG i H le p) y)⟩
  · obtain rfl : i = n := Nat.le_antisymm le ge
    exact .inl ⟨w.stops H (hG i H le p), hd H p⟩
theorem out_it {J : It} {n : Nat} {G : Hp → Prop} {Y : Nat → Hp → V → Hp → Prop} (w : Walk J n G Y) {g : TG} {tt : TT} {wi1 : TI} {g1 : TG} {tt1 : TT} {te : TE} {vs vs1 : List Nat} {σ : L2.St} {H1 : Hp} {D : Addr} {Qd : Hp → Prop} (Pv : Nat → Hp → Prop) (h0 : Pv 0 (upd H1 D (.lst []))) (hG : ∀ i H, i ≤ n → Pv i H → G H)
    (turn : ∀ i x H H', i < n → Pv i H → Y i H x H' → g x (wipe σ vs) H' fun σ2 H2 => wipe σ2 vs = wipe σ vs ∧ tt σ2 H2 fun b H3 =>
      if b = true then wi1 σ2 H3 fun J1 H4 => InL J1 g1 tt1 te vs1 D σ2 H4 (Pv (i + 1)) else Pv (i + 1) H3) (hd : ∀ H, Pv n H → Qd H) :
    ∃ W : Nat → Nat → Hp → Prop, (∃ m, W 0 m (upd H1 D (.lst []))) ∧ ∀ i m H, W i m H →
      (J.stop i H ∧ Qd H) ∨ (J.go i H ∧ ∃ Nx : Hp → Prop, (∀ H', Nx H' → ∃ m', m' < m ∧ W (i + 1) m' H') ∧ ∀ x H', J.yld i H x H' → g x (wipe σ vs) H' fun σ2 H2 => wipe σ2 vs = wipe σ vs ∧ tt σ2 H2 fun b H3 =>
        if b = true then wi1 σ2 H3 fun J1 H4 => InL J1 g1 tt1 te vs1 D σ2 H4 Nx else Nx H3) := by
  refine ⟨fun i m H => m = n - i ∧ i ≤ n ∧ Pv i H, ⟨n, (Nat.sub_zero n).symm, Nat.zero_le n, h0⟩, fun i m H ⟨em, le, p⟩ => ?_⟩
  rcases Nat.lt_or_ge i n with lt | ge
  · refine .inr ⟨w.goes i H lt (hG i H le p), Pv (i + 1), fun H' p' => ⟨n - (i + 1), by omega, rfl, lt, p'⟩, fun x H' y => turn i x H H' lt p (w.yields i H x H' lt (hG i H le p) y)⟩
  · obtain rfl : i = n := Nat.le_antisymm le ge
    exact .inl ⟨w.stops H (hG i H le p), hd H p⟩
end L2c

set_option Elab.async false
set_option linter.all false
set_option maxRecDepth 100000
set_option maxHeartbeats 2000000
/-! o + y, .. where o is an own instance with that def and y is of a built-in type. -/
namespace Ow
open PySem PySem.Spec PyProof.Rows L2
theorem fills_ty {T nm : String} {f r : Option Value} (hf : typeLookup (.type T) (PySem.dunder nm) = pure f) (hr : typeLookup (.type T) (dunderR nm) = pure r) : ∃ b, fillsNumberSlot (.type T) nm = pure b := by
  refine ⟨(f.isSome && !isSeqSlot f) || (r.isSome && !isSeqSlot r), ?_⟩
  show (do
    let f ← typeLookup (.type T) (PySem.dunder nm)
    let r ← typeLookup (.type T) (dunderR nm)
    pure ((f.isSome && !isSeqSlot f) || (r.isSome && !isSeqSlot r))) = pure _
  rw [hf, hr]
  rfl
section
variable {prog : Program} {w : World} {A : Around} {E : Value → Shared → Prop} {s : Shared} {K : W.Frag} {x C L f : Addr} {h₀ : Heap} {m : Str → Option Value} {ox : Obj} {od : Option Obj}
theorem inPy {M : Model} {h : Heap} {nm : String} (X : K.In h) (hs : W.findIn K (.ref C) (PySem.dunder nm) = some (some (.ref f))) (hr : W.findIn K (.ref C) (dunderR nm) = some none) : W.Looks M h (numberSlotInPython (.ref C) nm) true := by
  intro A Q E s k q
  unfold numberSlotInPython
  show wpAny M A (typeLookup (.ref C) (PySem.dunder nm) >>= _) _ _ _
  refine wpAny_bind (W.looks_findIn X hs A _ E s k ?_)
  show wpAny M A (typeLookup (.ref C) (dunderR nm) >>= _) _ _ _
  refine wpAny_bind (W.looks_findIn X hr A _ E s k ?_)
  exact wpAny_pure q
theorem binop1_A {nm : String} {b : Value} {T : String} {sf sr : Option Value} {Q : Value → Shared → Prop} (F : Fr h₀ L s.heap m) (X₀ : K.In h₀) (I : W.InstAt s.heap x ox C od) (hb : W.Looks (model prog w) s.heap (typeOf b) (.type T)) (hc : W.selfFirst K C = true)
    (hs : W.findIn K (.ref C) (PySem.dunder nm) = some (some (.ref f))) (hf : W.isFn K (.ref f) = true) (hr : W.findIn K (.ref C) (dunderR nm) = some none) (hsub : W.subIn K (.type T) (.ref C) = some false)
    (h1 : typeLookup (.type T) (PySem.dunder nm) = pure sf) (h2 : typeLookup (.type T) (dunderR nm) = pure sr)
    (h : wpAny (model prog w) A (call (.ref f) [.ref x, b]) (W.CmpBack Q) E s) : wpAny (model prog w) A (binaryOp1 nm (.ref x) b) (fun r s' => ∃ v, r = some v ∧ Q v s') E s := by
  have X := X₀.keeps F.keep
  obtain ⟨cd, hcd, hm⟩ := W.any_some hc
  obtain ⟨rest, hm⟩ : ∃ rest, cd.mro = .ref C :: rest := by
    cases q : cd.mro with
    | nil => rw [q] at hm; cases hm
    | cons a r => rw [q] at hm; exact ⟨r, by rw [List.head?_cons] at hm; cases (beq_iff_eq.mp hm); rfl⟩
  obtain ⟨R, hR⟩ := fills_ty h1 h2
  have fin : ∀ {α : Type} {k : Option Value → Sem (Option Value)}, (∀ v, k (some v) = pure (some v)) → wpAny (model prog w) A (tryMethod (.ref x) (PySem.dunder nm) b >>= k) (fun r s' => ∃ v, r = some v ∧ Q v s') E s := by
    intro α k hk
    refine wpAny_bind ?_
    unfold tryMethod
    refine wpAny_bind (W.special_fn X I hs (beq_iff_eq.mp hf) (wpAny_mono h (fun v s' hv => ?_) fun _ _ e => e))
    cases v <;> first | exact hv.elim | (refine wpAny_pure ?_; rw [hk]; exact wpAny_pure ⟨_, rfl, hv⟩)
  unfold binaryOp1
  refine wpAny_bind (I.type.here (wpAny_bind (hb.here (wpAny_bind ((W.fills_K X hcd hm hs).here ?_)))))
  rw [show (Value.ref C == Value.type T) = false from rfl]
  simp only [Bool.false_eq_true, if_false]
  rw [hR]
  refine wpAny_bind (wpAny_pure ?_)
  cases R with
  | false =>
    simp only [Bool.and_false, Bool.false_and, Bool.false_eq_true, if_false, Bool.true_and]
    refine wpAny_bind (wpAny_pure ?_)
    simp only [Bool.false_eq_true, if_false, if_true]
    exact fin (α := Unit) (fun v => rfl)
  | true =>
    simp only [Bool.and_self, Bool.true_and, if_true]
    refine wpAny_bind ((W.looks_subIn X hsub).here ?_)
    simp only [Bool.false_eq_true, if_false, Bool.not_false, if_true]
    refine wpAny_bind ((inPy X hs hr).here ?_)
    simp only [if_true]
    rw [show numberSlotInPython (.type T) nm = pure false from rfl]
    refine wpAny_bind (wpAny_pure ?_)
    simp only [Bool.not_false, if_true]
    rw [h2]
    refine wpAny_bind (wpAny_pure ?_)
    exact fin (α := Unit) (fun v => rfl)
theorem binop_A {op : Operator} {b : Value} {T : String} {sf sr : Option Value} {Q : Value → Shared → Prop} (F : Fr h₀ L s.heap m) (X₀ : K.In h₀) (I : W.InstAt s.heap x ox C od) (hb : W.Looks (model prog w) s.heap (typeOf b) (.type T)) (hc : W.selfFirst K C = true)
    (hs : W.findIn K (.ref C) (PySem.dunder op.info.2) = some (some (.ref f))) (hf : W.isFn K (.ref f) = true) (hr : W.findIn K (.ref C) (dunderR op.info.2) = some none) (hsub : W.subIn K (.type T) (.ref C) = some false)
    (h1 : typeLookup (.type T) (PySem.dunder op.info.2) = pure sf) (h2 : typeLookup (.type T) (dunderR op.info.2) = pure sr)
    (h : wpAny (model prog w) A (call (.ref f) [.ref x, b]) (W.CmpBack Q) E s) : wpAny (model prog w) A (binaryOp op (.ref x) b) Q E s := by
  unfold binaryOp
  refine wpAny_holding (wpAny_bind (wpAny_mono (binop1_A F X₀ I hb hc hs hf hr hsub h1 h2 h) (fun r s' z => ?_) fun _ _ e => e))
  obtain ⟨v, rfl, q⟩ := z
  exact wpAny_pure q
end
section
variable {X : Cx} {CX : CXT} {n : Nat} {f C : Addr} {fd : FuncData} {ps : List Str} {sp : Sp} {E : XK}
/-- T is no class of the text's own below C, and its slots for the operator are known -/
def TyA (K : W.Frag) (C : Addr) (nm : String) (T : String) : Prop := W.subIn K (.type T) (.ref C) = some false ∧ (∃ l, typeLookup (.type T) (PySem.dunder nm) = pure l) ∧ ∃ l, typeLookup (.type T) (dunderR nm) = pure l
theorem look_ty {T : String} {nm : Str} (e : (fastLookup T nm).isSome = true) : ∃ l, typeLookup (.type T) nm = pure l := by
  obtain ⟨l, h⟩ := Option.isSome_iff_exists.mp e
  refine ⟨l, ?_⟩
  rw [typeLookup_type, builtinLookup_eq_fast, h]
/-- o + y, y of a built-in type or an instance of the same class -/
def rBinA (K : W.Frag) (C : Addr) (nm : String) (sp : Sp) (E : XK) : R2 := fun x y H Q => ∃ a, x = .ref a ∧ Own H C a ∧ ((∃ b, y = .ref b ∧ Own H C b) ∨ ∃ T, TyX K H y (.type T) ∧ TyA K C nm T) ∧
  sp [.ref a, y] H (fun z H' => ((∃ p, z = .ref p) ∨ z = .non ∨ ∃ b, z = .bl b) ∧ Q z H') E
theorem op_binA {op : Operator} (D : Dun X CX n C f (PySem.dunder op.info.2) fd ps sp) (hc : W.selfFirst X.K C = true) (hrf : W.findIn X.K (.ref C) (dunderR op.info.2) = some none) (hr : Room n X.A) (hx : Passes CX X E) : OpR X (binaryOp op) (rBinA X.K C op.info.2 sp E) := by
  intro pins s σ H x y v u Q I rx ry h
  obtain ⟨a, rfl, ha, hy, q⟩ := h
  cases rx
  obtain ⟨ox, od, J⟩ := own_at I ha
  obtain ⟨m, hF⟩ := I.fr
  have body : wpAny (model X.prog X.w) X.A (call (.ref f) [.ref a, u]) (W.CmpBack (EP X pins σ Q)) X.xe s := by
    refine wpAny_mono (run_at D.F ⟨hr, rfl⟩ D.b hx I (vs := [.ref _, y]) (.cons rfl (.cons ry .nil)) q) (fun r s' z => ?_) fun _ _ z => z
    obtain ⟨w, H', I', rw', k, q⟩ := z
    rcases k with ⟨p, rfl⟩ | rfl | ⟨b, rfl⟩
    · cases rw'
      exact ⟨.ref p, H', I', rfl, q⟩
    · cases rw'
      exact ⟨.non, H', I', rfl, q⟩
    · cases rw'
      exact ⟨.bl b, H', I', rfl, q⟩
  rcases hy with ⟨b, rfl, hb⟩ | ⟨T, ty, h1, ⟨l1, h2⟩, l2, h3⟩
  · cases ry
    obtain ⟨ox', od', J'⟩ := own_at I hb
    exact W.binop_K hF I.ok.mod.kin J J'.type hc D.at_ D.fn body
  · obtain ⟨P, kx, hP, _⟩ := kit_of I ry ty
    exact binop_A hF I.ok.mod.kin J (kx.ty _ _ I.kIn hP) hc D.at_ D.fn hrf h1 h2 h3 body
end
end Ow

set_option Elab.async false
set_option linter.all false
set_option maxRecDepth 100000
set_option maxHeartbeats 2000000
/-! o += y, .. where o and y are instances of one own class that has the plain operator's def and no in-place one. -/
namespace Ow
open PySem PySem.Spec PyProof.Rows L2
/-- the class's order is itself, then object -/
def mro2 (K : W.Frag) (C : Addr) : Bool := (W.clsIn K C).any fun cd => cd.mro == [.ref C, .type "object"]
section
variable {prog : Program} {w : World} {A : Around} {E : Value → Shared → Prop} {s : Shared} {K : W.Frag} {x C L f : Addr} {h₀ : Heap} {m : Str → Option Value} {ox : Obj} {od : Option Obj}
theorem noInpl {M : Model} {h : Heap} {nm : String} {add : Bool} {cd : ClassData} (X : K.In h) (hc : W.clsIn K C = some cd) (hm : cd.mro = [.ref C, .type "object"]) (hi : W.findIn K (.ref C) (dunderI nm) = some none) (ho : typeLookup (.type "object") (dunderI nm) = pure none) : W.Looks M h (fillsInplaceSlot (.ref C) nm add) false := by
  intro A Q E s k q
  unfold fillsInplaceSlot
  refine wpAny_bind ((W.looks_clsIn X hc).andThen (f := fun cd => pure cd.mro) .now A _ E s k ?_)
  rw [hm, List.anyM_cons]
  refine wpAny_bind (wpAny_bind (W.looks_findIn X hi A _ E s k ?_))
  refine wpAny_pure ?_
  rw [if_neg Bool.false_ne_true]
  rw [List.anyM_cons]
  refine wpAny_bind (wpAny_bind ?_)
  rw [ho]
  refine wpAny_pure ?_
  refine wpAny_pure ?_
  rw [if_neg Bool.false_ne_true]
  rw [List.anyM_nil]
  exact wpAny_pure q
theorem binop1_O {nm : String} {b : Value} {Q : Value → Shared → Prop} (F : Fr h₀ L s.heap m) (X₀ : K.In h₀) (I : W.InstAt s.heap x ox C od) (hb : W.Looks (model prog w) s.heap (typeOf b) (.ref C)) (hc : W.selfFirst K C = true)
    (hs : W.findIn K (.ref C) (PySem.dunder nm) = some (some (.ref f))) (hf : W.isFn K (.ref f) = true)
    (h : wpAny (model prog w) A (call (.ref f) [.ref x, b]) (W.CmpBack Q) E s) : wpAny (model prog w) A (binaryOp1 nm (.ref x) b) (fun r s' => ∃ v, r = some v ∧ Q v s') E s := by
  have X := X₀.keeps F.keep
  obtain ⟨cd, hcd, hm⟩ := W.any_some hc
  obtain ⟨rest, hm⟩ : ∃ rest, cd.mro = .ref C :: rest := by
    cases q : cd.mro with
    | nil => rw [q] at hm; cases hm
    | cons a r => rw [q] at hm; exact ⟨r, by rw [List.head?_cons] at hm; cases (beq_iff_eq.mp hm); rfl⟩
  unfold binaryOp1
  refine wpAny_bind (I.type.here (wpAny_bind (hb.here (wpAny_bind ((W.fills_K X hcd hm hs).here ?_)))))
  simp only [beq_self_eq_true, if_true]
  refine wpAny_bind (wpAny_pure ?_)
  simp only [Bool.and_false, Bool.false_eq_true, if_false, Bool.false_and]
  refine wpAny_bind (wpAny_pure ?_)
  simp only [Bool.false_eq_true, if_false]
  refine wpAny_bind (m := tryMethod (.ref x) _ b) ?_
  unfold tryMethod
  refine wpAny_bind (W.special_fn X I hs (beq_iff_eq.mp hf) (wpAny_mono h (fun v s' hv => ?_) fun _ _ e => e))
  cases v <;> first | exact hv.elim | exact wpAny_pure (wpAny_pure ⟨_, rfl, hv⟩)
theorem inpl_O {op : Operator} {b : Value} {cd : ClassData} {Q : Value → Shared → Prop} (F : Fr h₀ L s.heap m) (X₀ : K.In h₀) (I : W.InstAt s.heap x ox C od) (hb : W.Looks (model prog w) s.heap (typeOf b) (.ref C)) (hc : W.clsIn K C = some cd) (hm : cd.mro = [.ref C, .type "object"])
    (hi : W.findIn K (.ref C) (dunderI op.info.2) = some none) (ho : typeLookup (.type "object") (dunderI op.info.2) = pure none)
    (hs : W.findIn K (.ref C) (PySem.dunder op.info.2) = some (some (.ref f))) (hf : W.isFn K (.ref f) = true)
    (h : wpAny (model prog w) A (call (.ref f) [.ref x, b]) (W.CmpBack Q) E s) : wpAny (model prog w) A (inplaceOp op (.ref x) b) Q E s := by
  have X := X₀.keeps F.keep
  have hc1 : W.selfFirst K C = true := by
    unfold W.selfFirst
    rw [hc]
    show (cd.mro.head? == some (.ref C)) = true
    rw [hm]
    exact beq_self_eq_true _
  unfold inplaceOp
  refine wpAny_holding (wpAny_bind (I.type.here ?_))
  refine wpAny_bind ((noInpl X hc hm hi ho).here ?_)
  simp only [Bool.false_eq_true, if_false]
  refine wpAny_bind (wpAny_mono (binop1_O F X₀ I hb hc1 hs hf h) (fun r s' z => ?_) fun _ _ e => e)
  obtain ⟨v, rfl, q⟩ := z
  exact wpAny_pure q
end
section
variable {X : Cx} {CX : CXT} {n : Nat} {f C : Addr} {fd : FuncData} {ps : List Str} {sp : Sp} {E : XK}
theorem ip_own {op : Operator} (D : Dun X CX n C f (PySem.dunder op.info.2) fd ps sp) (hc : mro2 X.K C = true) (hi : W.findIn X.K (.ref C) (dunderI op.info.2) = some none) (ho : (fastLookup "object" (dunderI op.info.2)) = some none) (hr : Room n X.A) (hx : Passes CX X E) : PIp X op (rBinO C sp E) := by
  intro pins s σ H x y v u Q I rx ry h
  obtain ⟨a, b, rfl, rfl, ha, hb, q⟩ := h
  cases rx
  cases ry
  obtain ⟨ox, od, J⟩ := own_at I ha
  obtain ⟨ox', od', J'⟩ := own_at I hb
  obtain ⟨m, hF⟩ := I.fr
  obtain ⟨cd, hcd, hm⟩ := W.any_some hc
  have ho2 : typeLookup (.type "object") (dunderI op.info.2) = pure none := by rw [typeLookup_type, builtinLookup_eq_fast, ho]
  refine inpl_O hF I.ok.mod.kin J J'.type hcd (eq_of_beq hm) hi ho2 D.at_ D.fn (wpAny_mono (run_at D.F ⟨hr, rfl⟩ D.b hx I (vs := [.ref _, .ref _]) (.cons rfl (.cons rfl .nil)) q) (fun r s' z => ?_) fun _ _ z => z)
  obtain ⟨w, H', I', rw', k, q⟩ := z
  rcases k with ⟨p, rfl⟩ | rfl | ⟨b, rfl⟩
  · cases rw'
    exact ⟨.ref p, H', I', rfl, q⟩
  · cases rw'
    exact ⟨.non, H', I', rfl, q⟩
  · cases rw'
    exact ⟨.bl b, H', I', rfl, q⟩
end
end Ow

set_option Elab.async false
set_option linter.all false
set_option maxRecDepth 100000
set_option maxHeartbeats 2000000
/-! A def with a *parameter by its text (okStar), and its plain call by name. -/
namespace Sf
open PySem PySem.Spec PyProof.Rows L2
section
variable {P : Program} {w : World} {K : W.Frag} {mg : Str → Option Value} {base : Heap}
/-- what a def with a *parameter promises, from what its body does with the tuple -/
def star (n : Nat) (sp : Sp) : Sp := fun vs H Q E => ∃ ws rest, vs = ws ++ rest ∧ ws.length = n ∧ rest.length ≤ sizeLine ∧ ∀ p, H p = Option.none → sp (ws ++ [V.ref p]) (upd H p (.tup rest)) Q E
theorem okStar {x qual : Str} {st : Stmt} {f : Addr} {fd : FuncData} {N ps : List Str} {pv : Str} {k : Nat} {sp : Sp} (F : L2.Fun K x qual st f fd) (S : FnScope N (ps ++ [pv]) (defScope st))
    (hb : ∀ (kV doc pm : Value) (an : Option Addr) (cdv ct : Value) (us rest : List Value), us.length = ps.length → bindArgs (W.fnOf x qual (defArgs st) (defBody st) (defScope st) .none kV doc pm an cdv ct) ⟨us ++ rest, []⟩ = (newTuple rest >>= fun t => pure (ps.zip us ++ [(pv, t)])))
    (hbody : ∀ (cdv : Value) (A : Around) (outer : List Env) (s : Shared) (H : Hp) (vs : List V) (Q : VK) (E : XK), Room k (A.deeper (envOfC qual (defScope st) s.heap.objs.size f cdv)) → sp vs H Q E →
      ∃ t, PSs (L2.cxOf (L2.CX P w) P w K mg base N qual (defScope st) f cdv A outer s H E) (defBody st) t ∧ t { nx := fun _ H' => Q .non H', rt := Q } (L2.start N vs) H) : FnR P w K mg base (L2.CX P w) (k + 1) f (star ps.length sp) := by
  obtain ⟨oc, od, kV, doc, pm, an, cdv, ct, osl, rfl, lk, hcd⟩ := F.ex
  exact StX.fn_star lk hcd S StX.cxUp (hb kV doc pm an cdv ct) fun A outer s H vs Q E hr hsp => hbody cdv A outer s H vs Q E hr hsp
end
section
variable {X : Cx} {CX : CXT} {k : Nat} {f : Addr} {sp : Sp} {E : XK} {x : Str} {e : Expr} {es : List Expr} {t : TA} {p pos : Pos}
/-- x(e, ..), x a def of the module told by its positions -/
theorem pe_callR (F : FnR X.prog X.w X.K X.mg X.base CX k f sp) (hr : Room k X.A) (hk : W.keepIn X.K (.ref f) = true) (hg : Gl X x) (hm : X.mg x = some (.ref f)) (hx : Passes CX X E) (ha : PA X (e :: es) t) (hd : (x == ("__debug__" : Str)) = false := by decide)
    (he : starEach (e :: es) X.env = (false, eval e X.env) :: starEach es X.env := by rfl) (hpl : (backTo pos (starEach es X.env)).any (·.1) = false := by rfl) :
    PE X (.Call (.Name x p) (e :: es) [] pos) (fun σ H Q => t σ H fun vs H1 => sp vs H1 Q E) := by
  refine ⟨fun pins s σ H Q I h => ?_⟩
  refine wpAny_Call_Name_kw (ld_glob I hg hm ?_ hd)
  refine W.callWith_K (h₀ := X.base) I.ok.mod.kin hk (thn (ha.run pos pins s σ H _ I h) fun us s1 ⟨vs, H1, I1, r, q⟩ => ⟨I1.kIn, ?_⟩) he hpl
  exact wpAny_call (run_fnR F hr hx I1 r q)
end
end Sf

set_option Elab.async false
set_option linter.all false
set_option maxRecDepth 100000
set_option maxHeartbeats 2000000
/-! d.keys(), list(d.keys()), d.pop(k), the keys of d tuples. -/
namespace Kl
open PySem PySem.W PySem.Spec PyProof.Rows L2
/-- the view d.keys() at p -/
def keysO (p d : Addr) : HO := .ext fun h => W.KdlKeysView h p d
theorem keysO_ok {P : Program} {w : World} {H : Hp} {h : Heap} {p d : Addr} (e : h.get? p = some { cls := .type "dict_keys", data := .fields #[.ref d] }) : ObjOk P w H h p (keysO p d) :=
  ⟨⟨_, e, rfl, rfl⟩, ⟨_, e⟩, fun h1 h2 x k => let ⟨o, ho, r⟩ := x; ⟨o, k o ho, r⟩⟩
section
variable {X : Cx}
def rKeysT : V → List V → Hp → VK → Prop := fun x xs H Q => ∃ (a : Addr) (kvs : List (List L2.Key × V)), x = .ref a ∧ xs = [] ∧ H a = some (.dT kvs) ∧ ∀ p, H p = none → Q (.ref p) (upd H p (keysO p a))
theorem mt_keysT : MtR X "dict.keys" rKeysT := by
  intro pins s σ H x xs v us Q I rx rxs h
  obtain ⟨a, kvs, rfl, rfl, ha, q⟩ := h
  cases rx
  cases rxs
  obtain ⟨z, hd, xs', rel, o, es, ep, ho, hx, hdat, _⟩ := dt_of I.hok ha
  have hm : s.heap.DictRaw a es ep := ⟨o, ho, hx, hdat⟩
  have hf : H s.heap.objs.size = none := I.hok.fresh (Nat.le_refl _)
  refine call_meetsIn PySem.F.slot_dict_keys hm.typeIs PySem.F.entry_dict_keys (PySem.F.args_dict_keys_1 _) (meets_dict_keys_raw a hd) ⟨⟨es, ep, hm⟩, ?_⟩
  exact ⟨.ref s.heap.objs.size, upd H s.heap.objs.size (keysO s.heap.objs.size a), I.laid (t' := s.toks) (fun b u e => Heap.get?_push_of_some _ e) (Nat.le_refl _) (keysO_ok (Heap.get?_push_size _ rfl)), rfl, q _ hf⟩
/-- list(d.keys()), the view at v -/
def rListK : List V → Hp → VK → Prop := fun xs H Q => ∃ v a kvs, xs = [.ref v] ∧ H v = some (keysO v a) ∧ H a = some (.dT kvs) ∧ ∀ p bs, H p = none → IsKeys H kvs bs → Q (.ref p) (upd H p (.lst (bs.map V.ref)))
theorem call_listK (hc : X.calm = true) : CallR X (.type "list") rListK := by
  intro pins s σ H xs us Q I r h
  obtain ⟨v, d, kvs, rfl, hv, hd, q⟩ := h
  obtain ⟨u, rfl, rx⟩ := r.one
  cases rx
  have view : W.KdlKeysView s.heap v d := (show ObjOk X.prog X.w H s.heap v (keysO v d) from I.hok v _ hv).1
  obtain ⟨z, hs, ks, pr, o, es, ep, ho, hx, hdt, he, hn⟩ := (show ObjOk X.prog X.w H s.heap d (.dT kvs) from I.hok d _ hd)
  have hm : s.heap.DictRaw d es ep := ⟨o, ho, hx, hdt⟩
  have l1 : es.size = ks.length := size_of_entries he
  have l2 : kvs.length = ks.length := Paired.length pr
  refine W.kdl_call (KdlSrc.rawKeys (r := v) (d := d) (es := es) (ep := ep)) (I.ok.hd hc) ⟨view, hm⟩ (by omega) fun h' tk acc' c' kp e it => ?_
  have ea : acc'.toList = ks.map fun x => Value.ref x.2.1 := by
    have hl : acc'.toList.length = ks.length := by rw [Array.length_toList, it.1]; exact l1
    refine List.ext_getElem? fun j => ?_
    rw [List.getElem?_map]
    cases hj : acc'.toList[j]? with
    | none =>
      have h1 := List.getElem?_eq_none_iff.mp hj
      rw [List.getElem?_eq_none (by omega)]
      rfl
    | some v =>
      obtain ⟨hi, hv⟩ := it.2 j v (by rw [← Array.getElem?_toList]; exact hj)
      have qe := entry_at he j
      rw [Array.getElem?_eq_getElem hi] at qe
      cases hb : ks[j]? with
      | none =>
        rw [hb] at qe
        exact nomatch (show some es[j] = none from qe)
      | some b =>
        rw [hb] at qe
        have e2 : es[j] = entryOfKey (tupleKind (mixKind X.prog X.w)) b := Option.some.inj qe
        rw [hv, e2]
        rfl
  have eb : acc'.toList = (ks.map fun x => x.2.1).map Value.ref := by
    rw [ea, List.map_map]
    rfl
  have rv : Vals ((ks.map fun x => x.2.1).map V.ref) acc'.toList := by rw [eb]; exact vals_refs _
  have hz : ((ks.map fun x => x.2.1).map V.ref).length ≤ sizeLine := by rw [List.length_map, List.length_map]; omega
  refine ⟨.ref s.heap.objs.size, _, I.laid (t' := tk) (o := .lst ((ks.map fun x => x.2.1).map V.ref)) kp (Nat.le_refl _) ?_, rfl, q _ _ (I.hok.fresh (Nat.le_refl _)) (isKeys_of pr)⟩
  exact ⟨hz, acc'.toList, c', rv, by rw [Array.toArray_toList]; exact e⟩
/-- d.pop(k), the key there -/
def rPop1 : V → List V → Hp → VK → Prop := fun x xs H Q => ∃ (a : Addr) (kvs : List (List L2.Key × V)) (k : List L2.Key) (b : Addr) (v : V), x = .ref a ∧ xs = [.ref b] ∧ H a = some (.dT kvs) ∧ H b = some (.tup (k.map kV)) ∧ valV kvs k = some v ∧
  Q v (upd H a (.dT (dropK kvs k)))
theorem mt_pop1 (hu : X.A.units + 1 < cLine) : MtR X "dict.pop" rPop1 := by
  intro pins s σ H x xs v us Q I rx rxs h
  obtain ⟨a, kvs, k, b, v0, rfl, rfl, ha, hb, hv, q⟩ := h
  cases rx
  obtain ⟨u1, rfl, r1⟩ := rxs.one
  cases r1
  obtain ⟨z, hd, xs', rel, dd⟩ := dt_of I.hok ha
  have hz : xs'.length ≤ sizeLine := by rw [← Paired.length rel]; exact z
  have r := rel.val k
  rw [hv] at r
  cases hp : atKey xs' k with
  | none =>
    rw [hp] at r
    exact (show False from r).elim
  | some p =>
    rw [hp] at r
    have rv : RelV v0 p.2 := r
    refine call_pop_heap (knd := tupleKind (mixKind X.prog X.w)) (more := []) (.inl rfl) (PySem.F.args_dict_pop_2 _ _) (tupleKind_room_in1 hu) (key_of I.hok hb) hd dd hp (fun h' dd' hs => ?_) hz
    obtain ⟨o, es, ep, hq, h2, h3, h4, _, h5⟩ := dd'
    have I2 : Inv X pins σ (upd H a (.dT (dropK kvs k))) { s with heap := h', toks := s.toks + (tupleKind (mixKind X.prog X.w)).draws k } := d_write I (by rw [ha]; exact True.intro) hs ⟨o, hq⟩ ⟨Nat.le_trans (L2.dropK_le kvs k) z, hd, _, (DX.KT_drop k rel).keeps (fun c ys ec => (by rw [upd_ne (ne_of ec ha (fun z => nomatch z))]; exact ec)), o, es, ep, hq, h2, h3, h4, h5⟩
    exact ⟨v0, _, I2, rv, q⟩
end
end Kl

set_option Elab.async false
set_option linter.all false
set_option maxRecDepth 100000
set_option maxHeartbeats 2000000
/-! xs == ys where xs and ys are lists: data, or lists of different lengths. -/
namespace Le
open PySem PySem.Calls PyProof.Rows PySem.Spec L2
section
variable {X : Cx}
def rEqL (K : W.Frag) : R2 := fun x y H Q => rEqD K x y H Q ∨ ∃ a b xs ys, x = .ref a ∧ y = .ref b ∧ H a = some (.lst xs) ∧ H b = some (.lst ys) ∧ xs.length ≠ ys.length ∧ Q (.bl false) H
theorem op_eqL (hu : X.A.units + 64 < cLine) : OpR X (compareOp .Eq) (rEqL X.K) := by
  intro pins s σ H x y v u Q I rx ry h
  rcases h with h | ⟨a, b, xs, ys, rfl, rfl, ha, hb, hl, q⟩
  · exact op_eqD hu pins s σ H x y v u Q I rx ry h
  · cases rx
    cases ry
    obtain ⟨_, is, n, r1, h1⟩ := (show ObjOk X.prog X.w H s.heap a (.lst xs) from I.hok a _ ha)
    obtain ⟨_, js, m, r2, h2⟩ := (show ObjOk X.prog X.w H s.heap b (.lst ys) from I.hok b _ hb)
    have e1 := r1.length
    have e2 := r2.length
    have hne : (is.toArray.size != js.toArray.size) = true := by
      rw [List.size_toArray, List.size_toArray, bne_iff_ne]
      omega
    show wpAny _ X.A (richCompare .Eq _ _) _ _ s
    exact SeqAt.RcAt.lists_lengths ⟨_, h1, rfl, n, rfl⟩ ⟨_, h2, rfl, m, rfl⟩ hne (by omega) _ _ _ _ ⟨.bl false, H, I, rfl, q⟩
end
end Le

set_option Elab.async false
set_option linter.all false
/-! A term's reading replaced by one that gives it: so that an a if .. else b does not double what follows. -/
namespace L2
open PySem PySem.Spec PyProof.Rows
theorem PE.to {X : Cx} {e : Expr} {t t' : TE} (h : PE X e t) (w : ∀ σ H Q, t' σ H Q → t σ H Q) : PE X e t' := ⟨fun pins s σ H Q I q => h.run pins s σ H Q I (w σ H Q q)⟩
theorem PS.to {X : Cx} {e : Stmt} {t t' : TS} (h : PS X e t) (w : ∀ D σ H, t' D σ H → t D σ H) : PS X e t' := ⟨fun pins s σ H D I q => h.run pins s σ H D I (w D σ H q)⟩
end L2

set_option Elab.async false
set_option linter.all false
set_option maxRecDepth 100000
set_option maxHeartbeats 4000000
open L2 in
local macro_rules | `(tactic| walk_at "r1") => `(tactic| first
  | refine ⟨_, rfl, ?_⟩
  | refine ⟨_, _, rfl, rfl, ?_⟩)
open L2 in
local macro_rules | `(tactic| walk_at "q1") => `(tactic| first
  | refine ⟨_, rfl, ?_⟩
  | refine ⟨_, _, rfl, rfl, ?_⟩
  | refine And.intro (show CMul _ _ from Or.inr ⟨by decide, by decide⟩) ?_
  | refine And.intro (show CMul _ _ from Or.inl ⟨by first | decide | omega, by first | decide | omega⟩) ?_
  | refine And.intro (show CMul _ _ from Or.inr ⟨by omega, by omega⟩) ?_
  | refine And.intro (show CDiv _ _ from ⟨by omega, by omega⟩) ?_
  | refine And.intro (show Dt.CPowG _ _ from ⟨by decide, by decide +kernel⟩) ?_
  | refine And.intro (by first | decide | omega) ?_
  | refine And.intro (Int.pow_pos (Int.pow_pos (by decide))) ?_
  | refine ⟨_, _, _, _, rfl, rfl, SqL.of (by first | assumption | exact upd_same), (by rfl), ?_⟩
  | refine ⟨_, _, _, _, rfl, rfl, (by first | assumption | exact upd_same), (by rfl), ?_⟩
  | refine Or.inl ⟨_, rfl, ?_⟩
  | refine Or.inr ⟨_, rfl, ?_⟩)
local macro_rules | `(tactic| walk_at "q") => `(tactic| repeat (walk_at "q1"))
local macro_rules | `(tactic| walk_at "eqt") => `(tactic| (refine ⟨_, rfl, ?_⟩; refine ⟨rfl, ?_⟩; first
  | (refine ⟨true, rfl, ?_⟩; refine L2.iteT ?_)
  | (refine ⟨false, rfl, ?_⟩; refine L2.iteF ?_)))
local macro_rules | `(tactic| walk_at "sz") => `(tactic| (rw [PySem.sizeLine_eq]; simp))
namespace K02
open PySem PySem.Spec PyProof.Rows L2 Dt An Rp
def topS (i : Nat) : Stmt := PySem.Challenge.pw_dealtrows_k02_answers_put_together.main.body.getD i (.Pass ⟨0, 0, 0, 0⟩)
abbrev s_is_number : Stmt := topS 4
abbrev nm_is_number : List Str := ["value"]
abbrev ps_is_number : List Str := ["value"]
theorem sc_is_number : FnScope nm_is_number ps_is_number (defScope s_is_number) := ⟨rfl, rfl, rfl, by decide +kernel, rfl, by decide +kernel, by decide +kernel⟩
abbrev s_are_integers : Stmt := topS 5
abbrev nm_are_integers : List Str := ["value", "number"]
abbrev ps_are_integers : List Str := ["value"]
theorem sc_are_integers : FnScope nm_are_integers ps_are_integers (defScope s_are_integers) := ⟨rfl, rfl, rfl, by decide +kernel, rfl, by decide +kernel, by decide +kernel⟩
abbrev s_is_form : Stmt := topS 6
abbrev nm_is_form : List Str := ["value"]
abbrev ps_is_form : List Str := ["value"]
theorem sc_is_form : FnScope nm_is_form ps_is_form (defScope s_is_form) := ⟨rfl, rfl, rfl, by decide +kernel, rfl, by decide +kernel, by decide +kernel⟩
abbrev s_is_head : Stmt := topS 13
abbrev nm_is_head : List Str := ["value"]
abbrev ps_is_head : List Str := ["value"]
theorem sc_is_head : FnScope nm_is_head ps_is_head (defScope s_is_head) := ⟨rfl, rfl, rfl, by decide +kernel, rfl, by decide +kernel, by decide +kernel⟩
abbrev s__are_of_one_length : Stmt := topS 14
abbrev nm__are_of_one_length : List Str := ["heads", "head"]
abbrev ps__are_of_one_length : List Str := ["heads"]
theorem sc__are_of_one_length : FnScope nm__are_of_one_length ps__are_of_one_length (defScope s__are_of_one_length) := ⟨rfl, rfl, rfl, by decide +kernel, rfl, by decide +kernel, by decide +kernel⟩
abbrev s__is_number_of : Stmt := topS 15
abbrev nm__is_number_of : List Str := ["form", "value"]
abbrev ps__is_number_of : List Str := ["form", "value"]
theorem sc__is_number_of : FnScope nm__is_number_of ps__is_number_of (defScope s__is_number_of) := ⟨rfl, rfl, rfl, by decide +kernel, rfl, by decide +kernel, by decide +kernel⟩
abbrev s__are_numbers : Stmt := topS 16
abbrev nm__are_numbers : List Str := ["form", "value", "head"]
abbrev ps__are_numbers : List Str := ["form", "value"]
theorem sc__are_numbers : FnScope nm__are_numbers ps__are_numbers (defScope s__are_numbers) := ⟨rfl, rfl, rfl, by decide +kernel, rfl, by decide +kernel, by decide +kernel⟩
abbrev s_Answer___init__ : Stmt := inClass (topS 17) 0
abbrev nm_Answer___init__ : List Str := ["self", "form", "numbers", "given", "head"]
abbrev ps_Answer___init__ : List Str := ["self", "form", "numbers"]
theorem sc_Answer___init__ : FnScope nm_Answer___init__ ps_Answer___init__ (defScope s_Answer___init__) := ⟨rfl, rfl, rfl, by decide +kernel, rfl, by decide +kernel, by decide +kernel⟩
abbrev s_Answer_form : Stmt := inClass (topS 17) 2
abbrev nm_Answer_form : List Str := ["self"]
abbrev ps_Answer_form : List Str := ["self"]
theorem sc_Answer_form : FnScope nm_Answer_form ps_Answer_form (defScope s_Answer_form) := ⟨rfl, rfl, rfl, by decide +kernel, rfl, by decide +kernel, by decide +kernel⟩
abbrev s_Answer_heads : Stmt := inClass (topS 17) 3
abbrev nm_Answer_heads : List Str := ["self"]
abbrev ps_Answer_heads : List Str := ["self"]
theorem sc_Answer_heads : FnScope nm_Answer_heads ps_Answer_heads (defScope s_Answer_heads) := ⟨rfl, rfl, rfl, by decide +kernel, rfl, by decide +kernel, by decide +kernel⟩
abbrev s_Answer_pairs : Stmt := inClass (topS 17) 4
abbrev nm_Answer_pairs : List Str := ["self", "head"]
abbrev ps_Answer_pairs : List Str := ["self"]
theorem sc_Answer_pairs : FnScope nm_Answer_pairs ps_Answer_pairs (defScope s_Answer_pairs) := ⟨rfl, rfl, rfl, by decide +kernel, rfl, by decide +kernel, by decide +kernel⟩
abbrev s_Answer___iter__ : Stmt := inClass (topS 17) 5
abbrev nm_Answer___iter__ : List Str := ["self"]
abbrev ps_Answer___iter__ : List Str := ["self"]
theorem sc_Answer___iter__ : FnScope nm_Answer___iter__ ps_Answer___iter__ (defScope s_Answer___iter__) := ⟨rfl, rfl, rfl, by decide +kernel, rfl, by decide +kernel, by decide +kernel⟩
abbrev s_Answer___getitem__ : Stmt := inClass (topS 17) 6
abbrev nm_Answer___getitem__ : List Str := ["self", "at"]
abbrev ps_Answer___getitem__ : List Str := ["self", "at"]
theorem sc_Answer___getitem__ : FnScope nm_Answer___getitem__ ps_Answer___getitem__ (defScope s_Answer___getitem__) := ⟨rfl, rfl, rfl, by decide +kernel, rfl, by decide +kernel, by decide +kernel⟩
abbrev s_Answer___contains__ : Stmt := inClass (topS 17) 7
abbrev nm_Answer___contains__ : List Str := ["self", "x"]
abbrev ps_Answer___contains__ : List Str := ["self", "x"]
theorem sc_Answer___contains__ : FnScope nm_Answer___contains__ ps_Answer___contains__ (defScope s_Answer___contains__) := ⟨rfl, rfl, rfl, by decide +kernel, rfl, by decide +kernel, by decide +kernel⟩
abbrev s_Answer___len__ : Stmt := inClass (topS 17) 8
abbrev nm_Answer___len__ : List Str := ["self"]
abbrev ps_Answer___len__ : List Str := ["self"]
theorem sc_Answer___len__ : FnScope nm_Answer___len__ ps_Answer___len__ (defScope s_Answer___len__) := ⟨rfl, rfl, rfl, by decide +kernel, rfl, by decide +kernel, by decide +kernel⟩
abbrev s_Answer___bool__ : Stmt := inClass (topS 17) 9
abbrev nm_Answer___bool__ : List Str := ["self"]
abbrev ps_Answer___bool__ : List Str := ["self"]
theorem sc_Answer___bool__ : FnScope nm_Answer___bool__ ps_Answer___bool__ (defScope s_Answer___bool__) := ⟨rfl, rfl, rfl, by decide +kernel, rfl, by decide +kernel, by decide +kernel⟩
abbrev s_Answer___eq__ : Stmt := inClass (topS 17) 10
abbrev nm_Answer___eq__ : List Str := ["self", "other"]
abbrev ps_Answer___eq__ : List Str := ["self", "other"]
theorem sc_Answer___eq__ : FnScope nm_Answer___eq__ ps_Answer___eq__ (defScope s_Answer___eq__) := ⟨rfl, rfl, rfl, by decide +kernel, rfl, by decide +kernel, by decide +kernel⟩
abbrev s_Answer___str__ : Stmt := inClass (topS 17) 11
abbrev nm_Answer___str__ : List Str := ["self"]
abbrev ps_Answer___str__ : List Str := ["self"]
theorem sc_Answer___str__ : FnScope nm_Answer___str__ ps_Answer___str__ (defScope s_Answer___str__) := ⟨rfl, rfl, rfl, by decide +kernel, rfl, by decide +kernel, by decide +kernel⟩
abbrev s_Answer__check_numbers : Stmt := inClass (topS 17) 12
abbrev nm_Answer__check_numbers : List Str := ["self"]
abbrev ps_Answer__check_numbers : List Str := ["self"]
theorem sc_Answer__check_numbers : FnScope nm_Answer__check_numbers ps_Answer__check_numbers (defScope s_Answer__check_numbers) := ⟨rfl, rfl, rfl, by decide +kernel, rfl, by decide +kernel, by decide +kernel⟩
abbrev s_Answer__check_heads : Stmt := inClass (topS 17) 13
abbrev nm_Answer__check_heads : List Str := ["self"]
abbrev ps_Answer__check_heads : List Str := ["self"]
theorem sc_Answer__check_heads : FnScope nm_Answer__check_heads ps_Answer__check_heads (defScope s_Answer__check_heads) := ⟨rfl, rfl, rfl, by decide +kernel, rfl, by decide +kernel, by decide +kernel⟩
abbrev s_Answer__check_other : Stmt := inClass (topS 17) 14
abbrev nm_Answer__check_other : List Str := ["self", "other"]
abbrev ps_Answer__check_other : List Str := ["self", "other"]
theorem sc_Answer__check_other : FnScope nm_Answer__check_other ps_Answer__check_other (defScope s_Answer__check_other) := ⟨rfl, rfl, rfl, by decide +kernel, rfl, by decide +kernel, by decide +kernel⟩
abbrev s_Answer__plus : Stmt := inClass (topS 17) 15
abbrev nm_Answer__plus : List Str := ["self", "other", "sign", "mine", "others", "sums", "head"]
abbrev ps_Answer__plus : List Str := ["self", "other", "sign"]
theorem sc_Answer__plus : FnScope nm_Answer__plus ps_Answer__plus (defScope s_Answer__plus) := ⟨rfl, rfl, rfl, by decide +kernel, rfl, by decide +kernel, by decide +kernel⟩
abbrev s_Answer___add__ : Stmt := inClass (topS 17) 16
abbrev nm_Answer___add__ : List Str := ["self", "other"]
abbrev ps_Answer___add__ : List Str := ["self", "other"]
theorem sc_Answer___add__ : FnScope nm_Answer___add__ ps_Answer___add__ (defScope s_Answer___add__) := ⟨rfl, rfl, rfl, by decide +kernel, rfl, by decide +kernel, by decide +kernel⟩
abbrev s_Answer___sub__ : Stmt := inClass (topS 17) 17
abbrev nm_Answer___sub__ : List Str := ["self", "other"]
abbrev ps_Answer___sub__ : List Str := ["self", "other"]
theorem sc_Answer___sub__ : FnScope nm_Answer___sub__ ps_Answer___sub__ (defScope s_Answer___sub__) := ⟨rfl, rfl, rfl, by decide +kernel, rfl, by decide +kernel, by decide +kernel⟩
abbrev s_Answer___neg__ : Stmt := inClass (topS 17) 18
abbrev nm_Answer___neg__ : List Str := ["self", "head"]
abbrev ps_Answer___neg__ : List Str := ["self"]
theorem sc_Answer___neg__ : FnScope nm_Answer___neg__ ps_Answer___neg__ (defScope s_Answer___neg__) := ⟨rfl, rfl, rfl, by decide +kernel, rfl, by decide +kernel, by decide +kernel⟩
abbrev s_Answer___or__ : Stmt := inClass (topS 17) 19
abbrev nm_Answer___or__ : List Str := ["self", "other", "head"]
abbrev ps_Answer___or__ : List Str := ["self", "other"]
theorem sc_Answer___or__ : FnScope nm_Answer___or__ ps_Answer___or__ (defScope s_Answer___or__) := ⟨rfl, rfl, rfl, by decide +kernel, rfl, by decide +kernel, by decide +kernel⟩
abbrev s_Answer___and__ : Stmt := inClass (topS 17) 20
abbrev nm_Answer___and__ : List Str := ["self", "other", "head"]
abbrev ps_Answer___and__ : List Str := ["self", "other"]
theorem sc_Answer___and__ : FnScope nm_Answer___and__ ps_Answer___and__ (defScope s_Answer___and__) := ⟨rfl, rfl, rfl, by decide +kernel, rfl, by decide +kernel, by decide +kernel⟩
abbrev s_Answer___xor__ : Stmt := inClass (topS 17) 21
abbrev nm_Answer___xor__ : List Str := ["self", "other", "mine", "others", "head"]
abbrev ps_Answer___xor__ : List Str := ["self", "other"]
theorem sc_Answer___xor__ : FnScope nm_Answer___xor__ ps_Answer___xor__ (defScope s_Answer___xor__) := ⟨rfl, rfl, rfl, by decide +kernel, rfl, by decide +kernel, by decide +kernel⟩
abbrev s_combined : Stmt := topS 18
abbrev nm_combined : List Str := ["form", "answers", "answer", "head", "total"]
abbrev ps_combined : List Str := ["form", "answers"]
theorem sc_combined : FnScope nm_combined ps_combined (defScope s_combined) := ⟨rfl, rfl, rfl, by decide +kernel, rfl, by decide +kernel, by decide +kernel⟩
abbrev s__law_dice : Stmt := topS 20
abbrev nm__law_dice : List Str := ["_law_script", "_law_spot", "_law_cell", "_law_whole"]
abbrev ps__law_dice : List Str := ["_law_script", "_law_spot"]
theorem sc__law_dice : FnScope nm__law_dice ps__law_dice (defScope s__law_dice) := ⟨rfl, rfl, rfl, by decide +kernel, rfl, by decide +kernel, by decide +kernel⟩
abbrev s__law_roll : Stmt := topS 21
abbrev nm__law_roll : List Str := ["_law_dice_here", "_law_upto", "_law_found", "_law_one", "_law_two"]
abbrev ps__law_roll : List Str := ["_law_dice_here", "_law_upto"]
theorem sc__law_roll : FnScope nm__law_roll ps__law_roll (defScope s__law_roll) := ⟨rfl, rfl, rfl, by decide +kernel, rfl, by decide +kernel, by decide +kernel⟩
abbrev s__law_pick : Stmt := topS 22
abbrev nm__law_pick : List Str := ["_law_dice_here", "_law_items"]
abbrev ps__law_pick : List Str := ["_law_dice_here", "_law_items"]
theorem sc__law_pick : FnScope nm__law_pick ps__law_pick (defScope s__law_pick) := ⟨rfl, rfl, rfl, by decide +kernel, rfl, by decide +kernel, by decide +kernel⟩
abbrev s__law_met : Stmt := topS 23
abbrev nm__law_met : List Str := ["_law_call"]
abbrev ps__law_met : List Str := ["_law_call"]
theorem sc__law_met : FnScope nm__law_met ps__law_met (defScope s__law_met) := ⟨rfl, rfl, rfl, by decide +kernel, rfl, by decide +kernel, by decide +kernel⟩
abbrev s__law_numbers : Stmt := topS 24
abbrev nm__law_numbers : List Str := ["_law_dice_here", "_law_form", "_law_width", "_law_found", "_law_turn", "_law_head", "_law_at", "_law_number"]
abbrev ps__law_numbers : List Str := ["_law_dice_here", "_law_form", "_law_width"]
theorem sc__law_numbers : FnScope nm__law_numbers ps__law_numbers (defScope s__law_numbers) := ⟨rfl, rfl, rfl, by decide +kernel, rfl, by decide +kernel, by decide +kernel⟩
abbrev s__law_added : Stmt := topS 25
abbrev nm__law_added : List Str := ["_law_mine", "_law_more", "_law_sign", "_law_found", "_law_head"]
abbrev ps__law_added : List Str := ["_law_mine", "_law_more", "_law_sign"]
theorem sc__law_added : FnScope nm__law_added ps__law_added (defScope s__law_added) := ⟨rfl, rfl, rfl, by decide +kernel, rfl, by decide +kernel, by decide +kernel⟩
abbrev s__law_by_word : Stmt := topS 26
abbrev nm__law_by_word : List Str := ["_law_word", "_law_mine", "_law_more", "_law_both", "_law_head"]
abbrev ps__law_by_word : List Str := ["_law_word", "_law_mine", "_law_more"]
theorem sc__law_by_word : FnScope nm__law_by_word ps__law_by_word (defScope s__law_by_word) := ⟨rfl, rfl, rfl, by decide +kernel, rfl, by decide +kernel, by decide +kernel⟩
abbrev s__law_done : Stmt := topS 27
abbrev nm__law_done : List Str := ["_law_word", "_law_one", "_law_other"]
abbrev ps__law_done : List Str := ["_law_word", "_law_one", "_law_other"]
theorem sc__law_done : FnScope nm__law_done ps__law_done (defScope s__law_done) := ⟨rfl, rfl, rfl, by decide +kernel, rfl, by decide +kernel, by decide +kernel⟩
abbrev s__law_done_at_once : Stmt := topS 28
abbrev nm__law_done_at_once : List Str := ["_law_word", "_law_one", "_law_other", "_law_made"]
abbrev ps__law_done_at_once : List Str := ["_law_word", "_law_one", "_law_other"]
theorem sc__law_done_at_once : FnScope nm__law_done_at_once ps__law_done_at_once (defScope s__law_done_at_once) := ⟨rfl, rfl, rfl, by decide +kernel, rfl, by decide +kernel, by decide +kernel⟩
abbrev s__law_is : Stmt := topS 29
abbrev nm__law_is : List Str := ["_law_answer", "_law_form", "_law_known", "_law_pairs", "_law_head"]
abbrev ps__law_is : List Str := ["_law_answer", "_law_form", "_law_known"]
theorem sc__law_is : FnScope nm__law_is ps__law_is (defScope s__law_is) := ⟨rfl, rfl, rfl, by decide +kernel, rfl, by decide +kernel, by decide +kernel⟩
abbrev s__law_together : Stmt := topS 30
abbrev nm__law_together : List Str := ["_law_form", "_law_lot"]
abbrev ps__law_together : List Str := ["_law_form", "_law_lot"]
theorem sc__law_together : FnScope nm__law_together ps__law_together (defScope s__law_together) := ⟨rfl, rfl, rfl, by decide +kernel, rfl, by decide +kernel, by decide +kernel⟩
abbrev s__law_wrong_right : Stmt := topS 31
abbrev nm__law_wrong_right : List Str := ["_law_dice_here", "_law_form", "_law_answer", "_law_known", "_law_words", "_law_bad", "_law_good", "_law_odd", "_law_strange", "_law_one", "_law_told", "_law_wrong", "_law_width", "_law_other", "_law_back"]
abbrev ps__law_wrong_right : List Str := ["_law_dice_here", "_law_form", "_law_answer", "_law_known"]
theorem sc__law_wrong_right : FnScope nm__law_wrong_right ps__law_wrong_right (defScope s__law_wrong_right) := ⟨rfl, rfl, rfl, by decide +kernel, rfl, by decide +kernel, by decide +kernel⟩
abbrev s_law : Stmt := topS 32
abbrev nm_law : List Str := ["_law_script", "_law_dice_here", "_law_form", "_law_width", "_law_words", "_law_known", "_law_answer", "_law_late", "_law_spot", "_law_word", "_law_others", "_law_other", "_law_due", "_law_made", "_law_lot", "_law_one", "_law_whole", "_law_told"]
abbrev ps_law : List Str := ["_law_script"]
theorem sc_law : FnScope nm_law ps_law (defScope s_law) := ⟨rfl, rfl, rfl, by decide +kernel, rfl, by decide +kernel, by decide +kernel⟩
structure Ads where
  is_number : Addr
  fd_is_number : FuncData
  are_integers : Addr
  fd_are_integers : FuncData
  is_form : Addr
  fd_is_form : FuncData
  is_head : Addr
  fd_is_head : FuncData
  _are_of_one_length : Addr
  fd__are_of_one_length : FuncData
  _is_number_of : Addr
  fd__is_number_of : FuncData
  _are_numbers : Addr
  fd__are_numbers : FuncData
  Answer___init__ : Addr
  fd_Answer___init__ : FuncData
  Answer_form : Addr
  fd_Answer_form : FuncData
  Answer_heads : Addr
  fd_Answer_heads : FuncData
  Answer_pairs : Addr
  fd_Answer_pairs : FuncData
  Answer___iter__ : Addr
  fd_Answer___iter__ : FuncData
  Answer___getitem__ : Addr
  fd_Answer___getitem__ : FuncData
  Answer___contains__ : Addr
  fd_Answer___contains__ : FuncData
  Answer___len__ : Addr
  fd_Answer___len__ : FuncData
  Answer___bool__ : Addr
  fd_Answer___bool__ : FuncData
  Answer___eq__ : Addr
  fd_Answer___eq__ : FuncData
  Answer___str__ : Addr
  fd_Answer___str__ : FuncData
  Answer__check_numbers : Addr
  fd_Answer__check_numbers : FuncData
  Answer__check_heads : Addr
  fd_Answer__check_heads : FuncData
  Answer__check_other : Addr
  fd_Answer__check_other : FuncData
  Answer__plus : Addr
  fd_Answer__plus : FuncData
  Answer___add__ : Addr
  fd_Answer___add__ : FuncData
  Answer___sub__ : Addr
  fd_Answer___sub__ : FuncData
  Answer___neg__ : Addr
  fd_Answer___neg__ : FuncData
  Answer___or__ : Addr
  fd_Answer___or__ : FuncData
  Answer___and__ : Addr
  fd_Answer___and__ : FuncData
  Answer___xor__ : Addr
  fd_Answer___xor__ : FuncData
  combined : Addr
  fd_combined : FuncData
  dice : Addr
  fd_dice : FuncData
  roll : Addr
  fd_roll : FuncData
  pick : Addr
  fd_pick : FuncData
  met : Addr
  fd_met : FuncData
  numbers : Addr
  fd_numbers : FuncData
  added : Addr
  fd_added : FuncData
  by_word : Addr
  fd_by_word : FuncData
  done : Addr
  fd_done : FuncData
  done_at_once : Addr
  fd_done_at_once : FuncData
  is : Addr
  fd_is : FuncData
  together : Addr
  fd_together : FuncData
  wrong_right : Addr
  fd_wrong_right : FuncData
  law : Addr
  fd_law : FuncData
  c_Answer : Addr
  c_InvalidAnswer : Addr
  c_InvalidOperation : Addr
  k_wrong : Addr
  t_wrong : Addr
  p_form : Addr
  p_heads : Addr
  tk__HEAD_LENGTH : Tok
  tk__INTEGER_BOUND : Tok
  o__FORMS : Addr
abbrev veT : List Value := [.type "ValueError", .type "Exception", .type "BaseException", .type "object"]
structure Txt (K : PySem.W.Frag) (mg : Str → Option Value) (a : Ads) : Prop where
  F_is_number : Fun K "is_number" "is_number" s_is_number a.is_number a.fd_is_number
  g_is_number : mg "is_number" = some (.ref a.is_number)
  F_are_integers : Fun K "are_integers" "are_integers" s_are_integers a.are_integers a.fd_are_integers
  g_are_integers : mg "are_integers" = some (.ref a.are_integers)
  F_is_form : Fun K "is_form" "is_form" s_is_form a.is_form a.fd_is_form
  g_is_form : mg "is_form" = some (.ref a.is_form)
  F_is_head : Fun K "is_head" "is_head" s_is_head a.is_head a.fd_is_head
  g_is_head : mg "is_head" = some (.ref a.is_head)
  F__are_of_one_length : Fun K "_are_of_one_length" "_are_of_one_length" s__are_of_one_length a._are_of_one_length a.fd__are_of_one_length
  g__are_of_one_length : mg "_are_of_one_length" = some (.ref a._are_of_one_length)
  F__is_number_of : Fun K "_is_number_of" "_is_number_of" s__is_number_of a._is_number_of a.fd__is_number_of
  g__is_number_of : mg "_is_number_of" = some (.ref a._is_number_of)
  F__are_numbers : Fun K "_are_numbers" "_are_numbers" s__are_numbers a._are_numbers a.fd__are_numbers
  g__are_numbers : mg "_are_numbers" = some (.ref a._are_numbers)
  F_Answer___init__ : FunD K "__init__" "Answer.__init__" (defArgs s_Answer___init__) (defBody s_Answer___init__) (defScope s_Answer___init__) [V.non] [] a.Answer___init__ a.fd_Answer___init__
  F_Answer_form : Fun K "form" "Answer.form" s_Answer_form a.Answer_form a.fd_Answer_form
  F_Answer_heads : Fun K "heads" "Answer.heads" s_Answer_heads a.Answer_heads a.fd_Answer_heads
  F_Answer_pairs : Fun K "pairs" "Answer.pairs" s_Answer_pairs a.Answer_pairs a.fd_Answer_pairs
  F_Answer___iter__ : Fun K "__iter__" "Answer.__iter__" s_Answer___iter__ a.Answer___iter__ a.fd_Answer___iter__
  F_Answer___getitem__ : Fun K "__getitem__" "Answer.__getitem__" s_Answer___getitem__ a.Answer___getitem__ a.fd_Answer___getitem__
  F_Answer___contains__ : Fun K "__contains__" "Answer.__contains__" s_Answer___contains__ a.Answer___contains__ a.fd_Answer___contains__
  F_Answer___len__ : Fun K "__len__" "Answer.__len__" s_Answer___len__ a.Answer___len__ a.fd_Answer___len__
  F_Answer___bool__ : Fun K "__bool__" "Answer.__bool__" s_Answer___bool__ a.Answer___bool__ a.fd_Answer___bool__
  F_Answer___eq__ : Fun K "__eq__" "Answer.__eq__" s_Answer___eq__ a.Answer___eq__ a.fd_Answer___eq__
  F_Answer___str__ : Fun K "__str__" "Answer.__str__" s_Answer___str__ a.Answer___str__ a.fd_Answer___str__
  F_Answer__check_numbers : Fun K "_check_numbers" "Answer._check_numbers" s_Answer__check_numbers a.Answer__check_numbers a.fd_Answer__check_numbers
  F_Answer__check_heads : Fun K "_check_heads" "Answer._check_heads" s_Answer__check_heads a.Answer__check_heads a.fd_Answer__check_heads
  F_Answer__check_other : Fun K "_check_other" "Answer._check_other" s_Answer__check_other a.Answer__check_other a.fd_Answer__check_other
  F_Answer__plus : Fun K "_plus" "Answer._plus" s_Answer__plus a.Answer__plus a.fd_Answer__plus
  F_Answer___add__ : Fun K "__add__" "Answer.__add__" s_Answer___add__ a.Answer___add__ a.fd_Answer___add__
  F_Answer___sub__ : Fun K "__sub__" "Answer.__sub__" s_Answer___sub__ a.Answer___sub__ a.fd_Answer___sub__
  F_Answer___neg__ : Fun K "__neg__" "Answer.__neg__" s_Answer___neg__ a.Answer___neg__ a.fd_Answer___neg__
  F_Answer___or__ : Fun K "__or__" "Answer.__or__" s_Answer___or__ a.Answer___or__ a.fd_Answer___or__
  F_Answer___and__ : Fun K "__and__" "Answer.__and__" s_Answer___and__ a.Answer___and__ a.fd_Answer___and__
  F_Answer___xor__ : Fun K "__xor__" "Answer.__xor__" s_Answer___xor__ a.Answer___xor__ a.fd_Answer___xor__
  F_combined : Fun K "combined" "combined" s_combined a.combined a.fd_combined
  g_combined : mg "combined" = some (.ref a.combined)
  F_dice : Fun K "_law_dice" "_law_dice" s__law_dice a.dice a.fd_dice
  g_dice : mg "_law_dice" = some (.ref a.dice)
  F_roll : Fun K "_law_roll" "_law_roll" s__law_roll a.roll a.fd_roll
  g_roll : mg "_law_roll" = some (.ref a.roll)
  F_pick : Fun K "_law_pick" "_law_pick" s__law_pick a.pick a.fd_pick
  g_pick : mg "_law_pick" = some (.ref a.pick)
  F_met : Fun K "_law_met" "_law_met" s__law_met a.met a.fd_met
  g_met : mg "_law_met" = some (.ref a.met)
  F_numbers : Fun K "_law_numbers" "_law_numbers" s__law_numbers a.numbers a.fd_numbers
  g_numbers : mg "_law_numbers" = some (.ref a.numbers)
  F_added : Fun K "_law_added" "_law_added" s__law_added a.added a.fd_added
  g_added : mg "_law_added" = some (.ref a.added)
  F_by_word : Fun K "_law_by_word" "_law_by_word" s__law_by_word a.by_word a.fd_by_word
  g_by_word : mg "_law_by_word" = some (.ref a.by_word)
  F_done : Fun K "_law_done" "_law_done" s__law_done a.done a.fd_done
  g_done : mg "_law_done" = some (.ref a.done)
  F_done_at_once : Fun K "_law_done_at_once" "_law_done_at_once" s__law_done_at_once a.done_at_once a.fd_done_at_once
  g_done_at_once : mg "_law_done_at_once" = some (.ref a.done_at_once)
  F_is : Fun K "_law_is" "_law_is" s__law_is a.is a.fd_is
  g_is : mg "_law_is" = some (.ref a.is)
  F_together : Fun K "_law_together" "_law_together" s__law_together a.together a.fd_together
  g_together : mg "_law_together" = some (.ref a.together)
  F_wrong_right : Fun K "_law_wrong_right" "_law_wrong_right" s__law_wrong_right a.wrong_right a.fd_wrong_right
  g_wrong_right : mg "_law_wrong_right" = some (.ref a.wrong_right)
  F_law : Fun K "law" "law" s_law a.law a.fd_law
  g_law : mg "law" = some (.ref a.law)
  len : mg "len" = none
  isinstance : mg "isinstance" = none
  all : mg "all" = none
  str : mg "str" = none
  int : mg "int" = none
  bool : mg "bool" = none
  tuple : mg "tuple" = none
  dict : mg "dict" = none
  set : mg "set" = none
  sorted : mg "sorted" = none
  list : mg "list" = none
  repr : mg "repr" = none
  abs : mg "abs" = none
  range : mg "range" = none
  min : mg "min" = none
  max : mg "max" = none
  m__HEAD_LENGTH : mg "_HEAD_LENGTH" = some (.int (3) a.tk__HEAD_LENGTH)
  m__INTEGER_BOUND : mg "_INTEGER_BOUND" = some (.int (10 ^ 60) a.tk__INTEGER_BOUND)
  m__FORMS : mg "_FORMS" = some (.ref a.o__FORMS)
  u__FORMS : ∀ H : Hp, SqT K H a.o__FORMS (forms.map V.str)
  cl_Answer : Cls K a.c_Answer
  nF : NoAttr K a.c_Answer "_form"
  nN : NoAttr K a.c_Answer "_numbers"
  nH : NoAttr K a.c_Answer "_heads"
  mk_Answer : Mk K a.c_Answer a.Answer___init__
  g_c_Answer : mg "Answer" = some (.ref a.c_Answer)
  g_c_InvalidAnswer : mg "InvalidAnswer" = some (.ref a.c_InvalidAnswer)
  q_InvalidAnswer : PySem.W.excIn K a.c_InvalidAnswer veT "ValueError.__new__" = true
  kp_InvalidAnswer : PySem.W.keepIn K (.ref a.c_InvalidAnswer) = true
  b_InvalidAnswer : PySem.W.subIn K (.ref a.c_InvalidAnswer) (.type "BaseException") = some true
  ty_InvalidAnswer : PySem.W.typeIn K (.ref a.c_InvalidAnswer) = some (.type "type")
  g_c_InvalidOperation : mg "InvalidOperation" = some (.ref a.c_InvalidOperation)
  q_InvalidOperation : PySem.W.excIn K a.c_InvalidOperation veT "ValueError.__new__" = true
  kp_InvalidOperation : PySem.W.keepIn K (.ref a.c_InvalidOperation) = true
  b_InvalidOperation : PySem.W.subIn K (.ref a.c_InvalidOperation) (.type "BaseException") = some true
  ty_InvalidOperation : PySem.W.typeIn K (.ref a.c_InvalidOperation) = some (.type "type")
  ti1 : PySem.W.findIn K (.ref a.c_Answer) "__class__" = some (some (.builtin "object.__class__"))
  ti2 : PySem.W.specialIn K (.builtin "object.__class__") "__get__" = some (some (.builtin "getset_descriptor.__get__"))
  ti3 : PySem.W.takesIn K (.builtin "object.__class__") = some true
  ti4 : PySem.W.mroIn K a.c_Answer (.type "object") = some true
  kc_tuple : PySem.W.kitOne K (.ref a.c_Answer) (.type "tuple") = some false
  e_InvalidAnswer : ExcC K a.c_InvalidAnswer
  e_InvalidOperation : ExcC K a.c_InvalidOperation
  em_AA : PySem.W.exmOne K (.ref a.c_InvalidAnswer) (.ref a.c_InvalidAnswer) = some true
  em_OO : PySem.W.exmOne K (.ref a.c_InvalidOperation) (.ref a.c_InvalidOperation) = some true
  em_OA : PySem.W.exmOne K (.ref a.c_InvalidOperation) (.ref a.c_InvalidAnswer) = some false
  cdW : a.fd_wrong_right.code = .ref a.k_wrong
  sf_A : PySem.W.selfFirst K a.c_Answer = true
  p_form : PropOf K a.c_Answer "form" a.p_form a.Answer_form
  p_heads : PropOf K a.c_Answer "heads" a.p_heads a.Answer_heads
  m_pairs : Meth K a.c_Answer "pairs" a.Answer_pairs
  ne_A : PySem.W.findIn K (.ref a.c_Answer) "__ne__" = some (some (.builtin "object.__ne__"))
  so_A : PySem.W.subIn K (.ref a.c_Answer) (.type "object") = some true
  ko_NoneType : PySem.W.kitOne K (.type "NoneType") (.ref a.c_Answer) = some false
  sb_NoneType : PySem.W.subIn K (.type "NoneType") (.ref a.c_Answer) = some false
  ko_int : PySem.W.kitOne K (.type "int") (.ref a.c_Answer) = some false
  sb_int : PySem.W.subIn K (.type "int") (.ref a.c_Answer) = some false
  ko_bool : PySem.W.kitOne K (.type "bool") (.ref a.c_Answer) = some false
  sb_bool : PySem.W.subIn K (.type "bool") (.ref a.c_Answer) = some false
  ko_dict : PySem.W.kitOne K (.type "dict") (.ref a.c_Answer) = some false
  sb_dict : PySem.W.subIn K (.type "dict") (.ref a.c_Answer) = some false
  ko_tuple : PySem.W.kitOne K (.type "tuple") (.ref a.c_Answer) = some false
  sb_tuple : PySem.W.subIn K (.type "tuple") (.ref a.c_Answer) = some false
  ko_list : PySem.W.kitOne K (.type "list") (.ref a.c_Answer) = some false
  sb_list : PySem.W.subIn K (.type "list") (.ref a.c_Answer) = some false
  ko_str : PySem.W.kitOne K (.type "str") (.ref a.c_Answer) = some false
  sb_str : PySem.W.subIn K (.type "str") (.ref a.c_Answer) = some false
  m__check_numbers : Meth K a.c_Answer "_check_numbers" a.Answer__check_numbers
  m__check_heads : Meth K a.c_Answer "_check_heads" a.Answer__check_heads
  m__check_other : Meth K a.c_Answer "_check_other" a.Answer__check_other
  m__plus : Meth K a.c_Answer "_plus" a.Answer__plus
  fi__eq__ : PySem.W.findIn K (.ref a.c_Answer) "__eq__" = some (some (.ref a.Answer___eq__))
  fn__eq__ : PySem.W.isFn K (.ref a.Answer___eq__) = true
  fi__add__ : PySem.W.findIn K (.ref a.c_Answer) "__add__" = some (some (.ref a.Answer___add__))
  fn__add__ : PySem.W.isFn K (.ref a.Answer___add__) = true
  fi__sub__ : PySem.W.findIn K (.ref a.c_Answer) "__sub__" = some (some (.ref a.Answer___sub__))
  fn__sub__ : PySem.W.isFn K (.ref a.Answer___sub__) = true
  fi__neg__ : PySem.W.findIn K (.ref a.c_Answer) "__neg__" = some (some (.ref a.Answer___neg__))
  fn__neg__ : PySem.W.isFn K (.ref a.Answer___neg__) = true
  fi__or__ : PySem.W.findIn K (.ref a.c_Answer) "__or__" = some (some (.ref a.Answer___or__))
  fn__or__ : PySem.W.isFn K (.ref a.Answer___or__) = true
  fi__and__ : PySem.W.findIn K (.ref a.c_Answer) "__and__" = some (some (.ref a.Answer___and__))
  fn__and__ : PySem.W.isFn K (.ref a.Answer___and__) = true
  fi__xor__ : PySem.W.findIn K (.ref a.c_Answer) "__xor__" = some (some (.ref a.Answer___xor__))
  fn__xor__ : PySem.W.isFn K (.ref a.Answer___xor__) = true
  fr__add__ : PySem.W.findIn K (.ref a.c_Answer) "__radd__" = some none
  ni__add__ : PySem.W.findIn K (.ref a.c_Answer) "__iadd__" = some none
  fr__sub__ : PySem.W.findIn K (.ref a.c_Answer) "__rsub__" = some none
  ni__sub__ : PySem.W.findIn K (.ref a.c_Answer) "__isub__" = some none
  fr__or__ : PySem.W.findIn K (.ref a.c_Answer) "__ror__" = some none
  ni__or__ : PySem.W.findIn K (.ref a.c_Answer) "__ior__" = some none
  fr__and__ : PySem.W.findIn K (.ref a.c_Answer) "__rand__" = some none
  ni__and__ : PySem.W.findIn K (.ref a.c_Answer) "__iand__" = some none
  fr__xor__ : PySem.W.findIn K (.ref a.c_Answer) "__rxor__" = some none
  ni__xor__ : PySem.W.findIn K (.ref a.c_Answer) "__ixor__" = some none
  m2_A : Ow.mro2 K a.c_Answer = true
section
variable {P : Program} {w : World} {K : PySem.W.Frag} {mg : Str → Option Value} {base : Heap} {a : Ads}
theorem b_is_number (T : Txt K mg a) : Binds K a.fd_is_number ps_is_number [] := T.F_is_number.binds fun _ _ _ _ _ _ us hl => match us, hl with | [_], _ => rfl
theorem b_are_integers (T : Txt K mg a) : Binds K a.fd_are_integers ps_are_integers [] := T.F_are_integers.binds fun _ _ _ _ _ _ us hl => match us, hl with | [_], _ => rfl
theorem b_is_form (T : Txt K mg a) : Binds K a.fd_is_form ps_is_form [] := T.F_is_form.binds fun _ _ _ _ _ _ us hl => match us, hl with | [_], _ => rfl
theorem b_is_head (T : Txt K mg a) : Binds K a.fd_is_head ps_is_head [] := T.F_is_head.binds fun _ _ _ _ _ _ us hl => match us, hl with | [_], _ => rfl
theorem b__are_of_one_length (T : Txt K mg a) : Binds K a.fd__are_of_one_length ps__are_of_one_length [] := T.F__are_of_one_length.binds fun _ _ _ _ _ _ us hl => match us, hl with | [_], _ => rfl
theorem b__is_number_of (T : Txt K mg a) : Binds K a.fd__is_number_of ps__is_number_of [] := T.F__is_number_of.binds fun _ _ _ _ _ _ us hl => match us, hl with | [_, _], _ => rfl
theorem b__are_numbers (T : Txt K mg a) : Binds K a.fd__are_numbers ps__are_numbers [] := T.F__are_numbers.binds fun _ _ _ _ _ _ us hl => match us, hl with | [_, _], _ => rfl
theorem b_Answer___init__ (T : Txt K mg a) : Binds K a.fd_Answer___init__ ps_Answer___init__ [] := by
  obtain ⟨ds, h1, h2⟩ := T.F_Answer___init__.binds1 (ps := ps_Answer___init__) 3 1 (by simp) rfl fun _ _ _ _ _ _ _ us its h1 h2 => match us, h1, its, h2 with | [_, _, _], _, [_], _ => ⟨_, rfl, rfl⟩
  cases h1
  exact h2
theorem bd_Answer___init__ (T : Txt K mg a) : ∃ ds, Vals [V.non] ds ∧ Binds K a.fd_Answer___init__ ps_Answer___init__ ds := T.F_Answer___init__.binds1 (ps := ps_Answer___init__) 2 0 (by simp) rfl fun _ _ _ _ _ _ _ us its h1 h2 => match us, h1, its, h2 with | [_, _], _, [_], _ => ⟨_, rfl, rfl⟩
theorem b_Answer_form (T : Txt K mg a) : Binds K a.fd_Answer_form ps_Answer_form [] := T.F_Answer_form.binds fun _ _ _ _ _ _ us hl => match us, hl with | [_], _ => rfl
theorem b_Answer_heads (T : Txt K mg a) : Binds K a.fd_Answer_heads ps_Answer_heads [] := T.F_Answer_heads.binds fun _ _ _ _ _ _ us hl => match us, hl with | [_], _ => rfl
theorem b_Answer_pairs (T : Txt K mg a) : Binds K a.fd_Answer_pairs ps_Answer_pairs [] := T.F_Answer_pairs.binds fun _ _ _ _ _ _ us hl => match us, hl with | [_], _ => rfl
theorem b_Answer___iter__ (T : Txt K mg a) : Binds K a.fd_Answer___iter__ ps_Answer___iter__ [] := T.F_Answer___iter__.binds fun _ _ _ _ _ _ us hl => match us, hl with | [_], _ => rfl
theorem b_Answer___getitem__ (T : Txt K mg a) : Binds K a.fd_Answer___getitem__ ps_Answer___getitem__ [] := T.F_Answer___getitem__.binds fun _ _ _ _ _ _ us hl => match us, hl with | [_, _], _ => rfl
theorem b_Answer___contains__ (T : Txt K mg a) : Binds K a.fd_Answer___contains__ ps_Answer___contains__ [] := T.F_Answer___contains__.binds fun _ _ _ _ _ _ us hl => match us, hl with | [_, _], _ => rfl
theorem b_Answer___len__ (T : Txt K mg a) : Binds K a.fd_Answer___len__ ps_Answer___len__ [] := T.F_Answer___len__.binds fun _ _ _ _ _ _ us hl => match us, hl with | [_], _ => rfl
theorem b_Answer___bool__ (T : Txt K mg a) : Binds K a.fd_Answer___bool__ ps_Answer___bool__ [] := T.F_Answer___bool__.binds fun _ _ _ _ _ _ us hl => match us, hl with | [_], _ => rfl
theorem b_Answer___eq__ (T : Txt K mg a) : Binds K a.fd_Answer___eq__ ps_Answer___eq__ [] := T.F_Answer___eq__.binds fun _ _ _ _ _ _ us hl => match us, hl with | [_, _], _ => rfl
theorem b_Answer___str__ (T : Txt K mg a) : Binds K a.fd_Answer___str__ ps_Answer___str__ [] := T.F_Answer___str__.binds fun _ _ _ _ _ _ us hl => match us, hl with | [_], _ => rfl
theorem b_Answer__check_numbers (T : Txt K mg a) : Binds K a.fd_Answer__check_numbers ps_Answer__check_numbers [] := T.F_Answer__check_numbers.binds fun _ _ _ _ _ _ us hl => match us, hl with | [_], _ => rfl
theorem b_Answer__check_heads (T : Txt K mg a) : Binds K a.fd_Answer__check_heads ps_Answer__check_heads [] := T.F_Answer__check_heads.binds fun _ _ _ _ _ _ us hl => match us, hl with | [_], _ => rfl
theorem b_Answer__check_other (T : Txt K mg a) : Binds K a.fd_Answer__check_other ps_Answer__check_other [] := T.F_Answer__check_other.binds fun _ _ _ _ _ _ us hl => match us, hl with | [_, _], _ => rfl
theorem b_Answer__plus (T : Txt K mg a) : Binds K a.fd_Answer__plus ps_Answer__plus [] := T.F_Answer__plus.binds fun _ _ _ _ _ _ us hl => match us, hl with | [_, _, _], _ => rfl
theorem b_Answer___add__ (T : Txt K mg a) : Binds K a.fd_Answer___add__ ps_Answer___add__ [] := T.F_Answer___add__.binds fun _ _ _ _ _ _ us hl => match us, hl with | [_, _], _ => rfl
theorem b_Answer___sub__ (T : Txt K mg a) : Binds K a.fd_Answer___sub__ ps_Answer___sub__ [] := T.F_Answer___sub__.binds fun _ _ _ _ _ _ us hl => match us, hl with | [_, _], _ => rfl
theorem b_Answer___neg__ (T : Txt K mg a) : Binds K a.fd_Answer___neg__ ps_Answer___neg__ [] := T.F_Answer___neg__.binds fun _ _ _ _ _ _ us hl => match us, hl with | [_], _ => rfl
theorem b_Answer___or__ (T : Txt K mg a) : Binds K a.fd_Answer___or__ ps_Answer___or__ [] := T.F_Answer___or__.binds fun _ _ _ _ _ _ us hl => match us, hl with | [_, _], _ => rfl
theorem b_Answer___and__ (T : Txt K mg a) : Binds K a.fd_Answer___and__ ps_Answer___and__ [] := T.F_Answer___and__.binds fun _ _ _ _ _ _ us hl => match us, hl with | [_, _], _ => rfl
theorem b_Answer___xor__ (T : Txt K mg a) : Binds K a.fd_Answer___xor__ ps_Answer___xor__ [] := T.F_Answer___xor__.binds fun _ _ _ _ _ _ us hl => match us, hl with | [_, _], _ => rfl
theorem b_dice (T : Txt K mg a) : Binds K a.fd_dice ps__law_dice [] := T.F_dice.binds fun _ _ _ _ _ _ us hl => match us, hl with | [_, _], _ => rfl
theorem b_roll (T : Txt K mg a) : Binds K a.fd_roll ps__law_roll [] := T.F_roll.binds fun _ _ _ _ _ _ us hl => match us, hl with | [_, _], _ => rfl
theorem b_pick (T : Txt K mg a) : Binds K a.fd_pick ps__law_pick [] := T.F_pick.binds fun _ _ _ _ _ _ us hl => match us, hl with | [_, _], _ => rfl
theorem b_met (T : Txt K mg a) : Binds K a.fd_met ps__law_met [] := T.F_met.binds fun _ _ _ _ _ _ us hl => match us, hl with | [_], _ => rfl
theorem b_numbers (T : Txt K mg a) : Binds K a.fd_numbers ps__law_numbers [] := T.F_numbers.binds fun _ _ _ _ _ _ us hl => match us, hl with | [_, _, _], _ => rfl
theorem b_added (T : Txt K mg a) : Binds K a.fd_added ps__law_added [] := T.F_added.binds fun _ _ _ _ _ _ us hl => match us, hl with | [_, _, _], _ => rfl
theorem b_by_word (T : Txt K mg a) : Binds K a.fd_by_word ps__law_by_word [] := T.F_by_word.binds fun _ _ _ _ _ _ us hl => match us, hl with | [_, _, _], _ => rfl
theorem b_done (T : Txt K mg a) : Binds K a.fd_done ps__law_done [] := T.F_done.binds fun _ _ _ _ _ _ us hl => match us, hl with | [_, _, _], _ => rfl
theorem b_done_at_once (T : Txt K mg a) : Binds K a.fd_done_at_once ps__law_done_at_once [] := T.F_done_at_once.binds fun _ _ _ _ _ _ us hl => match us, hl with | [_, _, _], _ => rfl
theorem b_is (T : Txt K mg a) : Binds K a.fd_is ps__law_is [] := T.F_is.binds fun _ _ _ _ _ _ us hl => match us, hl with | [_, _, _], _ => rfl
theorem b_together (T : Txt K mg a) : Binds K a.fd_together ps__law_together [] := T.F_together.binds fun _ _ _ _ _ _ us hl => match us, hl with | [_, _], _ => rfl
theorem b_wrong_right (T : Txt K mg a) : Binds K a.fd_wrong_right ps__law_wrong_right [] := T.F_wrong_right.binds fun _ _ _ _ _ _ us hl => match us, hl with | [_, _, _, _], _ => rfl
theorem b_law (T : Txt K mg a) : Binds K a.fd_law ps_law [] := T.F_law.binds fun _ _ _ _ _ _ us hl => match us, hl with | [_], _ => rfl
theorem all_at {f : PyData → Bool} {ds : List PyData} {i : Nat} {y : PyData} (h : ds[i]? = some y) (q : f y = false) : ds.all f = false := by
  rw [Bool.eq_false_iff]
  intro z
  rw [List.all_eq_true.mp z y (List.mem_of_getElem? h)] at q
  cases q
theorem take_all {f : PyData → Bool} {ds : List PyData} {i : Nat} {y : PyData} (h : ds[i]? = some y) (a : (ds.take i).all f = true) (q : f y = true) : (ds.take (i + 1)).all f = true := by
  rw [List.take_add_one, h, List.all_append, a]
  simp [q]
theorem inV_strs (x : Str) : ∀ ns : List Str, inV (.str x) (ns.map V.str) = decide (x ∈ ns)
  | [] => rfl
  | n :: r => by
    have ih := inV_strs x r
    unfold inV at ih ⊢
    rw [List.map_cons, List.any_cons, ih]
    have e : eqV (V.str n) (V.str x) = decide (n = x) := rfl
    rw [e]
    by_cases h : n = x
    · subst h
      simp
    · have h' : ¬ x = n := fun z => h z.symm
      simp [h, h']
theorem ok_is_number (T : Txt K mg a) : FnOk P w K mg base CX0 1 a.is_number a.fd_is_number ps_is_number (spIs isNumD K) := by
  have F := T.F_is_number
  refine F.ok (k := 0) sc_is_number (fun vs H Q E h => ?_) (fun cdv A outer s H vs Q E hr h => ?_)
  · obtain ⟨v, d, rfl, hd, k⟩ := h
    rfl
  · obtain ⟨v, d, rfl, hd, k⟩ := h
    have hu := hu_of hr
    refine ⟨_, (pss_one (ps_ret (pe_and (pe_callB call_isi (by rfl) T.isinstance (by decide +kernel) (pa_cons (pv 0) (pa_cons (pe_bltn (v := V.ty "int") (u := .type "int") (by rfl) T.int (by decide +kernel) (by rfl)) pa_nil))) (pe_one (pe_not (pe_callB call_isi (by rfl) T.isinstance (by decide +kernel) (pa_cons (pv 0) (pa_cons (pe_bltn (v := V.ty "bool") (u := .type "bool") (by rfl) T.bool (by decide +kernel) (by rfl)) pa_nil)))))))), ?_⟩
    refine ⟨v, rfl, v, .ty "int", _, _, _, rfl, .ty _, dat_ty hd, kit_int d, _, rfl, ?_⟩
    cases e : isIntB d with
    | false =>
      have q : isNumD d = false := by cases d <;> first | rfl | cases e
      rw [q] at k
      exact iteF k
    | true =>
      refine iteT ?_
      refine ⟨v, rfl, v, .ty "bool", _, _, _, rfl, .ty _, dat_ty hd, kit_bool d, _, rfl, ?_⟩
      have q : isNumD d = !isBool d := by cases d <;> first | rfl | cases e
      rw [q] at k
      exact k
theorem ok_are_integers (T : Txt K mg a) : FnOk P w K mg base CX0 1 a.are_integers a.fd_are_integers ps_are_integers (spArg areIntsD K) := by
  have F := T.F_are_integers
  refine F.ok (k := 0) sc_are_integers (fun vs H Q E h => ?_) (fun cdv A outer s H vs Q E hr h => ?_)
  · obtain ⟨v, d, rfl, hd, k⟩ := h
    rfl
  · obtain ⟨v, d, rfl, hd, k⟩ := h
    have hu := hu_of hr
    refine ⟨_, (pss_cons (ps_if (pt_not (pt_val (pe_callB call_isi (by rfl) T.isinstance (by decide +kernel) (pa_cons (pv 0) (pa_cons (pe_bltn (v := V.ty "tuple") (u := .type "tuple") (by rfl) T.tuple (by decide +kernel) (by rfl)) pa_nil))))) (pss_one (ps_ret pe_bl)) pss_nil)
      (pss_cons (ps_for PassesOwn.never rfl (pi_tup (pv 0)) (pg_name (i := 1) sc_are_integers.nd rfl (Or.inl rfl)) (pss_one (ps_if (PW.pt (pw_or (pt_not (pt_val (pe_callB call_isi (by rfl) T.isinstance (by decide +kernel) (pa_cons (pv 1) (pa_cons (pe_bltn (v := V.ty "int") (u := .type "int") (by rfl) T.int (by decide +kernel) (by rfl)) pa_nil))))) (pw_or (pt_val (pe_callB call_isi (by rfl) T.isinstance (by decide +kernel) (pa_cons (pv 1) (pa_cons (pe_bltn (v := V.ty "bool") (u := .type "bool") (by rfl) T.bool (by decide +kernel) (by rfl)) pa_nil)))) (pw_or1 (pt_not (pt_chain op_lt op_lt (pe_un un_neg (pe_glob (v := V.int (10 ^ 60)) (by rfl) T.m__INTEGER_BOUND ⟨_, rfl⟩)) (pv 1) (pe_glob (v := V.int (10 ^ 60)) (by rfl) T.m__INTEGER_BOUND ⟨_, rfl⟩))))))) (pss_one (ps_ret pe_bl)) pss_nil)))
      (pss_one (ps_ret pe_bl)))), ?_⟩
    obtain ⟨t, ht, kt⟩ := hd.tup
    refine ⟨v, rfl, v, .ty "tuple", _, _, _, rfl, .ty _, ht, kt, _, rfl, ?_⟩
    cases e : isTup d with
    | false =>
      have q : areIntsD d = false := by cases d <;> first | rfl | cases e
      rw [q] at k
      exact iteT k
    | true =>
      obtain ⟨p, xs, ds, rfl, rfl, hp, hx⟩ := dat_tup (hd.dat e) e
      have k : Q (.bl (ds.all isIntD)) H := k
      refine iteF ?_
      refine ⟨_, rfl, p, rfl, ⟨_, hp⟩, ?_⟩
      refine for_tup (K := K) (a := p) (xs := xs) (fun i σ H1 => H1 = H ∧ (∃ o, σ = [some (.ref p), o]) ∧ (ds.take i).all isIntD = true) ⟨rfl, ⟨_, rfl⟩, by simp⟩ (fun i σ H1 hi q => by obtain ⟨rfl, _, _⟩ := q; exact hp) ?_ ?_
      · rintro i x σ H1 hi ⟨rfl, ⟨o, rfl⟩, ha⟩
        obtain ⟨y, hy, hdy⟩ := datAll_get hx hi
        refine ⟨x, rfl, x, .ty "int", _, _, _, rfl, .ty _, dat_ty hdy, kit_int y, _, rfl, ?_⟩
        cases e1 : isIntB y with
        | false =>
          have q : isIntD y = false := by cases y <;> first | rfl | cases e1
          rw [all_at hy q] at k
          exact iteT (iteT k)
        | true =>
          refine iteF ?_
          refine ⟨x, rfl, x, .ty "bool", _, _, _, rfl, .ty _, dat_ty hdy, kit_bool y, _, rfl, ?_⟩
          cases e2 : isBool y with
          | true =>
            have q : isIntD y = false := by cases y <;> first | rfl | cases e2
            rw [all_at hy q] at k
            exact iteT (iteT k)
          | false =>
            refine iteF ?_
            obtain ⟨n, rfl, rfl⟩ := dat_int hdy e1 e2
            refine ⟨_, rfl, _, rfl, _, _, rfl, rfl, _, rfl, ?_⟩
            have nxt : isIntD (.int n) = true → H1 = H1 ∧ (∃ o', [some (V.ref p), some (V.int n)] = [some (V.ref p), o']) ∧ (ds.take (i + 1)).all isIntD = true := fun q => ⟨rfl, ⟨_, rfl⟩, take_all hy ha q⟩
            refine iteD (fun c => ?_) (fun c => ?_)
            · have c : -B60 < n := c
              refine ⟨_, _, rfl, rfl, _, rfl, ?_⟩
              refine iteB (fun c2 => ?_) (fun c2 => ?_)
              · have c2 : (!decide (n < B60)) = true := c2
                have q : isIntD (.int n) = false := by
                  show (decide (-B60 < n) && decide (n < B60)) = false
                  rw [Bool.not_eq_true'] at c2
                  rw [c2, Bool.and_false]
                rw [all_at hy q] at k
                exact k
              · have c2 : (!decide (n < B60)) = false := c2
                refine nxt ?_
                show (decide (-B60 < n) && decide (n < B60)) = true
                rw [Bool.not_eq_false'] at c2
                rw [c2, decide_eq_true c]
                rfl
            · have c : ¬ -B60 < n := c
              have q : isIntD (.int n) = false := by
                show (decide (-B60 < n) && decide (n < B60)) = false
                rw [decide_eq_false c, Bool.false_and]
              rw [all_at hy q] at k
              exact ⟨_, rfl, iteT k⟩
      · rintro σ H1 ⟨rfl, _, ha⟩
        rw [hx.len, List.take_of_length_le (Nat.le_refl _)] at ha
        rw [ha] at k
        exact k
theorem ok_is_form (T : Txt K mg a) : FnOk P w K mg base CX0 1 a.is_form a.fd_is_form ps_is_form (spIs isFormD K) := by
  have F := T.F_is_form
  refine F.ok (k := 0) sc_is_form (fun vs H Q E h => ?_) (fun cdv A outer s H vs Q E hr h => ?_)
  · obtain ⟨v, d, rfl, hd, k⟩ := h
    rfl
  · obtain ⟨v, d, rfl, hd, k⟩ := h
    have hu := hu_of hr
    refine ⟨_, (pss_one (ps_ret (pe_and (pe_callB call_isi (by rfl) T.isinstance (by decide +kernel) (pa_cons (pv 0) (pa_cons (pe_bltn (v := V.ty "str") (u := .type "str") (by rfl) T.str (by decide +kernel) (by rfl)) pa_nil))) (pe_one (pe_cmpR op_in_seq (pv 0) (pe_glob (v := V.ref a.o__FORMS) (by rfl) T.m__FORMS (by rfl)) (by rfl)))))), ?_⟩
    refine ⟨v, rfl, v, .ty "str", _, _, _, rfl, .ty _, dat_ty hd, kit_str d, _, rfl, ?_⟩
    cases e : isStr d with
    | false =>
      have q : isFormD d = false := by cases d <;> first | rfl | cases e
      rw [q] at k
      exact iteF k
    | true =>
      obtain ⟨z, rfl, rfl⟩ := dat_str hd e
      refine iteT ?_
      refine ⟨_, rfl, a.o__FORMS, _, rfl, .inr (T.u__FORMS H), rfl, by decide, ?_⟩
      rw [show inV (.str z) (forms.map V.str) = decide (z ∈ forms) from inV_strs z forms]
      exact k
theorem ok_is_head (T : Txt K mg a) : FnOk P w K mg base CX0 2 a.is_head a.fd_is_head ps_is_head (spArg isHeadD K) := by
  have F := T.F_is_head
  refine F.ok (k := 1) sc_is_head (fun vs H Q E h => ?_) (fun cdv A outer s H vs Q E hr h => ?_)
  · obtain ⟨v, d, rfl, hd, k⟩ := h
    rfl
  · obtain ⟨v, d, rfl, hd, k⟩ := h
    have hu := hu_of hr
    refine ⟨_, (pss_one (ps_ret (pe_and (pe_call (ok_are_integers T) (hr.mono (by decide)) (by rfl) T.g_are_integers T.F_are_integers.kp (b_are_integers T) .nil pass0 (pa_cons (pv 0) pa_nil)) (pe_one (pe_cmpR op_le (pe_callB call_len (by rfl) T.len (by decide +kernel) (pa_cons (pv 0) pa_nil)) (pe_glob (v := V.int (3)) (by rfl) T.m__HEAD_LENGTH ⟨_, rfl⟩) (nomark _)))))), ?_⟩
    refine ⟨v, rfl, v, d, rfl, hd, _, rfl, ?_⟩
    cases e : areIntsD d with
    | false =>
      have q : isHeadD d = false := by
        unfold isHeadD
        rw [e, Bool.false_and]
      rw [q] at k
      exact iteF k
    | true =>
      refine iteT ?_
      obtain ⟨p, xs, ds, rfl, rfl, hp, hx⟩ := dat_tup (hd.dat (by cases d <;> first | rfl | cases e)) (by cases d <;> first | rfl | cases e)
      have k : Q (.bl (areIntsD (.tuple ds) && decide (ds.length ≤ 3))) H := k
      rw [e, Bool.true_and] at k
      refine ⟨_, rfl, _, _, rfl, .inr ⟨_, hp, rfl⟩, _, _, rfl, rfl, ?_⟩
      rw [hx.len]
      rw [show decide (ds.length ≤ 3) = decide ((ds.length : Int) ≤ 3) from decide_eq_decide.mpr (by omega)] at k
      exact k
/-- whether all keys have one length -/
def oneLen (kvs : List (List Key × V)) : Bool := decide ((SL.dist (kvs.map fun p => (p.1.length : Int))).length ≤ 1)
def spOne : Sp := fun vs H Q _ => ∃ (p : Addr) (kvs : List (List Key × V)), vs = [.ref p] ∧ H p = some (.dT kvs) ∧ kvs.length ≤ 1000 ∧ ∀ H', Same H H' → Q (.bl (oneLen kvs)) H'
theorem same_lock {H : Hp} {p D : Addr} {kvs : List (List Key × V)} {u o : HO} (hp : H p = some (.dT kvs)) (hD : H D = none) : Same H (upd (upd (upd H p u) D o) p (.dT kvs)) := fun b x e => by
  by_cases hb : b = p
  · subst hb
    rw [upd_same]
    exact hp.symm.trans e
  · rw [upd_ne hb, upd_ne (ne_of_none e hD), upd_ne hb]
    exact e
theorem ok__are_of_one_length (T : Txt K mg a) : FnOk P w K mg base CX0 1 a._are_of_one_length a.fd__are_of_one_length ps__are_of_one_length spOne := by
  have F := T.F__are_of_one_length
  refine F.ok (k := 0) sc__are_of_one_length (fun vs H Q E h => ?_) (fun cdv A outer s H vs Q E hr h => ?_)
  · obtain ⟨p, kvs, rfl, hp, hl, k⟩ := h
    rfl
  · obtain ⟨p, kvs, rfl, hp, hl, k⟩ := h
    have hu := hu_of hr
    refine ⟨_, (pss_one (ps_ret (pe_cmpR op_le (SL.pe_lenSetD (by rfl) T.len (by rfl) T.set (pe_lock (pe_lc (own := [("head", 1)]) rfl sc__are_of_one_length.nd (pi_keys (pv 0)) (blkOk_by (N := nm__are_of_one_length) (sc := defScope s__are_of_one_length) (by decide +kernel)) (fun _ _ _ _ _ => (pg_name (i := 1) sc__are_of_one_length.nd rfl (Or.inl rfl))) (fun _ _ _ _ _ => pts_nil) (fun _ _ _ _ _ => (pe_callB (id := "len") (r := rLenR K) call_len (by rfl) T.len (by decide +kernel) (pa_cons (pv 1) pa_nil)))))) pe_int (nomark _)))), ?_⟩
    refine ⟨p, _, hp, trivial, fun od => ?_⟩
    refine ⟨_, rfl, p, od, rfl, .inr ⟨kvs, upd_same, fun D hD => ?_⟩⟩
    refine lc_it (walk_keysT (d := p) (o := od) (kvs := kvs)) (fun i H1 => H1 = upd (upd H p (.frz od (.dT kvs))) D (.lst ((kvs.take i).map fun q => V.int (q.1.length : Nat)))) rfl ?_ ?_ ?_
    · rintro i H1 hi rfl
      rw [upd_ne (ne_of_none upd_same hD)]
      exact upd_same
    · rintro i x H1 H2 hi rfl ⟨rfl, kk, v, q, hk, rfl, hq⟩
      refine ⟨rfl, ?_⟩
      dsimp only [tYes]
      rw [if_pos rfl]
      refine ⟨_, rfl, _, _, rfl, .inr ⟨_, .inl (.inl hq), rfl⟩, _, upd_same, ?_, ?_⟩
      · rw [List.length_map, List.length_take, sizeLine_eq]
        omega
      · rw [upd_upd, List.take_add_one, hk, List.map_append, List.length_map]
        rfl
    · rintro H1 rfl
      rw [List.take_length]
      have nD : p ≠ D := ne_of_none upd_same hD
      have hD0 : H D = none := by
        rw [upd_ne (Ne.symm nD)] at hD
        exact hD
      refine ⟨by rw [upd_ne nD]; exact upd_same, D, kvs.map fun q => ((q.1.length : Nat) : Int), rfl, ?_, ?_, ?_⟩
      · refine .inl (.inl ?_)
        rw [upd_ne (Ne.symm nD), upd_same, List.map_map]
        rfl
      · rw [List.length_map]
        omega
      · refine ⟨_, _, rfl, rfl, ?_⟩
        have e1 : oneLen kvs = decide (((SL.dist (kvs.map fun q => ((q.1.length : Nat) : Int))).length : Int) ≤ 1) := decide_eq_decide.mpr (by omega)
        rw [e1] at k
        exact k _ (same_lock hp hD0)
/-- what the number of a head may be -/
def numOk (z : Str) : PyData → Bool
  | .int i => if z = "distinct" then decide (i = 1) else decide (i ≠ 0)
  | _ => false
def spNumOf (K : PySem.W.Frag) : Sp := fun vs H Q _ => ∃ z v d, vs = [.str z, v] ∧ Dq K H v d ∧ Q (.bl (numOk z d)) H
theorem numOk_not {z : Str} {d : PyData} (e : isNumD d = false) : numOk z d = false := by cases d <;> first | rfl | cases e
theorem dat_num {K : PySem.W.Frag} {H : Hp} {v : V} {d : PyData} (h : Dq K H v d) (e : isNumD d = true) : ∃ i, v = .int i ∧ d = .int i := by
  cases h <;> first | exact ⟨_, rfl, rfl⟩ | exact Bool.noConfusion (show false = true from e)
theorem ok__is_number_of (T : Txt K mg a) : FnOk P w K mg base CX0 2 a._is_number_of a.fd__is_number_of ps__is_number_of (spNumOf K) := by
  have F := T.F__is_number_of
  refine F.ok (k := 1) sc__is_number_of (fun vs H Q E h => ?_) (fun cdv A outer s H vs Q E hr h => ?_)
  · obtain ⟨z, v, d, rfl, hd, k⟩ := h
    rfl
  · obtain ⟨z, v, d, rfl, hd, k⟩ := h
    have hu := hu_of hr
    refine ⟨_, (pss_cons (ps_if (pt_cmpR op_eq (pv 0) pe_str (nomark _)) (pss_one (ps_ret (pe_and (pe_call (ok_is_number T) (hr.mono (by decide)) (by rfl) T.g_is_number T.F_is_number.kp (b_is_number T) .nil pass0 (pa_cons (pv 1) pa_nil)) (pe_one (pe_cmpR op_eq (pv 1) pe_int (nomark _)))))) pss_nil)
      (pss_one (ps_ret (pe_and (pe_call (ok_is_number T) (hr.mono (by decide)) (by rfl) T.g_is_number T.F_is_number.kp (b_is_number T) .nil pass0 (pa_cons (pv 1) pa_nil)) (pe_one (pe_cmpR op_ne (pv 1) pe_int (nomark _))))))), ?_⟩
    refine ⟨_, rfl, rfl, _, rfl, ?_⟩
    refine iteD (fun c => ?_) (fun c => ?_)
    · have c : z = "distinct" := V.str.inj c
      refine ⟨v, rfl, v, d, rfl, hd, _, rfl, ?_⟩
      cases e : isNumD d with
      | false =>
        rw [numOk_not e] at k
        exact iteF k
      | true =>
        obtain ⟨i, rfl, rfl⟩ := dat_num hd e
        refine iteT ?_
        have k : Q (.bl (if z = "distinct" then decide (i = 1) else decide (i ≠ 0))) H := k
        rw [if_pos c] at k
        refine ⟨_, rfl, rfl, ?_⟩
        rw [show decide (i = 1) = decide (V.int i = V.int 1) from decide_eq_decide.mpr ⟨fun q => by rw [q], fun q => V.int.inj q⟩] at k
        exact k
    · have c : ¬ z = "distinct" := fun q => c (by rw [q])
      refine ⟨v, rfl, v, d, rfl, hd, _, rfl, ?_⟩
      cases e : isNumD d with
      | false =>
        rw [numOk_not e] at k
        exact iteF k
      | true =>
        obtain ⟨i, rfl, rfl⟩ := dat_num hd e
        refine iteT ?_
        have k : Q (.bl (if z = "distinct" then decide (i = 1) else decide (i ≠ 0))) H := k
        rw [if_neg c] at k
        refine ⟨_, rfl, rfl, ?_⟩
        rw [show decide (i ≠ 0) = !decide (V.int i = V.int 0) from by
          rw [← decide_not]
          exact decide_eq_decide.mpr ⟨fun q z => q (V.int.inj z), fun q z => q (by rw [z])⟩] at k
        exact k
theorem kD_nodict : ∀ k : List Key, PyData.hasDictAll (k.map kD) = false
  | [] => rfl
  | .inl _ :: r => by
    rw [List.map_cons]
    unfold PyData.hasDictAll
    rw [kD_nodict r]
    rfl
  | .inr _ :: r => by
    rw [List.map_cons]
    unfold PyData.hasDictAll
    rw [kD_nodict r]
    rfl
theorem datAll_key {K : PySem.W.Frag} {H : Hp} : ∀ k : List Key, DatAll K H (k.map kV) (k.map kD)
  | [] => .nil
  | .inl i :: r => .cons (.int i) (datAll_key r)
  | .inr x :: r => .cons (.str x) (datAll_key r)
/-- a tuple of ints and texts, as data -/
theorem dat_key {K : PySem.W.Frag} {H : Hp} {q : Addr} {k : List Key} (h : H q = some (.tup (k.map kV))) : Dat K H (.ref q) (.tuple (k.map kD)) := .tup (.inl (.inl h)) (datAll_key k) (kD_nodict k)
/-- whether a key is a head -/
def headK (k : List Key) : Bool := isHeadD (.tuple (k.map kD))
/-- a dict's pairs, each value with what it is -/
abbrev KD := List (List Key × V × PyData)
def kvsOf (L : KD) : List (List Key × V) := L.map fun e => (e.1, e.2.1)
def okNums (z : Str) (L : KD) : Bool := L.all (fun e => headK e.1) && (oneLen (kvsOf L) && L.all fun e => numOk z e.2.2)
/-- what may be passed as numbers, and whether they are such for the form z -/
def NumV (K : PySem.W.Frag) (H : Hp) (z : Str) (v : V) (r : Bool) : Prop := (∃ d, Dq K H v d ∧ isDict d = false ∧ r = false) ∨
  (∃ (p : Addr) (L : KD), v = .ref p ∧ H p = some (.dT (kvsOf L)) ∧ (∀ H', (∀ b o, b ≠ p → H b = some o → H' b = some o) → ∀ e ∈ L, Dq K H' e.2.1 e.2.2) ∧ (L.map (·.1)).Nodup ∧ L.length ≤ 1000 ∧ r = okNums z L) ∨
  ∃ (p : Addr) (ks : List V) (ds : List PyData), v = .ref p ∧ H p = some (Mx.MixO p ks) ∧ (∀ H', (∀ b o, b ≠ p → H b = some o → H' b = some o) → DqAll K H' ks ds) ∧ ds.all isHeadD = false ∧ ks.length ≤ 1000 ∧ r = false
def spNums (K : PySem.W.Frag) : Sp := fun vs H Q _ => ∃ (z : Str) (v : V) (r : Bool), vs = [.str z, v] ∧ NumV K H z v r ∧ ∀ H', Same H H' → Q (.bl r) H'
theorem ok__are_numbers (T : Txt K mg a) : FnOk P w K mg base CX0 3 a._are_numbers a.fd__are_numbers ps__are_numbers (spNums K) := by
  have F := T.F__are_numbers
  refine F.ok (k := 2) sc__are_numbers (fun vs H Q E h => ?_) (fun cdv A outer s H vs Q E hr h => ?_)
  · obtain ⟨z, v, r, rfl, h, k⟩ := h
    rfl
  · obtain ⟨z, v, r, rfl, h, k⟩ := h
    have hu := hu_of hr
    refine ⟨_, (pss_cons (ps_if (PW.pt (pw_or (pt_not (pt_val (pe_callB Mx.call_isiZ (by rfl) T.isinstance (by decide +kernel) (pa_cons (pv 1) (pa_cons (pe_bltn (v := V.ty "dict") (u := .type "dict") (by rfl) T.dict (by decide +kernel) (by rfl)) pa_nil))))) (pw_or1 (pt_not (pt_val (pe_callB (cr_all rfl) (by rfl) T.all (by decide +kernel) (pa_cons (pe_lock (pe_lc (own := [("head", 2)]) rfl sc__are_numbers.nd (Mx.pi_keysX (pv 1)) (blkOk_by (N := nm__are_numbers) (sc := defScope s__are_numbers) (by decide +kernel)) (fun _ _ _ _ _ => (pg_name (i := 2) sc__are_numbers.nd rfl (Or.inl rfl))) (fun _ _ _ _ _ => pts_nil) (fun _ _ _ _ _ => (pe_call (ok_is_head T) (hr.mono (by decide)) (by rfl) T.g_is_head T.F_is_head.kp (b_is_head T) .nil pass0 (pa_cons (pv 2) pa_nil))))) pa_nil))))))) (pss_one (ps_ret pe_bl)) pss_nil)
      (pss_one (ps_ret (pe_and (pe_call (ok__are_of_one_length T) (hr.mono (by decide)) (by rfl) T.g__are_of_one_length T.F__are_of_one_length.kp (b__are_of_one_length T) .nil pass0 (pa_cons (pv 1) pa_nil)) (pe_one (pe_callB (cr_all rfl) (by rfl) T.all (by decide +kernel) (pa_cons (pe_lock (pe_lc (own := [("head", 2)]) rfl sc__are_numbers.nd (Mx.pi_keysX (pv 1)) (blkOk_by (N := nm__are_numbers) (sc := defScope s__are_numbers) (by decide +kernel)) (fun _ _ _ _ _ => (pg_name (i := 2) sc__are_numbers.nd rfl (Or.inl rfl))) (fun _ _ _ _ _ => pts_nil) (fun _ _ _ _ _ => (pe_call (ok__is_number_of T) (hr.mono (by decide)) (by rfl) T.g__is_number_of T.F__is_number_of.kp (b__is_number_of T) .nil pass0 (pa_cons (pv 0) (pa_cons (pe_dget hu (pv 1) (pv 2) (fun _ _ => rfl)) pa_nil)))))) pa_nil))))))), ?_⟩
    rcases h with ⟨d, hd, e, rfl⟩ | ⟨p, L, rfl, hp, hL, nd, hl, rfl⟩ | ⟨p, ks, ds, rfl, hp, hDs, e, hl, rfl⟩
    · refine ⟨v, rfl, .inl ⟨v, .ty "dict", _, _, _, rfl, .ty _, dat_ty hd, kit_dict d, _, rfl, ?_⟩⟩
      rw [e]
      exact iteT (iteT (k _ fun _ _ q => q))
    · refine ⟨_, rfl, .inl ⟨_, .ty "dict", .type "dict", _, _, rfl, .ty _, .base (.dT hp), kit_ty (a := "dict") (b := "dict") (r := true) (by decide +kernel), _, rfl, ?_⟩⟩
      refine iteF ?_
      refine ⟨p, _, hp, trivial, fun od => ?_⟩
      refine ⟨_, rfl, p, od, rfl, .inl ⟨_, upd_same, fun D hD => ?_⟩⟩
      refine lc_it (walk_keysT (d := p) (o := od) (kvs := kvsOf L)) (fun i H1 => H1 = upd (upd H p (.frz od (.dT (kvsOf L)))) D (.lst (((kvsOf L).take i).map fun q => V.bl (headK q.1)))) rfl ?_ ?_ ?_
      · rintro i H1 hi rfl
        rw [upd_ne (ne_of_none upd_same hD)]
        exact upd_same
      · rintro i x H1 H2 hi rfl ⟨rfl, kk, v, q, hk, rfl, hq⟩
        refine ⟨rfl, ?_⟩
        dsimp only [tYes]
        rw [if_pos rfl]
        refine ⟨_, rfl, _, _, rfl, .inl (dat_key hq).q, _, upd_same, ?_, ?_⟩
        · rw [List.length_map, List.length_take, sizeLine_eq]
          have : (kvsOf L).length = L.length := List.length_map _
          omega
        · rw [upd_upd, List.take_add_one, hk, List.map_append]
          rfl
      · rintro H1 rfl
        rw [List.take_length]
        have nD : p ≠ D := ne_of_none upd_same hD
        have hD0 : H D = none := by
          rw [upd_ne (Ne.symm nD)] at hD
          exact hD
        have S1 := same_lock (u := .frz od (.dT (kvsOf L))) (o := .lst ((kvsOf L).map fun q => V.bl (headK q.1))) hp hD0
        refine ⟨by rw [upd_ne nD]; exact upd_same, D, (kvsOf L).map fun q => headK q.1, rfl, .inl (.inl ?_), _, rfl, ?_⟩
        · rw [upd_ne (Ne.symm nD), upd_same, List.map_map]
          rfl
        have ea : ((kvsOf L).map fun q => headK q.1).all id = L.all fun e => headK e.1 := by
          unfold kvsOf
          rw [List.map_map, List.all_map]
          rfl
        rw [ea]
        cases hh : L.all fun e => headK e.1 with
        | false =>
          have k' := k _ S1
          unfold okNums at k'
          rw [hh, Bool.false_and] at k'
          exact iteT k'
        | true =>
          refine iteF ?_
          generalize upd (upd (upd H p (.frz od (.dT (kvsOf L)))) D (.lst ((kvsOf L).map fun q => V.bl (headK q.1)))) p (.dT (kvsOf L)) = H2 at S1 ⊢
          have hp2 := S1 _ _ hp
          refine ⟨_, rfl, p, kvsOf L, rfl, hp2, by rw [show (kvsOf L).length = L.length from List.length_map _]; exact hl, fun H3 S3 => ⟨_, rfl, ?_⟩⟩
          cases ho : oneLen (kvsOf L) with
          | false =>
            have k' := k _ (S1.trans S3)
            unfold okNums at k'
            rw [hh, ho] at k'
            exact iteF k'
          | true =>
            refine iteT ?_
            have hp3 := S3 _ _ hp2
            refine ⟨p, _, hp3, trivial, fun od3 => ?_⟩
            refine ⟨_, rfl, p, od3, rfl, .inl ⟨_, upd_same, fun D3 hD3 => ?_⟩⟩
            have lk : (kvsOf L).length = L.length := List.length_map _
            have nD3 : p ≠ D3 := ne_of_none upd_same hD3
            have hD30 : H3 D3 = none := by
              rw [upd_ne (Ne.symm nD3)] at hD3
              exact hD3
            refine lc_it (walk_keysT (d := p) (o := od3) (kvs := kvsOf L)) (fun i H1 => H1 = upd (upd H3 p (.frz od3 (.dT (kvsOf L)))) D3 (.lst ((L.take i).map fun q => V.bl (numOk z q.2.2)))) rfl ?_ ?_ ?_
            · rintro i H1 hi rfl
              rw [upd_ne (ne_of_none upd_same hD3)]
              exact upd_same
            · rintro i x H1 H4 hi rfl ⟨rfl, kk, v, q, hk, rfl, hq⟩
              refine ⟨rfl, ?_⟩
              dsimp only [tYes]
              rw [if_pos rfl]
              have hk2 := hk
              unfold kvsOf at hk2
              rw [List.getElem?_map] at hk2
              obtain ⟨e, he, ee⟩ := Option.map_eq_some_iff.mp hk2
              have q1 : e.1 = kk := congrArg Prod.fst ee
              have q2 : e.2.1 = v := congrArg Prod.snd ee
              have hv : valV (kvsOf L) kk = some v := val_nodup (by unfold kvsOf; rw [List.map_map]; exact nd) (kk, v) (List.mem_of_getElem? hk)
              refine ⟨_, rfl, _, rfl, _, rfl, p, v, rfl, .inr ⟨kvsOf L, kk, q, .inr ⟨od3, ?_⟩, rfl, hq, hv.symm⟩, z, v, e.2.2, rfl, ?_, _, upd_same, ?_, ?_⟩
              · rw [upd_ne nD3]
                exact upd_same
              · rw [← q2]
                refine hL _ (fun b o hb eb => ?_) e (List.mem_of_getElem? he)
                have eb3 := (S1.trans S3) _ _ eb
                rw [upd_ne (ne_of_none eb3 hD30), upd_ne hb]
                exact eb3
              · rw [List.length_map, List.length_take, sizeLine_eq]
                omega
              · rw [upd_upd, List.take_add_one, he, List.map_append]
                rfl
            · rintro H1 rfl
              rw [lk, List.take_length]
              refine ⟨by rw [upd_ne nD3]; exact upd_same, D3, L.map fun q => numOk z q.2.2, rfl, .inl (.inl ?_), ?_⟩
              · rw [upd_ne (Ne.symm nD3), upd_same, List.map_map]
                rfl
              have k' := k _ ((S1.trans S3).trans (same_lock (u := .frz od3 (.dT (kvsOf L))) (o := .lst (L.map fun q => V.bl (numOk z q.2.2))) hp3 hD30))
              unfold okNums at k'
              rw [hh, ho, Bool.true_and, Bool.true_and] at k'
              rw [List.all_map]
              exact k'
    · refine ⟨_, rfl, .inr ⟨p, ks, .ty "dict", .type "dict", true, rfl, hp, .ty _, kit_ty (a := "dict") (b := "dict") (r := true) (by decide +kernel), _, rfl, ?_⟩⟩
      refine iteF ?_
      refine ⟨p, _, hp, trivial, fun od => ?_⟩
      refine ⟨_, rfl, p, od, rfl, .inr ⟨_, upd_same, fun D hD => ?_⟩⟩
      have nD : p ≠ D := ne_of_none upd_same hD
      have hD0 : H D = none := by
        rw [upd_ne (Ne.symm nD)] at hD
        exact hD
      have ex : ∀ o', ∀ b o, b ≠ p → H b = some o → upd (upd H p (.frz od (Mx.MixO p ks))) D o' b = some o := fun o' b o hb e => by
        rw [upd_ne (ne_of_none e hD0), upd_ne hb]
        exact e
      have lds : ks.length = ds.length := (hDs H fun _ _ _ e => e).len
      refine lc_it (Mx.walk_keysX (d := p) (o := od) (ks := ks)) (fun i H1 => H1 = upd (upd H p (.frz od (Mx.MixO p ks))) D (.lst ((ds.take i).map fun q => V.bl (isHeadD q)))) rfl ?_ ?_ ?_
      · rintro i H1 hi rfl
        rw [upd_ne nD]
        exact upd_same
      · rintro i x H1 H2 hi rfl ⟨rfl, hk⟩
        obtain ⟨y, hy, hdy⟩ := datAll_get (hDs _ (ex _)) hk
        refine ⟨rfl, ?_⟩
        dsimp only [tYes]
        rw [if_pos rfl]
        refine ⟨_, rfl, _, _, rfl, .inl hdy, _, upd_same, ?_, ?_⟩
        · rw [List.length_map, List.length_take, sizeLine_eq]
          omega
        · rw [upd_upd, List.take_add_one, hy, List.map_append]
          rfl
      · rintro H1 rfl
        rw [lds, List.take_length]
        refine ⟨by rw [upd_ne nD]; exact upd_same, D, ds.map isHeadD, rfl, .inl (.inl ?_), _, rfl, ?_⟩
        · rw [upd_ne (Ne.symm nD), upd_same, List.map_map]
          rfl
        rw [List.all_map, show (id ∘ isHeadD) = isHeadD from rfl, e]
        refine iteT (k _ fun b o eb => ?_)
        by_cases hb : b = p
        · subst hb
          rw [upd_same]
          exact hp.symm.trans eb
        · rw [upd_ne hb]
          exact ex _ b o hb eb
abbrev Nums := List (List Int × Int)
def keyN (h : List Int) : List Key := h.map Sum.inl
def kvsN (L : Nums) : List (List Key × V) := L.map fun p => (keyN p.1, V.int p.2)
def kdN (L : Nums) : KD := L.map fun p => (keyN p.1, V.int p.2, PyData.int p.2)
theorem kvsOf_kdN (L : Nums) : kvsOf (kdN L) = kvsN L := by
  unfold kvsOf kdN kvsN
  rw [List.map_map]
  rfl
theorem keyN_inj : ∀ {a b : List Int}, keyN a = keyN b → a = b := fun {a b} h => by
  unfold keyN at h
  exact (List.map_inj_right fun x y z => Sum.inl.inj z).mp h
theorem keyN_kV (h : List Int) : (keyN h).map kV = h.map V.int := by
  unfold keyN
  rw [List.map_map]
  rfl
/-- in the order of sorted -/
def SortOf (L Ls : Nums) : Prop := Ls.Perm L ∧ (Ls.map (·.1)).Pairwise fun a b => Dh.kLt (keyN b) (keyN a) = false
/-- the attributes of an answer -/
def flA (f : Str) (n h : Addr) : List (Str × V) := putF "_heads" (.ref h) (putF "_numbers" (.ref n) (putF "_form" (.str f) []))
theorem flA_eq (f : Str) (n h : Addr) : flA f n h = ([("_form", V.str f), ("_numbers", V.ref n), ("_heads", V.ref h)] : List (Str × V)) := by
  have k1 : ¬ (("_form" : Str) = "_numbers") := by decide +kernel
  have k2 : ¬ (("_form" : Str) = "_heads") := by decide +kernel
  have k3 : ¬ (("_numbers" : Str) = "_heads") := by decide +kernel
  have e1 : putF "_numbers" (V.ref n) (putF "_form" (V.str f) []) = ([("_form", V.str f), ("_numbers", V.ref n)] : List (Str × V)) := by
    show (if ("_form" : Str) = "_numbers" then [(("_form" : Str), V.ref n)] else (("_form" : Str), V.str f) :: putF "_numbers" (V.ref n) []) = _
    rw [if_neg k1]
    rfl
  unfold flA
  rw [e1]
  show (if ("_form" : Str) = "_heads" then _ else (("_form" : Str), V.str f) :: (if ("_numbers" : Str) = "_heads" then _ else (("_numbers" : Str), V.ref n) :: putF "_heads" (V.ref h) [])) = _
  rw [if_neg k2, if_neg k3]
  rfl
theorem flA_form (f : Str) (n h : Addr) : (flA f n h).lookup ("_form" : Str) = some (.str f) := by
  rw [flA_eq]
  rfl
theorem flA_num (f : Str) (n h : Addr) : (flA f n h).lookup ("_numbers" : Str) = some (.ref n) := by
  rw [flA_eq]
  rfl
theorem flA_heads (f : Str) (n h : Addr) : (flA f n h).lookup ("_heads" : Str) = some (.ref h) := by
  rw [flA_eq]
  rfl
/-- an answer stands at x -/
def AnsAt (C : Addr) (H : Hp) (x : Addr) (f : Str) (L : Nums) : Prop := ∃ (dx n h : Addr) (bs : List Addr), H x = some (.ins C dx (flA f n h)) ∧ H n = some (.dT (kvsN L)) ∧ H h = some (.tup (bs.map V.ref)) ∧ IsKeys H (kvsN L) bs
/-- .. its dict at n -/
def AnsN (C : Addr) (H : Hp) (x : Addr) (f : Str) (L : Nums) (n : Addr) : Prop := ∃ (dx h : Addr) (bs : List Addr), H x = some (.ins C dx (flA f n h)) ∧ H n = some (.dT (kvsN L)) ∧ H h = some (.tup (bs.map V.ref)) ∧ IsKeys H (kvsN L) bs
theorem AnsN.at {C : Addr} {H : Hp} {x : Addr} {f : Str} {L : Nums} {n : Addr} (h : AnsN C H x f L n) : AnsAt C H x f L := by
  obtain ⟨dx, hh, bs, h1, h2, h3, h4⟩ := h
  exact ⟨dx, n, hh, bs, h1, h2, h3, h4⟩
/-- numbers of a form, not too many -/
structure OkN (f : Str) (L : Nums) : Prop where
  form : f ∈ forms
  ok : okNums f (kdN L) = true
  nd : (L.map (·.1)).Nodup
  len : L.length ≤ 1000
  wide : 2 ≤ L.length → ∀ p ∈ L, p.1 ≠ []
def spAns (K : PySem.W.Frag) (C CI : Addr) : Sp := fun vs H Q E => ∃ (x dx : Addr) (v1 v2 : V), vs = [.ref x, v1, v2] ∧ H x = some (.ins C dx []) ∧
  ((∃ f L, v1 = .str f ∧ OkN f L ∧ ((v2 = .non ∧ L = []) ∨ ∃ p, v2 = .ref p ∧ p ≠ x ∧ H p = some (.dT (kvsN L))) ∧ ∀ Ls n H', SortOf L Ls → AnsN C H' x f Ls n → H n = none → (∀ b o, b ≠ x → H b = some o → H' b = some o) → Q .non H') ∨
   (∃ d, Dq K H v1 d ∧ isFormD d = false ∧ E (.ref CI) none H) ∨
   ∃ f, v1 = .str f ∧ f ∈ forms ∧ v2 ≠ .non ∧ NumV K H f v2 false ∧ ∀ H', Same H H' → E (.ref CI) none H')
theorem nd_kvsN {L : Nums} (h : (L.map (·.1)).Nodup) : ((kvsN L).map (·.1)).Nodup := by
  unfold kvsN
  rw [List.map_map]
  have e : ((fun x : List Key × V => x.1) ∘ fun p : List Int × Int => (keyN p.1, V.int p.2)) = keyN ∘ (·.1) := rfl
  rw [e, ← List.map_map]
  exact List.Pairwise.map keyN (fun a b ne e => ne (keyN_inj e)) h
theorem len_kvsN (L : Nums) : (kvsN L).length = L.length := List.length_map _
theorem val_kvsN {L : Nums} (h : (L.map (·.1)).Nodup) {p : List Int × Int} (hp : p ∈ L) : valV (kvsN L) (keyN p.1) = some (.int p.2) :=
  val_nodup (nd_kvsN h) (keyN p.1, V.int p.2) (List.mem_map.mpr ⟨p, hp, rfl⟩)
theorem put_take {L : Nums} (h : (L.map (·.1)).Nodup) {i : Nat} {p : List Int × Int} (hp : L[i]? = some p) : putK (kvsN (L.take i)) (keyN p.1) (V.int p.2) = kvsN (L.take (i + 1)) := by
  have no : valV (kvsN (L.take i)) (keyN p.1) = none := by
    cases e : valV (kvsN (L.take i)) (keyN p.1) with
    | none => rfl
    | some v =>
      have m := valV_in e
      unfold kvsN at m
      rw [List.map_map] at m
      obtain ⟨q, hq, eq⟩ := List.mem_map.mp m
      have e1 : q.1 = p.1 := keyN_inj eq
      obtain ⟨j, hj⟩ := List.mem_iff_getElem?.mp hq
      rw [List.getElem?_take] at hj
      by_cases hji : j < i
      · rw [if_pos hji] at hj
        obtain ⟨l1, g1⟩ := List.getElem?_eq_some_iff.mp hj
        obtain ⟨l2, g2⟩ := List.getElem?_eq_some_iff.mp hp
        have nq := List.pairwise_iff_getElem.mp h j i (by rw [List.length_map]; exact l1) (by rw [List.length_map]; exact l2) hji
        rw [List.getElem_map, List.getElem_map, g1, g2] at nq
        exact absurd e1 nq
      · rw [if_neg hji] at hj
        cases hj
  rw [putK_new _ no, List.take_add_one, hp]
  unfold kvsN
  rw [List.map_append]
  rfl
theorem shaped_n {L : Nums} {q : List Key × V} (h : q ∈ kvsN L) : Dh.Shaped (fun _ => false) q.1 := by
  obtain ⟨p, _, rfl⟩ := List.mem_map.mp h
  intro i x hx
  unfold keyN at hx
  rw [List.getElem?_map] at hx
  obtain ⟨n, _, rfl⟩ := Option.map_eq_some_iff.mp hx
  rfl
theorem map_kvsN (L : Nums) : (kvsN L).map (·.1) = L.map fun p => keyN p.1 := by
  unfold kvsN
  rw [List.map_map]
  rfl
theorem lookup_two (f : Str) (D : Addr) : putF "_numbers" (V.ref D) (putF "_form" (V.str f) []) = ([("_form", V.str f), ("_numbers", V.ref D)] : List (Str × V)) := by
  have k1 : ¬ (("_form" : Str) = "_numbers") := by decide +kernel
  show (if ("_form" : Str) = "_numbers" then [(("_form" : Str), V.ref D)] else (("_form" : Str), V.str f) :: putF "_numbers" (V.ref D) []) = _
  rw [if_neg k1]
  rfl
theorem lookup_num (f : Str) (D : Addr) : (putF "_numbers" (V.ref D) (putF "_form" (V.str f) [])).lookup ("_numbers" : Str) = some (.ref D) := by
  rw [lookup_two]
  rfl
theorem keys_keep {H H' : Hp} {kvs : List (List Key × V)} {bs : List Addr} (h : IsKeys H kvs bs) (k : ∀ b ys, H b = some (.tup ys) → H' b = some (.tup ys)) : IsKeys H' kvs bs := Paired.mapP h fun p b e => k b _ e
theorem ok_Answer___init__ (T : Txt K mg a) : FnOk P w K mg base (L2.CX P w) 4 a.Answer___init__ a.fd_Answer___init__ ps_Answer___init__ (spAns K a.c_Answer a.c_InvalidAnswer) := by
  have F := T.F_Answer___init__
  refine F.ok (k := 3) sc_Answer___init__ (fun vs H Q E h => ?_) (fun cdv A outer s H vs Q E hr h => ?_)
  · obtain ⟨x, dx, v1, v2, rfl, hx, h⟩ := h
    rfl
  · obtain ⟨x, dx, v1, v2, rfl, hx, h⟩ := h
    have hu := hu_of hr
    refine ⟨_, (pss_cons (ps_if (pt_not (pt_val (pe_call (ok_is_form T) (hr.mono (by decide)) (by rfl) T.g_is_form T.F_is_form.kp (b_is_form T) .nil pass0 (pa_cons (pv 1) pa_nil)))) (pss_one (ps_raise rfl (takes_of rfl rfl rfl rfl) (pmk_own PySem.F.excBase_ValueError T.q_InvalidAnswer T.g_c_InvalidAnswer T.kp_InvalidAnswer (raises_own T.b_InvalidAnswer T.ty_InvalidAnswer) (by rfl)))) pss_nil)
      (pss_cons (ps_set (i := 3) sc_Answer___init__.nd rfl (Or.inr rfl) (pe_ifExp (pt_cmpR op_isN (pv 2) pe_non (nomark _)) pe_dnewT (pv 2)))
      (pss_cons (ps_if (PW.pt (pw_and (pt_cmpR op_notN (pv 2) pe_non (nomark _)) (pw_and1 (pt_not (pt_val (pe_call (ok__are_numbers T) (hr.mono (by decide)) (by rfl) T.g__are_numbers T.F__are_numbers.kp (b__are_numbers T) .nil pass0 (pa_cons (pv 1) (pa_cons (pv 3) pa_nil)))))))) (pss_one (ps_raise rfl (takes_of rfl rfl rfl rfl) (pmk_own PySem.F.excBase_ValueError T.q_InvalidAnswer T.g_c_InvalidAnswer T.kp_InvalidAnswer (raises_own T.b_InvalidAnswer T.ty_InvalidAnswer) (by rfl)))) pss_nil)
      (pss_cons (ps_fld (pv 0) (pv 1) rfl)
      (pss_cons (ps_fld (pv 0) (Dh.pe_dcA (t := true) (own := [("head", 4)]) hu rfl sc_Answer___init__.nd (pi_list (pe_callB (Dh.cr_sortD rfl) (by rfl) T.sorted (by decide +kernel) (pa_cons (pv 3) pa_nil))) (blkOk_by (N := nm_Answer___init__) (sc := defScope s_Answer___init__) (by decide +kernel)) ⟨(fun _ _ _ _ _ => (pg_name (i := 4) sc_Answer___init__.nd rfl (Or.inl rfl))), (fun _ _ _ _ _ => pts_nil), (fun _ _ _ _ _ => (pv 4)), (fun _ _ _ _ _ => (pe_dget hu (pv 3) (pv 4) (fun _ _ => rfl)))⟩) rfl)
      (pss_one (ps_fld (pv 0) (pe_callTy (Dh.call_tupleD rfl) (by rfl) T.tuple (by decide +kernel) (pa_cons (pe_fld (pv 0) rfl) pa_nil)) rfl))))))), ?_⟩
    rcases h with ⟨f, L, rfl, hN, hv, k⟩ | ⟨d, hd, e, k⟩ | ⟨f, rfl, hf, hne, hv, k⟩
    · refine ⟨_, rfl, _, .str f, rfl, .str f, _, rfl, ?_⟩
      rw [show isFormD (.str f) = true from decide_eq_true hN.form]
      refine iteF ?_
      rcases hv with ⟨rfl, rfl⟩ | ⟨p, rfl, np, hp⟩
      · refine ⟨_, rfl, rfl, _, rfl, ?_⟩
        refine iteT ?_
        intro p hp0
        refine ⟨_, rfl, rfl, _, rfl, ?_⟩
        refine iteF ?_
        refine iteF ?_
        have hp : (upd H p (.dT [])) p = some (.dT (kvsN [])) := upd_same
        have np : p ≠ x := fun z => by rw [z, hx] at hp0; cases hp0
        have hxp : (upd H p (.dT [])) x = some (.ins a.c_Answer dx []) := by
          rw [upd_ne (Ne.symm np)]
          exact hx
        generalize E0 : upd H p (.dT []) = H0 at hp hxp ⊢
        have kp0 : ∀ b o, b ≠ x → H b = some o → H0 b = some o := fun b o hb e => by
          rw [← E0, upd_ne (ne_of_none e hp0)]
          exact e
        generalize EL : ([] : Nums) = L at hN k hp
        -- self._form = form
        refine ⟨_, rfl, _, rfl, x, _, dx, [], rfl, hxp, T.cl_Answer, T.nF, (by show 0 < 1000; decide), ?_⟩
        -- self._numbers
        have hp1 : (upd H0 x (.ins a.c_Answer dx (putF "_form" (.str f) []))) p = some (.dT (kvsN L)) := by
          rw [upd_ne np]
          exact hp
        refine ⟨_, rfl, p, kvsN L, fun _ => false, rfl, .inl hp1, (fun q hq => shaped_n hq), (fun h2 q hq => by
          rw [len_kvsN] at h2
          obtain ⟨r, hr, rfl⟩ := List.mem_map.mp hq
          exact fun z => hN.wide h2 r hr (List.map_eq_nil_iff.mp z)), fun Lx q pm tups srt hq => ?_⟩
        generalize E2 : upd H0 x (.ins a.c_Answer dx (putF "_form" (.str f) [])) = H2 at hp1 tups hq ⊢
        have hx2 : H2 x = some (.ins a.c_Answer dx (putF "_form" (.str f) [])) := by
          rw [← E2]
          exact upd_same
        have kp2 : ∀ b o, b ≠ x → H0 b = some o → H2 b = some o := fun b o hb e => by
          rw [← E2, upd_ne hb]
          exact e
        obtain ⟨Ls, pl, el⟩ := Dh.perm_back pm.symm L (map_kvsN L).symm
        have lLx : Ls.length = Lx.length := by
          have := congrArg List.length el
          rw [List.length_map, List.length_map] at this
          exact this
        have ndS : (Ls.map (·.1)).Nodup := (pl.map (·.1)).nodup_iff.mpr hN.nd
        have srtS : SortOf L Ls := ⟨pl, by
          rw [List.pairwise_map]
          have s2 : (Lx.map (·.2)).Pairwise fun r q => Dh.kLt q r = false := by
            rw [List.pairwise_map]
            exact srt
          rw [← el, List.pairwise_map] at s2
          exact s2⟩
        have nqx : q ≠ x := fun z => by
          rw [z, hx2] at hq
          cases hq
        have nqp : q ≠ p := fun z => by
          rw [z, hp1] at hq
          cases hq
        refine ⟨q, rfl, ⟨_, .inl (.inl upd_same)⟩, fun D hD => ?_⟩
        have nDq : D ≠ q := fun z => by
          rw [z, upd_same] at hD
          cases hD
        have hD2 : H2 D = none := by
          rw [upd_ne nDq] at hD
          exact hD
        refine Dh.dcA_it (walk_list (K := K) (a := q) (xs := Lx.map fun z => V.ref z.1)) (fun i H3 => H3 = upd (upd H2 q (.lst (Lx.map fun z => V.ref z.1))) D (.dT (kvsN (Ls.take i)))) rfl ?_ ?_ ?_
        · rintro i H3 hi rfl
          refine .inl (.inl ?_)
          rw [upd_ne (Ne.symm nDq)]
          exact upd_same
        · rintro i y H3 H4 hi rfl ⟨rfl, hy⟩
          rw [List.length_map] at hi
          rw [List.getElem?_map, List.getElem?_eq_getElem hi] at hy
          cases hy
          have hl : i < Ls.length := by omega
          have ek : keyN Ls[i].1 = Lx[i].2 := by
            have q1 : (Ls.map fun p => keyN p.1)[i]? = (Lx.map (·.2))[i]? := by rw [el]
            rw [List.getElem?_map, List.getElem?_map, List.getElem?_eq_getElem hl, List.getElem?_eq_getElem hi] at q1
            exact Option.some.inj q1
          have tk := tups Lx[i] (List.getElem_mem hi)
          have nk : Lx[i].1 ≠ q := fun z => by
            rw [z, hq] at tk
            cases tk
          have nk2 : Lx[i].1 ≠ D := fun z => by
            rw [z, hD2] at tk
            cases tk
          have tk3 : (upd (upd H2 q (.lst (Lx.map fun z => V.ref z.1))) D (.dT (kvsN (Ls.take i)))) Lx[i].1 = some (.tup ((keyN Ls[i].1).map kV)) := by
            rw [upd_ne nk2, upd_ne nk, ek]
            exact tk
          have npD : p ≠ D := ne_of_none hp1 hD2
          refine ⟨rfl, ?_⟩
          dsimp only [tYes]
          rw [if_pos rfl]
          refine ⟨_, rfl, _, rfl, _, rfl, p, .int Ls[i].2, rfl, .inr ⟨kvsN L, keyN Ls[i].1, Lx[i].1, .inl ?_, rfl, tk3, (val_kvsN hN.nd ((pl.mem_iff).mp (List.getElem_mem hl))).symm⟩, _, .inr ⟨kvsN (Ls.take i), keyN Ls[i].1, Lx[i].1, upd_same, rfl, tk3, ?_, rfl⟩, ?_⟩
          · rw [upd_ne npD, upd_ne (Ne.symm nqp)]
            exact hp1
          · rw [len_kvsN, List.length_take, sizeLine_eq]
            have := hN.len
            have := pl.length_eq
            omega
          · rw [upd_upd, put_take ndS (List.getElem?_eq_getElem hl)]
        · rintro H3 rfl
          rw [List.length_map, ← lLx, List.take_length]
          have nDx : D ≠ x := fun z => by
            rw [z, hx2] at hD2
            cases hD2
          have hx3 : (upd (upd H2 q (.lst (Lx.map fun z => V.ref z.1))) D (.dT (kvsN Ls))) x = some (.ins a.c_Answer dx (putF "_form" (.str f) [])) := by
            rw [upd_ne (Ne.symm nDx), upd_ne (Ne.symm nqx)]
            exact hx2
          refine ⟨_, rfl, x, _, dx, _, rfl, hx3, T.cl_Answer, T.nN, (by show 1 < 1000; decide), ?_⟩
          generalize E3 : upd (upd (upd H2 q (.lst (Lx.map fun z => V.ref z.1))) D (.dT (kvsN Ls))) x (.ins a.c_Answer dx (putF "_numbers" (.ref D) (putF "_form" (.str f) []))) = H4
          have hx4 : H4 x = some (.ins a.c_Answer dx (putF "_numbers" (.ref D) (putF "_form" (.str f) []))) := by
            rw [← E3]
            exact upd_same
          have hD4 : H4 D = some (.dT (kvsN Ls)) := by
            rw [← E3, upd_ne nDx]
            exact upd_same
          have kp4 : ∀ b o, b ≠ x → H b = some o → H4 b = some o := fun b o hb e => by
            have e2 := kp2 b o hb (kp0 b o hb e)
            rw [← E3, upd_ne hb, upd_ne (ne_of_none e2 hD2), upd_ne (ne_of_none e2 hq)]
            exact e2
          refine ⟨_, rfl, x, _, dx, _, _, rfl, hx4, T.cl_Answer, T.nN, lookup_num f D, D, kvsN Ls, rfl, .inl hD4, fun hh bs hhn hk => ?_⟩
          have nhx : hh ≠ x := fun z => by
            rw [z, hx4] at hhn
            cases hhn
          have nhD : hh ≠ D := fun z => by
            rw [z, hD4] at hhn
            cases hhn
          refine ⟨_, rfl, x, _, dx, _, rfl, by rw [upd_ne (Ne.symm nhx)]; exact hx4, T.cl_Answer, T.nH, (by show (putF "_numbers" (V.ref D) (putF "_form" (V.str f) [])).length < 1000; rw [lookup_two]; exact (by decide : 2 < 1000)), ?_⟩
          have hDH : H D = none := by
            cases z : H D with
            | none => rfl
            | some o =>
              have e2 := kp2 D o nDx (kp0 D o nDx z)
              rw [hD2] at e2
              cases e2
          refine k Ls D _ srtS ⟨dx, hh, bs, upd_same, ?_, ?_, ?_⟩ hDH fun b o hb e => ?_
          · rw [upd_ne nDx, upd_ne (Ne.symm nhD)]
            exact hD4
          · rw [upd_ne nhx]
            exact upd_same
          · refine keys_keep hk fun b ys e => ?_
            rw [upd_ne (fun z => by rw [z, hx4] at e; cases e), upd_ne (ne_of_none e hhn)]
            exact e
          · have e4 := kp4 b o hb e
            rw [upd_ne hb, upd_ne (ne_of_none e4 hhn)]
            exact e4
      · refine ⟨_, rfl, rfl, _, rfl, ?_⟩
        refine iteF ?_
        refine ⟨_, rfl, _, rfl, rfl, _, rfl, ?_⟩
        refine iteT ?_
        refine ⟨_, rfl, _, rfl, f, _, true, rfl, .inr (.inl ⟨p, kdN L, rfl, by rw [kvsOf_kdN]; exact hp, fun H' kp e he => ?_, ?_, by rw [show (kdN L).length = L.length from List.length_map _]; exact hN.len, hN.ok.symm⟩), fun H0 S0 => ⟨_, rfl, ?_⟩⟩
        · obtain ⟨r, _, rfl⟩ := List.mem_map.mp he
          exact .int r.2
        · have q := nd_kvsN hN.nd
          rw [← kvsOf_kdN] at q
          unfold kvsOf at q
          rw [List.map_map] at q
          exact q
        refine iteF ?_
        have hxp := S0 _ _ hx
        have hp' := S0 _ _ hp
        have kp0 : ∀ b o, b ≠ x → H b = some o → H0 b = some o := fun b o _ e => S0 _ _ e
        -- self._form = form
        refine ⟨_, rfl, _, rfl, x, _, dx, [], rfl, hxp, T.cl_Answer, T.nF, (by show 0 < 1000; decide), ?_⟩
        -- self._numbers
        have hp1 : (upd H0 x (.ins a.c_Answer dx (putF "_form" (.str f) []))) p = some (.dT (kvsN L)) := by
          rw [upd_ne np]
          exact hp'
        refine ⟨_, rfl, p, kvsN L, fun _ => false, rfl, .inl hp1, (fun q hq => shaped_n hq), (fun h2 q hq => by
          rw [len_kvsN] at h2
          obtain ⟨r, hr, rfl⟩ := List.mem_map.mp hq
          exact fun z => hN.wide h2 r hr (List.map_eq_nil_iff.mp z)), fun Lx q pm tups srt hq => ?_⟩
        generalize E2 : upd H0 x (.ins a.c_Answer dx (putF "_form" (.str f) [])) = H2 at hp1 tups hq ⊢
        have hx2 : H2 x = some (.ins a.c_Answer dx (putF "_form" (.str f) [])) := by
          rw [← E2]
          exact upd_same
        have kp2 : ∀ b o, b ≠ x → H0 b = some o → H2 b = some o := fun b o hb e => by
          rw [← E2, upd_ne hb]
          exact e
        obtain ⟨Ls, pl, el⟩ := Dh.perm_back pm.symm L (map_kvsN L).symm
        have lLx : Ls.length = Lx.length := by
          have := congrArg List.length el
          rw [List.length_map, List.length_map] at this
          exact this
        have ndS : (Ls.map (·.1)).Nodup := (pl.map (·.1)).nodup_iff.mpr hN.nd
        have srtS : SortOf L Ls := ⟨pl, by
          rw [List.pairwise_map]
          have s2 : (Lx.map (·.2)).Pairwise fun r q => Dh.kLt q r = false := by
            rw [List.pairwise_map]
            exact srt
          rw [← el, List.pairwise_map] at s2
          exact s2⟩
        have nqx : q ≠ x := fun z => by
          rw [z, hx2] at hq
          cases hq
        have nqp : q ≠ p := fun z => by
          rw [z, hp1] at hq
          cases hq
        refine ⟨q, rfl, ⟨_, .inl (.inl upd_same)⟩, fun D hD => ?_⟩
        have nDq : D ≠ q := fun z => by
          rw [z, upd_same] at hD
          cases hD
        have hD2 : H2 D = none := by
          rw [upd_ne nDq] at hD
          exact hD
        refine Dh.dcA_it (walk_list (K := K) (a := q) (xs := Lx.map fun z => V.ref z.1)) (fun i H3 => H3 = upd (upd H2 q (.lst (Lx.map fun z => V.ref z.1))) D (.dT (kvsN (Ls.take i)))) rfl ?_ ?_ ?_
        · rintro i H3 hi rfl
          refine .inl (.inl ?_)
          rw [upd_ne (Ne.symm nDq)]
          exact upd_same
        · rintro i y H3 H4 hi rfl ⟨rfl, hy⟩
          rw [List.length_map] at hi
          rw [List.getElem?_map, List.getElem?_eq_getElem hi] at hy
          cases hy
          have hl : i < Ls.length := by omega
          have ek : keyN Ls[i].1 = Lx[i].2 := by
            have q1 : (Ls.map fun p => keyN p.1)[i]? = (Lx.map (·.2))[i]? := by rw [el]
            rw [List.getElem?_map, List.getElem?_map, List.getElem?_eq_getElem hl, List.getElem?_eq_getElem hi] at q1
            exact Option.some.inj q1
          have tk := tups Lx[i] (List.getElem_mem hi)
          have nk : Lx[i].1 ≠ q := fun z => by
            rw [z, hq] at tk
            cases tk
          have nk2 : Lx[i].1 ≠ D := fun z => by
            rw [z, hD2] at tk
            cases tk
          have tk3 : (upd (upd H2 q (.lst (Lx.map fun z => V.ref z.1))) D (.dT (kvsN (Ls.take i)))) Lx[i].1 = some (.tup ((keyN Ls[i].1).map kV)) := by
            rw [upd_ne nk2, upd_ne nk, ek]
            exact tk
          have npD : p ≠ D := ne_of_none hp1 hD2
          refine ⟨rfl, ?_⟩
          dsimp only [tYes]
          rw [if_pos rfl]
          refine ⟨_, rfl, _, rfl, _, rfl, p, .int Ls[i].2, rfl, .inr ⟨kvsN L, keyN Ls[i].1, Lx[i].1, .inl ?_, rfl, tk3, (val_kvsN hN.nd ((pl.mem_iff).mp (List.getElem_mem hl))).symm⟩, _, .inr ⟨kvsN (Ls.take i), keyN Ls[i].1, Lx[i].1, upd_same, rfl, tk3, ?_, rfl⟩, ?_⟩
          · rw [upd_ne npD, upd_ne (Ne.symm nqp)]
            exact hp1
          · rw [len_kvsN, List.length_take, sizeLine_eq]
            have := hN.len
            have := pl.length_eq
            omega
          · rw [upd_upd, put_take ndS (List.getElem?_eq_getElem hl)]
        · rintro H3 rfl
          rw [List.length_map, ← lLx, List.take_length]
          have nDx : D ≠ x := fun z => by
            rw [z, hx2] at hD2
            cases hD2
          have hx3 : (upd (upd H2 q (.lst (Lx.map fun z => V.ref z.1))) D (.dT (kvsN Ls))) x = some (.ins a.c_Answer dx (putF "_form" (.str f) [])) := by
            rw [upd_ne (Ne.symm nDx), upd_ne (Ne.symm nqx)]
            exact hx2
          refine ⟨_, rfl, x, _, dx, _, rfl, hx3, T.cl_Answer, T.nN, (by show 1 < 1000; decide), ?_⟩
          generalize E3 : upd (upd (upd H2 q (.lst (Lx.map fun z => V.ref z.1))) D (.dT (kvsN Ls))) x (.ins a.c_Answer dx (putF "_numbers" (.ref D) (putF "_form" (.str f) []))) = H4
          have hx4 : H4 x = some (.ins a.c_Answer dx (putF "_numbers" (.ref D) (putF "_form" (.str f) []))) := by
            rw [← E3]
            exact upd_same
          have hD4 : H4 D = some (.dT (kvsN Ls)) := by
            rw [← E3, upd_ne nDx]
            exact upd_same
          have kp4 : ∀ b o, b ≠ x → H b = some o → H4 b = some o := fun b o hb e => by
            have e2 := kp2 b o hb (kp0 b o hb e)
            rw [← E3, upd_ne hb, upd_ne (ne_of_none e2 hD2), upd_ne (ne_of_none e2 hq)]
            exact e2
          refine ⟨_, rfl, x, _, dx, _, _, rfl, hx4, T.cl_Answer, T.nN, lookup_num f D, D, kvsN Ls, rfl, .inl hD4, fun hh bs hhn hk => ?_⟩
          have nhx : hh ≠ x := fun z => by
            rw [z, hx4] at hhn
            cases hhn
          have nhD : hh ≠ D := fun z => by
            rw [z, hD4] at hhn
            cases hhn
          refine ⟨_, rfl, x, _, dx, _, rfl, by rw [upd_ne (Ne.symm nhx)]; exact hx4, T.cl_Answer, T.nH, (by show (putF "_numbers" (V.ref D) (putF "_form" (V.str f) [])).length < 1000; rw [lookup_two]; exact (by decide : 2 < 1000)), ?_⟩
          have hDH : H D = none := by
            cases z : H D with
            | none => rfl
            | some o =>
              have e2 := kp2 D o nDx (kp0 D o nDx z)
              rw [hD2] at e2
              cases e2
          refine k Ls D _ srtS ⟨dx, hh, bs, upd_same, ?_, ?_, ?_⟩ hDH fun b o hb e => ?_
          · rw [upd_ne nDx, upd_ne (Ne.symm nhD)]
            exact hD4
          · rw [upd_ne nhx]
            exact upd_same
          · refine keys_keep hk fun b ys e => ?_
            rw [upd_ne (fun z => by rw [z, hx4] at e; cases e), upd_ne (ne_of_none e hhn)]
            exact e
          · have e4 := kp4 b o hb e
            rw [upd_ne hb, upd_ne (ne_of_none e4 hhn)]
            exact e4
    · refine ⟨_, rfl, _, d, rfl, hd, _, rfl, ?_⟩
      rw [e]
      refine iteT ?_
      exact k
    · refine ⟨_, rfl, _, .str f, rfl, .str f, _, rfl, ?_⟩
      rw [show isFormD (.str f) = true from decide_eq_true hf]
      refine iteF ?_
      refine ⟨_, rfl, rfl, _, rfl, ?_⟩
      rw [decide_eq_false hne]
      refine iteF ?_
      refine ⟨_, rfl, _, rfl, rfl, _, rfl, ?_⟩
      rw [decide_eq_false hne]
      refine iteT ?_
      refine ⟨_, rfl, _, rfl, f, v2, false, rfl, hv, fun H1 S1 => ⟨_, rfl, ?_⟩⟩
      refine iteT ?_
      exact k _ S1
def headD (h : List Int) : PyData := .tuple (h.map PyData.int)
def headsD (L : Nums) : PyData := .tuple (L.map fun p => headD p.1)
def pairsD (L : Nums) : PyData := .tuple (L.map fun p => .tuple [headD p.1, .int p.2])
theorem keyN_kD (h : List Int) : PyData.tuple ((keyN h).map kD) = headD h := by
  unfold headD keyN
  rw [List.map_map]
  rfl
theorem hasDict_map {α : Type} (f : α → PyData) (h : ∀ x, (f x).hasDict = false) : ∀ l : List α, PyData.hasDictAll (l.map f) = false
  | [] => rfl
  | x :: l => by
    rw [List.map_cons]
    unfold PyData.hasDictAll
    rw [h x, hasDict_map f h l]
    rfl
theorem headD_nodict (h : List Int) : (headD h).hasDict = false := by
  unfold headD PyData.hasDict
  exact hasDict_map PyData.int (fun _ => rfl) h
theorem dat_head {K : PySem.W.Frag} {H : Hp} {q : Addr} {h : List Int} (e : H q = some (.tup ((keyN h).map kV))) : Dat K H (.ref q) (headD h) := by
  rw [← keyN_kD]
  exact dat_key e
theorem datAll_heads {K : PySem.W.Frag} {H : Hp} : ∀ {L : Nums} {bs : List Addr}, IsKeys H (kvsN L) bs → DatAll K H (bs.map V.ref) (L.map fun p => headD p.1)
  | [], [], _ => .nil
  | [], _ :: _, h => nomatch h
  | _ :: _, [], h => nomatch h
  | p :: L, b :: bs, h => by
    cases h with
    | cons h t => exact .cons (dat_head h) (datAll_heads t)
theorem keys_len {H : Hp} {L : Nums} {bs : List Addr} (h : IsKeys H (kvsN L) bs) : bs.length = L.length := by
  have := Paired.length h
  rw [len_kvsN] at this
  exact this.symm
theorem paired_snoc {α β : Type} {F : α → β → Prop} {x : α} {y : β} (h : F x y) : ∀ {xs : List α} {ys : List β}, Paired F xs ys → Paired F (xs ++ [x]) (ys ++ [y])
  | _, _, .nil => .cons h .nil
  | _, _, .cons r t => .cons r (paired_snoc h t)
/-- pairs of a head and a number -/
def PairT (H : Hp) (t : Addr) (p : List Int × Int) : Prop := ∃ q, H t = some (.tup [.ref q, .int p.2]) ∧ H q = some (.tup ((keyN p.1).map kV))
theorem dat_pairT {K : PySem.W.Frag} {H : Hp} {t : Addr} {p : List Int × Int} (h : PairT H t p) : Dat K H (.ref t) (.tuple [headD p.1, .int p.2]) := by
  obtain ⟨q, h1, h2⟩ := h
  refine .tup (.inl (.inl h1)) (.cons (dat_head h2) (.cons (.int _) .nil)) ?_
  unfold PyData.hasDictAll
  rw [headD_nodict]
  rfl
theorem dat_pairsT {K : PySem.W.Frag} {H : Hp} : ∀ {ts : List Addr} {L : Nums}, Paired (PairT H) ts L → DatAll K H (ts.map V.ref) (L.map fun p => .tuple [headD p.1, .int p.2])
  | _, _, .nil => .nil
  | _, _, .cons h t => .cons (dat_pairT h) (dat_pairsT t)
theorem pairs_nodict (L : Nums) : PyData.hasDictAll (L.map fun p => PyData.tuple [headD p.1, .int p.2]) = false := hasDict_map _ (fun p => by
  unfold PyData.hasDict PyData.hasDictAll
  rw [headD_nodict]
  rfl) L
def spForm (C : Addr) : Sp := fun vs H Q _ => ∃ x f L, vs = [.ref x] ∧ AnsAt C H x f L ∧ Q (.str f) H
def spHeads (C : Addr) : Sp := fun vs H Q _ => ∃ x f L, vs = [.ref x] ∧ AnsAt C H x f L ∧ ∀ h bs, H h = some (.tup (bs.map V.ref)) → IsKeys H (kvsN L) bs → Q (.ref h) H
theorem ok_Answer_form (T : Txt K mg a) : FnOk P w K mg base CX0 1 a.Answer_form a.fd_Answer_form ps_Answer_form (spForm a.c_Answer) := by
  have F := T.F_Answer_form
  refine F.ok (k := 0) sc_Answer_form (fun vs H Q E h => ?_) (fun cdv A outer s H vs Q E hr h => ?_)
  · obtain ⟨x, f, L, rfl, ⟨dx, n, h, bs, hx, hn, hh, hk⟩, k⟩ := h
    rfl
  · obtain ⟨x, f, L, rfl, ⟨dx, n, h, bs, hx, hn, hh, hk⟩, k⟩ := h
    have hu := hu_of hr
    refine ⟨_, (pss_one (ps_ret (pe_fld (pv 0) rfl))), ?_⟩
    exact ⟨_, rfl, x, _, dx, _, _, rfl, hx, T.cl_Answer, T.nF, flA_form f n h, k⟩
theorem ok_Answer_heads (T : Txt K mg a) : FnOk P w K mg base CX0 1 a.Answer_heads a.fd_Answer_heads ps_Answer_heads (spHeads a.c_Answer) := by
  have F := T.F_Answer_heads
  refine F.ok (k := 0) sc_Answer_heads (fun vs H Q E h => ?_) (fun cdv A outer s H vs Q E hr h => ?_)
  · obtain ⟨x, f, L, rfl, ⟨dx, n, h, bs, hx, hn, hh, hk⟩, k⟩ := h
    rfl
  · obtain ⟨x, f, L, rfl, ⟨dx, n, h, bs, hx, hn, hh, hk⟩, k⟩ := h
    have hu := hu_of hr
    refine ⟨_, (pss_one (ps_ret (pe_fld (pv 0) rfl))), ?_⟩
    exact ⟨_, rfl, x, _, dx, _, _, rfl, hx, T.cl_Answer, T.nH, flA_heads f n h, k h bs hh hk⟩
def spPairs (K : PySem.W.Frag) (C : Addr) : Sp := fun vs H Q _ => ∃ x f L, vs = [.ref x] ∧ AnsAt C H x f L ∧ (L.map (·.1)).Nodup ∧ L.length ≤ 1000 ∧ ∀ v H', Same H H' → Dat K H' v (pairsD L) → Q v H'
theorem ok_Answer_pairs (T : Txt K mg a) : FnOk P w K mg base CX0 1 a.Answer_pairs a.fd_Answer_pairs ps_Answer_pairs (spPairs K a.c_Answer) := by
  have F := T.F_Answer_pairs
  refine F.ok (k := 0) sc_Answer_pairs (fun vs H Q E h => ?_) (fun cdv A outer s H vs Q E hr h => ?_)
  · obtain ⟨x, f, L, rfl, ⟨dx, n, h, bs, hx, hn, hh, hk⟩, nd, hl, k⟩ := h
    rfl
  · obtain ⟨x, f, L, rfl, ⟨dx, n, h, bs, hx, hn, hh, hk⟩, nd, hl, k⟩ := h
    have hu := hu_of hr
    refine ⟨_, (pss_one (ps_ret (pe_callTy call_tuple_of (by rfl) T.tuple (by decide +kernel) (pa_cons (pe_lc (own := [("head", 1)]) rfl sc_Answer_pairs.nd (pi_tup (pe_fld (pv 0) rfl)) (blkOk_by (N := nm_Answer_pairs) (sc := defScope s_Answer_pairs) (by decide +kernel)) (fun _ _ _ _ _ => (pg_name (i := 1) sc_Answer_pairs.nd rfl (Or.inl rfl))) (fun _ _ _ _ _ => pts_nil) (fun _ _ _ _ _ => (pe_tup (pa_cons (pv 1) (pa_cons (pe_dget hu (show PE _ _ (tFld K (tVar 0) "_numbers") from pe_fld (pv 0) rfl) (pv 1) (fun _ _ => rfl)) pa_nil))))) pa_nil)))), ?_⟩
    refine ⟨_, rfl, x, _, dx, _, _, rfl, hx, T.cl_Answer, T.nH, flA_heads f n h, h, rfl, ⟨_, .inl (.inl hh)⟩, fun D hD => ?_⟩
    have lb := keys_len hk
    -- the pairs that are made: their tuples
    refine lc_it (walk_tup (K := K) (a := h) (xs := bs.map V.ref)) (fun i H1 => ∃ ts : List Addr, ts.length = i ∧ H1 D = some (.lst (ts.map V.ref)) ∧ (∀ b o, H b = some o → H1 b = some o) ∧ Paired (PairT H1) ts (L.take i)) ⟨[], rfl, upd_same, fun b o e => by rw [upd_ne (ne_of_none e hD)]; exact e, .nil⟩ ?_ ?_ ?_
    · rintro i H1 hi ⟨ts, _, _, kp, _⟩
      exact .inl (.inl (kp _ _ hh))
    · rintro i y H1 H2 hi ⟨ts, ht, hD1, kp, hp⟩ ⟨rfl, hy⟩
      rw [List.length_map] at hi
      rw [List.getElem?_map, List.getElem?_eq_getElem hi] at hy
      cases hy
      have hl2 : i < L.length := by omega
      have hq : H bs[i] = some (.tup ((keyN L[i].1).map kV)) := by
        obtain ⟨b, hb, e⟩ := L2.paired_get hk (show (kvsN L)[i]? = some (keyN L[i].1, .int L[i].2) from by
          unfold kvsN
          rw [List.getElem?_map, List.getElem?_eq_getElem hl2]
          rfl)
        rw [List.getElem?_eq_getElem hi] at hb
        cases hb
        exact e
      have hq1 := kp _ _ hq
      refine ⟨rfl, ?_⟩
      dsimp only [tYes]
      rw [if_pos rfl]
      refine ⟨_, rfl, _, rfl, x, _, dx, _, _, rfl, kp _ _ hx, T.cl_Answer, T.nN, flA_num f n h, _, rfl, n, _, rfl, .inr ⟨_, _, bs[i], .inl (kp _ _ hn), rfl, hq1, (val_kvsN nd (List.getElem_mem hl2)).symm⟩, (by show 2 ≤ sizeLine; decide), fun t ht0 => ?_⟩
      refine ⟨ts.map V.ref, ?_, ?_, ts ++ [t], ?_, ?_, fun b o e => ?_, ?_⟩
      · rw [upd_ne (ne_of_none hD1 ht0)]
        exact hD1
      · rw [List.length_map, ht, sizeLine_eq]
        omega
      · rw [List.length_append, ht]
        rfl
      · rw [List.map_append]
        exact upd_same
      · have e1 := kp _ _ e
        rw [upd_ne (ne_of_none e hD), upd_ne (ne_of_none e1 ht0)]
        exact e1
      · rw [List.take_add_one, List.getElem?_eq_getElem hl2]
        have nDt : D ≠ t := ne_of_none hD1 ht0
        refine paired_snoc ⟨bs[i], ?_, ?_⟩ (Paired.mapP hp fun t' p' ⟨q', e1, e2⟩ => ⟨q', ?_, ?_⟩)
        · rw [upd_ne (ne_of e1 hD1 (fun z => nomatch z)), upd_ne (ne_of_none e1 ht0)]
          exact e1
        · rw [upd_ne (ne_of e2 hD1 (fun z => nomatch z)), upd_ne (ne_of_none e2 ht0)]
          exact e2
        · rw [upd_ne (Ne.symm nDt)]
          exact upd_same
        · rw [upd_ne (ne_of_none hq hD), upd_ne (ne_of_none hq1 ht0)]
          exact hq1
    · rintro H1 ⟨ts, ht, hD1, kp, hp⟩
      rw [List.length_map, lb, List.take_length] at hp
      refine ⟨D, _, rfl, .inl ⟨.inl (.inl hD1), fun l hl0 => ?_⟩⟩
      refine k _ _ (fun b o e => by rw [upd_ne (ne_of_none (kp _ _ e) hl0)]; exact kp _ _ e) (.tup (.inl (.inl upd_same)) (dat_pairsT (Paired.mapP hp fun t' p' ⟨q', e1, e2⟩ => ⟨q', ?_, ?_⟩)) (pairs_nodict L))
      · rw [upd_ne (ne_of_none e1 hl0)]
        exact e1
      · rw [upd_ne (ne_of_none e2 hl0)]
        exact e2
def spGet (K : PySem.W.Frag) (C CI : Addr) : Sp := fun vs H Q E => ∃ x f L v, vs = [.ref x, v] ∧ AnsAt C H x f L ∧ ((∃ q hd, v = .ref q ∧ H q = some (.tup ((keyN hd).map kV)) ∧ headK (keyN hd) = true ∧ Q ((valV (kvsN L) (keyN hd)).getD (.int 0)) H) ∨
  ∃ d, ArgD K H v d ∧ isHeadD d = false ∧ E (.ref CI) none H)
theorem ok_Answer___getitem__ (T : Txt K mg a) : FnOk P w K mg base (L2.CX P w) 3 a.Answer___getitem__ a.fd_Answer___getitem__ ps_Answer___getitem__ (spGet K a.c_Answer a.c_InvalidAnswer) := by
  have F := T.F_Answer___getitem__
  refine F.okX (k := 2) sc_Answer___getitem__ (fun vs H Q E h => ?_) (fun cdv A outer s H vs Q E hr h => ?_)
  · obtain ⟨x, f, L, v, rfl, ⟨dx, n, h, bs, hx, hn, hh, hk⟩, hv⟩ := h
    rfl
  · obtain ⟨x, f, L, v, rfl, ⟨dx, n, h, bs, hx, hn, hh, hk⟩, hv⟩ := h
    have hu := hu_of hr
    refine ⟨_, (pss_cons (ps_if (pt_not (pt_val (pe_call (ok_is_head T) (hr.mono (by decide)) (by rfl) T.g_is_head T.F_is_head.kp (b_is_head T) .nil pass0 (pa_cons (pv 1) pa_nil)))) (pss_one (ps_raise rfl (takes_of rfl rfl rfl rfl) (pmk_own PySem.F.excBase_ValueError T.q_InvalidAnswer T.g_c_InvalidAnswer T.kp_InvalidAnswer (raises_own T.b_InvalidAnswer T.ty_InvalidAnswer) (by rfl)))) pss_nil)
      (pss_one (ps_ret (pe_dget2 hu (pe_fld (pv 0) rfl) (pv 1) pe_int ⟨rfl, rfl, rfl, rfl⟩)))), ?_⟩
    rcases hv with ⟨q, hd, rfl, hq, hhd, k⟩ | ⟨d, hd, e, k⟩
    · refine ⟨_, rfl, _, _, rfl, .inl (dat_head hq).q, _, rfl, ?_⟩
      rw [show isHeadD (headD hd) = true from by rw [← keyN_kD]; exact hhd]
      refine iteF ?_
      exact ⟨_, rfl, x, _, dx, _, _, rfl, hx, T.cl_Answer, T.nN, flA_num f n h, n, rfl, .inr ⟨_, .inl hn⟩, _, rfl, _, .inr ⟨_, _, q, .inl hn, rfl, hq, rfl⟩, k⟩
    · refine ⟨_, rfl, _, d, rfl, hd, _, rfl, ?_⟩
      rw [e]
      exact iteT k
def spHas (K : PySem.W.Frag) (C : Addr) : Sp := fun vs H Q _ => ∃ x f L v, vs = [.ref x, v] ∧ AnsAt C H x f L ∧ ((∃ q hd, v = .ref q ∧ H q = some (.tup ((keyN hd).map kV)) ∧ headK (keyN hd) = true ∧ Q (.bl (valV (kvsN L) (keyN hd)).isSome) H) ∨
  ∃ d, ArgD K H v d ∧ isHeadD d = false ∧ Q (.bl false) H)
theorem ok_Answer___contains__ (T : Txt K mg a) : FnOk P w K mg base CX0 3 a.Answer___contains__ a.fd_Answer___contains__ ps_Answer___contains__ (spHas K a.c_Answer) := by
  have F := T.F_Answer___contains__
  refine F.ok (k := 2) sc_Answer___contains__ (fun vs H Q E h => ?_) (fun cdv A outer s H vs Q E hr h => ?_)
  · obtain ⟨x, f, L, v, rfl, ⟨dx, n, h, bs, hx, hn, hh, hk⟩, hv⟩ := h
    rfl
  · obtain ⟨x, f, L, v, rfl, ⟨dx, n, h, bs, hx, hn, hh, hk⟩, hv⟩ := h
    have hu := hu_of hr
    refine ⟨_, (pss_one (ps_ret (pe_and (pe_call (ok_is_head T) (hr.mono (by decide)) (by rfl) T.g_is_head T.F_is_head.kp (b_is_head T) .nil pass0 (pa_cons (pv 1) pa_nil)) (pe_one (pe_cmp (pc_din hu (pv 1) (pe_fld (pv 0) rfl)) rfl))))), ?_⟩
    rcases hv with ⟨q, hd, rfl, hq, hhd, k⟩ | ⟨d, hd, e, k⟩
    · refine ⟨_, rfl, _, _, rfl, .inl (dat_head hq).q, _, rfl, ?_⟩
      rw [show isHeadD (headD hd) = true from by rw [← keyN_kD]; exact hhd]
      refine iteT ?_
      exact ⟨_, rfl, _, rfl, x, _, dx, _, _, rfl, hx, T.cl_Answer, T.nN, flA_num f n h, n, _, rfl, .inr ⟨_, _, q, .inl hn, rfl, hq, rfl⟩, k⟩
    · refine ⟨_, rfl, _, d, rfl, hd, _, rfl, ?_⟩
      rw [e]
      exact iteF k
def spLen (C : Addr) : Sp := fun vs H Q _ => ∃ x f L, vs = [.ref x] ∧ AnsAt C H x f L ∧ Q (.int (L.length : Nat)) H
def spBool (C : Addr) : Sp := fun vs H Q _ => ∃ x f L, vs = [.ref x] ∧ AnsAt C H x f L ∧ Q (.bl (!L.isEmpty)) H
theorem ok_Answer___len__ (T : Txt K mg a) : FnOk P w K mg base CX0 1 a.Answer___len__ a.fd_Answer___len__ ps_Answer___len__ (spLen a.c_Answer) := by
  have F := T.F_Answer___len__
  refine F.ok (k := 0) sc_Answer___len__ (fun vs H Q E h => ?_) (fun cdv A outer s H vs Q E hr h => ?_)
  · obtain ⟨x, f, L, rfl, ⟨dx, n, h, bs, hx, hn, hh, hk⟩, k⟩ := h
    rfl
  · obtain ⟨x, f, L, rfl, ⟨dx, n, h, bs, hx, hn, hh, hk⟩, k⟩ := h
    have hu := hu_of hr
    refine ⟨_, (pss_one (ps_ret (pe_callB call_len (by rfl) T.len (by decide +kernel) (pa_cons (pe_fld (pv 0) rfl) pa_nil)))), ?_⟩
    refine ⟨_, rfl, x, _, dx, _, _, rfl, hx, T.cl_Answer, T.nH, flA_heads f n h, _, _, rfl, .inr ⟨_, .inl (.inl hh), rfl⟩, ?_⟩
    rw [List.length_map, keys_len hk]
    exact k
theorem ok_Answer___bool__ (T : Txt K mg a) : FnOk P w K mg base CX0 1 a.Answer___bool__ a.fd_Answer___bool__ ps_Answer___bool__ (spBool a.c_Answer) := by
  have F := T.F_Answer___bool__
  refine F.ok (k := 0) sc_Answer___bool__ (fun vs H Q E h => ?_) (fun cdv A outer s H vs Q E hr h => ?_)
  · obtain ⟨x, f, L, rfl, ⟨dx, n, h, bs, hx, hn, hh, hk⟩, k⟩ := h
    rfl
  · obtain ⟨x, f, L, rfl, ⟨dx, n, h, bs, hx, hn, hh, hk⟩, k⟩ := h
    have hu := hu_of hr
    refine ⟨_, (pss_one (ps_ret (pe_callTy Bt.call_boolT (by rfl) T.bool (by decide +kernel) (pa_cons (pe_fld (pv 0) rfl) pa_nil)))), ?_⟩
    refine ⟨_, rfl, x, _, dx, _, _, rfl, hx, T.cl_Answer, T.nH, flA_heads f n h, h, _, rfl, .inl (.inl hh), ?_⟩
    have e : (bs.map V.ref).isEmpty = L.isEmpty := by
      have := keys_len hk
      cases bs <;> cases L <;> first | rfl | cases this
    rw [e]
    exact k
/-- two answers' numbers are equal -/
def eqN (L M : Nums) : Bool := Dh.eqT (kvsN L) (kvsN M)
theorem flat_kvsN (L : Nums) : ∀ p ∈ kvsN L, flatV p.2 = true := fun p hp => by
  obtain ⟨r, _, rfl⟩ := List.mem_map.mp hp
  rfl
theorem ans_ty (T : Txt K mg a) {H : Hp} {x : Addr} {f : Str} {L : Nums} (h : AnsAt a.c_Answer H x f L) : TyX K H (.ref x) (.ref a.c_Answer) := by
  obtain ⟨dx, n, hh, bs, hx, _⟩ := h
  exact .base (.ins hx T.cl_Answer T.ti1 T.ti2 T.ti3 T.ti4)
def spEqA (K : PySem.W.Frag) (C : Addr) : Sp := fun vs H Q _ => ∃ x f L v, vs = [.ref x, v] ∧ AnsAt C H x f L ∧ ((∃ y g M, v = .ref y ∧ AnsAt C H y g M ∧ Q (.bl (decide (f = g) && eqN L M)) H) ∨
  ∃ t, TyX K H v t ∧ PySem.W.kitOne K t (.ref C) = some false ∧ Q (.bl false) H)
theorem ok_Answer___eq__ (T : Txt K mg a) : FnOk P w K mg base CX0 2 a.Answer___eq__ a.fd_Answer___eq__ ps_Answer___eq__ (spEqA K a.c_Answer) := by
  have F := T.F_Answer___eq__
  refine F.ok (k := 1) sc_Answer___eq__ (fun vs H Q E h => ?_) (fun cdv A outer s H vs Q E hr h => ?_)
  · obtain ⟨x, f, L, v, rfl, hA, hv⟩ := h
    rfl
  · obtain ⟨x, f, L, v, rfl, hA, hv⟩ := h
    have hu := hu_of hr
    refine ⟨_, (pss_one (ps_ret (pe_and (pe_callB call_isi (by rfl) T.isinstance (by decide +kernel) (pa_cons (pv 1) (pa_cons (pe_glob (v := V.ref a.c_Answer) (by rfl) T.g_c_Answer (by rfl)) pa_nil))) (pe_and (pe_cmpR op_eq (pe_fld (pv 0) rfl) (pe_fld (pv 1) rfl) (nomark _)) (pe_one (pe_cmpR (Dh.op_eqT (n := 0) (hr.mono (by decide))) (pe_fld (pv 0) rfl) (pe_fld (pv 1) rfl) (nomark _))))))), ?_⟩
    rcases hv with ⟨y, g, M, rfl, hB, k⟩ | ⟨t, ht, kt, k⟩
    · have tB := ans_ty T hB
      obtain ⟨dx, n, h, bs, hx, hn, hh, hk⟩ := hA
      obtain ⟨dy, m, hm', cs, hy, hm, hh2, hk2⟩ := hB
      refine ⟨_, rfl, .ref y, .ref a.c_Answer, _, _, true, rfl, .own _, tB, ?_, _, rfl, ?_⟩
      · exact if_pos (beq_self_eq_true _)
      refine iteT ?_
      refine ⟨_, rfl, x, _, dx, _, _, rfl, hx, T.cl_Answer, T.nF, flA_form f n h, _, rfl, y, _, dy, _, _, rfl, hy, T.cl_Answer, T.nF, flA_form g m hm', rfl, _, rfl, ?_⟩
      have e1 : decide (V.str f = V.str g) = decide (f = g) := decide_eq_decide.mpr ⟨fun q => V.str.inj q, fun q => by rw [q]⟩
      rw [e1]
      cases e : decide (f = g) with
      | false =>
        rw [e] at k
        exact iteF k
      | true =>
        rw [e] at k
        refine iteT ?_
        exact ⟨_, rfl, x, _, dx, _, _, rfl, hx, T.cl_Answer, T.nN, flA_num f n h, _, rfl, y, _, dy, _, _, rfl, hy, T.cl_Answer, T.nN, flA_num g m hm', n, m, _, _, rfl, rfl, .inl hn, .inl hm, flat_kvsN L, flat_kvsN M, k⟩
    · refine ⟨_, rfl, v, .ref a.c_Answer, t, _, false, rfl, .own _, ht, kt, _, rfl, ?_⟩
      exact iteF k
theorem str_empty (z : Str) : Str.empty ++ z = z := by
  cases z with
  | mk c =>
    show Str.mk (#[] ++ c) = Str.mk c
    rw [Array.empty_append]
theorem len_app (x y : Str) : (x ++ y).length = x.length + y.length := Array.size_append
/-- str of an answer -/
def shown (f : Str) (n : Nat) : Str := f ++ " answer of " ++ toString (n : Int) ++ " heads"
def spStr (C : Addr) : Sp := fun vs H Q _ => ∃ x f L, vs = [.ref x] ∧ AnsAt C H x f L ∧ f.length ≤ 100 ∧ L.length ≤ 1000 ∧ Q (.str (shown f L.length)) H
theorem int_len {n : Nat} (h : n ≤ 1000) : (Str.ofString (toString ((n : Nat) : Int))).length ≤ 4 := by
  have q : ∀ m, m ≤ 1000 → (Str.ofString (toString ((m : Nat) : Int))).length ≤ 4 := by decide +kernel
  exact q n h
theorem log_small {n : Nat} (h : n ≤ 1000) : ((n : Nat) : Int).natAbs.log2 < 1920 := by
  have q : ((n : Nat) : Int).natAbs = n := rfl
  rw [q]
  have : n.log2 < 10 := by
    rcases Nat.eq_zero_or_pos n with rfl | p
    · decide
    · exact (Nat.log2_lt (by omega)).mpr (by omega)
  omega
theorem ok_Answer___str__ (T : Txt K mg a) : FnOk P w K mg base CX0 1 a.Answer___str__ a.fd_Answer___str__ ps_Answer___str__ (spStr a.c_Answer) := by
  have F := T.F_Answer___str__
  refine F.ok (k := 0) sc_Answer___str__ (fun vs H Q E h => ?_) (fun cdv A outer s H vs Q E hr h => ?_)
  · obtain ⟨x, f, L, rfl, ⟨dx, n, h, bs, hx, hn, hh, hk⟩, hf, hl, k⟩ := h
    rfl
  · obtain ⟨x, f, L, rfl, ⟨dx, n, h, bs, hx, hn, hh, hk⟩, hf, hl, k⟩ := h
    have hu := hu_of hr
    refine ⟨_, (pss_one (ps_ret (pe_joined (PJ.cons (pe_fmt (pe_fld (pv 0) rfl)) (PJ.cons pe_str (PJ.cons (pe_fmt (pe_callB call_len (by rfl) T.len (by decide +kernel) (pa_cons (pe_fld (pv 0) rfl) pa_nil))) (PJ.cons pe_str PJ.nil))))))), ?_⟩
    have ln : (Str.ofString (toString ((L.length : Nat) : Int))).length ≤ 4 := int_len hl
    have lb := keys_len hk
    refine ⟨_, rfl, x, _, dx, _, _, rfl, hx, T.cl_Answer, T.nF, flA_form f n h, .inl ⟨f, rfl, by rw [sizeLine_eq]; omega, f, rfl, ?_, " answer of ", rfl, ?_, ?_⟩⟩
    · rw [str_empty, sizeLine_eq]
      omega
    · rw [str_empty, len_app, sizeLine_eq]
      have : (" answer of " : Str).length = 11 := rfl
      omega
    refine ⟨_, rfl, x, _, dx, _, _, rfl, hx, T.cl_Answer, T.nH, flA_heads f n h, _, _, rfl, .inr ⟨_, .inl (.inl hh), rfl⟩, .inr ⟨_, rfl, ?_, _, rfl, ?_, " heads", rfl, ?_, ?_⟩⟩
    · rw [List.length_map, lb]
      exact log_small hl
    · rw [List.length_map, lb, str_empty, len_app, len_app, sizeLine_eq]
      have : (" answer of " : Str).length = 11 := rfl
      omega
    · rw [List.length_map, lb, str_empty, len_app, len_app, len_app, sizeLine_eq]
      have : (" answer of " : Str).length = 11 := rfl
      have : (" heads" : Str).length = 6 := rfl
      omega
    · rw [List.length_map, lb, str_empty]
      exact k
end
end K02

set_option Elab.async false
set_option linter.all false
set_option maxRecDepth 100000
set_option maxHeartbeats 4000000
open L2 in
local macro_rules | `(tactic| walk_at "r1") => `(tactic| first
  | refine ⟨_, rfl, ?_⟩
  | refine ⟨_, _, rfl, rfl, ?_⟩)
open L2 in
local macro_rules | `(tactic| walk_at "q1") => `(tactic| first
  | refine ⟨_, rfl, ?_⟩
  | refine ⟨_, _, rfl, rfl, ?_⟩
  | refine And.intro (show CMul _ _ from Or.inr ⟨by decide, by decide⟩) ?_
  | refine And.intro (show CMul _ _ from Or.inl ⟨by first | decide | omega, by first | decide | omega⟩) ?_
  | refine And.intro (show CMul _ _ from Or.inr ⟨by omega, by omega⟩) ?_
  | refine And.intro (show CDiv _ _ from ⟨by omega, by omega⟩) ?_
  | refine And.intro (show Dt.CPowG _ _ from ⟨by decide, by decide +kernel⟩) ?_
  | refine And.intro (by first | decide | omega) ?_
  | refine And.intro (Int.pow_pos (Int.pow_pos (by decide))) ?_
  | refine ⟨_, _, _, _, rfl, rfl, SqL.of (by first | assumption | exact upd_same), (by rfl), ?_⟩
  | refine ⟨_, _, _, _, rfl, rfl, (by first | assumption | exact upd_same), (by rfl), ?_⟩
  | refine Or.inl ⟨_, rfl, ?_⟩
  | refine Or.inr ⟨_, rfl, ?_⟩)
local macro_rules | `(tactic| walk_at "q") => `(tactic| repeat (walk_at "q1"))
local macro_rules | `(tactic| walk_at "eqt") => `(tactic| (refine ⟨_, rfl, ?_⟩; refine ⟨rfl, ?_⟩; first
  | (refine ⟨true, rfl, ?_⟩; refine L2.iteT ?_)
  | (refine ⟨false, rfl, ?_⟩; refine L2.iteF ?_)))
local macro_rules | `(tactic| walk_at "sz") => `(tactic| (rw [PySem.sizeLine_eq]; simp))
namespace K02
open PySem PySem.Spec PyProof.Rows L2 Dt An Rp
section
variable {P : Program} {w : World} {K : PySem.W.Frag} {mg : Str → Option Value} {base : Heap} {a : Ads}
/-- the heads in a list: each a tuple of ints at its place -/
def Heads (H : Hp) (ks : List (List Key)) (bs : List Addr) : Prop := Paired (fun k b => H b = some (.tup (k.map kV))) ks bs
/-- whether all have one length -/
def oneKs (ks : List (List Key)) : Bool := decide ((SL.dist (ks.map fun k => (k.length : Int))).length ≤ 1)
theorem Heads.at {H : Hp} : ∀ {ks : List (List Key)} {bs : List Addr} {i : Nat} {b : Addr}, Heads H ks bs → bs[i]? = some b → ∃ k, ks[i]? = some k ∧ H b = some (.tup (k.map kV))
  | _, _, i, b, .nil, e => by cases e
  | _, _, 0, b, .cons (a := k) h t, e => by
    cases e
    exact ⟨k, rfl, h⟩
  | _ :: ks, _ :: bs, i + 1, b, .cons h t, e => Heads.at (ks := ks) (bs := bs) t e
theorem Heads.len {H : Hp} {ks : List (List Key)} {bs : List Addr} (h : Heads H ks bs) : ks.length = bs.length := Paired.length h
theorem Heads.app {H : Hp} : ∀ {ks js : List (List Key)} {bs cs : List Addr}, Heads H ks bs → Heads H js cs → Heads H (ks ++ js) (bs ++ cs)
  | _, _, _, _, .nil, r => r
  | _, _, _, _, .cons h t, r => .cons h (Heads.app (show Heads H _ _ from t) r)
theorem Heads.keep {H H' : Hp} {ks : List (List Key)} {bs : List Addr} (h : Heads H ks bs) (k : ∀ b ys, H b = some (.tup ys) → H' b = some (.tup ys)) : Heads H' ks bs := Paired.mapP h fun p b e => k b _ e
theorem heads_of {H : Hp} : ∀ {kvs : List (List Key × V)} {bs : List Addr}, IsKeys H kvs bs → Heads H (kvs.map (·.1)) bs
  | _, _, .nil => .nil
  | _, _, .cons h t => .cons h (heads_of (show IsKeys H _ _ from t))
def spOneL (K : PySem.W.Frag) : Sp := fun vs H Q _ => ∃ (p : Addr) (ks : List (List Key)) (bs : List Addr), vs = [.ref p] ∧ H p = some (.lst (bs.map V.ref)) ∧ Heads H ks bs ∧ ks.length ≤ 2000 ∧ ∀ H', Same H H' → Q (.bl (oneKs ks)) H'
theorem ok__are_of_one_length_list (T : Txt K mg a) : FnOk P w K mg base CX0 1 a._are_of_one_length a.fd__are_of_one_length ps__are_of_one_length (spOneL K) := by
  have F := T.F__are_of_one_length
  refine F.ok (k := 0) sc__are_of_one_length (fun vs H Q E h => ?_) (fun cdv A outer s H vs Q E hr h => ?_)
  · obtain ⟨p, ks, bs, rfl, hp, hk, hl, k⟩ := h
    rfl
  · obtain ⟨p, ks, bs, rfl, hp, hk, hl, k⟩ := h
    have hu := hu_of hr
    refine ⟨_, (pss_one (ps_ret (pe_cmpR op_le (SL.pe_lenSetD (by rfl) T.len (by rfl) T.set (pe_lc (own := [("head", 1)]) rfl sc__are_of_one_length.nd (pi_list (pv 0)) (blkOk_by (N := nm__are_of_one_length) (sc := defScope s__are_of_one_length) (by decide +kernel)) (fun _ _ _ _ _ => (pg_name (i := 1) sc__are_of_one_length.nd rfl (Or.inl rfl))) (fun _ _ _ _ _ => pts_nil) (fun _ _ _ _ _ => (pe_callB (id := "len") (r := rLenR K) call_len (by rfl) T.len (by decide +kernel) (pa_cons (pv 1) pa_nil))))) pe_int (nomark _)))), ?_⟩
    have hlb := hk.len
    refine ⟨_, rfl, p, rfl, ⟨_, .inl (.inl hp)⟩, fun D hD => ?_⟩
    refine lc_it (walk_list (K := K) (a := p) (xs := bs.map V.ref)) (fun i H1 => H1 = upd H D (.lst ((ks.take i).map fun q => V.int (q.length : Nat)))) rfl ?_ ?_ ?_
    · rintro i H1 hi rfl
      refine .inl (.inl ?_)
      rw [upd_ne (ne_of_none hp hD)]
      exact hp
    · rintro i x H1 H2 hi rfl ⟨rfl, hx⟩
      rw [List.getElem?_map] at hx
      obtain ⟨b, hb, rfl⟩ := Option.map_eq_some_iff.mp hx
      obtain ⟨kk, hkk, hq⟩ := hk.at hb
      refine ⟨rfl, ?_⟩
      dsimp only [tYes]
      rw [if_pos rfl]
      refine ⟨_, rfl, _, _, rfl, .inr ⟨_, .inl (.inl (by rw [upd_ne (ne_of_none hq hD)]; exact hq)), rfl⟩, _, upd_same, ?_, ?_⟩
      · rw [List.length_map, List.length_take, sizeLine_eq]
        omega
      · rw [upd_upd, List.take_add_one, hkk, List.map_append, List.length_map]
        rfl
    · rintro H1 rfl
      rw [List.length_map, ← hlb, List.take_length]
      refine ⟨D, ks.map fun q => ((q.length : Nat) : Int), rfl, ?_, ?_, ?_⟩
      · refine .inl (.inl ?_)
        rw [upd_same, List.map_map]
        rfl
      · rw [List.length_map]
        omega
      · refine ⟨_, _, rfl, rfl, ?_⟩
        have e1 : oneKs ks = decide (((SL.dist (ks.map fun q => ((q.length : Nat) : Int))).length : Int) ≤ 1) := decide_eq_decide.mpr (by omega)
        rw [e1] at k
        exact k _ (sameNew hD)
def spCkN (C CO : Addr) : Sp := fun vs H Q E => ∃ x f L, vs = [.ref x] ∧ AnsAt C H x f L ∧ (f = "distinct" → E (.ref CO) none H) ∧ (f ≠ "distinct" → Q .non H)
def spCkH (C CO : Addr) : Sp := fun vs H Q E => ∃ x f L, vs = [.ref x] ∧ AnsAt C H x f L ∧ (f ≠ "distinct" → E (.ref CO) none H) ∧ (f = "distinct" → Q .non H)
theorem str_eq_d (f g : Str) : decide (V.str f = V.str g) = decide (f = g) := decide_eq_decide.mpr ⟨fun q => V.str.inj q, fun q => by rw [q]⟩
theorem ok_Answer__check_numbers (T : Txt K mg a) : FnOk P w K mg base (L2.CX P w) 1 a.Answer__check_numbers a.fd_Answer__check_numbers ps_Answer__check_numbers (spCkN a.c_Answer a.c_InvalidOperation) := by
  have F := T.F_Answer__check_numbers
  refine F.okX (k := 0) sc_Answer__check_numbers (fun vs H Q E h => ?_) (fun cdv A outer s H vs Q E hr h => ?_)
  · obtain ⟨x, f, L, rfl, ⟨dx, n, h, bs, hx, hn, hh, hk⟩, kE, kQ⟩ := h
    rfl
  · obtain ⟨x, f, L, rfl, ⟨dx, n, h, bs, hx, hn, hh, hk⟩, kE, kQ⟩ := h
    have hu := hu_of hr
    refine ⟨_, (pss_one (ps_if (pt_cmpR op_eq (pe_fld (pv 0) rfl) pe_str (nomark _)) (pss_one (ps_raise rfl (takes_of rfl rfl rfl rfl) (pmk_own PySem.F.excBase_ValueError T.q_InvalidOperation T.g_c_InvalidOperation T.kp_InvalidOperation (raises_own T.b_InvalidOperation T.ty_InvalidOperation) (by rfl)))) pss_nil)), ?_⟩
    refine ⟨_, rfl, x, _, dx, _, _, rfl, hx, T.cl_Answer, T.nF, flA_form f n h, rfl, _, rfl, ?_⟩
    rw [str_eq_d]
    by_cases c : f = "distinct"
    · rw [decide_eq_true c]
      exact iteT (kE c)
    · rw [decide_eq_false c]
      exact iteF (kQ c)
theorem ok_Answer__check_heads (T : Txt K mg a) : FnOk P w K mg base (L2.CX P w) 1 a.Answer__check_heads a.fd_Answer__check_heads ps_Answer__check_heads (spCkH a.c_Answer a.c_InvalidOperation) := by
  have F := T.F_Answer__check_heads
  refine F.okX (k := 0) sc_Answer__check_heads (fun vs H Q E h => ?_) (fun cdv A outer s H vs Q E hr h => ?_)
  · obtain ⟨x, f, L, rfl, ⟨dx, n, h, bs, hx, hn, hh, hk⟩, kE, kQ⟩ := h
    rfl
  · obtain ⟨x, f, L, rfl, ⟨dx, n, h, bs, hx, hn, hh, hk⟩, kE, kQ⟩ := h
    have hu := hu_of hr
    refine ⟨_, (pss_one (ps_if (pt_cmpR op_ne (pe_fld (pv 0) rfl) pe_str (nomark _)) (pss_one (ps_raise rfl (takes_of rfl rfl rfl rfl) (pmk_own PySem.F.excBase_ValueError T.q_InvalidOperation T.g_c_InvalidOperation T.kp_InvalidOperation (raises_own T.b_InvalidOperation T.ty_InvalidOperation) (by rfl)))) pss_nil)), ?_⟩
    refine ⟨_, rfl, x, _, dx, _, _, rfl, hx, T.cl_Answer, T.nF, flA_form f n h, rfl, _, rfl, ?_⟩
    by_cases c : f = "distinct"
    · rw [show (!decide (V.str f = V.str "distinct")) = false from by rw [str_eq_d, decide_eq_true c]; rfl]
      exact iteF (kQ c)
    · rw [show (!decide (V.str f = V.str "distinct")) = true from by rw [str_eq_d, decide_eq_false c]; rfl]
      exact iteT (kE c)
end
end K02

set_option Elab.async false
set_option linter.all false
set_option maxRecDepth 100000
set_option maxHeartbeats 4000000
open L2 in
local macro_rules | `(tactic| walk_at "r1") => `(tactic| first
  | refine ⟨_, rfl, ?_⟩
  | refine ⟨_, _, rfl, rfl, ?_⟩)
open L2 in
local macro_rules | `(tactic| walk_at "q1") => `(tactic| first
  | refine ⟨_, rfl, ?_⟩
  | refine ⟨_, _, rfl, rfl, ?_⟩
  | refine And.intro (show CMul _ _ from Or.inr ⟨by decide, by decide⟩) ?_
  | refine And.intro (show CMul _ _ from Or.inl ⟨by first | decide | omega, by first | decide | omega⟩) ?_
  | refine And.intro (show CMul _ _ from Or.inr ⟨by omega, by omega⟩) ?_
  | refine And.intro (show CDiv _ _ from ⟨by omega, by omega⟩) ?_
  | refine And.intro (show Dt.CPowG _ _ from ⟨by decide, by decide +kernel⟩) ?_
  | refine And.intro (by first | decide | omega) ?_
  | refine And.intro (Int.pow_pos (Int.pow_pos (by decide))) ?_
  | refine ⟨_, _, _, _, rfl, rfl, SqL.of (by first | assumption | exact upd_same), (by rfl), ?_⟩
  | refine ⟨_, _, _, _, rfl, rfl, (by first | assumption | exact upd_same), (by rfl), ?_⟩
  | refine Or.inl ⟨_, rfl, ?_⟩
  | refine Or.inr ⟨_, rfl, ?_⟩)
local macro_rules | `(tactic| walk_at "q") => `(tactic| repeat (walk_at "q1"))
local macro_rules | `(tactic| walk_at "eqt") => `(tactic| (refine ⟨_, rfl, ?_⟩; refine ⟨rfl, ?_⟩; first
  | (refine ⟨true, rfl, ?_⟩; refine L2.iteT ?_)
  | (refine ⟨false, rfl, ?_⟩; refine L2.iteF ?_)))
local macro_rules | `(tactic| walk_at "sz") => `(tactic| (rw [PySem.sizeLine_eq]; simp))
namespace K02
open PySem PySem.Spec PyProof.Rows L2 Dt An Rp
section
variable {P : Program} {w : World} {K : PySem.W.Frag} {mg : Str → Option Value} {base : Heap} {a : Ads}
/-- the heads of both have one length -/
def oneOf (L M : Nums) : Bool := oneKs ((L ++ M).map fun p => keyN p.1)
def spCkO (K : PySem.W.Frag) (C CO : Addr) : Sp := fun vs H Q E => ∃ x f L v, vs = [.ref x, v] ∧ AnsAt C H x f L ∧ L.length ≤ 1000 ∧
  ((∃ y M, v = .ref y ∧ AnsAt C H y f M ∧ M.length ≤ 1000 ∧ (oneOf L M = true → ∀ H', Same H H' → Q .non H') ∧ (oneOf L M = false → ∀ H', Same H H' → E (.ref CO) none H')) ∨
   (∃ y g M, v = .ref y ∧ AnsAt C H y g M ∧ g ≠ f ∧ E (.ref CO) none H) ∨
   ∃ t, TyX K H v t ∧ PySem.W.kitOne K t (.ref C) = some false ∧ E (.ref CO) none H)
theorem ite_t {c : Bool} {p q : Prop} (h : c = true) (k : p) : if c = true then p else q := by
  rw [if_pos h]
  exact k
theorem ite_f {c : Bool} {p q : Prop} (h : c = false) (k : q) : if c = true then p else q := by
  rw [if_neg (by rw [h]; exact Bool.false_ne_true)]
  exact k
theorem heads_both {H : Hp} {L M : Nums} {bs cs : List Addr} (h1 : IsKeys H (kvsN L) bs) (h2 : IsKeys H (kvsN M) cs) : Heads H ((L ++ M).map fun p => keyN p.1) (bs ++ cs) := by
  have q := (heads_of h1).app (heads_of h2)
  rw [map_kvsN, map_kvsN, ← List.map_append] at q
  exact q
theorem ok_Answer__check_other (T : Txt K mg a) : FnOk P w K mg base (L2.CX P w) 2 a.Answer__check_other a.fd_Answer__check_other ps_Answer__check_other (spCkO K a.c_Answer a.c_InvalidOperation) := by
  have F := T.F_Answer__check_other
  refine F.okX (k := 1) sc_Answer__check_other (fun vs H Q E h => ?_) (fun cdv A outer s H vs Q E hr h => ?_)
  · obtain ⟨x, f, L, v, rfl, hA, hl, hv⟩ := h
    rfl
  · obtain ⟨x, f, L, v, rfl, hA, hl, hv⟩ := h
    have hu := hu_of hr
    refine ⟨_, (pss_cons (ps_if (PW.pt (pw_or (pt_not (pt_val (pe_callB call_isi (by rfl) T.isinstance (by decide +kernel) (pa_cons (pv 1) (pa_cons (pe_glob (v := V.ref a.c_Answer) (by rfl) T.g_c_Answer (by rfl)) pa_nil))))) (pw_or1 (pt_cmpR op_ne (pe_fld (pv 1) rfl) (pe_fld (pv 0) rfl) (nomark _))))) (pss_one (ps_raise rfl (takes_of rfl rfl rfl rfl) (pmk_own PySem.F.excBase_ValueError T.q_InvalidOperation T.g_c_InvalidOperation T.kp_InvalidOperation (raises_own T.b_InvalidOperation T.ty_InvalidOperation) (by rfl)))) pss_nil)
      (pss_one (ps_if (pt_not (pt_val (pe_call (ok__are_of_one_length_list T) (hr.mono (by decide)) (by rfl) T.g__are_of_one_length T.F__are_of_one_length.kp (b__are_of_one_length T) .nil pass0 (pa_cons (pe_lst (StX.pa_star (pe_fld (pv 0) rfl) (StX.pa_star (pe_fld (pv 1) rfl) pa_nil))) pa_nil)))) (pss_one (ps_raise rfl (takes_of rfl rfl rfl rfl) (pmk_own PySem.F.excBase_ValueError T.q_InvalidOperation T.g_c_InvalidOperation T.kp_InvalidOperation (raises_own T.b_InvalidOperation T.ty_InvalidOperation) (by rfl)))) pss_nil))), ?_⟩
    rcases hv with ⟨y, M, rfl, hB, hm, kQ, kE⟩ | ⟨y, g, M, rfl, hB, hne, kE⟩ | ⟨t, ht, kt, kE⟩
    · have tB := ans_ty T hB
      obtain ⟨dx, n, h, bs, hx, hn, hh, hk⟩ := hA
      obtain ⟨dy, m, hm', cs, hy, hm1, hh2, hk2⟩ := hB
      refine ⟨_, rfl, .ref y, .ref a.c_Answer, _, _, true, rfl, .own _, tB, ?_, _, rfl, ?_⟩
      · exact if_pos (beq_self_eq_true _)
      refine iteF ?_
      refine ⟨_, rfl, y, _, dy, _, _, rfl, hy, T.cl_Answer, T.nF, flA_form f m hm', _, rfl, x, _, dx, _, _, rfl, hx, T.cl_Answer, T.nF, flA_form f n h, rfl, _, rfl, ?_⟩
      refine ite_f (by rw [str_eq_d, decide_eq_true rfl]; rfl) ?_
      refine ⟨_, rfl, x, _, dx, _, _, rfl, hx, T.cl_Answer, T.nH, flA_heads f n h, h, _, rfl, .inl (.inl (.inl hh)), _, rfl, y, _, dy, _, _, rfl, hy, T.cl_Answer, T.nH, flA_heads f m hm', hm', _, rfl, .inl (.inl (.inl hh2)), ?_, fun p np => ?_⟩
      · have l1 := keys_len hk
        have l2 := keys_len hk2
        rw [List.append_nil, List.length_append, List.length_map, List.length_map, sizeLine_eq]
        omega
      rw [List.append_nil, ← List.map_append]
      generalize EH1 : upd H p _ = H1
      have hp := (congrFun EH1 p).symm.trans upd_same
      have S1 : Same H H1 := by rw [← EH1]; exact sameNew np
      refine ⟨p, (L ++ M).map fun p => keyN p.1, bs ++ cs, rfl, hp, (heads_both hk hk2).keep fun b ys e => S1 _ _ e, ?_, fun H2 S2 => ?_⟩
      · rw [List.length_map, List.length_append]
        omega
      refine ⟨_, rfl, ?_⟩
      have kk : oneKs ((L ++ M).map fun p => keyN p.1) = oneOf L M := rfl
      cases c : oneOf L M with
      | true => exact ite_f (by rw [kk, c]; rfl) (kQ c H2 (S1.trans S2))
      | false => exact ite_t (by rw [kk, c]; rfl) (kE c H2 (S1.trans S2))
    · have tB := ans_ty T hB
      obtain ⟨dx, n, h, bs, hx, hn, hh, hk⟩ := hA
      obtain ⟨dy, m, hm', cs, hy, hm1, hh2, hk2⟩ := hB
      refine ⟨_, rfl, .ref y, .ref a.c_Answer, _, _, true, rfl, .own _, tB, ?_, _, rfl, ?_⟩
      · exact if_pos (beq_self_eq_true _)
      refine iteF ?_
      refine ⟨_, rfl, y, _, dy, _, _, rfl, hy, T.cl_Answer, T.nF, flA_form g m hm', _, rfl, x, _, dx, _, _, rfl, hx, T.cl_Answer, T.nF, flA_form f n h, rfl, _, rfl, ?_⟩
      exact ite_t (by rw [str_eq_d, decide_eq_false hne]; rfl) kE
    · refine ⟨_, rfl, v, .ref a.c_Answer, t, _, false, rfl, .own _, ht, kt, _, rfl, ?_⟩
      exact iteT kE
end
end K02

set_option Elab.async false
set_option linter.all false
set_option maxRecDepth 100000
set_option maxHeartbeats 4000000
open L2 in
local macro_rules | `(tactic| walk_at "r1") => `(tactic| first
  | refine ⟨_, rfl, ?_⟩
  | refine ⟨_, _, rfl, rfl, ?_⟩)
open L2 in
local macro_rules | `(tactic| walk_at "q1") => `(tactic| first
  | refine ⟨_, rfl, ?_⟩
  | refine ⟨_, _, rfl, rfl, ?_⟩
  | refine And.intro (show CMul _ _ from Or.inr ⟨by decide, by decide⟩) ?_
  | refine And.intro (show CMul _ _ from Or.inl ⟨by first | decide | omega, by first | decide | omega⟩) ?_
  | refine And.intro (show CMul _ _ from Or.inr ⟨by omega, by omega⟩) ?_
  | refine And.intro (show CDiv _ _ from ⟨by omega, by omega⟩) ?_
  | refine And.intro (show Dt.CPowG _ _ from ⟨by decide, by decide +kernel⟩) ?_
  | refine And.intro (by first | decide | omega) ?_
  | refine And.intro (Int.pow_pos (Int.pow_pos (by decide))) ?_
  | refine ⟨_, _, _, _, rfl, rfl, SqL.of (by first | assumption | exact upd_same), (by rfl), ?_⟩
  | refine ⟨_, _, _, _, rfl, rfl, (by first | assumption | exact upd_same), (by rfl), ?_⟩
  | refine Or.inl ⟨_, rfl, ?_⟩
  | refine Or.inr ⟨_, rfl, ?_⟩)
local macro_rules | `(tactic| walk_at "q") => `(tactic| repeat (walk_at "q1"))
local macro_rules | `(tactic| walk_at "eqt") => `(tactic| (refine ⟨_, rfl, ?_⟩; refine ⟨rfl, ?_⟩; first
  | (refine ⟨true, rfl, ?_⟩; refine L2.iteT ?_)
  | (refine ⟨false, rfl, ?_⟩; refine L2.iteF ?_)))
local macro_rules | `(tactic| walk_at "sz") => `(tactic| (rw [PySem.sizeLine_eq]; simp))
namespace K02
open PySem PySem.Spec PyProof.Rows L2 Dt An Rp
section
variable {P : Program} {w : World} {K : PySem.W.Frag} {mg : Str → Option Value} {base : Heap} {a : Ads}
theorem wide_of {f : Str} {L : Nums} (nd : (L.map (·.1)).Nodup) (h : okNums f (kdN L) = true) : 2 ≤ L.length → ∀ p ∈ L, p.1 ≠ [] := by
  intro h2 p hp e
  unfold okNums at h
  rw [Bool.and_eq_true, Bool.and_eq_true] at h
  have o := of_decide_eq_true h.2.1
  rw [kvsOf_kdN] at o
  have o2 := (SL.dist_one _).mp o
  have all0 : ∀ q ∈ L, q.1 = [] := fun q hq => by
    have m : ∀ z ∈ L, ((z.1.length : Nat) : Int) ∈ (kvsN L).map fun p => ((p.1.length : Nat) : Int) := fun z hz => List.mem_map.mpr ⟨(keyN z.1, V.int z.2), List.mem_map.mpr ⟨z, hz, rfl⟩, by unfold keyN; rw [List.length_map]⟩
    have e3 := o2 _ (m q hq) _ (m p hp)
    rw [e] at e3
    exact List.length_eq_zero_iff.mp (by have : q.1.length = 0 := by exact_mod_cast e3
                                         exact this)
  match L, h2, nd, all0 with
  | a :: b :: r, _, nd, all0 =>
    have e1 := all0 a List.mem_cons_self
    have e2 := all0 b (List.mem_cons_of_mem _ List.mem_cons_self)
    have := (List.nodup_cons.mp nd).1
    exact this (List.mem_cons.mpr (.inl (e1.trans e2.symm)))
def putN (L : Nums) (h : List Int) (i : Int) : Nums := if h ∈ L.map (·.1) then L.map (fun p => if p.1 = h then (p.1, i) else p) else L ++ [(h, i)]
theorem put_N (L : Nums) (h : List Int) (i : Int) : putK (kvsN L) (keyN h) (V.int i) = kvsN (putN L h i) := by
  unfold putN
  by_cases c : h ∈ L.map (·.1)
  · rw [if_pos c]
    obtain ⟨q, hq, rfl⟩ := List.mem_map.mp c
    have hm : (keyN q.1, V.int q.2) ∈ kvsN L := List.mem_map.mpr ⟨q, hq, rfl⟩
    unfold putK
    rw [if_pos (List.any_eq_true.mpr ⟨_, hm, decide_eq_true rfl⟩)]
    unfold kvsN
    rw [List.map_map, List.map_map]
    refine List.map_congr_left fun p _ => ?_
    show (if keyN p.1 = keyN q.1 then (keyN p.1, V.int i) else (keyN p.1, V.int p.2)) = (keyN (if p.1 = q.1 then (p.1, i) else p).1, V.int (if p.1 = q.1 then (p.1, i) else p).2)
    by_cases e : p.1 = q.1
    · rw [if_pos e, if_pos (congrArg keyN e)]
    · rw [if_neg e, if_neg fun z => e (keyN_inj z)]
  · rw [if_neg c]
    have no : valV (kvsN L) (keyN h) = none := by
      cases e : valV (kvsN L) (keyN h) with
      | none => rfl
      | some v =>
        have m := valV_in e
        rw [map_kvsN] at m
        obtain ⟨p, hp, ep⟩ := List.mem_map.mp m
        exact absurd (List.mem_map.mpr ⟨p, hp, keyN_inj ep⟩) c
    rw [putK_new _ no]
    unfold kvsN
    rw [List.map_append]
    rfl
/-- the number of a head, 0 where it has none -/
def vN : Nums → List Int → Int
  | [], _ => 0
  | p :: L, h => if p.1 = h then p.2 else vN L h
theorem vN_not : ∀ {L : Nums} {h : List Int}, h ∉ L.map (·.1) → vN L h = 0
  | [], _, _ => rfl
  | p :: L, h, q => by
    unfold vN
    rw [List.map_cons, List.mem_cons, not_or] at q
    rw [if_neg (fun z => q.1 z.symm), vN_not q.2]
theorem vN_mem : ∀ {L : Nums} {p : List Int × Int}, (L.map (·.1)).Nodup → p ∈ L → vN L p.1 = p.2
  | q :: L, p, nd, hp => by
    unfold vN
    rw [List.map_cons, List.nodup_cons] at nd
    rcases List.mem_cons.mp hp with rfl | hp
    · rw [if_pos rfl]
    · rw [if_neg (fun z => nd.1 (by rw [z]; exact List.mem_map.mpr ⟨p, hp, rfl⟩)), vN_mem nd.2 hp]
theorem val_not {L : Nums} {h : List Int} (c : h ∉ L.map (·.1)) : valV (kvsN L) (keyN h) = none := by
  cases e : valV (kvsN L) (keyN h) with
  | none => rfl
  | some v =>
    have m := valV_in e
    rw [map_kvsN] at m
    obtain ⟨p, hp, ep⟩ := List.mem_map.mp m
    exact absurd (List.mem_map.mpr ⟨p, hp, keyN_inj ep⟩) c
theorem val_vN {L : Nums} (nd : (L.map (·.1)).Nodup) (h : List Int) : (valV (kvsN L) (keyN h)).getD (.int 0) = .int (vN L h) := by
  by_cases c : h ∈ L.map (·.1)
  · obtain ⟨p, hp, rfl⟩ := List.mem_map.mp c
    rw [val_kvsN nd hp, vN_mem nd hp]
    rfl
  · rw [val_not c, vN_not c]
    rfl
theorem val_in {L : Nums} (nd : (L.map (·.1)).Nodup) {h : List Int} (c : h ∈ L.map (·.1)) : valV (kvsN L) (keyN h) = some (.int (vN L h)) := by
  obtain ⟨p, hp, rfl⟩ := List.mem_map.mp c
  rw [val_kvsN nd hp, vN_mem nd hp]
theorem val_some {L : Nums} (nd : (L.map (·.1)).Nodup) (h : List Int) : (valV (kvsN L) (keyN h)).isSome = decide (h ∈ L.map (·.1)) := by
  by_cases c : h ∈ L.map (·.1)
  · rw [val_in nd c, decide_eq_true c]
    rfl
  · rw [val_not c, decide_eq_false c]
    rfl
/-- the numbers of L are those of g, none is 0 -/
structure IsF (L : Nums) (g : List Int → Int) : Prop where
  nd : (L.map (·.1)).Nodup
  nz : ∀ p ∈ L, p.2 ≠ 0
  at_ : ∀ h, vN L h = g h
theorem IsF.sub {L M : Nums} {g : List Int → Int} (a : IsF L g) (b : IsF M g) {p : List Int × Int} (hp : p ∈ L) : p ∈ M := by
  have e1 := vN_mem a.nd hp
  have e2 : vN M p.1 = p.2 := by rw [b.at_, ← a.at_]; exact e1
  have c : p.1 ∈ M.map (·.1) := Decidable.byContradiction fun c => a.nz p hp (by rw [← e2]; exact vN_not c)
  obtain ⟨q, hq, eq⟩ := List.mem_map.mp c
  have e3 := vN_mem b.nd hq
  rw [eq, e2] at e3
  have : q = p := Prod.ext eq e3.symm
  rw [← this]
  exact hq
theorem nd_list {L : Nums} (h : (L.map (·.1)).Nodup) : L.Nodup := List.Pairwise.of_map (·.1) (fun _ _ n e => n (by rw [e])) h
theorem IsF.perm {L M : Nums} {g : List Int → Int} (a : IsF L g) (b : IsF M g) : L.Perm M :=
  (List.perm_ext_iff_of_nodup (nd_list a.nd) (nd_list b.nd)).mpr fun _ => ⟨fun h => a.sub b h, fun h => b.sub a h⟩
theorem IsF.of {L : Nums} (nd : (L.map (·.1)).Nodup) (nz : ∀ p ∈ L, p.2 ≠ 0) : IsF L (vN L) := ⟨nd, nz, fun _ => rfl⟩
theorem vN_perm {L M : Nums} (nd : (L.map (·.1)).Nodup) (p : L.Perm M) (h : List Int) : vN M h = vN L h := by
  have nm : (M.map (·.1)).Nodup := (p.map (·.1)).nodup_iff.mp nd
  by_cases c : h ∈ L.map (·.1)
  · obtain ⟨q, hq, rfl⟩ := List.mem_map.mp c
    rw [vN_mem nd hq, vN_mem nm (p.mem_iff.mp hq)]
  · rw [vN_not c, vN_not fun z => c ((p.map (·.1)).mem_iff.mpr z)]
theorem IsF.turn {L M : Nums} {g : List Int → Int} (a : IsF L g) (p : L.Perm M) : IsF M g :=
  ⟨(p.map (·.1)).nodup_iff.mp a.nd, fun q hq => a.nz q (p.mem_iff.mpr hq), fun h => by rw [vN_perm a.nd p, a.at_]⟩
theorem IsF.to {L : Nums} {g g' : List Int → Int} (a : IsF L g) (e : ∀ h, g h = g' h) : IsF L g' := ⟨a.nd, a.nz, fun h => by rw [a.at_, e]⟩
theorem ok_parts {f : Str} {L : Nums} (o : OkN f L) : (∀ p ∈ L, headK (keyN p.1) = true) ∧ (∀ p ∈ L, ∀ q ∈ L, p.1.length = q.1.length) ∧ ∀ p ∈ L, numOk f (.int p.2) = true := by
  have h := o.ok
  unfold okNums at h
  rw [Bool.and_eq_true, Bool.and_eq_true, kvsOf_kdN] at h
  have one := (SL.dist_one _).mp (of_decide_eq_true h.2.1)
  refine ⟨fun p hp => List.all_eq_true.mp h.1 _ (List.mem_map.mpr ⟨p, hp, rfl⟩), fun p hp q hq => ?_, fun p hp => List.all_eq_true.mp h.2.2 _ (List.mem_map.mpr ⟨p, hp, rfl⟩)⟩
  have m : ∀ z ∈ L, ((z.1.length : Nat) : Int) ∈ (kvsN L).map fun p => ((p.1.length : Nat) : Int) := fun z hz => List.mem_map.mpr ⟨(keyN z.1, V.int z.2), List.mem_map.mpr ⟨z, hz, rfl⟩, by unfold keyN; rw [List.length_map]⟩
  exact Int.ofNat.inj (one _ (m p hp) _ (m q hq))
theorem ok_of {f : Str} {L : Nums} (hf : f ∈ forms) (nd : (L.map (·.1)).Nodup) (hh : ∀ p ∈ L, headK (keyN p.1) = true) (one : ∀ p ∈ L, ∀ q ∈ L, p.1.length = q.1.length) (hv : ∀ p ∈ L, numOk f (.int p.2) = true) (hl : L.length ≤ 1000) : OkN f L := by
  have ok : okNums f (kdN L) = true := by
    unfold okNums
    rw [kvsOf_kdN, Bool.and_eq_true, Bool.and_eq_true]
    refine ⟨List.all_eq_true.mpr fun e he => ?_, decide_eq_true ((SL.dist_one _).mpr fun a ha b hb => ?_), List.all_eq_true.mpr fun e he => ?_⟩
    · obtain ⟨p, hp, rfl⟩ := List.mem_map.mp he
      exact hh p hp
    · have back : ∀ a ∈ (kvsN L).map (fun p => ((p.1.length : Nat) : Int)), ∃ p ∈ L, a = ((p.1.length : Nat) : Int) := fun a ha => by
        obtain ⟨kv, hkv, rfl⟩ := List.mem_map.mp ha
        obtain ⟨p, hp, rfl⟩ := List.mem_map.mp hkv
        exact ⟨p, hp, by show (((keyN p.1).length : Nat) : Int) = _; unfold keyN; rw [List.length_map]⟩
      obtain ⟨p, hp, rfl⟩ := back a ha
      obtain ⟨q, hq, rfl⟩ := back b hb
      rw [one p hp q hq]
    · obtain ⟨p, hp, rfl⟩ := List.mem_map.mp he
      exact hv p hp
  exact ⟨hf, ok, nd, hl, wide_of nd ok⟩
theorem one_of {L M : Nums} : oneOf L M = true ↔ ∀ p ∈ L ++ M, ∀ q ∈ L ++ M, p.1.length = q.1.length := by
  have m : ∀ z ∈ L ++ M, ((z.1.length : Nat) : Int) ∈ ((L ++ M).map fun p => keyN p.1).map fun k => (k.length : Int) := fun z hz => List.mem_map.mpr ⟨keyN z.1, List.mem_map.mpr ⟨z, hz, rfl⟩, by unfold keyN; rw [List.length_map]⟩
  have back : ∀ a ∈ ((L ++ M).map fun p => keyN p.1).map (fun k => (k.length : Int)), ∃ p ∈ L ++ M, a = ((p.1.length : Nat) : Int) := fun a ha => by
    obtain ⟨kv, hkv, rfl⟩ := List.mem_map.mp ha
    obtain ⟨p, hp, rfl⟩ := List.mem_map.mp hkv
    exact ⟨p, hp, by unfold keyN; rw [List.length_map]⟩
  unfold oneOf oneKs
  rw [decide_eq_true_iff, SL.dist_one]
  constructor
  · intro h p hp q hq
    exact Int.ofNat.inj (h _ (m p hp) _ (m q hq))
  · intro h a ha b hb
    obtain ⟨p, hp, rfl⟩ := back a ha
    obtain ⟨q, hq, rfl⟩ := back b hb
    rw [h p hp q hq]
/-- what a dict comprehension over heads that may come twice makes -/
structure Sums (hs : List (List Int)) (g : List Int → Int) (S : Nums) : Prop where
  nd : (S.map (·.1)).Nodup
  val : ∀ p ∈ S, p.2 = g p.1
  mem : ∀ h, h ∈ S.map (·.1) ↔ h ∈ hs
  len : S.length ≤ hs.length
theorem Sums.nil {g : List Int → Int} : Sums [] g [] := ⟨List.nodup_nil, (fun _ h => by cases h), fun _ => Iff.rfl, Nat.le_refl _⟩
theorem Sums.put {hs : List (List Int)} {g : List Int → Int} {S : Nums} (s : Sums hs g S) (h : List Int) : Sums (hs ++ [h]) g (putN S h (g h)) := by
  unfold putN
  by_cases c : h ∈ S.map (·.1)
  · rw [if_pos c]
    have e : (S.map fun p => if p.1 = h then (p.1, g h) else p) = S := by
      refine (List.map_congr_left fun p hp => ?_).trans (List.map_id _)
      by_cases z : p.1 = h
      · rw [if_pos z]
        exact Prod.ext rfl (by show g h = p.2; rw [s.val p hp, z])
      · rw [if_neg z]
        rfl
    rw [e]
    refine ⟨s.nd, s.val, fun j => ?_, by rw [List.length_append]; exact Nat.le_succ_of_le s.len⟩
    rw [s.mem, List.mem_append, List.mem_singleton]
    exact ⟨.inl, fun z => z.elim id fun z => by rw [z]; exact (s.mem h).mp c⟩
  · rw [if_neg c]
    refine ⟨?_, fun p hp => ?_, fun j => ?_, by rw [List.length_append, List.length_append]; exact Nat.add_le_add s.len (Nat.le_refl _)⟩
    · rw [List.map_append]
      exact List.nodup_append.mpr ⟨s.nd, List.nodup_cons.mpr ⟨by simp, List.nodup_nil⟩, fun a ha b hb z => by
        rw [z, List.mem_singleton.mp hb] at ha
        exact c ha⟩
    · rcases List.mem_append.mp hp with hp | hp
      · exact s.val p hp
      · rw [List.mem_singleton.mp hp]
    · rw [List.map_append, List.mem_append, List.mem_append, s.mem]
      exact Iff.rfl
theorem Sums.at_ {hs : List (List Int)} {g : List Int → Int} {S : Nums} (s : Sums hs g S) {h : List Int} (c : h ∈ hs) : vN S h = g h := by
  obtain ⟨p, hp, rfl⟩ := List.mem_map.mp ((s.mem h).mpr c)
  rw [vN_mem s.nd hp, s.val p hp]
/-- .. without those of number 0 -/
def nzF (S : Nums) : Nums := S.filter fun p => decide (p.2 ≠ 0)
theorem nz_nd {S : Nums} (h : (S.map (·.1)).Nodup) : ((nzF S).map (·.1)).Nodup := List.Nodup.sublist (List.Sublist.map _ List.filter_sublist) h
theorem vN_nz : ∀ {S : Nums}, (S.map (·.1)).Nodup → ∀ h, vN (nzF S) h = vN S h := fun {S} nd h => by
  by_cases c : h ∈ S.map (·.1)
  · obtain ⟨p, hp, rfl⟩ := List.mem_map.mp c
    rw [vN_mem nd hp]
    by_cases z : p.2 = 0
    · rw [z]
      refine vN_not fun q => ?_
      obtain ⟨r, hr, er⟩ := List.mem_map.mp q
      have r1 := List.mem_filter.mp hr
      have e1 := vN_mem nd r1.1
      rw [er, vN_mem nd hp] at e1
      exact of_decide_eq_true r1.2 (e1.symm.trans z)
    · exact vN_mem (nz_nd nd) (List.mem_filter.mpr ⟨hp, decide_eq_true z⟩)
  · rw [vN_not c]
    refine vN_not fun q => c ?_
    obtain ⟨r, hr, er⟩ := List.mem_map.mp q
    exact List.mem_map.mpr ⟨r, (List.mem_filter.mp hr).1, er⟩
theorem Sums.isF {hs : List (List Int)} {g : List Int → Int} {S : Nums} (s : Sums hs g S) (h0 : ∀ h, h ∉ hs → g h = 0) : IsF (nzF S) g := by
  refine ⟨nz_nd s.nd, fun p hp => of_decide_eq_true (List.mem_filter.mp hp).2, fun h => ?_⟩
  rw [vN_nz s.nd]
  by_cases c : h ∈ hs
  · exact s.at_ c
  · rw [h0 h c]
    exact vN_not fun z => c ((s.mem h).mp z)
theorem put_nz {S : Nums} (nd : (S.map (·.1)).Nodup) {i : Nat} {p : List Int × Int} (hp : S[i]? = some p) (z : p.2 ≠ 0) : putK (kvsN (nzF (S.take i))) (keyN p.1) (V.int p.2) = kvsN (nzF (S.take (i + 1))) := by
  have no : p.1 ∉ (nzF (S.take i)).map (·.1) := fun q => by
    obtain ⟨r, hr, er⟩ := List.mem_map.mp q
    obtain ⟨j, hj⟩ := List.mem_iff_getElem?.mp (List.mem_filter.mp hr).1
    rw [List.getElem?_take] at hj
    by_cases hji : j < i
    · rw [if_pos hji] at hj
      obtain ⟨l1, g1⟩ := List.getElem?_eq_some_iff.mp hj
      obtain ⟨l2, g2⟩ := List.getElem?_eq_some_iff.mp hp
      have nq := List.pairwise_iff_getElem.mp nd j i (by rw [List.length_map]; exact l1) (by rw [List.length_map]; exact l2) hji
      rw [List.getElem_map, List.getElem_map, g1, g2] at nq
      exact absurd er nq
    · rw [if_neg hji] at hj
      cases hj
  rw [put_N, show putN (nzF (S.take i)) p.1 p.2 = nzF (S.take i) ++ [(p.1, p.2)] from if_neg no, List.take_add_one, hp]
  unfold nzF
  rw [List.filter_append, show (some p).toList = [p] from rfl, List.filter_cons_of_pos (by exact decide_eq_true z)]
  rfl
theorem skip_nz {S : Nums} {i : Nat} {p : List Int × Int} (hp : S[i]? = some p) (z : p.2 = 0) : nzF (S.take (i + 1)) = nzF (S.take i) := by
  unfold nzF
  rw [List.take_add_one, hp, List.filter_append, show (some p).toList = [p] from rfl, List.filter_cons_of_neg (by rw [z]; decide)]
  exact List.append_nil _
/-- no exception leaves -/
theorem never {X : Cx} : L2.Passes (L2.CX X.prog X.w) X (fun _ _ _ => False) := fun _ _ _ _ _ _ _ h => by
  obtain ⟨_, _, _, _, _, _, _, _, _, _, _, _, q⟩ := h
  exact q.elim
def SortN (L : Nums) : Prop := (L.map (·.1)).Pairwise fun a b => Dh.kLt (keyN b) (keyN a) = false
/-- a new answer with the numbers of g -/
structure NewA (C : Addr) (H H' : Hp) (z : Addr) (f : Str) (L : Nums) (g : List Int → Int) : Prop where
  at_ : AnsAt C H' z f L
  same : Same H H'
  ok : OkN f L
  sort : SortN L
  isF : IsF L g
theorem okN_perm {f : Str} {L M : Nums} (o : OkN f L) (p : M.Perm L) : OkN f M := by
  have h := o.ok
  unfold okNums at h
  rw [Bool.and_eq_true, Bool.and_eq_true, kvsOf_kdN] at h
  have nd : (M.map (·.1)).Nodup := (p.map (·.1)).nodup_iff.mpr o.nd
  have pk : (kdN M).Perm (kdN L) := p.map _
  have ok : okNums f (kdN M) = true := by
    unfold okNums
    rw [Bool.and_eq_true, Bool.and_eq_true, kvsOf_kdN]
    refine ⟨List.all_eq_true.mpr fun e he => List.all_eq_true.mp h.1 e (pk.mem_iff.mp he), decide_eq_true ((SL.dist_one _).mpr fun a ha b hb => ?_), List.all_eq_true.mpr fun e he => List.all_eq_true.mp h.2.2 e (pk.mem_iff.mp he)⟩
    have pm : ((kvsN M).map fun p => ((p.1.length : Nat) : Int)).Perm ((kvsN L).map fun p => ((p.1.length : Nat) : Int)) := (p.map _).map _
    exact (SL.dist_one _).mp (of_decide_eq_true h.2.1) a (pm.mem_iff.mp ha) b (pm.mem_iff.mp hb)
  exact ⟨o.form, ok, nd, by rw [p.length_eq]; exact o.len, wide_of nd ok⟩
theorem made {C CI : Addr} {H Hc : Hp} {f : Str} {R : Nums} {g : List Int → Int} {D2 : Addr} {Q' : V → Hp → Prop} (S : Same H Hc) (hD : Hc D2 = some (.dT (kvsN R))) (o : OkN f R) (i : IsF R g) (k : ∀ z Ls H', NewA C H H' z f Ls g → Q' (.ref z) H') :
    ∀ (x dx : Addr), Hc x = none → Hc dx = none → dx ≠ x → spAns K C CI (V.ref x :: ([V.str f, V.ref D2] ++ [])) (upd (upd Hc dx (.own x)) x (.ins C dx [])) (fun v H2 => v = .non ∧ Q' (.ref x) H2) (fun _ _ _ => False) := by
  intro x dx hx hdx ne
  have n1 : D2 ≠ x := ne_of_none hD hx
  have n2 : D2 ≠ dx := ne_of_none hD hdx
  refine ⟨x, dx, _, _, rfl, upd_same, .inl ⟨f, R, rfl, o, .inr ⟨D2, rfl, n1, by rw [upd_ne n1, upd_ne n2]; exact hD⟩, fun Ls n H' srt at' _ kp => ⟨rfl, k x Ls H' ⟨at'.at, fun b u e => ?_, okN_perm o srt.1, srt.2, i.turn srt.1.symm⟩⟩⟩⟩
  have e2 := S b u e
  have b1 : b ≠ x := ne_of_none e2 hx
  exact kp b u b1 (by rw [upd_ne b1, upd_ne (ne_of_none e2 hdx)]; exact e2)
/-- the heads of two answers whose heads have one length -/
theorem both_heads {f : Str} {L M : Nums} (oL : OkN f L) (oM : OkN f M) (one : oneOf L M = true) {R : Nums} (sub : ∀ p ∈ R, p.1 ∈ (L ++ M).map (·.1)) : (∀ p ∈ R, headK (keyN p.1) = true) ∧ ∀ p ∈ R, ∀ q ∈ R, p.1.length = q.1.length := by
  have w := one_of.mp one
  refine ⟨fun p hp => ?_, fun p hp q hq => ?_⟩
  · obtain ⟨r, hr, e⟩ := List.mem_map.mp (sub p hp)
    rw [← e]
    rcases List.mem_append.mp hr with hr | hr
    · exact (ok_parts oL).1 r hr
    · exact (ok_parts oM).1 r hr
  · obtain ⟨r, hr, e⟩ := List.mem_map.mp (sub p hp)
    obtain ⟨t, ht, e2⟩ := List.mem_map.mp (sub q hq)
    rw [← e, ← e2]
    exact w r hr t ht
def spPlus (C : Addr) : Sp := fun vs H Q _ => ∃ x y f L M s, vs = [.ref x, .ref y, .int s] ∧ AnsAt C H x f L ∧ AnsAt C H y f M ∧ OkN f L ∧ OkN f M ∧ f ≠ "distinct" ∧ (s = 1 ∨ s = -1) ∧ oneOf L M = true ∧ L.length + M.length ≤ 1000 ∧
  ∀ z Ls H', NewA C H H' z f Ls (fun h => vN L h + s * vN M h) → Q (.ref z) H'
theorem ok_Answer__plus (T : Txt K mg a) : FnOk P w K mg base CX0 6 a.Answer__plus a.fd_Answer__plus ps_Answer__plus (spPlus a.c_Answer) := by
  have F := T.F_Answer__plus
  refine F.ok (k := 5) sc_Answer__plus (fun vs H Q E h => ?_) (fun cdv A outer s H vs Q E hr h => ?_)
  · obtain ⟨x, y, f, L, M, s0, rfl, ⟨dx, n, h, bs, hx, hn, hh, hk⟩, ⟨dy, m, h2, cs, hy, hm, hh2, hk2⟩, oL, oM, nf, hs, one, hl, k⟩ := h
    rfl
  · obtain ⟨x, y, f, L, M, s0, rfl, ⟨dx, n, h, bs, hx, hn, hh, hk⟩, ⟨dy, m, h2, cs, hy, hm, hh2, hk2⟩, oL, oM, nf, hs, one, hl, k⟩ := h
    have hu := hu_of hr
    refine ⟨_, (pss_cons (ps_asg (pe_tup (pa_cons (pe_fld (pv 0) rfl) (pa_cons (pe_fld (pv 1) rfl) pa_nil))) (pg_tup rfl (pgs_cons (pg_name (i := 3) sc_Answer__plus.nd rfl (Or.inr rfl)) (pgs_cons (pg_name (i := 4) sc_Answer__plus.nd rfl (Or.inr rfl)) pgs_nil))))
      (pss_cons (ps_set (i := 5) sc_Answer__plus.nd rfl (Or.inr rfl) (Dh.pe_dcA (t := true) (own := [("head", 6)]) hu rfl sc_Answer__plus.nd (pi_list (pe_lst (Dh.pa_starD rfl (pv 3) (Dh.pa_starD rfl (pv 4) pa_nil)))) (blkOk_by (N := nm_Answer__plus) (sc := defScope s_Answer__plus) (by decide +kernel)) ⟨(fun _ _ _ _ _ => (pg_name (i := 6) sc_Answer__plus.nd rfl (Or.inl rfl))), (fun _ _ _ _ _ => pts_nil), (fun _ _ _ _ _ => (pv 6)), (fun _ _ _ _ _ => (pe_op op_add (pe_dget2 hu (pv 3) (pv 6) pe_int ⟨rfl, rfl, rfl, rfl⟩) (pe_op op_mul (pv 2) (pe_dget2 hu (pv 4) (pv 6) pe_int ⟨rfl, rfl, rfl, rfl⟩))))⟩))
      (pss_one (ps_ret (pe_make T.mk_Answer (ok_Answer___init__ T) (hr.mono (by decide)) (by rfl) T.g_c_Answer (b_Answer___init__ T) .nil never (pa_cons (pe_fld (pv 0) rfl) (pa_cons (pe_lock (Dh.pe_dcA (t := true) (own := [("head", 6)]) hu rfl sc_Answer__plus.nd (pi_keys (pv 5)) (blkOk_by (N := nm_Answer__plus) (sc := defScope s_Answer__plus) (by decide +kernel)) ⟨(fun _ _ _ _ _ => (pg_name (i := 6) sc_Answer__plus.nd rfl (Or.inl rfl))), (fun _ _ _ _ _ => (pts_one (pt_cmpR op_ne (pe_dget hu (pv 5) (pv 6) (fun _ _ => rfl)) pe_int (nomark _)))), (fun _ _ _ _ _ => (pv 6)), (fun _ _ _ _ _ => (pe_dget hu (pv 5) (pv 6) (fun _ _ => rfl)))⟩)) pa_nil))))))), ?_⟩
    refine ⟨_, rfl, x, _, dx, _, _, rfl, hx, T.cl_Answer, T.nN, flA_num f n h, _, rfl, y, _, dy, _, _, rfl, hy, T.cl_Answer, T.nN, flA_num f m h2, (by show 2 ≤ sizeLine; decide), fun p np => ?_⟩
    generalize EH1 : upd H p _ = H1
    have hp := (congrFun EH1 p).symm.trans upd_same
    have S1 : Same H H1 := by rw [← EH1]; exact sameNew np
    refine ⟨p, _, rfl, .inl (.inl hp), rfl, _, _, rfl, _, _, rfl, rfl, ?_⟩
    refine ⟨_, rfl, n, kvsN L, rfl, .inl (S1 _ _ hn), fun bs1 ik1 => ⟨_, rfl, m, kvsN M, rfl, .inl (S1 _ _ hm), fun cs1 ik2 => ⟨?_, fun q nq => ?_⟩⟩⟩
    · have l1 := keys_len ik1
      have l2 := keys_len ik2
      rw [List.append_nil, List.length_append, List.length_map, List.length_map, sizeLine_eq]
      omega
    rw [List.append_nil, ← List.map_append]
    have hds := heads_both ik1 ik2
    generalize EH2 : upd H1 q _ = H2
    have hq := (congrFun EH2 q).symm.trans upd_same
    have S2 : Same H1 H2 := by rw [← EH2]; exact sameNew nq
    replace hds := hds.keep fun b ys e => S2 _ _ e
    have lhd := hds.len
    rw [List.length_map] at lhd
    have hn2 := S2 _ _ (S1 _ _ hn)
    have hm2 := S2 _ _ (S1 _ _ hm)
    refine ⟨q, rfl, ⟨_, .inl (.inl hq)⟩, fun D hD => ?_⟩
    have nd1 : D ≠ n := fun z => by rw [z, hn2] at hD; cases hD
    have nd2 : D ≠ m := fun z => by rw [z, hm2] at hD; cases hD
    refine Dh.dcA_it (walk_list (K := K) (a := q) (xs := (bs1 ++ cs1).map V.ref)) (fun i H3 => ∃ S, H3 = upd H2 D (.dT (kvsN S)) ∧ Sums (((L ++ M).take i).map (·.1)) (fun h => vN L h + s0 * vN M h) S) ⟨[], rfl, Sums.nil⟩ ?_ ?_ ?_
    · rintro i H3 hi ⟨S, rfl, _⟩
      refine .inl (.inl ?_)
      rw [upd_ne (ne_of_none hq hD)]
      exact hq
    · rintro i b0 H3 H4 hi ⟨S, rfl, sm⟩ ⟨rfl, hb⟩
      rw [List.getElem?_map] at hb
      obtain ⟨b, hb2, rfl⟩ := Option.map_eq_some_iff.mp hb
      obtain ⟨kk, hkk, hbk⟩ := hds.at hb2
      rw [List.getElem?_map] at hkk
      obtain ⟨pr, hpr, rfl⟩ := Option.map_eq_some_iff.mp hkk
      refine ⟨rfl, ?_⟩
      dsimp only [tYes]
      rw [if_pos rfl]
      have hbD : upd H2 D (.dT (kvsN S)) b = some (.tup ((keyN pr.1).map kV)) := by
        rw [upd_ne (ne_of_none hbk hD)]
        exact hbk
      have hnD : upd H2 D (.dT (kvsN S)) n = some (.dT (kvsN L)) := by
        rw [upd_ne (Ne.symm nd1)]
        exact hn2
      have hmD : upd H2 D (.dT (kvsN S)) m = some (.dT (kvsN M)) := by
        rw [upd_ne (Ne.symm nd2)]
        exact hm2
      refine ⟨_, rfl, _, rfl, n, rfl, .inr ⟨_, .inl hnD⟩, _, rfl, _, .inr ⟨_, _, b, .inl hnD, rfl, hbD, rfl⟩, ?_⟩
      rw [val_vN oL.nd pr.1]
      refine ⟨_, rfl, _, rfl, m, rfl, .inr ⟨_, .inl hmD⟩, _, rfl, _, .inr ⟨_, _, b, .inl hmD, rfl, hbD, rfl⟩, ?_⟩
      rw [val_vN oM.nd pr.1]
      refine ⟨_, _, rfl, rfl, ?_⟩
      refine And.intro (show CMul _ _ from Or.inl (by rcases hs with rfl | rfl <;> decide)) ?_
      refine ⟨_, _, rfl, rfl, ?_⟩
      refine ⟨_, .inr ⟨kvsN S, keyN pr.1, b, upd_same, rfl, hbD, ?_, rfl⟩, putN S pr.1 (vN L pr.1 + s0 * vN M pr.1), ?_, ?_⟩
      · have l1 := sm.len
        rw [List.length_map, List.length_take] at l1
        rw [len_kvsN, sizeLine_eq]
        have l2 : (L ++ M).length = L.length + M.length := List.length_append
        omega
      · rw [upd_upd, put_N]
      · rw [List.take_add_one, hpr, List.map_append]
        exact sm.put pr.1
    · rintro H3 ⟨S, rfl, sm⟩
      rw [List.length_map, ← lhd, List.take_length] at sm
      generalize EH3 : upd H2 D (.dT (kvsN S)) = H3
      have hD3 := (congrFun EH3 D).symm.trans upd_same
      have S3 : Same H2 H3 := by rw [← EH3]; exact sameNew hD
      have SS : Same H H3 := (S1.trans S2).trans S3
      have hx3 := SS _ _ hx
      refine ⟨_, rfl, x, _, dx, _, _, rfl, hx3, T.cl_Answer, T.nF, flA_form f n h, ?_⟩
      refine ⟨D, _, hD3, trivial, fun od => ?_⟩
      refine ⟨_, rfl, D, od, rfl, .inr ⟨kvsN S, upd_same, fun D2 hD2 => ?_⟩⟩
      refine Dh.dcA_it (walk_keysT (d := D) (o := od) (kvs := kvsN S)) (fun i H5 => H5 = upd (upd H3 D (.frz od (.dT (kvsN S)))) D2 (.dT (kvsN (nzF (S.take i))))) rfl ?_ ?_ ?_
      · rintro i H5 hi rfl
        rw [upd_ne (ne_of_none upd_same hD2)]
        exact upd_same
      · rintro i b0 H5 H6 hi rfl ⟨rfl, kk, v, b, hkk, rfl, hb⟩
        unfold kvsN at hkk
        rw [List.getElem?_map] at hkk
        obtain ⟨pr, hpr, e⟩ := Option.map_eq_some_iff.mp hkk
        obtain ⟨rfl, rfl⟩ := Prod.mk.inj e
        have nDD : D ≠ D2 := ne_of_none upd_same hD2
        have hDD : upd (upd H3 D (.frz od (.dT (kvsN S)))) D2 (.dT (kvsN (nzF (S.take i)))) D = some (.frz od (.dT (kvsN S))) := by
          rw [upd_ne nDD]
          exact upd_same
        have hval : some (V.int pr.2) = valV (kvsN S) (keyN pr.1) := (val_kvsN sm.nd (List.mem_of_getElem? hpr)).symm
        refine ⟨rfl, ?_⟩
        refine ⟨_, rfl, _, rfl, D, _, rfl, .inr ⟨kvsN S, keyN pr.1, b, .inr ⟨_, hDD⟩, rfl, hb, hval⟩, rfl, _, rfl, ?_⟩
        by_cases c : pr.2 = 0
        · refine ite_f (by rw [c]; rfl) ?_
          rw [skip_nz hpr c]
        · refine ite_t (by rw [decide_eq_false (fun z => c (V.int.inj z))]; rfl) ?_
          refine ⟨_, rfl, _, rfl, _, rfl, D, _, rfl, .inr ⟨kvsN S, keyN pr.1, b, .inr ⟨_, hDD⟩, rfl, hb, hval⟩, _, .inr ⟨kvsN (nzF (S.take i)), keyN pr.1, b, upd_same, rfl, hb, ?_, rfl⟩, ?_⟩
          · have l1 := sm.len
            rw [List.length_map] at l1
            have l2 : (L ++ M).length = L.length + M.length := List.length_append
            have l3 : (nzF (S.take i)).length ≤ S.length := Nat.le_trans (List.length_filter_le _ _) (by rw [List.length_take]; exact Nat.min_le_right _ _)
            rw [len_kvsN, sizeLine_eq]
            omega
          · rw [upd_upd, put_nz sm.nd hpr c]
      · rintro H5 rfl
        rw [len_kvsN, List.take_length]
        have nDD : D ≠ D2 := ne_of_none upd_same hD2
        refine ⟨by rw [upd_ne nDD]; exact upd_same, ?_⟩
        have isF : IsF (nzF S) (fun h => vN L h + s0 * vN M h) := sm.isF fun j hj => by
          rw [List.map_append, List.mem_append, not_or] at hj
          show vN L j + s0 * vN M j = 0
          rw [vN_not hj.1, vN_not hj.2, Int.mul_zero]
          rfl
        have sub : ∀ p ∈ nzF S, p.1 ∈ (L ++ M).map (·.1) := fun p hp => (sm.mem p.1).mp (List.mem_map.mpr ⟨p, (List.mem_filter.mp hp).1, rfl⟩)
        have bh := both_heads oL oM one sub
        have ok : OkN f (nzF S) := by
          refine ok_of oL.form isF.nd bh.1 bh.2 (fun p hp => ?_) ?_
          · show (if f = "distinct" then decide (p.2 = 1) else decide (p.2 ≠ 0)) = true
            rw [if_neg nf]
            exact decide_eq_true (isF.nz p hp)
          · have l1 := sm.len
            rw [List.length_map] at l1
            have l2 : (L ++ M).length = L.length + M.length := List.length_append
            exact Nat.le_trans (List.length_filter_le _ _) (by omega)
        refine made (SS.trans fun b o e => ?_) (by rw [upd_ne (Ne.symm nDD)]; exact upd_same) ok isF k
        exact same_lock hD3 (by rw [upd_ne (Ne.symm nDD)] at hD2; exact hD2) b o e
end
end K02

set_option Elab.async false
set_option linter.all false
set_option maxRecDepth 100000
set_option maxHeartbeats 4000000
open L2 in
local macro_rules | `(tactic| walk_at "r1") => `(tactic| first
  | refine ⟨_, rfl, ?_⟩
  | refine ⟨_, _, rfl, rfl, ?_⟩)
open L2 in
local macro_rules | `(tactic| walk_at "q1") => `(tactic| first
  | refine ⟨_, rfl, ?_⟩
  | refine ⟨_, _, rfl, rfl, ?_⟩
  | refine And.intro (show CMul _ _ from Or.inr ⟨by decide, by decide⟩) ?_
  | refine And.intro (show CMul _ _ from Or.inl ⟨by first | decide | omega, by first | decide | omega⟩) ?_
  | refine And.intro (show CMul _ _ from Or.inr ⟨by omega, by omega⟩) ?_
  | refine And.intro (show CDiv _ _ from ⟨by omega, by omega⟩) ?_
  | refine And.intro (show Dt.CPowG _ _ from ⟨by decide, by decide +kernel⟩) ?_
  | refine And.intro (by first | decide | omega) ?_
  | refine And.intro (Int.pow_pos (Int.pow_pos (by decide))) ?_
  | refine ⟨_, _, _, _, rfl, rfl, SqL.of (by first | assumption | exact upd_same), (by rfl), ?_⟩
  | refine ⟨_, _, _, _, rfl, rfl, (by first | assumption | exact upd_same), (by rfl), ?_⟩
  | refine Or.inl ⟨_, rfl, ?_⟩
  | refine Or.inr ⟨_, rfl, ?_⟩)
local macro_rules | `(tactic| walk_at "q") => `(tactic| repeat (walk_at "q1"))
local macro_rules | `(tactic| walk_at "eqt") => `(tactic| (refine ⟨_, rfl, ?_⟩; refine ⟨rfl, ?_⟩; first
  | (refine ⟨true, rfl, ?_⟩; refine L2.iteT ?_)
  | (refine ⟨false, rfl, ?_⟩; refine L2.iteF ?_)))
local macro_rules | `(tactic| walk_at "sz") => `(tactic| (rw [PySem.sizeLine_eq]; simp))
namespace K02
open PySem PySem.Spec PyProof.Rows L2 Dt An Rp
section
variable {P : Program} {w : World} {K : PySem.W.Frag} {mg : Str → Option Value} {base : Heap} {a : Ads}
/-- no answer of the form f -/
def Wrong (K : PySem.W.Frag) (C : Addr) (H : Hp) (f : Str) (v : V) : Prop := (∃ y g M, v = .ref y ∧ AnsAt C H y g M ∧ g ≠ f) ∨ ∃ t, TyX K H v t ∧ PySem.W.kitOne K t (.ref C) = some false
def spArith (K : PySem.W.Frag) (C CO : Addr) (s : Int) : Sp := fun vs H Q E => ∃ x f L v, vs = [.ref x, v] ∧ AnsAt C H x f L ∧ OkN f L ∧
  ((f = "distinct" ∧ E (.ref CO) none H) ∨ (f ≠ "distinct" ∧
    ((∃ y M, v = .ref y ∧ AnsAt C H y f M ∧ OkN f M ∧ ((oneOf L M = true ∧ L.length + M.length ≤ 1000 ∧ ∀ z Ls H', NewA C H H' z f Ls (fun h => vN L h + s * vN M h) → Q (.ref z) H') ∨
      (oneOf L M = false ∧ ∀ H', Same H H' → E (.ref CO) none H'))) ∨
     (Wrong K C H f v ∧ E (.ref CO) none H))))
theorem ans_same {C : Addr} {H H' : Hp} {x : Addr} {f : Str} {L : Nums} (S : Same H H') (h : AnsAt C H x f L) : AnsAt C H' x f L := by
  obtain ⟨dx, n, hh, bs, h1, h2, h3, h4⟩ := h
  exact ⟨dx, n, hh, bs, S _ _ h1, S _ _ h2, S _ _ h3, keys_keep h4 fun b ys e => S _ _ e⟩
theorem NewA.after {C : Addr} {H H1 H' : Hp} {z : Addr} {f : Str} {L : Nums} {g : List Int → Int} (n : NewA C H1 H' z f L g) (S : Same H H1) : NewA C H H' z f L g := ⟨n.at_, S.trans n.same, n.ok, n.sort, n.isF⟩
theorem ok_Answer___add__ (T : Txt K mg a) : FnOk P w K mg base (L2.CX P w) 7 a.Answer___add__ a.fd_Answer___add__ ps_Answer___add__ (spArith K a.c_Answer a.c_InvalidOperation 1) := by
  have F := T.F_Answer___add__
  refine F.okX (k := 6) sc_Answer___add__ (fun vs H Q E h => ?_) (fun cdv A outer s H vs Q E hr h => ?_)
  · obtain ⟨x, f, L, v, rfl, hA, oL, hv⟩ := h
    rfl
  · obtain ⟨x, f, L, v, rfl, hA, oL, hv⟩ := h
    have hu := hu_of hr
    refine ⟨_, (pss_cons (ps_expr (pe_meth0 (pv 0) T.cl_Answer T.m__check_numbers (ok_Answer__check_numbers T) (hr.mono (by decide)) (b_Answer__check_numbers T) .nil (passes_call (takes_of rfl rfl rfl rfl) (fun _ _ _ _ h => h))))
      (pss_cons (ps_expr (pe_meth (pv 0) T.cl_Answer T.m__check_other (ok_Answer__check_other T) (hr.mono (by decide)) (b_Answer__check_other T) .nil (passes_call (takes_of rfl rfl rfl rfl) (fun _ _ _ _ h => h)) (pa_cons (pv 1) pa_nil)))
      (pss_one (ps_ret (pe_meth (pv 0) T.cl_Answer T.m__plus (ok_Answer__plus T) (hr.mono (by decide)) (b_Answer__plus T) .nil pass0 (pa_cons (pv 1) (pa_cons pe_int pa_nil))))))), ?_⟩
    have hA0 := hA
    obtain ⟨dx, n, h, bs, hx, hn, hh, hk⟩ := hA
    refine ⟨_, rfl, x, dx, _, rfl, hx, rfl, ?_⟩
    rcases hv with ⟨rfl, kE⟩ | ⟨nf, hv⟩
    · exact ⟨x, _, L, rfl, hA0, fun _ => kE, fun z => absurd rfl z⟩
    refine ⟨x, f, L, rfl, hA0, fun z => absurd z nf, fun _ => ?_⟩
    refine ⟨_, rfl, x, dx, _, rfl, hx, rfl, ?_⟩
    refine ⟨_, rfl, x, f, L, v, rfl, hA0, oL.len, ?_⟩
    rcases hv with ⟨y, M, rfl, hB, oM, hv⟩ | ⟨hw | hw, kE⟩
    · refine .inl ⟨y, M, rfl, hB, oM.len, fun one H1 S1 => ?_, fun one H1 S1 => ?_⟩
      · rcases hv with ⟨_, hl, k⟩ | ⟨z, _⟩
        · refine ⟨_, rfl, x, dx, _, rfl, S1 _ _ hx, rfl, ?_⟩
          refine ⟨_, rfl, ?_⟩
          exact ⟨x, y, f, L, M, _, rfl, ans_same S1 hA0, ans_same S1 hB, oL, oM, nf, .inl rfl, one, hl, fun z Ls H' nw => k z Ls H' (nw.after S1)⟩
        · rw [one] at z
          cases z
      · rcases hv with ⟨z, _⟩ | ⟨_, kE⟩
        · rw [one] at z
          cases z
        · exact kE H1 S1
    · obtain ⟨y, g, M, rfl, hB, hne⟩ := hw
      exact .inr (.inl ⟨y, g, M, rfl, hB, hne, kE⟩)
    · obtain ⟨t, ht, kt⟩ := hw
      exact .inr (.inr ⟨t, ht, kt, kE⟩)
theorem ok_Answer___sub__ (T : Txt K mg a) : FnOk P w K mg base (L2.CX P w) 7 a.Answer___sub__ a.fd_Answer___sub__ ps_Answer___sub__ (spArith K a.c_Answer a.c_InvalidOperation (-1)) := by
  have F := T.F_Answer___sub__
  refine F.okX (k := 6) sc_Answer___sub__ (fun vs H Q E h => ?_) (fun cdv A outer s H vs Q E hr h => ?_)
  · obtain ⟨x, f, L, v, rfl, hA, oL, hv⟩ := h
    rfl
  · obtain ⟨x, f, L, v, rfl, hA, oL, hv⟩ := h
    have hu := hu_of hr
    refine ⟨_, (pss_cons (ps_expr (pe_meth0 (pv 0) T.cl_Answer T.m__check_numbers (ok_Answer__check_numbers T) (hr.mono (by decide)) (b_Answer__check_numbers T) .nil (passes_call (takes_of rfl rfl rfl rfl) (fun _ _ _ _ h => h))))
      (pss_cons (ps_expr (pe_meth (pv 0) T.cl_Answer T.m__check_other (ok_Answer__check_other T) (hr.mono (by decide)) (b_Answer__check_other T) .nil (passes_call (takes_of rfl rfl rfl rfl) (fun _ _ _ _ h => h)) (pa_cons (pv 1) pa_nil)))
      (pss_one (ps_ret (pe_meth (pv 0) T.cl_Answer T.m__plus (ok_Answer__plus T) (hr.mono (by decide)) (b_Answer__plus T) .nil pass0 (pa_cons (pv 1) (pa_cons (pe_un un_neg pe_int) pa_nil))))))), ?_⟩
    have hA0 := hA
    obtain ⟨dx, n, h, bs, hx, hn, hh, hk⟩ := hA
    refine ⟨_, rfl, x, dx, _, rfl, hx, rfl, ?_⟩
    rcases hv with ⟨rfl, kE⟩ | ⟨nf, hv⟩
    · exact ⟨x, _, L, rfl, hA0, fun _ => kE, fun z => absurd rfl z⟩
    refine ⟨x, f, L, rfl, hA0, fun z => absurd z nf, fun _ => ?_⟩
    refine ⟨_, rfl, x, dx, _, rfl, hx, rfl, ?_⟩
    refine ⟨_, rfl, x, f, L, v, rfl, hA0, oL.len, ?_⟩
    rcases hv with ⟨y, M, rfl, hB, oM, hv⟩ | ⟨hw | hw, kE⟩
    · refine .inl ⟨y, M, rfl, hB, oM.len, fun one H1 S1 => ?_, fun one H1 S1 => ?_⟩
      · rcases hv with ⟨_, hl, k⟩ | ⟨z, _⟩
        · refine ⟨_, rfl, x, dx, _, rfl, S1 _ _ hx, rfl, ?_⟩
          refine ⟨_, rfl, ?_⟩
          refine ⟨1, rfl, ?_⟩
          exact ⟨x, y, f, L, M, _, rfl, ans_same S1 hA0, ans_same S1 hB, oL, oM, nf, .inr rfl, one, hl, fun z Ls H' nw => k z Ls H' (nw.after S1)⟩
        · rw [one] at z
          cases z
      · rcases hv with ⟨z, _⟩ | ⟨_, kE⟩
        · rw [one] at z
          cases z
        · exact kE H1 S1
    · obtain ⟨y, g, M, rfl, hB, hne⟩ := hw
      exact .inr (.inl ⟨y, g, M, rfl, hB, hne, kE⟩)
    · obtain ⟨t, ht, kt⟩ := hw
      exact .inr (.inr ⟨t, ht, kt, kE⟩)
end
end K02

set_option Elab.async false
set_option linter.all false
set_option maxRecDepth 100000
set_option maxHeartbeats 4000000
open L2 in
local macro_rules | `(tactic| walk_at "r1") => `(tactic| first
  | refine ⟨_, rfl, ?_⟩
  | refine ⟨_, _, rfl, rfl, ?_⟩)
open L2 in
local macro_rules | `(tactic| walk_at "q1") => `(tactic| first
  | refine ⟨_, rfl, ?_⟩
  | refine ⟨_, _, rfl, rfl, ?_⟩
  | refine And.intro (show CMul _ _ from Or.inr ⟨by decide, by decide⟩) ?_
  | refine And.intro (show CMul _ _ from Or.inl ⟨by first | decide | omega, by first | decide | omega⟩) ?_
  | refine And.intro (show CMul _ _ from Or.inr ⟨by omega, by omega⟩) ?_
  | refine And.intro (show CDiv _ _ from ⟨by omega, by omega⟩) ?_
  | refine And.intro (show Dt.CPowG _ _ from ⟨by decide, by decide +kernel⟩) ?_
  | refine And.intro (by first | decide | omega) ?_
  | refine And.intro (Int.pow_pos (Int.pow_pos (by decide))) ?_
  | refine ⟨_, _, _, _, rfl, rfl, SqL.of (by first | assumption | exact upd_same), (by rfl), ?_⟩
  | refine ⟨_, _, _, _, rfl, rfl, (by first | assumption | exact upd_same), (by rfl), ?_⟩
  | refine Or.inl ⟨_, rfl, ?_⟩
  | refine Or.inr ⟨_, rfl, ?_⟩)
local macro_rules | `(tactic| walk_at "q") => `(tactic| repeat (walk_at "q1"))
local macro_rules | `(tactic| walk_at "eqt") => `(tactic| (refine ⟨_, rfl, ?_⟩; refine ⟨rfl, ?_⟩; first
  | (refine ⟨true, rfl, ?_⟩; refine L2.iteT ?_)
  | (refine ⟨false, rfl, ?_⟩; refine L2.iteF ?_)))
local macro_rules | `(tactic| walk_at "sz") => `(tactic| (rw [PySem.sizeLine_eq]; simp))
namespace K02
open PySem PySem.Spec PyProof.Rows L2 Dt An Rp
section
variable {P : Program} {w : World} {K : PySem.W.Frag} {mg : Str → Option Value} {base : Heap} {a : Ads}
theorem Sums.isG {hs : List (List Int)} {g : List Int → Int} {S : Nums} (s : Sums hs g S) (h0 : ∀ h, h ∉ hs → g h = 0) (h1 : ∀ h ∈ hs, g h ≠ 0) : IsF S g := by
  refine ⟨s.nd, fun p hp => ?_, fun h => ?_⟩
  · rw [s.val p hp]
    exact h1 _ ((s.mem _).mp (List.mem_map.mpr ⟨p, hp, rfl⟩))
  · by_cases c : h ∈ hs
    · exact s.at_ c
    · rw [h0 h c]
      exact vN_not fun z => c ((s.mem h).mp z)
def spNeg (C CO : Addr) : Sp := fun vs H Q E => ∃ x f L, vs = [.ref x] ∧ AnsAt C H x f L ∧ OkN f L ∧
  ((f = "distinct" ∧ E (.ref CO) none H) ∨ (f ≠ "distinct" ∧ ∀ z Ls H', NewA C H H' z f Ls (fun h => - vN L h) → Q (.ref z) H'))
theorem nz_of {f : Str} {L : Nums} (o : OkN f L) : ∀ p ∈ L, p.2 ≠ 0 := fun p hp => by
  have q := (ok_parts o).2.2 p hp
  have q2 : (if f = "distinct" then decide (p.2 = 1) else decide (p.2 ≠ 0)) = true := q
  by_cases c : f = "distinct"
  · rw [if_pos c] at q2
    rw [of_decide_eq_true q2]
    decide
  · rw [if_neg c] at q2
    exact of_decide_eq_true q2
theorem ok_Answer___neg__ (T : Txt K mg a) : FnOk P w K mg base (L2.CX P w) 7 a.Answer___neg__ a.fd_Answer___neg__ ps_Answer___neg__ (spNeg a.c_Answer a.c_InvalidOperation) := by
  have F := T.F_Answer___neg__
  refine F.okX (k := 6) sc_Answer___neg__ (fun vs H Q E h => ?_) (fun cdv A outer s H vs Q E hr h => ?_)
  · obtain ⟨x, f, L, rfl, hA, oL, hv⟩ := h
    rfl
  · obtain ⟨x, f, L, rfl, hA, oL, hv⟩ := h
    have hu := hu_of hr
    refine ⟨_, (pss_cons (ps_expr (pe_meth0 (pv 0) T.cl_Answer T.m__check_numbers (ok_Answer__check_numbers T) (hr.mono (by decide)) (b_Answer__check_numbers T) .nil (passes_call (takes_of rfl rfl rfl rfl) (fun _ _ _ _ h => h))))
      (pss_one (ps_ret (pe_make T.mk_Answer (ok_Answer___init__ T) (hr.mono (by decide)) (by rfl) T.g_c_Answer (b_Answer___init__ T) .nil never (pa_cons (pe_fld (pv 0) rfl) (pa_cons (Dh.pe_dcA (t := true) (own := [("head", 1)]) hu rfl sc_Answer___neg__.nd (pi_tup (pe_fld (pv 0) rfl)) (blkOk_by (N := nm_Answer___neg__) (sc := defScope s_Answer___neg__) (by decide +kernel)) ⟨(fun _ _ _ _ _ => (pg_name (i := 1) sc_Answer___neg__.nd rfl (Or.inl rfl))), (fun _ _ _ _ _ => pts_nil), (fun _ _ _ _ _ => (pv 1)), (fun _ _ _ _ _ => (pe_un un_neg (pe_dget hu (show PE _ _ (tFld K (tVar 0) "_numbers") from pe_fld (pv 0) rfl) (pv 1) (fun _ _ => rfl))))⟩) pa_nil)))))), ?_⟩
    have hA0 := hA
    obtain ⟨dx, n, h, bs, hx, hn, hh, hk⟩ := hA
    refine ⟨_, rfl, x, dx, _, rfl, hx, rfl, ?_⟩
    rcases hv with ⟨rfl, kE⟩ | ⟨nf, k⟩
    · exact ⟨x, _, L, rfl, hA0, fun _ => kE, fun z => absurd rfl z⟩
    refine ⟨x, f, L, rfl, hA0, fun z => absurd z nf, fun _ => ?_⟩
    have hds := heads_of hk
    rw [map_kvsN] at hds
    have lhd := hds.len
    rw [List.length_map] at lhd
    refine ⟨_, rfl, x, _, dx, _, _, rfl, hx, T.cl_Answer, T.nF, flA_form f n h, ?_⟩
    refine ⟨_, rfl, x, _, dx, _, _, rfl, hx, T.cl_Answer, T.nH, flA_heads f n h, h, rfl, ⟨_, .inl (.inl hh)⟩, fun D hD => ?_⟩
    refine Dh.dcA_it (walk_tup (K := K) (a := h) (xs := bs.map V.ref)) (fun i H3 => ∃ S, H3 = upd H D (.dT (kvsN S)) ∧ Sums ((L.take i).map (·.1)) (fun h => - vN L h) S) ⟨[], rfl, Sums.nil⟩ ?_ ?_ ?_
    · rintro i H3 hi ⟨S, rfl, _⟩
      refine .inl (.inl ?_)
      rw [upd_ne (ne_of_none hh hD)]
      exact hh
    · rintro i b0 H3 H4 hi ⟨S, rfl, sm⟩ ⟨rfl, hb⟩
      rw [List.getElem?_map] at hb
      obtain ⟨b, hb2, rfl⟩ := Option.map_eq_some_iff.mp hb
      obtain ⟨kk, hkk, hbk⟩ := hds.at hb2
      rw [List.getElem?_map] at hkk
      obtain ⟨pr, hpr, rfl⟩ := Option.map_eq_some_iff.mp hkk
      have hpm := List.mem_of_getElem? hpr
      refine ⟨rfl, ?_⟩
      dsimp only [tYes]
      rw [if_pos rfl]
      have hbD : upd H D (.dT (kvsN S)) b = some (.tup ((keyN pr.1).map kV)) := by
        rw [upd_ne (ne_of_none hbk hD)]
        exact hbk
      have hnD : upd H D (.dT (kvsN S)) n = some (.dT (kvsN L)) := by
        rw [upd_ne (ne_of_none hn hD)]
        exact hn
      have hxD : upd H D (.dT (kvsN S)) x = some (.ins a.c_Answer dx (flA f n h)) := by
        rw [upd_ne (ne_of_none hx hD)]
        exact hx
      refine ⟨_, rfl, _, rfl, x, _, dx, _, _, rfl, hxD, T.cl_Answer, T.nN, flA_num f n h, _, rfl, n, .int pr.2, rfl, .inr ⟨kvsN L, keyN pr.1, b, .inl hnD, rfl, hbD, (val_kvsN oL.nd hpm).symm⟩, ?_⟩
      refine ⟨_, rfl, ?_⟩
      refine ⟨_, .inr ⟨kvsN S, keyN pr.1, b, upd_same, rfl, hbD, ?_, rfl⟩, putN S pr.1 (- vN L pr.1), ?_, ?_⟩
      · have l1 := sm.len
        rw [List.length_map, List.length_take] at l1
        have l2 := oL.len
        rw [len_kvsN, sizeLine_eq]
        omega
      · rw [upd_upd, ← put_N, vN_mem oL.nd hpm]
      · rw [List.take_add_one, hpr, List.map_append]
        exact sm.put pr.1
    · rintro H3 ⟨S, rfl, sm⟩
      rw [List.length_map, ← lhd, List.take_length] at sm
      generalize EH3 : upd H D (.dT (kvsN S)) = H3
      have hD3 := (congrFun EH3 D).symm.trans upd_same
      have S3 : Same H H3 := by rw [← EH3]; exact sameNew hD
      have isF : IsF S (fun h => - vN L h) := sm.isG (fun j hj => by show - vN L j = 0; rw [vN_not hj]; rfl) fun j hj z => by
        obtain ⟨p, hp, rfl⟩ := List.mem_map.mp hj
        have z2 : - vN L p.1 = 0 := z
        rw [vN_mem oL.nd hp] at z2
        exact nz_of oL p hp (by omega)
      have sub : ∀ p ∈ S, ∃ q ∈ L, q.1 = p.1 := fun p hp => List.mem_map.mp ((sm.mem p.1).mp (List.mem_map.mpr ⟨p, hp, rfl⟩))
      have ok : OkN f S := by
        refine ok_of oL.form isF.nd (fun p hp => ?_) (fun p hp r hr => ?_) (fun p hp => ?_) ?_
        · obtain ⟨q, hq, e⟩ := sub p hp
          rw [← e]
          exact (ok_parts oL).1 q hq
        · obtain ⟨q, hq, e⟩ := sub p hp
          obtain ⟨t, ht, e2⟩ := sub r hr
          rw [← e, ← e2]
          exact (ok_parts oL).2.1 q hq t ht
        · show (if f = "distinct" then decide (p.2 = 1) else decide (p.2 ≠ 0)) = true
          rw [if_neg nf]
          exact decide_eq_true (isF.nz p hp)
        · have l1 := sm.len
          rw [List.length_map] at l1
          exact Nat.le_trans l1 oL.len
      exact made S3 hD3 ok isF k
end
end K02

set_option Elab.async false
set_option linter.all false
set_option maxRecDepth 100000
set_option maxHeartbeats 4000000
open L2 in
local macro_rules | `(tactic| walk_at "r1") => `(tactic| first
  | refine ⟨_, rfl, ?_⟩
  | refine ⟨_, _, rfl, rfl, ?_⟩)
open L2 in
local macro_rules | `(tactic| walk_at "q1") => `(tactic| first
  | refine ⟨_, rfl, ?_⟩
  | refine ⟨_, _, rfl, rfl, ?_⟩
  | refine And.intro (show CMul _ _ from Or.inr ⟨by decide, by decide⟩) ?_
  | refine And.intro (show CMul _ _ from Or.inl ⟨by first | decide | omega, by first | decide | omega⟩) ?_
  | refine And.intro (show CMul _ _ from Or.inr ⟨by omega, by omega⟩) ?_
  | refine And.intro (show CDiv _ _ from ⟨by omega, by omega⟩) ?_
  | refine And.intro (show Dt.CPowG _ _ from ⟨by decide, by decide +kernel⟩) ?_
  | refine And.intro (by first | decide | omega) ?_
  | refine And.intro (Int.pow_pos (Int.pow_pos (by decide))) ?_
  | refine ⟨_, _, _, _, rfl, rfl, SqL.of (by first | assumption | exact upd_same), (by rfl), ?_⟩
  | refine ⟨_, _, _, _, rfl, rfl, (by first | assumption | exact upd_same), (by rfl), ?_⟩
  | refine Or.inl ⟨_, rfl, ?_⟩
  | refine Or.inr ⟨_, rfl, ?_⟩)
local macro_rules | `(tactic| walk_at "q") => `(tactic| repeat (walk_at "q1"))
local macro_rules | `(tactic| walk_at "eqt") => `(tactic| (refine ⟨_, rfl, ?_⟩; refine ⟨rfl, ?_⟩; first
  | (refine ⟨true, rfl, ?_⟩; refine L2.iteT ?_)
  | (refine ⟨false, rfl, ?_⟩; refine L2.iteF ?_)))
local macro_rules | `(tactic| walk_at "sz") => `(tactic| (rw [PySem.sizeLine_eq]; simp))
namespace K02
open PySem PySem.Spec PyProof.Rows L2 Dt An Rp
section
variable {P : Program} {w : World} {K : PySem.W.Frag} {mg : Str → Option Value} {base : Heap} {a : Ads}
def inN (L : Nums) (h : List Int) : Bool := decide (h ∈ L.map (·.1))
/-- 1 for the heads that b lets in -/
def setF (b : Bool → Bool → Bool) (L M : Nums) : List Int → Int := fun h => if b (inN L h) (inN M h) = true then 1 else 0
def spSet (K : PySem.W.Frag) (C CO : Addr) (b : Bool → Bool → Bool) : Sp := fun vs H Q E => ∃ x f L v, vs = [.ref x, v] ∧ AnsAt C H x f L ∧ OkN f L ∧
  ((f ≠ "distinct" ∧ E (.ref CO) none H) ∨ (f = "distinct" ∧
    ((∃ y M, v = .ref y ∧ AnsAt C H y f M ∧ OkN f M ∧ ((oneOf L M = true ∧ L.length + M.length ≤ 1000 ∧ ∀ z Ls H', NewA C H H' z f Ls (setF b L M) → Q (.ref z) H') ∨
      (oneOf L M = false ∧ ∀ H', Same H H' → E (.ref CO) none H'))) ∨
     (Wrong K C H f v ∧ E (.ref CO) none H))))
theorem setF_1 {b : Bool → Bool → Bool} {L M : Nums} {h : List Int} (e : b (inN L h) (inN M h) = true) : setF b L M h = 1 := if_pos e
theorem setF_0 {b : Bool → Bool → Bool} {L M : Nums} {h : List Int} (e : b (inN L h) (inN M h) = false) : setF b L M h = 0 := if_neg (by rw [e]; exact Bool.false_ne_true)
theorem inN_of {L : Nums} {p : List Int × Int} (h : p ∈ L) : inN L p.1 = true := decide_eq_true (List.mem_map.mpr ⟨p, h, rfl⟩)
/-- the heads that b lets in, from a list of some -/
def inB (b : Bool → Bool → Bool) (L M : Nums) (hs : Nums) : List (List Int) := (hs.filter fun p => b (inN L p.1) (inN M p.1)).map (·.1)
theorem inB_yes {b : Bool → Bool → Bool} {L M hs : Nums} {i : Nat} {p : List Int × Int} (hp : hs[i]? = some p) (e : b (inN L p.1) (inN M p.1) = true) : inB b L M (hs.take (i + 1)) = inB b L M (hs.take i) ++ [p.1] := by
  unfold inB
  rw [List.take_add_one, hp, List.filter_append, show (some p).toList = [p] from rfl, List.filter_cons_of_pos (by exact e), List.map_append]
  rfl
theorem inB_no {b : Bool → Bool → Bool} {L M hs : Nums} {i : Nat} {p : List Int × Int} (hp : hs[i]? = some p) (e : b (inN L p.1) (inN M p.1) = false) : inB b L M (hs.take (i + 1)) = inB b L M (hs.take i) := by
  unfold inB
  rw [List.take_add_one, hp, List.filter_append, show (some p).toList = [p] from rfl, List.filter_cons_of_neg (by rw [e]; exact Bool.false_ne_true)]
  rw [List.filter_nil, List.append_nil]
theorem set_done {b : Bool → Bool → Bool} {L M hs S : Nums} (oL : OkN "distinct" L) (oM : OkN "distinct" M) (one : oneOf L M = true) (hl : hs.length ≤ 1000) (sm : Sums (inB b L M hs) (setF b L M) S) (hsub : ∀ p ∈ hs, p ∈ L ++ M)
    (hall : ∀ h, b (inN L h) (inN M h) = true → h ∈ hs.map (·.1)) : IsF S (setF b L M) ∧ OkN "distinct" S := by
  have up : ∀ h ∈ inB b L M hs, b (inN L h) (inN M h) = true := fun h hh => by
    obtain ⟨p, hp, rfl⟩ := List.mem_map.mp hh
    exact (List.mem_filter.mp hp).2
  have isF : IsF S (setF b L M) := sm.isG (fun h hh => by
    cases e : b (inN L h) (inN M h) with
    | false => exact setF_0 e
    | true =>
      obtain ⟨p, hp, rfl⟩ := List.mem_map.mp (hall h e)
      exact absurd (List.mem_map.mpr ⟨p, List.mem_filter.mpr ⟨hp, e⟩, rfl⟩) hh) fun h hh z => by
    rw [setF_1 (up h hh)] at z
    cases z
  have sub : ∀ p ∈ S, p.1 ∈ (L ++ M).map (·.1) := fun p hp => by
    obtain ⟨q, hq, e⟩ := List.mem_map.mp ((sm.mem p.1).mp (List.mem_map.mpr ⟨p, hp, rfl⟩))
    rw [← e]
    exact List.mem_map.mpr ⟨q, hsub q (List.mem_filter.mp hq).1, rfl⟩
  have bh := both_heads oL oM one sub
  refine ⟨isF, ok_of oL.form isF.nd bh.1 bh.2 (fun p hp => ?_) ?_⟩
  · show (if ("distinct" : Str) = "distinct" then decide (p.2 = 1) else decide (p.2 ≠ 0)) = true
    rw [if_pos rfl, sm.val p hp, setF_1 (up _ ((sm.mem p.1).mp (List.mem_map.mpr ⟨p, hp, rfl⟩)))]
    rfl
  · have l1 := sm.len
    unfold inB at l1
    rw [List.length_map] at l1
    exact Nat.le_trans l1 (Nat.le_trans (List.length_filter_le _ _) hl)
theorem ok_Answer___or__ (T : Txt K mg a) : FnOk P w K mg base (L2.CX P w) 7 a.Answer___or__ a.fd_Answer___or__ ps_Answer___or__ (spSet K a.c_Answer a.c_InvalidOperation (or)) := by
  have F := T.F_Answer___or__
  refine F.okX (k := 6) sc_Answer___or__ (fun vs H Q E h => ?_) (fun cdv A outer s H vs Q E hr h => ?_)
  · obtain ⟨x, f, L, v, rfl, hA, oL, hv⟩ := h
    rfl
  · obtain ⟨x, f, L, v, rfl, hA, oL, hv⟩ := h
    have hu := hu_of hr
    refine ⟨_, (pss_cons (ps_expr (pe_meth0 (pv 0) T.cl_Answer T.m__check_heads (ok_Answer__check_heads T) (hr.mono (by decide)) (b_Answer__check_heads T) .nil (passes_call (takes_of rfl rfl rfl rfl) (fun _ _ _ _ h => h))))
      (pss_cons (ps_expr (pe_meth (pv 0) T.cl_Answer T.m__check_other (ok_Answer__check_other T) (hr.mono (by decide)) (b_Answer__check_other T) .nil (passes_call (takes_of rfl rfl rfl rfl) (fun _ _ _ _ h => h)) (pa_cons (pv 1) pa_nil)))
      (pss_one (ps_ret (pe_make T.mk_Answer (ok_Answer___init__ T) (hr.mono (by decide)) (by rfl) T.g_c_Answer (b_Answer___init__ T) .nil never (pa_cons (pe_fld (pv 0) rfl) (pa_cons (Dh.pe_dcA (t := true) (own := [("head", 2)]) hu rfl sc_Answer___or__.nd (pi_list (pe_lst (StX.pa_star (pe_fld (pv 0) rfl) (StX.pa_star (pe_fld (pv 1) rfl) pa_nil)))) (blkOk_by (N := nm_Answer___or__) (sc := defScope s_Answer___or__) (by decide +kernel)) ⟨(fun _ _ _ _ _ => (pg_name (i := 2) sc_Answer___or__.nd rfl (Or.inl rfl))), (fun _ _ _ _ _ => pts_nil), (fun _ _ _ _ _ => (pv 2)), (fun _ _ _ _ _ => pe_int)⟩) pa_nil))))))), ?_⟩
    have hA0 := hA
    obtain ⟨dx, n, h, bs, hx, hn, hh, hk⟩ := hA
    refine ⟨_, rfl, x, dx, _, rfl, hx, rfl, ?_⟩
    rcases hv with ⟨nf, kE⟩ | ⟨rfl, hv⟩
    · exact ⟨x, _, L, rfl, hA0, fun _ => kE, fun z => absurd z nf⟩
    refine ⟨x, _, L, rfl, hA0, fun z => absurd rfl z, fun _ => ?_⟩
    refine ⟨_, rfl, x, dx, _, rfl, hx, rfl, ?_⟩
    refine ⟨_, rfl, x, _, L, v, rfl, hA0, oL.len, ?_⟩
    rcases hv with ⟨y, M, rfl, hB, oM, hv⟩ | ⟨hw | hw, kE⟩
    rotate_left
    · obtain ⟨y, g, M, rfl, hB, hne⟩ := hw
      exact .inr (.inl ⟨y, g, M, rfl, hB, hne, kE⟩)
    · obtain ⟨t, ht, kt⟩ := hw
      exact .inr (.inr ⟨t, ht, kt, kE⟩)
    refine .inl ⟨y, M, rfl, hB, oM.len, fun one H1 S1 => ?_, fun one H1 S1 => ?_⟩
    rotate_left
    · rcases hv with ⟨z, _⟩ | ⟨_, kE⟩
      · rw [one] at z
        cases z
      · exact kE H1 S1
    rcases hv with ⟨_, hl, k⟩ | ⟨z, _⟩
    rotate_left
    · rw [one] at z
      cases z
    obtain ⟨dy, m, h2, cs, hy, hm, hh2, hk2⟩ := hB
    replace hx := S1 _ _ hx
    replace hn := S1 _ _ hn
    replace hh := S1 _ _ hh
    replace hk := keys_keep hk fun b ys e => S1 _ _ e
    replace hy := S1 _ _ hy
    replace hm := S1 _ _ hm
    replace hh2 := S1 _ _ hh2
    replace hk2 := keys_keep hk2 fun b ys e => S1 _ _ e
    refine ⟨_, rfl, x, _, dx, _, _, rfl, hx, T.cl_Answer, T.nF, flA_form _ n h, ?_⟩
    refine ⟨_, rfl, x, _, dx, _, _, rfl, hx, T.cl_Answer, T.nH, flA_heads _ n h, h, _, rfl, .inl (.inl (.inl hh)), _, rfl, y, _, dy, _, _, rfl, hy, T.cl_Answer, T.nH, flA_heads _ m h2, h2, _, rfl, .inl (.inl (.inl hh2)), ?_, fun q nq => ?_⟩
    · have l1 := keys_len hk
      have l2 := keys_len hk2
      rw [List.append_nil, List.length_append, List.length_map, List.length_map, sizeLine_eq]
      omega
    rw [List.append_nil, ← List.map_append]
    have hds := heads_both hk hk2
    generalize EH2 : upd H1 q _ = H2
    have hq := (congrFun EH2 q).symm.trans upd_same
    have S2 : Same H1 H2 := by rw [← EH2]; exact sameNew nq
    replace hds := hds.keep fun b ys e => S2 _ _ e
    have lhd := hds.len
    rw [List.length_map] at lhd
    have l2 : (L ++ M).length = L.length + M.length := List.length_append
    refine ⟨q, rfl, ⟨_, .inl (.inl hq)⟩, fun D hD => ?_⟩
    refine Dh.dcA_it (walk_list (K := K) (a := q) (xs := (bs ++ cs).map V.ref)) (fun i H3 => ∃ S, H3 = upd H2 D (.dT (kvsN S)) ∧ Sums (inB or L M ((L ++ M).take i)) (setF or L M) S) ⟨[], rfl, Sums.nil⟩ ?_ ?_ ?_
    · rintro i H3 hi ⟨S, rfl, _⟩
      refine .inl (.inl ?_)
      rw [upd_ne (ne_of_none hq hD)]
      exact hq
    · rintro i b0 H3 H4 hi ⟨S, rfl, sm⟩ ⟨rfl, hb⟩
      rw [List.getElem?_map] at hb
      obtain ⟨b, hb2, rfl⟩ := Option.map_eq_some_iff.mp hb
      obtain ⟨kk, hkk, hbk⟩ := hds.at hb2
      rw [List.getElem?_map] at hkk
      obtain ⟨pr, hpr, rfl⟩ := Option.map_eq_some_iff.mp hkk
      have yes : or (inN L pr.1) (inN M pr.1) = true := by
        rcases List.mem_append.mp (List.mem_of_getElem? hpr) with z | z
        · rw [inN_of z]; rfl
        · rw [inN_of z]; exact Bool.or_true _
      refine ⟨rfl, ?_⟩
      dsimp only [tYes]
      rw [if_pos rfl]
      have hbD : upd H2 D (.dT (kvsN S)) b = some (.tup ((keyN pr.1).map kV)) := by
        rw [upd_ne (ne_of_none hbk hD)]
        exact hbk
      refine ⟨_, rfl, ?_⟩
      refine ⟨_, .inr ⟨kvsN S, keyN pr.1, b, upd_same, rfl, hbD, ?_, rfl⟩, putN S pr.1 (setF or L M pr.1), ?_, ?_⟩
      · have l1 := sm.len
        unfold inB at l1
        rw [List.length_map] at l1
        have l3 := List.length_filter_le (fun p => or (inN L p.1) (inN M p.1)) ((L ++ M).take i)
        rw [List.length_take] at l3
        rw [len_kvsN, sizeLine_eq]
        omega
      · rw [upd_upd, setF_1 yes, ← put_N]
      · rw [inB_yes hpr yes]
        exact sm.put pr.1
    · rintro H3 ⟨S, rfl, sm⟩
      rw [List.length_map, ← lhd, List.take_length] at sm
      generalize EH3 : upd H2 D (.dT (kvsN S)) = H3
      have hD3 := (congrFun EH3 D).symm.trans upd_same
      have S3 : Same H2 H3 := by rw [← EH3]; exact sameNew hD
      obtain ⟨isF, ok⟩ := set_done oL oM one (by omega) sm (fun p hp => hp) fun j e => by
        rw [List.map_append, List.mem_append]
        rcases (Bool.or_eq_true _ _).mp e with z | z
        · exact .inl (of_decide_eq_true z)
        · exact .inr (of_decide_eq_true z)
      exact made ((S1.trans S2).trans S3) hD3 ok isF k
theorem ok_Answer___and__ (T : Txt K mg a) : FnOk P w K mg base (L2.CX P w) 7 a.Answer___and__ a.fd_Answer___and__ ps_Answer___and__ (spSet K a.c_Answer a.c_InvalidOperation (and)) := by
  have F := T.F_Answer___and__
  refine F.okX (k := 6) sc_Answer___and__ (fun vs H Q E h => ?_) (fun cdv A outer s H vs Q E hr h => ?_)
  · obtain ⟨x, f, L, v, rfl, hA, oL, hv⟩ := h
    rfl
  · obtain ⟨x, f, L, v, rfl, hA, oL, hv⟩ := h
    have hu := hu_of hr
    refine ⟨_, (pss_cons (ps_expr (pe_meth0 (pv 0) T.cl_Answer T.m__check_heads (ok_Answer__check_heads T) (hr.mono (by decide)) (b_Answer__check_heads T) .nil (passes_call (takes_of rfl rfl rfl rfl) (fun _ _ _ _ h => h))))
      (pss_cons (ps_expr (pe_meth (pv 0) T.cl_Answer T.m__check_other (ok_Answer__check_other T) (hr.mono (by decide)) (b_Answer__check_other T) .nil (passes_call (takes_of rfl rfl rfl rfl) (fun _ _ _ _ h => h)) (pa_cons (pv 1) pa_nil)))
      (pss_one (ps_ret (pe_make T.mk_Answer (ok_Answer___init__ T) (hr.mono (by decide)) (by rfl) T.g_c_Answer (b_Answer___init__ T) .nil never (pa_cons (pe_fld (pv 0) rfl) (pa_cons (Dh.pe_dcA (t := true) (own := [("head", 2)]) hu rfl sc_Answer___and__.nd (pi_tup (pe_fld (pv 0) rfl)) (blkOk_by (N := nm_Answer___and__) (sc := defScope s_Answer___and__) (by decide +kernel)) ⟨(fun _ _ _ _ _ => (pg_name (i := 2) sc_Answer___and__.nd rfl (Or.inl rfl))), (fun _ _ _ _ _ => (pts_one (pt_cmp (pc_din hu (pv 2) (show PE _ _ (tFld K (tVar 1) "_numbers") from pe_fld (pv 1) rfl))))), (fun _ _ _ _ _ => (pv 2)), (fun _ _ _ _ _ => pe_int)⟩) pa_nil))))))), ?_⟩
    have hA0 := hA
    obtain ⟨dx, n, h, bs, hx, hn, hh, hk⟩ := hA
    refine ⟨_, rfl, x, dx, _, rfl, hx, rfl, ?_⟩
    rcases hv with ⟨nf, kE⟩ | ⟨rfl, hv⟩
    · exact ⟨x, _, L, rfl, hA0, fun _ => kE, fun z => absurd z nf⟩
    refine ⟨x, _, L, rfl, hA0, fun z => absurd rfl z, fun _ => ?_⟩
    refine ⟨_, rfl, x, dx, _, rfl, hx, rfl, ?_⟩
    refine ⟨_, rfl, x, _, L, v, rfl, hA0, oL.len, ?_⟩
    rcases hv with ⟨y, M, rfl, hB, oM, hv⟩ | ⟨hw | hw, kE⟩
    rotate_left
    · obtain ⟨y, g, M, rfl, hB, hne⟩ := hw
      exact .inr (.inl ⟨y, g, M, rfl, hB, hne, kE⟩)
    · obtain ⟨t, ht, kt⟩ := hw
      exact .inr (.inr ⟨t, ht, kt, kE⟩)
    refine .inl ⟨y, M, rfl, hB, oM.len, fun one H1 S1 => ?_, fun one H1 S1 => ?_⟩
    rotate_left
    · rcases hv with ⟨z, _⟩ | ⟨_, kE⟩
      · rw [one] at z
        cases z
      · exact kE H1 S1
    rcases hv with ⟨_, hl, k⟩ | ⟨z, _⟩
    rotate_left
    · rw [one] at z
      cases z
    obtain ⟨dy, m, h2, cs, hy, hm, hh2, hk2⟩ := hB
    replace hx := S1 _ _ hx
    replace hn := S1 _ _ hn
    replace hh := S1 _ _ hh
    replace hk := keys_keep hk fun b ys e => S1 _ _ e
    replace hy := S1 _ _ hy
    replace hm := S1 _ _ hm
    replace hh2 := S1 _ _ hh2
    replace hk2 := keys_keep hk2 fun b ys e => S1 _ _ e
    refine ⟨_, rfl, x, _, dx, _, _, rfl, hx, T.cl_Answer, T.nF, flA_form _ n h, ?_⟩
    have hds := heads_of hk
    rw [map_kvsN] at hds
    have lhd := hds.len
    rw [List.length_map] at lhd
    refine ⟨_, rfl, x, _, dx, _, _, rfl, hx, T.cl_Answer, T.nH, flA_heads _ n h, h, rfl, ⟨_, .inl (.inl hh)⟩, fun D hD => ?_⟩
    refine Dh.dcA_it (walk_tup (K := K) (a := h) (xs := bs.map V.ref)) (fun i H3 => ∃ S, H3 = upd H1 D (.dT (kvsN S)) ∧ Sums (inB and L M (L.take i)) (setF and L M) S) ⟨[], rfl, Sums.nil⟩ ?_ ?_ ?_
    · rintro i H3 hi ⟨S, rfl, _⟩
      refine .inl (.inl ?_)
      rw [upd_ne (ne_of_none hh hD)]
      exact hh
    · rintro i b0 H3 H4 hi ⟨S, rfl, sm⟩ ⟨rfl, hb⟩
      rw [List.getElem?_map] at hb
      obtain ⟨b, hb2, rfl⟩ := Option.map_eq_some_iff.mp hb
      obtain ⟨kk, hkk, hbk⟩ := hds.at hb2
      rw [List.getElem?_map] at hkk
      obtain ⟨pr, hpr, rfl⟩ := Option.map_eq_some_iff.mp hkk
      have hbD : upd H1 D (.dT (kvsN S)) b = some (.tup ((keyN pr.1).map kV)) := by
        rw [upd_ne (ne_of_none hbk hD)]
        exact hbk
      have hyD : upd H1 D (.dT (kvsN S)) y = some (.ins a.c_Answer dy (flA "distinct" m h2)) := by
        rw [upd_ne (ne_of_none hy hD)]
        exact hy
      have hmD : upd H1 D (.dT (kvsN S)) m = some (.dT (kvsN M)) := by
        rw [upd_ne (ne_of_none hm hD)]
        exact hm
      refine ⟨rfl, ?_⟩
      refine ⟨_, rfl, _, rfl, y, _, dy, _, _, rfl, hyD, T.cl_Answer, T.nN, flA_num _ m h2, m, _, rfl, .inr ⟨kvsN M, keyN pr.1, b, .inl hmD, rfl, hbD, rfl⟩, ?_⟩
      refine ⟨_, rfl, ?_⟩
      have ev : (valV (kvsN M) (keyN pr.1)).isSome = and (inN L pr.1) (inN M pr.1) := by
        rw [val_some oM.nd, inN_of (List.mem_of_getElem? hpr)]
        rfl
      cases e : and (inN L pr.1) (inN M pr.1) with
      | false =>
        refine ite_f (ev.trans e) ⟨S, rfl, ?_⟩
        rw [inB_no hpr e]
        exact sm
      | true =>
        refine ite_t (ev.trans e) ?_
        refine ⟨_, rfl, ?_⟩
        refine ⟨_, .inr ⟨kvsN S, keyN pr.1, b, upd_same, rfl, hbD, ?_, rfl⟩, putN S pr.1 (setF and L M pr.1), ?_, ?_⟩
        · have l1 := sm.len
          unfold inB at l1
          rw [List.length_map] at l1
          have l3 := List.length_filter_le (fun p => and (inN L p.1) (inN M p.1)) (L.take i)
          rw [List.length_take] at l3
          have l4 := oL.len
          rw [len_kvsN, sizeLine_eq]
          omega
        · rw [upd_upd, setF_1 e, ← put_N]
        · rw [inB_yes hpr e]
          exact sm.put pr.1
    · rintro H3 ⟨S, rfl, sm⟩
      rw [List.length_map, ← lhd, List.take_length] at sm
      generalize EH3 : upd H1 D (.dT (kvsN S)) = H3
      have hD3 := (congrFun EH3 D).symm.trans upd_same
      have S3 : Same H1 H3 := by rw [← EH3]; exact sameNew hD
      obtain ⟨isF, ok⟩ := set_done oL oM one oL.len sm (fun p hp => List.mem_append_left _ hp) fun j e => of_decide_eq_true ((Bool.and_eq_true _ _).mp e).1
      exact made (S1.trans S3) hD3 ok isF k
theorem ok_Answer___xor__ (T : Txt K mg a) : FnOk P w K mg base (L2.CX P w) 7 a.Answer___xor__ a.fd_Answer___xor__ ps_Answer___xor__ (spSet K a.c_Answer a.c_InvalidOperation (xor)) := by
  have F := T.F_Answer___xor__
  refine F.okX (k := 6) sc_Answer___xor__ (fun vs H Q E h => ?_) (fun cdv A outer s H vs Q E hr h => ?_)
  · obtain ⟨x, f, L, v, rfl, hA, oL, hv⟩ := h
    rfl
  · obtain ⟨x, f, L, v, rfl, hA, oL, hv⟩ := h
    have hu := hu_of hr
    refine ⟨_, (pss_cons (ps_expr (pe_meth0 (pv 0) T.cl_Answer T.m__check_heads (ok_Answer__check_heads T) (hr.mono (by decide)) (b_Answer__check_heads T) .nil (passes_call (takes_of rfl rfl rfl rfl) (fun _ _ _ _ h => h))))
      (pss_cons (ps_expr (pe_meth (pv 0) T.cl_Answer T.m__check_other (ok_Answer__check_other T) (hr.mono (by decide)) (b_Answer__check_other T) .nil (passes_call (takes_of rfl rfl rfl rfl) (fun _ _ _ _ h => h)) (pa_cons (pv 1) pa_nil)))
      (pss_cons (ps_asg (pe_tup (pa_cons (pe_fld (pv 0) rfl) (pa_cons (pe_fld (pv 1) rfl) pa_nil))) (pg_tup rfl (pgs_cons (pg_name (i := 2) sc_Answer___xor__.nd rfl (Or.inr rfl)) (pgs_cons (pg_name (i := 3) sc_Answer___xor__.nd rfl (Or.inr rfl)) pgs_nil))))
      (pss_one (ps_ret (pe_make T.mk_Answer (ok_Answer___init__ T) (hr.mono (by decide)) (by rfl) T.g_c_Answer (b_Answer___init__ T) .nil never (pa_cons (pe_fld (pv 0) rfl) (pa_cons (Dh.pe_dcA (t := true) (own := [("head", 4)]) hu rfl sc_Answer___xor__.nd (pi_list (pe_lst (Dh.pa_starD rfl (pv 2) (Dh.pa_starD rfl (pv 3) pa_nil)))) (blkOk_by (N := nm_Answer___xor__) (sc := defScope s_Answer___xor__) (by decide +kernel)) ⟨(fun _ _ _ _ _ => (pg_name (i := 4) sc_Answer___xor__.nd rfl (Or.inl rfl))), (fun _ _ _ _ _ => (pts_one (pt_not (PW.pt (pw_and (pt_cmp (pc_din hu (pv 4) (pv 2))) (pw_and1 (pt_cmp (pc_din hu (pv 4) (pv 3))))))))), (fun _ _ _ _ _ => (pv 4)), (fun _ _ _ _ _ => pe_int)⟩) pa_nil)))))))), ?_⟩
    have hA0 := hA
    obtain ⟨dx, n, h, bs, hx, hn, hh, hk⟩ := hA
    refine ⟨_, rfl, x, dx, _, rfl, hx, rfl, ?_⟩
    rcases hv with ⟨nf, kE⟩ | ⟨rfl, hv⟩
    · exact ⟨x, _, L, rfl, hA0, fun _ => kE, fun z => absurd z nf⟩
    refine ⟨x, _, L, rfl, hA0, fun z => absurd rfl z, fun _ => ?_⟩
    refine ⟨_, rfl, x, dx, _, rfl, hx, rfl, ?_⟩
    refine ⟨_, rfl, x, _, L, v, rfl, hA0, oL.len, ?_⟩
    rcases hv with ⟨y, M, rfl, hB, oM, hv⟩ | ⟨hw | hw, kE⟩
    rotate_left
    · obtain ⟨y, g, M, rfl, hB, hne⟩ := hw
      exact .inr (.inl ⟨y, g, M, rfl, hB, hne, kE⟩)
    · obtain ⟨t, ht, kt⟩ := hw
      exact .inr (.inr ⟨t, ht, kt, kE⟩)
    refine .inl ⟨y, M, rfl, hB, oM.len, fun one H1 S1 => ?_, fun one H1 S1 => ?_⟩
    rotate_left
    · rcases hv with ⟨z, _⟩ | ⟨_, kE⟩
      · rw [one] at z
        cases z
      · exact kE H1 S1
    rcases hv with ⟨_, hl, k⟩ | ⟨z, _⟩
    rotate_left
    · rw [one] at z
      cases z
    obtain ⟨dy, m, h2, cs, hy, hm, hh2, hk2⟩ := hB
    replace hx := S1 _ _ hx
    replace hn := S1 _ _ hn
    replace hh := S1 _ _ hh
    replace hk := keys_keep hk fun b ys e => S1 _ _ e
    replace hy := S1 _ _ hy
    replace hm := S1 _ _ hm
    replace hh2 := S1 _ _ hh2
    replace hk2 := keys_keep hk2 fun b ys e => S1 _ _ e
    refine ⟨_, rfl, x, _, dx, _, _, rfl, hx, T.cl_Answer, T.nN, flA_num _ n h, _, rfl, y, _, dy, _, _, rfl, hy, T.cl_Answer, T.nN, flA_num _ m h2, (by show 2 ≤ sizeLine; decide), fun p np => ?_⟩
    generalize EH2 : upd H1 p _ = H2
    have hp := (congrFun EH2 p).symm.trans upd_same
    have S2 : Same H1 H2 := by rw [← EH2]; exact sameNew np
    refine ⟨p, _, rfl, .inl (.inl hp), rfl, _, _, rfl, _, _, rfl, rfl, ?_⟩
    refine ⟨_, rfl, x, _, dx, _, _, rfl, S2 _ _ hx, T.cl_Answer, T.nF, flA_form _ n h, ?_⟩
    refine ⟨_, rfl, n, kvsN L, rfl, .inl (S2 _ _ hn), fun bs1 ik1 => ⟨_, rfl, m, kvsN M, rfl, .inl (S2 _ _ hm), fun cs1 ik2 => ⟨?_, fun q nq => ?_⟩⟩⟩
    · have l1 := keys_len ik1
      have l2 := keys_len ik2
      rw [List.append_nil, List.length_append, List.length_map, List.length_map, sizeLine_eq]
      omega
    rw [List.append_nil, ← List.map_append]
    have hds := heads_both ik1 ik2
    generalize EH3 : upd H2 q _ = H3
    have hq := (congrFun EH3 q).symm.trans upd_same
    have S3 : Same H2 H3 := by rw [← EH3]; exact sameNew nq
    replace hds := hds.keep fun b ys e => S3 _ _ e
    have lhd := hds.len
    rw [List.length_map] at lhd
    have hn2 := S3 _ _ (S2 _ _ hn)
    have hm2 := S3 _ _ (S2 _ _ hm)
    have l2 : (L ++ M).length = L.length + M.length := List.length_append
    refine ⟨q, rfl, ⟨_, .inl (.inl hq)⟩, fun D hD => ?_⟩
    refine Dh.dcA_it (walk_list (K := K) (a := q) (xs := (bs1 ++ cs1).map V.ref)) (fun i H4 => ∃ S, H4 = upd H3 D (.dT (kvsN S)) ∧ Sums (inB xor L M ((L ++ M).take i)) (setF xor L M) S) ⟨[], rfl, Sums.nil⟩ ?_ ?_ ?_
    · rintro i H4 hi ⟨S, rfl, _⟩
      refine .inl (.inl ?_)
      rw [upd_ne (ne_of_none hq hD)]
      exact hq
    · rintro i b0 H4 H5 hi ⟨S, rfl, sm⟩ ⟨rfl, hb⟩
      rw [List.getElem?_map] at hb
      obtain ⟨b, hb2, rfl⟩ := Option.map_eq_some_iff.mp hb
      obtain ⟨kk, hkk, hbk⟩ := hds.at hb2
      rw [List.getElem?_map] at hkk
      obtain ⟨pr, hpr, rfl⟩ := Option.map_eq_some_iff.mp hkk
      have hbD : upd H3 D (.dT (kvsN S)) b = some (.tup ((keyN pr.1).map kV)) := by
        rw [upd_ne (ne_of_none hbk hD)]
        exact hbk
      have hnD : upd H3 D (.dT (kvsN S)) n = some (.dT (kvsN L)) := by
        rw [upd_ne (ne_of_none hn2 hD)]
        exact hn2
      have hmD : upd H3 D (.dT (kvsN S)) m = some (.dT (kvsN M)) := by
        rw [upd_ne (ne_of_none hm2 hD)]
        exact hm2
      have el : (valV (kvsN L) (keyN pr.1)).isSome = inN L pr.1 := val_some oL.nd _
      have em : (valV (kvsN M) (keyN pr.1)).isSome = inN M pr.1 := val_some oM.nd _
      have either : inN L pr.1 = true ∨ inN M pr.1 = true := by
        rcases List.mem_append.mp (List.mem_of_getElem? hpr) with z | z
        · exact .inl (inN_of z)
        · exact .inr (inN_of z)
      refine ⟨rfl, ?_⟩
      refine ⟨_, rfl, _, rfl, n, _, rfl, .inr ⟨kvsN L, keyN pr.1, b, .inl hnD, rfl, hbD, rfl⟩, _, rfl, ?_⟩
      rw [el]
      have go : xor (inN L pr.1) (inN M pr.1) = true → tVar 4 (List.set (wipe (((L2.start nm_Answer___xor__ [V.ref x, V.ref y]).set 2 (some (V.ref n))).set 3 (some (V.ref m))) (List.map (fun x => x.snd) [(("head" : Str), 4)])) 4 (some (V.ref b))) (upd H3 D (.dT (kvsN S))) fun y_1 H4 =>
          tC (V.int 1) (List.set (wipe (((L2.start nm_Answer___xor__ [V.ref x, V.ref y]).set 2 (some (V.ref n))).set 3 (some (V.ref m))) (List.map (fun x => x.snd) [(("head" : Str), 4)])) 4 (some (V.ref b))) H4 fun z H5 =>
            ∃ H6, DPut H5 D y_1 z H6 ∧ ∃ S, H6 = upd H3 D (.dT (kvsN S)) ∧ Sums (inB xor L M ((L ++ M).take (i + 1))) (setF xor L M) S := fun e => by
        refine ⟨_, rfl, ?_⟩
        refine ⟨_, .inr ⟨kvsN S, keyN pr.1, b, upd_same, rfl, hbD, ?_, rfl⟩, putN S pr.1 (setF xor L M pr.1), ?_, ?_⟩
        · have l1 := sm.len
          unfold inB at l1
          rw [List.length_map] at l1
          have l3 := List.length_filter_le (fun p => xor (inN L p.1) (inN M p.1)) ((L ++ M).take i)
          rw [List.length_take] at l3
          rw [len_kvsN, sizeLine_eq]
          omega
        · rw [upd_upd, setF_1 e, ← put_N]
        · rw [inB_yes hpr e]
          exact sm.put pr.1
      cases ei : inN L pr.1 with
      | false =>
        rw [ei] at go
        have mi : inN M pr.1 = true := either.elim (fun z => by rw [ei] at z; cases z) id
        exact iteF (iteT (go (by rw [mi]; rfl)))
      | true =>
        rw [ei] at go
        refine iteT ?_
        refine ⟨_, rfl, _, rfl, m, _, rfl, .inr ⟨kvsN M, keyN pr.1, b, .inl hmD, rfl, hbD, rfl⟩, _, rfl, ?_⟩
        rw [em]
        cases mi : inN M pr.1 with
        | false => exact iteT (go (by rw [mi]; rfl))
        | true =>
          refine iteF ⟨S, rfl, ?_⟩
          rw [inB_no hpr (by rw [ei, mi]; rfl)]
          exact sm
    · rintro H4 ⟨S, rfl, sm⟩
      rw [List.length_map, ← lhd, List.take_length] at sm
      generalize EH4 : upd H3 D (.dT (kvsN S)) = H4
      have hD4 := (congrFun EH4 D).symm.trans upd_same
      have S4 : Same H3 H4 := by rw [← EH4]; exact sameNew hD
      obtain ⟨isF, ok⟩ := set_done oL oM one (by omega) sm (fun p hp => hp) fun j e => by
        rw [List.map_append, List.mem_append]
        cases z : inN L j with
        | true => exact .inl (of_decide_eq_true z)
        | false =>
          rw [z] at e
          exact .inr (of_decide_eq_true ((Bool.false_xor _).symm.trans e))
      exact made (((S1.trans S2).trans S3).trans S4) hD4 ok isF k
end
end K02

set_option Elab.async false
set_option linter.all false
set_option maxRecDepth 100000
set_option maxHeartbeats 4000000
open L2 in
local macro_rules | `(tactic| walk_at "r1") => `(tactic| first
  | refine ⟨_, rfl, ?_⟩
  | refine ⟨_, _, rfl, rfl, ?_⟩)
open L2 in
local macro_rules | `(tactic| walk_at "q1") => `(tactic| first
  | refine ⟨_, rfl, ?_⟩
  | refine ⟨_, _, rfl, rfl, ?_⟩
  | refine And.intro (show CMul _ _ from Or.inr ⟨by decide, by decide⟩) ?_
  | refine And.intro (show CMul _ _ from Or.inl ⟨by first | decide | omega, by first | decide | omega⟩) ?_
  | refine And.intro (show CMul _ _ from Or.inr ⟨by omega, by omega⟩) ?_
  | refine And.intro (show CDiv _ _ from ⟨by omega, by omega⟩) ?_
  | refine And.intro (show Dt.CPowG _ _ from ⟨by decide, by decide +kernel⟩) ?_
  | refine And.intro (by first | decide | omega) ?_
  | refine And.intro (Int.pow_pos (Int.pow_pos (by decide))) ?_
  | refine ⟨_, _, _, _, rfl, rfl, SqL.of (by first | assumption | exact upd_same), (by rfl), ?_⟩
  | refine ⟨_, _, _, _, rfl, rfl, (by first | assumption | exact upd_same), (by rfl), ?_⟩
  | refine Or.inl ⟨_, rfl, ?_⟩
  | refine Or.inr ⟨_, rfl, ?_⟩)
local macro_rules | `(tactic| walk_at "q") => `(tactic| repeat (walk_at "q1"))
local macro_rules | `(tactic| walk_at "eqt") => `(tactic| (refine ⟨_, rfl, ?_⟩; refine ⟨rfl, ?_⟩; first
  | (refine ⟨true, rfl, ?_⟩; refine L2.iteT ?_)
  | (refine ⟨false, rfl, ?_⟩; refine L2.iteF ?_)))
local macro_rules | `(tactic| walk_at "sz") => `(tactic| (rw [PySem.sizeLine_eq]; simp))
namespace K02
open PySem PySem.Spec PyProof.Rows L2 Dt An Rp
section
variable {P : Program} {w : World} {K : PySem.W.Frag} {mg : Str → Option Value} {base : Heap} {a : Ads}
theorem len_sub {α : Type} [DecidableEq α] : ∀ {l m : List α}, l.Nodup → (∀ x ∈ l, x ∈ m) → l.length ≤ m.length
  | [], _, _, _ => Nat.zero_le _
  | a :: l, m, nd, h => by
    have ha := h a List.mem_cons_self
    have n2 := List.nodup_cons.mp nd
    have r := len_sub (m := m.erase a) n2.2 fun x hx => (List.mem_erase_of_ne (fun z => n2.1 (by rw [← z]; exact hx))).mpr (h x (List.mem_cons_of_mem _ hx))
    rw [List.length_erase_of_mem ha] at r
    have : 0 < m.length := List.length_pos_of_mem ha
    rw [List.length_cons]
    omega
theorem IsF.len {L : Nums} {g : List Int → Int} (i : IsF L g) {hs : List (List Int)} (h : ∀ k, g k ≠ 0 → k ∈ hs) : L.length ≤ hs.length := by
  have := len_sub i.nd (m := hs) fun k hk => by
    obtain ⟨p, hp, rfl⟩ := List.mem_map.mp hk
    refine h _ fun z => i.nz p hp ?_
    rw [← vN_mem i.nd hp, i.at_]
    exact z
  rwa [List.length_map] at this
theorem IsF.head {L : Nums} {g : List Int → Int} (i : IsF L g) {p : List Int × Int} (hp : p ∈ L) : g p.1 ≠ 0 := fun z => i.nz p hp (by rw [← vN_mem i.nd hp, i.at_]; exact z)
/-- the numbers of several answers, put together -/
def comb (f : Str) (Ls : List Nums) : List Int → Int := fun h => if f = "distinct" then (if Ls.any (fun L => inN L h) = true then 1 else 0) else (Ls.map fun L => vN L h).sum
def hds (Ls : List Nums) : List (List Int) := Ls.flatten.map (·.1)
def oneAll (Ls : List Nums) : Bool := oneKs (Ls.flatten.map fun p => keyN p.1)
theorem comb_in {f : Str} {Ls : List Nums} {h : List Int} (q : comb f Ls h ≠ 0) : h ∈ hds Ls := by
  refine Decidable.byContradiction fun c => q ?_
  have no : ∀ L ∈ Ls, h ∉ L.map (·.1) := fun L hL z => by
    obtain ⟨p, hp, rfl⟩ := List.mem_map.mp z
    exact c (List.mem_map.mpr ⟨p, List.mem_flatten.mpr ⟨L, hL, hp⟩, rfl⟩)
  unfold comb
  by_cases e : f = "distinct"
  · rw [if_pos e, if_neg]
    intro z
    obtain ⟨L, hL, q⟩ := List.any_eq_true.mp z
    exact no L hL (of_decide_eq_true q)
  · rw [if_neg e]
    have : ∀ Ls : List Nums, (∀ L ∈ Ls, h ∉ L.map (·.1)) → (Ls.map fun L => vN L h).sum = 0 := fun Ls => by
      induction Ls with
      | nil => exact fun _ => rfl
      | cons L r ih =>
        intro k
        rw [List.map_cons, List.sum_cons, vN_not (k L List.mem_cons_self), ih fun M hM => k M (List.mem_cons_of_mem _ hM)]
        rfl
    exact this Ls no
theorem comb_set {Ls : List Nums} {R L : Nums} (i : IsF R (comb "distinct" Ls)) (h : List Int) : setF or R L h = comb "distinct" (Ls ++ [L]) h := by
  have e : inN R h = Ls.any (fun L => inN L h) := by
    unfold inN
    have q := i.at_ h
    unfold comb at q
    rw [if_pos rfl] at q
    by_cases c : h ∈ R.map (·.1)
    · rw [decide_eq_true c]
      obtain ⟨p, hp, rfl⟩ := List.mem_map.mp c
      have z := i.head hp
      unfold comb at z
      rw [if_pos rfl] at z
      cases y : Ls.any (fun L => inN L p.1) with
      | true => exact y.symm
      | false =>
        rw [y] at z
        exact absurd rfl z
    · rw [decide_eq_false c]
      rw [vN_not c] at q
      cases y : Ls.any (fun L => inN L h) with
      | false => exact y.symm
      | true =>
        rw [y] at q
        cases q
  unfold setF comb
  rw [if_pos rfl, e, List.any_append]
  have e2 : [L].any (fun L => inN L h) = inN L h := by
    rw [List.any_cons, List.any_nil, Bool.or_false]
  rw [e2]
theorem comb_add {f : Str} (nf : f ≠ "distinct") {Ls : List Nums} {R L : Nums} (i : IsF R (comb f Ls)) (h : List Int) : vN R h + 1 * vN L h = comb f (Ls ++ [L]) h := by
  have q := i.at_ h
  unfold comb at q ⊢
  rw [if_neg nf] at q ⊢
  rw [q, List.map_append, List.sum_append, Int.one_mul, List.map_cons, List.map_nil, List.sum_cons, List.sum_nil, Int.add_zero]
theorem oneAll_iff {Ls : List Nums} : oneAll Ls = true ↔ ∀ p ∈ Ls.flatten, ∀ q ∈ Ls.flatten, p.1.length = q.1.length := by
  have := one_of (L := Ls.flatten) (M := [])
  unfold oneOf at this
  rw [List.append_nil] at this
  exact this
/-- several answers of one form stand there -/
def AllA (C : Addr) (H : Hp) (f : Str) (xs : List Addr) (Ls : List Nums) : Prop := Paired (fun x L => AnsAt C H x f L ∧ OkN f L) xs Ls
theorem AllA.get {C : Addr} {H : Hp} {f : Str} : ∀ {xs : List Addr} {Ls : List Nums} {i : Nat} {x : Addr}, AllA C H f xs Ls → xs[i]? = some x → ∃ L, Ls[i]? = some L ∧ AnsAt C H x f L ∧ OkN f L
  | _, _, i, x, .nil, e => by cases e
  | _, _, 0, x, .cons (b := L) h t, e => by
    cases e
    exact ⟨L, rfl, h⟩
  | _ :: xs, _ :: Ls, i + 1, x, .cons h t, e => AllA.get (xs := xs) (Ls := Ls) t e
def GoodA (C : Addr) (H : Hp) (f : Str) (y : V) : Prop := ∃ x L, y = .ref x ∧ AnsAt C H x f L
def spComb (K : PySem.W.Frag) (C CI CO : Addr) : Sp := fun vs H Q E => ∃ v t ys, vs = [v, .ref t] ∧ H t = some (.tup ys) ∧ ys.length ≤ 10 ∧
  ((∃ d, Dq K H v d ∧ isFormD d = false ∧ E (.ref CI) none H) ∨
   ∃ f, v = .str f ∧ f ∈ forms ∧
    (((∀ y ∈ ys, GoodA C H f y ∨ ∀ H', Same H H' → Wrong K C H' f y) ∧ (∃ y ∈ ys, ¬ GoodA C H f y) ∧ ∀ H', Same H H' → E (.ref CO) none H') ∨
     (∃ xs Ls, ys = xs.map V.ref ∧ AllA C H f xs Ls ∧ Ls.flatten.length ≤ 1000 ∧
       ((oneAll Ls = true ∧ ∀ z R H', NewA C H H' z f R (comb f Ls) → Q (.ref z) H') ∨ (oneAll Ls = false ∧ ∀ H', Same H H' → E (.ref CO) none H')))))
theorem okN_0 {f : Str} (hf : f ∈ forms) : OkN f [] := ok_of hf List.nodup_nil (fun p hp => by cases hp) (fun p hp => by cases hp) (fun p hp => by cases hp) (Nat.zero_le _)
theorem newA0 {C : Addr} {H Hc H' : Hp} {x dx n : Addr} {f : Str} {Ls : Nums} (S : Same H Hc) (hf : f ∈ forms) (hx : Hc x = none) (hdx : Hc dx = none) (srt : SortOf [] Ls) (at' : AnsN C H' x f Ls n)
    (kp : ∀ b o, b ≠ x → (upd (upd Hc dx (.own x)) x (.ins C dx [])) b = some o → H' b = some o) : Ls = [] ∧ NewA C H H' x f [] (fun _ => 0) := by
  have e : Ls = [] := List.perm_nil.mp srt.1
  subst e
  refine ⟨rfl, at'.at, fun b u e => ?_, okN_0 hf, srt.2, ⟨List.nodup_nil, fun p hp => (by cases hp), fun _ => rfl⟩⟩
  have e2 := S b u e
  have b1 : b ≠ x := ne_of_none e2 hx
  exact kp b u b1 (by rw [upd_ne b1, upd_ne (ne_of_none e2 hdx)]; exact e2)
theorem own_ans {C : Addr} {H : Hp} {x : Addr} {f : Str} {L : Nums} (h : AnsAt C H x f L) : Ow.Own H C x := by
  obtain ⟨dx, n, hh, bs, h1, _⟩ := h
  exact ⟨_, _, h1⟩
theorem NewA.to {C : Addr} {H H' : Hp} {z : Addr} {f : Str} {L : Nums} {g g' : List Int → Int} (n : NewA C H H' z f L g) (e : ∀ h, g h = g' h) : NewA C H H' z f L g' := ⟨n.at_, n.same, n.ok, n.sort, n.isF.to e⟩
theorem flat_split {Ls : List Nums} {i : Nat} {L : Nums} (h : Ls[i]? = some L) : ∃ r, Ls.flatten = (Ls.take i).flatten ++ (L ++ r) := by
  refine ⟨(Ls.drop (i + 1)).flatten, ?_⟩
  have e : Ls.flatten = (Ls.take (i + 1)).flatten ++ (Ls.drop (i + 1)).flatten := by
    rw [← List.flatten_append, List.take_append_drop]
  rw [e, List.take_add_one, h, List.flatten_append]
  show (_ ++ [L].flatten) ++ _ = _
  rw [List.flatten_singleton, List.append_assoc]
/-- one more answer may be put to what is there -/
theorem comb_next {f : Str} {Ls : List Nums} {R L : Nums} {i : Nat} (h : Ls[i]? = some L) (iF : IsF R (comb f (Ls.take i))) (one : oneAll Ls = true) (hl : Ls.flatten.length ≤ 1000) : oneOf R L = true ∧ R.length + L.length ≤ 1000 := by
  obtain ⟨r, er⟩ := flat_split h
  have inF : ∀ p ∈ R ++ L, ∃ q ∈ Ls.flatten, q.1 = p.1 := fun p hp => by
    rw [er]
    rcases List.mem_append.mp hp with z | z
    · obtain ⟨q, hq, e⟩ := List.mem_map.mp (comb_in (iF.head z))
      exact ⟨q, List.mem_append_left _ hq, e⟩
    · exact ⟨p, List.mem_append_right _ (List.mem_append_left _ z), rfl⟩
  refine ⟨one_of.mpr fun p hp q hq => ?_, ?_⟩
  · obtain ⟨p', hp', e⟩ := inF p hp
    obtain ⟨q', hq', e2⟩ := inF q hq
    rw [← e, ← e2]
    exact oneAll_iff.mp one p' hp' q' hq'
  · have l1 := iF.len (hs := hds (Ls.take i)) fun k hk => comb_in hk
    unfold hds at l1
    rw [List.length_map] at l1
    rw [er, List.length_append, List.length_append] at hl
    omega
theorem ok_combined (T : Txt K mg a) : FnR P w K mg base (L2.CX P w) 8 a.combined (Sf.star 1 (spComb K a.c_Answer a.c_InvalidAnswer a.c_InvalidOperation)) := by
  have F := T.F_combined
  refine Sf.okStar (k := 7) (ps := ps_combined.take 1) (pv := "answers") F sc_combined (fun kV doc pm an cdv ct => StX.bind_star1 (B := fun us => bindArgs (PySem.W.fnOf _ _ (defArgs s_combined) (defBody s_combined) (defScope s_combined) .none kV doc pm an cdv ct) ⟨us, []⟩) (fun _ => rfl) (fun _ _ _ => rfl)) (fun cdv A outer s H vs Q E hr h => ?_)
  obtain ⟨v, t, ys, rfl, ht, hly, hv⟩ := h
  have hu := hu_of hr
  obtain ⟨bds, vds, bdh⟩ := bd_Answer___init__ T
  refine ⟨_, (pss_cons (ps_if (pt_not (pt_val (pe_call (ok_is_form T) (hr.mono (by decide)) (by rfl) T.g_is_form T.F_is_form.kp (b_is_form T) .nil pass0 (pa_cons (pv 0) pa_nil)))) (pss_one (ps_raise rfl (takes_of rfl rfl rfl rfl) (pmk_own PySem.F.excBase_ValueError T.q_InvalidAnswer T.g_c_InvalidAnswer T.kp_InvalidAnswer (raises_own T.b_InvalidAnswer T.ty_InvalidAnswer) (by rfl)))) pss_nil)
      (pss_cons (ps_if (pt_not (pt_val (pe_callB (cr_all rfl) (by rfl) T.all (by decide +kernel) (pa_cons (pe_lc (own := [("answer", 2)]) rfl sc_combined.nd (pi_tup (pv 1)) (blkOk_by (N := nm_combined) (sc := defScope s_combined) (by decide +kernel)) (fun _ _ _ _ _ => (pg_name (i := 2) sc_combined.nd rfl (Or.inl rfl))) (fun _ _ _ _ _ => pts_nil) (fun _ _ _ _ _ => (pe_and (pe_callB (id := "isinstance") (r := rIsi K) call_isi (by rfl) T.isinstance (by decide +kernel) (pa_cons (pv 2) (pa_cons (pe_glob (v := V.ref a.c_Answer) (by rfl) T.g_c_Answer (by rfl)) pa_nil))) (pe_one (pe_cmpR op_eq (show PE _ _ (tProp a.c_Answer (spForm a.c_Answer) [] E0 (tVar 2)) from pe_prop (pv 2) T.cl_Answer T.p_form (ok_Answer_form T) (hr.mono (by decide)) (b_Answer_form T) .nil pass0 rfl) (pv 0) (nomark _)))))) pa_nil)))) (pss_one (ps_raise rfl (takes_of rfl rfl rfl rfl) (pmk_own PySem.F.excBase_ValueError T.q_InvalidOperation T.g_c_InvalidOperation T.kp_InvalidOperation (raises_own T.b_InvalidOperation T.ty_InvalidOperation) (by rfl)))) pss_nil)
      (pss_cons (ps_if (pt_not (pt_val (pe_call (ok__are_of_one_length_list T) (hr.mono (by decide)) (by rfl) T.g__are_of_one_length T.F__are_of_one_length.kp (b__are_of_one_length T) .nil pass0 (pa_cons (pe_lc2 (own := [("answer", 2), ("head", 3)]) (vs1 := [3]) rfl sc_combined.nd (pi_tup (pv 1)) (blkOk_by (N := nm_combined) (sc := defScope s_combined) (by decide +kernel)) (by decide) (fun _ _ _ _ _ => (pg_name (i := 2) sc_combined.nd rfl (Or.inl rfl))) (fun _ _ _ _ _ => pts_nil) (fun _ _ _ _ _ => (show PI _ _ _ (iTup K (tProp a.c_Answer (spHeads a.c_Answer) [] E0 (tVar 2))) from (pi_tup (show PE _ _ (tProp a.c_Answer (spHeads a.c_Answer) [] E0 (tVar 2)) from pe_prop (pv 2) T.cl_Answer T.p_heads (ok_Answer_heads T) (hr.mono (by decide)) (b_Answer_heads T) .nil pass0 rfl)))) (fun _ _ _ _ _ => (pg_name (i := 3) sc_combined.nd rfl (Or.inl rfl))) (fun _ _ _ _ _ => pts_nil) (fun _ _ _ _ _ => (pv 3))) pa_nil)))) (pss_one (ps_raise rfl (takes_of rfl rfl rfl rfl) (pmk_own PySem.F.excBase_ValueError T.q_InvalidOperation T.g_c_InvalidOperation T.kp_InvalidOperation (raises_own T.b_InvalidOperation T.ty_InvalidOperation) (by rfl)))) pss_nil)
      (pss_cons (ps_set (i := 4) sc_combined.nd rfl (Or.inl rfl) (pe_make T.mk_Answer (ok_Answer___init__ T) (hr.mono (by decide)) (by rfl) T.g_c_Answer bdh vds never (pa_cons (pv 0) pa_nil)))
      (pss_cons (ps_for (passes_of rfl) rfl (pi_tup (pv 1)) (pg_name (i := 2) sc_combined.nd rfl (Or.inl rfl)) (pss_one (ps_set (i := 4) sc_combined.nd rfl (Or.inl rfl) (pe_ifExp (pt_cmpR op_eq (pv 0) pe_str (nomark _)) (pe_op (Ow.op_binA ⟨T.fi__or__, T.fn__or__, ok_Answer___or__ T, b_Answer___or__ T⟩ T.sf_A T.fr__or__ (hr.mono (by decide)) never) (pv 4) (pv 2)) (pe_op (Ow.op_binA ⟨T.fi__add__, T.fn__add__, ok_Answer___add__ T, b_Answer___add__ T⟩ T.sf_A T.fr__add__ (hr.mono (by decide)) never) (pv 4) (pv 2))))))
      (pss_one (ps_ret (pv 4)))))))), ?_⟩
  rcases hv with ⟨d, hd, e, kE⟩ | ⟨f, rfl, hf, hv⟩
  · refine ⟨_, rfl, v, d, rfl, hd, _, rfl, ?_⟩
    rw [e]
    exact iteT kE
  refine ⟨_, rfl, _, .str f, rfl, .str f, _, rfl, ?_⟩
  rw [show isFormD (.str f) = true from decide_eq_true hf]
  refine iteF ?_
  rcases hv with ⟨hall, hbad, kE⟩ | ⟨xs, Ls, rfl, hA, hlen, hv⟩
  · refine ⟨_, rfl, t, rfl, ⟨_, .inl (.inl ht)⟩, fun D hD => ?_⟩
    refine lc_it (walk_tup (K := K) (a := t) (xs := ys)) (fun i H1 => ∃ bs : List Bool, H1 = upd H D (.lst (bs.map V.bl)) ∧ bs.length = i ∧ ((∃ y ∈ ys.take i, ¬ GoodA a.c_Answer H f y) → false ∈ bs)) ⟨[], rfl, rfl, fun ⟨y, hy, _⟩ => by cases hy⟩ ?_ ?_ ?_
    · rintro i H1 hi ⟨bs, rfl, _⟩
      refine .inl (.inl ?_)
      rw [upd_ne (ne_of_none ht hD)]
      exact ht
    · rintro i y H1 H2 hi ⟨bs, rfl, hb, hbs⟩ ⟨rfl, hy⟩
      have S1 : Same H (upd H D (.lst (bs.map V.bl))) := sameNew hD
      refine ⟨rfl, ?_⟩
      dsimp only [tYes]
      rw [if_pos rfl]
      have put : ∀ b : Bool, (b = true → GoodA a.c_Answer H f y) → ∃ acc, upd H D (.lst (bs.map V.bl)) D = some (.lst acc) ∧ acc.length < sizeLine ∧ ∃ bs' : List Bool, upd (upd H D (.lst (bs.map V.bl))) D (.lst (acc ++ [V.bl b])) = upd H D (.lst (bs'.map V.bl)) ∧ bs'.length = i + 1 ∧ ((∃ y ∈ ys.take (i + 1), ¬ GoodA a.c_Answer H f y) → false ∈ bs') := by
        intro b hgb
        refine ⟨_, upd_same, ?_, bs ++ [b], ?_, ?_, ?_⟩
        · rw [List.length_map, sizeLine_eq]
          omega
        · rw [upd_upd, List.map_append]
          rfl
        · rw [List.length_append, hb]
          rfl
        · rintro ⟨z, hz, ng⟩
          rw [List.take_add_one, hy, List.mem_append] at hz
          rcases hz with hz | hz
          · exact List.mem_append_left _ (hbs ⟨z, hz, ng⟩)
          · have : z = y := List.mem_singleton.mp hz
            subst this
            cases b with
            | true => exact absurd (hgb rfl) ng
            | false => exact List.mem_append_right _ List.mem_cons_self
      rcases hall y (List.mem_of_getElem? hy) with ⟨x, L, rfl, hA⟩ | hw
      · have hA2 := ans_same S1 hA
        have tB := ans_ty T hA2
        obtain ⟨dx, n, h, as_, hx, hn, hh, hk⟩ := id hA2
        refine ⟨_, rfl, .ref x, .ref a.c_Answer, _, _, true, rfl, .own _, tB, if_pos (beq_self_eq_true _), _, rfl, ?_⟩
        refine iteT ?_
        refine ⟨_, rfl, x, dx, _, rfl, hx, x, f, L, rfl, hA2, _, rfl, rfl, ?_⟩
        rw [str_eq_d, decide_eq_true rfl]
        exact put true fun _ => ⟨x, L, rfl, hA⟩
      · rcases hw _ S1 with ⟨z, g, M, rfl, hB, hne⟩ | ⟨t0, ty, kt⟩
        · have tB := ans_ty T hB
          obtain ⟨dx, n, h, as_, hx, hn, hh, hk⟩ := id hB
          refine ⟨_, rfl, .ref z, .ref a.c_Answer, _, _, true, rfl, .own _, tB, if_pos (beq_self_eq_true _), _, rfl, ?_⟩
          refine iteT ?_
          refine ⟨_, rfl, z, dx, _, rfl, hx, z, g, M, rfl, hB, _, rfl, rfl, ?_⟩
          rw [str_eq_d, decide_eq_false hne]
          exact put false fun q => by cases q
        · refine ⟨_, rfl, y, .ref a.c_Answer, t0, _, false, rfl, .own _, ty, kt, _, rfl, ?_⟩
          exact iteF (put false fun q => by cases q)
    · rintro H1 ⟨bs, rfl, hb, hbs⟩
      refine ⟨D, bs, rfl, .inl (.inl upd_same), _, rfl, ?_⟩
      have hf2 : bs.all id = false := by
        rw [Bool.eq_false_iff]
        intro q
        have := List.all_eq_true.mp q false (hbs (by rw [List.take_length]; exact hbad))
        cases this
      rw [hf2]
      exact iteT (kE _ (sameNew hD))
  · refine ⟨_, rfl, t, rfl, ⟨_, .inl (.inl ht)⟩, fun D hD => ?_⟩
    refine lc_it (walk_tup (K := K) (a := t) (xs := xs.map V.ref)) (fun i H1 => ∃ bs : List Bool, H1 = upd H D (.lst (bs.map V.bl)) ∧ bs.length = i ∧ ∀ b ∈ bs, b = true) ⟨[], rfl, rfl, fun b hb => by cases hb⟩ ?_ ?_ ?_
    · rintro i H1 hi ⟨bs, rfl, _⟩
      refine .inl (.inl ?_)
      rw [upd_ne (ne_of_none ht hD)]
      exact ht
    · rintro i y H1 H2 hi ⟨bs, rfl, hb, hbs⟩ ⟨rfl, hy⟩
      have S1 : Same H (upd H D (.lst (bs.map V.bl))) := sameNew hD
      rw [List.getElem?_map] at hy
      obtain ⟨x, hx0, rfl⟩ := Option.map_eq_some_iff.mp hy
      obtain ⟨L, _, hA1, _⟩ := hA.get hx0
      have hA2 := ans_same S1 hA1
      have tB := ans_ty T hA2
      obtain ⟨dx, n, h, as_, hx, hn, hh, hk⟩ := id hA2
      refine ⟨rfl, ?_⟩
      dsimp only [tYes]
      rw [if_pos rfl]
      refine ⟨_, rfl, .ref x, .ref a.c_Answer, _, _, true, rfl, .own _, tB, if_pos (beq_self_eq_true _), _, rfl, ?_⟩
      refine iteT ?_
      refine ⟨_, rfl, x, dx, _, rfl, hx, x, f, L, rfl, hA2, _, rfl, rfl, ?_⟩
      rw [str_eq_d, decide_eq_true rfl]
      refine ⟨_, upd_same, ?_, bs ++ [true], ?_, ?_, ?_⟩
      · rw [List.length_map, sizeLine_eq]
        omega
      · rw [upd_upd, List.map_append]
        rfl
      · rw [List.length_append, hb]
        rfl
      · intro b hb2
        rcases List.mem_append.mp hb2 with z | z
        · exact hbs b z
        · exact List.mem_singleton.mp z
    rintro H1 ⟨bs0, rfl, _, hbs0⟩
    refine ⟨D, bs0, rfl, .inl (.inl upd_same), _, rfl, ?_⟩
    rw [show bs0.all id = true from List.all_eq_true.mpr fun b hb => hbs0 b hb]
    refine iteF ?_
    generalize EH1 : upd H D (.lst (bs0.map V.bl)) = H1
    have S1 : Same H H1 := by rw [← EH1]; exact sameNew hD
    have ht1 := S1 _ _ ht
    refine ⟨_, rfl, t, rfl, ⟨_, .inl (.inl ht1)⟩, fun D2 hD2 => ?_⟩
    refine L2c.out_it (walk_tup (K := K) (a := t) (xs := xs.map V.ref)) (fun i H2 => ∃ bs, H2 = upd H1 D2 (.lst (bs.map V.ref)) ∧ Heads H1 ((Ls.take i).flatten.map fun p => keyN p.1) bs) ⟨[], rfl, .nil⟩ ?_ ?_ ?_
    · rintro i H2 hi ⟨bs, rfl, _⟩
      refine .inl (.inl ?_)
      rw [upd_ne (ne_of_none ht1 hD2)]
      exact ht1
    · rintro i y H2 H3 hi ⟨bs, rfl, hb⟩ ⟨rfl, hy⟩
      have S2 : Same H1 (upd H1 D2 (.lst (bs.map V.ref))) := sameNew hD2
      rw [List.getElem?_map] at hy
      obtain ⟨x, hx0, rfl⟩ := Option.map_eq_some_iff.mp hy
      obtain ⟨L, hL, hA1, oL⟩ := hA.get hx0
      have hA2 := ans_same (S1.trans S2) hA1
      obtain ⟨dx, n, h, as_, hx, hn, hh, hk⟩ := id hA2
      obtain ⟨dx', n', h', as', hx', hn', hh', hk'⟩ := ans_same S1 hA1
      refine ⟨rfl, ?_⟩
      dsimp only [tYes]
      rw [if_pos rfl]
      refine ⟨_, rfl, x, dx, _, rfl, hx, x, f, L, rfl, hA2, fun h2 cs hh2 hk2 => ?_⟩
      refine ⟨h2, rfl, ⟨_, .inl (.inl hh2)⟩, ?_⟩
      have back : ∀ b k, upd H1 D2 (.lst (bs.map V.ref)) b = some (.tup k) → H1 b = some (.tup k) := fun b k e => by
        by_cases c : b = D2
        · rw [c, upd_same] at e
          cases e
        · rwa [upd_ne c] at e
      have hh3 := back _ _ hh2
      have hk3 : IsKeys H1 (kvsN L) cs := keys_keep hk2 fun b ys e => back b _ e
      have lcs := keys_len hk3
      have hdc := heads_of hk3
      rw [map_kvsN] at hdc
      have lb : ((Ls.take i).flatten).length ≤ 1000 := by
        have e : Ls.flatten = (Ls.take i).flatten ++ (Ls.drop i).flatten := by
          rw [← List.flatten_append, List.take_append_drop]
        rw [e, List.length_append] at hlen
        omega
      refine L2c.in_it (walk_tup (K := K) (a := h2) (xs := cs.map V.ref)) (fun j H3 => ∃ bs', H3 = upd H1 D2 (.lst (bs'.map V.ref)) ∧ Heads H1 (((Ls.take i).flatten.map fun p => keyN p.1) ++ (L.take j).map fun p => keyN p.1) bs') ⟨bs, rfl, by rw [List.take_zero, List.map_nil, List.append_nil]; exact hb⟩ ?_ ?_ ?_
      · rintro j H3 hj ⟨bs', rfl, _⟩
        refine .inl (.inl ?_)
        rw [upd_ne (ne_of_none hh3 hD2)]
        exact hh3
      · rintro j y H3 H4 hj ⟨bs', rfl, hb'⟩ ⟨rfl, hy2⟩
        rw [List.getElem?_map] at hy2
        obtain ⟨c, hc0, rfl⟩ := Option.map_eq_some_iff.mp hy2
        obtain ⟨kk, hkk, hck⟩ := hdc.at hc0
        rw [List.getElem?_map] at hkk
        obtain ⟨pr, hpr, rfl⟩ := Option.map_eq_some_iff.mp hkk
        refine ⟨rfl, ?_⟩
        dsimp only [tYes]
        rw [if_pos rfl]
        refine ⟨_, rfl, _, upd_same, ?_, bs' ++ [c], ?_, ?_⟩
        · have l1 := hb'.len
          rw [List.length_append, List.length_map, List.length_map, List.length_take] at l1
          have l2 := oL.len
          rw [List.length_map, sizeLine_eq]
          omega
        · rw [upd_upd, List.map_append]
          rfl
        · rw [List.take_add_one, hpr, List.map_append, ← List.append_assoc]
          exact hb'.app (.cons hck .nil)
      · rintro H3 ⟨bs', rfl, hb'⟩
        refine ⟨bs', rfl, ?_⟩
        rw [List.length_map, lcs, List.take_length] at hb'
        rw [List.take_add_one, hL, List.flatten_append, List.map_append]
        show Heads H1 (_ ++ ([L].flatten.map fun p => keyN p.1)) bs'
        rw [List.flatten_singleton]
        exact hb'
    · rintro H2 ⟨bs, rfl, hb⟩
      have lA : xs.length = Ls.length := Paired.length hA
      rw [List.length_map, lA, List.take_length] at hb
      have S2 : Same H1 (upd H1 D2 (.lst (bs.map V.ref))) := sameNew hD2
      refine ⟨D2, _, bs, rfl, upd_same, hb.keep fun b ys e => S2 _ _ e, ?_, fun H3 S3 => ?_⟩
      · rw [List.length_map]
        omega
      have SS : Same H H3 := (S1.trans S2).trans S3
      refine ⟨_, rfl, ?_⟩
      have kk : oneKs (Ls.flatten.map fun p => keyN p.1) = oneAll Ls := rfl
      rcases hv with ⟨one, k⟩ | ⟨one, kE⟩
      rotate_left
      · exact ite_t (by rw [kk, one]; rfl) (kE H3 SS)
      refine ite_f (by rw [kk, one]; rfl) ?_
      refine ⟨_, rfl, ?_⟩
      intro z0 dz hz hdz ne
      refine ⟨z0, dz, _, _, rfl, upd_same, .inl ⟨f, [], rfl, okN_0 hf, .inl ⟨rfl, rfl⟩, fun L0 n4 H4 srt at' _ kp => ⟨rfl, ?_⟩⟩⟩
      obtain ⟨_, n0⟩ := newA0 SS hf hz hdz srt at' kp
      refine ⟨_, rfl, t, rfl, ⟨_, .inl (.inl (n0.same _ _ ht))⟩, ?_⟩
      refine for_it (walk_tup (K := K) (a := t) (xs := xs.map V.ref)) (fun i σ Hi => ∃ z R o, σ = [some (.str f), some (.ref t), o, none, some (.ref z)] ∧ NewA a.c_Answer H Hi z f R (comb f (Ls.take i))) ⟨z0, [], none, rfl, n0.to fun h => ?_⟩ ?_ ?_ ?_
      · unfold comb
        by_cases c : f = "distinct"
        · rw [if_pos c]
          rfl
        · rw [if_neg c]
          rfl
      · rintro i σ Hi hi ⟨z, R, o, rfl, nw⟩
        exact .inl (.inl (nw.same _ _ ht))
      · rintro i y σ Hi H5 hi ⟨z, R, o, rfl, nw⟩ ⟨rfl, hy⟩
        rw [List.getElem?_map] at hy
        obtain ⟨x, hx0, rfl⟩ := Option.map_eq_some_iff.mp hy
        obtain ⟨L, hL, hA1, oL⟩ := hA.get hx0
        have hA2 := ans_same nw.same hA1
        obtain ⟨o1, l1⟩ := comb_next hL nw.isF one hlen
        have et : Ls.take (i + 1) = Ls.take i ++ [L] := by rw [List.take_add_one, hL]; rfl
        refine ⟨_, rfl, rfl, _, rfl, ?_⟩
        by_cases c : f = "distinct"
        · subst c
          refine ite_t (by rw [str_eq_d, decide_eq_true rfl]) ?_
          refine ⟨_, rfl, _, rfl, z, rfl, own_ans nw.at_, .inl ⟨x, rfl, own_ans hA2⟩, z, _, R, _, rfl, nw.at_, nw.ok, .inr ⟨rfl, .inl ⟨x, L, rfl, hA2, oL, .inl ⟨o1, l1, fun z2 R2 H6 n2 => ⟨.inl ⟨_, rfl⟩, ?_⟩⟩⟩⟩⟩
          refine ⟨z2, R2, _, rfl, (n2.after nw.same).to fun h => ?_⟩
          rw [et]
          exact comb_set nw.isF h
        · refine ite_f (by rw [str_eq_d, decide_eq_false c]) ?_
          refine ⟨_, rfl, _, rfl, z, rfl, own_ans nw.at_, .inl ⟨x, rfl, own_ans hA2⟩, z, _, R, _, rfl, nw.at_, nw.ok, .inr ⟨c, .inl ⟨x, L, rfl, hA2, oL, .inl ⟨o1, l1, fun z2 R2 H6 n2 => ⟨.inl ⟨_, rfl⟩, ?_⟩⟩⟩⟩⟩
          refine ⟨z2, R2, _, rfl, (n2.after nw.same).to fun h => ?_⟩
          rw [et]
          exact comb_add c nw.isF h
      · rintro σ Hi ⟨z, R, o, rfl, nw⟩
        rw [List.length_map, lA, List.take_length] at nw
        exact ⟨_, rfl, k z R Hi nw⟩
end
end K02

set_option Elab.async false
set_option linter.all false
set_option maxRecDepth 100000
set_option maxHeartbeats 4000000
open L2 in
local macro_rules | `(tactic| walk_at "r1") => `(tactic| first
  | refine ⟨_, rfl, ?_⟩
  | refine ⟨_, _, rfl, rfl, ?_⟩)
open L2 in
local macro_rules | `(tactic| walk_at "q1") => `(tactic| first
  | refine ⟨_, rfl, ?_⟩
  | refine ⟨_, _, rfl, rfl, ?_⟩
  | refine And.intro (show CMul _ _ from Or.inr ⟨by decide, by decide⟩) ?_
  | refine And.intro (show CMul _ _ from Or.inl ⟨by first | decide | omega, by first | decide | omega⟩) ?_
  | refine And.intro (show CMul _ _ from Or.inr ⟨by omega, by omega⟩) ?_
  | refine And.intro (show CDiv _ _ from ⟨by omega, by omega⟩) ?_
  | refine And.intro (show Dt.CPowG _ _ from ⟨by decide, by decide +kernel⟩) ?_
  | refine And.intro (by first | decide | omega) ?_
  | refine And.intro (Int.pow_pos (Int.pow_pos (by decide))) ?_
  | refine ⟨_, _, _, _, rfl, rfl, SqL.of (by first | assumption | exact upd_same), (by rfl), ?_⟩
  | refine ⟨_, _, _, _, rfl, rfl, (by first | assumption | exact upd_same), (by rfl), ?_⟩
  | refine Or.inl ⟨_, rfl, ?_⟩
  | refine Or.inr ⟨_, rfl, ?_⟩)
local macro_rules | `(tactic| walk_at "q") => `(tactic| repeat (walk_at "q1"))
local macro_rules | `(tactic| walk_at "eqt") => `(tactic| (refine ⟨_, rfl, ?_⟩; refine ⟨rfl, ?_⟩; first
  | (refine ⟨true, rfl, ?_⟩; refine L2.iteT ?_)
  | (refine ⟨false, rfl, ?_⟩; refine L2.iteF ?_)))
local macro_rules | `(tactic| walk_at "sz") => `(tactic| (rw [PySem.sizeLine_eq]; simp))
namespace K02
open PySem PySem.Spec PyProof.Rows L2 Dt An Rp
section
variable {P : Program} {w : World} {K : PySem.W.Frag} {mg : Str → Option Value} {base : Heap} {a : Ads}
theorem ok_dice (T : Txt K mg a) : FnOk P w K mg base CX0 1 a.dice a.fd_dice ps__law_dice (spDice K) := by
  have F := T.F_dice
  refine F.ok (k := 0) sc__law_dice (fun vs H Q E h => ?_) (fun cdv A outer s H vs Q E hr h => ?_)
  · obtain ⟨s0, ns, i, rfl, hS, hl, hi, k⟩ := h
    rfl
  · obtain ⟨s0, ns, i, rfl, hS, hl, hi, k⟩ := h
    have hu := hu_of hr
    refine ⟨_, (pss_cons (ps_set (i := 2) sc__law_dice.nd rfl (Or.inl rfl) (pe_ifExp (pt_cmpR op_lt (pv 1) (pe_callB call_len (by rfl) T.len (by decide +kernel) (pa_cons (pv 0) pa_nil)) (nomark _)) (pe_ix ix_list (pv 0) (pv 1) (fun _ _ => rfl)) (pe_op op_add (pe_op op_mul pe_int (pv 1)) pe_int)))
      (pss_cons (ps_set (i := 3) sc__law_dice.nd rfl (Or.inl rfl) (pe_op op_mod (pe_callTy call_int1 (by rfl) T.int (by decide +kernel) (pa_cons (pe_callB call_abs (by rfl) T.abs (by decide +kernel) (pa_cons (pv 2) pa_nil)) pa_nil)) (pe_op op_powG (pe_op op_powG pe_int pe_int) pe_int)))
      (pss_one (ps_ret (pe_lst (pa_cons (pe_ifExp (pt_cmpR op_ge (pv 3) (pe_op op_powG pe_int pe_int) (nomark _)) (pv 3) pe_int) (pa_cons (pe_op op_add (pe_op op_add (pe_op op_add (pe_op op_mul pe_int (pv 3)) (pe_callTy call_int1 (by rfl) T.int (by decide +kernel) (pa_cons (pe_cmpR op_lt (pv 2) pe_int (nomark _)) pa_nil))) (pe_op op_mul pe_int (pv 1))) pe_int) (pa_cons pe_int pa_nil)))))))), ?_⟩
    refine ⟨_, rfl, _, rfl, _, _, rfl, .inl ⟨_, hS, rfl⟩, _, _, rfl, rfl, _, rfl, ?_⟩
    refine iteD (fun c => ?_) (fun c => ?_)
    · have hlt : i < ns.length := by simpa using c
      refine ⟨_, rfl, _, rfl, s0, _, i, .int ns[i], rfl, rfl, hS, atI_nat (by simp [hlt]), ?_⟩
      walk_at "q"
      refine iteB (fun c => ?_) (fun c => ?_)
      all_goals
        walk_at "q"
        refine ⟨by show 3 ≤ sizeLine; decide, fun p hp => ?_⟩
        exact k p _ hp ⟨_, _, _, upd_same⟩ fun b o e => by rw [upd_ne (ne_of_none e hp)]; exact e
    · walk_at "q"

      refine iteB (fun c => ?_) (fun c => ?_)
      all_goals
        walk_at "q"
        refine ⟨by show 3 ≤ sizeLine; decide, fun p hp => ?_⟩
        exact k p _ hp ⟨_, _, _, upd_same⟩ fun b o e => by rw [upd_ne (ne_of_none e hp)]; exact e
theorem ok_roll (T : Txt K mg a) : FnOk P w K mg base CX0 1 a.roll a.fd_roll ps__law_roll spRoll := by
  have F := T.F_roll
  refine F.ok (k := 0) sc__law_roll (fun vs H Q E h => ?_) (fun cdv A outer s H vs Q E hr h => ?_)
  · obtain ⟨d, n, rfl, ⟨x, y, z, hH⟩, h0, h1, k⟩ := h
    rfl
  · obtain ⟨d, n, rfl, ⟨x, y, z, hH⟩, h0, h1, k⟩ := h
    have hu := hu_of hr
    refine ⟨_, (pss_cons (ps_if (pt_cmpR op_gt (pe_ix ix_list (pv 0) pe_int (fun _ _ => rfl)) pe_int (nomark _)) (pss_cons (ps_set (i := 2) sc__law_roll.nd rfl (Or.inl rfl) (pe_op op_mod (pe_callTy call_int1 (by rfl) T.int (by decide +kernel) (pa_cons (pe_ix ix_list (pv 0) pe_int (fun _ _ => rfl)) pa_nil)) (pv 1)))
      (pss_cons (ps_asg (pe_op op_fdiv (pe_ix ix_list (pv 0) pe_int (fun _ _ => rfl)) (pv 1)) (pg_sub (pv 0) pe_int set_list))
      (pss_one (ps_ret (pv 2))))) pss_nil)
      (pss_cons (ps_asg (pe_op op_add (pe_ix ix_list (pv 0) pe_int (fun _ _ => rfl)) pe_int) (pg_sub (pv 0) pe_int set_list))
      (pss_cons (ps_set (i := 3) sc__law_roll.nd rfl (Or.inl rfl) (pe_op op_mod (pe_callTy call_int1 (by rfl) T.int (by decide +kernel) (pa_cons (pe_op op_add (pe_op op_mul (pe_ix ix_list (pv 0) pe_int (fun _ _ => rfl)) pe_int) (pe_op op_mul (pe_ix ix_list (pv 0) pe_int (fun _ _ => rfl)) pe_int)) pa_nil)) pe_int))
      (pss_cons (ps_set (i := 4) sc__law_roll.nd rfl (Or.inl rfl) (pe_op op_mod (pe_callTy call_int1 (by rfl) T.int (by decide +kernel) (pa_cons (pe_op op_add (pe_op op_mul (pv 3) (pv 3)) (pe_op op_mul (pe_ix ix_list (pv 0) pe_int (fun _ _ => rfl)) pe_int)) pa_nil)) pe_int))
      (pss_one (ps_ret (pe_op op_mod (pe_callTy call_int1 (by rfl) T.int (by decide +kernel) (pa_cons (pe_op op_fdiv (pe_op op_mod (pe_callTy call_int1 (by rfl) T.int (by decide +kernel) (pa_cons (pe_op op_add (pe_op op_mul (pv 4) (pv 4)) (pv 3)) pa_nil)) pe_int) pe_int) pa_nil)) (pv 1)))))))), ?_⟩
    walk_at "q"
    refine iteB (fun c => ?_) (fun c => ?_)
    · walk_at "q"
      refine k _ _ (Int.emod_nonneg _ (by omega)) (Int.emod_lt_of_pos _ h0) ⟨⟨_, _, _, upd_same⟩, fun b o hb e => ?_⟩
      rw [upd_ne hb]
      exact e
    · walk_at "q"
      refine k _ _ (Int.emod_nonneg _ (by omega)) (Int.emod_lt_of_pos _ h0) ⟨⟨_, _, _, upd_same⟩, fun b o hb e => ?_⟩
      rw [upd_ne hb]
      exact e
theorem ok_pick (T : Txt K mg a) : FnOk P w K mg base CX0 2 a.pick a.fd_pick ps__law_pick (spPick K) := by
  have F := T.F_pick
  refine F.ok (k := 1) sc__law_pick (fun vs H Q E h => ?_) (fun cdv A outer s H vs Q E hr h => ?_)
  · obtain ⟨d, y, xs, rfl, hD, hP, h0, h1, k⟩ := h
    rfl
  · obtain ⟨d, y, xs, rfl, hD, hP, h0, h1, k⟩ := h
    have hu := hu_of hr
    refine ⟨_, (pss_one (ps_ret (pe_ix ix_seq (pv 1) (pe_call (ok_roll T) (hr.mono (by decide)) (by rfl) T.g_roll T.F_roll.kp (b_roll T) .nil pass0 (pa_cons (pv 0) (pa_cons (pe_callB call_len (by rfl) T.len (by decide +kernel) (pa_cons (pv 1) pa_nil)) pa_nil))) (fun _ _ => rfl)))), ?_⟩
    have hx : (xs.length : Int) < 1073741824 := by omega
    cases y with
    | str z =>
      obtain rfl : xs = z.cps.toList.map fun c => V.str ⟨#[c]⟩ := hP
      have e : (z.cps.toList.map fun c => V.str ⟨#[c]⟩).length = z.length := by rw [List.length_map]; rfl
      rw [e] at h0 h1
      refine ⟨_, rfl, _, rfl, _, rfl, _, _, rfl, ⟨by rw [sizeLine_eq]; omega, rfl⟩, ⟨d, _, rfl, hD, by omega, by omega, fun r H' h2 h3 R => ?_⟩⟩
      obtain ⟨c, hc, hm⟩ := atI_ok (xs := z.cps.toList) h2 (by rw [show z.cps.toList.length = z.length from rfl]; exact h3)
      exact .inr (.inr ⟨z, r, c, rfl, rfl, by rw [sizeLine_eq]; omega, hc, k _ _ (List.mem_map.mpr ⟨c, hm, rfl⟩) R⟩)
    | ref p =>
      obtain ⟨hn, hq⟩ := hP
      have hL : LenV K (.ref p) H xs.length := hq.imp (fun q => ⟨xs, q, rfl⟩) fun q => ⟨xs, q, rfl⟩
      refine ⟨_, rfl, _, rfl, _, rfl, _, _, rfl, hL, ⟨d, _, rfl, hD, by omega, by omega, fun r H' h2 h3 R => ?_⟩⟩
      obtain ⟨v, hv, hm⟩ := atI_ok (xs := xs) h2 h3
      rcases hq with q | q
      · exact .inl ⟨p, xs, r, v, rfl, rfl, R.sqL hn q, hv, k _ _ hm R⟩
      · exact .inr (.inl ⟨p, xs, r, v, rfl, rfl, R.sqT hn q, hv, k _ _ hm R⟩)
    | _ => exact hP.elim
end
end K02

set_option Elab.async false
set_option linter.all false
set_option maxRecDepth 100000
set_option maxHeartbeats 4000000
open L2 in
local macro_rules | `(tactic| walk_at "r1") => `(tactic| first
  | refine ⟨_, rfl, ?_⟩
  | refine ⟨_, _, rfl, rfl, ?_⟩)
open L2 in
local macro_rules | `(tactic| walk_at "q1") => `(tactic| first
  | refine ⟨_, rfl, ?_⟩
  | refine ⟨_, _, rfl, rfl, ?_⟩
  | refine And.intro (show CMul _ _ from Or.inr ⟨by decide, by decide⟩) ?_
  | refine And.intro (show CMul _ _ from Or.inl ⟨by first | decide | omega, by first | decide | omega⟩) ?_
  | refine And.intro (show CMul _ _ from Or.inr ⟨by omega, by omega⟩) ?_
  | refine And.intro (show CDiv _ _ from ⟨by omega, by omega⟩) ?_
  | refine And.intro (show Dt.CPowG _ _ from ⟨by decide, by decide +kernel⟩) ?_
  | refine And.intro (by first | decide | omega) ?_
  | refine And.intro (Int.pow_pos (Int.pow_pos (by decide))) ?_
  | refine ⟨_, _, _, _, rfl, rfl, SqL.of (by first | assumption | exact upd_same), (by rfl), ?_⟩
  | refine ⟨_, _, _, _, rfl, rfl, (by first | assumption | exact upd_same), (by rfl), ?_⟩
  | refine Or.inl ⟨_, rfl, ?_⟩
  | refine Or.inr ⟨_, rfl, ?_⟩)
local macro_rules | `(tactic| walk_at "q") => `(tactic| repeat (walk_at "q1"))
local macro_rules | `(tactic| walk_at "eqt") => `(tactic| (refine ⟨_, rfl, ?_⟩; refine ⟨rfl, ?_⟩; first
  | (refine ⟨true, rfl, ?_⟩; refine L2.iteT ?_)
  | (refine ⟨false, rfl, ?_⟩; refine L2.iteF ?_)))
local macro_rules | `(tactic| walk_at "sz") => `(tactic| (rw [PySem.sizeLine_eq]; simp))
namespace K02
open PySem PySem.Spec PyProof.Rows L2 Dt An Rp
section
variable {P : Program} {w : World} {K : PySem.W.Frag} {mg : Str → Option Value} {base : Heap} {a : Ads}
theorem die_same {H H1 : Hp} {a : Addr} (h : Die H a) (S : Same H H1) : Die H1 a := by
  obtain ⟨x, y, z, e⟩ := h
  exact ⟨x, y, z, S _ _ e⟩
theorem roll_same {H H1 H2 : Hp} {a : Addr} (r : Rolled a H H1) (S : Same H1 H2) : Rolled a H H2 := ⟨die_same r.die S, fun b o hb e => S b o (r.keep b o hb e)⟩
theorem same_roll {H H1 : Hp} {a : Addr} (h : Die H a) (S : Same H H1) : Rolled a H H1 := ⟨die_same h S, fun b o _ e => S b o e⟩
theorem intsQ_all {ns : List Int} (h : ∀ n ∈ ns, -B60 < n ∧ n < B60) : (ns.map PyData.int).all isIntD = true := by
  rw [List.all_map, List.all_eq_true]
  intro n hn
  have := h n hn
  show (decide _ && decide _) = true
  rw [decide_eq_true this.1, decide_eq_true this.2]
  rfl
/-- what stands in the heads that the law draws -/
def five : List Int := [0, 1, 2, -1, 10 ^ 59]
theorem five_bnd : ∀ n ∈ five, -B60 < n ∧ n < B60 := by decide +kernel
/-- all heads of w such ints -/
def allH : Nat → List (List Int)
  | 0 => [[]]
  | w + 1 => five.flatMap fun n => (allH w).map (n :: ·)
theorem mem_allH : ∀ (w : Nat) (h : List Int), h.length = w → (∀ n ∈ h, n ∈ five) → h ∈ allH w
  | 0, h, e, _ => by
    rw [List.length_eq_zero_iff.mp e]
    exact List.mem_cons_self
  | w + 1, n :: h, e, k => List.mem_flatMap.mpr ⟨n, k n List.mem_cons_self, List.mem_map.mpr ⟨h, mem_allH w h (Nat.succ.inj e) fun m hm => k m (List.mem_cons_of_mem _ hm), rfl⟩⟩
theorem allH_len : ∀ w, w ≤ 3 → (allH w).length ≤ 125 := by decide +kernel
/-- heads of w ints, as the law draws them -/
def HdW (w : Nat) (L : Nums) : Prop := ∀ p ∈ L, p.1.length = w ∧ ∀ n ∈ p.1, n ∈ five
theorem HdW.len {w : Nat} {L : Nums} (h : HdW w L) (nd : (L.map (·.1)).Nodup) (hw : w ≤ 3) : L.length ≤ 125 := by
  have q := len_sub nd (m := allH w) fun k hk => by
    obtain ⟨p, hp, rfl⟩ := List.mem_map.mp hk
    exact mem_allH w p.1 (h p hp).1 (h p hp).2
  rw [List.length_map] at q
  exact Nat.le_trans q (allH_len w hw)
structure Mid (w : Nat) (f : Str) (n : Nat) (L : Nums) : Prop where
  nd : (L.map (·.1)).Nodup
  len : L.length ≤ n
  each : ∀ p ∈ L, p.1.length = w ∧ (∀ n ∈ p.1, n ∈ five) ∧ numOk f (.int p.2) = true ∧ -(10 ^ 80) < p.2 ∧ p.2 < 10 ^ 80
theorem mid_put {w : Nat} {f : Str} {n : Nat} {L : Nums} (M : Mid w f n L) {h : List Int} {i : Int} (hw : h.length = w) (hb : ∀ n ∈ h, n ∈ five) (ho : numOk f (.int i) = true) (h1 : -(10 ^ 80) < i) (h2 : i < 10 ^ 80) : Mid w f (n + 1) (putN L h i) := by
  unfold putN
  by_cases c : h ∈ L.map (·.1)
  · rw [if_pos c]
    have ef : (L.map fun p => if p.1 = h then (p.1, i) else p).map (·.1) = L.map (·.1) := by
      rw [List.map_map]
      refine List.map_congr_left fun p _ => ?_
      show (if p.1 = h then (p.1, i) else p).1 = p.1
      by_cases e : p.1 = h
      · rw [if_pos e]
      · rw [if_neg e]
    refine ⟨by rw [ef]; exact M.nd, by rw [List.length_map]; exact Nat.le_succ_of_le M.len, fun p hp => ?_⟩
    obtain ⟨q, hq, rfl⟩ := List.mem_map.mp hp
    have E := M.each q hq
    by_cases e : q.1 = h
    · rw [if_pos e]
      exact ⟨E.1, E.2.1, ho, h1, h2⟩
    · rw [if_neg e]
      exact E
  · rw [if_neg c]
    refine ⟨?_, by rw [List.length_append]; exact Nat.succ_le_succ M.len, fun p hp => ?_⟩
    · rw [List.map_append]
      exact List.nodup_append.mpr ⟨M.nd, List.nodup_cons.mpr ⟨by simp, List.nodup_nil⟩, fun a ha b hb z => by
        rw [z, List.mem_singleton.mp hb] at ha
        exact c ha⟩
    · rcases List.mem_append.mp hp with hp | hp
      · exact M.each p hp
      · rw [List.mem_singleton.mp hp]
        exact ⟨hw, hb, ho, h1, h2⟩
theorem intsK {ns : List Int} (h : ∀ n ∈ ns, -B60 < n ∧ n < B60) (h3 : ns.length ≤ 3) : headK (keyN ns) = true := by
  unfold headK
  rw [keyN_kD]
  show ((ns.map PyData.int).all isIntD && decide ((ns.map PyData.int).length ≤ 3)) = true
  rw [intsQ_all h, List.length_map, decide_eq_true h3]
  rfl
theorem numOk_int (f : Str) (i : Int) : numOk f (.int i) = if f = "distinct" then decide (i = 1) else decide (i ≠ 0) := rfl
/-- numbers as the law draws them: heads of w ints -/
structure GoodW (w : Nat) (f : Str) (L : Nums) : Prop where
  ok : OkN f L
  len : L.length ≤ 5
  each : ∀ p ∈ L, p.1.length = w ∧ (∀ n ∈ p.1, n ∈ five) ∧ numOk f (.int p.2) = true ∧ -(10 ^ 80) < p.2 ∧ p.2 < 10 ^ 80
theorem goodW_of {w : Nat} {f : Str} {n : Nat} {L : Nums} (M : Mid w f n L) (hf : f ∈ forms) (hn : n ≤ 5) (hw : w ≤ 3) : GoodW w f L := by
  have ln := M.len
  exact ⟨ok_of hf M.nd (fun p hp => intsK (fun n hn => five_bnd n ((M.each p hp).2.1 n hn)) (by rw [(M.each p hp).1]; exact hw)) (fun p hp q hq => by rw [(M.each p hp).1, (M.each q hq).1]) (fun p hp => (M.each p hp).2.2.1) (by omega), by omega, M.each⟩
def spNumbers : Sp := fun vs H Q _ => ∃ d f w, vs = [.ref d, .str f, .int ((w : Nat) : Int)] ∧ w ≤ 3 ∧ Die H d ∧ f ∈ forms ∧ ∀ p L H', GoodW w f L → H p = none → H' p = some (.dT (kvsN L)) → Rolled d H H' → Q (.ref p) H'
theorem ok_numbers (T : Txt K mg a) : FnOk P w K mg base CX0 4 a.numbers a.fd_numbers ps__law_numbers spNumbers := by
  have F := T.F_numbers
  refine F.ok (k := 3) sc__law_numbers (fun vs H Q E h => ?_) (fun cdv A outer s H vs Q E hr h => ?_)
  · obtain ⟨d, f, w0, rfl, hw, hD, hf, k⟩ := h
    rfl
  · obtain ⟨d, f, w0, rfl, hw, hD, hf, k⟩ := h
    have hu := hu_of hr
    refine ⟨_, (pss_cons (ps_set (i := 3) sc__law_numbers.nd rfl (Or.inl rfl) pe_dnewT)
      (pss_cons (ps_for PassesOwn.never rfl (pi_range1 (by rfl) T.range (pa_cons (pe_call (ok_roll T) (hr.mono (by decide)) (by rfl) T.g_roll T.F_roll.kp (b_roll T) .nil pass0 (pa_cons (pv 0) (pa_cons pe_int pa_nil))) pa_nil)) (pg_name (i := 4) sc__law_numbers.nd rfl (Or.inl rfl)) (pss_cons (ps_set (i := 5) sc__law_numbers.nd rfl (Or.inl rfl) (pe_callTy call_tuple_of (by rfl) T.tuple (by decide +kernel) (pa_cons (pe_lc (own := [("_law_at", 6)]) rfl sc__law_numbers.nd (pi_range1 (by rfl) T.range (pa_cons (pv 2) pa_nil)) (blkOk_by (N := nm__law_numbers) (sc := defScope s__law_numbers) (by decide +kernel)) (fun _ _ _ _ _ => (pg_name (i := 6) sc__law_numbers.nd rfl (Or.inl rfl))) (fun _ _ _ _ _ => pts_nil) (fun _ _ _ _ _ => (pe_call (ok_pick T) (hr.mono (by decide)) (by rfl) T.g_pick T.F_pick.kp (b_pick T) .nil pass0 (pa_cons (pv 0) (pa_cons (pe_lst (pa_cons pe_int (pa_cons pe_int (pa_cons pe_int (pa_cons (pe_un un_neg pe_int) (pa_cons (pe_op op_powG pe_int pe_int) pa_nil)))))) pa_nil))))) pa_nil)))
      (pss_cons (ps_set (i := 7) sc__law_numbers.nd rfl (Or.inl rfl) (pe_op op_mul (pe_op op_add (pe_op op_add pe_int (pe_call (ok_pick T) (hr.mono (by decide)) (by rfl) T.g_pick T.F_pick.kp (b_pick T) .nil pass0 (pa_cons (pv 0) (pa_cons (pe_lst (pa_cons pe_int (pa_cons pe_int (pa_cons pe_int (pa_cons (pe_op op_mul (pe_op op_powG pe_int pe_int) (pe_op op_powG pe_int pe_int)) pa_nil))))) pa_nil)))) (pe_call (ok_roll T) (hr.mono (by decide)) (by rfl) T.g_roll T.F_roll.kp (b_roll T) .nil pass0 (pa_cons (pv 0) (pa_cons pe_int pa_nil)))) (pe_call (ok_pick T) (hr.mono (by decide)) (by rfl) T.g_pick T.F_pick.kp (b_pick T) .nil pass0 (pa_cons (pv 0) (pa_cons (pe_lst (pa_cons pe_int (pa_cons (pe_un un_neg pe_int) pa_nil))) pa_nil)))))
      (pss_one (ps_asg (pe_ifExp (pt_cmpR op_eq (pv 1) pe_str (nomark _)) pe_int (pv 7)) (pg_sub (pv 3) (pv 5) (set_dict hu)))))))
      (pss_one (ps_ret (pv 3))))), ?_⟩
    intro pf nf
    generalize EH2 : upd H pf _ = H2
    have ff := (congrFun EH2 pf).symm.trans upd_same
    have S2 : Same H H2 := by rw [← EH2]; exact sameNew nf
    have pfd : pf ≠ d := hD.ne nf
    have R2 : Rolled d H H2 := same_roll hD S2
    refine ⟨_, rfl, d, 6, rfl, R2.die, (by decide), (by decide), fun m H3 m0 m1 R3 => ?_⟩
    obtain ⟨mm, rfl⟩ := Int.eq_ofNat_of_zero_le m0
    refine ⟨(mm : Int), rfl, by omega, by omega, ?_⟩
    rw [Int.toNat_natCast]
    have f3 : H3 pf = some (.dT (kvsN [])) := R3.keep _ _ pfd ff
    refine for_range (lo := 0) (n := mm) (fun i σ Hi => ∃ x4 x5 x6 x7 L, σ = [some (.ref d), some (.str f), some (.int (w0 : Int)), some (.ref pf), x4, x5, x6, x7] ∧ Mid w0 f i L ∧ Hi pf = some (.dT (kvsN L)) ∧ Rolled d H Hi) ?_ ?_ ?_
    · exact ⟨_, _, _, _, [], rfl, ⟨List.nodup_nil, Nat.le_refl _, fun _ h => by cases h⟩, f3, R2.trans R3⟩
    · rintro i σ Hi hi ⟨x4, x5, x6, x7, L, rfl, M, fi, Ri⟩
      have pfi : Hi pf ≠ none := fun z => by rw [z] at fi; cases fi
      refine ⟨_, rfl, (w0 : Int), rfl, (by omega), (by omega), fun D hD0 => ?_⟩
      rw [Int.toNat_natCast]
      refine lc_range (lo := 0) (n := w0) (fun j Hj => ∃ ns : List Int, ns.length = j ∧ (∀ n ∈ ns, n ∈ five) ∧ Hj D = some (.lst (ns.map V.int)) ∧ Rolled d Hi Hj) ⟨[], rfl, (fun _ h => by cases h), upd_same, (Rolled.refl Ri.die).new hD0⟩ ?_ ?_
      · rintro j Hj hj ⟨ns, ln, hn, eL, RL⟩
        have nD : D ≠ d := Ri.die.ne hD0
        refine ⟨rfl, ?_⟩
        dsimp only [tYes]
        rw [if_pos rfl]
        refine ⟨_, rfl, ?_⟩
        walk_at "q"
        intro p1 n1
        generalize EHk : upd Hj p1 _ = Hk
        have f1 := (congrFun EHk p1).symm.trans upd_same
        have S1 : Same Hj Hk := by rw [← EHk]; exact sameNew n1
        refine ⟨d, .ref p1, _, rfl, die_same RL.die S1, ⟨RL.die.ne n1, .inl (SqL.of f1)⟩, (by decide), (by decide), fun v Hl hv Rl => ?_⟩
        have bnd : ∃ x : Int, v = .int x ∧ x ∈ five := by
          simp only [List.mem_cons, List.mem_nil_iff, or_false] at hv
          rcases hv with h | h | h | h | h <;> exact ⟨_, h, by decide +kernel⟩
        obtain ⟨x, rfl, x0⟩ := bnd
        refine ⟨_, Rl.keep _ _ nD (S1 _ _ eL), ?_, ns ++ [x], ?_, ?_, ?_, ?_⟩
        · rw [List.length_map, sizeLine_eq]
          omega
        · rw [List.length_append, ln]
          rfl
        · intro y hy
          rcases List.mem_append.mp hy with hy | hy
          · exact hn y hy
          · rw [List.mem_singleton.mp hy]
            exact x0
        · rw [upd_same, List.map_append]
          rfl
        · exact ((roll_same RL S1).trans Rl).mut hD0 nD
      rintro Hj ⟨ns, ln, hns, eL, RL⟩
      refine ⟨D, _, rfl, .inl ⟨SqL.of eL, ?_⟩⟩
      intro pt nt
      generalize EHk : upd Hj pt _ = Hk
      have ft := (congrFun EHk pt).symm.trans upd_same
      have Sk : Same Hj Hk := by rw [← EHk]; exact sameNew nt
      have Rk : Rolled d Hi Hk := roll_same RL Sk
      walk_at "q"
      intro p1 n1
      generalize EHa : upd Hk p1 _ = Ha
      have f1 := (congrFun EHa p1).symm.trans upd_same
      have S1 : Same Hk Ha := by rw [← EHa]; exact sameNew n1
      refine ⟨d, .ref p1, _, rfl, die_same Rk.die S1, ⟨Rk.die.ne n1, .inl (SqL.of f1)⟩, (by decide), (by decide), fun v Hb hv Rb => ?_⟩
      have bnd : ∃ x : Int, v = .int x ∧ 0 ≤ x ∧ x < 10 ^ 79 + 1 := by
        simp only [List.mem_cons, List.mem_nil_iff, or_false] at hv
        rcases hv with h | h | h | h <;> exact ⟨_, h, by decide +kernel, by decide +kernel⟩
      obtain ⟨x, rfl, x0, x1⟩ := bnd
      refine ⟨1, x, rfl, rfl, ?_⟩
      refine ⟨_, rfl, d, 2, rfl, Rb.die, (by decide), (by decide), fun r Hc r0 r1 Rc => ?_⟩
      refine ⟨1 + x, r, rfl, rfl, ?_⟩
      refine ⟨_, rfl, ?_⟩
      walk_at "q"
      intro p4 n4
      generalize EHd : upd Hc p4 _ = Hd
      have f4 := (congrFun EHd p4).symm.trans upd_same
      have S4 : Same Hc Hd := by rw [← EHd]; exact sameNew n4
      have R4 : Rolled d Hi Hd := roll_same (((roll_same Rk S1).trans Rb).trans Rc) S4
      refine ⟨d, .ref p4, _, rfl, R4.die, ⟨Rc.die.ne n4, .inl (SqL.of f4)⟩, (by decide), (by decide), fun v Hm hv Rm => ?_⟩
      have bnd : ∃ y : Int, v = .int y ∧ (y = 1 ∨ y = -1) := by
        simp only [List.mem_cons, List.mem_nil_iff, or_false] at hv
        rcases hv with h | h
        · exact ⟨1, h, .inl rfl⟩
        · exact ⟨-1, h, .inr rfl⟩
      obtain ⟨y, rfl, hy⟩ := bnd
      have hb : (10 : Int) ^ 79 + 1 + 3 < 10 ^ 80 := by decide +kernel
      refine ⟨1 + x + r, y, rfl, rfl, Or.inr (by rcases hy with h | h <;> subst h <;> decide), ?_⟩
      have Rim : Rolled d H Hm := Ri.trans (R4.trans Rm)
      have ptd : pt ≠ d := RL.die.ne nt
      have fm : Hm pf = some (.dT (kvsN L)) := Rm.keep _ _ pfd (S4 _ _ (Rc.keep _ _ pfd (Rb.keep _ _ pfd (S1 _ _ (Sk _ _ (RL.keep _ _ pfd fi))))))
      have tm : Hm pt = some (.tup (ns.map V.int)) := Rm.keep _ _ ptd (S4 _ _ (Rc.keep _ _ ptd (Rb.keep _ _ ptd (S1 _ _ ft))))
      have fin : ∀ v : Int, numOk f (.int v) = true → -(10 ^ 80) < v → v < 10 ^ 80 → ∀ n4 : V, ∃ H6, DPut Hm pf (.ref pt) (.int v) H6 ∧ ∃ y4 y5 y6 y7 L', [some (V.ref d), some (.str f), some (.int (w0 : Int)), some (.ref pf), some (.int (0 + (i : Nat))), some (.ref pt), x6, some n4] = [some (V.ref d), some (.str f), some (.int (w0 : Int)), some (.ref pf), y4, y5, y6, y7] ∧ Mid w0 f (i + 1) L' ∧ H6 pf = some (.dT (kvsN L')) ∧ Rolled d H H6 := by
        intro v ho v1 v2 n4
        refine ⟨_, .inr ⟨kvsN L, keyN ns, pt, fm, rfl, by rw [keyN_kV]; exact tm, ?_, rfl⟩, _, _, _, _, putN L ns v, rfl, mid_put M ln hns ho v1 v2, ?_, Rim.mut nf pfd⟩
        · have := M.len
          rw [len_kvsN, sizeLine_eq]
          omega
        · rw [upd_same, put_N]
      refine ⟨_, rfl, rfl, _, rfl, ?_⟩
      have hz : ¬ ((1 + x + r) * y = 0) := by rcases hy with h | h <;> subst h <;> omega
      have hlo : -(10 ^ 80) < (1 + x + r) * y := by rcases hy with h | h <;> subst h <;> omega
      have hhi : (1 + x + r) * y < 10 ^ 80 := by rcases hy with h | h <;> subst h <;> omega
      by_cases c : f = "distinct"
      · refine ite_t (by rw [str_eq_d, decide_eq_true c]) ?_
        obtain ⟨H6, hd, rest⟩ := fin 1 (by rw [numOk_int, if_pos c]; rfl) (by decide) (by decide) (.int ((1 + x + r) * y))
        exact ⟨_, rfl, _, rfl, pf, H6, rfl, hd, rest⟩
      · refine ite_f (by rw [str_eq_d, decide_eq_false c]) ?_
        obtain ⟨H6, hd, rest⟩ := fin ((1 + x + r) * y) (by rw [numOk_int, if_neg c]; exact decide_eq_true hz) hlo hhi (.int ((1 + x + r) * y))
        exact ⟨_, rfl, _, rfl, _, rfl, pf, H6, rfl, hd, rest⟩
    · rintro σ Hi ⟨x4, x5, x6, x7, L, rfl, M, fi, Ri⟩
      exact ⟨_, rfl, k pf L Hi (goodW_of M hf (by omega) hw) nf fi Ri⟩
end
end K02

set_option Elab.async false
set_option linter.all false
set_option maxRecDepth 100000
set_option maxHeartbeats 4000000
open L2 in
local macro_rules | `(tactic| walk_at "r1") => `(tactic| first
  | refine ⟨_, rfl, ?_⟩
  | refine ⟨_, _, rfl, rfl, ?_⟩)
open L2 in
local macro_rules | `(tactic| walk_at "q1") => `(tactic| first
  | refine ⟨_, rfl, ?_⟩
  | refine ⟨_, _, rfl, rfl, ?_⟩
  | refine And.intro (show CMul _ _ from Or.inr ⟨by decide, by decide⟩) ?_
  | refine And.intro (show CMul _ _ from Or.inl ⟨by first | decide | omega, by first | decide | omega⟩) ?_
  | refine And.intro (show CMul _ _ from Or.inr ⟨by omega, by omega⟩) ?_
  | refine And.intro (show CDiv _ _ from ⟨by omega, by omega⟩) ?_
  | refine And.intro (show Dt.CPowG _ _ from ⟨by decide, by decide +kernel⟩) ?_
  | refine And.intro (by first | decide | omega) ?_
  | refine And.intro (Int.pow_pos (Int.pow_pos (by decide))) ?_
  | refine ⟨_, _, _, _, rfl, rfl, SqL.of (by first | assumption | exact upd_same), (by rfl), ?_⟩
  | refine ⟨_, _, _, _, rfl, rfl, (by first | assumption | exact upd_same), (by rfl), ?_⟩
  | refine Or.inl ⟨_, rfl, ?_⟩
  | refine Or.inr ⟨_, rfl, ?_⟩)
local macro_rules | `(tactic| walk_at "q") => `(tactic| repeat (walk_at "q1"))
local macro_rules | `(tactic| walk_at "eqt") => `(tactic| (refine ⟨_, rfl, ?_⟩; refine ⟨rfl, ?_⟩; first
  | (refine ⟨true, rfl, ?_⟩; refine L2.iteT ?_)
  | (refine ⟨false, rfl, ?_⟩; refine L2.iteF ?_)))
local macro_rules | `(tactic| walk_at "sz") => `(tactic| (rw [PySem.sizeLine_eq]; simp))
namespace K02
open PySem PySem.Spec PyProof.Rows L2 Dt An Rp
section
variable {P : Program} {w : World} {K : PySem.W.Frag} {mg : Str → Option Value} {base : Heap} {a : Ads}
theorem prs_of {K : PySem.W.Frag} {H : Hp} : ∀ {L : Nums} {bs : List Addr}, Paired (Itd.PairAt H) bs (kvsN L) → ∃ Lp : List Dh.Pr, Lp.map (·.at_) = bs ∧ (Lp.map fun e => (e.key, e.val)) = kvsN L ∧ ∀ e ∈ Lp, e.ok K H
  | [], [], _ => ⟨[], rfl, rfl, fun _ h => nomatch h⟩
  | [], _ :: _, h => by cases h
  | _ :: _, [], h => by cases h
  | p :: L, b :: bs, h => by
    cases h with
    | cons h t =>
      obtain ⟨q, e1, e2⟩ := h
      obtain ⟨Lp, g1, g2, g3⟩ := prs_of (K := K) t
      refine ⟨⟨b, q, keyN p.1, .int p.2⟩ :: Lp, by rw [List.map_cons, g1], by rw [List.map_cons, g2]; rfl, fun e he => ?_⟩
      rcases List.mem_cons.mp he with rfl | he
      · exact ⟨.inl (.inl e1), e2⟩
      · exact g3 e he
theorem merge_take {L : Nums} (nd : (L.map (·.1)).Nodup) : ∀ n, n ≤ L.length → Dh.mergeT [] (kvsN (L.take n)) = kvsN (L.take n)
  | 0, _ => rfl
  | n + 1, h => by
    have ih := merge_take nd n (by omega)
    have hl : n < L.length := h
    have e : kvsN (L.take (n + 1)) = kvsN (L.take n) ++ [(keyN L[n].1, V.int L[n].2)] := by
      rw [List.take_add_one, List.getElem?_eq_getElem hl]
      unfold kvsN
      rw [List.map_append]
      rfl
    have st : Dh.mergeT [] (kvsN (L.take (n + 1))) = putK (Dh.mergeT [] (kvsN (L.take n))) (keyN L[n].1) (V.int L[n].2) := by
      rw [e]
      unfold Dh.mergeT
      rw [List.foldl_append]
      rfl
    rw [st, ih, put_take nd (List.getElem?_eq_getElem hl)]
theorem merge_all {L : Nums} (nd : (L.map (·.1)).Nodup) : Dh.mergeT [] (kvsN L) = kvsN L := by
  have h := merge_take nd L.length (Nat.le_refl _)
  rw [List.take_length] at h
  exact h
def dropN (L : Nums) (h : List Int) : Nums := L.filter fun p => decide (p.1 ≠ h)
theorem drop_N (L : Nums) (h : List Int) : dropK (kvsN L) (keyN h) = kvsN (dropN L h) := by
  unfold dropK kvsN dropN
  rw [List.filter_map]
  refine congrArg (List.map _) (List.filter_congr fun p _ => ?_)
  show decide (keyN p.1 ≠ keyN h) = decide (p.1 ≠ h)
  exact decide_eq_decide.mpr ⟨fun n e => n (by rw [e]), fun n e => n (keyN_inj e)⟩
theorem put_nd {L : Nums} (nd : (L.map (·.1)).Nodup) (h : List Int) (v : Int) : ((putN L h v).map (·.1)).Nodup := by
  unfold putN
  by_cases c : h ∈ L.map (·.1)
  · rw [if_pos c, List.map_map]
    have : ((·.1) ∘ fun p : List Int × Int => if p.1 = h then (p.1, v) else p) = fun p => p.1 := by
      funext p
      show (if p.1 = h then (p.1, v) else p).1 = p.1
      by_cases e : p.1 = h
      · rw [if_pos e]
      · rw [if_neg e]
    rw [this]
    exact nd
  · rw [if_neg c, List.map_append]
    exact List.nodup_append.mpr ⟨nd, List.nodup_cons.mpr ⟨by simp, List.nodup_nil⟩, fun a ha b hb z => by
      rw [z, List.mem_singleton.mp hb] at ha
      exact c ha⟩
theorem put_mem {L : Nums} {h : List Int} {v : Int} {p : List Int × Int} (hp : p ∈ putN L h v) : p = (h, v) ∨ (p ∈ L ∧ p.1 ≠ h) := by
  unfold putN at hp
  by_cases c : h ∈ L.map (·.1)
  · rw [if_pos c] at hp
    obtain ⟨q, hq, rfl⟩ := List.mem_map.mp hp
    by_cases e : q.1 = h
    · rw [if_pos e, e]
      exact .inl rfl
    · rw [if_neg e]
      exact .inr ⟨hq, e⟩
  · rw [if_neg c] at hp
    rcases List.mem_append.mp hp with z | z
    · exact .inr ⟨z, fun e => c (List.mem_map.mpr ⟨p, z, e⟩)⟩
    · exact .inl (List.mem_singleton.mp z)
theorem put_in (L : Nums) (h : List Int) (v : Int) : (h, v) ∈ putN L h v := by
  unfold putN
  by_cases c : h ∈ L.map (·.1)
  · rw [if_pos c]
    obtain ⟨q, hq, e⟩ := List.mem_map.mp c
    exact List.mem_map.mpr ⟨q, hq, by rw [if_pos e, e]⟩
  · rw [if_neg c]
    exact List.mem_append_right _ List.mem_cons_self
theorem put_keep {L : Nums} {h : List Int} {v : Int} {p : List Int × Int} (hp : p ∈ L) (n : p.1 ≠ h) : p ∈ putN L h v := by
  unfold putN
  by_cases c : h ∈ L.map (·.1)
  · rw [if_pos c]
    exact List.mem_map.mpr ⟨p, hp, if_neg n⟩
  · rw [if_neg c]
    exact List.mem_append_left _ hp
theorem vN_put {L : Nums} (nd : (L.map (·.1)).Nodup) (h : List Int) (v : Int) (j : List Int) : vN (putN L h v) j = if j = h then v else vN L j := by
  have n2 := put_nd nd h v
  by_cases e : j = h
  · rw [if_pos e, e]
    exact vN_mem n2 (put_in L h v)
  · rw [if_neg e]
    by_cases c : j ∈ L.map (·.1)
    · obtain ⟨p, hp, rfl⟩ := List.mem_map.mp c
      rw [vN_mem nd hp]
      exact vN_mem n2 (put_keep hp e)
    · rw [vN_not c]
      refine vN_not fun z => ?_
      obtain ⟨p, hp, ep⟩ := List.mem_map.mp z
      rcases put_mem hp with rfl | ⟨q, _⟩
      · exact e ep.symm
      · exact c (List.mem_map.mpr ⟨p, q, ep⟩)
theorem vN_drop {L : Nums} (nd : (L.map (·.1)).Nodup) (h : List Int) (j : List Int) : vN (dropN L h) j = if j = h then 0 else vN L j := by
  have n2 : ((dropN L h).map (·.1)).Nodup := List.Nodup.sublist (List.Sublist.map _ List.filter_sublist) nd
  by_cases e : j = h
  · rw [if_pos e, e]
    refine vN_not fun z => ?_
    obtain ⟨p, hp, ep⟩ := List.mem_map.mp z
    exact of_decide_eq_true (List.mem_filter.mp hp).2 ep
  · rw [if_neg e]
    by_cases c : j ∈ L.map (·.1)
    · obtain ⟨p, hp, rfl⟩ := List.mem_map.mp c
      rw [vN_mem nd hp]
      exact vN_mem n2 (List.mem_filter.mpr ⟨hp, decide_eq_true e⟩)
    · rw [vN_not c]
      refine vN_not fun z => ?_
      obtain ⟨p, hp, ep⟩ := List.mem_map.mp z
      exact c (List.mem_map.mpr ⟨p, (List.mem_filter.mp hp).1, ep⟩)
theorem IsF.put {R : Nums} {g g' : List Int → Int} (i : IsF R g) {h : List Int} {v : Int} (nz : v ≠ 0) (e : ∀ j, g' j = if j = h then v else g j) : IsF (putN R h v) g' := by
  refine ⟨put_nd i.nd h v, fun p hp => ?_, fun j => ?_⟩
  · rcases put_mem hp with rfl | ⟨q, _⟩
    · exact nz
    · exact i.nz p q
  · rw [vN_put i.nd, e, i.at_]
theorem IsF.drop {R : Nums} {g g' : List Int → Int} (i : IsF R g) {h : List Int} {v : Int} (e : ∀ j, g' j = if j = h then 0 else g j) : IsF (dropN (putN R h v) h) g' := by
  refine ⟨List.Nodup.sublist (List.Sublist.map _ List.filter_sublist) (put_nd i.nd h v), fun p hp => ?_, fun j => ?_⟩
  · obtain ⟨q, ne⟩ := List.mem_filter.mp hp
    rcases put_mem q with rfl | ⟨q, _⟩
    · exact absurd rfl (of_decide_eq_true ne)
    · exact i.nz p q
  · rw [vN_drop (put_nd i.nd h v), e, vN_put i.nd, i.at_]
    by_cases c : j = h
    · rw [if_pos c, if_pos c]
    · rw [if_neg c, if_neg c, if_neg c]
theorem vN_app : ∀ {A B : Nums} {j : List Int}, vN (A ++ B) j = if j ∈ A.map (·.1) then vN A j else vN B j
  | [], B, j => by
    rw [if_neg (by intro z; cases z)]
    rfl
  | p :: A, B, j => by
    have ih := vN_app (A := A) (B := B) (j := j)
    show (if p.1 = j then p.2 else vN (A ++ B) j) = if j ∈ p.1 :: A.map (·.1) then (if p.1 = j then p.2 else vN A j) else vN B j
    by_cases e : p.1 = j
    · rw [if_pos e, if_pos e, if_pos (by rw [e]; exact List.mem_cons_self)]
    · rw [if_neg e, if_neg e, ih]
      by_cases c : j ∈ A.map (·.1)
      · rw [if_pos c, if_pos (List.mem_cons_of_mem _ c)]
      · rw [if_neg c, if_neg]
        intro z
        rcases List.mem_cons.mp z with z | z
        · exact e z.symm
        · exact c z
theorem not_before {M : Nums} (nd : (M.map (·.1)).Nodup) {i : Nat} {p : List Int × Int} (hp : M[i]? = some p) : p.1 ∉ (M.take i).map (·.1) := fun z => by
  obtain ⟨r, hr, er⟩ := List.mem_map.mp z
  obtain ⟨j, hj⟩ := List.mem_iff_getElem?.mp hr
  rw [List.getElem?_take] at hj
  by_cases hji : j < i
  · rw [if_pos hji] at hj
    obtain ⟨l1, g1⟩ := List.getElem?_eq_some_iff.mp hj
    obtain ⟨l2, g2⟩ := List.getElem?_eq_some_iff.mp hp
    have nq := List.pairwise_iff_getElem.mp nd j i (by rw [List.length_map]; exact l1) (by rw [List.length_map]; exact l2) hji
    rw [List.getElem_map, List.getElem_map, g1, g2] at nq
    exact absurd er nq
  · rw [if_neg hji] at hj
    cases hj
theorem vN_take {M : Nums} (nd : (M.map (·.1)).Nodup) {i : Nat} {p : List Int × Int} (hp : M[i]? = some p) (j : List Int) : vN (M.take (i + 1)) j = if j = p.1 then p.2 else vN (M.take i) j := by
  rw [List.take_add_one, hp, vN_app]
  show (if j ∈ (M.take i).map (·.1) then vN (M.take i) j else (if p.1 = j then p.2 else 0)) = _
  by_cases e : j = p.1
  · rw [if_pos e, if_neg (by rw [e]; exact not_before nd hp), if_pos e.symm]
  · rw [if_neg e]
    by_cases c : j ∈ (M.take i).map (·.1)
    · rw [if_pos c]
    · rw [if_neg c, if_neg (fun z => e z.symm), vN_not c]
theorem put_len (L : Nums) (h : List Int) (v : Int) : (putN L h v).length ≤ L.length + 1 := by
  unfold putN
  by_cases c : h ∈ L.map (·.1)
  · rw [if_pos c, List.length_map]
    omega
  · rw [if_neg c, List.length_append]
    exact Nat.le_refl _
def spAdded : Sp := fun vs H Q _ => ∃ p q s L M g, vs = [.ref p, .ref q, .int s] ∧ (s = 1 ∨ s = -1) ∧ H p = some (.dT (kvsN L)) ∧ H q = some (.dT (kvsN M)) ∧ IsF L g ∧ (M.map (·.1)).Nodup ∧ L.length ≤ 1000 ∧ M.length ≤ 1000 ∧
  ∀ r R H', IsF R (fun h => g h + s * vN M h) → H r = none → H' r = some (.dT (kvsN R)) → Same H H' → Q (.ref r) H'
theorem ok_added (T : Txt K mg a) : FnOk P w K mg base CX0 1 a.added a.fd_added ps__law_added spAdded := by
  have F := T.F_added
  refine F.ok (k := 0) sc__law_added (fun vs H Q E h => ?_) (fun cdv A outer s H vs Q E hr h => ?_)
  · obtain ⟨p, q, s0, L, M, g, rfl, hs, hp, hq, iL, ndM, lL, lM, k⟩ := h
    rfl
  · obtain ⟨p, q, s0, L, M, g, rfl, hs, hp, hq, iL, ndM, lL, lM, k⟩ := h
    have hu := hu_of hr
    refine ⟨_, (pss_cons (ps_set (i := 3) sc__law_added.nd rfl (Or.inl rfl) (pe_callTy (Dh.call_dictPT rfl hr.units) (by rfl) T.dict (by decide +kernel) (pa_cons (pe_callTy (Itd.call_listI rfl) (by rfl) T.list (by decide +kernel) (pa_cons (pe_bm0 PySem.F.plainAttrs_dict PySem.F.slot_dict_items PySem.F.type_dict_items DX.mt_itemsT (pv 0)) pa_nil)) pa_nil)))
      (pss_cons (ps_for PassesOwn.never rfl (pi_list (pe_callTy (Kl.call_listK rfl) (by rfl) T.list (by decide +kernel) (pa_cons (pe_bm0 PySem.F.plainAttrs_dict PySem.F.slot_dict_keys PySem.F.type_dict_keys Kl.mt_keysT (pv 1)) pa_nil))) (pg_name (i := 4) sc__law_added.nd rfl (Or.inl rfl)) (pss_cons (ps_asg (pe_op op_add (pe_dget2 hu (pv 3) (pv 4) pe_int ⟨rfl, rfl, rfl, rfl⟩) (pe_op op_mul (pv 2) (pe_dget hu (pv 1) (pv 4) (fun _ _ => rfl)))) (pg_sub (pv 3) (pv 4) (set_dict hu)))
      (pss_one (ps_if (pt_cmpR op_eq (pe_dget hu (pv 3) (pv 4) (fun _ _ => rfl)) pe_int (nomark _)) (pss_one (ps_expr (pe_bm PySem.F.plainAttrs_dict PySem.F.slot_dict_pop PySem.F.type_dict_pop (Kl.mt_pop1 hu) (pv 3) (pa_cons (pv 4) pa_nil)))) pss_nil))))
      (pss_one (ps_ret (pv 3))))), ?_⟩
    refine ⟨_, rfl, ?_⟩
    refine ⟨?_, p, kvsN L, rfl, rfl, hp, ?_⟩
    · exact .inr (.inr (.inl ⟨rfl, .inr ⟨_, hp⟩⟩))
    intro pv nv
    generalize EH1 : upd H pv _ = H1
    have ev := (congrFun EH1 pv).symm.trans upd_same
    have S1 : Same H H1 := by rw [← EH1]; exact sameNew nv
    refine ⟨pv, p, kvsN L, rfl, ev, S1 _ _ hp, fun pl bs H2 nl S2 el prs => ?_⟩
    obtain ⟨Lp, q1, q2, q3⟩ := prs_of (K := K) prs
    refine ⟨pl, Lp, rfl, SqL.of (by rw [el, ← q1, List.map_map]; rfl), q3, ?_⟩
    intro pd npd
    rw [q2, merge_all iL.nd]
    generalize EH3 : upd H2 pd _ = H3
    have epd := (congrFun EH3 pd).symm.trans upd_same
    have S3 : Same H2 H3 := by rw [← EH3]; exact sameNew npd
    have S03 : Same H H3 := (S1.trans S2).trans S3
    have nHpd : H pd = none := by
      cases z : H pd with
      | none => rfl
      | some o =>
        have := S2 _ _ (S1 _ _ z)
        rw [npd] at this
        cases this
    have hq3 := S03 _ _ hq
    refine ⟨_, rfl, ?_⟩
    refine ⟨?_, q, kvsN M, rfl, rfl, hq3, ?_⟩
    · exact .inr (.inr (.inl ⟨rfl, .inr ⟨_, hq3⟩⟩))
    intro kv nkv
    generalize EH4 : upd H3 kv _ = H4
    have ekv := (congrFun EH4 kv).symm.trans upd_same
    have S4 : Same H3 H4 := by rw [← EH4]; exact sameNew nkv
    refine ⟨kv, q, kvsN M, rfl, ekv, S4 _ _ hq3, fun kl ks nkl iks => ?_⟩
    have hds := heads_of iks
    rw [map_kvsN] at hds
    have lhd := hds.len
    rw [List.length_map] at lhd
    generalize EH5 : upd H4 kl _ = H5
    have ekl := (congrFun EH5 kl).symm.trans upd_same
    have S5 : Same H4 H5 := by rw [← EH5]; exact sameNew nkl
    replace hds := hds.keep fun b ys e => S5 _ _ e
    have S35 : Same H3 H5 := S4.trans S5
    have npq : q ≠ pd := fun z => by
      rw [← z, hq] at nHpd
      cases nHpd
    refine ⟨kl, rfl, ⟨_, .inl (.inl ekl)⟩, ?_⟩
    refine for_it (walk_list (K := K) (a := kl) (xs := ks.map V.ref)) (fun i σ Hi => ∃ x4 R, σ = [some (.ref p), some (.ref q), some (.int s0), some (.ref pd), x4] ∧ Hi pd = some (.dT (kvsN R)) ∧ IsF R (fun h => g h + s0 * vN (M.take i) h) ∧ R.length ≤ L.length + i ∧ ∀ b o, b ≠ pd → H5 b = some o → Hi b = some o)
      ⟨_, L, rfl, S35 _ _ epd, iL.to fun h => by show g h = g h + s0 * 0; rw [Int.mul_zero, Int.add_zero], Nat.le_refl _, fun b o _ e => e⟩ ?_ ?_ ?_
    · rintro i σ Hi hi ⟨x4, R, rfl, hR, iR, lR, kp⟩
      refine .inl (.inl (kp _ _ (fun z => ?_) ekl))
      have := S35 _ _ epd
      rw [← z, ekl] at this
      cases this
    · rintro i y σ Hi H6 hi ⟨x4, R, rfl, hR, iR, lR, kp⟩ ⟨rfl, hy⟩
      rw [List.length_map] at hi
      rw [List.getElem?_map] at hy
      obtain ⟨b, hb, rfl⟩ := Option.map_eq_some_iff.mp hy
      obtain ⟨kk, hkk, hbk⟩ := hds.at hb
      rw [List.getElem?_map] at hkk
      obtain ⟨pr, hpr, rfl⟩ := Option.map_eq_some_iff.mp hkk
      have hpm := List.mem_of_getElem? hpr
      have nb : b ≠ pd := fun z => by
        have := S35 _ _ epd
        rw [← z, hbk] at this
        cases this
      have hbi := kp _ _ nb hbk
      have hqi := kp _ _ npq (S35 _ _ hq3)
      refine ⟨_, rfl, pd, rfl, .inr ⟨_, .inl hR⟩, _, rfl, _, .inr ⟨_, _, b, .inl hR, rfl, hbi, rfl⟩, ?_⟩
      rw [val_vN iR.nd pr.1]
      refine ⟨_, rfl, ?_⟩
      refine ⟨_, rfl, _, rfl, q, .int pr.2, rfl, .inr ⟨kvsN M, keyN pr.1, b, .inl hqi, rfl, hbi, (val_kvsN ndM hpm).symm⟩, ?_⟩
      refine ⟨_, _, rfl, rfl, ?_⟩
      refine And.intro (show CMul _ _ from Or.inl (by rcases hs with rfl | rfl <;> decide)) ?_
      refine ⟨_, _, rfl, rfl, ?_⟩
      refine ⟨_, rfl, _, rfl, pd, _, rfl, .inr ⟨kvsN R, keyN pr.1, b, hR, rfl, hbi, ?_, rfl⟩, ?_⟩
      · rw [len_kvsN, sizeLine_eq]
        omega
      rw [put_N]
      generalize ev0 : vN R pr.1 + s0 * pr.2 = v0
      have ev1 : (g pr.1 + s0 * vN (M.take i) pr.1) + s0 * pr.2 = v0 := by rw [← iR.at_ pr.1]; exact ev0
      have z0 : vN (M.take i) pr.1 = 0 := vN_not (not_before ndM hpr)
      have step : ∀ j, g j + s0 * vN (M.take (i + 1)) j = if j = pr.1 then v0 else g j + s0 * vN (M.take i) j := fun j => by
        rw [vN_take ndM hpr]
        by_cases c : j = pr.1
        · rw [if_pos c, if_pos c, ← ev1, z0, Int.mul_zero, Int.add_zero, c]
        · rw [if_neg c, if_neg c]
      generalize EH7 : upd H6 pd (.dT (kvsN (putN R pr.1 v0))) = H7
      have hR7 := (congrFun EH7 pd).symm.trans upd_same
      have kp7 : ∀ b o, b ≠ pd → H6 b = some o → H7 b = some o := fun b o n e => by
        rw [← EH7, upd_ne n]
        exact e
      have hb7 := kp7 _ _ nb hbi
      have hval : some (V.int v0) = valV (kvsN (putN R pr.1 v0)) (keyN pr.1) := by
        rw [← put_N, valV_put, if_pos rfl]
      have lput := put_len R pr.1 v0
      refine ⟨_, rfl, _, rfl, pd, _, rfl, .inr ⟨kvsN (putN R pr.1 v0), keyN pr.1, b, .inl hR7, rfl, hb7, hval⟩, rfl, _, rfl, ?_⟩
      by_cases c : v0 = 0
      · refine ite_t (decide_eq_true (by rw [c])) ?_
        refine ⟨_, rfl, ?_⟩
        refine ⟨?_, _, rfl, ?_⟩
        · exact .inr (.inr (.inl ⟨rfl, .inr ⟨_, hR7⟩⟩))
        refine ⟨pd, kvsN (putN R pr.1 v0), keyN pr.1, b, .int v0, rfl, rfl, hR7, hb7, hval.symm, ?_⟩
        rw [drop_N]
        refine ⟨_, dropN (putN R pr.1 v0) pr.1, rfl, upd_same, iR.drop fun j => ?_, ?_, fun d o n e => ?_⟩
        · rw [step, c]
        · have : (dropN (putN R pr.1 v0) pr.1).length ≤ (putN R pr.1 v0).length := List.length_filter_le _ _
          omega
        · rw [upd_ne n]
          exact kp7 _ _ n (kp _ _ n e)
      · refine ite_f (decide_eq_false fun z => c (V.int.inj z)) ?_
        exact ⟨_, putN R pr.1 v0, rfl, hR7, iR.put c step, by omega, fun d o n e => kp7 _ _ n (kp _ _ n e)⟩
    · rintro σ Hi ⟨x4, R, rfl, hR, iR, lR, kp⟩
      rw [List.length_map, ← lhd, List.take_length] at iR
      refine ⟨_, rfl, k pd R Hi iR nHpd hR fun b o e => kp b o (fun z => ?_) (S35 _ _ (S03 _ _ e))⟩
      rw [z, nHpd] at e
      cases e
end
end K02

set_option Elab.async false
set_option linter.all false
set_option maxRecDepth 100000
set_option maxHeartbeats 4000000
open L2 in
local macro_rules | `(tactic| walk_at "r1") => `(tactic| first
  | refine ⟨_, rfl, ?_⟩
  | refine ⟨_, _, rfl, rfl, ?_⟩)
open L2 in
local macro_rules | `(tactic| walk_at "q1") => `(tactic| first
  | refine ⟨_, rfl, ?_⟩
  | refine ⟨_, _, rfl, rfl, ?_⟩
  | refine And.intro (show CMul _ _ from Or.inr ⟨by decide, by decide⟩) ?_
  | refine And.intro (show CMul _ _ from Or.inl ⟨by first | decide | omega, by first | decide | omega⟩) ?_
  | refine And.intro (show CMul _ _ from Or.inr ⟨by omega, by omega⟩) ?_
  | refine And.intro (show CDiv _ _ from ⟨by omega, by omega⟩) ?_
  | refine And.intro (show Dt.CPowG _ _ from ⟨by decide, by decide +kernel⟩) ?_
  | refine And.intro (by first | decide | omega) ?_
  | refine And.intro (Int.pow_pos (Int.pow_pos (by decide))) ?_
  | refine ⟨_, _, _, _, rfl, rfl, SqL.of (by first | assumption | exact upd_same), (by rfl), ?_⟩
  | refine ⟨_, _, _, _, rfl, rfl, (by first | assumption | exact upd_same), (by rfl), ?_⟩
  | refine Or.inl ⟨_, rfl, ?_⟩
  | refine Or.inr ⟨_, rfl, ?_⟩)
local macro_rules | `(tactic| walk_at "q") => `(tactic| repeat (walk_at "q1"))
local macro_rules | `(tactic| walk_at "eqt") => `(tactic| (refine ⟨_, rfl, ?_⟩; refine ⟨rfl, ?_⟩; first
  | (refine ⟨true, rfl, ?_⟩; refine L2.iteT ?_)
  | (refine ⟨false, rfl, ?_⟩; refine L2.iteF ?_)))
local macro_rules | `(tactic| walk_at "sz") => `(tactic| (rw [PySem.sizeLine_eq]; simp))
namespace K02
open PySem PySem.Spec PyProof.Rows L2 Dt An Rp
section
variable {P : Program} {w : World} {K : PySem.W.Frag} {mg : Str → Option Value} {base : Heap} {a : Ads}
def one1 (hs : List (List Int)) : Nums := hs.map fun h => (h, (1 : Int))
theorem merge_one {g : List Int → Int} : ∀ (hs hs0 : List (List Int)) (S0 : Nums), Sums hs0 g S0 → (∀ h ∈ hs, g h = 1) → ∃ S, Dh.mergeT (kvsN S0) (kvsN (one1 hs)) = kvsN S ∧ Sums (hs0 ++ hs) g S
  | [], hs0, S0, s, _ => ⟨S0, rfl, by rw [List.append_nil]; exact s⟩
  | h :: hs, hs0, S0, s, e => by
    obtain ⟨S, e1, s1⟩ := merge_one hs (hs0 ++ [h]) (putN S0 h (g h)) (s.put h) fun k hk => e k (List.mem_cons_of_mem _ hk)
    refine ⟨S, ?_, by rw [List.append_assoc] at s1; exact s1⟩
    rw [← e1, e h List.mem_cons_self, ← put_N]
    rfl
theorem set_isF {b : Bool → Bool → Bool} {L M S : Nums} (sm : Sums (inB b L M (L ++ M)) (setF b L M) S) (hb : ∀ x y, b x y = true → x = true ∨ y = true) : IsF S (setF b L M) := by
  have up : ∀ h ∈ inB b L M (L ++ M), b (inN L h) (inN M h) = true := fun h hh => by
    obtain ⟨p, hp, rfl⟩ := List.mem_map.mp hh
    exact (List.mem_filter.mp hp).2
  refine sm.isG (fun h hh => ?_) fun h hh z => ?_
  · cases e : b (inN L h) (inN M h) with
    | false => exact setF_0 e
    | true =>
      have : h ∈ (L ++ M).map (·.1) := by
        rw [List.map_append, List.mem_append]
        rcases hb _ _ e with z | z
        · exact .inl (of_decide_eq_true z)
        · exact .inr (of_decide_eq_true z)
      obtain ⟨p, hp, rfl⟩ := List.mem_map.mp this
      exact absurd (List.mem_map.mpr ⟨p, List.mem_filter.mpr ⟨hp, e⟩, rfl⟩) hh
  · rw [setF_1 (up h hh)] at z
    cases z
def words : List Str := ["+", "-", "n", "|", "&", "^"]
/-- what the numbers are to be after an operation -/
def gWord (w : Str) (L M : Nums) : List Int → Int := fun h =>
  if w = "+" then vN L h + 1 * vN M h else if w = "-" then vN L h + -1 * vN M h else if w = "n" then 0 + -1 * vN L h
  else if w = "|" then setF or L M h else if w = "&" then setF and L M h else setF xor L M h
def spByWord : Sp := fun vs H Q _ => ∃ w p q L M, vs = [.str w, .ref p, .ref q] ∧ w ∈ words ∧ H p = some (.dT (kvsN L)) ∧ H q = some (.dT (kvsN M)) ∧ IsF L (vN L) ∧ IsF M (vN M) ∧ L.length ≤ 1000 ∧ M.length ≤ 1000 ∧
  ∀ r R H', IsF R (gWord w L M) → H r = none → H' r = some (.dT (kvsN R)) → Same H H' → Q (.ref r) H'
theorem pairedSnoc {α β : Type} {F : α → β → Prop} {x : α} {y : β} : ∀ {xs : List α} {ys : List β}, Paired F xs ys → F x y → Paired F (xs ++ [x]) (ys ++ [y])
  | _, _, .nil, h => .cons h .nil
  | _, _, .cons a t, h => .cons a (pairedSnoc t h)
theorem free_of {H H1 : Hp} (S : Same H H1) {p : Addr} (h : H1 p = none) : H p = none := by
  cases z : H p with
  | none => rfl
  | some o =>
    have := S _ _ z
    rw [h] at this
    cases this
theorem inB_all {L M : Nums} : inB or L M (L ++ M) = (L ++ M).map (·.1) := by
  unfold inB
  rw [List.filter_eq_self.mpr]
  intro p hp
  rcases List.mem_append.mp hp with z | z
  · rw [inN_of z]; rfl
  · rw [inN_of z]; exact Bool.or_true _
theorem ok_by_word (T : Txt K mg a) : FnOk P w K mg base CX0 2 a.by_word a.fd_by_word ps__law_by_word spByWord := by
  have F := T.F_by_word
  refine F.ok (k := 1) sc__law_by_word (fun vs H Q E h => ?_) (fun cdv A outer s H vs Q E hr h => ?_)
  · obtain ⟨w, p, q, L, M, rfl, hw, hp, hq, iL, iM, lL, lM, k⟩ := h
    rfl
  · obtain ⟨w, p, q, L, M, rfl, hw, hp, hq, iL, iM, lL, lM, k⟩ := h
    have hu := hu_of hr
    refine ⟨_, (pss_cons (ps_if (pt_cmpR op_eq (pv 0) pe_str (nomark _)) (pss_one (ps_ret (pe_call (ok_added T) (hr.mono (by decide)) (by rfl) T.g_added T.F_added.kp (b_added T) .nil pass0 (pa_cons (pv 1) (pa_cons (pv 2) (pa_cons pe_int pa_nil)))))) pss_nil)
      (pss_cons (ps_if (pt_cmpR op_eq (pv 0) pe_str (nomark _)) (pss_one (ps_ret (pe_call (ok_added T) (hr.mono (by decide)) (by rfl) T.g_added T.F_added.kp (b_added T) .nil pass0 (pa_cons (pv 1) (pa_cons (pv 2) (pa_cons (pe_un un_neg pe_int) pa_nil)))))) pss_nil)
      (pss_cons (ps_if (pt_cmpR op_eq (pv 0) pe_str (nomark _)) (pss_one (ps_ret (pe_call (ok_added T) (hr.mono (by decide)) (by rfl) T.g_added T.F_added.kp (b_added T) .nil pass0 (pa_cons pe_dnewT (pa_cons (pv 1) (pa_cons (pe_un un_neg pe_int) pa_nil)))))) pss_nil)
      (pss_cons (ps_set (i := 3) sc__law_by_word.nd rfl (Or.inl rfl) (pe_op op_cat (pe_callTy (Kl.call_listK rfl) (by rfl) T.list (by decide +kernel) (pa_cons (pe_bm0 PySem.F.plainAttrs_dict PySem.F.slot_dict_keys PySem.F.type_dict_keys Kl.mt_keysT (pv 1)) pa_nil)) (pe_callTy (Kl.call_listK rfl) (by rfl) T.list (by decide +kernel) (pa_cons (pe_bm0 PySem.F.plainAttrs_dict PySem.F.slot_dict_keys PySem.F.type_dict_keys Kl.mt_keysT (pv 2)) pa_nil))))
      (pss_cons (ps_if (pt_cmpR op_eq (pv 0) pe_str (nomark _)) (pss_one (ps_ret (pe_callTy (Dh.call_dictPT rfl hr.units) (by rfl) T.dict (by decide +kernel) (pa_cons (pe_lc (own := [("_law_head", 4)]) rfl sc__law_by_word.nd (pi_list (pv 3)) (blkOk_by (N := nm__law_by_word) (sc := defScope s__law_by_word) (by decide +kernel)) (fun _ _ _ _ _ => (pg_name (i := 4) sc__law_by_word.nd rfl (Or.inl rfl))) (fun _ _ _ _ _ => pts_nil) (fun _ _ _ _ _ => (pe_tup (pa_cons (pv 4) (pa_cons pe_int pa_nil))))) pa_nil)))) pss_nil)
      (pss_one (ps_ret (pe_callTy (Dh.call_dictPT rfl hr.units) (by rfl) T.dict (by decide +kernel) (pa_cons (pe_lc (own := [("_law_head", 4)]) rfl sc__law_by_word.nd (pi_list (pv 3)) (blkOk_by (N := nm__law_by_word) (sc := defScope s__law_by_word) (by decide +kernel)) (fun _ _ _ _ _ => (pg_name (i := 4) sc__law_by_word.nd rfl (Or.inl rfl))) (fun _ _ _ _ _ => (pts_one (pt_cmpR op_eq (pe_cmpR op_eq (pe_cmp (pc_din hu (pv 4) (pv 1)) rfl) (pe_cmp (pc_din hu (pv 4) (pv 2)) rfl) (nomark _)) (pe_cmpR op_eq (pv 0) pe_str (nomark _)) (nomark _)))) (fun _ _ _ _ _ => (pe_tup (pa_cons (pv 4) (pa_cons pe_int pa_nil))))) pa_nil))))))))), ?_⟩
    refine ⟨_, rfl, rfl, _, rfl, ?_⟩
    by_cases c1 : w = "+"
    · refine ite_t (by rw [str_eq_d, decide_eq_true c1]) ?_
      refine ⟨_, rfl, _, rfl, ?_⟩
      refine ⟨p, q, 1, L, M, vN L, rfl, .inl rfl, hp, hq, iL, iM.nd, lL, lM, fun r R H' i n e S => k r R H' (i.to fun h => ?_) n e S⟩
      unfold gWord
      rw [if_pos c1]
    refine ite_f (by rw [str_eq_d, decide_eq_false c1]) ?_
    refine ⟨_, rfl, rfl, _, rfl, ?_⟩
    by_cases c2 : w = "-"
    · refine ite_t (by rw [str_eq_d, decide_eq_true c2]) ?_
      refine ⟨_, rfl, _, rfl, ?_⟩
      refine ⟨1, rfl, ?_⟩
      refine ⟨p, q, -1, L, M, vN L, rfl, .inr rfl, hp, hq, iL, iM.nd, lL, lM, fun r R H' i n e S => k r R H' (i.to fun h => ?_) n e S⟩
      unfold gWord
      rw [if_neg c1, if_pos c2]
    refine ite_f (by rw [str_eq_d, decide_eq_false c2]) ?_
    refine ⟨_, rfl, rfl, _, rfl, ?_⟩
    by_cases c3 : w = "n"
    · refine ite_t (by rw [str_eq_d, decide_eq_true c3]) ?_
      intro p0 n0
      generalize EH1 : upd H p0 _ = H1
      have e0 := (congrFun EH1 p0).symm.trans upd_same
      have S1 : Same H H1 := by rw [← EH1]; exact sameNew n0
      refine ⟨_, rfl, ?_⟩
      refine ⟨1, rfl, ?_⟩
      refine ⟨p0, p, -1, [], L, fun _ => 0, rfl, .inr rfl, e0, S1 _ _ hp, ⟨List.nodup_nil, (fun _ h => by cases h), fun _ => rfl⟩, iL.nd, Nat.zero_le _, lL, fun r R H' i n e S => k r R H' (i.to fun h => ?_) (free_of S1 n) e (S1.trans S)⟩
      unfold gWord
      rw [if_neg c1, if_neg c2, if_pos c3]
    refine ite_f (by rw [str_eq_d, decide_eq_false c3]) ?_
    -- the heads of both
    refine ⟨_, rfl, ?_⟩
    refine ⟨?_, p, kvsN L, rfl, rfl, hp, ?_⟩
    · exact .inr (.inr (.inl ⟨rfl, .inr ⟨_, hp⟩⟩))
    intro v1 n1
    generalize EH1 : upd H v1 _ = H1
    have e1 := (congrFun EH1 v1).symm.trans upd_same
    have S1 : Same H H1 := by rw [← EH1]; exact sameNew n1
    refine ⟨v1, p, kvsN L, rfl, e1, S1 _ _ hp, fun l1 ks m1 ik1 => ?_⟩
    generalize EH2 : upd H1 l1 _ = H2
    have f1 := (congrFun EH2 l1).symm.trans upd_same
    have S2 : Same H1 H2 := by rw [← EH2]; exact sameNew m1
    refine ⟨_, rfl, ?_⟩
    have hq2 := S2 _ _ (S1 _ _ hq)
    refine ⟨?_, q, kvsN M, rfl, rfl, hq2, ?_⟩
    · exact .inr (.inr (.inl ⟨rfl, .inr ⟨_, hq2⟩⟩))
    intro v2 n2
    generalize EH3 : upd H2 v2 _ = H3
    have e2 := (congrFun EH3 v2).symm.trans upd_same
    have S3 : Same H2 H3 := by rw [← EH3]; exact sameNew n2
    refine ⟨v2, q, kvsN M, rfl, e2, S3 _ _ hq2, fun l2 js m2 ik2 => ?_⟩
    have ik3 : IsKeys H3 (kvsN L) ks := keys_keep ik1 fun b ys e => S3 _ _ (S2 _ _ e)
    have hds := heads_both ik3 ik2
    generalize EH4 : upd H3 l2 _ = H4
    have f2 := (congrFun EH4 l2).symm.trans upd_same
    have S4 : Same H3 H4 := by rw [← EH4]; exact sameNew m2
    have f14 := S4 _ _ (S3 _ _ f1)
    refine ⟨l1, l2, _, _, rfl, rfl, f14, f2, ?_, fun l3 m3 => ?_⟩
    · have q1 := keys_len ik1
      have q2 := keys_len ik2
      rw [List.length_map, List.length_map, sizeLine_eq]
      omega
    rw [← List.map_append]
    generalize EH5 : upd H4 l3 _ = H5
    have f3 := (congrFun EH5 l3).symm.trans upd_same
    have S5 : Same H4 H5 := by rw [← EH5]; exact sameNew m3
    have S05 : Same H H5 := (((S1.trans S2).trans S3).trans S4).trans S5
    replace hds := hds.keep fun b ys e => S5 _ _ (S4 _ _ e)
    have lhd := hds.len
    rw [List.length_map] at lhd
    refine ⟨_, rfl, rfl, _, rfl, ?_⟩
    by_cases c4 : w = "|"
    · refine ite_t (by rw [str_eq_d, decide_eq_true c4]) ?_
      refine ⟨_, rfl, l3, rfl, ⟨_, .inl (.inl f3)⟩, fun D hD => ?_⟩
      refine lc_it (walk_list (K := K) (a := l3) (xs := (ks ++ js).map V.ref)) (fun i Hi => ∃ ts : List Addr, Hi D = some (.lst (ts.map V.ref)) ∧ Same H5 Hi ∧ Paired (Itd.PairAt Hi) ts (kvsN (one1 (inB or L M ((L ++ M).take i))))) ⟨[], upd_same, sameNew hD, .nil⟩ ?_ ?_ ?_
      · rintro i Hi hi ⟨ts, _, kp, _⟩
        exact .inl (.inl (kp _ _ f3))
      · rintro i y Hi Hj hi ⟨ts, hDi, kp, hpr⟩ ⟨rfl, hy⟩
        rw [List.getElem?_map] at hy
        obtain ⟨b, hb, rfl⟩ := Option.map_eq_some_iff.mp hy
        obtain ⟨kk, hkk, hbk⟩ := hds.at hb
        rw [List.getElem?_map] at hkk
        obtain ⟨pr, hpr0, rfl⟩ := Option.map_eq_some_iff.mp hkk
        have hq1 := kp _ _ hbk
        have lts : ts.length ≤ 2000 := by
          have q1 : ts.length = (kvsN (one1 (inB or L M ((L ++ M).take i)))).length := Paired.length hpr
          unfold one1 inB at q1
          rw [len_kvsN, List.length_map, List.length_map] at q1
          have q2 := List.length_filter_le (fun p => or (inN L p.1) (inN M p.1)) ((L ++ M).take i)
          rw [List.length_take, List.length_append] at q2
          omega
        have put : or (inN L pr.1) (inN M pr.1) = true → ∀ t, Hj t = none → ∃ acc, upd Hj t (.tup [V.ref b, V.int 1]) D = some (.lst acc) ∧ acc.length < sizeLine ∧ ∃ ts' : List Addr, upd (upd Hj t (.tup [V.ref b, V.int 1])) D (.lst (acc ++ [V.ref t])) D = some (.lst (ts'.map V.ref)) ∧ Same H5 (upd (upd Hj t (.tup [V.ref b, V.int 1])) D (.lst (acc ++ [V.ref t]))) ∧ Paired (Itd.PairAt (upd (upd Hj t (.tup [V.ref b, V.int 1])) D (.lst (acc ++ [V.ref t])))) ts' (kvsN (one1 (inB or L M ((L ++ M).take (i + 1))))) := by
          intro yes t ht0
          have nDt : D ≠ t := ne_of_none hDi ht0
          refine ⟨ts.map V.ref, ?_, ?_, ts ++ [t], ?_, fun b' o e => ?_, ?_⟩
          · rw [upd_ne nDt]
            exact hDi
          · rw [List.length_map, sizeLine_eq]
            omega
          · rw [List.map_append]
            exact upd_same
          · have z1 := kp _ _ e
            rw [upd_ne (ne_of_none e hD), upd_ne (ne_of_none z1 ht0)]
            exact z1
          · rw [inB_yes hpr0 yes]
            unfold one1 kvsN
            rw [List.map_append, List.map_append]
            refine pairedSnoc (Paired.mapP hpr fun t' p' ⟨q', z1, z2⟩ => ⟨q', ?_, ?_⟩) ⟨b, ?_, ?_⟩
            · rw [upd_ne (ne_of z1 hDi (fun z => nomatch z)), upd_ne (ne_of_none z1 ht0)]
              exact z1
            · rw [upd_ne (ne_of z2 hDi (fun z => nomatch z)), upd_ne (ne_of_none z2 ht0)]
              exact z2
            · rw [upd_ne (Ne.symm nDt)]
              exact upd_same
            · rw [upd_ne (ne_of_none hbk hD), upd_ne (ne_of_none hq1 ht0)]
              exact hq1
        refine ⟨rfl, ?_⟩
        dsimp only [tYes]
        rw [if_pos rfl]
        refine ⟨_, rfl, (by show 2 ≤ sizeLine; decide), fun t ht0 => ?_⟩
        exact put (by
          rcases List.mem_append.mp (List.mem_of_getElem? hpr0) with z | z
          · rw [inN_of z]; rfl
          · rw [inN_of z]; exact Bool.or_true _) t ht0
      rintro H6 ⟨ts, eD, S6, prT⟩
      rw [List.length_map, ← lhd, List.take_length] at prT
      obtain ⟨Lq, r1, r2, r3⟩ := prs_of (K := K) prT
      refine ⟨D, Lq, rfl, SqL.of (by rw [eD, ← r1, List.map_map]; rfl), r3, ?_⟩
      intro pd npd
      obtain ⟨S, eS, sm⟩ := merge_one (g := setF or L M) (inB or L M (L ++ M)) [] [] Sums.nil fun h hh => by
        obtain ⟨p, hp, rfl⟩ := List.mem_map.mp hh
        exact setF_1 (List.mem_filter.mp hp).2
      have eS2 : Dh.mergeT [] (kvsN (one1 (inB or L M (L ++ M)))) = kvsN S := eS
      rw [r2, eS2]
      rw [List.nil_append] at sm
      generalize EH7 : upd H6 pd _ = H7
      have epd := (congrFun EH7 pd).symm.trans upd_same
      have S7 : Same H6 H7 := by rw [← EH7]; exact sameNew npd
      have S06 : Same H H6 := S05.trans S6
      exact k pd S H7 ((set_isF sm (fun x y e => (Bool.or_eq_true _ _).mp e)).to fun h => by unfold gWord; rw [if_neg c1, if_neg c2, if_neg c3, if_pos c4]) (free_of S06 npd) epd (S06.trans S7)

    refine ite_f (by rw [str_eq_d, decide_eq_false c4]) ?_
    by_cases c5 : w = "&"
    · refine ⟨_, rfl, l3, rfl, ⟨_, .inl (.inl f3)⟩, fun D hD => ?_⟩
      refine lc_it (walk_list (K := K) (a := l3) (xs := (ks ++ js).map V.ref)) (fun i Hi => ∃ ts : List Addr, Hi D = some (.lst (ts.map V.ref)) ∧ Same H5 Hi ∧ Paired (Itd.PairAt Hi) ts (kvsN (one1 (inB and L M ((L ++ M).take i))))) ⟨[], upd_same, sameNew hD, .nil⟩ ?_ ?_ ?_
      · rintro i Hi hi ⟨ts, _, kp, _⟩
        exact .inl (.inl (kp _ _ f3))
      · rintro i y Hi Hj hi ⟨ts, hDi, kp, hpr⟩ ⟨rfl, hy⟩
        rw [List.getElem?_map] at hy
        obtain ⟨b, hb, rfl⟩ := Option.map_eq_some_iff.mp hy
        obtain ⟨kk, hkk, hbk⟩ := hds.at hb
        rw [List.getElem?_map] at hkk
        obtain ⟨pr, hpr0, rfl⟩ := Option.map_eq_some_iff.mp hkk
        have hq1 := kp _ _ hbk
        have lts : ts.length ≤ 2000 := by
          have q1 : ts.length = (kvsN (one1 (inB and L M ((L ++ M).take i)))).length := Paired.length hpr
          unfold one1 inB at q1
          rw [len_kvsN, List.length_map, List.length_map] at q1
          have q2 := List.length_filter_le (fun p => and (inN L p.1) (inN M p.1)) ((L ++ M).take i)
          rw [List.length_take, List.length_append] at q2
          omega
        have put : and (inN L pr.1) (inN M pr.1) = true → ∀ t, Hj t = none → ∃ acc, upd Hj t (.tup [V.ref b, V.int 1]) D = some (.lst acc) ∧ acc.length < sizeLine ∧ ∃ ts' : List Addr, upd (upd Hj t (.tup [V.ref b, V.int 1])) D (.lst (acc ++ [V.ref t])) D = some (.lst (ts'.map V.ref)) ∧ Same H5 (upd (upd Hj t (.tup [V.ref b, V.int 1])) D (.lst (acc ++ [V.ref t]))) ∧ Paired (Itd.PairAt (upd (upd Hj t (.tup [V.ref b, V.int 1])) D (.lst (acc ++ [V.ref t])))) ts' (kvsN (one1 (inB and L M ((L ++ M).take (i + 1))))) := by
          intro yes t ht0
          have nDt : D ≠ t := ne_of_none hDi ht0
          refine ⟨ts.map V.ref, ?_, ?_, ts ++ [t], ?_, fun b' o e => ?_, ?_⟩
          · rw [upd_ne nDt]
            exact hDi
          · rw [List.length_map, sizeLine_eq]
            omega
          · rw [List.map_append]
            exact upd_same
          · have z1 := kp _ _ e
            rw [upd_ne (ne_of_none e hD), upd_ne (ne_of_none z1 ht0)]
            exact z1
          · rw [inB_yes hpr0 yes]
            unfold one1 kvsN
            rw [List.map_append, List.map_append]
            refine pairedSnoc (Paired.mapP hpr fun t' p' ⟨q', z1, z2⟩ => ⟨q', ?_, ?_⟩) ⟨b, ?_, ?_⟩
            · rw [upd_ne (ne_of z1 hDi (fun z => nomatch z)), upd_ne (ne_of_none z1 ht0)]
              exact z1
            · rw [upd_ne (ne_of z2 hDi (fun z => nomatch z)), upd_ne (ne_of_none z2 ht0)]
              exact z2
            · rw [upd_ne (Ne.symm nDt)]
              exact upd_same
            · rw [upd_ne (ne_of_none hbk hD), upd_ne (ne_of_none hq1 ht0)]
              exact hq1
        refine ⟨rfl, ?_⟩
        have el : (valV (kvsN L) (keyN pr.1)).isSome = inN L pr.1 := val_some iL.nd _
        have em : (valV (kvsN M) (keyN pr.1)).isSome = inN M pr.1 := val_some iM.nd _
        have either : inN L pr.1 = true ∨ inN M pr.1 = true := by
          rcases List.mem_append.mp (List.mem_of_getElem? hpr0) with z | z
          · exact .inl (inN_of z)
          · exact .inr (inN_of z)
        have hpi := kp _ _ (S05 _ _ hp)
        have hqi := kp _ _ (S05 _ _ hq)
        refine ⟨_, rfl, _, rfl, p, _, rfl, .inr ⟨kvsN L, keyN pr.1, b, .inl hpi, rfl, hq1, rfl⟩, ?_⟩
        rw [el]
        refine ⟨_, rfl, _, rfl, q, _, rfl, .inr ⟨kvsN M, keyN pr.1, b, .inl hqi, rfl, hq1, rfl⟩, ?_⟩
        rw [em]
        refine ⟨rfl, _, rfl, rfl, rfl, _, rfl, ?_⟩
        have ev : decide (V.bl (decide (V.bl (inN L pr.1) = V.bl (inN M pr.1))) = V.bl (decide (V.str w = V.str "&"))) = and (inN L pr.1) (inN M pr.1) := by
          rw [str_eq_d, decide_eq_true c5]
          cases ei : inN L pr.1 <;> cases ej : inN M pr.1
          · rw [ei, ej] at either
            exact either.elim (fun z => by cases z) (fun z => by cases z)
          · rfl
          · rfl
          · rfl
        cases e : and (inN L pr.1) (inN M pr.1) with
        | false =>
          refine ite_f (ev.trans e) ⟨ts, hDi, kp, ?_⟩
          rw [inB_no hpr0 e]
          exact hpr
        | true =>
          refine ite_t (ev.trans e) ?_
          refine ⟨_, rfl, (by show 2 ≤ sizeLine; decide), fun t ht0 => ?_⟩
          exact put e t ht0
      rintro H6 ⟨ts, eD, S6, prT⟩
      rw [List.length_map, ← lhd, List.take_length] at prT
      obtain ⟨Lq, r1, r2, r3⟩ := prs_of (K := K) prT
      refine ⟨D, Lq, rfl, SqL.of (by rw [eD, ← r1, List.map_map]; rfl), r3, ?_⟩
      intro pd npd
      obtain ⟨S, eS, sm⟩ := merge_one (g := setF and L M) (inB and L M (L ++ M)) [] [] Sums.nil fun h hh => by
        obtain ⟨p, hp, rfl⟩ := List.mem_map.mp hh
        exact setF_1 (List.mem_filter.mp hp).2
      have eS2 : Dh.mergeT [] (kvsN (one1 (inB and L M (L ++ M)))) = kvsN S := eS
      rw [r2, eS2]
      rw [List.nil_append] at sm
      generalize EH7 : upd H6 pd _ = H7
      have epd := (congrFun EH7 pd).symm.trans upd_same
      have S7 : Same H6 H7 := by rw [← EH7]; exact sameNew npd
      have S06 : Same H H6 := S05.trans S6
      exact k pd S H7 ((set_isF sm (fun x y e => .inl ((Bool.and_eq_true _ _).mp e).1)).to fun h => by unfold gWord; rw [if_neg c1, if_neg c2, if_neg c3, if_neg c4, if_pos c5]) (free_of S06 npd) epd (S06.trans S7)

    refine ⟨_, rfl, l3, rfl, ⟨_, .inl (.inl f3)⟩, fun D hD => ?_⟩
    refine lc_it (walk_list (K := K) (a := l3) (xs := (ks ++ js).map V.ref)) (fun i Hi => ∃ ts : List Addr, Hi D = some (.lst (ts.map V.ref)) ∧ Same H5 Hi ∧ Paired (Itd.PairAt Hi) ts (kvsN (one1 (inB xor L M ((L ++ M).take i))))) ⟨[], upd_same, sameNew hD, .nil⟩ ?_ ?_ ?_
    · rintro i Hi hi ⟨ts, _, kp, _⟩
      exact .inl (.inl (kp _ _ f3))
    · rintro i y Hi Hj hi ⟨ts, hDi, kp, hpr⟩ ⟨rfl, hy⟩
      rw [List.getElem?_map] at hy
      obtain ⟨b, hb, rfl⟩ := Option.map_eq_some_iff.mp hy
      obtain ⟨kk, hkk, hbk⟩ := hds.at hb
      rw [List.getElem?_map] at hkk
      obtain ⟨pr, hpr0, rfl⟩ := Option.map_eq_some_iff.mp hkk
      have hq1 := kp _ _ hbk
      have lts : ts.length ≤ 2000 := by
        have q1 : ts.length = (kvsN (one1 (inB xor L M ((L ++ M).take i)))).length := Paired.length hpr
        unfold one1 inB at q1
        rw [len_kvsN, List.length_map, List.length_map] at q1
        have q2 := List.length_filter_le (fun p => xor (inN L p.1) (inN M p.1)) ((L ++ M).take i)
        rw [List.length_take, List.length_append] at q2
        omega
      have put : xor (inN L pr.1) (inN M pr.1) = true → ∀ t, Hj t = none → ∃ acc, upd Hj t (.tup [V.ref b, V.int 1]) D = some (.lst acc) ∧ acc.length < sizeLine ∧ ∃ ts' : List Addr, upd (upd Hj t (.tup [V.ref b, V.int 1])) D (.lst (acc ++ [V.ref t])) D = some (.lst (ts'.map V.ref)) ∧ Same H5 (upd (upd Hj t (.tup [V.ref b, V.int 1])) D (.lst (acc ++ [V.ref t]))) ∧ Paired (Itd.PairAt (upd (upd Hj t (.tup [V.ref b, V.int 1])) D (.lst (acc ++ [V.ref t])))) ts' (kvsN (one1 (inB xor L M ((L ++ M).take (i + 1))))) := by
        intro yes t ht0
        have nDt : D ≠ t := ne_of_none hDi ht0
        refine ⟨ts.map V.ref, ?_, ?_, ts ++ [t], ?_, fun b' o e => ?_, ?_⟩
        · rw [upd_ne nDt]
          exact hDi
        · rw [List.length_map, sizeLine_eq]
          omega
        · rw [List.map_append]
          exact upd_same
        · have z1 := kp _ _ e
          rw [upd_ne (ne_of_none e hD), upd_ne (ne_of_none z1 ht0)]
          exact z1
        · rw [inB_yes hpr0 yes]
          unfold one1 kvsN
          rw [List.map_append, List.map_append]
          refine pairedSnoc (Paired.mapP hpr fun t' p' ⟨q', z1, z2⟩ => ⟨q', ?_, ?_⟩) ⟨b, ?_, ?_⟩
          · rw [upd_ne (ne_of z1 hDi (fun z => nomatch z)), upd_ne (ne_of_none z1 ht0)]
            exact z1
          · rw [upd_ne (ne_of z2 hDi (fun z => nomatch z)), upd_ne (ne_of_none z2 ht0)]
            exact z2
          · rw [upd_ne (Ne.symm nDt)]
            exact upd_same
          · rw [upd_ne (ne_of_none hbk hD), upd_ne (ne_of_none hq1 ht0)]
            exact hq1
      refine ⟨rfl, ?_⟩
      have el : (valV (kvsN L) (keyN pr.1)).isSome = inN L pr.1 := val_some iL.nd _
      have em : (valV (kvsN M) (keyN pr.1)).isSome = inN M pr.1 := val_some iM.nd _
      have either : inN L pr.1 = true ∨ inN M pr.1 = true := by
        rcases List.mem_append.mp (List.mem_of_getElem? hpr0) with z | z
        · exact .inl (inN_of z)
        · exact .inr (inN_of z)
      have hpi := kp _ _ (S05 _ _ hp)
      have hqi := kp _ _ (S05 _ _ hq)
      refine ⟨_, rfl, _, rfl, p, _, rfl, .inr ⟨kvsN L, keyN pr.1, b, .inl hpi, rfl, hq1, rfl⟩, ?_⟩
      rw [el]
      refine ⟨_, rfl, _, rfl, q, _, rfl, .inr ⟨kvsN M, keyN pr.1, b, .inl hqi, rfl, hq1, rfl⟩, ?_⟩
      rw [em]
      refine ⟨rfl, _, rfl, rfl, rfl, _, rfl, ?_⟩
      have ev : decide (V.bl (decide (V.bl (inN L pr.1) = V.bl (inN M pr.1))) = V.bl (decide (V.str w = V.str "&"))) = xor (inN L pr.1) (inN M pr.1) := by
        rw [str_eq_d, decide_eq_false c5]
        cases ei : inN L pr.1 <;> cases ej : inN M pr.1
        · rw [ei, ej] at either
          exact either.elim (fun z => by cases z) (fun z => by cases z)
        · rfl
        · rfl
        · rfl
      cases e : xor (inN L pr.1) (inN M pr.1) with
      | false =>
        refine ite_f (ev.trans e) ⟨ts, hDi, kp, ?_⟩
        rw [inB_no hpr0 e]
        exact hpr
      | true =>
        refine ite_t (ev.trans e) ?_
        refine ⟨_, rfl, (by show 2 ≤ sizeLine; decide), fun t ht0 => ?_⟩
        exact put e t ht0
    rintro H6 ⟨ts, eD, S6, prT⟩
    rw [List.length_map, ← lhd, List.take_length] at prT
    obtain ⟨Lq, r1, r2, r3⟩ := prs_of (K := K) prT
    refine ⟨D, Lq, rfl, SqL.of (by rw [eD, ← r1, List.map_map]; rfl), r3, ?_⟩
    intro pd npd
    obtain ⟨S, eS, sm⟩ := merge_one (g := setF xor L M) (inB xor L M (L ++ M)) [] [] Sums.nil fun h hh => by
      obtain ⟨p, hp, rfl⟩ := List.mem_map.mp hh
      exact setF_1 (List.mem_filter.mp hp).2
    have eS2 : Dh.mergeT [] (kvsN (one1 (inB xor L M (L ++ M)))) = kvsN S := eS
    rw [r2, eS2]
    rw [List.nil_append] at sm
    generalize EH7 : upd H6 pd _ = H7
    have epd := (congrFun EH7 pd).symm.trans upd_same
    have S7 : Same H6 H7 := by rw [← EH7]; exact sameNew npd
    have S06 : Same H H6 := S05.trans S6
    exact k pd S H7 ((set_isF sm (fun x y e => by cases x <;> cases y <;> first | exact .inl rfl | exact .inr rfl | cases e)).to fun h => by unfold gWord; rw [if_neg c1, if_neg c2, if_neg c3, if_neg c4, if_neg c5]) (free_of S06 npd) epd (S06.trans S7)
end
end K02

set_option Elab.async false
set_option linter.all false
set_option maxRecDepth 100000
set_option maxHeartbeats 4000000
open L2 in
local macro_rules | `(tactic| walk_at "r1") => `(tactic| first
  | refine ⟨_, rfl, ?_⟩
  | refine ⟨_, _, rfl, rfl, ?_⟩)
open L2 in
local macro_rules | `(tactic| walk_at "q1") => `(tactic| first
  | refine ⟨_, rfl, ?_⟩
  | refine ⟨_, _, rfl, rfl, ?_⟩
  | refine And.intro (show CMul _ _ from Or.inr ⟨by decide, by decide⟩) ?_
  | refine And.intro (show CMul _ _ from Or.inl ⟨by first | decide | omega, by first | decide | omega⟩) ?_
  | refine And.intro (show CMul _ _ from Or.inr ⟨by omega, by omega⟩) ?_
  | refine And.intro (show CDiv _ _ from ⟨by omega, by omega⟩) ?_
  | refine And.intro (show Dt.CPowG _ _ from ⟨by decide, by decide +kernel⟩) ?_
  | refine And.intro (by first | decide | omega) ?_
  | refine And.intro (Int.pow_pos (Int.pow_pos (by decide))) ?_
  | refine ⟨_, _, _, _, rfl, rfl, SqL.of (by first | assumption | exact upd_same), (by rfl), ?_⟩
  | refine ⟨_, _, _, _, rfl, rfl, (by first | assumption | exact upd_same), (by rfl), ?_⟩
  | refine Or.inl ⟨_, rfl, ?_⟩
  | refine Or.inr ⟨_, rfl, ?_⟩)
local macro_rules | `(tactic| walk_at "q") => `(tactic| repeat (walk_at "q1"))
local macro_rules | `(tactic| walk_at "eqt") => `(tactic| (refine ⟨_, rfl, ?_⟩; refine ⟨rfl, ?_⟩; first
  | (refine ⟨true, rfl, ?_⟩; refine L2.iteT ?_)
  | (refine ⟨false, rfl, ?_⟩; refine L2.iteF ?_)))
local macro_rules | `(tactic| walk_at "sz") => `(tactic| (rw [PySem.sizeLine_eq]; simp))
namespace K02
open PySem PySem.Spec PyProof.Rows L2 Dt An Rp
section
variable {P : Program} {w : World} {K : PySem.W.Frag} {mg : Str → Option Value} {base : Heap} {a : Ads}
/-- the words of a form -/
def FormW (f w : Str) : Prop := if f = "distinct" then w = "|" ∨ w = "&" ∨ w = "^" else w = "+" ∨ w = "-" ∨ w = "n"
def tys : List String := ["NoneType", "int", "bool", "dict", "tuple", "list", "str"]
/-- what an operator may meet on the right -/
def Vop (K : PySem.W.Frag) (C : Addr) (H : Hp) (v : V) : Prop := (∃ b, v = .ref b ∧ Ow.Own H C b) ∨ ∃ T, T ∈ tys ∧ TyX K H v (.type T)
theorem vop_ty (T : Txt K mg a) {H : Hp} {v : V} (h : Vop K a.c_Answer H v) {nm : String} (hn : nm ∈ ["add", "sub", "or", "and", "xor"]) : (∃ b, v = .ref b ∧ Ow.Own H a.c_Answer b) ∨ ∃ U, TyX K H v (.type U) ∧ Ow.TyA K a.c_Answer nm U := by
  rcases h with h | ⟨U, hU, ty⟩
  · exact .inl h
  · refine .inr ⟨U, ty, ?_, ?_, ?_⟩
    · simp only [tys, List.mem_cons, List.mem_nil_iff, or_false] at hU
      rcases hU with h | h | h | h | h | h | h <;> subst h
      · exact T.sb_NoneType
      · exact T.sb_int
      · exact T.sb_bool
      · exact T.sb_dict
      · exact T.sb_tuple
      · exact T.sb_list
      · exact T.sb_str
    · have q : ∀ n ∈ ["add", "sub", "or", "and", "xor"], ∀ U ∈ tys, (fastLookup U (PySem.dunder n)).isSome = true := by decide +kernel
      exact Ow.look_ty (q nm hn U hU)
    · have q : ∀ n ∈ ["add", "sub", "or", "and", "xor"], ∀ U ∈ tys, (fastLookup U (dunderR n)).isSome = true := by decide +kernel
      exact Ow.look_ty (q nm hn U hU)
def GoodD (C : Addr) (H : Hp) (Q : VK) (w : Str) (x : Addr) (v : V) : Prop := ∃ f L y M, v = .ref y ∧ AnsAt C H x f L ∧ AnsAt C H y f M ∧ OkN f L ∧ OkN f M ∧ FormW f w ∧ oneOf L M = true ∧ L.length + M.length ≤ 1000 ∧
  ∀ z R H', NewA C H H' z f R (gWord w L M) → Q (.ref z) H'
def BadD (K : PySem.W.Frag) (C CO : Addr) (H : Hp) (E : XK) (w : Str) (x : Addr) (v : V) : Prop := ∃ f L, AnsAt C H x f L ∧ OkN f L ∧ Vop K C H v ∧ (∀ H', Same H H' → E (.ref CO) none H') ∧
  (¬ FormW f w ∨ (w ≠ "n" ∧ (Wrong K C H f v ∨ ∃ y M, v = .ref y ∧ AnsAt C H y f M ∧ OkN f M ∧ oneOf L M = false)))
def PostD (Q : VK) : VK := fun z H' => ((∃ p, z = .ref p) ∨ z = .non ∨ ∃ b, z = .bl b) ∧ Q z H'
theorem good_vop {C : Addr} {H : Hp} {Q : VK} {w : Str} {x : Addr} {v : V} (h : GoodD C H Q w x v) : Ow.Own H C x ∧ Vop K C H v := by
  obtain ⟨f, L, y, M, rfl, h1, h2, _⟩ := h
  exact ⟨own_ans h1, .inl ⟨y, rfl, own_ans h2⟩⟩
theorem both_vop {C CO : Addr} {H : Hp} {Q : VK} {E : XK} {w : Str} {x : Addr} {v : V} (h : GoodD C H Q w x v ∨ BadD K C CO H E w x v) : Ow.Own H C x ∧ Vop K C H v := by
  rcases h with h | ⟨f, L, h1, _, h2, _⟩
  · exact good_vop h
  · exact ⟨own_ans h1, h2⟩
theorem to_arith {C CO : Addr} {H : Hp} {Q : VK} {E : XK} {w : Str} {x : Addr} {v : V} {s : Int} (hw : (w = "+" ∧ s = 1) ∨ (w = "-" ∧ s = -1)) (h : GoodD C H Q w x v ∨ BadD K C CO H E w x v) : spArith K C CO s [.ref x, v] H (PostD Q) E := by
  have nn : w ≠ "n" := by rcases hw with ⟨e, _⟩ | ⟨e, _⟩ <;> (rw [e]; decide +kernel)
  have hform : ∀ f, FormW f w ↔ f ≠ "distinct" := fun f => by
    unfold FormW
    by_cases c : f = "distinct"
    · rw [if_pos c]
      refine ⟨fun z => ?_, fun z => absurd c z⟩
      exfalso
      rcases hw with ⟨e, _⟩ | ⟨e, _⟩ <;> rw [e] at z <;> revert z <;> decide +kernel
    · rw [if_neg c]
      exact ⟨fun _ => c, fun _ => by rcases hw with ⟨e, _⟩ | ⟨e, _⟩ <;> simp [e]⟩
  rcases h with ⟨f, L, y, M, rfl, h1, h2, o1, o2, fw, one, hl, k⟩ | ⟨f, L, h1, o1, vo, kE, hb⟩
  · refine ⟨x, f, L, _, rfl, h1, o1, .inr ⟨(hform f).mp fw, .inl ⟨y, M, rfl, h2, o2, .inl ⟨one, hl, fun z R H' n => ⟨.inl ⟨_, rfl⟩, k z R H' (n.to fun h => ?_)⟩⟩⟩⟩⟩
    unfold gWord
    rcases hw with ⟨e, e2⟩ | ⟨e, e2⟩
    · rw [if_pos e, e2]
    · rw [if_neg (by rw [e]; decide +kernel), if_pos e, e2]
  · by_cases c : f = "distinct"
    · exact ⟨x, f, L, v, rfl, h1, o1, .inl ⟨c, kE H fun _ _ q => q⟩⟩
    · refine ⟨x, f, L, v, rfl, h1, o1, .inr ⟨c, ?_⟩⟩
      rcases hb with z | ⟨_, z | ⟨y, M, rfl, h2, o2, one⟩⟩
      · exact absurd ((hform f).mpr c) z
      · exact .inr ⟨z, kE H fun _ _ q => q⟩
      · exact .inl ⟨y, M, rfl, h2, o2, .inr ⟨one, kE⟩⟩
theorem to_set {C CO : Addr} {H : Hp} {Q : VK} {E : XK} {w : Str} {x : Addr} {v : V} {b : Bool → Bool → Bool} (hw : (w = "|" ∧ b = or) ∨ (w = "&" ∧ b = and) ∨ (w = "^" ∧ b = xor)) (h : GoodD C H Q w x v ∨ BadD K C CO H E w x v) : spSet K C CO b [.ref x, v] H (PostD Q) E := by
  have hform : ∀ f, FormW f w ↔ f = "distinct" := fun f => by
    unfold FormW
    by_cases c : f = "distinct"
    · rw [if_pos c]
      exact ⟨fun _ => c, fun _ => by rcases hw with ⟨e, _⟩ | ⟨e, _⟩ | ⟨e, _⟩ <;> simp [e]⟩
    · rw [if_neg c]
      refine ⟨fun z => ?_, fun z => absurd z c⟩
      exfalso
      rcases hw with ⟨e, _⟩ | ⟨e, _⟩ | ⟨e, _⟩ <;> rw [e] at z <;> revert z <;> decide +kernel
  rcases h with ⟨f, L, y, M, rfl, h1, h2, o1, o2, fw, one, hl, k⟩ | ⟨f, L, h1, o1, vo, kE, hb⟩
  · refine ⟨x, f, L, _, rfl, h1, o1, .inr ⟨(hform f).mp fw, .inl ⟨y, M, rfl, h2, o2, .inl ⟨one, hl, fun z R H' n => ⟨.inl ⟨_, rfl⟩, k z R H' (n.to fun h => ?_)⟩⟩⟩⟩⟩
    unfold gWord
    rcases hw with ⟨e, e2⟩ | ⟨e, e2⟩ | ⟨e, e2⟩
    · rw [if_neg (by rw [e]; decide +kernel), if_neg (by rw [e]; decide +kernel), if_neg (by rw [e]; decide +kernel), if_pos e, e2]
    · rw [if_neg (by rw [e]; decide +kernel), if_neg (by rw [e]; decide +kernel), if_neg (by rw [e]; decide +kernel), if_neg (by rw [e]; decide +kernel), if_pos e, e2]
    · rw [if_neg (by rw [e]; decide +kernel), if_neg (by rw [e]; decide +kernel), if_neg (by rw [e]; decide +kernel), if_neg (by rw [e]; decide +kernel), if_neg (by rw [e]; decide +kernel), e2]
  · by_cases c : f = "distinct"
    · refine ⟨x, f, L, v, rfl, h1, o1, .inr ⟨c, ?_⟩⟩
      rcases hb with z | ⟨_, z | ⟨y, M, rfl, h2, o2, one⟩⟩
      · exact absurd ((hform f).mpr c) z
      · exact .inr ⟨z, kE H fun _ _ q => q⟩
      · exact .inl ⟨y, M, rfl, h2, o2, .inr ⟨one, kE⟩⟩
    · exact ⟨x, f, L, v, rfl, h1, o1, .inl ⟨c, kE H fun _ _ q => q⟩⟩
theorem to_neg {C CO : Addr} {H : Hp} {Q : VK} {E : XK} {x : Addr} {v : V} (h : GoodD C H Q "n" x v ∨ BadD K C CO H E "n" x v) : spNeg C CO [.ref x] H Q E := by
  rcases h with ⟨f, L, y, M, rfl, h1, h2, o1, o2, fw, one, hl, k⟩ | ⟨f, L, h1, o1, vo, kE, hb⟩
  · have c : f ≠ "distinct" := fun c => by
      unfold FormW at fw
      rw [if_pos c] at fw
      revert fw
      decide +kernel
    refine ⟨x, f, L, rfl, h1, o1, .inr ⟨c, fun z R H' n => k z R H' (n.to fun h => ?_)⟩⟩
    unfold gWord
    rw [if_neg (by decide +kernel), if_neg (by decide +kernel), if_pos rfl, Int.zero_add, Int.neg_mul, Int.one_mul]
  · by_cases c : f = "distinct"
    · exact ⟨x, f, L, rfl, h1, o1, .inl ⟨c, kE H fun _ _ q => q⟩⟩
    · exfalso
      rcases hb with z | ⟨z, _⟩
      · exact z (by unfold FormW; rw [if_neg c]; exact .inr (.inr rfl))
      · exact z rfl
def spDone (K : PySem.W.Frag) (C CO : Addr) : Sp := fun vs H Q E => ∃ w x v, vs = [.str w, .ref x, v] ∧ w ∈ words ∧ (GoodD C H Q w x v ∨ BadD K C CO H E w x v)
theorem ok_done (T : Txt K mg a) : FnOk P w K mg base (L2.CX P w) 8 a.done a.fd_done ps__law_done (spDone K a.c_Answer a.c_InvalidOperation) := by
  have F := T.F_done
  refine F.okX (k := 7) sc__law_done (fun vs H Q E h => ?_) (fun cdv A outer s H vs Q E hr h => ?_)
  · obtain ⟨w, x, v, rfl, hw, h⟩ := h
    rfl
  · obtain ⟨w, x, v, rfl, hw, h⟩ := h
    have hu := hu_of hr
    refine ⟨_, (pss_cons (ps_if (pt_cmpR op_eq (pv 0) pe_str (nomark _)) (pss_one (ps_ret (pe_op (Ow.op_binA ⟨T.fi__add__, T.fn__add__, ok_Answer___add__ T, b_Answer___add__ T⟩ T.sf_A T.fr__add__ (hr.mono (by decide)) (passes_call (takes_of rfl rfl rfl rfl) (fun _ _ _ _ h => h))) (pv 1) (pv 2)))) pss_nil)
      (pss_cons (ps_if (pt_cmpR op_eq (pv 0) pe_str (nomark _)) (pss_one (ps_ret (pe_op (Ow.op_binA ⟨T.fi__sub__, T.fn__sub__, ok_Answer___sub__ T, b_Answer___sub__ T⟩ T.sf_A T.fr__sub__ (hr.mono (by decide)) (passes_call (takes_of rfl rfl rfl rfl) (fun _ _ _ _ h => h))) (pv 1) (pv 2)))) pss_nil)
      (pss_cons (ps_if (pt_cmpR op_eq (pv 0) pe_str (nomark _)) (pss_one (ps_ret (pe_un (Ow.un_negO ⟨T.fi__neg__, T.fn__neg__, ok_Answer___neg__ T, b_Answer___neg__ T⟩ (hr.mono (by decide)) (passes_call (takes_of rfl rfl rfl rfl) (fun _ _ _ _ h => h))) (pv 1)))) pss_nil)
      (pss_cons (ps_if (pt_cmpR op_eq (pv 0) pe_str (nomark _)) (pss_one (ps_ret (pe_op (Ow.op_binA ⟨T.fi__or__, T.fn__or__, ok_Answer___or__ T, b_Answer___or__ T⟩ T.sf_A T.fr__or__ (hr.mono (by decide)) (passes_call (takes_of rfl rfl rfl rfl) (fun _ _ _ _ h => h))) (pv 1) (pv 2)))) pss_nil)
      (pss_one (ps_ret (pe_ifExp (pt_cmpR op_eq (pv 0) pe_str (nomark _)) (pe_op (Ow.op_binA ⟨T.fi__and__, T.fn__and__, ok_Answer___and__ T, b_Answer___and__ T⟩ T.sf_A T.fr__and__ (hr.mono (by decide)) (passes_call (takes_of rfl rfl rfl rfl) (fun _ _ _ _ h => h))) (pv 1) (pv 2)) (pe_op (Ow.op_binA ⟨T.fi__xor__, T.fn__xor__, ok_Answer___xor__ T, b_Answer___xor__ T⟩ T.sf_A T.fr__xor__ (hr.mono (by decide)) (passes_call (takes_of rfl rfl rfl rfl) (fun _ _ _ _ h => h))) (pv 1) (pv 2))))))))), ?_⟩
    obtain ⟨ox, vo⟩ := both_vop h
    refine ⟨_, rfl, rfl, _, rfl, ?_⟩
    by_cases c1 : w = "+"
    · refine ite_t (by rw [str_eq_d, decide_eq_true c1]) ?_
      exact ⟨_, rfl, _, rfl, x, rfl, ox, vop_ty T vo (by decide), to_arith (.inl ⟨c1, rfl⟩) h⟩
    refine ite_f (by rw [str_eq_d, decide_eq_false c1]) ?_
    refine ⟨_, rfl, rfl, _, rfl, ?_⟩
    by_cases c2 : w = "-"
    · refine ite_t (by rw [str_eq_d, decide_eq_true c2]) ?_
      exact ⟨_, rfl, _, rfl, x, rfl, ox, vop_ty T vo (by decide), to_arith (.inr ⟨c2, rfl⟩) h⟩
    refine ite_f (by rw [str_eq_d, decide_eq_false c2]) ?_
    refine ⟨_, rfl, rfl, _, rfl, ?_⟩
    by_cases c3 : w = "n"
    · refine ite_t (by rw [str_eq_d, decide_eq_true c3]) ?_
      subst c3
      exact ⟨_, rfl, x, rfl, ox, to_neg h⟩
    refine ite_f (by rw [str_eq_d, decide_eq_false c3]) ?_
    refine ⟨_, rfl, rfl, _, rfl, ?_⟩
    by_cases c4 : w = "|"
    · refine ite_t (by rw [str_eq_d, decide_eq_true c4]) ?_
      exact ⟨_, rfl, _, rfl, x, rfl, ox, vop_ty T vo (by decide), to_set (.inl ⟨c4, rfl⟩) h⟩
    refine ite_f (by rw [str_eq_d, decide_eq_false c4]) ?_
    refine ⟨_, rfl, rfl, _, rfl, ?_⟩
    by_cases c5 : w = "&"
    · refine ite_t (by rw [str_eq_d, decide_eq_true c5]) ?_
      exact ⟨_, rfl, _, rfl, x, rfl, ox, vop_ty T vo (by decide), to_set (.inr (.inl ⟨c5, rfl⟩)) h⟩
    refine ite_f (by rw [str_eq_d, decide_eq_false c5]) ?_
    have c6 : w = "^" := by
      simp only [words, List.mem_cons, List.mem_nil_iff, or_false] at hw
      rcases hw with z | z | z | z | z | z
      · exact absurd z c1
      · exact absurd z c2
      · exact absurd z c3
      · exact absurd z c4
      · exact absurd z c5
      · exact z
    exact ⟨_, rfl, _, rfl, x, rfl, ox, vop_ty T vo (by decide), to_set (.inr (.inr ⟨c6, rfl⟩)) h⟩
end
end K02

set_option Elab.async false
set_option linter.all false
set_option maxRecDepth 100000
set_option maxHeartbeats 4000000
open L2 in
local macro_rules | `(tactic| walk_at "r1") => `(tactic| first
  | refine ⟨_, rfl, ?_⟩
  | refine ⟨_, _, rfl, rfl, ?_⟩)
open L2 in
local macro_rules | `(tactic| walk_at "q1") => `(tactic| first
  | refine ⟨_, rfl, ?_⟩
  | refine ⟨_, _, rfl, rfl, ?_⟩
  | refine And.intro (show CMul _ _ from Or.inr ⟨by decide, by decide⟩) ?_
  | refine And.intro (show CMul _ _ from Or.inl ⟨by first | decide | omega, by first | decide | omega⟩) ?_
  | refine And.intro (show CMul _ _ from Or.inr ⟨by omega, by omega⟩) ?_
  | refine And.intro (show CDiv _ _ from ⟨by omega, by omega⟩) ?_
  | refine And.intro (show Dt.CPowG _ _ from ⟨by decide, by decide +kernel⟩) ?_
  | refine And.intro (by first | decide | omega) ?_
  | refine And.intro (Int.pow_pos (Int.pow_pos (by decide))) ?_
  | refine ⟨_, _, _, _, rfl, rfl, SqL.of (by first | assumption | exact upd_same), (by rfl), ?_⟩
  | refine ⟨_, _, _, _, rfl, rfl, (by first | assumption | exact upd_same), (by rfl), ?_⟩
  | refine Or.inl ⟨_, rfl, ?_⟩
  | refine Or.inr ⟨_, rfl, ?_⟩)
local macro_rules | `(tactic| walk_at "q") => `(tactic| repeat (walk_at "q1"))
local macro_rules | `(tactic| walk_at "eqt") => `(tactic| (refine ⟨_, rfl, ?_⟩; refine ⟨rfl, ?_⟩; first
  | (refine ⟨true, rfl, ?_⟩; refine L2.iteT ?_)
  | (refine ⟨false, rfl, ?_⟩; refine L2.iteF ?_)))
local macro_rules | `(tactic| walk_at "sz") => `(tactic| (rw [PySem.sizeLine_eq]; simp))
namespace K02
open PySem PySem.Spec PyProof.Rows L2 Dt An Rp
section
variable {P : Program} {w : World} {K : PySem.W.Frag} {mg : Str → Option Value} {base : Heap} {a : Ads}
theorem good_imp {C : Addr} {H : Hp} {Q Q' : VK} {w : Str} {x : Addr} {v : V} (h : GoodD C H Q w x v) (e : ∀ p H', Q (.ref p) H' → Q' (.ref p) H') : GoodD C H Q' w x v := by
  obtain ⟨f, L, y, M, h1, h2, h3, h4, h5, h6, h7, h8, k⟩ := h
  exact ⟨f, L, y, M, h1, h2, h3, h4, h5, h6, h7, h8, fun z R H' n => e z H' (k z R H' n)⟩
def spAtOnce (C : Addr) : Sp := fun vs H Q _ => ∃ w x y, vs = [.str w, .ref x, .ref y] ∧ w ∈ words ∧ Ow.Own H C y ∧ GoodD C H Q w x (.ref y)
theorem ok_done_at_once (T : Txt K mg a) : FnOk P w K mg base CX0 8 a.done_at_once a.fd_done_at_once ps__law_done_at_once (spAtOnce a.c_Answer) := by
  have F := T.F_done_at_once
  refine F.ok (k := 7) sc__law_done_at_once (fun vs H Q E h => ?_) (fun cdv A outer s H vs Q E hr h => ?_)
  · obtain ⟨w, x, y, rfl, hw, oy, h⟩ := h
    rfl
  · obtain ⟨w, x, y, rfl, hw, oy, h⟩ := h
    have hu := hu_of hr
    refine ⟨_, (pss_cons (ps_set (i := 3) sc__law_done_at_once.nd rfl (Or.inl rfl) (pv 1))
      (pss_cons (ps_if (pt_cmpR op_eq (pv 0) pe_str (nomark _)) (pss_one (ps_aug (i := 3) sc__law_done_at_once.nd rfl (Or.inl rfl) (pv 2) (Ow.ip_own ⟨T.fi__add__, T.fn__add__, ok_Answer___add__ T, b_Answer___add__ T⟩ T.m2_A T.ni__add__ (by decide +kernel) (hr.mono (by decide)) never))) pss_nil)
      (pss_cons (ps_if (pt_cmpR op_eq (pv 0) pe_str (nomark _)) (pss_one (ps_aug (i := 3) sc__law_done_at_once.nd rfl (Or.inl rfl) (pv 2) (Ow.ip_own ⟨T.fi__sub__, T.fn__sub__, ok_Answer___sub__ T, b_Answer___sub__ T⟩ T.m2_A T.ni__sub__ (by decide +kernel) (hr.mono (by decide)) never))) pss_nil)
      (pss_cons (ps_if (pt_cmpR op_eq (pv 0) pe_str (nomark _)) (pss_one (ps_aug (i := 3) sc__law_done_at_once.nd rfl (Or.inl rfl) (pv 2) (Ow.ip_own ⟨T.fi__or__, T.fn__or__, ok_Answer___or__ T, b_Answer___or__ T⟩ T.m2_A T.ni__or__ (by decide +kernel) (hr.mono (by decide)) never))) pss_nil)
      (pss_cons (ps_if (pt_cmpR op_eq (pv 0) pe_str (nomark _)) (pss_one (ps_aug (i := 3) sc__law_done_at_once.nd rfl (Or.inl rfl) (pv 2) (Ow.ip_own ⟨T.fi__and__, T.fn__and__, ok_Answer___and__ T, b_Answer___and__ T⟩ T.m2_A T.ni__and__ (by decide +kernel) (hr.mono (by decide)) never))) pss_nil)
      (pss_cons (ps_if (pt_cmpR op_eq (pv 0) pe_str (nomark _)) (pss_one (ps_aug (i := 3) sc__law_done_at_once.nd rfl (Or.inl rfl) (pv 2) (Ow.ip_own ⟨T.fi__xor__, T.fn__xor__, ok_Answer___xor__ T, b_Answer___xor__ T⟩ T.m2_A T.ni__xor__ (by decide +kernel) (hr.mono (by decide)) never))) pss_nil)
      (pss_one (ps_ret (pe_ifExp (pt_cmpR op_eq (pv 0) pe_str (nomark _)) (pe_un (Ow.un_negO ⟨T.fi__neg__, T.fn__neg__, ok_Answer___neg__ T, b_Answer___neg__ T⟩ (hr.mono (by decide)) never) (pv 3)) (pv 3)))))))))), ?_⟩
    have ox := (good_vop (K := K) h).1
    refine ⟨_, rfl, ?_⟩
    refine ⟨_, rfl, rfl, _, rfl, ?_⟩
    by_cases c1 : w = "+"
    · refine ite_t (by rw [str_eq_d, decide_eq_true c1]) ?_
      refine ⟨_, rfl, _, rfl, x, y, rfl, rfl, ox, oy, ?_⟩
      refine to_arith (E := fun _ _ _ => False) (CO := a.c_InvalidOperation) (.inl ⟨c1, rfl⟩) (.inl (good_imp h fun p H' q => ?_))
      refine ⟨_, rfl, rfl, _, rfl, ?_⟩
      refine ite_f (by rw [str_eq_d, c1]; decide +kernel) ?_
      refine ⟨_, rfl, rfl, _, rfl, ?_⟩
      refine ite_f (by rw [str_eq_d, c1]; decide +kernel) ?_
      refine ⟨_, rfl, rfl, _, rfl, ?_⟩
      refine ite_f (by rw [str_eq_d, c1]; decide +kernel) ?_
      refine ⟨_, rfl, rfl, _, rfl, ?_⟩
      refine ite_f (by rw [str_eq_d, c1]; decide +kernel) ?_
      refine ⟨_, rfl, rfl, _, rfl, ?_⟩
      refine ite_f (by rw [str_eq_d, c1]; decide +kernel) ?_
      exact ⟨_, rfl, q⟩
    refine ite_f (by rw [str_eq_d, decide_eq_false c1]) ?_
    refine ⟨_, rfl, rfl, _, rfl, ?_⟩
    by_cases c2 : w = "-"
    · refine ite_t (by rw [str_eq_d, decide_eq_true c2]) ?_
      refine ⟨_, rfl, _, rfl, x, y, rfl, rfl, ox, oy, ?_⟩
      refine to_arith (E := fun _ _ _ => False) (CO := a.c_InvalidOperation) (.inr ⟨c2, rfl⟩) (.inl (good_imp h fun p H' q => ?_))
      refine ⟨_, rfl, rfl, _, rfl, ?_⟩
      refine ite_f (by rw [str_eq_d, c2]; decide +kernel) ?_
      refine ⟨_, rfl, rfl, _, rfl, ?_⟩
      refine ite_f (by rw [str_eq_d, c2]; decide +kernel) ?_
      refine ⟨_, rfl, rfl, _, rfl, ?_⟩
      refine ite_f (by rw [str_eq_d, c2]; decide +kernel) ?_
      refine ⟨_, rfl, rfl, _, rfl, ?_⟩
      refine ite_f (by rw [str_eq_d, c2]; decide +kernel) ?_
      exact ⟨_, rfl, q⟩
    refine ite_f (by rw [str_eq_d, decide_eq_false c2]) ?_
    refine ⟨_, rfl, rfl, _, rfl, ?_⟩
    by_cases c3 : w = "|"
    · refine ite_t (by rw [str_eq_d, decide_eq_true c3]) ?_
      refine ⟨_, rfl, _, rfl, x, y, rfl, rfl, ox, oy, ?_⟩
      refine to_set (E := fun _ _ _ => False) (CO := a.c_InvalidOperation) (.inl ⟨c3, rfl⟩) (.inl (good_imp h fun p H' q => ?_))
      refine ⟨_, rfl, rfl, _, rfl, ?_⟩
      refine ite_f (by rw [str_eq_d, c3]; decide +kernel) ?_
      refine ⟨_, rfl, rfl, _, rfl, ?_⟩
      refine ite_f (by rw [str_eq_d, c3]; decide +kernel) ?_
      refine ⟨_, rfl, rfl, _, rfl, ?_⟩
      refine ite_f (by rw [str_eq_d, c3]; decide +kernel) ?_
      exact ⟨_, rfl, q⟩
    refine ite_f (by rw [str_eq_d, decide_eq_false c3]) ?_
    refine ⟨_, rfl, rfl, _, rfl, ?_⟩
    by_cases c4 : w = "&"
    · refine ite_t (by rw [str_eq_d, decide_eq_true c4]) ?_
      refine ⟨_, rfl, _, rfl, x, y, rfl, rfl, ox, oy, ?_⟩
      refine to_set (E := fun _ _ _ => False) (CO := a.c_InvalidOperation) (.inr (.inl ⟨c4, rfl⟩)) (.inl (good_imp h fun p H' q => ?_))
      refine ⟨_, rfl, rfl, _, rfl, ?_⟩
      refine ite_f (by rw [str_eq_d, c4]; decide +kernel) ?_
      refine ⟨_, rfl, rfl, _, rfl, ?_⟩
      refine ite_f (by rw [str_eq_d, c4]; decide +kernel) ?_
      exact ⟨_, rfl, q⟩
    refine ite_f (by rw [str_eq_d, decide_eq_false c4]) ?_
    refine ⟨_, rfl, rfl, _, rfl, ?_⟩
    by_cases c5 : w = "^"
    · refine ite_t (by rw [str_eq_d, decide_eq_true c5]) ?_
      refine ⟨_, rfl, _, rfl, x, y, rfl, rfl, ox, oy, ?_⟩
      refine to_set (E := fun _ _ _ => False) (CO := a.c_InvalidOperation) (.inr (.inr ⟨c5, rfl⟩)) (.inl (good_imp h fun p H' q => ?_))
      refine ⟨_, rfl, rfl, _, rfl, ?_⟩
      refine ite_f (by rw [str_eq_d, c5]; decide +kernel) ?_
      exact ⟨_, rfl, q⟩
    refine ite_f (by rw [str_eq_d, decide_eq_false c5]) ?_
    refine ⟨_, rfl, rfl, _, rfl, ?_⟩
    have c6 : w = "n" := by
      simp only [words, List.mem_cons, List.mem_nil_iff, or_false] at hw
      rcases hw with z | z | z | z | z | z
      · exact absurd z c1
      · exact absurd z c2
      · exact z
      · exact absurd z c3
      · exact absurd z c4
      · exact absurd z c5
    subst c6
    refine ite_t (by rw [str_eq_d, decide_eq_true rfl]) ?_
    exact ⟨_, rfl, x, rfl, ox, to_neg (K := K) (v := .ref y) (.inl h)⟩
end
end K02

set_option Elab.async false
set_option linter.all false
set_option maxRecDepth 100000
set_option maxHeartbeats 4000000
open L2 in
local macro_rules | `(tactic| walk_at "r1") => `(tactic| first
  | refine ⟨_, rfl, ?_⟩
  | refine ⟨_, _, rfl, rfl, ?_⟩)
open L2 in
local macro_rules | `(tactic| walk_at "q1") => `(tactic| first
  | refine ⟨_, rfl, ?_⟩
  | refine ⟨_, _, rfl, rfl, ?_⟩
  | refine And.intro (show CMul _ _ from Or.inr ⟨by decide, by decide⟩) ?_
  | refine And.intro (show CMul _ _ from Or.inl ⟨by first | decide | omega, by first | decide | omega⟩) ?_
  | refine And.intro (show CMul _ _ from Or.inr ⟨by omega, by omega⟩) ?_
  | refine And.intro (show CDiv _ _ from ⟨by omega, by omega⟩) ?_
  | refine And.intro (show Dt.CPowG _ _ from ⟨by decide, by decide +kernel⟩) ?_
  | refine And.intro (by first | decide | omega) ?_
  | refine And.intro (Int.pow_pos (Int.pow_pos (by decide))) ?_
  | refine ⟨_, _, _, _, rfl, rfl, SqL.of (by first | assumption | exact upd_same), (by rfl), ?_⟩
  | refine ⟨_, _, _, _, rfl, rfl, (by first | assumption | exact upd_same), (by rfl), ?_⟩
  | refine Or.inl ⟨_, rfl, ?_⟩
  | refine Or.inr ⟨_, rfl, ?_⟩)
local macro_rules | `(tactic| walk_at "q") => `(tactic| repeat (walk_at "q1"))
local macro_rules | `(tactic| walk_at "eqt") => `(tactic| (refine ⟨_, rfl, ?_⟩; refine ⟨rfl, ?_⟩; first
  | (refine ⟨true, rfl, ?_⟩; refine L2.iteT ?_)
  | (refine ⟨false, rfl, ?_⟩; refine L2.iteF ?_)))
local macro_rules | `(tactic| walk_at "sz") => `(tactic| (rw [PySem.sizeLine_eq]; simp))
namespace K02
open PySem PySem.Spec PyProof.Rows L2 Dt An Rp
section
variable {P : Program} {w : World} {K : PySem.W.Frag} {mg : Str → Option Value} {base : Heap} {a : Ads}
theorem perm_uniq {α : Type} {R : α → α → Prop} : ∀ {l m : List α}, l.Perm m → l.Pairwise R → m.Pairwise R → (∀ a ∈ l, ∀ b ∈ l, R a b → R b a → a = b) → l = m
  | [], m, p, _, _, _ => (List.nil_perm.mp p).symm
  | a :: l, [], p, _, _, _ => absurd (List.perm_nil.mp p) (by simp)
  | a :: l, b :: m, p, hl, hm, as => by
    have e : a = b := by
      rcases List.mem_cons.mp (p.mem_iff.mp (List.mem_cons_self (a := a) (l := l))) with z | z
      · exact z
      · rcases List.mem_cons.mp (p.mem_iff.mpr (List.mem_cons_self (a := b) (l := m))) with y | y
        · exact y.symm
        · exact as a List.mem_cons_self b (List.mem_cons_of_mem _ y) ((List.pairwise_cons.mp hl).1 b y) ((List.pairwise_cons.mp hm).1 a z)
    subst e
    rw [perm_uniq (List.perm_cons a |>.mp p) (List.pairwise_cons.mp hl).2 (List.pairwise_cons.mp hm).2 fun x hx y hy => as x (List.mem_cons_of_mem _ hx) y (List.mem_cons_of_mem _ hy)]
theorem nd_inj {L : Nums} (nd : (L.map (·.1)).Nodup) {p q : List Int × Int} (hp : p ∈ L) (hq : q ∈ L) (e : p.1 = q.1) : p = q := by
  have h1 := val_kvsN nd hp
  have h2 := val_kvsN nd hq
  rw [e, h2] at h1
  exact Prod.ext e (V.int.inj (Option.some.inj h1)).symm
theorem sort_uniq {L A B : Nums} (nd : (L.map (·.1)).Nodup) (ha : SortOf L A) (hb : SortOf L B) : A = B := by
  refine perm_uniq (R := fun a b => Dh.kLt (keyN b.1) (keyN a.1) = false) (ha.1.trans hb.1.symm) (List.pairwise_map.mp ha.2) (List.pairwise_map.mp hb.2) fun a ha' b hb' h1 h2 => ?_
  exact nd_inj nd (ha.1.mem_iff.mp ha') (ha.1.mem_iff.mp hb') (keyN_inj (Dh.kLt_total h2 h1))
structure Sm (c e : Nat) (d : PyData) : Prop where
  sh : d.showable = true
  dp : d.depth ≤ e
  lf : d.leavesShort 100 = true
  wt : d.weight ≤ c
  nd : d.hasDict = false
theorem Sm.mono {c e c' e' : Nat} {d : PyData} (h : Sm c e d) (hc : c ≤ c') (he : e ≤ e') : Sm c' e' d := ⟨h.sh, Nat.le_trans h.dp he, h.lf, Nat.le_trans h.wt hc, h.nd⟩
theorem sm_all {c e : Nat} : ∀ ds : List PyData, (∀ d ∈ ds, Sm c e d) → PyData.showableAll ds = true ∧ PyData.depthAll ds ≤ e ∧ PyData.leavesShortAll 100 ds = true ∧ PyData.weightAll ds ≤ ds.length * (c + 1) ∧ PyData.hasDictAll ds = false
  | [], _ => ⟨rfl, Nat.zero_le _, rfl, Nat.zero_le _, rfl⟩
  | d :: r, h => by
    obtain ⟨h1, h2, h3, h4, h5⟩ := sm_all r fun x hx => h x (List.mem_cons_of_mem _ hx)
    have q := h d List.mem_cons_self
    refine ⟨?_, ?_, ?_, ?_, ?_⟩
    · unfold PyData.showableAll
      rw [q.sh, h1]
      rfl
    · unfold PyData.depthAll
      exact Nat.max_le.mpr ⟨q.dp, h2⟩
    · unfold PyData.leavesShortAll
      rw [q.lf, h3]
      rfl
    · unfold PyData.weightAll
      have := q.wt
      rw [List.length_cons, Nat.succ_mul]
      omega
    · unfold PyData.hasDictAll
      rw [q.nd, h5]
      rfl
theorem sm_tup {c e n : Nat} {ds : List PyData} (h : ∀ d ∈ ds, Sm c e d) (hn : ds.length ≤ n) : Sm (n * (c + 1)) (e + 1) (.tuple ds) := by
  obtain ⟨h1, h2, h3, h4, h5⟩ := sm_all ds h
  exact ⟨h1, Nat.succ_le_succ h2, h3, Nat.le_trans h4 (Nat.mul_le_mul_right _ hn), h5⟩
theorem sm_fits {c e : Nat} {d : PyData} (h : Sm c e d) (he : e ≤ 60) (hc : c ≤ 150000) : Fits d := by
  refine ⟨h.sh, Nat.le_trans h.dp he, 100, by decide, h.lf, ?_⟩
  have := h.wt
  rw [sizeLine_eq]
  omega
theorem flA_pairs (f : Str) (n h : Addr) : (flA f n h).lookup ("pairs" : Str) = none := by
  rw [flA_eq]
  rfl
def hitE (ls : List (List Key × V)) (e : List Key × V) : Bool := match valV ls e.1 with
  | none => false
  | some y => eqV e.2 y
theorem hits_all (ls : List (List Key × V)) : ∀ ks, Dh.hitsB ls ks = ks.all (hitE ls)
  | [] => rfl
  | (k, v) :: r => by
    rw [List.all_cons, ← hits_all ls r]
    show (match valV ls k with | none => false | some y => eqV v y && Dh.hitsB ls r) = ((match valV ls k with | none => false | some y => eqV v y) && Dh.hitsB ls r)
    cases valV ls k with
    | none => rfl
    | some y => rfl
theorem eqN_refl {L : Nums} (nd : (L.map (·.1)).Nodup) : eqN L L = true := by
  unfold eqN Dh.eqT
  rw [hits_all, Bool.and_eq_true]
  refine ⟨beq_self_eq_true _, List.all_eq_true.mpr fun x hx => ?_⟩
  obtain ⟨p, hp, rfl⟩ := List.mem_map.mp hx
  unfold hitE
  rw [val_kvsN nd hp]
  exact decide_eq_true rfl
theorem notFirst_own {C : Addr} : PySem.W.notFirst K C (.ref C) = true := by
  unfold PySem.W.notFirst
  rw [beq_self_eq_true]
  rfl
theorem sm_big {i : Int} (h1 : -(10 ^ 82) < i) (h2 : i < 10 ^ 82) : Sm 273 0 (.int i) := by
  have hn : i.natAbs < 10 ^ 82 := by omega
  have hp : (10 : Nat) ^ 82 < 2 ^ 200 * 2 ^ 73 := by decide
  have hl : i.natAbs.log2 < 273 := by
    rcases Nat.eq_zero_or_pos i.natAbs with z | z
    · rw [z]
      decide
    · exact (Nat.log2_lt (by omega)).mpr (by rw [show 273 = 200 + 73 from rfl, Nat.pow_add]; omega)
  refine ⟨decide_eq_true (by omega), Nat.le_refl _, decide_eq_true ?_, ?_, rfl⟩
  · show (Str.ofString (toString i)).length ≤ 100
    rw [PySem.ofString_length]
    have := int_text_length_le10 (k := 82) (by decide) hn
    omega
  · show (if i == 0 then 0 else i.natAbs.log2 + 1) ≤ 273
    split <;> omega
theorem five_sm : ∀ n ∈ five, Sm 197 0 (.int n) := by
  have q : ∀ n ∈ five, (PyData.int n).showable = true ∧ (PyData.int n).depth ≤ 0 ∧ (PyData.int n).leavesShort 100 = true ∧ (PyData.int n).weight ≤ 197 ∧ (PyData.int n).hasDict = false := by decide +kernel
  exact fun n hn => let ⟨a, b, c, d, e⟩ := q n hn; ⟨a, b, c, d, e⟩
theorem sm_pairsW {w : Nat} {Ls : Nums} (hd : HdW w Ls) (hw : w ≤ 3) (hv : ∀ q ∈ Ls, -(10 ^ 82) < q.2 ∧ q.2 < 10 ^ 82) (hl : Ls.length ≤ 125) : Sm (125 * (2 * (3 * 198 + 1) + 1)) 3 (pairsD Ls) := by
  refine sm_tup (c := 2 * (3 * 198 + 1)) (e := 2) (fun d hm => ?_) (by rw [List.length_map]; exact hl)
  obtain ⟨q, hq, rfl⟩ := List.mem_map.mp hm
  refine sm_tup (c := 3 * 198) (e := 1) (fun d hd2 => ?_) (Nat.le_refl 2)
  simp only [List.mem_cons, List.mem_nil_iff, or_false] at hd2
  rcases hd2 with rfl | rfl
  · refine sm_tup (c := 197) (e := 0) (fun d hd3 => ?_) (by rw [List.length_map, (hd q hq).1]; exact hw)
    obtain ⟨n, hn, rfl⟩ := List.mem_map.mp hd3
    exact five_sm n ((hd q hq).2 n hn)
  · exact (sm_big (hv q hq).1 (hv q hq).2).mono (by decide) (by decide)
/-- numbers that stay small enough to be shown -/
structure Tame (w : Nat) (L : Nums) : Prop where
  wid : w ≤ 3
  hd : HdW w L
  val : ∀ q ∈ L, -(10 ^ 82) < q.2 ∧ q.2 < 10 ^ 82
def spIs2 (C : Addr) : Sp := fun vs H Q _ => ∃ x f p L Ls w g, vs = [.ref x, .str f, .ref p] ∧ AnsAt C H x f Ls ∧ OkN f Ls ∧ SortN Ls ∧ IsF Ls g ∧ H p = some (.dT (kvsN L)) ∧ OkN f L ∧ IsF L g ∧ Tame w L ∧ ∀ H', Same H H' → Q (.bl true) H'
theorem ok_is (T : Txt K mg a) : Rp.FnG P w K mg base CX0 7 a.is a.fd_is ps__law_is (spIs2 a.c_Answer) := by
  have F := T.F_is
  refine Rp.okG (k := 6) F sc__law_is (fun vs H Q E h => ?_) (fun cdv A outer s H vs Q E hr hg h => ?_)
  · obtain ⟨x, f, p, L, Ls, w, g, rfl, hA, oLs, srtN, iLs, hp, oL, iL, tm, k⟩ := h
    rfl
  · obtain ⟨x, f, p, L, Ls, w, g, rfl, hA, oLs, srtN, iLs, hp, oL, iL, tm, k⟩ := h
    have hu := hu_of hr
    refine ⟨_, (pss_cons (ps_set (i := 3) sc__law_is.nd rfl (Or.inl rfl) (pe_callTy call_tuple_of (by rfl) T.tuple (by decide +kernel) (pa_cons (pe_lc (own := [("_law_head", 4)]) rfl sc__law_is.nd (pi_list (pe_callB (Dh.cr_sortD rfl) (by rfl) T.sorted (by decide +kernel) (pa_cons (pv 2) pa_nil))) (blkOk_by (N := nm__law_is) (sc := defScope s__law_is) (by decide +kernel)) (fun _ _ _ _ _ => (pg_name (i := 4) sc__law_is.nd rfl (Or.inl rfl))) (fun _ _ _ _ _ => pts_nil) (fun _ _ _ _ _ => (pe_tup (pa_cons (pv 4) (pa_cons (pe_dget hu (pv 2) (pv 4) (fun _ _ => rfl)) pa_nil))))) pa_nil)))
      (pss_one (ps_ret (pe_and (pe_cmpR op_eq (pe_prop (pv 0) T.cl_Answer T.p_form (ok_Answer_form T) (hr.mono (by decide)) (b_Answer_form T) .nil pass0 rfl) (pv 1) (nomark _)) (pe_and (pe_cmpR op_eq (pe_callB (Rp.call_repr hg hr.units) (by rfl) T.repr (by decide +kernel) (pa_cons (pe_meth0 (pv 0) T.cl_Answer T.m_pairs (ok_Answer_pairs T) (hr.mono (by decide)) (b_Answer_pairs T) .nil pass0) pa_nil)) (pe_callB (Rp.call_repr hg hr.units) (by rfl) T.repr (by decide +kernel) (pa_cons (pv 3) pa_nil)) (nomark _)) (pe_one (pe_cmpR (Ow.op_eqO ⟨T.fi__eq__, T.fn__eq__, ok_Answer___eq__ T, b_Answer___eq__ T⟩ (hr.mono (by decide)) pass0) (pv 0) (pe_make T.mk_Answer (ok_Answer___init__ T) (hr.mono (by decide)) (by rfl) T.g_c_Answer (b_Answer___init__ T) .nil never (pa_cons (pv 1) (pa_cons (pv 2) pa_nil))) (nomark _)))))))), ?_⟩
    have nd := oL.nd
    have pl : Ls.Perm L := iLs.perm iL
    have hs : SortOf L Ls := ⟨pl, srtN⟩
    have l125 : L.length ≤ 125 := tm.hd.len nd tm.wid
    have lls : Ls.length ≤ 125 := by rw [pl.length_eq]; exact l125
    have fits : Fits (pairsD Ls) := sm_fits (sm_pairsW (w := w) (fun q hq => tm.hd q (pl.mem_iff.mp hq)) tm.wid (fun q hq => tm.val q (pl.mem_iff.mp hq)) lls) (by decide) (by decide)
    refine ⟨_, rfl, p, kvsN L, fun _ => false, rfl, .inl hp, (fun q hq => shaped_n hq), (fun h2 q hq => by
      rw [len_kvsN] at h2
      obtain ⟨r, hr2, rfl⟩ := List.mem_map.mp hq
      exact fun z => oL.wide h2 r hr2 (List.map_eq_nil_iff.mp z)), fun Lx q pm tups srt nq => ?_⟩
    obtain ⟨Lt, pl2, el⟩ := Dh.perm_back pm.symm L (map_kvsN L).symm
    have srt2 : SortOf L Lt := ⟨pl2, by
      rw [List.pairwise_map]
      have s2 : (Lx.map (·.2)).Pairwise fun r q => Dh.kLt q r = false := by
        rw [List.pairwise_map]
        exact srt
      rw [← el, List.pairwise_map] at s2
      exact s2⟩
    obtain rfl : Lt = Ls := sort_uniq nd srt2 hs
    generalize EH1 : upd H q _ = H1
    have e1 := (congrFun EH1 q).symm.trans upd_same
    have S1 : Same H H1 := by rw [← EH1]; exact sameNew nq
    have hp1 := S1 _ _ hp
    have llx : Lx.length = Lt.length := by
      have := congrArg List.length el
      rw [List.length_map, List.length_map] at this
      exact this.symm
    have keyAt : ∀ i (hi : i < Lt.length) (hj : i < Lx.length), H1 Lx[i].1 = some (.tup ((keyN Lt[i].1).map kV)) := fun i hi hj => by
      have q1 : (Lt.map fun p => keyN p.1)[i]? = (Lx.map (·.2))[i]? := by rw [el]
      rw [List.getElem?_map, List.getElem?_map, List.getElem?_eq_getElem hi, List.getElem?_eq_getElem hj] at q1
      have q2 : keyN Lt[i].1 = Lx[i].2 := Option.some.inj q1
      rw [q2]
      exact S1 _ _ (tups _ (List.getElem_mem hj))
    refine ⟨q, rfl, ⟨_, .inl (.inl e1)⟩, fun D hD => ?_⟩
    refine lc_it (walk_list (K := K) (a := q) (xs := Lx.map fun z => V.ref z.1)) (fun i Hi => ∃ ts : List Addr, ts.length = i ∧ Hi D = some (.lst (ts.map V.ref)) ∧ Same H1 Hi ∧ Paired (PairT Hi) ts (Lt.take i)) ⟨[], rfl, upd_same, sameNew hD, .nil⟩ ?_ ?_ ?_
    · rintro i Hi hi ⟨ts, _, _, kp, _⟩
      exact .inl (.inl (kp _ _ e1))
    · rintro i y Hi Hj hi ⟨ts, ht, hDi, kp, hpr⟩ ⟨rfl, hy⟩
      rw [List.length_map] at hi
      rw [List.getElem?_map, List.getElem?_eq_getElem hi] at hy
      cases hy
      have hl2 : i < Lt.length := by omega
      have hq := keyAt i hl2 hi
      have hq1 := kp _ _ hq
      refine ⟨rfl, ?_⟩
      dsimp only [tYes]
      rw [if_pos rfl]
      refine ⟨_, rfl, _, rfl, _, rfl, p, _, rfl, .inr ⟨kvsN L, keyN Lt[i].1, Lx[i].1, .inl (kp _ _ hp1), rfl, hq1, (val_kvsN nd ((pl.mem_iff).mp (List.getElem_mem hl2))).symm⟩, (by show 2 ≤ sizeLine; decide), fun t ht0 => ?_⟩
      refine ⟨ts.map V.ref, ?_, ?_, ts ++ [t], ?_, ?_, fun b o e => ?_, ?_⟩
      · rw [upd_ne (ne_of_none hDi ht0)]
        exact hDi
      · rw [List.length_map, ht, sizeLine_eq]
        omega
      · rw [List.length_append, ht]
        rfl
      · rw [List.map_append]
        exact upd_same
      · have e1 := kp _ _ e
        rw [upd_ne (ne_of_none e hD), upd_ne (ne_of_none e1 ht0)]
        exact e1
      · rw [List.take_add_one, List.getElem?_eq_getElem hl2]
        have nDt : D ≠ t := ne_of_none hDi ht0
        refine paired_snoc ⟨Lx[i].1, ?_, ?_⟩ (Paired.mapP hpr fun t' p' ⟨q', e1, e2⟩ => ⟨q', ?_, ?_⟩)
        · rw [upd_ne (ne_of e1 hDi (fun z => nomatch z)), upd_ne (ne_of_none e1 ht0)]
          exact e1
        · rw [upd_ne (ne_of e2 hDi (fun z => nomatch z)), upd_ne (ne_of_none e2 ht0)]
          exact e2
        · rw [upd_ne (Ne.symm nDt)]
          exact upd_same
        · rw [upd_ne (ne_of_none hq hD), upd_ne (ne_of_none hq1 ht0)]
          exact hq1
    rintro H5 ⟨ts, ht, eD, S5, hpr⟩
    rw [List.length_map, llx, List.take_length] at hpr
    refine ⟨D, _, rfl, .inl ⟨.inl (.inl eD), ?_⟩⟩
    intro pw nw
    generalize EH6 : upd H5 pw _ = H6
    have ew := (congrFun EH6 pw).symm.trans upd_same
    have S6 : Same H5 H6 := by rw [← EH6]; exact sameNew nw
    have S06 : Same H H6 := (S1.trans S5).trans S6
    have dpw : Dat K H6 (.ref pw) (pairsD Lt) := .tup (.inl (.inl ew)) (dat_pairsT (Paired.mapP hpr fun t' p' ⟨q', e1, e2⟩ => ⟨q', S6 _ _ e1, S6 _ _ e2⟩)) (pairs_nodict Lt)
    have A6 := ans_same S06 hA
    obtain ⟨dx, n0, h0, bs0, hx6, _⟩ := id A6
    refine ⟨_, rfl, x, dx, _, rfl, hx6, x, f, Lt, rfl, A6, _, rfl, rfl, _, rfl, ?_⟩
    refine ite_t (by rw [str_eq_d, decide_eq_true rfl]) ?_
    refine ⟨_, rfl, x, dx, _, rfl, hx6, flA_pairs f n0 h0, x, f, Lt, rfl, A6, oLs.nd, oLs.len, fun vp H7 S7 dvp => ?_⟩
    refine ⟨_, pairsD Lt, rfl, dvp, fits, ?_⟩
    refine ⟨_, rfl, _, pairsD Lt, rfl, dat_same S7 dpw, fits, rfl, _, rfl, ?_⟩
    refine ite_t (decide_eq_true rfl) ?_
    refine ⟨_, rfl, ?_⟩
    refine ⟨_, rfl, _, rfl, ?_⟩
    intro z dz hz hdz nez
    have S07 : Same H H7 := S06.trans S7
    have hp7 := S07 _ _ hp
    have n1 : p ≠ z := ne_of_none hp7 hz
    have n2 : p ≠ dz := ne_of_none hp7 hdz
    refine ⟨z, dz, _, _, rfl, upd_same, .inl ⟨f, L, rfl, oL, .inr ⟨p, rfl, n1, by rw [upd_ne n1, upd_ne n2]; exact hp7⟩, fun L8 n8 H8 srt8 at8 _ kp8 => ⟨rfl, ?_⟩⟩⟩
    have e8 : L8 = Lt := sort_uniq nd srt8 hs
    subst e8
    have S08 : Same H H8 := fun b o e => by
      have e2 := S07 b o e
      have b1 : b ≠ z := ne_of_none e2 hz
      exact kp8 b o b1 (by rw [upd_ne b1, upd_ne (ne_of_none e2 hdz)]; exact e2)
    have A8 := ans_same S08 hA
    refine ⟨x, .ref a.c_Answer, rfl, own_ans A8, ans_ty T at8.at, notFirst_own, x, f, L8, _, rfl, A8, .inl ⟨z, f, L8, rfl, at8.at, _, rfl, ?_⟩⟩
    rw [decide_eq_true rfl, eqN_refl oLs.nd]
    exact k H8 S08
end
end K02

set_option Elab.async false
set_option linter.all false
set_option maxRecDepth 100000
set_option maxHeartbeats 4000000
open L2 in
local macro_rules | `(tactic| walk_at "r1") => `(tactic| first
  | refine ⟨_, rfl, ?_⟩
  | refine ⟨_, _, rfl, rfl, ?_⟩)
open L2 in
local macro_rules | `(tactic| walk_at "q1") => `(tactic| first
  | refine ⟨_, rfl, ?_⟩
  | refine ⟨_, _, rfl, rfl, ?_⟩
  | refine And.intro (show CMul _ _ from Or.inr ⟨by decide, by decide⟩) ?_
  | refine And.intro (show CMul _ _ from Or.inl ⟨by first | decide | omega, by first | decide | omega⟩) ?_
  | refine And.intro (show CMul _ _ from Or.inr ⟨by omega, by omega⟩) ?_
  | refine And.intro (show CDiv _ _ from ⟨by omega, by omega⟩) ?_
  | refine And.intro (show Dt.CPowG _ _ from ⟨by decide, by decide +kernel⟩) ?_
  | refine And.intro (by first | decide | omega) ?_
  | refine And.intro (Int.pow_pos (Int.pow_pos (by decide))) ?_
  | refine ⟨_, _, _, _, rfl, rfl, SqL.of (by first | assumption | exact upd_same), (by rfl), ?_⟩
  | refine ⟨_, _, _, _, rfl, rfl, (by first | assumption | exact upd_same), (by rfl), ?_⟩
  | refine Or.inl ⟨_, rfl, ?_⟩
  | refine Or.inr ⟨_, rfl, ?_⟩)
local macro_rules | `(tactic| walk_at "q") => `(tactic| repeat (walk_at "q1"))
local macro_rules | `(tactic| walk_at "eqt") => `(tactic| (refine ⟨_, rfl, ?_⟩; refine ⟨rfl, ?_⟩; first
  | (refine ⟨true, rfl, ?_⟩; refine L2.iteT ?_)
  | (refine ⟨false, rfl, ?_⟩; refine L2.iteF ?_)))
local macro_rules | `(tactic| walk_at "sz") => `(tactic| (rw [PySem.sizeLine_eq]; simp))
namespace K02
open PySem PySem.Spec PyProof.Rows L2 Dt An Rp
section
variable {P : Program} {w : World} {K : PySem.W.Frag} {mg : Str → Option Value} {base : Heap} {a : Ads}
/-- answers of one form in a list -/
def spTog (C : Addr) : Sp := fun vs H Q _ => ∃ f l xs Ls, vs = [.str f, .ref l] ∧ f ∈ forms ∧ H l = some (.lst (xs.map V.ref)) ∧ AllA C H f xs Ls ∧ xs.length ≤ 3 ∧ Ls.flatten.length ≤ 1000 ∧ oneAll Ls = true ∧
  ∀ z R H', NewA C H H' z f R (comb f Ls) → Q (.ref z) H'
theorem AllA.keep {C : Addr} {H H' : Hp} {f : Str} {xs : List Addr} {Ls : List Nums} (h : AllA C H f xs Ls) (S : Same H H') : AllA C H' f xs Ls := Paired.mapP h fun x L e => ⟨ans_same S e.1, e.2⟩
/-- combined, called with answers -/
theorem star_comb {C CI CO : Addr} {H : Hp} {Q : VK} {f : Str} {xs : List Addr} {Ls : List Nums} (hf : f ∈ forms) (hA : AllA C H f xs Ls) (hl : xs.length ≤ 3) (ht : Ls.flatten.length ≤ 1000) (one : oneAll Ls = true) (k : ∀ z R H', NewA C H H' z f R (comb f Ls) → Q (.ref z) H') :
    Sf.star 1 (spComb K C CI CO) (V.str f :: xs.map V.ref) H Q (fun _ _ _ => False) := by
  refine ⟨[.str f], xs.map V.ref, rfl, rfl, ?_, fun p hp => ?_⟩
  · rw [List.length_map, sizeLine_eq]
    omega
  have S1 : Same H (upd H p (.tup (xs.map V.ref))) := sameNew hp
  refine ⟨.str f, p, xs.map V.ref, rfl, upd_same, by rw [List.length_map]; omega, .inr ⟨f, rfl, hf, .inr ⟨xs, Ls, rfl, hA.keep S1, ht, .inl ⟨one, fun z R H' n => k z R H' (n.after S1)⟩⟩⟩⟩
theorem ok_together (T : Txt K mg a) : FnOk P w K mg base CX0 9 a.together a.fd_together ps__law_together (spTog a.c_Answer) := by
  have F := T.F_together
  refine F.ok (k := 8) sc__law_together (fun vs H Q E h => ?_) (fun cdv A outer s H vs Q E hr h => ?_)
  · obtain ⟨f, l, xs, Ls, rfl, hf, hl, hA, h3, hle, one, k⟩ := h
    rfl
  · obtain ⟨f, l, xs, Ls, rfl, hf, hl, hA, h3, hle, one, k⟩ := h
    have hu := hu_of hr
    refine ⟨_, (pss_cons (ps_if (pt_cmpR (Le.op_eqL hr.units) (pv 1) (pe_lst pa_nil) (nomark _)) (pss_one (ps_ret (Sf.pe_callR (ok_combined T) (hr.mono (by decide)) T.F_combined.kp (by rfl) T.g_combined never (pa_cons (pv 0) pa_nil)))) pss_nil)
      (pss_cons (ps_if (pt_cmpR op_eq (pe_callB call_len (by rfl) T.len (by decide +kernel) (pa_cons (pv 1) pa_nil)) pe_int (nomark _)) (pss_one (ps_ret (Sf.pe_callR (ok_combined T) (hr.mono (by decide)) T.F_combined.kp (by rfl) T.g_combined never (pa_cons (pv 0) (pa_cons (pe_ix ix_list (pv 1) pe_int (fun _ _ => rfl)) pa_nil))))) pss_nil)
      (pss_one (ps_ret (pe_ifExp (pt_cmpR op_eq (pe_callB call_len (by rfl) T.len (by decide +kernel) (pa_cons (pv 1) pa_nil)) pe_int (nomark _)) (Sf.pe_callR (ok_combined T) (hr.mono (by decide)) T.F_combined.kp (by rfl) T.g_combined never (pa_cons (pv 0) (pa_cons (pe_ix ix_list (pv 1) pe_int (fun _ _ => rfl)) (pa_cons (pe_ix ix_list (pv 1) pe_int (fun _ _ => rfl)) pa_nil)))) (Sf.pe_callR (ok_combined T) (hr.mono (by decide)) T.F_combined.kp (by rfl) T.g_combined never (pa_cons (pv 0) (pa_cons (pe_ix ix_list (pv 1) pe_int (fun _ _ => rfl)) (pa_cons (pe_ix ix_list (pv 1) pe_int (fun _ _ => rfl)) (pa_cons (pe_ix ix_list (pv 1) pe_int (fun _ _ => rfl)) pa_nil)))))))))), ?_⟩
    refine ⟨_, rfl, ?_⟩
    refine ⟨(by show 0 ≤ sizeLine; decide), fun p0 n0 => ?_⟩
    generalize EH1 : upd H p0 _ = H1
    have e0 := (congrFun EH1 p0).symm.trans upd_same
    have S1 : Same H H1 := by rw [← EH1]; exact sameNew n0
    have hl1 := S1 _ _ hl
    have hA1 := hA.keep S1
    have k1 : ∀ z R H', NewA a.c_Answer H1 H' z f R (comb f Ls) → Q (.ref z) H' := fun z R H' n => k z R H' (n.after S1)
    have la : LenV K (.ref l) H1 (xs.map V.ref).length := .inl ⟨_, SqL.of hl1, rfl⟩
    have get : ∀ (ys : List Addr) (i : Nat) x, ys[i]? = some x → atI (ys.map V.ref) ((i : Nat) : Int) = some (V.ref x) := fun ys i x e => atI_nat (by rw [List.getElem?_map, e]; rfl)
    have eqn : PyData.eqv (.list []) (.list []) = true := by decide +kernel
    rcases xs with _ | ⟨x, _ | ⟨y, _ | ⟨z, _ | ⟨w, r⟩⟩⟩⟩
    · refine .inl ⟨.list [], .list [], .lst (SqL.of hl1) .nil, .lst (SqL.of e0) .nil, (by decide +kernel), (by decide +kernel), ?_⟩
      refine ⟨_, rfl, ?_⟩
      refine ite_t eqn ?_
      refine ⟨_, rfl, ?_⟩
      exact star_comb hf hA1 (by decide) hle one k1
    · refine .inr ⟨l, p0, _, _, rfl, rfl, hl1, e0, (by simp), ?_⟩
      refine ⟨_, rfl, ?_⟩
      refine iteF ?_
      refine ⟨_, rfl, _, _, rfl, la, rfl, ?_⟩
      refine ⟨_, rfl, ?_⟩
      refine ite_t (decide_eq_true rfl) ?_
      refine ⟨_, rfl, ?_⟩
      refine ⟨_, rfl, l, _, 0, .ref x, rfl, rfl, SqL.of hl1, get _ 0 x rfl, ?_⟩
      exact star_comb hf hA1 (by simp) hle one k1
    · refine .inr ⟨l, p0, _, _, rfl, rfl, hl1, e0, (by simp), ?_⟩
      refine ⟨_, rfl, ?_⟩
      refine iteF ?_
      refine ⟨_, rfl, _, _, rfl, la, rfl, ?_⟩
      refine ⟨_, rfl, ?_⟩
      refine ite_f (decide_eq_false (fun z => by simp at z)) ?_
      refine ⟨_, rfl, _, _, rfl, la, rfl, ?_⟩
      refine ⟨_, rfl, ?_⟩
      refine ite_t (decide_eq_true rfl) ?_
      refine ⟨_, rfl, ?_⟩
      refine ⟨_, rfl, l, _, 0, .ref x, rfl, rfl, SqL.of hl1, get _ 0 x rfl, ?_⟩
      refine ⟨_, rfl, l, _, 1, .ref y, rfl, rfl, SqL.of hl1, get _ 1 y rfl, ?_⟩
      exact star_comb hf hA1 (by simp) hle one k1
    · refine .inr ⟨l, p0, _, _, rfl, rfl, hl1, e0, (by simp), ?_⟩
      refine ⟨_, rfl, ?_⟩
      refine iteF ?_
      refine ⟨_, rfl, _, _, rfl, la, rfl, ?_⟩
      refine ⟨_, rfl, ?_⟩
      refine ite_f (decide_eq_false (fun z => by simp at z)) ?_
      refine ⟨_, rfl, _, _, rfl, la, rfl, ?_⟩
      refine ⟨_, rfl, ?_⟩
      refine ite_f (decide_eq_false (fun z => by simp at z)) ?_
      refine ⟨_, rfl, ?_⟩
      refine ⟨_, rfl, l, _, 0, .ref x, rfl, rfl, SqL.of hl1, get _ 0 x rfl, ?_⟩
      refine ⟨_, rfl, l, _, 1, .ref y, rfl, rfl, SqL.of hl1, get _ 1 y rfl, ?_⟩
      refine ⟨_, rfl, l, _, 2, .ref z, rfl, rfl, SqL.of hl1, get _ 2 z rfl, ?_⟩
      exact star_comb hf hA1 (by simp) hle one k1
    · simp at h3
end
end K02

set_option Elab.async false
set_option linter.all false
set_option maxRecDepth 100000
set_option maxHeartbeats 4000000
open L2 in
local macro_rules | `(tactic| walk_at "r1") => `(tactic| first
  | refine ⟨_, rfl, ?_⟩
  | refine ⟨_, _, rfl, rfl, ?_⟩)
open L2 in
local macro_rules | `(tactic| walk_at "q1") => `(tactic| first
  | refine ⟨_, rfl, ?_⟩
  | refine ⟨_, _, rfl, rfl, ?_⟩
  | refine And.intro (show CMul _ _ from Or.inr ⟨by decide, by decide⟩) ?_
  | refine And.intro (show CMul _ _ from Or.inl ⟨by first | decide | omega, by first | decide | omega⟩) ?_
  | refine And.intro (show CMul _ _ from Or.inr ⟨by omega, by omega⟩) ?_
  | refine And.intro (show CDiv _ _ from ⟨by omega, by omega⟩) ?_
  | refine And.intro (show Dt.CPowG _ _ from ⟨by decide, by decide +kernel⟩) ?_
  | refine And.intro (by first | decide | omega) ?_
  | refine And.intro (Int.pow_pos (Int.pow_pos (by decide))) ?_
  | refine ⟨_, _, _, _, rfl, rfl, SqL.of (by first | assumption | exact upd_same), (by rfl), ?_⟩
  | refine ⟨_, _, _, _, rfl, rfl, (by first | assumption | exact upd_same), (by rfl), ?_⟩
  | refine Or.inl ⟨_, rfl, ?_⟩
  | refine Or.inr ⟨_, rfl, ?_⟩)
local macro_rules | `(tactic| walk_at "q") => `(tactic| repeat (walk_at "q1"))
local macro_rules | `(tactic| walk_at "eqt") => `(tactic| (refine ⟨_, rfl, ?_⟩; refine ⟨rfl, ?_⟩; first
  | (refine ⟨true, rfl, ?_⟩; refine L2.iteT ?_)
  | (refine ⟨false, rfl, ?_⟩; refine L2.iteF ?_)))
local macro_rules | `(tactic| walk_at "sz") => `(tactic| (rw [PySem.sizeLine_eq]; simp))
namespace K02
open PySem PySem.Spec PyProof.Rows L2 Dt An Rp
section
variable {P : Program} {w : World} {K : PySem.W.Frag} {mg : Str → Option Value} {base : Heap} {a : Ads}
/-- what _law_met makes of a call -/
def TMet (CI CO : Addr) : (XK → Hp → VK → Prop) → Hp → VK → Prop := fun tl H Q =>
  tl (fun cls d H' => d = none ∧ ((cls = .ref CI ∧ Q (.str "answer") H') ∨ (cls = .ref CO ∧ Q (.str "operation") H'))) H (fun _ H' => Q (.str "fine") H')
theorem met_gives {a : Ads} (X : Cx) (T : Txt X.K X.mg a) (q : Str) (cdg : Value) : LamX.GivesTo X nm__law_met "_law_met" (defScope s__law_met) a.met cdg (defBody s__law_met) "_law_call" q (TMet a.c_InvalidAnswer a.c_InvalidOperation) := by
  intro f c' s H Q tl act hc h
  refine ⟨_, pss_cons (Exs.ps_try_cl (X := (cxOf C8.CX0 X.prog X.w X.K X.mg X.base nm__law_met "_law_met" (defScope s__law_met) a.met cdg X.A X.stack s H C8.E0).nox) (Wout := fun _ _ _ _ => False)
      (tb := fun W D σ H => ∃ Ech : XK, (∀ cls d σ' H', Ech cls d H' → W cls d σ' H') ∧ σ[0]? = some (some (.ref f)) ∧ H c' = some (LamX.CodeO c' q) ∧ tl Ech H (fun _ H' => D.nx σ H'))
      rfl rfl LamX.takes0 (fun W pn xe tk _ => ?_)
      (.cons (Exs.asks_one (c := .ref a.c_InvalidAnswer) ⟨rfl, by decide, .inl T.g_c_InvalidAnswer⟩) (fun a0 oe cls d0 pn hz hf => pss_one (ps_ret pe_str))
        (.cons (Exs.asks_one (c := .ref a.c_InvalidOperation) ⟨rfl, by decide, .inl T.g_c_InvalidOperation⟩) (fun a0 oe cls d0 pn hz hf => pss_one (ps_ret pe_str)) .nil))) (pss_one (ps_ret pe_str)), ?_⟩
  · refine ⟨fun pins s' σ H' D I h' => ?_⟩
    obtain ⟨Ech, hW, h1, h2, h3⟩ := h'
    exact (pss_one (ps_expr (act W pn xe Ech _ _ tk hW))).run pins s' σ H' D I ⟨h1, h2, h3⟩
  · refine ⟨fun cls d H' => d = none ∧ ((cls = .ref a.c_InvalidAnswer ∧ Q (.str "answer") H') ∨ (cls = .ref a.c_InvalidOperation ∧ Q (.str "operation") H')), ?_, rfl, hc, h⟩
    rintro cls d σ' H' ⟨rfl, ⟨rfl, k⟩ | ⟨rfl, k⟩⟩
    · exact ⟨true, T.em_AA, fun _ ae hae => k, fun z => by cases z⟩
    · exact ⟨false, T.em_OA, (fun z => by cases z), fun _ => ⟨true, T.em_OO, fun _ ae hae => k, fun z => by cases z⟩⟩
def del (H : Hp) (d : Addr) : Hp := fun b => if b = d then none else H b
theorem del_ne {H : Hp} {b d : Addr} (n : b ≠ d) : del H d b = H b := if_neg n
theorem del_at {H : Hp} {b d : Addr} {o : HO} (e : del H d b = some o) : b ≠ d ∧ H b = some o := by
  unfold del at e
  by_cases n : b = d
  · rw [if_pos n] at e
    cases e
  · rw [if_neg n] at e
    exact ⟨n, e⟩
theorem del_sub (H : Hp) (d : Addr) : Same (del H d) H := fun b o e => (del_at e).2
theorem del_roll {H H1 : Hp} {d : Addr} (R : Rolled d H H1) : Same (del H d) (del H1 d) := fun b o e => by
  obtain ⟨n, q⟩ := del_at e
  rw [del_ne n]
  exact R.keep b o n q
theorem del_new {H : Hp} {d p : Addr} {o : HO} (hp : H p = some o) (n : p ≠ d) : del H d p = some o := by
  rw [del_ne n]
  exact hp
def ExtD (d : Addr) (H H' : Hp) : Prop := Die H' d ∧ An.Ext (del H d) (del H' d)
theorem ExtD.refl {d : Addr} {H : Hp} (h : Die H d) : ExtD d H H := ⟨h, An.Ext.refl _⟩
theorem ExtD.trans {d : Addr} {H H1 H2 : Hp} (a : ExtD d H H1) (b : ExtD d H1 H2) : ExtD d H H2 := ⟨b.1, a.2.trans b.2⟩
theorem ExtD.of {d : Addr} {H H1 : Hp} (r : Rolled d H H1) : ExtD d H H1 := ⟨r.die, .of (del_roll r)⟩
theorem ExtD.keep {d : Addr} {H H1 : Hp} (r : ExtD d H H1) {b : Addr} {o : HO} (z : b ≠ d) (n : ∀ ps, o ≠ .tbl ps) (e : H b = some o) : H1 b = some o := by
  have q := r.2 b o (del_new e z) n
  exact (del_at q).2
/-! the table of code objects of the def with lambdas -/
def csOf (a : Ads) : List (Addr × Addr) := [(a.k_wrong, a.t_wrong)]
def TabsB (base : Heap) (mg : Str → Option Value) (a : Ads) : Prop := ∀ p ∈ csOf a, LamX.TabB base mg p.1 p.2
def qA : Str := (envOfC "_law_wrong_right" (defScope s__law_wrong_right) 0 0 .none).qual ++ "<lambda>"
def tabs (a : Ads) : List (Addr × Str) := [(a.t_wrong, qA)]
theorem okGC {x qual : Str} {st : Stmt} {f : Addr} {fd : FuncData} {N ps : List Str} {k : Nat} {sp : Sp} (F : L2.Fun K x qual st f fd) (S : FnScope N ps (defScope st)) (len : ∀ vs H Q E, sp vs H Q E → vs.length = ps.length)
    (hbody : ∀ (cdv : Value) (A : Around) (outer : List Env) (s : Shared) (H : Hp) (vs : List V) (Q : VK) (E : XK), Room k (A.deeper (envOfC qual (defScope st) s.heap.objs.size f cdv)) → A.guards = some [] → cdv = fd.code → sp vs H Q E →
      ∃ t, PSs (L2.cxOf L2.CX0 P w K mg base N qual (defScope st) f cdv A outer s H E).nox (defBody st) t ∧ t { nx := fun _ H' => Q .non H', rt := Q } (L2.start N vs) H) : Rp.FnG P w K mg base L2.CX0 (k + 1) f fd ps sp := by
  obtain ⟨c1, d1, v1, v2, v3, d2, cv, v4, sl, e, lk, hc⟩ := F.ex
  have F2 : L2.Fun K x qual st f fd := F
  subst e
  refine ⟨len, fun A outer s H args us vs Q E hr hg e0 hb r hsp => ?_⟩
  have i1 : K.In s.heap := e0.mod.kin.keeps fun b o z => (e0.bs b o z).1
  have i2 : s.heap.NoLimit := e0.mod.nolimit.keeps fun b o z => (e0.bs b o z).1
  have i3 : ∀ y ∈ ps.zip us, (defScope st).names.lookup y.1 = some .local ∨ ((defScope st).names.lookup y.1 = some .cell ∧ ((cellsFrom (s.heap.objs.size + 1) (defScope st).names []).lookup y.1).isSome = true) := by
    rintro ⟨n, v⟩ hy
    rcases S.par n (List.of_mem_zip hy).1 with q | q
    · exact .inl q
    · exact .inr ⟨q, PySem.W.cellsFrom_some _ _ _ (.inl q)⟩
  refine codeAny_call_function hr.depth (i1 _ _ lk) rfl S.co S.gen rfl (PySem.W.codeRec_of i1 hc) (hb _ _ _ _ ?_)
  refine wpAny_newFunctionEnv_cells S.kind i3 fun env he s1 z => ?_
  subst he
  refine ⟨i2.keeps z.toInCall.keep, codeAny_func ?_⟩
  obtain ⟨t, ht, q⟩ := hbody cv A outer s H vs Q E (hr.deeper _) hg rfl hsp
  have I : Inv (L2.cxOf L2.CX0 P w K mg base N qual (defScope st) f cv A outer s H E) [] (L2.start N vs) H s1 := L2.inv_start S hr.hd e0 (len _ _ _ _ hsp) r z
  refine wpAny_mono (ht.nox.run [] s1 (L2.start N vs) H _ I q) (fun fl s' hs => ?_) fun _ _ hs => hs
  cases fl with
  | next =>
    obtain ⟨σ', H', J, q⟩ := hs
    exact ⟨V.non, H', J.os, J.bare, J.base, J.hok, rfl, q⟩
  | ret u =>
    obtain ⟨v, σ', H', J, rv, q⟩ := hs
    exact ⟨v, H', J.os, J.bare, J.base, J.hok, rv, q⟩
  | brk =>
    obtain ⟨_, _, _, q⟩ := hs
    exact q.elim
  | cont =>
    obtain ⟨_, _, _, q⟩ := hs
    exact q.elim
theorem fnr {CX : L2.CXT} {k : Nat} {f : Addr} {fd : FuncData} {ps : List Str} {sp : Sp} (F : L2.FnOk P w K mg base CX k f fd ps sp) (b : L2.Binds K fd ps []) : L2.FnR P w K mg base CX k f sp := fun A outer s H us vs Q E hr e0 r h => by
  have hk : K.In s.heap := e0.mod.kin.keeps fun b o z => (e0.bs b o z).1
  have hl : (us ++ []).length = ps.length := by
    rw [List.append_nil, ← r.length]
    exact F.len _ _ _ _ h
  have z := b s us hk hl
  rw [List.append_nil] at z
  exact F.run A outer s H ⟨us, []⟩ us vs Q E hr e0 z r h
theorem ans_ext {C : Addr} {H H1 : Hp} {x : Addr} {f : Str} {L : Nums} (k : ∀ b o, (∀ ps, o ≠ .tbl ps) → (∀ ps : List V, o ≠ .lst ps) → H b = some o → H1 b = some o) (h : AnsAt C H x f L) : AnsAt C H1 x f L := by
  obtain ⟨dx, n, hh, bs, h1, h2, h3, h4⟩ := h
  exact ⟨dx, n, hh, bs, k _ _ (fun _ z => nomatch z) (fun _ z => nomatch z) h1, k _ _ (fun _ z => nomatch z) (fun _ z => nomatch z) h2, k _ _ (fun _ z => nomatch z) (fun _ z => nomatch z) h3, keys_keep h4 fun b ys e => k _ _ (fun _ z => nomatch z) (fun _ z => nomatch z) e⟩
theorem ans_extD {C : Addr} {H H1 : Hp} {x d : Addr} {f : Str} {L : Nums} (hD : Die H d) (S : ExtD d H H1) (h : AnsAt C H x f L) : AnsAt C H1 x f L := ans_ext (fun b o n nl e => S.keep (fun z => by
  obtain ⟨u, v, y, q⟩ := hD
  rw [z, q] at e
  exact nl _ (Option.some.inj e).symm) n e) h
theorem ExtD.ofN {d : Addr} {H H1 : Hp} (h : Die H d) (e : LamX.ExtN H H1) : ExtD d H H1 := by
  obtain ⟨x, y, z, q⟩ := h
  refine ⟨⟨x, y, z, e _ _ q (fun _ z => nomatch z)⟩, fun b o eb n => ?_⟩
  obtain ⟨z1, z2⟩ := del_at eb
  exact del_new (e b o z2 n) z1
theorem tabs_roll {d : Addr} {T : List (Addr × Str)} {H H1 : Hp} (hD : Die H d) (r : Rolled d H H1) (t : LamX.Tabs T H) : LamX.Tabs T H1 := fun p hp => by
  obtain ⟨ps, h1, h2, h3⟩ := t p hp
  obtain ⟨x, y, z, q⟩ := hD
  refine ⟨ps, r.keep _ _ (fun w => by rw [w, q] at h1; cases h1) h1, h2, fun pos cv e => ?_⟩
  obtain ⟨c, e1, e2⟩ := h3 pos cv e
  refine ⟨c, e1, r.keep _ _ (fun w => ?_) e2⟩
  rw [w, q] at e2
  unfold LamX.CodeO at e2
  cases e2
theorem tabs_keep {T : List (Addr × Str)} {H H1 : Hp} (k : ∀ b o, (∀ xs, o ≠ .lst xs) → H b = some o → H1 b = some o) (t : LamX.Tabs T H) : LamX.Tabs T H1 := fun p hp => by
  obtain ⟨ps, h1, h2, h3⟩ := t p hp
  refine ⟨ps, k _ _ (fun _ z => nomatch z) h1, h2, fun pos cv e => ?_⟩
  obtain ⟨c, e1, e2⟩ := h3 pos cv e
  exact ⟨c, e1, k _ _ (fun _ z => by unfold LamX.CodeO at z; cases z) e2⟩
/-- a place of many: told later -/
def spWR (a : Ads) : Sp := fun vs H Q _ => ∃ (d x : Addr) (f : Str) (p : Addr) (L Ls : Nums) (w : Nat) (g : List Int → Int), vs = [.ref d, .str f, .ref x, .ref p] ∧ Die H d ∧ LamX.Tabs (tabs a) H ∧ AnsAt a.c_Answer H x f Ls ∧ OkN f Ls ∧ SortN Ls ∧ IsF Ls g ∧ H p = some (.dT (kvsN L)) ∧ OkN f L ∧ IsF L g ∧ Tame w L ∧
  ∀ H', ExtD d H H' → LamX.Tabs (tabs a) H' → Q (.bl true) H'
/-- the words that an answer of the form f refuses -/
def badW (f : Str) : List Str := if f = "distinct" then words.take 3 else words.drop 3
def tBad : TE := fun σ H Q => ∃ pw f, σ[4]? = some (some (V.ref pw)) ∧ σ[1]? = some (some (V.str f)) ∧ H pw = some (.lst (words.map V.str)) ∧ ∀ p, H p = none → Q (.ref p) (upd H p (.lst ((badW f).map V.str)))
theorem bad_ok {K : PySem.W.Frag} {σ : L2.St} {H : Hp} {Q : VK} (h : tBad σ H Q) : (tIf (tTest (tOp rEq (tVar 1) (tC (V.str "distinct")))) (L2.tSl (rSlL K) (tVar 4) tNoPart (tPart (tC (V.int 3)))) (L2.tSl (rSlL K) (tVar 4) (tPart (tC (V.int 3))) tNoPart)) σ H Q := by
  obtain ⟨pw, f, h4, h1, hp, k⟩ := h
  have c1 : cutV (words.map V.str) none (some 3) = (words.take 3).map V.str := by decide +kernel
  have c2 : cutV (words.map V.str) (some 3) none = (words.drop 3).map V.str := by decide +kernel
  refine ⟨_, h1, rfl, _, rfl, ?_⟩
  by_cases c : f = "distinct"
  · refine ite_t (by rw [str_eq_d, decide_eq_true c]) ?_
    refine ⟨_, h4, 3, rfl, pw, _, rfl, SqL.of hp, fun p hp0 => ?_⟩
    rw [c1]
    have := k p hp0
    unfold badW at this
    rwa [if_pos c] at this
  · refine ite_f (by rw [str_eq_d, decide_eq_false c]) ?_
    refine ⟨_, h4, 3, rfl, pw, _, rfl, SqL.of hp, fun p hp0 => ?_⟩
    rw [c2]
    have := k p hp0
    unfold badW at this
    rwa [if_neg c] at this
/-- words that it takes two answers for -/
def goodW (f : Str) : List Str := if f = "distinct" then words.drop 3 else words.take 2
def tGood : TE := fun σ H Q => ∃ f, σ[1]? = some (some (V.str f)) ∧ ∀ p, H p = none → Q (.ref p) (upd H p (.lst ((goodW f).map V.str)))
theorem good_ok {σ : L2.St} {H : Hp} {Q : VK} (h : tGood σ H Q) : (tIf (tTest (tOp rEq (tVar 1) (tC (V.str "distinct")))) (tLst (tCons (tC (V.str "|")) (tCons (tC (V.str "&")) (tCons (tC (V.str "^")) tNil)))) (tLst (tCons (tC (V.str "+")) (tCons (tC (V.str "-")) tNil)))) σ H Q := by
  obtain ⟨f, h1, k⟩ := h
  refine ⟨_, h1, rfl, _, rfl, ?_⟩
  by_cases c : f = "distinct"
  · refine ite_t (by rw [str_eq_d, decide_eq_true c]) ?_
    refine ⟨(by show 3 ≤ sizeLine; decide), fun p hp0 => ?_⟩
    have := k p hp0
    unfold goodW at this
    rwa [if_pos c] at this
  · refine ite_f (by rw [str_eq_d, decide_eq_false c]) ?_
    refine ⟨(by show 2 ≤ sizeLine; decide), fun p hp0 => ?_⟩
    have := k p hp0
    unfold goodW at this
    rwa [if_neg c] at this
theorem bad_len (f : Str) : (badW f).length = 3 := by
  unfold badW
  by_cases c : f = "distinct"
  · rw [if_pos c]; rfl
  · rw [if_neg c]; rfl
theorem good_len (f : Str) : 2 ≤ (goodW f).length ∧ (goodW f).length ≤ 3 := by
  unfold goodW
  by_cases c : f = "distinct"
  · rw [if_pos c]; decide
  · rw [if_neg c]; decide
theorem bad_not {f w : Str} (h : w ∈ badW f) : w ∈ words ∧ ¬ FormW f w := by
  unfold badW at h
  unfold FormW
  by_cases c : f = "distinct"
  · rw [if_pos c] at h ⊢
    have q : ∀ w ∈ words.take 3, w ∈ words ∧ ¬ (w = "|" ∨ w = "&" ∨ w = "^") := by decide +kernel
    exact q w h
  · rw [if_neg c] at h ⊢
    have q : ∀ w ∈ words.drop 3, w ∈ words ∧ ¬ (w = "+" ∨ w = "-" ∨ w = "n") := by decide +kernel
    exact q w h
theorem good_is {f w : Str} (h : w ∈ goodW f) : w ∈ words ∧ FormW f w ∧ w ≠ "n" := by
  unfold goodW at h
  unfold FormW
  by_cases c : f = "distinct"
  · rw [if_pos c] at h ⊢
    have q : ∀ w ∈ words.drop 3, w ∈ words ∧ (w = "|" ∨ w = "&" ∨ w = "^") ∧ w ≠ "n" := by decide +kernel
    exact q w h
  · rw [if_neg c] at h ⊢
    have q : ∀ w ∈ words.take 2, w ∈ words ∧ (w = "+" ∨ w = "-" ∨ w = "n") ∧ w ≠ "n" := by decide +kernel
    exact q w h
theorem two_forms : ∀ f ∈ forms, 0 < (forms.filter fun w => decide (¬ w = f)).length ∧ (forms.filter fun w => decide (¬ w = f)).length < 10 := by decide +kernel
/-- the list of what was told so far: n times the word w -/
structure LtAt (a : Ads) (H0 H : Hp) (lt : Addr) (n : Nat) (w : Str) : Prop where
  new : H0 lt = none
  at_ : H lt = some (.lst (List.replicate n (V.str w)))
  ext : LamX.ExtN H0 H
  tab : LamX.Tabs (tabs a) H
theorem LtAt.more {a : Ads} {H0 H H1 H2 : Hp} {lt : Addr} {n : Nat} {w : Str} (h : LtAt a H0 H lt n w) (e : LamX.ExtN H H1) (T1 : LamX.Tabs (tabs a) H1) (S : Same H1 H2) :
    H2 lt = some (.lst (List.replicate n (V.str w))) ∧ LtAt a H0 (upd H2 lt (.lst (List.replicate n (V.str w) ++ [V.str w]))) lt (n + 1) w := by
  have q := S _ _ (e _ _ h.at_ (fun _ z => nomatch z))
  refine ⟨q, h.new, ?_, fun b o z n => ?_, tabs_keep (fun b o n z => ?_) T1⟩
  · rw [upd_same, List.replicate_succ']
  · rw [upd_ne (ne_of_none z h.new)]
    exact S _ _ (e _ _ (h.ext _ _ z n) n)
  · rw [upd_ne (fun y => by
      rw [y, e _ _ h.at_ (fun _ z => nomatch z)] at z
      exact n _ (Option.some.inj z).symm)]
    exact S _ _ z
theorem ans_form {C : Addr} {H : Hp} {z : Addr} {f g : Str} {L M : Nums} (h1 : AnsAt C H z f L) (h2 : AnsAt C H z g M) : f = g := by
  obtain ⟨d1, n1, k1, b1, e1, _⟩ := h1
  obtain ⟨d2, n2, k2, b2, e2, _⟩ := h2
  rw [e1] at e2
  injection e2 with e3
  injection e3 with _ _ e4
  have := flA_form f n1 k1
  rw [e4, flA_form] at this
  exact (V.str.inj (Option.some.inj this)).symm
theorem dp_rep {K : PySem.W.Frag} {H : Hp} (w : Str) : ∀ n, DpAll K H (List.replicate n (V.str w)) (List.replicate n (PyData.str w))
  | 0 => .nil
  | n + 1 => .cons (.str w) (dp_rep w n)
theorem ko_ty (T : Txt K mg a) {U : String} (hU : U ∈ tys) : PySem.W.kitOne K (.type U) (.ref a.c_Answer) = some false := by
  simp only [tys, List.mem_cons, List.mem_nil_iff, or_false] at hU
  rcases hU with h | h | h | h | h | h | h <;> subst h
  · exact T.ko_NoneType
  · exact T.ko_int
  · exact T.ko_bool
  · exact T.ko_dict
  · exact T.ko_tuple
  · exact T.ko_list
  · exact T.ko_str
theorem LtAt.last {a : Ads} {H0 H H1 H2 : Hp} {lt : Addr} {n : Nat} {w : Str} (h : LtAt a H0 H lt n w) (e : LamX.ExtN H H1) (T1 : LamX.Tabs (tabs a) H1) (S : Same H1 H2) (v : V) :
    H2 lt = some (.lst (List.replicate n (V.str w))) ∧ LamX.ExtN H0 (upd H2 lt (.lst (List.replicate n (V.str w) ++ [v]))) ∧ LamX.Tabs (tabs a) (upd H2 lt (.lst (List.replicate n (V.str w) ++ [v]))) := by
  have q := S _ _ (e _ _ h.at_ (fun _ z => nomatch z))
  refine ⟨q, fun b o z n => ?_, tabs_keep (fun b o n z => ?_) T1⟩
  · rw [upd_ne (ne_of_none z h.new)]
    exact S _ _ (e _ _ (h.ext _ _ z n) n)
  · rw [upd_ne (fun y => by
      rw [y, e _ _ h.at_ (fun _ z => nomatch z)] at z
      exact n _ (Option.some.inj z).symm)]
    exact S _ _ z
/-- the word for a call that is right, or not -/
def told (b : Bool) : Str := if b = true then "fine" else "operation"
theorem met_tl {CI CO : Addr} {tl : XK → Hp → VK → Prop} {H : Hp} {Q : VK} {b : Bool} (h : ∀ (E : XK) (Q' : VK), (∀ z H', Same H H' → b = true → Q' z H') → (∀ H', Same H H' → b = false → E (.ref CO) none H') → tl E H Q') (k : ∀ H', Same H H' → Q (.str (told b)) H') : TMet CI CO tl H Q := by
  refine h _ _ (fun z H' S e => ?_) (fun H' S e => ⟨rfl, .inr ⟨rfl, ?_⟩⟩)
  · have := k H' S
    rw [e] at this
    exact this
  · have := k H' S
    rw [e] at this
    exact this
theorem done_any {K : PySem.W.Frag} {C CO : Addr} {H : Hp} {Q : VK} {E : XK} {f w : Str} {x y : Addr} {L M : Nums} {b : Bool} (hw : w ∈ goodW f) (h1 : AnsAt C H x f L) (h2 : AnsAt C H y f M) (o1 : OkN f L) (o2 : OkN f M) (hl : L.length + M.length ≤ 1000) (hb : oneOf L M = b)
    (g1 : ∀ z H', Same H H' → b = true → Q z H') (g2 : ∀ H', Same H H' → b = false → E (.ref CO) none H') : spDone K C CO [.str w, .ref x, .ref y] H Q E := by
  obtain ⟨hww, hf, hn⟩ := good_is hw
  refine ⟨w, x, .ref y, rfl, hww, ?_⟩
  cases b with
  | true => exact .inl ⟨f, L, y, M, rfl, h1, h2, o1, o2, hf, hb, hl, fun z R H' n => g1 _ H' n.same rfl⟩
  | false => exact .inr ⟨f, L, h1, o1, .inl ⟨y, rfl, own_ans h2⟩, fun H' S => g2 H' S rfl, .inr ⟨hn, .inr ⟨y, M, rfl, h2, o2, hb⟩⟩⟩
theorem comb_any {K : PySem.W.Frag} {C CI CO : Addr} {H : Hp} {Q : VK} {E : XK} {f : Str} {xs : List Addr} {Ls : List Nums} {b : Bool} (hf : f ∈ forms) (hA : AllA C H f xs Ls) (hl : xs.length ≤ 10) (ht : Ls.flatten.length ≤ 1000) (hb : oneAll Ls = b)
    (g1 : ∀ z H', Same H H' → b = true → Q z H') (g2 : ∀ H', Same H H' → b = false → E (.ref CO) none H') : Sf.star 1 (spComb K C CI CO) (V.str f :: xs.map V.ref) H Q E := by
  refine ⟨[.str f], xs.map V.ref, rfl, rfl, by rw [List.length_map, sizeLine_eq]; omega, fun p hp => ?_⟩
  have S1 : Same H (upd H p (.tup (xs.map V.ref))) := sameNew hp
  refine ⟨.str f, p, xs.map V.ref, rfl, upd_same, by rw [List.length_map]; exact hl, .inr ⟨f, rfl, hf, .inr ⟨xs, Ls, rfl, hA.keep S1, ht, ?_⟩⟩⟩
  cases b with
  | true => exact .inl ⟨hb, fun z R H' n => g1 _ H' (S1.trans n.same) rfl⟩
  | false => exact .inr ⟨hb, fun H' S => g2 H' (S1.trans S) rfl⟩
def wOf (w : Nat) (L : Nums) : Nat := if L = [] then 1 else w
theorem wOf_le {w : Nat} {L : Nums} (h : w ≤ 3) : wOf w L ≤ 3 := by
  unfold wOf
  split <;> omega
theorem eqT_nil (L : Nums) : Dh.eqT (kvsN L) [] = decide (L = []) := by
  cases L with
  | nil => rfl
  | cons p r => rfl
def tWidth : TE := fun σ H Q => ∃ p L w, σ[3]? = some (some (V.ref p)) ∧ H p = some (.dT (kvsN L)) ∧ Tame w L ∧ ∀ H', Same H H' → Q (.int ((wOf w L : Nat) : Int)) H'
theorem width_ok {K : PySem.W.Frag} {σ : L2.St} {H : Hp} {Q : VK} (h : tWidth σ H Q) : (tIf (tTest (tOp (Dh.rEqT true) (tVar 3) tDNewT))
    (tCB (fun xs H Q => ∃ x n, xs = [x] ∧ LenV K x H n ∧ Q (V.int ↑n) H) (tCons (tOp (rIxL K) (tCB (fun xs H Q => ∃ d kvs, xs = [V.ref d] ∧ Rd H d (HO.dT kvs) ∧ ∀ (p : Addr) (bs : List Addr), H p = none → IsKeys H kvs bs → Q (V.ref p) (upd H p (HO.lst (List.map V.ref bs)))) (tCons (tVar 3) tNil)) (tC (V.int 0))) tNil))
    (tC (V.int 1))) σ H Q := by
  obtain ⟨p, L, w, h3, hp, tm, k⟩ := h
  refine ⟨_, h3, ?_⟩
  intro p1 n1
  have S1 : Same H (upd H p1 (.dT [])) := sameNew n1
  refine ⟨p, p1, kvsN L, [], rfl, rfl, .inl (S1 _ _ hp), .inl upd_same, flat_kvsN L, (fun _ z => by cases z), ?_⟩
  refine ⟨_, rfl, ?_⟩
  rw [eqT_nil]
  cases L with
  | nil => exact ite_f rfl (k _ S1)
  | cons p0 r =>
    refine ite_t rfl ?_
    refine ⟨_, h3, p, _, rfl, .inl (S1 _ _ hp), fun q bs nq hk => ?_⟩
    cases hk with
    | @cons _ b _ bs' hb ht =>
      have nqb : b ≠ q := ne_of_none hb nq
      refine ⟨q, _, 0, .ref b, rfl, rfl, SqL.of upd_same, (show atI _ ((0 : Nat) : Int) = _ from atI_nat rfl), ?_⟩
      refine ⟨_, _, rfl, .inr ⟨_, SqT.of (by rw [upd_ne nqb]; exact hb), rfl⟩, ?_⟩
      have e : ((keyN p0.1).map kV).length = w := by
        unfold keyN
        rw [List.length_map, List.length_map]
        exact (tm.hd p0 List.mem_cons_self).1
      have := k _ (S1.trans (sameNew (o := .lst ((b :: bs').map V.ref)) nq))
      unfold wOf at this
      rw [if_neg (fun z => by cases z)] at this
      show Q (V.int (((keyN p0.1).map kV).length : Nat)) _
      rw [e]
      exact this
def tBack (C : Addr) : TE := fun σ H Q => ∃ x f L, σ[1]? = some (some (V.str f)) ∧ σ[2]? = some (some (V.ref x)) ∧ AnsAt C H x f L ∧ OkN f L ∧ ∀ z R H', Same H H' → AnsAt C H' z f R → OkN f R → (∀ p ∈ R, p.1 ∈ L.map (·.1)) → Q (.ref z) H'
theorem back_ok {C CO : Addr} {σ : L2.St} {H : Hp} {Q : VK} (h : tBack C σ H Q) : (tIf (tTest (tOp rEq (tVar 1) (tC (V.str "distinct")))) (tVar 2) (tUn (fun x H Q => ∃ a, x = .ref a ∧ Ow.Own H C a ∧ spNeg C CO [.ref a] H Q (fun _ _ _ => False)) (tVar 2))) σ H Q := by
  obtain ⟨x, f, L, h1, h2, hA, oL, k⟩ := h
  refine ⟨_, h1, rfl, _, rfl, ?_⟩
  by_cases c : f = "distinct"
  · refine ite_t (by rw [str_eq_d, decide_eq_true c]) ?_
    exact ⟨_, h2, k x L H (fun _ _ e => e) hA oL fun p hp => List.mem_map.mpr ⟨p, hp, rfl⟩⟩
  · refine ite_f (by rw [str_eq_d, decide_eq_false c]) ?_
    refine ⟨_, h2, x, rfl, own_ans hA, x, f, L, rfl, hA, oL, .inr ⟨c, fun z R H' n => ?_⟩⟩
    refine k z R H' n.same n.at_ n.ok fun p hp => ?_
    have q := n.isF.head hp
    refine Decidable.byContradiction fun no => q ?_
    show - vN L p.1 = 0
    rw [vN_not no]
    rfl
def tFin : TE := fun σ H Q => ∃ p L, σ[3]? = some (some (V.ref p)) ∧ H p = some (.dT (kvsN L)) ∧ ∀ H', Same H H' → Q (.str (told (decide (L = [])))) H'
theorem fin_ok {σ : L2.St} {H : Hp} {Q : VK} (h : tFin σ H Q) : (tIf (tTest (tOp (Dh.rEqT false) (tVar 3) tDNewT)) (tC (V.str "fine")) (tC (V.str "operation"))) σ H Q := by
  obtain ⟨p, L, h3, hp, k⟩ := h
  refine ⟨_, h3, ?_⟩
  intro p1 n1
  have S1 : Same H (upd H p1 (.dT [])) := sameNew n1
  refine ⟨p, p1, kvsN L, [], rfl, rfl, .inl (S1 _ _ hp), .inl upd_same, flat_kvsN L, (fun _ z => by cases z), ?_⟩
  refine ⟨_, rfl, ?_⟩
  rw [eqT_nil]
  cases L with
  | nil => exact ite_t rfl (k _ S1)
  | cons p0 r => exact ite_f rfl (k _ S1)
/-- one head of n ints, its number 1 -/
def M4 (n : Nat) : Nums := [(List.replicate n 4, 1)]
theorem okM4 {f : Str} {n : Nat} (hf : f ∈ forms) (hn : n ≤ 3) : OkN f (M4 n) := by
  have e : ∀ p ∈ M4 n, p = (List.replicate n 4, 1) := fun p hp => List.mem_singleton.mp hp
  refine ok_of hf (List.nodup_cons.mpr ⟨(fun z => by cases z), List.nodup_nil⟩) (fun p hp => ?_) (fun p hp q hq => by rw [e p hp, e q hq]) (fun p hp => ?_) (by show 1 ≤ 1000; decide)
  · rw [e p hp]
    exact intsK (fun n h => by rw [List.eq_of_mem_replicate h]; decide +kernel) (by rw [List.length_replicate]; exact hn)
  · rw [e p hp, numOk_int]
    split
    · exact decide_eq_true rfl
    · exact decide_eq_true (show (1 : Int) ≠ 0 by decide)
theorem keyM4 (n : Nat) : (List.replicate n [V.int 4]).flatten = (keyN (List.replicate n 4)).map kV := by
  rw [List.flatten_replicate_singleton]
  unfold keyN
  rw [List.map_replicate, List.map_replicate]
  rfl
theorem all_true {Ls : List Nums} {n : Nat} (h : ∀ p ∈ Ls.flatten, p.1.length = n) : oneAll Ls = true := oneAll_iff.mpr fun p hp q hq => by rw [h p hp, h q hq]
theorem all_false {Ls : List Nums} {p q : List Int × Int} (hp : p ∈ Ls.flatten) (hq : q ∈ Ls.flatten) (h : p.1.length ≠ q.1.length) : oneAll Ls = false := by
  cases e : oneAll Ls with
  | false => rfl
  | true => exact absurd (oneAll_iff.mp e p hp q hq) h
theorem one_all (L M : Nums) : oneOf L M = oneAll [L, M] := by
  unfold oneOf oneAll
  rw [List.flatten_cons, List.flatten_singleton]
/-- an answer with heads of w ints beside one with another head -/
theorem all_M4 {w : Nat} {L : Nums} {Ls : List Nums} {n : Nat} (hn : n = 3 - wOf w L) (hw : w ≤ 3) (hd : ∀ M ∈ Ls, ∀ p ∈ M, p ∈ M4 n ∨ ∃ q ∈ L, p.1 = q.1) (h1 : L ∈ Ls) (h2 : M4 n ∈ Ls) (hL : HdW w L) : oneAll Ls = decide (L = []) := by
  by_cases c : L = []
  · rw [decide_eq_true c]
    refine all_true (n := n) fun p hp => ?_
    obtain ⟨M, hM, hp⟩ := List.mem_flatten.mp hp
    rcases hd M hM p hp with q | ⟨q, hq, _⟩
    · rw [List.mem_singleton.mp q]
      exact List.length_replicate
    · rw [c] at hq
      cases hq
  · rw [decide_eq_false c]
    obtain ⟨p, r, e⟩ := List.exists_cons_of_ne_nil c
    have hp : p ∈ L := by rw [e]; exact List.mem_cons_self
    refine all_false (p := p) (q := (List.replicate n 4, 1)) (List.mem_flatten.mpr ⟨L, h1, hp⟩) (List.mem_flatten.mpr ⟨_, h2, List.mem_singleton.mpr rfl⟩) ?_
    rw [List.length_replicate, (hL p hp).1, hn]
    unfold wOf
    rw [if_neg c]
    omega
theorem ok_wrong_right (T : Txt K mg a) (TB : TabsB base mg a) : Rp.FnG P w K mg base CX0 11 a.wrong_right a.fd_wrong_right ps__law_wrong_right (spWR a) := by
  have F := T.F_wrong_right
  refine okGC (k := 10) F sc__law_wrong_right (fun vs H Q E h => ?_) (fun cdv A outer s H vs Q E hr hg hcd h => ?_)
  · obtain ⟨d, x, f, p, L, Ls, w, g, rfl, hD, hT, hA, oLs, srtN, iLs, hp, oL, iL, tm, k⟩ := h
    rfl
  · obtain ⟨d, x, f, p, L, Ls, w, g, rfl, hD, hT, hA, oLs, srtN, iLs, hp, oL, iL, tm, k⟩ := h
    have hu := hu_of hr
    obtain ⟨mo, md, mk1, mk2, mk3, mk4, mcd, mct, msl, mfd, mlk, mhc⟩ := T.F_met.ex
    have mb := b_met T
    obtain ⟨ds, vds, bds⟩ := bd_Answer___init__ T
    rw [mfd] at mlk mb
    have tabU : ∀ q ∈ tabs a, q.1 = a.t_wrong → q.2 = qA := fun q hq e => by rw [List.mem_singleton.mp hq]
    refine ⟨_, (pss_cons (ps_set (i := 4) sc__law_wrong_right.nd rfl (Or.inl rfl) (pe_lst (pa_cons pe_str (pa_cons pe_str (pa_cons pe_str (pa_cons pe_str (pa_cons pe_str (pa_cons pe_str pa_nil))))))))
      (pss_cons (ps_set (i := 5) sc__law_wrong_right.nd rfl (Or.inr rfl) (pe_call (ok_pick T) (hr.mono (by decide)) (by rfl) T.g_pick T.F_pick.kp (b_pick T) .nil pass0 (pa_cons (pv 0) (pa_cons (PE.to (t' := tBad) (pe_ifExp (pt_cmpR op_eq (pv 1) pe_str (nomark _)) (pe_slice sl_list (pv 4) po_none (po_some pe_int)) (pe_slice sl_list (pv 4) (po_some pe_int) po_none)) (fun σ H Q h => bad_ok h)) pa_nil))))
      (pss_cons (ps_set (i := 6) sc__law_wrong_right.nd rfl (Or.inr rfl) (pe_call (ok_pick T) (hr.mono (by decide)) (by rfl) T.g_pick T.F_pick.kp (b_pick T) .nil pass0 (pa_cons (pv 0) (pa_cons (PE.to (t' := tGood) (pe_ifExp (pt_cmpR op_eq (pv 1) pe_str (nomark _)) (pe_lst (pa_cons pe_str (pa_cons pe_str (pa_cons pe_str pa_nil)))) (pe_lst (pa_cons pe_str (pa_cons pe_str pa_nil)))) (fun σ H Q h => good_ok h)) pa_nil))))
      (pss_cons (ps_set (i := 7) sc__law_wrong_right.nd rfl (Or.inr rfl) (pe_call (ok_pick T) (hr.mono (by decide)) (by rfl) T.g_pick T.F_pick.kp (b_pick T) .nil pass0 (pa_cons (pv 0) (pa_cons (pe_lst (pa_cons pe_non (pa_cons pe_int (pa_cons pe_int (pa_cons pe_dnewK (pa_cons (pv 3) (pa_cons (pe_tup pa_nil) (pa_cons (pe_lst pa_nil) (pa_cons pe_str (pa_cons (pv 1) (pa_cons pe_bl pa_nil))))))))))) pa_nil))))
      (pss_cons (ps_set (i := 8) sc__law_wrong_right.nd rfl (Or.inr rfl) (pe_call (ok_pick T) (hr.mono (by decide)) (by rfl) T.g_pick T.F_pick.kp (b_pick T) .nil pass0 (pa_cons (pv 0) (pa_cons (pe_lc (own := [("_law_one", 9)]) rfl sc__law_wrong_right.nd (pi_list (pe_lst (pa_cons pe_str (pa_cons pe_str (pa_cons pe_str pa_nil))))) (blkOk_by (N := nm__law_wrong_right) (sc := defScope s__law_wrong_right) (by decide +kernel)) (fun _ _ _ _ _ => (pg_name (i := 9) sc__law_wrong_right.nd rfl (Or.inl rfl))) (fun _ _ _ _ _ => (pts_one (pt_cmpR op_ne (pv 9) (pv 1) (nomark _)))) (fun _ _ _ _ _ => (pv 9))) pa_nil))))
      (pss_cons (ps_set (i := 10) sc__law_wrong_right.nd rfl (Or.inl rfl) (pe_lst (pa_cons (LamX.pe_lamcall (k := 8) (T := tabs a) (TT := TMet a.c_InvalidAnswer a.c_InvalidOperation) (by rfl) T.g_met T.F_met.kp mlk mhc mb sc__law_met (by rfl) (.inl rfl) (met_gives _ T _ _) (TB _ List.mem_cons_self) (congrArg id (hcd.trans T.cdW)) List.mem_cons_self tabU (hr.mono (by decide)) (LamX.lamS_by (sc := defScope s__law_wrong_right) (by decide +kernel)) (by rfl) (fun _ _ _ _ _ => rfl) (fun A outer s H E f c' hr' => (pe_call (E := E) (ok_done T) (hr'.mono (by decide)) (by rfl) T.g_done T.F_done.kp (b_done T) .nil (passes_call (takes_of rfl rfl rfl rfl) (fun _ _ _ _ h => h)) (pa_cons (pv 5) (pa_cons (pv 2) (pa_cons (pv 2) pa_nil)))))) pa_nil)))
      (pss_cons (ps_expr (pe_bm PySem.F.plainAttrs_list PySem.F.slot_list_append PySem.F.type_list_append mt_append (pv 10) (pa_cons (LamX.pe_lamcall (k := 8) (T := tabs a) (TT := TMet a.c_InvalidAnswer a.c_InvalidOperation) (by rfl) T.g_met T.F_met.kp mlk mhc mb sc__law_met (by rfl) (.inl rfl) (met_gives _ T _ _) (TB _ List.mem_cons_self) (congrArg id (hcd.trans T.cdW)) List.mem_cons_self tabU (hr.mono (by decide)) (LamX.lamS_by (sc := defScope s__law_wrong_right) (by decide +kernel)) (by rfl) (fun _ _ _ _ _ => rfl) (fun A outer s H E f c' hr' => (pe_call (E := E) (ok_done T) (hr'.mono (by decide)) (by rfl) T.g_done T.F_done.kp (b_done T) .nil (passes_call (takes_of rfl rfl rfl rfl) (fun _ _ _ _ h => h)) (pa_cons (pv 6) (pa_cons (pv 2) (pa_cons (pv 7) pa_nil)))))) pa_nil)))
      (pss_cons (ps_expr (pe_bm PySem.F.plainAttrs_list PySem.F.slot_list_append PySem.F.type_list_append mt_append (pv 10) (pa_cons (LamX.pe_lamcall (k := 8) (T := tabs a) (TT := TMet a.c_InvalidAnswer a.c_InvalidOperation) (by rfl) T.g_met T.F_met.kp mlk mhc mb sc__law_met (by rfl) (.inl rfl) (met_gives _ T _ _) (TB _ List.mem_cons_self) (congrArg id (hcd.trans T.cdW)) List.mem_cons_self tabU (hr.mono (by decide)) (LamX.lamS_by (sc := defScope s__law_wrong_right) (by decide +kernel)) (by rfl) (fun _ _ _ _ _ => rfl) (fun A outer s H E f c' hr' => (pe_call (E := E) (ok_done T) (hr'.mono (by decide)) (by rfl) T.g_done T.F_done.kp (b_done T) .nil (passes_call (takes_of rfl rfl rfl rfl) (fun _ _ _ _ h => h)) (pa_cons (pv 6) (pa_cons (pv 2) (pa_cons (pe_make T.mk_Answer (ok_Answer___init__ T) (hr'.mono (by decide)) (by rfl) T.g_c_Answer bds vds never (pa_cons (pv 8) pa_nil)) pa_nil)))))) pa_nil)))
      (pss_cons (ps_expr (pe_bm PySem.F.plainAttrs_list PySem.F.slot_list_append PySem.F.type_list_append mt_append (pv 10) (pa_cons (LamX.pe_lamcall (k := 8) (T := tabs a) (TT := TMet a.c_InvalidAnswer a.c_InvalidOperation) (by rfl) T.g_met T.F_met.kp mlk mhc mb sc__law_met (by rfl) (.inl rfl) (met_gives _ T _ _) (TB _ List.mem_cons_self) (congrArg id (hcd.trans T.cdW)) List.mem_cons_self tabU (hr.mono (by decide)) (LamX.lamS_by (sc := defScope s__law_wrong_right) (by decide +kernel)) (by rfl) (fun _ _ _ _ _ => rfl) (fun A outer s H E f c' hr' => (Sf.pe_callR (E := E) (ok_combined T) (hr'.mono (by decide)) T.F_combined.kp (by rfl) T.g_combined (passes_call (takes_of rfl rfl rfl rfl) (fun _ _ _ _ h => h)) (pa_cons (pv 1) (pa_cons (pv 2) (pa_cons (pv 7) pa_nil)))))) pa_nil)))
      (pss_cons (ps_expr (pe_bm PySem.F.plainAttrs_list PySem.F.slot_list_append PySem.F.type_list_append mt_append (pv 10) (pa_cons (LamX.pe_lamcall (k := 8) (T := tabs a) (TT := TMet a.c_InvalidAnswer a.c_InvalidOperation) (by rfl) T.g_met T.F_met.kp mlk mhc mb sc__law_met (by rfl) (.inl rfl) (met_gives _ T _ _) (TB _ List.mem_cons_self) (congrArg id (hcd.trans T.cdW)) List.mem_cons_self tabU (hr.mono (by decide)) (LamX.lamS_by (sc := defScope s__law_wrong_right) (by decide +kernel)) (by rfl) (fun _ _ _ _ _ => rfl) (fun A outer s H E f c' hr' => (Sf.pe_callR (E := E) (ok_combined T) (hr'.mono (by decide)) T.F_combined.kp (by rfl) T.g_combined (passes_call (takes_of rfl rfl rfl rfl) (fun _ _ _ _ h => h)) (pa_cons (pv 1) (pa_cons (pe_make T.mk_Answer (ok_Answer___init__ T) (hr'.mono (by decide)) (by rfl) T.g_c_Answer bds vds never (pa_cons (pv 8) pa_nil)) (pa_cons (pv 2) pa_nil)))))) pa_nil)))
      (pss_cons (ps_expr (pe_bm PySem.F.plainAttrs_list PySem.F.slot_list_append PySem.F.type_list_append mt_append (pv 10) (pa_cons (LamX.pe_lamcall (k := 8) (T := tabs a) (TT := TMet a.c_InvalidAnswer a.c_InvalidOperation) (by rfl) T.g_met T.F_met.kp mlk mhc mb sc__law_met (by rfl) (.inl rfl) (met_gives _ T _ _) (TB _ List.mem_cons_self) (congrArg id (hcd.trans T.cdW)) List.mem_cons_self tabU (hr.mono (by decide)) (LamX.lamS_by (sc := defScope s__law_wrong_right) (by decide +kernel)) (by rfl) (fun _ _ _ _ _ => rfl) (fun A outer s H E f c' hr' => (Sf.pe_callR (E := E) (ok_combined T) (hr'.mono (by decide)) T.F_combined.kp (by rfl) T.g_combined (passes_call (takes_of rfl rfl rfl rfl) (fun _ _ _ _ h => h)) (pa_cons (pv 8) (pa_cons (pv 2) pa_nil))))) pa_nil)))
      (pss_cons (ps_if (pt_cmpR (op_neD hr.units) (pv 10) (pe_op op_rep (pe_lst (pa_cons pe_str pa_nil)) pe_int) (nomark _)) (pss_one (ps_ret pe_bl)) pss_nil)
      (pss_cons (ps_set (i := 11) sc__law_wrong_right.nd rfl (Or.inr rfl) (pe_call (ok_pick T) (hr.mono (by decide)) (by rfl) T.g_pick T.F_pick.kp (b_pick T) .nil pass0 (pa_cons (pv 0) (pa_cons (pe_lst (pa_cons pe_non (pa_cons pe_str (pa_cons pe_str (pa_cons pe_int (pa_cons (pe_tup (pa_cons pe_str pa_nil)) (pa_cons pe_str (pa_cons (pe_lst (pa_cons pe_str pa_nil)) (pa_cons pe_dnewK (pa_cons (pe_lst pa_nil) (pa_cons pe_bl pa_nil))))))))))) pa_nil))))
      (pss_cons (ps_set (i := 10) sc__law_wrong_right.nd rfl (Or.inl rfl) (pe_lst (pa_cons (LamX.pe_lamcall (k := 8) (T := tabs a) (TT := TMet a.c_InvalidAnswer a.c_InvalidOperation) (by rfl) T.g_met T.F_met.kp mlk mhc mb sc__law_met (by rfl) (.inl rfl) (met_gives _ T _ _) (TB _ List.mem_cons_self) (congrArg id (hcd.trans T.cdW)) List.mem_cons_self tabU (hr.mono (by decide)) (LamX.lamS_by (sc := defScope s__law_wrong_right) (by decide +kernel)) (by rfl) (fun _ _ _ _ _ => rfl) (fun A outer s H E f c' hr' => (Sf.pe_callR (E := E) (ok_combined T) (hr'.mono (by decide)) T.F_combined.kp (by rfl) T.g_combined (passes_call (takes_of rfl rfl rfl rfl) (fun _ _ _ _ h => h)) (pa_cons (pv 11) pa_nil)))) pa_nil)))
      (pss_cons (ps_expr (pe_bm PySem.F.plainAttrs_list PySem.F.slot_list_append PySem.F.type_list_append mt_append (pv 10) (pa_cons (LamX.pe_lamcall (k := 8) (T := tabs a) (TT := TMet a.c_InvalidAnswer a.c_InvalidOperation) (by rfl) T.g_met T.F_met.kp mlk mhc mb sc__law_met (by rfl) (.inl rfl) (met_gives _ T _ _) (TB _ List.mem_cons_self) (congrArg id (hcd.trans T.cdW)) List.mem_cons_self tabU (hr.mono (by decide)) (LamX.lamS_by (sc := defScope s__law_wrong_right) (by decide +kernel)) (by rfl) (fun _ _ _ _ _ => rfl) (fun A outer s H E f c' hr' => (Sf.pe_callR (E := E) (ok_combined T) (hr'.mono (by decide)) T.F_combined.kp (by rfl) T.g_combined (passes_call (takes_of rfl rfl rfl rfl) (fun _ _ _ _ h => h)) (pa_cons (pv 11) (pa_cons (pv 7) pa_nil))))) pa_nil)))
      (pss_cons (ps_if (pt_cmpR (op_neD hr.units) (pv 10) (pe_lst (pa_cons pe_str (pa_cons pe_str pa_nil))) (nomark _)) (pss_one (ps_ret pe_bl)) pss_nil)
      (pss_cons (ps_set (i := 12) sc__law_wrong_right.nd rfl (Or.inl rfl) (PE.to (t' := tWidth) (pe_ifExp (pt_cmpR (Dh.op_neT (n := 0) (hr.mono (by decide))) (pv 3) pe_dnewT (nomark _)) (pe_callB call_len (by rfl) T.len (by decide +kernel) (pa_cons (pe_ix ix_list (pe_callTy (call_list_dT rfl) (by rfl) T.list (by decide +kernel) (pa_cons (pv 3) pa_nil)) pe_int (fun _ _ => rfl)) pa_nil)) pe_int) (fun σ H Q h => width_ok h)))
      (pss_cons (ps_set (i := 13) sc__law_wrong_right.nd rfl (Or.inr rfl) (pe_make T.mk_Answer (ok_Answer___init__ T) (hr.mono (by decide)) (by rfl) T.g_c_Answer (b_Answer___init__ T) .nil never (pa_cons (pv 1) (pa_cons (Dh.pe_dispT hu (pps_cons (pe_op Ts.op_mulZ (pe_tup (pa_cons pe_int pa_nil)) (pe_op op_sub pe_int (pv 12))) pe_int pps_nil) (by rfl) (by rfl) (fun z => by cases z) (by decide)) pa_nil))))
      (pss_cons (ps_set (i := 14) sc__law_wrong_right.nd rfl (Or.inr rfl) (PE.to (t' := tBack a.c_Answer) (pe_ifExp (pt_cmpR op_eq (pv 1) pe_str (nomark _)) (pv 2) (pe_un (Ow.un_negO ⟨T.fi__neg__, T.fn__neg__, ok_Answer___neg__ T, b_Answer___neg__ T⟩ (hr.mono (by decide)) never) (pv 2))) (fun σ H Q h => back_ok h)))
      (pss_cons (ps_set (i := 10) sc__law_wrong_right.nd rfl (Or.inl rfl) (pe_lst (pa_cons (LamX.pe_lamcall (k := 8) (T := tabs a) (TT := TMet a.c_InvalidAnswer a.c_InvalidOperation) (by rfl) T.g_met T.F_met.kp mlk mhc mb sc__law_met (by rfl) (.inl rfl) (met_gives _ T _ _) (TB _ List.mem_cons_self) (congrArg id (hcd.trans T.cdW)) List.mem_cons_self tabU (hr.mono (by decide)) (LamX.lamS_by (sc := defScope s__law_wrong_right) (by decide +kernel)) (by rfl) (fun _ _ _ _ _ => rfl) (fun A outer s H E f c' hr' => (pe_call (E := E) (ok_done T) (hr'.mono (by decide)) (by rfl) T.g_done T.F_done.kp (b_done T) .nil (passes_call (takes_of rfl rfl rfl rfl) (fun _ _ _ _ h => h)) (pa_cons (pv 6) (pa_cons (pv 2) (pa_cons (pv 13) pa_nil)))))) pa_nil)))
      (pss_cons (ps_expr (pe_bm PySem.F.plainAttrs_list PySem.F.slot_list_append PySem.F.type_list_append mt_append (pv 10) (pa_cons (LamX.pe_lamcall (k := 8) (T := tabs a) (TT := TMet a.c_InvalidAnswer a.c_InvalidOperation) (by rfl) T.g_met T.F_met.kp mlk mhc mb sc__law_met (by rfl) (.inl rfl) (met_gives _ T _ _) (TB _ List.mem_cons_self) (congrArg id (hcd.trans T.cdW)) List.mem_cons_self tabU (hr.mono (by decide)) (LamX.lamS_by (sc := defScope s__law_wrong_right) (by decide +kernel)) (by rfl) (fun _ _ _ _ _ => rfl) (fun A outer s H E f c' hr' => (Sf.pe_callR (E := E) (ok_combined T) (hr'.mono (by decide)) T.F_combined.kp (by rfl) T.g_combined (passes_call (takes_of rfl rfl rfl rfl) (fun _ _ _ _ h => h)) (pa_cons (pv 1) (pa_cons (pv 13) (pa_cons (pv 2) pa_nil)))))) pa_nil)))
      (pss_cons (ps_expr (pe_bm PySem.F.plainAttrs_list PySem.F.slot_list_append PySem.F.type_list_append mt_append (pv 10) (pa_cons (LamX.pe_lamcall (k := 8) (T := tabs a) (TT := TMet a.c_InvalidAnswer a.c_InvalidOperation) (by rfl) T.g_met T.F_met.kp mlk mhc mb sc__law_met (by rfl) (.inl rfl) (met_gives _ T _ _) (TB _ List.mem_cons_self) (congrArg id (hcd.trans T.cdW)) List.mem_cons_self tabU (hr.mono (by decide)) (LamX.lamS_by (sc := defScope s__law_wrong_right) (by decide +kernel)) (by rfl) (fun _ _ _ _ _ => rfl) (fun A outer s H E f c' hr' => (Sf.pe_callR (E := E) (ok_combined T) (hr'.mono (by decide)) T.F_combined.kp (by rfl) T.g_combined (passes_call (takes_of rfl rfl rfl rfl) (fun _ _ _ _ h => h)) (pa_cons (pv 1) (pa_cons (pv 2) (pa_cons (pv 14) (pa_cons (pv 13) pa_nil))))))) pa_nil)))
      (pss_cons (ps_expr (pe_bm PySem.F.plainAttrs_list PySem.F.slot_list_append PySem.F.type_list_append mt_append (pv 10) (pa_cons (LamX.pe_lamcall (k := 8) (T := tabs a) (TT := TMet a.c_InvalidAnswer a.c_InvalidOperation) (by rfl) T.g_met T.F_met.kp mlk mhc mb sc__law_met (by rfl) (.inl rfl) (met_gives _ T _ _) (TB _ List.mem_cons_self) (congrArg id (hcd.trans T.cdW)) List.mem_cons_self tabU (hr.mono (by decide)) (LamX.lamS_by (sc := defScope s__law_wrong_right) (by decide +kernel)) (by rfl) (fun _ _ _ _ _ => rfl) (fun A outer s H E f c' hr' => (Sf.pe_callR (E := E) (ok_combined T) (hr'.mono (by decide)) T.F_combined.kp (by rfl) T.g_combined (passes_call (takes_of rfl rfl rfl rfl) (fun _ _ _ _ h => h)) (pa_cons (pv 1) (pa_cons (pv 2) (pa_cons (pv 14) (pa_cons (pe_make T.mk_Answer (ok_Answer___init__ T) (hr'.mono (by decide)) (by rfl) T.g_c_Answer bds vds never (pa_cons (pv 1) pa_nil)) (pa_cons (pv 2) pa_nil)))))))) pa_nil)))
      (pss_one (ps_ret (pe_cmpR (op_eqD hr.units) (pv 10) (pe_op op_cat (pe_op op_rep (pe_lst (pa_cons (PE.to (t' := tFin) (pe_ifExp (pt_cmpR (Dh.op_eqT (n := 0) (hr.mono (by decide))) (pv 3) pe_dnewT (nomark _)) pe_str pe_str) (fun σ H Q h => fin_ok h)) pa_nil)) pe_int) (pe_lst (pa_cons pe_str pa_nil))) (nomark _))))))))))))))))))))))))))), ?_⟩
    refine ⟨(by show 6 ≤ sizeLine; decide), fun pw nw => ?_⟩
    generalize EH1 : upd H pw _ = H1
    have ew := (congrFun EH1 pw).symm.trans upd_same
    have S1 : Same H H1 := by rw [← EH1]; exact sameNew nw
    refine ⟨_, rfl, pw, f, rfl, rfl, ew, fun pb nb => ?_⟩
    generalize EH2 : upd H1 pb _ = H2
    have eb := (congrFun EH2 pb).symm.trans upd_same
    have S2 : Same H1 H2 := by rw [← EH2]; exact sameNew nb
    have D2 := die_same (die_same hD S1) S2
    have R02 : Rolled d H H2 := same_roll hD (S1.trans S2)
    refine ⟨d, .ref pb, _, rfl, D2, ⟨(die_same hD S1).ne nb, .inl (SqL.of eb)⟩, (by rw [List.length_map, bad_len]; decide), (by rw [List.length_map, bad_len]; decide), fun v H3 hv R3 => ?_⟩
    obtain ⟨bw, rfl, hbw⟩ : ∃ bw, v = .str bw ∧ bw ∈ badW f := by
      obtain ⟨z, hz, rfl⟩ := List.mem_map.mp hv
      exact ⟨z, rfl, hz⟩
    have R03 := R02.trans R3
    refine ⟨_, rfl, f, rfl, fun pg ng => ?_⟩
    generalize EH4 : upd H3 pg _ = H4
    have eg := (congrFun EH4 pg).symm.trans upd_same
    have S4 : Same H3 H4 := by rw [← EH4]; exact sameNew ng
    have D4 := die_same R3.die S4
    refine ⟨d, .ref pg, _, rfl, D4, ⟨R3.die.ne ng, .inl (SqL.of eg)⟩, (by rw [List.length_map]; have := good_len f; omega), (by rw [List.length_map]; have := good_len f; omega), fun v H5 hv R5 => ?_⟩
    obtain ⟨gw, rfl, hgw⟩ : ∃ gw, v = .str gw ∧ gw ∈ goodW f := by
      obtain ⟨z, hz, rfl⟩ := List.mem_map.mp hv
      exact ⟨z, rfl, hz⟩
    have R05 := R03.trans ((same_roll R3.die S4).trans R5)
    have hp5 := R05.keep p _ (fun z => by obtain ⟨u1, u2, u3, q⟩ := hD; rw [← z, hp] at q; cases q) hp
    refine ⟨_, rfl, ?_⟩
    intro p1 n1
    generalize EH6 : upd H5 p1 _ = H6
    have e1 := (congrFun EH6 p1).symm.trans upd_same
    have S6 : Same H5 H6 := by rw [← EH6]; exact sameNew n1
    refine ⟨_, rfl, ?_⟩
    refine ⟨(by show 0 ≤ sizeLine; decide), fun p2 n2 => ?_⟩
    generalize EH7 : upd H6 p2 _ = H7
    have e2 := (congrFun EH7 p2).symm.trans upd_same
    have S7 : Same H6 H7 := by rw [← EH7]; exact sameNew n2
    refine ⟨(by show 0 ≤ sizeLine; decide), fun p3 n3 => ?_⟩
    generalize EH8 : upd H7 p3 _ = H8
    have e3 := (congrFun EH8 p3).symm.trans upd_same
    have S8 : Same H7 H8 := by rw [← EH8]; exact sameNew n3
    refine ⟨_, rfl, ?_⟩
    refine ⟨(by show 10 ≤ sizeLine; decide), fun p4 n4 => ?_⟩
    generalize EH9 : upd H8 p4 _ = H9
    have e4 := (congrFun EH9 p4).symm.trans upd_same
    have S9 : Same H8 H9 := by rw [← EH9]; exact sameNew n4
    have S59 : Same H5 H9 := ((S6.trans S7).trans S8).trans S9
    have D9 := die_same R5.die S59
    have D8 := die_same R5.die ((S6.trans S7).trans S8)
    refine ⟨d, .ref p4, _, rfl, D9, ⟨D8.ne n4, .inl (SqL.of e4)⟩, (by simp), (by simp), fun ov H10 hov R10 => ?_⟩
    have q1 := R10.keep p1 _ (R5.die.ne n1) (S9 _ _ (S8 _ _ (S7 _ _ e1)))
    have q2 := R10.keep p2 _ ((die_same R5.die S6).ne n2) (S9 _ _ (S8 _ _ e2))
    have q3 := R10.keep p3 _ ((die_same R5.die (S6.trans S7)).ne n3) (S9 _ _ e3)
    have npd : p ≠ d := fun z => by obtain ⟨u1, u2, u3, q⟩ := hD; rw [← z, hp] at q; cases q
    have hp10 := R10.keep p _ npd (S59 _ _ hp5)
    have hodd : ∀ H', ExtD d H10 H' → ∃ U, U ∈ tys ∧ TyX K H' ov (.type U) := fun H' X => by
      simp only [List.mem_cons, List.mem_nil_iff, or_false] at hov
      rcases hov with h | h | h | h | h | h | h | h | h | h <;> subst h
      · exact ⟨"NoneType", by decide, .base .non⟩
      · exact ⟨"int", by decide, .base (.int _)⟩
      · exact ⟨"int", by decide, .base (.int _)⟩
      · exact ⟨"dict", by decide, .base (.dK (X.keep (R5.die.ne n1) (fun _ z => nomatch z) q1))⟩
      · exact ⟨"dict", by decide, .base (.dT (X.keep npd (fun _ z => nomatch z) hp10))⟩
      · exact ⟨"tuple", by decide, .base (.tup (X.keep ((die_same R5.die S6).ne n2) (fun _ z => nomatch z) q2))⟩
      · exact ⟨"list", by decide, .base (.lst (X.keep ((die_same R5.die (S6.trans S7)).ne n3) (fun _ z => nomatch z) q3))⟩
      · exact ⟨"str", by decide, .base (.str _)⟩
      · exact ⟨"str", by decide, .base (.str _)⟩
      · exact ⟨"bool", by decide, .base (.bl _)⟩
    have hnot : ∀ H' g, ExtD d H10 H' → ¬ GoodA a.c_Answer H' g ov := fun H' g X ⟨y, M, ey, dx, n, hh, bs, hy, _⟩ => by
      simp only [List.mem_cons, List.mem_nil_iff, or_false] at hov
      rcases hov with h | h | h | h | h | h | h | h | h | h <;> subst h <;> cases ey
      · have z0 := X.keep (o := .dK []) (R5.die.ne n1) (fun _ z => nomatch z) q1
        rw [z0] at hy
        cases hy
      · have z0 := X.keep (o := .dT (kvsN L)) npd (fun _ z => nomatch z) hp10
        rw [z0] at hy
        cases hy
      · have z0 := X.keep (o := .tup []) ((die_same R5.die S6).ne n2) (fun _ z => nomatch z) q2
        rw [z0] at hy
        cases hy
      · have z0 := X.keep (o := .lst []) ((die_same R5.die (S6.trans S7)).ne n3) (fun _ z => nomatch z) q3
        rw [z0] at hy
        cases hy
    have R010 : Rolled d H H10 := R05.trans ((same_roll R5.die S59).trans R10)
    -- another form
    refine ⟨_, rfl, ?_⟩
    refine ⟨(by show 3 ≤ sizeLine; decide), ?_⟩
    intro c2 m2
    generalize EH11 : upd H10 c2 _ = H11
    have g2 := (congrFun EH11 c2).symm.trans upd_same
    have S11 : Same H10 H11 := by rw [← EH11]; exact sameNew m2
    refine ⟨c2, rfl, ⟨_, .inl (.inl g2)⟩, fun D hD2 => ?_⟩
    refine lc_it (walk_list (K := K) (a := c2) (xs := forms.map V.str)) (fun i Hi => Hi = upd H11 D (.lst (((forms.take i).filter fun w => decide (¬ w = f)).map V.str))) rfl ?_ ?_ ?_
    · rintro i Hi hi rfl
      refine .inl (.inl ?_)
      rw [upd_ne (ne_of_none g2 hD2)]
      exact g2
    · rintro i y Hi Hj hi rfl ⟨rfl, hy⟩
      rw [List.getElem?_map] at hy
      obtain ⟨w', hw, rfl⟩ := Option.map_eq_some_iff.mp hy
      refine ⟨rfl, ?_⟩
      refine ⟨_, rfl, _, rfl, rfl, ?_⟩
      refine ⟨_, rfl, ?_⟩
      refine iteB (fun c => ?_) (fun c => ?_)
      · have c : ¬ w' = f := fun z => by rw [z, decide_eq_true rfl] at c; cases c
        refine ⟨_, rfl, _, upd_same, ?_, ?_⟩
        · rw [List.length_map, sizeLine_eq]
          have h1 := List.length_filter_le (fun w => decide (¬ w = f)) (forms.take i)
          have h2 : (forms.take i).length ≤ 3 := by
            rw [List.length_take]
            exact Nat.min_le_right _ _
          omega
        · rw [upd_upd, List.take_add_one, hw, List.filter_append, List.map_append]
          simp [c]
      · have c : w' = f := by
          by_cases z : w' = f
          · exact z
          · rw [decide_eq_false (fun y => z (V.str.inj y))] at c
            cases c
        show upd H11 D _ = upd H11 D _
        rw [List.take_add_one, hw, List.filter_append]
        simp [c]
    rintro Hi rfl
    rw [List.length_map, List.take_length]
    have tf := two_forms f oL.form
    have nDd : D ≠ d := (die_same R010.die S11).ne hD2
    generalize EH12 : upd H11 D _ = H12
    have gD := (congrFun EH12 D).symm.trans upd_same
    have S12 : Same H11 H12 := by rw [← EH12]; exact sameNew hD2
    have D12 := die_same (die_same R010.die S11) S12
    refine ⟨d, .ref D, _, rfl, D12, ⟨nDd, .inl (SqL.of gD)⟩, (by rw [List.length_map]; omega), (by rw [List.length_map]; omega), fun v H13 hv R13 => ?_⟩
    obtain ⟨sf, rfl, hsf, hne⟩ : ∃ g, v = .str g ∧ g ∈ forms ∧ ¬ f = g := by
      obtain ⟨g, hg, rfl⟩ := List.mem_map.mp hv
      obtain ⟨h1, h2⟩ := List.mem_filter.mp hg
      exact ⟨g, rfl, h1, fun z => of_decide_eq_true h2 z.symm⟩
    have R1013 : Rolled d H10 H13 := (same_roll R010.die (S11.trans S12)).trans R13
    have R013 := R010.trans R1013
    have T13 := tabs_roll hD R013 hT
    -- the word that this form refuses
    refine ⟨T13, fun H14 e14 T14 => ?_⟩
    have X1014 : ExtD d H10 H14 := (ExtD.of R1013).trans (ExtD.ofN R13.die e14)
    have X014 : ExtD d H H14 := (ExtD.of R010).trans X1014
    have A14 := ans_extD hD X014 hA
    refine ⟨_, rfl, _, rfl, _, rfl, bw, x, .ref x, rfl, (bad_not hbw).1, .inr ⟨f, Ls, A14, oLs, .inl ⟨x, rfl, own_ans A14⟩, fun H15 S15 => ⟨rfl, .inr ⟨rfl, ?_⟩⟩, .inl (bad_not hbw).2⟩⟩
    refine ⟨(by show 1 ≤ sizeLine; decide), ?_⟩
    intro lt nlt
    generalize EH16 : upd H15 lt _ = H16
    have flt := (congrFun EH16 lt).symm.trans upd_same
    have S16 : Same H15 H16 := by rw [← EH16]; exact sameNew nlt
    have S1416 : Same H14 H16 := S15.trans S16
    have D14 := X014.1
    have l1 : LtAt a H14 H16 lt 1 "operation" := ⟨free_of S15 nlt, flt, fun b o e _ => S1416 _ _ e, T14.ext S1416⟩
    have toX : ∀ {H' : Hp} {n : Nat} {w : Str}, LtAt a H14 H' lt n w → ExtD d H14 H' := fun h => ExtD.ofN D14 h.ext
    -- the good word with an odd value
    refine ⟨_, rfl, .inl ⟨rfl, _, .inl (.inl l1.at_)⟩, ?_⟩
    refine ⟨l1.tab, fun H17 e17 T17 => ?_⟩
    have X1417 : ExtD d H14 H17 := (toX l1).trans (ExtD.ofN (toX l1).1 e17)
    have A17 := ans_extD hD (X014.trans X1417) hA
    obtain ⟨U, hU, tyU⟩ := hodd H17 (X1014.trans X1417)
    refine ⟨_, rfl, _, rfl, _, rfl, gw, x, ov, rfl, (good_is hgw).1, .inr ⟨f, Ls, A17, oLs, .inr ⟨U, hU, tyU⟩, fun H18 S18 => ⟨rfl, .inr ⟨rfl, ?_⟩⟩, .inr ⟨(good_is hgw).2.2, .inl (.inr ⟨_, tyU, ko_ty T hU⟩)⟩⟩⟩
    obtain ⟨f18, l2⟩ := l1.more e17 T17 S18
    refine ⟨lt, _, _, rfl, rfl, f18, (by show 1 < sizeLine; decide), ?_⟩
    generalize upd H18 lt (.lst (List.replicate 1 (V.str "operation") ++ [V.str "operation"])) = H19 at l2 ⊢
    -- .. with an answer of another form
    refine ⟨_, rfl, .inl ⟨rfl, _, .inl (.inl l2.at_)⟩, ?_⟩
    refine ⟨l2.tab, fun H20 e20 T20 => ?_⟩
    have X1420 : ExtD d H14 H20 := (toX l2).trans (ExtD.ofN (toX l2).1 e20)
    refine ⟨_, rfl, _, rfl, _, rfl, ?_⟩
    intro z3 dz3 nz3 ndz3 ne3
    refine ⟨z3, dz3, _, _, rfl, upd_same, .inl ⟨sf, [], rfl, okN_0 hsf, .inl ⟨rfl, rfl⟩, fun L0 n21 H21 srt at' _ kp => ⟨rfl, ?_⟩⟩⟩
    obtain ⟨_, w21⟩ := newA0 (H := H20) (fun _ _ q => q) hsf nz3 ndz3 srt at' kp
    have A21 := ans_same w21.same (ans_extD hD (X014.trans X1420) hA)
    refine ⟨gw, x, .ref z3, rfl, (good_is hgw).1, .inr ⟨f, Ls, A21, oLs, .inl ⟨z3, rfl, own_ans w21.at_⟩, fun H22 S22 => ⟨rfl, .inr ⟨rfl, ?_⟩⟩, .inr ⟨(good_is hgw).2.2, .inl (.inl ⟨z3, sf, [], rfl, w21.at_, fun q => hne q.symm⟩)⟩⟩⟩
    obtain ⟨f22, l3⟩ := l2.more e20 T20 (w21.same.trans S22)
    refine ⟨lt, _, _, rfl, rfl, f22, (by show 2 < sizeLine; decide), ?_⟩
    generalize upd H22 lt (.lst (List.replicate 2 (V.str "operation") ++ [V.str "operation"])) = H23 at l3 ⊢
    -- combined with an odd value
    refine ⟨_, rfl, .inl ⟨rfl, _, .inl (.inl l3.at_)⟩, ?_⟩
    refine ⟨l3.tab, fun H24 e24 T24 => ?_⟩
    have X1424 : ExtD d H14 H24 := (toX l3).trans (ExtD.ofN (toX l3).1 e24)
    have X1024 := X1014.trans X1424
    have A24 := ans_extD hD (X014.trans X1424) hA
    refine ⟨_, rfl, _, rfl, _, rfl, [.str f], [.ref x, ov], rfl, rfl, (by show 2 ≤ sizeLine; decide), fun p4 m4 => ?_⟩
    have S24 : Same H24 (upd H24 p4 (.tup [.ref x, ov])) := sameNew m4
    have Y24 : ∀ {H' : Hp}, Same (upd H24 p4 (.tup [.ref x, ov])) H' → ExtD d H10 H' := fun S => X1024.trans (ExtD.of (same_roll X1024.1 (S24.trans S)))
    refine ⟨.str f, p4, _, rfl, upd_same, (by show 2 ≤ 10; decide), .inr ⟨f, rfl, oL.form, .inl ⟨fun y hy => ?_, ⟨ov, List.mem_cons_of_mem _ List.mem_cons_self, hnot _ f (Y24 (fun _ _ q => q))⟩, fun H25 S25 => ⟨rfl, .inr ⟨rfl, ?_⟩⟩⟩⟩⟩
    · rcases List.mem_cons.mp hy with rfl | hy
      · exact .inl ⟨x, Ls, rfl, ans_same S24 A24⟩
      · rw [List.mem_singleton.mp hy]
        refine .inr fun H' S' => ?_
        obtain ⟨U', hU', ty'⟩ := hodd H' (Y24 S')
        exact .inr ⟨_, ty', ko_ty T hU'⟩
    obtain ⟨f25, l4⟩ := l3.more e24 T24 (S24.trans S25)
    refine ⟨lt, _, _, rfl, rfl, f25, (by show 3 < sizeLine; decide), ?_⟩
    generalize upd H25 lt (.lst (List.replicate 3 (V.str "operation") ++ [V.str "operation"])) = H26 at l4 ⊢
    -- .. with an answer of another form
    refine ⟨_, rfl, .inl ⟨rfl, _, .inl (.inl l4.at_)⟩, ?_⟩
    refine ⟨l4.tab, fun H27 e27 T27 => ?_⟩
    have X1427 : ExtD d H14 H27 := (toX l4).trans (ExtD.ofN (toX l4).1 e27)
    refine ⟨_, rfl, _, rfl, ?_⟩
    intro z5 dz5 nz5 ndz5 ne5
    refine ⟨z5, dz5, _, _, rfl, upd_same, .inl ⟨sf, [], rfl, okN_0 hsf, .inl ⟨rfl, rfl⟩, fun L0 n28 H28 srt at' _ kp => ⟨rfl, ?_⟩⟩⟩
    obtain ⟨_, w28⟩ := newA0 (H := H27) (fun _ _ q => q) hsf nz5 ndz5 srt at' kp
    have A28 := ans_same w28.same (ans_extD hD (X014.trans X1427) hA)
    refine ⟨_, rfl, [.str f], [.ref z5, .ref x], rfl, rfl, (by show 2 ≤ sizeLine; decide), fun p5 m5 => ?_⟩
    have S28 : Same H28 (upd H28 p5 (.tup [.ref z5, .ref x])) := sameNew m5
    refine ⟨.str f, p5, _, rfl, upd_same, (by show 2 ≤ 10; decide), .inr ⟨f, rfl, oL.form, .inl ⟨fun y hy => ?_, ⟨.ref z5, List.mem_cons_self, ?_⟩, fun H29 S29 => ⟨rfl, .inr ⟨rfl, ?_⟩⟩⟩⟩⟩
    · rcases List.mem_cons.mp hy with rfl | hy
      · exact .inr fun H' S' => .inl ⟨z5, sf, [], rfl, ans_same (S28.trans S') w28.at_, fun q => hne q.symm⟩
      · rw [List.mem_singleton.mp hy]
        exact .inl ⟨x, Ls, rfl, ans_same S28 A28⟩
    · rintro ⟨y, M, ey, hy⟩
      cases ey
      exact hne (ans_form hy (ans_same S28 w28.at_))
    obtain ⟨f29, l5⟩ := l4.more e27 T27 ((w28.same.trans S28).trans S29)
    refine ⟨lt, _, _, rfl, rfl, f29, (by show 4 < sizeLine; decide), ?_⟩
    generalize upd H29 lt (.lst (List.replicate 4 (V.str "operation") ++ [V.str "operation"])) = H30 at l5 ⊢
    -- .. for another form
    refine ⟨_, rfl, .inl ⟨rfl, _, .inl (.inl l5.at_)⟩, ?_⟩
    refine ⟨l5.tab, fun H31 e31 T31 => ?_⟩
    have X1431 : ExtD d H14 H31 := (toX l5).trans (ExtD.ofN (toX l5).1 e31)
    have A31 := ans_extD hD (X014.trans X1431) hA
    refine ⟨_, rfl, _, rfl, [.str sf], [.ref x], rfl, rfl, (by show 1 ≤ sizeLine; decide), fun p6 m6 => ?_⟩
    have S31 : Same H31 (upd H31 p6 (.tup [.ref x])) := sameNew m6
    refine ⟨.str sf, p6, _, rfl, upd_same, (by show 1 ≤ 10; decide), .inr ⟨sf, rfl, hsf, .inl ⟨fun y hy => ?_, ⟨.ref x, List.mem_cons_self, ?_⟩, fun H32 S32 => ⟨rfl, .inr ⟨rfl, ?_⟩⟩⟩⟩⟩
    · rw [List.mem_singleton.mp hy]
      exact .inr fun H' S' => .inl ⟨x, f, Ls, rfl, ans_same (S31.trans S') A31, hne⟩
    · rintro ⟨y, M, ey, hy⟩
      cases ey
      exact hne (ans_form (ans_same S31 A31) hy)
    obtain ⟨f32, l6⟩ := l5.more e31 T31 (S31.trans S32)
    refine ⟨lt, _, _, rfl, rfl, f32, (by show 5 < sizeLine; decide), ?_⟩
    generalize upd H32 lt (.lst (List.replicate 5 (V.str "operation") ++ [V.str "operation"])) = H33 at l6 ⊢
    -- all six
    refine ⟨_, rfl, ?_⟩
    refine ⟨(by show 1 ≤ sizeLine; decide), fun r1 j1 => ?_⟩
    generalize EH34 : upd H33 r1 _ = H34
    have g34 := (congrFun EH34 r1).symm.trans upd_same
    have S34 : Same H33 H34 := by rw [← EH34]; exact sameNew j1
    refine ⟨r1, 6, _, rfl, rfl, g34, (by decide), (by decide), (by rw [sizeLine_eq]; decide), fun r2 j2 => ?_⟩
    rw [show (List.replicate (Int.toNat 6) [V.str "operation"]).flatten = List.replicate 6 (V.str "operation") from rfl]
    generalize EH35 : upd H34 r2 _ = H35
    have g35 := (congrFun EH35 r2).symm.trans upd_same
    have S35 : Same H34 H35 := by rw [← EH35]; exact sameNew j2
    have S3335 := S34.trans S35
    refine ⟨.list (List.replicate 6 (.str "operation")), .list (List.replicate 6 (.str "operation")), .lst (SqL.of (S3335 _ _ l6.at_)) (dp_rep _ 6), .lst (SqL.of g35) (dp_rep _ 6), (by decide +kernel), (by decide +kernel), ?_⟩
    refine ⟨_, rfl, ?_⟩
    have eq6 : PyData.eqv (.list (List.replicate 6 (.str "operation"))) (.list (List.replicate 6 (.str "operation"))) = true := by decide +kernel
    refine ite_f (by rw [eq6]; rfl) ?_
    -- a form that is none
    have X1435 : ExtD d H14 H35 := (toX l6).trans (ExtD.of (same_roll (toX l6).1 S3335))
    have D35 := X1435.1
    refine ⟨_, rfl, ?_⟩
    refine ⟨(by show 1 ≤ sizeLine; decide), fun u1 v1 => ?_⟩
    generalize EH36 : upd H35 u1 _ = H36
    have g36 := (congrFun EH36 u1).symm.trans upd_same
    have S36 : Same H35 H36 := by rw [← EH36]; exact sameNew v1
    refine ⟨(by show 1 ≤ sizeLine; decide), fun u2 v2 => ?_⟩
    generalize EH37 : upd H36 u2 _ = H37
    have g37 := (congrFun EH37 u2).symm.trans upd_same
    have S37 : Same H36 H37 := by rw [← EH37]; exact sameNew v2
    intro u3 v3
    generalize EH38 : upd H37 u3 _ = H38
    have g38 := (congrFun EH38 u3).symm.trans upd_same
    have S38 : Same H37 H38 := by rw [← EH38]; exact sameNew v3
    refine ⟨(by show 0 ≤ sizeLine; decide), fun u4 v4 => ?_⟩
    generalize EH39 : upd H38 u4 _ = H39
    have g39 := (congrFun EH39 u4).symm.trans upd_same
    have S39 : Same H38 H39 := by rw [← EH39]; exact sameNew v4
    refine ⟨(by show 10 ≤ sizeLine; decide), fun u5 v5 => ?_⟩
    generalize EH40 : upd H39 u5 _ = H40
    have g40 := (congrFun EH40 u5).symm.trans upd_same
    have S40 : Same H39 H40 := by rw [← EH40]; exact sameNew v5
    have S3540 : Same H35 H40 := (((S36.trans S37).trans S38).trans S39).trans S40
    have D39 := die_same D35 (((S36.trans S37).trans S38).trans S39)
    have D40 := die_same D39 S40
    refine ⟨d, .ref u5, _, rfl, D40, ⟨D39.ne v5, .inl (SqL.of g40)⟩, (by simp), (by simp), fun wv H41 hwv R41 => ?_⟩
    have t1 := R41.keep u1 _ (D35.ne v1) (S40 _ _ (S39 _ _ (S38 _ _ (S37 _ _ g36))))
    have t2 := R41.keep u2 _ ((die_same D35 S36).ne v2) (S40 _ _ (S39 _ _ (S38 _ _ g37)))
    have t3 := R41.keep u3 _ ((die_same D35 (S36.trans S37)).ne v3) (S40 _ _ (S39 _ _ g38))
    have t4 := R41.keep u4 _ ((die_same D35 ((S36.trans S37).trans S38)).ne v4) (S40 _ _ g39)
    have hwr0 : ∃ dd, Dq K (del H41 d) wv dd ∧ isFormD dd = false := by
      simp only [List.mem_cons, List.mem_nil_iff, or_false] at hwv
      rcases hwv with h | h | h | h | h | h | h | h | h | h <;> subst h
      · exact ⟨_, .non, rfl⟩
      · exact ⟨_, .str _, by decide +kernel⟩
      · exact ⟨_, .str _, by decide +kernel⟩
      · exact ⟨_, .int _, rfl⟩
      · exact ⟨_, .tup (SqT.of (del_new t1 (D35.ne v1))) (.cons (.str _) .nil), rfl⟩
      · exact ⟨_, .str _, by decide +kernel⟩
      · exact ⟨_, .lst (SqL.of (del_new t2 ((die_same D35 S36).ne v2))) (.cons (.str _) .nil), rfl⟩
      · exact ⟨.dict [], .dic (.inl (del_new t3 ((die_same D35 (S36.trans S37)).ne v3))), rfl⟩
      · exact ⟨_, .lst (SqL.of (del_new t4 ((die_same D35 ((S36.trans S37).trans S38)).ne v4))) .nil, rfl⟩
      · exact ⟨_, .bl _, rfl⟩
    have hwr : ∀ H', ExtD d H41 H' → ∃ dd, Dq K H' wv dd ∧ isFormD dd = false := fun H' X => by
      obtain ⟨dd, h1, h2⟩ := hwr0
      exact ⟨dd, dq_same (del_sub H' d) (dq_ext X.2 _ _ h1), h2⟩
    have R3541 : Rolled d H35 H41 := (same_roll D35 S3540).trans R41
    have X1441 : ExtD d H14 H41 := X1435.trans (ExtD.of R3541)
    have T41 : LamX.Tabs (tabs a) H41 := tabs_roll D35 R3541 (l6.tab.ext S3335)
    refine ⟨T41, fun H42 e42 T42 => ?_⟩
    have X4142 : ExtD d H41 H42 := ExtD.ofN R41.die e42
    refine ⟨_, rfl, [wv], [], rfl, rfl, (by show 0 ≤ sizeLine; decide), fun p7 m7 => ?_⟩
    have S42 : Same H42 (upd H42 p7 (.tup [])) := sameNew m7
    obtain ⟨dd, dq1, dq2⟩ := hwr _ (X4142.trans (ExtD.of (same_roll X4142.1 S42)))
    refine ⟨wv, p7, _, rfl, upd_same, (by show 0 ≤ 10; decide), .inl ⟨dd, dq1, dq2, rfl, .inl ⟨rfl, ?_⟩⟩⟩
    generalize upd H42 p7 (.tup []) = H43 at S42 dq1 ⊢
    refine ⟨(by show 1 ≤ sizeLine; decide), ?_⟩
    intro lu nlu
    generalize EH44 : upd H43 lu _ = H44
    have f44 := (congrFun EH44 lu).symm.trans upd_same
    have S44 : Same H43 H44 := by rw [← EH44]; exact sameNew nlu
    have k1 : LtAt a H42 H44 lu 1 "answer" := ⟨free_of S42 nlu, f44, fun b o e _ => (S42.trans S44) _ _ e, T42.ext (S42.trans S44)⟩
    have toX2 : ∀ {H' : Hp} {n : Nat} {w : Str}, LtAt a H42 H' lu n w → ExtD d H42 H' := fun h => ExtD.ofN X4142.1 h.ext
    refine ⟨_, rfl, .inl ⟨rfl, _, .inl (.inl k1.at_)⟩, ?_⟩
    refine ⟨k1.tab, fun H45 e45 T45 => ?_⟩
    have X4145 : ExtD d H41 H45 := X4142.trans ((toX2 k1).trans (ExtD.ofN (toX2 k1).1 e45))
    refine ⟨_, rfl, _, rfl, [wv], [ov], rfl, rfl, (by show 1 ≤ sizeLine; decide), fun p8 m8 => ?_⟩
    have S45 : Same H45 (upd H45 p8 (.tup [ov])) := sameNew m8
    obtain ⟨dd2, dq3, dq4⟩ := hwr _ (X4145.trans (ExtD.of (same_roll X4145.1 S45)))
    refine ⟨wv, p8, _, rfl, upd_same, (by show 1 ≤ 10; decide), .inl ⟨dd2, dq3, dq4, rfl, .inl ⟨rfl, ?_⟩⟩⟩
    obtain ⟨f46, k2⟩ := k1.more e45 T45 S45
    refine ⟨lu, _, _, rfl, rfl, f46, (by show 1 < sizeLine; decide), ?_⟩
    generalize upd (upd H45 p8 (.tup [ov])) lu (.lst (List.replicate 1 (V.str "answer") ++ [V.str "answer"])) = H47 at k2 ⊢
    refine ⟨_, rfl, ?_⟩
    refine ⟨(by show 2 ≤ sizeLine; decide), fun r3 j3 => ?_⟩
    generalize EH48 : upd H47 r3 _ = H48
    have g48 := (congrFun EH48 r3).symm.trans upd_same
    have S48 : Same H47 H48 := by rw [← EH48]; exact sameNew j3
    refine ⟨.list (List.replicate 2 (.str "answer")), .list (List.replicate 2 (.str "answer")), .lst (SqL.of (S48 _ _ k2.at_)) (dp_rep _ 2), .lst (SqL.of g48) (dp_rep _ 2), (by decide +kernel), (by decide +kernel), ?_⟩
    refine ⟨_, rfl, ?_⟩
    have eq2 : PyData.eqv (.list (List.replicate 2 (.str "answer"))) (.list (List.replicate 2 (.str "answer"))) = true := by decide +kernel
    refine ite_f (by rw [eq2]; rfl) ?_
    -- a head of another length
    have X1448 : ExtD d H14 H48 := X1441.trans (X4142.trans ((toX2 k2).trans (ExtD.of (same_roll (toX2 k2).1 S48))))
    have X048 : ExtD d H H48 := X014.trans X1448
    have hp48 := X048.keep (o := .dT (kvsN L)) npd (fun _ z => nomatch z) hp
    have w3 : wOf w L ≤ 3 := wOf_le tm.wid
    have pl : Ls.Perm L := iLs.perm iL
    refine ⟨p, L, w, rfl, hp48, tm, fun H49 S49 => ?_⟩
    refine ⟨_, rfl, ?_⟩
    intro pd npd0
    generalize EH50 : upd H49 pd _ = H50
    have g50 := (congrFun EH50 pd).symm.trans upd_same
    have S50 : Same H49 H50 := by rw [← EH50]; exact sameNew npd0
    refine ⟨(by show 1 ≤ sizeLine; decide), fun q1 nq1 => ?_⟩
    generalize EH51 : upd H50 q1 _ = H51
    have g51 := (congrFun EH51 q1).symm.trans upd_same
    have S51 : Same H50 H51 := by rw [← EH51]; exact sameNew nq1
    refine ⟨_, rfl, _, _, rfl, rfl, q1, _, [.int 4], rfl, rfl, SqT.of g51, (fun z => by cases z), (by omega), (by omega), (by decide), fun q2 H52 S52 hq2 ht2 => ?_⟩
    have tn : (3 - ((wOf w L : Nat) : Int)).toNat = 3 - wOf w L := by omega
    have g52 := ht2 g51
    rw [tn, keyM4] at g52
    refine ⟨S52 _ _ (S51 _ _ g50), [⟨q2, keyN (List.replicate (3 - wOf w L) 4), .int 1⟩], rfl, (fun e he => by rw [List.mem_singleton.mp he]; exact g52), (by show 1 ≤ 15; decide), ?_⟩
    have eM : Dh.mergeT [] ([(⟨q2, keyN (List.replicate (3 - wOf w L) 4), .int 1⟩ : Dh.Pk)].map fun e => (e.key, e.val)) = kvsN (M4 (3 - wOf w L)) := rfl
    rw [eM]
    have S4953 : Same H49 (upd H52 pd (.dT (kvsN (M4 (3 - wOf w L))))) := fun b o e => by
      rw [upd_ne (ne_of_none e npd0)]
      exact S52 _ _ (S51 _ _ (S50 _ _ e))
    have g53 : upd H52 pd (.dT (kvsN (M4 (3 - wOf w L)))) pd = some (.dT (kvsN (M4 (3 - wOf w L)))) := upd_same
    generalize upd H52 pd (.dT (kvsN (M4 (3 - wOf w L)))) = H53 at S4953 g53 ⊢
    have oM : OkN f (M4 (3 - wOf w L)) := okM4 oL.form (by omega)
    intro z4 dz4 nz4 ndz4 ne4
    have c1 : pd ≠ z4 := ne_of_none g53 nz4
    have c2 : pd ≠ dz4 := ne_of_none g53 ndz4
    refine ⟨z4, dz4, _, _, rfl, upd_same, .inl ⟨f, M4 (3 - wOf w L), rfl, oM, .inr ⟨pd, rfl, c1, by rw [upd_ne c1, upd_ne c2]; exact g53⟩, fun L0 n54 H54 srt at' _ kp => ⟨rfl, ?_⟩⟩⟩
    obtain rfl : L0 = M4 (3 - wOf w L) := List.perm_singleton.mp srt.1
    have S5354 : Same H53 H54 := fun b o e => by
      have b1 : b ≠ z4 := ne_of_none e nz4
      exact kp b o b1 (by rw [upd_ne b1, upd_ne (ne_of_none e ndz4)]; exact e)
    have S4854 : Same H48 H54 := (S49.trans S4953).trans S5354
    have A54 := ans_same S4854 (ans_extD hD X048 hA)
    refine ⟨x, f, Ls, rfl, rfl, A54, oLs, fun zb R H55 S55 Ab oR hR => ?_⟩
    -- the last four
    have S4855 : Same H48 H55 := S4854.trans S55
    have D55 : Die H55 d := die_same X048.1 S4855
    have X055 : ExtD d H H55 := X048.trans (ExtD.of (same_roll X048.1 S4855))
    have T55 : LamX.Tabs (tabs a) H55 := k2.tab.ext (S48.trans S4855)
    have hx : ∀ H', ExtD d H55 H' → AnsAt a.c_Answer H' x f Ls ∧ AnsAt a.c_Answer H' z4 f (M4 (3 - wOf w L)) ∧ AnsAt a.c_Answer H' zb f R := fun H' X => ⟨ans_extD D55 X (ans_same S55 A54), ans_extD D55 X (ans_same S55 at'.at), ans_extD D55 X Ab⟩
    have eL : (L = []) = (Ls = []) := propext ⟨fun z => by rw [z] at pl; exact List.perm_nil.mp pl, fun z => by rw [z] at pl; exact List.nil_perm.mp pl⟩
    have eW : 3 - wOf w L = 3 - wOf w Ls := by
      unfold wOf
      simp only [eL]
    have hdL : HdW w Ls := fun q hq => tm.hd q (pl.mem_iff.mp hq)
    have hdR : HdW w R := fun q hq => by
      obtain ⟨r, hr, er⟩ := List.mem_map.mp (hR q hq)
      rw [← er]
      exact hdL r hr
    have lLs : Ls.length ≤ 125 := hdL.len oLs.nd tm.wid
    have lR : R.length ≤ 125 := hdR.len oR.nd tm.wid
    have lM : (M4 (3 - wOf w L)).length = 1 := rfl
    have inL : ∀ p ∈ Ls, p ∈ M4 (3 - wOf w L) ∨ ∃ q ∈ Ls, p.1 = q.1 := fun p hp => .inr ⟨p, hp, rfl⟩
    have inM : ∀ p ∈ M4 (3 - wOf w L), p ∈ M4 (3 - wOf w L) ∨ ∃ q ∈ Ls, p.1 = q.1 := fun p hp => .inl hp
    have inR : ∀ p ∈ R, p ∈ M4 (3 - wOf w L) ∨ ∃ q ∈ Ls, p.1 = q.1 := fun p hp => by
      obtain ⟨r, hr, er⟩ := List.mem_map.mp (hR p hp)
      exact .inr ⟨r, hr, er.symm⟩
    have noM : ∀ M' ∈ ([] : List Nums), ∀ p ∈ M', p ∈ M4 (3 - wOf w L) ∨ ∃ q ∈ Ls, p.1 = q.1 := fun _ z => by cases z
    have hb9 : oneOf Ls (M4 (3 - wOf w L)) = decide (Ls = []) := by
      rw [one_all]
      exact all_M4 eW tm.wid (List.forall_mem_cons.mpr ⟨inL, List.forall_mem_cons.mpr ⟨inM, noM⟩⟩) (by simp) (by simp) hdL
    have hb10 : oneAll [M4 (3 - wOf w L), Ls] = decide (Ls = []) := all_M4 eW tm.wid (List.forall_mem_cons.mpr ⟨inM, List.forall_mem_cons.mpr ⟨inL, noM⟩⟩) (by simp) (by simp) hdL
    have hb11 : oneAll [Ls, R, M4 (3 - wOf w L)] = decide (Ls = []) := all_M4 eW tm.wid (List.forall_mem_cons.mpr ⟨inL, List.forall_mem_cons.mpr ⟨inR, List.forall_mem_cons.mpr ⟨inM, noM⟩⟩⟩) (by simp) (by simp) hdL
    have hb12 : oneAll [Ls, R, [], Ls] = true := all_true (n := w) fun p hp => by
      simp only [List.flatten_cons, List.flatten_nil, List.append_nil, List.nil_append, List.mem_append] at hp
      rcases hp with h | h | h
      · exact (hdL p h).1
      · exact (hdR p h).1
      · exact (hdL p h).1
    refine ⟨T55, fun H56 e56 T56 => ?_⟩
    have X5556 : ExtD d H55 H56 := ExtD.ofN D55 e56
    obtain ⟨Ax6, Az6, Ab6⟩ := hx _ X5556
    refine met_tl (b := decide (Ls = [])) (fun E' Q' g1 g2 => ⟨_, rfl, _, rfl, _, rfl, done_any hgw Ax6 Az6 oLs oM (by omega) hb9 g1 g2⟩) (fun H57 S57 => ?_)
    refine ⟨(by show 1 ≤ sizeLine; decide), ?_⟩
    intro lw nlw
    generalize EH58 : upd H57 lw _ = H58
    have f58 := (congrFun EH58 lw).symm.trans upd_same
    have S58 : Same H57 H58 := by rw [← EH58]; exact sameNew nlw
    have m1 : LtAt a H56 H58 lw 1 (told (decide (Ls = []))) := ⟨free_of S57 nlw, f58, fun b o e _ => (S57.trans S58) _ _ e, T56.ext (S57.trans S58)⟩
    have toX3 : ∀ {H' : Hp} {n : Nat} {w : Str}, LtAt a H56 H' lw n w → ExtD d H55 H' := fun h => X5556.trans (ExtD.ofN X5556.1 h.ext)
    refine ⟨_, rfl, .inl ⟨rfl, _, .inl (.inl m1.at_)⟩, ?_⟩
    refine ⟨m1.tab, fun H59 e59 T59 => ?_⟩
    obtain ⟨Ax7, Az7, Ab7⟩ := hx _ ((toX3 m1).trans (ExtD.ofN (toX3 m1).1 e59))
    refine met_tl (b := decide (Ls = [])) (fun E' Q' g1 g2 => ⟨_, rfl, _, rfl, _, rfl, comb_any (xs := [z4, x]) (Ls := [M4 (3 - wOf w L), Ls]) oL.form (.cons ⟨Az7, oM⟩ (.cons ⟨Ax7, oLs⟩ .nil)) (by show 2 ≤ 10; decide) (by simp only [List.flatten_cons, List.flatten_nil, List.length_append, List.length_nil]; omega) hb10 g1 g2⟩) (fun H60 S60 => ?_)
    obtain ⟨f60, m2⟩ := m1.more e59 T59 S60
    refine ⟨lw, _, _, rfl, rfl, f60, (by show 1 < sizeLine; decide), ?_⟩
    generalize upd H60 lw (.lst (List.replicate 1 (V.str (told (decide (Ls = [])))) ++ [V.str (told (decide (Ls = [])))])) = H61 at m2 ⊢
    refine ⟨_, rfl, .inl ⟨rfl, _, .inl (.inl m2.at_)⟩, ?_⟩
    refine ⟨m2.tab, fun H62 e62 T62 => ?_⟩
    obtain ⟨Ax8, Az8, Ab8⟩ := hx _ ((toX3 m2).trans (ExtD.ofN (toX3 m2).1 e62))
    refine met_tl (b := decide (Ls = [])) (fun E' Q' g1 g2 => ⟨_, rfl, _, rfl, _, rfl, _, rfl, comb_any (xs := [x, zb, z4]) (Ls := [Ls, R, M4 (3 - wOf w L)]) oL.form (.cons ⟨Ax8, oLs⟩ (.cons ⟨Ab8, oR⟩ (.cons ⟨Az8, oM⟩ .nil))) (by show 3 ≤ 10; decide) (by simp only [List.flatten_cons, List.flatten_nil, List.length_append, List.length_nil]; omega) hb11 g1 g2⟩) (fun H63 S63 => ?_)
    obtain ⟨f63, m3⟩ := m2.more e62 T62 S63
    refine ⟨lw, _, _, rfl, rfl, f63, (by show 2 < sizeLine; decide), ?_⟩
    generalize upd H63 lw (.lst (List.replicate 2 (V.str (told (decide (Ls = [])))) ++ [V.str (told (decide (Ls = [])))])) = H64 at m3 ⊢
    refine ⟨_, rfl, .inl ⟨rfl, _, .inl (.inl m3.at_)⟩, ?_⟩
    refine ⟨m3.tab, fun H65 e65 T65 => ?_⟩
    obtain ⟨Ax9, Az9, Ab9⟩ := hx _ ((toX3 m3).trans (ExtD.ofN (toX3 m3).1 e65))
    refine met_tl (b := true) (fun E' Q' g1 g2 => ?_) (fun H66 S66 => ?_)
    · refine ⟨_, rfl, _, rfl, _, rfl, _, rfl, ?_⟩
      intro z6 dz6 nz6 ndz6 ne6
      refine ⟨z6, dz6, _, _, rfl, upd_same, .inl ⟨f, [], rfl, okN_0 oL.form, .inl ⟨rfl, rfl⟩, fun L0 n0 H' srt' at'' _ kp' => ⟨rfl, ?_⟩⟩⟩
      obtain ⟨_, w6⟩ := newA0 (H := H65) (fun _ _ q => q) oL.form nz6 ndz6 srt' at'' kp'
      have Ax10 := ans_same w6.same Ax9
      exact ⟨_, rfl, comb_any (xs := [x, zb, z6, x]) (Ls := [Ls, R, [], Ls]) oL.form (.cons ⟨Ax10, oLs⟩ (.cons ⟨ans_same w6.same Ab9, oR⟩ (.cons ⟨w6.at_, okN_0 oL.form⟩ (.cons ⟨Ax10, oLs⟩ .nil)))) (by show 4 ≤ 10; decide) (by simp only [List.flatten_cons, List.flatten_nil, List.length_append, List.length_nil]; omega) hb12 (fun z H' S c => g1 z H' (w6.same.trans S) c) (fun H' S c => g2 H' (w6.same.trans S) c)⟩
    obtain ⟨f66, e67, T67⟩ := m3.last e65 T65 S66 (.str (told true))
    refine ⟨lw, _, _, rfl, rfl, f66, (by show 3 < sizeLine; decide), ?_⟩
    have f67 : upd H66 lw (.lst (List.replicate 3 (V.str (told (decide (Ls = [])))) ++ [V.str (told true)])) lw = some (.lst (List.replicate 3 (V.str (told (decide (Ls = [])))) ++ [V.str (told true)])) := upd_same
    generalize upd H66 lw (.lst (List.replicate 3 (V.str (told (decide (Ls = [])))) ++ [V.str (told true)])) = H67 at e67 T67 f67 ⊢
    have X5567 : ExtD d H55 H67 := X5556.trans (ExtD.ofN X5556.1 e67)
    have X067 : ExtD d H H67 := X055.trans X5567
    have hp67 := X067.keep (o := .dT (kvsN L)) npd (fun _ z => nomatch z) hp
    refine ⟨_, rfl, ?_⟩
    refine ⟨p, L, rfl, hp67, fun H68 S68 => ?_⟩
    rw [show decide (L = []) = decide (Ls = []) by simp only [eL]]
    refine ⟨(by show 1 ≤ sizeLine; decide), fun r4 j4 => ?_⟩
    generalize EH69 : upd H68 r4 _ = H69
    have g69 := (congrFun EH69 r4).symm.trans upd_same
    have S69 : Same H68 H69 := by rw [← EH69]; exact sameNew j4
    refine ⟨r4, 3, _, rfl, rfl, g69, (by decide), (by decide), (by show 3 ≤ sizeLine; decide), fun r5 j5 => ?_⟩
    rw [show (List.replicate (Int.toNat 3) [V.str (told (decide (Ls = [])))]).flatten = List.replicate 3 (V.str (told (decide (Ls = [])))) from rfl]
    generalize EH70 : upd H69 r5 _ = H70
    have g70 := (congrFun EH70 r5).symm.trans upd_same
    have S70 : Same H69 H70 := by rw [← EH70]; exact sameNew j5
    refine ⟨(by show 1 ≤ sizeLine; decide), fun r6 j6 => ?_⟩
    generalize EH71 : upd H70 r6 _ = H71
    have g71 := (congrFun EH71 r6).symm.trans upd_same
    have S71 : Same H70 H71 := by rw [← EH71]; exact sameNew j6
    refine ⟨r5, r6, _, _, rfl, rfl, S71 _ _ g70, g71, (by show 3 + 1 ≤ sizeLine; decide), fun r7 j7 => ?_⟩
    generalize EH72 : upd H71 r7 _ = H72
    have g72 := (congrFun EH72 r7).symm.trans upd_same
    have S72 : Same H71 H72 := by rw [← EH72]; exact sameNew j7
    have S6772 : Same H67 H72 := (((S68.trans S69).trans S70).trans S71).trans S72
    have eq4 : ∀ b : Bool, PyData.eqv (.list (List.replicate 3 (.str (told b)) ++ [.str (told true)])) (.list (List.replicate 3 (.str (told b)) ++ [.str (told true)])) = true ∧ SeqAt.shaped (.list (List.replicate 3 (.str (told b)) ++ [.str (told true)])) = true := by decide +kernel
    obtain ⟨eqv1, sh1⟩ := eq4 (decide (Ls = []))
    have dp4 : DpAll K H72 (List.replicate 3 (V.str (told (decide (Ls = [])))) ++ [V.str (told true)]) (List.replicate 3 (.str (told (decide (Ls = [])))) ++ [.str (told true)]) := .cons (.str _) (.cons (.str _) (.cons (.str _) (.cons (.str _) .nil)))
    have g73 : H72 r7 = some (.lst (List.replicate 3 (V.str (told (decide (Ls = [])))) ++ [V.str (told true)])) := g72
    refine ⟨_, _, .lst (SqL.of (S6772 _ _ f67)) dp4, .lst (SqL.of g73) dp4, sh1, sh1, ?_⟩
    rw [eqv1]
    exact k H72 (X067.trans (ExtD.of (same_roll X067.1 S6772))) (T67.ext S6772)
end
end K02

set_option Elab.async false
set_option linter.all false
set_option maxRecDepth 100000
set_option maxHeartbeats 4000000
open L2 in
local macro_rules | `(tactic| walk_at "r1") => `(tactic| first
  | refine ⟨_, rfl, ?_⟩
  | refine ⟨_, _, rfl, rfl, ?_⟩)
open L2 in
local macro_rules | `(tactic| walk_at "q1") => `(tactic| first
  | refine ⟨_, rfl, ?_⟩
  | refine ⟨_, _, rfl, rfl, ?_⟩
  | refine And.intro (show CMul _ _ from Or.inr ⟨by decide, by decide⟩) ?_
  | refine And.intro (show CMul _ _ from Or.inl ⟨by first | decide | omega, by first | decide | omega⟩) ?_
  | refine And.intro (show CMul _ _ from Or.inr ⟨by omega, by omega⟩) ?_
  | refine And.intro (show CDiv _ _ from ⟨by omega, by omega⟩) ?_
  | refine And.intro (show Dt.CPowG _ _ from ⟨by decide, by decide +kernel⟩) ?_
  | refine And.intro (by first | decide | omega) ?_
  | refine And.intro (Int.pow_pos (Int.pow_pos (by decide))) ?_
  | refine ⟨_, _, _, _, rfl, rfl, SqL.of (by first | assumption | exact upd_same), (by rfl), ?_⟩
  | refine ⟨_, _, _, _, rfl, rfl, (by first | assumption | exact upd_same), (by rfl), ?_⟩
  | refine Or.inl ⟨_, rfl, ?_⟩
  | refine Or.inr ⟨_, rfl, ?_⟩)
local macro_rules | `(tactic| walk_at "q") => `(tactic| repeat (walk_at "q1"))
local macro_rules | `(tactic| walk_at "eqt") => `(tactic| (refine ⟨_, rfl, ?_⟩; refine ⟨rfl, ?_⟩; first
  | (refine ⟨true, rfl, ?_⟩; refine L2.iteT ?_)
  | (refine ⟨false, rfl, ?_⟩; refine L2.iteF ?_)))
local macro_rules | `(tactic| walk_at "sz") => `(tactic| (rw [PySem.sizeLine_eq]; simp))
namespace K02
open PySem PySem.Spec PyProof.Rows L2 Dt An Rp
section
variable {P : Program} {w : World} {K : PySem.W.Frag} {mg : Str → Option Value} {base : Heap} {a : Ads}
def spLaw (a : Ads) (K : PySem.W.Frag) : Sp := fun vs H Q _ => ∃ (s : Addr) (ns : List Int), vs = [.ref s] ∧ SqL K H s (ns.map V.int) ∧ ns.length ≤ 63 ∧ LamX.Tabs (tabs a) H ∧ ∀ H', Q (.bl true) H'
theorem count_of (L : Nat) (h63 : L ≤ 63) : ∃ m : Nat, (if (if (L : Int) < 63 then (L : Int) else 63) > 2 then (if (L : Int) < 63 then (L : Int) else 63) else 2) = (m : Int) ∧ m ≤ 63 ∧ 2 ≤ m := by
  by_cases h : (L : Int) < 63
  · rw [if_pos h]
    by_cases h1 : (L : Int) > 2
    · rw [if_pos h1]
      exact ⟨L, rfl, by omega, by omega⟩
    · rw [if_neg h1]
      exact ⟨2, rfl, by decide, by decide⟩
  · rw [if_neg h]
    exact ⟨63, rfl, by decide, by decide⟩
/-- the words that the law draws from -/
def wordsOf (f : Str) : List Str := if f = "distinct" then ["|", "&", "^", "|"] else ["+", "-", "n", "+"]
theorem wordsOf_is {f w : Str} (h : w ∈ wordsOf f) : w ∈ words ∧ FormW f w := by
  unfold wordsOf at h
  unfold FormW
  by_cases c : f = "distinct"
  · rw [if_pos c] at h ⊢
    have q : ∀ w ∈ (["|", "&", "^", "|"] : List Str), w ∈ words ∧ (w = "|" ∨ w = "&" ∨ w = "^") := by decide +kernel
    exact q w h
  · rw [if_neg c] at h ⊢
    have q : ∀ w ∈ (["+", "-", "n", "+"] : List Str), w ∈ words ∧ (w = "+" ∨ w = "-" ∨ w = "n") := by decide +kernel
    exact q w h
theorem wordsOf_len (f : Str) : (wordsOf f).length = 4 := by
  unfold wordsOf
  split <;> rfl
def tWords : TE := fun σ H Q => ∃ f, σ[2]? = some (some (V.str f)) ∧ ∀ p, H p = none → Q (.ref p) (upd H p (.lst ((wordsOf f).map V.str)))
theorem words_ok {σ : L2.St} {H : Hp} {Q : VK} (h : tWords σ H Q) : (tIf (tTest (tOp rEq (tVar 2) (tC (V.str "distinct")))) (tLst (tCons (tC (V.str "|")) (tCons (tC (V.str "&")) (tCons (tC (V.str "^")) (tCons (tC (V.str "|")) tNil)))))
    (tLst (tCons (tC (V.str "+")) (tCons (tC (V.str "-")) (tCons (tC (V.str "n")) (tCons (tC (V.str "+")) tNil)))))) σ H Q := by
  obtain ⟨f, h1, k⟩ := h
  refine ⟨_, h1, rfl, _, rfl, ?_⟩
  by_cases c : f = "distinct"
  · refine ite_t (by rw [str_eq_d, decide_eq_true c]) ?_
    refine ⟨(by show 4 ≤ sizeLine; decide), fun p hp0 => ?_⟩
    have := k p hp0
    unfold wordsOf at this
    rwa [if_pos c] at this
  · refine ite_f (by rw [str_eq_d, decide_eq_false c]) ?_
    refine ⟨(by show 4 ≤ sizeLine; decide), fun p hp0 => ?_⟩
    have := k p hp0
    unfold wordsOf at this
    rwa [if_neg c] at this
/-- the word that puts a lot together -/
def lotW (f : Str) : Str := if f = "distinct" then "|" else "+"
def tLotW : TE := fun σ H Q => ∃ f, σ[2]? = some (some (V.str f)) ∧ Q (.str (lotW f)) H
theorem lotW_ok {σ : L2.St} {H : Hp} {Q : VK} (h : tLotW σ H Q) : (tIf (tTest (tOp rEq (tVar 2) (tC (V.str "distinct")))) (tC (V.str "|")) (tC (V.str "+"))) σ H Q := by
  obtain ⟨f, h1, k⟩ := h
  refine ⟨_, h1, rfl, _, rfl, ?_⟩
  unfold lotW at k
  by_cases c : f = "distinct"
  · rw [if_pos c] at k
    exact ite_t (by rw [str_eq_d, decide_eq_true c]) k
  · rw [if_neg c] at k
    exact ite_f (by rw [str_eq_d, decide_eq_false c]) k
theorem lotW_in (f : Str) : lotW f ∈ words := by
  unfold lotW
  split <;> decide +kernel
theorem inN_perm {L M : Nums} (p : L.Perm M) (h : List Int) : inN M h = inN L h := by
  unfold inN
  exact decide_eq_decide.mpr (p.map (·.1)).mem_iff.symm
theorem gWord_perm {w : Str} {L L' M M' : Nums} (ndL : (L.map (·.1)).Nodup) (ndM : (M.map (·.1)).Nodup) (p : L.Perm L') (q : M.Perm M') (h : List Int) : gWord w L' M' h = gWord w L M h := by
  unfold gWord setF
  rw [vN_perm ndL p, vN_perm ndM q, inN_perm p, inN_perm q]
/-- numbers between -B and B -/
def Bnd (B : Int) (L : Nums) : Prop := ∀ q ∈ L, -B < q.2 ∧ q.2 < B
theorem Bnd.vN {B : Int} {L : Nums} (hB : 0 < B) (b : Bnd B L) (h : List Int) : -B < vN L h ∧ vN L h < B := by
  induction L with
  | nil => exact ⟨by show -B < 0; omega, hB⟩
  | cons p L ih =>
    unfold K02.vN
    split
    · exact b p List.mem_cons_self
    · exact ih fun q hq => b q (List.mem_cons_of_mem _ hq)
theorem isF_at {R : Nums} {g : List Int → Int} (i : IsF R g) {q : List Int × Int} (hq : q ∈ R) : q.2 = g q.1 := by rw [← vN_mem i.nd hq, i.at_]
theorem gWord_bnd {w : Str} {L M R : Nums} {B C : Int} (hB : 0 < B) (hC : 1 < C) (bL : Bnd B L) (bM : Bnd C M) (i : IsF R (gWord w L M)) : Bnd (B + C) R := fun q hq => by
  have l := bL.vN hB q.1
  have m := bM.vN (by omega) q.1
  rw [isF_at i hq]
  unfold gWord setF
  repeat' split
  all_goals omega
theorem gWord_in {w : Str} {L M : Nums} {h : List Int} (q : gWord w L M h ≠ 0) : h ∈ L.map (·.1) ∨ h ∈ M.map (·.1) := by
  refine Decidable.byContradiction fun c => q ?_
  have c1 : h ∉ L.map (·.1) := fun z => c (.inl z)
  have c2 : h ∉ M.map (·.1) := fun z => c (.inr z)
  unfold gWord setF inN
  rw [vN_not c1, vN_not c2, decide_eq_false c1, decide_eq_false c2]
  repeat' split
  all_goals first | rfl | contradiction
theorem gWord_hd {w : Str} {n : Nat} {L M R : Nums} (hL : HdW n L) (hM : HdW n M) (i : IsF R (gWord w L M)) : HdW n R := fun q hq => by
  rcases gWord_in (i.head hq) with z | z
  · obtain ⟨p, hp, e⟩ := List.mem_map.mp z
    rw [← e]
    exact hL p hp
  · obtain ⟨p, hp, e⟩ := List.mem_map.mp z
    rw [← e]
    exact hM p hp
theorem gWord_one {w : Str} {f : Str} {L M R : Nums} (hf : f = "distinct") (fw : FormW f w) (i : IsF R (gWord w L M)) : ∀ q ∈ R, q.2 = 1 := fun q hq => by
  have z := i.head hq
  rw [isF_at i hq]
  unfold FormW at fw
  rw [if_pos hf] at fw
  unfold gWord setF at z ⊢
  have n1 : ("|" : Str) ≠ "+" ∧ ("|" : Str) ≠ "-" ∧ ("|" : Str) ≠ "n" ∧ ("&" : Str) ≠ "+" ∧ ("&" : Str) ≠ "-" ∧ ("&" : Str) ≠ "n" ∧ ("^" : Str) ≠ "+" ∧ ("^" : Str) ≠ "-" ∧ ("^" : Str) ≠ "n" := by decide +kernel
  obtain ⟨a1, a2, a3, a4, a5, a6, a7, a8, a9⟩ := n1
  rcases fw with e | e | e <;> subst e
  · rw [if_neg a1, if_neg a2, if_neg a3] at z ⊢
    revert z
    repeat' split
    all_goals simp
  · rw [if_neg a4, if_neg a5, if_neg a6] at z ⊢
    revert z
    repeat' split
    all_goals simp
  · rw [if_neg a7, if_neg a8, if_neg a9] at z ⊢
    revert z
    repeat' split
    all_goals simp
theorem ok_hd {f : Str} {w : Nat} {R : Nums} (hf : f ∈ forms) (hw : w ≤ 3) (nd : (R.map (·.1)).Nodup) (nz : ∀ q ∈ R, q.2 ≠ 0) (h1 : f = "distinct" → ∀ q ∈ R, q.2 = 1) (hd : HdW w R) : OkN f R := by
  refine ok_of hf nd (fun p hp => intsK (fun n hn => five_bnd n ((hd p hp).2 n hn)) (by rw [(hd p hp).1]; exact hw)) (fun p hp q hq => by rw [(hd p hp).1, (hd q hq).1]) (fun p hp => ?_) (Nat.le_trans (hd.len nd hw) (by decide))
  rw [numOk_int]
  split
  · exact decide_eq_true (h1 ‹_› p hp)
  · exact decide_eq_true (nz p hp)
theorem gWord_ok {w : Str} {f : Str} {n : Nat} {L M R : Nums} (hf : f ∈ forms) (hn : n ≤ 3) (fw : FormW f w) (hL : HdW n L) (hM : HdW n M) (i : IsF R (gWord w L M)) : OkN f R :=
  ok_hd hf hn i.nd i.nz (fun e => gWord_one e fw i) (gWord_hd hL hM i)
theorem GoodW.hd {w : Nat} {f : Str} {M : Nums} (g : GoodW w f M) : HdW w M := fun p hp => ⟨(g.each p hp).1, (g.each p hp).2.1⟩
theorem GoodW.bnd {w : Nat} {f : Str} {M : Nums} (g : GoodW w f M) : Bnd (10 ^ 80) M := fun p hp => (g.each p hp).2.2.2
theorem one_hd {w : Nat} {L M : Nums} (hL : HdW w L) (hM : HdW w M) : oneOf L M = true := one_of.mpr fun p hp q hq => by
  have e : ∀ p ∈ L ++ M, p.1.length = w := fun p hp => by
    rcases List.mem_append.mp hp with h | h
    · exact (hL p h).1
    · exact (hM p h).1
  rw [e p hp, e q hq]
theorem HdW.perm {w : Nat} {L M : Nums} (p : L.Perm M) (h : HdW w L) : HdW w M := fun q hq => h q (p.mem_iff.mpr hq)
/-- what stands at a turn of law -/
structure LS (a : Ads) (K : PySem.W.Frag) (s0 : Addr) (ns : List Int) (f : Str) (w : Nat) (i : Nat) (d pw pk ax lt : Addr) (L Ls : Nums) (ls : List Addr) (Ms : List Nums) (H : Hp) : Prop where
  scr : SqL K H s0 (ns.map V.int)
  tab : LamX.Tabs (tabs a) H
  die : Die H d
  words : H pw = some (.lst ((wordsOf f).map V.str))
  known : H pk = some (.dT (kvsN L))
  ans : AnsAt a.c_Answer H ax f Ls
  sort : SortN Ls
  pl : Ls.Perm L
  okL : OkN f L
  hd : HdW w L
  bnd : Bnd ((i + 1 : Nat) * 10 ^ 80) L
  late : H lt = some (.lst (ls.map V.ref))
  lls : ls.length ≤ 3
  each : Paired (fun p M => H p = some (.dT (kvsN M)) ∧ GoodW w f M) ls Ms
theorem ne_same (T : Txt K mg a) {H : Hp} {x y : Addr} {f : Str} {L : Nums} {Q : VK} (h1 : AnsAt a.c_Answer H x f L) (h2 : AnsAt a.c_Answer H y f L) (nd : (L.map (·.1)).Nodup) (k : Q (.bl false) H) : Ow.rNeO K a.c_Answer (spEqA K a.c_Answer) E0 (.ref x) (.ref y) H Q := by
  refine ⟨x, .ref a.c_Answer, rfl, own_ans h1, ans_ty T h2, notFirst_own, x, f, L, _, rfl, h1, .inl ⟨y, f, L, rfl, h2, _, rfl, ?_⟩⟩
  rw [decide_eq_true rfl, eqN_refl nd]
  exact k
theorem B_pos (i : Nat) : (0 : Int) < ((i + 1 : Nat) : Int) * 10 ^ 80 := Int.mul_pos (by omega) (by decide +kernel)
theorem tame_of {w : Nat} {L : Nums} {B : Int} (hw : w ≤ 3) (hd : HdW w L) (b : Bnd B L) (hB : B ≤ 10 ^ 82) : Tame w L := ⟨hw, hd, fun q hq => by
  have z := b q hq
  exact ⟨by omega, by omega⟩⟩
theorem B_le {i : Nat} (h : i < 64) : ((i + 1 : Nat) : Int) * 10 ^ 80 ≤ 10 ^ 82 := by
  have h1 : ((i + 1 : Nat) : Int) * 10 ^ 80 ≤ 64 * 10 ^ 80 := Int.mul_le_mul_of_nonneg_right (by omega) (by decide +kernel)
  exact Int.le_trans h1 (by decide +kernel)
theorem B_next (i : Nat) : ((i + 1 : Nat) : Int) * 10 ^ 80 + 10 ^ 80 = ((i + 1 + 1 : Nat) : Int) * 10 ^ 80 := by
  rw [Int.natCast_add (i + 1) 1, Int.add_mul]
  rfl
theorem extS {H1 H2 H3 : Hp} {d s : Addr} {xs : List V} (hd : H1 d = none) (S : ∀ b o, H1 b = some o → H2 b = some o) (X : ExtD d H2 H3) (h : SqL K H1 s xs) : SqL K H3 s xs := by
  rcases h with (h | ⟨o, h⟩) | h
  · exact .inl (.inl (X.keep (ne_of_none h hd) (fun _ z => nomatch z) (S _ _ h)))
  · exact .inl (.inr ⟨o, X.keep (ne_of_none h hd) (fun _ z => nomatch z) (S _ _ h)⟩)
  · exact .inr h
theorem cut_last (xs : List V) (k : Nat) : cutV xs (some (-((k + 1 : Nat) : Int))) none = xs.drop (xs.length - (k + 1)) := by
  unfold cutV
  rw [HT.sIx_none]
  have e : HT.sIx xs.length 0 (some (-((k + 1 : Nat) : Int))) = xs.length - (k + 1) := by
    show (if (-((k + 1 : Nat) : Int)) < 0 then ((-((k + 1 : Nat) : Int)) + (xs.length : Int)).toNat else _) = _
    rw [if_pos (by omega)]
    omega
  rw [e]
  exact List.take_of_length_le (by rw [List.length_drop]; exact Nat.le_refl _)
theorem p_len {α β : Type} {F : α → β → Prop} : ∀ {xs : List α} {ys : List β}, Paired F xs ys → xs.length = ys.length
  | _, _, .nil => rfl
  | _, _, .cons _ t => congrArg (· + 1) (p_len t)
theorem p_drop {α β : Type} {F : α → β → Prop} : ∀ {xs : List α} {ys : List β} (k : Nat), Paired F xs ys → Paired F (xs.drop k) (ys.drop k)
  | _, _, 0, h => h
  | _, _, _ + 1, .nil => .nil
  | _, _, k + 1, .cons _ t => p_drop k t
theorem p_take {α β : Type} {F : α → β → Prop} : ∀ {xs : List α} {ys : List β} (k : Nat), Paired F xs ys → Paired F (xs.take k) (ys.take k)
  | _, _, 0, _ => .nil
  | _, _, _ + 1, .nil => .nil
  | _, _, k + 1, .cons h t => .cons h (p_take k t)
theorem p_get {α β : Type} {F : α → β → Prop} : ∀ {xs : List α} {ys : List β}, Paired F xs ys → ∀ {i : Nat} {x : α}, xs[i]? = some x → ∃ y, ys[i]? = some y ∧ F x y
  | _, _, .nil, _, _, e => by cases e
  | _, _, .cons h _, 0, _, e => by
    cases e
    exact ⟨_, rfl, h⟩
  | _, _, .cons _ t, i + 1, _, e => p_get t (i := i) e
theorem p_mem {α β : Type} {F : α → β → Prop} : ∀ {xs : List α} {ys : List β}, Paired F xs ys → ∀ {y : β}, y ∈ ys → ∃ x, x ∈ xs ∧ F x y
  | _, _, .nil, _, e => by cases e
  | _, _, .cons h t, y, e => by
    rcases List.mem_cons.mp e with rfl | e
    · exact ⟨_, List.mem_cons_self, h⟩
    · obtain ⟨x, hx, q⟩ := p_mem t e
      exact ⟨x, List.mem_cons_of_mem _ hx, q⟩
theorem p_rev {α β : Type} {F : α → β → Prop} : ∀ {xs : List α} {ys : List β}, Paired F xs ys → Paired F xs.reverse ys.reverse
  | _, _, .nil => .nil
  | _, _, .cons h t => by
    rw [List.reverse_cons, List.reverse_cons]
    exact paired_snoc h (p_rev t)
theorem comb_sort {f : Str} : ∀ {Ks Ms : List Nums}, Paired (fun K M => SortOf M K ∧ (M.map (·.1)).Nodup) Ks Ms → ∀ h, comb f Ks h = comb f Ms h := by
  intro Ks Ms p h
  have e1 : Ks.any (fun L => inN L h) = Ms.any (fun L => inN L h) := by
    induction p with
    | nil => rfl
    | cons q t ih => rw [List.any_cons, List.any_cons, ih, inN_perm q.1.1]
  have e2 : (Ks.map fun L => vN L h).sum = (Ms.map fun L => vN L h).sum := by
    induction p with
    | nil => rfl
    | cons q t ih =>
      rw [List.map_cons, List.map_cons, List.sum_cons, List.sum_cons, ih (by
        rw [List.any_cons, List.any_cons, inN_perm q.1.1] at e1
        exact (by
          have : ∀ {Ks Ms : List Nums}, Paired (fun K M => SortOf M K ∧ (M.map (·.1)).Nodup) Ks Ms → Ks.any (fun L => inN L h) = Ms.any (fun L => inN L h) := fun p => by
            induction p with
            | nil => rfl
            | cons q t ih => rw [List.any_cons, List.any_cons, ih, inN_perm q.1.1]
          exact this t)), vN_perm q.2 q.1.1.symm]
  unfold comb
  rw [e1, e2]
theorem comb_rev (f : Str) (Ks : List Nums) (h : List Int) : comb f Ks.reverse h = comb f Ks h := by
  unfold comb
  rw [List.any_reverse, List.map_reverse, List.sum_reverse]
theorem comb_step {f : Str} {Ms : List Nums} {R M : Nums} (i : IsF R (comb f Ms)) (h : List Int) : gWord (lotW f) R M h = comb f (Ms ++ [M]) h := by
  have n1 : ("|" : Str) ≠ "+" ∧ ("|" : Str) ≠ "-" ∧ ("|" : Str) ≠ "n" := by decide +kernel
  obtain ⟨a1, a2, a3⟩ := n1
  by_cases c : f = "distinct"
  · subst c
    unfold gWord lotW
    rw [if_pos rfl, if_neg a1, if_neg a2, if_neg a3, if_pos rfl]
    exact comb_set i h
  · unfold gWord lotW
    rw [if_neg c, if_pos rfl]
    exact comb_add c i h
theorem comb_hd {f : Str} {w : Nat} {Ms : List Nums} {R : Nums} (hM : ∀ M ∈ Ms, HdW w M) (i : IsF R (comb f Ms)) : HdW w R := fun q hq => by
  obtain ⟨p, hp, e⟩ := List.mem_map.mp (comb_in (i.head hq))
  obtain ⟨M, h1, h2⟩ := List.mem_flatten.mp hp
  rw [← e]
  exact hM M h1 p h2
theorem comb_bnd {f : Str} {Ms : List Nums} {R : Nums} (hM : ∀ M ∈ Ms, Bnd (10 ^ 80) M) (h3 : Ms.length ≤ 3) (i : IsF R (comb f Ms)) : Bnd (10 ^ 82) R := fun q hq => by
  have big : (0 : Int) < 10 ^ 80 := by decide +kernel
  have sm : ∀ Ms : List Nums, (∀ M ∈ Ms, Bnd (10 ^ 80) M) → -((Ms.length : Nat) * 10 ^ 80 : Int) ≤ (Ms.map fun L => vN L q.1).sum ∧ (Ms.map fun L => vN L q.1).sum ≤ (Ms.length : Nat) * 10 ^ 80 := fun Ms => by
    induction Ms with
    | nil => intro _; exact ⟨by simp, by simp⟩
    | cons M r ih =>
      intro h
      have a1 := ih fun M hM => h M (List.mem_cons_of_mem _ hM)
      have a2 := (h M List.mem_cons_self).vN big q.1
      rw [List.map_cons, List.sum_cons, List.length_cons, Int.natCast_add, Int.add_mul]
      omega
  rw [isF_at i hq]
  unfold comb
  split
  · split <;> exact ⟨by decide +kernel, by decide +kernel⟩
  · have a := sm Ms hM
    have b : ((Ms.length : Nat) : Int) * 10 ^ 80 ≤ 3 * 10 ^ 80 := Int.mul_le_mul_of_nonneg_right (by omega) (Int.le_of_lt big)
    have c : (3 : Int) * 10 ^ 80 < 10 ^ 82 := by decide +kernel
    omega
theorem comb_ok {f : Str} {w : Nat} {Ms : List Nums} {R : Nums} (hf : f ∈ forms) (hw : w ≤ 3) (hM : ∀ M ∈ Ms, HdW w M) (i : IsF R (comb f Ms)) : OkN f R := by
  refine ok_hd hf hw i.nd i.nz (fun e q hq => ?_) (comb_hd hM i)
  have z := i.head hq
  rw [isF_at i hq]
  unfold comb at z ⊢
  rw [if_pos e] at z ⊢
  by_cases c : Ms.any (fun L => inN L q.1) = true
  · rw [if_pos c]
  · rw [if_neg c] at z
    exact absurd rfl z
theorem flat_len {n : Nat} : ∀ {Ls : List Nums}, (∀ L ∈ Ls, L.length ≤ n) → Ls.flatten.length ≤ n * Ls.length
  | [], _ => Nat.zero_le _
  | L :: r, h => by
    have := flat_len (Ls := r) fun M hM => h M (List.mem_cons_of_mem _ hM)
    have h0 := h L List.mem_cons_self
    rw [List.flatten_cons, List.length_append, List.length_cons, Nat.mul_succ]
    omega
theorem AllA.upd {C : Addr} {H : Hp} {f : Str} {xs : List Addr} {Ls : List Nums} {D : Addr} {o : HO} {zs : List V} (h : AllA C H f xs Ls) (hD : H D = some (.lst zs)) : AllA C (upd H D o) f xs Ls :=
  Paired.mapP h fun x L e => ⟨ans_ext (fun b u _ nl z => by
    rw [upd_ne (fun y => by rw [y, hD] at z; exact nl _ (Option.some.inj z).symm)]
    exact z) e.1, e.2⟩
theorem p_meml {α β : Type} {F : α → β → Prop} : ∀ {xs : List α} {ys : List β}, Paired F xs ys → ∀ {x : α}, x ∈ xs → ∃ y, y ∈ ys ∧ F x y
  | _, _, .nil, _, e => by cases e
  | _, _, .cons h t, x, e => by
    rcases List.mem_cons.mp e with rfl | e
    · exact ⟨_, List.mem_cons_self, h⟩
    · obtain ⟨y, hy, q⟩ := p_meml t e
      exact ⟨y, List.mem_cons_of_mem _ hy, q⟩
theorem ext_keep {d : Addr} {H H' : Hp} (hD : Die H d) (X : ExtD d H H') {b : Addr} {o : HO} (n : ∀ ps, o ≠ .tbl ps) (nl : ∀ xs : List V, o ≠ .lst xs) (e : H b = some o) : H' b = some o := X.keep (fun z => by
  obtain ⟨u, v, y, q⟩ := hD
  rw [z, q] at e
  exact nl _ (Option.some.inj e).symm) n e
theorem ok_law (T : Txt K mg a) (TB : TabsB base mg a) : Rp.FnG P w K mg base CX0 12 a.law a.fd_law ps_law (spLaw a K) := by
  have F := T.F_law
  refine okGC (k := 11) F sc_law (fun vs H Q E h => ?_) (fun cdv A outer s H vs Q E hr hg hcd h => ?_)
  · obtain ⟨s0, ns, rfl, hS, hl, hT, k⟩ := h
    rfl
  · obtain ⟨s0, ns, rfl, hS, hl, hT, k⟩ := h
    have hu := hu_of hr
    obtain ⟨ds, vds, bds⟩ := bd_Answer___init__ T
    refine ⟨_, (pss_cons (ps_set (i := 1) sc_law.nd rfl (Or.inl rfl) (pe_call (ok_dice T) (hr.mono (by decide)) (by rfl) T.g_dice T.F_dice.kp (b_dice T) .nil pass0 (pa_cons (pv 0) (pa_cons pe_int pa_nil))))
      (pss_cons (ps_asg (pe_tup (pa_cons (pe_call (ok_pick T) (hr.mono (by decide)) (by rfl) T.g_pick T.F_pick.kp (b_pick T) .nil pass0 (pa_cons (pv 1) (pa_cons (pe_lst (pa_cons pe_str (pa_cons pe_str (pa_cons pe_str pa_nil)))) pa_nil))) (pa_cons (pe_call (ok_roll T) (hr.mono (by decide)) (by rfl) T.g_roll T.F_roll.kp (b_roll T) .nil pass0 (pa_cons (pv 1) (pa_cons pe_int pa_nil))) pa_nil))) (pg_tup rfl (pgs_cons (pg_name (i := 2) sc_law.nd rfl (Or.inr rfl)) (pgs_cons (pg_name (i := 3) sc_law.nd rfl (Or.inl rfl)) pgs_nil))))
      (pss_cons (ps_set (i := 4) sc_law.nd rfl (Or.inl rfl) (PE.to (t' := tWords) (pe_ifExp (pt_cmpR op_eq (pv 2) pe_str (nomark _)) (pe_lst (pa_cons pe_str (pa_cons pe_str (pa_cons pe_str (pa_cons pe_str pa_nil))))) (pe_lst (pa_cons pe_str (pa_cons pe_str (pa_cons pe_str (pa_cons pe_str pa_nil)))))) (fun σ H Q h => words_ok h)))
      (pss_cons (ps_par3 (i := 5) (j := 6) (l := 7) rfl sc_law.nd rfl rfl rfl (by decide) (by decide) (by decide) rfl rfl rfl (pa_cons pe_dnewT (pa_cons (pe_make T.mk_Answer (ok_Answer___init__ T) (hr.mono (by decide)) (by rfl) T.g_c_Answer bds vds never (pa_cons (pv 2) pa_nil)) (pa_cons (pe_lst pa_nil) pa_nil))) (by rfl))
      (pss_cons (ps_for PassesOwn.never rfl (pi_range1 (by rfl) T.range (pa_cons (pe_callB (call_max2 rfl) (by rfl) T.max (by decide +kernel) (pa_cons pe_int (pa_cons (pe_callB (call_min2 rfl) (by rfl) T.min (by decide +kernel) (pa_cons pe_int (pa_cons (pe_callB call_len (by rfl) T.len (by decide +kernel) (pa_cons (pv 0) pa_nil)) pa_nil))) pa_nil))) pa_nil)) (pg_name (i := 8) sc_law.nd rfl (Or.inl rfl)) (pss_cons (ps_set (i := 1) sc_law.nd rfl (Or.inl rfl) (pe_call (ok_dice T) (hr.mono (by decide)) (by rfl) T.g_dice T.F_dice.kp (b_dice T) .nil pass0 (pa_cons (pv 0) (pa_cons (pv 8) pa_nil))))
      (pss_cons (ps_par (i := 9) (j := 10) rfl sc_law.nd rfl rfl (by decide) rfl rfl (pa_cons (pe_call (ok_pick T) (hr.mono (by decide)) (by rfl) T.g_pick T.F_pick.kp (b_pick T) .nil pass0 (pa_cons (pv 1) (pa_cons (pv 4) pa_nil))) (pa_cons (pe_call (ok_numbers T) (hr.mono (by decide)) (by rfl) T.g_numbers T.F_numbers.kp (b_numbers T) .nil pass0 (pa_cons (pv 1) (pa_cons (pv 2) (pa_cons (pv 3) pa_nil)))) pa_nil)) (by rfl))
      (pss_cons (ps_par (i := 11) (j := 12) rfl sc_law.nd rfl rfl (by decide) rfl rfl (pa_cons (pe_make T.mk_Answer (ok_Answer___init__ T) (hr.mono (by decide)) (by rfl) T.g_c_Answer (b_Answer___init__ T) .nil never (pa_cons (pv 2) (pa_cons (pv 10) pa_nil))) (pa_cons (pe_call (ok_by_word T) (hr.mono (by decide)) (by rfl) T.g_by_word T.F_by_word.kp (b_by_word T) .nil pass0 (pa_cons (pv 9) (pa_cons (pv 5) (pa_cons (pv 10) pa_nil)))) pa_nil)) (by rfl))
      (pss_cons (ps_set (i := 13) sc_law.nd rfl (Or.inl rfl) (pe_call (ok_done T) (hr.mono (by decide)) (by rfl) T.g_done T.F_done.kp (b_done T) .nil never (pa_cons (pv 9) (pa_cons (pv 6) (pa_cons (pv 11) pa_nil)))))
      (pss_cons (ps_if (PW.pt (pw_or (pt_not (pt_val (Rp.pe_callG (ok_is T) (hr.mono (by decide)) hg (by rfl) T.g_is T.F_is.kp (b_is T) pass0 (pa_cons (pv 13) (pa_cons (pv 2) (pa_cons (pv 12) pa_nil)))))) (pw_or1 (pt_cmpR (Ow.op_neO ⟨T.fi__eq__, T.fn__eq__, ok_Answer___eq__ T, b_Answer___eq__ T⟩ T.ne_A T.so_A (hr.mono (by decide)) pass0) (pe_call (ok_done_at_once T) (hr.mono (by decide)) (by rfl) T.g_done_at_once T.F_done_at_once.kp (b_done_at_once T) .nil pass0 (pa_cons (pv 9) (pa_cons (pv 6) (pa_cons (pv 11) pa_nil)))) (pv 13) (nomark _))))) (pss_one (ps_ret pe_bl)) pss_nil)
      (pss_cons (ps_if (PW.pt (pw_or (pt_not (pt_val (Rp.pe_callG (ok_is T) (hr.mono (by decide)) hg (by rfl) T.g_is T.F_is.kp (b_is T) pass0 (pa_cons (pv 6) (pa_cons (pv 2) (pa_cons (pv 5) pa_nil)))))) (pw_or1 (pt_not (pt_val (Rp.pe_callG (ok_is T) (hr.mono (by decide)) hg (by rfl) T.g_is T.F_is.kp (b_is T) pass0 (pa_cons (pv 11) (pa_cons (pv 2) (pa_cons (pv 10) pa_nil))))))))) (pss_one (ps_ret pe_bl)) pss_nil)
      (pss_cons (ps_set (i := 7) sc_law.nd rfl (Or.inl rfl) (pe_slice sl_list (pe_op op_cat (pv 7) (pe_lst (pa_cons (pv 10) pa_nil))) (po_some (pe_un un_neg pe_int)) po_none))
      (pss_cons (ps_set (i := 14) sc_law.nd rfl (Or.inl rfl) (pe_slice sl_list (pe_lc (own := [("_law_one", 15)]) rfl sc_law.nd (pi_list (pv 7)) (blkOk_by (N := nm_law) (sc := defScope s_law) (by decide +kernel)) (fun _ _ _ _ _ => (pg_name (i := 15) sc_law.nd rfl (Or.inl rfl))) (fun _ _ _ _ _ => pts_nil) (fun _ _ _ _ _ => (pe_make T.mk_Answer (ok_Answer___init__ T) (hr.mono (by decide)) (by rfl) T.g_c_Answer (b_Answer___init__ T) .nil never (pa_cons (pv 2) (pa_cons (pv 15) pa_nil))))) po_none (po_some (pe_op op_add pe_int (pe_call (ok_roll T) (hr.mono (by decide)) (by rfl) T.g_roll T.F_roll.kp (b_roll T) .nil pass0 (pa_cons (pv 1) (pa_cons pe_int pa_nil)))))))
      (pss_cons (ps_set (i := 16) sc_law.nd rfl (Or.inl rfl) pe_dnewT)
      (pss_cons (ps_for PassesOwn.never rfl (pi_list (pe_slice sl_list (pv 7) po_none (po_some (pe_callB call_len (by rfl) T.len (by decide +kernel) (pa_cons (pv 14) pa_nil))))) (pg_name (i := 15) sc_law.nd rfl (Or.inl rfl)) (pss_one (ps_set (i := 16) sc_law.nd rfl (Or.inl rfl) (pe_call (ok_by_word T) (hr.mono (by decide)) (by rfl) T.g_by_word T.F_by_word.kp (b_by_word T) .nil pass0 (pa_cons (PE.to (t' := tLotW) (pe_ifExp (pt_cmpR op_eq (pv 2) pe_str (nomark _)) pe_str pe_str) (fun σ H Q h => lotW_ok h)) (pa_cons (pv 16) (pa_cons (pv 15) pa_nil)))))))
      (pss_cons (ps_set (i := 17) sc_law.nd rfl (Or.inl rfl) (pe_call (ok_together T) (hr.mono (by decide)) (by rfl) T.g_together T.F_together.kp (b_together T) .nil pass0 (pa_cons (pv 2) (pa_cons (pv 14) pa_nil))))
      (pss_cons (ps_if (PW.pt (pw_or (pt_not (pt_val (Rp.pe_callG (ok_is T) (hr.mono (by decide)) hg (by rfl) T.g_is T.F_is.kp (b_is T) pass0 (pa_cons (pv 17) (pa_cons (pv 2) (pa_cons (pv 16) pa_nil)))))) (pw_or1 (pt_cmpR (Ow.op_neO ⟨T.fi__eq__, T.fn__eq__, ok_Answer___eq__ T, b_Answer___eq__ T⟩ T.ne_A T.so_A (hr.mono (by decide)) pass0) (pe_call (ok_together T) (hr.mono (by decide)) (by rfl) T.g_together T.F_together.kp (b_together T) .nil pass0 (pa_cons (pv 2) (pa_cons (pe_revL (pv 14)) pa_nil))) (pv 17) (nomark _))))) (pss_one (ps_ret pe_bl)) pss_nil)
      (pss_cons (ps_par (i := 5) (j := 6) rfl sc_law.nd rfl rfl (by decide) rfl rfl (pa_cons (pv 12) (pa_cons (pv 13) pa_nil)) (by rfl))
      (pss_one (ps_if (PW.pt (pw_and (pt_cmpR op_eq (pe_op op_mod (pe_callTy call_int1 (by rfl) T.int (by decide +kernel) (pa_cons (pv 8) pa_nil)) pe_int) pe_int (nomark _)) (pw_and1 (pt_not (pt_val (Rp.pe_callG (ok_wrong_right T TB) (hr.mono (by decide)) hg (by rfl) T.g_wrong_right T.F_wrong_right.kp (b_wrong_right T) pass0 (pa_cons (pv 1) (pa_cons (pv 2) (pa_cons (pv 6) (pa_cons (pv 5) pa_nil)))))))))) (pss_one (ps_ret pe_bl)) pss_nil))))))))))))))))
      (pss_one (ps_ret (pe_and (Rp.pe_callG (ok_is T) (hr.mono (by decide)) hg (by rfl) T.g_is T.F_is.kp (b_is T) pass0 (pa_cons (Sf.pe_callR (ok_combined T) (hr.mono (by decide)) T.F_combined.kp (by rfl) T.g_combined never (pa_cons (pv 2) pa_nil)) (pa_cons (pv 2) (pa_cons pe_dnewT pa_nil)))) (pe_one (Rp.pe_callG (ok_wrong_right T TB) (hr.mono (by decide)) hg (by rfl) T.g_wrong_right T.F_wrong_right.kp (b_wrong_right T) pass0 (pa_cons (pv 1) (pa_cons (pv 2) (pa_cons (pe_make T.mk_Answer (ok_Answer___init__ T) (hr.mono (by decide)) (by rfl) T.g_c_Answer bds vds never (pa_cons (pv 2) pa_nil)) (pa_cons pe_dnewT pa_nil)))))))))))))), ?_⟩
    refine ⟨_, rfl, s0, ns, 0, rfl, hS, hl, by omega, fun d0 H1 nd0 hD1 S1 => ?_⟩
    refine ⟨_, rfl, ?_⟩
    refine ⟨(by show 3 ≤ sizeLine; decide), fun c1 m1 => ?_⟩
    generalize EH2 : upd H1 c1 _ = H2
    have g1 := (congrFun EH2 c1).symm.trans upd_same
    have S2 : Same H1 H2 := by rw [← EH2]; exact sameNew m1
    refine ⟨d0, .ref c1, _, rfl, die_same hD1 S2, ⟨hD1.ne m1, .inl (SqL.of g1)⟩, (by decide), (by decide), fun v H3 hv R3 => ?_⟩
    obtain ⟨f, rfl, hf⟩ : ∃ f, v = .str f ∧ f ∈ forms := by
      obtain ⟨z, hz, rfl⟩ := List.mem_map.mp (show v ∈ forms.map V.str from hv)
      exact ⟨z, rfl, hz⟩
    refine ⟨_, rfl, d0, 4, rfl, R3.die, (by decide), (by decide), fun r H4 r0 r4 R4 => ?_⟩
    obtain ⟨w, rfl⟩ := Int.eq_ofNat_of_zero_le r0
    have hw3 : w ≤ 3 := by omega
    refine ⟨(by show 2 ≤ sizeLine; decide), fun t1 tn1 => ?_⟩
    generalize EH5 : upd H4 t1 _ = H5
    have gt1 := (congrFun EH5 t1).symm.trans upd_same
    have S5 : Same H4 H5 := by rw [← EH5]; exact sameNew tn1
    refine ⟨t1, _, rfl, SqT.of gt1, rfl, _, _, rfl, _, _, rfl, rfl, ?_⟩
    refine ⟨f, rfl, fun pw nw => ?_⟩
    generalize EH6 : upd H5 pw _ = H6
    have gw := (congrFun EH6 pw).symm.trans upd_same
    have S6 : Same H5 H6 := by rw [← EH6]; exact sameNew nw
    intro pk nk
    generalize EH7 : upd H6 pk _ = H7
    have gk := (congrFun EH7 pk).symm.trans upd_same
    have S7 : Same H6 H7 := by rw [← EH7]; exact sameNew nk
    refine ⟨_, rfl, ?_⟩
    intro ax dx nax ndx nex
    refine ⟨ax, dx, _, _, rfl, upd_same, .inl ⟨f, [], rfl, okN_0 hf, .inl ⟨rfl, rfl⟩, fun L0 nL H8 srt at0 _ kp0 => ⟨rfl, ?_⟩⟩⟩
    obtain ⟨_, w8⟩ := newA0 (H := H7) (fun _ _ q => q) hf nax ndx srt at0 kp0
    refine ⟨(by show 0 ≤ sizeLine; decide), fun lt nlt => ?_⟩
    generalize EH9 : upd H8 lt _ = H9
    have glt := (congrFun EH9 lt).symm.trans upd_same
    have S9 : Same H8 H9 := by rw [← EH9]; exact sameNew nlt
    refine ⟨_, _, _, rfl, ?_⟩
    have R14 : Rolled d0 H1 H4 := ((same_roll hD1 S2).trans R3).trans R4
    have S49 : Same H4 H9 := (((S5.trans S6).trans S7).trans w8.same).trans S9
    have S19 : Same H H9 := fun b o e => S49 _ _ (R14.keep b o (ne_of_none e nd0) (S1 _ _ e))
    have D9 : Die H9 d0 := die_same R4.die S49
    have T9 : LamX.Tabs (tabs a) H9 := hT.ext S19
    have hS9 : SqL K H9 s0 (ns.map V.int) := extS nd0 S1 ((ExtD.of R14).trans (ExtD.of (same_roll R4.die S49))) hS
    have hL : LenV K (.ref s0) H9 ns.length := .inl ⟨_, hS9, by rw [List.length_map]⟩
    refine ⟨_, rfl, ?_⟩
    refine ⟨_, _, rfl, hL, ?_⟩
    refine ⟨63, _, rfl, ?_⟩
    refine ⟨2, _, rfl, ?_⟩
    obtain ⟨m, hm, h63, h2⟩ := count_of ns.length hl
    rw [hm]
    refine ⟨(m : Int), rfl, by omega, by omega, ?_⟩
    rw [Int.toNat_natCast]
    refine for_range (lo := 0) (n := m) (fun i σ Hi => ∃ d pk ax lt L Ls ls Ms r8 r9 r10 r11 r12 r13 r14 r15 r16 r17, σ = [some (.ref s0), some (.ref d), some (.str f), some (.int (w : Nat)), some (.ref pw), some (.ref pk), some (.ref ax), some (.ref lt), r8, r9, r10, r11, r12, r13, r14, r15, r16, r17] ∧ LS a K s0 ns f w i d pw pk ax lt L Ls ls Ms Hi) ?_ ?_ ?_
    · refine ⟨d0, pk, ax, lt, [], [], [], [], _, _, _, _, _, _, _, _, _, _, rfl, ?_⟩
      exact ⟨hS9, T9, D9, S9 _ _ (w8.same _ _ (S7 _ _ gw)), S9 _ _ (w8.same _ _ gk), ans_same S9 w8.at_, w8.sort, .refl _, okN_0 hf, (fun _ z => by cases z), (fun _ z => by cases z), glt, (by decide), .nil⟩
    · rintro i σ H1 hi ⟨d, pk, ax, lt, L, Ls, ls, Ms, r8, r9, r10, r11, r12, r13, r14, r15, r16, r17, rfl, st⟩
      rw [Int.zero_add]
      refine ⟨_, rfl, _, rfl, s0, ns, i, rfl, st.scr, hl, by omega, fun p G1 np hp S1 => ?_⟩
      refine ⟨_, rfl, _, rfl, p, .ref pw, _, rfl, hp, ⟨ne_of_none st.words np, .inl (SqL.of (S1 _ _ st.words))⟩, (by rw [List.length_map, wordsOf_len]; decide), (by rw [List.length_map, wordsOf_len]; decide), fun v G2 hv R2 => ?_⟩
      obtain ⟨wd, rfl, hwd⟩ : ∃ z, v = .str z ∧ z ∈ wordsOf f := by
        obtain ⟨z, hz, rfl⟩ := List.mem_map.mp hv
        exact ⟨z, rfl, hz⟩
      obtain ⟨hww, fw⟩ := wordsOf_is hwd
      refine ⟨_, rfl, _, rfl, _, rfl, p, f, w, rfl, hw3, R2.die, hf, fun po M G3 gM npo gpo R3 => ?_⟩
      refine ⟨_, _, rfl, ?_⟩
      have R13 : Rolled p G1 G3 := R2.trans R3
      have S3 : Same H1 G3 := fun b o e => R13.keep b o (ne_of_none e np) (S1 _ _ e)
      -- the other answer
      refine ⟨_, rfl, _, rfl, ?_⟩
      intro y dy ny ndy ney
      have c1 : po ≠ y := ne_of_none gpo ny
      have c2 : po ≠ dy := ne_of_none gpo ndy
      refine ⟨y, dy, _, _, rfl, upd_same, .inl ⟨f, M, rfl, gM.ok, .inr ⟨po, rfl, c1, by rw [upd_ne c1, upd_ne c2]; exact gpo⟩, fun M' nM G4 srtM atM _ kpM => ⟨rfl, ?_⟩⟩⟩
      have S34 : Same G3 G4 := fun b o e => kpM b o (ne_of_none e ny) (by rw [upd_ne (ne_of_none e ny), upd_ne (ne_of_none e ndy)]; exact e)
      have S4 : Same H1 G4 := S3.trans S34
      have iL : IsF L (vN L) := IsF.of st.okL.nd (nz_of st.okL)
      have iM : IsF M (vN M) := IsF.of gM.ok.nd (nz_of gM.ok)
      have lL : L.length ≤ 125 := st.hd.len st.okL.nd hw3
      have lM : M.length ≤ 5 := gM.len
      have lLs : Ls.length ≤ 125 := by rw [st.pl.length_eq]; exact lL
      have lM' : M'.length ≤ 5 := by rw [srtM.1.length_eq]; exact lM
      refine ⟨_, rfl, _, rfl, _, rfl, wd, pk, po, L, M, rfl, hww, S4 _ _ st.known, S34 _ _ gpo, iL, iM, by omega, by omega, fun pd R G5 iR npd gpd S45 => ?_⟩
      refine ⟨_, _, rfl, ?_⟩
      -- made
      have okM' : OkN f M' := okN_perm gM.ok srtM.1
      have okLs : OkN f Ls := okN_perm st.okL st.pl
      have hdLs : HdW w Ls := st.hd.perm st.pl.symm
      have hdM' : HdW w M' := gM.hd.perm srtM.1.symm
      have S5 : Same H1 G5 := S4.trans S45
      have A5 := ans_same S5 st.ans
      have B5 := ans_same S45 atM.at
      refine ⟨_, rfl, _, rfl, _, rfl, wd, ax, .ref y, rfl, hww, .inl ⟨f, Ls, y, M', rfl, A5, B5, okLs, okM', fw, one_hd hdLs hdM', by omega, fun z R' G6 n6 => ?_⟩⟩
      have gp : ∀ h, gWord wd Ls M' h = gWord wd L M h := fun h => gWord_perm st.okL.nd gM.ok.nd st.pl.symm srtM.1.symm h
      have i6 : IsF R' (gWord wd L M) := n6.isF.to gp
      have okR : OkN f R := gWord_ok hf hw3 fw st.hd gM.hd iR
      have hdR : HdW w R := gWord_hd st.hd gM.hd iR
      have bR : Bnd ((i + 1 + 1 : Nat) * 10 ^ 80) R := by
        rw [← B_next]
        exact gWord_bnd (B_pos i) (by decide +kernel) st.bnd gM.bnd iR
      have tmR : Tame w R := tame_of hw3 hdR bR (B_le (i := i + 1) (by omega))
      have tmL : Tame w L := tame_of hw3 st.hd st.bnd (B_le (i := i) (by omega))
      have tmM : Tame w M := tame_of hw3 gM.hd gM.bnd (by decide +kernel)
      refine ⟨_, rfl, _, rfl, _, rfl, z, f, pd, R, R', w, gWord wd L M, rfl, n6.at_, n6.ok, n6.sort, i6, n6.same _ _ gpd, okR, iR, tmR, fun G7 S67 => ?_⟩
      refine ⟨true, rfl, ?_⟩
      refine iteF ?_
      have S57 : Same G5 G7 := n6.same.trans S67
      have A7 := ans_same S57 A5
      have B7 := ans_same S57 B5
      refine ⟨_, rfl, _, rfl, _, rfl, wd, ax, y, rfl, hww, own_ans B7, f, Ls, y, M', rfl, A7, B7, okLs, okM', fw, one_hd hdLs hdM', by omega, fun z2 R2' G8 n8 => ?_⟩
      have e8 : R2' = R' := sort_uniq okR.nd ⟨(n8.isF.to gp).perm iR, n8.sort⟩ ⟨i6.perm iR, n6.sort⟩
      subst e8
      refine ⟨_, rfl, ?_⟩
      refine ne_same T n8.at_ (ans_same (S67.trans n8.same) n6.at_) n8.ok.nd ?_
      refine ⟨_, rfl, ?_⟩
      refine iteF ?_
      refine ⟨_, rfl, _, rfl, _, rfl, ax, f, pk, L, Ls, w, vN L, rfl, ans_same n8.same A7, okLs, st.sort, iL.turn st.pl.symm, n8.same _ _ (S57 _ _ (S5 _ _ st.known)), st.okL, iL, tmL, fun G9 S89 => ?_⟩
      refine ⟨true, rfl, ?_⟩
      refine iteF ?_
      have S79 : Same G7 G9 := n8.same.trans S89
      have S59 : Same G5 G9 := S57.trans S79
      have S39 : Same G3 G9 := (S34.trans S45).trans S59
      refine ⟨_, rfl, _, rfl, _, rfl, y, f, po, M, M', w, vN M, rfl, ans_same S79 B7, okM', srtM.2, iM.turn srtM.1.symm, S39 _ _ gpo, gM.ok, iM, tmM, fun G10 S910 => ?_⟩
      refine ⟨true, rfl, ?_⟩
      refine iteF ?_
      -- late
      have S310 : Same G3 G10 := S39.trans S910
      have S10 : Same H1 G10 := S3.trans S310
      refine ⟨_, rfl, ?_⟩
      refine ⟨_, rfl, (by show 1 ≤ sizeLine; decide), fun l1 nl1 => ?_⟩
      generalize EG11 : upd G10 l1 _ = G11
      have gl1 := (congrFun EG11 l1).symm.trans upd_same
      have S11 : Same G10 G11 := by rw [← EG11]; exact sameNew nl1
      refine ⟨lt, l1, ls.map V.ref, [.ref po], rfl, rfl, S11 _ _ (S10 _ _ st.late), gl1, (by rw [List.length_map]; have := st.lls; show _ + 1 ≤ _; rw [sizeLine_eq]; omega), fun l2 nl2 => ?_⟩
      generalize EG12 : upd G11 l2 _ = G12
      have gl2 := (congrFun EG12 l2).symm.trans upd_same
      have S12 : Same G11 G12 := by rw [← EG12]; exact sameNew nl2
      refine ⟨3, rfl, -3, rfl, l2, _, rfl, SqL.of gl2, fun l3 nl3 => ?_⟩
      have S1012 : Same G10 G12 := S11.trans S12
      have pr : Paired (fun p M => G12 p = some (.dT (kvsN M)) ∧ GoodW w f M) (ls ++ [po]) (Ms ++ [M]) := paired_snoc ⟨S1012 _ _ (S310 _ _ gpo), gM⟩ (Paired.mapP st.each fun b N e => ⟨S1012 _ _ (S10 _ _ e.1), e.2⟩)
      have ec : cutV (ls.map V.ref ++ [V.ref po]) (some (-3)) none = ((ls ++ [po]).drop ((ls ++ [po]).length - 3)).map V.ref := by
        have e1 : ls.map V.ref ++ [V.ref po] = (ls ++ [po]).map V.ref := by rw [List.map_append]; rfl
        rw [e1, List.map_drop]
        have := cut_last ((ls ++ [po]).map V.ref) 2
        rw [List.length_map] at this
        exact this
      rw [ec]
      have pr2 := p_drop ((ls ++ [po]).length - 3) pr
      have l23 : ((ls ++ [po]).drop ((ls ++ [po]).length - 3)).length ≤ 3 := by
        rw [List.length_drop]
        omega
      generalize (ls ++ [po]).drop ((ls ++ [po]).length - 3) = ls2 at pr2 l23 ⊢
      generalize (Ms ++ [M]).drop ((ls ++ [po]).length - 3) = Ms2 at pr2
      generalize EG13 : upd G12 l3 _ = G13
      have gl3 := (congrFun EG13 l3).symm.trans upd_same
      have S13 : Same G12 G13 := by rw [← EG13]; exact sameNew nl3
      refine ⟨_, rfl, l3, rfl, ⟨_, .inl (.inl gl3)⟩, fun D hD => ?_⟩
      refine lc_it (walk_list (K := K) (a := l3) (xs := ls2.map V.ref)) (fun j Hj => ∃ ys Ks, ys.length = j ∧ Hj D = some (.lst (ys.map V.ref)) ∧ Same G13 Hj ∧ AllA a.c_Answer Hj f ys Ks ∧ Paired (fun K M => SortOf M K ∧ (M.map (·.1)).Nodup) Ks (Ms2.take j)) ⟨[], [], rfl, upd_same, sameNew hD, .nil, .nil⟩ ?_ ?_ ?_
      · rintro j Hj hj ⟨ys, Ks, _, _, kp, _⟩
        exact .inl (.inl (kp _ _ gl3))
      · rintro j u Hj0 Hj hj ⟨ys, Ks, hys, hDj, kpj, allj, prj⟩ ⟨rfl, hu⟩
        rw [List.length_map] at hj
        rw [List.getElem?_map] at hu
        obtain ⟨q0, hq0, rfl⟩ := Option.map_eq_some_iff.mp hu
        obtain ⟨N, hN, gN0, gN⟩ := p_get pr2 hq0
        have gNj := kpj _ _ (S13 _ _ gN0)
        refine ⟨rfl, ?_⟩
        dsimp only [tYes]
        rw [if_pos rfl]
        refine ⟨_, rfl, _, rfl, ?_⟩
        intro x5 dx5 nx5 ndx5 nex5
        have e1 : q0 ≠ x5 := ne_of_none gNj nx5
        have e2 : q0 ≠ dx5 := ne_of_none gNj ndx5
        refine ⟨x5, dx5, _, _, rfl, upd_same, .inl ⟨f, N, rfl, gN.ok, .inr ⟨q0, rfl, e1, by rw [upd_ne e1, upd_ne e2]; exact gNj⟩, fun N' nN Hk srtN atN _ kpN => ⟨rfl, ?_⟩⟩⟩
        have Sjk : Same Hj Hk := fun b o e => kpN b o (ne_of_none e nx5) (by rw [upd_ne (ne_of_none e nx5), upd_ne (ne_of_none e ndx5)]; exact e)
        have okN' : OkN f N' := okN_perm gN.ok srtN.1
        have hDk := Sjk _ _ hDj
        refine ⟨ys.map V.ref, hDk, by rw [List.length_map, hys, sizeLine_eq]; omega, ys ++ [x5], Ks ++ [N'], by rw [List.length_append, hys]; rfl, by rw [List.map_append]; exact upd_same, fun b o e => ?_, ?_, ?_⟩
        · rw [upd_ne (ne_of_none e hD)]
          exact Sjk _ _ (kpj _ _ e)
        · exact AllA.upd (paired_snoc (F := fun x L => AnsAt a.c_Answer Hk x f L ∧ OkN f L) ⟨atN.at, okN'⟩ (AllA.keep allj Sjk)) hDk
        · rw [List.take_add_one, hN]
          exact paired_snoc ⟨srtN, gN.ok.nd⟩ prj
      rintro G14 ⟨ys, Ks, hys, gD, S1314, allY, prK⟩
      rw [List.length_map] at hys prK
      have D3 : Die G3 p := R13.die
      have S313 : Same G3 G13 := (S310.trans S1012).trans S13
      have D13 : Die G13 p := die_same D3 S313
      have D14 : Die G14 p := die_same D13 S1314
      have nDp : D ≠ p := D13.ne hD
      have nl3p : l3 ≠ p := (die_same D3 (S310.trans S1012)).ne nl3
      refine ⟨_, rfl, p, 3, rfl, D14, (by decide), (by decide), fun rr G15 rr0 rr3 R15 => ?_⟩
      obtain ⟨r1, rfl⟩ := Int.eq_ofNat_of_zero_le rr0
      refine ⟨_, _, rfl, rfl, _, rfl, D, _, rfl, SqL.of (R15.keep D _ nDp gD), fun l5 nl5 => ?_⟩
      have e15 : cutV (ys.map V.ref) none (some (1 + (r1 : Int))) = (ys.take (r1 + 1)).map V.ref := by
        rw [show (1 + (r1 : Int)) = ((r1 + 1 : Nat) : Int) by omega, Ts.cut_to, List.map_take]
      rw [e15]
      generalize EG16 : upd G15 l5 _ = G16
      have gl5 := (congrFun EG16 l5).symm.trans upd_same
      have S16 : Same G15 G16 := by rw [← EG16]; exact sameNew nl5
      intro wh0 nwh0
      generalize EG17 : upd G16 wh0 _ = G17
      have gwh0 := (congrFun EG17 wh0).symm.trans upd_same
      have S17 : Same G16 G17 := by rw [← EG17]; exact sameNew nwh0
      have gl317 : G17 l3 = some (.lst (ls2.map V.ref)) := S17 _ _ (S16 _ _ (R15.keep _ _ nl3p (S1314 _ _ gl3)))
      refine ⟨_, rfl, _, rfl, _, _, rfl, .inl ⟨_, SqL.of (S17 _ _ gl5), rfl⟩, _, rfl, l3, _, rfl, SqL.of gl317, fun l6 nl6 => ?_⟩
      rw [Ts.cut_to, ← List.map_take, List.length_map]
      generalize hq : (ys.take (r1 + 1)).length = q
      generalize EG18 : upd G17 l6 _ = G18
      have gl6 := (congrFun EG18 l6).symm.trans upd_same
      have S18 : Same G17 G18 := by rw [← EG18]; exact sameNew nl6
      refine ⟨l6, rfl, ⟨_, SqL.of gl6⟩, ?_⟩
      have qn : q ≤ ls2.length := by rw [← hq, List.length_take, hys]; omega
      have lq : ((ls2.take q).map V.ref).length = q := by
        rw [List.length_map, List.length_take]
        omega
      have S1418 : Same G15 G18 := (S16.trans S17).trans S18
      have R1418 : Rolled p G14 G18 := R15.trans (same_roll R15.die S1418)
      have S1214 : Same G12 G14 := S13.trans S1314
      have D12 : Die G12 p := die_same D3 (S310.trans S1012)
      have X1218 : ExtD p G12 G18 := (ExtD.of (same_roll D12 S1214)).trans (ExtD.of R1418)
      have gW : ∀ M ∈ Ms2, GoodW w f M := fun M hM => by
        obtain ⟨b, _, e⟩ := p_mem pr2 hM
        exact e.2
      have gWq : ∀ (n : Nat), ∀ M ∈ Ms2.take n, GoodW w f M := fun n M hM => gW M (List.mem_of_mem_take hM)
      refine for_list (K := K) (a := l6) (xs := (ls2.take q).map V.ref) (fun j σ Hj => ∃ u15 wh Rw, σ = [some (.ref s0), some (.ref p), some (.str f), some (.int (w : Nat)), some (.ref pw), some (.ref pk), some (.ref ax), some (.ref l3), some (.int (i : Nat)), some (.str wd), some (.ref po), some (.ref y), some (.ref pd), some (.ref z), some (.ref l5), u15, some (.ref wh), r17] ∧ Same G18 Hj ∧ Hj wh = some (.dT (kvsN Rw)) ∧ IsF Rw (comb f (Ms2.take j))) ?_ ?_ ?_ ?_
      · exact ⟨_, wh0, [], rfl, fun _ _ e => e, S18 _ _ gwh0, List.nodup_nil, (fun _ z => by cases z), fun h => by unfold comb; simp; rfl⟩
      · rintro j σ Hj hj ⟨u15, wh, Rw, rfl, Sj, _, _⟩
        exact SqL.of (Sj _ _ gl6)
      · rintro j u σ Hj hu ⟨u15, wh, Rw, rfl, Sj, gwh, iRw⟩
        rw [List.getElem?_map] at hu
        obtain ⟨q0, hq0, rfl⟩ := Option.map_eq_some_iff.mp hu
        obtain ⟨N, hN, gN0, gN⟩ := p_get (p_take q pr2) hq0
        have hN2 : Ms2[j]? = some N := by
          rw [List.getElem?_take] at hN
          split at hN
          · exact hN
          · cases hN
        have gNj := Sj _ _ (ext_keep (o := .dT (kvsN N)) D12 X1218 (fun _ z => nomatch z) (fun _ z => nomatch z) gN0)
        have hdw : HdW w Rw := comb_hd (fun M hM => (gWq j M hM).hd) iRw
        have lRw : Rw.length ≤ 125 := hdw.len iRw.nd hw3
        have lN : N.length ≤ 5 := gN.len
        refine ⟨f, rfl, _, rfl, _, rfl, lotW f, wh, q0, Rw, N, rfl, lotW_in f, gwh, gNj, IsF.of iRw.nd iRw.nz, IsF.of gN.ok.nd (nz_of gN.ok), by omega, by omega, fun rn Rn Hn iRn nrn grn Sn => ?_⟩
        refine ⟨_, rn, Rn, rfl, Sj.trans Sn, grn, iRn.to fun h => ?_⟩
        rw [List.take_add_one, hN2]
        exact comb_step iRw h
      rintro σ G19 ⟨u15, wh, Rw, rfl, S1819, gwh, iRw⟩
      rw [lq] at iRw
      have hqe : q = min (r1 + 1) ls2.length := by rw [← hq, List.length_take, hys]
      have prq : Paired (fun K M => SortOf M K ∧ (M.map (·.1)).Nodup) (Ks.take (r1 + 1)) (Ms2.take q) := by
        have := p_take (r1 + 1) prK
        rw [List.take_take, ← hqe] at this
        exact this
      have inK : ∀ N ∈ Ks.take (r1 + 1), N.length ≤ 5 ∧ HdW w N := fun N hN => by
        obtain ⟨M2, hM2, e⟩ := p_meml prq hN
        have g := gWq q M2 hM2
        exact ⟨by rw [e.1.1.length_eq]; exact g.len, g.hd.perm e.1.1.symm⟩
      have allY18 : AllA a.c_Answer G18 f ys Ks := Paired.mapP allY fun x5 N e => ⟨ans_extD D14 (ExtD.of R1418) e.1, e.2⟩
      have allq : AllA a.c_Answer G18 f (ys.take (r1 + 1)) (Ks.take (r1 + 1)) := p_take (r1 + 1) allY18
      have gl519 := S1819 _ _ (S18 _ _ (S17 _ _ gl5))
      have lYq : (ys.take (r1 + 1)).length ≤ 3 := by omega
      have lKq : (Ks.take (r1 + 1)).length ≤ 3 := by rw [← p_len allq]; exact lYq
      have one1 : oneAll (Ks.take (r1 + 1)) = true := all_true (n := w) fun b hb => by
        obtain ⟨N, hN, hb⟩ := List.mem_flatten.mp hb
        exact ((inK N hN).2 b hb).1
      have one2 : oneAll (Ks.take (r1 + 1)).reverse = true := all_true (n := w) fun b hb => by
        obtain ⟨N, hN, hb⟩ := List.mem_flatten.mp hb
        exact ((inK N (List.mem_reverse.mp hN)).2 b hb).1
      have fl1 : (Ks.take (r1 + 1)).flatten.length ≤ 1000 := Nat.le_trans (flat_len (n := 5) fun N hN => (inK N hN).1) (by omega)
      have fl2 : (Ks.take (r1 + 1)).reverse.flatten.length ≤ 1000 := Nat.le_trans (flat_len (n := 5) fun N hN => (inK N (List.mem_reverse.mp hN)).1) (by rw [List.length_reverse]; omega)
      have hdM2 : ∀ N ∈ Ms2.take q, HdW w N := fun N hN => (gWq q N hN).hd
      have okw : OkN f Rw := comb_ok hf hw3 hdM2 iRw
      have tmw : Tame w Rw := tame_of hw3 (comb_hd hdM2 iRw) (comb_bnd (fun N hN => (gWq q N hN).bnd) (by rw [List.length_take]; omega) iRw) (Int.le_refl _)
      refine ⟨_, rfl, _, rfl, f, l5, ys.take (r1 + 1), Ks.take (r1 + 1), rfl, hf, gl519, allq.keep S1819, lYq, fl1, one1, fun z3 Rz G20 n20 => ?_⟩
      have i20 : IsF Rz (comb f (Ms2.take q)) := n20.isF.to (comb_sort prq)
      refine ⟨_, rfl, _, rfl, _, rfl, z3, f, wh, Rw, Rz, w, comb f (Ms2.take q), rfl, n20.at_, n20.ok, n20.sort, i20, n20.same _ _ gwh, okw, iRw, tmw, fun G21 S2021 => ?_⟩
      refine ⟨true, rfl, ?_⟩
      refine iteF ?_
      have S1921 : Same G19 G21 := n20.same.trans S2021
      refine ⟨_, rfl, _, rfl, l5, _, rfl, SqL.of (S1921 _ _ gl519), fun l7 nl7 => ?_⟩
      rw [← List.map_reverse]
      generalize EG22 : upd G21 l7 _ = G22
      have gl7 := (congrFun EG22 l7).symm.trans upd_same
      have S22 : Same G21 G22 := by rw [← EG22]; exact sameNew nl7
      have S1822 : Same G18 G22 := (S1819.trans S1921).trans S22
      refine ⟨f, l7, (ys.take (r1 + 1)).reverse, (Ks.take (r1 + 1)).reverse, rfl, hf, gl7, p_rev (AllA.keep allq S1822), by rw [List.length_reverse]; exact lYq, fl2, one2, fun z4 Rz2 G23 n23 => ?_⟩
      have i23 : IsF Rz2 (comb f (Ms2.take q)) := n23.isF.to fun h => (comb_rev f _ h).trans (comb_sort prq h)
      have e23 : Rz2 = Rz := sort_uniq okw.nd ⟨i23.perm iRw, n23.sort⟩ ⟨i20.perm iRw, n20.sort⟩
      subst e23
      refine ⟨_, rfl, ?_⟩
      refine ne_same T n23.at_ (ans_same ((S2021.trans S22).trans n23.same) n20.at_) n23.ok.nd ?_
      refine ⟨_, rfl, ?_⟩
      refine iteF ?_
      refine ⟨_, rfl, _, rfl, _, _, rfl, ?_⟩
      -- what stands behind the turn
      have S1823 : Same G18 G23 := S1822.trans n23.same
      have D18 : Die G18 p := die_same R15.die S1418
      have D23 : Die G23 p := die_same D18 S1823
      have X1423 : ExtD p G14 G23 := (ExtD.of R1418).trans (ExtD.of (same_roll D18 S1823))
      have S314 : Same G3 G14 := S313.trans S1314
      have S514 : Same G5 G14 := ((S59.trans S910).trans S1012).trans S1214
      have D5 : Die G5 p := die_same D3 (S34.trans S45)
      have X323 : ExtD p G3 G23 := (ExtD.of (same_roll D3 S314)).trans X1423
      have X523 : ExtD p G5 G23 := (ExtD.of (same_roll D5 S514)).trans X1423
      have D6 : Die G6 p := die_same D5 n6.same
      have X623 : ExtD p G6 G23 := (ExtD.of (same_roll D6 (S67.trans (S79.trans (S910.trans (S1012.trans S1214)))))).trans X1423
      have X1223 : ExtD p G12 G23 := (ExtD.of (same_roll D12 S1214)).trans X1423
      have X123 : ExtD p G1 G23 := (ExtD.of R13).trans X323
      have X1323 : ExtD p G13 G23 := (ExtD.of (same_roll D13 S1314)).trans X1423
      have T23 : LamX.Tabs (tabs a) G23 := (tabs_roll D14 R1418 ((tabs_roll hp R13 (st.tab.ext S1)).ext S314)).ext S1823
      have fin : ∀ G', ExtD p G23 G' → LamX.Tabs (tabs a) G' → LS a K s0 ns f w (i + 1) p pw pd z l3 R R2' ls2 Ms2 G' := fun G' X TG =>
        ⟨extS np S1 (X123.trans X) st.scr, TG, X.1, (X123.trans X).keep (o := .lst ((wordsOf f).map V.str)) (ne_of_none st.words np) (fun _ z => nomatch z) (S1 _ _ st.words), ext_keep (o := .dT (kvsN R)) D5 (X523.trans X) (fun _ z => nomatch z) (fun _ z => nomatch z) gpd, ans_extD D6 (X623.trans X) n6.at_, n6.sort, i6.perm iR, okR, hdR, bR,
          (X1323.trans X).keep (o := .lst (ls2.map V.ref)) nl3p (fun _ z => nomatch z) gl3, l23, Paired.mapP pr2 fun b N e => ⟨ext_keep (o := .dT (kvsN N)) D12 (X1223.trans X) (fun _ z => nomatch z) (fun _ z => nomatch z) e.1, e.2⟩⟩
      have st23 := fin G23 (ExtD.refl D23) T23
      refine ⟨_, rfl, .inl ⟨_, rfl, ?_⟩⟩
      refine ⟨_, _, rfl, rfl, (show (0 : Int) < 8 by decide), ?_⟩
      refine ⟨rfl, _, rfl, ?_⟩
      refine iteB (fun c => ?_) (fun c => ?_)
      · refine ⟨_, rfl, _, rfl, _, rfl, _, rfl, p, z, f, pd, R, R2', w, gWord wd L M, rfl, D23, T23, st23.ans, n6.ok, n6.sort, i6, st23.known, okR, iR, tmR, fun G' X TG => ?_⟩
        refine ⟨true, rfl, ?_⟩
        refine iteF ?_
        exact ⟨p, pd, z, l3, R, R2', ls2, Ms2, _, _, _, _, _, _, _, _, _, _, rfl, fin G' X TG⟩
      · refine iteF ?_
        exact ⟨p, pd, z, l3, R, R2', ls2, Ms2, _, _, _, _, _, _, _, _, _, _, rfl, st23⟩
    · rintro σ H1 ⟨d, pk, ax, lt, L, Ls, ls, Ms, r8, r9, r10, r11, r12, r13, r14, r15, r16, r17, rfl, st⟩
      have i0 : IsF [] (comb f []) := ⟨List.nodup_nil, (fun _ z => by cases z), fun h => by unfold comb; simp; rfl⟩
      have tm0 : Tame w [] := ⟨hw3, (fun _ z => by cases z), (fun _ z => by cases z)⟩
      refine ⟨_, rfl, star_comb (xs := []) (Ls := []) hf .nil (by decide) (by decide) (by decide +kernel) fun z R H2 n2 => ?_⟩
      refine ⟨_, rfl, ?_⟩
      intro pe npe
      generalize EH3 : upd H2 pe _ = H3
      have gpe := (congrFun EH3 pe).symm.trans upd_same
      have S3 : Same H2 H3 := by rw [← EH3]; exact sameNew npe
      refine ⟨z, f, pe, [], R, w, comb f [], rfl, ans_same S3 n2.at_, n2.ok, n2.sort, n2.isF, gpe, okN_0 hf, i0, tm0, fun H4 S4 => ?_⟩
      refine ⟨true, rfl, ?_⟩
      refine iteT ?_
      have D4 : Die H4 d := die_same st.die ((n2.same.trans S3).trans S4)
      have T4 : LamX.Tabs (tabs a) H4 := st.tab.ext ((n2.same.trans S3).trans S4)
      refine ⟨_, rfl, _, rfl, _, rfl, ?_⟩
      intro z5 dz5 nz5 ndz5 nez5
      refine ⟨z5, dz5, _, _, rfl, upd_same, .inl ⟨f, [], rfl, okN_0 hf, .inl ⟨rfl, rfl⟩, fun L0 n5 H5 srt5 at5 _ kp5 => ⟨rfl, ?_⟩⟩⟩
      obtain ⟨_, w5⟩ := newA0 (H := H4) (fun _ _ q => q) hf nz5 ndz5 srt5 at5 kp5
      intro pe2 npe2
      generalize EH6 : upd H5 pe2 _ = H6
      have gpe2 := (congrFun EH6 pe2).symm.trans upd_same
      have S6 : Same H5 H6 := by rw [← EH6]; exact sameNew npe2
      exact ⟨d, z5, f, pe2, [], [], w, fun _ => 0, rfl, die_same D4 (w5.same.trans S6), T4.ext (w5.same.trans S6), ans_same S6 w5.at_, okN_0 hf, w5.sort, w5.isF, gpe2, okN_0 hf, ⟨List.nodup_nil, (fun _ z => by cases z), fun _ => rfl⟩, tm0, fun H' X T' => k H'⟩
end
end K02

set_option Elab.async false
set_option linter.all false
set_option maxRecDepth 100000
set_option maxHeartbeats 4000000
namespace K02
open PySem PySem.Spec PyProof.Rows L2 Dt An Rp
theorem end_sp (a : Ads) : ∀ (K : PySem.W.Frag) (H : Hp) (q : Addr) (ns : List Int), ns.length ≤ 63 → (∀ p ∈ csOf a, H p.2 = some (.tbl #[])) → SqL K H q (ns.map V.int) → spLaw a K [.ref q] H (fun v _ => v = .bl true) fun _ _ _ => False :=
  fun K H q ns hl hT hS => ⟨q, ns, rfl, hS, hl, fun p hp => by
    rw [List.mem_singleton.mp hp]
    exact LamX.TabS.nil (hT (a.k_wrong, a.t_wrong) List.mem_cons_self), fun _ => rfl⟩
theorem all_mk {l : PySem.W.OpenLaw} {w : World} {K : PySem.W.Frag} {h : Heap} {mg : Str → Option Value} {fa : Addr} (X : K.In h) (G : h.Ns mainGlobals mg) (hfa : mg "law" = some (.ref fa))
    {k_wrong t_wrong p_form p_heads o_dfl o_FORMS c_Answer c_InvalidAnswer c_InvalidOperation f_is_number f_are_integers f_is_form f_is_head f__are_of_one_length f__is_number_of f__are_numbers f_Answer___init__ f_Answer_form f_Answer_heads f_Answer_pairs f_Answer___iter__ f_Answer___getitem__ f_Answer___contains__ f_Answer___len__ f_Answer___bool__ f_Answer___eq__ f_Answer___str__ f_Answer__check_numbers f_Answer__check_heads f_Answer__check_other f_Answer__plus f_Answer___add__ f_Answer___sub__ f_Answer___neg__ f_Answer___or__ f_Answer___and__ f_Answer___xor__ f_combined f_dice f_roll f_pick f_met f_numbers f_added f_by_word f_done f_done_at_once f_is f_together f_wrong_right f_law : Addr}
    {od_is_number an_is_number od_are_integers an_are_integers od_is_form an_is_form od_is_head an_is_head od__are_of_one_length an__are_of_one_length od__is_number_of an__is_number_of od__are_numbers an__are_numbers od_Answer___init__ an_Answer___init__ od_Answer_form an_Answer_form od_Answer_heads an_Answer_heads od_Answer_pairs an_Answer_pairs od_Answer___iter__ an_Answer___iter__ od_Answer___getitem__ an_Answer___getitem__ od_Answer___contains__ an_Answer___contains__ od_Answer___len__ an_Answer___len__ od_Answer___bool__ an_Answer___bool__ od_Answer___eq__ an_Answer___eq__ od_Answer___str__ an_Answer___str__ od_Answer__check_numbers an_Answer__check_numbers od_Answer__check_heads an_Answer__check_heads od_Answer__check_other an_Answer__check_other od_Answer__plus an_Answer__plus od_Answer___add__ an_Answer___add__ od_Answer___sub__ an_Answer___sub__ od_Answer___neg__ an_Answer___neg__ od_Answer___or__ an_Answer___or__ od_Answer___and__ an_Answer___and__ od_Answer___xor__ an_Answer___xor__ od_combined an_combined od_dice an_dice od_roll an_roll od_pick an_pick od_met an_met od_numbers an_numbers od_added an_added od_by_word an_by_word od_done an_done od_done_at_once an_done_at_once od_is an_is od_together an_together od_wrong_right an_wrong_right od_law an_law od_dfl od_FORMS od_kA : Option Addr}
    {sl_is_number sl_are_integers sl_is_form sl_is_head sl__are_of_one_length sl__is_number_of sl__are_numbers sl_Answer___init__ sl_Answer_form sl_Answer_heads sl_Answer_pairs sl_Answer___iter__ sl_Answer___getitem__ sl_Answer___contains__ sl_Answer___len__ sl_Answer___bool__ sl_Answer___eq__ sl_Answer___str__ sl_Answer__check_numbers sl_Answer__check_heads sl_Answer__check_other sl_Answer__plus sl_Answer___add__ sl_Answer___sub__ sl_Answer___neg__ sl_Answer___or__ sl_Answer___and__ sl_Answer___xor__ sl_combined sl_dice sl_roll sl_pick sl_met sl_numbers sl_added sl_by_word sl_done sl_done_at_once sl_is sl_together sl_wrong_right sl_law sl_dfl sl_FORMS sl_kA : Array (Option Value)}
    {oc_is_number kV_is_number dc_is_number pm_is_number ct_is_number oc_are_integers kV_are_integers dc_are_integers pm_are_integers ct_are_integers oc_is_form kV_is_form dc_is_form pm_is_form ct_is_form oc_is_head kV_is_head dc_is_head pm_is_head ct_is_head oc__are_of_one_length kV__are_of_one_length dc__are_of_one_length pm__are_of_one_length ct__are_of_one_length oc__is_number_of kV__is_number_of dc__is_number_of pm__is_number_of ct__is_number_of oc__are_numbers kV__are_numbers dc__are_numbers pm__are_numbers ct__are_numbers oc_Answer___init__ kV_Answer___init__ dc_Answer___init__ pm_Answer___init__ ct_Answer___init__ oc_Answer_form kV_Answer_form dc_Answer_form pm_Answer_form ct_Answer_form oc_Answer_heads kV_Answer_heads dc_Answer_heads pm_Answer_heads ct_Answer_heads oc_Answer_pairs kV_Answer_pairs dc_Answer_pairs pm_Answer_pairs ct_Answer_pairs oc_Answer___iter__ kV_Answer___iter__ dc_Answer___iter__ pm_Answer___iter__ ct_Answer___iter__ oc_Answer___getitem__ kV_Answer___getitem__ dc_Answer___getitem__ pm_Answer___getitem__ ct_Answer___getitem__ oc_Answer___contains__ kV_Answer___contains__ dc_Answer___contains__ pm_Answer___contains__ ct_Answer___contains__ oc_Answer___len__ kV_Answer___len__ dc_Answer___len__ pm_Answer___len__ ct_Answer___len__ oc_Answer___bool__ kV_Answer___bool__ dc_Answer___bool__ pm_Answer___bool__ ct_Answer___bool__ oc_Answer___eq__ kV_Answer___eq__ dc_Answer___eq__ pm_Answer___eq__ ct_Answer___eq__ oc_Answer___str__ kV_Answer___str__ dc_Answer___str__ pm_Answer___str__ ct_Answer___str__ oc_Answer__check_numbers kV_Answer__check_numbers dc_Answer__check_numbers pm_Answer__check_numbers ct_Answer__check_numbers oc_Answer__check_heads kV_Answer__check_heads dc_Answer__check_heads pm_Answer__check_heads ct_Answer__check_heads oc_Answer__check_other kV_Answer__check_other dc_Answer__check_other pm_Answer__check_other ct_Answer__check_other oc_Answer__plus kV_Answer__plus dc_Answer__plus pm_Answer__plus ct_Answer__plus oc_Answer___add__ kV_Answer___add__ dc_Answer___add__ pm_Answer___add__ ct_Answer___add__ oc_Answer___sub__ kV_Answer___sub__ dc_Answer___sub__ pm_Answer___sub__ ct_Answer___sub__ oc_Answer___neg__ kV_Answer___neg__ dc_Answer___neg__ pm_Answer___neg__ ct_Answer___neg__ oc_Answer___or__ kV_Answer___or__ dc_Answer___or__ pm_Answer___or__ ct_Answer___or__ oc_Answer___and__ kV_Answer___and__ dc_Answer___and__ pm_Answer___and__ ct_Answer___and__ oc_Answer___xor__ kV_Answer___xor__ dc_Answer___xor__ pm_Answer___xor__ ct_Answer___xor__ oc_combined kV_combined dc_combined pm_combined ct_combined oc_dice kV_dice dc_dice pm_dice ct_dice oc_roll kV_roll dc_roll pm_roll ct_roll oc_pick kV_pick dc_pick pm_pick ct_pick oc_met kV_met dc_met pm_met ct_met oc_numbers kV_numbers dc_numbers pm_numbers ct_numbers oc_added kV_added dc_added pm_added ct_added oc_by_word kV_by_word dc_by_word pm_by_word ct_by_word oc_done kV_done dc_done pm_done ct_done oc_done_at_once kV_done_at_once dc_done_at_once pm_done_at_once ct_done_at_once oc_is kV_is dc_is pm_is ct_is oc_together kV_together dc_together pm_together ct_together oc_wrong_right kV_wrong_right dc_wrong_right pm_wrong_right ct_wrong_right oc_law kV_law dc_law pm_law ct_law oc_dfl oc_kA cd_is_number cd_are_integers cd_is_form cd_is_head cd__are_of_one_length cd__is_number_of cd__are_numbers cd_Answer___init__ cd_Answer_form cd_Answer_heads cd_Answer_pairs cd_Answer___iter__ cd_Answer___getitem__ cd_Answer___contains__ cd_Answer___len__ cd_Answer___bool__ cd_Answer___eq__ cd_Answer___str__ cd_Answer__check_numbers cd_Answer__check_heads cd_Answer__check_other cd_Answer__plus cd_Answer___add__ cd_Answer___sub__ cd_Answer___neg__ cd_Answer___or__ cd_Answer___and__ cd_Answer___xor__ cd_combined cd_dice cd_roll cd_pick cd_met cd_numbers cd_added cd_by_word cd_done cd_done_at_once cd_is cd_together cd_law : Value}
    {n_dfl n_FORMS : Nat} {vs_A : Array Value}
    {t1 t2 t3 tk__HEAD_LENGTH tk__INTEGER_BOUND : Tok}
    {rest_form rest_heads : List Value}
    (ac_Answer : PySem.W.nsIn K mainGlobals "Answer" = some (some (.ref c_Answer)))
    (ac_InvalidAnswer : PySem.W.nsIn K mainGlobals "InvalidAnswer" = some (some (.ref c_InvalidAnswer)))
    (ac_InvalidOperation : PySem.W.nsIn K mainGlobals "InvalidOperation" = some (some (.ref c_InvalidOperation)))
    (a_is_number : PySem.W.nsIn K mainGlobals "is_number" = some (some (.ref f_is_number)))
    (l_is_number : K.lookup f_is_number = some ⟨oc_is_number, od_is_number, .func (PySem.W.fnOf "is_number" "is_number" (defArgs s_is_number) (defBody s_is_number) (defScope s_is_number) .none kV_is_number dc_is_number pm_is_number an_is_number cd_is_number ct_is_number), sl_is_number⟩)
    (cc_is_number : PySem.W.codeIn K cd_is_number "is_number" = true)
    (kk_is_number : PySem.W.keepIn K (.ref f_is_number) = true)
    (a_are_integers : PySem.W.nsIn K mainGlobals "are_integers" = some (some (.ref f_are_integers)))
    (l_are_integers : K.lookup f_are_integers = some ⟨oc_are_integers, od_are_integers, .func (PySem.W.fnOf "are_integers" "are_integers" (defArgs s_are_integers) (defBody s_are_integers) (defScope s_are_integers) .none kV_are_integers dc_are_integers pm_are_integers an_are_integers cd_are_integers ct_are_integers), sl_are_integers⟩)
    (cc_are_integers : PySem.W.codeIn K cd_are_integers "are_integers" = true)
    (kk_are_integers : PySem.W.keepIn K (.ref f_are_integers) = true)
    (a_is_form : PySem.W.nsIn K mainGlobals "is_form" = some (some (.ref f_is_form)))
    (l_is_form : K.lookup f_is_form = some ⟨oc_is_form, od_is_form, .func (PySem.W.fnOf "is_form" "is_form" (defArgs s_is_form) (defBody s_is_form) (defScope s_is_form) .none kV_is_form dc_is_form pm_is_form an_is_form cd_is_form ct_is_form), sl_is_form⟩)
    (cc_is_form : PySem.W.codeIn K cd_is_form "is_form" = true)
    (kk_is_form : PySem.W.keepIn K (.ref f_is_form) = true)
    (a_is_head : PySem.W.nsIn K mainGlobals "is_head" = some (some (.ref f_is_head)))
    (l_is_head : K.lookup f_is_head = some ⟨oc_is_head, od_is_head, .func (PySem.W.fnOf "is_head" "is_head" (defArgs s_is_head) (defBody s_is_head) (defScope s_is_head) .none kV_is_head dc_is_head pm_is_head an_is_head cd_is_head ct_is_head), sl_is_head⟩)
    (cc_is_head : PySem.W.codeIn K cd_is_head "is_head" = true)
    (kk_is_head : PySem.W.keepIn K (.ref f_is_head) = true)
    (a__are_of_one_length : PySem.W.nsIn K mainGlobals "_are_of_one_length" = some (some (.ref f__are_of_one_length)))
    (l__are_of_one_length : K.lookup f__are_of_one_length = some ⟨oc__are_of_one_length, od__are_of_one_length, .func (PySem.W.fnOf "_are_of_one_length" "_are_of_one_length" (defArgs s__are_of_one_length) (defBody s__are_of_one_length) (defScope s__are_of_one_length) .none kV__are_of_one_length dc__are_of_one_length pm__are_of_one_length an__are_of_one_length cd__are_of_one_length ct__are_of_one_length), sl__are_of_one_length⟩)
    (cc__are_of_one_length : PySem.W.codeIn K cd__are_of_one_length "_are_of_one_length" = true)
    (kk__are_of_one_length : PySem.W.keepIn K (.ref f__are_of_one_length) = true)
    (a__is_number_of : PySem.W.nsIn K mainGlobals "_is_number_of" = some (some (.ref f__is_number_of)))
    (l__is_number_of : K.lookup f__is_number_of = some ⟨oc__is_number_of, od__is_number_of, .func (PySem.W.fnOf "_is_number_of" "_is_number_of" (defArgs s__is_number_of) (defBody s__is_number_of) (defScope s__is_number_of) .none kV__is_number_of dc__is_number_of pm__is_number_of an__is_number_of cd__is_number_of ct__is_number_of), sl__is_number_of⟩)
    (cc__is_number_of : PySem.W.codeIn K cd__is_number_of "_is_number_of" = true)
    (kk__is_number_of : PySem.W.keepIn K (.ref f__is_number_of) = true)
    (a__are_numbers : PySem.W.nsIn K mainGlobals "_are_numbers" = some (some (.ref f__are_numbers)))
    (l__are_numbers : K.lookup f__are_numbers = some ⟨oc__are_numbers, od__are_numbers, .func (PySem.W.fnOf "_are_numbers" "_are_numbers" (defArgs s__are_numbers) (defBody s__are_numbers) (defScope s__are_numbers) .none kV__are_numbers dc__are_numbers pm__are_numbers an__are_numbers cd__are_numbers ct__are_numbers), sl__are_numbers⟩)
    (cc__are_numbers : PySem.W.codeIn K cd__are_numbers "_are_numbers" = true)
    (kk__are_numbers : PySem.W.keepIn K (.ref f__are_numbers) = true)
    (at___init__ : PySem.W.findIn K (.ref c_Answer) "__init__" = some (some (.ref f_Answer___init__)))
    (l_Answer___init__ : K.lookup f_Answer___init__ = some ⟨oc_Answer___init__, od_Answer___init__, .func (PySem.W.fnOf "__init__" "Answer.__init__" (defArgs s_Answer___init__) (defBody s_Answer___init__) (defScope s_Answer___init__) (.ref o_dfl) kV_Answer___init__ dc_Answer___init__ pm_Answer___init__ an_Answer___init__ cd_Answer___init__ ct_Answer___init__), sl_Answer___init__⟩)
    (cc_Answer___init__ : PySem.W.codeIn K cd_Answer___init__ "Answer.__init__" = true)
    (kk_Answer___init__ : PySem.W.keepIn K (.ref f_Answer___init__) = true)
    (at_form : PySem.W.findIn K (.ref c_Answer) "form" = some (some (.ref p_form)))
    (rc_form : PySem.W.recIn K p_form "property" = some (.ref f_Answer_form :: rest_form))
    (l_Answer_form : K.lookup f_Answer_form = some ⟨oc_Answer_form, od_Answer_form, .func (PySem.W.fnOf "form" "Answer.form" (defArgs s_Answer_form) (defBody s_Answer_form) (defScope s_Answer_form) .none kV_Answer_form dc_Answer_form pm_Answer_form an_Answer_form cd_Answer_form ct_Answer_form), sl_Answer_form⟩)
    (cc_Answer_form : PySem.W.codeIn K cd_Answer_form "Answer.form" = true)
    (kk_Answer_form : PySem.W.keepIn K (.ref f_Answer_form) = true)
    (at_heads : PySem.W.findIn K (.ref c_Answer) "heads" = some (some (.ref p_heads)))
    (rc_heads : PySem.W.recIn K p_heads "property" = some (.ref f_Answer_heads :: rest_heads))
    (l_Answer_heads : K.lookup f_Answer_heads = some ⟨oc_Answer_heads, od_Answer_heads, .func (PySem.W.fnOf "heads" "Answer.heads" (defArgs s_Answer_heads) (defBody s_Answer_heads) (defScope s_Answer_heads) .none kV_Answer_heads dc_Answer_heads pm_Answer_heads an_Answer_heads cd_Answer_heads ct_Answer_heads), sl_Answer_heads⟩)
    (cc_Answer_heads : PySem.W.codeIn K cd_Answer_heads "Answer.heads" = true)
    (kk_Answer_heads : PySem.W.keepIn K (.ref f_Answer_heads) = true)
    (at_pairs : PySem.W.findIn K (.ref c_Answer) "pairs" = some (some (.ref f_Answer_pairs)))
    (l_Answer_pairs : K.lookup f_Answer_pairs = some ⟨oc_Answer_pairs, od_Answer_pairs, .func (PySem.W.fnOf "pairs" "Answer.pairs" (defArgs s_Answer_pairs) (defBody s_Answer_pairs) (defScope s_Answer_pairs) .none kV_Answer_pairs dc_Answer_pairs pm_Answer_pairs an_Answer_pairs cd_Answer_pairs ct_Answer_pairs), sl_Answer_pairs⟩)
    (cc_Answer_pairs : PySem.W.codeIn K cd_Answer_pairs "Answer.pairs" = true)
    (kk_Answer_pairs : PySem.W.keepIn K (.ref f_Answer_pairs) = true)
    (at___iter__ : PySem.W.findIn K (.ref c_Answer) "__iter__" = some (some (.ref f_Answer___iter__)))
    (l_Answer___iter__ : K.lookup f_Answer___iter__ = some ⟨oc_Answer___iter__, od_Answer___iter__, .func (PySem.W.fnOf "__iter__" "Answer.__iter__" (defArgs s_Answer___iter__) (defBody s_Answer___iter__) (defScope s_Answer___iter__) .none kV_Answer___iter__ dc_Answer___iter__ pm_Answer___iter__ an_Answer___iter__ cd_Answer___iter__ ct_Answer___iter__), sl_Answer___iter__⟩)
    (cc_Answer___iter__ : PySem.W.codeIn K cd_Answer___iter__ "Answer.__iter__" = true)
    (kk_Answer___iter__ : PySem.W.keepIn K (.ref f_Answer___iter__) = true)
    (at___getitem__ : PySem.W.findIn K (.ref c_Answer) "__getitem__" = some (some (.ref f_Answer___getitem__)))
    (l_Answer___getitem__ : K.lookup f_Answer___getitem__ = some ⟨oc_Answer___getitem__, od_Answer___getitem__, .func (PySem.W.fnOf "__getitem__" "Answer.__getitem__" (defArgs s_Answer___getitem__) (defBody s_Answer___getitem__) (defScope s_Answer___getitem__) .none kV_Answer___getitem__ dc_Answer___getitem__ pm_Answer___getitem__ an_Answer___getitem__ cd_Answer___getitem__ ct_Answer___getitem__), sl_Answer___getitem__⟩)
    (cc_Answer___getitem__ : PySem.W.codeIn K cd_Answer___getitem__ "Answer.__getitem__" = true)
    (kk_Answer___getitem__ : PySem.W.keepIn K (.ref f_Answer___getitem__) = true)
    (at___contains__ : PySem.W.findIn K (.ref c_Answer) "__contains__" = some (some (.ref f_Answer___contains__)))
    (l_Answer___contains__ : K.lookup f_Answer___contains__ = some ⟨oc_Answer___contains__, od_Answer___contains__, .func (PySem.W.fnOf "__contains__" "Answer.__contains__" (defArgs s_Answer___contains__) (defBody s_Answer___contains__) (defScope s_Answer___contains__) .none kV_Answer___contains__ dc_Answer___contains__ pm_Answer___contains__ an_Answer___contains__ cd_Answer___contains__ ct_Answer___contains__), sl_Answer___contains__⟩)
    (cc_Answer___contains__ : PySem.W.codeIn K cd_Answer___contains__ "Answer.__contains__" = true)
    (kk_Answer___contains__ : PySem.W.keepIn K (.ref f_Answer___contains__) = true)
    (at___len__ : PySem.W.findIn K (.ref c_Answer) "__len__" = some (some (.ref f_Answer___len__)))
    (l_Answer___len__ : K.lookup f_Answer___len__ = some ⟨oc_Answer___len__, od_Answer___len__, .func (PySem.W.fnOf "__len__" "Answer.__len__" (defArgs s_Answer___len__) (defBody s_Answer___len__) (defScope s_Answer___len__) .none kV_Answer___len__ dc_Answer___len__ pm_Answer___len__ an_Answer___len__ cd_Answer___len__ ct_Answer___len__), sl_Answer___len__⟩)
    (cc_Answer___len__ : PySem.W.codeIn K cd_Answer___len__ "Answer.__len__" = true)
    (kk_Answer___len__ : PySem.W.keepIn K (.ref f_Answer___len__) = true)
    (at___bool__ : PySem.W.findIn K (.ref c_Answer) "__bool__" = some (some (.ref f_Answer___bool__)))
    (l_Answer___bool__ : K.lookup f_Answer___bool__ = some ⟨oc_Answer___bool__, od_Answer___bool__, .func (PySem.W.fnOf "__bool__" "Answer.__bool__" (defArgs s_Answer___bool__) (defBody s_Answer___bool__) (defScope s_Answer___bool__) .none kV_Answer___bool__ dc_Answer___bool__ pm_Answer___bool__ an_Answer___bool__ cd_Answer___bool__ ct_Answer___bool__), sl_Answer___bool__⟩)
    (cc_Answer___bool__ : PySem.W.codeIn K cd_Answer___bool__ "Answer.__bool__" = true)
    (kk_Answer___bool__ : PySem.W.keepIn K (.ref f_Answer___bool__) = true)
    (at___eq__ : PySem.W.findIn K (.ref c_Answer) "__eq__" = some (some (.ref f_Answer___eq__)))
    (l_Answer___eq__ : K.lookup f_Answer___eq__ = some ⟨oc_Answer___eq__, od_Answer___eq__, .func (PySem.W.fnOf "__eq__" "Answer.__eq__" (defArgs s_Answer___eq__) (defBody s_Answer___eq__) (defScope s_Answer___eq__) .none kV_Answer___eq__ dc_Answer___eq__ pm_Answer___eq__ an_Answer___eq__ cd_Answer___eq__ ct_Answer___eq__), sl_Answer___eq__⟩)
    (cc_Answer___eq__ : PySem.W.codeIn K cd_Answer___eq__ "Answer.__eq__" = true)
    (kk_Answer___eq__ : PySem.W.keepIn K (.ref f_Answer___eq__) = true)
    (at___str__ : PySem.W.findIn K (.ref c_Answer) "__str__" = some (some (.ref f_Answer___str__)))
    (l_Answer___str__ : K.lookup f_Answer___str__ = some ⟨oc_Answer___str__, od_Answer___str__, .func (PySem.W.fnOf "__str__" "Answer.__str__" (defArgs s_Answer___str__) (defBody s_Answer___str__) (defScope s_Answer___str__) .none kV_Answer___str__ dc_Answer___str__ pm_Answer___str__ an_Answer___str__ cd_Answer___str__ ct_Answer___str__), sl_Answer___str__⟩)
    (cc_Answer___str__ : PySem.W.codeIn K cd_Answer___str__ "Answer.__str__" = true)
    (kk_Answer___str__ : PySem.W.keepIn K (.ref f_Answer___str__) = true)
    (at__check_numbers : PySem.W.findIn K (.ref c_Answer) "_check_numbers" = some (some (.ref f_Answer__check_numbers)))
    (l_Answer__check_numbers : K.lookup f_Answer__check_numbers = some ⟨oc_Answer__check_numbers, od_Answer__check_numbers, .func (PySem.W.fnOf "_check_numbers" "Answer._check_numbers" (defArgs s_Answer__check_numbers) (defBody s_Answer__check_numbers) (defScope s_Answer__check_numbers) .none kV_Answer__check_numbers dc_Answer__check_numbers pm_Answer__check_numbers an_Answer__check_numbers cd_Answer__check_numbers ct_Answer__check_numbers), sl_Answer__check_numbers⟩)
    (cc_Answer__check_numbers : PySem.W.codeIn K cd_Answer__check_numbers "Answer._check_numbers" = true)
    (kk_Answer__check_numbers : PySem.W.keepIn K (.ref f_Answer__check_numbers) = true)
    (at__check_heads : PySem.W.findIn K (.ref c_Answer) "_check_heads" = some (some (.ref f_Answer__check_heads)))
    (l_Answer__check_heads : K.lookup f_Answer__check_heads = some ⟨oc_Answer__check_heads, od_Answer__check_heads, .func (PySem.W.fnOf "_check_heads" "Answer._check_heads" (defArgs s_Answer__check_heads) (defBody s_Answer__check_heads) (defScope s_Answer__check_heads) .none kV_Answer__check_heads dc_Answer__check_heads pm_Answer__check_heads an_Answer__check_heads cd_Answer__check_heads ct_Answer__check_heads), sl_Answer__check_heads⟩)
    (cc_Answer__check_heads : PySem.W.codeIn K cd_Answer__check_heads "Answer._check_heads" = true)
    (kk_Answer__check_heads : PySem.W.keepIn K (.ref f_Answer__check_heads) = true)
    (at__check_other : PySem.W.findIn K (.ref c_Answer) "_check_other" = some (some (.ref f_Answer__check_other)))
    (l_Answer__check_other : K.lookup f_Answer__check_other = some ⟨oc_Answer__check_other, od_Answer__check_other, .func (PySem.W.fnOf "_check_other" "Answer._check_other" (defArgs s_Answer__check_other) (defBody s_Answer__check_other) (defScope s_Answer__check_other) .none kV_Answer__check_other dc_Answer__check_other pm_Answer__check_other an_Answer__check_other cd_Answer__check_other ct_Answer__check_other), sl_Answer__check_other⟩)
    (cc_Answer__check_other : PySem.W.codeIn K cd_Answer__check_other "Answer._check_other" = true)
    (kk_Answer__check_other : PySem.W.keepIn K (.ref f_Answer__check_other) = true)
    (at__plus : PySem.W.findIn K (.ref c_Answer) "_plus" = some (some (.ref f_Answer__plus)))
    (l_Answer__plus : K.lookup f_Answer__plus = some ⟨oc_Answer__plus, od_Answer__plus, .func (PySem.W.fnOf "_plus" "Answer._plus" (defArgs s_Answer__plus) (defBody s_Answer__plus) (defScope s_Answer__plus) .none kV_Answer__plus dc_Answer__plus pm_Answer__plus an_Answer__plus cd_Answer__plus ct_Answer__plus), sl_Answer__plus⟩)
    (cc_Answer__plus : PySem.W.codeIn K cd_Answer__plus "Answer._plus" = true)
    (kk_Answer__plus : PySem.W.keepIn K (.ref f_Answer__plus) = true)
    (at___add__ : PySem.W.findIn K (.ref c_Answer) "__add__" = some (some (.ref f_Answer___add__)))
    (l_Answer___add__ : K.lookup f_Answer___add__ = some ⟨oc_Answer___add__, od_Answer___add__, .func (PySem.W.fnOf "__add__" "Answer.__add__" (defArgs s_Answer___add__) (defBody s_Answer___add__) (defScope s_Answer___add__) .none kV_Answer___add__ dc_Answer___add__ pm_Answer___add__ an_Answer___add__ cd_Answer___add__ ct_Answer___add__), sl_Answer___add__⟩)
    (cc_Answer___add__ : PySem.W.codeIn K cd_Answer___add__ "Answer.__add__" = true)
    (kk_Answer___add__ : PySem.W.keepIn K (.ref f_Answer___add__) = true)
    (at___sub__ : PySem.W.findIn K (.ref c_Answer) "__sub__" = some (some (.ref f_Answer___sub__)))
    (l_Answer___sub__ : K.lookup f_Answer___sub__ = some ⟨oc_Answer___sub__, od_Answer___sub__, .func (PySem.W.fnOf "__sub__" "Answer.__sub__" (defArgs s_Answer___sub__) (defBody s_Answer___sub__) (defScope s_Answer___sub__) .none kV_Answer___sub__ dc_Answer___sub__ pm_Answer___sub__ an_Answer___sub__ cd_Answer___sub__ ct_Answer___sub__), sl_Answer___sub__⟩)
    (cc_Answer___sub__ : PySem.W.codeIn K cd_Answer___sub__ "Answer.__sub__" = true)
    (kk_Answer___sub__ : PySem.W.keepIn K (.ref f_Answer___sub__) = true)
    (at___neg__ : PySem.W.findIn K (.ref c_Answer) "__neg__" = some (some (.ref f_Answer___neg__)))
    (l_Answer___neg__ : K.lookup f_Answer___neg__ = some ⟨oc_Answer___neg__, od_Answer___neg__, .func (PySem.W.fnOf "__neg__" "Answer.__neg__" (defArgs s_Answer___neg__) (defBody s_Answer___neg__) (defScope s_Answer___neg__) .none kV_Answer___neg__ dc_Answer___neg__ pm_Answer___neg__ an_Answer___neg__ cd_Answer___neg__ ct_Answer___neg__), sl_Answer___neg__⟩)
    (cc_Answer___neg__ : PySem.W.codeIn K cd_Answer___neg__ "Answer.__neg__" = true)
    (kk_Answer___neg__ : PySem.W.keepIn K (.ref f_Answer___neg__) = true)
    (at___or__ : PySem.W.findIn K (.ref c_Answer) "__or__" = some (some (.ref f_Answer___or__)))
    (l_Answer___or__ : K.lookup f_Answer___or__ = some ⟨oc_Answer___or__, od_Answer___or__, .func (PySem.W.fnOf "__or__" "Answer.__or__" (defArgs s_Answer___or__) (defBody s_Answer___or__) (defScope s_Answer___or__) .none kV_Answer___or__ dc_Answer___or__ pm_Answer___or__ an_Answer___or__ cd_Answer___or__ ct_Answer___or__), sl_Answer___or__⟩)
    (cc_Answer___or__ : PySem.W.codeIn K cd_Answer___or__ "Answer.__or__" = true)
    (kk_Answer___or__ : PySem.W.keepIn K (.ref f_Answer___or__) = true)
    (at___and__ : PySem.W.findIn K (.ref c_Answer) "__and__" = some (some (.ref f_Answer___and__)))
    (l_Answer___and__ : K.lookup f_Answer___and__ = some ⟨oc_Answer___and__, od_Answer___and__, .func (PySem.W.fnOf "__and__" "Answer.__and__" (defArgs s_Answer___and__) (defBody s_Answer___and__) (defScope s_Answer___and__) .none kV_Answer___and__ dc_Answer___and__ pm_Answer___and__ an_Answer___and__ cd_Answer___and__ ct_Answer___and__), sl_Answer___and__⟩)
    (cc_Answer___and__ : PySem.W.codeIn K cd_Answer___and__ "Answer.__and__" = true)
    (kk_Answer___and__ : PySem.W.keepIn K (.ref f_Answer___and__) = true)
    (at___xor__ : PySem.W.findIn K (.ref c_Answer) "__xor__" = some (some (.ref f_Answer___xor__)))
    (l_Answer___xor__ : K.lookup f_Answer___xor__ = some ⟨oc_Answer___xor__, od_Answer___xor__, .func (PySem.W.fnOf "__xor__" "Answer.__xor__" (defArgs s_Answer___xor__) (defBody s_Answer___xor__) (defScope s_Answer___xor__) .none kV_Answer___xor__ dc_Answer___xor__ pm_Answer___xor__ an_Answer___xor__ cd_Answer___xor__ ct_Answer___xor__), sl_Answer___xor__⟩)
    (cc_Answer___xor__ : PySem.W.codeIn K cd_Answer___xor__ "Answer.__xor__" = true)
    (kk_Answer___xor__ : PySem.W.keepIn K (.ref f_Answer___xor__) = true)
    (a_combined : PySem.W.nsIn K mainGlobals "combined" = some (some (.ref f_combined)))
    (l_combined : K.lookup f_combined = some ⟨oc_combined, od_combined, .func (PySem.W.fnOf "combined" "combined" (defArgs s_combined) (defBody s_combined) (defScope s_combined) .none kV_combined dc_combined pm_combined an_combined cd_combined ct_combined), sl_combined⟩)
    (cc_combined : PySem.W.codeIn K cd_combined "combined" = true)
    (kk_combined : PySem.W.keepIn K (.ref f_combined) = true)
    (a_dice : PySem.W.nsIn K mainGlobals "_law_dice" = some (some (.ref f_dice)))
    (l_dice : K.lookup f_dice = some ⟨oc_dice, od_dice, .func (PySem.W.fnOf "_law_dice" "_law_dice" (defArgs s__law_dice) (defBody s__law_dice) (defScope s__law_dice) .none kV_dice dc_dice pm_dice an_dice cd_dice ct_dice), sl_dice⟩)
    (cc_dice : PySem.W.codeIn K cd_dice "_law_dice" = true)
    (kk_dice : PySem.W.keepIn K (.ref f_dice) = true)
    (a_roll : PySem.W.nsIn K mainGlobals "_law_roll" = some (some (.ref f_roll)))
    (l_roll : K.lookup f_roll = some ⟨oc_roll, od_roll, .func (PySem.W.fnOf "_law_roll" "_law_roll" (defArgs s__law_roll) (defBody s__law_roll) (defScope s__law_roll) .none kV_roll dc_roll pm_roll an_roll cd_roll ct_roll), sl_roll⟩)
    (cc_roll : PySem.W.codeIn K cd_roll "_law_roll" = true)
    (kk_roll : PySem.W.keepIn K (.ref f_roll) = true)
    (a_pick : PySem.W.nsIn K mainGlobals "_law_pick" = some (some (.ref f_pick)))
    (l_pick : K.lookup f_pick = some ⟨oc_pick, od_pick, .func (PySem.W.fnOf "_law_pick" "_law_pick" (defArgs s__law_pick) (defBody s__law_pick) (defScope s__law_pick) .none kV_pick dc_pick pm_pick an_pick cd_pick ct_pick), sl_pick⟩)
    (cc_pick : PySem.W.codeIn K cd_pick "_law_pick" = true)
    (kk_pick : PySem.W.keepIn K (.ref f_pick) = true)
    (a_met : PySem.W.nsIn K mainGlobals "_law_met" = some (some (.ref f_met)))
    (l_met : K.lookup f_met = some ⟨oc_met, od_met, .func (PySem.W.fnOf "_law_met" "_law_met" (defArgs s__law_met) (defBody s__law_met) (defScope s__law_met) .none kV_met dc_met pm_met an_met cd_met ct_met), sl_met⟩)
    (cc_met : PySem.W.codeIn K cd_met "_law_met" = true)
    (kk_met : PySem.W.keepIn K (.ref f_met) = true)
    (a_numbers : PySem.W.nsIn K mainGlobals "_law_numbers" = some (some (.ref f_numbers)))
    (l_numbers : K.lookup f_numbers = some ⟨oc_numbers, od_numbers, .func (PySem.W.fnOf "_law_numbers" "_law_numbers" (defArgs s__law_numbers) (defBody s__law_numbers) (defScope s__law_numbers) .none kV_numbers dc_numbers pm_numbers an_numbers cd_numbers ct_numbers), sl_numbers⟩)
    (cc_numbers : PySem.W.codeIn K cd_numbers "_law_numbers" = true)
    (kk_numbers : PySem.W.keepIn K (.ref f_numbers) = true)
    (a_added : PySem.W.nsIn K mainGlobals "_law_added" = some (some (.ref f_added)))
    (l_added : K.lookup f_added = some ⟨oc_added, od_added, .func (PySem.W.fnOf "_law_added" "_law_added" (defArgs s__law_added) (defBody s__law_added) (defScope s__law_added) .none kV_added dc_added pm_added an_added cd_added ct_added), sl_added⟩)
    (cc_added : PySem.W.codeIn K cd_added "_law_added" = true)
    (kk_added : PySem.W.keepIn K (.ref f_added) = true)
    (a_by_word : PySem.W.nsIn K mainGlobals "_law_by_word" = some (some (.ref f_by_word)))
    (l_by_word : K.lookup f_by_word = some ⟨oc_by_word, od_by_word, .func (PySem.W.fnOf "_law_by_word" "_law_by_word" (defArgs s__law_by_word) (defBody s__law_by_word) (defScope s__law_by_word) .none kV_by_word dc_by_word pm_by_word an_by_word cd_by_word ct_by_word), sl_by_word⟩)
    (cc_by_word : PySem.W.codeIn K cd_by_word "_law_by_word" = true)
    (kk_by_word : PySem.W.keepIn K (.ref f_by_word) = true)
    (a_done : PySem.W.nsIn K mainGlobals "_law_done" = some (some (.ref f_done)))
    (l_done : K.lookup f_done = some ⟨oc_done, od_done, .func (PySem.W.fnOf "_law_done" "_law_done" (defArgs s__law_done) (defBody s__law_done) (defScope s__law_done) .none kV_done dc_done pm_done an_done cd_done ct_done), sl_done⟩)
    (cc_done : PySem.W.codeIn K cd_done "_law_done" = true)
    (kk_done : PySem.W.keepIn K (.ref f_done) = true)
    (a_done_at_once : PySem.W.nsIn K mainGlobals "_law_done_at_once" = some (some (.ref f_done_at_once)))
    (l_done_at_once : K.lookup f_done_at_once = some ⟨oc_done_at_once, od_done_at_once, .func (PySem.W.fnOf "_law_done_at_once" "_law_done_at_once" (defArgs s__law_done_at_once) (defBody s__law_done_at_once) (defScope s__law_done_at_once) .none kV_done_at_once dc_done_at_once pm_done_at_once an_done_at_once cd_done_at_once ct_done_at_once), sl_done_at_once⟩)
    (cc_done_at_once : PySem.W.codeIn K cd_done_at_once "_law_done_at_once" = true)
    (kk_done_at_once : PySem.W.keepIn K (.ref f_done_at_once) = true)
    (a_is : PySem.W.nsIn K mainGlobals "_law_is" = some (some (.ref f_is)))
    (l_is : K.lookup f_is = some ⟨oc_is, od_is, .func (PySem.W.fnOf "_law_is" "_law_is" (defArgs s__law_is) (defBody s__law_is) (defScope s__law_is) .none kV_is dc_is pm_is an_is cd_is ct_is), sl_is⟩)
    (cc_is : PySem.W.codeIn K cd_is "_law_is" = true)
    (kk_is : PySem.W.keepIn K (.ref f_is) = true)
    (a_together : PySem.W.nsIn K mainGlobals "_law_together" = some (some (.ref f_together)))
    (l_together : K.lookup f_together = some ⟨oc_together, od_together, .func (PySem.W.fnOf "_law_together" "_law_together" (defArgs s__law_together) (defBody s__law_together) (defScope s__law_together) .none kV_together dc_together pm_together an_together cd_together ct_together), sl_together⟩)
    (cc_together : PySem.W.codeIn K cd_together "_law_together" = true)
    (kk_together : PySem.W.keepIn K (.ref f_together) = true)
    (a_wrong_right : PySem.W.nsIn K mainGlobals "_law_wrong_right" = some (some (.ref f_wrong_right)))
    (l_wrong_right : K.lookup f_wrong_right = some ⟨oc_wrong_right, od_wrong_right, .func (PySem.W.fnOf "_law_wrong_right" "_law_wrong_right" (defArgs s__law_wrong_right) (defBody s__law_wrong_right) (defScope s__law_wrong_right) .none kV_wrong_right dc_wrong_right pm_wrong_right an_wrong_right (.ref k_wrong) ct_wrong_right), sl_wrong_right⟩)
    (cc_wrong_right : PySem.W.codeIn K (.ref k_wrong) "_law_wrong_right" = true)
    (kk_wrong_right : PySem.W.keepIn K (.ref f_wrong_right) = true)
    (a_law : PySem.W.nsIn K mainGlobals "law" = some (some (.ref f_law)))
    (l_law : K.lookup f_law = some ⟨oc_law, od_law, .func (PySem.W.fnOf "law" "law" (defArgs s_law) (defBody s_law) (defScope s_law) .none kV_law dc_law pm_law an_law cd_law ct_law), sl_law⟩)
    (cc_law : PySem.W.codeIn K cd_law "law" = true)
    (kk_law : PySem.W.keepIn K (.ref f_law) = true)
    (l_dfl : K.lookup o_dfl = some ⟨oc_dfl, od_dfl, .seq #[.none] n_dfl, sl_dfl⟩)
    (a_FORMS : PySem.W.nsIn K mainGlobals "_FORMS" = some (some (.ref o_FORMS)))
    (l_FORMS : K.lookup o_FORMS = some ⟨.type "tuple", od_FORMS, .seq #[.str "distinct" t1, .str "count" t2, .str "sum" t3] n_FORMS, sl_FORMS⟩)
    (a__HEAD_LENGTH : PySem.W.nsIn K mainGlobals "_HEAD_LENGTH" = some (some (.int (3) tk__HEAD_LENGTH)))
    (a__INTEGER_BOUND : PySem.W.nsIn K mainGlobals "_INTEGER_BOUND" = some (some (.int (10 ^ 60) tk__INTEGER_BOUND)))
    (b_len : PySem.W.nsIn K mainGlobals "len" = some none)
    (b_isinstance : PySem.W.nsIn K mainGlobals "isinstance" = some none)
    (b_all : PySem.W.nsIn K mainGlobals "all" = some none)
    (b_str : PySem.W.nsIn K mainGlobals "str" = some none)
    (b_int : PySem.W.nsIn K mainGlobals "int" = some none)
    (b_bool : PySem.W.nsIn K mainGlobals "bool" = some none)
    (b_tuple : PySem.W.nsIn K mainGlobals "tuple" = some none)
    (b_dict : PySem.W.nsIn K mainGlobals "dict" = some none)
    (b_set : PySem.W.nsIn K mainGlobals "set" = some none)
    (b_sorted : PySem.W.nsIn K mainGlobals "sorted" = some none)
    (b_list : PySem.W.nsIn K mainGlobals "list" = some none)
    (b_repr : PySem.W.nsIn K mainGlobals "repr" = some none)
    (b_abs : PySem.W.nsIn K mainGlobals "abs" = some none)
    (b_range : PySem.W.nsIn K mainGlobals "range" = some none)
    (b_min : PySem.W.nsIn K mainGlobals "min" = some none)
    (b_max : PySem.W.nsIn K mainGlobals "max" = some none)
    (pgA : PySem.W.plainGet K c_Answer Str.empty = true)
    (hdA : PySem.W.hasDictIn K c_Answer = true)
    (poA : PySem.W.plainOver K c_Answer = true)
    (saA : PySem.W.findIn K (.ref c_Answer) "__setattr__" = some (some (.builtin "object.__setattr__")))
    (nF : PySem.W.findIn K (.ref c_Answer) "_form" = some none)
    (nN : PySem.W.findIn K (.ref c_Answer) "_numbers" = some none)
    (nH : PySem.W.findIn K (.ref c_Answer) "_heads" = some none)
    (mkI : PySem.W.makesIn K c_Answer = true)
    (kpA : PySem.W.keepIn K (.ref c_Answer) = true)
    (fnI : PySem.W.isFn K (.ref f_Answer___init__) = true)
    (kpI : PySem.W.keepIn K (.ref c_InvalidAnswer) = true)
    (bI : PySem.W.subIn K (.ref c_InvalidAnswer) (.type "BaseException") = some true)
    (tyI : PySem.W.typeIn K (.ref c_InvalidAnswer) = some (.type "type"))
    (ti1 : PySem.W.findIn K (.ref c_Answer) "__class__" = some (some (.builtin "object.__class__")))
    (ti2 : PySem.W.specialIn K (.builtin "object.__class__") "__get__" = some (some (.builtin "getset_descriptor.__get__")))
    (ti3 : PySem.W.takesIn K (.builtin "object.__class__") = some true)
    (ti4 : PySem.W.mroIn K c_Answer (.type "object") = some true)
    (kc1 : PySem.W.kitOne K (.ref c_Answer) (.type "tuple") = some false)
    (e1I : PySem.W.findIn K (.ref c_InvalidAnswer) "__getattribute__" = some (some (.builtin "BaseException.__getattribute__")))
    (e2I : PySem.W.findIn K (.ref c_InvalidAnswer) "__getattr__" = some none)
    (e4I : PySem.W.hasDictIn K c_InvalidAnswer = true)
    (e5I : PySem.W.findIn K (.ref c_InvalidAnswer) "__class__" = some (some (.builtin "object.__class__")))
    (e8I : PySem.W.mroIn K c_InvalidAnswer (.type "object") = some true)
    (kpO : PySem.W.keepIn K (.ref c_InvalidOperation) = true)
    (bO : PySem.W.subIn K (.ref c_InvalidOperation) (.type "BaseException") = some true)
    (tyO : PySem.W.typeIn K (.ref c_InvalidOperation) = some (.type "type"))
    (e1O : PySem.W.findIn K (.ref c_InvalidOperation) "__getattribute__" = some (some (.builtin "BaseException.__getattribute__")))
    (e2O : PySem.W.findIn K (.ref c_InvalidOperation) "__getattr__" = some none)
    (e4O : PySem.W.hasDictIn K c_InvalidOperation = true)
    (e5O : PySem.W.findIn K (.ref c_InvalidOperation) "__class__" = some (some (.builtin "object.__class__")))
    (e8O : PySem.W.mroIn K c_InvalidOperation (.type "object") = some true)
    (emAA : PySem.W.exmOne K (.ref c_InvalidAnswer) (.ref c_InvalidAnswer) = some true)
    (emOO : PySem.W.exmOne K (.ref c_InvalidOperation) (.ref c_InvalidOperation) = some true)
    (emOA : PySem.W.exmOne K (.ref c_InvalidOperation) (.ref c_InvalidAnswer) = some false)
    (sfA : PySem.W.selfFirst K c_Answer = true)
    (m2A : Ow.mro2 K c_Answer = true)
    (pgt_form : PySem.W.specialIn K (.ref p_form) "__get__" = some (some (.builtin "property.__get__")))
    (ptk_form : PySem.W.takesIn K (.ref p_form) = some true)
    (pgt_heads : PySem.W.specialIn K (.ref p_heads) "__get__" = some (some (.builtin "property.__get__")))
    (ptk_heads : PySem.W.takesIn K (.ref p_heads) = some true)
    (neA : PySem.W.findIn K (.ref c_Answer) "__ne__" = some (some (.builtin "object.__ne__")))
    (soA : PySem.W.subIn K (.ref c_Answer) (.type "object") = some true)
    (koNoneType : PySem.W.kitOne K (.type "NoneType") (.ref c_Answer) = some false)
    (sbNoneType : PySem.W.subIn K (.type "NoneType") (.ref c_Answer) = some false)
    (koint : PySem.W.kitOne K (.type "int") (.ref c_Answer) = some false)
    (sbint : PySem.W.subIn K (.type "int") (.ref c_Answer) = some false)
    (kobool : PySem.W.kitOne K (.type "bool") (.ref c_Answer) = some false)
    (sbbool : PySem.W.subIn K (.type "bool") (.ref c_Answer) = some false)
    (kodict : PySem.W.kitOne K (.type "dict") (.ref c_Answer) = some false)
    (sbdict : PySem.W.subIn K (.type "dict") (.ref c_Answer) = some false)
    (kotuple : PySem.W.kitOne K (.type "tuple") (.ref c_Answer) = some false)
    (sbtuple : PySem.W.subIn K (.type "tuple") (.ref c_Answer) = some false)
    (kolist : PySem.W.kitOne K (.type "list") (.ref c_Answer) = some false)
    (sblist : PySem.W.subIn K (.type "list") (.ref c_Answer) = some false)
    (kostr : PySem.W.kitOne K (.type "str") (.ref c_Answer) = some false)
    (sbstr : PySem.W.subIn K (.type "str") (.ref c_Answer) = some false)
    (fn__eq__ : PySem.W.isFn K (.ref f_Answer___eq__) = true)
    (fn__add__ : PySem.W.isFn K (.ref f_Answer___add__) = true)
    (fn__sub__ : PySem.W.isFn K (.ref f_Answer___sub__) = true)
    (fn__neg__ : PySem.W.isFn K (.ref f_Answer___neg__) = true)
    (fn__or__ : PySem.W.isFn K (.ref f_Answer___or__) = true)
    (fn__and__ : PySem.W.isFn K (.ref f_Answer___and__) = true)
    (fn__xor__ : PySem.W.isFn K (.ref f_Answer___xor__) = true)
    (fnpairs : PySem.W.isFn K (.ref f_Answer_pairs) = true)
    (fn_check_numbers : PySem.W.isFn K (.ref f_Answer__check_numbers) = true)
    (fn_check_heads : PySem.W.isFn K (.ref f_Answer__check_heads) = true)
    (fn_check_other : PySem.W.isFn K (.ref f_Answer__check_other) = true)
    (fn_plus : PySem.W.isFn K (.ref f_Answer__plus) = true)
    (fradd : PySem.W.findIn K (.ref c_Answer) "__radd__" = some none)
    (niadd : PySem.W.findIn K (.ref c_Answer) "__iadd__" = some none)
    (frsub : PySem.W.findIn K (.ref c_Answer) "__rsub__" = some none)
    (nisub : PySem.W.findIn K (.ref c_Answer) "__isub__" = some none)
    (fror : PySem.W.findIn K (.ref c_Answer) "__ror__" = some none)
    (nior : PySem.W.findIn K (.ref c_Answer) "__ior__" = some none)
    (frand : PySem.W.findIn K (.ref c_Answer) "__rand__" = some none)
    (niand : PySem.W.findIn K (.ref c_Answer) "__iand__" = some none)
    (frxor : PySem.W.findIn K (.ref c_Answer) "__rxor__" = some none)
    (nixor : PySem.W.findIn K (.ref c_Answer) "__ixor__" = some none)
    (lk_A : K.lookup k_wrong = some ⟨oc_kA, od_kA, .fields vs_A, sl_kA⟩)
    (tv_A : vs_A[11]? = some (.ref t_wrong))
    (nt_A : K.lookup t_wrong = none)
    (ch_A : PySem.W.codeHdIn K k_wrong t_wrong = true)
    (q_I : PySem.W.excIn K c_InvalidAnswer veT "ValueError.__new__" = true)
    (q_O : PySem.W.excIn K c_InvalidOperation veT "ValueError.__new__" = true)
    (gt_A : h.get? t_wrong = some Tg.bare) :
    Tg.Known l w K 12 63 "_law_script" mg fa h := by
  obtain rfl : f_law = fa := by
    have e := hfa.symm.trans (PySem.W.mg_of X G a_law)
    cases e
    rfl
  have T : Txt K mg ⟨f_is_number, (PySem.W.fnOf "is_number" "is_number" (defArgs s_is_number) (defBody s_is_number) (defScope s_is_number) .none kV_is_number dc_is_number pm_is_number an_is_number cd_is_number ct_is_number), f_are_integers, (PySem.W.fnOf "are_integers" "are_integers" (defArgs s_are_integers) (defBody s_are_integers) (defScope s_are_integers) .none kV_are_integers dc_are_integers pm_are_integers an_are_integers cd_are_integers ct_are_integers), f_is_form, (PySem.W.fnOf "is_form" "is_form" (defArgs s_is_form) (defBody s_is_form) (defScope s_is_form) .none kV_is_form dc_is_form pm_is_form an_is_form cd_is_form ct_is_form), f_is_head, (PySem.W.fnOf "is_head" "is_head" (defArgs s_is_head) (defBody s_is_head) (defScope s_is_head) .none kV_is_head dc_is_head pm_is_head an_is_head cd_is_head ct_is_head), f__are_of_one_length, (PySem.W.fnOf "_are_of_one_length" "_are_of_one_length" (defArgs s__are_of_one_length) (defBody s__are_of_one_length) (defScope s__are_of_one_length) .none kV__are_of_one_length dc__are_of_one_length pm__are_of_one_length an__are_of_one_length cd__are_of_one_length ct__are_of_one_length), f__is_number_of, (PySem.W.fnOf "_is_number_of" "_is_number_of" (defArgs s__is_number_of) (defBody s__is_number_of) (defScope s__is_number_of) .none kV__is_number_of dc__is_number_of pm__is_number_of an__is_number_of cd__is_number_of ct__is_number_of), f__are_numbers, (PySem.W.fnOf "_are_numbers" "_are_numbers" (defArgs s__are_numbers) (defBody s__are_numbers) (defScope s__are_numbers) .none kV__are_numbers dc__are_numbers pm__are_numbers an__are_numbers cd__are_numbers ct__are_numbers), f_Answer___init__, (PySem.W.fnOf "__init__" "Answer.__init__" (defArgs s_Answer___init__) (defBody s_Answer___init__) (defScope s_Answer___init__) (.ref o_dfl) kV_Answer___init__ dc_Answer___init__ pm_Answer___init__ an_Answer___init__ cd_Answer___init__ ct_Answer___init__), f_Answer_form, (PySem.W.fnOf "form" "Answer.form" (defArgs s_Answer_form) (defBody s_Answer_form) (defScope s_Answer_form) .none kV_Answer_form dc_Answer_form pm_Answer_form an_Answer_form cd_Answer_form ct_Answer_form), f_Answer_heads, (PySem.W.fnOf "heads" "Answer.heads" (defArgs s_Answer_heads) (defBody s_Answer_heads) (defScope s_Answer_heads) .none kV_Answer_heads dc_Answer_heads pm_Answer_heads an_Answer_heads cd_Answer_heads ct_Answer_heads), f_Answer_pairs, (PySem.W.fnOf "pairs" "Answer.pairs" (defArgs s_Answer_pairs) (defBody s_Answer_pairs) (defScope s_Answer_pairs) .none kV_Answer_pairs dc_Answer_pairs pm_Answer_pairs an_Answer_pairs cd_Answer_pairs ct_Answer_pairs), f_Answer___iter__, (PySem.W.fnOf "__iter__" "Answer.__iter__" (defArgs s_Answer___iter__) (defBody s_Answer___iter__) (defScope s_Answer___iter__) .none kV_Answer___iter__ dc_Answer___iter__ pm_Answer___iter__ an_Answer___iter__ cd_Answer___iter__ ct_Answer___iter__), f_Answer___getitem__, (PySem.W.fnOf "__getitem__" "Answer.__getitem__" (defArgs s_Answer___getitem__) (defBody s_Answer___getitem__) (defScope s_Answer___getitem__) .none kV_Answer___getitem__ dc_Answer___getitem__ pm_Answer___getitem__ an_Answer___getitem__ cd_Answer___getitem__ ct_Answer___getitem__), f_Answer___contains__, (PySem.W.fnOf "__contains__" "Answer.__contains__" (defArgs s_Answer___contains__) (defBody s_Answer___contains__) (defScope s_Answer___contains__) .none kV_Answer___contains__ dc_Answer___contains__ pm_Answer___contains__ an_Answer___contains__ cd_Answer___contains__ ct_Answer___contains__), f_Answer___len__, (PySem.W.fnOf "__len__" "Answer.__len__" (defArgs s_Answer___len__) (defBody s_Answer___len__) (defScope s_Answer___len__) .none kV_Answer___len__ dc_Answer___len__ pm_Answer___len__ an_Answer___len__ cd_Answer___len__ ct_Answer___len__), f_Answer___bool__, (PySem.W.fnOf "__bool__" "Answer.__bool__" (defArgs s_Answer___bool__) (defBody s_Answer___bool__) (defScope s_Answer___bool__) .none kV_Answer___bool__ dc_Answer___bool__ pm_Answer___bool__ an_Answer___bool__ cd_Answer___bool__ ct_Answer___bool__), f_Answer___eq__, (PySem.W.fnOf "__eq__" "Answer.__eq__" (defArgs s_Answer___eq__) (defBody s_Answer___eq__) (defScope s_Answer___eq__) .none kV_Answer___eq__ dc_Answer___eq__ pm_Answer___eq__ an_Answer___eq__ cd_Answer___eq__ ct_Answer___eq__), f_Answer___str__, (PySem.W.fnOf "__str__" "Answer.__str__" (defArgs s_Answer___str__) (defBody s_Answer___str__) (defScope s_Answer___str__) .none kV_Answer___str__ dc_Answer___str__ pm_Answer___str__ an_Answer___str__ cd_Answer___str__ ct_Answer___str__), f_Answer__check_numbers, (PySem.W.fnOf "_check_numbers" "Answer._check_numbers" (defArgs s_Answer__check_numbers) (defBody s_Answer__check_numbers) (defScope s_Answer__check_numbers) .none kV_Answer__check_numbers dc_Answer__check_numbers pm_Answer__check_numbers an_Answer__check_numbers cd_Answer__check_numbers ct_Answer__check_numbers), f_Answer__check_heads, (PySem.W.fnOf "_check_heads" "Answer._check_heads" (defArgs s_Answer__check_heads) (defBody s_Answer__check_heads) (defScope s_Answer__check_heads) .none kV_Answer__check_heads dc_Answer__check_heads pm_Answer__check_heads an_Answer__check_heads cd_Answer__check_heads ct_Answer__check_heads), f_Answer__check_other, (PySem.W.fnOf "_check_other" "Answer._check_other" (defArgs s_Answer__check_other) (defBody s_Answer__check_other) (defScope s_Answer__check_other) .none kV_Answer__check_other dc_Answer__check_other pm_Answer__check_other an_Answer__check_other cd_Answer__check_other ct_Answer__check_other), f_Answer__plus, (PySem.W.fnOf "_plus" "Answer._plus" (defArgs s_Answer__plus) (defBody s_Answer__plus) (defScope s_Answer__plus) .none kV_Answer__plus dc_Answer__plus pm_Answer__plus an_Answer__plus cd_Answer__plus ct_Answer__plus), f_Answer___add__, (PySem.W.fnOf "__add__" "Answer.__add__" (defArgs s_Answer___add__) (defBody s_Answer___add__) (defScope s_Answer___add__) .none kV_Answer___add__ dc_Answer___add__ pm_Answer___add__ an_Answer___add__ cd_Answer___add__ ct_Answer___add__), f_Answer___sub__, (PySem.W.fnOf "__sub__" "Answer.__sub__" (defArgs s_Answer___sub__) (defBody s_Answer___sub__) (defScope s_Answer___sub__) .none kV_Answer___sub__ dc_Answer___sub__ pm_Answer___sub__ an_Answer___sub__ cd_Answer___sub__ ct_Answer___sub__), f_Answer___neg__, (PySem.W.fnOf "__neg__" "Answer.__neg__" (defArgs s_Answer___neg__) (defBody s_Answer___neg__) (defScope s_Answer___neg__) .none kV_Answer___neg__ dc_Answer___neg__ pm_Answer___neg__ an_Answer___neg__ cd_Answer___neg__ ct_Answer___neg__), f_Answer___or__, (PySem.W.fnOf "__or__" "Answer.__or__" (defArgs s_Answer___or__) (defBody s_Answer___or__) (defScope s_Answer___or__) .none kV_Answer___or__ dc_Answer___or__ pm_Answer___or__ an_Answer___or__ cd_Answer___or__ ct_Answer___or__), f_Answer___and__, (PySem.W.fnOf "__and__" "Answer.__and__" (defArgs s_Answer___and__) (defBody s_Answer___and__) (defScope s_Answer___and__) .none kV_Answer___and__ dc_Answer___and__ pm_Answer___and__ an_Answer___and__ cd_Answer___and__ ct_Answer___and__), f_Answer___xor__, (PySem.W.fnOf "__xor__" "Answer.__xor__" (defArgs s_Answer___xor__) (defBody s_Answer___xor__) (defScope s_Answer___xor__) .none kV_Answer___xor__ dc_Answer___xor__ pm_Answer___xor__ an_Answer___xor__ cd_Answer___xor__ ct_Answer___xor__), f_combined, (PySem.W.fnOf "combined" "combined" (defArgs s_combined) (defBody s_combined) (defScope s_combined) .none kV_combined dc_combined pm_combined an_combined cd_combined ct_combined), f_dice, (PySem.W.fnOf "_law_dice" "_law_dice" (defArgs s__law_dice) (defBody s__law_dice) (defScope s__law_dice) .none kV_dice dc_dice pm_dice an_dice cd_dice ct_dice), f_roll, (PySem.W.fnOf "_law_roll" "_law_roll" (defArgs s__law_roll) (defBody s__law_roll) (defScope s__law_roll) .none kV_roll dc_roll pm_roll an_roll cd_roll ct_roll), f_pick, (PySem.W.fnOf "_law_pick" "_law_pick" (defArgs s__law_pick) (defBody s__law_pick) (defScope s__law_pick) .none kV_pick dc_pick pm_pick an_pick cd_pick ct_pick), f_met, (PySem.W.fnOf "_law_met" "_law_met" (defArgs s__law_met) (defBody s__law_met) (defScope s__law_met) .none kV_met dc_met pm_met an_met cd_met ct_met), f_numbers, (PySem.W.fnOf "_law_numbers" "_law_numbers" (defArgs s__law_numbers) (defBody s__law_numbers) (defScope s__law_numbers) .none kV_numbers dc_numbers pm_numbers an_numbers cd_numbers ct_numbers), f_added, (PySem.W.fnOf "_law_added" "_law_added" (defArgs s__law_added) (defBody s__law_added) (defScope s__law_added) .none kV_added dc_added pm_added an_added cd_added ct_added), f_by_word, (PySem.W.fnOf "_law_by_word" "_law_by_word" (defArgs s__law_by_word) (defBody s__law_by_word) (defScope s__law_by_word) .none kV_by_word dc_by_word pm_by_word an_by_word cd_by_word ct_by_word), f_done, (PySem.W.fnOf "_law_done" "_law_done" (defArgs s__law_done) (defBody s__law_done) (defScope s__law_done) .none kV_done dc_done pm_done an_done cd_done ct_done), f_done_at_once, (PySem.W.fnOf "_law_done_at_once" "_law_done_at_once" (defArgs s__law_done_at_once) (defBody s__law_done_at_once) (defScope s__law_done_at_once) .none kV_done_at_once dc_done_at_once pm_done_at_once an_done_at_once cd_done_at_once ct_done_at_once), f_is, (PySem.W.fnOf "_law_is" "_law_is" (defArgs s__law_is) (defBody s__law_is) (defScope s__law_is) .none kV_is dc_is pm_is an_is cd_is ct_is), f_together, (PySem.W.fnOf "_law_together" "_law_together" (defArgs s__law_together) (defBody s__law_together) (defScope s__law_together) .none kV_together dc_together pm_together an_together cd_together ct_together), f_wrong_right, (PySem.W.fnOf "_law_wrong_right" "_law_wrong_right" (defArgs s__law_wrong_right) (defBody s__law_wrong_right) (defScope s__law_wrong_right) .none kV_wrong_right dc_wrong_right pm_wrong_right an_wrong_right (.ref k_wrong) ct_wrong_right), f_law, (PySem.W.fnOf "law" "law" (defArgs s_law) (defBody s_law) (defScope s_law) .none kV_law dc_law pm_law an_law cd_law ct_law), c_Answer, c_InvalidAnswer, c_InvalidOperation, k_wrong, t_wrong, p_form, p_heads, tk__HEAD_LENGTH, tk__INTEGER_BOUND, o_FORMS⟩ :=
    { F_is_number := fun_mk l_is_number cc_is_number kk_is_number,
      g_is_number := PySem.W.mg_of X G a_is_number,
      F_are_integers := fun_mk l_are_integers cc_are_integers kk_are_integers,
      g_are_integers := PySem.W.mg_of X G a_are_integers,
      F_is_form := fun_mk l_is_form cc_is_form kk_is_form,
      g_is_form := PySem.W.mg_of X G a_is_form,
      F_is_head := fun_mk l_is_head cc_is_head kk_is_head,
      g_is_head := PySem.W.mg_of X G a_is_head,
      F__are_of_one_length := fun_mk l__are_of_one_length cc__are_of_one_length kk__are_of_one_length,
      g__are_of_one_length := PySem.W.mg_of X G a__are_of_one_length,
      F__is_number_of := fun_mk l__is_number_of cc__is_number_of kk__is_number_of,
      g__is_number_of := PySem.W.mg_of X G a__is_number_of,
      F__are_numbers := fun_mk l__are_numbers cc__are_numbers kk__are_numbers,
      g__are_numbers := PySem.W.mg_of X G a__are_numbers,
      F_Answer___init__ := ⟨⟨oc_Answer___init__, od_Answer___init__, .ref o_dfl, kV_Answer___init__, dc_Answer___init__, pm_Answer___init__, an_Answer___init__, cd_Answer___init__, ct_Answer___init__, sl_Answer___init__, rfl, l_Answer___init__, cc_Answer___init__, .inr ⟨by simp, o_dfl, _, [.none], n_dfl, rfl, l_dfl, rfl, .cons rfl .nil⟩, .inl rfl⟩, kk_Answer___init__⟩,
      F_Answer_form := fun_mk l_Answer_form cc_Answer_form kk_Answer_form,
      F_Answer_heads := fun_mk l_Answer_heads cc_Answer_heads kk_Answer_heads,
      F_Answer_pairs := fun_mk l_Answer_pairs cc_Answer_pairs kk_Answer_pairs,
      F_Answer___iter__ := fun_mk l_Answer___iter__ cc_Answer___iter__ kk_Answer___iter__,
      F_Answer___getitem__ := fun_mk l_Answer___getitem__ cc_Answer___getitem__ kk_Answer___getitem__,
      F_Answer___contains__ := fun_mk l_Answer___contains__ cc_Answer___contains__ kk_Answer___contains__,
      F_Answer___len__ := fun_mk l_Answer___len__ cc_Answer___len__ kk_Answer___len__,
      F_Answer___bool__ := fun_mk l_Answer___bool__ cc_Answer___bool__ kk_Answer___bool__,
      F_Answer___eq__ := fun_mk l_Answer___eq__ cc_Answer___eq__ kk_Answer___eq__,
      F_Answer___str__ := fun_mk l_Answer___str__ cc_Answer___str__ kk_Answer___str__,
      F_Answer__check_numbers := fun_mk l_Answer__check_numbers cc_Answer__check_numbers kk_Answer__check_numbers,
      F_Answer__check_heads := fun_mk l_Answer__check_heads cc_Answer__check_heads kk_Answer__check_heads,
      F_Answer__check_other := fun_mk l_Answer__check_other cc_Answer__check_other kk_Answer__check_other,
      F_Answer__plus := fun_mk l_Answer__plus cc_Answer__plus kk_Answer__plus,
      F_Answer___add__ := fun_mk l_Answer___add__ cc_Answer___add__ kk_Answer___add__,
      F_Answer___sub__ := fun_mk l_Answer___sub__ cc_Answer___sub__ kk_Answer___sub__,
      F_Answer___neg__ := fun_mk l_Answer___neg__ cc_Answer___neg__ kk_Answer___neg__,
      F_Answer___or__ := fun_mk l_Answer___or__ cc_Answer___or__ kk_Answer___or__,
      F_Answer___and__ := fun_mk l_Answer___and__ cc_Answer___and__ kk_Answer___and__,
      F_Answer___xor__ := fun_mk l_Answer___xor__ cc_Answer___xor__ kk_Answer___xor__,
      F_combined := fun_mk l_combined cc_combined kk_combined,
      g_combined := PySem.W.mg_of X G a_combined,
      F_dice := fun_mk l_dice cc_dice kk_dice,
      g_dice := PySem.W.mg_of X G a_dice,
      F_roll := fun_mk l_roll cc_roll kk_roll,
      g_roll := PySem.W.mg_of X G a_roll,
      F_pick := fun_mk l_pick cc_pick kk_pick,
      g_pick := PySem.W.mg_of X G a_pick,
      F_met := fun_mk l_met cc_met kk_met,
      g_met := PySem.W.mg_of X G a_met,
      F_numbers := fun_mk l_numbers cc_numbers kk_numbers,
      g_numbers := PySem.W.mg_of X G a_numbers,
      F_added := fun_mk l_added cc_added kk_added,
      g_added := PySem.W.mg_of X G a_added,
      F_by_word := fun_mk l_by_word cc_by_word kk_by_word,
      g_by_word := PySem.W.mg_of X G a_by_word,
      F_done := fun_mk l_done cc_done kk_done,
      g_done := PySem.W.mg_of X G a_done,
      F_done_at_once := fun_mk l_done_at_once cc_done_at_once kk_done_at_once,
      g_done_at_once := PySem.W.mg_of X G a_done_at_once,
      F_is := fun_mk l_is cc_is kk_is,
      g_is := PySem.W.mg_of X G a_is,
      F_together := fun_mk l_together cc_together kk_together,
      g_together := PySem.W.mg_of X G a_together,
      F_wrong_right := fun_mk l_wrong_right cc_wrong_right kk_wrong_right,
      g_wrong_right := PySem.W.mg_of X G a_wrong_right,
      F_law := fun_mk l_law cc_law kk_law,
      g_law := PySem.W.mg_of X G a_law,
      len := PySem.W.mg_none_of X G b_len,
      isinstance := PySem.W.mg_none_of X G b_isinstance,
      all := PySem.W.mg_none_of X G b_all,
      str := PySem.W.mg_none_of X G b_str,
      int := PySem.W.mg_none_of X G b_int,
      bool := PySem.W.mg_none_of X G b_bool,
      tuple := PySem.W.mg_none_of X G b_tuple,
      dict := PySem.W.mg_none_of X G b_dict,
      set := PySem.W.mg_none_of X G b_set,
      sorted := PySem.W.mg_none_of X G b_sorted,
      list := PySem.W.mg_none_of X G b_list,
      repr := PySem.W.mg_none_of X G b_repr,
      abs := PySem.W.mg_none_of X G b_abs,
      range := PySem.W.mg_none_of X G b_range,
      min := PySem.W.mg_none_of X G b_min,
      max := PySem.W.mg_none_of X G b_max,
      m__HEAD_LENGTH := PySem.W.mg_of X G a__HEAD_LENGTH,
      m__INTEGER_BOUND := PySem.W.mg_of X G a__INTEGER_BOUND,
      m__FORMS := PySem.W.mg_of X G a_FORMS,
      u__FORMS := fun _ => .inr ⟨_, _, _, l_FORMS, rfl, rfl, by show 3 ≤ sizeLine; decide, .cons ⟨_, rfl⟩ (.cons ⟨_, rfl⟩ (.cons ⟨_, rfl⟩ .nil))⟩,
      cl_Answer := ⟨pgA, hdA, poA, saA⟩,
      nF := nF,
      nN := nN,
      nH := nH,
      mk_Answer := ⟨mkI, at___init__, fnI, kpA⟩,
      g_c_Answer := PySem.W.mg_of X G ac_Answer,
      g_c_InvalidAnswer := PySem.W.mg_of X G ac_InvalidAnswer,
      q_InvalidAnswer := q_I,
      kp_InvalidAnswer := kpI,
      b_InvalidAnswer := bI,
      ty_InvalidAnswer := tyI,
      e_InvalidAnswer := ⟨e1I, e2I, bI, e4I, e5I, ti2, ti3, e8I⟩,
      g_c_InvalidOperation := PySem.W.mg_of X G ac_InvalidOperation,
      q_InvalidOperation := q_O,
      kp_InvalidOperation := kpO,
      b_InvalidOperation := bO,
      ty_InvalidOperation := tyO,
      e_InvalidOperation := ⟨e1O, e2O, bO, e4O, e5O, ti2, ti3, e8O⟩,
      ti1 := ti1,
      ti2 := ti2,
      ti3 := ti3,
      ti4 := ti4,
      kc_tuple := kc1,
      em_AA := emAA,
      em_OO := emOO,
      em_OA := emOA,
      cdW := rfl,
      sf_A := sfA,
      m2_A := m2A,
      p_form := ⟨at_form, pgt_form, ptk_form, _, rc_form⟩,
      p_heads := ⟨at_heads, pgt_heads, ptk_heads, _, rc_heads⟩,
      ne_A := neA,
      so_A := soA,
      ko_NoneType := koNoneType,
      sb_NoneType := sbNoneType,
      ko_int := koint,
      sb_int := sbint,
      ko_bool := kobool,
      sb_bool := sbbool,
      ko_dict := kodict,
      sb_dict := sbdict,
      ko_tuple := kotuple,
      sb_tuple := sbtuple,
      ko_list := kolist,
      sb_list := sblist,
      ko_str := kostr,
      sb_str := sbstr,
      m_pairs := ⟨at_pairs, fnpairs, kk_Answer_pairs⟩,
      m__check_numbers := ⟨at__check_numbers, fn_check_numbers, kk_Answer__check_numbers⟩,
      m__check_heads := ⟨at__check_heads, fn_check_heads, kk_Answer__check_heads⟩,
      m__check_other := ⟨at__check_other, fn_check_other, kk_Answer__check_other⟩,
      m__plus := ⟨at__plus, fn_plus, kk_Answer__plus⟩,
      fi__eq__ := at___eq__,
      fn__eq__ := fn__eq__,
      fi__add__ := at___add__,
      fn__add__ := fn__add__,
      fi__sub__ := at___sub__,
      fn__sub__ := fn__sub__,
      fi__neg__ := at___neg__,
      fn__neg__ := fn__neg__,
      fi__or__ := at___or__,
      fn__or__ := fn__or__,
      fi__and__ := at___and__,
      fn__and__ := fn__and__,
      fi__xor__ := at___xor__,
      fn__xor__ := fn__xor__,
      fr__add__ := fradd,
      ni__add__ := niadd,
      fr__sub__ := frsub,
      ni__sub__ := nisub,
      fr__or__ := fror,
      ni__or__ := nior,
      fr__and__ := frand,
      ni__and__ := niand,
      fr__xor__ := frxor,
      ni__xor__ := nixor }
  refine ⟨(PySem.W.fnOf "law" "law" (defArgs s_law) (defBody s_law) (defScope s_law) .none kV_law dc_law pm_law an_law cd_law ct_law), csOf ⟨f_is_number, (PySem.W.fnOf "is_number" "is_number" (defArgs s_is_number) (defBody s_is_number) (defScope s_is_number) .none kV_is_number dc_is_number pm_is_number an_is_number cd_is_number ct_is_number), f_are_integers, (PySem.W.fnOf "are_integers" "are_integers" (defArgs s_are_integers) (defBody s_are_integers) (defScope s_are_integers) .none kV_are_integers dc_are_integers pm_are_integers an_are_integers cd_are_integers ct_are_integers), f_is_form, (PySem.W.fnOf "is_form" "is_form" (defArgs s_is_form) (defBody s_is_form) (defScope s_is_form) .none kV_is_form dc_is_form pm_is_form an_is_form cd_is_form ct_is_form), f_is_head, (PySem.W.fnOf "is_head" "is_head" (defArgs s_is_head) (defBody s_is_head) (defScope s_is_head) .none kV_is_head dc_is_head pm_is_head an_is_head cd_is_head ct_is_head), f__are_of_one_length, (PySem.W.fnOf "_are_of_one_length" "_are_of_one_length" (defArgs s__are_of_one_length) (defBody s__are_of_one_length) (defScope s__are_of_one_length) .none kV__are_of_one_length dc__are_of_one_length pm__are_of_one_length an__are_of_one_length cd__are_of_one_length ct__are_of_one_length), f__is_number_of, (PySem.W.fnOf "_is_number_of" "_is_number_of" (defArgs s__is_number_of) (defBody s__is_number_of) (defScope s__is_number_of) .none kV__is_number_of dc__is_number_of pm__is_number_of an__is_number_of cd__is_number_of ct__is_number_of), f__are_numbers, (PySem.W.fnOf "_are_numbers" "_are_numbers" (defArgs s__are_numbers) (defBody s__are_numbers) (defScope s__are_numbers) .none kV__are_numbers dc__are_numbers pm__are_numbers an__are_numbers cd__are_numbers ct__are_numbers), f_Answer___init__, (PySem.W.fnOf "__init__" "Answer.__init__" (defArgs s_Answer___init__) (defBody s_Answer___init__) (defScope s_Answer___init__) (.ref o_dfl) kV_Answer___init__ dc_Answer___init__ pm_Answer___init__ an_Answer___init__ cd_Answer___init__ ct_Answer___init__), f_Answer_form, (PySem.W.fnOf "form" "Answer.form" (defArgs s_Answer_form) (defBody s_Answer_form) (defScope s_Answer_form) .none kV_Answer_form dc_Answer_form pm_Answer_form an_Answer_form cd_Answer_form ct_Answer_form), f_Answer_heads, (PySem.W.fnOf "heads" "Answer.heads" (defArgs s_Answer_heads) (defBody s_Answer_heads) (defScope s_Answer_heads) .none kV_Answer_heads dc_Answer_heads pm_Answer_heads an_Answer_heads cd_Answer_heads ct_Answer_heads), f_Answer_pairs, (PySem.W.fnOf "pairs" "Answer.pairs" (defArgs s_Answer_pairs) (defBody s_Answer_pairs) (defScope s_Answer_pairs) .none kV_Answer_pairs dc_Answer_pairs pm_Answer_pairs an_Answer_pairs cd_Answer_pairs ct_Answer_pairs), f_Answer___iter__, (PySem.W.fnOf "__iter__" "Answer.__iter__" (defArgs s_Answer___iter__) (defBody s_Answer___iter__) (defScope s_Answer___iter__) .none kV_Answer___iter__ dc_Answer___iter__ pm_Answer___iter__ an_Answer___iter__ cd_Answer___iter__ ct_Answer___iter__), f_Answer___getitem__, (PySem.W.fnOf "__getitem__" "Answer.__getitem__" (defArgs s_Answer___getitem__) (defBody s_Answer___getitem__) (defScope s_Answer___getitem__) .none kV_Answer___getitem__ dc_Answer___getitem__ pm_Answer___getitem__ an_Answer___getitem__ cd_Answer___getitem__ ct_Answer___getitem__), f_Answer___contains__, (PySem.W.fnOf "__contains__" "Answer.__contains__" (defArgs s_Answer___contains__) (defBody s_Answer___contains__) (defScope s_Answer___contains__) .none kV_Answer___contains__ dc_Answer___contains__ pm_Answer___contains__ an_Answer___contains__ cd_Answer___contains__ ct_Answer___contains__), f_Answer___len__, (PySem.W.fnOf "__len__" "Answer.__len__" (defArgs s_Answer___len__) (defBody s_Answer___len__) (defScope s_Answer___len__) .none kV_Answer___len__ dc_Answer___len__ pm_Answer___len__ an_Answer___len__ cd_Answer___len__ ct_Answer___len__), f_Answer___bool__, (PySem.W.fnOf "__bool__" "Answer.__bool__" (defArgs s_Answer___bool__) (defBody s_Answer___bool__) (defScope s_Answer___bool__) .none kV_Answer___bool__ dc_Answer___bool__ pm_Answer___bool__ an_Answer___bool__ cd_Answer___bool__ ct_Answer___bool__), f_Answer___eq__, (PySem.W.fnOf "__eq__" "Answer.__eq__" (defArgs s_Answer___eq__) (defBody s_Answer___eq__) (defScope s_Answer___eq__) .none kV_Answer___eq__ dc_Answer___eq__ pm_Answer___eq__ an_Answer___eq__ cd_Answer___eq__ ct_Answer___eq__), f_Answer___str__, (PySem.W.fnOf "__str__" "Answer.__str__" (defArgs s_Answer___str__) (defBody s_Answer___str__) (defScope s_Answer___str__) .none kV_Answer___str__ dc_Answer___str__ pm_Answer___str__ an_Answer___str__ cd_Answer___str__ ct_Answer___str__), f_Answer__check_numbers, (PySem.W.fnOf "_check_numbers" "Answer._check_numbers" (defArgs s_Answer__check_numbers) (defBody s_Answer__check_numbers) (defScope s_Answer__check_numbers) .none kV_Answer__check_numbers dc_Answer__check_numbers pm_Answer__check_numbers an_Answer__check_numbers cd_Answer__check_numbers ct_Answer__check_numbers), f_Answer__check_heads, (PySem.W.fnOf "_check_heads" "Answer._check_heads" (defArgs s_Answer__check_heads) (defBody s_Answer__check_heads) (defScope s_Answer__check_heads) .none kV_Answer__check_heads dc_Answer__check_heads pm_Answer__check_heads an_Answer__check_heads cd_Answer__check_heads ct_Answer__check_heads), f_Answer__check_other, (PySem.W.fnOf "_check_other" "Answer._check_other" (defArgs s_Answer__check_other) (defBody s_Answer__check_other) (defScope s_Answer__check_other) .none kV_Answer__check_other dc_Answer__check_other pm_Answer__check_other an_Answer__check_other cd_Answer__check_other ct_Answer__check_other), f_Answer__plus, (PySem.W.fnOf "_plus" "Answer._plus" (defArgs s_Answer__plus) (defBody s_Answer__plus) (defScope s_Answer__plus) .none kV_Answer__plus dc_Answer__plus pm_Answer__plus an_Answer__plus cd_Answer__plus ct_Answer__plus), f_Answer___add__, (PySem.W.fnOf "__add__" "Answer.__add__" (defArgs s_Answer___add__) (defBody s_Answer___add__) (defScope s_Answer___add__) .none kV_Answer___add__ dc_Answer___add__ pm_Answer___add__ an_Answer___add__ cd_Answer___add__ ct_Answer___add__), f_Answer___sub__, (PySem.W.fnOf "__sub__" "Answer.__sub__" (defArgs s_Answer___sub__) (defBody s_Answer___sub__) (defScope s_Answer___sub__) .none kV_Answer___sub__ dc_Answer___sub__ pm_Answer___sub__ an_Answer___sub__ cd_Answer___sub__ ct_Answer___sub__), f_Answer___neg__, (PySem.W.fnOf "__neg__" "Answer.__neg__" (defArgs s_Answer___neg__) (defBody s_Answer___neg__) (defScope s_Answer___neg__) .none kV_Answer___neg__ dc_Answer___neg__ pm_Answer___neg__ an_Answer___neg__ cd_Answer___neg__ ct_Answer___neg__), f_Answer___or__, (PySem.W.fnOf "__or__" "Answer.__or__" (defArgs s_Answer___or__) (defBody s_Answer___or__) (defScope s_Answer___or__) .none kV_Answer___or__ dc_Answer___or__ pm_Answer___or__ an_Answer___or__ cd_Answer___or__ ct_Answer___or__), f_Answer___and__, (PySem.W.fnOf "__and__" "Answer.__and__" (defArgs s_Answer___and__) (defBody s_Answer___and__) (defScope s_Answer___and__) .none kV_Answer___and__ dc_Answer___and__ pm_Answer___and__ an_Answer___and__ cd_Answer___and__ ct_Answer___and__), f_Answer___xor__, (PySem.W.fnOf "__xor__" "Answer.__xor__" (defArgs s_Answer___xor__) (defBody s_Answer___xor__) (defScope s_Answer___xor__) .none kV_Answer___xor__ dc_Answer___xor__ pm_Answer___xor__ an_Answer___xor__ cd_Answer___xor__ ct_Answer___xor__), f_combined, (PySem.W.fnOf "combined" "combined" (defArgs s_combined) (defBody s_combined) (defScope s_combined) .none kV_combined dc_combined pm_combined an_combined cd_combined ct_combined), f_dice, (PySem.W.fnOf "_law_dice" "_law_dice" (defArgs s__law_dice) (defBody s__law_dice) (defScope s__law_dice) .none kV_dice dc_dice pm_dice an_dice cd_dice ct_dice), f_roll, (PySem.W.fnOf "_law_roll" "_law_roll" (defArgs s__law_roll) (defBody s__law_roll) (defScope s__law_roll) .none kV_roll dc_roll pm_roll an_roll cd_roll ct_roll), f_pick, (PySem.W.fnOf "_law_pick" "_law_pick" (defArgs s__law_pick) (defBody s__law_pick) (defScope s__law_pick) .none kV_pick dc_pick pm_pick an_pick cd_pick ct_pick), f_met, (PySem.W.fnOf "_law_met" "_law_met" (defArgs s__law_met) (defBody s__law_met) (defScope s__law_met) .none kV_met dc_met pm_met an_met cd_met ct_met), f_numbers, (PySem.W.fnOf "_law_numbers" "_law_numbers" (defArgs s__law_numbers) (defBody s__law_numbers) (defScope s__law_numbers) .none kV_numbers dc_numbers pm_numbers an_numbers cd_numbers ct_numbers), f_added, (PySem.W.fnOf "_law_added" "_law_added" (defArgs s__law_added) (defBody s__law_added) (defScope s__law_added) .none kV_added dc_added pm_added an_added cd_added ct_added), f_by_word, (PySem.W.fnOf "_law_by_word" "_law_by_word" (defArgs s__law_by_word) (defBody s__law_by_word) (defScope s__law_by_word) .none kV_by_word dc_by_word pm_by_word an_by_word cd_by_word ct_by_word), f_done, (PySem.W.fnOf "_law_done" "_law_done" (defArgs s__law_done) (defBody s__law_done) (defScope s__law_done) .none kV_done dc_done pm_done an_done cd_done ct_done), f_done_at_once, (PySem.W.fnOf "_law_done_at_once" "_law_done_at_once" (defArgs s__law_done_at_once) (defBody s__law_done_at_once) (defScope s__law_done_at_once) .none kV_done_at_once dc_done_at_once pm_done_at_once an_done_at_once cd_done_at_once ct_done_at_once), f_is, (PySem.W.fnOf "_law_is" "_law_is" (defArgs s__law_is) (defBody s__law_is) (defScope s__law_is) .none kV_is dc_is pm_is an_is cd_is ct_is), f_together, (PySem.W.fnOf "_law_together" "_law_together" (defArgs s__law_together) (defBody s__law_together) (defScope s__law_together) .none kV_together dc_together pm_together an_together cd_together ct_together), f_wrong_right, (PySem.W.fnOf "_law_wrong_right" "_law_wrong_right" (defArgs s__law_wrong_right) (defBody s__law_wrong_right) (defScope s__law_wrong_right) .none kV_wrong_right dc_wrong_right pm_wrong_right an_wrong_right (.ref k_wrong) ct_wrong_right), f_law, (PySem.W.fnOf "law" "law" (defArgs s_law) (defBody s_law) (defScope s_law) .none kV_law dc_law pm_law an_law cd_law ct_law), c_Answer, c_InvalidAnswer, c_InvalidOperation, k_wrong, t_wrong, p_form, p_heads, tk__HEAD_LENGTH, tk__INTEGER_BOUND, o_FORMS⟩, spLaw ⟨f_is_number, (PySem.W.fnOf "is_number" "is_number" (defArgs s_is_number) (defBody s_is_number) (defScope s_is_number) .none kV_is_number dc_is_number pm_is_number an_is_number cd_is_number ct_is_number), f_are_integers, (PySem.W.fnOf "are_integers" "are_integers" (defArgs s_are_integers) (defBody s_are_integers) (defScope s_are_integers) .none kV_are_integers dc_are_integers pm_are_integers an_are_integers cd_are_integers ct_are_integers), f_is_form, (PySem.W.fnOf "is_form" "is_form" (defArgs s_is_form) (defBody s_is_form) (defScope s_is_form) .none kV_is_form dc_is_form pm_is_form an_is_form cd_is_form ct_is_form), f_is_head, (PySem.W.fnOf "is_head" "is_head" (defArgs s_is_head) (defBody s_is_head) (defScope s_is_head) .none kV_is_head dc_is_head pm_is_head an_is_head cd_is_head ct_is_head), f__are_of_one_length, (PySem.W.fnOf "_are_of_one_length" "_are_of_one_length" (defArgs s__are_of_one_length) (defBody s__are_of_one_length) (defScope s__are_of_one_length) .none kV__are_of_one_length dc__are_of_one_length pm__are_of_one_length an__are_of_one_length cd__are_of_one_length ct__are_of_one_length), f__is_number_of, (PySem.W.fnOf "_is_number_of" "_is_number_of" (defArgs s__is_number_of) (defBody s__is_number_of) (defScope s__is_number_of) .none kV__is_number_of dc__is_number_of pm__is_number_of an__is_number_of cd__is_number_of ct__is_number_of), f__are_numbers, (PySem.W.fnOf "_are_numbers" "_are_numbers" (defArgs s__are_numbers) (defBody s__are_numbers) (defScope s__are_numbers) .none kV__are_numbers dc__are_numbers pm__are_numbers an__are_numbers cd__are_numbers ct__are_numbers), f_Answer___init__, (PySem.W.fnOf "__init__" "Answer.__init__" (defArgs s_Answer___init__) (defBody s_Answer___init__) (defScope s_Answer___init__) (.ref o_dfl) kV_Answer___init__ dc_Answer___init__ pm_Answer___init__ an_Answer___init__ cd_Answer___init__ ct_Answer___init__), f_Answer_form, (PySem.W.fnOf "form" "Answer.form" (defArgs s_Answer_form) (defBody s_Answer_form) (defScope s_Answer_form) .none kV_Answer_form dc_Answer_form pm_Answer_form an_Answer_form cd_Answer_form ct_Answer_form), f_Answer_heads, (PySem.W.fnOf "heads" "Answer.heads" (defArgs s_Answer_heads) (defBody s_Answer_heads) (defScope s_Answer_heads) .none kV_Answer_heads dc_Answer_heads pm_Answer_heads an_Answer_heads cd_Answer_heads ct_Answer_heads), f_Answer_pairs, (PySem.W.fnOf "pairs" "Answer.pairs" (defArgs s_Answer_pairs) (defBody s_Answer_pairs) (defScope s_Answer_pairs) .none kV_Answer_pairs dc_Answer_pairs pm_Answer_pairs an_Answer_pairs cd_Answer_pairs ct_Answer_pairs), f_Answer___iter__, (PySem.W.fnOf "__iter__" "Answer.__iter__" (defArgs s_Answer___iter__) (defBody s_Answer___iter__) (defScope s_Answer___iter__) .none kV_Answer___iter__ dc_Answer___iter__ pm_Answer___iter__ an_Answer___iter__ cd_Answer___iter__ ct_Answer___iter__), f_Answer___getitem__, (PySem.W.fnOf "__getitem__" "Answer.__getitem__" (defArgs s_Answer___getitem__) (defBody s_Answer___getitem__) (defScope s_Answer___getitem__) .none kV_Answer___getitem__ dc_Answer___getitem__ pm_Answer___getitem__ an_Answer___getitem__ cd_Answer___getitem__ ct_Answer___getitem__), f_Answer___contains__, (PySem.W.fnOf "__contains__" "Answer.__contains__" (defArgs s_Answer___contains__) (defBody s_Answer___contains__) (defScope s_Answer___contains__) .none kV_Answer___contains__ dc_Answer___contains__ pm_Answer___contains__ an_Answer___contains__ cd_Answer___contains__ ct_Answer___contains__), f_Answer___len__, (PySem.W.fnOf "__len__" "Answer.__len__" (defArgs s_Answer___len__) (defBody s_Answer___len__) (defScope s_Answer___len__) .none kV_Answer___len__ dc_Answer___len__ pm_Answer___len__ an_Answer___len__ cd_Answer___len__ ct_Answer___len__), f_Answer___bool__, (PySem.W.fnOf "__bool__" "Answer.__bool__" (defArgs s_Answer___bool__) (defBody s_Answer___bool__) (defScope s_Answer___bool__) .none kV_Answer___bool__ dc_Answer___bool__ pm_Answer___bool__ an_Answer___bool__ cd_Answer___bool__ ct_Answer___bool__), f_Answer___eq__, (PySem.W.fnOf "__eq__" "Answer.__eq__" (defArgs s_Answer___eq__) (defBody s_Answer___eq__) (defScope s_Answer___eq__) .none kV_Answer___eq__ dc_Answer___eq__ pm_Answer___eq__ an_Answer___eq__ cd_Answer___eq__ ct_Answer___eq__), f_Answer___str__, (PySem.W.fnOf "__str__" "Answer.__str__" (defArgs s_Answer___str__) (defBody s_Answer___str__) (defScope s_Answer___str__) .none kV_Answer___str__ dc_Answer___str__ pm_Answer___str__ an_Answer___str__ cd_Answer___str__ ct_Answer___str__), f_Answer__check_numbers, (PySem.W.fnOf "_check_numbers" "Answer._check_numbers" (defArgs s_Answer__check_numbers) (defBody s_Answer__check_numbers) (defScope s_Answer__check_numbers) .none kV_Answer__check_numbers dc_Answer__check_numbers pm_Answer__check_numbers an_Answer__check_numbers cd_Answer__check_numbers ct_Answer__check_numbers), f_Answer__check_heads, (PySem.W.fnOf "_check_heads" "Answer._check_heads" (defArgs s_Answer__check_heads) (defBody s_Answer__check_heads) (defScope s_Answer__check_heads) .none kV_Answer__check_heads dc_Answer__check_heads pm_Answer__check_heads an_Answer__check_heads cd_Answer__check_heads ct_Answer__check_heads), f_Answer__check_other, (PySem.W.fnOf "_check_other" "Answer._check_other" (defArgs s_Answer__check_other) (defBody s_Answer__check_other) (defScope s_Answer__check_other) .none kV_Answer__check_other dc_Answer__check_other pm_Answer__check_other an_Answer__check_other cd_Answer__check_other ct_Answer__check_other), f_Answer__plus, (PySem.W.fnOf "_plus" "Answer._plus" (defArgs s_Answer__plus) (defBody s_Answer__plus) (defScope s_Answer__plus) .none kV_Answer__plus dc_Answer__plus pm_Answer__plus an_Answer__plus cd_Answer__plus ct_Answer__plus), f_Answer___add__, (PySem.W.fnOf "__add__" "Answer.__add__" (defArgs s_Answer___add__) (defBody s_Answer___add__) (defScope s_Answer___add__) .none kV_Answer___add__ dc_Answer___add__ pm_Answer___add__ an_Answer___add__ cd_Answer___add__ ct_Answer___add__), f_Answer___sub__, (PySem.W.fnOf "__sub__" "Answer.__sub__" (defArgs s_Answer___sub__) (defBody s_Answer___sub__) (defScope s_Answer___sub__) .none kV_Answer___sub__ dc_Answer___sub__ pm_Answer___sub__ an_Answer___sub__ cd_Answer___sub__ ct_Answer___sub__), f_Answer___neg__, (PySem.W.fnOf "__neg__" "Answer.__neg__" (defArgs s_Answer___neg__) (defBody s_Answer___neg__) (defScope s_Answer___neg__) .none kV_Answer___neg__ dc_Answer___neg__ pm_Answer___neg__ an_Answer___neg__ cd_Answer___neg__ ct_Answer___neg__), f_Answer___or__, (PySem.W.fnOf "__or__" "Answer.__or__" (defArgs s_Answer___or__) (defBody s_Answer___or__) (defScope s_Answer___or__) .none kV_Answer___or__ dc_Answer___or__ pm_Answer___or__ an_Answer___or__ cd_Answer___or__ ct_Answer___or__), f_Answer___and__, (PySem.W.fnOf "__and__" "Answer.__and__" (defArgs s_Answer___and__) (defBody s_Answer___and__) (defScope s_Answer___and__) .none kV_Answer___and__ dc_Answer___and__ pm_Answer___and__ an_Answer___and__ cd_Answer___and__ ct_Answer___and__), f_Answer___xor__, (PySem.W.fnOf "__xor__" "Answer.__xor__" (defArgs s_Answer___xor__) (defBody s_Answer___xor__) (defScope s_Answer___xor__) .none kV_Answer___xor__ dc_Answer___xor__ pm_Answer___xor__ an_Answer___xor__ cd_Answer___xor__ ct_Answer___xor__), f_combined, (PySem.W.fnOf "combined" "combined" (defArgs s_combined) (defBody s_combined) (defScope s_combined) .none kV_combined dc_combined pm_combined an_combined cd_combined ct_combined), f_dice, (PySem.W.fnOf "_law_dice" "_law_dice" (defArgs s__law_dice) (defBody s__law_dice) (defScope s__law_dice) .none kV_dice dc_dice pm_dice an_dice cd_dice ct_dice), f_roll, (PySem.W.fnOf "_law_roll" "_law_roll" (defArgs s__law_roll) (defBody s__law_roll) (defScope s__law_roll) .none kV_roll dc_roll pm_roll an_roll cd_roll ct_roll), f_pick, (PySem.W.fnOf "_law_pick" "_law_pick" (defArgs s__law_pick) (defBody s__law_pick) (defScope s__law_pick) .none kV_pick dc_pick pm_pick an_pick cd_pick ct_pick), f_met, (PySem.W.fnOf "_law_met" "_law_met" (defArgs s__law_met) (defBody s__law_met) (defScope s__law_met) .none kV_met dc_met pm_met an_met cd_met ct_met), f_numbers, (PySem.W.fnOf "_law_numbers" "_law_numbers" (defArgs s__law_numbers) (defBody s__law_numbers) (defScope s__law_numbers) .none kV_numbers dc_numbers pm_numbers an_numbers cd_numbers ct_numbers), f_added, (PySem.W.fnOf "_law_added" "_law_added" (defArgs s__law_added) (defBody s__law_added) (defScope s__law_added) .none kV_added dc_added pm_added an_added cd_added ct_added), f_by_word, (PySem.W.fnOf "_law_by_word" "_law_by_word" (defArgs s__law_by_word) (defBody s__law_by_word) (defScope s__law_by_word) .none kV_by_word dc_by_word pm_by_word an_by_word cd_by_word ct_by_word), f_done, (PySem.W.fnOf "_law_done" "_law_done" (defArgs s__law_done) (defBody s__law_done) (defScope s__law_done) .none kV_done dc_done pm_done an_done cd_done ct_done), f_done_at_once, (PySem.W.fnOf "_law_done_at_once" "_law_done_at_once" (defArgs s__law_done_at_once) (defBody s__law_done_at_once) (defScope s__law_done_at_once) .none kV_done_at_once dc_done_at_once pm_done_at_once an_done_at_once cd_done_at_once ct_done_at_once), f_is, (PySem.W.fnOf "_law_is" "_law_is" (defArgs s__law_is) (defBody s__law_is) (defScope s__law_is) .none kV_is dc_is pm_is an_is cd_is ct_is), f_together, (PySem.W.fnOf "_law_together" "_law_together" (defArgs s__law_together) (defBody s__law_together) (defScope s__law_together) .none kV_together dc_together pm_together an_together cd_together ct_together), f_wrong_right, (PySem.W.fnOf "_law_wrong_right" "_law_wrong_right" (defArgs s__law_wrong_right) (defBody s__law_wrong_right) (defScope s__law_wrong_right) .none kV_wrong_right dc_wrong_right pm_wrong_right an_wrong_right (.ref k_wrong) ct_wrong_right), f_law, (PySem.W.fnOf "law" "law" (defArgs s_law) (defBody s_law) (defScope s_law) .none kV_law dc_law pm_law an_law cd_law ct_law), c_Answer, c_InvalidAnswer, c_InvalidOperation, k_wrong, t_wrong, p_form, p_heads, tk__HEAD_LENGTH, tk__INTEGER_BOUND, o_FORMS⟩ K, fun p hp => ?_, fun s u => .of_eq rfl, fun H q ns e1 e2 e3 => end_sp _ K H q ns e1 e2 e3, fun base _ _ tb => ok_law T tb⟩
  rw [List.mem_singleton.mp hp]
  exact ⟨gt_A, nt_A, PySem.W.codeHd_of_K X ch_A⟩
end K02

set_option Elab.async false
open PySem PySem.W PyProof.Rows
set_option maxRecDepth 100000 in
set_option maxHeartbeats 0 in
theorem PySem.Challenge.cw_dealtrows_k02_answers_put_together_holds : PySem.Challenge.rw_dealtrows_k02_answers_put_together.Holds := by
  w_on; o_law; k_head; (case hw => w_witness2)
  k_fill
  refine Tg.walk_known (n := 63) (k := 12) (x := "_law_script") (by decide +kernel) (by decide) rfl ⟨rfl, by decide, by decide⟩ (fun w h Y => PySem.W.km_in_of Y) ?F
  case F =>
    intro w mg fa h Y KX G hmg
    have hts := PySem.W.km_tabs_of Y
    refine' K02.all_mk KX G hmg ?ac_Answer ?ac_InvalidAnswer ?ac_InvalidOperation ?a_is_number ?l_is_number ?cc_is_number ?kk_is_number ?a_are_integers ?l_are_integers ?cc_are_integers ?kk_are_integers ?a_is_form ?l_is_form ?cc_is_form ?kk_is_form ?a_is_head ?l_is_head ?cc_is_head ?kk_is_head ?a__are_of_one_length ?l__are_of_one_length ?cc__are_of_one_length ?kk__are_of_one_length ?a__is_number_of ?l__is_number_of ?cc__is_number_of ?kk__is_number_of ?a__are_numbers ?l__are_numbers ?cc__are_numbers ?kk__are_numbers ?at___init__ ?l_Answer___init__ ?cc_Answer___init__ ?kk_Answer___init__ ?at_form ?rc_form ?l_Answer_form ?cc_Answer_form ?kk_Answer_form ?at_heads ?rc_heads ?l_Answer_heads ?cc_Answer_heads ?kk_Answer_heads ?at_pairs ?l_Answer_pairs ?cc_Answer_pairs ?kk_Answer_pairs ?at___iter__ ?l_Answer___iter__ ?cc_Answer___iter__ ?kk_Answer___iter__ ?at___getitem__ ?l_Answer___getitem__ ?cc_Answer___getitem__ ?kk_Answer___getitem__ ?at___contains__ ?l_Answer___contains__ ?cc_Answer___contains__ ?kk_Answer___contains__ ?at___len__ ?l_Answer___len__ ?cc_Answer___len__ ?kk_Answer___len__ ?at___bool__ ?l_Answer___bool__ ?cc_Answer___bool__ ?kk_Answer___bool__ ?at___eq__ ?l_Answer___eq__ ?cc_Answer___eq__ ?kk_Answer___eq__ ?at___str__ ?l_Answer___str__ ?cc_Answer___str__ ?kk_Answer___str__ ?at__check_numbers ?l_Answer__check_numbers ?cc_Answer__check_numbers ?kk_Answer__check_numbers ?at__check_heads ?l_Answer__check_heads ?cc_Answer__check_heads ?kk_Answer__check_heads ?at__check_other ?l_Answer__check_other ?cc_Answer__check_other ?kk_Answer__check_other ?at__plus ?l_Answer__plus ?cc_Answer__plus ?kk_Answer__plus ?at___add__ ?l_Answer___add__ ?cc_Answer___add__ ?kk_Answer___add__ ?at___sub__ ?l_Answer___sub__ ?cc_Answer___sub__ ?kk_Answer___sub__ ?at___neg__ ?l_Answer___neg__ ?cc_Answer___neg__ ?kk_Answer___neg__ ?at___or__ ?l_Answer___or__ ?cc_Answer___or__ ?kk_Answer___or__ ?at___and__ ?l_Answer___and__ ?cc_Answer___and__ ?kk_Answer___and__ ?at___xor__ ?l_Answer___xor__ ?cc_Answer___xor__ ?kk_Answer___xor__ ?a_combined ?l_combined ?cc_combined ?kk_combined ?a_dice ?l_dice ?cc_dice ?kk_dice ?a_roll ?l_roll ?cc_roll ?kk_roll ?a_pick ?l_pick ?cc_pick ?kk_pick ?a_met ?l_met ?cc_met ?kk_met ?a_numbers ?l_numbers ?cc_numbers ?kk_numbers ?a_added ?l_added ?cc_added ?kk_added ?a_by_word ?l_by_word ?cc_by_word ?kk_by_word ?a_done ?l_done ?cc_done ?kk_done ?a_done_at_once ?l_done_at_once ?cc_done_at_once ?kk_done_at_once ?a_is ?l_is ?cc_is ?kk_is ?a_together ?l_together ?cc_together ?kk_together ?a_wrong_right ?l_wrong_right ?cc_wrong_right ?kk_wrong_right ?a_law ?l_law ?cc_law ?kk_law ?l_dfl ?a_FORMS ?l_FORMS ?a__HEAD_LENGTH ?a__INTEGER_BOUND ?b_len ?b_isinstance ?b_all ?b_str ?b_int ?b_bool ?b_tuple ?b_dict ?b_set ?b_sorted ?b_list ?b_repr ?b_abs ?b_range ?b_min ?b_max ?pgA ?hdA ?poA ?saA ?nF ?nN ?nH ?mkI ?kpA ?fnI ?kpI ?bI ?tyI ?ti1 ?ti2 ?ti3 ?ti4 ?kc1 ?e1I ?e2I ?e4I ?e5I ?e8I ?kpO ?bO ?tyO ?e1O ?e2O ?e4O ?e5O ?e8O ?emAA ?emOO ?emOA ?sfA ?m2A ?pgt_form ?ptk_form ?pgt_heads ?ptk_heads ?neA ?soA ?koNoneType ?sbNoneType ?koint ?sbint ?kobool ?sbbool ?kodict ?sbdict ?kotuple ?sbtuple ?kolist ?sblist ?kostr ?sbstr ?fn__eq__ ?fn__add__ ?fn__sub__ ?fn__neg__ ?fn__or__ ?fn__and__ ?fn__xor__ ?fnpairs ?fn_check_numbers ?fn_check_heads ?fn_check_other ?fn_plus ?fradd ?niadd ?frsub ?nisub ?fror ?nior ?frand ?niand ?frxor ?nixor ?lk_A ?tv_A ?nt_A ?ch_A ?q_I ?q_O ?gt_A
    (case ac_Answer => k_is)
    (case ac_InvalidAnswer => k_is)
    (case ac_InvalidOperation => k_is)
    (case a_is_number => k_is)
    (case l_is_number => k_is)
    (case cc_is_number => k_is)
    (case kk_is_number => k_is)
    (case a_are_integers => k_is)
    (case l_are_integers => k_is)
    (case cc_are_integers => k_is)
    (case kk_are_integers => k_is)
    (case a_is_form => k_is)
    (case l_is_form => k_is)
    (case cc_is_form => k_is)
    (case kk_is_form => k_is)
    (case a_is_head => k_is)
    (case l_is_head => k_is)
    (case cc_is_head => k_is)
    (case kk_is_head => k_is)
    (case a__are_of_one_length => k_is)
    (case l__are_of_one_length => k_is)
    (case cc__are_of_one_length => k_is)
    (case kk__are_of_one_length => k_is)
    (case a__is_number_of => k_is)
    (case l__is_number_of => k_is)
    (case cc__is_number_of => k_is)
    (case kk__is_number_of => k_is)
    (case a__are_numbers => k_is)
    (case l__are_numbers => k_is)
    (case cc__are_numbers => k_is)
    (case kk__are_numbers => k_is)
    (case at___init__ => k_is)
    (case l_Answer___init__ => k_is)
    (case cc_Answer___init__ => k_is)
    (case kk_Answer___init__ => k_is)
    (case at_form => k_is)
    (case rc_form => k_is)
    (case l_Answer_form => k_is)
    (case cc_Answer_form => k_is)
    (case kk_Answer_form => k_is)
    (case at_heads => k_is)
    (case rc_heads => k_is)
    (case l_Answer_heads => k_is)
    (case cc_Answer_heads => k_is)
    (case kk_Answer_heads => k_is)
    (case at_pairs => k_is)
    (case l_Answer_pairs => k_is)
    (case cc_Answer_pairs => k_is)
    (case kk_Answer_pairs => k_is)
    (case at___iter__ => k_is)
    (case l_Answer___iter__ => k_is)
    (case cc_Answer___iter__ => k_is)
    (case kk_Answer___iter__ => k_is)
    (case at___getitem__ => k_is)
    (case l_Answer___getitem__ => k_is)
    (case cc_Answer___getitem__ => k_is)
    (case kk_Answer___getitem__ => k_is)
    (case at___contains__ => k_is)
    (case l_Answer___contains__ => k_is)
    (case cc_Answer___contains__ => k_is)
    (case kk_Answer___contains__ => k_is)
    (case at___len__ => k_is)
    (case l_Answer___len__ => k_is)
    (case cc_Answer___len__ => k_is)
    (case kk_Answer___len__ => k_is)
    (case at___bool__ => k_is)
    (case l_Answer___bool__ => k_is)
    (case cc_Answer___bool__ => k_is)
    (case kk_Answer___bool__ => k_is)
    (case at___eq__ => k_is)
    (case l_Answer___eq__ => k_is)
    (case cc_Answer___eq__ => k_is)
    (case kk_Answer___eq__ => k_is)
    (case at___str__ => k_is)
    (case l_Answer___str__ => k_is)
    (case cc_Answer___str__ => k_is)
    (case kk_Answer___str__ => k_is)
    (case at__check_numbers => k_is)
    (case l_Answer__check_numbers => k_is)
    (case cc_Answer__check_numbers => k_is)
    (case kk_Answer__check_numbers => k_is)
    (case at__check_heads => k_is)
    (case l_Answer__check_heads => k_is)
    (case cc_Answer__check_heads => k_is)
    (case kk_Answer__check_heads => k_is)
    (case at__check_other => k_is)
    (case l_Answer__check_other => k_is)
    (case cc_Answer__check_other => k_is)
    (case kk_Answer__check_other => k_is)
    (case at__plus => k_is)
    (case l_Answer__plus => k_is)
    (case cc_Answer__plus => k_is)
    (case kk_Answer__plus => k_is)
    (case at___add__ => k_is)
    (case l_Answer___add__ => k_is)
    (case cc_Answer___add__ => k_is)
    (case kk_Answer___add__ => k_is)
    (case at___sub__ => k_is)
    (case l_Answer___sub__ => k_is)
    (case cc_Answer___sub__ => k_is)
    (case kk_Answer___sub__ => k_is)
    (case at___neg__ => k_is)
    (case l_Answer___neg__ => k_is)
    (case cc_Answer___neg__ => k_is)
    (case kk_Answer___neg__ => k_is)
    (case at___or__ => k_is)
    (case l_Answer___or__ => k_is)
    (case cc_Answer___or__ => k_is)
    (case kk_Answer___or__ => k_is)
    (case at___and__ => k_is)
    (case l_Answer___and__ => k_is)
    (case cc_Answer___and__ => k_is)
    (case kk_Answer___and__ => k_is)
    (case at___xor__ => k_is)
    (case l_Answer___xor__ => k_is)
    (case cc_Answer___xor__ => k_is)
    (case kk_Answer___xor__ => k_is)
    (case a_combined => k_is)
    (case l_combined => k_is)
    (case cc_combined => k_is)
    (case kk_combined => k_is)
    (case a_dice => k_is)
    (case l_dice => k_is)
    (case cc_dice => k_is)
    (case kk_dice => k_is)
    (case a_roll => k_is)
    (case l_roll => k_is)
    (case cc_roll => k_is)
    (case kk_roll => k_is)
    (case a_pick => k_is)
    (case l_pick => k_is)
    (case cc_pick => k_is)
    (case kk_pick => k_is)
    (case a_met => k_is)
    (case l_met => k_is)
    (case cc_met => k_is)
    (case kk_met => k_is)
    (case a_numbers => k_is)
    (case l_numbers => k_is)
    (case cc_numbers => k_is)
    (case kk_numbers => k_is)
    (case a_added => k_is)
    (case l_added => k_is)
    (case cc_added => k_is)
    (case kk_added => k_is)
    (case a_by_word => k_is)
    (case l_by_word => k_is)
    (case cc_by_word => k_is)
    (case kk_by_word => k_is)
    (case a_done => k_is)
    (case l_done => k_is)
    (case cc_done => k_is)
    (case kk_done => k_is)
    (case a_done_at_once => k_is)
    (case l_done_at_once => k_is)
    (case cc_done_at_once => k_is)
    (case kk_done_at_once => k_is)
    (case a_is => k_is)
    (case l_is => k_is)
    (case cc_is => k_is)
    (case kk_is => k_is)
    (case a_together => k_is)
    (case l_together => k_is)
    (case cc_together => k_is)
    (case kk_together => k_is)
    (case a_wrong_right => k_is)
    (case l_wrong_right => k_is)
    (case cc_wrong_right => k_is)
    (case kk_wrong_right => k_is)
    (case a_law => k_is)
    (case l_law => k_is)
    (case cc_law => k_is)
    (case kk_law => k_is)
    (case l_dfl => k_is)
    (case a_FORMS => k_is)
    (case l_FORMS => k_is)
    (case a__HEAD_LENGTH => k_is)
    (case a__INTEGER_BOUND => k_is)
    (case b_len => k_is)
    (case b_isinstance => k_is)
    (case b_all => k_is)
    (case b_str => k_is)
    (case b_int => k_is)
    (case b_bool => k_is)
    (case b_tuple => k_is)
    (case b_dict => k_is)
    (case b_set => k_is)
    (case b_sorted => k_is)
    (case b_list => k_is)
    (case b_repr => k_is)
    (case b_abs => k_is)
    (case b_range => k_is)
    (case b_min => k_is)
    (case b_max => k_is)
    (case pgA => k_is)
    (case hdA => k_is)
    (case poA => k_is)
    (case saA => k_is)
    (case nF => k_is)
    (case nN => k_is)
    (case nH => k_is)
    (case mkI => k_is)
    (case kpA => k_is)
    (case fnI => k_is)
    (case kpI => k_is)
    (case bI => k_is)
    (case tyI => k_is)
    (case ti1 => k_is)
    (case ti2 => k_is)
    (case ti3 => k_is)
    (case ti4 => k_is)
    (case kc1 => kernel_rfl)
    (case e1I => k_is)
    (case e2I => k_is)
    (case e4I => k_is)
    (case e5I => k_is)
    (case e8I => k_is)
    (case kpO => k_is)
    (case bO => k_is)
    (case tyO => k_is)
    (case e1O => k_is)
    (case e2O => k_is)
    (case e4O => k_is)
    (case e5O => k_is)
    (case e8O => k_is)
    (case emAA => kernel_rfl)
    (case emOO => kernel_rfl)
    (case emOA => kernel_rfl)
    (case sfA => kernel_rfl)
    (case m2A => kernel_rfl)
    (case pgt_form => k_is)
    (case ptk_form => k_is)
    (case pgt_heads => k_is)
    (case ptk_heads => k_is)
    (case neA => k_is)
    (case soA => k_is)
    (case koNoneType => kernel_rfl)
    (case sbNoneType => k_is)
    (case koint => kernel_rfl)
    (case sbint => k_is)
    (case kobool => kernel_rfl)
    (case sbbool => k_is)
    (case kodict => kernel_rfl)
    (case sbdict => k_is)
    (case kotuple => kernel_rfl)
    (case sbtuple => k_is)
    (case kolist => kernel_rfl)
    (case sblist => k_is)
    (case kostr => kernel_rfl)
    (case sbstr => k_is)
    (case fn__eq__ => k_is)
    (case fn__add__ => k_is)
    (case fn__sub__ => k_is)
    (case fn__neg__ => k_is)
    (case fn__or__ => k_is)
    (case fn__and__ => k_is)
    (case fn__xor__ => k_is)
    (case fnpairs => k_is)
    (case fn_check_numbers => k_is)
    (case fn_check_heads => k_is)
    (case fn_check_other => k_is)
    (case fn_plus => k_is)
    (case fradd => kernel_rfl)
    (case niadd => kernel_rfl)
    (case frsub => kernel_rfl)
    (case nisub => kernel_rfl)
    (case fror => kernel_rfl)
    (case nior => kernel_rfl)
    (case frand => kernel_rfl)
    (case niand => kernel_rfl)
    (case frxor => kernel_rfl)
    (case nixor => kernel_rfl)
    (case lk_A => k_is)
    (case tv_A => rfl)
    (case nt_A => kernel_rfl)
    (case ch_A => kernel_rfl)
    (case q_I => k_exc)
    (case q_O => k_exc)
    (case gt_A => exact hts _ (by simp))

